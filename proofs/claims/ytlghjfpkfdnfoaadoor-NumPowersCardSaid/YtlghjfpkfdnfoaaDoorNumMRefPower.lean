/- zermeloref01.Times -/
import Derived.Test.YtlghjfpkfdnfoaaDoorNumMRefSumInt
import Derived.RegionTactic
import Derived.BigRegion
import Derived.Deep.RegionHeld3
import Derived.Test.YtlghjfpkfdnfoaaDoorNumMProduct
import Derived.Deep.CutRange
import Derived.Deep.LoopGhost
namespace Go.Proofs.YtlghjfpkfdnfoaaDoor
open Go Go.RowKit Go.Shelf

/-- what a walk of Times keeps: its two arguments' variables, its row -/
structure RtS (w : World) (na nb : Bool) (va vb : Value) (xa xb : List Nat) (q : List Nat) (W : World) : Prop where
  a : RowAt W w.heap.size 24 [.bool na, va]
  b : RowAt W (w.heap.size + 1) 24 [.bool nb, vb]
  r : RowAt W (w.heap.size + 1 + 1) 24 [.bool false, .slice none 0 0]
  o : RowAt W (w.heap.size + 1 + 1 + 1) 72 (enc32 q)
  chg : Below w.heap.size w W
theorem RtS.drewN {w : World} {na nb : Bool} {va vb : Value} {xa xb q : List Nat} {W : World} (h : RtS w na nb va vb xa xb q W) (n : Nat) : RtS w na nb va vb xa xb q (W.drewN n) := ⟨row_drewN h.a n, row_drewN h.b n, row_drewN h.r n, row_drewN h.o n, below_drewN h.chg n⟩
theorem RtS.set {w : World} {na nb : Bool} {va vb : Value} {xa xb q : List Nat} {W : World} (h : RtS w na nb va vb xa xb q W) (i z : Nat) : RtS w na nb va vb xa xb (q.set i z) (W.setCell ⟨w.heap.size + 1 + 1 + 1, i, none⟩ (.int .u32 (z : Int))) :=
  ⟨h.a.other (show w.heap.size ≠ w.heap.size + 1 + 1 + 1 by omega) _, h.b.other (show w.heap.size + 1 ≠ w.heap.size + 1 + 1 + 1 by omega) _, h.r.other (show w.heap.size + 1 + 1 ≠ w.heap.size + 1 + 1 + 1 by omega) _, by rw [enc32_set]; exact h.o.set i _, h.chg.setCell (show w.heap.size ≤ w.heap.size + 1 + 1 + 1 by omega) _⟩

set_option maxHeartbeats 4000000 in
set_option maxRecDepth 100000 in
theorem rtimes_any (na nb : Bool) (va vb : Value) (xa xb : List Nat) (w : World) (ha : Reads .u32 w va xa) (hb : Reads .u32 w vb xb) (hla : Limbs xa) (hlb : Limbs xb) (la : xa.length ≤ 100000) (lb : xb.length ≤ 100000) :
    Calls Tryd.prog 45 #[.agg #[.bool na, va], .agg #[.bool nb, vb]] w fun e w' => Below w.heap.size w w' ∧ ∃ v, e = .returned v ∧ IsInt w' v (sgn (na != nb) (val xa * val xb)) := by
  obtain ⟨aa, ca, rfl, hca, hma⟩ := ha.form
  obtain ⟨ab, cb, rfl, hcb, hmb⟩ := hb.form
  have hmk : ∀ W, (Instr.makeSlice 22 (.int .i64 ((xa.length : Int) + (xb.length : Int))) (.int .i64 ((xa.length : Int) + (xb.length : Int)))).run Tryd.prog W = .ok (.slice (some ⟨W.heap.size, 0, none⟩) (xa.length + xb.length) (xa.length + xb.length)) (W.alloc (.cells (zeros (xa.length + xb.length)) 72)) := fun W => by
    rw [make_limbs _ _ (by omega) (by omega) (by omega) W, show ((xa.length : Int) + (xb.length : Int)).toNat = xa.length + xb.length by omega]
  have hstart : RtS w na nb (.slice aa xa.length ca) (.slice ab xb.length cb) xa xb (tlFold (xa.length + xb.length) xb (limbPairs xa 0)) ((((w.alloc (.cells #[.bool na, .slice aa xa.length ca] 24)).alloc (.cells #[.bool nb, .slice ab xb.length cb] 24)).alloc (.cells #[.bool false, .slice none 0 0] 24)).alloc (.cells (zeros (xa.length + xb.length)) 72)) := by
    have b1 := (Below.refl w.heap.size w).alloc (Nat.le_refl _) (.cells #[.bool na, .slice aa xa.length ca] 24)
    have b2 := b1.alloc b1.size (.cells #[.bool nb, .slice ab xb.length cb] 24)
    have b3 := b2.alloc b2.size (.cells #[.bool false, .slice none 0 0] 24)
    have b4 := b3.alloc b3.size (.cells (zeros (xa.length + xb.length)) 72)
    refine ⟨?_, ?_, ?_, ?_, b4⟩
    · exact (((RowAt.new w 24 [.bool na, .slice aa xa.length ca]).alloc _).alloc _).alloc _
    · exact RowAt.at (((RowAt.new (w.alloc (.cells #[.bool na, .slice aa xa.length ca] 24)) 24 [.bool nb, .slice ab xb.length cb]).alloc _).alloc _) (by simp)
    · exact RowAt.at ((RowAt.new ((w.alloc (.cells #[.bool na, .slice aa xa.length ca] 24)).alloc (.cells #[.bool nb, .slice ab xb.length cb] 24)) 24 [.bool false, .slice none 0 0]).alloc _) (by simp)
    · have e : (enc32 (tlFold (xa.length + xb.length) xb (limbPairs xa 0))).toArray = zeros (xa.length + xb.length) := by simp [tlFold, limbPairs, enc32, zeros]
      have := RowAt.new (((w.alloc (.cells #[.bool na, .slice aa xa.length ca] 24)).alloc (.cells #[.bool nb, .slice ab xb.length cb] 24)).alloc (.cells #[.bool false, .slice none 0 0] 24)) 72 (enc32 (tlFold (xa.length + xb.length) xb (limbPairs xa 0)))
      rw [e] at this
      exact RowAt.at this (by simp)
  have HS := Lib.hid hstart
  clear hstart
  go_enter Tryd.func45, Tryd.ntmps45
  go_wp2_with fail
  generalize hW0 : (((w.alloc (.cells #[.bool na, .slice aa xa.length ca] 24)).alloc (.cells #[.bool nb, .slice ab xb.length cb] 24)).alloc (.cells #[.bool false, .slice none 0 0] 24)).alloc (.cells (zeros (xa.length + xb.length)) 72) = W0 at *
  clear hW0 hmk
  go_loopw [6] (fun s W => ∃ i : Nat, i ≤ xa.length ∧ s = .int .i64 (i : Int) ∧ RtS w na nb (.slice aa xa.length ca) (.slice ab xb.length cb) xa xb (tlFold (xa.length + xb.length) xb (limbPairs xa i)) W) (fun s _ => xa.length - (intOf s).toNat)
  case atStart => exact ⟨0, Nat.zero_le _, rfl, HS.out⟩
  case round =>
    obtain ⟨i, hi, rfl, hS⟩ := hrel
    have hps : ∀ p ∈ limbPairs xa i, p.2 < B32 := fun p hp => by
      obtain ⟨q, _, rfl⟩ := List.mem_map.1 hp
      exact limb_getD hla q
    have hlr := tlFold_limbs (xa.length + xb.length) hlb (limbPairs xa i) hps
    have hlen := tlFold_length (xa.length + xb.length) xb (limbPairs xa i)
    by_cases hlt : i < xa.length
    · have hnext := tlFold_snoc (xa.length + xb.length) xb (limbPairs xa i) (i, xa[i]?.getD 0)
      rw [← limbPairs_succ] at hnext
      obtain ⟨q, hq⟩ : ∃ q, tlFold (xa.length + xb.length) xb (limbPairs xa i) = q := ⟨_, rfl⟩
      rw [hq] at hS hlr hlen hnext
      simp only [tlStep] at hnext
      obtain ⟨y, hy⟩ : ∃ y, xa[i]?.getD 0 = y := ⟨_, rfl⟩
      have hyB := limb_getD hla i
      rw [hy] at hyB hnext
      have HN := Lib.hid hnext
      have HL := Lib.hid hlen
      have HY := Lib.hid hy
      clear hnext hlen hq hy hps
      have a1 := hS.a.cell 1
      simp only [List.getElem?_cons_succ, List.getElem?_cons_zero] at a1
      go_wp2_with fail
      go_loopw [7, 8] (fun s7 s8 W => ∃ j : Nat, j ≤ xb.length ∧ s8 = .int .i64 (j : Int) ∧ s7 = .int .u64 ((tlInner y i xb q j).2 : Int) ∧ RtS w na nb (.slice aa xa.length ca) (.slice ab xb.length cb) xa xb (tlInner y i xb q j).1 W) (fun _ s8 _ => xb.length - (intOf s8).toNat)
      case atStart => exact ⟨0, Nat.zero_le _, rfl, rfl, hS⟩
      case round =>
        obtain ⟨j, hj, rfl, rfl, hS⟩ := hrel
        obtain ⟨hq1, hc1⟩ := tlInner_limbs hyB i hlb hlr j
        have hql := tlInner_length y i xb q j
        rw [HL.out] at hql
        have hstep : tlInner y i xb q (j + 1) = ((tlInner y i xb q j).1.set (i + j) (((tlInner y i xb q j).2 + (y * xb[j]?.getD 0 + (tlInner y i xb q j).1[i + j]?.getD 0)) % B32), ((tlInner y i xb q j).2 + (y * xb[j]?.getD 0 + (tlInner y i xb q j).1[i + j]?.getD 0)) / B32) := rfl
        have HS2 := Lib.hid hstep
        clear hstep
        generalize hst : tlInner y i xb q j = st at *
        obtain ⟨r, c⟩ := st
        have HT := Lib.hid hst
        clear hst
        dsimp only at *
        have a1 := hS.a.cell 1
        have b1 := hS.b.cell 1
        simp only [List.getElem?_cons_succ, List.getElem?_cons_zero] at a1 b1
        by_cases hjl : j < xb.length
        · have hA := ha.below hS.chg
          have hB := hb.below hS.chg
          have ia := fun W => hA.index und_limbs size_limb (P := Tryd.prog) i .i64 W hlt
          have ib := fun W => hB.index und_limbs size_limb (P := Tryd.prog) j .i64 W hjl
          have ca1 := hA.cell i hlt
          rw [HY.out] at ca1
          have cb1 := hB.cell j hjl
          have hbb := limb_getD hlb j
          obtain ⟨b, hbe⟩ : ∃ b, xb[j]?.getD 0 = b := ⟨_, rfl⟩
          obtain ⟨z, hze⟩ : ∃ z, r[i + j]?.getD 0 = z := ⟨_, rfl⟩
          have hzb := limb_getD hq1 (i + j)
          have hcell : wr.cell? ⟨w.heap.size + 1 + 1 + 1, i + j, none⟩ = some (.int .u32 (z : Int)) := by rw [hS.o.cell, enc32_at (by omega), hze]
          have hfz := hS.o.frozen (i + j)
          have ir := fun W => index_win (w.heap.size + 1 + 1 + 1) 0 (xa.length + xb.length) (xa.length + xb.length) (i + j) (by omega) .i64 W
          simp only [Nat.zero_add, Int.natCast_add] at ir
          rw [hze] at hzb HS2
          rw [hbe] at cb1 hbb HS2
          have hbd := tl_bound hc1 hyB hbb hzb
          obtain ⟨P, hP⟩ : ∃ P, y * b = P := ⟨_, rfl⟩
          rw [hP] at hbd HS2
          obtain ⟨T, hT⟩ : ∃ T, c + (P + z) = T := ⟨_, rfl⟩
          rw [hT] at HS2 hbd
          unfold B32 at hbd hbb hzb hc1
          have hyB2 := hyB
          unfold B32 at hyB2
          have hmul : IntKind.u64.wrap ((y : Int) * (b : Int)) = (P : Int) := by rw [← Int.natCast_mul, hP, IntKind.wrap_u64]; omega
          have hs1 : IntKind.u64.wrap ((P : Int) + (z : Int)) = (P : Int) + (z : Int) := by rw [IntKind.wrap_u64]; omega
          have hs2 : IntKind.u64.wrap ((P : Int) + (z : Int) + (c : Int)) = (T : Int) := by rw [IntKind.wrap_u64]; omega
          have hw1 : IntKind.u64.wrap (y : Int) = (y : Int) := by rw [IntKind.wrap_u64]; omega
          have hw2 : IntKind.u64.wrap (b : Int) = (b : Int) := by rw [IntKind.wrap_u64]; omega
          have hw3 : IntKind.u64.wrap (z : Int) = (z : Int) := by rw [IntKind.wrap_u64]; omega
          have hw4 : IntKind.i64.wrap ((i : Int) + (j : Int)) = (i : Int) + (j : Int) := by rw [IntKind.wrap_i64]; omega
          obtain ⟨cl, hcl⟩ : ∃ cl, T % B32 = cl := ⟨_, rfl⟩
          obtain ⟨ch, hch⟩ : ∃ ch, T / B32 = ch := ⟨_, rfl⟩
          have hmd : (T : Int) % 4294967296 = (cl : Int) := by rw [← hcl]; unfold B32; omega
          have hdv : (T : Int) / 4294967296 = (ch : Int) := by rw [← hch]; unfold B32; omega
          have hwl : IntKind.u32.wrap (cl : Int) = (cl : Int) := by rw [IntKind.wrap_u32', ← hcl]; unfold B32; omega
          have hwc : IntKind.u64.wrap (ch : Int) = (ch : Int) := by rw [IntKind.wrap_u64, ← hch]; unfold B32; omega
          rw [hcl, hch] at HS2
          have hil : i + j < xa.length + xb.length := by omega
          clear hP hT hbe hze hbd hcl hch
          have HQ := Lib.hid hql
          clear hql hA hB
          go_wp2_with fail
          go_quiet (fail)
          go_wp2_with fail
          refine ⟨⟨j + 1, by omega, by go_num, ?_, ?_⟩, ?_⟩
          · rw [HS2.out]
          · rw [HS2.out]
            exact (hS.drewN _).set (i + j) cl
          · simp [intOf]; omega
        · obtain rfl : j = xb.length := by omega
          have hcell : ∃ z : Value, wr.cell? ⟨w.heap.size + 1 + 1 + 1, i + xb.length, none⟩ = some z := by
            rw [hS.o.cell]
            exact ⟨_, enc32_at (by omega)⟩
          obtain ⟨z, hcell⟩ := hcell
          have hfz := hS.o.frozen (i + xb.length)
          have ir := fun W => index_win (w.heap.size + 1 + 1 + 1) 0 (xa.length + xb.length) (xa.length + xb.length) (i + xb.length) (by omega) .i64 W
          simp only [Nat.zero_add, Int.natCast_add] at ir
          have hwc : IntKind.u32.wrap (c : Int) = (c : Int) := by rw [IntKind.wrap_u32']; unfold B32 at hc1; omega
          have hw4 : IntKind.i64.wrap ((i : Int) + (xb.length : Int)) = (i : Int) + (xb.length : Int) := by rw [IntKind.wrap_i64]; omega
          have HQ := Lib.hid hql
          clear hql
          go_wp2_with fail
          refine ⟨⟨i + 1, by omega, by go_num, ?_⟩, ?_⟩
          · rw [HN.out, HT.out]
            exact hS.set (i + xb.length) c
          · simp [intOf]; omega
    · obtain rfl : i = xa.length := by omega
      have hval := (tlFold_val xa xb xa.length (Nat.le_refl _)).1
      rw [List.take_of_length_le (Nat.le_refl _)] at hval
      obtain ⟨q, hq⟩ : ∃ q, tlFold (xa.length + xb.length) xb (limbPairs xa xa.length) = q := ⟨_, rfl⟩
      rw [hq] at hS hlr hlen hval
      have hrd : Reads .u32 wr (.slice (some ⟨w.heap.size + 1 + 1 + 1, 0, none⟩) (xa.length + xb.length) (xa.length + xb.length)) q := RowAt.reads hS.o _ _ hlen.symm (Nat.le_refl _) (by unfold maxLen; omega)
      have hq6 : q.length ≤ 1000000 := by omega
      have HV := Lib.hid hval
      have a0 := hS.a.cell 0
      have a1 := hS.a.cell 1
      have b0 := hS.b.cell 0
      simp only [List.getElem?_cons_succ, List.getElem?_cons_zero] at a0 a1 b0
      have hchg := hS.chg
      have hrr := hS.r
      clear hval hq hlen hps hS
      go_wp2_with (go_at_call 65; refine (made_any _ _ q _ hrd hlr hq6).mono ?_; rintro e w5 ⟨hb5, v5, rfl, hI⟩; obtain ⟨n5, a5, m5, c5, rfl⟩ := hI.shape; have hr5 := hrr.below hb5; have q1 := hr5.cell 0; have q2 := hr5.cell 1; have q3 := hr5.frozen 0; have q4 := hr5.frozen 1; simp only [List.getElem?_cons_succ, List.getElem?_cons_zero] at q1 q2)
      obtain ⟨s1, s2⟩ := two_reads (b := w.heap.size + 1 + 1) q1 q2 (.bool n5) (.slice a5 m5 c5)
      have hk := hI.keep (fun v xs h => two_kept (b := w.heap.size + 1 + 1) h q1 q2 (.bool n5) (.slice a5 m5 c5))
      have hb9 : Below w.heap.size w w5 := hchg.trans (hb5.mono hchg.size)
      rw [HV.out] at hk
      exact bodyPost_ret (v := .agg #[.bool n5, .slice a5 m5 c5]) (by simp [results, Tryd.results45, go_sem, loadCellsFrom, s1, s2]) rfl ⟨(hb9.setCell (by simp; omega) _).setCell (by simp; omega) _, _, rfl, hk⟩

set_option exponentiation.threshold 400 in
theorem rtimes_int (a b : Value) (i j : Int) (w : World) (ha : IsInt w a i) (hb : IsInt w b j) (hi : i.natAbs < B32 ^ 90000) (hj : j.natAbs < B32 ^ 90000) :
    Calls Tryd.prog 45 #[a, b] w fun e w' => Below w.heap.size w w' ∧ ∃ v, e = .returned v ∧ IsInt w' v (i * j) := by
  obtain ⟨na, va, xa, rfl, hra, hca, hna, rfl⟩ := ha
  obtain ⟨nb, vb, xb, rfl, hrb, hcb, hnb, rfl⟩ := hb
  rw [sgn_natAbs] at hi hj
  have la := canon_length_le hca hi
  have lb := canon_length_le hcb hj
  refine (rtimes_any na nb va vb xa xb w hra hrb hca.1 hcb.1 (by omega) (by omega)).mono ?_
  rintro e w' ⟨hbe, v, rfl, h1⟩
  refine ⟨hbe, _, rfl, ?_⟩
  rwa [show sgn na (val xa) * sgn nb (val xb) = sgn (na != nb) (val xa * val xb) by cases na <;> cases nb <;> simp [sgn, Int.neg_mul, Int.mul_neg]]

end Go.Proofs.YtlghjfpkfdnfoaaDoor

/- zermelolaw01.NumDivision$1: is a rest one that a division leaves? -/
namespace Go.Proofs.YtlghjfpkfdnfoaaDoor
open Go Go.RowKit Go.Shelf

/-- a rest fits a divisor -/
def fitsB (k j : Int) : Bool := decide (k.natAbs < j.natAbs) && (decide (k = 0) || (decide (k < 0) == decide (j < 0)))

theorem isInt_neg {w : World} {n : Bool} {v : Value} {i : Int} (h : IsInt w (.agg #[.bool n, v]) i) : n = decide (i < 0) := by
  obtain ⟨neg, va, xs, e, hr, hc, hn, rfl⟩ := h
  simp only [Value.agg.injEq, Array.mk.injEq, List.cons.injEq, Value.bool.injEq, and_true] at e
  obtain ⟨rfl, rfl⟩ := e
  have hp := canon_pos_iff hc
  cases n with
  | false => simp [sgn]
  | true =>
    simp only [Bool.true_and, decide_eq_true_eq] at hn
    have := hp.2 hn
    simp [sgn]; omega

theorem two_new (W : World) (A B : List Value) (t : TypeId) : RowAt ((W.alloc (.cells A.toArray t)).alloc (.cells B.toArray t)).drew W.heap.size t A ∧ RowAt ((W.alloc (.cells A.toArray t)).alloc (.cells B.toArray t)).drew (W.heap.size + 1) t B ∧ Below W.heap.size W ((W.alloc (.cells A.toArray t)).alloc (.cells B.toArray t)).drew := by
  have b1 := (Below.refl W.heap.size W).alloc (Nat.le_refl _) (.cells A.toArray t)
  have r2 := RowAt.new (W.alloc (.cells A.toArray t)) t B
  rw [World.size_alloc] at r2
  exact ⟨((RowAt.new W t A).alloc _).drew, r2.drew, (b1.alloc b1.size _).drew⟩
theorem cmpI_neg_iff {x y : Int} : cmpI x y < 0 ↔ x < y := by unfold cmpI; (repeat' split) <;> omega

set_option maxHeartbeats 4000000 in
set_option maxRecDepth 100000 in
theorem fits_any (vq : Value) (k j i : Int) (n2 : Bool) (a2 : Option Addr) (m2 c2 : Nat) (n1 : Bool) (a1 : Option Addr) (m1 c1 b4 L : Nat) (w : World) (hq : IsInt w vq i) (hk : IsInt w (.agg #[.bool n1, .slice a1 m1 c1]) k) (hj : IsInt w (.agg #[.bool n2, .slice a2 m2 c2]) j) (hrow : RowAt w b4 24 [.bool n2, .slice a2 m2 c2]) (hL : L ≤ 100000) (bk : k.natAbs < B32 ^ L) (bj : j.natAbs < B32 ^ L) :
    Calls Tryd.prog 51 #[vq, .agg #[.bool n1, .slice a1 m1 c1], .pointer (some ⟨b4, 0, none⟩)] w fun e w' => Below w.heap.size w w' ∧ e = .returned (.bool (fitsB k j)) := by
  obtain ⟨n3, a3, m3, c3, rfl⟩ := hq.shape
  have x1 := hrow.cell 0
  have x2 := hrow.cell 1
  simp only [List.getElem?_cons_succ, List.getElem?_cons_zero] at x1 x2
  go_enter Tryd.func51, Tryd.ntmps51
  go_wp2_with fail
  have b1 := (Below.refl w.heap.size w).alloc (Nat.le_refl _) (.cells #[.bool n3, .slice a3 m3 c3] 24)
  have b2 := b1.alloc b1.size (.cells #[.bool n1, .slice a1 m1 c1] 24)
  have r1 := RowAt.new (w.alloc (.cells #[.bool n3, .slice a3 m3 c3] 24)) 24 [.bool n1, .slice a1 m1 c1]
  have r2 := hrow.below b2
  rw [World.size_alloc] at r1
  have hk2 := hk.below b2
  have hj2 := hj.below b2
  clear x1 x2 hrow
  generalize hW0 : (w.alloc (.cells #[.bool n3, .slice a3 m3 c3] 24)).alloc (.cells #[.bool n1, .slice a1 m1 c1] 24) = W0 at *
  have hr1 := r1
  clear hW0 r1
  have x1 := hr1.cell 0
  have x2 := hr1.cell 1
  have x3 := r2.cell 0
  have x4 := r2.cell 1
  simp only [List.getElem?_cons_succ, List.getElem?_cons_zero] at x1 x2 x3 x4
  have y1 : ∀ o, (W0.alloc o).cell? ⟨w.heap.size + 1, 0, none⟩ = some (.bool n1) := fun o => by simpa using (hr1.alloc o).cell 0
  have y2 : ∀ o, (W0.alloc o).cell? ⟨w.heap.size + 1, 1, none⟩ = some (.slice a1 m1 c1) := fun o => by simpa using (hr1.alloc o).cell 1
  have y3 : ∀ o, (W0.alloc o).cell? ⟨b4, 0, none⟩ = some (.bool n2) := fun o => by simpa using (r2.alloc o).cell 0
  have y4 : ∀ o, (W0.alloc o).cell? ⟨b4, 1, none⟩ = some (.slice a2 m2 c2) := fun o => by simpa using (r2.alloc o).cell 1
  have z1 : ∀ o p, ((W0.alloc o).alloc p).cell? ⟨w.heap.size + 1, 0, none⟩ = some (.bool n1) := fun o p => by simpa using ((hr1.alloc o).alloc p).cell 0
  have z2 : ∀ o p, ((W0.alloc o).alloc p).cell? ⟨w.heap.size + 1, 1, none⟩ = some (.slice a1 m1 c1) := fun o p => by simpa using ((hr1.alloc o).alloc p).cell 1
  have z3 : ∀ o p, ((W0.alloc o).alloc p).cell? ⟨b4, 0, none⟩ = some (.bool n2) := fun o p => by simpa using ((r2.alloc o).alloc p).cell 0
  have z4 : ∀ o p, ((W0.alloc o).alloc p).cell? ⟨b4, 1, none⟩ = some (.slice a2 m2 c2) := fun o p => by simpa using ((r2.alloc o).alloc p).cell 1
  go_cut [6, 7] from 8 to 9 (fun v6 v7 W => ∃ p q, v6 = .pointer (some ⟨p, 0, none⟩) ∧ v7 = .pointer (some ⟨q, 0, none⟩) ∧ p ≠ q ∧ W0.heap.size ≤ p ∧ W0.heap.size ≤ q ∧ RowAt W p 24 [.bool n1, .slice a1 m1 c1] ∧ RowAt W q 24 [.bool n2, .slice a2 m2 c2] ∧ Below W0.heap.size W0 W)
  case first =>
    go_region
    all_goals (go_wp2; go_meet)
    · obtain ⟨u1, u2, u3⟩ := two_new W0 [.bool n1, .slice a1 m1 c1] [.bool n2, .slice a2 m2 c2] 24
      exact ⟨_, _, rfl, rfl, by omega, Nat.le_refl _, by omega, u1, u2, u3⟩
    · obtain ⟨u1, u2, u3⟩ := two_new W0 [.bool n2, .slice a2 m2 c2] [.bool n1, .slice a1 m1 c1] 24
      exact ⟨_, _, rfl, rfl, by omega, by omega, Nat.le_refl _, u2, u1, u3⟩
  case rest =>
    obtain ⟨p, q, rfl, rfl, hpq, hp, hq2, rp, rq, hbn⟩ := hcut
    have f1 := rp.cell 0
    have f2 := rp.frozen 0
    have f3 := rq.cell 0
    have f4 := rq.frozen 0
    simp only [List.getElem?_cons_zero] at f1 f3
    clear x1 x2 x3 x4 y1 y2 y3 y4 z1 z2 z3 z4
    have e1 : Below W0.heap.size wc ((wc.setCell ⟨p, 0, none⟩ (.bool false)).setCell ⟨q, 0, none⟩ (.bool false)) := ((Below.refl _ wc).setCell (p := ⟨p, 0, none⟩) hp _).setCell (p := ⟨q, 0, none⟩) hq2 _
    have e2 : Below W0.heap.size W0 ((wc.setCell ⟨p, 0, none⟩ (.bool false)).setCell ⟨q, 0, none⟩ (.bool false)) := hbn.trans e1
    have rpd : RowAt ((wc.setCell ⟨p, 0, none⟩ (.bool false)).setCell ⟨q, 0, none⟩ (.bool false)) p 24 [.bool false, .slice a1 m1 c1] := RowAt.other (rp.set 0 (.bool false)) hpq _
    have rqd : RowAt ((wc.setCell ⟨p, 0, none⟩ (.bool false)).setCell ⟨q, 0, none⟩ (.bool false)) q 24 [.bool false, .slice a2 m2 c2] := RowAt.set (RowAt.other rq (Ne.symm hpq) _) 0 (.bool false)
    have bw := b2.trans (e2.mono b2.size)
    have hk3 := hk2.below e2
    have hj3 := hj2.below e2
    have hr3 := hr1.below e2
    have r3 := r2.below e2
    have E := Lib.hid (And.intro bw (And.intro hk3 (And.intro hj3 (And.intro hr3 (And.intro r3 (And.intro rpd rqd))))))
    clear e1 e2 bw hk3 hj3 hr3 r3 rpd rqd hk2 hj2 hr1 r2 b1 b2 rp rq hbn
    go_upto_region 3 with (fail)
    generalize (wc.setCell ⟨p, 0, none⟩ (.bool false)).setCell ⟨q, 0, none⟩ (.bool false) = wd at *
    obtain ⟨bw, hk3, hj3, hr3, r3, rpd, rqd⟩ := E.out
    clear f1 f2 f3 f4 E hp hq2
    have x1 := rpd.cell 0
    have x2 := rpd.cell 1
    have x3 := rqd.cell 0
    have x4 := rqd.cell 1
    simp only [List.getElem?_cons_succ, List.getElem?_cons_zero] at x1 x2 x3 x4
    have C := rcompare_int _ _ _ _ _ (isInt_abs hk3) (isInt_abs hj3) L hL (by rw [Int.natAbs_natCast]; exact bk) (by rw [Int.natAbs_natCast]; exact bj)
    have hz := isInt_zero hk3
    have hn1 := isInt_neg hk3
    have hn2 := isInt_neg hj3
    obtain ⟨cv, hcv⟩ : ∃ cv, cmpI (k.natAbs : Int) (j.natAbs : Int) = cv := ⟨_, rfl⟩
    rw [hcv] at C
    have hiff : cv < 0 ↔ k.natAbs < j.natAbs := by rw [← hcv, cmpI_neg_iff]; omega
    by_cases hlt : k.natAbs < j.natAbs
    · have hcn : cv < 0 := hiff.2 hlt
      by_cases hm : m1 = 0
      · have hF := Lib.hid (show fitsB k j = true by unfold fitsB; rw [decide_eq_true hlt, decide_eq_true (hz.1 hm)]; rfl)
        clear hiff hcv hlt hz hn1 hn2 rpd rqd hk3 hj3
        subst hm
        go_wp2_with (go_at_call 20; with_reducible refine C.mono ?_; rintro e w5 ⟨hb5, rfl⟩; have y1 := (hr3.below hb5).cell 1; simp only [List.getElem?_cons_succ, List.getElem?_cons_zero] at y1)
        go_ret
        exact ⟨bw.trans (hb5.mono bw.size), by rw [hF.out]; rfl⟩
      · have hF0 : fitsB k j = (n1 == n2) := by
          have hk0 : ¬ k = 0 := fun h => hm (hz.2 h)
          simp only [fitsB, hlt, hk0, decide_true, decide_false, Bool.true_and, Bool.false_or, ← hn1, ← hn2]
        have hF := Lib.hid hF0
        clear hF0 hiff hcv hlt hz hn1 hn2 rpd rqd hk3 hj3
        go_wp2_with (go_at_call 20; with_reducible refine C.mono ?_; rintro e w5 ⟨hb5, rfl⟩; have y0 := (hr3.below hb5).cell 0; have y1 := (hr3.below hb5).cell 1; have y2 := (r3.below hb5).cell 0; simp only [List.getElem?_cons_succ, List.getElem?_cons_zero] at y0 y1 y2)
        go_ret
        have hme : ((m1 : Int) == 0) = false := by simpa using hm
        exact ⟨bw.trans (hb5.mono bw.size), (show Ending.returned (.bool (((m1 : Int) == 0) || (n1 == n2))) = Ending.returned (.bool (fitsB k j)) by rw [hF.out, hme]; rfl)⟩
    · have hcn : ¬ cv < 0 := fun h => hlt (hiff.1 h)
      have hF := Lib.hid (show fitsB k j = false by simp [fitsB, hlt])
      clear hiff hcv hlt hz hn1 hn2 rpd rqd hk3 hj3
      go_wp2_with (go_at_call 20; with_reducible refine C.mono ?_; rintro e w5 ⟨hb5, rfl⟩)
      go_ret
      exact ⟨bw.trans (hb5.mono bw.size), by rw [hF.out]; rfl⟩

end Go.Proofs.YtlghjfpkfdnfoaaDoor

/- zermelolaw01.NumDivision -/
namespace Go.Proofs.YtlghjfpkfdnfoaaDoor
open Go Go.RowKit Go.Shelf

/-- the four variables of the law -/
structure DivL (w w1 : World) (b1 : Nat) (n1 : Bool) (a1 : Option Addr) (m1 c1 : Nat) (b2 : Nat) (n2 : Bool) (a2 : Option Addr) (m2 c2 : Nat) (b3 : Nat) (n3 : Bool) (a3 : Option Addr) (m3 c3 : Nat) (b4 : Nat) (n4 : Bool) (a4 : Option Addr) (m4 c4 : Nat) (X : World) : Prop where
  r1 : RowAt X b1 24 [.bool n1, .slice a1 m1 c1]
  r2 : RowAt X b2 24 [.bool n2, .slice a2 m2 c2]
  r3 : RowAt X b3 24 [.bool n3, .slice a3 m3 c3]
  r4 : RowAt X b4 24 [.bool n4, .slice a4 m4 c4]
  below : Below w.heap.size w X
  more : Below w1.heap.size w1 X
theorem DivL.keep {w w1 : World} {b1 : Nat} {n1 : Bool} {a1 : Option Addr} {m1 c1 : Nat} {b2 : Nat} {n2 : Bool} {a2 : Option Addr} {m2 c2 : Nat} {b3 : Nat} {n3 : Bool} {a3 : Option Addr} {m3 c3 : Nat} {b4 : Nat} {n4 : Bool} {a4 : Option Addr} {m4 c4 : Nat} {X : World} (h : DivL w w1 b1 n1 a1 m1 c1 b2 n2 a2 m2 c2 b3 n3 a3 m3 c3 b4 n4 a4 m4 c4 X) : ∀ v xs, Reads .u32 w1 v xs → Reads .u32 X v xs := fun _ _ hv => hv.below h.more
@[reducible] def DivC (w w1 : World) (b1 : Nat) (n1 : Bool) (a1 : Option Addr) (m1 c1 : Nat) (b2 : Nat) (n2 : Bool) (a2 : Option Addr) (m2 c2 : Nat) (b3 : Nat) (n3 : Bool) (a3 : Option Addr) (m3 c3 : Nat) (b4 : Nat) (n4 : Bool) (a4 : Option Addr) (m4 c4 : Nat) (X : World) : Prop :=
  X.cell? ⟨b1, 0, none⟩ = some (.bool n1) ∧ X.cell? ⟨b1, 1, none⟩ = some (.slice a1 m1 c1) ∧ X.cell? ⟨b2, 0, none⟩ = some (.bool n2) ∧ X.cell? ⟨b2, 1, none⟩ = some (.slice a2 m2 c2) ∧ X.cell? ⟨b3, 0, none⟩ = some (.bool n3) ∧ X.cell? ⟨b3, 1, none⟩ = some (.slice a3 m3 c3) ∧ X.cell? ⟨b4, 0, none⟩ = some (.bool n4) ∧ X.cell? ⟨b4, 1, none⟩ = some (.slice a4 m4 c4) ∧ DivL w w1 b1 n1 a1 m1 c1 b2 n2 a2 m2 c2 b3 n3 a3 m3 c3 b4 n4 a4 m4 c4 X
section
variable {w w1 X : World} {b1 : Nat} {n1 : Bool} {a1 : Option Addr} {m1 c1 : Nat} {b2 : Nat} {n2 : Bool} {a2 : Option Addr} {m2 c2 : Nat} {b3 : Nat} {n3 : Bool} {a3 : Option Addr} {m3 c3 : Nat} {b4 : Nat} {n4 : Bool} {a4 : Option Addr} {m4 c4 : Nat}
theorem dvl_of (h : DivL w w1 b1 n1 a1 m1 c1 b2 n2 a2 m2 c2 b3 n3 a3 m3 c3 b4 n4 a4 m4 c4 X) : DivC w w1 b1 n1 a1 m1 c1 b2 n2 a2 m2 c2 b3 n3 a3 m3 c3 b4 n4 a4 m4 c4 X := ⟨h.r1.cell 0, h.r1.cell 1, h.r2.cell 0, h.r2.cell 1, h.r3.cell 0, h.r3.cell 1, h.r4.cell 0, h.r4.cell 1, h⟩
theorem dvl_step {X' : World} (h : DivL w w1 b1 n1 a1 m1 c1 b2 n2 a2 m2 c2 b3 n3 a3 m3 c3 b4 n4 a4 m4 c4 X) (hb : Below X.heap.size X X') : DivL w w1 b1 n1 a1 m1 c1 b2 n2 a2 m2 c2 b3 n3 a3 m3 c3 b4 n4 a4 m4 c4 X' := ⟨h.r1.below hb, h.r2.below hb, h.r3.below hb, h.r4.below hb, h.below.trans (hb.mono h.below.size), h.more.trans (hb.mono h.more.size)⟩
theorem dvl_drew (h : DivL w w1 b1 n1 a1 m1 c1 b2 n2 a2 m2 c2 b3 n3 a3 m3 c3 b4 n4 a4 m4 c4 X) : DivC w w1 b1 n1 a1 m1 c1 b2 n2 a2 m2 c2 b3 n3 a3 m3 c3 b4 n4 a4 m4 c4 X.drew := dvl_of ⟨h.r1, h.r2, h.r3, h.r4, h.below.drew, h.more.drew⟩
end

theorem dvl_set {w w1 X : World} {b1 : Nat} {n1 : Bool} {a1 : Option Addr} {m1 c1 : Nat} {b2 : Nat} {n2 : Bool} {a2 : Option Addr} {m2 c2 : Nat} {b3 : Nat} {n3 : Bool} {a3 : Option Addr} {m3 c3 : Nat} {b4 : Nat} {n4 : Bool} {a4 : Option Addr} {m4 c4 : Nat} (h : DivL w w1 b1 n1 a1 m1 c1 b2 n2 a2 m2 c2 b3 n3 a3 m3 c3 b4 n4 a4 m4 c4 X) {B : Nat} (hl : (b1 < w1.heap.size ∧ b2 < w1.heap.size ∧ b3 < w1.heap.size ∧ b4 < w1.heap.size) ∧ w.heap.size ≤ w1.heap.size) (hB : w1.heap.size ≤ B) (x y : Value) : DivL w w1 b1 n1 a1 m1 c1 b2 n2 a2 m2 c2 b3 n3 a3 m3 c3 b4 n4 a4 m4 c4 ((X.setCell ⟨B, 0, none⟩ x).setCell ⟨B, 1, none⟩ y) := by
  obtain ⟨⟨l1, l2, l3, l4⟩, l5⟩ := hl
  exact ⟨(h.r1.other (show b1 ≠ B by omega) _).other (show b1 ≠ B by omega) _, (h.r2.other (show b2 ≠ B by omega) _).other (show b2 ≠ B by omega) _, (h.r3.other (show b3 ≠ B by omega) _).other (show b3 ≠ B by omega) _, (h.r4.other (show b4 ≠ B by omega) _).other (show b4 ≠ B by omega) _,
    (h.below.setCell (show w.heap.size ≤ B by omega) _).setCell (show w.heap.size ≤ B by omega) _, (h.more.setCell hB _).setCell hB _⟩
/-- a variable that was made in between -/
theorem new_row {w1 X W : World} {t : TypeId} {vals : List Value} (hs : w1.heap.size ≤ X.heap.size) (hbc : Below (X.alloc (.cells vals.toArray t)).heap.size (X.alloc (.cells vals.toArray t)) W) : w1.heap.size ≤ X.heap.size ∧ RowAt W X.heap.size t vals := ⟨hs, (RowAt.new X t vals).below hbc⟩
theorem new_rowd {w1 X W : World} {t : TypeId} {vals : List Value} (hs : w1.heap.size ≤ X.heap.size) (hbc : Below (X.alloc (.cells vals.toArray t)).drew.heap.size (X.alloc (.cells vals.toArray t)).drew W) : w1.heap.size ≤ X.heap.size ∧ RowAt W X.heap.size t vals := ⟨hs, (show RowAt (X.alloc (.cells vals.toArray t)).drew X.heap.size t vals from RowAt.new X t vals).below hbc⟩
theorem boxI_set {W : World} {B : Nat} {n : Bool} {a : Option Addr} {m c : Nat} {n' : Bool} {a' : Option Addr} {m' c' : Nat} {i : Int} (hz : RowAt W B 24 [.bool n', .slice a' m' c']) (h : IsInt W (.agg #[.bool n, .slice a m c]) i) : BoxI ((W.setCell ⟨B, 0, none⟩ (.bool n)).setCell ⟨B, 1, none⟩ (.slice a m c)) (.pointer (some ⟨B, 0, none⟩)) i :=
  ⟨B, n, a, m, c, rfl, (hz.set 0 (.bool n)).set 1 (.slice a m c), h.keep fun _ _ hv => two_kept hv (hz.cell 0) (hz.cell 1) _ _⟩

theorem fits_rest {i j : Int} (hj : j ≠ 0) : fitsB (i.fmod j) j = true := by
  have key : (0 ≤ i.fmod j ∧ i.fmod j < j) ∨ (j < i.fmod j ∧ i.fmod j ≤ 0) := by
    rcases Int.lt_or_gt_of_ne hj with h | h
    · right
      have h1 := Int.emod_nonneg (-i) (show -j ≠ 0 by omega)
      have h2 := Int.emod_lt_of_pos (-i) (show 0 < -j by omega)
      have e : i.fmod j = -((-i) % (-j)) := by
        have h3 := Int.emod_def (-i) (-j)
        rw [Int.neg_mul] at h3
        rw [Int.fmod_def, ← Int.neg_fdiv_neg, Int.fdiv_eq_ediv_of_nonneg _ (by omega)]
        omega
      omega
    · left
      rw [Int.fmod_eq_emod_of_nonneg _ (by omega)]
      exact ⟨Int.emod_nonneg _ hj, Int.emod_lt_of_pos _ h⟩
  unfold fitsB
  rw [decide_eq_true (show (i.fmod j).natAbs < j.natAbs by omega), Bool.true_and]
  by_cases h0 : i.fmod j = 0
  · rw [decide_eq_true h0]; rfl
  · rw [decide_eq_false h0, Bool.false_or, beq_iff_eq, decide_eq_decide]
    omega
/-- of another quotient the rest does not fit -/
theorem fits_other {i j o : Int} (ho : o ≠ i.fdiv j) : fitsB (i - o * j) j = false := by
  cases hf : fitsB (i - o * j) j with
  | false => rfl
  | true =>
    exfalso
    unfold fitsB at hf
    simp only [Bool.and_eq_true, Bool.or_eq_true, decide_eq_true_eq, beq_iff_eq, decide_eq_decide] at hf
    obtain ⟨h1, h2⟩ := hf
    refine ho (fdiv_unique (i := i) (j := j) (q := o) (r := i - o * j) (by rw [Int.mul_comm j]; omega) ?_).1.symm
    rcases h2 with h2 | h2 <;> omega

theorem fdiv_abs {i j : Int} (hj : j ≠ 0) : (i.fdiv j).natAbs ≤ i.natAbs + j.natAbs := by
  have hf := fits_rest (i := i) hj
  unfold fitsB at hf
  simp only [Bool.and_eq_true, decide_eq_true_eq] at hf
  have h1 := hf.1
  have h2 := Int.fmod_def i j
  have h3 : (j * i.fdiv j).natAbs ≤ i.natAbs + j.natAbs := by omega
  rw [Int.natAbs_mul] at h3
  have h4 : 1 * (i.fdiv j).natAbs ≤ j.natAbs * (i.fdiv j).natAbs := Nat.mul_le_mul_right _ (by omega)
  omega
theorem formedB_len {n : Bool} {xs : List Nat} (h : formedB n xs = true) : xs.length ≤ 300 := by
  unfold formedB at h
  simp only [Bool.and_eq_true, decide_eq_true_eq] at h
  exact h.1.1
theorem intAt_parts {W : World} {n : Bool} {a : Option Addr} {m c : Nat} {neg : Bool} {xs : List Nat} (h : IntAt W (.agg #[.bool n, .slice a m c]) neg xs) : n = neg ∧ m = xs.length ∧ Reads .u32 W (.slice a m c) xs ∧ Limbs xs := by
  obtain ⟨v, e, hr, hl⟩ := h
  simp only [Value.agg.injEq, Array.mk.injEq, List.cons.injEq, Value.bool.injEq, and_true] at e
  obtain ⟨rfl, rfl⟩ := e
  obtain ⟨a', c', e, -, -⟩ := hr.form
  simp only [Value.slice.injEq] at e
  exact ⟨rfl, e.2.1, hr, hl⟩

set_option maxHeartbeats 4000000 in
set_option maxRecDepth 100000 in
set_option exponentiation.threshold 200000 in
theorem division_any (va vb vc : Value) (na nb nc : Bool) (xa xb xc : List Nat) (w : World) (ha : IntAt w va na xa) (hb : IntAt w vb nb xb) (hc : IntAt w vc nc xc) (hT : DigitsAt w) :
    Calls Tryd.prog 10 #[va, vb, vc] w fun e w' => Below w.heap.size w w' ∧ e = .returned (.bool true) := by
  obtain ⟨sa, rfl, hra, hla⟩ := ha
  obtain ⟨sb, rfl, hrb, hlb⟩ := hb
  obtain ⟨sc, rfl, hrc, hlc⟩ := hc
  obtain ⟨aa, ca, rfl, hca, hma⟩ := hra.form
  obtain ⟨ab, cb, rfl, hcb, hmb⟩ := hrb.form
  obtain ⟨ac, cc, rfl, hcc, hmc⟩ := hrc.form
  go_enter Tryd.func10, Tryd.ntmps10
  go_upto_region 0 with (fail)
  go_cut [3, 4, 5] from 0 to 2 (fun v3 v4 v5 W => BoxF W v3 na xa ∧ BoxF W v4 nb xb ∧ BoxF W v5 nc xc ∧ Below w.heap.size w W)
  case first =>
    go_wp2
    go_meet
    have B1 : Below w.heap.size w (w.alloc (.cells #[.bool na, .slice aa xa.length ca] 24)) := (Below.refl _ _).alloc (Nat.le_refl _) _
    have B2 := B1.alloc B1.size (.cells #[.bool nb, .slice ab xb.length cb] 24)
    have B3 := B2.alloc B2.size (.cells #[.bool nc, .slice ac xc.length cc] 24)
    have C1 : BoxF _ _ na xa := ⟨_, aa, ca, rfl, RowAt.new w 24 [.bool na, .slice aa xa.length ca], hra.below B1⟩
    have C2 : BoxF _ _ nb xb := ⟨_, ab, cb, rfl, RowAt.new (w.alloc (.cells #[.bool na, .slice aa xa.length ca] 24)) 24 [.bool nb, .slice ab xb.length cb], hrb.below B2⟩
    have C3 : BoxF _ _ nc xc := ⟨_, ac, cc, rfl, RowAt.new ((w.alloc (.cells #[.bool na, .slice aa xa.length ca] 24)).alloc (.cells #[.bool nb, .slice ab xb.length cb] 24)) 24 [.bool nc, .slice ac xc.length cc], hrc.below B3⟩
    simp only [World.size_alloc] at C2 C3
    exact ⟨(C1.below ((Below.refl _ _).alloc (Nat.le_refl _) _)).below ((Below.refl _ _).alloc (Nat.le_refl _) _), C2.below ((Below.refl _ _).alloc (Nat.le_refl _) _), C3, B3⟩
  case rest =>
    obtain ⟨q1, q2, q3, hbe⟩ := hcut
    clear hra hrb hrc hca hcb hcc hma hmb hmc
    have hT1 := hT.below hbe
    obtain ⟨b1, a1, c1, rfl, r1, j1⟩ := q1
    obtain ⟨b2, a2, c2, rfl, r2, j2⟩ := q2
    obtain ⟨b3, a3, c3, rfl, r3, j3⟩ := q3
    have d11 := r1.cell 0
    have d12 := r1.cell 1
    have d21 := r2.cell 0
    have d22 := r2.cell 1
    have d31 := r3.cell 0
    have d32 := r3.cell 1
    simp only [List.getElem?_cons_zero, List.getElem?_cons_succ] at d11 d12 d21 d22 d31 d32
    have hnew := RowAt.new wc 24 [.bool na, .slice a1 xa.length c1, .bool nb, .slice a2 xb.length c2, .bool nc, .slice a3 xc.length c3]
    have hB : Below wc.heap.size wc (wc.alloc (.cells #[.bool na, .slice a1 xa.length c1, .bool nb, .slice a2 xb.length c2, .bool nc, .slice a3 xc.length c3] 24)) := (Below.refl _ _).alloc (Nat.le_refl _) _
    have hf := formed_list [(na, .slice a1 xa.length c1, xa), (nb, .slice a2 xb.length c2, xb), (nc, .slice a3 xc.length c3, xc)] 60 wc.heap.size _ hnew (by simp) (by
      intro it hit
      simp only [List.mem_cons, List.not_mem_nil, or_false] at hit
      rcases hit with rfl | rfl | rfl
      · exact ⟨j1.below hB, hla⟩
      · exact ⟨j2.below hB, hlb⟩
      · exact ⟨j3.below hB, hlc⟩)
    simp only [List.length_cons, List.length_nil] at hf
    have hsz := hbe.size
    cases hall : List.all [(na, Value.slice a1 xa.length c1, xa), (nb, Value.slice a2 xb.length c2, xb), (nc, Value.slice a3 xc.length c3, xc)] (fitB 60) with
    | false =>
      rw [hall] at hf
      clear hnew hall
      go_wp2_with (first
        | (go_at_call 50; refine hf.mono ?_; rintro e w2 ⟨hb2, rfl⟩)
        | (go_at_call 16; refine (sane_any _ ((hT1.below hB).below hb2)).mono ?_; rintro e w3 ⟨hb3, rfl⟩))
      go_ret
      have e1 := hB.trans (hb2.mono hB.size)
      have e2 := e1.trans (hb3.mono e1.size)
      exact ⟨hbe.trans (e2.mono hsz), rfl⟩
    | true =>
      rw [hall] at hf
      have hA := Lib.hid hall
      clear hnew hall
      by_cases hx0 : xb.length = 0
      · rw [hx0] at d22 r2 hf hB
        go_wp2_with (first
          | (go_at_call 50; refine hf.mono ?_; rintro e w2 ⟨hb2, rfl⟩; have e1 := hB.trans (hb2.mono hB.size); have g2 := (r2.below e1).cell 1; simp only [List.getElem?_cons_zero, List.getElem?_cons_succ] at g2)
          | (go_at_call 16; refine (sane_any _ ((hT1.below hB).below hb2)).mono ?_; rintro e w3 ⟨hb3, rfl⟩))
        go_ret
        have e2 := e1.trans (hb3.mono e1.size)
        exact ⟨hbe.trans (e2.mono hsz), rfl⟩
      · go_upto_region 3 with (go_at_call 50; refine hf.mono ?_; rintro e w2 ⟨hb2, rfl⟩; have e1 := hB.trans (hb2.mono hB.size); have g2 := (r2.below e1).cell 1; simp only [List.getElem?_cons_zero, List.getElem?_cons_succ] at g2)
        clear g2
        have hj0 : sgn nb (val xb) ≠ 0 := fun h => hx0 ((isInt_zero (IntAt.isInt ⟨_, rfl, j2.below e1, hlb⟩ (by
          have := hA.out
          simp only [List.all_cons, List.all_nil, fitB, Bool.and_true, Bool.and_eq_true, decide_eq_true_eq] at this
          exact this.2.1.1) : IsInt w2 (.agg #[.bool nb, .slice a2 xb.length c2]) (sgn nb (val xb)))).2 h)
        clear hx0
        obtain ⟨⟨f1, l1⟩, ⟨f2, l2⟩, ⟨f3, l3⟩⟩ : (formedB na xa = true ∧ xa.length ≤ 60) ∧ (formedB nb xb = true ∧ xb.length ≤ 60) ∧ (formedB nc xc = true ∧ xc.length ≤ 60) := by
          have := hA.out
          simp only [List.all_cons, List.all_nil, fitB, Bool.and_true, Bool.and_eq_true, decide_eq_true_eq] at this
          exact ⟨⟨this.1.1, by omega⟩, ⟨this.2.1.1, by omega⟩, ⟨this.2.2.1, by omega⟩⟩
        have k1 := (IntAt.isInt ⟨_, rfl, j1.below e1, hla⟩ f1 : IsInt w2 (.agg #[.bool na, .slice a1 xa.length c1]) (sgn na (val xa)))
        have k2 := (IntAt.isInt ⟨_, rfl, j2.below e1, hlb⟩ f2 : IsInt w2 (.agg #[.bool nb, .slice a2 xb.length c2]) (sgn nb (val xb)))
        have k3 := (IntAt.isInt ⟨_, rfl, j3.below e1, hlc⟩ f3 : IsInt w2 (.agg #[.bool nc, .slice a3 xc.length c3]) (sgn nc (val xc)))
        have n1 : (sgn na (val xa)).natAbs < B32 ^ 60 := by rw [sgn_natAbs]; exact (canon_length_iff (formedB_bounds hla f1).1 60).1 l1
        have n2 : (sgn nb (val xb)).natAbs < B32 ^ 60 := by rw [sgn_natAbs]; exact (canon_length_iff (formedB_bounds hlb f2).1 60).1 l2
        have n3 : (sgn nc (val xc)).natAbs < B32 ^ 60 := by rw [sgn_natAbs]; exact (canon_length_iff (formedB_bounds hlc f3).1 60).1 l3
        have q3 : BoxI w2 (.pointer (some ⟨b1, 0, none⟩)) (sgn na (val xa)) := ⟨b1, na, a1, xa.length, c1, rfl, r1.below e1, k1⟩
        have q4 : BoxI w2 (.pointer (some ⟨b2, 0, none⟩)) (sgn nb (val xb)) := ⟨b2, nb, a2, xb.length, c2, rfl, r2.below e1, k2⟩
        have q5 : BoxI w2 (.pointer (some ⟨b3, 0, none⟩)) (sgn nc (val xc)) := ⟨b3, nc, a3, xc.length, c3, rfl, r3.below e1, k3⟩
        replace hbe := hbe.trans (e1.mono hsz)
        clear hA hf l1 l2 l3 f1 f2 f3 d11 d12 d21 d22 d31 d32 hb2 hB e1 r1 r2 r3 j1 j2 j3 hsz hT1 hla hlb hlc k1 k2 k3
        generalize sgn na (val xa) = i at *
        generalize sgn nb (val xb) = j at *
        generalize sgn nc (val xc) = k at *
        have Bi := b32_up n1 (by decide)
        have Bj := b32_up n2 (by decide)
        have Bk := b32_up n3 (by decide)
        have N1 := n1
        have N2 := n2
        have N3 := n3
        generalize w2 = wX2 at *
        go_upto_region 3 with (fail)
        go_cut [7, 8, 9] from 18 to 31 (fun v1 v2 v3 W => BoxI W v1 (i.fdiv j) ∧ BoxI W v2 (i.fmod j) ∧ v3 = .int .i64 0 ∧ Below wX2.heap.size wX2 W)
        case first =>
          obtain ⟨n1x, a1x, m1x, c1x, r1x, i1x⟩ := q3.at
          obtain ⟨n2x, a2x, m2x, c2x, r2x, i2x⟩ := q4.at
          have x1 := r1x.cell 0
          have y1 := r1x.cell 1
          have x2 := r2x.cell 0
          have y2 := r2x.cell 1
          simp only [List.getElem?_cons_zero, List.getElem?_cons_succ] at x1 y1 x2 y2
          have C := div_int _ _ _ _ _ i1x i2x Bi Bj hj0
          go_wp2_with (go_at_call 35; with_reducible refine C.mono ?_; rintro e w3 ⟨hb3, v3, v4, rfl, hi3, hi4⟩; obtain ⟨n3, s3, m3, q3, rfl⟩ := hi3.shape; obtain ⟨n4, s4, m4, q4, rfl⟩ := hi4.shape)
          go_meet
          exact boxes_two hi3 hi4 hb3
        case rest =>
          obtain ⟨q7, q8, rfl, hbn⟩ := hcut
          replace q3 := q3.below hbn
          replace q4 := q4.below hbn
          replace q5 := q5.below hbn
          replace hbe := hbe.trans (hbn.mono hbe.size)
          clear hbn
          generalize wc = wX3 at *
          have h60 : (B32 : Nat) ^ 61 = B32 ^ 60 * B32 := Nat.pow_succ ..
          have m60 : B32 ^ 60 * 2 ≤ B32 ^ 60 * B32 := Nat.mul_le_mul_left _ (by decide)
          have bq : (i.fdiv j).natAbs < B32 ^ 61 := by have := fdiv_abs (i := i) hj0; generalize B32 ^ 60 = Z at *; omega
          have br : (i.fmod j).natAbs < B32 ^ 61 := by
            have hf := fits_rest (i := i) hj0
            unfold fitsB at hf
            simp only [Bool.and_eq_true, decide_eq_true_eq] at hf
            have := hf.1
            generalize B32 ^ 60 = Z at *
            omega
          clear h60 m60
          obtain ⟨b7, n7, a7, m7, c7, rfl, r7, i7⟩ := q7
          obtain ⟨b8, n8, a8, m8, c8, rfl, r8, i8⟩ := q8
          obtain ⟨p7, x7, hI7, f7, -, -, -⟩ := i7.at (abs_lt_up bq (by decide))
          obtain ⟨p8, x8, hI8, f8, -, -, -⟩ := i8.at (abs_lt_up br (by decide))
          obtain ⟨rfl, rfl, d7, l7⟩ := intAt_parts hI7
          obtain ⟨rfl, rfl, d8, l8⟩ := intAt_parts hI8
          have x1 := r7.cell 0
          have x2 := r7.cell 1
          have x3 := r8.cell 0
          have x4 := r8.cell 1
          simp only [List.getElem?_cons_zero, List.getElem?_cons_succ] at x1 x2 x3 x4
          have hnew := RowAt.new wX3 24 [.bool n7, .slice a7 x7.length c7, .bool n8, .slice a8 x8.length c8]
          have hB4 : Below wX3.heap.size wX3 (wX3.alloc (.cells #[.bool n7, .slice a7 x7.length c7, .bool n8, .slice a8 x8.length c8] 24)) := (Below.refl _ _).alloc (Nat.le_refl _) _
          have hf := formed_list [(n7, .slice a7 x7.length c7, x7), (n8, .slice a8 x8.length c8, x8)] 300 wX3.heap.size _ hnew (by simp) (by
            intro it hit
            simp only [List.mem_cons, List.not_mem_nil, or_false] at hit
            rcases hit with rfl | rfl
            · exact ⟨d7.below hB4, l7⟩
            · exact ⟨d8.below hB4, l8⟩)
          have hall2 : List.all [(n7, Value.slice a7 x7.length c7, x7), (n8, Value.slice a8 x8.length c8, x8)] (fitB 300) = true := by
            have t7 := formedB_len f7
            have t8 := formedB_len f8
            simp only [List.all_cons, List.all_nil, fitB, Bool.and_true, Bool.and_eq_true, decide_eq_true_eq]
            exact ⟨⟨f7, by omega⟩, ⟨f8, by omega⟩⟩
          rw [hall2] at hf
          simp only [List.length_cons, List.length_nil] at hf
          clear hall2 hnew d7 d8 l7 l8 hI7 hI8 f7 f8
          go_upto_region 7 with (go_at_call 50; refine hf.mono ?_; rintro e w4 ⟨hb4, rfl⟩)
          clear hf x1 x2 x3 x4
          have hbn := hB4.trans (hb4.mono hB4.size)
          replace q3 := q3.below hbn
          replace q4 := q4.below hbn
          replace q5 := q5.below hbn
          replace r7 := r7.below hbn
          replace r8 := r8.below hbn
          replace i7 := i7.below hbn
          replace i8 := i8.below hbn
          replace hbe := hbe.trans (hbn.mono hbe.size)
          clear hbn hb4 hB4
          generalize w4 = wX7 at *
          generalize x7.length = m7 at *
          generalize x8.length = m8 at *
          obtain ⟨n3, a3, m3, c3, r3, i3⟩ := q3.at
          obtain ⟨n4, a4, m4, c4, r4, i4⟩ := q4.at
          have hL : DivL w wX7 b1 n3 a3 m3 c3 b2 n4 a4 m4 c4 b7 n7 a7 m7 c7 b8 n8 a8 m8 c8 wX7 := ⟨r3, r4, r7, r8, hbe, Below.refl _ _⟩
          have hD := Lib.hid (dvl_drew hL)
          obtain ⟨d1, d2, d3, d4, d5, d6, d7, d8, -⟩ := dvl_of hL
          have bj61 := abs_lt_up N2 (show 60 ≤ 61 by decide)
          have hsum : i.fdiv j * j + i.fmod j = i := by rw [Int.mul_comm]; exact Int.mul_fdiv_add_fmod i j
          have kF : ∀ X, DivL w wX7 b1 n3 a3 m3 c3 b2 n4 a4 m4 c4 b7 n7 a7 m7 c7 b8 n8 a8 m8 c8 X → Calls Tryd.prog 51 #[.agg #[.bool n7, .slice a7 m7 c7], .agg #[.bool n8, .slice a8 m8 c8], .pointer (some ⟨b2, 0, none⟩)] X fun e w' => Below X.heap.size X w' ∧ e = .returned (.bool true) := fun X hX => by
            have := fits_any (.agg #[.bool n7, .slice a7 m7 c7]) (i.fmod j) j (i.fdiv j) n4 a4 m4 c4 n8 a8 m8 c8 b2 61 X (i7.keep hX.keep) (i8.keep hX.keep) (i4.keep hX.keep) hX.r2 (by omega) br bj61
            rwa [fits_rest hj0] at this
          have kT := fun X (hX : DivL w wX7 b1 n3 a3 m3 c3 b2 n4 a4 m4 c4 b7 n7 a7 m7 c7 b8 n8 a8 m8 c8 X) => rtimes_int _ _ (i.fdiv j) j X (i7.keep hX.keep) (i4.keep hX.keep) (abs_lt_up bq (by omega)) (abs_lt_up bj61 (by omega))
          have bqj : (i.fdiv j * j).natAbs < B32 ^ 122 := abs_mul_lt bq bj61
          have br2 := abs_lt_up br (show 61 ≤ 122 by decide)
          have kS := fun X v (hv : IsInt X v (i.fdiv j * j)) (hX : DivL w wX7 b1 n3 a3 m3 c3 b2 n4 a4 m4 c4 b7 n7 a7 m7 c7 b8 n8 a8 m8 c8 X) => rsum_int v _ (i.fdiv j * j) (i.fmod j) 122 X hv (i8.keep hX.keep) (by omega) bqj br2
          rw [hsum] at kS
          have kE := fun X v (hv : IsInt X v i) (hX : DivL w wX7 b1 n3 a3 m3 c3 b2 n4 a4 m4 c4 b7 n7 a7 m7 c7 b8 n8 a8 m8 c8 X) => rsame_eq v _ i X hv (i3.keep hX.keep)
          clear bqj br2 hsum
          go_region_held3 (fun X => X.cell? ⟨b1, 0, none⟩ = some (.bool n3) ∧ X.cell? ⟨b1, 1, none⟩ = some (.slice a3 m3 c3) ∧ X.cell? ⟨b2, 0, none⟩ = some (.bool n4) ∧ X.cell? ⟨b2, 1, none⟩ = some (.slice a4 m4 c4) ∧ X.cell? ⟨b7, 0, none⟩ = some (.bool n7) ∧ X.cell? ⟨b7, 1, none⟩ = some (.slice a7 m7 c7) ∧ X.cell? ⟨b8, 0, none⟩ = some (.bool n8) ∧ X.cell? ⟨b8, 1, none⟩ = some (.slice a8 m8 c8) ∧ DivL w wX7 b1 n3 a3 m3 c3 b2 n4 a4 m4 c4 b7 n7 a7 m7 c7 b8 n8 a8 m8 c8 X)
            (first | exact hD.out | (go_split_ands; exact dvl_of (dvl_step (by assumption) hbc)))
            (first
              | (go_at_call 51; go_split_ands; with_reducible refine (kF _ (by assumption)).mono ?_; rintro e wk ⟨hbc, rfl⟩)
              | (go_at_call 45; go_split_ands; with_reducible refine (kT _ (by assumption)).mono ?_; rintro e wk ⟨hbc, vT, rfl, hIT⟩)
              | (go_at_call 44; go_split_ands; with_reducible refine (kS _ _ hIT (by assumption)).mono ?_; rintro e wk ⟨hbc, vS, rfl, hIS⟩)
              | (go_at_call 25; go_split_ands; with_reducible refine (kE _ _ hIS (by assumption)).mono ?_; rintro e wk ⟨hbc, rfl⟩))
          rename_i hX
          obtain ⟨-, -, -, -, -, -, -, -, O1⟩ := hX
          have hm := O1.more
          have hbw := O1.below
          replace q5 := q5.below hm
          replace i3 := i3.below hm
          replace i4 := i4.below hm
          replace i7 := i7.below hm
          replace r3 := r3.below hm
          replace r4 := r4.below hm
          replace r7 := r7.below hm
          clear d1 d2 d3 d4 d5 d6 d7 d8 hL hD kF kT kS kE hIT hIS O1 hm hbe r8 i8 q3 q4
          go_upto_region 9 with (fail)
          generalize wk = wX9 at *
          obtain ⟨n5, a5, m5, c5, r5, i5⟩ := q5.at
          have hL : DivL w wX9 b1 n3 a3 m3 c3 b2 n4 a4 m4 c4 b3 n5 a5 m5 c5 b7 n7 a7 m7 c7 wX9 := ⟨r3, r4, r5, r7, hbw, Below.refl _ _⟩
          have hD := Lib.hid (dvl_drew hL)
          obtain ⟨d1, d2, d3, d4, d5, d6, d7, d8, -⟩ := dvl_of hL
          have hl := Lib.hid (And.intro (And.intro r3.lt (And.intro r4.lt (And.intro r5.lt r7.lt))) hbw.size)
          have bkj := abs_lt_up N3 (show 60 ≤ 61 by decide)
          have bkj2 : (k * j).natAbs < B32 ^ 122 := abs_mul_lt bkj bj61
          have kT := fun X (hX : DivL w wX9 b1 n3 a3 m3 c3 b2 n4 a4 m4 c4 b3 n5 a5 m5 c5 b7 n7 a7 m7 c7 X) => rtimes_int _ _ k j X (i5.keep hX.keep) (i4.keep hX.keep) (abs_lt_up bkj (by omega)) (abs_lt_up bj61 (by omega))
          have kM := fun X v (hv : IsInt X v (k * j)) => rminus_int v (k * j) X hv
          have kS := fun X v (hv : IsInt X v (-(k * j))) (hX : DivL w wX9 b1 n3 a3 m3 c3 b2 n4 a4 m4 c4 b3 n5 a5 m5 c5 b7 n7 a7 m7 c7 X) => rsum_int _ v i (-(k * j)) 122 X (i3.keep hX.keep) hv (by omega) (abs_lt_up N1 (show 60 ≤ 122 by decide)) (by rw [Int.natAbs_neg]; exact bkj2)
          clear bkj bkj2
          go_cut [11] from 57 to 62 (fun v W => BoxI W v (i + -(k * j)) ∧ DivL w wX9 b1 n3 a3 m3 c3 b2 n4 a4 m4 c4 b3 n5 a5 m5 c5 b7 n7 a7 m7 c7 W)
          case first =>
            have hsz0 : wX9.heap.size ≤ wX9.drew.heap.size := Nat.le_refl _
            go_region_held3 (fun X => X.cell? ⟨b1, 0, none⟩ = some (.bool n3) ∧ X.cell? ⟨b1, 1, none⟩ = some (.slice a3 m3 c3) ∧ X.cell? ⟨b2, 0, none⟩ = some (.bool n4) ∧ X.cell? ⟨b2, 1, none⟩ = some (.slice a4 m4 c4) ∧ X.cell? ⟨b3, 0, none⟩ = some (.bool n5) ∧ X.cell? ⟨b3, 1, none⟩ = some (.slice a5 m5 c5) ∧ X.cell? ⟨b7, 0, none⟩ = some (.bool n7) ∧ X.cell? ⟨b7, 1, none⟩ = some (.slice a7 m7 c7) ∧ DivL w wX9 b1 n3 a3 m3 c3 b2 n4 a4 m4 c4 b3 n5 a5 m5 c5 b7 n7 a7 m7 c7 X)
              (first | exact hD.out | (go_split_ands; exact dvl_of (dvl_step (by assumption) hbc)) | (go_split_ands; exact dvl_of (dvl_step (by assumption) ((Below.refl _ _).alloc (Nat.le_refl _) _))) | (go_split_ands; exact dvl_of (dvl_set (by assumption) hl.out hzB _ _)))
              (first
                | (go_at_call 45; go_split_ands; with_reducible refine (kT _ (by assumption)).mono ?_; rintro e wk ⟨hbc, vT, rfl, hIT⟩; have hsz := Nat.le_trans (DivL.more (by assumption)).size hbc.size; first | (with_reducible have hq := new_row (w1 := wX9) (vals := [.bool false, .slice none 0 0]) (by first | assumption | exact Nat.le_refl _) hbc; obtain ⟨hzB, hz⟩ := hq) | (with_reducible have hq := new_rowd (w1 := wX9) (vals := [.bool false, .slice none 0 0]) (Nat.le_refl _) hbc; obtain ⟨hzB, hz⟩ := hq) | skip)
                | (go_at_call 52; go_split_ands; (first | with_reducible refine (kM _ _ hIT).mono ?_ | with_reducible refine (kM _ _ (hIT.below ((Below.refl _ _).alloc (Nat.le_refl _) _))).mono ?_); rintro e wk ⟨hbc, vM, rfl, hIM⟩; have hsz := Nat.le_trans (DivL.more (by assumption)).size hbc.size; first | (replace hz := hz.below hbc) | (with_reducible have hq := new_row (w1 := wX9) (vals := [.bool false, .slice none 0 0]) (by first | assumption | exact Nat.le_refl _) hbc; obtain ⟨hzB, hz⟩ := hq) | skip)
                | (go_at_call 44; go_split_ands; (first | with_reducible refine (kS _ _ hIM (by assumption)).mono ?_ | with_reducible refine (kS _ _ (hIM.below ((Below.refl _ _).alloc (Nat.le_refl _) _)) (by assumption)).mono ?_); rintro e wk ⟨hbc, vS, rfl, hIS⟩; obtain ⟨n9, a9, m9, c9, rfl⟩ := hIS.shape; have hL9 := dvl_step (by assumption) hbc; have hsz := Nat.le_trans (DivL.more (by assumption)).size hbc.size; first | (replace hz := hz.below hbc; have z1 := hz.cell 0; have z2 := hz.cell 1; have z3 := hz.frozen 0; have z4 := hz.frozen 1; simp only [List.getElem?_cons_zero, List.getElem?_cons_succ] at z1 z2) | (with_reducible have hq := new_row (w1 := wX9) (vals := [.bool false, .slice none 0 0]) (by first | assumption | exact Nat.le_refl _) hbc; obtain ⟨hzB, hz⟩ := hq; have z1 := hz.cell 0; have z2 := hz.cell 1; have z3 := hz.frozen 0; have z4 := hz.frozen 1; simp only [List.getElem?_cons_zero, List.getElem?_cons_succ] at z1 z2) | skip))
            all_goals
              rename_i hX
              obtain ⟨-, -, -, -, -, -, -, -, O1⟩ := hX
              go_wp2
              go_meet
              first
                | exact ⟨boxI_set hz hIS, O1⟩
                | exact ⟨BoxI.new hIS, O1⟩
          case rest =>
            obtain ⟨q11, O1⟩ := hcut
            generalize wc = wX10 at *
            have hm := O1.more
            replace i4 := i4.below hm
            replace i5 := i5.below hm
            replace i7 := i7.below hm
            obtain ⟨b9, n9, a9, m9, c9, rfl, r9, i9⟩ := q11
            have hT2 := hT.below O1.below
            have hb10 := O1.below
            have R2 := O1.r2
            have R3 := O1.r3
            have R4 := O1.r4
            have E3 := r3.lt
            have bkj := abs_lt_up N3 (show 60 ≤ 61 by decide)
            have br9 : (i + -(k * j)).natAbs < B32 ^ 123 := by
              have e1 : (k * j).natAbs < B32 ^ 122 := abs_mul_lt bkj bj61
              have e2 := abs_lt_up N1 (show 60 ≤ 122 by decide)
              have e3 : B32 ^ 123 = B32 ^ 122 * B32 := Nat.pow_succ ..
              have e4 : B32 ^ 122 * 2 ≤ B32 ^ 122 * B32 := Nat.mul_le_mul_left _ (by decide)
              generalize B32 ^ 122 = Z at *
              omega
            have bj9 := abs_lt_up bj61 (show 61 ≤ 123 by decide)
            have kE := fun X (hX : Below wX10.heap.size wX10 X) => rsame_int _ _ k (i.fdiv j) X (i5.below hX) (i7.below hX)
            clear hL hD hl kT kM kS d1 d2 d3 d4 d5 d6 d7 d8 r3 r4 r5 r7 i3 hm hbw O1
            by_cases hk : k = i.fdiv j
            · simp only [decide_eq_true hk] at kE
              clear hk
              go_wp2_with (first
                | (go_at_call 16; with_reducible refine (sane_any _ hT2).mono ?_; rintro e w3 ⟨h3, rfl⟩; have g1 := (R3.below h3).cell 0; have g2 := (R3.below h3).cell 1; have g3 := (R4.below h3).cell 0; have g4 := (R4.below h3).cell 1; simp only [List.getElem?_cons_zero, List.getElem?_cons_succ] at g1 g2 g3 g4)
                | (go_at_call 25; with_reducible refine (kE _ h3).mono ?_; rintro e w4 ⟨h4, rfl⟩))
              go_ret
              have e1 := h3.trans (h4.mono h3.size)
              exact ⟨hb10.trans (e1.mono hb10.size), rfl⟩
            · have kF := fun X (hX : Below wX10.heap.size wX10 X) => fits_any (.agg #[.bool n5, .slice a5 m5 c5]) (i + -(k * j)) j k n4 a4 m4 c4 n9 a9 m9 c9 b2 123 X (i5.below hX) (i9.below hX) (i4.below hX) (R2.below hX) (by omega) br9 bj9
              rw [show i + -(k * j) = i - k * j by omega, fits_other hk] at kF
              simp only [decide_eq_false hk] at kE
              clear hk
              go_wp2_with (first
                | (go_at_call 16; with_reducible refine (sane_any _ hT2).mono ?_; rintro e w3 ⟨h3, rfl⟩; have g1 := (R3.below h3).cell 0; have g2 := (R3.below h3).cell 1; have g3 := (R4.below h3).cell 0; have g4 := (R4.below h3).cell 1; simp only [List.getElem?_cons_zero, List.getElem?_cons_succ] at g1 g2 g3 g4)
                | (go_at_call 25; with_reducible refine (kE _ h3).mono ?_; rintro e w4 ⟨h4, rfl⟩; have e1 := h3.trans (h4.mono h3.size); clear g1 g2 g3 g4; have g1 := (R3.below e1).cell 0; have g2 := (R3.below e1).cell 1; have g3 := (r9.below e1).cell 0; have g4 := (r9.below e1).cell 1; simp only [List.getElem?_cons_zero, List.getElem?_cons_succ] at g1 g2 g3 g4)
                | (go_at_call 51; with_reducible refine (kF _ e1).mono ?_; rintro e w5 ⟨h5, rfl⟩))
              go_ret
              have e2 := e1.trans (h5.mono e1.size)
              exact ⟨hb10.trans (e2.mono hb10.size), rfl⟩

end Go.Proofs.YtlghjfpkfdnfoaaDoor

/- zermelolaw01.NumPowersAdd -/
namespace Go.Proofs.YtlghjfpkfdnfoaaDoor
open Go Go.RowKit Go.Shelf

/-- one variable that is read in a region -/
structure OneL (w1 : World) (b : Nat) (n : Bool) (a : Option Addr) (m c : Nat) (X : World) : Prop where
  r : RowAt X b 24 [.bool n, .slice a m c]
  more : Below w1.heap.size w1 X
section
variable {w1 X X' : World} {b : Nat} {n : Bool} {a : Option Addr} {m c : Nat}
theorem one_of (h : OneL w1 b n a m c X) : X.cell? ⟨b, 0, none⟩ = some (.bool n) ∧ X.cell? ⟨b, 1, none⟩ = some (.slice a m c) ∧ OneL w1 b n a m c X := ⟨h.r.cell 0, h.r.cell 1, h⟩
theorem one_step (h : OneL w1 b n a m c X) (hb : Below X.heap.size X X') : OneL w1 b n a m c X' := ⟨h.r.below hb, h.more.trans (hb.mono h.more.size)⟩
theorem one_drew (h : OneL w1 b n a m c X) : X.drew.cell? ⟨b, 0, none⟩ = some (.bool n) ∧ X.drew.cell? ⟨b, 1, none⟩ = some (.slice a m c) ∧ OneL w1 b n a m c X.drew := one_of ⟨h.r, h.more.drew⟩
theorem one_set (h : OneL w1 b n a m c X) {B : Nat} (hl : b < w1.heap.size) (hB : w1.heap.size ≤ B) (x y : Value) : OneL w1 b n a m c ((X.setCell ⟨B, 0, none⟩ x).setCell ⟨B, 1, none⟩ y) :=
  ⟨(h.r.other (show b ≠ B by omega) _).other (show b ≠ B by omega) _, (h.more.setCell hB _).setCell hB _⟩
end
theorem pow_abs_lt {i : Int} {K n L : Nat} (hi : i.natAbs < B32 ^ K) (hn : K * n < L) : (i ^ n).natAbs < B32 ^ L := by
  rw [Int.natAbs_pow]
  have h1 : i.natAbs ^ n ≤ (B32 ^ K) ^ n := Nat.pow_le_pow_left (Nat.le_of_lt hi) n
  rw [← Nat.pow_mul] at h1
  exact Nat.lt_of_le_of_lt h1 (Nat.pow_lt_pow_right (by decide) hn)
theorem isRoot_self (A : Nat) {x : Nat} (hx : x ≠ 0) : IsRoot (A ^ x) x A := ⟨Nat.le_refl _, Nat.pow_lt_pow_left (Nat.lt_succ_self A) hx⟩
theorem isRoot_small {A x r : Nat} (hx : x ≠ 0) (h : IsRoot A x r) : r ≤ A := by
  rcases Nat.eq_zero_or_pos r with h0 | h0
  · omega
  · have h1 : r ^ 1 ≤ r ^ x := Nat.pow_le_pow_right h0 (by omega)
    rw [Nat.pow_one] at h1
    exact Nat.le_trans h1 h.1

set_option maxHeartbeats 4000000 in
set_option maxRecDepth 100000 in
set_option exponentiation.threshold 20000 in
theorem powersadd_any (va : Value) (na : Bool) (xa : List Nat) (m0 : Nat) (hm0 : m0 ≤ 255) (n0 : Nat) (hn0 : n0 ≤ 255) (w : World) (ha : IntAt w va na xa) (hT : DigitsAt w) :
    Calls Tryd.prog 13 #[va, .int .u8 (m0 : Int), .int .u8 (n0 : Int)] w fun e w' => Below w.heap.size w w' ∧ e = .returned (.bool true) := by
  obtain ⟨x, hx⟩ : ∃ x, m0 % 21 = x := ⟨_, rfl⟩
  obtain ⟨y, hy⟩ : ∃ y, n0 % 21 = y := ⟨_, rfl⟩
  have hx20 : x ≤ 20 := by omega
  have hy20 : y ≤ 20 := by omega
  have hx1 : (m0 : Int) % 21 = (x : Int) := by omega
  have hy1 : (n0 : Int) % 21 = (y : Int) := by omega
  have hx2 : IntKind.u8.wrap (x : Int) = (x : Int) := by simp [IntKind.wrap, IntKind.bits, IntKind.signed]; omega
  have hy2 : IntKind.u8.wrap (y : Int) = (y : Int) := by simp [IntKind.wrap, IntKind.bits, IntKind.signed]; omega
  have hx3 : IntKind.i64.wrap (x : Int) = (x : Int) := by rw [IntKind.wrap_i64]; omega
  have hy3 : IntKind.i64.wrap (y : Int) = (y : Int) := by rw [IntKind.wrap_i64]; omega
  have hxy : IntKind.i64.wrap ((x : Int) + (y : Int)) = ((x + y : Nat) : Int) := by rw [IntKind.wrap_i64]; omega
  clear hx hy
  obtain ⟨sa, rfl, hra, hla⟩ := ha
  obtain ⟨aa, ca, rfl, hca, hma⟩ := hra.form
  go_enter Tryd.func13, Tryd.ntmps13
  go_upto_region 0 with (fail)
  go_cut [3] from 0 to 0 (fun v2 W => BoxF W v2 na xa ∧ Below w.heap.size w W)
  case first =>
    go_wp2
    go_meet
    have B1 : Below w.heap.size w (w.alloc (.cells #[.bool na, .slice aa xa.length ca] 24)) := (Below.refl _ _).alloc (Nat.le_refl _) _
    exact ⟨⟨_, aa, ca, rfl, RowAt.new w 24 [.bool na, .slice aa xa.length ca], hra.below B1⟩, B1⟩
  case rest =>
    obtain ⟨q1, hbe⟩ := hcut
    clear hra hca hma
    have hT1 := hT.below hbe
    obtain ⟨b1, a1, c1, rfl, r1, j1⟩ := q1
    have d11 := r1.cell 0
    have d12 := r1.cell 1
    simp only [List.getElem?_cons_zero, List.getElem?_cons_succ] at d11 d12
    have hnew := RowAt.new wc 24 [.bool na, .slice a1 xa.length c1]
    have hB : Below wc.heap.size wc (wc.alloc (.cells #[.bool na, .slice a1 xa.length c1] 24)) := (Below.refl _ _).alloc (Nat.le_refl _) _
    have hf := formed_list [(na, .slice a1 xa.length c1, xa)] 6 wc.heap.size _ hnew (by simp) (by
      intro it hit
      simp only [List.mem_cons, List.not_mem_nil, or_false] at hit
      subst hit
      exact ⟨j1.below hB, hla⟩)
    simp only [List.length_cons, List.length_nil] at hf
    have hsz := hbe.size
    cases hall : List.all [(na, Value.slice a1 xa.length c1, xa)] (fitB 6) with
    | false =>
      rw [hall] at hf
      clear hnew hall
      go_wp2_with (first
        | (go_at_call 50; refine hf.mono ?_; rintro e w2 ⟨hb2, rfl⟩)
        | (go_at_call 16; refine (sane_any _ ((hT1.below hB).below hb2)).mono ?_; rintro e w3 ⟨hb3, rfl⟩))
      go_ret
      have e1 := hB.trans (hb2.mono hB.size)
      have e2 := e1.trans (hb3.mono e1.size)
      exact ⟨hbe.trans (e2.mono hsz), rfl⟩
    | true =>
      rw [hall] at hf
      obtain ⟨f1, l1⟩ : formedB na xa = true ∧ xa.length ≤ 6 := by
        have := hall
        simp only [List.all_cons, List.all_nil, fitB, Bool.and_true, Bool.and_eq_true, decide_eq_true_eq] at this
        exact ⟨this.1, by omega⟩
      have HF := Lib.hid (And.intro f1 l1)
      clear hnew hall f1 l1
      go_upto_region 4 with (go_at_call 50; refine hf.mono ?_; rintro e w2 ⟨hb2, rfl⟩)
      have e1 := hB.trans (hb2.mono hB.size)
      obtain ⟨f1, l1⟩ := HF.out
      have i1 := (IntAt.isInt ⟨_, rfl, j1.below e1, hla⟩ f1 : IsInt w2 (.agg #[.bool na, .slice a1 xa.length c1]) (sgn na (val xa)))
      have n6 : (sgn na (val xa)).natAbs < B32 ^ 6 := by rw [sgn_natAbs]; exact (canon_length_iff (formedB_bounds hla f1).1 6).1 l1
      replace r1 := r1.below e1
      replace hbe := hbe.trans (e1.mono hsz)
      have hi : na = false → sgn na (val xa) = ((val xa : Nat) : Int) := fun h => by rw [h]; rfl
      clear HF hf l1 f1 d11 d12 hb2 hB e1 j1 hsz hT1 hla
      generalize sgn na (val xa) = i at *
      generalize val xa = A at *
      generalize xa.length = m1 at *
      generalize w2 = wX0 at *
      have hpq : i ^ (x + y) = i ^ x * i ^ y := Int.pow_add i x y
      have HQ := Lib.hid (And.intro hpq hi)
      have BP : (i ^ x).natAbs < B32 ^ 300 := pow_abs_lt n6 (by omega)
      have BQ : (i ^ y).natAbs < B32 ^ 300 := pow_abs_lt n6 (by omega)
      have BM : (i ^ x * i ^ y).natAbs < B32 ^ 300 := by rw [← hpq]; exact pow_abs_lt n6 (by omega)
      have n7 := abs_lt_up n6 (show 6 ≤ 7 by decide)
      have BPx : (i ^ x).natAbs < B32 ^ 250 := pow_abs_lt n6 (by omega)
      clear hpq hi
      go_cut [9, 10] from 34 to 39 (fun v k W => k = .int .i64 0 ∧ BoxI W v (i ^ x) ∧ Below wX0.heap.size wX0 W)
      case first =>
        have g1a := r1.cell 0
        have g1b := r1.cell 1
        simp only [List.getElem?_cons_zero, List.getElem?_cons_succ] at g1a g1b
        have C := pow_int _ i x wX0 i1 n7 (by omega)
        go_wp2_with (go_at_call 37; with_reducible refine C.mono ?_; rintro e w3 ⟨hb3, v3, rfl, hi3⟩; obtain ⟨n3, s3, m3, q3, rfl⟩ := hi3.shape)
        go_meet
        exact ⟨rfl, BoxI.new hi3, hb3.trans (((Below.refl _ _).alloc (Nat.le_refl _) _).mono hb3.size)⟩
      case rest =>
        obtain ⟨rfl, ⟨b9, n9, a9, m9, c9, rfl, r9, i9⟩, hB⟩ := hcut
        replace r1 := r1.below hB
        replace i1 := i1.below hB
        replace hbe := hbe.trans (hB.mono hbe.size)
        clear hB
        generalize wc = wX1 at *
        go_upto_region 5 with (fail)
        go_cut [11, 12] from 40 to 45 (fun v k W => k = .int .i64 0 ∧ BoxI W v (i ^ y) ∧ Below wX1.heap.size wX1 W)
        case first =>
          have g1a := r1.cell 0
          have g1b := r1.cell 1
          simp only [List.getElem?_cons_zero, List.getElem?_cons_succ] at g1a g1b
          have C := pow_int _ i y wX1 i1 n7 (by omega)
          go_wp2_with (go_at_call 37; with_reducible refine C.mono ?_; rintro e w3 ⟨hb3, v3, rfl, hi3⟩; obtain ⟨n3, s3, m3, q3, rfl⟩ := hi3.shape)
          go_meet
          exact ⟨rfl, BoxI.new hi3, hb3.trans (((Below.refl _ _).alloc (Nat.le_refl _) _).mono hb3.size)⟩
        case rest =>
          obtain ⟨rfl, ⟨b11, n11, a11, m11, c11, rfl, r11, i11⟩, hB⟩ := hcut
          replace r1 := r1.below hB
          replace i1 := i1.below hB
          replace r9 := r9.below hB
          replace i9 := i9.below hB
          replace hbe := hbe.trans (hB.mono hbe.size)
          clear hB
          generalize wc = wX2 at *
          go_upto_region 6 with (fail)
          go_cut [13, 14] from 46 to 53 (fun v k W => k = .int .i64 0 ∧ BoxI W v (i ^ (x + y)) ∧ Below wX2.heap.size wX2 W)
          case first =>
            have g1a := r1.cell 0
            have g1b := r1.cell 1
            simp only [List.getElem?_cons_zero, List.getElem?_cons_succ] at g1a g1b
            have C := pow_int _ i (x + y) wX2 i1 n7 (by omega)
            rw [Int.natCast_add] at C
            go_wp2_with (go_at_call 37; with_reducible refine C.mono ?_; rintro e w3 ⟨hb3, v3, rfl, hi3⟩; obtain ⟨n3, s3, m3, q3, rfl⟩ := hi3.shape)
            go_meet
            exact ⟨rfl, BoxI.new hi3, hb3.trans (((Below.refl _ _).alloc (Nat.le_refl _) _).mono hb3.size)⟩
          case rest =>
            obtain ⟨rfl, ⟨b13, n13, a13, m13, c13, rfl, r13, i13⟩, hB⟩ := hcut
            replace r1 := r1.below hB
            replace i1 := i1.below hB
            replace r9 := r9.below hB
            replace i9 := i9.below hB
            replace r11 := r11.below hB
            replace i11 := i11.below hB
            replace hbe := hbe.trans (hB.mono hbe.size)
            clear hB
            generalize wc = wX3 at *
            go_upto_region 7 with (fail)
            go_cut [15, 16] from 54 to 59 (fun v k W => k = .int .i64 0 ∧ BoxI W v (i ^ x * i ^ y) ∧ Below wX3.heap.size wX3 W)
            case first =>
              have g9a := r9.cell 0
              have g9b := r9.cell 1
              simp only [List.getElem?_cons_zero, List.getElem?_cons_succ] at g9a g9b
              have g11a := r11.cell 0
              have g11b := r11.cell 1
              simp only [List.getElem?_cons_zero, List.getElem?_cons_succ] at g11a g11b
              have C := mul_all _ _ (i ^ x) (i ^ y) wX3 i9 i11 BP BQ BM
              go_wp2_with (go_at_call 30; with_reducible refine C.mono ?_; rintro e w3 ⟨hb3, v3, rfl, hi3⟩; obtain ⟨n3, s3, m3, q3, rfl⟩ := hi3.shape)
              go_meet
              exact ⟨rfl, BoxI.new hi3, hb3.trans (((Below.refl _ _).alloc (Nat.le_refl _) _).mono hb3.size)⟩
            case rest =>
              obtain ⟨rfl, ⟨b15, n15, a15, m15, c15, rfl, r15, i15⟩, hB⟩ := hcut
              replace r1 := r1.below hB
              replace i1 := i1.below hB
              replace r9 := r9.below hB
              replace i9 := i9.below hB
              replace r11 := r11.below hB
              replace i11 := i11.below hB
              replace r13 := r13.below hB
              replace i13 := i13.below hB
              replace hbe := hbe.trans (hB.mono hbe.size)
              clear hB
              generalize wc = wX4 at *
              rw [← HQ.out.1] at i15
              go_upto_region 8 with (fail)
              go_cut [79] from 60 to 79 (fun v W => v = .bool false ∧ Below wX4.heap.size wX4 W)
              case first =>
                have g13a := r13.cell 0
                have g13b := r13.cell 1
                have g15a := r15.cell 0
                have g15b := r15.cell 1
                simp only [List.getElem?_cons_zero, List.getElem?_cons_succ] at g13a g13b g15a g15b
                have C := rsame_eq _ _ _ wX4 i13 i15
                go_wp2_with (go_at_call 25; with_reducible refine C.mono ?_; rintro e w3 ⟨hb3, rfl⟩)
                go_meet
                exact ⟨rfl, hb3⟩
              case rest =>
                obtain ⟨rfl, hB⟩ := hcut
                replace r1 := r1.below hB
                replace i1 := i1.below hB
                replace r9 := r9.below hB
                replace i9 := i9.below hB
                replace hbe := hbe.trans (hB.mono hbe.size)
                clear hB r11 r13 r15 i11 i13 i15
                generalize wc = wX5 at *
                go_upto_region 10 with (fail)
                go_cut [85] from 80 to 85 (fun v W => v = .bool (decide (x = 0) || na) ∧ Below wX5.heap.size wX5 W)
                case first =>
                  have g1a := r1.cell 0
                  simp only [List.getElem?_cons_zero] at g1a
                  by_cases h0 : x = 0
                  · have h00 : ((x : Int) == 0) = true := by simp [h0]
                    have HX := Lib.hid h0
                    clear h0
                    go_wp2
                    go_meet
                    exact ⟨by rw [decide_eq_true HX.out]; rfl, Below.refl _ _⟩
                  · have h00 : ((x : Int) == 0) = false := by simp [h0]
                    have HX := Lib.hid h0
                    clear h0
                    go_wp2
                    go_meet
                    exact ⟨by rw [decide_eq_false HX.out]; rfl, Below.refl _ _⟩
                case rest =>
                  obtain ⟨rfl, hB⟩ := hcut
                  replace r1 := r1.below hB
                  replace i1 := i1.below hB
                  replace r9 := r9.below hB
                  replace i9 := i9.below hB
                  replace hbe := hbe.trans (hB.mono hbe.size)
                  clear hB
                  generalize wc = wX6 at *
                  cases hc : (decide (x = 0) || na) with
                  | true =>
                    clear hc
                    go_wp2_with (go_at_call 16; with_reducible refine (sane_any _ (hT.below hbe)).mono ?_; rintro e w3 ⟨hb3, rfl⟩)
                    go_ret
                    exact ⟨hbe.trans (hb3.mono hbe.size), rfl⟩
                  | false =>
                    obtain ⟨hx0, hna⟩ : x ≠ 0 ∧ na = false := by
                      simp only [Bool.or_eq_false_iff, decide_eq_false_iff_not] at hc
                      exact hc
                    have hiA := HQ.out.2 hna
                    have hpA : i ^ x = ((A ^ x : Nat) : Int) := by rw [hiA]; simp
                    have HX := Lib.hid (And.intro hx0 (And.intro hiA hpA))
                    clear hc hx0 hna hiA HQ BP BQ BM
                    go_upto_region 12 with (fail)
                    go_cut [17, 10] from 87 to 92 (fun v k W => k = .int .i64 0 ∧ BoxI W v ((A : Int)) ∧ Below wX6.heap.size wX6 W)
                    case first =>
                      have g9a := r9.cell 0
                      have g9b := r9.cell 1
                      simp only [List.getElem?_cons_zero, List.getElem?_cons_succ] at g9a g9b
                      have C := root_int _ (A ^ x) (x - 1) wX6 (by rw [← HX.out.2.2]; exact i9) (by have := BPx; rw [HX.out.2.2, Int.natAbs_natCast] at this; exact this) (by omega)
                      rw [show (((x - 1 : Nat) : Int) + 1) = (x : Int) by have := HX.out.1; omega, show x - 1 + 1 = x by have := HX.out.1; omega] at C
                      clear hpA
                      go_wp2_with (go_at_call 38; with_reducible refine C.mono ?_; rintro e w3 ⟨hb3, v3, r, rfl, hi3, hr3⟩; obtain ⟨n3, s3, m3, q3, rfl⟩ := hi3.shape)
                      go_meet
                      exact ⟨rfl, by rw [isRoot_unique hr3 (isRoot_self A HX.out.1)] at hi3; exact BoxI.new hi3, hb3.trans (((Below.refl _ _).alloc (Nat.le_refl _) _).mono hb3.size)⟩
                    case rest =>
                      obtain ⟨rfl, ⟨b17, n17, a17, m17, c17, rfl, r17, i17⟩, hB⟩ := hcut
                      replace r1 := r1.below hB
                      replace i1 := i1.below hB
                      replace r9 := r9.below hB
                      replace i9 := i9.below hB
                      replace hbe := hbe.trans (hB.mono hbe.size)
                      clear hB
                      generalize wc = wX7 at *
                      clear r9 i9
                      go_upto_region 13 with (fail)
                      go_cut [18, 12] from 93 to 98 (fun v k W => k = .int .i64 0 ∧ (∃ S : Nat, BoxI W v (S : Int) ∧ IsRoot A x S) ∧ Below wX7.heap.size wX7 W)
                      case first =>
                        have g1a := r1.cell 0
                        have g1b := r1.cell 1
                        simp only [List.getElem?_cons_zero, List.getElem?_cons_succ] at g1a g1b
                        have C := root_int _ A (x - 1) wX7 (by rw [← HX.out.2.1]; exact i1) (by have := abs_lt_up n6 (show 6 ≤ 250 by decide); rw [HX.out.2.1, Int.natAbs_natCast] at this; exact this) (by omega)
                        rw [show (((x - 1 : Nat) : Int) + 1) = (x : Int) by have := HX.out.1; omega, show x - 1 + 1 = x by have := HX.out.1; omega] at C
                        clear hpA
                        go_wp2_with (go_at_call 38; with_reducible refine C.mono ?_; rintro e w3 ⟨hb3, v3, r, rfl, hi3, hr3⟩; obtain ⟨n3, s3, m3, q3, rfl⟩ := hi3.shape)
                        go_meet
                        exact ⟨rfl, ⟨r, BoxI.new hi3, hr3⟩, hb3.trans (((Below.refl _ _).alloc (Nat.le_refl _) _).mono hb3.size)⟩
                      case rest =>
                        obtain ⟨rfl, ⟨S, ⟨b18, n18, a18, m18, c18, rfl, r18, i18⟩, hS⟩, hB⟩ := hcut
                        replace r1 := r1.below hB
                        replace i1 := i1.below hB
                        replace r17 := r17.below hB
                        replace i17 := i17.below hB
                        replace hbe := hbe.trans (hB.mono hbe.size)
                        clear hB
                        generalize wc = wX8 at *
                        have hSA := isRoot_small HX.out.1 hS
                        have nA : A < B32 ^ 6 := by have := n6; rw [HX.out.2.1, Int.natAbs_natCast] at this; exact this
                        have h67 : B32 ^ 6 < B32 ^ 7 := Nat.pow_lt_pow_right (by decide) (by decide)
                        have nS : (S : Int).natAbs < B32 ^ 7 := by rw [Int.natAbs_natCast]; omega
                        have nT : ((S : Int) + 1).natAbs < B32 ^ 7 := by omega
                        have HS := Lib.hid (And.intro hS (And.intro nA nT))
                        clear hS hSA h67 nA hpA
                        go_upto_region 14 with (fail)
                        go_cut [19, 14] from 99 to 104 (fun v k W => k = .int .i64 0 ∧ BoxI W v ((S : Int) ^ x) ∧ Below wX8.heap.size wX8 W)
                        case first =>
                          have g18a := r18.cell 0
                          have g18b := r18.cell 1
                          simp only [List.getElem?_cons_zero, List.getElem?_cons_succ] at g18a g18b
                          have C := pow_int _ (S : Int) x wX8 i18 nS (by omega)
                          go_wp2_with (go_at_call 37; with_reducible refine C.mono ?_; rintro e w3 ⟨hb3, v3, rfl, hi3⟩; obtain ⟨n3, s3, m3, q3, rfl⟩ := hi3.shape)
                          go_meet
                          exact ⟨rfl, BoxI.new hi3, hb3.trans (((Below.refl _ _).alloc (Nat.le_refl _) _).mono hb3.size)⟩
                        case rest =>
                          obtain ⟨rfl, ⟨b19, n19, a19, m19, c19, rfl, r19, i19⟩, hB⟩ := hcut
                          replace r1 := r1.below hB
                          replace i1 := i1.below hB
                          replace r17 := r17.below hB
                          replace i17 := i17.below hB
                          replace r18 := r18.below hB
                          replace i18 := i18.below hB
                          replace hbe := hbe.trans (hB.mono hbe.size)
                          clear hB
                          generalize wc = wX9 at *
                          go_upto_region 15 with (fail)
                          go_cut [20, 16] from 105 to 110 (fun v k W => k = .int .i64 0 ∧ BoxI W v ((S : Int) + 1) ∧ Below wX9.heap.size wX9 W)
                          case first =>
                            have hL : OneL wX9 b18 n18 a18 m18 c18 wX9 := ⟨r18, Below.refl _ _⟩
                            have hD := Lib.hid (one_drew hL)
                            have hl := Lib.hid r18.lt
                            obtain ⟨g18a, g18b, -⟩ := one_of hL
                            have kO := fun X => rof_int 1 X (by decide) (by decide)
                            have kA := fun X v (hX : OneL wX9 b18 n18 a18 m18 c18 X) (hv : IsInt X v 1) => sum_int _ v (S : Int) 1 X (i18.below hX.more) hv (abs_lt_up nS (by decide)) (Nat.one_lt_pow (by decide) (by decide)) (abs_lt_up nT (by decide))
                            have hsz0 : wX9.heap.size ≤ wX9.drew.heap.size := Nat.le_refl _
                            clear i1 i17 i18 i19 n6 n7 nS nT
                            go_region_held3 (fun X => X.cell? ⟨b18, 0, none⟩ = some (.bool n18) ∧ X.cell? ⟨b18, 1, none⟩ = some (.slice a18 m18 c18) ∧ OneL wX9 b18 n18 a18 m18 c18 X)
                              (first | exact hD.out | (go_split_ands; exact one_of (one_step (by assumption) hbc)) | (go_split_ands; exact one_of (one_step (by assumption) ((Below.refl _ _).alloc (Nat.le_refl _) _))) | (go_split_ands; exact one_of (one_set (by assumption) hl.out hzB _ _)))
                              (first
                                | (go_at_call 27; go_split_ands; with_reducible refine (kO _).mono ?_; rintro e wk ⟨hbc, vO, rfl, hIO⟩; have hsz := Nat.le_trans (OneL.more (by assumption)).size hbc.size; first | (with_reducible have hq := new_row (w1 := wX9) (vals := [.bool false, .slice none 0 0]) (by first | assumption | exact Nat.le_refl _) hbc; obtain ⟨hzB, hz⟩ := hq) | (with_reducible have hq := new_rowd (w1 := wX9) (vals := [.bool false, .slice none 0 0]) (Nat.le_refl _) hbc; obtain ⟨hzB, hz⟩ := hq) | skip)
                                | (go_at_call 28; go_split_ands; (first | with_reducible refine (kA _ _ (by assumption) hIO).mono ?_ | with_reducible refine (kA _ _ (by assumption) (hIO.below ((Below.refl _ _).alloc (Nat.le_refl _) _))).mono ?_); rintro e wk ⟨hbc, vS, rfl, hIS⟩; obtain ⟨n99, a99, m99, c99, rfl⟩ := hIS.shape; have hL9 := one_step (by assumption) hbc; have hsz := Nat.le_trans (OneL.more (by assumption)).size hbc.size; first | (replace hz := hz.below hbc; have z1 := hz.cell 0; have z2 := hz.cell 1; have z3 := hz.frozen 0; have z4 := hz.frozen 1; simp only [List.getElem?_cons_zero, List.getElem?_cons_succ] at z1 z2) | (with_reducible have hq := new_row (w1 := wX9) (vals := [.bool false, .slice none 0 0]) (by first | assumption | exact Nat.le_refl _) hbc; obtain ⟨hzB, hz⟩ := hq; have z1 := hz.cell 0; have z2 := hz.cell 1; have z3 := hz.frozen 0; have z4 := hz.frozen 1; simp only [List.getElem?_cons_zero, List.getElem?_cons_succ] at z1 z2) | skip))
                            all_goals
                              rename_i hX
                              obtain ⟨-, -, O1⟩ := hX
                              go_wp2
                              go_meet
                              first
                                | exact ⟨rfl, boxI_set hz hIS, O1.more⟩
                                | exact ⟨rfl, BoxI.new hIS, O1.more⟩
                          case rest =>
                            obtain ⟨rfl, ⟨b20, n20, a20, m20, c20, rfl, r20, i20⟩, hB⟩ := hcut
                            replace r1 := r1.below hB
                            replace i1 := i1.below hB
                            replace r17 := r17.below hB
                            replace i17 := i17.below hB
                            replace r19 := r19.below hB
                            replace i19 := i19.below hB
                            replace hbe := hbe.trans (hB.mono hbe.size)
                            clear hB r18 i18
                            generalize wc = wX10 at *
                            go_upto_region 16 with (fail)
                            go_cut [21, 22] from 111 to 116 (fun v k W => k = .int .i64 0 ∧ BoxI W v (((S : Int) + 1) ^ x) ∧ Below wX10.heap.size wX10 W)
                            case first =>
                              have g20a := r20.cell 0
                              have g20b := r20.cell 1
                              simp only [List.getElem?_cons_zero, List.getElem?_cons_succ] at g20a g20b
                              have C := pow_int _ ((S : Int) + 1) x wX10 i20 nT (by omega)
                              go_wp2_with (go_at_call 37; with_reducible refine C.mono ?_; rintro e w3 ⟨hb3, v3, rfl, hi3⟩; obtain ⟨n3, s3, m3, q3, rfl⟩ := hi3.shape)
                              go_meet
                              exact ⟨rfl, BoxI.new hi3, hb3.trans (((Below.refl _ _).alloc (Nat.le_refl _) _).mono hb3.size)⟩
                            case rest =>
                              obtain ⟨rfl, ⟨b21, n21, a21, m21, c21, rfl, r21, i21⟩, hB⟩ := hcut
                              replace r1 := r1.below hB
                              replace i1 := i1.below hB
                              replace r17 := r17.below hB
                              replace i17 := i17.below hB
                              replace r19 := r19.below hB
                              replace i19 := i19.below hB
                              replace r20 := r20.below hB
                              replace i20 := i20.below hB
                              replace hbe := hbe.trans (hB.mono hbe.size)
                              clear hB
                              generalize wc = wX11 at *
                              go_upto_region 17 with (fail)
                              go_cut [134] from 117 to 134 (fun v W => v = .bool false ∧ Below wX11.heap.size wX11 W)
                              case first =>
                                go_wp2
                                go_meet
                                exact ⟨rfl, Below.refl _ _⟩
                              case rest =>
                                obtain ⟨rfl, hB⟩ := hcut
                                replace r1 := r1.below hB
                                replace i1 := i1.below hB
                                replace r17 := r17.below hB
                                replace i17 := i17.below hB
                                replace r19 := r19.below hB
                                replace i19 := i19.below hB
                                replace r21 := r21.below hB
                                replace i21 := i21.below hB
                                replace hbe := hbe.trans (hB.mono hbe.size)
                                clear hB r20 i20
                                generalize wc = wX12 at *
                                obtain ⟨hS, nA, -⟩ := HS.out
                                obtain ⟨hx0, hiA, -⟩ := HX.out
                                have hle : (S : Int) ^ x ≤ (A : Int) := by have := hS.1; rw [← Int.natCast_pow]; omega
                                have hlt : (A : Int) < ((S : Int) + 1) ^ x := by have := hS.2; rw [show (S : Int) + 1 = ((S + 1 : Nat) : Int) by omega, ← Int.natCast_pow]; omega
                                have c1' : cmpI ((S : Int) ^ x) i ≤ 0 := by rw [hiA]; unfold cmpI; (repeat' split) <;> omega
                                have c2' : cmpI i (((S : Int) + 1) ^ x) = -1 := by rw [hiA]; unfold cmpI; rw [if_pos hlt]
                                have bA : i.natAbs < B32 ^ 300 := abs_lt_up n6 (by decide)
                                have kE := fun X (hX : Below wX12.heap.size wX12 X) => rsame_eq _ _ i X (by rw [hiA]; exact i17.below hX) (i1.below hX)
                                have kC := fun X (hX : Below wX12.heap.size wX12 X) => compare_int _ _ ((S : Int) ^ x) i X (i19.below hX) (i1.below hX) (pow_abs_lt nS (show 7 * x < 300 by omega)) bA
                                have kD := fun X (hX : Below wX12.heap.size wX12 X) => compare_int _ _ i (((S : Int) + 1) ^ x) X (i1.below hX) (i21.below hX) bA (pow_abs_lt nT (show 7 * x < 300 by omega))
                                rw [c2'] at kD
                                generalize cmpI ((S : Int) ^ x) i = c9 at *
                                have DT := hT.below hbe
                                clear hle hlt c2' hS nA hx0 hiA HS HX i1 i17 i19 i21 n6 n7 nS nT bA BPx
                                go_wp2_with (first
                                  | (go_at_call 16; with_reducible refine (sane_any _ DT).mono ?_; rintro e w3 ⟨h3, rfl⟩; have g1 := (r17.below h3).cell 0; have g2 := (r17.below h3).cell 1; have g3 := (r1.below h3).cell 0; have g4 := (r1.below h3).cell 1; simp only [List.getElem?_cons_zero, List.getElem?_cons_succ] at g1 g2 g3 g4)
                                  | (go_at_call 25; with_reducible refine (kE _ h3).mono ?_; rintro e w4 ⟨h4, rfl⟩; have e4 := h3.trans (h4.mono h3.size); clear g1 g2 g3 g4; have g1 := (r19.below e4).cell 0; have g2 := (r19.below e4).cell 1; have g3 := (r1.below e4).cell 0; have g4 := (r1.below e4).cell 1; simp only [List.getElem?_cons_zero, List.getElem?_cons_succ] at g1 g2 g3 g4)
                                  | (go_at_call 18; with_reducible refine (kC _ e4).mono ?_; rintro e w5 ⟨h5, rfl⟩; have e5 := e4.trans (h5.mono e4.size); clear g1 g2 g3 g4; have g1 := (r21.below e5).cell 0; have g2 := (r21.below e5).cell 1; have g3 := (r1.below e5).cell 0; have g4 := (r1.below e5).cell 1; simp only [List.getElem?_cons_zero, List.getElem?_cons_succ] at g1 g2 g3 g4)
                                  | (go_at_call 18; with_reducible refine (kD _ e5).mono ?_; rintro e w6 ⟨h6, rfl⟩))
                                go_ret
                                have e6 := e5.trans (h6.mono e5.size)
                                exact ⟨hbe.trans (e6.mono hbe.size), rfl⟩

end Go.Proofs.YtlghjfpkfdnfoaaDoor

/- zermeloref01.power -/
namespace Go.Proofs.YtlghjfpkfdnfoaaDoor
open Go Go.RowKit Go.Shelf

/-- the variables of power -/
structure PwS (w w1 : World) (n0 : Bool) (a0 : Option Addr) (m0 c0 : Nat) (n1 : Bool) (a1 : Option Addr) (m1 c1 : Nat) (X : World) : Prop where
  ra : RowAt X w.heap.size 24 [.bool n0, .slice a0 m0 c0]
  rr : RowAt X (w.heap.size + 1) 24 [.bool false, .slice none 0 0]
  ro : RowAt X w1.heap.size 24 [.bool n1, .slice a1 m1 c1]
  below : Below w.heap.size w X
  more : Below w1.heap.size w1 X
  lt : w.heap.size + 1 < w1.heap.size
section
variable {w w1 X X' : World} {n0 n1 : Bool} {a0 a1 : Option Addr} {m0 c0 m1 c1 : Nat}
theorem PwS.step (h : PwS w w1 n0 a0 m0 c0 n1 a1 m1 c1 X) (hb : Below X.heap.size X X') : PwS w w1 n0 a0 m0 c0 n1 a1 m1 c1 X' := ⟨h.ra.below hb, h.rr.below hb, h.ro.below hb, h.below.trans (hb.mono h.below.size), h.more.trans (hb.mono h.more.size), h.lt⟩
theorem PwS.set (h : PwS w w1 n0 a0 m0 c0 n1 a1 m1 c1 X) (n : Bool) (a : Option Addr) (m c : Nat) : PwS w w1 n0 a0 m0 c0 n a m c ((X.setCell ⟨w1.heap.size, 0, none⟩ (.bool n)).setCell ⟨w1.heap.size, 1, none⟩ (.slice a m c)) := by
  have hl := h.lt
  exact ⟨(h.ra.other (show w.heap.size ≠ w1.heap.size by omega) _).other (show w.heap.size ≠ w1.heap.size by omega) _, (h.rr.other (show w.heap.size + 1 ≠ w1.heap.size by omega) _).other (show w.heap.size + 1 ≠ w1.heap.size by omega) _, (h.ro.set 0 (.bool n)).set 1 (.slice a m c), (h.below.setCell (show w.heap.size ≤ w1.heap.size by omega) _).setCell (show w.heap.size ≤ w1.heap.size by omega) _, (h.more.setCell (Nat.le_refl _) _).setCell (Nat.le_refl _) _, h.lt⟩
end
/-- at a round's head -/
def PwR (w w1 : World) (n0 : Bool) (a0 : Option Addr) (m0 c0 : Nat) (i : Int) (n : Nat) (v : Value) (W : World) : Prop := ∃ k n1 a1 m1 c1, k ≤ n ∧ v = .int .i64 (k : Int) ∧ PwS w w1 n0 a0 m0 c0 n1 a1 m1 c1 W ∧ IsInt W (.agg #[.bool n1, .slice a1 m1 c1]) (i ^ k) ∧ IsInt W (.agg #[.bool n0, .slice a0 m0 c0]) i

set_option maxHeartbeats 4000000 in
set_option maxRecDepth 100000 in
set_option exponentiation.threshold 100000 in
theorem rpower_int (va : Value) (i : Int) (n K : Nat) (w : World) (ha : IsInt w va i) (hi : i.natAbs < B32 ^ K) (hn : n ≤ 100) (hK : K * n < 90000) (hK0 : K < 90000) :
    Calls Tryd.prog 81 #[va, .int .i64 (n : Int)] w fun e w' => Below w.heap.size w w' ∧ ∃ v, e = .returned v ∧ IsInt w' v (i ^ n) := by
  obtain ⟨n0, a0, m0, c0, rfl⟩ := ha.shape
  have b1 := (Below.refl w.heap.size w).alloc (Nat.le_refl _) (.cells #[.bool n0, .slice a0 m0 c0] 24)
  have b2 := b1.alloc b1.size (.cells #[.bool false, .slice none 0 0] 24)
  have q1 := (RowAt.new w 24 [.bool n0, .slice a0 m0 c0]).alloc (.cells #[.bool false, .slice none 0 0] 24)
  have q2 := RowAt.new (w.alloc (.cells #[.bool n0, .slice a0 m0 c0] 24)) 24 [.bool false, .slice none 0 0]
  simp only [World.size_alloc] at q2
  have kO := fun X => rof_int 1 X (by decide) (by decide)
  have ha2 := ha.below b2
  clear ha b1
  go_enter Tryd.func81, Tryd.ntmps81
  go_wp2_with (go_at_call 27; refine (kO _).mono ?_; rintro e w1 ⟨hb1, v1, rfl, hI⟩; obtain ⟨n1, a1, m1, c1, rfl⟩ := hI.shape)
  have hal := (Below.refl w1.heap.size w1).alloc (Nat.le_refl _) (.cells #[.bool n1, .slice a1 m1 c1] 24)
  have hg := hb1.trans (hal.mono hb1.size)
  have hst : PwR w w1 n0 a0 m0 c0 i n (.int .i64 0) (w1.alloc (.cells #[.bool n1, .slice a1 m1 c1] 24)) := ⟨0, n1, a1, m1, c1, Nat.zero_le _, rfl, ⟨q1.below hg, q2.below hg, RowAt.new w1 24 [.bool n1, .slice a1 m1 c1], b2.trans (hg.mono b2.size), hal, by have := hb1.size; simp at this; omega⟩, by rw [Int.pow_zero]; exact hI.below hal, ha2.below hg⟩
  have HS := Lib.hid hst
  clear hst hg hal hI hb1 q1 q2 b2 ha2 kO
  generalize w1.alloc (.cells #[.bool n1, .slice a1 m1 c1] 24) = W1 at *
  go_loopw [6] (fun v W => PwR w w1 n0 a0 m0 c0 i n v W) (fun v _ => n - (intOf v).toNat)
  case atStart => exact HS.out
  case round =>
    clear HS
    obtain ⟨k, n2, a2, m2, c2, hk, rfl, hS, hx, hy⟩ := hrel
    have d1 := hS.ra.cell 0
    have d2 := hS.ra.cell 1
    have d3 := hS.ro.cell 0
    have d4 := hS.ro.cell 1
    simp only [List.getElem?_cons_zero, List.getElem?_cons_succ] at d1 d2 d3 d4
    by_cases hkn : k < n
    · have bk : (i ^ k).natAbs < B32 ^ 90000 := pow_abs_lt hi (Nat.lt_of_le_of_lt (Nat.mul_le_mul_left K hk) hK)
      have kT := rtimes_int _ _ (i ^ k) i wr hx hy bk (abs_lt_up hi (Nat.le_of_lt hK0))
      rw [← Int.pow_succ] at kT
      have e1 : decide ((k : Int) < (n : Int)) = true := decide_eq_true (by omega)
      have e2 : decide (k < n) = true := decide_eq_true hkn
      have HN := Lib.hid (And.intro hkn (And.intro hk hn))
      clear bk hi hK hK0 hkn hk hn hx
      go_wp2_with (go_at_call 45; with_reducible refine kT.mono ?_; rintro e w3 ⟨hb3, v3, rfl, hJ⟩; obtain ⟨n5, a5, m5, c5, rfl⟩ := hJ.shape; have hS3 := hS.step hb3; have s1 := hS3.ro.cell 0; have s2 := hS3.ro.cell 1; have s3 := hS3.ro.frozen 0; have s4 := hS3.ro.frozen 1; simp only [List.getElem?_cons_zero, List.getElem?_cons_succ] at s1 s2)
      obtain ⟨hkn, hk, hn⟩ := HN.out
      have hw : wrap64 ((k : Int) + 1) = ((k + 1 : Nat) : Int) := by unfold wrap64; omega
      have hkp := fun v xs h => two_kept (v := v) (xs := xs) (b := w1.heap.size) h s1 s2 (.bool n5) (.slice a5 m5 c5)
      go_roundw
      case rel => exact ⟨k + 1, n5, a5, m5, c5, hkn, by rw [hw], hS3.set n5 a5 m5 c5, hJ.keep hkp, (hy.below hb3).keep hkp⟩
      case measure =>
        rw [hw]
        simp only [intOf, Int.toNat_natCast]
        omega
    · obtain rfl : k = n := by omega
      have e1 : decide ((k : Int) < (k : Int)) = false := decide_eq_false (by omega)
      have s1 := hS.rr.cell 0
      have s2 := hS.rr.cell 1
      have s3 := hS.rr.frozen 0
      have s4 := hS.rr.frozen 1
      simp only [List.getElem?_cons_zero, List.getElem?_cons_succ] at s1 s2
      have hb := hS.below
      have hkp := fun v xs h => two_kept (v := v) (xs := xs) (b := w.heap.size + 1) h s1 s2 (.bool n2) (.slice a2 m2 c2)
      have hx' := hx.keep hkp
      obtain ⟨u1, u2⟩ := two_reads (b := w.heap.size + 1) s1 s2 (.bool n2) (.slice a2 m2 c2)
      clear hk hkn hx hy hS hi hK hK0 hn
      go_wp2_with fail
      exact bodyPost_ret (v := .agg #[.bool n2, .slice a2 m2 c2]) (by simp [results, Tryd.results81, go_sem, loadCellsFrom, u1, u2]) rfl ⟨(hb.setCell (show w.heap.size ≤ w.heap.size + 1 by omega) _).setCell (show w.heap.size ≤ w.heap.size + 1 by omega) _, _, rfl, hx'⟩
end Go.Proofs.YtlghjfpkfdnfoaaDoor
