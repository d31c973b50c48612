/- num.Gcd of arguments that are not formed -/
import Derived.Test.YtlghjfpkfdnfoaaDoorNumMRangeSt
import Derived.Test.YtlghjfpkfdnfoaaDoorNumMTo
import Derived.Test.YtlghjfpkfdnfoaaDoorNumMDivideSmall
import Derived.Test.YtlghjfpkfdnfoaaDoorNumMVals2
import Derived.Test.YtlghjfpkfdnfoaaDoorNumMRefOf
namespace Go.Proofs.YtlghjfpkfdnfoaaDoor
open Go Go.RowKit Go.Shelf

set_option maxHeartbeats 1000000 in
set_option maxRecDepth 100000 in
theorem gcd1_bad (B : Nat) (na nb : Bool) (aa ab : Option Addr) (ca cb : Nat) (xa xb : List Nat) (w : World) (hra : RowAt w B 24 [.bool na, .slice aa xa.length ca]) (hrb : RowAt w (B + 1) 24 [.bool nb, .slice ab xb.length cb])
    (ha : Reads .u32 w (.slice aa xa.length ca) xa) (hb : Reads .u32 w (.slice ab xb.length cb) xb) (hla : Limbs xa) (hlb : Limbs xb) (hf : (formedB na xa && formedB nb xb) = false) :
    Calls Tryd.prog 82 #[.pointer (some ⟨B, 0, none⟩), .pointer (some ⟨B + 1, 0, none⟩), .pointer (some ⟨B + 2, 0, none⟩), .pointer (some ⟨B + 3, 0, none⟩), .pointer (some ⟨B + 4, 0, none⟩)] w fun e w' => Below w.heap.size w w' ∧ e = .panicked [{ v := .iface 27 (.int .i64 1), recovered := false }] := by
  have a0 := hra.cell 0
  have a1 := hra.cell 1
  have b0 := hrb.cell 0
  have b1 := hrb.cell 1
  simp only [List.getElem?_cons_zero, List.getElem?_cons_succ] at a0 a1 b0 b1
  have r0' := RowAt.new w 24 [.bool na, .slice aa xa.length ca, .bool nb, .slice ab xb.length cb]
  have bw := (Below.refl w.heap.size w).alloc (Nat.le_refl _) (.cells #[.bool na, .slice aa xa.length ca, .bool nb, .slice ab xb.length cb] 24)
  cases fa : formedB na xa with
  | false =>
    clear hf
    go_enter Tryd.func82, Tryd.ntmps82
    go_wp2_with (go_at_call 59; refine (demand2_no _ na nb aa ab ca cb xa xb _ r0' (ha.below bw) hla fa).mono ?_; rintro e w1 ⟨hbe1, rfl⟩; have bw1 := bw.trans (hbe1.mono (by simp)))
    exact ⟨rfl, bw1, rfl⟩
  | true =>
    have fb : formedB nb xb = false := by rwa [fa, Bool.true_and] at hf
    clear hf
    go_enter Tryd.func82, Tryd.ntmps82
    go_wp2_with (go_at_call 59; refine (demand2_okno _ na nb aa ab ca cb xa xb _ r0' (ha.below bw) hla fa (hb.below bw) hlb fb).mono ?_; rintro e w1 ⟨hbe1, rfl⟩; have bw1 := bw.trans (hbe1.mono (by simp)))
    exact ⟨rfl, bw1, rfl⟩

set_option maxHeartbeats 2000000 in
set_option maxRecDepth 100000 in
theorem Gcd_no (a b : Value) (na nb : Bool) (xa xb : List Nat) (w : World) (ha : IntAt w a na xa) (hb : IntAt w b nb xb) (hf : (formedB na xa && formedB nb xb) = false) :
    Calls Tryd.prog 41 #[a, b] w fun e w' => Below w.heap.size w w' ∧ e = .returned (.tuple #[zeroInt, zeroInt, zeroInt, .int .i64 1]) := by
  obtain ⟨va, rfl, hra, hla⟩ := ha
  obtain ⟨vb, rfl, hrb, hlb⟩ := hb
  obtain ⟨aa, ca, rfl, hca, hma⟩ := hra.form
  obtain ⟨ab, cb, rfl, hcb, hmb⟩ := hrb.form
  have hmf : ∀ (fn : Fn) (first cap : Array Value) (w : World), (Instr.makeFunc fn first cap).run Tryd.prog w = .ok (.func fn first cap) w := fun _ _ _ _ => rfl
  have q0 := (((((RowAt.new w 24 [.bool na, .slice aa xa.length ca]).alloc (.cells #[.bool nb, .slice ab xb.length cb] 24)).alloc (.cells #[.bool false, .slice none 0 0] 24)).alloc (.cells #[.bool false, .slice none 0 0] 24)).alloc (.cells #[.bool false, .slice none 0 0] 24)).alloc (.cells #[.int .i64 0] 27)
  have q1 := ((((RowAt.new (w.alloc (.cells #[.bool na, .slice aa xa.length ca] 24)) 24 [.bool nb, .slice ab xb.length cb]).alloc (.cells #[.bool false, .slice none 0 0] 24)).alloc (.cells #[.bool false, .slice none 0 0] 24)).alloc (.cells #[.bool false, .slice none 0 0] 24)).alloc (.cells #[.int .i64 0] 27)
  have q2 := (((RowAt.new ((w.alloc (.cells #[.bool na, .slice aa xa.length ca] 24)).alloc (.cells #[.bool nb, .slice ab xb.length cb] 24)) 24 [.bool false, .slice none 0 0]).alloc (.cells #[.bool false, .slice none 0 0] 24)).alloc (.cells #[.bool false, .slice none 0 0] 24)).alloc (.cells #[.int .i64 0] 27)
  have q3 := ((RowAt.new (((w.alloc (.cells #[.bool na, .slice aa xa.length ca] 24)).alloc (.cells #[.bool nb, .slice ab xb.length cb] 24)).alloc (.cells #[.bool false, .slice none 0 0] 24)) 24 [.bool false, .slice none 0 0]).alloc (.cells #[.bool false, .slice none 0 0] 24)).alloc (.cells #[.int .i64 0] 27)
  have q4 := (RowAt.new ((((w.alloc (.cells #[.bool na, .slice aa xa.length ca] 24)).alloc (.cells #[.bool nb, .slice ab xb.length cb] 24)).alloc (.cells #[.bool false, .slice none 0 0] 24)).alloc (.cells #[.bool false, .slice none 0 0] 24)) 24 [.bool false, .slice none 0 0]).alloc (.cells #[.int .i64 0] 27)
  have q5 := Boxed.new (((((w.alloc (.cells #[.bool na, .slice aa xa.length ca] 24)).alloc (.cells #[.bool nb, .slice ab xb.length cb] 24)).alloc (.cells #[.bool false, .slice none 0 0] 24)).alloc (.cells #[.bool false, .slice none 0 0] 24)).alloc (.cells #[.bool false, .slice none 0 0] 24)) 27 (.int .i64 0)
  have bw := (((((((Below.refl w.heap.size w).alloc (Nat.le_refl _) (.cells #[.bool na, .slice aa xa.length ca] 24)).alloc (by simp) (.cells #[.bool nb, .slice ab xb.length cb] 24)).alloc (by simp; omega) (.cells #[.bool false, .slice none 0 0] 24)).alloc (by simp; omega) (.cells #[.bool false, .slice none 0 0] 24)).alloc (by simp; omega) (.cells #[.bool false, .slice none 0 0] 24)).alloc (by simp; omega) (.cells #[.int .i64 0] 27))
  simp only [World.size_alloc] at q1 q2 q3 q4 q5
  generalize hW4 : ((((((w.alloc (.cells #[.bool na, .slice aa xa.length ca] 24)).alloc (.cells #[.bool nb, .slice ab xb.length cb] 24)).alloc (.cells #[.bool false, .slice none 0 0] 24)).alloc (.cells #[.bool false, .slice none 0 0] 24)).alloc (.cells #[.bool false, .slice none 0 0] 24)).alloc (.cells #[.int .i64 0] 27)) = W4 at q0 q1 q2 q3 q4 q5 bw
  have key := gcd1_bad w.heap.size na nb aa ab ca cb xa xb W4 q0 q1 (hra.below bw) (hrb.below bw) hla hlb hf
  have att := attempt_any 82 #[.pointer (some ⟨w.heap.size, 0, none⟩), .pointer (some ⟨w.heap.size + 1, 0, none⟩), .pointer (some ⟨w.heap.size + 1 + 1, 0, none⟩), .pointer (some ⟨w.heap.size + 1 + 1 + 1, 0, none⟩), .pointer (some ⟨w.heap.size + 1 + 1 + 1 + 1, 0, none⟩)]
    (((((w.alloc (.cells #[.bool na, .slice aa xa.length ca] 24)).alloc (.cells #[.bool nb, .slice ab xb.length cb] 24)).alloc (.cells #[.bool false, .slice none 0 0] 24)).alloc (.cells #[.bool false, .slice none 0 0] 24)).alloc (.cells #[.bool false, .slice none 0 0] 24))
    (fun c W => c = 1 ∧ Chg (fun k => k = w.heap.size + 2 ∨ k = w.heap.size + 3 ∨ k = w.heap.size + 4) W4 W ∧ RowAt W (w.heap.size + 2) 24 [.bool false, .slice none 0 0] ∧ RowAt W (w.heap.size + 3) 24 [.bool false, .slice none 0 0] ∧ RowAt W (w.heap.size + 4) 24 [.bool false, .slice none 0 0])
    (fun W => by simp [go_sem])
    (fun c W h => by simp only [World.size_alloc]; exact h.2.1.boxed q5 (by omega))
    (by
      rw [hW4]
      refine key.mono ?_
      rintro e W ⟨hbe, rfl⟩
      exact .inr ⟨1, rfl, rfl, (Chg.refl _ _).thenBelow hbe, q2.below hbe, q3.below hbe, q4.below hbe⟩)
  clear key
  go_enter Tryd.func41, Tryd.ntmps41
  go_wp2_with (refine att.mono ?_; rintro e W' ⟨c, W, ⟨rfl, hch, hr1, hr2, hr3⟩, rfl, rfl⟩; simp only [World.size_alloc]; have z1 := hr1.other (a := ⟨w.heap.size + 1 + 1 + 1 + 1 + 1, 0, none⟩) (by simp) (.int .i64 1); have z2 := hr2.other (a := ⟨w.heap.size + 1 + 1 + 1 + 1 + 1, 0, none⟩) (by simp) (.int .i64 1); have z3 := hr3.other (a := ⟨w.heap.size + 1 + 1 + 1 + 1 + 1, 0, none⟩) (by simp) (.int .i64 1); have HZ := Lib.hid (And.intro z1 (And.intro z2 z3)); clear z1 z2 z3)
  obtain ⟨z1, z2, z3⟩ := HZ.out
  have hb9 : Below w.heap.size w W := bw.trans (hch.below (B := w.heap.size) (fun i hi => by omega) bw.size)
  have hb5 : Below w.heap.size w (W.setCell ⟨w.heap.size + 1 + 1 + 1 + 1 + 1, 0, none⟩ (.int .i64 1)) := hb9.setCell (by simp; omega) _
  clear att hch hr1 hr2 hr3 q0 q1 q2 q3 q4 q5 bw hb9 HZ
  generalize W.setCell ⟨w.heap.size + 1 + 1 + 1 + 1 + 1, 0, none⟩ (.int .i64 1) = W5 at *
  have o1 := z1.cell 0
  have o2 := z1.cell 1
  have o3 := z2.cell 0
  have o4 := z2.cell 1
  have o5 := z3.cell 0
  have o6 := z3.cell 1
  have p1 := z1.frozen 0
  have p2 := z1.frozen 1
  have p3 := z2.frozen 0
  have p4 := z2.frozen 1
  have p5 := z3.frozen 0
  have p6 := z3.frozen 1
  simp only [List.getElem?_cons_zero, List.getElem?_cons_succ] at o1 o2 o3 o4 o5 o6
  go_wp2_with fail
  go_region
  obtain ⟨t1, t2, t3, t4, t5, t6, -, hbl⟩ := tri_self (b := w.heap.size + 1 + 1) z1 z2 z3
  have hbe := hbl w.heap.size w (by omega) hb5
  clear hbl o1 o2 o3 o4 o5 o6 p1 p2 p3 p4 p5 p6 z1 z2 z3
  go_wp2
  exact bodyPost_ret (v := .tuple #[zeroInt, zeroInt, zeroInt, .int .i64 1]) (by simp [results, Tryd.results41, go_sem, loadCellsFrom, t1, t2, t3, t4, t5, t6, zeroInt]) rfl ⟨hbe, rfl⟩

end Go.Proofs.YtlghjfpkfdnfoaaDoor

/- zermeloref01.short -/
namespace Go.Proofs.YtlghjfpkfdnfoaaDoor
open Go Go.RowKit Go.Shelf

/-- a quotient and a rest, as the specification returns them -/
def PartsOut (W : World) (e : Ending) (q r : Int) : Prop := ∃ n1 a1 m1 c1 n2 a2 m2 c2, e = .returned (.agg #[.bool n1, .slice a1 m1 c1, .bool n2, .slice a2 m2 c2]) ∧ IsInt W (.agg #[.bool n1, .slice a1 m1 c1]) q ∧ IsInt W (.agg #[.bool n2, .slice a2 m2 c2]) r
/-- what a walk of short keeps -/
structure RshS (w : World) (q : List Nat) (W : World) : Prop where
  r : RowAt W w.heap.size 48 [.bool false, .slice none 0 0, .bool false, .slice none 0 0]
  o : RowAt W (w.heap.size + 1) 72 (enc32 q)
  chg : Below w.heap.size w W
theorem RshS.set {w : World} {q : List Nat} {W : World} (h : RshS w q W) (i z : Nat) : RshS w (q.set i z) (W.setCell ⟨w.heap.size + 1, i, none⟩ (.int .u32 (z : Int))) :=
  ⟨h.r.other (show w.heap.size ≠ w.heap.size + 1 by omega) _, by rw [enc32_set]; exact h.o.set i _, h.chg.setCell (show w.heap.size ≤ w.heap.size + 1 by omega) _⟩
theorem row4_keep {W : World} {b : Nat} {t : TypeId} {n0 n1 : Bool} {a0 a1 : Option Addr} {m0 c0 m1 c1 : Nat} (q : RowAt W b t [.bool n0, .slice a0 m0 c0, .bool n1, .slice a1 m1 c1]) (x y z u : Value) :
    ∀ v xs, Reads .u32 W v xs → Reads .u32 ((((W.setCell ⟨b, 0, none⟩ x).setCell ⟨b, 1, none⟩ y).setCell ⟨b, 2, none⟩ z).setCell ⟨b, 3, none⟩ u) v xs := fun _ _ h =>
  (((h.setOther (c := .bool n0) (q.cell 0) (by simp) x).setOther (c := .slice a0 m0 c0) ((q.set 0 x).cell 1) (by simp) y).setOther (c := .bool n1) (((q.set 0 x).set 1 y).cell 2) (by simp) z).setOther (c := .slice a1 m1 c1) ((((q.set 0 x).set 1 y).set 2 z).cell 3) (by simp) u

set_option maxHeartbeats 2000000 in
set_option maxRecDepth 100000 in
theorem rshort_any (va : Value) (xa : List Nat) (d : Nat) (w : World) (ha : Reads .u32 w va xa) (hla : Limbs xa) (la : xa.length ≤ 100000) (hd0 : 0 < d) (hd : d < B32) :
    Calls Tryd.prog 89 #[va, .int .u32 (d : Int)] w fun e w' => Below w.heap.size w w' ∧ PartsOut w' e ((val xa / d : Nat) : Int) ((val xa % d : Nat) : Int) := by
  obtain ⟨aa, ca, rfl, hca, hma⟩ := ha.form
  have hmk : ∀ W, (Instr.makeSlice 22 (.int .i64 (xa.length : Int)) (.int .i64 (xa.length : Int))).run Tryd.prog W = .ok (.slice (some ⟨W.heap.size, 0, none⟩) xa.length xa.length) (W.alloc (.cells (zeros xa.length) 72)) := fun W => by
    simpa using make_limbs (xa.length : Int) (xa.length : Int) (by omega) (by omega) (by omega) W
  have hstart : RshS w (dlFold xa.length d (backPairs xa 0)).1 ((w.alloc (.cells #[.bool false, .slice none 0 0, .bool false, .slice none 0 0] 48)).alloc (.cells (zeros xa.length) 72)) := by
    have b1 := (Below.refl w.heap.size w).alloc (Nat.le_refl _) (.cells #[.bool false, .slice none 0 0, .bool false, .slice none 0 0] 48)
    have b2 := b1.alloc b1.size (.cells (zeros xa.length) 72)
    refine ⟨(RowAt.new w 48 [.bool false, .slice none 0 0, .bool false, .slice none 0 0]).alloc _, ?_, b2⟩
    have e : (enc32 (dlFold xa.length d (backPairs xa 0)).1).toArray = zeros xa.length := by simp [dlFold, backPairs, enc32, zeros]
    have := RowAt.new (w.alloc (.cells #[.bool false, .slice none 0 0, .bool false, .slice none 0 0] 48)) 72 (enc32 (dlFold xa.length d (backPairs xa 0)).1)
    rw [e] at this
    exact RowAt.at this (by simp)
  have HS := Lib.hid hstart
  clear hstart
  have hdz : ¬ (d : Int) = 0 := by omega
  have hdw : IntKind.u64.wrap (d : Int) = (d : Int) := by rw [IntKind.wrap_u64]; unfold B32 at hd; omega
  go_enter Tryd.func89, Tryd.ntmps89
  go_wp2_with fail
  generalize hW0 : (w.alloc (.cells #[.bool false, .slice none 0 0, .bool false, .slice none 0 0] 48)).alloc (.cells (zeros xa.length) 72) = W0 at *
  clear hW0 hmk
  go_loopw [6, 7] (fun s6 s7 W => ∃ j : Nat, j ≤ xa.length ∧ s7 = .int .i64 ((xa.length : Int) - 1 - j) ∧ s6 = .int .u64 ((dlFold xa.length d (backPairs xa j)).2 : Int) ∧ RshS w (dlFold xa.length d (backPairs xa j)).1 W) (fun _ s7 _ => (intOf s7 + 1).toNat)
  case atStart => exact ⟨0, Nat.zero_le _, by simp, by simp [dlFold, backPairs], HS.out⟩
  case round =>
    obtain ⟨j, hj, rfl, rfl, hS⟩ := hrel
    have hps : ∀ p ∈ backPairs xa j, p.2 < B32 := fun p hp => by
      obtain ⟨q, _, rfl⟩ := List.mem_map.1 hp
      exact limb_getD hla _
    obtain ⟨hq1, hr1⟩ := dlFold_limbs xa.length hd0 (backPairs xa j) hps
    have hlen := dlFold_length xa.length d (backPairs xa j)
    by_cases hlt : j < xa.length
    · obtain ⟨k, hk⟩ : ∃ k, xa.length = j + 1 + k := ⟨xa.length - (j + 1), by omega⟩
      have hki : (xa.length : Int) - 1 - (j : Int) = (k : Int) := by omega
      have hnext : dlFold xa.length d (backPairs xa (j + 1)) = dlStep d (dlFold xa.length d (backPairs xa j)) (k, xa[k]?.getD 0) := by
        rw [backPairs_succ, dlFold_snoc, show xa.length - 1 - j = k by omega]
      rw [hki]
      generalize dlFold xa.length d (backPairs xa j) = st at *
      obtain ⟨q, r⟩ := st
      dsimp only at *
      simp only [dlStep] at hnext
      have hkl : k < xa.length := by omega
      have hA := ha.below hS.chg
      have ia := fun W => hA.index und_limbs size_limb (P := Tryd.prog) k .i64 W hkl
      have ca1 := hA.cell k hkl
      have hxb := limb_getD hla k
      obtain ⟨x, hx⟩ : ∃ x, xa[k]?.getD 0 = x := ⟨_, rfl⟩
      rw [hx] at ca1 hxb hnext
      have hdb := dl_bound hr1 hxb
      have hcell : ∃ z : Value, wr.cell? ⟨w.heap.size + 1, k, none⟩ = some z := by
        rw [hS.o.cell]
        exact ⟨_, enc32_at (by omega)⟩
      obtain ⟨z, hcell⟩ := hcell
      have hfz := hS.o.frozen k
      have ir := fun W => index_win (w.heap.size + 1) 0 xa.length xa.length k (by omega) .i64 W
      simp only [Nat.zero_add] at ir
      obtain ⟨P, hP⟩ : ∃ P, r * B32 = P := ⟨_, rfl⟩
      obtain ⟨T, hT⟩ : ∃ T, P + x = T := ⟨_, rfl⟩
      rw [hP, hT] at hnext hdb
      obtain ⟨Q, hQ⟩ : ∃ Q, T / d = Q := ⟨_, rfl⟩
      obtain ⟨R, hR⟩ : ∃ R, T % d = R := ⟨_, rfl⟩
      rw [hQ, hR] at hnext
      rw [hQ] at hdb
      have hRd : R < d := by rw [← hR]; exact Nat.mod_lt _ hd0
      have hTq : (T : Int) / (d : Int) = (Q : Int) := by rw [← hQ]; exact (Int.natCast_ediv T d).symm
      have hTm : (T : Int) % (d : Int) = (R : Int) := by rw [← hR]; exact (Int.natCast_emod T d).symm
      unfold B32 at hP hxb hdb hd
      have hPB : P ≤ 4294967294 * 4294967296 := by rw [← hP]; exact Nat.mul_le_mul_right _ (by omega)
      have hmul : IntKind.u64.wrap ((r : Int) * 4294967296) = (P : Int) := by rw [← hP, IntKind.wrap_u64]; omega
      have hs1 : IntKind.u64.wrap ((P : Int) + (x : Int)) = (T : Int) := by rw [IntKind.wrap_u64]; omega
      have hw1 : IntKind.u64.wrap (x : Int) = (x : Int) := by rw [IntKind.wrap_u64]; omega
      have hw2 : IntKind.u64.wrap (Q : Int) = (Q : Int) := by rw [IntKind.wrap_u64]; omega
      have hw3 : IntKind.u32.wrap (Q : Int) = (Q : Int) := by rw [IntKind.wrap_u32']; omega
      have hw4 : IntKind.u64.wrap (R : Int) = (R : Int) := by rw [IntKind.wrap_u64]; omega
      have HN := Lib.hid (And.intro hnext (And.intro hk (And.intro hki hlen)))
      clear hnext hk hki hlen hP hT hQ hR hx hdb hps hxb hPB hd
      go_wp2_with fail
      obtain ⟨hn, hk, hki, hl⟩ := HN.out
      refine ⟨⟨j + 1, by omega, by go_num, ?_, ?_⟩, ?_⟩
      · rw [hn, hTm]
      · rw [hn]
        exact hS.set k Q
      · simp [intOf]
    · obtain rfl : j = xa.length := by omega
      obtain ⟨hv1, hv2⟩ := dlFold_end hd0 hla
      generalize dlFold xa.length d (backPairs xa xa.length) = st at *
      obtain ⟨q, r⟩ := st
      dsimp only at *
      have hneg : (xa.length : Int) - 1 - (xa.length : Int) = -1 := by omega
      rw [hneg]
      have hq6 : q.length ≤ 1000000 := by omega
      have hrd : Reads .u32 wr (.slice (some ⟨w.heap.size + 1, 0, none⟩) xa.length xa.length) q := RowAt.reads hS.o _ _ hlen.symm (Nat.le_refl _) (by unfold maxLen; omega)
      have hw1 : IntKind.u32.wrap (r : Int) = (r : Int) := by rw [IntKind.wrap_u32']; unfold B32 at hd; omega
      have hrB : r < B32 := Nat.lt_trans hr1 hd
      have HV := Lib.hid (And.intro hv1 (And.intro hv2 hrB))
      have hrr := hS.r
      have hchg := hS.chg
      clear hv1 hv2 hlen hps hS hr1 hd hrB
      have m2 := fun (X : World) => made_any false (.slice (some ⟨X.heap.size, 0, none⟩) 1 1) [r] (X.alloc (.cells #[.int .u32 (r : Int)] 72)) (RowAt.reads (RowAt.new X 72 [.int .u32 (r : Int)]) 1 1 rfl (Nat.le_refl _) (by unfold maxLen; omega)) (by simpa [Limbs] using HV.out.2.2) (by simp)
      go_wp2_with (first
        | (go_at_call 65; with_reducible refine (made_any _ _ q _ hrd hq1 hq6).mono ?_; rintro e w5 ⟨hb5, v5, rfl, hI⟩; obtain ⟨n5, a5, m5, c5, rfl⟩ := hI.shape; have hr5 := hrr.below hb5)
        | (go_at_call 65; with_reducible refine (m2 _).mono ?_; rintro e w6 ⟨hb6, v6, rfl, hJ⟩; obtain ⟨n6, a6, m6, c6, rfl⟩ := hJ.shape; have g6 := ((Below.refl _ w5).alloc (Nat.le_refl _) (.cells #[.int .u32 (r : Int)] 72)).trans (hb6.mono (by simp)); have hr6 := hr5.below g6; have q1 := hr6.cell 0; have q2 := hr6.cell 1; have q3 := hr6.cell 2; have q4 := hr6.cell 3; have f1 := hr6.frozen 0; have f2 := hr6.frozen 1; have f3 := hr6.frozen 2; have f4 := hr6.frozen 3; simp only [List.getElem?_cons_zero, List.getElem?_cons_succ] at q1 q2 q3 q4))
      have q5 := (((hr6.set 0 (.bool n5)).set 1 (.slice a5 m5 c5)).set 2 (.bool n6)).set 3 (.slice a6 m6 c6)
      have u1 := q5.cell 0
      have u2 := q5.cell 1
      have u3 := q5.cell 2
      have u4 := q5.cell 3
      simp only [List.set_cons_zero, List.set_cons_succ, List.getElem?_cons_zero, List.getElem?_cons_succ] at u1 u2 u3 u4
      have b5 := hchg.trans (hb5.mono hchg.size)
      have b9 := b5.trans (g6.mono b5.size)
      obtain ⟨hv1, hv2, -⟩ := HV.out
      have hk := row4_keep hr6 (.bool n5) (.slice a5 m5 c5) (.bool n6) (.slice a6 m6 c6)
      refine bodyPost_ret (v := .agg #[.bool n5, .slice a5 m5 c5, .bool n6, .slice a6 m6 c6]) (by simp [results, Tryd.results89, go_sem, loadCellsFrom, u1, u2, u3, u4]) rfl ⟨(((b9.setCell (Nat.le_refl _) _).setCell (Nat.le_refl _) _).setCell (Nat.le_refl _) _).setCell (Nat.le_refl _) _, n5, a5, m5, c5, n6, a6, m6, c6, rfl, ?_, ?_⟩
      · rw [← hv1]
        exact (hI.below g6).keep hk
      · rw [← hv2]
        have : sgn false (val [r]) = (r : Int) := by simp [sgn, val]
        rw [this] at hJ
        exact hJ.keep hk
end Go.Proofs.YtlghjfpkfdnfoaaDoor

/- zermeloref01.sum of lists without zeros on top -/
namespace Go.Proofs.YtlghjfpkfdnfoaaDoor
open Go Go.RowKit Go.Shelf

/-- a list fills so many places, or has a limb on top of them -/
def SumTop (m : Nat) (cs : List Nat) : Prop := cs.length ≤ m ∨ B32 ^ m ≤ val cs
/-- between two rounds -/
def RsJnv (w : World) (xa xb : List Nat) (s c i : Value) (W : World) : Prop := ∃ k : Nat, k ≤ max xa.length xb.length + 1 ∧ i = .int .i64 (k : Int) ∧ c = .int .u64 ((plusFold xa (limbPairs xb k)).2 : Int) ∧
  W.ownsRow w.heap.size 72 1 s k (enc32 (plusFold xa (limbPairs xb k)).1) ∧ (k = max xa.length xb.length + 1 → (plusFold xa (limbPairs xb k)).2 = 0 ∧ B32 ^ max xa.length xb.length ≤ val (plusFold xa (limbPairs xb k)).1) ∧ Below w.heap.size w W

set_option maxHeartbeats 4000000 in
set_option maxRecDepth 100000 in
theorem rsum2_any (va vb : Value) (xa xb : List Nat) (w : World) (ha : Reads .u32 w va xa) (hb : Reads .u32 w vb xb) (hla : Limbs xa) (hlb : Limbs xb) (na : xa.length ≤ 100000) (nb : xb.length ≤ 100000) :
    Calls Tryd.prog 84 #[va, vb] w fun e w' => Below w.heap.size w w' ∧ ∃ v cs, e = .returned v ∧ Reads .u32 w' v cs ∧ Limbs cs ∧ val cs = val xa + val xb ∧ cs.length ≤ max xa.length xb.length + 1 ∧ SumTop (max xa.length xb.length) cs := by
  obtain ⟨aa, ca, rfl, hca, hma⟩ := ha.form
  obtain ⟨ab, cb, rfl, hcb, hmb⟩ := hb.form
  obtain ⟨inf, hi, hzz⟩ := Option.map_eq_some_iff.1 info_limb
  simp only [Prod.mk.injEq] at hzz
  have HZ := Lib.hid hzz
  clear hzz
  have hpl : ∀ k, ∀ p ∈ limbPairs xb k, p.2 < B32 := fun k p hp => by
    obtain ⟨i, _, rfl⟩ := List.mem_map.1 hp
    exact limb_getD hlb i
  have hstart : RsJnv w xa xb (.slice none 0 0) (.int .u64 0) (.int .i64 0) w := ⟨0, Nat.zero_le _, rfl, by simp [plusFold, limbPairs], by simpa [plusFold, limbPairs, enc32] using World.ownsRow_nil w w.heap.size 72 1, fun h => absurd h (by omega), Below.refl _ _⟩
  have HS := Lib.hid hstart
  clear hstart
  go_enter Tryd.func84, Tryd.ntmps84
  go_wp2_with fail
  go_loopw [5, 6, 7] (fun s c i wr => RsJnv w xa xb s c i wr) (fun _ _ i _ => max xa.length xb.length + 1 - (intOf i).toNat)
  case atStart => exact HS.out
  case round =>
    obtain ⟨k, hk, rfl, rfl, hown, hlast, hbe⟩ := hrel
    obtain ⟨sa, sc, rfl⟩ := own_form hown
    obtain ⟨hr1, hc1⟩ := plusFold_limbs hla (limbPairs xb k) (hpl k)
    have hval := plusFold_val xa xb k
    have hnext := plusFold_snoc xa (limbPairs xb k) (k, xb[k]?.getD 0)
    have hlr := plusFold_length xa (limbPairs xb k)
    rw [limbPairs_length] at hlr
    rw [← limbPairs_succ] at hnext
    have hA := ha.below hbe
    have hB := hb.below hbe
    have hsz := hbe.size
    obtain ⟨st, hst⟩ : ∃ st, plusFold xa (limbPairs xb k) = st := ⟨_, rfl⟩
    rw [hst] at hown hlast hr1 hc1 hval hnext hlr ⊢
    obtain ⟨r, c⟩ := st
    simp only [plusStep] at hnext
    dsimp only at *
    have HLR := Lib.hid hlr
    clear hst hlr
    by_cases hx : k < xa.length ∨ k < xb.length ∨ c ≠ 0
    · have hkn : k < max xa.length xb.length + 1 := by
        rcases Nat.lt_or_ge k (max xa.length xb.length + 1) with h | h
        · exact h
        · have : c = 0 := (hlast (by omega)).1
          omega
      have hend : k + 1 = max xa.length xb.length + 1 → xa[k]?.getD 0 = 0 ∧ xb[k]?.getD 0 = 0 := fun h => by
        rw [List.getElem?_eq_none (show xa.length ≤ k by omega), List.getElem?_eq_none (show xb.length ≤ k by omega)]; exact ⟨rfl, rfl⟩
      have lA := limb_any (.slice aa xa.length ca) xa k wr hA hla
      have lB := limb_any (.slice ab xb.length cb) xb k wr hB hlb
      have hxB := limb_getD hla k
      have hyB := limb_getD hlb k
      generalize xa[k]?.getD 0 = x at *
      generalize xb[k]?.getD 0 = y at *
      obtain ⟨T, hT⟩ : ∃ T, c + (x + y) = T := ⟨_, rfl⟩
      rw [hT] at hnext
      unfold B32 at hxB hyB
      have hs1 : IntKind.u64.wrap ((x : Int) + (y : Int)) = (x : Int) + (y : Int) := by rw [IntKind.wrap_u64]; omega
      have hs2 : IntKind.u64.wrap ((x : Int) + (y : Int) + (c : Int)) = (T : Int) := by rw [IntKind.wrap_u64]; omega
      obtain ⟨cl, hcl⟩ : ∃ cl, T % B32 = cl := ⟨_, rfl⟩
      obtain ⟨ch, hch⟩ : ∃ ch, T / B32 = ch := ⟨_, rfl⟩
      have hmd : (T : Int) % 4294967296 = (cl : Int) := by rw [← hcl]; unfold B32; omega
      have hdv : (T : Int) / 4294967296 = (ch : Int) := by rw [← hch]; unfold B32; omega
      have hwc : IntKind.u64.wrap (ch : Int) = (ch : Int) := by rw [IntKind.wrap_u64, ← hch]; unfold B32; omega
      have hclb : cl < 4294967296 := by rw [← hcl]; exact Nat.mod_lt _ (by decide)
      have hwl : IntKind.u32.wrap (cl : Int) = (cl : Int) := by rw [IntKind.wrap_u32']; omega
      rw [hcl, hch] at hnext
      have hch0 : k + 1 = max xa.length xb.length + 1 → ch = 0 ∧ B32 ^ max xa.length xb.length ≤ val (r ++ [cl]) := fun h => by
        have hc0 : c ≠ 0 := by rcases hx with g | g | g <;> first | exact g | omega
        obtain ⟨rfl, rfl⟩ := hend h
        have e1 : cl = 1 := by rw [← hcl]; unfold B32; omega
        refine ⟨by rw [← hch]; unfold B32; omega, ?_⟩
        rw [val_snoc, HLR.out, e1, show k = max xa.length xb.length by omega]
        omega
      clear hend hcl hch hlast hval
      have HN := Lib.hid (And.intro hnext hch0)
      have HT := Lib.hid hT
      clear hnext hch0 hT
      have hxc := hx
      clear hx
      have fin : ∀ w5 v', w5.ownsRow w.heap.size 72 1 v' (k + 1) (enc32 r ++ [.int .u32 (cl : Int)]) → Below w.heap.size w w5 → RsJnv w xa xb v' (.int .u64 (ch : Int)) (.int .i64 ((k : Int) + 1)) w5 := fun w5 v' h1 h2 => by
        refine ⟨k + 1, by omega, by go_num, ?_, ?_, ?_, h2⟩
        · rw [HN.out.1]
        · rw [HN.out.1, enc32_snoc]; exact h1
        · rw [HN.out.1]; exact HN.out.2
      by_cases h1 : k < xa.length
      · have hg : decide ((k : Int) < (xa.length : Int)) = true := by simp; omega
        go_wp2_with (first
          | (go_at_call 62; (first | with_reducible refine lA.mono ?_ | with_reducible refine lB.mono ?_); rintro e w2 ⟨rfl, rfl⟩)
          | (at_builtin; refine wpList_append_own _ rfl _ _ 22 rfl w.heap.size 72 inf (.int .u32 0) 1 4 und_limbs hi HZ.out.1 HZ.out.2.1 HZ.out.2.2 rfl (by decide) _ _ _ rfl (hown.alloc _) ⟨wr.heap.size, 0, none⟩ 1 1 [.int .u32 (cl : Int)] rfl rfl (cell_new_plain _ _ _ _ rfl) (by simp [Value.oneCell']) (by unfold maxLen; omega) (by omega) (by simp; omega) ?_; intro v' w5 hown' hgrow _))
        have hbn : Below w.heap.size w w5 := hbe.trans (((Below.refl _ wr).alloc hsz _).grown hgrow (by simp; omega) (fun k e => by have := (hown.lt k e).1; omega))
        have hf := fin w5 v' hown' hbn
        refine ⟨hf, ?_⟩
        simp [intOf]
        omega
      · by_cases h2 : k < xb.length
        · go_wp2_with (first
            | (go_at_call 62; (first | with_reducible refine lA.mono ?_ | with_reducible refine lB.mono ?_); rintro e w2 ⟨rfl, rfl⟩)
            | (at_builtin; refine wpList_append_own _ rfl _ _ 22 rfl w.heap.size 72 inf (.int .u32 0) 1 4 und_limbs hi HZ.out.1 HZ.out.2.1 HZ.out.2.2 rfl (by decide) _ _ _ rfl (hown.alloc _) ⟨wr.heap.size, 0, none⟩ 1 1 [.int .u32 (cl : Int)] rfl rfl (cell_new_plain _ _ _ _ rfl) (by simp [Value.oneCell']) (by unfold maxLen; omega) (by omega) (by simp; omega) ?_; intro v' w5 hown' hgrow _))
          have hbn : Below w.heap.size w w5 := hbe.trans (((Below.refl _ wr).alloc hsz _).grown hgrow (by simp; omega) (fun k e => by have := (hown.lt k e).1; omega))
          have hf := fin w5 v' hown' hbn
          refine ⟨hf, ?_⟩
          simp [intOf]
          omega
        · have h3 : ¬ c = 0 := by omega
          go_wp2_with (first
            | (go_at_call 62; (first | with_reducible refine lA.mono ?_ | with_reducible refine lB.mono ?_); rintro e w2 ⟨rfl, rfl⟩)
            | (at_builtin; refine wpList_append_own _ rfl _ _ 22 rfl w.heap.size 72 inf (.int .u32 0) 1 4 und_limbs hi HZ.out.1 HZ.out.2.1 HZ.out.2.2 rfl (by decide) _ _ _ rfl (hown.alloc _) ⟨wr.heap.size, 0, none⟩ 1 1 [.int .u32 (cl : Int)] rfl rfl (cell_new_plain _ _ _ _ rfl) (by simp [Value.oneCell']) (by unfold maxLen; omega) (by omega) (by simp; omega) ?_; intro v' w5 hown' hgrow _))
          have hbn : Below w.heap.size w w5 := hbe.trans (((Below.refl _ wr).alloc hsz _).grown hgrow (by simp; omega) (fun k e => by have := (hown.lt k e).1; omega))
          have hf := fin w5 v' hown' hbn
          refine ⟨hf, ?_⟩
          simp [intOf]
          omega
    · have h1 : ¬ k < xa.length := fun h => hx (.inl h)
      have h2 : ¬ k < xb.length := fun h => hx (.inr (.inl h))
      obtain rfl : c = 0 := Classical.byContradiction fun h => hx (.inr (.inr h))
      have hrd : Reads .u32 wr (.slice sa k sc) r := Reads.ofOwn hown
      have hv : val r = val xa + val xb := by
        rw [List.take_of_length_le (by omega), List.take_of_length_le (by omega), Nat.mul_zero, Nat.add_zero] at hval
        exact hval
      have htop : SumTop (max xa.length xb.length) r := by
        by_cases hm : k ≤ max xa.length xb.length
        · exact .inl (by rw [HLR.out]; exact hm)
        · exact .inr (hlast (by omega)).2
      have HV := Lib.hid (And.intro hv htop)
      clear hv hval hnext hlast hx htop
      go_wp2
      go_ret
      exact ⟨hbe, _, r, rfl, hrd, hr1, HV.out.1, by rw [HLR.out]; exact hk, HV.out.2⟩

theorem canon_of_top {xs ys cs : List Nat} (hx : Canon xs) (hy : Canon ys) (hc : Limbs cs) (hv : val cs = val xs + val ys) (hl : cs.length ≤ max xs.length ys.length + 1) (ht : SumTop (max xs.length ys.length) cs) : Canon cs := by
  have hk := canon_trimmed hc
  have e := val_trimmed cs
  have hle := trimmed_length cs
  have hlt := val_lt hk.1
  rw [e] at hlt
  refine ⟨hc, ?_⟩
  have hlen : cs.length ≤ (trimmed cs).length := by
    rcases ht with ht | ht
    · rcases Nat.eq_zero_or_pos cs.length with h0 | h0
      · omega
      · have hp : B32 ^ (max xs.length ys.length - 1) ≤ val cs := by
          rcases Nat.le_total xs.length ys.length with h | h
          · rw [Nat.max_eq_right h] at ht ⊢
            have := canon_pos hy (by intro e0; rw [e0, List.length_nil] at ht; omega)
            omega
          · rw [Nat.max_eq_left h] at ht ⊢
            have := canon_pos hx (by intro e0; rw [e0, List.length_nil] at ht; omega)
            omega
        have := (Nat.pow_lt_pow_iff_right (show 1 < B32 by decide)).1 (Nat.lt_of_le_of_lt hp hlt)
        omega
    · have := (Nat.pow_lt_pow_iff_right (show 1 < B32 by decide)).1 (Nat.lt_of_le_of_lt ht hlt)
      omega
  have := trimmed_take cs
  rw [List.take_of_length_le hlen] at this
  exact this.symm
theorem rsum_canon (va vb : Value) (xa xb : List Nat) (w : World) (ha : Reads .u32 w va xa) (hb : Reads .u32 w vb xb) (hka : Canon xa) (hkb : Canon xb) (na : xa.length ≤ 100000) (nb : xb.length ≤ 100000) :
    Calls Tryd.prog 84 #[va, vb] w fun e w' => Below w.heap.size w w' ∧ ∃ v cs, e = .returned v ∧ Reads .u32 w' v cs ∧ Canon cs ∧ val cs = val xa + val xb := by
  refine (rsum2_any va vb xa xb w ha hb hka.1 hkb.1 na nb).mono ?_
  rintro e w' ⟨h1, v, cs, rfl, h2, h3, h4, h5, h6⟩
  exact ⟨h1, v, cs, rfl, h2, canon_of_top hka hkb h3 h4 h5 h6, h4⟩

end Go.Proofs.YtlghjfpkfdnfoaaDoor

/- zermeloref01.made: its limbs are new -/
namespace Go.Proofs.YtlghjfpkfdnfoaaDoor
open Go Go.RowKit Go.Shelf

/-- an integer whose limbs lie in memory that was not there -/
def FreshV (w : World) (v : Value) : Prop := ∀ n a m c, v = .agg #[.bool n, .slice (some a) m c] → w.heap.size ≤ a.block
theorem fresh_mk {w : World} {n : Bool} {g m c : Nat} (h : w.heap.size ≤ g) : FreshV w (.agg #[.bool n, .slice (some ⟨g, 0, none⟩) m c]) := by
  intro n' a m' c' e
  simp only [Value.agg.injEq, Array.mk.injEq, List.cons.injEq, Value.bool.injEq, Value.slice.injEq, Option.some.injEq, and_true] at e
  obtain ⟨-, rfl, -, -⟩ := e
  exact h

set_option maxHeartbeats 2000000 in
set_option maxRecDepth 100000 in
theorem made_fresh (neg : Bool) (v : Value) (xs : List Nat) (w : World) (h : Reads .u32 w v xs) (hl : Limbs xs) (hn : xs.length ≤ 1000000) :
    Calls Tryd.prog 65 #[.bool neg, v] w fun e w' => Below w.heap.size w w' ∧ ∃ v', e = .returned v' ∧ IsInt w' v' (sgn neg (val xs)) ∧ FreshV w v' := by
  obtain ⟨a, c, rfl, hc, hm⟩ := h.form
  unfold maxLen at hm
  obtain ⟨inf, hi, hzz⟩ := Option.map_eq_some_iff.1 info_limb
  simp only [Prod.mk.injEq] at hzz
  obtain ⟨hz0, hz1, hz2⟩ := hzz
  have HZ := Lib.hid (And.intro hz0 (And.intro hz1 hz2))
  clear hz0 hz1 hz2
  have b0 := (Below.refl w.heap.size w).alloc (Nat.le_refl _) (.cells #[.bool false, .slice none 0 0] 24)
  have r0 := RowAt.new w 24 [.bool false, .slice none 0 0]
  have h0 := h.below b0
  obtain ⟨W0, hW0⟩ : ∃ W0, w.alloc (.cells #[.bool false, .slice none 0 0] 24) = W0 := ⟨_, rfl⟩
  have hs0 : W0.heap.size = w.heap.size + 1 := by rw [← hW0]; simp
  rw [hW0] at b0 r0 h0
  have HW := Lib.hid (And.intro hW0 hs0)
  have hst : ∀ (x : Addr) (W : World), (storeCells x []).run Tryd.prog W = .ok () W := fun x W => by simp [storeCells]
  have hrun0 : ∀ (x : Addr) (W : World), (loadCellsFrom x 0 0 #[]).run Tryd.prog W = .ok #[] W := fun x W => by simp [loadCellsFrom]
  clear hW0 hs0
  go_enter Tryd.func65, Tryd.ntmps65
  go_wp2
  rw [HW.out.1]
  go_loop [5] (fun i => ∃ k : Nat, i = .int .i64 k ∧ k ≤ xs.length ∧ trimmed (xs.take k) = trimmed xs) (fun i => (intOf i).toNat)
  case atStart => exact ⟨xs.length, rfl, Nat.le_refl _, by simp⟩
  case round =>
    obtain ⟨k, rfl, hk, htk⟩ := hrel
    by_cases hk0 : k = 0
    · subst hk0
      have ht : trimmed xs = [] := by rw [← htk]; rfl
      have hs1 := HW.out.2
      have HT := Lib.hid (And.intro ht hs1)
      have rr := r0.alloc (.cells #[] 72)
      have o1 := rr.cell 0
      have o2 := rr.cell 1
      have o3 := rr.frozen 0
      have o4 := rr.frozen 1
      simp only [List.getElem?_cons_zero, List.getElem?_cons_succ] at o1 o2
      have hng : (neg && decide ((0 : Int) < 0)) = false := by simp
      clear ht hs1 htk
      cases a
      all_goals cases neg
      all_goals go_wp2
      all_goals
        obtain ⟨s1, s2⟩ := two_reads (b := w.heap.size) o1 o2 (.bool false) (.slice (some ⟨W0.heap.size, 0, none⟩) 0 0)
        refine bodyPost_ret (v := .agg #[.bool false, .slice (some ⟨W0.heap.size, 0, none⟩) 0 0]) (by simp [results, Tryd.results65, go_sem, loadCellsFrom, s1, s2]) rfl ⟨?_, _, rfl, ⟨false, _, [], rfl, ⟨_, 0, rfl, by simp, by simp [maxLen], fun j hj => by simp at hj⟩, canon_nil, rfl, ?_⟩, fresh_mk (by have := HW.out.2; omega)⟩
        · exact ((b0.alloc (by have := HW.out.2; omega) _).setCell (Nat.le_refl _) _).setCell (Nat.le_refl _) _
        · rw [← val_trimmed, HT.out.1]; first | done | rfl
    · have HA := Lib.hid h0
      have hlast := h0.cell (k - 1) (by omega)
      have hix := fun W => h0.index und_limbs size_limb (P := Tryd.prog) (k - 1) .i64 W (by omega)
      rw [show ((k - 1 : Nat) : Int) = (k : Int) - 1 by omega] at hix
      obtain ⟨top, hT⟩ : ∃ top, xs[k - 1]?.getD 0 = top := ⟨_, rfl⟩
      rw [hT] at hlast
      have hkd : ((0 : Int) < (k : Int)) := by omega
      have htk1 : trimmed (xs.take k) = if top = 0 then trimmed (xs.take (k - 1)) else xs.take k := by
        have e := take_succ_getD xs (k - 1) (by omega)
        rw [show k - 1 + 1 = k by omega, hT] at e
        rw [e]
        by_cases ht0 : top = 0
        · subst ht0; rw [if_pos rfl, trimmed_snoc_zero]
        · rw [if_neg ht0, trimmed_snoc _ _ ht0]
      by_cases ht0 : top = 0
      · subst ht0
        rw [if_pos rfl] at htk1
        have HK := Lib.hid (And.intro htk htk1)
        clear htk htk1 hT
        go_wp2
        exact ⟨⟨k - 1, by congr 1; omega, by omega, by rw [← HK.out.2]; exact HK.out.1⟩, by simp [intOf]; omega⟩
      · rw [if_neg ht0] at htk1
        have hne : (((top : Nat) : Int) == 0) = false := by simp; omega
        have HK := Lib.hid (And.intro htk htk1)
        clear htk htk1 hT
        obtain ⟨b, off, rfl⟩ : ∃ b off, a = some ⟨b, off, none⟩ := by
          obtain ⟨a', cap', he, _, _, hr⟩ := h0
          cases he
          exact (hr 0 (by omega)).1
        have hw0 : W0.heap.size = w.heap.size + 1 := HW.out.2
        have hlen : (xs.take k).length = k := by simp; omega
        have hnews : ∀ j u, (enc32 (xs.take k))[j]? = some u → (W0.alloc (.cells #[] 72)).cell? ((⟨b, off, none⟩ : Addr).add j) = some u := by
          intro j u hu
          have hj : j < k := by
            have := (List.getElem?_eq_some_iff.1 hu).1
            rw [enc32_length, hlen] at this
            exact this
          have h1 := (h0.below ((Below.refl _ W0).alloc (Nat.le_refl _) (.cells #[] 72))).cell j (by omega)
          rw [lookAt_some] at h1
          rw [Addr.add_lit, h1]
          simp only [enc32, List.getElem?_map, List.getElem?_take, hj, if_true] at hu
          simp [List.getElem?_eq_getElem (show j < xs.length by omega)] at hu ⊢
          exact hu
        have hnl : (enc32 (xs.take k)).length = k * 1 := by rw [enc32_length, hlen]; omega
        have hone : ∀ u ∈ enc32 (xs.take k), u.oneCell' = true := fun u hu => by
          obtain ⟨x, _, rfl⟩ := List.mem_map.1 hu
          rfl
        have hown0 := World.ownsRow_made (e := 72) (size := 1) (base := W0.heap.size) W0 #[] 0 (Nat.le_refl _) (by simp [maxLen]) rfl
        have HN := Lib.hid (And.intro hnews (And.intro hnl hone))
        have HS := Lib.hid (And.intro hw0 (And.intro hlen hown0))
        have hk0' : decide ((0 : Int) < (k : Int)) = true := by simp; omega
        clear hnews hnl hone hlen hown0 hw0
        cases neg
        · go_wp2_with (at_builtin; go_loud (refine wpList_append_own _ rfl _ _ 22 rfl W0.heap.size 72 inf (.int .u32 0) 1 4 und_limbs hi HZ.out.1 HZ.out.2.1 HZ.out.2.2 rfl (by decide) _ _ _ rfl HS.out.2.2 ⟨b, off, none⟩ k c (enc32 (xs.take k)) rfl HN.out.2.1 HN.out.1 HN.out.2.2 (by unfold maxLen; omega) (by omega) (by simp) ?_); intro v' w1 hown' hgrow _; obtain ⟨g, c1, rfl, hc1, hm1⟩ := own_form_pos hown' (by omega); have hb1 : Below W0.heap.size W0 w1 := ((Below.refl _ W0).alloc (Nat.le_refl _) _).grown hgrow (by simp) (fun k e => by cases e; exact Nat.le_refl _); have rr := r0.below hb1; have o1 := rr.cell 0; have o2 := rr.cell 1; have o3 := rr.frozen 0; have o4 := rr.frozen 1; simp only [List.getElem?_cons_zero, List.getElem?_cons_succ] at o1 o2)
          obtain ⟨s1, s2⟩ := two_reads (b := w.heap.size) o1 o2 (.bool false) (.slice (some ⟨g, 0, none⟩) k c1)
          have hrd0 : Reads .u32 w1 (.slice (some ⟨g, 0, none⟩) (0 + k) c1) (xs.take k) := Reads.ofOwn (by simpa [enc32] using hown')
          rw [Nat.zero_add] at hrd0
          have hrd := two_kept (b := w.heap.size) hrd0 o1 o2 (.bool false) (.slice (some ⟨g, 0, none⟩) k c1)
          have hcan : Canon (xs.take k) := ⟨limbs_take hl k, HK.out.2⟩
          have hval : val (xs.take k) = val xs := by rw [← HK.out.2, HK.out.1, val_trimmed]
          refine bodyPost_ret (v := .agg #[.bool false, .slice (some ⟨g, 0, none⟩) k c1]) (by simp [results, Tryd.results65, go_sem, loadCellsFrom, s1, s2]) rfl ⟨?_, _, rfl, ⟨false, _, xs.take k, rfl, hrd, hcan, by simp [HS.out.2.1]; try omega, by rw [hval]⟩, fresh_mk (by have := (hown'.lt g rfl).1; have := HS.out.1; omega)⟩
          exact (((b0.trans (hb1.mono b0.size))).setCell (Nat.le_refl _) _).setCell (Nat.le_refl _) _
        · go_wp2_with (at_builtin; go_loud (refine wpList_append_own _ rfl _ _ 22 rfl W0.heap.size 72 inf (.int .u32 0) 1 4 und_limbs hi HZ.out.1 HZ.out.2.1 HZ.out.2.2 rfl (by decide) _ _ _ rfl HS.out.2.2 ⟨b, off, none⟩ k c (enc32 (xs.take k)) rfl HN.out.2.1 HN.out.1 HN.out.2.2 (by unfold maxLen; omega) (by omega) (by simp) ?_); intro v' w1 hown' hgrow _; obtain ⟨g, c1, rfl, hc1, hm1⟩ := own_form_pos hown' (by omega); have hb1 : Below W0.heap.size W0 w1 := ((Below.refl _ W0).alloc (Nat.le_refl _) _).grown hgrow (by simp) (fun k e => by cases e; exact Nat.le_refl _); have rr := r0.below hb1; have o1 := rr.cell 0; have o2 := rr.cell 1; have o3 := rr.frozen 0; have o4 := rr.frozen 1; simp only [List.getElem?_cons_zero, List.getElem?_cons_succ] at o1 o2)
          obtain ⟨s1, s2⟩ := two_reads (b := w.heap.size) o1 o2 (.bool true) (.slice (some ⟨g, 0, none⟩) k c1)
          have hrd0 : Reads .u32 w1 (.slice (some ⟨g, 0, none⟩) (0 + k) c1) (xs.take k) := Reads.ofOwn (by simpa [enc32] using hown')
          rw [Nat.zero_add] at hrd0
          have hrd := two_kept (b := w.heap.size) hrd0 o1 o2 (.bool true) (.slice (some ⟨g, 0, none⟩) k c1)
          have hcan : Canon (xs.take k) := ⟨limbs_take hl k, HK.out.2⟩
          have hval : val (xs.take k) = val xs := by rw [← HK.out.2, HK.out.1, val_trimmed]
          refine bodyPost_ret (v := .agg #[.bool true, .slice (some ⟨g, 0, none⟩) k c1]) (by simp [results, Tryd.results65, go_sem, loadCellsFrom, s1, s2]) rfl ⟨?_, _, rfl, ⟨true, _, xs.take k, rfl, hrd, hcan, by simp [HS.out.2.1]; try omega, by rw [hval]⟩, fresh_mk (by have := (hown'.lt g rfl).1; have := HS.out.1; omega)⟩
          exact (((b0.trans (hb1.mono b0.size))).setCell (Nat.le_refl _) _).setCell (Nat.le_refl _) _


end Go.Proofs.YtlghjfpkfdnfoaaDoor
