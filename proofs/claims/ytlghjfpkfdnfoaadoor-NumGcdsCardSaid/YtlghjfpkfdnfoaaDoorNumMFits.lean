/- zermeloref01.split: division, digit by binary digit -/
import Derived.Test.YtlghjfpkfdnfoaaDoorNumMRefMade2
import Derived.Test.YtlghjfpkfdnfoaaDoorNumMSaneParts
import Derived.Deep.CutRange
import Derived.Test.YtlghjfpkfdnfoaaDoorNumMVals2
import Derived.Test.YtlghjfpkfdnfoaaDoorNumMTo
import Derived.RegionTactic
import Derived.BigRegion
namespace Go.Proofs.YtlghjfpkfdnfoaaDoor
open Go Go.RowKit Go.Shelf

/-- what a walk of split keeps -/
structure RspS (w : World) (q : List Nat) (W : World) : Prop where
  r : RowAt W w.heap.size 48 [.bool false, .slice none 0 0, .bool false, .slice none 0 0]
  o : RowAt W (w.heap.size + 1) 72 (enc32 q)
  chg : Below w.heap.size w W
theorem RspS.step {w : World} {q : List Nat} {W W' : World} (h : RspS w q W) (hb : Below W.heap.size W W') : RspS w q W' := ⟨h.r.below hb, h.o.below hb, h.chg.trans (hb.mono h.chg.size)⟩
theorem RspS.drewN {w : World} {q : List Nat} {W : World} (h : RspS w q W) (n : Nat) : RspS w q (W.drewN n) := ⟨row_drewN h.r n, row_drewN h.o n, below_drewN h.chg n⟩
theorem RspS.set {w : World} {q : List Nat} {W : World} (h : RspS w q W) (i z : Nat) : RspS w (q.set i z) (W.setCell ⟨w.heap.size + 1, i, none⟩ (.int .u32 (z : Int))) :=
  ⟨h.r.other (show w.heap.size ≠ w.heap.size + 1 by omega) _, by rw [enc32_set]; exact h.o.set i _, h.chg.setCell (show w.heap.size ≤ w.heap.size + 1 by omega) _⟩
/-- ahead of a round: so many digits are still to come -/
def RspM (A B n m : Nat) (rs q : List Nat) : Prop := Canon rs ∧ Limbs q ∧ q.length = n ∧ ∃ Q, val q = Q * 2 ^ m ∧ A / 2 ^ m = Q * B + val rs ∧ val rs < B

theorem isInt_list {W : World} {n : Bool} {a : Option Addr} {m c : Nat} {i : Int} (h : IsInt W (.agg #[.bool n, .slice a m c]) i) : ∃ xs, Reads .u32 W (.slice a m c) xs ∧ Canon xs ∧ val xs = i.natAbs := by
  obtain ⟨neg, va, xs, e, hr, hc, hn, rfl⟩ := h
  simp only [Value.agg.injEq, Array.mk.injEq, List.cons.injEq, Value.bool.injEq, and_true] at e
  obtain ⟨rfl, rfl⟩ := e
  exact ⟨xs, hr, hc, (sgn_natAbs _ _).symm⟩
/-- at a round's head -/
def RspRel (w : World) (A B n : Nat) (s6 s7 : Value) (W : World) : Prop := ∃ (m : Nat) (rs q : List Nat), m ≤ 32 * n ∧ s7 = .int .i64 ((m : Int) - 1) ∧ Reads .u32 W s6 rs ∧ RspS w q W ∧ RspM A B n m rs q

theorem pow_cast (s : Nat) : ((2 : Int) ^ s) = ((2 ^ s : Nat) : Int) := by simp
theorem reads_beyond {W : World} {v : Value} {xs : List Nat} {b L : Nat} (u : Value) (h : Reads .u32 W v xs) (hb : ∀ a n c, v = .slice (some a) n c → b < a.block) : Reads .u32 (W.setCell ⟨b, L, none⟩ u) v xs :=
  ((Chg.refl (fun k => k = b) W).setCell (p := ⟨b, L, none⟩) (.inl rfl) u).reads h (fun a n c e _ hS => by have := hb a n c e; omega)

theorem rspM_start {xa : List Nat} {B : Nat} (ha : Limbs xa) (hB : 0 < B) : RspM (val xa) B xa.length (32 * xa.length) [] (List.replicate xa.length 0) := by
  refine ⟨canon_nil, limbs_zeros _, by simp, 0, by rw [val_zeros]; simp, ?_, by simpa [val] using hB⟩
  have := val_lt ha
  rw [B32_pow] at this
  simp [val, Nat.div_eq_of_lt this]
theorem rspM_end {A B n : Nat} {rs q : List Nat} (h : RspM A B n 0 rs q) : val q = A / B ∧ val rs = A % B := by
  obtain ⟨-, -, -, Q, h1, h2, h3⟩ := h
  rw [Nat.pow_zero, Nat.mul_one] at h1
  rw [Nat.pow_zero, Nat.div_one] at h2
  have e1 : A / B = Q := by rw [h2, Nat.mul_comm, Nat.mul_add_div (by omega), Nat.div_eq_of_lt h3, Nat.add_zero]
  have e2 : A % B = val rs := by rw [h2, Nat.mul_comm, Nat.mul_add_mod, Nat.mod_eq_of_lt h3]
  exact ⟨h1.trans e1.symm, e2.symm⟩
theorem div_two_pow (A i : Nat) : A / 2 ^ i = 2 * (A / 2 ^ (i + 1)) + A / 2 ^ i % 2 := by
  have e : A / 2 ^ (i + 1) = A / 2 ^ i / 2 := by rw [Nat.pow_succ, Nat.div_div_eq_div_mul]
  rw [e]; omega
/-- a binary digit of a number -/
theorem val_bit {xa : List Nat} (ha : Limbs xa) {i L s : Nat} (hi : i = 32 * L + s) (hs : s < 32) (hL : L < xa.length) : xa[L]?.getD 0 / 2 ^ s % 2 = val xa / 2 ^ i % 2 := by
  rw [val_split xa L hL, hi, Nat.pow_add, ← B32_pow, ← Nat.div_div_eq_div_mul, Nat.add_mul_div_left _ _ (Nat.pow_pos B32_pos), Nat.div_eq_of_lt (take_lt ha L (by omega)), Nat.zero_add]
  obtain ⟨t, ht⟩ : ∃ t, 32 = s + 1 + t := ⟨31 - s, by omega⟩
  have e : B32 * val (xa.drop (L + 1)) = 2 ^ s * (2 * (2 ^ t * val (xa.drop (L + 1)))) := by
    rw [show B32 = 2 ^ s * (2 * 2 ^ t) by rw [← Nat.mul_assoc, ← Nat.pow_succ, ← Nat.pow_add, ← ht]; rfl, Nat.mul_assoc, Nat.mul_assoc]
  rw [e, Nat.add_mul_div_left _ _ (Nat.pow_pos (by decide)), Nat.add_mul_mod_self_left]
/-- the digit's place in the quotient is free -/
theorem rsp_free {q : List Nat} (hq : Limbs q) {i L s Q : Nat} (hi : i = 32 * L + s) (hs : s < 32) (hL : L < q.length) (hv : val q = Q * 2 ^ (i + 1)) : q[L]?.getD 0 + 2 ^ s < B32 ∧ val (q.set L (q[L]?.getD 0 + 2 ^ s)) = (2 * Q + 1) * 2 ^ i := by
  have h1 := val_set q L (q[L]?.getD 0 + 2 ^ s) hL
  rw [Nat.mul_add] at h1
  have e0 : B32 ^ L * 2 ^ s = 2 ^ i := by rw [B32_pow, ← Nat.pow_add, hi]
  refine ⟨?_, ?_⟩
  · obtain ⟨t, ht⟩ : ∃ t, 32 = s + 1 + t := ⟨31 - s, by omega⟩
    have hB : B32 = 2 ^ (s + 1) * 2 ^ t := by rw [← Nat.pow_add, ← ht]; rfl
    have h2 := val_split q L hL
    have h3 : 2 ^ (i + 1) = B32 ^ L * 2 ^ (s + 1) := by rw [B32_pow, ← Nat.pow_add, hi, Nat.add_assoc]
    have h4 := take_lt hq L (by omega)
    have h5 : val q = B32 ^ L * (Q * 2 ^ (s + 1)) := by rw [hv, h3, Nat.mul_left_comm]
    have h6 : q[L]?.getD 0 + B32 * val (q.drop (L + 1)) = Q * 2 ^ (s + 1) := by
      have h7 : val q / B32 ^ L = Q * 2 ^ (s + 1) := by rw [h5, Nat.mul_div_cancel_left _ (Nat.pow_pos B32_pos)]
      rw [h2, Nat.add_mul_div_left _ _ (Nat.pow_pos B32_pos), Nat.div_eq_of_lt h4, Nat.zero_add] at h7
      exact h7
    have h8 := limb_getD hq L
    have h9 : q[L]?.getD 0 % 2 ^ (s + 1) = 0 := by
      have : (q[L]?.getD 0 + B32 * val (q.drop (L + 1))) % 2 ^ (s + 1) = 0 := by rw [h6, Nat.mul_mod_left]
      rwa [hB, Nat.mul_assoc, Nat.add_mul_mod_self_left] at this
    generalize q[L]?.getD 0 = z at *
    obtain ⟨y, rfl⟩ := Nat.dvd_of_mod_eq_zero h9
    rw [hB] at h8 ⊢
    have h10 : y < 2 ^ t := Nat.lt_of_mul_lt_mul_left h8
    have h11 : 2 ^ (s + 1) * (y + 1) ≤ 2 ^ (s + 1) * 2 ^ t := Nat.mul_le_mul_left _ h10
    have h12 : 2 ^ s < 2 ^ (s + 1) := Nat.pow_lt_pow_right (by decide) (by omega)
    rw [Nat.mul_add, Nat.mul_one] at h11
    omega
  · rw [e0, hv] at h1
    have e1 : Q * 2 ^ (i + 1) = 2 * Q * 2 ^ i := by rw [Nat.pow_succ, Nat.mul_comm (2 ^ i) 2, ← Nat.mul_assoc, Nat.mul_comm Q 2]
    rw [e1] at h1
    rw [Nat.add_mul, Nat.one_mul]
    omega
/-- a digit is 0 -/
theorem rspM_no {A B n i : Nat} {rs r2 q : List Nat} (h : RspM A B n (i + 1) rs q) (hk : Canon r2) (hv : val r2 = 2 * val rs + A / 2 ^ i % 2) (hlt : val r2 < B) : RspM A B n i r2 q := by
  obtain ⟨-, h1, h2, Q, h3, h4, h5⟩ := h
  refine ⟨hk, h1, h2, 2 * Q, ?_, ?_, hlt⟩
  · rw [h3, Nat.pow_succ, Nat.mul_comm (2 ^ i) 2, ← Nat.mul_assoc, Nat.mul_comm Q 2]
  · rw [div_two_pow, h4, hv, Nat.mul_add, ← Nat.mul_assoc, Nat.add_assoc]
/-- a digit is 1 -/
theorem rspM_yes {A B n i L s : Nat} {rs r2 r3 q : List Nat} (h : RspM A B n (i + 1) rs q) (hk : Canon r3) (hv : val r2 = 2 * val rs + A / 2 ^ i % 2) (hge : B ≤ val r2) (h3' : val r3 = val r2 - B) (hi : i = 32 * L + s) (hs : s < 32) (hL : L < n) :
    q[L]?.getD 0 + 2 ^ s < B32 ∧ RspM A B n i r3 (q.set L (q[L]?.getD 0 + 2 ^ s)) := by
  obtain ⟨-, h1, h2, Q, h3, h4, h5⟩ := h
  obtain ⟨f1, f2⟩ := rsp_free h1 hi hs (by omega) h3
  refine ⟨f1, hk, limbs_set h1 _ f1, by simpa using h2, 2 * Q + 1, f2, ?_, by have := Nat.mod_lt (A / 2 ^ i) (show 0 < 2 by decide); omega⟩
  rw [div_two_pow, h4, Nat.mul_add, ← Nat.mul_assoc, Nat.add_mul, Nat.one_mul]
  omega

set_option maxHeartbeats 4000000 in
set_option maxRecDepth 100000 in
theorem rsplit_long (va vb : Value) (xa xb : List Nat) (w : World) (ha : Reads .u32 w va xa) (hb : Reads .u32 w vb xb) (hla : Limbs xa) (hkb : Canon xb) (la : xa.length ≤ 90000) (lb : xb.length ≤ 90000) (h1 : xb.length ≠ 1) (hb0 : 0 < val xb) :
    Calls Tryd.prog 107 #[va, vb] w fun e w' => Below w.heap.size w w' ∧ PartsOut w' e ((val xa / val xb : Nat) : Int) ((val xa % val xb : Nat) : Int) := by
  obtain ⟨aa, ca, rfl, hca, hma⟩ := ha.form
  obtain ⟨ab, cb, rfl, hcb, hmb⟩ := hb.form
  have hmk : ∀ W, (Instr.makeSlice 22 (.int .i64 (xa.length : Int)) (.int .i64 (xa.length : Int))).run Tryd.prog W = .ok (.slice (some ⟨W.heap.size, 0, none⟩) xa.length xa.length) (W.alloc (.cells (zeros xa.length) 72)) := fun W => by
    simpa using make_limbs (xa.length : Int) (xa.length : Int) (by omega) (by omega) (by omega) W
  have hstart : RspS w (List.replicate xa.length 0) ((w.alloc (.cells #[.bool false, .slice none 0 0, .bool false, .slice none 0 0] 48)).alloc (.cells (zeros xa.length) 72)) := by
    have b1 := (Below.refl w.heap.size w).alloc (Nat.le_refl _) (.cells #[.bool false, .slice none 0 0, .bool false, .slice none 0 0] 48)
    have b2 := b1.alloc b1.size (.cells (zeros xa.length) 72)
    refine ⟨(RowAt.new w 48 [.bool false, .slice none 0 0, .bool false, .slice none 0 0]).alloc _, ?_, b2⟩
    have e : (enc32 (List.replicate xa.length 0)).toArray = zeros xa.length := by simp [enc32, zeros]
    have := RowAt.new (w.alloc (.cells #[.bool false, .slice none 0 0, .bool false, .slice none 0 0] 48)) 72 (enc32 (List.replicate xa.length 0))
    rw [e] at this
    exact RowAt.at this (by simp)
  have HS := Lib.hid hstart
  clear hstart
  have hl1 : ((xb.length : Int) == 1) = false := by simp; omega
  have hw32 : IntKind.i64.wrap (32 * (xa.length : Int)) = 32 * (xa.length : Int) := by rw [IntKind.wrap_i64]; omega
  clear h1
  go_enter Tryd.func107, Tryd.ntmps107
  go_wp2_with fail
  generalize hW0 : (w.alloc (.cells #[.bool false, .slice none 0 0, .bool false, .slice none 0 0] 48)).alloc (.cells (zeros xa.length) 72) = W0 at *
  clear hW0 hmk
  go_loopw [6, 7] (fun s6 s7 W => RspRel w (val xa) (val xb) xa.length s6 s7 W) (fun _ s7 _ => (intOf s7 + 1).toNat)
  case atStart => exact ⟨32 * xa.length, [], _, Nat.le_refl _, by simp, Reads.nil _ _, HS.out, rspM_start hla hb0⟩
  case round =>
    clear HS hw32
    obtain ⟨m, rs, q, hm, rfl, hr, hS, hM⟩ := hrel
    obtain ⟨ar, cr, rfl, -, -⟩ := hr.form
    cases m with
    | zero =>
      obtain ⟨e1, e2⟩ := rspM_end hM
      obtain ⟨hkr, hlq, hql, -⟩ := hM
      have hrd : Reads .u32 wr (.slice (some ⟨w.heap.size + 1, 0, none⟩) xa.length xa.length) q := RowAt.reads hS.o _ _ hql.symm (Nat.le_refl _) (by unfold maxLen; omega)
      have hrl : rs.length ≤ 1000000 := by
        have := canon_le_length hkb hkr (by rw [e2]; exact Nat.le_of_lt (Nat.mod_lt _ hb0))
        omega
      have HV := Lib.hid (And.intro e1 e2)
      have hneg : (((0 : Nat) : Int) - 1) = -1 := rfl
      rw [hneg]
      have hrr := hS.r
      have hchg := hS.chg
      have M1 := made_any false _ q wr hrd hlq (by omega)
      have M2 := fun X (hX : Below wr.heap.size wr X) => made_any false (.slice ar rs.length cr) rs X (hr.below hX) hkr.1 hrl
      clear e1 e2 hql hS hneg
      go_wp2_with (first
        | (go_at_call 65; with_reducible refine M1.mono ?_; rintro e w5 ⟨hb5, v5, rfl, hI⟩; obtain ⟨n5, a5, m5, c5, rfl⟩ := hI.shape; have hr5 := hrr.below hb5; clear M1)
        | (go_at_call 65; with_reducible refine (M2 _ hb5).mono ?_; rintro e w6 ⟨hb6, v6, rfl, hJ⟩; obtain ⟨n6, a6, m6, c6, rfl⟩ := hJ.shape; have hr6 := hr5.below hb6; have q1 := hr6.cell 0; have q2 := hr6.cell 1; have q3 := hr6.cell 2; have q4 := hr6.cell 3; have f1 := hr6.frozen 0; have f2 := hr6.frozen 1; have f3 := hr6.frozen 2; have f4 := hr6.frozen 3; simp only [List.getElem?_cons_zero, List.getElem?_cons_succ] at q1 q2 q3 q4))
      have q5 := (((hr6.set 0 (.bool n5)).set 1 (.slice a5 m5 c5)).set 2 (.bool n6)).set 3 (.slice a6 m6 c6)
      have u1 := q5.cell 0
      have u2 := q5.cell 1
      have u3 := q5.cell 2
      have u4 := q5.cell 3
      simp only [List.set_cons_zero, List.set_cons_succ, List.getElem?_cons_zero, List.getElem?_cons_succ] at u1 u2 u3 u4
      have b5 := hchg.trans (hb5.mono hchg.size)
      have b9 := b5.trans (hb6.mono b5.size)
      have hk := row4_keep hr6 (.bool n5) (.slice a5 m5 c5) (.bool n6) (.slice a6 m6 c6)
      refine bodyPost_ret (v := .agg #[.bool n5, .slice a5 m5 c5, .bool n6, .slice a6 m6 c6]) (by simp [results, Tryd.results107, go_sem, loadCellsFrom, u1, u2, u3, u4]) rfl ⟨(((b9.setCell (Nat.le_refl _) _).setCell (Nat.le_refl _) _).setCell (Nat.le_refl _) _).setCell (Nat.le_refl _) _, n5, a5, m5, c5, n6, a6, m6, c6, rfl, ?_, ?_⟩
      · rw [← HV.out.1]
        exact (hI.below hb6).keep hk
      · rw [← HV.out.2]
        exact hJ.keep hk
    | succ i =>
      have hi : ((i + 1 : Nat) : Int) - 1 = (i : Int) := by omega
      rw [hi]
      clear hi
      obtain ⟨L, hLe⟩ : ∃ L, i / 32 = L := ⟨_, rfl⟩
      obtain ⟨s, hse⟩ : ∃ s, i % 32 = s := ⟨_, rfl⟩
      have his : i = 32 * L + s := by omega
      have hs : s < 32 := by omega
      have hL : L < xa.length := by omega
      have hbit := val_bit hla his hs hL
      have hrl : rs.length ≤ xb.length := by
        obtain ⟨hk, -, -, Q, -, -, h⟩ := hM
        exact canon_le_length hkb hk (by omega)
      have K1 := rsum_canon _ _ rs rs wr hr hr hM.1 hM.1 (by omega) (by omega)
      have K2 := fun X (hX : Below wr.heap.size wr X) => bit_any (.slice aa xa.length ca) xa L s (i : Int) (by omega) (by omega) (by omega) (by omega) hs hL X ((ha.below hS.chg).below hX) hla
      rw [hbit] at K2
      obtain ⟨D, hD⟩ : ∃ D, val xa / 2 ^ i % 2 = D := ⟨_, rfl⟩
      rw [hD] at K2
      have hD2 : D = 0 ∨ D = 1 := by omega
      have HH := Lib.hid (And.intro hM (And.intro hD (And.intro his (And.intro hs (And.intro hL hm)))))
      clear hM hbit hD his hs hL hm hse hLe
      go_upto_if 36 with (first
        | (go_at_call 84; with_reducible refine K1.mono ?_; rintro e w2 ⟨hb2, v2, r2, rfl, hr2, hk2, hv2⟩; clear K1)
        | (go_at_call 97; with_reducible refine (K2 _ hb2).mono ?_; rintro e w3 ⟨⟨nq, rfl⟩, rfl⟩))
      clear K2
      replace hr2 := reads_drewN hr2 nq
      replace hS := (hS.step hb2).drewN nq
      generalize w2.drewN nq = w3 at *
      clear hb2 hr
      go_cut [6] from 37 to 39 (fun v6 W => ∃ r3, Reads .u32 W v6 r3 ∧ Canon r3 ∧ val r3 = 2 * val rs + D ∧ RspS w q W)
      case first =>
        rcases hD2 with rfl | rfl
        · go_wp2
          go_meet
          exact ⟨r2, hr2, hk2, by omega, hS⟩
        · have hl2 : r2.length ≤ 100000 := by
            have := canon_len_add hk2 HH.out.1.1.1 HH.out.1.1.1 (by omega)
            omega
          have hb1 := (Below.refl w3.heap.size w3).alloc (Nat.le_refl _) (.cells #[.int .u32 1] 72)
          have K3 := rsum_canon v2 (.slice (some ⟨w3.heap.size, 0, none⟩) 1 1) r2 [1] (w3.alloc (.cells #[.int .u32 1] 72)) (hr2.below hb1) (RowAt.reads (RowAt.new w3 72 [.int .u32 1]) 1 1 rfl (Nat.le_refl _) (by unfold maxLen; omega)) hk2 (canon_one (by decide) (by decide)) hl2 (by simp)
          go_wp2_with (go_at_call 84; with_reducible refine K3.mono ?_; rintro e w4 ⟨hb4, v4, r4, rfl, hr4, hk4, hv4⟩)
          go_meet
          exact ⟨r4, hr4, hk4, by rw [hv4, hv2]; simp [val]; omega, (hS.step hb1).step hb4⟩
      case rest =>
        clear hS hr2 hk2 hv2
        obtain ⟨r2, hr2, hk2, hv2, hS⟩ := hcut
        obtain ⟨hM, hD, his, hs, hL, hm⟩ := HH.out
        rw [← hD] at hv2
        clear hD2 hD HH
        obtain ⟨a2, c2, rfl, -, -⟩ := hr2.form
        generalize wc = w4 at *
        have hrl2 : r2.length ≤ xb.length + 1 := by
          apply canon_length_le hk2
          obtain ⟨-, -, -, Q, -, -, h⟩ := hM
          have e1 := val_lt hkb.1
          have e2 : B32 ^ xb.length * 2 ≤ B32 ^ xb.length * B32 := Nat.mul_le_mul_left _ (by decide)
          rw [Nat.pow_succ]
          have := Nat.mod_lt (val xa / 2 ^ i) (show 0 < 2 by decide)
          omega
        have KL := larger_any (.slice a2 r2.length c2) (.slice ab xb.length cb) r2 xb w4 hr2 (hb.below hS.chg) hk2 hkb (by omega)
        by_cases hlt : val r2 < val xb
        · rw [show cmpI (val r2 : Int) (val xb : Int) = -1 by unfold cmpI; rw [if_pos (by omega)]] at KL
          have hM2 := rspM_no hM hk2 hv2 hlt
          have HM := Lib.hid (And.intro hM2 hm)
          clear hM hv2 hm his hM2 hlt
          go_wp2_with (go_at_call 54; with_reducible refine KL.mono ?_; rintro e w5 ⟨hb5, rfl⟩)
          have hw64 : wrap64 ((i : Int) - 1) = (i : Int) - 1 := by have := HM.out.2; unfold wrap64; omega
          go_roundw
          case rel =>
            rw [hw64]
            exact ⟨i, r2, q, by have := HM.out.2; omega, rfl, hr2.below hb5, hS.step hb5, HM.out.1⟩
          case measure => simp [intOf]; omega
        · obtain ⟨c, hc⟩ : ∃ c, cmpI (val r2 : Int) (val xb : Int) = c := ⟨_, rfl⟩
          have hc0 : 0 ≤ c := by rw [← hc]; unfold cmpI; (repeat' split) <;> omega
          rw [hc] at KL
          have hge : val xb ≤ val r2 := by omega
          have K4 := fun X (hX : Below w4.heap.size w4 X) => rless_any (.slice a2 r2.length c2) (.slice ab xb.length cb) r2 xb X (hr2.below hX) ((hb.below hS.chg).below hX) hk2.1 hkb.1 (by omega) (canon_le_length hk2 hkb hge) hge
          have HM := Lib.hid (And.intro hM (And.intro hv2 (And.intro his (And.intro hm hge))))
          clear hM hv2 hm his hlt hc hge
          go_wp2_with (first
            | (go_at_call 54; with_reducible refine KL.mono ?_; rintro e w5 ⟨hb5, rfl⟩; clear KL)
            | (go_at_call 85; with_reducible refine (K4 _ hb5).mono ?_; rintro e w6 ⟨hb6, v6, cs, rfl, hr6, hl6, hv6, hn6⟩; clear K4; have M6 := made_fresh false v6 cs w6 hr6 hl6 (by omega))
            | (go_at_call 65; with_reducible refine M6.mono ?_; rintro e w7 ⟨hb7, v7, rfl, hJ, hfr⟩; obtain ⟨n7, a7, m7, c7, rfl⟩ := hJ.shape; clear M6))
          have hfr2 : ∀ a n c, Value.slice a7 m7 c7 = .slice (some a) n c → w.heap.size + 1 < a.block := fun a n c e => by
            simp only [Value.slice.injEq] at e
            obtain ⟨rfl, -, -⟩ := e
            have h1 := hfr n7 a m7 c7 rfl
            have h2 := hS.o.lt
            have h3 := hb5.size
            have h4 := hb6.size
            omega
          clear hfr
          obtain ⟨r3, hr3, hk3, hv3⟩ := isInt_list hJ
          have hB8 := (Below.refl w7.heap.size w7).alloc (Nat.le_refl _) (.cells #[.bool n7, .slice a7 m7 c7] 24)
          have hS8 := (((hS.step hb5).step hb6).step hb7).step hB8
          have hr8 := hr3.below hB8
          generalize w7.alloc (.cells #[.bool n7, .slice a7 m7 c7] 24) = w8 at *
          clear hB8 hb5 hb6 hb7 hr6 hl6 hn6 hJ hr3 hS hr2
          obtain ⟨hM, hv2, his, hm, hge⟩ := HM.out
          have hv4 : val r3 = val r2 - val xb := by rw [← hv6]; simp [sgn] at hv3; omega
          obtain ⟨f1, hM2⟩ := rspM_yes hM hk3 hv2 hge hv4 his hs hL
          have hql : q.length = xa.length := hM.2.2.1
          have hqb := limb_getD hM.2.1 L
          have hcell : w8.cell? ⟨w.heap.size + 1, L, none⟩ = some (.int .u32 ((q[L]?.getD 0 : Nat) : Int)) := by rw [hS8.o.cell, enc32_at (by omega)]
          have hfz := hS8.o.frozen L
          have ir := fun W => index_win (w.heap.size + 1) 0 xa.length xa.length L (by omega) .i64 W
          simp only [Nat.zero_add] at ir
          have hset := fun z => hS8.set L z
          generalize q[L]?.getD 0 = z at *
          have t1 : (i : Int) / 32 = (L : Int) := by omega
          have t5 : IntKind.i64.wrap (L : Int) = (L : Int) := by rw [IntKind.wrap_i64]; omega
          have t6 : wrap64 (L : Int) = (L : Int) := by unfold wrap64; omega
          have t2 : (i : Int) % 32 = (s : Int) := by omega
          have hPl : 2 ^ s < 2 ^ 32 := Nat.pow_lt_pow_right (by decide) hs
          have hP2 := pow_cast s
          generalize 2 ^ s = P at *
          obtain ⟨T, hT⟩ : ∃ T, z + P = T := ⟨_, rfl⟩
          rw [hT] at f1 hM2
          unfold B32 at f1
          have t4 : ((z : Int) + 2 ^ s) % 4294967296 = (T : Int) := by rw [hP2]; omega
          have hr9 := reads_beyond (L := L) (.int .u32 (T : Int)) hr8 hfr2
          have HM3 := Lib.hid (And.intro hM2 (And.intro hm (And.intro (hset T) hr9)))
          have HT := Lib.hid t4
          have HW := Lib.hid (show wrap64 ((i : Int) - 1) = (i : Int) - 1 by unfold wrap64; omega)
          clear hM2 hM hv2 his hm hge hT f1 hset hqb hql HM hv3 hv4 hv6 hP2 t4 hr8 hr9 hfr2 hS8 hk3 hc0 hrl2 hs hL hk2 hrl hcb hmb hb ha hca hma hb0 lb la hkb hla
          go_region
          rw [HT.out]
          go_wp2
          go_roundw
          case rel =>
            rw [HW.out]
            exact ⟨i, r3, q.set L T, by have := HM3.out.2.1; omega, rfl, reads_drew HM3.out.2.2.2, ⟨HM3.out.2.2.1.r, HM3.out.2.2.1.o, HM3.out.2.2.1.chg.drew⟩, HM3.out.1⟩
          case measure =>
            have := HW.out
            simp [intOf]
            omega

set_option maxHeartbeats 1000000 in
set_option maxRecDepth 100000 in
theorem rsplit_one (va vb : Value) (xa : List Nat) (d : Nat) (w : World) (ha : Reads .u32 w va xa) (hb : Reads .u32 w vb [d]) (hla : Limbs xa) (hkb : Canon [d]) (la : xa.length ≤ 90000) :
    Calls Tryd.prog 107 #[va, vb] w fun e w' => Below w.heap.size w w' ∧ PartsOut w' e ((val xa / d : Nat) : Int) ((val xa % d : Nat) : Int) := by
  have hd0 : 0 < d := by
    have := canon_last hkb (by simp)
    simp at this
    omega
  have hdB : d < B32 := hkb.1 d (by simp)
  obtain ⟨aa, ca, rfl, hca, hma⟩ := ha.form
  obtain ⟨ab, cb, rfl, hcb, hmb⟩ := hb.form
  have ib := fun W => hb.index und_limbs size_limb (P := Tryd.prog) 0 .i64 W (by simp)
  have cb1 := hb.cell 0 (by simp)
  simp only [List.getElem?_cons_zero, Option.getD_some] at cb1
  have b1 := (Below.refl w.heap.size w).alloc (Nat.le_refl _) (.cells #[.bool false, .slice none 0 0, .bool false, .slice none 0 0] 48)
  have cb2 := ((hb.below b1).cell 0 (by simp))
  simp only [List.getElem?_cons_zero, Option.getD_some] at cb2
  have r1 := RowAt.new w 48 [.bool false, .slice none 0 0, .bool false, .slice none 0 0]
  have K := rshort_any (.slice aa xa.length ca) xa d _ (ha.below b1) hla (by omega) hd0 hdB
  unfold PartsOut at K
  simp only [List.length_cons, List.length_nil, Nat.reduceAdd, Int.natCast_zero] at ib hb
  go_enter Tryd.func107, Tryd.ntmps107
  go_wp2_with (go_at_call 89; with_reducible refine K.mono ?_; rintro e w6 ⟨hb6, n5, a5, m5, c5, n6, a6, m6, c6, rfl, hI, hJ⟩; have hr6 := r1.below hb6; have q1 := hr6.cell 0; have q2 := hr6.cell 1; have q3 := hr6.cell 2; have q4 := hr6.cell 3; have f1 := hr6.frozen 0; have f2 := hr6.frozen 1; have f3 := hr6.frozen 2; have f4 := hr6.frozen 3; simp only [List.getElem?_cons_zero, List.getElem?_cons_succ] at q1 q2 q3 q4)
  have q5 := (((hr6.set 0 (.bool n5)).set 1 (.slice a5 m5 c5)).set 2 (.bool n6)).set 3 (.slice a6 m6 c6)
  have u1 := q5.cell 0
  have u2 := q5.cell 1
  have u3 := q5.cell 2
  have u4 := q5.cell 3
  simp only [List.set_cons_zero, List.set_cons_succ, List.getElem?_cons_zero, List.getElem?_cons_succ] at u1 u2 u3 u4
  have b9 := b1.trans (hb6.mono b1.size)
  have hk := row4_keep hr6 (.bool n5) (.slice a5 m5 c5) (.bool n6) (.slice a6 m6 c6)
  exact bodyPost_ret (v := .agg #[.bool n5, .slice a5 m5 c5, .bool n6, .slice a6 m6 c6]) (by simp [results, Tryd.results107, go_sem, loadCellsFrom, u1, u2, u3, u4]) rfl ⟨(((b9.setCell (Nat.le_refl _) _).setCell (Nat.le_refl _) _).setCell (Nat.le_refl _) _).setCell (Nat.le_refl _) _, n5, a5, m5, c5, n6, a6, m6, c6, rfl, hI.keep hk, hJ.keep hk⟩

/-- the specification's split, for every divisor -/
theorem rsplit_any (va vb : Value) (xa xb : List Nat) (w : World) (ha : Reads .u32 w va xa) (hb : Reads .u32 w vb xb) (hla : Limbs xa) (hkb : Canon xb) (la : xa.length ≤ 90000) (lb : xb.length ≤ 90000) (hb0 : 0 < val xb) :
    Calls Tryd.prog 107 #[va, vb] w fun e w' => Below w.heap.size w w' ∧ PartsOut w' e ((val xa / val xb : Nat) : Int) ((val xa % val xb : Nat) : Int) := by
  by_cases h1 : xb.length = 1
  · obtain ⟨d, rfl⟩ := List.length_eq_one_iff.1 h1
    have := rsplit_one va vb xa d w ha hb hla hkb la
    simpa [val] using this
  · exact rsplit_long va vb xa xb w ha hb hla hkb la lb h1 hb0
end Go.Proofs.YtlghjfpkfdnfoaaDoor

/- zermelolaw01.NumShifts -/
namespace Go.Proofs.YtlghjfpkfdnfoaaDoor
open Go Go.RowKit Go.Shelf

theorem boxes_two {W W' : World} {n m : Bool} {a b : Option Addr} {k c l d : Nat} {i j : Int} (h1 : IsInt W' (.agg #[.bool n, .slice a k c]) i) (h2 : IsInt W' (.agg #[.bool m, .slice b l d]) j) (hb : Below W.heap.size W W') :
    BoxI ((W'.alloc (.cells #[.bool n, .slice a k c] 24)).alloc (.cells #[.bool m, .slice b l d] 24)) (.pointer (some ⟨W'.heap.size, 0, none⟩)) i ∧ BoxI ((W'.alloc (.cells #[.bool n, .slice a k c] 24)).alloc (.cells #[.bool m, .slice b l d] 24)) (.pointer (some ⟨W'.heap.size + 1, 0, none⟩)) j ∧ Value.int .i64 0 = Value.int .i64 0 ∧
    Below W.heap.size W ((W'.alloc (.cells #[.bool n, .slice a k c] 24)).alloc (.cells #[.bool m, .slice b l d] 24)) := by
  have b1 := hb.alloc hb.size (.cells #[.bool n, .slice a k c] 24)
  have q := BoxI.new (n := m) (a := b) (m := l) (c := d) (h2.below ((Below.refl W'.heap.size W').alloc (Nat.le_refl _) (.cells #[.bool n, .slice a k c] 24)))
  rw [World.size_alloc] at q
  exact ⟨(BoxI.new h1).alloc _, q, rfl, b1.alloc b1.size _⟩

set_option maxHeartbeats 4000000 in
set_option maxRecDepth 100000 in
set_option exponentiation.threshold 400 in
theorem shifts_any (va : Value) (na : Bool) (xa : List Nat) (n : Nat) (hn : n ≤ 255) (w : World) (ha : IntAt w va na xa) (hT : DigitsAt w) :
    Calls Tryd.prog 11 #[va, .int .u8 (n : Int)] w fun e w' => Below w.heap.size w w' ∧ e = .returned (.bool true) := by
  obtain ⟨sa, rfl, hra, hla⟩ := ha
  obtain ⟨aa, ca, rfl, hca, hma⟩ := hra.form
  go_enter Tryd.func11, Tryd.ntmps11
  go_upto_region 0 with (fail)
  go_cut [2] from 0 to 0 (fun v2 W => BoxF W v2 na xa ∧ Below w.heap.size w W)
  case first =>
    go_wp2
    go_meet
    have B1 : Below w.heap.size w (w.alloc (.cells #[.bool na, .slice aa xa.length ca] 24)) := (Below.refl _ _).alloc (Nat.le_refl _) _
    exact ⟨⟨_, aa, ca, rfl, RowAt.new w 24 [.bool na, .slice aa xa.length ca], hra.below B1⟩, B1⟩
  case rest =>
    obtain ⟨q1, hbe⟩ := hcut
    clear hra hca hma
    have hT1 := hT.below hbe
    obtain ⟨b1, a1, c1, rfl, r1, j1⟩ := q1
    have d11 := r1.cell 0
    have d12 := r1.cell 1
    simp only [List.getElem?_cons_zero, List.getElem?_cons_succ] at d11 d12
    have hnew := RowAt.new wc 24 [.bool na, .slice a1 xa.length c1]
    have hB : Below wc.heap.size wc (wc.alloc (.cells #[.bool na, .slice a1 xa.length c1] 24)) := (Below.refl _ _).alloc (Nat.le_refl _) _
    have hf := formed_list [(na, .slice a1 xa.length c1, xa)] 60 wc.heap.size _ hnew (by simp) (by
      intro it hit
      simp only [List.mem_cons, List.not_mem_nil, or_false] at hit
      subst hit
      exact ⟨j1.below hB, hla⟩)
    simp only [List.length_cons, List.length_nil] at hf
    have hsz := hbe.size
    cases hall : List.all [(na, Value.slice a1 xa.length c1, xa)] (fitB 60) with
    | false =>
      rw [hall] at hf
      clear hnew hall
      go_wp2_with (first
        | (go_at_call 50; refine hf.mono ?_; rintro e w2 ⟨hb2, rfl⟩)
        | (go_at_call 16; refine (sane_any _ ((hT1.below hB).below hb2)).mono ?_; rintro e w3 ⟨hb3, rfl⟩))
      go_ret
      have e1 := hB.trans (hb2.mono hB.size)
      have e2 := e1.trans (hb3.mono e1.size)
      exact ⟨hbe.trans (e2.mono hsz), rfl⟩
    | true =>
      rw [hall] at hf
      have hA := Lib.hid hall
      clear hnew hall
      cases na with
      | true =>
        go_wp2_with (first
          | (go_at_call 50; refine hf.mono ?_; rintro e w2 ⟨hb2, rfl⟩; have e1 := hB.trans (hb2.mono hB.size); have g1 := (r1.below e1).cell 0; simp only [List.getElem?_cons_zero] at g1)
          | (go_at_call 16; refine (sane_any _ ((hT1.below hB).below hb2)).mono ?_; rintro e w3 ⟨hb3, rfl⟩))
        go_ret
        have e2 := e1.trans (hb3.mono e1.size)
        exact ⟨hbe.trans (e2.mono hsz), rfl⟩
      | false =>
        go_upto_region 3 with (go_at_call 50; refine hf.mono ?_; rintro e w2 ⟨hb2, rfl⟩; have e1 := hB.trans (hb2.mono hB.size); have g1 := (r1.below e1).cell 0; simp only [List.getElem?_cons_zero] at g1)
        obtain ⟨f1, l1⟩ : formedB false xa = true ∧ xa.length ≤ 60 := by
          have := hA.out
          simp only [List.all_cons, List.all_nil, fitB, Bool.and_true, Bool.and_eq_true, decide_eq_true_eq] at this
          exact ⟨this.1, by omega⟩
        have k1 := (IntAt.isInt ⟨_, rfl, j1.below e1, hla⟩ f1 : IsInt w2 (.agg #[.bool false, .slice a1 xa.length c1]) (sgn false (val xa)))
        have n1 : (sgn false (val xa)).natAbs < B32 ^ 60 := by rw [sgn_natAbs]; exact (canon_length_iff (formedB_bounds hla f1).1 60).1 l1
        have q2 : BoxI w2 (.pointer (some ⟨b1, 0, none⟩)) ((val xa : Nat) : Int) := ⟨b1, false, a1, xa.length, c1, rfl, r1.below e1, k1⟩
        replace hbe := hbe.trans (e1.mono hsz)
        have n2 : ((val xa : Nat) : Int).natAbs < B32 ^ 60 := n1
        clear hA hf l1 f1 d11 d12 hb2 hB e1 r1 j1 hsz hT1 hla k1 n1 g1
        generalize val xa = N at *
        obtain ⟨T, hTT⟩ : ∃ T : Nat, 2 ^ n = T := ⟨_, rfl⟩
        have hT0 : 0 < T := by rw [← hTT]; exact Nat.pow_pos (by omega)
        have hTb : ((T : Nat) : Int).natAbs < B32 ^ 8 := by rw [Int.natAbs_natCast, ← hTT, B32_pow]; exact Nat.pow_lt_pow_right (by omega) (by omega)
        have hpT : (2 : Int) ^ n = (T : Int) := by rw [← hTT]; simp
        have BN := b32_up n2 (by decide)
        have n60 := n2
        have BT := b32_up hTb (by decide)
        have cU : ((N : Int) * (T : Int)).natAbs < B32 ^ 68 := abs_mul_lt n2 hTb
        have BU := b32_up cU (by decide)
        have hTz : (T : Int) ≠ 0 := by omega
        have BQ : ((N / T : Nat) : Int).natAbs < B32 ^ 300 := by
          rw [Int.natAbs_natCast] at BN ⊢
          exact Nat.lt_of_le_of_lt (Nat.div_le_self _ _) BN
        have eU : (N : Int) * (T : Int) = ((N * T : Nat) : Int) := by simp
        have eD1 : ((N : Int) * (T : Int)).fdiv (T : Int) = (N : Int) := Int.mul_fdiv_cancel _ hTz
        have eD2 : ((N : Int) * (T : Int)).fmod (T : Int) = 0 := by rw [Int.fmod_def, eD1, Int.mul_comm]; omega
        have eQ : (N : Int).fdiv (T : Int) = ((N / T : Nat) : Int) := by rw [Int.fdiv_eq_ediv_of_nonneg _ (by omega)]; rfl
        have HE := Lib.hid (And.intro eU (And.intro eD1 (And.intro eD2 (And.intro eQ (And.intro hpT (And.intro hTT hT0))))))
        clear eU eD1 eD2 eQ hpT hTT cU hTb n2
        generalize w2 = wX2 at *
        go_upto_region 3 with (fail)
        go_cut [5, 6] from 29 to 35 (fun v1 v2 W => BoxI W v1 (T : Int) ∧ v2 = .int .i64 0 ∧ Below wX2.heap.size wX2 W)
        case first =>
          have hwn : IntKind.i64.wrap (n : Int) = (n : Int) := by rw [IntKind.wrap_i64]; omega
          have hpT := HE.out.2.2.2.2.1
          have HP := Lib.hid hpT
          clear hpT
          have C1 := rof_int 2 wX2 (by omega) (by omega)
          go_wp2_with (first
            | (go_at_call 27; refine C1.mono ?_; rintro e w3 ⟨hb3, v3, rfl, hi3⟩)
            | (go_at_call 37; refine (pow_two _ n _ hi3 hn).mono ?_; rintro e w4 ⟨hb4, v4, rfl, hi4⟩; obtain ⟨n4, s4, m4, q4, rfl⟩ := hi4.shape))
          go_meet
          rw [HP.out] at hi4
          have hb5 := hb3.trans (hb4.mono hb3.size)
          exact ⟨BoxI.new hi4, rfl, hb5.alloc hb5.size _⟩
        case rest =>
          obtain ⟨q5, rfl, hbn⟩ := hcut
          replace q2 := q2.below hbn
          replace hbe := hbe.trans (hbn.mono hbe.size)
          clear hbn
          generalize wc = wX3 at *
          go_upto_region 6 with (fail)
          go_cut [6, 7] from 38 to 43 (fun v1 v2 W => v1 = .int .i64 0 ∧ BoxI W v2 ((N : Int) * (T : Int)) ∧ Below wX3.heap.size wX3 W)
          case first =>
            obtain ⟨nx, ax, mx, cx, rx, ix⟩ := q2.at
            have xx := rx.cell 0
            have yx := rx.cell 1
            simp only [List.getElem?_cons_zero, List.getElem?_cons_succ] at xx yx
            obtain ⟨bz, ny, ay, my, cy, rfl, ry, iy⟩ := q5
            have xy := ry.cell 0
            have yy := ry.cell 1
            simp only [List.getElem?_cons_zero, List.getElem?_cons_succ] at xy yy
            have C := mul_int 60 (by decide) _ _ _ _ _ ix iy BN BT (.inl n60) BU
            go_wp2_with (go_at_call 30; with_reducible refine C.mono ?_; rintro e w3 ⟨hb3, v3, rfl, hi3⟩; obtain ⟨n3, s3, m3, q3, rfl⟩ := hi3.shape)
            go_meet
            exact ⟨rfl, BoxI.new hi3, hb3.alloc hb3.size _⟩
          case rest =>
            obtain ⟨rfl, q7, hbn⟩ := hcut
            replace q2 := q2.below hbn
            replace q5 := q5.below hbn
            replace hbe := hbe.trans (hbn.mono hbe.size)
            clear hbn
            generalize wc = wX6 at *
            go_upto_region 7 with (fail)
            go_cut [8, 9, 10] from 44 to 50 (fun v1 v2 v3 W => BoxI W v1 (N : Int) ∧ BoxI W v2 0 ∧ v3 = .int .i64 0 ∧ Below wX6.heap.size wX6 W)
            case first =>
              obtain ⟨bx, nx, ax, mx, cx, rfl, rx, ix⟩ := q7
              have xx := rx.cell 0
              have yx := rx.cell 1
              simp only [List.getElem?_cons_zero, List.getElem?_cons_succ] at xx yx
              obtain ⟨bz, ny, ay, my, cy, rfl, ry, iy⟩ := q5
              have xy := ry.cell 0
              have yy := ry.cell 1
              simp only [List.getElem?_cons_zero, List.getElem?_cons_succ] at xy yy
              have C := div_int _ _ _ _ _ ix iy BU BT hTz
              go_wp2_with (go_at_call 35; with_reducible refine C.mono ?_; rintro e w3 ⟨hb3, v3, v4, rfl, hi3, hi4⟩; obtain ⟨n3, s3, m3, q3, rfl⟩ := hi3.shape; obtain ⟨n4, s4, m4, q4, rfl⟩ := hi4.shape)
              go_meet
              rw [HE.out.2.1] at hi3
              rw [HE.out.2.2.1] at hi4
              exact boxes_two hi3 hi4 hb3
            case rest =>
              obtain ⟨q8, q9, rfl, hbn⟩ := hcut
              replace q2 := q2.below hbn
              replace q5 := q5.below hbn
              replace q7 := q7.below hbn
              replace hbe := hbe.trans (hbn.mono hbe.size)
              clear hbn
              generalize wc = wX7 at *
              go_upto_region 8 with (fail)
              go_cut [11, 12, 13] from 51 to 57 (fun v1 v2 v3 W => BoxI W v1 ((N / T : Nat) : Int) ∧ BoxI W v2 ((N : Int).fmod (T : Int)) ∧ v3 = .int .i64 0 ∧ Below wX7.heap.size wX7 W)
              case first =>
                obtain ⟨nx, ax, mx, cx, rx, ix⟩ := q2.at
                have xx := rx.cell 0
                have yx := rx.cell 1
                simp only [List.getElem?_cons_zero, List.getElem?_cons_succ] at xx yx
                obtain ⟨bz, ny, ay, my, cy, rfl, ry, iy⟩ := q5
                have xy := ry.cell 0
                have yy := ry.cell 1
                simp only [List.getElem?_cons_zero, List.getElem?_cons_succ] at xy yy
                have C := div_int _ _ _ _ _ ix iy BN BT hTz
                go_wp2_with (go_at_call 35; with_reducible refine C.mono ?_; rintro e w3 ⟨hb3, v3, v4, rfl, hi3, hi4⟩; obtain ⟨n3, s3, m3, q3, rfl⟩ := hi3.shape; obtain ⟨n4, s4, m4, q4, rfl⟩ := hi4.shape)
                go_meet
                rw [HE.out.2.2.2.1] at hi3
                exact boxes_two hi3 hi4 hb3
              case rest =>
                obtain ⟨q11, q12, rfl, hbn⟩ := hcut
                clear q12
                replace q2 := q2.below hbn
                replace q5 := q5.below hbn
                replace q7 := q7.below hbn
                replace q8 := q8.below hbn
                replace q9 := q9.below hbn
                replace hbe := hbe.trans (hbn.mono hbe.size)
                clear hbn
                generalize wc = wX8 at *
                go_upto_region 9 with (fail)
                go_cut [14, 15] from 58 to 62 (fun v1 v2 W => (∃ k : Nat, v1 = .int .i64 (k : Int) ∧ BitsIs k N ∧ k ≤ 9600) ∧ v2 = .int .i64 0 ∧ Below wX8.heap.size wX8 W)
                case first =>
                  obtain ⟨nx, ax, mx, cx, rx, ix⟩ := q2.at
                  have xx := rx.cell 0
                  have yx := rx.cell 1
                  simp only [List.getElem?_cons_zero, List.getElem?_cons_succ] at xx yx
                  have C := bits_int _ _ _ ix BN
                  go_wp2_with (go_at_call 21; with_reducible refine C.mono ?_; rintro e w3 ⟨hb3, k, rfl, hk, hkl⟩)
                  go_meet
                  have hk2 : BitsIs k N := hk
                  exact ⟨⟨k, rfl, hk2, hkl⟩, rfl, hb3⟩
                case rest =>
                  obtain ⟨⟨had, rfl, hhad, lhad⟩, rfl, hbn⟩ := hcut
                  replace q2 := q2.below hbn
                  replace q5 := q5.below hbn
                  replace q7 := q7.below hbn
                  replace q8 := q8.below hbn
                  replace q9 := q9.below hbn
                  replace q11 := q11.below hbn
                  replace hbe := hbe.trans (hbn.mono hbe.size)
                  clear hbn
                  generalize wc = wX9 at *
                  go_upto_region 10 with (fail)
                  go_cut [16, 17] from 63 to 67 (fun v1 v2 W => (∃ k : Nat, v1 = .int .i64 (k : Int) ∧ BitsIs k (N * T) ∧ k ≤ 9600) ∧ v2 = .int .i64 0 ∧ Below wX9.heap.size wX9 W)
                  case first =>
                    obtain ⟨bx, nx, ax, mx, cx, rfl, rx, ix⟩ := q7
                    have xx := rx.cell 0
                    have yx := rx.cell 1
                    simp only [List.getElem?_cons_zero, List.getElem?_cons_succ] at xx yx
                    have C := bits_int _ _ _ ix BU
                    go_wp2_with (go_at_call 21; with_reducible refine C.mono ?_; rintro e w3 ⟨hb3, k, rfl, hk, hkl⟩)
                    go_meet
                    have hk2 : BitsIs k (N * T) := by rw [HE.out.1] at hk; exact hk
                    exact ⟨⟨k, rfl, hk2, hkl⟩, rfl, hb3⟩
                  case rest =>
                    obtain ⟨⟨more, rfl, hmore, lmore⟩, rfl, hbn⟩ := hcut
                    replace q2 := q2.below hbn
                    replace q5 := q5.below hbn
                    replace q7 := q7.below hbn
                    replace q8 := q8.below hbn
                    replace q9 := q9.below hbn
                    replace q11 := q11.below hbn
                    replace hbe := hbe.trans (hbn.mono hbe.size)
                    clear hbn
                    generalize wc = wX10 at *
                    go_upto_region 11 with (fail)
                    go_cut [18, 19] from 68 to 72 (fun v1 v2 W => (∃ k : Nat, v1 = .int .i64 (k : Int) ∧ BitsIs k (N / T) ∧ k ≤ 9600) ∧ v2 = .int .i64 0 ∧ Below wX10.heap.size wX10 W)
                    case first =>
                      obtain ⟨bx, nx, ax, mx, cx, rfl, rx, ix⟩ := q11
                      have xx := rx.cell 0
                      have yx := rx.cell 1
                      simp only [List.getElem?_cons_zero, List.getElem?_cons_succ] at xx yx
                      have C := bits_int _ _ _ ix BQ
                      go_wp2_with (go_at_call 21; with_reducible refine C.mono ?_; rintro e w3 ⟨hb3, k, rfl, hk, hkl⟩)
                      go_meet
                      have hk2 : BitsIs k (N / T) := hk
                      exact ⟨⟨k, rfl, hk2, hkl⟩, rfl, hb3⟩
                    case rest =>
                      obtain ⟨⟨left, rfl, hleft, lleft⟩, rfl, hbn⟩ := hcut
                      replace q2 := q2.below hbn
                      replace q5 := q5.below hbn
                      replace q7 := q7.below hbn
                      replace q8 := q8.below hbn
                      replace q9 := q9.below hbn
                      replace q11 := q11.below hbn
                      replace hbe := hbe.trans (hbn.mono hbe.size)
                      clear hbn
                      generalize wc = wX11 at *
                      have hmul := fun h => bitsIs_mul (s := n) hhad (by rw [HE.out.2.2.2.2.2.1]; exact hmore) h
                      have hdiv := bitsIs_div (s := n) hhad (by rw [HE.out.2.2.2.2.2.1]; exact hleft)
                      clear hhad hmore hleft BN BT BU BQ n60
                      have BI : (had : Int) ≤ 9600 := by omega
                      have hmx : max (0 : Int) ((had : Int) - (n : Int)) = (left : Int) := by omega
                      have hwn : IntKind.i64.wrap (n : Int) = (n : Int) := by rw [IntKind.wrap_i64]; omega
                      obtain ⟨n2, a2, m2, c2, r2, i2⟩ := q2.at
                      obtain ⟨b8, n8, a8, m8, c8, rfl, r8, i8⟩ := q8
                      obtain ⟨b9, n9, a9, m9, c9, rfl, r9, i9⟩ := q9
                      obtain rfl : m9 = 0 := (isInt_zero i9).2 rfl
                      have hz2 := isInt_zero i2
                      clear q5 q7 q11 i9 hdiv HE hTz hT0
                      by_cases hN : N = 0
                      · obtain rfl : m2 = 0 := hz2.2 (by omega)
                        clear hmul hz2 lmore
                        go_wp2_with (first
                          | (go_at_call 16; with_reducible refine (sane_any _ (hT.below hbe)).mono ?_; rintro e w0 ⟨H0, rfl⟩; have x8 := (r8.below H0).cell 0; have y8 := (r8.below H0).cell 1; have x2 := (r2.below H0).cell 0; have y2 := (r2.below H0).cell 1; simp only [List.getElem?_cons_zero, List.getElem?_cons_succ] at x8 y8 x2 y2)
                          | (go_at_call 25; with_reducible refine (rsame_eq _ _ _ _ (i8.below H0) (i2.below H0)).mono ?_; rintro e w1 ⟨hs0, rfl⟩; have H1 := H0.trans (hs0.mono H0.size); have y9 := (r9.below H1).cell 1; have z2 := (r2.below H1).cell 1; simp only [List.getElem?_cons_zero, List.getElem?_cons_succ] at y9 z2))
                        go_ret
                        exact ⟨hbe.trans (H1.mono hbe.size), rfl⟩
                      · have hm2 : ¬ m2 = 0 := fun h => hN (by have := hz2.1 h; omega)
                        obtain rfl : more = had + n := hmul hN
                        clear hmul hz2 lmore
                        go_wp2_with (first
                          | (go_at_call 16; with_reducible refine (sane_any _ (hT.below hbe)).mono ?_; rintro e w0 ⟨H0, rfl⟩; have x8 := (r8.below H0).cell 0; have y8 := (r8.below H0).cell 1; have x2 := (r2.below H0).cell 0; have y2 := (r2.below H0).cell 1; simp only [List.getElem?_cons_zero, List.getElem?_cons_succ] at x8 y8 x2 y2)
                          | (go_at_call 25; with_reducible refine (rsame_eq _ _ _ _ (i8.below H0) (i2.below H0)).mono ?_; rintro e w1 ⟨hs0, rfl⟩; have H1 := H0.trans (hs0.mono H0.size); have y9 := (r9.below H1).cell 1; have z2 := (r2.below H1).cell 1; simp only [List.getElem?_cons_zero, List.getElem?_cons_succ] at y9 z2))
                        go_ret
                        exact ⟨hbe.trans (H1.mono hbe.size), rfl⟩

end Go.Proofs.YtlghjfpkfdnfoaaDoor

/- zermelolaw01.NumDivisors -/
namespace Go.Proofs.YtlghjfpkfdnfoaaDoor
open Go Go.RowKit Go.Shelf

theorem isInt_abs {w : World} {n : Bool} {v : Value} {i : Int} (h : IsInt w (.agg #[.bool n, v]) i) : IsInt w (.agg #[.bool false, v]) (i.natAbs : Int) := by
  obtain ⟨neg, va, xs, e, hr, hc, hn, rfl⟩ := h
  simp only [Value.agg.injEq, Array.mk.injEq, List.cons.injEq, Value.bool.injEq, and_true] at e
  obtain ⟨rfl, rfl⟩ := e
  exact ⟨false, _, xs, rfl, hr, hc, rfl, by rw [sgn_natAbs]; rfl⟩

set_option exponentiation.threshold 400 in
theorem gcd_int (va vb : Value) (i j : Int) (w : World) (ha : IsInt w va i) (hb : IsInt w vb j) (hi : i.natAbs < B32 ^ 30) (hj : j.natAbs < B32 ^ 30) :
    Calls Tryd.prog 41 #[va, vb] w fun e w' => Below w.heap.size w w' ∧ ∃ g x y k l, e = .returned (.tuple #[g, x, y, .int .i64 0]) ∧ IsInt w' g (Nat.gcd i.natAbs j.natAbs : Nat) ∧ IsInt w' x k ∧ IsInt w' y l := by
  obtain ⟨na, xa, hA, fa, rfl, ca, la⟩ := ha.at (abs_lt_up hi (by decide))
  obtain ⟨nb, xb, hB, fb, rfl, cb, lb⟩ := hb.at (abs_lt_up hj (by decide))
  rw [sgn_natAbs] at hi hj
  rw [sgn_natAbs, sgn_natAbs]
  refine (Gcd_ok va vb na nb xa xb w hA hB fa fb (Nat.gcd (val xa) (val xb) : Nat) (fun _ _ => True) (fun W hW => ?_)).mono ?_
  · obtain ⟨va', rfl, hra, hla⟩ := hA
    obtain ⟨vb', rfl, hrb, hlb⟩ := hB
    refine (divisor_any 30 (by omega) (divUpTo_le (divUpTo_all 30) (by omega) (by omega)) (by omega) va' vb' na nb xa xb W (hra.below hW) (hrb.below hW) ca cb (canon_length_le ca hi) (canon_length_le cb hj) la lb).mono ?_
    rintro e W' ⟨hbe, g, x, y, k, l, rfl, h1, h2, h3, -⟩
    exact ⟨hbe, g, x, y, k, l, rfl, h1, h2, h3, trivial⟩
  · rintro e W ⟨hbe, g, x, y, k, l, rfl, h1, h2, h3, -⟩
    exact ⟨hbe, g, x, y, k, l, rfl, h1, h2, h3⟩

theorem box_first {W W' : World} {n m p : Bool} {a b d : Option Addr} {k c l e q r : Nat} {i : Int} (h1 : IsInt W' (.agg #[.bool n, .slice a k c]) i) (hb : Below W.heap.size W W') :
    BoxI (((W'.alloc (.cells #[.bool n, .slice a k c] 24)).alloc (.cells #[.bool m, .slice b l e] 24)).alloc (.cells #[.bool p, .slice d q r] 24)) (.pointer (some ⟨W'.heap.size, 0, none⟩)) i ∧
    Below W.heap.size W (((W'.alloc (.cells #[.bool n, .slice a k c] 24)).alloc (.cells #[.bool m, .slice b l e] 24)).alloc (.cells #[.bool p, .slice d q r] 24)) := by
  have b1 := hb.alloc hb.size (.cells #[.bool n, .slice a k c] 24)
  have b2 := b1.alloc b1.size (.cells #[.bool m, .slice b l e] 24)
  exact ⟨((BoxI.new h1).alloc _).alloc _, b2.alloc b2.size _⟩

set_option maxHeartbeats 4000000 in
set_option maxRecDepth 100000 in
set_option exponentiation.threshold 400 in
theorem divisors_any (va vb vc : Value) (na nb nc : Bool) (xa xb xc : List Nat) (w : World) (ha : IntAt w va na xa) (hb : IntAt w vb nb xb) (hc : IntAt w vc nc xc) (hT : DigitsAt w) :
    Calls Tryd.prog 12 #[va, vb, vc] w fun e w' => Below w.heap.size w w' ∧ e = .returned (.bool true) := by
  obtain ⟨sa, rfl, hra, hla⟩ := ha
  obtain ⟨sb, rfl, hrb, hlb⟩ := hb
  obtain ⟨sc, rfl, hrc, hlc⟩ := hc
  obtain ⟨aa, ca, rfl, hca, hma⟩ := hra.form
  obtain ⟨ab, cb, rfl, hcb, hmb⟩ := hrb.form
  obtain ⟨ac, cc, rfl, hcc, hmc⟩ := hrc.form
  go_enter Tryd.func12, Tryd.ntmps12
  go_upto_region 0 with (fail)
  go_cut [3, 4, 5] from 0 to 2 (fun v3 v4 v5 W => BoxF W v3 na xa ∧ BoxF W v4 nb xb ∧ BoxF W v5 nc xc ∧ Below w.heap.size w W)
  case first =>
    go_wp2
    go_meet
    have B1 : Below w.heap.size w (w.alloc (.cells #[.bool na, .slice aa xa.length ca] 24)) := (Below.refl _ _).alloc (Nat.le_refl _) _
    have B2 := B1.alloc B1.size (.cells #[.bool nb, .slice ab xb.length cb] 24)
    have B3 := B2.alloc B2.size (.cells #[.bool nc, .slice ac xc.length cc] 24)
    have C1 : BoxF _ _ na xa := ⟨_, aa, ca, rfl, RowAt.new w 24 [.bool na, .slice aa xa.length ca], hra.below B1⟩
    have C2 : BoxF _ _ nb xb := ⟨_, ab, cb, rfl, RowAt.new (w.alloc (.cells #[.bool na, .slice aa xa.length ca] 24)) 24 [.bool nb, .slice ab xb.length cb], hrb.below B2⟩
    have C3 : BoxF _ _ nc xc := ⟨_, ac, cc, rfl, RowAt.new ((w.alloc (.cells #[.bool na, .slice aa xa.length ca] 24)).alloc (.cells #[.bool nb, .slice ab xb.length cb] 24)) 24 [.bool nc, .slice ac xc.length cc], hrc.below B3⟩
    simp only [World.size_alloc] at C2 C3
    exact ⟨(C1.below ((Below.refl _ _).alloc (Nat.le_refl _) _)).below ((Below.refl _ _).alloc (Nat.le_refl _) _), C2.below ((Below.refl _ _).alloc (Nat.le_refl _) _), C3, B3⟩
  case rest =>
    obtain ⟨q1, q2, q3, hbe⟩ := hcut
    clear hra hrb hrc hca hcb hcc hma hmb hmc
    have hT1 := hT.below hbe
    obtain ⟨b1, a1, c1, rfl, r1, j1⟩ := q1
    obtain ⟨b2, a2, c2, rfl, r2, j2⟩ := q2
    obtain ⟨b3, a3, c3, rfl, r3, j3⟩ := q3
    have d11 := r1.cell 0
    have d12 := r1.cell 1
    have d21 := r2.cell 0
    have d22 := r2.cell 1
    have d31 := r3.cell 0
    have d32 := r3.cell 1
    simp only [List.getElem?_cons_zero, List.getElem?_cons_succ] at d11 d12 d21 d22 d31 d32
    have hnew := RowAt.new wc 24 [.bool na, .slice a1 xa.length c1, .bool nb, .slice a2 xb.length c2, .bool nc, .slice a3 xc.length c3]
    have hB : Below wc.heap.size wc (wc.alloc (.cells #[.bool na, .slice a1 xa.length c1, .bool nb, .slice a2 xb.length c2, .bool nc, .slice a3 xc.length c3] 24)) := (Below.refl _ _).alloc (Nat.le_refl _) _
    have hf := formed_list [(na, .slice a1 xa.length c1, xa), (nb, .slice a2 xb.length c2, xb), (nc, .slice a3 xc.length c3, xc)] 8 wc.heap.size _ hnew (by simp) (by
      intro it hit
      simp only [List.mem_cons, List.not_mem_nil, or_false] at hit
      rcases hit with rfl | rfl | rfl
      · exact ⟨j1.below hB, hla⟩
      · exact ⟨j2.below hB, hlb⟩
      · exact ⟨j3.below hB, hlc⟩)
    simp only [List.length_cons, List.length_nil] at hf
    have hsz := hbe.size
    cases hall : List.all [(na, Value.slice a1 xa.length c1, xa), (nb, Value.slice a2 xb.length c2, xb), (nc, Value.slice a3 xc.length c3, xc)] (fitB 8) with
    | false =>
      rw [hall] at hf
      clear hnew hall
      go_wp2_with (first
        | (go_at_call 50; refine hf.mono ?_; rintro e w2 ⟨hb2, rfl⟩)
        | (go_at_call 16; refine (sane_any _ ((hT1.below hB).below hb2)).mono ?_; rintro e w3 ⟨hb3, rfl⟩))
      go_ret
      have e1 := hB.trans (hb2.mono hB.size)
      have e2 := e1.trans (hb3.mono e1.size)
      exact ⟨hbe.trans (e2.mono hsz), rfl⟩
    | true =>
      rw [hall] at hf
      have hA := Lib.hid hall
      clear hnew hall
      go_upto_region 3 with (go_at_call 50; refine hf.mono ?_; rintro e w2 ⟨hb2, rfl⟩)
      have e1 := hB.trans (hb2.mono hB.size)
      obtain ⟨⟨f1, l1⟩, ⟨f2, l2⟩, ⟨f3, l3⟩⟩ : (formedB na xa = true ∧ xa.length ≤ 8) ∧ (formedB nb xb = true ∧ xb.length ≤ 8) ∧ (formedB nc xc = true ∧ xc.length ≤ 8) := by
        have := hA.out
        simp only [List.all_cons, List.all_nil, fitB, Bool.and_true, Bool.and_eq_true, decide_eq_true_eq] at this
        exact ⟨⟨this.1.1, by omega⟩, ⟨this.2.1.1, by omega⟩, ⟨this.2.2.1, by omega⟩⟩
      have k1 := (IntAt.isInt ⟨_, rfl, j1.below e1, hla⟩ f1 : IsInt w2 (.agg #[.bool na, .slice a1 xa.length c1]) (sgn na (val xa)))
      have k2 := (IntAt.isInt ⟨_, rfl, j2.below e1, hlb⟩ f2 : IsInt w2 (.agg #[.bool nb, .slice a2 xb.length c2]) (sgn nb (val xb)))
      have k3 := (IntAt.isInt ⟨_, rfl, j3.below e1, hlc⟩ f3 : IsInt w2 (.agg #[.bool nc, .slice a3 xc.length c3]) (sgn nc (val xc)))
      have n1 : (sgn na (val xa)).natAbs < B32 ^ 8 := by rw [sgn_natAbs]; exact (canon_length_iff (formedB_bounds hla f1).1 8).1 l1
      have n2 : (sgn nb (val xb)).natAbs < B32 ^ 8 := by rw [sgn_natAbs]; exact (canon_length_iff (formedB_bounds hlb f2).1 8).1 l2
      have n3 : (sgn nc (val xc)).natAbs < B32 ^ 8 := by rw [sgn_natAbs]; exact (canon_length_iff (formedB_bounds hlc f3).1 8).1 l3
      have q3 : BoxI w2 (.pointer (some ⟨b1, 0, none⟩)) (sgn na (val xa)) := ⟨b1, na, a1, xa.length, c1, rfl, r1.below e1, k1⟩
      have q4 : BoxI w2 (.pointer (some ⟨b2, 0, none⟩)) (sgn nb (val xb)) := ⟨b2, nb, a2, xb.length, c2, rfl, r2.below e1, k2⟩
      have q5 : BoxI w2 (.pointer (some ⟨b3, 0, none⟩)) (sgn nc (val xc)) := ⟨b3, nc, a3, xc.length, c3, rfl, r3.below e1, k3⟩
      replace hbe := hbe.trans (e1.mono hsz)
      clear hA hf l1 l2 l3 f1 f2 f3 d11 d12 d21 d22 d31 d32 hb2 hB e1 r1 r2 r3 j1 j2 j3 hsz hT1 hla hlb hlc k1 k2 k3
      generalize sgn na (val xa) = i at *
      generalize sgn nb (val xb) = j at *
      generalize sgn nc (val xc) = k at *
      obtain ⟨G, hG⟩ : ∃ G, Nat.gcd i.natAbs j.natAbs = G := ⟨_, rfl⟩
      have gi : (G : Int) ∣ i := by rw [← hG]; exact Int.ofNat_dvd_left.2 (Nat.gcd_dvd_left _ _)
      have gj : (G : Int) ∣ j := by rw [← hG]; exact Int.ofNat_dvd_left.2 (Nat.gcd_dvd_right _ _)
      have hGb : ((G : Nat) : Int).natAbs < B32 ^ 8 := by
        rw [Int.natAbs_natCast, ← hG]
        rcases Nat.eq_zero_or_pos i.natAbs with h0 | h0
        · rw [h0, Nat.gcd_zero_left]; exact n2
        · exact Nat.lt_of_le_of_lt (Nat.gcd_le_left _ h0) n1
      have hGk : Nat.gcd (i * k).natAbs (j * k).natAbs = G * k.natAbs := by rw [Int.natAbs_mul, Int.natAbs_mul, Nat.gcd_mul_right, hG]
      have hGk2 : ((G : Nat) : Int) * (k.natAbs : Int) = ((G * k.natAbs : Nat) : Int) := by simp
      have cX : (i * k).natAbs < B32 ^ 16 := abs_mul_lt n1 n3
      have cY : (j * k).natAbs < B32 ^ 16 := abs_mul_lt n2 n3
      have nK : ((k.natAbs : Nat) : Int).natAbs < B32 ^ 8 := by rw [Int.natAbs_natCast]; exact n3
      have cW : (((G : Nat) : Int) * (k.natAbs : Int)).natAbs < B32 ^ 16 := abs_mul_lt hGb nK
      have Bi := b32_up n1 (by decide)
      have Bj := b32_up n2 (by decide)
      have Bk := b32_up n3 (by decide)
      have BG := b32_up hGb (by decide)
      have BK := b32_up nK (by decide)
      have BX := b32_up cX (by decide)
      have BY := b32_up cY (by decide)
      have BW := b32_up cW (by decide)
      have i30 := abs_lt_up n1 (show 8 ≤ 30 by decide)
      have j30 := abs_lt_up n2 (show 8 ≤ 30 by decide)
      have x30 := abs_lt_up cX (show 16 ≤ 30 by decide)
      have y30 := abs_lt_up cY (show 16 ≤ 30 by decide)
      have HE := Lib.hid (And.intro hG (And.intro hGk (And.intro hGk2 (And.intro gi gj))))
      have N1 := n1
      have N3 := n3
      clear hG hGk hGk2 gi gj cX cY cW nK n1 n2 n3
      generalize w2 = wX2 at *
      go_upto_region 3 with (fail)
      go_cut [7, 8, 9, 10] from 33 to 40 (fun v1 v2 v3 v4 W => BoxI W v1 (G : Int) ∧ v4 = .int .i64 0 ∧ Below wX2.heap.size wX2 W)
      case first =>
        obtain ⟨n1, a1, m1, c1, r1, i1⟩ := q3.at
        have x1 := r1.cell 0
        have y1 := r1.cell 1
        simp only [List.getElem?_cons_zero, List.getElem?_cons_succ] at x1 y1
        obtain ⟨n2, a2, m2, c2, r2, i2⟩ := q4.at
        have x2 := r2.cell 0
        have y2 := r2.cell 1
        simp only [List.getElem?_cons_zero, List.getElem?_cons_succ] at x2 y2
        have C := gcd_int _ _ _ _ _ i1 i2 i30 j30
        go_wp2_with (go_at_call 41; with_reducible refine C.mono ?_; rintro e w3 ⟨hb3, v3, v4, v5, k4, k5, rfl, hi3, hi4, hi5⟩; obtain ⟨n3, s3, m3, q3, rfl⟩ := hi3.shape; obtain ⟨n4, s4, m4, q4, rfl⟩ := hi4.shape; obtain ⟨n5, s5, m5, q5, rfl⟩ := hi5.shape)
        go_meet
        rw [HE.out.1] at hi3
        obtain ⟨z1, z2⟩ := box_first hi3 hb3
        exact ⟨z1, rfl, z2⟩
      case rest =>
        obtain ⟨q7, rfl, hbn⟩ := hcut
        replace q3 := q3.below hbn
        replace q4 := q4.below hbn
        replace q5 := q5.below hbn
        replace hbe := hbe.trans (hbn.mono hbe.size)
        clear hbn
        generalize wc = wX3 at *
        go_upto_region 4 with (fail)
        go_cut [11, 12] from 41 to 46 (fun v1 v2 W => BoxI W v1 (i * k) ∧ v2 = .int .i64 0 ∧ Below wX3.heap.size wX3 W)
        case first =>
          obtain ⟨n1, a1, m1, c1, r1, i1⟩ := q3.at
          have x1 := r1.cell 0
          have y1 := r1.cell 1
          simp only [List.getElem?_cons_zero, List.getElem?_cons_succ] at x1 y1
          obtain ⟨n2, a2, m2, c2, r2, i2⟩ := q5.at
          have x2 := r2.cell 0
          have y2 := r2.cell 1
          simp only [List.getElem?_cons_zero, List.getElem?_cons_succ] at x2 y2
          have C := mul_int 8 (by decide) _ _ _ _ _ i1 i2 Bi Bk (.inl N1) BX
          go_wp2_with (go_at_call 30; with_reducible refine C.mono ?_; rintro e w3 ⟨hb3, v3, rfl, hi3⟩; obtain ⟨n3, s3, m3, q3, rfl⟩ := hi3.shape)
          go_meet
          exact ⟨BoxI.new hi3, rfl, hb3.alloc hb3.size _⟩
        case rest =>
          obtain ⟨q11, rfl, hbn⟩ := hcut
          replace q3 := q3.below hbn
          replace q4 := q4.below hbn
          replace q5 := q5.below hbn
          replace q7 := q7.below hbn
          replace hbe := hbe.trans (hbn.mono hbe.size)
          clear hbn
          generalize wc = wX4 at *
          go_upto_region 5 with (fail)
          go_cut [13, 14] from 47 to 52 (fun v1 v2 W => BoxI W v1 (j * k) ∧ v2 = .int .i64 0 ∧ Below wX4.heap.size wX4 W)
          case first =>
            obtain ⟨n1, a1, m1, c1, r1, i1⟩ := q4.at
            have x1 := r1.cell 0
            have y1 := r1.cell 1
            simp only [List.getElem?_cons_zero, List.getElem?_cons_succ] at x1 y1
            obtain ⟨n2, a2, m2, c2, r2, i2⟩ := q5.at
            have x2 := r2.cell 0
            have y2 := r2.cell 1
            simp only [List.getElem?_cons_zero, List.getElem?_cons_succ] at x2 y2
            have C := mul_int 8 (by decide) _ _ _ _ _ i1 i2 Bj Bk (.inr N3) BY
            go_wp2_with (go_at_call 30; with_reducible refine C.mono ?_; rintro e w3 ⟨hb3, v3, rfl, hi3⟩; obtain ⟨n3, s3, m3, q3, rfl⟩ := hi3.shape)
            go_meet
            exact ⟨BoxI.new hi3, rfl, hb3.alloc hb3.size _⟩
          case rest =>
            obtain ⟨q13, rfl, hbn⟩ := hcut
            replace q3 := q3.below hbn
            replace q4 := q4.below hbn
            replace q5 := q5.below hbn
            replace q7 := q7.below hbn
            replace q11 := q11.below hbn
            replace hbe := hbe.trans (hbn.mono hbe.size)
            clear hbn
            generalize wc = wX5 at *
            go_upto_region 6 with (fail)
            go_cut [15, 16, 17, 18] from 53 to 60 (fun v1 v2 v3 v4 W => BoxI W v1 ((G * k.natAbs : Nat) : Int) ∧ v4 = .int .i64 0 ∧ Below wX5.heap.size wX5 W)
            case first =>
              obtain ⟨b1, n1, a1, m1, c1, rfl, r1, i1⟩ := q11
              have x1 := r1.cell 0
              have y1 := r1.cell 1
              simp only [List.getElem?_cons_zero, List.getElem?_cons_succ] at x1 y1
              obtain ⟨b2, n2, a2, m2, c2, rfl, r2, i2⟩ := q13
              have x2 := r2.cell 0
              have y2 := r2.cell 1
              simp only [List.getElem?_cons_zero, List.getElem?_cons_succ] at x2 y2
              have C := gcd_int _ _ _ _ _ i1 i2 x30 y30
              go_wp2_with (go_at_call 41; with_reducible refine C.mono ?_; rintro e w3 ⟨hb3, v3, v4, v5, k4, k5, rfl, hi3, hi4, hi5⟩; obtain ⟨n3, s3, m3, q3, rfl⟩ := hi3.shape; obtain ⟨n4, s4, m4, q4, rfl⟩ := hi4.shape; obtain ⟨n5, s5, m5, q5, rfl⟩ := hi5.shape)
              go_meet
              rw [HE.out.2.1] at hi3
              obtain ⟨z1, z2⟩ := box_first hi3 hb3
              exact ⟨z1, rfl, z2⟩
            case rest =>
              obtain ⟨q15, rfl, hbn⟩ := hcut
              replace q3 := q3.below hbn
              replace q4 := q4.below hbn
              replace q5 := q5.below hbn
              replace q7 := q7.below hbn
              replace q11 := q11.below hbn
              replace q13 := q13.below hbn
              replace hbe := hbe.trans (hbn.mono hbe.size)
              clear hbn
              generalize wc = wX6 at *
              obtain ⟨n1, a1, m1, c1, r1, i1⟩ := q5.at
              have x1 := r1.cell 0
              have y1 := r1.cell 1
              simp only [List.getElem?_cons_zero, List.getElem?_cons_succ] at x1 y1
              go_upto_region 9 with (fail)
              clear x1 y1
              have q19 := BoxI.new (isInt_abs i1)
              have hbn := (Below.refl wX6.heap.size wX6).alloc (Nat.le_refl _) (.cells #[.bool false, .slice a1 m1 c1] 24)
              clear r1 i1
              replace q3 := q3.below hbn
              replace q4 := q4.below hbn
              replace q5 := q5.below hbn
              replace q7 := q7.below hbn
              replace q11 := q11.below hbn
              replace q13 := q13.below hbn
              replace q15 := q15.below hbn
              replace hbe := hbe.trans (hbn.mono hbe.size)
              clear hbn
              generalize wX6.alloc (.cells #[.bool false, .slice a1 m1 c1] 24) = wX7 at *
              go_cut [20, 21] from 63 to 68 (fun v1 v2 W => BoxI W v1 ((G * k.natAbs : Nat) : Int) ∧ v2 = .int .i64 0 ∧ Below wX7.heap.size wX7 W)
              case first =>
                obtain ⟨b1, n1, a1, m1, c1, rfl, r1, i1⟩ := q7
                have x1 := r1.cell 0
                have y1 := r1.cell 1
                simp only [List.getElem?_cons_zero, List.getElem?_cons_succ] at x1 y1
                obtain ⟨n2, a2, m2, c2, r2, i2⟩ := q19.at
                have x2 := r2.cell 0
                have y2 := r2.cell 1
                simp only [List.getElem?_cons_zero, List.getElem?_cons_succ] at x2 y2
                have C := mul_int 8 (by decide) _ _ _ _ _ i1 i2 BG BK (.inl hGb) BW
                go_wp2_with (go_at_call 30; with_reducible refine C.mono ?_; rintro e w3 ⟨hb3, v3, rfl, hi3⟩; obtain ⟨n3, s3, m3, q3, rfl⟩ := hi3.shape)
                go_meet
                rw [HE.out.2.2.1] at hi3
                exact ⟨BoxI.new hi3, rfl, hb3.alloc hb3.size _⟩
              case rest =>
                obtain ⟨q20, rfl, hbn⟩ := hcut
                replace q3 := q3.below hbn
                replace q4 := q4.below hbn
                replace q5 := q5.below hbn
                replace q7 := q7.below hbn
                replace q11 := q11.below hbn
                replace q13 := q13.below hbn
                replace q15 := q15.below hbn
                replace q19 := q19.below hbn
                replace hbe := hbe.trans (hbn.mono hbe.size)
                clear hbn
                generalize wc = wX9 at *
                clear q5 q11 q13 q19 BX BY BW BK Bk i30 j30 x30 y30 N1 N3
                obtain ⟨b1, n1, a1, m1, c1, rfl, r1, i1⟩ := q15
                have x1 := r1.cell 0
                have y1 := r1.cell 1
                simp only [List.getElem?_cons_zero, List.getElem?_cons_succ] at x1 y1
                obtain ⟨b2, n2, a2, m2, c2, rfl, r2, i2⟩ := q20
                have x2 := r2.cell 0
                have y2 := r2.cell 1
                simp only [List.getElem?_cons_zero, List.getElem?_cons_succ] at x2 y2
                have C := rsame_eq _ _ _ _ i1 i2
                clear i1 i2 r1 r2
                go_upto_region 12 with (go_at_call 25; with_reducible refine C.mono ?_; rintro e wY ⟨hbn, rfl⟩)
                clear C x1 y1 x2 y2
                replace q3 := q3.below hbn
                replace q4 := q4.below hbn
                replace q7 := q7.below hbn
                replace hbe := hbe.trans (hbn.mono hbe.size)
                clear hbn
                obtain ⟨b7, n7, a7, m7, c7, rfl, r7, i7⟩ := q7
                have hz := isInt_zero i7
                have y7 := r7.cell 1
                simp only [List.getElem?_cons_zero, List.getElem?_cons_succ] at y7
                by_cases hm : m7 = 0
                · subst hm
                  clear hz i7 r7 q3 q4
                  go_wp2_with (go_at_call 16; refine (sane_any _ (hT.below hbe)).mono ?_; rintro e w3 ⟨hb3, rfl⟩)
                  go_ret
                  exact ⟨hbe.trans (hb3.mono hbe.size), rfl⟩
                · have hG0 : (G : Int) ≠ 0 := fun h => hm (hz.2 h)
                  have e1 : i.fmod (G : Int) = 0 := Int.fmod_eq_zero_of_dvd HE.out.2.2.2.1
                  have e2 : j.fmod (G : Int) = 0 := Int.fmod_eq_zero_of_dvd HE.out.2.2.2.2
                  have q7 : BoxI wY (.pointer (some ⟨b7, 0, none⟩)) (G : Int) := ⟨b7, n7, a7, m7, c7, rfl, r7, i7⟩
                  have HZ := Lib.hid (And.intro e1 e2)
                  clear hz e1 e2 i7 r7
                  go_upto_region 14 with (fail)
                  clear y7
                  go_cut [10, 22, 23] from 93 to 104 (fun v1 v2 v3 W => v1 = .int .i64 0 ∧ BoxI W v3 0 ∧ Below wY.heap.size wY W)
                  case first =>
                    obtain ⟨n1, a1, m1, c1, r1, i1⟩ := q3.at
                    have x1 := r1.cell 0
                    have y1 := r1.cell 1
                    simp only [List.getElem?_cons_zero, List.getElem?_cons_succ] at x1 y1
                    obtain ⟨n2, a2, m2, c2, r2, i2⟩ := q7.at
                    have x2 := r2.cell 0
                    have y2 := r2.cell 1
                    simp only [List.getElem?_cons_zero, List.getElem?_cons_succ] at x2 y2
                    have C := div_int _ _ _ _ _ i1 i2 Bi BG hG0
                    go_wp2_with (go_at_call 35; with_reducible refine C.mono ?_; rintro e w3 ⟨hb3, v3, v4, rfl, hi3, hi4⟩; obtain ⟨n3, s3, m3, q3, rfl⟩ := hi3.shape; obtain ⟨n4, s4, m4, q4, rfl⟩ := hi4.shape)
                    go_meet
                    rw [HZ.out.1] at hi4
                    obtain ⟨z1, z2, -, z4⟩ := boxes_two hi3 hi4 hb3
                    exact ⟨rfl, z2, z4⟩
                  case rest =>
                    obtain ⟨rfl, q23, hbn⟩ := hcut
                    replace q3 := q3.below hbn
                    replace q4 := q4.below hbn
                    replace q7 := q7.below hbn
                    replace hbe := hbe.trans (hbn.mono hbe.size)
                    clear hbn
                    generalize wc = wX14 at *
                    go_upto_region 15 with (fail)
                    go_cut [12, 24, 25] from 105 to 111 (fun v1 v2 v3 W => v1 = .int .i64 0 ∧ BoxI W v3 0 ∧ Below wX14.heap.size wX14 W)
                    case first =>
                      obtain ⟨n1, a1, m1, c1, r1, i1⟩ := q4.at
                      have x1 := r1.cell 0
                      have y1 := r1.cell 1
                      simp only [List.getElem?_cons_zero, List.getElem?_cons_succ] at x1 y1
                      obtain ⟨n2, a2, m2, c2, r2, i2⟩ := q7.at
                      have x2 := r2.cell 0
                      have y2 := r2.cell 1
                      simp only [List.getElem?_cons_zero, List.getElem?_cons_succ] at x2 y2
                      have C := div_int _ _ _ _ _ i1 i2 Bj BG hG0
                      go_wp2_with (go_at_call 35; with_reducible refine C.mono ?_; rintro e w3 ⟨hb3, v3, v4, rfl, hi3, hi4⟩; obtain ⟨n3, s3, m3, q3, rfl⟩ := hi3.shape; obtain ⟨n4, s4, m4, q4, rfl⟩ := hi4.shape)
                      go_meet
                      rw [HZ.out.2] at hi4
                      obtain ⟨z1, z2, -, z4⟩ := boxes_two hi3 hi4 hb3
                      exact ⟨rfl, z2, z4⟩
                    case rest =>
                      obtain ⟨rfl, q25, hbn⟩ := hcut
                      replace q3 := q3.below hbn
                      replace q4 := q4.below hbn
                      replace q7 := q7.below hbn
                      replace q23 := q23.below hbn
                      replace hbe := hbe.trans (hbn.mono hbe.size)
                      clear hbn
                      generalize wc = wX15 at *
                      obtain ⟨b23, n23, a23, m23, c23, rfl, r23, i23⟩ := q23
                      obtain ⟨b25, n25, a25, m25, c25, rfl, r25, i25⟩ := q25
                      obtain rfl : m23 = 0 := (isInt_zero i23).2 rfl
                      obtain rfl : m25 = 0 := (isInt_zero i25).2 rfl
                      clear q3 q4 q7 i23 i25
                      go_wp2_with (go_at_call 16; refine (sane_any _ (hT.below hbe)).mono ?_; rintro e w3 ⟨hb3, rfl⟩; have y23 := (r23.below hb3).cell 1; have y25 := (r25.below hb3).cell 1; simp only [List.getElem?_cons_zero, List.getElem?_cons_succ] at y23 y25)
                      go_ret
                      exact ⟨hbe.trans (hb3.mono hbe.size), rfl⟩

end Go.Proofs.YtlghjfpkfdnfoaaDoor

/- zermelolaw01.NumDivision$1: is a rest one that a division leaves? -/
namespace Go.Proofs.YtlghjfpkfdnfoaaDoor
open Go Go.RowKit Go.Shelf

/-- a rest fits a divisor -/
def fitsB (k j : Int) : Bool := decide (k.natAbs < j.natAbs) && (decide (k = 0) || (decide (k < 0) == decide (j < 0)))

theorem isInt_neg {w : World} {n : Bool} {v : Value} {i : Int} (h : IsInt w (.agg #[.bool n, v]) i) : n = decide (i < 0) := by
  obtain ⟨neg, va, xs, e, hr, hc, hn, rfl⟩ := h
  simp only [Value.agg.injEq, Array.mk.injEq, List.cons.injEq, Value.bool.injEq, and_true] at e
  obtain ⟨rfl, rfl⟩ := e
  have hp := canon_pos_iff hc
  cases n with
  | false => simp [sgn]
  | true =>
    simp only [Bool.true_and, decide_eq_true_eq] at hn
    have := hp.2 hn
    simp [sgn]; omega

theorem two_new (W : World) (A B : List Value) (t : TypeId) : RowAt ((W.alloc (.cells A.toArray t)).alloc (.cells B.toArray t)).drew W.heap.size t A ∧ RowAt ((W.alloc (.cells A.toArray t)).alloc (.cells B.toArray t)).drew (W.heap.size + 1) t B ∧ Below W.heap.size W ((W.alloc (.cells A.toArray t)).alloc (.cells B.toArray t)).drew := by
  have b1 := (Below.refl W.heap.size W).alloc (Nat.le_refl _) (.cells A.toArray t)
  have r2 := RowAt.new (W.alloc (.cells A.toArray t)) t B
  rw [World.size_alloc] at r2
  exact ⟨((RowAt.new W t A).alloc _).drew, r2.drew, (b1.alloc b1.size _).drew⟩
theorem cmpI_neg_iff {x y : Int} : cmpI x y < 0 ↔ x < y := by unfold cmpI; (repeat' split) <;> omega

set_option maxHeartbeats 4000000 in
set_option maxRecDepth 100000 in
theorem fits_any (vq : Value) (k j i : Int) (n2 : Bool) (a2 : Option Addr) (m2 c2 : Nat) (n1 : Bool) (a1 : Option Addr) (m1 c1 b4 L : Nat) (w : World) (hq : IsInt w vq i) (hk : IsInt w (.agg #[.bool n1, .slice a1 m1 c1]) k) (hj : IsInt w (.agg #[.bool n2, .slice a2 m2 c2]) j) (hrow : RowAt w b4 24 [.bool n2, .slice a2 m2 c2]) (hL : L ≤ 100000) (bk : k.natAbs < B32 ^ L) (bj : j.natAbs < B32 ^ L) :
    Calls Tryd.prog 51 #[vq, .agg #[.bool n1, .slice a1 m1 c1], .pointer (some ⟨b4, 0, none⟩)] w fun e w' => Below w.heap.size w w' ∧ e = .returned (.bool (fitsB k j)) := by
  obtain ⟨n3, a3, m3, c3, rfl⟩ := hq.shape
  have x1 := hrow.cell 0
  have x2 := hrow.cell 1
  simp only [List.getElem?_cons_succ, List.getElem?_cons_zero] at x1 x2
  go_enter Tryd.func51, Tryd.ntmps51
  go_wp2_with fail
  have b1 := (Below.refl w.heap.size w).alloc (Nat.le_refl _) (.cells #[.bool n3, .slice a3 m3 c3] 24)
  have b2 := b1.alloc b1.size (.cells #[.bool n1, .slice a1 m1 c1] 24)
  have r1 := RowAt.new (w.alloc (.cells #[.bool n3, .slice a3 m3 c3] 24)) 24 [.bool n1, .slice a1 m1 c1]
  have r2 := hrow.below b2
  rw [World.size_alloc] at r1
  have hk2 := hk.below b2
  have hj2 := hj.below b2
  clear x1 x2 hrow
  generalize hW0 : (w.alloc (.cells #[.bool n3, .slice a3 m3 c3] 24)).alloc (.cells #[.bool n1, .slice a1 m1 c1] 24) = W0 at *
  have hr1 := r1
  clear hW0 r1
  have x1 := hr1.cell 0
  have x2 := hr1.cell 1
  have x3 := r2.cell 0
  have x4 := r2.cell 1
  simp only [List.getElem?_cons_succ, List.getElem?_cons_zero] at x1 x2 x3 x4
  have y1 : ∀ o, (W0.alloc o).cell? ⟨w.heap.size + 1, 0, none⟩ = some (.bool n1) := fun o => by simpa using (hr1.alloc o).cell 0
  have y2 : ∀ o, (W0.alloc o).cell? ⟨w.heap.size + 1, 1, none⟩ = some (.slice a1 m1 c1) := fun o => by simpa using (hr1.alloc o).cell 1
  have y3 : ∀ o, (W0.alloc o).cell? ⟨b4, 0, none⟩ = some (.bool n2) := fun o => by simpa using (r2.alloc o).cell 0
  have y4 : ∀ o, (W0.alloc o).cell? ⟨b4, 1, none⟩ = some (.slice a2 m2 c2) := fun o => by simpa using (r2.alloc o).cell 1
  have z1 : ∀ o p, ((W0.alloc o).alloc p).cell? ⟨w.heap.size + 1, 0, none⟩ = some (.bool n1) := fun o p => by simpa using ((hr1.alloc o).alloc p).cell 0
  have z2 : ∀ o p, ((W0.alloc o).alloc p).cell? ⟨w.heap.size + 1, 1, none⟩ = some (.slice a1 m1 c1) := fun o p => by simpa using ((hr1.alloc o).alloc p).cell 1
  have z3 : ∀ o p, ((W0.alloc o).alloc p).cell? ⟨b4, 0, none⟩ = some (.bool n2) := fun o p => by simpa using ((r2.alloc o).alloc p).cell 0
  have z4 : ∀ o p, ((W0.alloc o).alloc p).cell? ⟨b4, 1, none⟩ = some (.slice a2 m2 c2) := fun o p => by simpa using ((r2.alloc o).alloc p).cell 1
  go_cut [6, 7] from 8 to 9 (fun v6 v7 W => ∃ p q, v6 = .pointer (some ⟨p, 0, none⟩) ∧ v7 = .pointer (some ⟨q, 0, none⟩) ∧ p ≠ q ∧ W0.heap.size ≤ p ∧ W0.heap.size ≤ q ∧ RowAt W p 24 [.bool n1, .slice a1 m1 c1] ∧ RowAt W q 24 [.bool n2, .slice a2 m2 c2] ∧ Below W0.heap.size W0 W)
  case first =>
    go_region
    all_goals (go_wp2; go_meet)
    · obtain ⟨u1, u2, u3⟩ := two_new W0 [.bool n1, .slice a1 m1 c1] [.bool n2, .slice a2 m2 c2] 24
      exact ⟨_, _, rfl, rfl, by omega, Nat.le_refl _, by omega, u1, u2, u3⟩
    · obtain ⟨u1, u2, u3⟩ := two_new W0 [.bool n2, .slice a2 m2 c2] [.bool n1, .slice a1 m1 c1] 24
      exact ⟨_, _, rfl, rfl, by omega, by omega, Nat.le_refl _, u2, u1, u3⟩
  case rest =>
    obtain ⟨p, q, rfl, rfl, hpq, hp, hq2, rp, rq, hbn⟩ := hcut
    have f1 := rp.cell 0
    have f2 := rp.frozen 0
    have f3 := rq.cell 0
    have f4 := rq.frozen 0
    simp only [List.getElem?_cons_zero] at f1 f3
    clear x1 x2 x3 x4 y1 y2 y3 y4 z1 z2 z3 z4
    have e1 : Below W0.heap.size wc ((wc.setCell ⟨p, 0, none⟩ (.bool false)).setCell ⟨q, 0, none⟩ (.bool false)) := ((Below.refl _ wc).setCell (p := ⟨p, 0, none⟩) hp _).setCell (p := ⟨q, 0, none⟩) hq2 _
    have e2 : Below W0.heap.size W0 ((wc.setCell ⟨p, 0, none⟩ (.bool false)).setCell ⟨q, 0, none⟩ (.bool false)) := hbn.trans e1
    have rpd : RowAt ((wc.setCell ⟨p, 0, none⟩ (.bool false)).setCell ⟨q, 0, none⟩ (.bool false)) p 24 [.bool false, .slice a1 m1 c1] := RowAt.other (rp.set 0 (.bool false)) hpq _
    have rqd : RowAt ((wc.setCell ⟨p, 0, none⟩ (.bool false)).setCell ⟨q, 0, none⟩ (.bool false)) q 24 [.bool false, .slice a2 m2 c2] := RowAt.set (RowAt.other rq (Ne.symm hpq) _) 0 (.bool false)
    have bw := b2.trans (e2.mono b2.size)
    have hk3 := hk2.below e2
    have hj3 := hj2.below e2
    have hr3 := hr1.below e2
    have r3 := r2.below e2
    have E := Lib.hid (And.intro bw (And.intro hk3 (And.intro hj3 (And.intro hr3 (And.intro r3 (And.intro rpd rqd))))))
    clear e1 e2 bw hk3 hj3 hr3 r3 rpd rqd hk2 hj2 hr1 r2 b1 b2 rp rq hbn
    go_upto_region 3 with (fail)
    generalize (wc.setCell ⟨p, 0, none⟩ (.bool false)).setCell ⟨q, 0, none⟩ (.bool false) = wd at *
    obtain ⟨bw, hk3, hj3, hr3, r3, rpd, rqd⟩ := E.out
    clear f1 f2 f3 f4 E hp hq2
    have x1 := rpd.cell 0
    have x2 := rpd.cell 1
    have x3 := rqd.cell 0
    have x4 := rqd.cell 1
    simp only [List.getElem?_cons_succ, List.getElem?_cons_zero] at x1 x2 x3 x4
    have C := rcompare_int _ _ _ _ _ (isInt_abs hk3) (isInt_abs hj3) L hL (by rw [Int.natAbs_natCast]; exact bk) (by rw [Int.natAbs_natCast]; exact bj)
    have hz := isInt_zero hk3
    have hn1 := isInt_neg hk3
    have hn2 := isInt_neg hj3
    obtain ⟨cv, hcv⟩ : ∃ cv, cmpI (k.natAbs : Int) (j.natAbs : Int) = cv := ⟨_, rfl⟩
    rw [hcv] at C
    have hiff : cv < 0 ↔ k.natAbs < j.natAbs := by rw [← hcv, cmpI_neg_iff]; omega
    by_cases hlt : k.natAbs < j.natAbs
    · have hcn : cv < 0 := hiff.2 hlt
      by_cases hm : m1 = 0
      · have hF := Lib.hid (show fitsB k j = true by unfold fitsB; rw [decide_eq_true hlt, decide_eq_true (hz.1 hm)]; rfl)
        clear hiff hcv hlt hz hn1 hn2 rpd rqd hk3 hj3
        subst hm
        go_wp2_with (go_at_call 20; with_reducible refine C.mono ?_; rintro e w5 ⟨hb5, rfl⟩; have y1 := (hr3.below hb5).cell 1; simp only [List.getElem?_cons_succ, List.getElem?_cons_zero] at y1)
        go_ret
        exact ⟨bw.trans (hb5.mono bw.size), by rw [hF.out]; rfl⟩
      · have hF0 : fitsB k j = (n1 == n2) := by
          have hk0 : ¬ k = 0 := fun h => hm (hz.2 h)
          simp only [fitsB, hlt, hk0, decide_true, decide_false, Bool.true_and, Bool.false_or, ← hn1, ← hn2]
        have hF := Lib.hid hF0
        clear hF0 hiff hcv hlt hz hn1 hn2 rpd rqd hk3 hj3
        go_wp2_with (go_at_call 20; with_reducible refine C.mono ?_; rintro e w5 ⟨hb5, rfl⟩; have y0 := (hr3.below hb5).cell 0; have y1 := (hr3.below hb5).cell 1; have y2 := (r3.below hb5).cell 0; simp only [List.getElem?_cons_succ, List.getElem?_cons_zero] at y0 y1 y2)
        go_ret
        have hme : ((m1 : Int) == 0) = false := by simpa using hm
        exact ⟨bw.trans (hb5.mono bw.size), (show Ending.returned (.bool (((m1 : Int) == 0) || (n1 == n2))) = Ending.returned (.bool (fitsB k j)) by rw [hF.out, hme]; rfl)⟩
    · have hcn : ¬ cv < 0 := fun h => hlt (hiff.1 h)
      have hF := Lib.hid (show fitsB k j = false by simp [fitsB, hlt])
      clear hiff hcv hlt hz hn1 hn2 rpd rqd hk3 hj3
      go_wp2_with (go_at_call 20; with_reducible refine C.mono ?_; rintro e w5 ⟨hb5, rfl⟩)
      go_ret
      exact ⟨bw.trans (hb5.mono bw.size), by rw [hF.out]; rfl⟩

end Go.Proofs.YtlghjfpkfdnfoaaDoor
