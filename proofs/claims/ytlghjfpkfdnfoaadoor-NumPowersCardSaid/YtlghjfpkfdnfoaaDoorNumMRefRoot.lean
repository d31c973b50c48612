/- zermeloref01.Pow -/
import Derived.Test.YtlghjfpkfdnfoaaDoorNumMRefPower
import Derived.Test.YtlghjfpkfdnfoaaDoorNumMRefSplit
import Derived.Test.YtlghjfpkfdnfoaaDoorNumMRing2
import Derived.Test.YtlghjfpkfdnfoaaDoorNumMProduct
import Derived.Deep.RegionHeld3
import Derived.Test.YtlghjfpkfdnfoaaDoorNumMRefSumInt
namespace Go.Proofs.YtlghjfpkfdnfoaaDoor
open Go Go.RowKit Go.Shelf

/-- what Pow answers -/
def PowOut (f : Bool) (n : Int) (i : Int) (k : Int) (W : World) (v : Value) : Prop :=
  if f = true ∧ 0 ≤ n ∧ n ≤ 9600 then (if (i ^ n.toNat).natAbs < B32 ^ 300 then k = 0 ∧ IsInt W v (i ^ n.toNat) else k = 3 ∧ v = zeroInt) else k = 1 ∧ v = zeroInt

set_option maxHeartbeats 1000000 in
set_option maxRecDepth 100000 in
theorem rpow_no (v : Value) (neg : Bool) (xs : List Nat) (n : Int) (w : World) (h : IntAt w v neg xs) (hn : ¬ (formedB neg xs = true ∧ 0 ≤ n ∧ n ≤ 9600)) :
    Calls Tryd.prog 39 #[v, .int .i64 n] w fun e w' => Below w.heap.size w w' ∧ e = .returned (.agg #[.bool false, .slice none 0 0, .int .i64 1]) := by
  have KF := fun X (hX : Below w.heap.size w X) => rformed_any v neg xs X (h.below hX)
  obtain ⟨va, rfl, hr, hl⟩ := h
  obtain ⟨a, c, rfl, hc, hm⟩ := hr.form
  have b1 := (Below.refl w.heap.size w).alloc (Nat.le_refl _) (.cells #[.bool neg, .slice a xs.length c] 24)
  have b2 := b1.alloc b1.size (.cells #[.bool false, .slice none 0 0, .int .i64 0] 43)
  have q2 := RowAt.new (w.alloc (.cells #[.bool neg, .slice a xs.length c] 24)) 43 [.bool false, .slice none 0 0, .int .i64 0]
  simp only [World.size_alloc] at q2
  clear hr hl hc hm
  cases hf : formedB neg xs with
  | false =>
    rw [hf] at KF
    clear hf hn
    go_enter Tryd.func39, Tryd.ntmps39
    go_wp2_with (go_at_call 19; refine (KF _ b2).mono ?_; rintro e w1 ⟨hb1, rfl⟩; have q4 := q2.below hb1; have s1 := q4.cell 0; have s2 := q4.cell 1; have s3 := q4.cell 2; have s4 := q4.frozen 0; have s5 := q4.frozen 1; have s6 := q4.frozen 2; simp only [List.getElem?_cons_zero, List.getElem?_cons_succ] at s1 s2 s3)
    have q5 := ((q4.set 0 (.bool false)).set 1 (.slice none 0 0)).set 2 (.int .i64 1)
    have u1 := q5.cell 0
    have u2 := q5.cell 1
    have u3 := q5.cell 2
    simp only [List.set_cons_zero, List.set_cons_succ, List.getElem?_cons_zero, List.getElem?_cons_succ] at u1 u2 u3
    have b9 := b2.trans (hb1.mono b2.size)
    exact bodyPost_ret (v := .agg #[.bool false, .slice none 0 0, .int .i64 1]) (by simp [results, Tryd.results39, go_sem, loadCellsFrom, u1, u2, u3]) rfl ⟨((b9.setCell (by simp) _).setCell (by simp) _).setCell (by simp) _, rfl⟩
  | true =>
    rw [hf] at KF hn
    rcases Int.lt_or_le n 0 with h | h
    · have h1 : decide (n < 0) = true := decide_eq_true h
      clear hf hn h
      go_enter Tryd.func39, Tryd.ntmps39
      go_wp2_with (go_at_call 19; refine (KF _ b2).mono ?_; rintro e w1 ⟨hb1, rfl⟩; have q4 := q2.below hb1; have s1 := q4.cell 0; have s2 := q4.cell 1; have s3 := q4.cell 2; have s4 := q4.frozen 0; have s5 := q4.frozen 1; have s6 := q4.frozen 2; simp only [List.getElem?_cons_zero, List.getElem?_cons_succ] at s1 s2 s3)
      have q5 := ((q4.set 0 (.bool false)).set 1 (.slice none 0 0)).set 2 (.int .i64 1)
      have u1 := q5.cell 0
      have u2 := q5.cell 1
      have u3 := q5.cell 2
      simp only [List.set_cons_zero, List.set_cons_succ, List.getElem?_cons_zero, List.getElem?_cons_succ] at u1 u2 u3
      have b9 := b2.trans (hb1.mono b2.size)
      exact bodyPost_ret (v := .agg #[.bool false, .slice none 0 0, .int .i64 1]) (by simp [results, Tryd.results39, go_sem, loadCellsFrom, u1, u2, u3]) rfl ⟨((b9.setCell (by simp) _).setCell (by simp) _).setCell (by simp) _, rfl⟩
    · have h1 : decide (n < 0) = false := decide_eq_false (by omega)
      have h2 : decide (9600 < n) = true := decide_eq_true (by
        apply Classical.byContradiction
        intro h3
        exact hn ⟨rfl, h, by omega⟩)
      clear hf hn h
      go_enter Tryd.func39, Tryd.ntmps39
      go_wp2_with (go_at_call 19; refine (KF _ b2).mono ?_; rintro e w1 ⟨hb1, rfl⟩; have q4 := q2.below hb1; have s1 := q4.cell 0; have s2 := q4.cell 1; have s3 := q4.cell 2; have s4 := q4.frozen 0; have s5 := q4.frozen 1; have s6 := q4.frozen 2; simp only [List.getElem?_cons_zero, List.getElem?_cons_succ] at s1 s2 s3)
      have q5 := ((q4.set 0 (.bool false)).set 1 (.slice none 0 0)).set 2 (.int .i64 1)
      have u1 := q5.cell 0
      have u2 := q5.cell 1
      have u3 := q5.cell 2
      simp only [List.set_cons_zero, List.set_cons_succ, List.getElem?_cons_zero, List.getElem?_cons_succ] at u1 u2 u3
      have b9 := b2.trans (hb1.mono b2.size)
      exact bodyPost_ret (v := .agg #[.bool false, .slice none 0 0, .int .i64 1]) (by simp [results, Tryd.results39, go_sem, loadCellsFrom, u1, u2, u3]) rfl ⟨((b9.setCell (by simp) _).setCell (by simp) _).setCell (by simp) _, rfl⟩

/-- the variables of Pow of the specification -/
structure RpwS (w w1 : World) (n0 : Bool) (a0 : Option Addr) (m0 c0 : Nat) (n1 : Bool) (a1 : Option Addr) (m1 c1 : Nat) (X : World) : Prop where
  ra : RowAt X w.heap.size 24 [.bool n0, .slice a0 m0 c0]
  rr : RowAt X (w.heap.size + 1) 43 [.bool false, .slice none 0 0, .int .i64 0]
  ro : RowAt X w1.heap.size 24 [.bool n1, .slice a1 m1 c1]
  below : Below w.heap.size w X
  lt : w.heap.size + 1 < w1.heap.size
section
variable {w w1 X X' : World} {n0 n1 : Bool} {a0 a1 : Option Addr} {m0 c0 m1 c1 : Nat}
theorem RpwS.step (h : RpwS w w1 n0 a0 m0 c0 n1 a1 m1 c1 X) (hb : Below X.heap.size X X') : RpwS w w1 n0 a0 m0 c0 n1 a1 m1 c1 X' := ⟨h.ra.below hb, h.rr.below hb, h.ro.below hb, h.below.trans (hb.mono h.below.size), h.lt⟩
theorem RpwS.set (h : RpwS w w1 n0 a0 m0 c0 n1 a1 m1 c1 X) (n : Bool) (a : Option Addr) (m c : Nat) : RpwS w w1 n0 a0 m0 c0 n a m c ((X.setCell ⟨w1.heap.size, 0, none⟩ (.bool n)).setCell ⟨w1.heap.size, 1, none⟩ (.slice a m c)) := by
  have hl := h.lt
  exact ⟨(h.ra.other (show w.heap.size ≠ w1.heap.size by omega) _).other (show w.heap.size ≠ w1.heap.size by omega) _, (h.rr.other (show w.heap.size + 1 ≠ w1.heap.size by omega) _).other (show w.heap.size + 1 ≠ w1.heap.size by omega) _, (h.ro.set 0 (.bool n)).set 1 (.slice a m c), (h.below.setCell (show w.heap.size ≤ w1.heap.size by omega) _).setCell (show w.heap.size ≤ w1.heap.size by omega) _, h.lt⟩
end
/-- at a round's head -/
def RpwR (w w1 : World) (n0 : Bool) (a0 : Option Addr) (m0 c0 : Nat) (i : Int) (n : Nat) (v : Value) (W : World) : Prop := ∃ j n1 a1 m1 c1, j ≤ 15 ∧ v = .int .i64 ((2 ^ j / 2 : Nat) : Int) ∧ RpwS w w1 n0 a0 m0 c0 n1 a1 m1 c1 W ∧ IsInt W (.agg #[.bool n1, .slice a1 m1 c1]) (i ^ (n / 2 ^ j)) ∧ IsInt W (.agg #[.bool n0, .slice a0 m0 c0]) i ∧ (i ^ (n / 2 ^ j)).natAbs < B32 ^ 300

set_option maxHeartbeats 4000000 in
set_option maxRecDepth 100000 in
set_option exponentiation.threshold 100000 in
theorem rpow_run (v : Value) (neg : Bool) (xs : List Nat) (n : Nat) (w : World) (h : IntAt w v neg xs) (hf : formedB neg xs = true) (hn : n ≤ 9600) :
    Calls Tryd.prog 39 #[v, .int .i64 (n : Int)] w fun e w' => Below w.heap.size w w' ∧ ∃ n5 a5 m5 c5 k, e = .returned (.agg #[.bool n5, .slice a5 m5 c5, .int .i64 k]) ∧ PowOut true (n : Int) (sgn neg (val xs)) k w' (.agg #[.bool n5, .slice a5 m5 c5]) := by
  have KF := fun X (hX : Below w.heap.size w X) => rformed_any v neg xs X (h.below hX)
  rw [hf] at KF
  have ha := h.isInt hf
  have hi := h.natAbs_lt hf
  clear h hf
  obtain ⟨n0, a0, m0, c0, rfl⟩ := ha.shape
  generalize sgn neg (val xs) = i at *
  have b1 := (Below.refl w.heap.size w).alloc (Nat.le_refl _) (.cells #[.bool n0, .slice a0 m0 c0] 24)
  have b2 := b1.alloc b1.size (.cells #[.bool false, .slice none 0 0, .int .i64 0] 43)
  have q1 := (RowAt.new w 24 [.bool n0, .slice a0 m0 c0]).alloc (.cells #[.bool false, .slice none 0 0, .int .i64 0] 43)
  have q2 := RowAt.new (w.alloc (.cells #[.bool n0, .slice a0 m0 c0] 24)) 43 [.bool false, .slice none 0 0, .int .i64 0]
  simp only [World.size_alloc] at q2
  have ha2 := ha.below b2
  have kO := fun X => rof_int 1 X (by decide) (by decide)
  have h1 : decide ((n : Int) < 0) = false := decide_eq_false (by omega)
  have h3 : decide (9600 < (n : Int)) = false := decide_eq_false (by omega)
  have h4 : decide (9600 < n) = false := decide_eq_false (by omega)
  clear b1 ha
  go_enter Tryd.func39, Tryd.ntmps39
  go_wp2_with (first
    | (go_at_call 19; refine (KF _ b2).mono ?_; rintro e w0 ⟨hb0, rfl⟩)
    | (go_at_call 27; refine (kO _).mono ?_; rintro e w1 ⟨hb1, v1, rfl, hI⟩; obtain ⟨n1, a1, m1, c1, rfl⟩ := hI.shape))
  have hal := (Below.refl w1.heap.size w1).alloc (Nat.le_refl _) (.cells #[.bool n1, .slice a1 m1 c1] 24)
  have hg := (hb0.trans (hb1.mono hb0.size)).trans (hal.mono (hb0.trans (hb1.mono hb0.size)).size)
  have hlt : w.heap.size + 1 < w1.heap.size := by
    have e1 := hb0.size
    have e2 := hb1.size
    simp at e1
    omega
  have hz : n / 2 ^ 15 = 0 := Nat.div_eq_of_lt (by omega)
  have hst : RpwR w w1 n0 a0 m0 c0 i n (.int .i64 16384) (w1.alloc (.cells #[.bool n1, .slice a1 m1 c1] 24)) := ⟨15, n1, a1, m1, c1, Nat.le_refl _, rfl, ⟨q1.below hg, q2.below hg, RowAt.new w1 24 [.bool n1, .slice a1 m1 c1], b2.trans (hg.mono b2.size), hlt⟩, by rw [hz, Int.pow_zero]; exact hI.below hal, ha2.below hg, by rw [hz, Int.pow_zero]; exact Nat.one_lt_pow (by decide) (by decide)⟩
  have HS := Lib.hid hst
  clear hst hg hal hI hb1 hb0 q1 q2 b2 ha2 kO KF h1 h3 h4 hz hlt
  generalize w1.alloc (.cells #[.bool n1, .slice a1 m1 c1] 24) = W1 at *
  go_loopw [6] (fun v W => RpwR w w1 n0 a0 m0 c0 i n v W) (fun v _ => (intOf v).toNat)
  case atStart => exact HS.out
  case round =>
    clear HS
    obtain ⟨j, n2, a2, m2, c2, hj, rfl, hS, hx, hy, hbx⟩ := hrel
    have d1 := hS.ra.cell 0
    have d2 := hS.ra.cell 1
    have d3 := hS.ro.cell 0
    have d4 := hS.ro.cell 1
    simp only [List.getElem?_cons_zero, List.getElem?_cons_succ] at d1 d2 d3 d4
    cases j with
    | zero =>
      rw [Nat.pow_zero, Nat.div_one] at hx hbx
      rw [show ((2 ^ 0 / 2 : Nat) : Int) = 0 from rfl]
      have s1 := hS.rr.cell 0
      have s2 := hS.rr.cell 1
      have s3 := hS.rr.cell 2
      have s4 := hS.rr.frozen 0
      have s5 := hS.rr.frozen 1
      have s6 := hS.rr.frozen 2
      simp only [List.getElem?_cons_zero, List.getElem?_cons_succ] at s1 s2 s3
      have hk := hx.keep (row3_keep hS.rr (.bool n2) (.slice a2 m2 c2) (.int .i64 0))
      have q5 := ((hS.rr.set 0 (.bool n2)).set 1 (.slice a2 m2 c2)).set 2 (.int .i64 0)
      have u1 := q5.cell 0
      have u2 := q5.cell 1
      have u3 := q5.cell 2
      simp only [List.set_cons_zero, List.set_cons_succ, List.getElem?_cons_zero, List.getElem?_cons_succ] at u1 u2 u3
      have hb := hS.below
      have HF := Lib.hid (And.intro hn (And.intro hbx hk))
      clear hn hbx hk hx hy hS hj q5 hi d1 d2
      go_wp2_with fail
      refine bodyPost_ret (v := .agg #[.bool n2, .slice a2 m2 c2, .int .i64 0]) (by simp [results, Tryd.results39, go_sem, loadCellsFrom, u1, u2, u3]) rfl ⟨((hb.setCell (show w.heap.size ≤ w.heap.size + 1 by omega) _).setCell (show w.heap.size ≤ w.heap.size + 1 by omega) _).setCell (show w.heap.size ≤ w.heap.size + 1 by omega) _, n2, a2, m2, c2, 0, rfl, ?_⟩
      obtain ⟨hn, hbx, hk⟩ := HF.out
      unfold PowOut
      rw [if_pos ⟨rfl, by omega, by omega⟩, Int.toNat_natCast, if_pos hbx]
      exact ⟨rfl, hk⟩
    | succ k =>
      obtain ⟨P, hP⟩ : ∃ P, 2 ^ k = P := ⟨_, rfl⟩
      have hP0 : 0 < P := by rw [← hP]; exact Nat.pow_pos (by decide)
      have hPb : P ≤ 16384 := by
        rw [← hP]
        have : 2 ^ k ≤ 2 ^ 14 := Nat.pow_le_pow_right (by decide) (by omega)
        simpa using this
      have hPe : 2 ^ (k + 1) / 2 = P := by rw [Nat.pow_succ, hP]; omega
      have hdv := div_two_pow n k
      rw [hP] at hdv
      obtain ⟨e, he⟩ : ∃ e, n / 2 ^ (k + 1) = e := ⟨_, rfl⟩
      obtain ⟨f, hfe⟩ : ∃ f, n / P = f := ⟨_, rfl⟩
      rw [he] at hdv hx hbx
      rw [hfe] at hdv
      rw [hPe]
      have hmul : (i ^ e * i ^ e).natAbs < B32 ^ 90000 := by
        rw [Int.natAbs_mul]
        have h1 : (i ^ e).natAbs * (i ^ e).natAbs < B32 ^ 300 * B32 ^ 300 := Nat.mul_lt_mul'' hbx hbx
        rw [← Nat.pow_add] at h1
        exact Nat.lt_of_lt_of_le h1 (Nat.pow_le_pow_right (by decide) (by decide))
      have kT := rtimes_int _ _ (i ^ e) (i ^ e) wr hx hx (abs_lt_up hbx (by decide)) (abs_lt_up hbx (by decide))
      have kU := fun X v v' (hv : IsInt X v (i ^ e * i ^ e)) (hv' : IsInt X v' i) => rtimes_int v v' (i ^ e * i ^ e) i X hv hv' hmul (abs_lt_up hi (by decide))
      have g1 : decide ((0 : Int) < (P : Int)) = true := decide_eq_true (by omega)
      have g2 : decide (0 < P) = true := decide_eq_true hP0
      have g3 : ((P : Int) == 0) = false := by simp; omega
      have g4 : ¬ (P : Int) = 0 := by omega
      have g5 : (n : Int) / (P : Int) = (f : Int) := by rw [← hfe]; exact (Int.natCast_ediv n P).symm
      have HN := Lib.hid (And.intro hP (And.intro hP0 (And.intro hPb (And.intro hdv (And.intro hfe (And.intro hn (And.intro hj hi)))))))
      clear hP hP0 hPb hPe hdv he hfe hmul hx hbx hj hi
      go_upto_region 8 with (go_at_call 45; with_reducible refine kT.mono ?_; rintro e w3 ⟨hb3, v3, rfl, hJ⟩; obtain ⟨n5, a5, m5, c5, rfl⟩ := hJ.shape; have hS3 := hS.step hb3; have s1 := hS3.ro.cell 0; have s2 := hS3.ro.cell 1; have s3 := hS3.ro.frozen 0; have s4 := hS3.ro.frozen 1; simp only [List.getElem?_cons_zero, List.getElem?_cons_succ] at s1 s2)
      have hkp := fun v xs h => two_kept (v := v) (xs := xs) (b := w1.heap.size) h s1 s2 (.bool n5) (.slice a5 m5 c5)
      have hJ5 := hJ.keep hkp
      have hy5 := (hy.below hb3).keep hkp
      have hS5 := hS3.set n5 a5 m5 c5
      clear hkp s1 s2 s3 s4 hS3 hJ hy hb3 hS kT d1 d2 d3 d4 g1 g2
      generalize (w3.setCell ⟨w1.heap.size, 0, none⟩ (.bool n5)).setCell ⟨w1.heap.size, 1, none⟩ (.slice a5 m5 c5) = W5 at *
      have hfb : f ≤ 9600 := by rw [← HN.out.2.2.2.2.1]; exact Nat.le_trans (Nat.div_le_self _ _) HN.out.2.2.2.2.2.1
      obtain ⟨t, ht⟩ : ∃ t : Bool, t = decide (f % 2 = 1) := ⟨_, rfl⟩
      have g6 : ((f : Int) % 2 == 1) = t := by rw [ht]; by_cases h : f % 2 = 1 <;> simp [h] <;> omega
      have HT := Lib.hid ht
      clear ht
      go_upto_if 31 with (fail)
      go_cut [] from 32 to 34 (fun W => ∃ n6 a6 m6 c6, RpwS w w1 n0 a0 m0 c0 n6 a6 m6 c6 W ∧ IsInt W (.agg #[.bool n6, .slice a6 m6 c6]) (i ^ f) ∧ IsInt W (.agg #[.bool n0, .slice a0 m0 c0]) i)
      case first =>
        have hfe := HN.out.2.2.2.1
        have htt := HT.out
        cases t with
        | false =>
          have h0 : f % 2 = 0 := by have : ¬ f % 2 = 1 := of_decide_eq_false htt.symm; omega
          have hq : i ^ e * i ^ e = i ^ f := by rw [← Int.pow_add, show e + e = f by omega]
          rw [hq] at hJ5
          clear hfe htt h0 hq kU g3 g4 g5 g6
          go_wp2
          go_meet
          exact ⟨n5, a5, m5, c5, hS5, hJ5, hy5⟩
        | true =>
          have h0 : f % 2 = 1 := of_decide_eq_true htt.symm
          have hq : i ^ e * i ^ e * i = i ^ f := by rw [← Int.pow_add, ← Int.pow_succ, show (e + e).succ = f by omega]
          have kV := kU W5 _ _ hJ5 hy5
          rw [hq] at kV
          have d1 := hS5.ra.cell 0
          have d2 := hS5.ra.cell 1
          have d3 := hS5.ro.cell 0
          have d4 := hS5.ro.cell 1
          simp only [List.getElem?_cons_zero, List.getElem?_cons_succ] at d1 d2 d3 d4
          clear hfe htt h0 hq kU g3 g4 g5 g6 hJ5
          go_wp2_with (go_at_call 45; with_reducible refine kV.mono ?_; rintro e w6 ⟨hb6, v6, rfl, hJ⟩; obtain ⟨n6, a6, m6, c6, rfl⟩ := hJ.shape; have hS6 := hS5.step hb6; have s1 := hS6.ro.cell 0; have s2 := hS6.ro.cell 1; have s3 := hS6.ro.frozen 0; have s4 := hS6.ro.frozen 1; simp only [List.getElem?_cons_zero, List.getElem?_cons_succ] at s1 s2)
          go_meet
          have hkp := fun v xs h => two_kept (v := v) (xs := xs) (b := w1.heap.size) h s1 s2 (.bool n6) (.slice a6 m6 c6)
          exact ⟨n6, a6, m6, c6, hS6.set n6 a6 m6 c6, hJ.keep hkp, (hy5.below hb6).keep hkp⟩
      case rest =>
        clear hS5 hJ5 hy5 kU g3 g4 g5 g6 HT
        obtain ⟨n6, a6, m6, c6, hS6, hJ6, hy6⟩ := hcut
        generalize wc = W6 at *
        have d4 := hS6.ro.cell 1
        simp only [List.getElem?_cons_zero, List.getElem?_cons_succ] at d4
        have hsz := isInt_size hJ6 300
        by_cases hfit : (i ^ f).natAbs < B32 ^ 300
        · have hm := hsz.2 hfit
          have e1 : decide ((300 : Int) < (m6 : Int)) = false := decide_eq_false (by omega)
          have e2 : decide (300 < m6) = false := decide_eq_false (by omega)
          have HF := Lib.hid (And.intro hfit (And.intro hS6 (And.intro hJ6 hy6)))
          clear hfit hS6 hJ6 hy6 hsz hm hn
          obtain ⟨Q, hQ⟩ : ∃ Q, P / 2 = Q := ⟨_, rfl⟩
          have hPq : (P : Int) / 2 = (Q : Int) := by omega
          have hQb : Q ≤ 16384 := by have := HN.out.2.2.1; omega
          have hPb : P ≤ 16384 := HN.out.2.2.1
          have HQ := Lib.hid hQ
          clear hQ
          go_wp2_with fail
          go_roundw
          case rel =>
            obtain ⟨hP, hP0, hPb, -, hfe, -, hj, -⟩ := HN.out
            obtain ⟨hfit, hS6, hJ6, hy6⟩ := HF.out
            exact ⟨k, n6, a6, m6, c6, by omega, by rw [hP, HQ.out], hS6, by rw [hP, hfe]; exact hJ6, hy6, by rw [hP, hfe]; exact hfit⟩
          case measure =>
            obtain ⟨hP, hP0, hPb, -⟩ := HN.out
            have hQ := HQ.out
            simp only [intOf, Int.toNat_natCast]
            omega
        · have hm : ¬ m6 ≤ 300 := fun h => hfit (hsz.1 h)
          have e1 : decide ((300 : Int) < (m6 : Int)) = true := decide_eq_true (by omega)
          have e2 : decide (300 < m6) = true := decide_eq_true (by omega)
          have hbig : ¬ (i ^ n).natAbs < B32 ^ 300 := by
            intro h
            apply hfit
            rw [Int.natAbs_pow] at h ⊢
            have hle : f ≤ n := by rw [← HN.out.2.2.2.2.1]; exact Nat.div_le_self _ _
            rcases Nat.eq_zero_or_pos i.natAbs with h0 | h0
            · rw [h0]
              rcases Nat.eq_zero_or_pos f with h1 | h1
              · rw [h1, Nat.pow_zero]; exact Nat.one_lt_pow (by decide) (by decide)
              · rw [Nat.zero_pow h1]; exact Nat.pow_pos B32_pos
            · exact Nat.lt_of_le_of_lt (Nat.pow_le_pow_right h0 hle) h
          have s1 := hS6.rr.cell 0
          have s2 := hS6.rr.cell 1
          have s3 := hS6.rr.cell 2
          have s4 := hS6.rr.frozen 0
          have s5 := hS6.rr.frozen 1
          have s6 := hS6.rr.frozen 2
          simp only [List.getElem?_cons_zero, List.getElem?_cons_succ] at s1 s2 s3
          have q5 := ((hS6.rr.set 0 (.bool false)).set 1 (.slice none 0 0)).set 2 (.int .i64 3)
          have u1 := q5.cell 0
          have u2 := q5.cell 1
          have u3 := q5.cell 2
          simp only [List.set_cons_zero, List.set_cons_succ, List.getElem?_cons_zero, List.getElem?_cons_succ] at u1 u2 u3
          have hb := hS6.below
          have HF := Lib.hid (And.intro hbig hn)
          clear hbig hn hfit hm hsz hS6 hJ6 hy6 q5
          go_wp2_with fail
          refine bodyPost_ret (v := .agg #[.bool false, .slice none 0 0, .int .i64 3]) (by simp [results, Tryd.results39, go_sem, loadCellsFrom, u1, u2, u3]) rfl ⟨((hb.setCell (show w.heap.size ≤ w.heap.size + 1 by omega) _).setCell (show w.heap.size ≤ w.heap.size + 1 by omega) _).setCell (show w.heap.size ≤ w.heap.size + 1 by omega) _, false, none, 0, 0, 3, rfl, ?_⟩
          obtain ⟨hbig, hn⟩ := HF.out
          unfold PowOut
          rw [if_pos ⟨rfl, by omega, by omega⟩, Int.toNat_natCast, if_neg hbig]
          exact ⟨rfl, rfl⟩
/-- the specification's Pow, every way -/
theorem rpow_any (v : Value) (neg : Bool) (xs : List Nat) (n : Int) (w : World) (h : IntAt w v neg xs) :
    Calls Tryd.prog 39 #[v, .int .i64 n] w fun e w' => Below w.heap.size w w' ∧ ∃ n5 a5 m5 c5 k, e = .returned (.agg #[.bool n5, .slice a5 m5 c5, .int .i64 k]) ∧ PowOut (formedB neg xs) n (sgn neg (val xs)) k w' (.agg #[.bool n5, .slice a5 m5 c5]) := by
  by_cases hc : formedB neg xs = true ∧ 0 ≤ n ∧ n ≤ 9600
  · obtain ⟨hf, h0, h1⟩ := hc
    obtain ⟨m, rfl⟩ := Int.eq_ofNat_of_zero_le h0
    rw [hf]
    exact rpow_run v neg xs m w h hf (by omega)
  · refine (rpow_no v neg xs n w h hc).mono ?_
    rintro e w' ⟨h1, rfl⟩
    refine ⟨h1, false, none, 0, 0, 1, rfl, ?_⟩
    unfold PowOut
    rw [if_neg hc]
    exact ⟨rfl, rfl⟩

end Go.Proofs.YtlghjfpkfdnfoaaDoor

/- num.Pow for all arguments -/
namespace Go.Proofs.YtlghjfpkfdnfoaaDoor
open Go Go.RowKit Go.Shelf

set_option maxHeartbeats 1000000 in
set_option maxRecDepth 100000 in
theorem pow1_near (B : Nat) (na : Bool) (aa : Option Addr) (ca : Nat) (xa : List Nat) (n : Nat) (w : World) (hra : RowAt w B 24 [.bool na, .slice aa xa.length ca]) (hrn : RowAt w (B + 1) 3 [.int .i64 n])
    (ha : Reads .u32 w (.slice aa xa.length ca) xa) (hka : Canon xa) (fa : formedB na xa = true) (hn : n ≤ 9600) (hxl : xa.length ≤ 300) (hnear : ¬ ((bitsOf xa : Int) - 1) * n < 9600) (hbb : bitsOf xa ≤ 9600) :
    Calls Tryd.prog 75 #[.pointer (some ⟨B, 0, none⟩), .pointer (some ⟨B + 1, 0, none⟩), .pointer (some ⟨B + 2, 0, none⟩)] w fun e w' => Below w.heap.size w w' ∧ e = .panicked [{ v := .iface 27 (.int .i64 3), recovered := false }] := by
  have a0 := hra.cell 0
  have a1 := hra.cell 1
  have n0 := hrn.cell 0
  simp only [List.getElem?_cons_zero, List.getElem?_cons_succ] at a0 a1 n0
  have hla := hka.1
  have r0' := RowAt.new w 24 [.bool na, .slice aa xa.length ca]
  have bw := (Below.refl w.heap.size w).alloc (Nat.le_refl _) (.cells #[.bool na, .slice aa xa.length ca] 24)
  obtain ⟨P, hP⟩ : ∃ P : Int, ((bitsOf xa : Int) - 1) * n = P := ⟨_, rfl⟩
  have hPb : P ≤ 92160000 := by
    rw [← hP]
    have h1 : ((bitsOf xa : Int) - 1) * n ≤ 9600 * n := Int.mul_le_mul_of_nonneg_right (by omega) (by omega)
    omega
  rw [hP] at hnear
  have hPw : IntKind.i64.wrap P = P := by rw [IntKind.wrap_i64]; omega
  have hPw2 : wrap64 P = P := by unfold wrap64; omega
  have hQw : IntKind.i64.wrap ((bitsOf xa : Int) - 1) = (bitsOf xa : Int) - 1 := by rw [IntKind.wrap_i64]; omega
  have hQw2 : wrap64 ((bitsOf xa : Int) - 1) = (bitsOf xa : Int) - 1 := by unfold wrap64; omega
  have hd1 : decide (P < 9600) = false := decide_eq_false hnear
  have p9 : decide ((n : Int) ≤ 9600) = true := decide_eq_true (by omega)
  have p8 : decide (n ≤ 9600) = true := decide_eq_true (by omega)
  have kB := fun X (hX : Below w.heap.size w X) => (bitLen_any (.slice aa xa.length ca) xa X (ha.below hX) hla (by omega)).mono (R' := fun e w' => Below X.heap.size X w' ∧ e = .returned (.int .i64 (bitsOf xa))) (fun e w' ⟨h1, h2⟩ => ⟨h1 ▸ Below.refl _ _, h2⟩)
  have kN := fun X b (hb : b = false) => (demand_no b 3 X hb).mono (R' := fun e w' => Below X.heap.size X w' ∧ e = .panicked [{ v := .iface 27 (.int .i64 3), recovered := false }]) (fun e w' ⟨h1, h2⟩ => ⟨h1 ▸ Below.refl _ _, h2⟩)
  have hc : ∀ X, Below w.heap.size w X → X.cell? ⟨B, 1, none⟩ = some (.slice aa xa.length ca) ∧ X.cell? ⟨B + 1, 0, none⟩ = some (.int .i64 n) ∧ Below w.heap.size w X := fun X hX => ⟨(hra.below hX).cell 1, (hrn.below hX).cell 0, hX⟩
  clear hnear hPb hn hka hxl hbb
  go_enter Tryd.func75, Tryd.ntmps75
  go_upto_region 2 with (first
    | (go_at_call 59; refine (demand1_ok _ na aa ca xa _ r0' (ha.below bw) hla fa).mono ?_; rintro e w1 ⟨hbe1, rfl⟩; have bw1 := bw.trans (hbe1.mono (by simp)); have p1 := (hrn.below bw1).cell 0; simp only [List.getElem?_cons_zero] at p1)
    | (go_at_call 60; refine (demand_ok _ _ _ (by first | rfl | (simp; omega))).mono ?_; rintro e w2 ⟨rfl, rfl⟩))
  have hD := Lib.hid (hc _ bw1.drew)
  have bw0 := bw1
  clear a0 a1 n0 r0' bw hbe1 p1 hra hrn ha fa bw1
  obtain ⟨d1, d2, -⟩ := hc _ bw0
  go_wp2_with fail
  refine wp_region_held_drew (S := (fun X => X.cell? ⟨B, 1, none⟩ = some (.slice aa xa.length ca) ∧ X.cell? ⟨B + 1, 0, none⟩ = some (.int .i64 n) ∧ Below w.heap.size w X)) (by kernel_rfl) hD.out (fun hHeld => ?_)
  refine wpAnyH_take (i := 0) (oi := _) (v := .pointer (some ⟨B, 1, none⟩)) rfl (by kernel_rfl) (by kernel_rfl) (by kernel_rfl) (fun _ _ _ h => h) (Or.inl ⟨by rfl, fun w hSw => by dsimp only at hSw; go_simp⟩) (by assumption) ?_
  refine wpAnyH_take (i := 1) (oi := _) (v := .slice aa xa.length ca) rfl (by kernel_rfl) (by kernel_rfl) (by kernel_rfl) (fun _ _ _ h => h) (Or.inl ⟨by rfl, fun w hSw => by dsimp only at hSw; go_simp⟩) (by assumption) ?_
  refine wpAnyH_take (i := 4) (oi := _) (v := .int .i64 n) rfl (by kernel_rfl) (by kernel_rfl) (by kernel_rfl) (fun _ _ _ h => h) (Or.inl ⟨by rfl, fun w hSw => by dsimp only at hSw; go_simp⟩) (by assumption) ?_
  simp only [Act.put, List.setIfInBounds_toArray]
  refine wpAnyH_ready (rs := [2]) (by kernel_rfl) (by simp) ?_
  refine AllReadyH.cons (o := _) rfl (fun K9 hK9 => ?_) AllReadyH.nil
  rw [if_pos (by rfl)]
  obtain ⟨-, -, hP1⟩ := hHeld
  go_wp2_with (go_at_call 55; refine (kB _ hP1).mono ?_; rintro e w9 ⟨hbe, rfl⟩)
  refine hK9.out _ _ ?_ (fun hHeld => ?_)
  · exact hc _ (hP1.trans (hbe.mono hP1.size))
  clear hK9 K9
  refine wpAnyH_ready (rs := [3]) (by kernel_rfl) (by simp) ?_
  refine AllReadyH.cons (o := _) rfl (fun K9 hK9 => ?_) AllReadyH.nil
  rw [if_pos (by rfl)]
  obtain ⟨-, -, hP1⟩ := hHeld
  go_wp2_with fail
  refine hK9.out _ _ ?_ (fun hHeld => ?_)
  · exact hc _ hP1
  clear hK9 K9
  refine wpAnyH_ready (rs := [5]) (by kernel_rfl) (by simp) ?_
  refine AllReadyH.cons (o := _) rfl (fun K9 hK9 => ?_) AllReadyH.nil
  rw [if_pos (by rfl)]
  obtain ⟨-, -, hP1⟩ := hHeld
  go_wp2_with fail
  refine hK9.out _ _ ?_ (fun hHeld => ?_)
  · exact hc _ hP1
  clear hK9 K9
  refine wpAnyH_ready (rs := [6]) (by kernel_rfl) (by simp) ?_
  refine AllReadyH.cons (o := _) rfl (fun K9 hK9 => ?_) AllReadyH.nil
  rw [if_pos (by rfl)]
  obtain ⟨-, -, hP1⟩ := hHeld
  go_wp2_with fail
  refine hK9.out _ _ ?_ (fun hHeld => ?_)
  · exact hc _ hP1
  clear hK9 K9
  refine wpAnyH_ready (rs := [7]) (by kernel_rfl) (by simp) ?_
  refine AllReadyH.cons (o := _) rfl (fun K9 hK9 => ?_) AllReadyH.nil
  rw [if_pos (by rfl)]
  obtain ⟨-, -, hP2⟩ := hHeld
  go_wp2_with (go_at_call 60; refine (kN _ _ rfl).mono ?_; rintro e wk ⟨hbc, rfl⟩)
  exact ⟨rfl, hP2.trans (hbc.mono hP2.size), rfl⟩

set_option maxHeartbeats 1000000 in
set_option maxRecDepth 100000 in
theorem pow1_big (B : Nat) (aa : Option Addr) (ca : Nat) (xa : List Nat) (n : Nat) (r0 : Bool) (r1 : Option Addr) (r2 r3 : Nat) (K : Nat) (hT : TimesUpTo K) (hK : 0 < K) (w : World) (hra : RowAt w B 24 [.bool false, .slice aa xa.length ca]) (hrn : RowAt w (B + 1) 3 [.int .i64 n]) (hrr : RowAt w (B + 2) 24 [.bool r0, .slice r1 r2 r3])
    (ha : Reads .u32 w (.slice aa xa.length ca) xa) (hka : Canon xa) (fa : formedB false xa = true) (hn : n ≤ 9600) (hxl : xa.length ≤ 300) (hnear : ((bitsOf xa : Int) - 1) * n < 9600) (hbb : bitsOf xa ≤ 9600) (hfitK : val xa ^ n < B32 ^ K) (hfit : ¬ val xa ^ n < B32 ^ 300) :
    Calls Tryd.prog 75 #[.pointer (some ⟨B, 0, none⟩), .pointer (some ⟨B + 1, 0, none⟩), .pointer (some ⟨B + 2, 0, none⟩)] w fun e w' => Below w.heap.size w w' ∧ e = .panicked [{ v := .iface 27 (.int .i64 3), recovered := false }] := by
  have a0 := hra.cell 0
  have a1 := hra.cell 1
  have n0 := hrn.cell 0
  simp only [List.getElem?_cons_zero, List.getElem?_cons_succ] at a0 a1 n0
  have hla := hka.1
  have r0' := RowAt.new w 24 [.bool false, .slice aa xa.length ca]
  have bw := (Below.refl w.heap.size w).alloc (Nat.le_refl _) (.cells #[.bool false, .slice aa xa.length ca] 24)
  have hbl := fun W (h : Below w.heap.size w W) => bitLen_any (.slice aa xa.length ca) xa W (ha.below h) hla (by omega)
  obtain ⟨P, hP⟩ : ∃ P : Int, ((bitsOf xa : Int) - 1) * n = P := ⟨_, rfl⟩
  have hPb : -9600 ≤ P := by
    rw [← hP]
    have h1 : (-1 : Int) * n ≤ ((bitsOf xa : Int) - 1) * n := Int.mul_le_mul_of_nonneg_right (by omega) (by omega)
    omega
  rw [hP] at hnear
  have hPw : IntKind.i64.wrap P = P := by rw [IntKind.wrap_i64]; omega
  have HF := Lib.hid hfit
  have HK := Lib.hid hfitK
  clear hfit hfitK
  go_enter Tryd.func75, Tryd.ntmps75
  go_wp2_with (first
    | (go_at_call 59; refine (demand1_ok _ false aa ca xa _ r0' (ha.below bw) hla fa).mono ?_; rintro e w1 ⟨hbe1, rfl⟩; have bw1 := bw.trans (hbe1.mono (by simp)); have p0 := (hra.below bw1).cell 0; have p2 := (hra.below bw1).cell 1; have p1 := (hrn.below bw1).cell 0; simp only [List.getElem?_cons_zero, List.getElem?_cons_succ] at p0 p1 p2)
    | (go_at_call 60; refine (demand_ok _ _ _ (by simp; omega)).mono ?_; rintro e w2 ⟨rfl, rfl⟩))
  go_quiet (first
    | (go_at_call 55; exact (bitLen_any (.slice aa xa.length ca) xa _ ((ha.below bw1).drewN _) hla (by omega)).mono (fun e w' ⟨h1, h2⟩ => ⟨h2, _, h1.symm⟩))
    | (go_at_call 60; exact (demand_ok _ _ _ (by first | rfl | (simp; omega))).mono (fun e w' ⟨h1, h2⟩ => ⟨h2, _, h1.symm⟩)))
  have hS : PowS w B false aa xa ca n (w1.drewN nq) := by
    have h1 : Below w.heap.size w (w1.drewN nq) := ⟨bw1.os, bw1.tape, bw1.output, bw1.size, bw1.block⟩
    exact ⟨hra.below h1, ha.below h1, hrn.below h1, (Chg.refl (fun k => k = B + 2) w).thenBelow h1, ⟨r0, r1, r2, r3, hrr.below h1⟩⟩
  have HB := Lib.hid (show Below w.heap.size w (w1.drewN nq) from ⟨bw1.os, bw1.tape, bw1.output, bw1.size, bw1.block⟩)
  generalize w1.drewN nq = W2 at *
  clear hra hrn hrr hbl hP hPw hPb hnear a0 a1 n0 r0' bw bw1 hbe1 p0 p1 p2 hbb ha
  have hD := Lib.hid (pow_drew hS)
  obtain ⟨d1, d2, d3, -⟩ := pow_of hS
  clear hS
  go_wp2_with fail
  refine wp_region_held_drew (S := (fun X => X.cell? ⟨B, 0, none⟩ = some (.bool false) ∧ X.cell? ⟨B, 1, none⟩ = some (.slice aa xa.length ca) ∧ X.cell? ⟨B + 1, 0, none⟩ = some (.int .i64 n) ∧ PowS w B false aa xa ca n X)) (by kernel_rfl) hD.out (fun hHeld => ?_)
  refine wpAnyH_take (i := 0) (oi := _) (v := .pointer (some ⟨B, 0, none⟩)) rfl (by kernel_rfl) (by kernel_rfl) (by kernel_rfl) (fun _ _ _ h => h) (Or.inl ⟨by rfl, fun w hSw => by dsimp only at hSw; go_simp⟩) (by assumption) ?_
  refine wpAnyH_take (i := 1) (oi := _) (v := .bool false) rfl (by kernel_rfl) (by kernel_rfl) (by kernel_rfl) (fun _ _ _ h => h) (Or.inl ⟨by rfl, fun w hSw => by dsimp only at hSw; go_simp⟩) (by assumption) ?_
  refine wpAnyH_take (i := 2) (oi := _) (v := .bool false) rfl (by kernel_rfl) (by kernel_rfl) (by kernel_rfl) (fun _ _ _ h => h) (Or.inl ⟨by rfl, fun w hSw => by dsimp only at hSw; go_simp⟩) (by assumption) ?_
  refine wpAnyH_take (i := 3) (oi := _) (v := undef) rfl (by kernel_rfl) (by kernel_rfl) (by kernel_rfl) (fun _ _ _ h => h) (Or.inr ⟨by rfl, rfl⟩) (by assumption) ?_
  refine wpAnyH_take (i := 4) (oi := _) (v := undef) rfl (by kernel_rfl) (by kernel_rfl) (by kernel_rfl) (fun _ _ _ h => h) (Or.inr ⟨by rfl, rfl⟩) (by assumption) ?_
  refine wpAnyH_take (i := 5) (oi := _) (v := undef) rfl (by kernel_rfl) (by kernel_rfl) (by kernel_rfl) (fun _ _ _ h => h) (Or.inr ⟨by rfl, rfl⟩) (by assumption) ?_
  refine wpAnyH_take (i := 6) (oi := _) (v := .bool false) rfl (by kernel_rfl) (by kernel_rfl) (by kernel_rfl) (fun _ _ _ h => h) (Or.inl ⟨by rfl, fun w hSw => by dsimp only at hSw; go_simp⟩) (by assumption) ?_
  refine wpAnyH_take (i := 7) (oi := _) (v := .pointer (some ⟨B, 1, none⟩)) rfl (by kernel_rfl) (by kernel_rfl) (by kernel_rfl) (fun _ _ _ h => h) (Or.inl ⟨by rfl, fun w hSw => by dsimp only at hSw; go_simp⟩) (by assumption) ?_
  refine wpAnyH_take (i := 8) (oi := _) (v := .slice aa xa.length ca) rfl (by kernel_rfl) (by kernel_rfl) (by kernel_rfl) (fun _ _ _ h => h) (Or.inl ⟨by rfl, fun w hSw => by dsimp only at hSw; go_simp⟩) (by assumption) ?_
  refine wpAnyH_take (i := 9) (oi := _) (v := .int .i64 n) rfl (by kernel_rfl) (by kernel_rfl) (by kernel_rfl) (fun _ _ _ h => h) (Or.inl ⟨by rfl, fun w hSw => by dsimp only at hSw; go_simp⟩) (by assumption) ?_
  simp only [Act.put, List.setIfInBounds_toArray]
  refine wpAnyH_ready (rs := [10]) (by kernel_rfl) (by simp) ?_
  refine AllReadyH.cons (o := _) rfl (fun K9 hK9 => ?_) AllReadyH.nil
  rw [if_pos (by rfl)]
  obtain ⟨-, -, -, hP1⟩ := hHeld
  go_wp2_with (go_at_call 77; refine (power_any K hT hK _ xa n _ hP1.ra hka hn HK.out).mono ?_; rintro e w9 ⟨hbe, v, cs, rfl, h1, k1, e1⟩; obtain ⟨a3, c3, rfl, hc3, hm3⟩ := h1.form)
  refine hK9.out _ _ ?_ (fun hHeld => ?_)
  · exact pow_step hP1 hbe
  clear hK9 K9
  refine wpAnyH_ready (rs := [11]) (by kernel_rfl) (by simp) ?_
  refine AllReadyH.cons (o := _) rfl (fun K9 hK9 => ?_) AllReadyH.nil
  rw [if_pos (by rfl)]
  obtain ⟨-, -, -, hP2⟩ := hHeld
  go_wp2_with (go_at_call 63; refine (signed_any _ _ _ _ _).mono ?_; rintro e w10 ⟨hbe2, rfl⟩)
  refine hK9.out _ _ ?_ (fun hHeld => ?_)
  · exact pow_step hP2 hbe2
  clear hK9 K9
  refine wpAnyH_ready (rs := [12]) (by kernel_rfl) (by simp) ?_
  refine AllReadyH.cons (o := _) rfl (fun K9 hK9 => ?_) AllReadyH.nil
  rw [if_pos (by rfl)]
  obtain ⟨-, -, -, hP3⟩ := hHeld
  go_wp2_with (go_at_call 76; refine (fitting_no _ _ _ _ _ (fun h => HF.out (by rw [← e1]; exact (canon_length_iff k1 300).1 h))).mono ?_; rintro e w11 ⟨hbe3, rfl⟩)
  all_goals exact ⟨rfl, (HB.out.drew.trans (((hbe.trans (hbe2.mono hbe.size)).trans (hbe3.mono (hbe.trans (hbe2.mono hbe.size)).size)).mono HB.out.drew.size)), rfl⟩

set_option maxHeartbeats 1000000 in
set_option maxRecDepth 100000 in
theorem pow1_negbig (B : Nat) (aa : Option Addr) (ca : Nat) (xa : List Nat) (n : Nat) (r0 : Bool) (r1 : Option Addr) (r2 r3 : Nat) (K : Nat) (hT : TimesUpTo K) (hK : 0 < K) (w : World) (hra : RowAt w B 24 [.bool true, .slice aa xa.length ca]) (hrn : RowAt w (B + 1) 3 [.int .i64 n]) (hrr : RowAt w (B + 2) 24 [.bool r0, .slice r1 r2 r3])
    (ha : Reads .u32 w (.slice aa xa.length ca) xa) (hka : Canon xa) (fa : formedB true xa = true) (hn : n ≤ 9600) (hxl : xa.length ≤ 300) (hnear : ((bitsOf xa : Int) - 1) * n < 9600) (hbb : bitsOf xa ≤ 9600) (hfitK : val xa ^ n < B32 ^ K) (hfit : ¬ val xa ^ n < B32 ^ 300) :
    Calls Tryd.prog 75 #[.pointer (some ⟨B, 0, none⟩), .pointer (some ⟨B + 1, 0, none⟩), .pointer (some ⟨B + 2, 0, none⟩)] w fun e w' => Below w.heap.size w w' ∧ e = .panicked [{ v := .iface 27 (.int .i64 3), recovered := false }] := by
  have a0 := hra.cell 0
  have a1 := hra.cell 1
  have n0 := hrn.cell 0
  simp only [List.getElem?_cons_zero, List.getElem?_cons_succ] at a0 a1 n0
  have hla := hka.1
  have r0' := RowAt.new w 24 [.bool true, .slice aa xa.length ca]
  have bw := (Below.refl w.heap.size w).alloc (Nat.le_refl _) (.cells #[.bool true, .slice aa xa.length ca] 24)
  have hbl := fun W (h : Below w.heap.size w W) => bitLen_any (.slice aa xa.length ca) xa W (ha.below h) hla (by omega)
  obtain ⟨P, hP⟩ : ∃ P : Int, ((bitsOf xa : Int) - 1) * n = P := ⟨_, rfl⟩
  have hPb : -9600 ≤ P := by
    rw [← hP]
    have h1 : (-1 : Int) * n ≤ ((bitsOf xa : Int) - 1) * n := Int.mul_le_mul_of_nonneg_right (by omega) (by omega)
    omega
  rw [hP] at hnear
  have hPw : IntKind.i64.wrap P = P := by rw [IntKind.wrap_i64]; omega
  have HF := Lib.hid hfit
  have HK := Lib.hid hfitK
  clear hfit hfitK
  obtain ⟨p, hp⟩ : ∃ p, n % 2 = p := ⟨_, rfl⟩
  have hp2 : p = 0 ∨ p = 1 := by omega
  have hpn : (n : Int) % 2 = (p : Int) := by omega
  have hpt : (n : Int).tmod 2 = (p : Int) := by rw [Int.tmod_eq_emod_of_nonneg (by omega)]; omega
  have HP := Lib.hid hp
  clear hp
  go_enter Tryd.func75, Tryd.ntmps75
  go_wp2_with (first
    | (go_at_call 59; refine (demand1_ok _ true aa ca xa _ r0' (ha.below bw) hla fa).mono ?_; rintro e w1 ⟨hbe1, rfl⟩; have bw1 := bw.trans (hbe1.mono (by simp)); have p0 := (hra.below bw1).cell 0; have p2 := (hra.below bw1).cell 1; have p1 := (hrn.below bw1).cell 0; simp only [List.getElem?_cons_zero, List.getElem?_cons_succ] at p0 p1 p2)
    | (go_at_call 60; refine (demand_ok _ _ _ (by simp; omega)).mono ?_; rintro e w2 ⟨rfl, rfl⟩))
  go_quiet (first
    | (go_at_call 55; exact (bitLen_any (.slice aa xa.length ca) xa _ ((ha.below bw1).drewN _) hla (by omega)).mono (fun e w' ⟨h1, h2⟩ => ⟨h2, _, h1.symm⟩))
    | (go_at_call 60; exact (demand_ok _ _ _ (by first | rfl | (simp; omega))).mono (fun e w' ⟨h1, h2⟩ => ⟨h2, _, h1.symm⟩)))
  have hS : PowS w B true aa xa ca n (w1.drewN nq) := by
    have h1 : Below w.heap.size w (w1.drewN nq) := ⟨bw1.os, bw1.tape, bw1.output, bw1.size, bw1.block⟩
    exact ⟨hra.below h1, ha.below h1, hrn.below h1, (Chg.refl (fun k => k = B + 2) w).thenBelow h1, ⟨r0, r1, r2, r3, hrr.below h1⟩⟩
  have HB := Lib.hid (show Below w.heap.size w (w1.drewN nq) from ⟨bw1.os, bw1.tape, bw1.output, bw1.size, bw1.block⟩)
  generalize w1.drewN nq = W2 at *
  clear hra hrn hrr hbl hP hPw hPb hnear a0 a1 n0 r0' bw bw1 hbe1 p0 p1 p2 hbb ha
  have hD := Lib.hid (pow_drew hS)
  obtain ⟨d1, d2, d3, -⟩ := pow_of hS
  clear hS
  go_wp2_with fail
  obtain ⟨f, hf⟩ : ∃ f : Bool, ((p : Int) == 1) = f := ⟨_, rfl⟩
  have HS := Lib.hid hf
  refine wp_region_held_drew (S := (fun X => X.cell? ⟨B, 0, none⟩ = some (.bool true) ∧ X.cell? ⟨B, 1, none⟩ = some (.slice aa xa.length ca) ∧ X.cell? ⟨B + 1, 0, none⟩ = some (.int .i64 n) ∧ PowS w B true aa xa ca n X)) (by kernel_rfl) hD.out (fun hHeld => ?_)
  refine wpAnyH_take (i := 0) (oi := _) (v := .pointer (some ⟨B, 0, none⟩)) rfl (by kernel_rfl) (by kernel_rfl) (by kernel_rfl) (fun _ _ _ h => h) (Or.inl ⟨by rfl, fun w hSw => by (try dsimp only at hSw); go_simp⟩) (by assumption) ?_
  refine wpAnyH_take (i := 1) (oi := _) (v := .bool true) rfl (by kernel_rfl) (by kernel_rfl) (by kernel_rfl) (fun _ _ _ h => h) (Or.inl ⟨by rfl, fun w hSw => by (try dsimp only at hSw); go_simp⟩) (by assumption) ?_
  refine wpAnyH_take (i := 2) (oi := _) (v := .bool true) rfl (by kernel_rfl) (by kernel_rfl) (by kernel_rfl) (fun _ _ _ h => h) (Or.inl ⟨by rfl, fun w hSw => by (try dsimp only at hSw); go_simp⟩) (by assumption) ?_
  refine wpAnyH_take (i := 3) (oi := _) (v := .int .i64 n) rfl (by kernel_rfl) (by kernel_rfl) (by kernel_rfl) (fun _ _ _ h => h) (Or.inl ⟨by rfl, fun w hSw => by (try dsimp only at hSw); go_simp⟩) (by assumption) ?_
  refine wpAnyH_take (i := 4) (oi := _) (v := .int .i64 p) rfl (by kernel_rfl) (by kernel_rfl) (by kernel_rfl) (fun _ _ _ h => h) (Or.inl ⟨by rfl, fun w hSw => by (try dsimp only at hSw); go_simp⟩) (by assumption) ?_
  refine wpAnyH_take (i := 5) (oi := _) (v := .bool f) rfl (by kernel_rfl) (by kernel_rfl) (by kernel_rfl) (fun _ _ _ h => h) (Or.inl ⟨by rfl, fun w hSw => by (try dsimp only at hSw); go_simp⟩) (by assumption) ?_
  refine wpAnyH_take (i := 6) (oi := _) (v := .bool f) rfl (by kernel_rfl) (by kernel_rfl) (by kernel_rfl) (fun _ _ _ h => h) (Or.inl ⟨by rfl, fun w hSw => by (try dsimp only at hSw); go_simp⟩) (by assumption) ?_
  refine wpAnyH_take (i := 7) (oi := _) (v := .pointer (some ⟨B, 1, none⟩)) rfl (by kernel_rfl) (by kernel_rfl) (by kernel_rfl) (fun _ _ _ h => h) (Or.inl ⟨by rfl, fun w hSw => by (try dsimp only at hSw); go_simp⟩) (by assumption) ?_
  refine wpAnyH_take (i := 8) (oi := _) (v := .slice aa xa.length ca) rfl (by kernel_rfl) (by kernel_rfl) (by kernel_rfl) (fun _ _ _ h => h) (Or.inl ⟨by rfl, fun w hSw => by (try dsimp only at hSw); go_simp⟩) (by assumption) ?_
  refine wpAnyH_take (i := 9) (oi := _) (v := .int .i64 n) rfl (by kernel_rfl) (by kernel_rfl) (by kernel_rfl) (fun _ _ _ h => h) (Or.inl ⟨by rfl, fun w hSw => by (try dsimp only at hSw); go_simp⟩) (by assumption) ?_
  simp only [Act.put, List.setIfInBounds_toArray]
  refine wpAnyH_ready (rs := [10]) (by kernel_rfl) (by simp) ?_
  refine AllReadyH.cons (o := _) rfl (fun K9 hK9 => ?_) AllReadyH.nil
  rw [if_pos (by rfl)]
  obtain ⟨-, -, -, hP1⟩ := hHeld
  go_wp2_with (go_at_call 77; refine (power_any K hT hK _ xa n _ hP1.ra hka hn HK.out).mono ?_; rintro e w9 ⟨hbe, v, cs, rfl, h1, k1, e1⟩; obtain ⟨a3, c3, rfl, hc3, hm3⟩ := h1.form)
  refine hK9.out _ _ ?_ (fun hHeld => ?_)
  · exact pow_step hP1 hbe
  clear hK9 K9
  refine wpAnyH_ready (rs := [11]) (by kernel_rfl) (by simp) ?_
  refine AllReadyH.cons (o := _) rfl (fun K9 hK9 => ?_) AllReadyH.nil
  rw [if_pos (by rfl)]
  obtain ⟨-, -, -, hP2⟩ := hHeld
  go_wp2_with (go_at_call 63; refine (signed_any _ _ _ _ _).mono ?_; rintro e w10 ⟨hbe2, rfl⟩)
  refine hK9.out _ _ ?_ (fun hHeld => ?_)
  · exact pow_step hP2 hbe2
  clear hK9 K9
  refine wpAnyH_ready (rs := [12]) (by kernel_rfl) (by simp) ?_
  refine AllReadyH.cons (o := _) rfl (fun K9 hK9 => ?_) AllReadyH.nil
  rw [if_pos (by rfl)]
  obtain ⟨-, -, -, hP3⟩ := hHeld
  go_wp2_with (go_at_call 76; refine (fitting_no _ _ _ _ _ (fun h => HF.out (by rw [← e1]; exact (canon_length_iff k1 300).1 h))).mono ?_; rintro e w11 ⟨hbe3, rfl⟩)
  all_goals exact ⟨rfl, (HB.out.drew.trans (((hbe.trans (hbe2.mono hbe.size)).trans (hbe3.mono (hbe.trans (hbe2.mono hbe.size)).size)).mono HB.out.drew.size)), rfl⟩

set_option exponentiation.threshold 100000 in
theorem PowOut.keep {f : Bool} {n i k : Int} {W W' : World} {v : Value} (h : PowOut f n i k W v) (hk : ∀ v xs, Reads .u32 W v xs → Reads .u32 W' v xs) : PowOut f n i k W' v := by
  unfold PowOut at *
  by_cases h1 : f = true ∧ 0 ≤ n ∧ n ≤ 9600
  · rw [if_pos h1] at h ⊢
    split at h
    · rename_i h2; rw [if_pos h2]; exact ⟨h.1, h.2.keep hk⟩
    · rename_i h2; rw [if_neg h2]; exact h
  · rw [if_neg h1] at h ⊢
    exact h
set_option exponentiation.threshold 100000 in
theorem PowOut.shape {f : Bool} {n i k : Int} {W : World} {v : Value} (h : PowOut f n i k W v) : ∃ n5 a5 m5 c5, v = .agg #[.bool n5, .slice a5 m5 c5] := by
  unfold PowOut at h
  split at h
  · split at h
    · exact h.2.shape
    · exact ⟨_, _, _, _, h.2⟩
  · exact ⟨_, _, _, _, h.2⟩

set_option exponentiation.threshold 100000 in
theorem bits_le {xa : List Nat} (hk : Canon xa) (hl : xa.length ≤ 300) : bitsOf xa ≤ 9600 ∧ val xa ≤ 2 ^ bitsOf xa := by
  by_cases h0 : xa = []
  · subst h0; decide +kernel
  · obtain ⟨h4, h2, h3⟩ := bitsOf_bounds hk h0
    refine ⟨?_, Nat.le_of_lt h3⟩
    have h5 := (canon_length_iff hk 300).1 hl
    have h6 := Nat.lt_of_le_of_lt h2 h5
    rw [B32_pow] at h6
    have := (Nat.pow_lt_pow_iff_right (show 1 < 2 by decide)).1 h6
    omega
set_option exponentiation.threshold 100000 in
theorem near_big {xa : List Nat} {n : Nat} (hk : Canon xa) (hnear : ¬ ((bitsOf xa : Int) - 1) * n < 9600) : ¬ val xa ^ n < B32 ^ 300 := by
  have h0 : xa ≠ [] := by
    rintro rfl
    have h1 : bitsOf [] = 0 := by decide +kernel
    rw [h1] at hnear
    omega
  obtain ⟨h4, h2, h3⟩ := bitsOf_bounds hk h0
  obtain ⟨b, hb⟩ : ∃ b, bitsOf xa = b + 1 := ⟨bitsOf xa - 1, by omega⟩
  rw [hb] at hnear h2
  rw [show ((b + 1 : Nat) : Int) - 1 = (b : Int) by omega, ← Int.natCast_mul] at hnear
  rw [Nat.add_sub_cancel] at h2
  have h5 : (2 ^ b) ^ n ≤ val xa ^ n := Nat.pow_le_pow_left h2 n
  rw [← Nat.pow_mul] at h5
  have h6 : B32 ^ 300 ≤ 2 ^ (b * n) := by
    rw [B32_pow]
    exact Nat.pow_le_pow_right (by decide) (by omega)
  omega
set_option exponentiation.threshold 100000 in
theorem near_fits {xa : List Nat} {n : Nat} (hv : val xa ≤ 2 ^ bitsOf xa) (hn : n ≤ 9600) (hnear : ((bitsOf xa : Int) - 1) * n < 9600) : val xa ^ n < B32 ^ 600 := by
  have h1 : val xa ^ n ≤ (2 ^ bitsOf xa) ^ n := Nat.pow_le_pow_left hv n
  rw [← Nat.pow_mul] at h1
  have h2 : bitsOf xa * n < 19200 := by
    rw [Int.sub_mul, Int.one_mul, ← Int.natCast_mul] at hnear
    omega
  refine Nat.lt_of_le_of_lt h1 ?_
  rw [B32_pow]
  exact Nat.pow_lt_pow_right (by decide) (by omega)

set_option exponentiation.threshold 100000 in
theorem Pow_any (va : Value) (na : Bool) (xa : List Nat) (n : Int) (w : World) (ha : IntAt w va na xa) :
    Calls Tryd.prog 37 #[va, .int .i64 n] w fun e w' => Below w.heap.size w w' ∧ ∃ n5 a5 m5 c5 k, e = .returned (.tuple #[.agg #[.bool n5, .slice a5 m5 c5], .int .i64 k]) ∧ PowOut (formedB na xa) n (sgn na (val xa)) k w' (.agg #[.bool n5, .slice a5 m5 c5]) := by
  refine (Pow_of va na xa n w ha (fun k W v => PowOut (formedB na xa) n (sgn na (val xa)) k W v) (fun _ _ _ _ h hk => h.keep hk) ?_).mono ?_
  · intro B aa ca W4 hb4 hra hrn hrr hrd he
    obtain ⟨va', he', _, hl⟩ := ha
    have hno : ∀ k, PowOut (formedB na xa) n (sgn na (val xa)) k W4 zeroInt → (Calls Tryd.prog 75 #[.pointer (some ⟨B, 0, none⟩), .pointer (some ⟨B + 1, 0, none⟩), .pointer (some ⟨B + 2, 0, none⟩)] W4 fun e w' => Below W4.heap.size W4 w' ∧ e = .panicked [{ v := .iface 27 (.int .i64 k), recovered := false }]) → Calls Tryd.prog 75 #[.pointer (some ⟨B, 0, none⟩), .pointer (some ⟨B + 1, 0, none⟩), .pointer (some ⟨B + 2, 0, none⟩)] W4 fun e W => ∃ k, (k = 0 ∧ e = .returned (.tuple #[]) ∨ e = .panicked [{ v := .iface 27 (.int .i64 k), recovered := false }]) ∧ Chg (fun i => i = B + 2) W4 W ∧ (∃ n0 a0 m0 c0, RowAt W (B + 2) 24 [.bool n0, .slice a0 m0 c0] ∧ PowOut (formedB na xa) n (sgn na (val xa)) k W (.agg #[.bool n0, .slice a0 m0 c0])) := by
      intro k hP hC
      refine hC.mono ?_
      rintro e W ⟨hbe, rfl⟩
      exact ⟨k, .inr rfl, (Chg.refl _ W4).thenBelow hbe, false, none, 0, 0, hrr.below hbe, hP.keep (fun _ _ h => h.below hbe)⟩
    cases fa : formedB na xa with
    | false =>
      rw [fa] at hno
      exact hno 1 (by unfold PowOut; rw [if_neg (by simp)]; exact ⟨rfl, rfl⟩) (pow1_no B na aa ca xa W4 hra hrd hl fa)
    | true =>
      rw [fa] at hno
      by_cases hn : 0 ≤ n ∧ n ≤ 9600
      · obtain ⟨h0, h1⟩ := hn
        obtain ⟨m, rfl⟩ := Int.eq_ofNat_of_zero_le h0
        obtain ⟨hkx, hxl⟩ := formedB_bounds hl fa
        obtain ⟨hbb, hv⟩ := bits_le hkx hxl
        have hm : m ≤ 9600 := by omega
        have habs : (sgn na (val xa) ^ m).natAbs = val xa ^ m := by rw [Int.natAbs_pow, sgn_natAbs]
        by_cases hnear : ((bitsOf xa : Int) - 1) * m < 9600
        · have hfK := near_fits hv hm hnear
          have hT := timesUpTo_le times_any (show 600 ≤ 40000 by decide)
          by_cases hfit : val xa ^ m < B32 ^ 300
          · have hP : ∀ W v, IsInt W v (sgn na (val xa) ^ m) → PowOut true (m : Int) (sgn na (val xa)) 0 W v := fun W v h => by
              unfold PowOut
              rw [if_pos ⟨rfl, by omega, by omega⟩, Int.toNat_natCast, if_pos (by rw [habs]; exact hfit)]
              exact ⟨rfl, h⟩
            cases na with
            | false =>
              refine (pow1_ok B aa ca xa m _ _ _ _ 600 hT (by decide) W4 hra hrn hrr hrd hkx fa hm hxl hnear hbb hfK hfit).mono ?_
              rintro e W ⟨rfl, hch, m', a, l, c, hr, hi⟩
              exact ⟨0, .inl ⟨rfl, rfl⟩, hch, m', a, l, c, hr, hP _ _ hi⟩
            | true =>
              refine (pow1_neg B aa ca xa m _ _ _ _ 600 hT (by decide) W4 hra hrn hrr hrd hkx fa hm hxl hnear hbb hfK hfit).mono ?_
              rintro e W ⟨rfl, hch, m', a, l, c, hr, hi⟩
              exact ⟨0, .inl ⟨rfl, rfl⟩, hch, m', a, l, c, hr, hP _ _ hi⟩
          · have hP : PowOut true (m : Int) (sgn na (val xa)) 3 W4 zeroInt := by
              unfold PowOut
              rw [if_pos ⟨rfl, by omega, by omega⟩, Int.toNat_natCast, if_neg (by rw [habs]; exact hfit)]
              exact ⟨rfl, rfl⟩
            cases na with
            | false => exact hno 3 hP (pow1_big B aa ca xa m _ _ _ _ 600 hT (by decide) W4 hra hrn hrr hrd hkx fa hm hxl hnear hbb hfK hfit)
            | true => exact hno 3 hP (pow1_negbig B aa ca xa m _ _ _ _ 600 hT (by decide) W4 hra hrn hrr hrd hkx fa hm hxl hnear hbb hfK hfit)
        · have hP : PowOut true (m : Int) (sgn na (val xa)) 3 W4 zeroInt := by
            unfold PowOut
            rw [if_pos ⟨rfl, by omega, by omega⟩, Int.toNat_natCast, if_neg (by rw [habs]; exact near_big hkx hnear)]
            exact ⟨rfl, rfl⟩
          exact hno 3 hP (pow1_near B na aa ca xa m W4 hra hrn hrd hkx fa hm hxl hnear hbb)
      · exact hno 1 (by unfold PowOut; rw [if_neg (fun h => hn h.2)]; exact ⟨rfl, rfl⟩) (pow1_arg B na aa ca xa n W4 hra hrn hrd hl fa hn)
  · rintro e W ⟨hbe, r0, k, rfl, hP⟩
    obtain ⟨n5, a5, m5, c5, rfl⟩ := hP.shape
    exact ⟨hbe, n5, a5, m5, c5, k, rfl, hP⟩

end Go.Proofs.YtlghjfpkfdnfoaaDoor

/- zermeloref01.above -/
namespace Go.Proofs.YtlghjfpkfdnfoaaDoor
open Go Go.RowKit Go.Shelf

/-- the variables of above -/
structure AbS (w w1 : World) (n0 : Bool) (a0 : Option Addr) (m0 c0 : Nat) (n2 : Bool) (a2 : Option Addr) (m2 c2 : Nat) (n1 : Bool) (a1 : Option Addr) (m1 c1 : Nat) (X : World) : Prop where
  ra : RowAt X w.heap.size 24 [.bool n0, .slice a0 m0 c0]
  rb : RowAt X (w.heap.size + 1) 24 [.bool n2, .slice a2 m2 c2]
  ro : RowAt X w1.heap.size 24 [.bool n1, .slice a1 m1 c1]
  below : Below w.heap.size w X
  lt : w.heap.size + 1 < w1.heap.size
section
variable {w w1 X X' : World} {n0 n1 n2 : Bool} {a0 a1 a2 : Option Addr} {m0 c0 m1 c1 m2 c2 : Nat}
theorem AbS.step (h : AbS w w1 n0 a0 m0 c0 n2 a2 m2 c2 n1 a1 m1 c1 X) (hb : Below X.heap.size X X') : AbS w w1 n0 a0 m0 c0 n2 a2 m2 c2 n1 a1 m1 c1 X' := ⟨h.ra.below hb, h.rb.below hb, h.ro.below hb, h.below.trans (hb.mono h.below.size), h.lt⟩
theorem AbS.set (h : AbS w w1 n0 a0 m0 c0 n2 a2 m2 c2 n1 a1 m1 c1 X) (n : Bool) (a : Option Addr) (m c : Nat) : AbS w w1 n0 a0 m0 c0 n2 a2 m2 c2 n a m c ((X.setCell ⟨w1.heap.size, 0, none⟩ (.bool n)).setCell ⟨w1.heap.size, 1, none⟩ (.slice a m c)) := by
  have hl := h.lt
  exact ⟨(h.ra.other (show w.heap.size ≠ w1.heap.size by omega) _).other (show w.heap.size ≠ w1.heap.size by omega) _, (h.rb.other (show w.heap.size + 1 ≠ w1.heap.size by omega) _).other (show w.heap.size + 1 ≠ w1.heap.size by omega) _, (h.ro.set 0 (.bool n)).set 1 (.slice a m c), (h.below.setCell (show w.heap.size ≤ w1.heap.size by omega) _).setCell (show w.heap.size ≤ w1.heap.size by omega) _, h.lt⟩
end
/-- at a round's head -/
def AbR (w w1 : World) (n0 : Bool) (a0 : Option Addr) (m0 c0 : Nat) (n2 : Bool) (a2 : Option Addr) (m2 c2 : Nat) (R A n : Nat) (v : Value) (W : World) : Prop := ∃ k n1 a1 m1 c1, k ≤ n ∧ v = .int .i64 (k : Int) ∧ AbS w w1 n0 a0 m0 c0 n2 a2 m2 c2 n1 a1 m1 c1 W ∧ IsInt W (.agg #[.bool n1, .slice a1 m1 c1]) ((R ^ k : Nat) : Int) ∧ IsInt W (.agg #[.bool n0, .slice a0 m0 c0]) (R : Int) ∧ IsInt W (.agg #[.bool n2, .slice a2 m2 c2]) (A : Int) ∧ (k = 0 ∨ R ^ k ≤ A)

theorem pow_above {R A k n : Nat} (h : A < R ^ k) (hk : 1 ≤ k) (hn : k ≤ n) : A < R ^ n := by
  have hR : 0 < R := by
    rcases Nat.eq_zero_or_pos R with h0 | h0
    · subst h0
      rw [Nat.zero_pow (by omega)] at h
      omega
    · exact h0
  exact Nat.lt_of_lt_of_le h (Nat.pow_le_pow_right hR hn)

set_option maxHeartbeats 4000000 in
set_option maxRecDepth 100000 in
set_option exponentiation.threshold 100000 in
theorem rabove_int (vr va : Value) (R A n K : Nat) (w : World) (hr : IsInt w vr (R : Int)) (ha : IsInt w va (A : Int)) (hi : R < B32 ^ K) (hn1 : 1 ≤ n) (hn : n ≤ 100) (hK : K * n < 90000) (hK0 : K < 90000) :
    Calls Tryd.prog 80 #[vr, .int .i64 (n : Int), va] w fun e w' => Below w.heap.size w w' ∧ e = .returned (.bool (decide (A < R ^ n))) := by
  obtain ⟨n0, a0, m0, c0, rfl⟩ := hr.shape
  obtain ⟨n2, a2, m2, c2, rfl⟩ := ha.shape
  have b1 := (Below.refl w.heap.size w).alloc (Nat.le_refl _) (.cells #[.bool n0, .slice a0 m0 c0] 24)
  have b2 := b1.alloc b1.size (.cells #[.bool n2, .slice a2 m2 c2] 24)
  have q1 := (RowAt.new w 24 [.bool n0, .slice a0 m0 c0]).alloc (.cells #[.bool n2, .slice a2 m2 c2] 24)
  have q2 := RowAt.new (w.alloc (.cells #[.bool n0, .slice a0 m0 c0] 24)) 24 [.bool n2, .slice a2 m2 c2]
  simp only [World.size_alloc] at q2
  have kO := fun X => rof_int 1 X (by decide) (by decide)
  have hr2 := hr.below b2
  have ha2 := ha.below b2
  clear hr ha b1
  go_enter Tryd.func80, Tryd.ntmps80
  go_wp2_with (go_at_call 27; refine (kO _).mono ?_; rintro e w1 ⟨hb1, v1, rfl, hI⟩; obtain ⟨n1, a1, m1, c1, rfl⟩ := hI.shape)
  have hal := (Below.refl w1.heap.size w1).alloc (Nat.le_refl _) (.cells #[.bool n1, .slice a1 m1 c1] 24)
  have hg := hb1.trans (hal.mono hb1.size)
  have hst : AbR w w1 n0 a0 m0 c0 n2 a2 m2 c2 R A n (.int .i64 0) (w1.alloc (.cells #[.bool n1, .slice a1 m1 c1] 24)) := ⟨0, n1, a1, m1, c1, Nat.zero_le _, rfl, ⟨q1.below hg, q2.below hg, RowAt.new w1 24 [.bool n1, .slice a1 m1 c1], b2.trans (hg.mono b2.size), by have := hb1.size; simp at this; omega⟩, by rw [Nat.pow_zero]; exact hI.below hal, hr2.below hg, ha2.below hg, .inl rfl⟩
  have HS := Lib.hid hst
  clear hst hg hal hI hb1 q1 q2 b2 ha2 hr2 kO
  generalize w1.alloc (.cells #[.bool n1, .slice a1 m1 c1] 24) = W1 at *
  go_loopw [8] (fun v W => AbR w w1 n0 a0 m0 c0 n2 a2 m2 c2 R A n v W) (fun v _ => n - (intOf v).toNat)
  case atStart => exact HS.out
  case round =>
    clear HS
    obtain ⟨k, n4, a4, m4, c4, hk, rfl, hS, hx, hy, hz, hle⟩ := hrel
    have d1 := hS.ra.cell 0
    have d2 := hS.ra.cell 1
    have d3 := hS.ro.cell 0
    have d4 := hS.ro.cell 1
    simp only [List.getElem?_cons_zero, List.getElem?_cons_succ] at d1 d2 d3 d4
    by_cases hkn : k < n
    · have hi' : (R : Int).natAbs < B32 ^ K := by rw [Int.natAbs_natCast]; exact hi
      have bk : ((R ^ k : Nat) : Int).natAbs < B32 ^ 90000 := by
        rw [Int.natCast_pow]
        exact pow_abs_lt hi' (Nat.lt_of_le_of_lt (Nat.mul_le_mul_left K hk) hK)
      have bk1 : R ^ (k + 1) < B32 ^ 90000 := by
        have := pow_abs_lt hi' (n := k + 1) (Nat.lt_of_le_of_lt (Nat.mul_le_mul_left K hkn) hK)
        rwa [← Int.natCast_pow, Int.natAbs_natCast] at this
      have kT := rtimes_int _ _ ((R ^ k : Nat) : Int) (R : Int) wr hx hy bk (abs_lt_up hi' (Nat.le_of_lt hK0))
      rw [← Int.natCast_mul, ← Nat.pow_succ] at kT
      have e1 : decide ((k : Int) < (n : Int)) = true := decide_eq_true (by omega)
      have e2 : decide (k < n) = true := decide_eq_true hkn
      have HN := Lib.hid (And.intro hkn (And.intro hk hn))
      clear bk hi hi' hK hK0 hkn hk hn hx hn1 hle
      go_upto_region 6 with (go_at_call 45; with_reducible refine kT.mono ?_; rintro e w3 ⟨hb3, v3, rfl, hJ⟩; obtain ⟨n5, a5, m5, c5, rfl⟩ := hJ.shape; have hS3 := hS.step hb3; have s1 := hS3.ro.cell 0; have s2 := hS3.ro.cell 1; have s3 := hS3.ro.frozen 0; have s4 := hS3.ro.frozen 1; simp only [List.getElem?_cons_zero, List.getElem?_cons_succ] at s1 s2)
      have hkp := fun v xs h => two_kept (v := v) (xs := xs) (b := w1.heap.size) h s1 s2 (.bool n5) (.slice a5 m5 c5)
      have hJ5 := hJ.keep hkp
      have hy5 := (hy.below hb3).keep hkp
      have hz5 := (hz.below hb3).keep hkp
      have hS5 := hS3.set n5 a5 m5 c5
      clear hkp s1 s2 s3 s4 hS3 hJ hy hz hb3 hS kT d1 d2 d3 d4 e1 e2
      generalize (w3.setCell ⟨w1.heap.size, 0, none⟩ (.bool n5)).setCell ⟨w1.heap.size, 1, none⟩ (.slice a5 m5 c5) = W5 at *
      obtain ⟨xs, hxs, hkx, hvx⟩ := isInt_list hJ5
      obtain ⟨ys, hys, hky, hvy⟩ := isInt_list hz5
      obtain ⟨_, _, e, -, -⟩ := hxs.form
      cases e
      obtain ⟨_, _, e, -, -⟩ := hys.form
      cases e
      rw [Int.natAbs_natCast] at hvx hvy
      have kL := larger_any _ _ xs ys W5 hxs hys hkx hky (by have := canon_length_le hkx (by rw [hvx]; exact bk1); omega)
      rw [hvx, hvy] at kL
      have g1 := hS5.ro.cell 1
      have g2 := hS5.rb.cell 1
      simp only [List.getElem?_cons_zero, List.getElem?_cons_succ] at g1 g2
      clear hxs hys hkx hky hvx hvy bk1
      by_cases hab : A < R ^ (k + 1)
      · have hc : cmpI ((R ^ (k + 1) : Nat) : Int) (A : Int) = 1 := by unfold cmpI; rw [if_neg (by omega), if_pos (by omega)]
        rw [show k.succ = k + 1 from rfl, hc] at kL
        have hfin : decide (A < R ^ n) = true := decide_eq_true (pow_above hab (by omega) HN.out.1)
        have HF := Lib.hid hfin
        have hb := hS5.below
        clear hab hc hfin hS5 hJ5 hy5 hz5
        go_wp2_with (go_at_call 54; with_reducible refine kL.mono ?_; rintro e w6 ⟨hb6, rfl⟩)
        go_ret
        exact ⟨hb.trans (hb6.mono hb.size), by rw [HF.out]; rfl⟩
      · obtain ⟨c, hc⟩ : ∃ c, cmpI ((R ^ (k + 1) : Nat) : Int) (A : Int) = c := ⟨_, rfl⟩
        have hc0 : decide (0 < c) = false := decide_eq_false (by
          rw [← hc]
          unfold cmpI
          (repeat' split) <;> omega)
        rw [show k.succ = k + 1 from rfl, hc] at kL
        have HB := Lib.hid (And.intro hab (And.intro hJ5 (And.intro hy5 (And.intro hz5 hS5))))
        clear hab hc hJ5 hy5 hz5 hS5
        go_wp2_with (go_at_call 54; with_reducible refine kL.mono ?_; rintro e w6 ⟨hb6, rfl⟩)
        obtain ⟨hkn, hk, hn⟩ := HN.out
        obtain ⟨hab, hJ5, hy5, hz5, hS5⟩ := HB.out
        have hw : wrap64 ((k : Int) + 1) = ((k + 1 : Nat) : Int) := by unfold wrap64; omega
        go_roundw
        case rel => exact ⟨k + 1, n5, a5, _, c5, hkn, by rw [hw], hS5.step hb6, hJ5.below hb6, hy5.below hb6, hz5.below hb6, .inr (by omega)⟩
        case measure =>
          rw [hw]
          simp only [intOf, Int.toNat_natCast]
          omega
    · obtain rfl : k = n := by omega
      have e1 : decide ((k : Int) < (k : Int)) = false := decide_eq_false (by omega)
      have hfin : decide (A < R ^ k) = false := decide_eq_false (by
        rcases hle with h | h <;> omega)
      have HF := Lib.hid hfin
      have hb := hS.below
      clear hk hkn hx hy hz hS hi hK hK0 hn hle hfin hn1
      go_wp2_with fail
      go_ret
      exact ⟨hb, by rw [HF.out]; rfl⟩
end Go.Proofs.YtlghjfpkfdnfoaaDoor

/- zermeloref01.Root -/
namespace Go.Proofs.YtlghjfpkfdnfoaaDoor
open Go Go.RowKit Go.Shelf

/-- the root, rounded downward -/
def RootVal (i : Int) (n : Nat) (r : Int) : Prop := ∃ s, IsRoot i.natAbs n s ∧ r = if i < 0 then (if s ^ n = i.natAbs then -(s : Int) else -((s : Int) + 1)) else (s : Int)
theorem rootVal_unique {i : Int} {n : Nat} {r r' : Int} (h : RootVal i n r) (h' : RootVal i n r') : r = r' := by
  obtain ⟨s, h1, rfl⟩ := h
  obtain ⟨s', h2, rfl⟩ := h'
  rw [isRoot_unique h1 h2]
/-- what Root answers -/
def RootOut (f : Bool) (n : Int) (i : Int) (k : Int) (W : World) (v : Value) : Prop :=
  if f = true ∧ 1 ≤ n ∧ n ≤ 100 then (if i < 0 ∧ n % 2 = 0 then k = 5 ∧ v = zeroInt else k = 0 ∧ ∃ r, IsInt W v r ∧ RootVal i n.toNat r) else k = 1 ∧ v = zeroInt

set_option maxHeartbeats 1000000 in
set_option maxRecDepth 100000 in
theorem rroot_no (v : Value) (neg : Bool) (xs : List Nat) (n : Int) (w : World) (h : IntAt w v neg xs) (hn : ¬ (formedB neg xs = true ∧ 1 ≤ n ∧ n ≤ 100)) :
    Calls Tryd.prog 40 #[v, .int .i64 n] w fun e w' => Below w.heap.size w w' ∧ e = .returned (.agg #[.bool false, .slice none 0 0, .int .i64 1]) := by
  have KF := fun X (hX : Below w.heap.size w X) => rformed_any v neg xs X (h.below hX)
  obtain ⟨va, rfl, hr, hl⟩ := h
  obtain ⟨a, c, rfl, hc, hm⟩ := hr.form
  have b1 := (Below.refl w.heap.size w).alloc (Nat.le_refl _) (.cells #[.bool neg, .slice a xs.length c] 24)
  have b2 := b1.alloc b1.size (.cells #[.bool false, .slice none 0 0, .int .i64 0] 43)
  have q1 := (RowAt.new w 24 [.bool neg, .slice a xs.length c]).alloc (.cells #[.bool false, .slice none 0 0, .int .i64 0] 43)
  have q2 := RowAt.new (w.alloc (.cells #[.bool neg, .slice a xs.length c] 24)) 43 [.bool false, .slice none 0 0, .int .i64 0]
  simp only [World.size_alloc] at q2
  clear hr hl hc hm
  cases hf : formedB neg xs with
  | false =>
    rw [hf] at KF
    clear hf hn
    go_enter Tryd.func40, Tryd.ntmps40
    go_wp2_with (go_at_call 19; refine (KF _ b2).mono ?_; rintro e w1 ⟨hb1, rfl⟩; have q4 := q2.below hb1; have s1 := q4.cell 0; have s2 := q4.cell 1; have s3 := q4.cell 2; have s4 := q4.frozen 0; have s5 := q4.frozen 1; have s6 := q4.frozen 2; have q0 := q1.below hb1; have s7 := q0.cell 0; simp only [List.getElem?_cons_zero, List.getElem?_cons_succ] at s1 s2 s3 s7)
    have q5 := ((q4.set 0 (.bool false)).set 1 (.slice none 0 0)).set 2 (.int .i64 1)
    have u1 := q5.cell 0
    have u2 := q5.cell 1
    have u3 := q5.cell 2
    simp only [List.set_cons_zero, List.set_cons_succ, List.getElem?_cons_zero, List.getElem?_cons_succ] at u1 u2 u3
    have b9 := b2.trans (hb1.mono b2.size)
    exact bodyPost_ret (v := .agg #[.bool false, .slice none 0 0, .int .i64 1]) (by simp [results, Tryd.results40, go_sem, loadCellsFrom, u1, u2, u3]) rfl ⟨((b9.setCell (by simp) _).setCell (by simp) _).setCell (by simp) _, rfl⟩
  | true =>
    rw [hf] at KF hn
    rcases Int.lt_or_le n 1 with h | h
    · have h1 : decide (n < 1) = true := decide_eq_true h
      clear hf hn h
      go_enter Tryd.func40, Tryd.ntmps40
      go_wp2_with (go_at_call 19; refine (KF _ b2).mono ?_; rintro e w1 ⟨hb1, rfl⟩; have q4 := q2.below hb1; have s1 := q4.cell 0; have s2 := q4.cell 1; have s3 := q4.cell 2; have s4 := q4.frozen 0; have s5 := q4.frozen 1; have s6 := q4.frozen 2; have q0 := q1.below hb1; have s7 := q0.cell 0; simp only [List.getElem?_cons_zero, List.getElem?_cons_succ] at s1 s2 s3 s7)
      have q5 := ((q4.set 0 (.bool false)).set 1 (.slice none 0 0)).set 2 (.int .i64 1)
      have u1 := q5.cell 0
      have u2 := q5.cell 1
      have u3 := q5.cell 2
      simp only [List.set_cons_zero, List.set_cons_succ, List.getElem?_cons_zero, List.getElem?_cons_succ] at u1 u2 u3
      have b9 := b2.trans (hb1.mono b2.size)
      exact bodyPost_ret (v := .agg #[.bool false, .slice none 0 0, .int .i64 1]) (by simp [results, Tryd.results40, go_sem, loadCellsFrom, u1, u2, u3]) rfl ⟨((b9.setCell (by simp) _).setCell (by simp) _).setCell (by simp) _, rfl⟩
    · have h1 : decide (n < 1) = false := decide_eq_false (by omega)
      have h2 : decide (100 < n) = true := decide_eq_true (by
        apply Classical.byContradiction
        intro h3
        exact hn ⟨rfl, h, by omega⟩)
      clear hf hn h
      go_enter Tryd.func40, Tryd.ntmps40
      go_wp2_with (go_at_call 19; refine (KF _ b2).mono ?_; rintro e w1 ⟨hb1, rfl⟩; have q4 := q2.below hb1; have s1 := q4.cell 0; have s2 := q4.cell 1; have s3 := q4.cell 2; have s4 := q4.frozen 0; have s5 := q4.frozen 1; have s6 := q4.frozen 2; have q0 := q1.below hb1; have s7 := q0.cell 0; simp only [List.getElem?_cons_zero, List.getElem?_cons_succ] at s1 s2 s3 s7)
      have q5 := ((q4.set 0 (.bool false)).set 1 (.slice none 0 0)).set 2 (.int .i64 1)
      have u1 := q5.cell 0
      have u2 := q5.cell 1
      have u3 := q5.cell 2
      simp only [List.set_cons_zero, List.set_cons_succ, List.getElem?_cons_zero, List.getElem?_cons_succ] at u1 u2 u3
      have b9 := b2.trans (hb1.mono b2.size)
      exact bodyPost_ret (v := .agg #[.bool false, .slice none 0 0, .int .i64 1]) (by simp [results, Tryd.results40, go_sem, loadCellsFrom, u1, u2, u3]) rfl ⟨((b9.setCell (by simp) _).setCell (by simp) _).setCell (by simp) _, rfl⟩

set_option maxHeartbeats 1000000 in
set_option maxRecDepth 100000 in
theorem rroot_even (v : Value) (xs : List Nat) (n : Int) (w : World) (h : IntAt w v true xs) (hf : formedB true xs = true) (h0 : 1 ≤ n) (h100 : n ≤ 100) (hp : n % 2 = 0) :
    Calls Tryd.prog 40 #[v, .int .i64 n] w fun e w' => Below w.heap.size w w' ∧ e = .returned (.agg #[.bool false, .slice none 0 0, .int .i64 5]) := by
  have KF := fun X (hX : Below w.heap.size w X) => rformed_any v true xs X (h.below hX)
  rw [hf] at KF
  obtain ⟨va, rfl, hr, hl⟩ := h
  obtain ⟨a, c, rfl, hc, hm⟩ := hr.form
  have b1 := (Below.refl w.heap.size w).alloc (Nat.le_refl _) (.cells #[.bool true, .slice a xs.length c] 24)
  have b2 := b1.alloc b1.size (.cells #[.bool false, .slice none 0 0, .int .i64 0] 43)
  have q1 := (RowAt.new w 24 [.bool true, .slice a xs.length c]).alloc (.cells #[.bool false, .slice none 0 0, .int .i64 0] 43)
  have q2 := RowAt.new (w.alloc (.cells #[.bool true, .slice a xs.length c] 24)) 43 [.bool false, .slice none 0 0, .int .i64 0]
  simp only [World.size_alloc] at q2
  clear hr hl hc hm
  have h1 : decide (n < 1) = false := decide_eq_false (by omega)
  have h2 : decide (100 < n) = false := decide_eq_false (by omega)
  have h3 : n.tmod 2 = 0 := by rw [Int.tmod_eq_emod_of_nonneg (by omega)]; exact hp
  clear h0 h100 hf
  go_enter Tryd.func40, Tryd.ntmps40
  go_wp2_with (go_at_call 19; refine (KF _ b2).mono ?_; rintro e w1 ⟨hb1, rfl⟩; have q4 := q2.below hb1; have s1 := q4.cell 0; have s2 := q4.cell 1; have s3 := q4.cell 2; have s4 := q4.frozen 0; have s5 := q4.frozen 1; have s6 := q4.frozen 2; have q0 := q1.below hb1; have s7 := q0.cell 0; simp only [List.getElem?_cons_zero, List.getElem?_cons_succ] at s1 s2 s3 s7)
  have q5 := ((q4.set 0 (.bool false)).set 1 (.slice none 0 0)).set 2 (.int .i64 5)
  have u1 := q5.cell 0
  have u2 := q5.cell 1
  have u3 := q5.cell 2
  simp only [List.set_cons_zero, List.set_cons_succ, List.getElem?_cons_zero, List.getElem?_cons_succ] at u1 u2 u3
  have b9 := b2.trans (hb1.mono b2.size)
  exact bodyPost_ret (v := .agg #[.bool false, .slice none 0 0, .int .i64 5]) (by simp [results, Tryd.results40, go_sem, loadCellsFrom, u1, u2, u3]) rfl ⟨((b9.setCell (by simp) _).setCell (by simp) _).setCell (by simp) _, rfl⟩

/-- the number 2 ^ k as limbs -/
theorem bit_list (k : Nat) : Limbs ((List.replicate (k / 32 + 1) 0).set (k / 32) (2 ^ (k % 32))) ∧ val ((List.replicate (k / 32 + 1) 0).set (k / 32) (2 ^ (k % 32))) = 2 ^ k := by
  constructor
  · intro x hx
    rcases List.mem_or_eq_of_mem_set hx with h | rfl
    · rw [(List.mem_replicate.1 h).2]; exact B32_pos
    · show 2 ^ (k % 32) < 2 ^ 32
      exact Nat.pow_lt_pow_right (by decide) (Nat.mod_lt _ (by decide))
  · have h := val_set (List.replicate (k / 32 + 1) 0) (k / 32) (2 ^ (k % 32)) (by simp)
    rw [val_zeros] at h
    have h1 : (List.replicate (k / 32 + 1) 0)[k / 32]?.getD 0 = 0 := by simp
    rw [h1, Nat.mul_zero, Nat.add_zero, Nat.zero_add] at h
    rw [h, B32_pow, ← Nat.pow_add]
    congr 1
    omega

/-- the variables of Root of the specification -/
structure RooS (w w2 : World) (n0 : Bool) (a0 : Option Addr) (m0 c0 : Nat) (n1 : Bool) (a1 : Option Addr) (m1 c1 : Nat) (n2 : Bool) (a2 : Option Addr) (m2 c2 : Nat) (X : World) : Prop where
  ra : RowAt X w.heap.size 24 [.bool n0, .slice a0 m0 c0]
  rr : RowAt X (w.heap.size + 1) 43 [.bool false, .slice none 0 0, .int .i64 0]
  rs : RowAt X w2.heap.size 24 [.bool n1, .slice a1 m1 c1]
  ro : RowAt X (w2.heap.size + 1) 24 [.bool n2, .slice a2 m2 c2]
  below : Below w.heap.size w X
  lt : w.heap.size + 1 < w2.heap.size
section
variable {w w2 X X' : World} {n0 n1 n2 : Bool} {a0 a1 a2 : Option Addr} {m0 c0 m1 c1 m2 c2 : Nat}
theorem RooS.step (h : RooS w w2 n0 a0 m0 c0 n1 a1 m1 c1 n2 a2 m2 c2 X) (hb : Below X.heap.size X X') : RooS w w2 n0 a0 m0 c0 n1 a1 m1 c1 n2 a2 m2 c2 X' := ⟨h.ra.below hb, h.rr.below hb, h.rs.below hb, h.ro.below hb, h.below.trans (hb.mono h.below.size), h.lt⟩
theorem RooS.drew (h : RooS w w2 n0 a0 m0 c0 n1 a1 m1 c1 n2 a2 m2 c2 X) : RooS w w2 n0 a0 m0 c0 n1 a1 m1 c1 n2 a2 m2 c2 X.drew := ⟨h.ra, h.rr, h.rs, h.ro, h.below.drew, h.lt⟩
theorem RooS.set (h : RooS w w2 n0 a0 m0 c0 n1 a1 m1 c1 n2 a2 m2 c2 X) (n : Bool) (a : Option Addr) (m c : Nat) : RooS w w2 n0 a0 m0 c0 n1 a1 m1 c1 n a m c ((X.setCell ⟨w2.heap.size + 1, 0, none⟩ (.bool n)).setCell ⟨w2.heap.size + 1, 1, none⟩ (.slice a m c)) := by
  have hl := h.lt
  exact ⟨(h.ra.other (show w.heap.size ≠ w2.heap.size + 1 by omega) _).other (show w.heap.size ≠ w2.heap.size + 1 by omega) _, (h.rr.other (show w.heap.size + 1 ≠ w2.heap.size + 1 by omega) _).other (show w.heap.size + 1 ≠ w2.heap.size + 1 by omega) _, (h.rs.other (show w2.heap.size ≠ w2.heap.size + 1 by omega) _).other (show w2.heap.size ≠ w2.heap.size + 1 by omega) _, (h.ro.set 0 (.bool n)).set 1 (.slice a m c), (h.below.setCell (show w.heap.size ≤ w2.heap.size + 1 by omega) _).setCell (show w.heap.size ≤ w2.heap.size + 1 by omega) _, h.lt⟩
theorem roos_of (h : RooS w w2 n0 a0 m0 c0 n1 a1 m1 c1 n2 a2 m2 c2 X) : X.cell? ⟨w2.heap.size + 1, 0, none⟩ = some (.bool n2) ∧ X.cell? ⟨w2.heap.size + 1, 1, none⟩ = some (.slice a2 m2 c2) ∧ RooS w w2 n0 a0 m0 c0 n1 a1 m1 c1 n2 a2 m2 c2 X := ⟨h.ro.cell 0, h.ro.cell 1, h⟩
end
/-- at a round's head -/
def RooR (w w2 : World) (n0 : Bool) (a0 : Option Addr) (m0 c0 : Nat) (n1 : Bool) (a1 : Option Addr) (m1 c1 : Nat) (i : Int) (n : Nat) (v : Value) (W : World) : Prop := ∃ (m : Nat) (n2 : Bool) (a2 : Option Addr) (m2 c2 r : Nat), m ≤ 9700 ∧ v = .int .i64 ((m : Int) - 1) ∧ RooS w w2 n0 a0 m0 c0 n1 a1 m1 c1 n2 a2 m2 c2 W ∧ IsInt W (.agg #[.bool n2, .slice a2 m2 c2]) ((r : Nat) : Int) ∧ IsInt W (.agg #[.bool n1, .slice a1 m1 c1]) ((i.natAbs : Nat) : Int) ∧ IsInt W (.agg #[.bool n0, .slice a0 m0 c0]) i ∧ r ^ n ≤ i.natAbs ∧ i.natAbs < (r + 2 ^ m) ^ n

theorem root_begin {A D n : Nat} (h : A < 2 ^ D) (h1 : 1 ≤ n) : 0 ^ n ≤ A ∧ A < (0 + 2 ^ (D / n + 2)) ^ n := by
  refine ⟨by rw [Nat.zero_pow (by omega)]; exact Nat.zero_le _, Nat.lt_of_lt_of_le h ?_⟩
  rw [Nat.zero_add, ← Nat.pow_mul]
  refine Nat.pow_le_pow_right (by decide) ?_
  have h2 := Nat.div_add_mod D n
  have h3 := Nat.mod_lt D (show n > 0 by omega)
  have h4 : (D / n + 2) * n = n * (D / n) + 2 * n := by rw [Nat.add_mul, Nat.mul_comm (D / n) n]
  omega
theorem cmpI_zero (r n A : Nat) : (cmpI ((r : Int) ^ n) (A : Int) == 0) = decide (r ^ n = A) := by
  rw [← Int.natCast_pow]
  generalize r ^ n = x
  unfold cmpI
  by_cases h : x = A
  · subst h; simp
  · rw [decide_eq_false h]
    (repeat' split) <;> first | rfl | (exfalso; omega)
theorem field_abs (n : Bool) (a : Option Addr) (m c : Nat) (W : World) : (Instr.field 24 (.agg #[.bool n, .slice a m c]) 1).run Tryd.prog W = .ok (.slice a m c) W := by kernel_rfl
theorem small_wrap (q : Nat) (h : q ≤ 100000) : wrap64 (q : Int) = (q : Int) ∧ IntKind.i64.wrap (q : Int) = (q : Int) := ⟨by unfold wrap64; omega, by rw [IntKind.wrap_i64]; omega⟩
theorem small_pred (q : Nat) (h : q ≤ 100000) : wrap64 ((q : Int) - 1) = (q : Int) - 1 := by unfold wrap64; omega
/-- the same behind a world -/
structure RooL (w w2 W2 : World) (n0 : Bool) (a0 : Option Addr) (m0 c0 : Nat) (n1 : Bool) (a1 : Option Addr) (m1 c1 : Nat) (n2 : Bool) (a2 : Option Addr) (m2 c2 : Nat) (X : World) : Prop where
  s : RooS w w2 n0 a0 m0 c0 n1 a1 m1 c1 n2 a2 m2 c2 X
  more : Below W2.heap.size W2 X
section
variable {w w2 W2 X X' : World} {n0 n1 n2 : Bool} {a0 a1 a2 : Option Addr} {m0 c0 m1 c1 m2 c2 : Nat}
theorem rool_of (h : RooL w w2 W2 n0 a0 m0 c0 n1 a1 m1 c1 n2 a2 m2 c2 X) : X.cell? ⟨w.heap.size, 1, none⟩ = some (.slice a0 m0 c0) ∧ X.cell? ⟨w2.heap.size + 1, 0, none⟩ = some (.bool n2) ∧ X.cell? ⟨w2.heap.size + 1, 1, none⟩ = some (.slice a2 m2 c2) ∧ RooL w w2 W2 n0 a0 m0 c0 n1 a1 m1 c1 n2 a2 m2 c2 X := ⟨h.s.ra.cell 1, h.s.ro.cell 0, h.s.ro.cell 1, h⟩
theorem rool_step (h : RooL w w2 W2 n0 a0 m0 c0 n1 a1 m1 c1 n2 a2 m2 c2 X) (hb : Below X.heap.size X X') : RooL w w2 W2 n0 a0 m0 c0 n1 a1 m1 c1 n2 a2 m2 c2 X' := ⟨h.s.step hb, h.more.trans (hb.mono h.more.size)⟩
theorem rool_drew (h : RooL w w2 W2 n0 a0 m0 c0 n1 a1 m1 c1 n2 a2 m2 c2 X) : X.drew.cell? ⟨w.heap.size, 1, none⟩ = some (.slice a0 m0 c0) ∧ X.drew.cell? ⟨w2.heap.size + 1, 0, none⟩ = some (.bool n2) ∧ X.drew.cell? ⟨w2.heap.size + 1, 1, none⟩ = some (.slice a2 m2 c2) ∧ RooL w w2 W2 n0 a0 m0 c0 n1 a1 m1 c1 n2 a2 m2 c2 X.drew := rool_of ⟨h.s.drew, h.more.drew⟩
theorem rool_set (h : RooL w w2 W2 n0 a0 m0 c0 n1 a1 m1 c1 n2 a2 m2 c2 X) {B : Nat} (hl : w2.heap.size + 1 < W2.heap.size) (hB : W2.heap.size ≤ B) (x y : Value) : RooL w w2 W2 n0 a0 m0 c0 n1 a1 m1 c1 n2 a2 m2 c2 ((X.setCell ⟨B, 0, none⟩ x).setCell ⟨B, 1, none⟩ y) := by
  have hlt := h.s.lt
  exact ⟨⟨(h.s.ra.other (show w.heap.size ≠ B by omega) _).other (show w.heap.size ≠ B by omega) _, (h.s.rr.other (show w.heap.size + 1 ≠ B by omega) _).other (show w.heap.size + 1 ≠ B by omega) _, (h.s.rs.other (show w2.heap.size ≠ B by omega) _).other (show w2.heap.size ≠ B by omega) _, (h.s.ro.other (show w2.heap.size + 1 ≠ B by omega) _).other (show w2.heap.size + 1 ≠ B by omega) _, (h.s.below.setCell (show w.heap.size ≤ B by omega) _).setCell (show w.heap.size ≤ B by omega) _, hlt⟩, (h.more.setCell hB _).setCell hB _⟩
end

set_option maxHeartbeats 4000000 in
set_option maxRecDepth 100000 in
set_option exponentiation.threshold 100000 in
theorem rroot_run (v : Value) (neg : Bool) (xs : List Nat) (n : Nat) (w : World) (h : IntAt w v neg xs) (hf : formedB neg xs = true) (h1 : 1 ≤ n) (hn : n ≤ 100) (hpar : neg = true → n % 2 = 1) :
    Calls Tryd.prog 40 #[v, .int .i64 (n : Int)] w fun e w' => Below w.heap.size w w' ∧ ∃ n5 a5 m5 c5 k, e = .returned (.agg #[.bool n5, .slice a5 m5 c5, .int .i64 k]) ∧ k = 0 ∧ ∃ r, IsInt w' (.agg #[.bool n5, .slice a5 m5 c5]) r ∧ RootVal (sgn neg (val xs)) n r := by
  have KF := fun X (hX : Below w.heap.size w X) => rformed_any v neg xs X (h.below hX)
  rw [hf] at KF
  have ha := h.isInt hf
  have hi := h.natAbs_lt hf
  have KI := fun X (hX : Below w.heap.size w X) => h.below hX
  obtain ⟨va, rfl, hr, hl⟩ := h
  obtain ⟨a0, c0, rfl, hc, hm⟩ := hr.form
  obtain ⟨hk, hx⟩ := formedB_bounds hl hf
  have KD := fun X (hX : Below w.heap.size w X) => digits_any _ neg xs X (KI X hX) hk (by omega)
  have KM := fun X (hX : Below w.heap.size w X) => made_any false (.slice a0 xs.length c0) xs X (hr.below hX) hl (by omega)
  rw [show sgn false (val xs) = ((val xs : Nat) : Int) from rfl] at KM
  have KL := fun X q ps (hX : Below w.heap.size w X) (hp : Reads .u32 X q ps) (hkp : Canon ps) (hlp : ps.length ≤ 1000000) => larger_any q (.slice a0 xs.length c0) ps xs X hp (hr.below hX) hkp hk hlp
  have hneg : neg = true ↔ sgn neg (val xs) < 0 := by
    cases neg with
    | false => simp [sgn]
    | true =>
      have h3 : xs.length ≠ 0 := by
        intro h0
        simp [formedB, h0] at hf
      have := (canon_pos_iff hk).2 (by omega)
      simp [sgn]
      omega
  have hbit : val xs < 2 ^ bitsOf xs ∧ bitsOf xs ≤ 9600 := by
    by_cases h0 : xs = []
    · subst h0; decide +kernel
    · obtain ⟨h4, h2, h3⟩ := bitsOf_bounds hk h0
      refine ⟨h3, ?_⟩
      have h5 := (canon_length_iff hk 300).1 hx
      have h6 := Nat.lt_of_le_of_lt h2 h5
      rw [B32_pow] at h6
      have := (Nat.pow_lt_pow_iff_right (show 1 < 2 by decide)).1 h6
      omega
  have hst := root_begin hbit.1 h1
  have hD := hbit.2
  have hA : (sgn neg (val xs)).natAbs = val xs := sgn_natAbs _ _
  rw [hA] at hi
  generalize bitsOf xs = D at *
  generalize hsi : sgn neg (val xs) = i at *
  generalize hvx : val xs = A at *
  obtain ⟨q, hq⟩ : ∃ q, D / n = q := ⟨_, rfl⟩
  rw [hq] at hst
  have hqi : (D : Int) / (n : Int) = (q : Int) := by rw [← hq]; exact (Int.natCast_ediv D n).symm
  have hqb : q ≤ 9600 := by rw [← hq]; exact Nat.le_trans (Nat.div_le_self _ _) hD
  have b1 := (Below.refl w.heap.size w).alloc (Nat.le_refl _) (.cells #[.bool neg, .slice a0 xs.length c0] 24)
  have b2 := b1.alloc b1.size (.cells #[.bool false, .slice none 0 0, .int .i64 0] 43)
  have q1 := (RowAt.new w 24 [.bool neg, .slice a0 xs.length c0]).alloc (.cells #[.bool false, .slice none 0 0, .int .i64 0] 43)
  have q2 := RowAt.new (w.alloc (.cells #[.bool neg, .slice a0 xs.length c0] 24)) 43 [.bool false, .slice none 0 0, .int .i64 0]
  simp only [World.size_alloc] at q2
  have p1 : decide ((n : Int) < 1) = false := decide_eq_false (by omega)
  have p2 : decide (100 < (n : Int)) = false := decide_eq_false (by omega)
  have p3 : decide (100 < n) = false := decide_eq_false (by omega)
  have HB := Lib.hid (And.intro hst (And.intro hi (And.intro hneg (And.intro hA (And.intro hq hD)))))
  have HP := Lib.hid hpar
  clear hst hi hneg hA hbit hq hD hpar hf hl hk hr hc hm b1
  go_enter Tryd.func40, Tryd.ntmps40
  go_upto_region 3 with (go_at_call 19; refine (KF _ b2).mono ?_; rintro e w1 ⟨hb1, rfl⟩)
  replace b2 := b2.trans (hb1.mono b2.size)
  replace q1 := q1.below hb1
  replace q2 := q2.below hb1
  clear hb1 KF p1 p2 p3
  have g0 := q1.cell 0
  have g1 := q1.cell 1
  simp only [List.getElem?_cons_zero, List.getElem?_cons_succ] at g0 g1
  go_cut [30] from 24 to 30 (fun v W => v = .bool false ∧ w1 = W)
  case first =>
    cases neg with
    | false =>
      go_wp2
      go_meet
      exact ⟨rfl, rfl⟩
    | true =>
      have h3 : ((n : Int).tmod 2 == 0) = false := by
        have := HP.out rfl
        rw [Int.tmod_eq_emod_of_nonneg (by omega)]
        simp
        omega
      have h4 : ((n : Int) % 2 == 0) = false := by
        have := HP.out rfl
        simp
        omega
      go_wp2
      go_meet
      exact ⟨rfl, rfl⟩
  case rest =>
  obtain ⟨rfl, rfl⟩ := hcut
  go_upto_region 7 with (go_at_call 65; with_reducible refine (KM _ b2).mono ?_; rintro e w2 ⟨hb2, v2, rfl, hI⟩; obtain ⟨n1, a1, m1, c1, rfl⟩ := hI.shape)
  have hal1 := (Below.refl w2.heap.size w2).alloc (Nat.le_refl _) (.cells #[.bool n1, .slice a1 m1 c1] 24)
  have hal := hal1.alloc hal1.size (.cells #[.bool false, .slice none 0 0] 24)
  have q3 := (RowAt.new w2 24 [.bool n1, .slice a1 m1 c1]).alloc (.cells #[.bool false, .slice none 0 0] 24)
  have q4 := RowAt.new (w2.alloc (.cells #[.bool n1, .slice a1 m1 c1] 24)) 24 [.bool false, .slice none 0 0]
  simp only [World.size_alloc] at q4
  have hg := hb2.trans (hal.mono hb2.size)
  have b3 := b2.trans (hg.mono b2.size)
  have hS : RooS w w2 neg a0 xs.length c0 n1 a1 m1 c1 false none 0 0 ((w2.alloc (.cells #[.bool n1, .slice a1 m1 c1] 24)).alloc (.cells #[.bool false, .slice none 0 0] 24)) := ⟨q1.below hg, q2.below hg, q3, q4, b3, Nat.lt_of_lt_of_le q2.lt hb2.size⟩
  have hI3 := hI.below hal
  have ha3 := ha.below b3
  clear hal1 hal q3 q4 hg hb2 q1 q2 b2 hI g0 g1 KM
  generalize (w2.alloc (.cells #[.bool n1, .slice a1 m1 c1] 24)).alloc (.cells #[.bool false, .slice none 0 0] 24) = W3 at *
  have hz3 : IsInt W3 (.agg #[.bool false, .slice none 0 0]) ((0 : Nat) : Int) := ⟨false, _, [], rfl, Reads.nil _ _, canon_nil, rfl, by simp [sgn, val]⟩
  have d1 := hS.ra.cell 0
  have d2 := hS.ra.cell 1
  simp only [List.getElem?_cons_zero, List.getElem?_cons_succ] at d1 d2
  have kD := KD W3 b3
  have HS := Lib.hid (And.intro hS (And.intro hI3 (And.intro ha3 hz3)))
  clear hS hI3 ha3 hz3 b3 KD KI
  have e1 : ((n : Int) == 0) = false := by simp; omega
  have e2 : ¬ (n : Int) = 0 := by omega
  go_upto_region 8 with (go_at_call 56; with_reducible refine kD.mono ?_; rintro e w4 ⟨hb4, rfl⟩)
  clear hqi e1 e2 d1 d2 kD
  have hst : RooR w w2 neg a0 xs.length c0 n1 a1 m1 c1 i n (.int .i64 ((q : Int) + 1)) w4 := by
    obtain ⟨hS, hI3, ha3, hz3⟩ := HS.out
    obtain ⟨hs, hi, hneg, hA, -⟩ := HB.out
    exact ⟨q + 2, false, none, 0, 0, 0, by omega, by rw [show ((q + 2 : Nat) : Int) - 1 = (q : Int) + 1 by omega], hS.step hb4, hz3.below hb4, by rw [hA]; exact hI3.below hb4, ha3.below hb4, by rw [hA]; exact hs.1, by rw [hA]; exact hs.2⟩
  have HT := Lib.hid hst
  clear hst HS hb4 hqb ha
  go_loopw [7] (fun v W => RooR w w2 neg a0 xs.length c0 n1 a1 m1 c1 i n v W) (fun v _ => (intOf v + 1).toNat)
  case atStart => exact HT.out
  case round =>
    clear HT
    obtain ⟨m, n2, a2, m2, c2, r, hm, rfl, hS, hx2, hy, hz, hle, hlt⟩ := hrel
    have d1 := hS.ra.cell 0
    have d2 := hS.ra.cell 1
    have d3 := hS.ro.cell 0
    have d4 := hS.ro.cell 1
    have d5 := hS.rs.cell 0
    have d6 := hS.rs.cell 1
    simp only [List.getElem?_cons_zero, List.getElem?_cons_succ] at d1 d2 d3 d4 d5 d6
    have hrA : r ≤ i.natAbs := by
      rcases Nat.eq_zero_or_pos r with h0 | h0
      · omega
      · refine Nat.le_trans ?_ hle
        have := Nat.pow_le_pow_right h0 h1
        rwa [Nat.pow_one] at this
    cases m with
    | zero =>
      have hiR : IsRoot i.natAbs n r := ⟨hle, by rwa [Nat.pow_zero] at hlt⟩
      have hb300 : r < B32 ^ 300 := by have h3 := HB.out.2.1; have h4 := HB.out.2.2.2.1; rw [h4] at hrA; exact Nat.lt_of_le_of_lt hrA h3
      rw [show (((0 : Nat) : Int) - 1) = -1 from rfl]
      have hL0 : RooL w w2 wr neg a0 xs.length c0 n1 a1 m1 c1 n2 a2 m2 c2 wr := ⟨hS, Below.refl _ _⟩
      have kP := fun X (hX : RooL w w2 wr neg a0 xs.length c0 n1 a1 m1 c1 n2 a2 m2 c2 X) => rpower_int _ (r : Int) n 300 X (hx2.below hX.more) (by rw [Int.natAbs_natCast]; exact hb300) hn (by omega) (by decide)
      have HR := Lib.hid (And.intro hiR (And.intro hb300 (And.intro hrA hy)))
      clear hiR hb300 hrA hle hlt hm hy d5 d6
      go_upto_if 68 with (fail)
      go_cut [11] from 69 to 83 (fun _ W => ∃ n6 a6 m6 c6 R, RooS w w2 neg a0 xs.length c0 n1 a1 m1 c1 n6 a6 m6 c6 W ∧ IsInt W (.agg #[.bool n6, .slice a6 m6 c6]) R ∧ RootVal i n R ∧ R.natAbs ≤ A)
      case first =>
        cases neg with
        | false =>
          clear kP
          go_wp2
          go_meet
          have hn0 : ¬ i < 0 := fun h => by have := HB.out.2.2.1.2 h; cases this
          exact ⟨n2, a2, m2, c2, (r : Int), hS, hx2, ⟨r, HR.out.1, by rw [if_neg hn0]⟩, by rw [Int.natAbs_natCast, ← HB.out.2.2.2.1]; exact HR.out.2.2.1⟩
        | true =>
          have hD := Lib.hid (rool_drew hL0)
          have kB := fun X q ps (hX : RooL w w2 wr true a0 xs.length c0 n1 a1 m1 c1 n2 a2 m2 c2 X) (hp : Reads .u32 X q ps) (hkp : Canon ps) (hlp : ps.length ≤ 1000000) => KL X q ps hX.s.below hp hkp hlp
          go_upto_region 17 with (fail)
          have hfd := field_abs
          have klen : ∀ ps, Canon ps → val ps = ((r : Int) ^ n).natAbs → ps.length ≤ 1000000 := fun ps hk hv => by
            have h3 : val ps < B32 ^ 300 := by
              rw [hv, Int.natAbs_pow, Int.natAbs_natCast]
              exact Nat.lt_of_le_of_lt HR.out.1.1 (by rw [HB.out.2.2.2.1]; exact HB.out.2.1)
            exact Nat.le_trans (canon_length_le hk h3) (by decide)
          go_cut [11] from 69 to 76 (fun v W => v = .bool (decide (r ^ n = A)) ∧ RooL w w2 wr true a0 xs.length c0 n1 a1 m1 c1 n2 a2 m2 c2 W)
          case first =>
            go_wp2_with fail
            go_region_held3 (fun X => X.cell? ⟨w.heap.size, 1, none⟩ = some (.slice a0 xs.length c0) ∧ X.cell? ⟨w2.heap.size + 1, 0, none⟩ = some (.bool n2) ∧ X.cell? ⟨w2.heap.size + 1, 1, none⟩ = some (.slice a2 m2 c2) ∧ RooL w w2 wr true a0 xs.length c0 n1 a1 m1 c1 n2 a2 m2 c2 X)
              (first | exact hD.out | (go_split_ands; exact rool_of (rool_step (by assumption) hbc)))
              (first
                | (go_at_call 81; go_split_ands; with_reducible refine (kP _ (by assumption)).mono ?_; rintro e wk ⟨hbc, v5, rfl, hI⟩; obtain ⟨n5, a5, m5, c5, rfl⟩ := hI.shape; obtain ⟨ps, hps, hkps, hvps⟩ := isInt_list hI)
                | (go_at_call 54; go_split_ands; with_reducible refine (kB _ _ _ (by assumption) hps hkps (klen _ hkps hvps)).mono ?_; rintro e wk ⟨hbc, rfl⟩))
            rename_i hX
            obtain ⟨-, -, -, O1⟩ := hX
            go_wp2
            go_meet
            exact ⟨by rw [cmpI_zero], O1⟩
          case rest =>
            obtain ⟨rfl, hL1⟩ := hcut
            clear kB hfd klen hD kP hL0
            generalize wc = W5 at *
            have hS5 := hL1.s
            have hx5 := hx2.below hL1.more
            clear hL1 hx2 hS d1 d2 d3 d4 hz
            obtain ⟨t, ht⟩ : ∃ t, decide (r ^ n = A) = t := ⟨_, rfl⟩
            rw [ht]
            have HT := Lib.hid ht
            clear ht
            go_upto_if 78 with (fail)
            go_cut [] from 79 to 81 (fun W => ∃ n6 a6 m6 c6, RooS w w2 true a0 xs.length c0 n1 a1 m1 c1 n6 a6 m6 c6 W ∧ IsInt W (.agg #[.bool n6, .slice a6 m6 c6]) ((if t = true then r else r + 1 : Nat) : Int))
            case first =>
              cases t with
              | true =>
                go_wp2
                go_meet
                exact ⟨n2, a2, m2, c2, hS5, hx5⟩
              | false =>
                have kO := fun X => rof_int 1 X (by decide) (by decide)
                have kS := fun X v v' (hv : IsInt X v (r : Int)) (hv' : IsInt X v' 1) => rsum_int v v' (r : Int) 1 301 X hv hv' (by decide) (by rw [Int.natAbs_natCast]; exact Nat.lt_of_lt_of_le HR.out.2.1 (Nat.pow_le_pow_right B32_pos (by decide))) (Nat.one_lt_pow (by decide) (by decide))
                have hbd : Below W5.heap.size W5 W5.drew := (Below.refl _ _).drew
                replace hS5 := hS5.step hbd
                replace hx5 := hx5.below hbd
                clear hbd
                have z1 := hS5.ro.cell 0
                have z2 := hS5.ro.cell 1
                have z3 := hS5.ro.frozen 0
                have z4 := hS5.ro.frozen 1
                simp only [List.getElem?_cons_zero, List.getElem?_cons_succ] at z1 z2
                go_wp2_with fail
                go_region_with
                  (first
                    | (go_at_call 27; with_reducible refine (kO _).mono ?_; rintro e wk ⟨hbc, vO, rfl, hIO⟩; replace hS5 := hS5.step hbc; clear z1 z2 z3 z4; have z1 := hS5.ro.cell 0; have z2 := hS5.ro.cell 1; have z3 := hS5.ro.frozen 0; have z4 := hS5.ro.frozen 1; simp only [List.getElem?_cons_zero, List.getElem?_cons_succ] at z1 z2; replace hx5 := hx5.below hbc)
                    | (go_at_call 44; with_reducible refine (kS _ _ _ hx5 hIO).mono ?_; rintro e wk ⟨hbc, vS, rfl, hIS⟩; obtain ⟨n9, a9, m9, c9, rfl⟩ := hIS.shape; replace hS5 := hS5.step hbc; clear z1 z2 z3 z4; have z1 := hS5.ro.cell 0; have z2 := hS5.ro.cell 1; have z3 := hS5.ro.frozen 0; have z4 := hS5.ro.frozen 1; simp only [List.getElem?_cons_zero, List.getElem?_cons_succ] at z1 z2))
                all_goals
                  go_wp2
                  go_meet
                  exact ⟨n9, a9, m9, c9, hS5.set n9 a9 m9 c9, hIS.keep fun _ _ hv => two_kept hv z1 z2 _ _⟩
            case rest =>
              clear hS5 hx5
              obtain ⟨n6, a6, m6, c6, hS6, hx6⟩ := hcut
              generalize wc = W6 at *
              have kM := rminus_int _ _ W6 hx6
              have z1 := hS6.ro.cell 0
              have z2 := hS6.ro.cell 1
              simp only [List.getElem?_cons_zero, List.getElem?_cons_succ] at z1 z2
              go_wp2_with (go_at_call 52; with_reducible refine kM.mono ?_; rintro e wk ⟨hbc, vM, rfl, hIM⟩; obtain ⟨n9, a9, m9, c9, rfl⟩ := hIM.shape; have hS7 := hS6.step hbc; have y1 := hS7.ro.cell 0; have y2 := hS7.ro.cell 1; have y3 := hS7.ro.frozen 0; have y4 := hS7.ro.frozen 1; simp only [List.getElem?_cons_zero, List.getElem?_cons_succ] at y1 y2)
              go_meet
              obtain ⟨hiR, -, hrA, -⟩ := HR.out
              obtain ⟨-, -, hng, hA, -⟩ := HB.out
              rw [hA] at hrA
              have hi0 : i < 0 := hng.1 (by simp)
              have hle : (if t = true then r else r + 1) ≤ A := by
                cases t with
                | true => exact hrA
                | false =>
                  show r + 1 ≤ A
                  have h3 : ¬ r ^ n = A := of_decide_eq_false HT.out
                  have h4 := hiR.1
                  rw [hA] at h4
                  rcases Nat.eq_zero_or_pos r with h5 | h5
                  · omega
                  · have h6 := Nat.pow_le_pow_right h5 h1
                    rw [Nat.pow_one] at h6
                    omega
              refine ⟨n9, a9, m9, c9, -((if t = true then r else r + 1 : Nat) : Int), hS7.set n9 a9 m9 c9, hIM.keep fun _ _ hv => two_kept hv y1 y2 _ _, ⟨r, hiR, ?_⟩, by rw [Int.natAbs_neg, Int.natAbs_natCast]; exact hle⟩
              rw [if_pos hi0, hA]
              cases t with
              | true => rw [if_pos (of_decide_eq_true HT.out)]; rfl
              | false => rw [if_neg (of_decide_eq_false HT.out)]; simp
      case rest =>
        clear kP HR hS hx2 hz d1 d2 d3 d4 hL0
        obtain ⟨n6, a6, m6, c6, R, hS6, hx6, hRV, hRA⟩ := hcut
        generalize wc = W6 at *
        have kF := fit_any _ R W6 hx6
        have z1 := hS6.ro.cell 0
        have z2 := hS6.ro.cell 1
        simp only [List.getElem?_cons_zero, List.getElem?_cons_succ] at z1 z2
        have HR := Lib.hid (And.intro hRV hRA)
        clear hRV hRA
        go_wp2_with (go_at_call 71; with_reducible refine kF.mono ?_; rintro e wk ⟨hbc, n9, a9, m9, c9, k9, rfl, h40⟩; have hS7 := hS6.step hbc; have y1 := hS7.rr.cell 0; have y2 := hS7.rr.cell 1; have y3 := hS7.rr.cell 2; have y4 := hS7.rr.frozen 0; have y5 := hS7.rr.frozen 1; have y6 := hS7.rr.frozen 2; simp only [List.getElem?_cons_zero, List.getElem?_cons_succ] at y1 y2 y3)
        have q5 := ((hS7.rr.set 0 (.bool n9)).set 1 (.slice a9 m9 c9)).set 2 (.int .i64 k9)
        have u1 := q5.cell 0
        have u2 := q5.cell 1
        have u3 := q5.cell 2
        simp only [List.set_cons_zero, List.set_cons_succ, List.getElem?_cons_zero, List.getElem?_cons_succ] at u1 u2 u3
        have hb9 := hS7.below
        refine bodyPost_ret (v := .agg #[.bool n9, .slice a9 m9 c9, .int .i64 k9]) (by simp [results, Tryd.results40, go_sem, loadCellsFrom, u1, u2, u3]) rfl ⟨((hb9.setCell (show w.heap.size ≤ w.heap.size + 1 by omega) _).setCell (show w.heap.size ≤ w.heap.size + 1 by omega) _).setCell (show w.heap.size ≤ w.heap.size + 1 by omega) _, n9, a9, m9, c9, k9, rfl, ?_⟩
        unfold RingRes at h40
        rw [if_pos (by rfl), if_pos (Nat.lt_of_le_of_lt HR.out.2 HB.out.2.1)] at h40
        exact ⟨h40.1, R, h40.2.keep (row3_keep hS7.rr _ _ _), HR.out.1⟩
    | succ k =>
      have HL := Lib.hid (And.intro hle (And.intro hlt hrA))
      clear hle hlt hrA
      have hkk : ((k + 1 : Nat) : Int) - 1 = (k : Int) := by omega
      rw [hkk]
      clear hkk
      obtain ⟨hbl, hbv⟩ := bit_list k
      obtain ⟨L, hL⟩ : ∃ L, k / 32 = L := ⟨_, rfl⟩
      obtain ⟨s, hs⟩ : ∃ s, k % 32 = s := ⟨_, rfl⟩
      obtain ⟨M, hM⟩ : ∃ M, L + 1 = M := ⟨_, rfl⟩
      have hs32 : s < 32 := by omega
      have hMb : M ≤ 1000 := by omega
      have t1 : (k : Int) / 32 = (L : Int) := by omega
      have t2 : (k : Int) % 32 = (s : Int) := by omega
      have t3 : (L : Int) + 1 = (M : Int) := by omega
      have hLM : L < M := by omega
      have hmk : ∀ W, (Instr.makeSlice 22 (.int .i64 (M : Int)) (.int .i64 (M : Int))).run Tryd.prog W = .ok (.slice (some ⟨W.heap.size, 0, none⟩) M M) (W.alloc (.cells (zeros M) 72)) := fun W => by
        simpa using make_limbs (M : Int) (M : Int) (by omega) (by omega) (by omega) W
      rw [hL, hs, hM] at hbl hbv
      have hP2 := pow_cast s
      have hPl : 2 ^ s < 2 ^ 32 := Nat.pow_lt_pow_right (by decide) hs32
      have hK : 2 ^ k < B32 ^ 310 := by rw [B32_pow]; exact Nat.pow_lt_pow_right (by decide) (by omega)
      obtain ⟨P, hP⟩ : ∃ P, 2 ^ s = P := ⟨_, rfl⟩
      rw [hP] at hbl hbv hP2 hPl
      obtain ⟨Q, hQ⟩ : ∃ Q, 2 ^ k = Q := ⟨_, rfl⟩
      rw [hQ] at hbv hK
      have hQ2 : 2 ^ (k + 1) = Q + Q := by rw [Nat.pow_succ, hQ]; omega
      have t8 : (P : Int) % 4294967296 = (P : Int) := by omega
      have HN := Lib.hid (And.intro hm (And.intro hQ hQ2))
      have o1 : L < (List.replicate M 0).length := by simp; exact hLM
      have o2 : M ≤ maxLen := by unfold maxLen; omega
      clear hm hL hs hP hQ hQ2 hM
      go_upto_region 11 with (fail)
      have hR1 : RowAt (wr.alloc (.cells (zeros M) 72)) wr.heap.size 72 (enc32 (List.replicate M 0)) := by
        have e : (enc32 (List.replicate M 0)).toArray = zeros M := by simp [enc32, zeros]
        have := RowAt.new wr 72 (enc32 (List.replicate M 0))
        rw [e] at this
        exact this
      have hal := (Below.refl wr.heap.size wr).alloc (Nat.le_refl _) (.cells (zeros M) 72)
      generalize wr.alloc (.cells (zeros M) 72) = W1 at *
      have ir := fun W => index_win wr.heap.size 0 M M L hLM .i64 W
      simp only [Nat.zero_add] at ir
      have hcell : W1.cell? ⟨wr.heap.size, L, none⟩ = some (.int .u32 0) := by rw [hR1.cell, enc32_at o1]; simp [hLM]
      have hfz := hR1.frozen L
      have hal2 := hal.setCell (p := ⟨wr.heap.size, L, none⟩) (Nat.le_refl _) (.int .u32 (P : Int))
      have hR2 := hR1.set L (.int .u32 (P : Int))
      rw [← enc32_set] at hR2
      clear hal hR1
      have HR := Lib.hid (And.intro hR2 (And.intro hal2 (And.intro hbl (And.intro hbv (And.intro hK (And.intro hS (And.intro hx2 (And.intro hy (And.intro hz o2)))))))))
      clear hR2 hal2 hbl hbv hK hS hx2 hy hz hmk t3 o1 o2 d1 d2 d3 d4 d5 d6
      go_upto_region 12 with (fail)
      obtain ⟨hR2, hal2, hbl, hbv, hK, hS, hx2, hy, hz, o2⟩ := HR.out
      clear HR
      have hone : Reads .u32 (W1.setCell ⟨wr.heap.size, L, none⟩ (.int .u32 (P : Int))) (.slice (some ⟨wr.heap.size, 0, none⟩) M M) ((List.replicate M 0).set L P) := RowAt.reads hR2 M M (by simp) (Nat.le_refl _) o2
      clear hcell hfz hR2 ir t1 t2 t8 hPl hP2 hLM
      generalize W1.setCell ⟨wr.heap.size, L, none⟩ (.int .u32 (P : Int)) = W2 at *
      have hL2 : RooL w w2 W2 neg a0 xs.length c0 n1 a1 m1 c1 n2 a2 m2 c2 W2 := ⟨hS.step hal2, Below.refl _ _⟩
      have hx3 := hx2.below hal2
      have hy3 := hy.below hal2
      have hz3 := hz.below hal2
      have hl := Lib.hid (show w2.heap.size + 1 < W2.heap.size from hL2.s.ro.lt)
      clear hal2 hS hx2 hy hz
      generalize wr.heap.size = b at *
      have e0 : sgn false (val ((List.replicate M 0).set L P)) = (Q : Int) := by rw [hbv]; rfl
      have kM := fun X (hX : RooL w w2 W2 neg a0 xs.length c0 n1 a1 m1 c1 n2 a2 m2 c2 X) => made_any false _ _ X (hone.below hX.more) hbl (by simp; omega)
      rw [e0] at kM
      have hrb : r < B32 ^ 300 := by have h3 := HB.out.2.1; have h4 := HB.out.2.2.2.1; have h5 := HL.out.2.2; rw [h4] at h5; exact Nat.lt_of_le_of_lt h5 h3
      have kS := fun X v (hX : RooL w w2 W2 neg a0 xs.length c0 n1 a1 m1 c1 n2 a2 m2 c2 X) (hv : IsInt X v (Q : Int)) => rsum_int _ v (r : Int) (Q : Int) 310 X (hx3.below hX.more) hv (by decide) (by rw [Int.natAbs_natCast]; exact Nat.lt_of_lt_of_le hrb (Nat.pow_le_pow_right B32_pos (by decide))) (by rw [Int.natAbs_natCast]; exact hK)
      have hRb : r + Q < B32 ^ 311 := by
        have h3 : B32 ^ 300 ≤ B32 ^ 310 := Nat.pow_le_pow_right B32_pos (by decide)
        have h4 : B32 ^ 311 = B32 ^ 310 * 4294967296 := by rw [Nat.pow_succ]; rfl
        generalize B32 ^ 310 = Y at *
        generalize B32 ^ 300 = Z at *
        omega
      have hD := Lib.hid (rool_drew hL2)
      have hsz0 : W2.heap.size ≤ W2.drew.heap.size := Nat.le_refl _
      obtain ⟨-, d3, d4, -⟩ := rool_of hL2
      clear hone hbl hbv e0 hrb hK
      go_cut [9] from 56 to 59 (fun v W => BoxI W v ((r : Int) + (Q : Int)) ∧ RooL w w2 W2 neg a0 xs.length c0 n1 a1 m1 c1 n2 a2 m2 c2 W)
      case first =>
        go_region_held3 (fun X => X.cell? ⟨w.heap.size, 1, none⟩ = some (.slice a0 xs.length c0) ∧ X.cell? ⟨w2.heap.size + 1, 0, none⟩ = some (.bool n2) ∧ X.cell? ⟨w2.heap.size + 1, 1, none⟩ = some (.slice a2 m2 c2) ∧ RooL w w2 W2 neg a0 xs.length c0 n1 a1 m1 c1 n2 a2 m2 c2 X)
          (first | exact hD.out | (go_split_ands; exact rool_of (rool_step (by assumption) hbc)) | (go_split_ands; exact rool_of (rool_step (by assumption) ((Below.refl _ _).alloc (Nat.le_refl _) _))) | (go_split_ands; exact rool_of (rool_set (by assumption) hl.out hzB _ _)))
          (first
            | (go_at_call 65; go_split_ands; with_reducible refine (kM _ (by assumption)).mono ?_; rintro e wk ⟨hbc, vO, rfl, hIO⟩; have hsz := Nat.le_trans (RooL.more (by assumption)).size hbc.size; first | (with_reducible have hq := new_row (w1 := W2) (vals := [.bool false, .slice none 0 0]) (by first | assumption | exact Nat.le_refl _) hbc; obtain ⟨hzB, hz⟩ := hq) | (with_reducible have hq := new_rowd (w1 := W2) (vals := [.bool false, .slice none 0 0]) (Nat.le_refl _) hbc; obtain ⟨hzB, hz⟩ := hq) | skip)
            | (go_at_call 44; go_split_ands; (first | with_reducible refine (kS _ _ (by assumption) hIO).mono ?_ | with_reducible refine (kS _ _ (by assumption) (hIO.below ((Below.refl _ _).alloc (Nat.le_refl _) _))).mono ?_); rintro e wk ⟨hbc, vS, rfl, hIS⟩; obtain ⟨n99, a99, m99, c99, rfl⟩ := hIS.shape; have hL9 := rool_step (by assumption) hbc; have hsz := Nat.le_trans (RooL.more (by assumption)).size hbc.size; first | (replace hz := hz.below hbc; have z1 := hz.cell 0; have z2 := hz.cell 1; have z3 := hz.frozen 0; have z4 := hz.frozen 1; simp only [List.getElem?_cons_zero, List.getElem?_cons_succ] at z1 z2) | (with_reducible have hq := new_row (w1 := W2) (vals := [.bool false, .slice none 0 0]) (by first | assumption | exact Nat.le_refl _) hbc; obtain ⟨hzB, hz⟩ := hq; have z1 := hz.cell 0; have z2 := hz.cell 1; have z3 := hz.frozen 0; have z4 := hz.frozen 1; simp only [List.getElem?_cons_zero, List.getElem?_cons_succ] at z1 z2) | skip))
        all_goals
          rename_i hX
          obtain ⟨-, -, -, O1⟩ := hX
          go_wp2
          go_meet
          first
            | exact ⟨boxI_set hz hIS, O1⟩
            | exact ⟨BoxI.new hIS, O1⟩
      case rest =>
        obtain ⟨⟨b9, n9, a9, m9, c9, rfl, r9, i9⟩, hL4⟩ := hcut
        generalize wc = W4 at *
        have hx4 := hx3.below hL4.more
        have hy4 := hy3.below hL4.more
        have hz4 := hz3.below hL4.more
        rw [← Int.natCast_add] at i9
        have kA := rabove_int (.agg #[.bool n9, .slice a9 m9 c9]) (.agg #[.bool n1, .slice a1 m1 c1]) (r + Q) i.natAbs n 311 W4 i9 hy4 hRb h1 hn (by omega) (by decide)
        obtain ⟨t, ht⟩ : ∃ t, decide (i.natAbs < (r + Q) ^ n) = t := ⟨_, rfl⟩
        rw [ht] at kA
        have g1 := r9.cell 0
        have g2 := r9.cell 1
        have g3 := hL4.s.rs.cell 0
        have g4 := hL4.s.rs.cell 1
        simp only [List.getElem?_cons_zero, List.getElem?_cons_succ] at g1 g2 g3 g4
        have hw := Lib.hid (small_pred k (Nat.le_trans (Nat.le_of_succ_le HN.out.1) (by decide)))
        clear d3 d4 hD hsz0 kM kS hl hx3 hy3 hz3 hL2 hRb
        cases t with
        | true =>
          have HT := Lib.hid ht
          clear ht
          go_wp2_with (go_at_call 80; with_reducible refine kA.mono ?_; rintro e w6 ⟨hb6, rfl⟩)
          go_roundw
          case rel =>
            obtain ⟨hm, hQ, hQ2⟩ := HN.out
            obtain ⟨hle, hlt, -⟩ := HL.out
            rw [hw.out]
            exact ⟨k, n2, a2, m2, c2, r, Nat.le_of_succ_le hm, rfl, hL4.s.step hb6, hx4.below hb6, hy4.below hb6, hz4.below hb6, hle, by rw [hQ]; exact of_decide_eq_true HT.out⟩
          case measure =>
            rw [hw.out]
            simp only [intOf]
            omega
        | false =>
          have HT := Lib.hid ht
          clear ht
          go_wp2_with (go_at_call 80; with_reducible refine kA.mono ?_; rintro e w6 ⟨hb6, rfl⟩; have hS6 := hL4.s.step hb6; have r96 := r9.below hb6; have u1 := r96.cell 0; have u2 := r96.cell 1; have s1 := hS6.ro.cell 0; have s2 := hS6.ro.cell 1; have s3 := hS6.ro.frozen 0; have s4 := hS6.ro.frozen 1; simp only [List.getElem?_cons_zero, List.getElem?_cons_succ] at u1 u2 s1 s2)
          have hkp := fun v xs h => two_kept (v := v) (xs := xs) (b := w2.heap.size + 1) h s1 s2 (.bool n9) (.slice a9 m9 c9)
          go_roundw
          case rel =>
            obtain ⟨hm, hQ, hQ2⟩ := HN.out
            obtain ⟨hle, hlt, -⟩ := HL.out
            rw [hQ2] at hlt
            rw [hw.out]
            exact ⟨k, n9, a9, m9, c9, r + Q, Nat.le_of_succ_le hm, rfl, hS6.set n9 a9 m9 c9, (i9.below hb6).keep hkp, (hy4.below hb6).keep hkp, (hz4.below hb6).keep hkp, Nat.le_of_not_lt (of_decide_eq_false HT.out), by rw [hQ, Nat.add_assoc]; exact hlt⟩
          case measure =>
            rw [hw.out]
            simp only [intOf]
            omega
end Go.Proofs.YtlghjfpkfdnfoaaDoor
