/- num.floored over integers -/
import Derived.Test.YtlghjfpkfdnfoaaGreatDoorNumMFloored
namespace Go.Proofs.YtlghjfpkfdnfoaaGreatDoor
open Go Go.RowKit Go.Shelf

theorem fdiv_unique {i j q r : Int} (h : i = j * q + r) (hr : (0 ≤ r ∧ r < j) ∨ (j < r ∧ r ≤ 0)) : i.fdiv j = q ∧ i.fmod j = r := by
  have hq : i.fdiv j = q := by
    rcases hr with ⟨h1, h2⟩ | ⟨h1, h2⟩
    · rw [Int.fdiv_eq_ediv_of_nonneg _ (by omega)]
      exact ((Int.ediv_emod_unique (a := i) (b := j) (r := r) (q := q) (by omega)).2 ⟨by omega, h1, h2⟩).1
    · rw [← Int.neg_fdiv_neg, Int.fdiv_eq_ediv_of_nonneg _ (by omega)]
      exact ((Int.ediv_emod_unique (a := -i) (b := -j) (r := -r) (q := q) (by omega)).2 ⟨by rw [h, Int.neg_mul]; omega, by omega, by omega⟩).1
  refine ⟨hq, ?_⟩
  rw [Int.fmod_def, hq]; omega
theorem sgn_div_same (n : Bool) (A B : Nat) (hB : 0 < B) : (sgn n A).fdiv (sgn n B) = sgn false (A / B) ∧ (sgn n A).fmod (sgn n B) = sgn n (A % B) := by
  have h1 := Nat.div_add_mod A B
  have h2 := Nat.mod_lt A hB
  have h3 : (A : Int) = (B : Int) * ((A / B : Nat) : Int) + ((A % B : Nat) : Int) := by exact_mod_cast h1.symm
  generalize A / B = Q at *
  generalize A % B = R at *
  apply fdiv_unique
  · cases n <;> simp only [sgn, if_true, Bool.false_eq_true, if_false]
    · exact h3
    · rw [Int.neg_mul]; omega
  · cases n <;> simp only [sgn, if_true, Bool.false_eq_true, if_false]
    · left; omega
    · right; omega
theorem sgn_div_exact (n : Bool) (A B : Nat) (hB : 0 < B) (hz : A % B = 0) : (sgn n A).fdiv (sgn (!n) B) = sgn true (A / B) ∧ (sgn n A).fmod (sgn (!n) B) = 0 := by
  have h1 := Nat.div_add_mod A B
  have h3 : (A : Int) = (B : Int) * ((A / B : Nat) : Int) := by rw [hz] at h1; exact_mod_cast h1.symm
  generalize A / B = Q at *
  apply fdiv_unique
  · cases n <;> simp only [sgn, if_true, Bool.false_eq_true, if_false, Bool.not_true, Bool.not_false]
    · rw [Int.neg_mul_neg]; omega
    · rw [Int.mul_neg]; omega
  · cases n <;> simp only [sgn, if_true, Bool.false_eq_true, if_false, Bool.not_true, Bool.not_false]
    · right; omega
    · left; omega
theorem sgn_div_rest (n : Bool) (A B : Nat) (hB : 0 < B) (hz : A % B ≠ 0) : (sgn n A).fdiv (sgn (!n) B) = sgn true (A / B + 1) ∧ (sgn n A).fmod (sgn (!n) B) = sgn (!n) (B - A % B) := by
  have h1 := Nat.div_add_mod A B
  have h2 := Nat.mod_lt A hB
  have h3 : (A : Int) = (B : Int) * ((A / B : Nat) : Int) + ((A % B : Nat) : Int) := by exact_mod_cast h1.symm
  generalize A / B = Q at *
  generalize A % B = R at *
  have h4 : ((B - R : Nat) : Int) = B - R := by omega
  apply fdiv_unique
  · cases n <;> simp only [sgn, if_true, Bool.false_eq_true, if_false, Bool.not_true, Bool.not_false, h4, Int.natCast_add, Int.natCast_one]
    · rw [Int.neg_mul_neg, Int.mul_add]; omega
    · rw [Int.mul_neg, Int.mul_add]; omega
  · cases n <;> simp only [sgn, if_true, Bool.false_eq_true, if_false, Bool.not_true, Bool.not_false, h4]
    · right; omega
    · left; omega

theorem floored_any (a b : Value) (i j : Int) (w : World) (ha : IsInt w a i) (hb : IsInt w b j) (hi : i.natAbs < B32 ^ 90000) (hj : j.natAbs < B32 ^ 90000) (hj0 : j ≠ 0)
    (hdiv : ∀ va vb xa xb, Canon xa → Canon xb → val xa = i.natAbs → val xb = j.natAbs → Reads .u32 w va xa → Reads .u32 w vb xb → ∀ W, Below w.heap.size w W → Calls Tryz.prog 78 #[va, vb] W fun e W' => DivRes W W' xa xb e) :
    Calls Tryz.prog 46 #[a, b] w fun e w' => Below w.heap.size w w' ∧ ∃ q r, e = .returned (.tuple #[q, r]) ∧ IsInt w' q (i.fdiv j) ∧ IsInt w' r (i.fmod j) := by
  obtain ⟨na, va, xa, rfl, hra, hca, hna, rfl⟩ := ha
  obtain ⟨nb, vb, xb, rfl, hrb, hcb, hnb, rfl⟩ := hb
  rw [sgn_natAbs] at hi hj
  have la := canon_length_le hca hi
  have lb := canon_length_le hcb hj
  have hB : 0 < val xb := Nat.pos_of_ne_zero (fun e => hj0 (by rw [e]; cases nb <;> rfl))
  have hd := hdiv va vb xa xb hca hcb (sgn_natAbs _ _).symm (sgn_natAbs _ _).symm hra hrb
  by_cases hn : nb = na
  · subst hn
    obtain ⟨m1, m2⟩ := sgn_div_same nb (val xa) (val xb) hB
    refine (floored_same nb va vb xa xb w hra hrb hd).mono ?_
    rintro e w' ⟨hbe, q, r, cs, rs, rfl, h1, h2, h3, h4, h5, h6⟩
    exact ⟨hbe, _, _, rfl, ⟨false, q, cs, rfl, h1, h3, rfl, by rw [m1, h5]⟩, isInt_mk nb h2 h4 (by rw [m2, h6])⟩
  · obtain rfl : nb = !na := by cases na <;> cases nb <;> first | rfl | exact absurd rfl hn
    by_cases hz : val xa % val xb = 0
    · obtain ⟨m1, m2⟩ := sgn_div_exact na (val xa) (val xb) hB hz
      refine (floored_exact na va vb xa xb w hra hrb hz hd).mono ?_
      rintro e w' ⟨hbe, q, r, cs, rs, rfl, h1, h2, h3, h4, h5, h6⟩
      exact ⟨hbe, _, _, rfl, by simpa using isInt_mk true h1 h3 (i := _) (by rw [m1, h5]), isInt_mk (!na) h2 h4 (by rw [m2, h6, hz]; cases na <;> rfl)⟩
    · obtain ⟨m1, m2⟩ := sgn_div_rest na (val xa) (val xb) hB hz
      refine (floored_rest na va vb xa xb w hra hrb hca hcb la lb hB hz hd).mono ?_
      rintro e w' ⟨hbe, q, r, cs, rs, rfl, h1, h2, h3, h4, h5, h6⟩
      exact ⟨hbe, _, _, rfl, by simpa using isInt_mk true h1 h3 (i := _) (by rw [m1, h5]), isInt_mk (!na) h2 h4 (by rw [m2, h6])⟩

end Go.Proofs.YtlghjfpkfdnfoaaGreatDoor

/- num.Div -/
namespace Go.Proofs.YtlghjfpkfdnfoaaGreatDoor
open Go Go.RowKit Go.Shelf

set_option maxHeartbeats 1000000 in
set_option maxRecDepth 100000 in
theorem div1_no (B : Nat) (na nb : Bool) (aa ab : Option Addr) (ca cb : Nat) (xa xb : List Nat) (r0 : Bool) (r1 : Option Addr) (r2 r3 : Nat) (t0 : Bool) (t1 : Option Addr) (t2 t3 : Nat) (w : World) (hra : RowAt w B 24 [.bool na, .slice aa xa.length ca]) (hrb : RowAt w (B + 1) 24 [.bool nb, .slice ab xb.length cb])
    (_hQ : RowAt w (B + 2) 24 [.bool r0, .slice r1 r2 r3]) (_hR : RowAt w (B + 3) 24 [.bool t0, .slice t1 t2 t3]) (ha : Reads .u32 w (.slice aa xa.length ca) xa) (hla : Limbs xa) (fa : formedB na xa = false) :
    Calls Tryz.prog 44 #[.pointer (some ⟨B, 0, none⟩), .pointer (some ⟨B + 1, 0, none⟩), .pointer (some ⟨B + 2, 0, none⟩), .pointer (some ⟨B + 3, 0, none⟩)] w fun e w' => Below w.heap.size w w' ∧ e = .panicked [{ v := .iface 27 (.int .i64 1), recovered := false }] := by
  have a0 := hra.cell 0
  have a1 := hra.cell 1
  have b0 := hrb.cell 0
  have b1 := hrb.cell 1
  simp only [List.getElem?_cons_zero, List.getElem?_cons_succ] at a0 a1 b0 b1
  have r0' := RowAt.new w 24 [.bool na, .slice aa xa.length ca, .bool nb, .slice ab xb.length cb]
  have bw := (Below.refl w.heap.size w).alloc (Nat.le_refl _) (.cells #[.bool na, .slice aa xa.length ca, .bool nb, .slice ab xb.length cb] 24)
  go_enter Tryz.func44, Tryz.ntmps44
  go_wp2_with (go_at_call 24; refine (demand2_no _ na nb aa ab ca cb xa xb _ r0' (ha.below bw) hla fa).mono ?_; rintro e w1 ⟨hbe1, rfl⟩; have bw1 := bw.trans (hbe1.mono (by simp)))
  exact ⟨rfl, bw1, rfl⟩

set_option maxHeartbeats 1000000 in
set_option maxRecDepth 100000 in
theorem div1_okno (B : Nat) (na nb : Bool) (aa ab : Option Addr) (ca cb : Nat) (xa xb : List Nat) (r0 : Bool) (r1 : Option Addr) (r2 r3 : Nat) (t0 : Bool) (t1 : Option Addr) (t2 t3 : Nat) (w : World) (hra : RowAt w B 24 [.bool na, .slice aa xa.length ca]) (hrb : RowAt w (B + 1) 24 [.bool nb, .slice ab xb.length cb])
    (_hQ : RowAt w (B + 2) 24 [.bool r0, .slice r1 r2 r3]) (_hR : RowAt w (B + 3) 24 [.bool t0, .slice t1 t2 t3]) (ha : Reads .u32 w (.slice aa xa.length ca) xa) (hla : Limbs xa) (fa : formedB na xa = true) (hb : Reads .u32 w (.slice ab xb.length cb) xb) (hlb : Limbs xb) (fb : formedB nb xb = false) :
    Calls Tryz.prog 44 #[.pointer (some ⟨B, 0, none⟩), .pointer (some ⟨B + 1, 0, none⟩), .pointer (some ⟨B + 2, 0, none⟩), .pointer (some ⟨B + 3, 0, none⟩)] w fun e w' => Below w.heap.size w w' ∧ e = .panicked [{ v := .iface 27 (.int .i64 1), recovered := false }] := by
  have a0 := hra.cell 0
  have a1 := hra.cell 1
  have b0 := hrb.cell 0
  have b1 := hrb.cell 1
  simp only [List.getElem?_cons_zero, List.getElem?_cons_succ] at a0 a1 b0 b1
  have r0' := RowAt.new w 24 [.bool na, .slice aa xa.length ca, .bool nb, .slice ab xb.length cb]
  have bw := (Below.refl w.heap.size w).alloc (Nat.le_refl _) (.cells #[.bool na, .slice aa xa.length ca, .bool nb, .slice ab xb.length cb] 24)
  go_enter Tryz.func44, Tryz.ntmps44
  go_wp2_with (go_at_call 24; refine (demand2_okno _ na nb aa ab ca cb xa xb _ r0' (ha.below bw) hla fa (hb.below bw) hlb fb).mono ?_; rintro e w1 ⟨hbe1, rfl⟩; have bw1 := bw.trans (hbe1.mono (by simp)))
  exact ⟨rfl, bw1, rfl⟩

set_option maxHeartbeats 1000000 in
set_option maxRecDepth 100000 in
theorem div1_zero (B : Nat) (na nb : Bool) (aa ab : Option Addr) (ca cb : Nat) (xa xb : List Nat) (r0 : Bool) (r1 : Option Addr) (r2 r3 : Nat) (t0 : Bool) (t1 : Option Addr) (t2 t3 : Nat) (w : World) (hra : RowAt w B 24 [.bool na, .slice aa xa.length ca]) (hrb : RowAt w (B + 1) 24 [.bool nb, .slice ab xb.length cb])
    (_hQ : RowAt w (B + 2) 24 [.bool r0, .slice r1 r2 r3]) (_hR : RowAt w (B + 3) 24 [.bool t0, .slice t1 t2 t3]) (ha : Reads .u32 w (.slice aa xa.length ca) xa) (hb : Reads .u32 w (.slice ab xb.length cb) xb) (hla : Limbs xa) (hlb : Limbs xb) (fa : formedB na xa = true) (fb : formedB nb xb = true) (hz : xb.length = 0) :
    Calls Tryz.prog 44 #[.pointer (some ⟨B, 0, none⟩), .pointer (some ⟨B + 1, 0, none⟩), .pointer (some ⟨B + 2, 0, none⟩), .pointer (some ⟨B + 3, 0, none⟩)] w fun e w' => Below w.heap.size w w' ∧ e = .panicked [{ v := .iface 27 (.int .i64 20), recovered := false }] := by
  have a0 := hra.cell 0
  have a1 := hra.cell 1
  have b0 := hrb.cell 0
  have b1 := hrb.cell 1
  simp only [List.getElem?_cons_zero, List.getElem?_cons_succ] at a0 a1 b0 b1
  have r0' := RowAt.new w 24 [.bool na, .slice aa xa.length ca, .bool nb, .slice ab xb.length cb]
  have bw := (Below.refl w.heap.size w).alloc (Nat.le_refl _) (.cells #[.bool na, .slice aa xa.length ca, .bool nb, .slice ab xb.length cb] 24)
  have HZ := Lib.hid hz
  clear hz
  go_enter Tryz.func44, Tryz.ntmps44
  go_wp2_with (first | (go_at_call 24; refine (demand2_okok _ na nb aa ab ca cb xa xb _ r0' (ha.below bw) hla fa (hb.below bw) hlb fb).mono ?_; rintro e w1 ⟨hbe1, rfl⟩; have bw1 := bw.trans (hbe1.mono (by simp)); have p1 := (hra.below bw1).cell 0; have p2 := (hra.below bw1).cell 1; have p3 := (hrb.below bw1).cell 0; have p4 := (hrb.below bw1).cell 1; simp only [List.getElem?_cons_zero, List.getElem?_cons_succ] at p1 p2 p3 p4) | (go_at_call 45; refine (demand_no _ _ _ (by simp [HZ.out])).mono ?_; rintro e w2 ⟨rfl, rfl⟩))
  exact ⟨rfl, bw1, rfl⟩

set_option maxHeartbeats 1000000 in
set_option maxRecDepth 100000 in
theorem div1_ok (B : Nat) (na nb : Bool) (aa ab : Option Addr) (ca cb : Nat) (xa xb : List Nat) (r0 : Bool) (r1 : Option Addr) (r2 r3 : Nat) (t0 : Bool) (t1 : Option Addr) (t2 t3 : Nat) (w : World) (hra : RowAt w B 24 [.bool na, .slice aa xa.length ca]) (hrb : RowAt w (B + 1) 24 [.bool nb, .slice ab xb.length cb])
    (hQ : RowAt w (B + 2) 24 [.bool r0, .slice r1 r2 r3]) (hR : RowAt w (B + 3) 24 [.bool t0, .slice t1 t2 t3]) (ha : Reads .u32 w (.slice aa xa.length ca) xa) (hb : Reads .u32 w (.slice ab xb.length cb) xb) (hla : Limbs xa) (hlb : Limbs xb) (fa : formedB na xa = true) (fb : formedB nb xb = true) (hz : xb.length ≠ 0) (q r : Int)
    (hop : ∀ W, Below w.heap.size w W → Calls Tryz.prog 46 #[.agg #[.bool na, .slice aa xa.length ca], .agg #[.bool nb, .slice ab xb.length cb]] W fun e W' => Below W.heap.size W W' ∧ ∃ v1 v2, e = .returned (.tuple #[v1, v2]) ∧ IsInt W' v1 q ∧ IsInt W' v2 r) :
    Calls Tryz.prog 44 #[.pointer (some ⟨B, 0, none⟩), .pointer (some ⟨B + 1, 0, none⟩), .pointer (some ⟨B + 2, 0, none⟩), .pointer (some ⟨B + 3, 0, none⟩)] w fun e w' => e = .returned (.tuple #[]) ∧ Chg (fun k => k = B + 2 ∨ k = B + 3) w w' ∧ ∃ n a m c n' a' m' c', RowAt w' (B + 2) 24 [.bool n, .slice a m c] ∧ RowAt w' (B + 3) 24 [.bool n', .slice a' m' c'] ∧ IsInt w' (.agg #[.bool n, .slice a m c]) q ∧ IsInt w' (.agg #[.bool n', .slice a' m' c']) r := by
  have a0 := hra.cell 0
  have a1 := hra.cell 1
  have b0 := hrb.cell 0
  have b1 := hrb.cell 1
  simp only [List.getElem?_cons_zero, List.getElem?_cons_succ] at a0 a1 b0 b1
  have r0' := RowAt.new w 24 [.bool na, .slice aa xa.length ca, .bool nb, .slice ab xb.length cb]
  have bw := (Below.refl w.heap.size w).alloc (Nat.le_refl _) (.cells #[.bool na, .slice aa xa.length ca, .bool nb, .slice ab xb.length cb] 24)
  go_enter Tryz.func44, Tryz.ntmps44
  go_wp2_with (first | (go_at_call 24; refine (demand2_okok _ na nb aa ab ca cb xa xb _ r0' (ha.below bw) hla fa (hb.below bw) hlb fb).mono ?_; rintro e w1 ⟨hbe1, rfl⟩; have bw1 := bw.trans (hbe1.mono (by simp)); have p1 := (hra.below bw1).cell 0; have p2 := (hra.below bw1).cell 1; have p3 := (hrb.below bw1).cell 0; have p4 := (hrb.below bw1).cell 1; simp only [List.getElem?_cons_zero, List.getElem?_cons_succ] at p1 p2 p3 p4) | (go_at_call 45; refine (demand_ok _ _ _ (by simp; omega)).mono ?_; rintro e w2 ⟨rfl, rfl⟩) | (go_at_call 46; refine (hop _ bw1).mono ?_; rintro e w3 ⟨hbe3, v1, v2, rfl, ⟨n1, z1, x1, rfl, g1, k1, l1, m1⟩, ⟨n2, z2, x2, rfl, g2, k2, l2, m2⟩⟩; have bw3 := bw1.trans (hbe3.mono bw1.size); obtain ⟨y1, c1, rfl, -, -⟩ := g1.form; obtain ⟨y2, c2, rfl, -, -⟩ := g2.form; have sq := hQ.below bw3; have sr := hR.below bw3; have o1 := sq.cell 0; have o2 := sq.cell 1; have o3 := sr.cell 0; have o4 := sr.cell 1; have o5 := sq.frozen 0; have o6 := sq.frozen 1; have o7 := sr.frozen 0; have o8 := sr.frozen 1; simp only [List.getElem?_cons_zero, List.getElem?_cons_succ] at o1 o2 o3 o4))
  go_end0
  have o3' : ((w3.setCell ⟨B + 2, 0, none⟩ (.bool n1)).setCell ⟨B + 2, 1, none⟩ (.slice y1 x1.length c1)).cell? ⟨B + 3, 0, none⟩ = some (.bool t0) := by rw [World.cell?_setCell_other _ _ _ _ (by simp), World.cell?_setCell_other _ _ _ _ (by simp)]; exact o3
  have o4' : ((w3.setCell ⟨B + 2, 0, none⟩ (.bool n1)).setCell ⟨B + 2, 1, none⟩ (.slice y1 x1.length c1)).cell? ⟨B + 3, 1, none⟩ = some (.slice t1 t2 t3) := by rw [World.cell?_setCell_other _ _ _ _ (by simp), World.cell?_setCell_other _ _ _ _ (by simp)]; exact o4
  have hk : ∀ v xs, Reads .u32 w3 v xs → Reads .u32 ((((w3.setCell ⟨B + 2, 0, none⟩ (.bool n1)).setCell ⟨B + 2, 1, none⟩ (.slice y1 x1.length c1)).setCell ⟨B + 3, 0, none⟩ (.bool n2)).setCell ⟨B + 3, 1, none⟩ (.slice y2 x2.length c2)) v xs :=
    fun v xs h => two_kept (b := B + 3) (two_kept (b := B + 2) h o1 o2 _ _) o3' o4' _ _
  exact ⟨rfl, ((((((Chg.refl (fun k => k = B + 2 ∨ k = B + 3) w).thenBelow bw3).setCell (p := ⟨B + 2, 0, none⟩) (.inl (.inl rfl)) _).setCell (p := ⟨B + 2, 1, none⟩) (.inl (.inl rfl)) _).setCell (p := ⟨B + 3, 0, none⟩) (.inl (.inr rfl)) _).setCell (p := ⟨B + 3, 1, none⟩) (.inl (.inr rfl)) _),
    n1, y1, x1.length, c1, n2, y2, x2.length, c2, ((((sq.set 0 (.bool n1)).set 1 (.slice y1 x1.length c1)).other (by simp) _).other (by simp) _), ((((sr.other (by simp) _).other (by simp) _).set 0 (.bool n2)).set 1 (.slice y2 x2.length c2)),
    ⟨n1, _, x1, rfl, hk _ _ g1, k1, l1, m1⟩, ⟨n2, _, x2, rfl, hk _ _ g2, k2, l2, m2⟩⟩

end Go.Proofs.YtlghjfpkfdnfoaaGreatDoor

/- num.Div whole -/
namespace Go.Proofs.YtlghjfpkfdnfoaaGreatDoor
open Go Go.RowKit Go.Shelf

def DivOut (fa fb : Bool) (lb : Nat) (q r : Int) (k : Int) (W : World) (v1 v2 : Value) : Prop :=
  if (fa && fb) = true then (if lb = 0 then k = 20 ∧ v1 = zeroInt ∧ v2 = zeroInt else k = 0 ∧ IsInt W v1 q ∧ IsInt W v2 r) else k = 1 ∧ v1 = zeroInt ∧ v2 = zeroInt
theorem DivOut.keep {fa fb : Bool} {lb : Nat} {q r k : Int} {W W' : World} {v1 v2 : Value} (h : DivOut fa fb lb q r k W v1 v2) (hk : ∀ v xs, Reads .u32 W v xs → Reads .u32 W' v xs) : DivOut fa fb lb q r k W' v1 v2 := by
  unfold DivOut at *
  by_cases h1 : (fa && fb) = true
  · rw [if_pos h1] at h ⊢
    by_cases h2 : lb = 0
    · rw [if_pos h2] at h ⊢
      exact h
    · rw [if_neg h2] at h ⊢
      exact ⟨h.1, h.2.1.keep hk, h.2.2.keep hk⟩
  · rw [if_neg h1] at h ⊢
    exact h

/-- two results' variables that hold what they hold -/
structure PairS (w w1 : World) (b : Nat) (n : Bool) (a : Option Addr) (m c : Nat) (n' : Bool) (a' : Option Addr) (m' c' : Nat) (W : World) : Prop where
  low : w.heap.size ≤ b
  below : Below w.heap.size w W
  q : RowAt W b 24 [.bool n, .slice a m c]
  r : RowAt W (b + 1) 24 [.bool n', .slice a' m' c']
  keep : KeepR w1 W
@[reducible] def PairC (w w1 : World) (b : Nat) (n : Bool) (a : Option Addr) (m c : Nat) (n' : Bool) (a' : Option Addr) (m' c' : Nat) (W : World) : Prop :=
  W.cell? ⟨b, 0, none⟩ = some (.bool n) ∧ W.cell? ⟨b, 1, none⟩ = some (.slice a m c) ∧ W.cell? ⟨b + 1, 0, none⟩ = some (.bool n') ∧ W.cell? ⟨b + 1, 1, none⟩ = some (.slice a' m' c') ∧ W.frozen? ⟨b, 0, none⟩ = false ∧ W.frozen? ⟨b, 1, none⟩ = false ∧ W.frozen? ⟨b + 1, 0, none⟩ = false ∧ W.frozen? ⟨b + 1, 1, none⟩ = false ∧ PairS w w1 b n a m c n' a' m' c' W
section
variable {w w1 W : World} {b : Nat} {n : Bool} {a : Option Addr} {m c : Nat} {n' : Bool} {a' : Option Addr} {m' c' : Nat}
theorem pair_of (h : PairS w w1 b n a m c n' a' m' c' W) : PairC w w1 b n a m c n' a' m' c' W := ⟨h.q.cell 0, h.q.cell 1, h.r.cell 0, h.r.cell 1, h.q.frozen 0, h.q.frozen 1, h.r.frozen 0, h.r.frozen 1, h⟩
theorem pair_drew (h : PairS w w1 b n a m c n' a' m' c' W) : PairC w w1 b n a m c n' a' m' c' W.drew := pair_of ⟨h.low, h.below.drew, h.q, h.r, h.keep⟩
theorem pair_q (h : PairS w w1 b n a m c n' a' m' c' W) : PairC w w1 b n a m c n' a' m' c' ((W.setCell ⟨b, 0, none⟩ (.bool n)).setCell ⟨b, 1, none⟩ (.slice a m c)) :=
  pair_of ⟨h.low, (h.below.setCell h.low _).setCell h.low _, (h.q.set 0 (.bool n)).set 1 (.slice a m c), (h.r.other (by simp) _).other (by simp) _, fun v xs hv => two_kept (h.keep v xs hv) (h.q.cell 0) (h.q.cell 1) _ _⟩
theorem pair_r (h : PairS w w1 b n a m c n' a' m' c' W) : PairC w w1 b n a m c n' a' m' c' ((W.setCell ⟨b + 1, 0, none⟩ (.bool n')).setCell ⟨b + 1, 1, none⟩ (.slice a' m' c')) :=
  pair_of ⟨h.low, (h.below.setCell (by have := h.low; simp; omega) _).setCell (by have := h.low; simp; omega) _, (h.q.other (by simp) _).other (by simp) _, (h.r.set 0 (.bool n')).set 1 (.slice a' m' c'), fun v xs hv => two_kept (h.keep v xs hv) (h.r.cell 0) (h.r.cell 1) _ _⟩
theorem pair_qd (h : PairS w w1 b n a m c n' a' m' c' W.drew) : PairC w w1 b n a m c n' a' m' c' ((W.setCell ⟨b, 0, none⟩ (.bool n)).setCell ⟨b, 1, none⟩ (.slice a m c)).drew := pair_q h
theorem pair_rd (h : PairS w w1 b n a m c n' a' m' c' W.drew) : PairC w w1 b n a m c n' a' m' c' ((W.setCell ⟨b + 1, 0, none⟩ (.bool n')).setCell ⟨b + 1, 1, none⟩ (.slice a' m' c')).drew := pair_r h
end

theorem div1_any (B : Nat) (na nb : Bool) (aa ab : Option Addr) (ca cb : Nat) (xa xb : List Nat) (w : World) (hra : RowAt w B 24 [.bool na, .slice aa xa.length ca]) (hrb : RowAt w (B + 1) 24 [.bool nb, .slice ab xb.length cb])
    (hQ : RowAt w (B + 2) 24 [.bool false, .slice none 0 0]) (hR : RowAt w (B + 3) 24 [.bool false, .slice none 0 0]) (ha : Reads .u32 w (.slice aa xa.length ca) xa)
    (hb : Reads .u32 w (.slice ab xb.length cb) xb) (hla : Limbs xa) (hlb : Limbs xb) (q r : Int)
    (hop : formedB na xa = true → formedB nb xb = true → xb.length ≠ 0 → ∀ W, Below w.heap.size w W → Calls Tryz.prog 46 #[.agg #[.bool na, .slice aa xa.length ca], .agg #[.bool nb, .slice ab xb.length cb]] W fun e W' => Below W.heap.size W W' ∧ ∃ v1 v2, e = .returned (.tuple #[v1, v2]) ∧ IsInt W' v1 q ∧ IsInt W' v2 r) :
    Calls Tryz.prog 44 #[.pointer (some ⟨B, 0, none⟩), .pointer (some ⟨B + 1, 0, none⟩), .pointer (some ⟨B + 2, 0, none⟩), .pointer (some ⟨B + 3, 0, none⟩)] w fun e W =>
      ∃ k, (k = 0 ∧ e = .returned (.tuple #[]) ∨ e = .panicked [{ v := .iface 27 (.int .i64 k), recovered := false }]) ∧ Chg (fun k => k = B + 2 ∨ k = B + 3) w W ∧ ∃ n a m c n' a' m' c', RowAt W (B + 2) 24 [.bool n, .slice a m c] ∧ RowAt W (B + 3) 24 [.bool n', .slice a' m' c'] ∧ DivOut (formedB na xa) (formedB nb xb) xb.length q r k W (.agg #[.bool n, .slice a m c]) (.agg #[.bool n', .slice a' m' c']) := by
  have hchg : ∀ W, Below w.heap.size w W → Chg (fun k => k = B + 2 ∨ k = B + 3) w W := fun W h => (Chg.refl _ w).thenBelow h
  cases hfa : formedB na xa with
  | false =>
    refine (div1_no B na nb aa ab ca cb xa xb false none 0 0 false none 0 0 w hra hrb hQ hR ha hla hfa).mono ?_
    rintro e W ⟨hbe, rfl⟩
    exact ⟨1, .inr rfl, hchg _ hbe, false, none, 0, 0, false, none, 0, 0, hQ.below hbe, hR.below hbe, by simp [DivOut, zeroInt]⟩
  | true =>
    cases hfb : formedB nb xb with
    | false =>
      refine (div1_okno B na nb aa ab ca cb xa xb false none 0 0 false none 0 0 w hra hrb hQ hR ha hla hfa hb hlb hfb).mono ?_
      rintro e W ⟨hbe, rfl⟩
      exact ⟨1, .inr rfl, hchg _ hbe, false, none, 0, 0, false, none, 0, 0, hQ.below hbe, hR.below hbe, by simp [DivOut, zeroInt]⟩
    | true =>
      by_cases hz : xb.length = 0
      · refine (div1_zero B na nb aa ab ca cb xa xb false none 0 0 false none 0 0 w hra hrb hQ hR ha hb hla hlb hfa hfb hz).mono ?_
        rintro e W ⟨hbe, rfl⟩
        exact ⟨20, .inr rfl, hchg _ hbe, false, none, 0, 0, false, none, 0, 0, hQ.below hbe, hR.below hbe, by simp [DivOut, zeroInt, hz]⟩
      · refine (div1_ok B na nb aa ab ca cb xa xb false none 0 0 false none 0 0 w hra hrb hQ hR ha hb hla hlb hfa hfb hz q r (hop hfa hfb hz)).mono ?_
        rintro e W ⟨rfl, hch, n, a, m, c, n', a', m', c', h1, h2, h3, h4⟩
        exact ⟨0, .inl ⟨rfl, rfl⟩, hch, n, a, m, c, n', a', m', c', h1, h2, by simp only [DivOut, Bool.and_self, if_true, if_neg hz]; exact ⟨trivial, h3, h4⟩⟩

set_option maxHeartbeats 1000000 in
set_option maxRecDepth 100000 in
theorem Div_of (a b : Value) (na nb : Bool) (xa xb : List Nat) (w : World) (ha : IntAt w a na xa) (hb : IntAt w b nb xb) (q r : Int)
    (hop : formedB na xa = true → formedB nb xb = true → xb.length ≠ 0 → ∀ W, Below w.heap.size w W → Calls Tryz.prog 46 #[a, b] W fun e W' => Below W.heap.size W W' ∧ ∃ v1 v2, e = .returned (.tuple #[v1, v2]) ∧ IsInt W' v1 q ∧ IsInt W' v2 r) :
    Calls Tryz.prog 16 #[a, b] w fun e w' => Below w.heap.size w w' ∧ ∃ v1 v2 k, e = .returned (.tuple #[v1, v2, .int .i64 k]) ∧ DivOut (formedB na xa) (formedB nb xb) xb.length q r k w' v1 v2 := by
  obtain ⟨va, rfl, hra, hla⟩ := ha
  obtain ⟨vb, rfl, hrb, hlb⟩ := hb
  obtain ⟨aa, ca, rfl, hca, hma⟩ := hra.form
  obtain ⟨ab, cb, rfl, hcb, hmb⟩ := hrb.form
  have hmf : ∀ (fn : Fn) (first cap : Array Value) (w : World), (Instr.makeFunc fn first cap).run Tryz.prog w = .ok (.func fn first cap) w := fun _ _ _ _ => rfl
  have q0 := ((((RowAt.new w 24 [.bool na, .slice aa xa.length ca]).alloc (.cells #[.bool nb, .slice ab xb.length cb] 24)).alloc (.cells #[.bool false, .slice none 0 0] 24)).alloc (.cells #[.bool false, .slice none 0 0] 24)).alloc (.cells #[.int .i64 0] 27)
  have q1 := (((RowAt.new (w.alloc (.cells #[.bool na, .slice aa xa.length ca] 24)) 24 [.bool nb, .slice ab xb.length cb]).alloc (.cells #[.bool false, .slice none 0 0] 24)).alloc (.cells #[.bool false, .slice none 0 0] 24)).alloc (.cells #[.int .i64 0] 27)
  have q2 := ((RowAt.new ((w.alloc (.cells #[.bool na, .slice aa xa.length ca] 24)).alloc (.cells #[.bool nb, .slice ab xb.length cb] 24)) 24 [.bool false, .slice none 0 0]).alloc (.cells #[.bool false, .slice none 0 0] 24)).alloc (.cells #[.int .i64 0] 27)
  have q3 := (RowAt.new (((w.alloc (.cells #[.bool na, .slice aa xa.length ca] 24)).alloc (.cells #[.bool nb, .slice ab xb.length cb] 24)).alloc (.cells #[.bool false, .slice none 0 0] 24)) 24 [.bool false, .slice none 0 0]).alloc (.cells #[.int .i64 0] 27)
  have q4 := Boxed.new ((((w.alloc (.cells #[.bool na, .slice aa xa.length ca] 24)).alloc (.cells #[.bool nb, .slice ab xb.length cb] 24)).alloc (.cells #[.bool false, .slice none 0 0] 24)).alloc (.cells #[.bool false, .slice none 0 0] 24)) 27 (.int .i64 0)
  have bw := ((((((Below.refl w.heap.size w).alloc (Nat.le_refl _) (.cells #[.bool na, .slice aa xa.length ca] 24)).alloc (by simp) (.cells #[.bool nb, .slice ab xb.length cb] 24)).alloc (by simp; omega) (.cells #[.bool false, .slice none 0 0] 24)).alloc (by simp; omega) (.cells #[.bool false, .slice none 0 0] 24)).alloc (by simp; omega) (.cells #[.int .i64 0] 27))
  simp only [World.size_alloc] at q0 q1 q2 q3 q4
  generalize hW4 : ((((w.alloc (.cells #[.bool na, .slice aa xa.length ca] 24)).alloc (.cells #[.bool nb, .slice ab xb.length cb] 24)).alloc (.cells #[.bool false, .slice none 0 0] 24)).alloc (.cells #[.bool false, .slice none 0 0] 24)).alloc (.cells #[.int .i64 0] 27) = W4 at q0 q1 q2 q3 q4 bw
  have key := div1_any w.heap.size na nb aa ab ca cb xa xb W4 q0 q1 q2 q3 (hra.below bw) (hrb.below bw) hla hlb q r (fun h1 h2 h3 W hW => hop h1 h2 h3 W (bw.trans (hW.mono bw.size)))
  have att := attempt_any 44 #[.pointer (some ⟨w.heap.size, 0, none⟩), .pointer (some ⟨w.heap.size + 1, 0, none⟩), .pointer (some ⟨w.heap.size + 1 + 1, 0, none⟩), .pointer (some ⟨w.heap.size + 1 + 1 + 1, 0, none⟩)]
    ((((w.alloc (.cells #[.bool na, .slice aa xa.length ca] 24)).alloc (.cells #[.bool nb, .slice ab xb.length cb] 24)).alloc (.cells #[.bool false, .slice none 0 0] 24)).alloc (.cells #[.bool false, .slice none 0 0] 24))
    (fun k W => Chg (fun i => i = w.heap.size + 2 ∨ i = w.heap.size + 3) W4 W ∧ ∃ n a m c n' a' m' c', RowAt W (w.heap.size + 2) 24 [.bool n, .slice a m c] ∧ RowAt W (w.heap.size + 3) 24 [.bool n', .slice a' m' c'] ∧ DivOut (formedB na xa) (formedB nb xb) xb.length q r k W (.agg #[.bool n, .slice a m c]) (.agg #[.bool n', .slice a' m' c']))
    (fun W => by simp [go_sem])
    (fun k W h => by simp only [World.size_alloc]; exact h.1.boxed q4 (by omega))
    (by
      rw [hW4]
      refine key.mono ?_
      rintro e W ⟨k, h1, h2⟩
      rcases h1 with ⟨rfl, rfl⟩ | rfl
      · exact .inl ⟨rfl, h2⟩
      · exact .inr ⟨k, rfl, h2⟩)
  clear key
  go_enter Tryz.func16, Tryz.ntmps16
  go_wp2_with (refine att.mono ?_; rintro e W' ⟨k, W, ⟨hch, n, a, m, c, n', a', m', c', hr1, hr2, hres⟩, rfl, rfl⟩; simp only [World.size_alloc]; have z1 := hr1.other (a := ⟨w.heap.size + 1 + 1 + 1 + 1, 0, none⟩) (by simp) (.int .i64 k); have z2 := hr2.other (a := ⟨w.heap.size + 1 + 1 + 1 + 1, 0, none⟩) (by simp) (.int .i64 k); have o5 := hr1.frozen 0; have o6 := hr1.frozen 1; have o7 := hr2.frozen 0; have o8 := hr2.frozen 1; have o1 := z1.cell 0; have o2 := z1.cell 1; have o3 := z2.cell 0; have o4 := z2.cell 1; simp only [List.getElem?_cons_zero, List.getElem?_cons_succ] at o1 o2 o3 o4)
  have e4 := (hch.boxed q4 (by omega)).cell
  have hb9 : Below w.heap.size w W := bw.trans (hch.below (B := w.heap.size) (fun i hi => by omega) bw.size)
  have hP : PairS w W (w.heap.size + 1 + 1) n a m c n' a' m' c' (W.setCell ⟨w.heap.size + 1 + 1 + 1 + 1, 0, none⟩ (.int .i64 k)) := ⟨by omega, hb9.setCell (by simp; omega) _, z1, z2, fun v xs h => h.setOther e4 (by simp) _⟩
  have hD := pair_drew hP
  obtain ⟨d1, d2, d3, d4, d5, d6, d7, d8, d9⟩ := pair_of hP
  have hres' := hres
  generalize hW5 : W.setCell ⟨w.heap.size + 1 + 1 + 1 + 1, 0, none⟩ (.int .i64 k) = W5 at *
  clear att hch hr1 hr2 o1 o2 o3 o4 o5 o6 o7 o8 hb9 e4 z1 z2 q0 q1 q2 q3 q4 bw
  go_region_held3 (fun X => X.cell? ⟨w.heap.size + 1 + 1, 0, none⟩ = some (.bool n) ∧ X.cell? ⟨w.heap.size + 1 + 1, 1, none⟩ = some (.slice a m c) ∧ X.cell? ⟨w.heap.size + 1 + 1 + 1, 0, none⟩ = some (.bool n') ∧ X.cell? ⟨w.heap.size + 1 + 1 + 1, 1, none⟩ = some (.slice a' m' c') ∧ X.frozen? ⟨w.heap.size + 1 + 1, 0, none⟩ = false ∧ X.frozen? ⟨w.heap.size + 1 + 1, 1, none⟩ = false ∧ X.frozen? ⟨w.heap.size + 1 + 1 + 1, 0, none⟩ = false ∧ X.frozen? ⟨w.heap.size + 1 + 1 + 1, 1, none⟩ = false ∧ PairS w W (w.heap.size + 1 + 1) n a m c n' a' m' c' X)
    (first | exact hD | (go_split_ands; with_reducible refine pair_q ?_ <;> assumption) | (go_split_ands; with_reducible refine pair_r ?_ <;> assumption) | (go_split_ands; with_reducible refine pair_qd ?_ <;> assumption) | (go_split_ands; with_reducible refine pair_rd ?_ <;> assumption))
    (first | fail)
  rename_i hT
  obtain ⟨s1, s2, s3, s4⟩ := four_reads (b := w.heap.size + 1 + 1) d1 d2 d3 d4 (.bool n) (.slice a m c) (.bool n') (.slice a' m' c')
  obtain ⟨-, -, -, -, -, -, -, -, hPf⟩ := hT
  go_wp2
  exact bodyPost_ret (v := .tuple #[.agg #[.bool n, .slice a m c], .agg #[.bool n', .slice a' m' c'], .int .i64 k]) (by simp [results, Tryz.results16, go_sem, loadCellsFrom, s1, s2, s3, s4]) rfl ⟨hPf.below, _, _, k, rfl, hres'.keep hPf.keep⟩

end Go.Proofs.YtlghjfpkfdnfoaaGreatDoor

/- num.power, given products up to a size -/
namespace Go.Proofs.YtlghjfpkfdnfoaaGreatDoor
open Go Go.RowKit Go.Shelf

/-- products of magnitudes of at most K limbs -/
def TimesUpTo (K : Nat) : Prop := ∀ (va vb : Value) (xa xb : List Nat) (w : World), Reads .u32 w va xa → Reads .u32 w vb xb → Limbs xa → Limbs xb → xa.length ≤ K → xb.length ≤ K →
  Calls Tryz.prog 84 #[va, vb] w fun e w' => Below w.heap.size w w' ∧ ∃ v cs, e = .returned v ∧ Reads .u32 w' v cs ∧ Canon cs ∧ val cs = val xa * val xb
theorem times_79 : TimesUpTo 79 := fun va vb xa xb w ha hb hla hlb la lb => times_small va vb xa xb w ha hb hla hlb (by omega) (by omega) (by omega)

theorem and_one_i64 (m : Nat) (h : m < 9223372036854775808) : bits BinOp.and IntKind.i64 (m : Int) 1 = ((m % 2 : Nat) : Int) := by
  have h1 : (BitVec.ofInt 64 (m : Int)).toNat = m := by
    rw [BitVec.ofInt_natCast, BitVec.toNat_ofNat]; exact Nat.mod_eq_of_lt (by omega)
  have h2 : (BitVec.ofInt 64 (1 : Int)).toNat = 1 := by decide
  show IntKind.i64.wrap ((BitVec.ofInt 64 (m : Int) &&& BitVec.ofInt 64 (1 : Int)).toNat : Int) = _
  rw [BitVec.toNat_and, h1, h2, Nat.and_one_is_mod, IntKind.wrap_i64]
  have := Nat.mod_lt m (show 0 < 2 by decide)
  omega

theorem lt_bitLen : ∀ (x : Nat), x < 2 ^ 64 → x < 2 ^ Lib.bitLen x := by
  intro x
  induction x using Nat.strongRecOn with
  | ind x ih =>
    intro h
    rcases Nat.eq_zero_or_pos x with rfl | hp
    · exact Nat.pow_pos (by decide)
    · rw [Lib.bitLen_half x (by omega) h, Nat.add_comm, Nat.pow_succ]
      have := ih (x / 2) (by omega) (by omega)
      omega

/-- what a round of power starts from -/
structure PowInv (w : World) (A n : Nat) (k : Nat) (v : Value) (W : World) : Prop where
  below : Below w.heap.size w W
  reads : ∃ cs, Reads .u32 W v cs ∧ Canon cs ∧ val cs = A ^ (n / 2 ^ k)

theorem pow_le_of {A n m : Nat} (h : m ≤ n) {K : Nat} (hK : 0 < K) (hA : A ^ n < B32 ^ K) : A ^ m < B32 ^ K := by
  rcases Nat.eq_zero_or_pos A with rfl | hp
  · rcases Nat.eq_zero_or_pos m with rfl | hm
    · have : 1 < B32 ^ K := Nat.one_lt_pow (by omega) (by decide)
      simpa using this
    · rw [Nat.zero_pow hm]; exact Nat.pow_pos (by decide)
  · exact Nat.lt_of_le_of_lt (Nat.pow_le_pow_right hp h) hA

set_option maxRecDepth 100000 in
set_option maxHeartbeats 1000000 in
theorem power_any (K : Nat) (hT : TimesUpTo K) (hK : 0 < K) (va : Value) (xa : List Nat) (n : Nat) (w : World) (ha : Reads .u32 w va xa) (hka : Canon xa) (hn : n ≤ 9600) (hfit : val xa ^ n < B32 ^ K) :
    Calls Tryz.prog 52 #[va, .int .i64 n] w fun e w' => Below w.heap.size w w' ∧ ∃ v cs, e = .returned v ∧ Reads .u32 w' v cs ∧ Canon cs ∧ val cs = val xa ^ n := by
  obtain ⟨a, c, rfl, hc, hm⟩ := ha.form
  have HF := Lib.hid hfit
  clear hfit
  have hbl : Lib.bitLen n ≤ 14 := Lib.bitLen_le n 14 (by decide) (by omega)
  have hbn : n / 2 ^ Lib.bitLen n = 0 := Nat.div_eq_of_lt (lt_bitLen n (by omega))
  go_enter Tryz.func52, Tryz.ntmps52
  go_wp2_with (first | (go_at_call 80; refine (one_any _).mono ?_; rintro e w1 ⟨hbe1, v1, rfl, h1⟩; obtain ⟨a1, c1, rfl, hc1, hm1⟩ := h1.form) | (go_at_call 83; refine (Tryz.bits_Len _ _ (by omega) (by omega)).mono ?_; rintro e w2 ⟨rfl, rfl⟩; simp only [Int.toNat_natCast]))
  go_loopw [5, 6] (fun v b W => ∃ k : Nat, k ≤ Lib.bitLen n ∧ b = .int .i64 ((k : Int) - 1) ∧ (∃ a2 n2 c2, v = .slice a2 n2 c2) ∧ PowInv w (val xa) n k v W) (fun _ b _ => (intOf b + 1).toNat)
  case atStart => exact ⟨Lib.bitLen n, Nat.le_refl _, rfl, ⟨_, _, _, rfl⟩, hbe1, [1], h1, ⟨by intro x hx; simp at hx; subst hx; decide, rfl⟩, by rw [hbn]; simp [val]⟩
  case round =>
    obtain ⟨k, hk, rfl, ⟨a2, n2, c2, rfl⟩, hb, cs, hr, hkc, hv⟩ := hrel
    cases k with
    | zero =>
      go_wp2
      go_ret
      exact ⟨hb, _, cs, rfl, hr, hkc, by rw [hv]; simp⟩
    | succ j =>
      have e1 : ((j + 1 : Nat) : Int) - 1 = (j : Int) := by omega
      rw [e1]
      have HV := Lib.hid hv
      clear hv
      have hmn : n / 2 ^ j ≤ n := Nat.div_le_self _ _
      have hmj : n / 2 ^ j = 2 * (n / 2 ^ (j + 1)) + n / 2 ^ j % 2 := by
        have : n / 2 ^ (j + 1) = n / 2 ^ j / 2 := by rw [Nat.pow_succ, Nat.div_div_eq_div_mul]
        rw [this]; omega
      have hm2 : n / 2 ^ (j + 1) ≤ n := Nat.div_le_self _ _
      have hand0 : bits BinOp.and IntKind.i64 ((n : Int) / 2 ^ j) 1 = ((n / 2 ^ j % 2 : Nat) : Int) := by
        have := and_one_i64 (n / 2 ^ j) (by omega)
        simpa using this
      have lcs : cs.length ≤ K := canon_length_le hkc (by rw [HV.out]; exact pow_le_of hm2 hK HF.out)
      have t1 : ∀ W, Below wr.heap.size wr W → Calls Tryz.prog 84 #[.slice a2 n2 c2, .slice a2 n2 c2] W fun e w' => Below W.heap.size W w' ∧ ∃ v cs2, e = .returned v ∧ Reads .u32 w' v cs2 ∧ Canon cs2 ∧ val cs2 = val xa ^ (2 * (n / 2 ^ (j + 1))) := fun W hW => by
        have := hT _ _ cs cs W (hr.below hW) (hr.below hW) hkc.1 hkc.1 lcs lcs
        rwa [HV.out, ← Nat.pow_add, ← Nat.two_mul] at this
      have hpar : n / 2 ^ j % 2 = 0 ∨ n / 2 ^ j % 2 = 1 := by omega
      have hM : ((j : Int) - 1 + 1).toNat < ((j : Int) + 1).toNat := by omega
      rcases hpar with hp | hp
      · have hand : bits BinOp.and IntKind.i64 ((n : Int) / 2 ^ j) 1 = 0 := by rw [hand0, hp]; rfl
        have hfin : 2 * (n / 2 ^ (j + 1)) = n / 2 ^ j := by omega
        have HX := Lib.hid hfin
        clear hfin hp hmj hand0 hmn hm2
        go_wp2_with (go_at_call 84; refine (t1 _ (Below.refl _ _)).mono ?_; rintro e w3 ⟨hbe3, v3, cs3, rfl, h3, k3, e3⟩; obtain ⟨a3, c3, rfl, hc3, hm3⟩ := h3.form; clear t1)
        exact ⟨⟨j, by omega, rfl, ⟨_, _, _, rfl⟩, hb.trans (hbe3.mono hb.size), cs3, h3, k3, by rw [e3, HX.out]⟩, hM⟩
      · have hand : bits BinOp.and IntKind.i64 ((n : Int) / 2 ^ j) 1 = 1 := by rw [hand0, hp]; rfl
        have hfin : 2 * (n / 2 ^ (j + 1)) + 1 = n / 2 ^ j := by omega
        have HX := Lib.hid hfin
        have lxa : xa.length ≤ K := canon_length_le hka (by have := pow_le_of (A := val xa) (n := n) (m := 1) (by omega) hK HF.out; simpa using this)
        have t2 : ∀ W v3 cs3, Below w.heap.size w W → Reads .u32 W v3 cs3 → Canon cs3 → val cs3 = val xa ^ (2 * (n / 2 ^ (j + 1))) → Calls Tryz.prog 84 #[v3, .slice a xa.length c] W fun e w' => Below W.heap.size W w' ∧ ∃ v cs2, e = .returned v ∧ Reads .u32 w' v cs2 ∧ Canon cs2 ∧ val cs2 = val xa ^ (n / 2 ^ j) := fun W v3 cs3 hW h3 k3 e3 => by
          have := hT _ _ cs3 xa W h3 (ha.below hW) k3.1 hka.1 (canon_length_le k3 (by rw [e3]; exact pow_le_of (by omega) hK HF.out)) lxa
          rwa [e3, ← Nat.pow_succ, Nat.succ_eq_add_one, HX.out] at this
        clear hfin hp hmj hand0 hmn hm2
        go_wp2_with (first | (go_at_call 84; refine (t1 _ (Below.refl _ _)).mono ?_; rintro e w3 ⟨hbe3, v3, cs3, rfl, h3, k3, e3⟩; obtain ⟨a3, c3, rfl, hc3, hm3⟩ := h3.form; have hb3 := hb.trans (hbe3.mono hb.size); clear t1) | (go_at_call 84; refine (t2 _ _ cs3 hb3 h3 k3 e3).mono ?_; rintro e w4 ⟨hbe4, v4, cs4, rfl, h4, k4, e4⟩; obtain ⟨a4, c4, rfl, hc4, hm4⟩ := h4.form))
        exact ⟨⟨j, by omega, rfl, ⟨_, _, _, rfl⟩, hb3.trans (hbe4.mono hb3.size), cs4, h4, k4, e4⟩, hM⟩
end Go.Proofs.YtlghjfpkfdnfoaaGreatDoor

/- num.bitLen, num.Bits -/
namespace Go.Proofs.YtlghjfpkfdnfoaaGreatDoor
open Go Go.RowKit Go.Shelf

/-- how many binary digits a list of limbs has -/
def bitsOf (xs : List Nat) : Nat := if xs.length = 0 then 0 else 32 * (xs.length - 1) + Lib.bitLen (xs[xs.length - 1]?.getD 0)

set_option maxHeartbeats 1000000 in
set_option maxRecDepth 100000 in
theorem bitLen_any (va : Value) (xs : List Nat) (w : World) (hr : Reads .u32 w va xs) (hl : Limbs xs) (hn : xs.length ≤ 100000) :
    Calls Tryz.prog 49 #[va] w fun e w' => w = w' ∧ e = .returned (.int .i64 (bitsOf xs)) := by
  obtain ⟨a, c, rfl, hc, hm⟩ := hr.form
  by_cases hx : xs.length = 0
  · have hb : bitsOf xs = 0 := by simp [bitsOf, hx]
    rw [hb]
    go_enter Tryz.func49, Tryz.ntmps49
    go_wp2
    go_ret
    exact ⟨rfl, rfl⟩
  · have he : ((xs.length - 1 : Nat) : Int) = (xs.length : Int) - 1 := by omega
    have hcell := hr.cell (xs.length - 1) (by omega)
    have hix := fun W => hr.index und_limbs size_limb (P := Tryz.prog) (xs.length - 1) .i64 W (by omega)
    have hlast : xs[xs.length - 1]?.getD 0 < B32 := by
      rw [List.getElem?_eq_getElem (by omega)]
      exact hl _ (by simp)
    have hb : (bitsOf xs : Int) = 32 * ((xs.length : Int) - 1) + Lib.bitLen (xs[xs.length - 1]?.getD 0) := by
      simp only [bitsOf, if_neg hx]; omega
    rw [he] at hix
    rw [hb]
    obtain ⟨top, hT⟩ : ∃ top, xs[xs.length - 1]?.getD 0 = top := ⟨_, rfl⟩
    rw [hT] at hcell hlast ⊢
    have hbl : Lib.bitLen top ≤ 32 := Lib.bitLen_le top 32 (by decide) (by unfold B32 at hlast; omega)
    generalize xs.length - 1 = k at *
    unfold B32 at hlast
    clear hb hT
    go_enter Tryz.func49, Tryz.ntmps49
    go_wp2_with (go_at_call 82; refine (Tryz.bits_Len32 _ _ (by omega) (by omega)).mono ?_; rintro e w2 ⟨rfl, rfl⟩; simp only [Int.toNat_natCast])
    go_ret
    exact ⟨rfl, rfl⟩

end Go.Proofs.YtlghjfpkfdnfoaaGreatDoor
