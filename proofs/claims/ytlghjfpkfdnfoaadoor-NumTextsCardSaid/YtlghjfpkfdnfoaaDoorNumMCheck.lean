/- num.sum, num.negative, num.difference -/
import Derived.Test.YtlghjfpkfdnfoaaDoorNumMMinus
import Derived.Recover
namespace Go.Proofs.YtlghjfpkfdnfoaaDoor
open Go Go.RowKit Go.Shelf

theorem canon_le_length {xs ys : List Nat} (hx : Canon xs) (hy : Canon ys) (h : val ys ≤ val xs) : ys.length ≤ xs.length := by
  rcases Nat.lt_or_ge xs.length ys.length with hl | hl
  · have h1 := val_lt hx.1
    have h2 := canon_pos hy (by intro e; subst e; simp at hl)
    have h3 : B32 ^ xs.length ≤ B32 ^ (ys.length - 1) := Nat.pow_le_pow_right (by decide) (by omega)
    omega
  · exact hl

set_option maxHeartbeats 1000000 in
set_option maxRecDepth 100000 in
theorem sum_same (na : Bool) (va vb : Value) (xa xb : List Nat) (w : World) (ha : Reads .u32 w va xa) (hb : Reads .u32 w vb xb) (hla : Limbs xa) (hlb : Limbs xb) (la : xa.length ≤ 100000) (lb : xb.length ≤ 100000) :
    Calls Tryd.prog 67 #[.agg #[.bool na, va], .agg #[.bool na, vb]] w fun e w' => Below w.heap.size w w' ∧ ∃ v cs, e = .returned (.agg #[.bool (na && decide (0 < cs.length)), v]) ∧ Reads .u32 w' v cs ∧ Canon cs ∧ val cs = val xa + val xb := by
  have h0 := twoInts_start (na := na) (nb := na) ha hb
  obtain ⟨aa, ca, rfl, hca, hma⟩ := ha.form
  obtain ⟨ab, cb, rfl, hcb, hmb⟩ := hb.form
  have H0 := Lib.hid h0
  clear h0
  go_enter Tryd.func67, Tryd.ntmps67
  go_wp2_with fail
  go_region_held3 (fun W => W.cell? ⟨w.heap.size, 0, none⟩ = some (.bool na) ∧ W.cell? ⟨w.heap.size, 1, none⟩ = some (.slice aa xa.length ca) ∧ W.cell? ⟨w.heap.size + 1, 0, none⟩ = some (.bool na) ∧ W.cell? ⟨w.heap.size + 1, 1, none⟩ = some (.slice ab xb.length cb) ∧ TwoRest w (.slice aa xa.length ca) (.slice ab xb.length cb) xa xb W)
    (first | exact ⟨H0.out.1, H0.out.2.1, H0.out.2.2.1, H0.out.2.2.2.1, H0.out.2.2.2.2.drew⟩ | (go_split_ands; exact twoInts_step (by assumption) (by assumption) (by assumption) (by assumption) (by assumption) (by assumption)) | (go_split_ands; exact twoInts_store (by assumption) (by assumption) (by assumption) (by assumption) (by assumption) _ _ _ _))
    (first | (go_at_call 101; go_split_ands; refine (plus_any _ _ xa xb _ (TwoRest.ra (by assumption)) (TwoRest.rb (by assumption)) hla hlb la lb).mono ?_; rintro e w' ⟨hbe, v, cs, rfl, h1, h2, h3⟩; obtain ⟨a3, c3, rfl, hc3, hm3⟩ := h1.form) | (go_at_call 63; go_split_ands; refine (signed_any _ _ _ _ _).mono ?_; rintro e w'' ⟨hbe2, rfl⟩; obtain ⟨u0, u1, u2, u3, q1, q2, q3, q4⟩ := TwoRest.cells (TwoRest.step (by assumption) hbe2)))
  obtain ⟨s1, s2⟩ := two_reads (b := w.heap.size + 1 + 1) q1 q2 (.bool (na && decide (0 < cs.length))) (.slice a3 cs.length c3)
  have hk := two_kept (b := w.heap.size + 1 + 1) (h1.below hbe2) q1 q2 (.bool (na && decide (0 < cs.length))) (.slice a3 cs.length c3)
  rename_i hT
  replace hT := hT.2.2.2.2.below
  go_wp2
  refine bodyPost_ret (v := .agg #[.bool (na && decide (0 < cs.length)), .slice a3 cs.length c3]) (by simp [results, Tryd.results67, go_sem, loadCellsFrom, s1, s2]) rfl ⟨hT, _, cs, ?_, hk, h2, h3⟩
  rfl

set_option maxHeartbeats 1000000 in
set_option maxRecDepth 100000 in
theorem sum_ge (na nb : Bool) (va vb : Value) (xa xb : List Nat) (w : World) (ha : Reads .u32 w va xa) (hb : Reads .u32 w vb xb) (hla : Limbs xa) (hlb : Limbs xb) (la : xa.length ≤ 100000) (_lb : xb.length ≤ 100000) (hka : Canon xa) (hkb : Canon xb) (hn : na ≠ nb) (hle : val xb ≤ val xa) :
    Calls Tryd.prog 67 #[.agg #[.bool na, va], .agg #[.bool nb, vb]] w fun e w' => Below w.heap.size w w' ∧ ∃ v cs, e = .returned (.agg #[.bool (na && decide (0 < cs.length)), v]) ∧ Reads .u32 w' v cs ∧ Canon cs ∧ val cs = val xa - val xb := by
  have h0 := twoInts_start (na := na) (nb := nb) ha hb
  obtain ⟨aa, ca, rfl, hca, hma⟩ := ha.form
  obtain ⟨ab, cb, rfl, hcb, hmb⟩ := hb.form
  have H0 := Lib.hid h0
  clear h0
  have hl := canon_le_length hka hkb hle
  have hi : (0 : Int) ≤ cmpI (val xa) (val xb) := by unfold cmpI; split <;> (try split) <;> omega
  obtain rfl : nb = !na := by cases na <;> cases nb <;> first | rfl | exact absurd rfl hn
  generalize hcv : cmpI (val xa) (val xb) = cv at hi
  go_enter Tryd.func67, Tryd.ntmps67
  go_wp2_with (go_at_call 53; go_loud (refine (compare_any _ _ xa xb _ H0.out.2.2.2.2.ra H0.out.2.2.2.2.rb hka hkb (by omega)).mono ?_; rintro e w1 ⟨hbe1, rfl⟩; rw [hcv]; have H1 := Lib.hid (twoInts_step H0.out.1 H0.out.2.1 H0.out.2.2.1 H0.out.2.2.2.1 H0.out.2.2.2.2 hbe1)))
  go_region_held3 (fun W => W.cell? ⟨w.heap.size, 0, none⟩ = some (.bool na) ∧ W.cell? ⟨w.heap.size, 1, none⟩ = some (.slice aa xa.length ca) ∧ W.cell? ⟨w.heap.size + 1, 0, none⟩ = some (.bool !na) ∧ W.cell? ⟨w.heap.size + 1, 1, none⟩ = some (.slice ab xb.length cb) ∧ TwoRest w (.slice aa xa.length ca) (.slice ab xb.length cb) xa xb W)
    (first | exact ⟨H1.out.1, H1.out.2.1, H1.out.2.2.1, H1.out.2.2.2.1, H1.out.2.2.2.2.drew⟩ | (go_split_ands; exact twoInts_step (by assumption) (by assumption) (by assumption) (by assumption) (by assumption) (by assumption)) | (go_split_ands; exact twoInts_store (by assumption) (by assumption) (by assumption) (by assumption) (by assumption) _ _ _ _))
    (first | (go_at_call 102; go_split_ands; refine (minus_any _ _ xa xb _ (TwoRest.ra (by assumption)) (TwoRest.rb (by assumption)) hla hlb la hl hle).mono ?_; rintro e w' ⟨hbe, v, cs, rfl, h1, h2, h3⟩; obtain ⟨a3, c3, rfl, hc3, hm3⟩ := h1.form) | (go_at_call 63; go_split_ands; refine (signed_any _ _ _ _ _).mono ?_; rintro e w'' ⟨hbe2, rfl⟩; obtain ⟨u0, u1, u2, u3, q1, q2, q3, q4⟩ := TwoRest.cells (TwoRest.step (by assumption) hbe2)))
  obtain ⟨s1, s2⟩ := two_reads (b := w.heap.size + 1 + 1) q1 q2 (.bool (na && decide (0 < cs.length))) (.slice a3 cs.length c3)
  have hk := two_kept (b := w.heap.size + 1 + 1) (h1.below hbe2) q1 q2 (.bool (na && decide (0 < cs.length))) (.slice a3 cs.length c3)
  rename_i hT
  replace hT := hT.2.2.2.2.below
  go_wp2
  refine bodyPost_ret (v := .agg #[.bool (na && decide (0 < cs.length)), .slice a3 cs.length c3]) (by simp [results, Tryd.results67, go_sem, loadCellsFrom, s1, s2]) rfl ⟨hT, _, cs, ?_, hk, h2, h3⟩
  rfl

set_option maxHeartbeats 1000000 in
set_option maxRecDepth 100000 in
theorem sum_lt (na nb : Bool) (va vb : Value) (xa xb : List Nat) (w : World) (ha : Reads .u32 w va xa) (hb : Reads .u32 w vb xb) (hla : Limbs xa) (hlb : Limbs xb) (la : xa.length ≤ 100000) (lb : xb.length ≤ 100000) (hka : Canon xa) (hkb : Canon xb) (hn : na ≠ nb) (hlt : val xa < val xb) :
    Calls Tryd.prog 67 #[.agg #[.bool na, va], .agg #[.bool nb, vb]] w fun e w' => Below w.heap.size w w' ∧ ∃ v cs, e = .returned (.agg #[.bool (nb && decide (0 < cs.length)), v]) ∧ Reads .u32 w' v cs ∧ Canon cs ∧ val cs = val xb - val xa := by
  have h0 := twoInts_start (na := na) (nb := nb) ha hb
  obtain ⟨aa, ca, rfl, hca, hma⟩ := ha.form
  obtain ⟨ab, cb, rfl, hcb, hmb⟩ := hb.form
  have H0 := Lib.hid h0
  clear h0
  have hle : val xa ≤ val xb := Nat.le_of_lt hlt
  have hl := canon_le_length hkb hka hle
  have hi : cmpI (val xa) (val xb) < (0 : Int) := by unfold cmpI; split <;> (try split) <;> omega
  obtain rfl : nb = !na := by cases na <;> cases nb <;> first | rfl | exact absurd rfl hn
  generalize hcv : cmpI (val xa) (val xb) = cv at hi
  go_enter Tryd.func67, Tryd.ntmps67
  go_wp2_with (go_at_call 53; refine (compare_any _ _ xa xb _ H0.out.2.2.2.2.ra H0.out.2.2.2.2.rb hka hkb (by omega)).mono ?_; rintro e w1 ⟨hbe1, rfl⟩; rw [hcv]; have H1 := Lib.hid (twoInts_step H0.out.1 H0.out.2.1 H0.out.2.2.1 H0.out.2.2.2.1 H0.out.2.2.2.2 hbe1))
  go_region_held3 (fun W => W.cell? ⟨w.heap.size, 0, none⟩ = some (.bool na) ∧ W.cell? ⟨w.heap.size, 1, none⟩ = some (.slice aa xa.length ca) ∧ W.cell? ⟨w.heap.size + 1, 0, none⟩ = some (.bool !na) ∧ W.cell? ⟨w.heap.size + 1, 1, none⟩ = some (.slice ab xb.length cb) ∧ TwoRest w (.slice aa xa.length ca) (.slice ab xb.length cb) xa xb W)
    (first | exact ⟨H1.out.1, H1.out.2.1, H1.out.2.2.1, H1.out.2.2.2.1, H1.out.2.2.2.2.drew⟩ | (go_split_ands; exact twoInts_step (by assumption) (by assumption) (by assumption) (by assumption) (by assumption) (by assumption)) | (go_split_ands; exact twoInts_store (by assumption) (by assumption) (by assumption) (by assumption) (by assumption) _ _ _ _))
    (first | (go_at_call 102; go_split_ands; refine (minus_any _ _ xb xa _ (TwoRest.rb (by assumption)) (TwoRest.ra (by assumption)) hlb hla lb hl hle).mono ?_; rintro e w' ⟨hbe, v, cs, rfl, h1, h2, h3⟩; obtain ⟨a3, c3, rfl, hc3, hm3⟩ := h1.form) | (go_at_call 63; go_split_ands; refine (signed_any _ _ _ _ _).mono ?_; rintro e w'' ⟨hbe2, rfl⟩; obtain ⟨u0, u1, u2, u3, q1, q2, q3, q4⟩ := TwoRest.cells (TwoRest.step (by assumption) hbe2)))
  obtain ⟨s1, s2⟩ := two_reads (b := w.heap.size + 1 + 1) q1 q2 (.bool (!na && decide (0 < cs.length))) (.slice a3 cs.length c3)
  have hk := two_kept (b := w.heap.size + 1 + 1) (h1.below hbe2) q1 q2 (.bool (!na && decide (0 < cs.length))) (.slice a3 cs.length c3)
  rename_i hT
  replace hT := hT.2.2.2.2.below
  go_wp2
  refine bodyPost_ret (v := .agg #[.bool (!na && decide (0 < cs.length)), .slice a3 cs.length c3]) (by simp [results, Tryd.results67, go_sem, loadCellsFrom, s1, s2]) rfl ⟨hT, _, cs, ?_, hk, h2, h3⟩
  rfl

/-- an integer: its sign and its magnitude -/
def sgn (neg : Bool) (n : Nat) : Int := if neg then -(n : Int) else n
/-- a formed integer (but for the number of limbs), and its value -/
def IsInt (w : World) (v : Value) (i : Int) : Prop := ∃ neg va xs, v = .agg #[.bool neg, va] ∧ Reads .u32 w va xs ∧ Canon xs ∧ (neg && decide (0 < xs.length)) = neg ∧ i = sgn neg (val xs)
theorem IsInt.below {w w' : World} {v : Value} {i : Int} (h : IsInt w v i) (hb : Below w.heap.size w w') : IsInt w' v i := by
  obtain ⟨neg, va, xs, e, hr, hc, hn, hi⟩ := h
  exact ⟨neg, va, xs, e, hr.below hb, hc, hn, hi⟩
theorem canon_pos_iff {xs : List Nat} (h : Canon xs) : 0 < val xs ↔ 0 < xs.length := by
  constructor
  · intro hv; cases xs with | nil => simp [val] at hv | cons _ _ => simp
  · intro hl
    have := canon_pos h (by intro e; subst e; simp at hl)
    exact Nat.lt_of_lt_of_le (Nat.pow_pos (by decide)) this
theorem canon_length_le {xs : List Nat} (h : Canon xs) {k : Nat} (hv : val xs < B32 ^ k) : xs.length ≤ k := by
  rcases Nat.lt_or_ge k xs.length with hl | hl
  · have h1 := canon_pos h (by intro e; subst e; simp at hl)
    have h2 : B32 ^ k ≤ B32 ^ (xs.length - 1) := Nat.pow_le_pow_right (by decide) (by omega)
    omega
  · exact hl
theorem sgn_natAbs (neg : Bool) (n : Nat) : (sgn neg n).natAbs = n := by unfold sgn; split <;> omega
theorem isInt_mk {w : World} {v : Value} {cs : List Nat} (neg : Bool) (h : Reads .u32 w v cs) (hc : Canon cs) {i : Int} (hi : i = sgn neg (val cs)) : IsInt w (.agg #[.bool (neg && decide (0 < cs.length)), v]) i := by
  refine ⟨_, v, cs, rfl, h, hc, by simp, ?_⟩
  subst hi
  by_cases hl : 0 < cs.length
  · have hd : decide (0 < cs.length) = true := decide_eq_true hl
    rw [hd, Bool.and_true]
  · have : ¬ 0 < val cs := fun e => hl ((canon_pos_iff hc).1 e)
    have e0 : val cs = 0 := by omega
    cases neg <;> simp [sgn, e0]

theorem sum_any (a b : Value) (i j : Int) (k : Nat) (w : World) (ha : IsInt w a i) (hb : IsInt w b j) (hk : k ≤ 100000) (hi : i.natAbs < B32 ^ k) (hj : j.natAbs < B32 ^ k) :
    Calls Tryd.prog 67 #[a, b] w fun e w' => Below w.heap.size w w' ∧ ∃ v, e = .returned v ∧ IsInt w' v (i + j) := by
  obtain ⟨na, va, xa, rfl, hra, hca, hna, rfl⟩ := ha
  obtain ⟨nb, vb, xb, rfl, hrb, hcb, hnb, rfl⟩ := hb
  rw [sgn_natAbs] at hi hj
  have la := canon_length_le hca hi
  have lb := canon_length_le hcb hj
  by_cases hn : na = nb
  · subst hn
    refine (sum_same na va vb xa xb w hra hrb hca.1 hcb.1 (by omega) (by omega)).mono ?_
    rintro e w' ⟨hbe, v, cs, rfl, h1, h2, h3⟩
    exact ⟨hbe, _, rfl, isInt_mk na h1 h2 (by rw [h3]; cases na <;> simp [sgn] <;> omega)⟩
  · rcases Nat.lt_or_ge (val xa) (val xb) with hlt | hle
    · refine (sum_lt na nb va vb xa xb w hra hrb hca.1 hcb.1 (by omega) (by omega) hca hcb hn hlt).mono ?_
      rintro e w' ⟨hbe, v, cs, rfl, h1, h2, h3⟩
      exact ⟨hbe, _, rfl, isInt_mk nb h1 h2 (by rw [h3]; cases na <;> cases nb <;> first | exact absurd rfl hn | (simp [sgn]; omega))⟩
    · refine (sum_ge na nb va vb xa xb w hra hrb hca.1 hcb.1 (by omega) (by omega) hca hcb hn hle).mono ?_
      rintro e w' ⟨hbe, v, cs, rfl, h1, h2, h3⟩
      exact ⟨hbe, _, rfl, isInt_mk na h1 h2 (by rw [h3]; cases na <;> cases nb <;> first | exact absurd rfl hn | (simp [sgn]; omega))⟩

end Go.Proofs.YtlghjfpkfdnfoaaDoor

/- num.negative, num.difference; num.product over integers -/
namespace Go.Proofs.YtlghjfpkfdnfoaaDoor
open Go Go.RowKit Go.Shelf

theorem RowAt.below {W W' : World} {b : Nat} {t : TypeId} {cs : List Value} (h : RowAt W b t cs) (hb : Below W.heap.size W W') : RowAt W' b t cs := (hb.block _ h.lt).trans h

set_option maxHeartbeats 1000000 in
set_option maxRecDepth 100000 in
theorem negative_any (b : Value) (j : Int) (w : World) (hb : IsInt w b j) :
    Calls Tryd.prog 103 #[b] w fun e w' => Below w.heap.size w w' ∧ ∃ v, e = .returned v ∧ IsInt w' v (-j) := by
  obtain ⟨nb, vb, xb, rfl, hrb, hcb, hnb, rfl⟩ := hb
  have H := Lib.hid hrb
  obtain ⟨ab, cb, rfl, hc, hm⟩ := hrb.form
  go_enter Tryd.func103, Tryd.ntmps103
  have b0 := (Below.refl w.heap.size w).alloc (Nat.le_refl _) (.cells #[.bool nb, .slice ab xb.length cb] 24)
  have r0 : RowAt ((w.alloc (.cells #[.bool nb, .slice ab xb.length cb] 24)).alloc (.cells #[.bool false, .slice none 0 0] 24)) (w.heap.size + 1) 24 [.bool false, .slice none 0 0] := by
    have := RowAt.new (w.alloc (.cells #[.bool nb, .slice ab xb.length cb] 24)) 24 [.bool false, .slice none 0 0]
    rwa [World.size_alloc] at this
  have R0 := Lib.hid r0
  have B0 := Lib.hid (b0.alloc (by simp) (.cells #[.bool false, .slice none 0 0] 24))
  clear b0 r0
  go_wp2_with (go_at_call 63; refine (signed_any _ _ _ _ _).mono ?_; rintro e w'' ⟨hbe2, rfl⟩; have r1 := R0.out.below hbe2; have q1 := r1.cell 0; have q2 := r1.cell 1; have q3 := r1.frozen 0; have q4 := r1.frozen 1; simp only [List.getElem?_cons_zero, List.getElem?_cons_succ] at q1 q2)
  obtain ⟨s1, s2⟩ := two_reads (b := w.heap.size + 1) q1 q2 (.bool (!nb && decide (0 < xb.length))) (.slice ab xb.length cb)
  have hb9 := B0.out.trans (hbe2.mono (by simp; omega))
  have hk := two_kept (b := w.heap.size + 1) (H.out.below hb9) q1 q2 (.bool (!nb && decide (0 < xb.length))) (.slice ab xb.length cb)
  refine bodyPost_ret (v := .agg #[.bool (!nb && decide (0 < xb.length)), .slice ab xb.length cb]) (by simp [results, Tryd.results103, go_sem, loadCellsFrom, s1, s2]) rfl ⟨(hb9.setCell (by simp) _).setCell (by simp) _, _, rfl, isInt_mk (!nb) hk hcb (by cases nb <;> simp [sgn])⟩

set_option maxHeartbeats 1000000 in
set_option maxRecDepth 100000 in
theorem difference_any (a b : Value) (i j : Int) (k : Nat) (w : World) (ha : IsInt w a i) (hb : IsInt w b j) (hk : k ≤ 100000) (hi : i.natAbs < B32 ^ k) (hj : j.natAbs < B32 ^ k) :
    Calls Tryd.prog 68 #[a, b] w fun e w' => Below w.heap.size w w' ∧ ∃ v, e = .returned v ∧ IsInt w' v (i - j) := by
  have hj' : (-j).natAbs < B32 ^ k := by rwa [Int.natAbs_neg]
  have HJ := Lib.hid hj'
  have HI := Lib.hid hi
  clear hj' hi hj
  obtain ⟨na, va, xa, rfl, hra, hka, hna, hia⟩ := ha
  obtain ⟨nb, vb, xb, rfl, hrb, hkb, hnb, hjb⟩ := hb
  have h0 := twoInts_start (na := na) (nb := nb) hra hrb
  obtain ⟨aa, ca, rfl, hca, hma⟩ := hra.form
  obtain ⟨ab, cb, rfl, hcb, hmb⟩ := hrb.form
  have H0 := Lib.hid h0
  clear h0
  go_enter Tryd.func68, Tryd.ntmps68
  go_wp2_with fail
  go_region_held3 (fun W => W.cell? ⟨w.heap.size, 0, none⟩ = some (.bool na) ∧ W.cell? ⟨w.heap.size, 1, none⟩ = some (.slice aa xa.length ca) ∧ W.cell? ⟨w.heap.size + 1, 0, none⟩ = some (.bool nb) ∧ W.cell? ⟨w.heap.size + 1, 1, none⟩ = some (.slice ab xb.length cb) ∧ TwoRest w (.slice aa xa.length ca) (.slice ab xb.length cb) xa xb W)
    (first | exact ⟨H0.out.1, H0.out.2.1, H0.out.2.2.1, H0.out.2.2.2.1, H0.out.2.2.2.2.drew⟩ | (go_split_ands; exact twoInts_step (by assumption) (by assumption) (by assumption) (by assumption) (by assumption) (by assumption)) | (go_split_ands; exact twoInts_store (by assumption) (by assumption) (by assumption) (by assumption) (by assumption) _ _ _ _))
    (first | (go_at_call 103; go_split_ands; refine (negative_any _ j _ ⟨nb, _, xb, rfl, TwoRest.rb (by assumption), hkb, hnb, hjb⟩).mono ?_; rintro e w' ⟨hbe, v, rfl, n2, v2, x2, rfl, hr2, hk2, hn2, hi2⟩; obtain ⟨a2, c2, rfl, hc2, hm2⟩ := hr2.form) | (go_at_call 67; go_split_ands; refine (sum_any _ _ i (-j) k _ ⟨na, _, xa, rfl, TwoRest.ra (by assumption), hka, hna, hia⟩ ⟨n2, _, x2, rfl, by assumption, hk2, hn2, hi2⟩ hk HI.out HJ.out).mono ?_; rintro e w'' ⟨hbe2, v, rfl, n3, v3, x3, rfl, hr3, hk3, hn3, hi3⟩; obtain ⟨a3, c3, rfl, hc3, hm3⟩ := hr3.form; obtain ⟨u0, u1, u2, u3, q1, q2, q3, q4⟩ := TwoRest.cells (TwoRest.step (by assumption) hbe2)))
  obtain ⟨s1, s2⟩ := two_reads (b := w.heap.size + 1 + 1) q1 q2 (.bool n3) (.slice a3 x3.length c3)
  have hk := two_kept (b := w.heap.size + 1 + 1) hr3 q1 q2 (.bool n3) (.slice a3 x3.length c3)
  rename_i hT
  replace hT := hT.2.2.2.2.below
  go_wp2
  exact bodyPost_ret (v := .agg #[.bool n3, .slice a3 x3.length c3]) (by simp [results, Tryd.results68, go_sem, loadCellsFrom, s1, s2]) rfl ⟨hT, _, rfl, n3, _, x3, rfl, hk, hk3, hn3, by rw [← hi3]; omega⟩

set_option maxRecDepth 100000 in
theorem product_int (a b : Value) (i j : Int) (k : Nat) (w : World) (ha : IsInt w a i) (hb : IsInt w b j) (hk : k < 80) (hi : i.natAbs < B32 ^ 100000) (hj : j.natAbs < B32 ^ 100000) (hs : i.natAbs < B32 ^ k ∨ j.natAbs < B32 ^ k) :
    Calls Tryd.prog 69 #[a, b] w fun e w' => Below w.heap.size w w' ∧ ∃ v, e = .returned v ∧ IsInt w' v (i * j) := by
  obtain ⟨na, va, xa, rfl, hra, hca, hna, rfl⟩ := ha
  obtain ⟨nb, vb, xb, rfl, hrb, hcb, hnb, rfl⟩ := hb
  rw [sgn_natAbs] at hi hj hs
  rw [sgn_natAbs] at hs
  have la := canon_length_le hca hi
  have lb := canon_length_le hcb hj
  have hm : min xa.length xb.length < 80 := by
    rcases hs with h | h
    · have := canon_length_le hca h; omega
    · have := canon_length_le hcb h; omega
  refine (product_small na nb va vb xa xb w hra hrb hca.1 hcb.1 la lb hm).mono ?_
  rintro e w' ⟨hbe, v, cs, rfl, h1, h2, h3⟩
  exact ⟨hbe, _, rfl, isInt_mk _ h1 h2 (by rw [h3]; cases na <;> cases nb <;> simp [sgn, Int.neg_mul, Int.mul_neg])⟩

end Go.Proofs.YtlghjfpkfdnfoaaDoor

/- num.attempt: what panics within ends the work, and becomes the error -/
namespace Go.Proofs.YtlghjfpkfdnfoaaDoor
open Go Go.RowKit Go.Shelf

set_option maxRecDepth 100000 in
theorem catch_panicking (p : Addr) (x : Value) (k : Int) (older : List PanicEntry) (w : World) (hc : w.cell? p = some x) (hz : w.frozen? p = false) :
    CallsD Tryd.prog 98 #[.pointer (some p)] (.panicking ({ v := .iface 27 (.int .i64 k), recovered := false } :: older)) w fun e u' w' =>
      e = .returned (.tuple #[]) ∧ u' = .panicking ({ v := .iface 27 (.int .i64 k), recovered := true } :: older) ∧ w' = w.setCell p (.int .i64 k) := by
  refine callsD_of_wpS Tryd.func98 rfl fun c₀ cs hu => ?_
  apply wpS_seq
  apply wpS_region
  simp [wpOpsS, go_sem, recoverD, hu, Tryd.ntmps98, Exit.thenS]
  have e0 : #[Value.pointer (some p)] ++ (Array.replicate 9 undef).setIfInBounds 3 (.iface 27 (.int .i64 k)) = #[.pointer (some p), undef, undef, undef, .iface 27 (.int .i64 k), undef, undef, undef, undef, undef] := rfl
  rw [e0]
  refine wpS_of_wp ?_
  have hta : ∀ W, (Instr.typeAssert (.iface 27 (.int .i64 k)) 20 27 true).run Tryd.prog W = .ok (.tuple #[.int .i64 k, .bool true]) W := fun W => by
    simp [Instr.typeAssert, go_sem]
  go_wp2
  simp_all [bodyPostS, results, Tryd.results98]

set_option maxRecDepth 100000 in
theorem catch_idle (p : Addr) (w : World) :
    CallsD Tryd.prog 98 #[.pointer (some p)] .returning w fun e u' w' => e = .returned (.tuple #[]) ∧ u' = .returning ∧ w' = w := by
  refine callsD_of_wpS Tryd.func98 rfl fun c₀ cs hu => ?_
  apply wpS_seq
  apply wpS_region
  simp [wpOpsS, go_sem, recoverD, hu, Tryd.ntmps98, Exit.thenS]
  have e0 : #[Value.pointer (some p)] ++ (Array.replicate 9 undef).setIfInBounds 3 Value.nilIface = #[.pointer (some p), undef, undef, undef, Value.nilIface, undef, undef, undef, undef, undef] := rfl
  rw [e0]
  refine wpS_of_wp ?_
  go_wp2
  cases c₀
  simp_all [bodyPostS, results, Tryd.results98]

theorem attempt_any (F : Nat) (cs : Array Value) (w : World) (Post : Int → World → Prop) (hF : ∀ W, (callFunc F cs).run Tryd.prog W = .ok (.enter F cs) W) (hpost : ∀ k W, Post k W → Boxed W w.heap.size 27 (.int .i64 0))
    (hc : Calls Tryd.prog F cs (w.alloc (.cells #[.int .i64 0] 27)) fun e W => (e = .returned (.tuple #[]) ∧ Post 0 W) ∨ ∃ k, e = .panicked [{ v := .iface 27 (.int .i64 k), recovered := false }] ∧ Post k W) :
    Calls Tryd.prog 57 #[.func (.func F) #[] cs] w fun e W' => ∃ k W, Post k W ∧ e = .returned (.int .i64 k) ∧ W' = W.setCell ⟨w.heap.size, 0, none⟩ (.int .i64 k) := by
  have hmf : ∀ (fn : Fn) (first cap : Array Value) (w : World), (Instr.makeFunc fn first cap).run Tryd.prog w = .ok (.func fn first cap) w := fun _ _ _ _ => rfl
  go_enter_defers Tryd.func57, Tryd.ntmps57
  go_wp2_with (refine hc.mono ?_; rintro e W (⟨rfl, hp⟩ | ⟨k, rfl, hp⟩) <;> have q1 := (hpost _ _ hp).cell <;> have q2 := (hpost _ _ hp).frozen)
  · refine leaves_cons (f := 98) (args := #[.pointer (some ⟨w.heap.size, 0, none⟩)]) (by simp) (by simp [go_sem]) ?_
    refine (catch_idle ⟨w.heap.size, 0, none⟩ _).mono ?_
    rintro e u' w'' ⟨rfl, rfl, rfl⟩
    simp [Leaves, settle, results, Tryd.results57, go_sem]
    rw [World.cell?_setCell_same _ _ _ q1]
    exact ⟨_, rfl, 0, W, hp, rfl, rfl⟩
  · refine leaves_cons (f := 98) (args := #[.pointer (some ⟨w.heap.size, 0, none⟩)]) (by simp) (by simp [go_sem]) ?_
    refine (catch_panicking ⟨w.heap.size, 0, none⟩ _ k [] _ q1 q2).mono ?_
    rintro e u' w'' ⟨rfl, rfl, rfl⟩
    simp [Leaves, settle, results, Tryd.results57, go_sem]
    rw [World.cell?_setCell_same _ _ _ q1]
    exact ⟨_, rfl, k, W, hp, rfl, rfl⟩
end Go.Proofs.YtlghjfpkfdnfoaaDoor

/- num.Check, num.demandFormed -/
namespace Go.Proofs.YtlghjfpkfdnfoaaDoor
open Go Go.RowKit Go.Shelf

theorem trimmed_of_last {xs : List Nat} (h : xs[xs.length - 1]?.getD 0 ≠ 0) : trimmed xs = xs := by
  rcases List.eq_nil_or_concat xs with rfl | ⟨ys, y, rfl⟩
  · rfl
  · simp at h
    simp [trimmed, h]

/-- an integer of the API: the sign, the limbs; whether it is formed -/
def IntAt (w : World) (v : Value) (neg : Bool) (xs : List Nat) : Prop := ∃ va, v = .agg #[.bool neg, va] ∧ Reads .u32 w va xs ∧ Limbs xs
def formedB (neg : Bool) (xs : List Nat) : Bool := decide (xs.length ≤ 300) && decide (trimmed xs = xs) && !(neg && decide (xs.length = 0))

set_option maxHeartbeats 1000000 in
set_option maxRecDepth 100000 in
theorem check_ok (v : Value) (neg : Bool) (xs : List Nat) (w : World) (h : IntAt w v neg xs) (hf : formedB neg xs = true) :
    Calls Tryd.prog 17 #[v] w fun e w' => Below w.heap.size w w' ∧ e = .returned (.int .i64 0) := by
  obtain ⟨va, rfl, hr, hl⟩ := h
  obtain ⟨a, c, rfl, hc, hm⟩ := hr.form
  unfold maxLen at hm
  simp only [formedB, Bool.and_eq_true, decide_eq_true_eq, Bool.not_eq_true', Bool.and_eq_false_iff, decide_eq_false_iff_not] at hf
  obtain ⟨⟨h1, h2⟩, h3⟩ := hf
  by_cases hx : xs.length = 0
  · have h4 : neg = false := by rcases h3 with h | h; exact h; exact absurd hx h
    subst h4
    go_enter Tryd.func17, Tryd.ntmps17
    go_wp2
    exact bodyPost_ret (v := .int .i64 0) (by simp [results, Tryd.results17, go_sem]) rfl ⟨(Below.refl _ _).alloc (Nat.le_refl _) _, rfl⟩
  · have he : ((xs.length - 1 : Nat) : Int) = (xs.length : Int) - 1 := by omega
    have hlast := canon_last (xs := xs) ⟨hl, h2⟩ (by intro e; subst e; simp at hx)
    have b0 := (Below.refl w.heap.size w).alloc (Nat.le_refl _) (.cells #[.bool neg, .slice a xs.length c] 24)
    have hcell := (hr.below b0).cell (xs.length - 1) (by omega)
    have hix := fun W => hr.index und_limbs size_limb (P := Tryd.prog) (xs.length - 1) .i64 W (by omega)
    rw [he] at hix
    obtain ⟨top, hT⟩ : ∃ top, xs[xs.length - 1]?.getD 0 = top := ⟨_, rfl⟩
    rw [hT] at hcell hlast
    generalize xs.length - 1 = k at *
    have hne : ¬ (top : Int) = 0 := by omega
    go_enter Tryd.func17, Tryd.ntmps17
    go_wp2
    exact bodyPost_ret (v := .int .i64 0) (by simp [results, Tryd.results17, go_sem]) rfl ⟨(Below.refl _ _).alloc (Nat.le_refl _) _, rfl⟩

set_option maxHeartbeats 1000000 in
set_option maxRecDepth 100000 in
theorem check_no (v : Value) (neg : Bool) (xs : List Nat) (w : World) (h : IntAt w v neg xs) (hf : formedB neg xs = false) :
    Calls Tryd.prog 17 #[v] w fun e w' => Below w.heap.size w w' ∧ e = .returned (.int .i64 1) := by
  obtain ⟨va, rfl, hr, hl⟩ := h
  obtain ⟨a, c, rfl, hc, hm⟩ := hr.form
  unfold maxLen at hm
  by_cases h1 : 300 < xs.length
  · clear hf
    go_enter Tryd.func17, Tryd.ntmps17
    go_wp2
    exact bodyPost_ret (v := .int .i64 1) (by simp [results, Tryd.results17, go_sem]) rfl ⟨(Below.refl _ _).alloc (Nat.le_refl _) _, rfl⟩
  by_cases hx : xs.length = 0
  · have h4 : neg = true := by
      have : xs = [] := List.eq_nil_of_length_eq_zero hx
      subst this
      cases neg <;> simp_all [formedB, trimmed]
    subst h4
    clear hf
    go_enter Tryd.func17, Tryd.ntmps17
    go_wp2
    exact bodyPost_ret (v := .int .i64 1) (by simp [results, Tryd.results17, go_sem]) rfl ⟨(Below.refl _ _).alloc (Nat.le_refl _) _, rfl⟩
  · have hlast : xs[xs.length - 1]?.getD 0 = 0 := by
      apply Classical.byContradiction
      intro hc
      have := trimmed_of_last hc
      simp_all [formedB]
    clear hf
    have he : ((xs.length - 1 : Nat) : Int) = (xs.length : Int) - 1 := by omega
    have b0 := (Below.refl w.heap.size w).alloc (Nat.le_refl _) (.cells #[.bool neg, .slice a xs.length c] 24)
    have hcell := (hr.below b0).cell (xs.length - 1) (by omega)
    have hix := fun W => hr.index und_limbs size_limb (P := Tryd.prog) (xs.length - 1) .i64 W (by omega)
    rw [he] at hix
    rw [hlast] at hcell
    generalize xs.length - 1 = k at *
    go_enter Tryd.func17, Tryd.ntmps17
    go_wp2
    exact bodyPost_ret (v := .int .i64 1) (by simp [results, Tryd.results17, go_sem]) rfl ⟨(Below.refl _ _).alloc (Nat.le_refl _) _, rfl⟩

end Go.Proofs.YtlghjfpkfdnfoaaDoor
