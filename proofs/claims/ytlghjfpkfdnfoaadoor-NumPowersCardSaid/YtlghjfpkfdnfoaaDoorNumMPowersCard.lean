/- zermelolaw01.NumPowers -/
import Derived.Test.YtlghjfpkfdnfoaaDoorNumMRefRoot
import Derived.Test.YtlghjfpkfdnfoaaDoorNumMRefText
import Derived.Test.YtlghjfpkfdnfoaaDoorNumMTexts
import Derived.Test.YtlghjfpkfdnfoaaDoorNumMSplit
import Derived.Test.YtlghjfpkfdnfoaaDoorTie
import Derived.Test.YtlghjfpkfdnfoaaDoorCards
import Derived.SevenTiedAt
import Derived.Below
import Derived.Carry
namespace Go.Proofs.YtlghjfpkfdnfoaaDoor
open Go Go.RowKit Go.Shelf

set_option maxHeartbeats 1000000 in
set_option maxRecDepth 100000 in
/-- an answer and the specification's, at one value -/
theorem got_same (n : Bool) (a : Option Addr) (m c : Nat) (k : Int) (n' : Bool) (a' : Option Addr) (m' c' : Nat) (i : Int) (w : World) (hi : IsInt w (.agg #[.bool n, .slice a m c]) i) (hi' : IsInt w (.agg #[.bool n', .slice a' m' c']) i) :
    Calls Tryd.prog 31 #[.agg #[.bool n, .slice a m c], .int .i64 k, .agg #[.bool n', .slice a' m' c', .int .i64 k]] w fun e w' => Below w.heap.size w w' ∧ e = .returned (.bool true) := by
  have KS := fun X (hX : Below w.heap.size w X) => rsame_eq _ _ i X (hi.below hX) (hi'.below hX)
  have b1 := (Below.refl w.heap.size w).alloc (Nat.le_refl _) (.cells #[.bool n, .slice a m c] 24)
  have bw := b1.alloc b1.size (.cells #[.bool n', .slice a' m' c', .int .i64 k] 43)
  go_enter Tryd.func31, Tryd.ntmps31
  go_wp2_with (go_at_call 25; refine (KS _ bw).mono ?_; rintro e w1 ⟨hb1, rfl⟩)
  go_ret
  exact ⟨bw.trans (hb1.mono bw.size), rfl⟩
theorem zeroInt_isInt {w : World} {v : Value} (h : v = zeroInt) : IsInt w v 0 := by
  subst h
  exact ⟨false, _, [], rfl, Reads.nil _ _, canon_nil, rfl, by simp [sgn, val]⟩

set_option exponentiation.threshold 100000 in
theorem powOut_val {f : Bool} {n i : Int} : ∃ k r, ∀ W v k', PowOut f n i k' W v → k' = k ∧ IsInt W v r := by
  unfold PowOut
  by_cases h1 : f = true ∧ 0 ≤ n ∧ n ≤ 9600
  · by_cases h2 : (i ^ n.toNat).natAbs < B32 ^ 300
    · exact ⟨0, i ^ n.toNat, fun W v k' h => by rw [if_pos h1, if_pos h2] at h; exact h⟩
    · exact ⟨3, 0, fun W v k' h => by rw [if_pos h1, if_neg h2] at h; exact ⟨h.1, zeroInt_isInt h.2⟩⟩
  · exact ⟨1, 0, fun W v k' h => by rw [if_neg h1] at h; exact ⟨h.1, zeroInt_isInt h.2⟩⟩
theorem rootOut_val {f : Bool} {n i : Int} : ∃ k r, ∀ W v k', RootOut f n i k' W v → k' = k ∧ IsInt W v r := by
  unfold RootOut
  by_cases h1 : f = true ∧ 1 ≤ n ∧ n ≤ 100
  · by_cases h2 : i < 0 ∧ n % 2 = 0
    · exact ⟨5, 0, fun W v k' h => by rw [if_pos h1, if_pos h2] at h; exact ⟨h.1, zeroInt_isInt h.2⟩⟩
    · obtain ⟨s, hs⟩ := isRoot_ex i.natAbs (show n.toNat ≠ 0 by omega)
      obtain ⟨R, hR⟩ : ∃ R, RootVal i n.toNat R := ⟨_, s, hs, rfl⟩
      refine ⟨0, R, fun W v k' h => ?_⟩
      rw [if_pos h1, if_neg h2] at h
      obtain ⟨h3, r, hI, hr⟩ := h
      rw [rootVal_unique hR hr]
      exact ⟨h3, hI⟩
  · exact ⟨1, 0, fun W v k' h => by rw [if_neg h1] at h; exact ⟨h.1, zeroInt_isInt h.2⟩⟩

/-- the variables of NumPowers -/
structure PwL (w w1 : World) (na : Bool) (aa : Option Addr) (ma ca : Nat) (b7 : Nat) (n7 : Bool) (a7 : Option Addr) (m7 c7 : Nat) (b9 : Nat) (n9 : Bool) (a9 : Option Addr) (m9 c9 : Nat) (X : World) : Prop where
  r3 : RowAt X w.heap.size 24 [.bool na, .slice aa ma ca]
  r7 : RowAt X b7 24 [.bool n7, .slice a7 m7 c7]
  r9 : RowAt X b9 24 [.bool n9, .slice a9 m9 c9]
  below : Below w.heap.size w X
  more : Below w1.heap.size w1 X
section
variable {w w1 X X' : World} {na n7 n9 : Bool} {aa a7 a9 : Option Addr} {ma ca m7 c7 m9 c9 b7 b9 : Nat}
theorem pwl_of (h : PwL w w1 na aa ma ca b7 n7 a7 m7 c7 b9 n9 a9 m9 c9 X) : X.cell? ⟨w.heap.size, 0, none⟩ = some (.bool na) ∧ X.cell? ⟨w.heap.size, 1, none⟩ = some (.slice aa ma ca) ∧ X.cell? ⟨b7, 0, none⟩ = some (.bool n7) ∧ X.cell? ⟨b7, 1, none⟩ = some (.slice a7 m7 c7) ∧ X.cell? ⟨b9, 0, none⟩ = some (.bool n9) ∧ X.cell? ⟨b9, 1, none⟩ = some (.slice a9 m9 c9) ∧ PwL w w1 na aa ma ca b7 n7 a7 m7 c7 b9 n9 a9 m9 c9 X := ⟨h.r3.cell 0, h.r3.cell 1, h.r7.cell 0, h.r7.cell 1, h.r9.cell 0, h.r9.cell 1, h⟩
theorem pwl_step (h : PwL w w1 na aa ma ca b7 n7 a7 m7 c7 b9 n9 a9 m9 c9 X) (hb : Below X.heap.size X X') : PwL w w1 na aa ma ca b7 n7 a7 m7 c7 b9 n9 a9 m9 c9 X' := ⟨h.r3.below hb, h.r7.below hb, h.r9.below hb, h.below.trans (hb.mono h.below.size), h.more.trans (hb.mono h.more.size)⟩
theorem pwl_drew (h : PwL w w1 na aa ma ca b7 n7 a7 m7 c7 b9 n9 a9 m9 c9 X) : PwL w w1 na aa ma ca b7 n7 a7 m7 c7 b9 n9 a9 m9 c9 X.drew := ⟨h.r3, h.r7, h.r9, h.below.drew, h.more.drew⟩
end

set_option maxHeartbeats 4000000 in
set_option maxRecDepth 100000 in
theorem powers_any (va : Value) (na : Bool) (xa : List Nat) (n root : Int) (w : World) (ha : IntAt w va na xa) (hT : DigitsAt w) :
    Calls Tryd.prog 6 #[va, .int .i64 n, .int .i64 root] w fun e w' => Below w.heap.size w w' ∧ e = .returned (.bool true) := by
  have HA := fun X (hX : Below w.heap.size w X) => ha.below hX
  obtain ⟨sa, rfl, hra, hla⟩ := ha
  obtain ⟨aa, ca, rfl, hca, hma⟩ := hra.form
  have hbe := (Below.refl w.heap.size w).alloc (Nat.le_refl _) (.cells #[.bool na, .slice aa xa.length ca] 24)
  have r1 := RowAt.new w 24 [.bool na, .slice aa xa.length ca]
  generalize hw1 : w.alloc (.cells #[.bool na, .slice aa xa.length ca] 24) = wc at *
  have HW := Lib.hid hw1
  have d1 := r1.cell 0
  have d2 := r1.cell 1
  simp only [List.getElem?_cons_zero, List.getElem?_cons_succ] at d1 d2
  have hnew := RowAt.new wc 24 [.bool na, .slice aa xa.length ca]
  have hB : Below wc.heap.size wc (wc.alloc (.cells #[.bool na, .slice aa xa.length ca] 24)) := (Below.refl _ _).alloc (Nat.le_refl _) _
  have hf := few_list [(na, .slice aa xa.length ca, xa)] 30 wc.heap.size _ hnew (by simp) (by
    intro it hit
    simp only [List.mem_cons, List.not_mem_nil, or_false] at hit
    subst hit
    exact ⟨(hra.below hbe).below hB, hla⟩)
  simp only [List.length_cons, List.length_nil] at hf
  have hsz := hbe.size
  have hB2 := hbe.trans (hB.mono hsz)
  have DT := fun X (hX : Below w.heap.size w X) => hT.below hX
  clear hra hla hca hma hnew hw1
  go_enter Tryd.func6, Tryd.ntmps6
  go_upto_region 1 with (fail)
  rw [HW.out]
  cases hall : List.all [(na, Value.slice aa xa.length ca, xa)] (fewB 30) with
  | false =>
    rw [hall] at hf
    clear hall HA
    go_wp2_with (first
      | (go_at_call 15; refine hf.mono ?_; rintro e w2 ⟨hb2, rfl⟩; have B3 := hB2.trans (hb2.mono hB2.size))
      | (go_at_call 16; refine (sane_any _ (DT _ B3)).mono ?_; rintro e w3 ⟨hb3, rfl⟩))
    go_ret
    exact ⟨B3.trans (hb3.mono B3.size), rfl⟩
  | true =>
    rw [hall] at hf
    have hl30 : xa.length ≤ 30 := by
      simp only [List.all_cons, List.all_nil, fewB, Bool.and_true, decide_eq_true_eq] at hall
      omega
    have kP := fun X (hX : Below w.heap.size w X) => Pow_any _ na xa n X (HA X hX)
    have kR := fun X (hX : Below w.heap.size w X) => Root_any _ na xa root X (HA X hX) hl30
    have kQ := fun X (hX : Below w.heap.size w X) => rpow_any _ na xa n X (HA X hX)
    have kT := fun X (hX : Below w.heap.size w X) => rroot_any _ na xa root X (HA X hX)
    obtain ⟨k1, i1, hv1⟩ := powOut_val (f := formedB na xa) (n := n) (i := sgn na (val xa))
    obtain ⟨k2, i2, hv2⟩ := rootOut_val (f := formedB na xa) (n := root) (i := sgn na (val xa))
    clear hall HA hl30
    go_upto_region 3 with (go_at_call 15; refine hf.mono ?_; rintro e w2 ⟨hb2, rfl⟩)
    have B3 := hB2.trans (hb2.mono hB2.size)
    have R3 := r1.below (hB.trans (hb2.mono hB.size))
    have e1 := R3.cell 0
    have e2 := R3.cell 1
    simp only [List.getElem?_cons_zero, List.getElem?_cons_succ] at e1 e2
    clear hf d1 d2 r1 hB hb2 hB2 hbe HW hsz hT
    go_upto_region 4 with (go_at_call 37; with_reducible refine (kP _ B3).mono ?_; rintro e w3 ⟨hb3, n7, a7, m7, c7, k7, rfl, ht1⟩)
    obtain ⟨rfl, i7⟩ := hv1 _ _ _ ht1
    have hal7 := (Below.refl w3.heap.size w3).alloc (Nat.le_refl _) (.cells #[.bool n7, .slice a7 m7 c7] 24)
    have hg := hb3.trans (hal7.mono hb3.size)
    have B4 := B3.trans (hg.mono B3.size)
    have R7 := RowAt.new w3 24 [.bool n7, .slice a7 m7 c7]
    have R4 := R3.below hg
    replace i7 := i7.below hal7
    clear kP ht1 e1 e2 R3 B3 hal7 hg hb3
    generalize w3.alloc (.cells #[.bool n7, .slice a7 m7 c7] 24) = w4 at *
    generalize w3.heap.size = b7 at *
    have e1 := R4.cell 0
    have e2 := R4.cell 1
    simp only [List.getElem?_cons_zero, List.getElem?_cons_succ] at e1 e2
    go_upto_region 5 with (go_at_call 38; with_reducible refine (kR _ B4).mono ?_; rintro e w5 ⟨hb5, n9, a9, m9, c9, k9, rfl, ht2⟩)
    obtain ⟨rfl, i9⟩ := hv2 _ _ _ ht2
    have hal9 := (Below.refl w5.heap.size w5).alloc (Nat.le_refl _) (.cells #[.bool n9, .slice a9 m9 c9] 24)
    have hg := hb5.trans (hal9.mono hb5.size)
    have B5 := B4.trans (hg.mono B4.size)
    have R9 := RowAt.new w5 24 [.bool n9, .slice a9 m9 c9]
    have R5 := R4.below hg
    have R77 := R7.below hg
    replace i7 := i7.below hg
    replace i9 := i9.below hal9
    clear kR ht2 e1 e2 R4 B4 R7 hal9 hg hb5
    generalize w5.alloc (.cells #[.bool n9, .slice a9 m9 c9] 24) = w6 at *
    generalize w5.heap.size = b9 at *
    have hL : PwL w w6 na aa xa.length ca b7 n7 a7 m7 c7 b9 n9 a9 m9 c9 w6 := ⟨R5, R77, R9, B5, Below.refl _ _⟩
    have DG := DT _ B5
    clear R5 R77 R9 B5 DT
    have hD := Lib.hid (pwl_of (pwl_drew hL))
    have kS := fun X (hX : PwL w w6 na aa xa.length ca b7 n7 a7 m7 c7 b9 n9 a9 m9 c9 X) => sane_any X (DG.below hX.more)
    have kQ2 := fun X (hX : PwL w w6 na aa xa.length ca b7 n7 a7 m7 c7 b9 n9 a9 m9 c9 X) => kQ X hX.below
    have kT2 := fun X (hX : PwL w w6 na aa xa.length ca b7 n7 a7 m7 c7 b9 n9 a9 m9 c9 X) => kT X hX.below
    have kG := fun X n p m c (hX : PwL w w6 na aa xa.length ca b7 n7 a7 m7 c7 b9 n9 a9 m9 c9 X) (h : IsInt X (.agg #[.bool n, .slice p m c]) i1) => got_same n7 a7 m7 c7 k7 n p m c i1 X (i7.below hX.more) h
    have kH := fun X n p m c (hX : PwL w w6 na aa xa.length ca b7 n7 a7 m7 c7 b9 n9 a9 m9 c9 X) (h : IsInt X (.agg #[.bool n, .slice p m c]) i2) => got_same n9 a9 m9 c9 k9 n p m c i2 X (i9.below hX.more) h
    clear DG hL kQ kT i7 i9
    go_region_held3 (fun X => X.cell? ⟨w.heap.size, 0, none⟩ = some (.bool na) ∧ X.cell? ⟨w.heap.size, 1, none⟩ = some (.slice aa xa.length ca) ∧ X.cell? ⟨b7, 0, none⟩ = some (.bool n7) ∧ X.cell? ⟨b7, 1, none⟩ = some (.slice a7 m7 c7) ∧ X.cell? ⟨b9, 0, none⟩ = some (.bool n9) ∧ X.cell? ⟨b9, 1, none⟩ = some (.slice a9 m9 c9) ∧ PwL w w6 na aa xa.length ca b7 n7 a7 m7 c7 b9 n9 a9 m9 c9 X)
      (first | exact hD.out | (go_split_ands; exact pwl_of (pwl_step (by assumption) hbc)))
      (first
        | (go_at_call 16; go_split_ands; with_reducible refine (kS _ (by assumption)).mono ?_; rintro e wk ⟨hbc, rfl⟩)
        | (go_at_call 39; go_split_ands; with_reducible refine (kQ2 _ (by assumption)).mono ?_; rintro e wk ⟨hbc, nA, pA, mA, cA, kA, rfl, hA⟩; obtain ⟨rfl, jA⟩ := hv1 _ _ _ hA)
        | (go_at_call 40; go_split_ands; with_reducible refine (kT2 _ (by assumption)).mono ?_; rintro e wk ⟨hbc, nB, pB, mB, cB, kB, rfl, hB⟩; obtain ⟨rfl, jB⟩ := hv2 _ _ _ hB)
        | (go_at_call 31; go_split_ands; with_reducible refine (kG _ _ _ _ _ (by assumption) jA).mono ?_; rintro e wk ⟨hbc, rfl⟩)
        | (go_at_call 31; go_split_ands; with_reducible refine (kH _ _ _ _ _ (by assumption) jB).mono ?_; rintro e wk ⟨hbc, rfl⟩))
    rename_i hX
    obtain ⟨-, -, -, -, -, -, O1⟩ := hX
    go_wp2
    go_ret
    exact ⟨O1.below, rfl⟩
end Go.Proofs.YtlghjfpkfdnfoaaDoor

/- zermelolaw01.NumPowers: the row and its card -/
namespace Go.Proofs.YtlghjfpkfdnfoaaDoor
open Go.ChangeShapes Go.WideShapes Go.ChangeAt Go.RowKit Go.Joins

set_option maxRecDepth 100000 in
theorem powers_lifted (os : Os) (started : os.Started) (H : Type) (enc : TypeId × Value → H) :
    ReturnsInHanded {} Tryd.checked os 6 .any (fun w args => (Rows.numPowersSpec.pre enc Tryd.prog Tryd.f6 [] false w args ∧ laidMetH Tryd.prog theLaid w) ∧ sizedMet enc Tryd.prog Tryd.f6 (OpenSpec.ofChange Rows.numPowersSpec) false w args)
      (Rows.numPowersSpec.post enc Tryd.prog Tryd.f6 false true false false) := by
  refine returnsInHanded_of_change_and (C := Tryd.checked) (X := fun w _ => laidMetH Tryd.prog theLaid w) (fun _ _ _ hh h => h.of_heap hh) own started (by kernel_rfl) Tryd.func6
    (ChangeSpec.witness_shaped (enc := enc) (C := Tryd.checked) (os := os) (X := fun w _ => laidMetH Tryd.prog theLaid w) false (World.doorLaid Tryd.prog 400 os) #[.agg #[.bool false, .slice none 0 0], .int .i64 0, .int .i64 0] 8 rfl (World.shaped_of_RefB (by kernel_rfl) (by kernel_rfl)) (by kernel_rfl) (by kernel_rfl) (by kernel_rfl) (door_met os _)) ?_
  intro W base args ds gs before hval0 hW _ _ hL _
  have hval : ∀ (j : Nat) t v, Tryd.f6.params[j]? = some t → args[j]? = some v → Value.okWide Tryd.prog W .any base t v := hval0
  have hW' := hW
  obtain ⟨p, q, hA0, hV, rfl, hfz, hnd⟩ := hW
  have hA : DataW.TrodAll enc Tryd.prog W 0 (fun _ => true) true Tryd.f6.params.toList args.toList ds p := hA0
  rw [Tryd.params6] at hA hval
  obtain ⟨v0, vs0, d0, ds0, p0, q0, hargs, rfl, rfl, h0, r0⟩ := trodAll_cons hA
  obtain ⟨v1, vs1, d1, ds1, p1, q1, rfl, rfl, rfl, h1, r1⟩ := trodAll_cons r0
  obtain ⟨v2, vs2, d2, ds2, p2, q2, rfl, rfl, rfl, h2, r2⟩ := trodAll_cons r1
  obtain ⟨rfl, rfl, rfl⟩ := trodAll_nil r2
  obtain rfl : args = #[v0, v1, v2] := by cases args; simp_all
  obtain ⟨rfl, rfl⟩ := trodVars_none hV
  have lt0 : ∀ x ∈ p0, x.block < W.heap.size := by obtain ⟨m, hm⟩ := h0; exact DataW.trod_lt m _ _ _ hm
  obtain ⟨n0, x0, a0⟩ := open_Int (hval 0 24 v0 rfl rfl) h0
  obtain ⟨i1, rfl, rfl, rfl, wn1⟩ := open_int Tryd.underlying3 (hval 1 3 v1 rfl rfl) h1
  obtain ⟨i2, rfl, rfl, rfl, wn2⟩ := open_int Tryd.underlying3 (hval 2 3 v2 rfl rfl) h2
  have hT := of_laid hL
  clear hA0 hval0
  refine (powers_any v0 n0 x0 i1 i2 W a0 hT).mono fun e W' ⟨bel, he⟩ => ?_
  subst he
  exact ⟨_, rfl, _, _, _, [], _, [], hW', trodAll_mk1 (shut_bool Tryd.underlying4 _), (trodAll_cons_mk (Below.trod laidOut (by kernel_rfl) (of_decide_eq_true (by kernel_rfl)) h0 bel lt0) (trodAll_cons_mk (shut_int Tryd.underlying3 wn1) (trodAll_cons_mk (shut_int Tryd.underlying3 wn2) trodAll_mk0))), rfl, bel.frame _, fun h => by cases h⟩

theorem powers_holds : Rows.NumPowersSaid :=
  OpenClaim.holds_of_wide 6 Tryd.f6 rfl rfl rfl rfl rfl rfl rfl ⟨rfl, rfl, rfl, rfl, rfl⟩ rfl rfl rfl rfl rfl (by kernel_rfl) Tryd.func6 (by kernel_rfl)
    (of_decide_eq_true (by kernel_rfl)) (by unfold Func.isWrapper; first | (rw [if_pos (by decide +kernel)]; kernel_rfl) | (rw [if_neg (by decide +kernel)]; exact ⟨rfl, rfl⟩))
    (fun os started H enc _ => powers_lifted os started H enc)

theorem powers_card : Rows.NumPowersCardSaid :=
  Claim7.holds_tied_plain_at .later [] [.data] true (true, "42a77e95b8ef9269488dac3a8c52bae1cf7a75fc7fd94978f00f86de717d5f2d") true
    powers_holds (fun _ h => by cases h) (by kernel_rfl) (fun _ h => by cases h) numPowers_row_tie rfl ⟨rfl, rfl⟩ (by kernel_rfl) rfl
    (fun f fn hf hfn => by
      obtain rfl : f = 6 := Option.some.inj ((show Tryd.prog.funcNamed "zermelo/zermelolaw01.NumPowers" = some 6 by kernel_rfl).symm.trans hf) |>.symm
      obtain rfl : fn = Tryd.f6 := (Option.some.inj (Tryd.func6.symm.trans hfn)).symm
      exact ⟨by kernel_rfl, fun j t ht => by
        rw [Tryd.params6] at ht
        have hm : t ∈ [24, 3, 3] := by simpa using Array.mem_of_getElem? ht
        have hall : ([24, 3, 3].all fun u => !Tryd.prog.wantsStandIn u) = true := by kernel_rfl
        exact (show Tryd.prog.wantsStandIn t = false by simpa using List.all_eq_true.1 hall t hm)⟩)
    (by kernel_rfl)
#print axioms powers_card
end Go.Proofs.YtlghjfpkfdnfoaaDoor
