/- zermelolaw01.NumTexts -/
import Derived.Test.YtlghjfpkfdnfoaaDoorNumMRefParse2
import Derived.Test.YtlghjfpkfdnfoaaDoorNumMTo
import Derived.Test.YtlghjfpkfdnfoaaDoorNumMOrder
import Derived.Deep.RegionHeld3
import Derived.Test.YtlghjfpkfdnfoaaDoorNumMRefDigits
import Derived.Test.YtlghjfpkfdnfoaaDoorTie
import Derived.Test.YtlghjfpkfdnfoaaDoorCards
import Derived.SevenTiedAt
import Derived.Below
import Derived.Carry
namespace Go.Proofs.YtlghjfpkfdnfoaaDoor
open Go Go.RowKit Go.Shelf

theorem bytes_map_ext {s t : ByteArray} (h : s.data.toList.map (·.toNat) = t.data.toList.map (·.toNat)) : s = t :=
  bytes_ext ((List.map_inj_right (f := fun (x : UInt8) => x.toNat) (fun _ _ e => UInt8.toNat_inj.1 e)).1 h)
theorem textOut_eq {f n : Bool} {b k k' : Int} {A : Nat} {s s' : ByteArray} (h : TextOut f n b A k (.string s)) (h' : TextOut f n b A k' (.string s')) : k = k' ∧ s = s' := by
  unfold TextOut at h h'
  by_cases hc : f = true ∧ 2 ≤ b ∧ b ≤ 36
  · rw [if_pos hc] at h h'
    obtain ⟨rfl, t, e, ht⟩ := h
    obtain ⟨rfl, t', e', ht'⟩ := h'
    cases e
    cases e'
    exact ⟨rfl, bytes_map_ext (ht.trans ht'.symm)⟩
  · rw [if_neg hc] at h h'
    obtain ⟨rfl, e⟩ := h
    obtain ⟨rfl, e'⟩ := h'
    cases e
    cases e'
    exact ⟨rfl, rfl⟩

set_option maxHeartbeats 1000000 in
set_option maxRecDepth 100000 in
/-- an answer of Parse and the specification's -/
theorem got_parse (n : Bool) (a : Option Addr) (m c : Nat) (k : Int) (n' : Bool) (a' : Option Addr) (m' c' : Nat) (k' : Int) (base : Int) (neg : Bool) (l : List UInt8) (w w0 : World) (hk : ∀ v xs, Reads .u32 w0 v xs → Reads .u32 w v xs) (h : ParseOut base neg l k w0 (.agg #[.bool n, .slice a m c])) (h' : ParseOut base neg l k' w (.agg #[.bool n', .slice a' m' c'])) :
    Calls Tryd.prog 31 #[.agg #[.bool n, .slice a m c], .int .i64 k, .agg #[.bool n', .slice a' m' c', .int .i64 k']] w fun e w' => Below w.heap.size w w' ∧ e = .returned (.bool true) := by
  have hz : ∀ v, v = zeroInt → IsInt w v 0 := by
    rintro v rfl
    exact ⟨false, _, [], rfl, Reads.nil _ _, canon_nil, rfl, by simp [sgn, val]⟩
  obtain ⟨i, rfl, hi, hi'⟩ : ∃ i, k = k' ∧ IsInt w (.agg #[.bool n, .slice a m c]) i ∧ IsInt w (.agg #[.bool n', .slice a' m' c']) i := by
    unfold ParseOut at h h'
    by_cases c1 : 2 ≤ base ∧ base ≤ 36
    · rw [if_pos c1] at h h'
      by_cases c2 : l = [] ∨ ¬ ∀ c ∈ l, digitVal c.toNat < base.toNat
      · rw [if_pos c2] at h h'
        exact ⟨0, h.1.trans h'.1.symm, hz _ h.2, hz _ h'.2⟩
      · rw [if_neg c2] at h h'
        exact ⟨_, h.1.trans h'.1.symm, h.2.keep hk, h'.2⟩
    · rw [if_neg c1] at h h'
      exact ⟨0, h.1.trans h'.1.symm, hz _ h.2, hz _ h'.2⟩
  have KS := fun X (hX : Below w.heap.size w X) => rsame_eq _ _ i X (hi.below hX) (hi'.below hX)
  clear h h' hz
  have b1 := (Below.refl w.heap.size w).alloc (Nat.le_refl _) (.cells #[.bool n, .slice a m c] 24)
  have bw := b1.alloc b1.size (.cells #[.bool n', .slice a' m' c', .int .i64 k] 43)
  go_enter Tryd.func31, Tryd.ntmps31
  go_wp2_with (go_at_call 25; refine (KS _ bw).mono ?_; rintro e w1 ⟨hb1, rfl⟩)
  go_ret
  exact ⟨bw.trans (hb1.mono bw.size), rfl⟩

/-- the variables of NumTexts -/
structure TtL (w w1 : World) (b9 : Nat) (s : ByteArray) (k : Int) (b10 : Nat) (n : Bool) (a : Option Addr) (m c : Nat) (X : World) : Prop where
  r9 : RowAt X b9 61 [.string s, .int .i64 k]
  r10 : RowAt X b10 24 [.bool n, .slice a m c]
  below : Below w.heap.size w X
  more : Below w1.heap.size w1 X
section
variable {w w1 X X' : World} {b9 b10 : Nat} {s : ByteArray} {k : Int} {n : Bool} {a : Option Addr} {m c : Nat}
theorem ttl_of (h : TtL w w1 b9 s k b10 n a m c X) : X.cell? ⟨b9, 0, none⟩ = some (.string s) ∧ X.cell? ⟨b9, 1, none⟩ = some (.int .i64 k) ∧ X.cell? ⟨b10, 0, none⟩ = some (.bool n) ∧ X.cell? ⟨b10, 1, none⟩ = some (.slice a m c) ∧ TtL w w1 b9 s k b10 n a m c X := ⟨h.r9.cell 0, h.r9.cell 1, h.r10.cell 0, h.r10.cell 1, h⟩
theorem ttl_step (h : TtL w w1 b9 s k b10 n a m c X) (hb : Below X.heap.size X X') : TtL w w1 b9 s k b10 n a m c X' := ⟨h.r9.below hb, h.r10.below hb, h.below.trans (hb.mono h.below.size), h.more.trans (hb.mono h.more.size)⟩
theorem ttl_drew (h : TtL w w1 b9 s k b10 n a m c X) : TtL w w1 b9 s k b10 n a m c X.drew := ⟨h.r9, h.r10, h.below.drew, h.more.drew⟩
end

set_option maxHeartbeats 4000000 in
set_option maxRecDepth 100000 in
theorem texts_any (va : Value) (na : Bool) (xa : List Nat) (base : Int) (s : ByteArray) (w : World) (ha : IntAt w va na xa) (hT : DigitsAt w) :
    Calls Tryd.prog 8 #[va, .int .i64 base, .string s] w fun e w' => Below w.heap.size w w' ∧ e = .returned (.bool true) := by
  have HA := fun X (hX : Below w.heap.size w X) => ha.below hX
  obtain ⟨sa, rfl, hra, hla⟩ := ha
  obtain ⟨aa, ca, rfl, hca, hma⟩ := hra.form
  obtain ⟨neg, l, hin⟩ := parseIn_ex s
  have hbe := (Below.refl w.heap.size w).alloc (Nat.le_refl _) (.cells #[.bool na, .slice aa xa.length ca] 24)
  have r1 := RowAt.new w 24 [.bool na, .slice aa xa.length ca]
  generalize hw1 : w.alloc (.cells #[.bool na, .slice aa xa.length ca] 24) = wc at *
  have HW := Lib.hid hw1
  have d1 := r1.cell 0
  have d2 := r1.cell 1
  simp only [List.getElem?_cons_zero, List.getElem?_cons_succ] at d1 d2
  have hnew := RowAt.new wc 24 [.bool na, .slice aa xa.length ca]
  have hB : Below wc.heap.size wc (wc.alloc (.cells #[.bool na, .slice aa xa.length ca] 24)) := (Below.refl _ _).alloc (Nat.le_refl _) _
  have hf := few_list [(na, .slice aa xa.length ca, xa)] 60 wc.heap.size _ hnew (by simp) (by
    intro it hit
    simp only [List.mem_cons, List.not_mem_nil, or_false] at hit
    subst hit
    exact ⟨(hra.below hbe).below hB, hla⟩)
  simp only [List.length_cons, List.length_nil] at hf
  have hsz := hbe.size
  have hB2 := hbe.trans (hB.mono hsz)
  have DT := fun X (hX : Below w.heap.size w X) => hT.below hX
  clear hra hla hca hma hnew hw1
  go_enter Tryd.func8, Tryd.ntmps8
  go_upto_region 1 with (fail)
  rw [HW.out]
  by_cases hgo : List.all [(na, Value.slice aa xa.length ca, xa)] (fewB 60) = true ∧ s.size ≤ 400
  · obtain ⟨hall, hs4⟩ := hgo
    rw [hall] at hf
    have hs5 : decide ((400 : Int) < (s.size : Int)) = false := decide_eq_false (by omega)
    have hs6 : decide (400 < s.size) = false := decide_eq_false (by omega)
    have hlen : l.length ≤ 400 := by
      have := size_toList s
      rw [hin.bytes] at this
      simp at this
      omega
    have kP := fun X => Parse_any s base neg l X hin hlen
    have kR := fun X => rparse_any s base neg l X hin hlen
    clear hall hin hlen hs4
    go_upto_region 3 with (go_at_call 15; refine hf.mono ?_; rintro e w2 ⟨hb2, rfl⟩)
    have B3 := hB2.trans (hb2.mono hB2.size)
    have R3 := r1.below (hB.trans (hb2.mono hB.size))
    have e1 := R3.cell 0
    have e2 := R3.cell 1
    simp only [List.getElem?_cons_zero, List.getElem?_cons_succ] at e1 e2
    have kT := Text_any _ na xa base w2 (HA w2 B3) (DT w2 B3)
    have kU := fun X (hX : Below w.heap.size w X) => rtext_any _ na xa base X (HA X hX)
    clear hf hs5 hs6 d1 d2 r1 hB hb2 hB2 hbe HW hsz HA hT
    go_upto_region 5 with (first
      | (go_at_call 46; with_reducible refine kT.mono ?_; rintro e w3 ⟨hb3, s1, k1, rfl, ht1⟩; have B4 := B3.trans (hb3.mono B3.size); have R4 := R3.below hb3; have e3 := R4.cell 0; have e4 := R4.cell 1; simp only [List.getElem?_cons_zero, List.getElem?_cons_succ] at e3 e4)
      | (go_at_call 47; with_reducible refine (kU _ B4).mono ?_; rintro e w4 ⟨hb4, s2, k2, rfl, ht2⟩))
    obtain ⟨rfl, rfl⟩ := textOut_eq ht1 ht2
    have B5 := B4.trans (hb4.mono B4.size)
    have hal9 := (Below.refl w4.heap.size w4).alloc (Nat.le_refl _) (.cells #[.string s1, .int .i64 k1] 61)
    have B6 := B5.trans (hal9.mono B5.size)
    have R9 := RowAt.new w4 61 [.string s1, .int .i64 k1]
    clear kT kU e1 e2 e3 e4 R3 R4 hb3 hb4 B3 B4 B5 hal9 ht1 ht2
    generalize w4.alloc (.cells #[.string s1, .int .i64 k1] 61) = w5 at *
    generalize w4.heap.size = b9 at *
    go_upto_region 6 with (go_at_call 48; with_reducible refine (kP _).mono ?_; rintro e w6 ⟨hb6, n5, a5, m5, c5, k5, rfl, hP⟩)
    have hal10 := (Below.refl w6.heap.size w6).alloc (Nat.le_refl _) (.cells #[.bool n5, .slice a5 m5 c5] 24)
    have B7 := (B6.trans (hb6.mono B6.size)).trans (hal10.mono (B6.trans (hb6.mono B6.size)).size)
    have R10 := RowAt.new w6 24 [.bool n5, .slice a5 m5 c5]
    have R99 := (R9.below hb6).below hal10
    have hPk : ∀ v xs, Reads .u32 w6 v xs → Reads .u32 (w6.alloc (.cells #[.bool n5, .slice a5 m5 c5] 24)) v xs := fun _ _ h => h.below hal10
    have DG := DT _ B7
    clear R9 B6 hb6 hal10 DT kP
    generalize w6.alloc (.cells #[.bool n5, .slice a5 m5 c5] 24) = w7 at *
    have hL : TtL w w7 b9 s1 k1 w6.heap.size n5 a5 m5 c5 w7 := ⟨R99, R10, B7, Below.refl _ _⟩
    have hD := Lib.hid (ttl_of (ttl_drew hL))
    have kS := fun X (hX : TtL w w7 b9 s1 k1 w6.heap.size n5 a5 m5 c5 X) => sane_any X (DG.below hX.more)
    have kG := fun X n p m c k (hX : TtL w w7 b9 s1 k1 w6.heap.size n5 a5 m5 c5 X) (h : ParseOut base neg l k X (.agg #[.bool n, .slice p m c])) => got_parse n5 a5 m5 c5 k5 n p m c k base neg l X w6 (fun v xs hr => (hPk v xs hr).below hX.more) hP h
    clear R99 R10 B7 hPk DG hL hP
    generalize w6.heap.size = b10 at *
    go_region_held3 (fun X => X.cell? ⟨b9, 0, none⟩ = some (.string s1) ∧ X.cell? ⟨b9, 1, none⟩ = some (.int .i64 k1) ∧ X.cell? ⟨b10, 0, none⟩ = some (.bool n5) ∧ X.cell? ⟨b10, 1, none⟩ = some (.slice a5 m5 c5) ∧ TtL w w7 b9 s1 k1 b10 n5 a5 m5 c5 X)
      (first | exact hD.out | (go_split_ands; exact ttl_of (ttl_step (by assumption) hbc)))
      (first
        | (go_at_call 16; go_split_ands; with_reducible refine (kS _ (by assumption)).mono ?_; rintro e wk ⟨hbc, rfl⟩)
        | (go_at_call 49; go_split_ands; with_reducible refine (kR _).mono ?_; rintro e wk ⟨hbc, nA, pA, mA, cA, kkA, rfl, hA⟩)
        | (go_at_call 31; go_split_ands; with_reducible refine (kG _ _ _ _ _ _ (by assumption) hA).mono ?_; rintro e wk ⟨hbc, rfl⟩))
    rename_i hX
    obtain ⟨-, -, -, -, O1⟩ := hX
    go_wp2
    go_ret
    exact ⟨O1.below, rfl⟩
  · clear hin l neg HA
    cases hall : List.all [(na, Value.slice aa xa.length ca, xa)] (fewB 60) with
    | false =>
      rw [hall] at hf
      clear hall hgo
      go_wp2_with (first
        | (go_at_call 15; refine hf.mono ?_; rintro e w2 ⟨hb2, rfl⟩; have B3 := hB2.trans (hb2.mono hB2.size))
        | (go_at_call 16; refine (sane_any _ (DT _ B3)).mono ?_; rintro e w3 ⟨hb3, rfl⟩))
      go_ret
      exact ⟨B3.trans (hb3.mono B3.size), rfl⟩
    | true =>
      rw [hall] at hf hgo
      have hs4 : 400 < s.size := by
        apply Classical.byContradiction
        intro h
        exact hgo ⟨rfl, by omega⟩
      have hs5 : decide ((400 : Int) < (s.size : Int)) = true := decide_eq_true (by omega)
      have hs6 : decide (400 < s.size) = true := decide_eq_true hs4
      clear hall hgo hs4
      go_wp2_with (first
        | (go_at_call 15; refine hf.mono ?_; rintro e w2 ⟨hb2, rfl⟩; have B3 := hB2.trans (hb2.mono hB2.size))
        | (go_at_call 16; refine (sane_any _ (DT _ B3)).mono ?_; rintro e w3 ⟨hb3, rfl⟩))
      go_ret
      exact ⟨B3.trans (hb3.mono B3.size), rfl⟩
end Go.Proofs.YtlghjfpkfdnfoaaDoor

/- zermelolaw01.NumTexts: the row and its card -/
namespace Go.Proofs.YtlghjfpkfdnfoaaDoor
open Go.ChangeShapes Go.WideShapes Go.ChangeAt Go.RowKit Go.Joins

set_option maxRecDepth 100000 in
theorem texts_lifted (os : Os) (started : os.Started) (H : Type) (enc : TypeId × Value → H) :
    ReturnsInHanded {} Tryd.checked os 8 .any (fun w args => (Rows.numTextsSpec.pre enc Tryd.prog Tryd.f8 [] false w args ∧ laidMetH Tryd.prog theLaid w) ∧ sizedMet enc Tryd.prog Tryd.f8 (OpenSpec.ofChange Rows.numTextsSpec) false w args)
      (Rows.numTextsSpec.post enc Tryd.prog Tryd.f8 false true false false) := by
  refine returnsInHanded_of_change_and (C := Tryd.checked) (X := fun w _ => laidMetH Tryd.prog theLaid w) (fun _ _ _ hh h => h.of_heap hh) own started (by kernel_rfl) Tryd.func8
    (ChangeSpec.witness_shaped (enc := enc) (C := Tryd.checked) (os := os) (X := fun w _ => laidMetH Tryd.prog theLaid w) false (World.doorLaid Tryd.prog 400 os) #[.agg #[.bool false, .slice none 0 0], .int .i64 0, .string ByteArray.empty] 8 rfl (World.shaped_of_RefB (by kernel_rfl) (by kernel_rfl)) (by kernel_rfl) (by kernel_rfl) (by kernel_rfl) (door_met os _)) ?_
  intro W base args ds gs before hval0 hW _ _ hL _
  have hval : ∀ (j : Nat) t v, Tryd.f8.params[j]? = some t → args[j]? = some v → Value.okWide Tryd.prog W .any base t v := hval0
  have hW' := hW
  obtain ⟨p, q, hA0, hV, rfl, hfz, hnd⟩ := hW
  have hA : DataW.TrodAll enc Tryd.prog W 0 (fun _ => true) true Tryd.f8.params.toList args.toList ds p := hA0
  rw [Tryd.params8] at hA hval
  obtain ⟨v0, vs0, d0, ds0, p0, q0, hargs, rfl, rfl, h0, r0⟩ := trodAll_cons hA
  obtain ⟨v1, vs1, d1, ds1, p1, q1, rfl, rfl, rfl, h1, r1⟩ := trodAll_cons r0
  obtain ⟨v2, vs2, d2, ds2, p2, q2, rfl, rfl, rfl, h2, r2⟩ := trodAll_cons r1
  obtain ⟨rfl, rfl, rfl⟩ := trodAll_nil r2
  obtain rfl : args = #[v0, v1, v2] := by cases args; simp_all
  obtain ⟨rfl, rfl⟩ := trodVars_none hV
  have lt0 : ∀ x ∈ p0, x.block < W.heap.size := by obtain ⟨m, hm⟩ := h0; exact DataW.trod_lt m _ _ _ hm
  obtain ⟨n0, x0, a0⟩ := open_Int (hval 0 24 v0 rfl rfl) h0
  obtain ⟨i1, rfl, rfl, rfl, wn1⟩ := open_int Tryd.underlying3 (hval 1 3 v1 rfl rfl) h1
  obtain ⟨s2, rfl, rfl, rfl, hs2⟩ := Go.ChangeMaps.open_string Tryd.underlying9 (hval 2 9 v2 rfl rfl) h2
  have hT := of_laid hL
  clear hA0 hval0
  refine (texts_any v0 n0 x0 i1 s2 W a0 hT).mono fun e W' ⟨bel, he⟩ => ?_
  subst he
  exact ⟨_, rfl, _, _, _, [], _, [], hW', trodAll_mk1 (shut_bool Tryd.underlying4 _), (trodAll_cons_mk (Below.trod laidOut (by kernel_rfl) (of_decide_eq_true (by kernel_rfl)) h0 bel lt0) (trodAll_cons_mk (shut_int Tryd.underlying3 wn1) (trodAll_cons_mk (Go.ChangeMaps.shut_string Tryd.underlying9 hs2) trodAll_mk0))), rfl, bel.frame _, fun h => by cases h⟩

theorem texts_holds : Rows.NumTextsSaid :=
  OpenClaim.holds_of_wide 8 Tryd.f8 rfl rfl rfl rfl rfl rfl rfl ⟨rfl, rfl, rfl, rfl, rfl⟩ rfl rfl rfl rfl rfl (by kernel_rfl) Tryd.func8 (by kernel_rfl)
    (of_decide_eq_true (by kernel_rfl)) (by unfold Func.isWrapper; first | (rw [if_pos (by decide +kernel)]; kernel_rfl) | (rw [if_neg (by decide +kernel)]; exact ⟨rfl, rfl⟩))
    (fun os started H enc _ => texts_lifted os started H enc)

theorem texts_card : Rows.NumTextsCardSaid :=
  Claim7.holds_tied_plain_at .later [] [.data] true (true, "42a77e95b8ef9269488dac3a8c52bae1cf7a75fc7fd94978f00f86de717d5f2d") true
    texts_holds (fun _ h => by cases h) (by kernel_rfl) (fun _ h => by cases h) numTexts_row_tie rfl ⟨rfl, rfl⟩ (by kernel_rfl) rfl
    (fun f fn hf hfn => by
      obtain rfl : f = 8 := Option.some.inj ((show Tryd.prog.funcNamed "zermelo/zermelolaw01.NumTexts" = some 8 by kernel_rfl).symm.trans hf) |>.symm
      obtain rfl : fn = Tryd.f8 := (Option.some.inj (Tryd.func8.symm.trans hfn)).symm
      exact ⟨by kernel_rfl, fun j t ht => by
        rw [Tryd.params8] at ht
        have hm : t ∈ [24, 3, 9] := by simpa using Array.mem_of_getElem? ht
        have hall : ([24, 3, 9].all fun u => !Tryd.prog.wantsStandIn u) = true := by kernel_rfl
        exact (show Tryd.prog.wantsStandIn t = false by simpa using List.all_eq_true.1 hall t hm)⟩)
    (by kernel_rfl)
#print axioms texts_card
end Go.Proofs.YtlghjfpkfdnfoaaDoor
