/- num.Root for all arguments -/
import Derived.Test.YtlghjfpkfdnfoaaDoorNumMRefRoot
import Derived.Test.YtlghjfpkfdnfoaaDoorNumMProduct
import Derived.Test.YtlghjfpkfdnfoaaDoorNumMParseApi
import Derived.Test.YtlghjfpkfdnfoaaDoorNumMRefSplit
import Derived.Deep.CutRange
namespace Go.Proofs.YtlghjfpkfdnfoaaDoor
open Go Go.RowKit Go.Shelf

set_option maxHeartbeats 1000000 in
set_option maxRecDepth 100000 in
theorem floorRoot_down (K L m : Nat) (hT : TimesUpTo K) (hD : DivUpTo L K) (hL : L ≤ 1000) (hK0 : 0 < K) (hK : K ≤ 1000) (hm : m < 100) (va : Value) (xa : List Nat) (r : Nat) (w : World) (ha : Reads .u32 w va xa) (hka : Canon xa) (hla : xa.length ≤ L) (hfit : 2 ^ (m + 1) * val xa < B32 ^ K) (hr : IsRoot (val xa) (m + 1) r) (hlt : r ^ (m + 1) < val xa) :
    Calls Tryd.prog 79 #[.agg #[.bool true, va], .int .i64 ((m : Int) + 1)] w fun e w' => Below w.heap.size w w' ∧ ∃ v, e = .returned v ∧ IsInt w' v (-((r : Int) + 1)) := by
  obtain ⟨aa, ca, rfl, hca, hma⟩ := ha.form
  have b0 := ((Below.refl w.heap.size w).alloc (Nat.le_refl _) (.cells #[.bool true, .slice aa xa.length ca] 24)).alloc (by simp) (.cells #[.bool false, .slice none 0 0] 24)
  have r1 := (RowAt.new w 24 [.bool true, .slice aa xa.length ca]).alloc (.cells #[.bool false, .slice none 0 0] 24)
  have r2 := RowAt.new (w.alloc (.cells #[.bool true, .slice aa xa.length ca] 24)) 24 [.bool false, .slice none 0 0]
  simp only [World.size_alloc] at r2
  have hS0 : FrS w w true aa xa ca ((w.alloc (.cells #[.bool true, .slice aa xa.length ca] 24)).alloc (.cells #[.bool false, .slice none 0 0] 24)) := ⟨r1, r2, b0, ha.below b0, fun v xs h => h.below b0⟩
  generalize hW0 : (w.alloc (.cells #[.bool true, .slice aa xa.length ca] 24)).alloc (.cells #[.bool false, .slice none 0 0] 24) = W0 at hS0
  have hroot := root_any K L m hT hD hL hK0 hK hm (bitsOf xa) (.slice aa xa.length ca) xa W0 (Nat.le_refl _) hS0.ra hka hla hfit
  have hpw : ∀ (v : Value) (rs : List Nat) (W : World), Reads .u32 W v rs → Canon rs → val rs = r → Calls Tryd.prog 77 #[v, .int .i64 ((m : Int) + 1)] W fun e w' => Below W.heap.size W w' ∧ ∃ v' cs, e = .returned v' ∧ Reads .u32 w' v' cs ∧ Canon cs ∧ val cs = r ^ (m + 1) := fun v rs W h hk hv => by
    rw [show ((m : Int) + 1) = ((m + 1 : Nat) : Int) by omega, ← hv]
    refine power_any K hT hK0 v rs (m + 1) W h hk (by omega) ?_
    rw [hv]
    exact Nat.lt_of_le_of_lt (Nat.le_trans hr.1 (Nat.le_mul_of_pos_left _ (Nat.pow_pos (by decide)))) hfit
  have hcp : ∀ (v : Value) (ps : List Nat) (W : World), Reads .u32 W v ps → Canon ps → val ps = r ^ (m + 1) → Reads .u32 W (.slice aa xa.length ca) xa → Calls Tryd.prog 53 #[v, .slice aa xa.length ca] W fun e w' => Below W.heap.size W w' ∧ e = .returned (.int .i64 (-1)) := fun v ps W h hk hv hx => by
    have := compare_any v (.slice aa xa.length ca) ps xa W h hx hk hka (Nat.le_trans (canon_le_length hka hk (by omega)) (show xa.length ≤ 1000000 by omega))
    rwa [hv, show cmpI ((r ^ (m + 1) : Nat) : Int) (val xa : Int) = -1 by unfold cmpI; rw [if_pos (by omega)]] at this
  have hrr : ∀ s, IsRoot (val xa) (m + 1) s → s = r := fun s h => isRoot_unique h hr
  have hrl : ∀ rs : List Nat, Canon rs → val rs = r → rs.length ≤ 100000 := fun rs hk hv => by
    have h3 : val rs ≤ val xa := by
      rw [hv]
      rcases Nat.eq_zero_or_pos r with h0 | h0
      · omega
      · have h1 := Nat.pow_le_pow_right h0 (show 1 ≤ m + 1 by omega)
        rw [Nat.pow_one] at h1
        omega
    have := canon_le_length hka hk h3
    omega
  have HW := Lib.hid hW0
  clear hr hlt hfit hW0 r1 r2 b0
  go_enter Tryd.func79, Tryd.ntmps79
  go_wp2_with (go_at_call 109; (try rw [HW.out]); refine hroot.mono ?_; rintro e w3 ⟨hbe3, v3, rs, rfl, h3, k3, e3⟩; obtain ⟨a3, c3, rfl, hc3, hm3⟩ := h3.form)
  have hS3 : FrS w w3 true aa xa ca w3 := ⟨hS0.a.below hbe3, hS0.res.below hbe3, hS0.below.trans (hbe3.mono hS0.below.size), hS0.ra.below hbe3, fun _ _ h => h⟩
  have hD3 := Lib.hid (fr_drew hS3)
  obtain ⟨d1, d2, -⟩ := fr_of hS3
  have er := hrr _ e3
  clear hS0 hS3 hroot hrr HW e3 hbe3
  go_region_held3 (fun X => X.cell? ⟨w.heap.size, 0, none⟩ = some (.bool true) ∧ X.cell? ⟨w.heap.size, 1, none⟩ = some (.slice aa xa.length ca) ∧ FrS w w3 true aa xa ca X)
    (first | exact hD3.out | (go_split_ands; exact fr_step (by assumption) hbe4) | (go_split_ands; exact fr_step (by assumption) hbe5))
    (first
      | (go_at_call 77; go_split_ands; refine (hpw _ rs _ (FrS.keep (by assumption) _ _ h3) k3 er).mono ?_; rintro e w4 ⟨hbe4, v4, ps, rfl, h4, k4, e4⟩; obtain ⟨a4, c4, rfl, hc4, hm4⟩ := h4.form)
      | (go_at_call 53; go_split_ands; refine (hcp _ ps _ h4 k4 e4 (FrS.ra (by assumption))).mono ?_; rintro e w5 ⟨hbe5, rfl⟩))
  rename_i hT5
  obtain ⟨o1, o2, hS5⟩ := hT5
  have h5 := hS5.keep _ _ h3
  have hl3 := hrl rs k3 er
  clear hrl hpw hcp o1 o2
  go_wp2_with (first
    | (go_at_call 106; with_reducible refine (one_any _).mono ?_; rintro e w7 ⟨hbe7, v7, rfl, h7⟩; obtain ⟨a7, c7, rfl, -, -⟩ := h7.form; have g7 := h5.below hbe7)
    | (go_at_call 101; refine (plus_any (.slice a3 rs.length c3) (.slice a7 1 c7) rs [1] _ g7 h7 k3.1 (canon_one (by decide) (by decide)).1 hl3 (by simp)).mono ?_; rintro e w8 ⟨hbe8, v8, cs, rfl, h8, k8, e8⟩; obtain ⟨a8, c8, rfl, -, -⟩ := h8.form)
    | (go_at_call 63; with_reducible refine (signed_any _ _ _ _ _).mono ?_; rintro e w6 ⟨hbe6, rfl⟩; have hres := ((hS5.res.below hbe7).below hbe8).below hbe6; have q1 := hres.cell 0; have q2 := hres.cell 1; have q3 := hres.frozen 0; have q4 := hres.frozen 1; have h6 := h8.below hbe6; simp only [List.getElem?_cons_zero, List.getElem?_cons_succ] at q1 q2))
  obtain ⟨s1, s2⟩ := two_reads (b := w.heap.size + 1) q1 q2 (.bool (decide (0 < cs.length))) (.slice a8 cs.length c8)
  have hk := two_kept (b := w.heap.size + 1) h6 q1 q2 (.bool (decide (0 < cs.length))) (.slice a8 cs.length c8)
  have b6 := (hS5.below.trans (hbe7.mono hS5.below.size))
  have b66 := b6.trans (hbe8.mono b6.size)
  have b67 := b66.trans (hbe6.mono b66.size)
  have b7 : Below w.heap.size w ((w6.setCell ⟨w.heap.size + 1, 0, none⟩ (.bool (decide (0 < cs.length)))).setCell ⟨w.heap.size + 1, 1, none⟩ (.slice a8 cs.length c8)) := (b67.setCell (by simp) _).setCell (by simp) _
  have hI : IsInt ((w6.setCell ⟨w.heap.size + 1, 0, none⟩ (.bool (decide (0 < cs.length)))).setCell ⟨w.heap.size + 1, 1, none⟩ (.slice a8 cs.length c8)) (.agg #[.bool (decide (0 < cs.length)), .slice a8 cs.length c8]) (-((r : Int) + 1)) := by
    have := isInt_mk true hk k8 (i := -((r : Int) + 1)) (by rw [e8, er]; simp [sgn, val])
    rwa [Bool.true_and] at this
  refine bodyPost_ret (v := .agg #[.bool (decide (0 < cs.length)), .slice a8 cs.length c8]) (by simp [results, Tryd.results79, go_sem, loadCellsFrom, s1, s2]) rfl ⟨b7, _, rfl, hI⟩


set_option maxHeartbeats 1000000 in
set_option maxRecDepth 100000 in
theorem root1_no (B : Nat) (na : Bool) (aa : Option Addr) (ca : Nat) (xa : List Nat) (n : Int) (w : World) (hra : RowAt w B 24 [.bool na, .slice aa xa.length ca]) (hrn : RowAt w (B + 1) 3 [.int .i64 n])
    (ha : Reads .u32 w (.slice aa xa.length ca) xa) (hla : Limbs xa) (h : ¬ (formedB na xa = true ∧ 1 ≤ n ∧ n ≤ 100)) :
    Calls Tryd.prog 78 #[.pointer (some ⟨B, 0, none⟩), .pointer (some ⟨B + 1, 0, none⟩), .pointer (some ⟨B + 2, 0, none⟩)] w fun e w' => Below w.heap.size w w' ∧ e = .panicked [{ v := .iface 27 (.int .i64 1), recovered := false }] := by
  have a0 := hra.cell 0
  have a1 := hra.cell 1
  have n0 := hrn.cell 0
  simp only [List.getElem?_cons_zero, List.getElem?_cons_succ] at a0 a1 n0
  have r0' := RowAt.new w 24 [.bool na, .slice aa xa.length ca]
  have bw := (Below.refl w.heap.size w).alloc (Nat.le_refl _) (.cells #[.bool na, .slice aa xa.length ca] 24)
  cases fa : formedB na xa with
  | false =>
    clear h
    go_enter Tryd.func78, Tryd.ntmps78
    go_wp2_with (go_at_call 59; refine (demand1_no _ na aa ca xa _ r0' (ha.below bw) hla fa).mono ?_; rintro e w1 ⟨hbe1, rfl⟩; have bw1 := bw.trans (hbe1.mono (by simp)))
    exact ⟨rfl, bw1, rfl⟩
  | true =>
    have hn : ¬ (1 ≤ n ∧ n ≤ 100) := fun h2 => h ⟨fa, h2⟩
    have HN := Lib.hid hn
    clear hn h
    go_enter Tryd.func78, Tryd.ntmps78
    go_wp2_with (first | (go_at_call 59; refine (demand1_ok _ na aa ca xa _ r0' (ha.below bw) hla fa).mono ?_; rintro e w1 ⟨hbe1, rfl⟩; have bw1 := bw.trans (hbe1.mono (by simp)); have p1 := (hrn.below bw1).cell 0; simp only [List.getElem?_cons_zero] at p1) | (go_at_call 60; refine (demand_no _ _ _ (by first | rfl | (have := HN.out; simp; omega))).mono ?_; rintro e w2 ⟨rfl, rfl⟩))
    all_goals exact ⟨rfl, bw1, rfl⟩

theorem RootOut.shape {f : Bool} {n i k : Int} {W : World} {v : Value} (h : RootOut f n i k W v) : ∃ n5 a5 m5 c5, v = .agg #[.bool n5, .slice a5 m5 c5] := by
  unfold RootOut at h
  split at h
  · split at h
    · exact ⟨_, _, _, _, h.2⟩
    · obtain ⟨-, r, hI, -⟩ := h
      exact hI.shape
  · exact ⟨_, _, _, _, h.2⟩

set_option exponentiation.threshold 100000 in
theorem Root_any (va : Value) (na : Bool) (xa : List Nat) (n : Int) (w : World) (ha : IntAt w va na xa) (hl30 : xa.length ≤ 30) :
    Calls Tryd.prog 38 #[va, .int .i64 n] w fun e w' => Below w.heap.size w w' ∧ ∃ n5 a5 m5 c5 k, e = .returned (.tuple #[.agg #[.bool n5, .slice a5 m5 c5], .int .i64 k]) ∧ RootOut (formedB na xa) n (sgn na (val xa)) k w' (.agg #[.bool n5, .slice a5 m5 c5]) := by
  by_cases hc : formedB na xa = true ∧ 1 ≤ n ∧ n ≤ 100
  · obtain ⟨fa, h1, h100⟩ := hc
    have hl : Limbs xa := by obtain ⟨_, _, _, hl⟩ := ha; exact hl
    obtain ⟨hk, hx⟩ := formedB_bounds hl fa
    have hneg : na = true ↔ sgn na (val xa) < 0 := by
      cases na with
      | false => simp [sgn]
      | true =>
        have h3 : xa.length ≠ 0 := by
          intro h0
          simp [formedB, h0] at fa
        have := (canon_pos_iff hk).2 (by omega)
        simp [sgn]
        omega
    rw [fa]
    by_cases hp : na = true ∧ n % 2 = 0
    · obtain ⟨rfl, hp⟩ := hp
      refine (Root_none va xa n w ha fa h1 h100 (by rw [Int.tmod_eq_emod_of_nonneg (by omega)]; exact hp)).mono ?_
      rintro e w' ⟨hb, rfl⟩
      refine ⟨hb, false, none, 0, 0, 5, rfl, ?_⟩
      unfold RootOut
      rw [if_pos ⟨rfl, h1, h100⟩, if_pos ⟨hneg.1 rfl, hp⟩]
      exact ⟨rfl, rfl⟩
    · obtain ⟨m, rfl⟩ : ∃ m : Nat, n = (m : Int) + 1 := ⟨(n - 1).toNat, by omega⟩
      have hm : m < 100 := by omega
      obtain ⟨s, hs⟩ := isRoot_ex (val xa) (show m + 1 ≠ 0 by omega)
      have hT := timesUpTo_le times_any (show 40 ≤ 40000 by decide)
      have hD : DivUpTo 30 40 := divUpTo_le (divUpTo_all 40) (by decide) (by decide)
      have hfit : 2 ^ (m + 1) * val xa < B32 ^ 40 := by
        have h3 := (canon_length_iff hk 30).1 hl30
        have h4 : 2 ^ (m + 1) ≤ B32 ^ 10 := by rw [B32_pow]; exact Nat.pow_le_pow_right (by decide) (by omega)
        rw [show B32 ^ 40 = B32 ^ 10 * B32 ^ 30 by rw [← Nat.pow_add]]
        exact Nat.lt_of_le_of_lt (Nat.mul_le_mul_right _ h4) (Nat.mul_lt_mul_of_pos_left h3 (Nat.pow_pos B32_pos))
      have hpar : na = false ∨ ((m : Int) + 1).tmod 2 = 1 := by
        cases na with
        | false => exact .inl rfl
        | true =>
          refine .inr ?_
          have h3 : ¬ ((m : Int) + 1) % 2 = 0 := fun h => hp ⟨rfl, h⟩
          rw [Int.tmod_eq_emod_of_nonneg (by omega)]
          omega
      obtain ⟨R, hR⟩ : ∃ R, RootVal (sgn na (val xa)) (m + 1) R := ⟨_, s, by rw [sgn_natAbs]; exact hs, rfl⟩
      refine (Root_ok va na xa m w ha fa hm hpar R (fun W hW => ?_)).mono ?_
      · obtain ⟨va', rfl, hra, -⟩ := ha
        obtain ⟨s', hs', rfl⟩ := hR
        rw [sgn_natAbs] at hs' ⊢
        obtain rfl := isRoot_unique hs hs'
        cases na with
        | false =>
          rw [if_neg (fun h => by have := hneg.2 h; cases this)]
          refine (floorRoot_pos 40 30 m hT hD (by decide) (by decide) (by decide) hm va' xa W (hra.below hW) hk hl30 hfit).mono ?_
          rintro e W' ⟨hb, v, s2, rfl, hI, hR2⟩
          rw [isRoot_unique hR2 hs] at hI
          exact ⟨hb, v, rfl, hI⟩
        | true =>
          rw [if_pos (hneg.1 rfl)]
          by_cases he : s ^ (m + 1) = val xa
          · rw [if_pos he]
            exact floorRoot_exact 40 30 m hT hD (by decide) (by decide) (by decide) hm va' xa s W (hra.below hW) hk hl30 hfit he
          · rw [if_neg he]
            have hlt : s ^ (m + 1) < val xa := Nat.lt_of_le_of_ne hs.1 he
            exact floorRoot_down 40 30 m hT hD (by decide) (by decide) (by decide) hm va' xa s W (hra.below hW) hk hl30 hfit hs hlt
      · rintro e W ⟨hb, v, rfl, hI⟩
        obtain ⟨n5, a5, m5, c5, rfl⟩ := hI.shape
        refine ⟨hb, n5, a5, m5, c5, 0, rfl, ?_⟩
        unfold RootOut
        rw [if_pos ⟨rfl, h1, h100⟩, if_neg (fun h => hp ⟨hneg.2 h.1, h.2⟩)]
        exact ⟨rfl, R, hI, by rw [show ((m : Int) + 1).toNat = m + 1 by omega]; exact hR⟩
  · refine (Root_of va na xa n w ha (fun k W v => k = 1 ∧ v = zeroInt) (fun _ _ _ _ h _ => h) ?_).mono ?_
    · intro B aa ca W4 hb4 hra hrn hrr hrd he
      obtain ⟨va', he', _, hl⟩ := ha
      refine (root1_no B na aa ca xa n W4 hra hrn hrd hl hc).mono ?_
      rintro e W ⟨hbe, rfl⟩
      exact ⟨1, .inr rfl, (Chg.refl _ W4).thenBelow hbe, false, none, 0, 0, hrr.below hbe, rfl, rfl⟩
    · rintro e W ⟨hbe, r0, k, rfl, rfl, rfl⟩
      refine ⟨hbe, false, none, 0, 0, 1, rfl, ?_⟩
      unfold RootOut
      rw [if_neg hc]
      exact ⟨rfl, rfl⟩

/-- the specification's Root, every way -/
theorem rroot_any (v : Value) (neg : Bool) (xs : List Nat) (n : Int) (w : World) (h : IntAt w v neg xs) :
    Calls Tryd.prog 40 #[v, .int .i64 n] w fun e w' => Below w.heap.size w w' ∧ ∃ n5 a5 m5 c5 k, e = .returned (.agg #[.bool n5, .slice a5 m5 c5, .int .i64 k]) ∧ RootOut (formedB neg xs) n (sgn neg (val xs)) k w' (.agg #[.bool n5, .slice a5 m5 c5]) := by
  by_cases hc : formedB neg xs = true ∧ 1 ≤ n ∧ n ≤ 100
  · obtain ⟨hf, h0, h1⟩ := hc
    have hl : Limbs xs := by obtain ⟨_, _, _, hl⟩ := h; exact hl
    obtain ⟨hk, hx⟩ := formedB_bounds hl hf
    have hneg : neg = true ↔ sgn neg (val xs) < 0 := by
      cases neg with
      | false => simp [sgn]
      | true =>
        have h3 : xs.length ≠ 0 := by
          intro h0
          simp [formedB, h0] at hf
        have := (canon_pos_iff hk).2 (by omega)
        simp [sgn]
        omega
    rw [hf]
    by_cases hp : neg = true ∧ n % 2 = 0
    · obtain ⟨rfl, hp⟩ := hp
      refine (rroot_even v xs n w h hf h0 h1 hp).mono ?_
      rintro e w' ⟨hb, rfl⟩
      refine ⟨hb, false, none, 0, 0, 5, rfl, ?_⟩
      unfold RootOut
      rw [if_pos ⟨rfl, h0, h1⟩, if_pos ⟨hneg.1 rfl, hp⟩]
      exact ⟨rfl, rfl⟩
    · obtain ⟨m, rfl⟩ := Int.eq_ofNat_of_zero_le (show 0 ≤ n by omega)
      refine (rroot_run v neg xs m w h hf (by omega) (by omega) (fun hn => by have : ¬ (m : Int) % 2 = 0 := fun h2 => hp ⟨hn, h2⟩; omega)).mono ?_
      rintro e w' ⟨hb, n5, a5, m5, c5, k, rfl, rfl, r, hI, hR⟩
      refine ⟨hb, n5, a5, m5, c5, 0, rfl, ?_⟩
      unfold RootOut
      rw [if_pos ⟨rfl, h0, h1⟩, if_neg (fun h => hp ⟨hneg.2 h.1, h.2⟩)]
      exact ⟨rfl, r, hI, by rw [Int.toNat_natCast]; exact hR⟩
  · refine (rroot_no v neg xs n w h hc).mono ?_
    rintro e w' ⟨h1, rfl⟩
    refine ⟨h1, false, none, 0, 0, 1, rfl, ?_⟩
    unfold RootOut
    rw [if_neg hc]
    exact ⟨rfl, rfl⟩

end Go.Proofs.YtlghjfpkfdnfoaaDoor

/- num.parse of what is no number -/
namespace Go.Proofs.YtlghjfpkfdnfoaaDoor
open Go Go.RowKit Go.Shelf

/-- a string as Parse takes it: its sign, what is behind it -/
structure ParseIn (s : ByteArray) (neg : Bool) (l : List UInt8) : Prop where
  bytes : s.data.toList = (if neg then [45] else []) ++ l
  first : neg = false → ∀ c, l.head? = some c → c.toNat ≠ 45
theorem parseIn_ex (s : ByteArray) : ∃ neg l, ParseIn s neg l := by
  cases h : s.data.toList with
  | nil => exact ⟨false, [], by rw [h]; rfl, fun _ c hc => by simp at hc⟩
  | cons c t =>
    by_cases h45 : c.toNat = 45
    · obtain rfl : c = 45 := UInt8.toNat_inj.1 h45
      exact ⟨true, t, by rw [h]; rfl, fun h => by cases h⟩
    · exact ⟨false, c :: t, by rw [h]; rfl, fun _ d hd => by simp at hd; subst hd; exact h45⟩
/-- the first byte that is no digit -/
theorem bad_first (b : Nat) : ∀ (l : List UInt8), ¬ (∀ c ∈ l, digitVal c.toNat < b) → ∃ p, ∃ h : p < l.length, ¬ digitVal (l[p]'h).toNat < b ∧ ∀ i (hi : i < p), digitVal (l[i]'(by omega)).toNat < b
  | [], h => absurd (fun c hc => by simp at hc) h
  | c :: t, h => by
    by_cases hc : digitVal c.toNat < b
    · obtain ⟨p, hp, h1, h2⟩ := bad_first b t (fun ht => h (fun d hd => by
        rcases List.mem_cons.1 hd with rfl | hd
        · exact hc
        · exact ht d hd))
      refine ⟨p + 1, by simp; omega, by simpa using h1, fun i hi => ?_⟩
      cases i with
      | zero => simpa using hc
      | succ i => simpa using h2 i (by omega)
    · exact ⟨0, by simp, by simpa using hc, fun i hi => by omega⟩

set_option maxHeartbeats 4000000 in
set_option maxRecDepth 100000 in
theorem parse_bad (s : ByteArray) (b : Nat) (w : World) (neg : Bool) (l : List UInt8) (hin : ParseIn s neg l) (hlen : l.length ≤ 100000) (hbad : l = [] ∨ ¬ ∀ c ∈ l, digitVal c.toNat < b) :
    Calls Tryd.prog 91 #[.string s, .int .i64 (b : Int)] w fun e w' => Below w.heap.size w w' ∧ e = .panicked [{ v := .iface 27 (.int .i64 2), recovered := false }] := by
  obtain ⟨hs, hfirst⟩ := hin
  obtain ⟨t, ht⟩ : ∃ t : ByteArray, t.data.toList = l := ⟨⟨l.toArray⟩, by simp⟩
  have htz : t.size = l.length := by rw [← ht, size_toList]
  have hcut : neg = true → s.extract 1 s.size = t := fun hn => by
    subst hn
    apply bytes_ext
    rw [Lib.extract_to_end, hs, ht]
    rfl
  have hsame : neg = false → s = t := fun hn => by
    subst hn
    apply bytes_ext
    rw [hs, ht]
    rfl
  have hsz : s.size = (if neg then 1 else 0) + l.length := by
    rw [← size_toList, hs]
    cases neg <;> simp [Nat.add_comm]
  refine (callsIn_wide (n := 9)).1 ?_
  refine callsIn_of_wp_marks Tryd.func91 rfl trivial ?_ rfl
  simp only [Tryd.ntmps91, List.size_toArray, List.length_cons, List.length_nil, Nat.reduceAdd, Nat.reduceSub, Array.replicate_succ, Array.replicate_zero, List.push_toArray, List.append_toArray, List.nil_append, List.cons_append]
  have b0 := (Below.refl w.heap.size w).alloc (Nat.le_refl _) (.cells #[.bool false, .slice none 0 0] 24)
  by_cases hl0 : l = []
  · subst hl0
    cases neg with
    | false =>
      obtain rfl := hsame rfl
      have hz : s.size = 0 := htz
      clear hsame hcut hsz hs hfirst hbad ht htz
      gi_wp2_with (refine ⟨trivial, ?_⟩; gi_at_call 60; refine (callsIn_wide.2 (demand_no _ _ _ (by first | rfl | (simp; omega)))).mono ?_; rintro e w2 ⟨rfl, rfl⟩)
      exact ⟨b0, rfl⟩
    | true =>
      have e0 := hcut rfl
      have hz : t.size = 0 := htz
      have hs1 : s.size = 1 := by rw [hsz]; rfl
      have hi0 : ∀ W, (Instr.index 9 (.string s) (.int .i64 0)).run Tryd.prog W = .ok (.int .u8 45) W := fun W => by
        have := index_string s 0 _ hs (by simp) W
        rw [Int.ofNat_zero] at this
        rw [this]
        rfl
      rw [hs1] at e0
      clear hsame hcut hsz hs hfirst hbad ht htz
      gi_wp2_with (refine ⟨trivial, ?_⟩; gi_at_call 60; refine (callsIn_wide.2 (demand_no _ _ _ (by first | rfl | (simp; omega)))).mono ?_; rintro e w2 ⟨rfl, rfl⟩)
      exact ⟨b0, rfl⟩
  · have hbad' := hbad.resolve_left hl0
    obtain ⟨p, hp, hp1, hp2⟩ := bad_first b l hbad'
    have hlp : 0 < l.length := by omega
    have hi0 : ∀ W, (Instr.index 9 (.string s) (.int .i64 0)).run Tryd.prog W = .ok (.int .u8 (if neg then 45 else (((l[0]'hlp).toNat : Nat) : Int))) W := fun W => by
      have h0 : 0 < ((if neg then [45] else []) ++ l).length := by cases neg <;> simp <;> omega
      have := index_string s 0 _ hs h0 W
      rw [Int.ofNat_zero] at this
      rw [this]
      cases neg <;> rfl
    have hn45 : neg = false → ((((l[0]'hlp).toNat : Nat) : Int) == 45) = false := fun hn => by
      have h1 := hfirst hn (l[0]'hlp) (by rw [List.head?_eq_getElem?, List.getElem?_eq_getElem hlp])
      refine beq_eq_false_iff_ne.2 fun e => h1 (by omega)
    have hspos : 0 < s.size := by rw [hsz]; omega
    have HL := Lib.hid (And.intro ht (And.intro htz (And.intro hs hsz)))
    have HB := Lib.hid (And.intro hp1 hp2)
    clear ht htz hs hsz hl0 hbad hbad' hfirst hp1 hp2
    obtain ⟨W0, hW0⟩ : ∃ W0, w.alloc (.cells #[.bool false, .slice none 0 0] 24) = W0 := ⟨_, rfl⟩
    rw [hW0] at b0
    have HW := Lib.hid hW0
    clear hW0
    have htz := HL.out.2.1
    have hd0 : decide ((0 : Int) < (l.length : Int)) = true := by simp; omega
    cases neg
    · have e0 := hsame rfl
      have h45 := hn45 rfl
      simp only [Bool.false_eq_true, if_false] at hi0
      clear hsame hcut hn45
      subst e0
      gi_wp2_with (refine ⟨trivial, ?_⟩; gi_at_call 60; refine (callsIn_wide.2 (demand_ok _ _ _ (by first | rfl | (simp; omega)))).mono ?_; rintro e w2 ⟨rfl, rfl⟩)
      generalize s = t at *
      clear hi0 h45 hspos
      rw [HW.out]
      gi_loop [27] (fun i => ∃ j : Nat, j ≤ p ∧ i = .int .i64 j) (fun i => l.length - (intOf i).toNat)
      case atStart => exact ⟨0, Nat.zero_le _, rfl⟩
      case round =>
        obtain ⟨j, hj, rfl⟩ := hrel
        have hjl : j < l.length := by omega
        have hix := fun W => index_string t j l HL.out.1 hjl W
        obtain ⟨c, hc⟩ : ∃ c, (l[j]'hjl).toNat = c := ⟨_, rfl⟩
        have hc256 : c < 256 := by rw [← hc]; exact (l[j]'hjl).toNat_lt
        rw [hc] at hix
        by_cases hjp : j = p
        · have hcd : ¬ digitVal c < b := by subst hjp; rw [← hc]; exact HB.out.1
          have hdd : decide (((digitVal c : Nat) : Int) < (b : Int)) = false := by simp; omega
          have HJ := Lib.hid hjp
          clear hc hjp
          gi_wp2_with (first
            | (refine ⟨trivial, ?_⟩; gi_at_call 114; refine (callsIn_wide.2 (digitOf_any c _ hc256)).mono ?_; rintro e w2 ⟨rfl, rfl⟩)
            | (refine ⟨trivial, ?_⟩; gi_at_call 60; refine (callsIn_wide.2 (demand_no _ _ _ (by first | rfl | (simp; omega)))).mono ?_; rintro e w2 ⟨rfl, rfl⟩))
          exact ⟨b0, rfl⟩
        · have hcd : digitVal c < b := by rw [← hc]; exact HB.out.2 j (by omega)
          have hdd : decide (((digitVal c : Nat) : Int) < (b : Int)) = true := by simp; omega
          clear hc
          gi_wp2_with (first
            | (refine ⟨trivial, ?_⟩; gi_at_call 114; refine (callsIn_wide.2 (digitOf_any c _ hc256)).mono ?_; rintro e w2 ⟨rfl, rfl⟩)
            | (refine ⟨trivial, ?_⟩; gi_at_call 60; refine (callsIn_wide.2 (demand_ok _ _ _ (by first | rfl | (simp; omega)))).mono ?_; rintro e w2 ⟨rfl, rfl⟩))
          exact ⟨⟨j + 1, by omega, by go_num⟩, by simp [intOf]; omega⟩
    · have e0 := hcut rfl
      simp only [if_true] at hi0
      clear hsame hcut hn45
      have hs0 : (s.size : Int) = (t.size : Int) + 1 := by have := HL.out.2.2.2; simp at this; omega
      have hss : decide ((0 : Int) < (s.size : Int)) = true := by simp; omega
      gi_wp2_with (refine ⟨trivial, ?_⟩; gi_at_call 60; refine (callsIn_wide.2 (demand_ok _ _ _ (by first | rfl | (simp; omega)))).mono ?_; rintro e w2 ⟨rfl, rfl⟩)
      clear hi0 hspos
      rw [HW.out]
      gi_loop [27] (fun i => ∃ j : Nat, j ≤ p ∧ i = .int .i64 j) (fun i => l.length - (intOf i).toNat)
      case atStart => exact ⟨0, Nat.zero_le _, rfl⟩
      case round =>
        obtain ⟨j, hj, rfl⟩ := hrel
        have hjl : j < l.length := by omega
        have hix := fun W => index_string t j l HL.out.1 hjl W
        obtain ⟨c, hc⟩ : ∃ c, (l[j]'hjl).toNat = c := ⟨_, rfl⟩
        have hc256 : c < 256 := by rw [← hc]; exact (l[j]'hjl).toNat_lt
        rw [hc] at hix
        by_cases hjp : j = p
        · have hcd : ¬ digitVal c < b := by subst hjp; rw [← hc]; exact HB.out.1
          have hdd : decide (((digitVal c : Nat) : Int) < (b : Int)) = false := by simp; omega
          have HJ := Lib.hid hjp
          clear hc hjp
          gi_wp2_with (first
            | (refine ⟨trivial, ?_⟩; gi_at_call 114; refine (callsIn_wide.2 (digitOf_any c _ hc256)).mono ?_; rintro e w2 ⟨rfl, rfl⟩)
            | (refine ⟨trivial, ?_⟩; gi_at_call 60; refine (callsIn_wide.2 (demand_no _ _ _ (by first | rfl | (simp; omega)))).mono ?_; rintro e w2 ⟨rfl, rfl⟩))
          exact ⟨b0, rfl⟩
        · have hcd : digitVal c < b := by rw [← hc]; exact HB.out.2 j (by omega)
          have hdd : decide (((digitVal c : Nat) : Int) < (b : Int)) = true := by simp; omega
          clear hc
          gi_wp2_with (first
            | (refine ⟨trivial, ?_⟩; gi_at_call 114; refine (callsIn_wide.2 (digitOf_any c _ hc256)).mono ?_; rintro e w2 ⟨rfl, rfl⟩)
            | (refine ⟨trivial, ?_⟩; gi_at_call 60; refine (callsIn_wide.2 (demand_ok _ _ _ (by first | rfl | (simp; omega)))).mono ?_; rintro e w2 ⟨rfl, rfl⟩))
          exact ⟨⟨j + 1, by omega, by go_num⟩, by simp [intOf]; omega⟩
end Go.Proofs.YtlghjfpkfdnfoaaDoor

/- num.Text, num.Parse for all arguments -/
namespace Go.Proofs.YtlghjfpkfdnfoaaDoor
open Go Go.RowKit Go.Shelf

/-- what Text answers -/
def TextOut (fa na : Bool) (base : Int) (A : Nat) (k : Int) (v : Value) : Prop :=
  if fa = true ∧ 2 ≤ base ∧ base ≤ 36 then k = 0 ∧ ∃ s : ByteArray, v = .string s ∧ s.data.toList.map (·.toNat) = textOf na base.toNat A else k = 1 ∧ v = .string ByteArray.empty
/-- what Parse answers -/
def ParseOut (base : Int) (neg : Bool) (l : List UInt8) (k : Int) (W : World) (v : Value) : Prop :=
  if 2 ≤ base ∧ base ≤ 36 then (if l = [] ∨ ¬ ∀ c ∈ l, digitVal c.toNat < base.toNat then k = 2 ∧ v = zeroInt else k = 0 ∧ IsInt W v (sgn neg (numBE base.toNat l))) else k = 1 ∧ v = zeroInt

set_option maxHeartbeats 1000000 in
set_option maxRecDepth 100000 in
theorem text1_no (B : Nat) (na : Bool) (aa : Option Addr) (ca : Nat) (xa : List Nat) (base : Int) (w : World) (hra : RowAt w B 24 [.bool na, .slice aa xa.length ca]) (hrn : RowAt w (B + 1) 3 [.int .i64 base])
    (ha : Reads .u32 w (.slice aa xa.length ca) xa) (hla : Limbs xa) (h : formedB na xa = false ∨ base < 2 ∨ 36 < base) :
    Calls Tryd.prog 86 #[.pointer (some ⟨B, 0, none⟩), .pointer (some ⟨B + 1, 0, none⟩), .pointer (some ⟨B + 2, 0, none⟩)] w fun e w' => Below w.heap.size w w' ∧ e = .panicked [{ v := .iface 27 (.int .i64 1), recovered := false }] := by
  have a0 := hra.cell 0
  have a1 := hra.cell 1
  simp only [List.getElem?_cons_zero, List.getElem?_cons_succ] at a0 a1
  have r0' := RowAt.new w 24 [.bool na, .slice aa xa.length ca]
  have bw := (Below.refl w.heap.size w).alloc (Nat.le_refl _) (.cells #[.bool na, .slice aa xa.length ca] 24)
  cases fa : formedB na xa with
  | false =>
    clear h
    go_enter Tryd.func86, Tryd.ntmps86
    go_wp2_with (go_at_call 59; refine (demand1_no _ na aa ca xa _ r0' (ha.below bw) hla fa).mono ?_; rintro e w1 ⟨hbe1, rfl⟩; have bw1 := bw.trans (hbe1.mono (by simp)))
    exact ⟨rfl, bw1, rfl⟩
  | true =>
    have hbd : base < 2 ∨ 36 < base := by rw [fa] at h; exact h.resolve_left (by simp)
    have HB := Lib.hid hbd
    clear h hbd
    go_enter Tryd.func86, Tryd.ntmps86
    go_wp2_with (first
      | (go_at_call 59; refine (demand1_ok _ _ aa ca xa _ r0' (ha.below bw) hla fa).mono ?_; rintro e w1 ⟨hbe1, rfl⟩; have bw1 := bw.trans (hbe1.mono (by simp)); have p1 := (hrn.below bw1).cell 0; simp only [List.getElem?_cons_zero] at p1)
      | (go_at_call 87; refine (demandBase_no _ _ HB.out).mono ?_; rintro e w2 ⟨rfl, rfl⟩))
    exact ⟨rfl, bw1, rfl⟩

theorem Text_any (va : Value) (na : Bool) (xa : List Nat) (base : Int) (w : World) (ha : IntAt w va na xa) (hT : DigitsAt w) :
    Calls Tryd.prog 46 #[va, .int .i64 base] w fun e w' => Below w.heap.size w w' ∧ ∃ s k, e = .returned (.tuple #[.string s, .int .i64 k]) ∧ TextOut (formedB na xa) na base (val xa) k (.string s) := by
  by_cases hc : formedB na xa = true ∧ 2 ≤ base ∧ base ≤ 36
  · obtain ⟨fa, h2, h36⟩ := hc
    obtain ⟨b, rfl⟩ := Int.eq_ofNat_of_zero_le (show 0 ≤ base by omega)
    refine (Text_ok va na xa b w ha fa (by omega) (by omega) hT).mono ?_
    rintro e w' ⟨h1, s, rfl, hs⟩
    refine ⟨h1, s, 0, rfl, ?_⟩
    unfold TextOut
    rw [if_pos ⟨fa, h2, h36⟩]
    exact ⟨rfl, s, rfl, hs⟩
  · refine (Text_of va na xa base w ha (fun k _ v => k = 1 ∧ v = .string ByteArray.empty) (fun _ _ _ _ h _ => h) ?_).mono ?_
    · intro B aa ca W4 hb4 hra hrn hrr hrd he
      obtain ⟨va', he', _, hl⟩ := ha
      refine (text1_no B na aa ca xa base W4 hra hrn hrd hl ?_).mono ?_
      · cases f : formedB na xa with
        | false => exact .inl rfl
        | true => exact .inr (by rw [f] at hc; simp at hc; omega)
      · rintro e W ⟨hbe, rfl⟩
        exact ⟨1, .inr rfl, (Chg.refl _ W4).thenBelow hbe, ByteArray.empty, hrr.below hbe, rfl, rfl⟩
    · rintro e W ⟨hbe, r0, k, rfl, rfl, rfl⟩
      refine ⟨hbe, _, _, rfl, ?_⟩
      unfold TextOut
      rw [if_neg hc]
      exact ⟨rfl, rfl⟩

set_option maxHeartbeats 1000000 in
set_option maxRecDepth 100000 in
theorem Parse_no (s : ByteArray) (base : Int) (neg : Bool) (l : List UInt8) (k0 : Int) (w : World) (hin : ParseIn s neg l) (hlen : l.length ≤ 400)
    (h : (k0 = 1 ∧ (base < 2 ∨ 36 < base)) ∨ (k0 = 2 ∧ (2 ≤ base ∧ base ≤ 36) ∧ (l = [] ∨ ¬ ∀ c ∈ l, digitVal c.toNat < base.toNat))) :
    Calls Tryd.prog 48 #[.string s, .int .i64 base] w fun e w' => Below w.heap.size w w' ∧ e = .returned (.tuple #[zeroInt, .int .i64 k0]) := by
  refine (Parse_of s base w (fun k W v => k = k0 ∧ v = zeroInt) (fun _ _ _ _ h _ => h) ?_).mono ?_
  · intro B W4 hb4 hrs hrn hrr
    have s0 := hrs.cell 0
    have n0 := hrn.cell 0
    simp only [List.getElem?_cons_zero] at s0 n0
    rcases h with ⟨rfl, h⟩ | ⟨rfl, ⟨h2, h36⟩, h⟩
    · have HB := Lib.hid h
      clear h
      go_enter Tryd.func90, Tryd.ntmps90
      go_wp2_with (go_at_call 87; refine (demandBase_no _ _ HB.out).mono ?_; rintro e w2 ⟨rfl, rfl⟩)
      exact ⟨rfl, 1, .inr rfl, Chg.refl _ _, false, none, 0, 0, hrr, rfl, rfl⟩
    · obtain ⟨b, rfl⟩ := Int.eq_ofNat_of_zero_le (show 0 ≤ base by omega)
      have hpa := fun W => parse_bad s b W neg l hin (by omega) h
      have HP := Lib.hid hpa
      clear hpa h hin
      go_enter Tryd.func90, Tryd.ntmps90
      go_wp2_with (first
        | (go_at_call 87; refine (demandBase_ok _ _ (by omega) (by omega)).mono ?_; rintro e w2 ⟨rfl, rfl⟩)
        | (go_at_call 91; refine (HP.out _).mono ?_; rintro e w3 ⟨hbe3, rfl⟩))
      exact ⟨rfl, 2, .inr rfl, (Chg.refl _ _).thenBelow hbe3, false, none, 0, 0, hrr.below hbe3, rfl, rfl⟩
  · rintro e W ⟨hbe, r0, k, rfl, rfl, rfl⟩
    exact ⟨hbe, rfl⟩

set_option exponentiation.threshold 20000 in
theorem numBE_bound {b : Nat} (hb : b ≤ 36) (l : List UInt8) (h : ∀ c ∈ l, digitVal c.toNat < b) (hl : l.length ≤ 400) : numBE b l < B32 ^ 300 := by
  have h1 := numBE_lt l h
  have h2 : b ^ l.length ≤ 64 ^ l.length := Nat.pow_le_pow_left (by omega) _
  have h3 : 64 ^ l.length ≤ 64 ^ 400 := Nat.pow_le_pow_right (by decide) hl
  have h4 : (64 : Nat) ^ 400 < B32 ^ 300 := by
    rw [B32_pow, show (64 : Nat) = 2 ^ 6 by rfl, ← Nat.pow_mul]
    exact Nat.pow_lt_pow_right (by decide) (by decide)
  exact Nat.lt_of_lt_of_le h1 (Nat.le_trans h2 (Nat.le_trans h3 (Nat.le_of_lt h4)))
theorem Parse_any (s : ByteArray) (base : Int) (neg : Bool) (l : List UInt8) (w : World) (hin : ParseIn s neg l) (hlen : l.length ≤ 400) :
    Calls Tryd.prog 48 #[.string s, .int .i64 base] w fun e w' => Below w.heap.size w w' ∧ ∃ n a m c k, e = .returned (.tuple #[.agg #[.bool n, .slice a m c], .int .i64 k]) ∧ ParseOut base neg l k w' (.agg #[.bool n, .slice a m c]) := by
  by_cases hb : 2 ≤ base ∧ base ≤ 36
  · by_cases hbad : l = [] ∨ ¬ ∀ c ∈ l, digitVal c.toNat < base.toNat
    · refine (Parse_no s base neg l 2 w hin hlen (.inr ⟨rfl, hb, hbad⟩)).mono ?_
      rintro e w' ⟨h1, rfl⟩
      refine ⟨h1, false, none, 0, 0, 2, rfl, ?_⟩
      unfold ParseOut
      rw [if_pos hb, if_pos hbad]
      exact ⟨rfl, rfl⟩
    · obtain ⟨b, rfl⟩ := Int.eq_ofNat_of_zero_le (show 0 ≤ base by omega)
      have h1 : l ≠ [] := fun h => hbad (.inl h)
      have h2 : ∀ c ∈ l, digitVal c.toNat < b := Classical.byContradiction fun h => hbad (.inr h)
      refine (Parse_ok s b w (by omega) (by omega) neg l hin.bytes h1 (by omega) h2 (numBE_bound (by omega) l h2 hlen)).mono ?_
      rintro e w' ⟨g1, v, rfl, hI⟩
      obtain ⟨n, a, m, c, rfl⟩ := hI.shape
      refine ⟨g1, n, a, m, c, 0, rfl, ?_⟩
      unfold ParseOut
      rw [if_pos hb, if_neg hbad]
      exact ⟨rfl, hI⟩
  · refine (Parse_no s base neg l 1 w hin hlen (.inl ⟨rfl, by omega⟩)).mono ?_
    rintro e w' ⟨h1, rfl⟩
    refine ⟨h1, false, none, 0, 0, 1, rfl, ?_⟩
    unfold ParseOut
    rw [if_neg hb]
    exact ⟨rfl, rfl⟩

end Go.Proofs.YtlghjfpkfdnfoaaDoor

/- zermeloref01.short: its quotient is new -/
namespace Go.Proofs.YtlghjfpkfdnfoaaDoor
open Go Go.RowKit Go.Shelf

set_option maxHeartbeats 2000000 in
set_option maxRecDepth 100000 in
theorem rshort_fresh (va : Value) (xa : List Nat) (d : Nat) (w : World) (ha : Reads .u32 w va xa) (hla : Limbs xa) (la : xa.length ≤ 100000) (hd0 : 0 < d) (hd : d < B32) :
    Calls Tryd.prog 89 #[va, .int .u32 (d : Int)] w fun e w' => Below w.heap.size w w' ∧ ∃ n1 a1 m1 c1 n2 a2 m2 c2, e = .returned (.agg #[.bool n1, .slice a1 m1 c1, .bool n2, .slice a2 m2 c2]) ∧ IsInt w' (.agg #[.bool n1, .slice a1 m1 c1]) ((val xa / d : Nat) : Int) ∧ IsInt w' (.agg #[.bool n2, .slice a2 m2 c2]) ((val xa % d : Nat) : Int) ∧ ∀ ad, a1 = some ad → w.heap.size ≤ ad.block := by
  obtain ⟨aa, ca, rfl, hca, hma⟩ := ha.form
  have hmk : ∀ W, (Instr.makeSlice 22 (.int .i64 (xa.length : Int)) (.int .i64 (xa.length : Int))).run Tryd.prog W = .ok (.slice (some ⟨W.heap.size, 0, none⟩) xa.length xa.length) (W.alloc (.cells (zeros xa.length) 72)) := fun W => by
    simpa using make_limbs (xa.length : Int) (xa.length : Int) (by omega) (by omega) (by omega) W
  have hstart : RshS w (dlFold xa.length d (backPairs xa 0)).1 ((w.alloc (.cells #[.bool false, .slice none 0 0, .bool false, .slice none 0 0] 48)).alloc (.cells (zeros xa.length) 72)) := by
    have b1 := (Below.refl w.heap.size w).alloc (Nat.le_refl _) (.cells #[.bool false, .slice none 0 0, .bool false, .slice none 0 0] 48)
    have b2 := b1.alloc b1.size (.cells (zeros xa.length) 72)
    refine ⟨(RowAt.new w 48 [.bool false, .slice none 0 0, .bool false, .slice none 0 0]).alloc _, ?_, b2⟩
    have e : (enc32 (dlFold xa.length d (backPairs xa 0)).1).toArray = zeros xa.length := by simp [dlFold, backPairs, enc32, zeros]
    have := RowAt.new (w.alloc (.cells #[.bool false, .slice none 0 0, .bool false, .slice none 0 0] 48)) 72 (enc32 (dlFold xa.length d (backPairs xa 0)).1)
    rw [e] at this
    exact RowAt.at this (by simp)
  have HS := Lib.hid hstart
  clear hstart
  have hdz : ¬ (d : Int) = 0 := by omega
  have hdw : IntKind.u64.wrap (d : Int) = (d : Int) := by rw [IntKind.wrap_u64]; unfold B32 at hd; omega
  go_enter Tryd.func89, Tryd.ntmps89
  go_wp2_with fail
  generalize hW0 : (w.alloc (.cells #[.bool false, .slice none 0 0, .bool false, .slice none 0 0] 48)).alloc (.cells (zeros xa.length) 72) = W0 at *
  clear hW0 hmk
  go_loopw [6, 7] (fun s6 s7 W => ∃ j : Nat, j ≤ xa.length ∧ s7 = .int .i64 ((xa.length : Int) - 1 - j) ∧ s6 = .int .u64 ((dlFold xa.length d (backPairs xa j)).2 : Int) ∧ RshS w (dlFold xa.length d (backPairs xa j)).1 W) (fun _ s7 _ => (intOf s7 + 1).toNat)
  case atStart => exact ⟨0, Nat.zero_le _, by simp, by simp [dlFold, backPairs], HS.out⟩
  case round =>
    obtain ⟨j, hj, rfl, rfl, hS⟩ := hrel
    have hps : ∀ p ∈ backPairs xa j, p.2 < B32 := fun p hp => by
      obtain ⟨q, _, rfl⟩ := List.mem_map.1 hp
      exact limb_getD hla _
    obtain ⟨hq1, hr1⟩ := dlFold_limbs xa.length hd0 (backPairs xa j) hps
    have hlen := dlFold_length xa.length d (backPairs xa j)
    by_cases hlt : j < xa.length
    · obtain ⟨k, hk⟩ : ∃ k, xa.length = j + 1 + k := ⟨xa.length - (j + 1), by omega⟩
      have hki : (xa.length : Int) - 1 - (j : Int) = (k : Int) := by omega
      have hnext : dlFold xa.length d (backPairs xa (j + 1)) = dlStep d (dlFold xa.length d (backPairs xa j)) (k, xa[k]?.getD 0) := by
        rw [backPairs_succ, dlFold_snoc, show xa.length - 1 - j = k by omega]
      rw [hki]
      generalize dlFold xa.length d (backPairs xa j) = st at *
      obtain ⟨q, r⟩ := st
      dsimp only at *
      simp only [dlStep] at hnext
      have hkl : k < xa.length := by omega
      have hA := ha.below hS.chg
      have ia := fun W => hA.index und_limbs size_limb (P := Tryd.prog) k .i64 W hkl
      have ca1 := hA.cell k hkl
      have hxb := limb_getD hla k
      obtain ⟨x, hx⟩ : ∃ x, xa[k]?.getD 0 = x := ⟨_, rfl⟩
      rw [hx] at ca1 hxb hnext
      have hdb := dl_bound hr1 hxb
      have hcell : ∃ z : Value, wr.cell? ⟨w.heap.size + 1, k, none⟩ = some z := by
        rw [hS.o.cell]
        exact ⟨_, enc32_at (by omega)⟩
      obtain ⟨z, hcell⟩ := hcell
      have hfz := hS.o.frozen k
      have ir := fun W => index_win (w.heap.size + 1) 0 xa.length xa.length k (by omega) .i64 W
      simp only [Nat.zero_add] at ir
      obtain ⟨P, hP⟩ : ∃ P, r * B32 = P := ⟨_, rfl⟩
      obtain ⟨T, hT⟩ : ∃ T, P + x = T := ⟨_, rfl⟩
      rw [hP, hT] at hnext hdb
      obtain ⟨Q, hQ⟩ : ∃ Q, T / d = Q := ⟨_, rfl⟩
      obtain ⟨R, hR⟩ : ∃ R, T % d = R := ⟨_, rfl⟩
      rw [hQ, hR] at hnext
      rw [hQ] at hdb
      have hRd : R < d := by rw [← hR]; exact Nat.mod_lt _ hd0
      have hTq : (T : Int) / (d : Int) = (Q : Int) := by rw [← hQ]; exact (Int.natCast_ediv T d).symm
      have hTm : (T : Int) % (d : Int) = (R : Int) := by rw [← hR]; exact (Int.natCast_emod T d).symm
      unfold B32 at hP hxb hdb hd
      have hPB : P ≤ 4294967294 * 4294967296 := by rw [← hP]; exact Nat.mul_le_mul_right _ (by omega)
      have hmul : IntKind.u64.wrap ((r : Int) * 4294967296) = (P : Int) := by rw [← hP, IntKind.wrap_u64]; omega
      have hs1 : IntKind.u64.wrap ((P : Int) + (x : Int)) = (T : Int) := by rw [IntKind.wrap_u64]; omega
      have hw1 : IntKind.u64.wrap (x : Int) = (x : Int) := by rw [IntKind.wrap_u64]; omega
      have hw2 : IntKind.u64.wrap (Q : Int) = (Q : Int) := by rw [IntKind.wrap_u64]; omega
      have hw3 : IntKind.u32.wrap (Q : Int) = (Q : Int) := by rw [IntKind.wrap_u32']; omega
      have hw4 : IntKind.u64.wrap (R : Int) = (R : Int) := by rw [IntKind.wrap_u64]; omega
      have HN := Lib.hid (And.intro hnext (And.intro hk (And.intro hki hlen)))
      clear hnext hk hki hlen hP hT hQ hR hx hdb hps hxb hPB hd
      go_wp2_with fail
      obtain ⟨hn, hk, hki, hl⟩ := HN.out
      refine ⟨⟨j + 1, by omega, by go_num, ?_, ?_⟩, ?_⟩
      · rw [hn, hTm]
      · rw [hn]
        exact hS.set k Q
      · simp [intOf]
    · obtain rfl : j = xa.length := by omega
      obtain ⟨hv1, hv2⟩ := dlFold_end hd0 hla
      generalize dlFold xa.length d (backPairs xa xa.length) = st at *
      obtain ⟨q, r⟩ := st
      dsimp only at *
      have hneg : (xa.length : Int) - 1 - (xa.length : Int) = -1 := by omega
      rw [hneg]
      have hq6 : q.length ≤ 1000000 := by omega
      have hrd : Reads .u32 wr (.slice (some ⟨w.heap.size + 1, 0, none⟩) xa.length xa.length) q := RowAt.reads hS.o _ _ hlen.symm (Nat.le_refl _) (by unfold maxLen; omega)
      have hw1 : IntKind.u32.wrap (r : Int) = (r : Int) := by rw [IntKind.wrap_u32']; unfold B32 at hd; omega
      have hrB : r < B32 := Nat.lt_trans hr1 hd
      have HV := Lib.hid (And.intro hv1 (And.intro hv2 hrB))
      have hrr := hS.r
      have hchg := hS.chg
      clear hv1 hv2 hlen hps hS hr1 hd hrB
      have m2 := fun (X : World) => made_any false (.slice (some ⟨X.heap.size, 0, none⟩) 1 1) [r] (X.alloc (.cells #[.int .u32 (r : Int)] 72)) (RowAt.reads (RowAt.new X 72 [.int .u32 (r : Int)]) 1 1 rfl (Nat.le_refl _) (by unfold maxLen; omega)) (by simpa [Limbs] using HV.out.2.2) (by simp)
      go_wp2_with (first
        | (go_at_call 65; with_reducible refine (made_fresh _ _ q _ hrd hq1 hq6).mono ?_; rintro e w5 ⟨hb5, v5, rfl, hI, hF⟩; obtain ⟨n5, a5, m5, c5, rfl⟩ := hI.shape; have hr5 := hrr.below hb5)
        | (go_at_call 65; with_reducible refine (m2 _).mono ?_; rintro e w6 ⟨hb6, v6, rfl, hJ⟩; obtain ⟨n6, a6, m6, c6, rfl⟩ := hJ.shape; have g6 := ((Below.refl _ w5).alloc (Nat.le_refl _) (.cells #[.int .u32 (r : Int)] 72)).trans (hb6.mono (by simp)); have hr6 := hr5.below g6; have q1 := hr6.cell 0; have q2 := hr6.cell 1; have q3 := hr6.cell 2; have q4 := hr6.cell 3; have f1 := hr6.frozen 0; have f2 := hr6.frozen 1; have f3 := hr6.frozen 2; have f4 := hr6.frozen 3; simp only [List.getElem?_cons_zero, List.getElem?_cons_succ] at q1 q2 q3 q4))
      have q5 := (((hr6.set 0 (.bool n5)).set 1 (.slice a5 m5 c5)).set 2 (.bool n6)).set 3 (.slice a6 m6 c6)
      have u1 := q5.cell 0
      have u2 := q5.cell 1
      have u3 := q5.cell 2
      have u4 := q5.cell 3
      simp only [List.set_cons_zero, List.set_cons_succ, List.getElem?_cons_zero, List.getElem?_cons_succ] at u1 u2 u3 u4
      have b5 := hchg.trans (hb5.mono hchg.size)
      have b9 := b5.trans (g6.mono b5.size)
      obtain ⟨hv1, hv2, -⟩ := HV.out
      have hk := row4_keep hr6 (.bool n5) (.slice a5 m5 c5) (.bool n6) (.slice a6 m6 c6)
      refine bodyPost_ret (v := .agg #[.bool n5, .slice a5 m5 c5, .bool n6, .slice a6 m6 c6]) (by simp [results, Tryd.results89, go_sem, loadCellsFrom, u1, u2, u3, u4]) rfl ⟨(((b9.setCell (Nat.le_refl _) _).setCell (Nat.le_refl _) _).setCell (Nat.le_refl _) _).setCell (Nat.le_refl _) _, n5, a5, m5, c5, n6, a6, m6, c6, rfl, ?_, ?_, ?_⟩
      · rw [← hv1]
        exact (hI.below g6).keep hk
      · rw [← hv2]
        have : sgn false (val [r]) = (r : Int) := by simp [sgn, val]
        rw [this] at hJ
        exact hJ.keep hk
      · rintro ad rfl
        exact Nat.le_trans hchg.size (hF _ _ _ _ rfl)
end Go.Proofs.YtlghjfpkfdnfoaaDoor

/- zermeloref01.Text where there are no digits -/
namespace Go.Proofs.YtlghjfpkfdnfoaaDoor
open Go Go.RowKit Go.Shelf

set_option maxHeartbeats 1000000 in
set_option maxRecDepth 100000 in
theorem rtext_no (v : Value) (neg : Bool) (xs : List Nat) (base : Int) (w : World) (h : IntAt w v neg xs) (hn : ¬ (formedB neg xs = true ∧ 2 ≤ base ∧ base ≤ 36)) :
    Calls Tryd.prog 47 #[v, .int .i64 base] w fun e w' => Below w.heap.size w w' ∧ e = .returned (.agg #[.string ByteArray.empty, .int .i64 1]) := by
  have KF := fun X (hX : Below w.heap.size w X) => rformed_any v neg xs X (h.below hX)
  obtain ⟨va, rfl, hr, hl⟩ := h
  obtain ⟨a, c, rfl, hc, hm⟩ := hr.form
  have b1 := (Below.refl w.heap.size w).alloc (Nat.le_refl _) (.cells #[.bool neg, .slice a xs.length c] 24)
  have b2 := b1.alloc b1.size (.cells #[.string ByteArray.empty, .int .i64 0] 61)
  have q2 := RowAt.new (w.alloc (.cells #[.bool neg, .slice a xs.length c] 24)) 61 [.string ByteArray.empty, .int .i64 0]
  simp only [World.size_alloc] at q2
  clear hr hl hc hm
  cases hf : formedB neg xs with
  | false =>
    rw [hf] at KF
    clear hf hn
    go_enter Tryd.func47, Tryd.ntmps47
    go_wp2_with (go_at_call 19; refine (KF _ b2).mono ?_; rintro e w1 ⟨hb1, rfl⟩; have q4 := q2.below hb1; have s1 := q4.cell 0; have s2 := q4.cell 1; have s4 := q4.frozen 0; have s5 := q4.frozen 1; simp only [List.getElem?_cons_zero, List.getElem?_cons_succ] at s1 s2)
    have q5 := (q4.set 0 (.string ByteArray.empty)).set 1 (.int .i64 1)
    have u1 := q5.cell 0
    have u2 := q5.cell 1
    simp only [List.set_cons_zero, List.set_cons_succ, List.getElem?_cons_zero, List.getElem?_cons_succ] at u1 u2
    have b9 := b2.trans (hb1.mono b2.size)
    exact bodyPost_ret (v := .agg #[.string ByteArray.empty, .int .i64 1]) (by
      have e0 : ({ data := #[] } : ByteArray) = ByteArray.empty := rfl
      simp [results, Tryd.results47, go_sem, loadCellsFrom, e0, u1, u2]) rfl ⟨(b9.setCell (by simp) _).setCell (by simp) _, rfl⟩
  | true =>
    rw [hf] at KF hn
    rcases Int.lt_or_le base 2 with h | h
    · have h1 : decide (base < 2) = true := decide_eq_true h
      clear hf hn h
      go_enter Tryd.func47, Tryd.ntmps47
      go_wp2_with (go_at_call 19; refine (KF _ b2).mono ?_; rintro e w1 ⟨hb1, rfl⟩; have q4 := q2.below hb1; have s1 := q4.cell 0; have s2 := q4.cell 1; have s4 := q4.frozen 0; have s5 := q4.frozen 1; simp only [List.getElem?_cons_zero, List.getElem?_cons_succ] at s1 s2)
      have q5 := (q4.set 0 (.string ByteArray.empty)).set 1 (.int .i64 1)
      have u1 := q5.cell 0
      have u2 := q5.cell 1
      simp only [List.set_cons_zero, List.set_cons_succ, List.getElem?_cons_zero, List.getElem?_cons_succ] at u1 u2
      have b9 := b2.trans (hb1.mono b2.size)
      exact bodyPost_ret (v := .agg #[.string ByteArray.empty, .int .i64 1]) (by
        have e0 : ({ data := #[] } : ByteArray) = ByteArray.empty := rfl
        simp [results, Tryd.results47, go_sem, loadCellsFrom, e0, u1, u2]) rfl ⟨(b9.setCell (by simp) _).setCell (by simp) _, rfl⟩
    · have h1 : decide (base < 2) = false := decide_eq_false (by omega)
      have h2 : decide (36 < base) = true := decide_eq_true (by
        apply Classical.byContradiction
        intro h3
        exact hn ⟨rfl, h, by omega⟩)
      clear hf hn h
      go_enter Tryd.func47, Tryd.ntmps47
      go_wp2_with (go_at_call 19; refine (KF _ b2).mono ?_; rintro e w1 ⟨hb1, rfl⟩; have q4 := q2.below hb1; have s1 := q4.cell 0; have s2 := q4.cell 1; have s4 := q4.frozen 0; have s5 := q4.frozen 1; simp only [List.getElem?_cons_zero, List.getElem?_cons_succ] at s1 s2)
      have q5 := (q4.set 0 (.string ByteArray.empty)).set 1 (.int .i64 1)
      have u1 := q5.cell 0
      have u2 := q5.cell 1
      simp only [List.set_cons_zero, List.set_cons_succ, List.getElem?_cons_zero, List.getElem?_cons_succ] at u1 u2
      have b9 := b2.trans (hb1.mono b2.size)
      exact bodyPost_ret (v := .agg #[.string ByteArray.empty, .int .i64 1]) (by
        have e0 : ({ data := #[] } : ByteArray) = ByteArray.empty := rfl
        simp [results, Tryd.results47, go_sem, loadCellsFrom, e0, u1, u2]) rfl ⟨(b9.setCell (by simp) _).setCell (by simp) _, rfl⟩

set_option maxHeartbeats 1000000 in
set_option maxRecDepth 100000 in
theorem rtext_zero (v : Value) (neg : Bool) (b : Nat) (w : World) (h : IntAt w v neg []) (hf : formedB neg [] = true) (h2 : 2 ≤ b) (h36 : b ≤ 36) :
    Calls Tryd.prog 47 #[v, .int .i64 (b : Int)] w fun e w' => Below w.heap.size w w' ∧ e = .returned (.agg #[.string { data := #[48] }, .int .i64 0]) := by
  have KF := fun X (hX : Below w.heap.size w X) => rformed_any v neg [] X (h.below hX)
  rw [hf] at KF
  obtain ⟨va, rfl, hr, hl⟩ := h
  obtain ⟨a, c, rfl, hc, hm⟩ := hr.form
  simp only [List.length_nil] at *
  have b1 := (Below.refl w.heap.size w).alloc (Nat.le_refl _) (.cells #[.bool neg, .slice a 0 c] 24)
  have b2 := b1.alloc b1.size (.cells #[.string ByteArray.empty, .int .i64 0] 61)
  have q1 := (RowAt.new w 24 [.bool neg, .slice a 0 c]).alloc (.cells #[.string ByteArray.empty, .int .i64 0] 61)
  have q2 := RowAt.new (w.alloc (.cells #[.bool neg, .slice a 0 c] 24)) 61 [.string ByteArray.empty, .int .i64 0]
  simp only [World.size_alloc] at q2
  have h1 : decide ((b : Int) < 2) = false := decide_eq_false (by omega)
  have h3 : decide (36 < (b : Int)) = false := decide_eq_false (by omega)
  clear hr hl hc hm hf
  go_enter Tryd.func47, Tryd.ntmps47
  go_wp2_with (go_at_call 19; refine (KF _ b2).mono ?_; rintro e w1 ⟨hb1, rfl⟩; have q3 := q1.below hb1; have q4 := q2.below hb1; have s1 := q4.cell 0; have s2 := q4.cell 1; have s4 := q4.frozen 0; have s5 := q4.frozen 1; have s6 := q3.cell 1; simp only [List.getElem?_cons_zero, List.getElem?_cons_succ] at s1 s2 s6)
  have q5 := (q4.set 0 (.string { data := #[48] })).set 1 (.int .i64 0)
  have u1 := q5.cell 0
  have u2 := q5.cell 1
  simp only [List.set_cons_zero, List.set_cons_succ, List.getElem?_cons_zero, List.getElem?_cons_succ] at u1 u2
  have b9 := b2.trans (hb1.mono b2.size)
  exact bodyPost_ret (v := .agg #[.string { data := #[48] }, .int .i64 0]) (by simp [results, Tryd.results47, go_sem, loadCellsFrom, u1, u2]) rfl ⟨(b9.setCell (by simp) _).setCell (by simp) _, rfl⟩

end Go.Proofs.YtlghjfpkfdnfoaaDoor
