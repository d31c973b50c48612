/- num.root -/
import Derived.Test.YtlghjfpkfdnfoaaDoorNumMTimesPlus
import Derived.Test.YtlghjfpkfdnfoaaDoorNumMBitLen
import Derived.Test.YtlghjfpkfdnfoaaDoorNumMFloored
import Derived.Test.YtlghjfpkfdnfoaaDoorNumMTextApi
import Derived.RegionTactic
import Derived.Deep.CutRange
import Derived.BigRegion
namespace Go.Proofs.YtlghjfpkfdnfoaaDoor
open Go Go.RowKit Go.Shelf

/-- divide keeps its contract where the dividend has at most Ka limbs and the divisor at most Kb -/
def DivUpTo (Ka Kb : Nat) : Prop := ∀ (va vb : Value) (xa xb : List Nat) (w : World), Reads .u32 w va xa → Reads .u32 w vb xb → Canon xa → Canon xb → xa.length ≤ Ka → xb.length ≤ Kb → 0 < val xb →
  Calls Tryd.prog 105 #[va, vb] w fun e W' => DivRes w W' xa xb e
theorem divUpTo_one : DivUpTo 100000 1 := by
  intro va vb xa xb w ha hb hka hkb la lb h0
  cases xb with
  | nil => simp [val] at h0
  | cons d rest =>
    have hr0 : rest.length = 0 := by have : (d :: rest).length = rest.length + 1 := rfl
                                     omega
    obtain rfl : rest = [] := List.eq_nil_of_length_eq_zero hr0
    exact divide_small va vb xa d w ha hb hka hkb la

theorem Reads.inj {k : IntKind} {w : World} {v : Value} {xs ys : List Nat} (h : Reads k w v xs) (h' : Reads k w v ys) : xs = ys := by
  obtain ⟨a, c, rfl, _, _, hx⟩ := h
  obtain ⟨a', c', e, _, _, hy⟩ := h'
  simp only [Value.slice.injEq] at e
  obtain ⟨rfl, hl, rfl⟩ := e
  apply List.ext_getElem hl
  intro j h1 h2
  have e1 := (hx j h1).2
  have e2 := (hy j h2).2
  rw [e1] at e2
  simp only [Option.some.injEq, Value.int.injEq, true_and, List.getElem?_eq_getElem h1, List.getElem?_eq_getElem h2, Option.getD_some] at e2
  omega
open Classical in
noncomputable def readVal (v : Value) (W : World) : Nat := if h : ∃ xs, Reads .u32 W v xs then val (Classical.choose h) else 0
theorem readVal_eq {v : Value} {W : World} {xs : List Nat} (h : Reads .u32 W v xs) : readVal v W = val xs := by
  have hex : ∃ xs, Reads .u32 W v xs := ⟨xs, h⟩
  unfold readVal
  rw [dif_pos hex, Reads.inj (Classical.choose_spec hex) h]

structure NearInv (w : World) (A n : Nat) (v : Value) (W : World) : Prop where
  below : Below w.heap.size w W
  reads : ∃ cs, Reads .u32 W v cs ∧ Canon cs ∧ 0 < val cs ∧ val cs ^ n ≤ 2 ^ n * A ∧ (∀ r, r ^ n ≤ A → r ≤ val cs)

set_option maxHeartbeats 1000000 in
set_option maxRecDepth 100000 in
theorem root_nil (va : Value) (n : Int) (w : World) (ha : Reads .u32 w va []) :
    Calls Tryd.prog 109 #[va, .int .i64 n] w fun e w' => Below w.heap.size w w' ∧ e = .returned (.slice none 0 0) := by
  obtain ⟨aa, ca, rfl, hca, hma⟩ := ha.form
  have b0 : Below w.heap.size w w := Below.refl _ _
  go_enter Tryd.func109, Tryd.ntmps109
  go_wp2
  go_ret
  exact ⟨b0, rfl⟩

set_option maxHeartbeats 1000000 in
set_option maxRecDepth 100000 in
theorem root_one (va : Value) (xa : List Nat) (n : Nat) (w : World) (ha : Reads .u32 w va xa) (hla : Limbs xa) (hx : xa.length ≠ 0) (na : xa.length ≤ 1000) (h1 : 1 ≤ bitsOf xa) (hb : bitsOf xa ≤ n) (hn : n ≤ 100) :
    Calls Tryd.prog 109 #[va, .int .i64 n] w fun e w' => Below w.heap.size w w' ∧ ∃ v, e = .returned v ∧ Reads .u32 w' v [1] := by
  obtain ⟨aa, ca, rfl, hca, hma⟩ := ha.form
  have hq : ((bitsOf xa : Int) - 1) / n = 0 := Int.ediv_eq_zero_of_lt (by omega) (by omega)
  have hq' : ((bitsOf xa : Int) - 1).tdiv n = 0 := Int.tdiv_eq_zero_of_lt (by omega) (by omega)
  have hn0 : (n : Int) ≠ 0 := by omega
  have hn1 : n ≠ 0 := by omega
  have hbl := fun W h => bitLen_any (.slice aa xa.length ca) xa W (ha.below h) hla (by omega)
  go_enter Tryd.func109, Tryd.ntmps109
  go_wp2_with (first | (go_at_call 55; refine (hbl _ (Below.refl _ _)).mono ?_; rintro e w1 ⟨rfl, rfl⟩; generalize bitsOf xa = bits at *) | (go_at_call 106; refine (one_any _).mono ?_; rintro e w1 ⟨hbe1, v1, rfl, h1⟩; obtain ⟨a1, c1, rfl, hc1, hm1⟩ := h1.form))
  go_ret
  exact ⟨hbe1, _, rfl, h1⟩
theorem shiftRight_any (va : Value) (xa : List Nat) (n : Nat) (w : World) (ha : Reads .u32 w va xa) (hla : Limbs xa) (na : xa.length ≤ 100000) (hn : n ≤ 3200000) :
    Calls Tryd.prog 129 #[va, .int .i64 (n : Int)] w fun e w' => Below w.heap.size w w' ∧ ∃ v cs, e = .returned v ∧ Reads .u32 w' v cs ∧ Canon cs ∧ val cs = val xa / 2 ^ n := by
  have hp : 2 ^ n = B32 ^ (n / 32) * 2 ^ (n % 32) := by rw [B32_pow, ← Nat.pow_add, Nat.div_add_mod]
  by_cases hw : n / 32 < xa.length
  · refine (shiftRight_some va xa n w ha hla na hn hw).mono ?_
    rintro e w' ⟨hbe, v, cs, rfl, h1, h2, h3⟩
    refine ⟨hbe, v, cs, rfl, h1, h2, ?_⟩
    have hv := val_append (xa.take (n / 32)) (xa.drop (n / 32))
    rw [List.take_append_drop, List.length_take, Nat.min_eq_left (by omega)] at hv
    have hlt : val (xa.take (n / 32)) < B32 ^ (n / 32) := by
      have := val_lt (limbs_take hla (n / 32))
      rwa [List.length_take, Nat.min_eq_left (by omega)] at this
    rw [h3, hp, ← Nat.div_div_eq_div_mul, hv, Nat.add_mul_div_left _ _ (Nat.pow_pos B32_pos), Nat.div_eq_of_lt hlt, Nat.zero_add]
  · refine (shiftRight_none va xa n w ha hn (by omega)).mono ?_
    rintro e w' ⟨hbe, rfl⟩
    refine ⟨hbe, _, [], rfl, Reads.nil _ _, canon_nil, ?_⟩
    have hlt := val_lt hla
    have hle : B32 ^ xa.length ≤ 2 ^ n := by
      rw [hp]
      exact Nat.le_trans (Nat.pow_le_pow_right B32_pos (by omega)) (Nat.le_mul_of_pos_right _ (Nat.pow_pos (by decide)))
    rw [Nat.div_eq_of_lt (by omega)]
    rfl

theorem cmpI_nonneg (x y : Nat) : 0 ≤ cmpI (x : Int) (y : Int) ↔ y ≤ x := by
  unfold cmpI
  split
  · omega
  · split <;> omega

theorem root_length {A n L : Nat} {rs : List Nat} (hk : Canon rs) (hn : n ≠ 0) (h : val rs ^ n ≤ A) (hA : A < B32 ^ L) : rs.length ≤ L :=
  canon_length_le hk (Nat.lt_of_le_of_lt (Nat.le_trans (Nat.le_self_pow hn _) h) hA)
theorem root_length1 {A n L : Nat} {rs ps : List Nat} (hk : Canon ps) (hn : n ≠ 0) (h : val rs ^ n ≤ A) (hA : A < B32 ^ L) (hp : val ps = val rs + 1) : ps.length ≤ L + 1 := by
  apply canon_length_le hk
  have h1 : val rs < B32 ^ L := Nat.lt_of_le_of_lt (Nat.le_trans (Nat.le_self_pow hn _) h) hA
  have h2 : B32 ^ L < B32 ^ (L + 1) := Nat.pow_lt_pow_right (by decide) (by omega)
  rw [hp]
  exact Nat.lt_of_le_of_lt h1 h2
theorem canon_len_add {xs ys zs : List Nat} (hz : Canon zs) (hx : Limbs xs) (hy : Limbs ys) (e : val zs = val xs + val ys) : zs.length ≤ max xs.length ys.length + 1 := by
  apply canon_length_le hz
  have h1 := Nat.lt_of_lt_of_le (val_lt hx) (Nat.pow_le_pow_right B32_pos (Nat.le_max_left xs.length ys.length))
  have h2 := Nat.lt_of_lt_of_le (val_lt hy) (Nat.pow_le_pow_right B32_pos (Nat.le_max_right xs.length ys.length))
  rw [e, Nat.pow_succ]
  have h3 : B32 ^ max xs.length ys.length * 2 ≤ B32 ^ max xs.length ys.length * B32 := Nat.mul_le_mul_left _ (by decide)
  omega
theorem canon_len_tplus {xs zs : List Nat} {f c : Nat} (hz : Canon zs) (hx : Limbs xs) (hf : f < B32) (hc : c < B32) (e : val zs = val xs * f + c) : zs.length ≤ xs.length + 1 := by
  apply canon_length_le hz
  rw [e, Nat.pow_succ]
  have h1 := val_lt hx
  have h2 : val xs * f ≤ val xs * (B32 - 1) := Nat.mul_le_mul_left _ (by omega)
  have h3 : (val xs + 1) * B32 ≤ B32 ^ xs.length * B32 := Nat.mul_le_mul_right _ h1
  have h4 : val xs * (B32 - 1) + val xs = val xs * B32 := by
    rw [← Nat.mul_succ, show (B32 - 1).succ = B32 from rfl]
  rw [Nat.add_mul, Nat.one_mul] at h3
  omega

set_option maxHeartbeats 2000000 in
set_option maxRecDepth 100000 in
theorem root_step (K L m q half s : Nat) (hT : TimesUpTo K) (hD : DivUpTo L K) (hL : L ≤ 1000) (hK0 : 0 < K) (hK : K ≤ 1000) (hm : m < 100) (va : Value) (xa : List Nat) (w : World) (ha : Reads .u32 w va xa) (hka : Canon xa) (hx : xa.length ≠ 0) (na : xa.length ≤ L)
    (hq : (bitsOf xa - 1) / (m + 1) = q) (hq1 : 1 ≤ q) (hhalf : (q + 1) / 2 = half) (hs : (m + 1) * half = s) (hs1 : val xa / 2 ^ s ≠ 0) (h1 : 1 ≤ bitsOf xa) (hfit : 2 ^ (m + 1) * val xa < B32 ^ K)
    (hrec : ∀ v ys W, Below w.heap.size w W → Reads .u32 W v ys → Canon ys → val ys = val xa / 2 ^ s → Calls Tryd.prog 109 #[v, .int .i64 ((m : Int) + 1)] W fun e W' => Below W.heap.size W W' ∧ ∃ v' cs, e = .returned v' ∧ Reads .u32 W' v' cs ∧ Canon cs ∧ IsRoot (val xa / 2 ^ s) (m + 1) (val cs)) :
    Calls Tryd.prog 109 #[va, .int .i64 ((m : Int) + 1)] w fun e w' => Below w.heap.size w w' ∧ ∃ v cs, e = .returned v ∧ Reads .u32 w' v cs ∧ Canon cs ∧ IsRoot (val xa) (m + 1) (val cs) := by
  obtain ⟨aa, ca, rfl, hca, hma⟩ := ha.form
  have hbits : bitsOf xa ≤ 32000 := by
    unfold bitsOf
    rw [if_neg hx]
    have := (bitLen_bounds (canon_last hka (by intro h; exact hx (by simp [h]))) (limb_getD hka.1 (xa.length - 1))).2.1
    omega
  have hqb : q ≤ 32000 := by rw [← hq]; exact Nat.le_trans (Nat.div_le_self _ _) (by omega)
  have hq' : ((bitsOf xa : Int) - 1) / ((m : Int) + 1) = (q : Int) := by
    rw [← hq, show ((bitsOf xa : Int) - 1) = ((bitsOf xa - 1 : Nat) : Int) by omega]; rfl
  have hq2 : ((bitsOf xa : Int) - 1).tdiv ((m : Int) + 1) = (q : Int) := by
    rw [Int.tdiv_eq_ediv_of_nonneg (by omega)]; exact hq'
  have hh : ((q : Int) + 1) / 2 = (half : Int) := by rw [← hhalf]; omega
  have hsm : ((m : Int) + 1) * (half : Int) = (s : Int) := by rw [← hs]; push_cast; rfl
  have hsb : s ≤ 3200000 := by
    rw [← hs]; exact Nat.le_trans (Nat.mul_le_mul (show m + 1 ≤ 100 by omega) (show half ≤ 32000 by rw [← hhalf]; omega)) (by decide)
  have hw1 : IntKind.u32.wrap (m : Int) = (m : Int) := by rw [IntKind.wrap_u32']; omega
  have hw2 : IntKind.u32.wrap ((m : Int) + 1) = (m : Int) + 1 := by rw [IntKind.wrap_u32']; omega
  have hbl := fun W h => bitLen_any (.slice aa xa.length ca) xa W (ha.below h) hka.1 (by omega)
  have hA1 : val xa < B32 ^ L := Nat.lt_of_lt_of_le (val_lt hka.1) (Nat.pow_le_pow_right B32_pos na)
  have HA1 := Lib.hid hA1
  clear hA1
  have HQ := Lib.hid hq
  have HS := Lib.hid hs
  have HF := Lib.hid hfit
  have HS1 := Lib.hid hs1
  clear hq hs hfit hs1
  go_enter Tryd.func109, Tryd.ntmps109
  go_wp2_with (first
    | (go_at_call 55; refine (hbl _ (Below.refl _ _)).mono ?_; rintro e w1 ⟨rfl, rfl⟩; generalize bitsOf xa = bits at *; clear hbl)
    | (go_at_call 129; refine (shiftRight_any _ xa s _ ha hka.1 (by omega) hsb).mono ?_; rintro e w2 ⟨hbe2, v2, ys, rfl, h2, k2, e2⟩; obtain ⟨a2, c2, rfl, hc2, hm2⟩ := h2.form; have b2 := hbe2)
    | (go_at_call 109; refine (hrec _ ys _ b2 h2 k2 e2).mono ?_; rintro e w3 ⟨hbe3, v3, rs, rfl, h3, k3, e3⟩; obtain ⟨a3, c3, rfl, hc3, hm3⟩ := h3.form; have b3 := b2.trans (hbe3.mono b2.size); have hA2 := Nat.lt_of_le_of_lt (Nat.div_le_self (val xa) (2 ^ s)) HA1.out; have hlr : rs.length ≤ L := root_length k3 (by omega) e3.1 hA2; have HA2 := Lib.hid hA2; clear hA2)
    | (go_at_call 106; refine (one_any _).mono ?_; rintro e w4 ⟨hbe4, v4, rfl, h4⟩; obtain ⟨a4, c4, rfl, hc4, hm4⟩ := h4.form; have b4 := b3.trans (hbe4.mono b3.size))
    | (go_at_call 101; refine (plus_any _ _ rs [1] _ (h3.below hbe4) h4 k3.1 (by intro x hx; simp at hx; subst hx; decide) (by omega) (by simp)).mono ?_; rintro e w5 ⟨hbe5, v5, ps, rfl, h5, k5, e5⟩; have hlp : ps.length ≤ L + 1 := root_length1 k5 (show m + 1 ≠ 0 by omega) e3.1 HA2.out (by rw [e5]; rfl); obtain ⟨a5, c5, rfl, hc5, hm5⟩ := h5.form; have b5 := b4.trans (hbe5.mono b4.size))
    | (go_at_call 126; refine (shiftLeft_any _ ps half _ h5 k5.1 (by omega) (by omega)).mono ?_; rintro e w6 ⟨hbe6, v6, ns, rfl, h6, k6, e6⟩; obtain ⟨a6, c6, rfl, hc6, hm6⟩ := h6.form; have b6 := b5.trans (hbe6.mono b5.size)))
  have hpos : 0 < val xa := by
    have := HS1.out
    rcases Nat.eq_zero_or_pos (val xa) with h | h
    · rw [h, Nat.zero_div] at this; exact absurd rfl this
    · exact h
  have hs1' : 1 ≤ val rs := by
    rcases Nat.eq_zero_or_pos (val rs) with h | h
    · have := e3.2
      rw [h, Nat.zero_add, Nat.one_pow] at this
      have := HS1.out
      omega
    · exact h
  have hsE := HS.out
  have hstart : NearInv w (val xa) (m + 1) (.slice a6 ns.length c6) w6 := by
    refine ⟨b6, ns, h6, k6, ?_, ?_, ?_⟩
    · rw [e6, e5]; exact Nat.mul_pos (Nat.add_pos_left hs1' _) (Nat.pow_pos (by decide))
    · rw [e6, e5, show val [1] = 1 from rfl]
      rw [← hsE] at e3
      exact near_small e3 hs1'
    · intro r hr
      rw [← hsE] at e3
      have h9 := near_start e3
      rw [e6, e5, show val [1] = 1 from rfl]
      exact Nat.le_of_lt (Nat.lt_of_not_le fun hc => by
        have := Nat.pow_le_pow_left hc (m + 1)
        omega)
  clear hrec hq' hq2 hh hsm hsb hbits h1 HS HS1 e6 k6 h6 e5 k5 h5 e3 k3 h3 e2 k2 h2 hbe2 hbe3 hbe4 hbe5 hbe6 b2 b3 b4 b5 b6 hqb hq1 hsE hs1' hlr hlp HA2 HQ hx h4
  go_loopw [7] (fun v W => (∃ a2 n2 c2, v = .slice a2 n2 c2) ∧ NearInv w (val xa) (m + 1) v W) (fun v W => readVal v W)
  case atStart => exact ⟨⟨_, _, _, rfl⟩, hstart⟩
  case round =>
    obtain ⟨⟨a2, n2, c2, rfl⟩, hb, cs, hr, hkc, hv0, hvn, hvr⟩ := hrel
    have hA1 := HA1.out
    have hcsK : val cs < B32 ^ K := Nat.lt_of_le_of_lt (Nat.le_trans (Nat.le_self_pow (by omega) _) hvn) HF.out
    have lcs : cs.length ≤ K := canon_length_le hkc hcsK
    have hfitp : val cs ^ m < B32 ^ K := by
      refine Nat.lt_of_le_of_lt (Nat.le_trans ?_ hvn) HF.out
      rw [Nat.pow_succ]
      exact Nat.le_mul_of_pos_right _ hv0
    have hpp : 0 < val cs ^ m := Nat.pow_pos hv0
    have HV0 := Lib.hid hv0
    have HVN := Lib.hid hvn
    have HVR := Lib.hid hvr
    have HFP := Lib.hid hfitp
    have HPP := Lib.hid hpp
    have HCK := Lib.hid hcsK
    clear hv0 hvn hvr hfitp hpp hcsK hA1
    obtain ⟨a2', c2', hsl, -, -⟩ := hr.form
    simp only [Value.slice.injEq] at hsl
    obtain ⟨rfl, rfl, rfl⟩ := hsl
    have hdl : ∀ (v : Value) (ys : List Nat) (W : World), Reads .u32 W v ys → Limbs ys → ys.length ≤ 100000 → Calls Tryd.prog 112 #[v, .int .u32 ((m : Int) + 1)] W fun e w' => Below W.heap.size W w' ∧ ∃ v' cs, e = .returned (.tuple #[v', .int .u32 ((val ys % (m + 1) : Nat) : Int)]) ∧ Reads .u32 w' v' cs ∧ Canon cs ∧ val cs = val ys / (m + 1) := fun v ys W h hl hn => by
      rw [show ((m : Int) + 1) = ((m + 1 : Nat) : Int) by omega]
      exact divideLimb_any v ys (m + 1) W h hl hn (by omega) (by unfold B32; omega)
    go_wp2_with (first
      | (go_at_call 77; refine (power_any K hT hK0 _ cs m _ hr hkc (by omega) HFP.out).mono ?_; rintro e w1 ⟨hbe1, v1, qs1, rfl, h1, k1, e1⟩; obtain ⟨a1, c1, rfl, hc1, hm1⟩ := h1.form; have b1 := hb.trans (hbe1.mono hb.size))
      | (go_at_call 105; refine (hD _ _ xa qs1 _ (ha.below b1) h1 hka k1 na (canon_length_le k1 (by rw [e1]; exact HFP.out)) (by rw [e1]; exact HPP.out)).mono ?_; rintro e w2 ⟨hbe2, v2, r2, qs2, rs2, rfl, h2, h2r, k2, k2r, e2, e2r⟩; obtain ⟨a3, c3, rfl, hc3, hm3⟩ := h2.form; obtain ⟨a4, c4, rfl, hc4, hm4⟩ := h2r.form; have b2 := b1.trans (hbe2.mono b1.size); have lq2 : qs2.length ≤ 1000 := Nat.le_trans (canon_le_length hka k2 (by rw [e2]; exact Nat.div_le_self _ _)) (by omega); clear hD)
      | (go_at_call 116; refine (timesPlus_any _ cs m 0 _ ((hr.below hbe1).below hbe2) hkc.1 (by omega) (by unfold B32; omega) (by decide)).mono ?_; rintro e w3 ⟨hbe3, v3, ts, rfl, h3, k3, e3⟩; obtain ⟨a5, c5, rfl, hc5, hm5⟩ := h3.form; have b3 := b2.trans (hbe3.mono b2.size); have lts := canon_len_tplus k3 hkc.1 (show m < B32 by unfold B32; omega) (by decide) e3)
      | (go_at_call 101; refine (plus_any _ _ ts qs2 _ h3 (h2.below hbe3) k3.1 k2.1 (by omega) (by omega)).mono ?_; rintro e w4 ⟨hbe4, v4, us, rfl, h4, k4, e4⟩; obtain ⟨a6, c6, rfl, hc6, hm6⟩ := h4.form; have b4 := b3.trans (hbe4.mono b3.size); have lus := canon_len_add k4 k3.1 k2.1 e4)
      | (go_at_call 112; refine (hdl _ us _ h4 k4.1 (by omega)).mono ?_; rintro e w5 ⟨hbe5, v5, ns, rfl, h5, k5, e5⟩; obtain ⟨a7, c7, rfl, hc7, hm7⟩ := h5.form; have b5 := b4.trans (hbe5.mono b4.size); have lns : ns.length ≤ us.length := canon_le_length k4 k5 (by rw [e5]; exact Nat.div_le_self _ _))
      | (go_at_call 53; refine (compare_any _ _ ns cs _ h5 ((((hr.below hbe1).below hbe2).below hbe3).below hbe4 |>.below hbe5) k5 hkc (by omega)).mono ?_; rintro e w6 ⟨hbe6, rfl⟩; have b6 := b5.trans (hbe6.mono b5.size)))
    all_goals rename_i hc
    all_goals have E5 : val ns = ((m + 1 - 1) * val cs + val xa / val cs ^ (m + 1 - 1)) / (m + 1) := by rw [e5, e4, e3, e2, e1, Nat.add_zero, Nat.add_sub_cancel, Nat.mul_comm]
    all_goals have EI : ((val cs : Int) * (m : Int) + (val xa : Int) / (val cs : Int) ^ m) / ((m : Int) + 1) = ((val ns : Nat) : Int) := by rw [e5, e4, e3, e2, e1]; simp
    all_goals rw [EI] at hc
    · go_ret
      refine ⟨b6, _, cs, rfl, (((((hr.below hbe1).below hbe2).below hbe3).below hbe4).below hbe5).below hbe6, hkc, isRoot_of ?_ HVR.out⟩
      refine newton_stop HV0.out (Nat.succ_pos m) ?_
      rw [← E5]
      exact (cmpI_nonneg _ _).1 hc
    · have hlt : val ns < val cs := Nat.lt_of_not_le fun h => by
        have := (cmpI_nonneg (val ns) (val cs)).2 h
        omega
      refine ⟨⟨⟨_, _, _, rfl⟩, b6, ns, h5.below hbe6, k5, ?_, ?_, ?_⟩, ?_⟩
      · have := newton_ge (A := val xa) (x := val cs) (n := m + 1) (r := 1) HV0.out (Nat.succ_pos m) (by rw [Nat.one_pow]; exact hpos)
        rw [← E5] at this
        exact this
      · exact Nat.le_trans (Nat.pow_le_pow_left (Nat.le_of_lt hlt) _) HVN.out
      · intro r hr9
        have := newton_ge (A := val xa) (x := val cs) (n := m + 1) (r := r) HV0.out (Nat.succ_pos m) hr9
        rw [← E5] at this
        exact this
      · rw [readVal_eq (h5.below hbe6), readVal_eq hr]
        exact hlt

theorem root_any (K L m : Nat) (hT : TimesUpTo K) (hD : DivUpTo L K) (hL : L ≤ 1000) (hK0 : 0 < K) (hK : K ≤ 1000) (hm : m < 100) : ∀ (b : Nat) (va : Value) (xa : List Nat) (w : World), bitsOf xa ≤ b → Reads .u32 w va xa → Canon xa → xa.length ≤ L → 2 ^ (m + 1) * val xa < B32 ^ K →
    Calls Tryd.prog 109 #[va, .int .i64 ((m : Int) + 1)] w fun e w' => Below w.heap.size w w' ∧ ∃ v cs, e = .returned v ∧ Reads .u32 w' v cs ∧ Canon cs ∧ IsRoot (val xa) (m + 1) (val cs) := by
  intro b
  induction b with
  | zero =>
    intro va xa w hb ha hka _ _
    have hx : xa = [] := by
      apply Classical.byContradiction
      intro hx
      have := (bitsOf_bounds hka hx).1
      omega
    subst hx
    refine (root_nil va _ w ha).mono ?_
    rintro e w' ⟨hbe, rfl⟩
    exact ⟨hbe, _, [], rfl, Reads.nil _ _, canon_nil, by simp [IsRoot, val]⟩
  | succ b ih =>
    intro va xa w hb ha hka hla hfit
    by_cases hx : xa = []
    · subst hx
      refine (root_nil va _ w ha).mono ?_
      rintro e w' ⟨hbe, rfl⟩
      exact ⟨hbe, _, [], rfl, Reads.nil _ _, canon_nil, by simp [IsRoot, val]⟩
    · obtain ⟨h1, h2, h3⟩ := bitsOf_bounds hka hx
      have hlx : xa.length ≠ 0 := fun h => hx (List.eq_nil_of_length_eq_zero h)
      by_cases hone : bitsOf xa ≤ m + 1
      · have e1 : ((m : Int) + 1) = ((m + 1 : Nat) : Int) := by omega
        rw [e1]
        refine (root_one va xa (m + 1) w ha hka.1 hlx (by omega) h1 hone (by omega)).mono ?_
        rintro e w' ⟨hbe, v, rfl, hr⟩
        refine ⟨hbe, v, [1], rfl, hr, ⟨by intro x hx; simp at hx; subst hx; decide, rfl⟩, ?_⟩
        have hv : val [1] = 1 := rfl
        rw [hv]
        refine ⟨?_, Nat.lt_of_lt_of_le h3 (Nat.pow_le_pow_right (by decide) hone)⟩
        rw [Nat.one_pow]
        exact Nat.le_trans (Nat.pow_pos (by decide)) h2
      · obtain ⟨q, hq⟩ : ∃ q, (bitsOf xa - 1) / (m + 1) = q := ⟨_, rfl⟩
        have hq1 : 1 ≤ q := by rw [← hq, Nat.le_div_iff_mul_le (Nat.succ_pos m)]; omega
        obtain ⟨half, hh⟩ : ∃ half, (q + 1) / 2 = half := ⟨_, rfl⟩
        obtain ⟨s, hs⟩ : ∃ s, (m + 1) * half = s := ⟨_, rfl⟩
        have hsq : s ≤ bitsOf xa - 1 := by
          have h4 : (m + 1) * half ≤ (m + 1) * q := Nat.mul_le_mul_left _ (by omega)
          have h5 : (m + 1) * q ≤ bitsOf xa - 1 := by rw [← hq]; exact Nat.mul_div_le _ _
          omega
        have hs0 : 1 ≤ s := by
          rw [← hs]
          exact Nat.mul_pos (Nat.succ_pos m) (by omega)
        have hdiv : val xa / 2 ^ s ≠ 0 := by
          have h4 : 2 ^ s ≤ val xa := Nat.le_trans (Nat.pow_le_pow_right (by decide) hsq) h2
          have := Nat.div_pos h4 (Nat.pow_pos (by decide))
          omega
        refine root_step K L m q half s hT hD hL hK0 hK hm va xa w ha hka hlx hla hq hq1 hh hs hdiv h1 hfit ?_
        intro v ys W hW hr hk hv
        have hle : val ys ≤ val xa := by rw [hv]; exact Nat.div_le_self _ _
        rw [← hv]
        refine ih v ys W ?_ hr hk (Nat.le_trans (canon_le_length hka hk hle) hla) (Nat.lt_of_le_of_lt (Nat.mul_le_mul_left _ hle) hfit)
        by_cases hy : ys = []
        · subst hy; simp [bitsOf]
        · obtain ⟨g1, g2, -⟩ := bitsOf_bounds hk hy
          rw [hv] at g2
          have g3 : val xa / 2 ^ s < 2 ^ (bitsOf xa - s) := by
            rw [Nat.div_lt_iff_lt_mul (Nat.pow_pos (by decide)), ← Nat.pow_add, show bitsOf xa - s + s = bitsOf xa by omega]
            exact h3
          have g4 := (Nat.pow_lt_pow_iff_right (a := 2) (by decide)).1 (Nat.lt_of_le_of_lt g2 g3)
          omega

end Go.Proofs.YtlghjfpkfdnfoaaDoor

/- num.floorRoot -/
namespace Go.Proofs.YtlghjfpkfdnfoaaDoor
open Go Go.RowKit Go.Shelf

/-- what stays on the way: the integer, the result's variable -/
structure FrS (w w1 : World) (na : Bool) (aa : Option Addr) (xa : List Nat) (ca : Nat) (X : World) : Prop where
  a : RowAt X w.heap.size 24 [.bool na, .slice aa xa.length ca]
  res : RowAt X (w.heap.size + 1) 24 [.bool false, .slice none 0 0]
  below : Below w.heap.size w X
  ra : Reads .u32 X (.slice aa xa.length ca) xa
  keep : ∀ v xs, Reads .u32 w1 v xs → Reads .u32 X v xs
@[reducible] def FrC (w w1 : World) (na : Bool) (aa : Option Addr) (xa : List Nat) (ca : Nat) (X : World) : Prop :=
  X.cell? ⟨w.heap.size, 0, none⟩ = some (.bool na) ∧ X.cell? ⟨w.heap.size, 1, none⟩ = some (.slice aa xa.length ca) ∧ FrS w w1 na aa xa ca X
section
variable {w w1 X : World} {na : Bool} {aa : Option Addr} {xa : List Nat} {ca : Nat}
theorem fr_of (h : FrS w w1 na aa xa ca X) : FrC w w1 na aa xa ca X := ⟨h.a.cell 0, h.a.cell 1, h⟩
theorem fr_drew (h : FrS w w1 na aa xa ca X) : FrC w w1 na aa xa ca X.drew := fr_of ⟨h.a, h.res, h.below.drew, h.ra, h.keep⟩
theorem fr_step {X' : World} (h : FrS w w1 na aa xa ca X) (hb : Below X.heap.size X X') : FrC w w1 na aa xa ca X' :=
  fr_of ⟨h.a.below hb, h.res.below hb, h.below.trans (hb.mono h.below.size), h.ra.below hb, fun v xs hv => (h.keep v xs hv).below hb⟩
end

set_option maxHeartbeats 1000000 in
set_option maxRecDepth 100000 in
theorem floorRoot_exact (K L m : Nat) (hT : TimesUpTo K) (hD : DivUpTo L K) (hL : L ≤ 1000) (hK0 : 0 < K) (hK : K ≤ 1000) (hm : m < 100) (va : Value) (xa : List Nat) (r : Nat) (w : World) (ha : Reads .u32 w va xa) (hka : Canon xa) (hla : xa.length ≤ L) (hfit : 2 ^ (m + 1) * val xa < B32 ^ K) (hr : r ^ (m + 1) = val xa) :
    Calls Tryd.prog 79 #[.agg #[.bool true, va], .int .i64 ((m : Int) + 1)] w fun e w' => Below w.heap.size w w' ∧ ∃ v, e = .returned v ∧ IsInt w' v (-(r : Int)) := by
  obtain ⟨aa, ca, rfl, hca, hma⟩ := ha.form
  have b0 := ((Below.refl w.heap.size w).alloc (Nat.le_refl _) (.cells #[.bool true, .slice aa xa.length ca] 24)).alloc (by simp) (.cells #[.bool false, .slice none 0 0] 24)
  have r1 := (RowAt.new w 24 [.bool true, .slice aa xa.length ca]).alloc (.cells #[.bool false, .slice none 0 0] 24)
  have r2 := RowAt.new (w.alloc (.cells #[.bool true, .slice aa xa.length ca] 24)) 24 [.bool false, .slice none 0 0]
  simp only [World.size_alloc] at r2
  have hS0 : FrS w w true aa xa ca ((w.alloc (.cells #[.bool true, .slice aa xa.length ca] 24)).alloc (.cells #[.bool false, .slice none 0 0] 24)) := ⟨r1, r2, b0, ha.below b0, fun v xs h => h.below b0⟩
  generalize hW0 : (w.alloc (.cells #[.bool true, .slice aa xa.length ca] 24)).alloc (.cells #[.bool false, .slice none 0 0] 24) = W0 at hS0
  have hroot := root_any K L m hT hD hL hK0 hK hm (bitsOf xa) (.slice aa xa.length ca) xa W0 (Nat.le_refl _) hS0.ra hka hla hfit
  have hpw : ∀ (v : Value) (rs : List Nat) (W : World), Reads .u32 W v rs → Canon rs → val rs = r → Calls Tryd.prog 77 #[v, .int .i64 ((m : Int) + 1)] W fun e w' => Below W.heap.size W w' ∧ ∃ v' cs, e = .returned v' ∧ Reads .u32 w' v' cs ∧ Canon cs ∧ val cs = val xa := fun v rs W h hk hv => by
    rw [show ((m : Int) + 1) = ((m + 1 : Nat) : Int) by omega, ← hr, ← hv]
    refine power_any K hT hK0 v rs (m + 1) W h hk (by omega) ?_
    rw [hv, hr]
    exact Nat.lt_of_le_of_lt (Nat.le_mul_of_pos_left _ (Nat.pow_pos (by decide))) hfit
  have hcp : ∀ (v : Value) (ps : List Nat) (W : World), Reads .u32 W v ps → Canon ps → val ps = val xa → Reads .u32 W (.slice aa xa.length ca) xa → Calls Tryd.prog 53 #[v, .slice aa xa.length ca] W fun e w' => Below W.heap.size W w' ∧ e = .returned (.int .i64 0) := fun v ps W h hk hv hx => by
    have := compare_any v (.slice aa xa.length ca) ps xa W h hx hk hka (Nat.le_trans (Nat.le_of_eq (by rw [canon_inj hk hka hv])) (show xa.length ≤ 1000000 by omega))
    rwa [hv, cmpI_self] at this
  have hrr : ∀ s, IsRoot (val xa) (m + 1) s → s = r := fun s h => by
    have h1 := isRoot_le h (s := r) (by rw [hr]; exact Nat.le_refl _)
    refine Nat.le_antisymm (Nat.le_of_not_lt fun hc => ?_) h1
    have h2 : (r + 1) ^ (m + 1) ≤ s ^ (m + 1) := Nat.pow_le_pow_left hc _
    have h3 := h.1
    have h4 : r ^ (m + 1) < (r + 1) ^ (m + 1) := Nat.pow_lt_pow_left (by omega) (by omega)
    omega
  have HW := Lib.hid hW0
  clear hr hfit hW0 r1 r2 b0
  go_enter Tryd.func79, Tryd.ntmps79
  go_wp2_with (go_at_call 109; (try rw [HW.out]); refine hroot.mono ?_; rintro e w3 ⟨hbe3, v3, rs, rfl, h3, k3, e3⟩; obtain ⟨a3, c3, rfl, hc3, hm3⟩ := h3.form)
  have hS3 : FrS w w3 true aa xa ca w3 := ⟨hS0.a.below hbe3, hS0.res.below hbe3, hS0.below.trans (hbe3.mono hS0.below.size), hS0.ra.below hbe3, fun _ _ h => h⟩
  have hD3 := Lib.hid (fr_drew hS3)
  obtain ⟨d1, d2, -⟩ := fr_of hS3
  have er := hrr _ e3
  clear hS0 hS3 hroot hrr HW e3 hbe3
  go_region_held3 (fun X => X.cell? ⟨w.heap.size, 0, none⟩ = some (.bool true) ∧ X.cell? ⟨w.heap.size, 1, none⟩ = some (.slice aa xa.length ca) ∧ FrS w w3 true aa xa ca X)
    (first | exact hD3.out | (go_split_ands; exact fr_step (by assumption) hbe4) | (go_split_ands; exact fr_step (by assumption) hbe5))
    (first
      | (go_at_call 77; go_split_ands; refine (hpw _ rs _ (FrS.keep (by assumption) _ _ h3) k3 er).mono ?_; rintro e w4 ⟨hbe4, v4, ps, rfl, h4, k4, e4⟩; obtain ⟨a4, c4, rfl, hc4, hm4⟩ := h4.form)
      | (go_at_call 53; go_split_ands; refine (hcp _ ps _ h4 k4 e4 (FrS.ra (by assumption))).mono ?_; rintro e w5 ⟨hbe5, rfl⟩))
  rename_i hT5
  obtain ⟨o1, o2, hS5⟩ := hT5
  have h5 := hS5.keep _ _ h3
  go_wp2_with (go_at_call 63; refine (signed_any _ _ _ _ _).mono ?_; rintro e w6 ⟨hbe6, rfl⟩; have hres := hS5.res.below hbe6; have q1 := hres.cell 0; have q2 := hres.cell 1; have q3 := hres.frozen 0; have q4 := hres.frozen 1; have h6 := h5.below hbe6; simp only [List.getElem?_cons_zero, List.getElem?_cons_succ] at q1 q2)
  obtain ⟨s1, s2⟩ := two_reads (b := w.heap.size + 1) q1 q2 (.bool (decide (0 < rs.length))) (.slice a3 rs.length c3)
  have hk := two_kept (b := w.heap.size + 1) h6 q1 q2 (.bool (decide (0 < rs.length))) (.slice a3 rs.length c3)
  have b6 := hS5.below.trans (hbe6.mono hS5.below.size)
  have b7 : Below w.heap.size w ((w6.setCell ⟨w.heap.size + 1, 0, none⟩ (.bool (decide (0 < rs.length)))).setCell ⟨w.heap.size + 1, 1, none⟩ (.slice a3 rs.length c3)) := (b6.setCell (by simp) _).setCell (by simp) _
  have hI : IsInt ((w6.setCell ⟨w.heap.size + 1, 0, none⟩ (.bool (decide (0 < rs.length)))).setCell ⟨w.heap.size + 1, 1, none⟩ (.slice a3 rs.length c3)) (.agg #[.bool (decide (0 < rs.length)), .slice a3 rs.length c3]) (-(r : Int)) := by
    have := isInt_mk true hk k3 (i := -(r : Int)) (by rw [er]; rfl)
    rwa [Bool.true_and] at this
  refine bodyPost_ret (v := .agg #[.bool (decide (0 < rs.length)), .slice a3 rs.length c3]) (by simp [results, Tryd.results79, go_sem, loadCellsFrom, s1, s2]) rfl ⟨b7, _, rfl, hI⟩

set_option maxHeartbeats 4000000 in
set_option maxRecDepth 100000 in
theorem root1_exact (B : Nat) (na : Bool) (aa : Option Addr) (ca : Nat) (xa : List Nat) (m : Nat) (r0 : Bool) (r1 : Option Addr) (r2 r3 : Nat) (w : World) (hra : RowAt w B 24 [.bool na, .slice aa xa.length ca]) (hrn : RowAt w (B + 1) 3 [.int .i64 ((m : Int) + 1)]) (hrr : RowAt w (B + 2) 24 [.bool r0, .slice r1 r2 r3])
    (ha : Reads .u32 w (.slice aa xa.length ca) xa) (hla : Limbs xa) (fa : formedB na xa = true) (hm : m < 100) (hpar : na = false ∨ ((m : Int) + 1).tmod 2 = 1) (i : Int)
    (hop : ∀ W, Below w.heap.size w W → Calls Tryd.prog 79 #[.agg #[.bool na, .slice aa xa.length ca], .int .i64 ((m : Int) + 1)] W fun e W' => Below W.heap.size W W' ∧ ∃ v, e = .returned v ∧ IsInt W' v i) :
    Calls Tryd.prog 78 #[.pointer (some ⟨B, 0, none⟩), .pointer (some ⟨B + 1, 0, none⟩), .pointer (some ⟨B + 2, 0, none⟩)] w fun e w' => e = .returned (.tuple #[]) ∧ Chg (fun k => k = B + 2) w w' ∧ ∃ m a l c, RowAt w' (B + 2) 24 [.bool m, .slice a l c] ∧ IsInt w' (.agg #[.bool m, .slice a l c]) i := by
  have a0 := hra.cell 0
  have a1 := hra.cell 1
  have n0 := hrn.cell 0
  simp only [List.getElem?_cons_zero, List.getElem?_cons_succ] at a0 a1 n0
  have r0' := RowAt.new w 24 [.bool na, .slice aa xa.length ca]
  have bw := (Below.refl w.heap.size w).alloc (Nat.le_refl _) (.cells #[.bool na, .slice aa xa.length ca] 24)
  have hpar' : na = true → ((m : Int) + 1).tmod 2 = 1 := fun h => hpar.resolve_left (by simp [h])
  clear hpar
  cases na
  all_goals try replace hpar' := hpar' rfl
  all_goals
    go_enter Tryd.func78, Tryd.ntmps78
    go_wp2_with (first
      | (go_at_call 59; refine (demand1_ok _ _ aa ca xa _ r0' (ha.below bw) hla fa).mono ?_; rintro e w1 ⟨hbe1, rfl⟩; have bw1 := bw.trans (hbe1.mono (by simp)); have p0 := (hra.below bw1).cell 0; have p2 := (hra.below bw1).cell 1; have p1 := (hrn.below bw1).cell 0; simp only [List.getElem?_cons_zero, List.getElem?_cons_succ] at p0 p1 p2)
      | (go_at_call 60; refine (demand_ok _ _ _ (by first | rfl | (simp; omega))).mono ?_; rintro e w2 ⟨rfl, rfl⟩)
      | (go_at_call 79; refine (hop _ bw1).mono ?_; rintro e w3 ⟨hbe3, v, rfl, n9, v9, x9, rfl, g1, k1, l1, m1⟩; have bw3 := bw1.trans (hbe3.mono bw1.size); obtain ⟨y1, c1, rfl, -, -⟩ := g1.form; have sr := hrr.below bw3; have o1 := sr.cell 0; have o2 := sr.cell 1; have o5 := sr.frozen 0; have o6 := sr.frozen 1; simp only [List.getElem?_cons_zero, List.getElem?_cons_succ] at o1 o2))
    have hk := two_kept (b := B + 2) g1 o1 o2 (.bool n9) (.slice y1 x9.length c1)
    go_end0
    exact ⟨rfl, (((Chg.refl (fun k => k = B + 2) w).thenBelow bw3).setCell (p := ⟨B + 2, 0, none⟩) (.inl rfl) _).setCell (p := ⟨B + 2, 1, none⟩) (.inl rfl) _, n9, y1, x9.length, c1, (sr.set 0 (.bool n9)).set 1 (.slice y1 x9.length c1), n9, _, x9, rfl, hk, k1, l1, m1⟩

set_option maxHeartbeats 1000000 in
set_option maxRecDepth 100000 in
theorem root1_none (B : Nat) (aa : Option Addr) (ca : Nat) (xa : List Nat) (n : Int) (w : World) (hra : RowAt w B 24 [.bool true, .slice aa xa.length ca]) (hrn : RowAt w (B + 1) 3 [.int .i64 n])
    (ha : Reads .u32 w (.slice aa xa.length ca) xa) (hla : Limbs xa) (fa : formedB true xa = true) (h1 : 1 ≤ n) (h100 : n ≤ 100) (hpar : n.tmod 2 = 0) :
    Calls Tryd.prog 78 #[.pointer (some ⟨B, 0, none⟩), .pointer (some ⟨B + 1, 0, none⟩), .pointer (some ⟨B + 2, 0, none⟩)] w fun e w' => Below w.heap.size w w' ∧ e = .panicked [{ v := .iface 27 (.int .i64 5), recovered := false }] := by
  have a0 := hra.cell 0
  have a1 := hra.cell 1
  have n0 := hrn.cell 0
  simp only [List.getElem?_cons_zero, List.getElem?_cons_succ] at a0 a1 n0
  have r0' := RowAt.new w 24 [.bool true, .slice aa xa.length ca]
  have bw := (Below.refl w.heap.size w).alloc (Nat.le_refl _) (.cells #[.bool true, .slice aa xa.length ca] 24)
  go_enter Tryd.func78, Tryd.ntmps78
  go_wp2_with (first
    | (go_at_call 59; refine (demand1_ok _ _ aa ca xa _ r0' (ha.below bw) hla fa).mono ?_; rintro e w1 ⟨hbe1, rfl⟩; have bw1 := bw.trans (hbe1.mono (by simp)); have p0 := (hra.below bw1).cell 0; have p2 := (hra.below bw1).cell 1; have p1 := (hrn.below bw1).cell 0; simp only [List.getElem?_cons_zero, List.getElem?_cons_succ] at p0 p1 p2)
    | (go_at_call 60; refine (demand_ok _ _ _ (by first | rfl | (simp; omega))).mono ?_; rintro e w2 ⟨rfl, rfl⟩)
    | (go_at_call 60; refine (demand_no _ _ _ (by first | rfl | simp)).mono ?_; rintro e w2 ⟨rfl, rfl⟩))
  all_goals exact ⟨rfl, bw1, rfl⟩
end Go.Proofs.YtlghjfpkfdnfoaaDoor

/- num: Pow, Root, Text where they answer a number or a text; Root where there is no root -/
namespace Go.Proofs.YtlghjfpkfdnfoaaDoor
open Go Go.RowKit Go.Shelf

theorem formedB_bounds {n : Bool} {xs : List Nat} (hl : Limbs xs) (f : formedB n xs = true) : Canon xs ∧ xs.length ≤ 300 := by
  simp only [formedB, Bool.and_eq_true, decide_eq_true_eq] at f
  exact ⟨⟨hl, f.1.2⟩, f.1.1⟩

theorem Text_ok (va : Value) (na : Bool) (xa : List Nat) (b : Nat) (w : World) (ha : IntAt w va na xa) (fa : formedB na xa = true) (h2 : 2 ≤ b) (h36 : b ≤ 36) (hT : DigitsAt w) :
    Calls Tryd.prog 46 #[va, .int .i64 (b : Int)] w fun e w' => Below w.heap.size w w' ∧ ∃ s : ByteArray, e = .returned (.tuple #[.string s, .int .i64 0]) ∧ s.data.toList.map (·.toNat) = textOf na b (val xa) := by
  refine (Text_of va na xa (b : Int) w ha (fun k _ v => k = 0 ∧ ∃ s : ByteArray, v = .string s ∧ s.data.toList.map (·.toNat) = textOf na b (val xa)) (fun _ _ _ _ h _ => h) ?_).mono ?_
  · intro B aa ca W4 hb4 hra hrn hrr hrd he
    obtain ⟨va', he', _, hl⟩ := ha
    refine (text1_ok B na aa ca xa b _ W4 hra hrn hrr hrd hl fa h2 h36 (hT.below hb4)).mono ?_
    rintro e W ⟨rfl, hch, s, hs, ht⟩
    exact ⟨0, .inl ⟨rfl, rfl⟩, hch, s, hs, rfl, s, rfl, ht⟩
  · rintro e W ⟨hbe, r0, k, rfl, rfl, s, rfl, hs⟩
    exact ⟨hbe, s, rfl, hs⟩

set_option exponentiation.threshold 400 in
theorem Pow_ok (va : Value) (xa : List Nat) (n K : Nat) (hT : TimesUpTo K) (hK : 0 < K) (w : World) (ha : IntAt w va false xa) (fa : formedB false xa = true) (hn : n ≤ 9600) (hnear : ((bitsOf xa : Int) - 1) * n < 9600) (hbb : bitsOf xa ≤ 9600) (hfitK : val xa ^ n < B32 ^ K) (hfit : val xa ^ n < B32 ^ 300) :
    Calls Tryd.prog 37 #[va, .int .i64 (n : Int)] w fun e w' => Below w.heap.size w w' ∧ ∃ v, e = .returned (.tuple #[v, .int .i64 0]) ∧ IsInt w' v (sgn false (val xa) ^ n) := by
  refine (Pow_of va false xa (n : Int) w ha (fun k W v => k = 0 ∧ IsInt W v (sgn false (val xa) ^ n)) (fun _ _ _ _ h hk => ⟨h.1, h.2.keep hk⟩) ?_).mono ?_
  · intro B aa ca W4 hb4 hra hrn hrr hrd he
    obtain ⟨va', he', _, hl⟩ := ha
    obtain ⟨hkx, hxl⟩ := formedB_bounds hl fa
    refine (pow1_ok B aa ca xa n _ _ _ _ K hT hK W4 hra hrn hrr hrd hkx fa hn hxl hnear hbb hfitK hfit).mono ?_
    rintro e W ⟨rfl, hch, m, a, l, c, hr, hi⟩
    exact ⟨0, .inl ⟨rfl, rfl⟩, hch, m, a, l, c, hr, rfl, hi⟩
  · rintro e W ⟨hbe, r0, k, rfl, rfl, hi⟩
    exact ⟨hbe, _, rfl, hi⟩

theorem Root_ok (va : Value) (na : Bool) (xa : List Nat) (m : Nat) (w : World) (ha : IntAt w va na xa) (fa : formedB na xa = true) (hm : m < 100) (hpar : na = false ∨ ((m : Int) + 1).tmod 2 = 1) (i : Int)
    (hop : ∀ W, Below w.heap.size w W → Calls Tryd.prog 79 #[va, .int .i64 ((m : Int) + 1)] W fun e W' => Below W.heap.size W W' ∧ ∃ v, e = .returned v ∧ IsInt W' v i) :
    Calls Tryd.prog 38 #[va, .int .i64 ((m : Int) + 1)] w fun e w' => Below w.heap.size w w' ∧ ∃ v, e = .returned (.tuple #[v, .int .i64 0]) ∧ IsInt w' v i := by
  refine (Root_of va na xa ((m : Int) + 1) w ha (fun k W v => k = 0 ∧ IsInt W v i) (fun _ _ _ _ h hk => ⟨h.1, h.2.keep hk⟩) ?_).mono ?_
  · intro B aa ca W4 hb4 hra hrn hrr hrd he
    obtain ⟨va', he', _, hl⟩ := ha
    refine (root1_exact B na aa ca xa m _ _ _ _ W4 hra hrn hrr hrd hl fa hm hpar i (fun W hW => ?_)).mono ?_
    · rw [← he]
      exact hop W (hb4.trans (hW.mono hb4.size))
    · rintro e W ⟨rfl, hch, m, a, l, c, hr, hi⟩
      exact ⟨0, .inl ⟨rfl, rfl⟩, hch, m, a, l, c, hr, rfl, hi⟩
  · rintro e W ⟨hbe, r0, k, rfl, rfl, hi⟩
    exact ⟨hbe, _, rfl, hi⟩

theorem Root_none (va : Value) (xa : List Nat) (n : Int) (w : World) (ha : IntAt w va true xa) (fa : formedB true xa = true) (h1 : 1 ≤ n) (h100 : n ≤ 100) (hpar : n.tmod 2 = 0) :
    Calls Tryd.prog 38 #[va, .int .i64 n] w fun e w' => Below w.heap.size w w' ∧ e = .returned (.tuple #[zeroInt, .int .i64 5]) := by
  refine (Root_of va true xa n w ha (fun k W v => k = 5 ∧ v = zeroInt) (fun _ _ _ _ h _ => h) ?_).mono ?_
  · intro B aa ca W4 hb4 hra hrn hrr hrd he
    obtain ⟨va', he', _, hl⟩ := ha
    refine (root1_none B aa ca xa n W4 hra hrn hrd hl fa h1 h100 hpar).mono ?_
    rintro e W ⟨hbe, rfl⟩
    exact ⟨5, .inr rfl, (Chg.refl _ W4).thenBelow hbe, false, none, 0, 0, hrr.below hbe, rfl, rfl⟩
  · rintro e W ⟨hbe, r0, k, rfl, rfl, rfl⟩
    exact ⟨hbe, rfl⟩

end Go.Proofs.YtlghjfpkfdnfoaaDoor

/- num.Gcd -/
namespace Go.Proofs.YtlghjfpkfdnfoaaDoor
open Go Go.RowKit Go.Shelf

set_option maxHeartbeats 1000000 in
set_option maxRecDepth 100000 in
theorem gcd1_ok (B : Nat) (na nb : Bool) (aa ab : Option Addr) (ca cb : Nat) (xa xb : List Nat) (r0 : Bool) (r1 : Option Addr) (r2 r3 : Nat) (t0 : Bool) (t1 : Option Addr) (t2 t3 : Nat) (u0 : Bool) (u1 : Option Addr) (u2 u3 : Nat) (w : World) (hra : RowAt w B 24 [.bool na, .slice aa xa.length ca]) (hrb : RowAt w (B + 1) 24 [.bool nb, .slice ab xb.length cb])
    (hG : RowAt w (B + 2) 24 [.bool r0, .slice r1 r2 r3]) (hX : RowAt w (B + 3) 24 [.bool t0, .slice t1 t2 t3]) (hY : RowAt w (B + 4) 24 [.bool u0, .slice u1 u2 u3]) (ha : Reads .u32 w (.slice aa xa.length ca) xa) (hb : Reads .u32 w (.slice ab xb.length cb) xb) (hla : Limbs xa) (hlb : Limbs xb) (fa : formedB na xa = true) (fb : formedB nb xb = true) (k : Int) (P : Int → Int → Prop)
    (hop : ∀ W, Below w.heap.size w W → Calls Tryd.prog 83 #[.agg #[.bool na, .slice aa xa.length ca], .agg #[.bool nb, .slice ab xb.length cb]] W fun e W' => Below W.heap.size W W' ∧ ∃ g x y i j, e = .returned (.tuple #[g, x, y]) ∧ IsInt W' g k ∧ IsInt W' x i ∧ IsInt W' y j ∧ P i j) :
    Calls Tryd.prog 82 #[.pointer (some ⟨B, 0, none⟩), .pointer (some ⟨B + 1, 0, none⟩), .pointer (some ⟨B + 2, 0, none⟩), .pointer (some ⟨B + 3, 0, none⟩), .pointer (some ⟨B + 4, 0, none⟩)] w fun e w' => e = .returned (.tuple #[]) ∧ Chg (fun k => k = B + 2 ∨ k = B + 3 ∨ k = B + 4) w w' ∧
      ∃ n a m c n' a' m' c' n2 a2 m2 c2, RowAt w' (B + 2) 24 [.bool n, .slice a m c] ∧ RowAt w' (B + 3) 24 [.bool n', .slice a' m' c'] ∧ RowAt w' (B + 4) 24 [.bool n2, .slice a2 m2 c2] ∧ ∃ i j, IsInt w' (.agg #[.bool n, .slice a m c]) k ∧ IsInt w' (.agg #[.bool n', .slice a' m' c']) i ∧ IsInt w' (.agg #[.bool n2, .slice a2 m2 c2]) j ∧ P i j := by
  have a0 := hra.cell 0
  have a1 := hra.cell 1
  have b0 := hrb.cell 0
  have b1 := hrb.cell 1
  simp only [List.getElem?_cons_zero, List.getElem?_cons_succ] at a0 a1 b0 b1
  have r0' := RowAt.new w 24 [.bool na, .slice aa xa.length ca, .bool nb, .slice ab xb.length cb]
  have bw := (Below.refl w.heap.size w).alloc (Nat.le_refl _) (.cells #[.bool na, .slice aa xa.length ca, .bool nb, .slice ab xb.length cb] 24)
  go_enter Tryd.func82, Tryd.ntmps82
  go_wp2_with (first | (go_at_call 59; refine (demand2_okok _ na nb aa ab ca cb xa xb _ r0' (ha.below bw) hla fa (hb.below bw) hlb fb).mono ?_; rintro e w1 ⟨hbe1, rfl⟩; have bw1 := bw.trans (hbe1.mono (by simp)); have p1 := (hra.below bw1).cell 0; have p2 := (hra.below bw1).cell 1; have p3 := (hrb.below bw1).cell 0; have p4 := (hrb.below bw1).cell 1; simp only [List.getElem?_cons_zero, List.getElem?_cons_succ] at p1 p2 p3 p4) | (go_at_call 83; refine (hop _ bw1).mono ?_; rintro e w3 ⟨hbe3, v1, v2, v3, i, j, rfl, ⟨n1, z1, x1, rfl, g1, k1, l1, m1⟩, ⟨n2, z2, x2, rfl, g2, k2, l2, m2⟩, ⟨n3, z3, x3, rfl, g3, k3, l3, m3⟩, hP⟩; have bw3 := bw1.trans (hbe3.mono bw1.size); obtain ⟨y1, c1, rfl, -, -⟩ := g1.form; obtain ⟨y2, c2, rfl, -, -⟩ := g2.form; obtain ⟨y3, c3, rfl, -, -⟩ := g3.form; have sg := hG.below bw3; have sx := hX.below bw3; have sy := hY.below bw3; have o1 := sg.cell 0; have o2 := sg.cell 1; have o3 := sx.cell 0; have o4 := sx.cell 1; have o5 := sg.frozen 0; have o6 := sg.frozen 1; have o7 := sx.frozen 0; have o8 := sx.frozen 1; have o9 := sy.cell 0; have o10 := sy.cell 1; have o11 := sy.frozen 0; have o12 := sy.frozen 1; simp only [List.getElem?_cons_zero, List.getElem?_cons_succ] at o1 o2 o3 o4 o9 o10))
  go_end0
  have sg1 := (sg.set 0 (.bool n1)).set 1 (.slice y1 x1.length c1)
  have sx1 := (sx.other (a := ⟨B + 2, 0, none⟩) (by simp) (.bool n1)).other (a := ⟨B + 2, 1, none⟩) (by simp) (.slice y1 x1.length c1)
  have sy1 := (sy.other (a := ⟨B + 2, 0, none⟩) (by simp) (.bool n1)).other (a := ⟨B + 2, 1, none⟩) (by simp) (.slice y1 x1.length c1)
  have sg2 := (sg1.other (a := ⟨B + 3, 0, none⟩) (by simp) (.bool n2)).other (a := ⟨B + 3, 1, none⟩) (by simp) (.slice y2 x2.length c2)
  have sx2 := (sx1.set 0 (.bool n2)).set 1 (.slice y2 x2.length c2)
  have sy2 := (sy1.other (a := ⟨B + 3, 0, none⟩) (by simp) (.bool n2)).other (a := ⟨B + 3, 1, none⟩) (by simp) (.slice y2 x2.length c2)
  have sg3 := (sg2.other (a := ⟨B + 4, 0, none⟩) (by simp) (.bool n3)).other (a := ⟨B + 4, 1, none⟩) (by simp) (.slice y3 x3.length c3)
  have sx3 := (sx2.other (a := ⟨B + 4, 0, none⟩) (by simp) (.bool n3)).other (a := ⟨B + 4, 1, none⟩) (by simp) (.slice y3 x3.length c3)
  have sy3 := (sy2.set 0 (.bool n3)).set 1 (.slice y3 x3.length c3)
  have hk : ∀ v xs, Reads .u32 w3 v xs → Reads .u32 ((((((w3.setCell ⟨B + 2, 0, none⟩ (.bool n1)).setCell ⟨B + 2, 1, none⟩ (.slice y1 x1.length c1)).setCell ⟨B + 3, 0, none⟩ (.bool n2)).setCell ⟨B + 3, 1, none⟩ (.slice y2 x2.length c2)).setCell ⟨B + 4, 0, none⟩ (.bool n3)).setCell ⟨B + 4, 1, none⟩ (.slice y3 x3.length c3)) v xs :=
    fun v xs h => two_kept (b := B + 4) (two_kept (b := B + 3) (two_kept (b := B + 2) h o1 o2 _ _) (sx1.cell 0) (sx1.cell 1) _ _) (sy2.cell 0) (sy2.cell 1) _ _
  exact ⟨rfl, ((((((((Chg.refl (fun k => k = B + 2 ∨ k = B + 3 ∨ k = B + 4) w).thenBelow bw3).setCell (p := ⟨B + 2, 0, none⟩) (.inl (.inl rfl)) _).setCell (p := ⟨B + 2, 1, none⟩) (.inl (.inl rfl)) _).setCell (p := ⟨B + 3, 0, none⟩) (.inl (.inr (.inl rfl))) _).setCell (p := ⟨B + 3, 1, none⟩) (.inl (.inr (.inl rfl))) _).setCell (p := ⟨B + 4, 0, none⟩) (.inl (.inr (.inr rfl))) _).setCell (p := ⟨B + 4, 1, none⟩) (.inl (.inr (.inr rfl))) _),
    n1, y1, x1.length, c1, n2, y2, x2.length, c2, n3, y3, x3.length, c3, sg3, sx3, sy3, i, j, ⟨n1, _, x1, rfl, hk _ _ g1, k1, l1, m1⟩, ⟨n2, _, x2, rfl, hk _ _ g2, k2, l2, m2⟩, ⟨n3, _, x3, rfl, hk _ _ g3, k3, l3, m3⟩, hP⟩

theorem reads_drew {k : IntKind} {W : World} {v : Value} {xs : List Nat} (h : Reads k W v xs) : Reads k W.drew v xs := h
/-- three results' variables that are stored once more -/
theorem tri_self {W : World} {b : Nat} {n1 n2 n3 : Bool} {a1 a2 a3 : Option Addr} {m1 c1 m2 c2 m3 c3 : Nat} (z1 : RowAt W b 24 [.bool n1, .slice a1 m1 c1]) (z2 : RowAt W (b + 1) 24 [.bool n2, .slice a2 m2 c2]) (z3 : RowAt W (b + 1 + 1) 24 [.bool n3, .slice a3 m3 c3]) :
    (((((((W.setCell ⟨b, 0, none⟩ (.bool n1)).setCell ⟨b, 1, none⟩ (.slice a1 m1 c1)).setCell ⟨b + 1, 0, none⟩ (.bool n2)).setCell ⟨b + 1, 1, none⟩ (.slice a2 m2 c2)).setCell ⟨b + 1 + 1, 0, none⟩ (.bool n3)).setCell ⟨b + 1 + 1, 1, none⟩ (.slice a3 m3 c3)).drew).cell? ⟨b, 0, none⟩ = some (.bool n1) ∧ (((((((W.setCell ⟨b, 0, none⟩ (.bool n1)).setCell ⟨b, 1, none⟩ (.slice a1 m1 c1)).setCell ⟨b + 1, 0, none⟩ (.bool n2)).setCell ⟨b + 1, 1, none⟩ (.slice a2 m2 c2)).setCell ⟨b + 1 + 1, 0, none⟩ (.bool n3)).setCell ⟨b + 1 + 1, 1, none⟩ (.slice a3 m3 c3)).drew).cell? ⟨b, 1, none⟩ = some (.slice a1 m1 c1) ∧ (((((((W.setCell ⟨b, 0, none⟩ (.bool n1)).setCell ⟨b, 1, none⟩ (.slice a1 m1 c1)).setCell ⟨b + 1, 0, none⟩ (.bool n2)).setCell ⟨b + 1, 1, none⟩ (.slice a2 m2 c2)).setCell ⟨b + 1 + 1, 0, none⟩ (.bool n3)).setCell ⟨b + 1 + 1, 1, none⟩ (.slice a3 m3 c3)).drew).cell? ⟨b + 1, 0, none⟩ = some (.bool n2) ∧ (((((((W.setCell ⟨b, 0, none⟩ (.bool n1)).setCell ⟨b, 1, none⟩ (.slice a1 m1 c1)).setCell ⟨b + 1, 0, none⟩ (.bool n2)).setCell ⟨b + 1, 1, none⟩ (.slice a2 m2 c2)).setCell ⟨b + 1 + 1, 0, none⟩ (.bool n3)).setCell ⟨b + 1 + 1, 1, none⟩ (.slice a3 m3 c3)).drew).cell? ⟨b + 1, 1, none⟩ = some (.slice a2 m2 c2) ∧ (((((((W.setCell ⟨b, 0, none⟩ (.bool n1)).setCell ⟨b, 1, none⟩ (.slice a1 m1 c1)).setCell ⟨b + 1, 0, none⟩ (.bool n2)).setCell ⟨b + 1, 1, none⟩ (.slice a2 m2 c2)).setCell ⟨b + 1 + 1, 0, none⟩ (.bool n3)).setCell ⟨b + 1 + 1, 1, none⟩ (.slice a3 m3 c3)).drew).cell? ⟨b + 1 + 1, 0, none⟩ = some (.bool n3) ∧ (((((((W.setCell ⟨b, 0, none⟩ (.bool n1)).setCell ⟨b, 1, none⟩ (.slice a1 m1 c1)).setCell ⟨b + 1, 0, none⟩ (.bool n2)).setCell ⟨b + 1, 1, none⟩ (.slice a2 m2 c2)).setCell ⟨b + 1 + 1, 0, none⟩ (.bool n3)).setCell ⟨b + 1 + 1, 1, none⟩ (.slice a3 m3 c3)).drew).cell? ⟨b + 1 + 1, 1, none⟩ = some (.slice a3 m3 c3) ∧
    (∀ v xs, Reads .u32 W v xs → Reads .u32 (((((((W.setCell ⟨b, 0, none⟩ (.bool n1)).setCell ⟨b, 1, none⟩ (.slice a1 m1 c1)).setCell ⟨b + 1, 0, none⟩ (.bool n2)).setCell ⟨b + 1, 1, none⟩ (.slice a2 m2 c2)).setCell ⟨b + 1 + 1, 0, none⟩ (.bool n3)).setCell ⟨b + 1 + 1, 1, none⟩ (.slice a3 m3 c3)).drew) v xs) ∧ (∀ B w, B ≤ b → Below B w W → Below B w (((((((W.setCell ⟨b, 0, none⟩ (.bool n1)).setCell ⟨b, 1, none⟩ (.slice a1 m1 c1)).setCell ⟨b + 1, 0, none⟩ (.bool n2)).setCell ⟨b + 1, 1, none⟩ (.slice a2 m2 c2)).setCell ⟨b + 1 + 1, 0, none⟩ (.bool n3)).setCell ⟨b + 1 + 1, 1, none⟩ (.slice a3 m3 c3)).drew)) := by
  have sg1 := (z1.set 0 (.bool n1)).set 1 (.slice a1 m1 c1)
  have sx1 := (z2.other (a := ⟨b, 0, none⟩) (by simp) (.bool n1)).other (a := ⟨b, 1, none⟩) (by simp) (.slice a1 m1 c1)
  have sy1 := (z3.other (a := ⟨b, 0, none⟩) (by simp; omega) (.bool n1)).other (a := ⟨b, 1, none⟩) (by simp; omega) (.slice a1 m1 c1)
  have sg2 := (sg1.other (a := ⟨b + 1, 0, none⟩) (by simp) (.bool n2)).other (a := ⟨b + 1, 1, none⟩) (by simp) (.slice a2 m2 c2)
  have sx2 := (sx1.set 0 (.bool n2)).set 1 (.slice a2 m2 c2)
  have sy2 := (sy1.other (a := ⟨b + 1, 0, none⟩) (by simp) (.bool n2)).other (a := ⟨b + 1, 1, none⟩) (by simp) (.slice a2 m2 c2)
  have sg3 := (sg2.other (a := ⟨b + 1 + 1, 0, none⟩) (by simp; omega) (.bool n3)).other (a := ⟨b + 1 + 1, 1, none⟩) (by simp; omega) (.slice a3 m3 c3)
  have sx3 := (sx2.other (a := ⟨b + 1 + 1, 0, none⟩) (by simp) (.bool n3)).other (a := ⟨b + 1 + 1, 1, none⟩) (by simp) (.slice a3 m3 c3)
  have sy3 := (sy2.set 0 (.bool n3)).set 1 (.slice a3 m3 c3)
  have ug : RowAt (((((((W.setCell ⟨b, 0, none⟩ (.bool n1)).setCell ⟨b, 1, none⟩ (.slice a1 m1 c1)).setCell ⟨b + 1, 0, none⟩ (.bool n2)).setCell ⟨b + 1, 1, none⟩ (.slice a2 m2 c2)).setCell ⟨b + 1 + 1, 0, none⟩ (.bool n3)).setCell ⟨b + 1 + 1, 1, none⟩ (.slice a3 m3 c3)).drew) b 24 [.bool n1, .slice a1 m1 c1] := sg3.drew
  have ux : RowAt (((((((W.setCell ⟨b, 0, none⟩ (.bool n1)).setCell ⟨b, 1, none⟩ (.slice a1 m1 c1)).setCell ⟨b + 1, 0, none⟩ (.bool n2)).setCell ⟨b + 1, 1, none⟩ (.slice a2 m2 c2)).setCell ⟨b + 1 + 1, 0, none⟩ (.bool n3)).setCell ⟨b + 1 + 1, 1, none⟩ (.slice a3 m3 c3)).drew) (b + 1) 24 [.bool n2, .slice a2 m2 c2] := sx3.drew
  have uy : RowAt (((((((W.setCell ⟨b, 0, none⟩ (.bool n1)).setCell ⟨b, 1, none⟩ (.slice a1 m1 c1)).setCell ⟨b + 1, 0, none⟩ (.bool n2)).setCell ⟨b + 1, 1, none⟩ (.slice a2 m2 c2)).setCell ⟨b + 1 + 1, 0, none⟩ (.bool n3)).setCell ⟨b + 1 + 1, 1, none⟩ (.slice a3 m3 c3)).drew) (b + 1 + 1) 24 [.bool n3, .slice a3 m3 c3] := sy3.drew
  refine ⟨?_, ?_, ?_, ?_, ?_, ?_, ?_, ?_⟩
  · exact ug.cell 0
  · exact ug.cell 1
  · exact ux.cell 0
  · exact ux.cell 1
  · exact uy.cell 0
  · exact uy.cell 1
  · intro v xs h
    have h1 := two_kept (b := b) h (z1.cell 0) (z1.cell 1) (.bool n1) (.slice a1 m1 c1)
    have h2 := two_kept (b := b + 1) h1 (sx1.cell 0) (sx1.cell 1) (.bool n2) (.slice a2 m2 c2)
    exact reads_drew (two_kept (b := b + 1 + 1) h2 (sy2.cell 0) (sy2.cell 1) (.bool n3) (.slice a3 m3 c3))
  · intro B w hB h
    exact ((((((h.setCell (p := ⟨b, 0, none⟩) hB _).setCell (p := ⟨b, 1, none⟩) hB _).setCell (p := ⟨b + 1, 0, none⟩) (by simp; omega) _).setCell (p := ⟨b + 1, 1, none⟩) (by simp; omega) _).setCell (p := ⟨b + 1 + 1, 0, none⟩) (by simp; omega) _).setCell (p := ⟨b + 1 + 1, 1, none⟩) (by simp; omega) _).drew

set_option maxHeartbeats 2000000 in
set_option maxRecDepth 100000 in
theorem Gcd_ok (a b : Value) (na nb : Bool) (xa xb : List Nat) (w : World) (ha : IntAt w a na xa) (hb : IntAt w b nb xb) (fa : formedB na xa = true) (fb : formedB nb xb = true) (k : Int) (P : Int → Int → Prop)
    (hop : ∀ W, Below w.heap.size w W → Calls Tryd.prog 83 #[a, b] W fun e W' => Below W.heap.size W W' ∧ ∃ g x y i j, e = .returned (.tuple #[g, x, y]) ∧ IsInt W' g k ∧ IsInt W' x i ∧ IsInt W' y j ∧ P i j) :
    Calls Tryd.prog 41 #[a, b] w fun e w' => Below w.heap.size w w' ∧ ∃ g x y i j, e = .returned (.tuple #[g, x, y, .int .i64 0]) ∧ IsInt w' g k ∧ IsInt w' x i ∧ IsInt w' y j ∧ P i j := by
  obtain ⟨va, rfl, hra, hla⟩ := ha
  obtain ⟨vb, rfl, hrb, hlb⟩ := hb
  obtain ⟨aa, ca, rfl, hca, hma⟩ := hra.form
  obtain ⟨ab, cb, rfl, hcb, hmb⟩ := hrb.form
  have hmf : ∀ (fn : Fn) (first cap : Array Value) (w : World), (Instr.makeFunc fn first cap).run Tryd.prog w = .ok (.func fn first cap) w := fun _ _ _ _ => rfl
  have q0 := (((((RowAt.new w 24 [.bool na, .slice aa xa.length ca]).alloc (.cells #[.bool nb, .slice ab xb.length cb] 24)).alloc (.cells #[.bool false, .slice none 0 0] 24)).alloc (.cells #[.bool false, .slice none 0 0] 24)).alloc (.cells #[.bool false, .slice none 0 0] 24)).alloc (.cells #[.int .i64 0] 27)
  have q1 := ((((RowAt.new (w.alloc (.cells #[.bool na, .slice aa xa.length ca] 24)) 24 [.bool nb, .slice ab xb.length cb]).alloc (.cells #[.bool false, .slice none 0 0] 24)).alloc (.cells #[.bool false, .slice none 0 0] 24)).alloc (.cells #[.bool false, .slice none 0 0] 24)).alloc (.cells #[.int .i64 0] 27)
  have q2 := (((RowAt.new ((w.alloc (.cells #[.bool na, .slice aa xa.length ca] 24)).alloc (.cells #[.bool nb, .slice ab xb.length cb] 24)) 24 [.bool false, .slice none 0 0]).alloc (.cells #[.bool false, .slice none 0 0] 24)).alloc (.cells #[.bool false, .slice none 0 0] 24)).alloc (.cells #[.int .i64 0] 27)
  have q3 := ((RowAt.new (((w.alloc (.cells #[.bool na, .slice aa xa.length ca] 24)).alloc (.cells #[.bool nb, .slice ab xb.length cb] 24)).alloc (.cells #[.bool false, .slice none 0 0] 24)) 24 [.bool false, .slice none 0 0]).alloc (.cells #[.bool false, .slice none 0 0] 24)).alloc (.cells #[.int .i64 0] 27)
  have q4 := (RowAt.new ((((w.alloc (.cells #[.bool na, .slice aa xa.length ca] 24)).alloc (.cells #[.bool nb, .slice ab xb.length cb] 24)).alloc (.cells #[.bool false, .slice none 0 0] 24)).alloc (.cells #[.bool false, .slice none 0 0] 24)) 24 [.bool false, .slice none 0 0]).alloc (.cells #[.int .i64 0] 27)
  have q5 := Boxed.new (((((w.alloc (.cells #[.bool na, .slice aa xa.length ca] 24)).alloc (.cells #[.bool nb, .slice ab xb.length cb] 24)).alloc (.cells #[.bool false, .slice none 0 0] 24)).alloc (.cells #[.bool false, .slice none 0 0] 24)).alloc (.cells #[.bool false, .slice none 0 0] 24)) 27 (.int .i64 0)
  have bw := (((((((Below.refl w.heap.size w).alloc (Nat.le_refl _) (.cells #[.bool na, .slice aa xa.length ca] 24)).alloc (by simp) (.cells #[.bool nb, .slice ab xb.length cb] 24)).alloc (by simp; omega) (.cells #[.bool false, .slice none 0 0] 24)).alloc (by simp; omega) (.cells #[.bool false, .slice none 0 0] 24)).alloc (by simp; omega) (.cells #[.bool false, .slice none 0 0] 24)).alloc (by simp; omega) (.cells #[.int .i64 0] 27))
  simp only [World.size_alloc] at q1 q2 q3 q4 q5
  generalize hW4 : ((((((w.alloc (.cells #[.bool na, .slice aa xa.length ca] 24)).alloc (.cells #[.bool nb, .slice ab xb.length cb] 24)).alloc (.cells #[.bool false, .slice none 0 0] 24)).alloc (.cells #[.bool false, .slice none 0 0] 24)).alloc (.cells #[.bool false, .slice none 0 0] 24)).alloc (.cells #[.int .i64 0] 27)) = W4 at q0 q1 q2 q3 q4 q5 bw
  have key := gcd1_ok w.heap.size na nb aa ab ca cb xa xb _ _ _ _ _ _ _ _ _ _ _ _ W4 q0 q1 q2 q3 q4 (hra.below bw) (hrb.below bw) hla hlb fa fb k P (fun W hW => hop W (bw.trans (hW.mono bw.size)))
  have att := attempt_any 82 #[.pointer (some ⟨w.heap.size, 0, none⟩), .pointer (some ⟨w.heap.size + 1, 0, none⟩), .pointer (some ⟨w.heap.size + 1 + 1, 0, none⟩), .pointer (some ⟨w.heap.size + 1 + 1 + 1, 0, none⟩), .pointer (some ⟨w.heap.size + 1 + 1 + 1 + 1, 0, none⟩)]
    (((((w.alloc (.cells #[.bool na, .slice aa xa.length ca] 24)).alloc (.cells #[.bool nb, .slice ab xb.length cb] 24)).alloc (.cells #[.bool false, .slice none 0 0] 24)).alloc (.cells #[.bool false, .slice none 0 0] 24)).alloc (.cells #[.bool false, .slice none 0 0] 24))
    (fun c W => c = 0 ∧ Chg (fun k => k = w.heap.size + 2 ∨ k = w.heap.size + 3 ∨ k = w.heap.size + 4) W4 W ∧
      ∃ n a m c n' a' m' c' n2 a2 m2 c2, RowAt W (w.heap.size + 2) 24 [.bool n, .slice a m c] ∧ RowAt W (w.heap.size + 3) 24 [.bool n', .slice a' m' c'] ∧ RowAt W (w.heap.size + 4) 24 [.bool n2, .slice a2 m2 c2] ∧ ∃ i j, IsInt W (.agg #[.bool n, .slice a m c]) k ∧ IsInt W (.agg #[.bool n', .slice a' m' c']) i ∧ IsInt W (.agg #[.bool n2, .slice a2 m2 c2]) j ∧ P i j)
    (fun W => by simp [go_sem])
    (fun c W h => by simp only [World.size_alloc]; exact h.2.1.boxed q5 (by omega))
    (by
      rw [hW4]
      refine key.mono ?_
      rintro e W ⟨rfl, h2⟩
      exact .inl ⟨rfl, rfl, h2⟩)
  clear key
  go_enter Tryd.func41, Tryd.ntmps41
  go_wp2_with (refine att.mono ?_; rintro e W' ⟨c, W, ⟨rfl, hch, n1, a1, m1, c1, n2, a2, m2, c2, n3, a3, m3, c3, hr1, hr2, hr3, i, j, hi1, hi2, hi3, hP⟩, rfl, rfl⟩; simp only [World.size_alloc]; have z1 := hr1.other (a := ⟨w.heap.size + 1 + 1 + 1 + 1 + 1, 0, none⟩) (by simp) (.int .i64 0); have z2 := hr2.other (a := ⟨w.heap.size + 1 + 1 + 1 + 1 + 1, 0, none⟩) (by simp) (.int .i64 0); have z3 := hr3.other (a := ⟨w.heap.size + 1 + 1 + 1 + 1 + 1, 0, none⟩) (by simp) (.int .i64 0); have HZ := Lib.hid (And.intro z1 (And.intro z2 z3)); clear z1 z2 z3)
  obtain ⟨z1, z2, z3⟩ := HZ.out
  have e4 := (hch.boxed q5 (by omega)).cell
  have hb9 : Below w.heap.size w W := bw.trans (hch.below (B := w.heap.size) (fun i hi => by omega) bw.size)
  have hk5 : ∀ v xs, Reads .u32 W v xs → Reads .u32 (W.setCell ⟨w.heap.size + 1 + 1 + 1 + 1 + 1, 0, none⟩ (.int .i64 0)) v xs := fun v xs h => h.setOther e4 (by simp) _
  have hb5 : Below w.heap.size w (W.setCell ⟨w.heap.size + 1 + 1 + 1 + 1 + 1, 0, none⟩ (.int .i64 0)) := hb9.setCell (by simp; omega) _
  have HI := Lib.hid (And.intro (hi1.keep hk5) (And.intro (hi2.keep hk5) (hi3.keep hk5)))
  clear att hch hr1 hr2 hr3 q0 q1 q2 q3 q4 q5 bw e4 hb9 hk5 hi1 hi2 hi3 HZ
  generalize W.setCell ⟨w.heap.size + 1 + 1 + 1 + 1 + 1, 0, none⟩ (.int .i64 0) = W5 at *
  have o1 := z1.cell 0
  have o2 := z1.cell 1
  have o3 := z2.cell 0
  have o4 := z2.cell 1
  have o5 := z3.cell 0
  have o6 := z3.cell 1
  have p1 := z1.frozen 0
  have p2 := z1.frozen 1
  have p3 := z2.frozen 0
  have p4 := z2.frozen 1
  have p5 := z3.frozen 0
  have p6 := z3.frozen 1
  simp only [List.getElem?_cons_zero, List.getElem?_cons_succ] at o1 o2 o3 o4 o5 o6
  go_wp2_with fail
  go_region
  obtain ⟨t1, t2, t3, t4, t5, t6, hk, hbl⟩ := tri_self (b := w.heap.size + 1 + 1) z1 z2 z3
  have hbe := hbl w.heap.size w (by omega) hb5
  clear hbl o1 o2 o3 o4 o5 o6 p1 p2 p3 p4 p5 p6 z1 z2 z3
  go_wp2
  exact bodyPost_ret (v := .tuple #[.agg #[.bool n1, .slice a1 m1 c1], .agg #[.bool n2, .slice a2 m2 c2], .agg #[.bool n3, .slice a3 m3 c3], .int .i64 0]) (by simp [results, Tryd.results41, go_sem, loadCellsFrom, t1, t2, t3, t4, t5, t6]) rfl
    ⟨hbe, _, _, _, i, j, rfl, HI.out.1.keep hk, HI.out.2.1.keep hk, HI.out.2.2.keep hk, hP⟩

end Go.Proofs.YtlghjfpkfdnfoaaDoor

/- num.divisor -/
namespace Go.Proofs.YtlghjfpkfdnfoaaDoor
open Go Go.RowKit Go.Shelf

theorem lt_pow_of {x L N : Nat} (h : x < B32 ^ L) (hL : L ≤ N) : x < B32 ^ N := Nat.lt_of_lt_of_le h (Nat.pow_le_pow_right B32_pos hL)
set_option exponentiation.threshold 200000 in
theorem product_le (a b : Value) (i j : Int) (k L : Nat) (w : World) (ha : IsInt w a i) (hb : IsInt w b j) (hk : k < 80) (hL : L ≤ 100000) (hi : i.natAbs < B32 ^ L) (hj : j.natAbs < B32 ^ L) (hs : i.natAbs < B32 ^ k ∨ j.natAbs < B32 ^ k) :
    Calls Tryd.prog 69 #[a, b] w fun e w' => Below w.heap.size w w' ∧ ∃ v, e = .returned v ∧ IsInt w' v (i * j) := 
  product_int a b i j k w ha hb hk (lt_pow_of hi hL) (lt_pow_of hj hL) hs

/-- the variables of divisor, which lie in memory -/
structure GcdR (w w1 : World) (na nb : Bool) (aa ab : Option Addr) (xa xb : List Nat) (ca cb p : Nat) (n1 : Bool) (s1 : Option Addr) (m1 c1 : Nat) (n2 : Bool) (s2 : Option Addr) (m2 c2 : Nat) (X : World) : Prop where
  low : w.heap.size + 5 ≤ p
  a : RowAt X w.heap.size 24 [.bool na, .slice aa xa.length ca]
  b : RowAt X (w.heap.size + 1) 24 [.bool nb, .slice ab xb.length cb]
  g : RowAt X (w.heap.size + 2) 24 [.bool false, .slice none 0 0]
  x : RowAt X (w.heap.size + 3) 24 [.bool false, .slice none 0 0]
  y : RowAt X (w.heap.size + 4) 24 [.bool false, .slice none 0 0]
  f : RowAt X p 24 [.bool n1, .slice s1 m1 c1]
  h : RowAt X (p + 1) 24 [.bool n2, .slice s2 m2 c2]
  below : Below w.heap.size w X
  keep : ∀ v xs, Reads .u32 w1 v xs → Reads .u32 X v xs
@[reducible] def GcdC (w w1 : World) (na nb : Bool) (aa ab : Option Addr) (xa xb : List Nat) (ca cb p : Nat) (n1 : Bool) (s1 : Option Addr) (m1 c1 : Nat) (n2 : Bool) (s2 : Option Addr) (m2 c2 : Nat) (X : World) : Prop :=
  X.cell? ⟨p, 0, none⟩ = some (.bool n1) ∧ X.cell? ⟨p, 1, none⟩ = some (.slice s1 m1 c1) ∧ X.cell? ⟨p + 1, 0, none⟩ = some (.bool n2) ∧ X.cell? ⟨p + 1, 1, none⟩ = some (.slice s2 m2 c2) ∧ GcdR w w1 na nb aa ab xa xb ca cb p n1 s1 m1 c1 n2 s2 m2 c2 X
section
variable {w w1 X : World} {na nb : Bool} {aa ab : Option Addr} {xa xb : List Nat} {ca cb p : Nat} {n1 : Bool} {s1 : Option Addr} {m1 c1 : Nat} {n2 : Bool} {s2 : Option Addr} {m2 c2 : Nat}
theorem gr_of (h : GcdR w w1 na nb aa ab xa xb ca cb p n1 s1 m1 c1 n2 s2 m2 c2 X) : GcdC w w1 na nb aa ab xa xb ca cb p n1 s1 m1 c1 n2 s2 m2 c2 X := ⟨h.f.cell 0, h.f.cell 1, h.h.cell 0, h.h.cell 1, h⟩
theorem gr_drew (h : GcdR w w1 na nb aa ab xa xb ca cb p n1 s1 m1 c1 n2 s2 m2 c2 X) : GcdC w w1 na nb aa ab xa xb ca cb p n1 s1 m1 c1 n2 s2 m2 c2 X.drew := gr_of ⟨h.low, h.a, h.b, h.g, h.x, h.y, h.f, h.h, h.below.drew, h.keep⟩
theorem gr_step {X' : World} (h : GcdR w w1 na nb aa ab xa xb ca cb p n1 s1 m1 c1 n2 s2 m2 c2 X) (hb : Below X.heap.size X X') : GcdC w w1 na nb aa ab xa xb ca cb p n1 s1 m1 c1 n2 s2 m2 c2 X' :=
  gr_of ⟨h.low, h.a.below hb, h.b.below hb, h.g.below hb, h.x.below hb, h.y.below hb, h.f.below hb, h.h.below hb, h.below.trans (hb.mono h.below.size), fun v xs hv => (h.keep v xs hv).below hb⟩
theorem gr_other {q : Nat} {r0 : Bool} {r1 : Option Addr} {r2 r3 : Nat} (h : GcdR w w1 na nb aa ab xa xb ca cb p n1 s1 m1 c1 n2 s2 m2 c2 X) (hq : RowAt X q 24 [.bool r0, .slice r1 r2 r3]) (hlt : p + 1 < q) (u : Bool) (z : Option Addr) (m c : Nat) :
    GcdC w w1 na nb aa ab xa xb ca cb p n1 s1 m1 c1 n2 s2 m2 c2 ((X.setCell ⟨q, 0, none⟩ (.bool u)).setCell ⟨q, 1, none⟩ (.slice z m c)) := by
  have hl := h.low
  exact gr_of ⟨h.low, (h.a.other (by simp; omega) _).other (by simp; omega) _, (h.b.other (by simp; omega) _).other (by simp; omega) _, (h.g.other (by simp; omega) _).other (by simp; omega) _, (h.x.other (by simp; omega) _).other (by simp; omega) _, (h.y.other (by simp; omega) _).other (by simp; omega) _, (h.f.other (by simp; omega) _).other (by simp; omega) _, (h.h.other (by simp; omega) _).other (by simp; omega) _,
    (h.below.setCell (by simp; omega) _).setCell (by simp; omega) _, fun v xs hv => two_kept (h.keep v xs hv) (hq.cell 0) (hq.cell 1) _ _⟩
theorem gr_swap (h : GcdR w w1 na nb aa ab xa xb ca cb p n1 s1 m1 c1 n2 s2 m2 c2 X) (u : Bool) (z : Option Addr) (m c : Nat) : GcdR w ((((X.setCell ⟨p, 0, none⟩ (.bool n2)).setCell ⟨p, 1, none⟩ (.slice s2 m2 c2)).setCell ⟨p + 1, 0, none⟩ (.bool u)).setCell ⟨p + 1, 1, none⟩ (.slice z m c)) na nb aa ab xa xb ca cb p n2 s2 m2 c2 u z m c ((((X.setCell ⟨p, 0, none⟩ (.bool n2)).setCell ⟨p, 1, none⟩ (.slice s2 m2 c2)).setCell ⟨p + 1, 0, none⟩ (.bool u)).setCell ⟨p + 1, 1, none⟩ (.slice z m c)) ∧ ∀ v xs, Reads .u32 X v xs → Reads .u32 ((((X.setCell ⟨p, 0, none⟩ (.bool n2)).setCell ⟨p, 1, none⟩ (.slice s2 m2 c2)).setCell ⟨p + 1, 0, none⟩ (.bool u)).setCell ⟨p + 1, 1, none⟩ (.slice z m c)) v xs := by
  have hl := h.low
  have f1 := (h.f.set 0 (.bool n2)).set 1 (.slice s2 m2 c2)
  have g1 := (h.h.other (a := ⟨p, 0, none⟩) (by simp) (.bool n2)).other (a := ⟨p, 1, none⟩) (by simp) (.slice s2 m2 c2)
  have g2 := (g1.set 0 (.bool u)).set 1 (.slice z m c)
  refine ⟨⟨h.low, ?_, ?_, ?_, ?_, ?_, ?_, g2, ?_, fun _ _ hv => hv⟩, fun v xs hv => two_kept (b := p + 1) (two_kept (b := p) hv (h.f.cell 0) (h.f.cell 1) _ _) (g1.cell 0) (g1.cell 1) _ _⟩
  · exact (((h.a.other (by simp; omega) _).other (by simp; omega) _).other (by simp; omega) _).other (by simp; omega) _
  · exact (((h.b.other (by simp; omega) _).other (by simp; omega) _).other (by simp; omega) _).other (by simp; omega) _
  · exact (((h.g.other (by simp; omega) _).other (by simp; omega) _).other (by simp; omega) _).other (by simp; omega) _
  · exact (((h.x.other (by simp; omega) _).other (by simp; omega) _).other (by simp; omega) _).other (by simp; omega) _
  · exact (((h.y.other (by simp; omega) _).other (by simp; omega) _).other (by simp; omega) _).other (by simp; omega) _
  · exact (f1.other (by simp) _).other (by simp) _
  · exact (((h.below.setCell (by simp; omega) _).setCell (by simp; omega) _).setCell (by simp; omega) _).setCell (by simp; omega) _
theorem gr_keep {w2 : World} (h : GcdR w w1 na nb aa ab xa xb ca cb p n1 s1 m1 c1 n2 s2 m2 c2 X) (hk : ∀ v xs, Reads .u32 w2 v xs → Reads .u32 X v xs) : GcdR w w2 na nb aa ab xa xb ca cb p n1 s1 m1 c1 n2 s2 m2 c2 X := ⟨h.low, h.a, h.b, h.g, h.x, h.y, h.f, h.h, h.below, hk⟩
end


theorem sgn_cross (na n1 : Bool) (A f : Nat) : sgn na A * sgn (!(n1 == na)) f = (A : Int) * sgn n1 f := by
  cases na <;> cases n1 <;> simp [sgn, Int.neg_mul, Int.mul_neg]
theorem sgn_fdiv (nb : Bool) {B : Nat} (H : Int) (hB : 0 < B) : ((B : Int) * H).fdiv (sgn nb B) = (if nb then -H else H) ∧ sgn nb B * (if nb then -H else H) = (B : Int) * H := by
  cases nb
  · simp only [sgn, Bool.false_eq_true, if_false, and_true]
    exact Int.mul_fdiv_cancel_left _ (by omega)
  · simp only [sgn, if_true]
    constructor
    · rw [show (B : Int) * H = (-(B : Int)) * (-H) by rw [Int.neg_mul_neg]]
      exact Int.mul_fdiv_cancel_left _ (by omega)
    · rw [Int.neg_mul_neg]
/-- what the last part of divisor has to know of numbers -/
structure GcdEnd (A B L K : Nat) (na nb : Bool) (X Y : Int) : Prop where
  eq : ((Nat.gcd A B : Nat) : Int) = sgn na A * X + sgn nb B * Y
  bx : X.natAbs ≤ max 1 B
  by' : Y.natAbs ≤ max 1 A
theorem gcd_end {A B L : Nat} {F G H I : Int} (h : GcdInv A B L 0 F G H I) (na nb n1 : Bool) (f : Nat) (hF : F = sgn n1 f) :
    (L : Int) - sgn na A * sgn (!(n1 == na)) f = (B : Int) * H ∧ (0 < B → GcdEnd A B L 0 na nb (sgn (!(n1 == na)) f) (((B : Int) * H).fdiv (sgn nb B))) ∧ (B = 0 → GcdEnd A B L 0 na nb (sgn (!(n1 == na)) f) 0) := by
  have e := h.eL
  have eg := h.last
  have bF := h.bF
  have bH := h.bH
  rw [hF, sgn_natAbs] at bF
  have e1 : (L : Int) - sgn na A * sgn (!(n1 == na)) f = (B : Int) * H := by rw [sgn_cross, ← hF, e]; omega
  refine ⟨e1, fun hB => ?_, fun hB => ?_⟩
  · obtain ⟨f1, f2⟩ := sgn_fdiv nb H hB
    refine ⟨?_, by rw [sgn_natAbs]; exact bF, ?_⟩
    · rw [f1, f2, ← e1, ← eg]; omega
    · rw [f1]; cases nb <;> simpa using bH
  · subst hB
    refine ⟨?_, by rw [sgn_natAbs]; exact bF, by simp⟩
    rw [← eg]
    simp at e1
    omega

/-- the variables of divisor behind its loop -/
structure EndS (w w1 : World) (na nb : Bool) (aa ab : Option Addr) (xa xb : List Nat) (ca cb p : Nat) (n1 : Bool) (s1 : Option Addr) (m1 c1 : Nat) (ng : Bool) (sg : Option Addr) (mg cg : Nat) (nx : Bool) (sx : Option Addr) (mx cx : Nat) (ny : Bool) (sy : Option Addr) (my cy : Nat) (X : World) : Prop where
  low : w.heap.size + 5 ≤ p
  a : RowAt X w.heap.size 24 [.bool na, .slice aa xa.length ca]
  b : RowAt X (w.heap.size + 1) 24 [.bool nb, .slice ab xb.length cb]
  g : RowAt X (w.heap.size + 2) 24 [.bool ng, .slice sg mg cg]
  x : RowAt X (w.heap.size + 3) 24 [.bool nx, .slice sx mx cx]
  y : RowAt X (w.heap.size + 4) 24 [.bool ny, .slice sy my cy]
  f : RowAt X p 24 [.bool n1, .slice s1 m1 c1]
  below : Below w.heap.size w X
  keep : ∀ v xs, Reads .u32 w1 v xs → Reads .u32 X v xs
@[reducible] def EndC (w w1 : World) (na nb : Bool) (aa ab : Option Addr) (xa xb : List Nat) (ca cb p : Nat) (n1 : Bool) (s1 : Option Addr) (m1 c1 : Nat) (ng : Bool) (sg : Option Addr) (mg cg : Nat) (nx : Bool) (sx : Option Addr) (mx cx : Nat) (ny : Bool) (sy : Option Addr) (my cy : Nat) (X : World) : Prop :=
  X.cell? ⟨w.heap.size, 0, none⟩ = some (.bool na) ∧ X.cell? ⟨w.heap.size, 1, none⟩ = some (.slice aa xa.length ca) ∧ X.cell? ⟨w.heap.size + 1, 0, none⟩ = some (.bool nb) ∧ X.cell? ⟨w.heap.size + 1, 1, none⟩ = some (.slice ab xb.length cb) ∧
  X.cell? ⟨w.heap.size + 1 + 1, 0, none⟩ = some (.bool ng) ∧ X.cell? ⟨w.heap.size + 1 + 1, 1, none⟩ = some (.slice sg mg cg) ∧ X.cell? ⟨w.heap.size + 1 + 1 + 1, 0, none⟩ = some (.bool nx) ∧ X.cell? ⟨w.heap.size + 1 + 1 + 1, 1, none⟩ = some (.slice sx mx cx) ∧
  X.cell? ⟨w.heap.size + 1 + 1 + 1 + 1, 0, none⟩ = some (.bool ny) ∧ X.cell? ⟨w.heap.size + 1 + 1 + 1 + 1, 1, none⟩ = some (.slice sy my cy) ∧ X.cell? ⟨p, 0, none⟩ = some (.bool n1) ∧ X.cell? ⟨p, 1, none⟩ = some (.slice s1 m1 c1) ∧
  (∀ i, X.frozen? ⟨w.heap.size + 1 + 1, i, none⟩ = false) ∧ (∀ i, X.frozen? ⟨w.heap.size + 1 + 1 + 1, i, none⟩ = false) ∧ (∀ i, X.frozen? ⟨w.heap.size + 1 + 1 + 1 + 1, i, none⟩ = false) ∧
  EndS w w1 na nb aa ab xa xb ca cb p n1 s1 m1 c1 ng sg mg cg nx sx mx cx ny sy my cy X
section
variable {w w1 X : World} {na nb : Bool} {aa ab : Option Addr} {xa xb : List Nat} {ca cb p : Nat} {n1 : Bool} {s1 : Option Addr} {m1 c1 : Nat} {ng : Bool} {sg : Option Addr} {mg cg : Nat} {nx : Bool} {sx : Option Addr} {mx cx : Nat} {ny : Bool} {sy : Option Addr} {my cy : Nat}
theorem en_of (h : EndS w w1 na nb aa ab xa xb ca cb p n1 s1 m1 c1 ng sg mg cg nx sx mx cx ny sy my cy X) : EndC w w1 na nb aa ab xa xb ca cb p n1 s1 m1 c1 ng sg mg cg nx sx mx cx ny sy my cy X :=
  ⟨h.a.cell 0, h.a.cell 1, h.b.cell 0, h.b.cell 1, h.g.cell 0, h.g.cell 1, h.x.cell 0, h.x.cell 1, h.y.cell 0, h.y.cell 1, h.f.cell 0, h.f.cell 1, h.g.frozen, h.x.frozen, h.y.frozen, h⟩
theorem en_drew (h : EndS w w1 na nb aa ab xa xb ca cb p n1 s1 m1 c1 ng sg mg cg nx sx mx cx ny sy my cy X) : EndS w w1 na nb aa ab xa xb ca cb p n1 s1 m1 c1 ng sg mg cg nx sx mx cx ny sy my cy X.drew := ⟨h.low, h.a, h.b, h.g, h.x, h.y, h.f, h.below.drew, h.keep⟩
theorem en_step {X' : World} (h : EndS w w1 na nb aa ab xa xb ca cb p n1 s1 m1 c1 ng sg mg cg nx sx mx cx ny sy my cy X) (hb : Below X.heap.size X X') : EndS w w1 na nb aa ab xa xb ca cb p n1 s1 m1 c1 ng sg mg cg nx sx mx cx ny sy my cy X' :=
  ⟨h.low, h.a.below hb, h.b.below hb, h.g.below hb, h.x.below hb, h.y.below hb, h.f.below hb, h.below.trans (hb.mono h.below.size), fun v xs hv => (h.keep v xs hv).below hb⟩
theorem en_keep {w2 : World} (h : EndS w w1 na nb aa ab xa xb ca cb p n1 s1 m1 c1 ng sg mg cg nx sx mx cx ny sy my cy X) (hk : ∀ v xs, Reads .u32 w2 v xs → Reads .u32 X v xs) : EndS w w2 na nb aa ab xa xb ca cb p n1 s1 m1 c1 ng sg mg cg nx sx mx cx ny sy my cy X := ⟨h.low, h.a, h.b, h.g, h.x, h.y, h.f, h.below, hk⟩
theorem en_g (h : EndS w w1 na nb aa ab xa xb ca cb p n1 s1 m1 c1 ng sg mg cg nx sx mx cx ny sy my cy X) (u : Bool) (z : Option Addr) (m c : Nat) :
    EndS w w1 na nb aa ab xa xb ca cb p n1 s1 m1 c1 u z m c nx sx mx cx ny sy my cy ((X.setCell ⟨w.heap.size + 1 + 1, 0, none⟩ (.bool u)).setCell ⟨w.heap.size + 1 + 1, 1, none⟩ (.slice z m c)) := by
  have hl := h.low
  exact ⟨h.low, (h.a.other (by simp; try omega) _).other (by simp; try omega) _, (h.b.other (by simp; try omega) _).other (by simp; try omega) _, (h.g.set 0 (.bool u)).set 1 (.slice z m c), (h.x.other (by simp; try omega) _).other (by simp; try omega) _, (h.y.other (by simp; try omega) _).other (by simp; try omega) _, (h.f.other (by simp; try omega) _).other (by simp; try omega) _,
    (h.below.setCell (by simp; try omega) _).setCell (by simp; try omega) _, fun v xs hv => two_kept (h.keep v xs hv) (h.g.cell 0) (h.g.cell 1) _ _⟩
theorem en_x (h : EndS w w1 na nb aa ab xa xb ca cb p n1 s1 m1 c1 ng sg mg cg nx sx mx cx ny sy my cy X) (u : Bool) (z : Option Addr) (m c : Nat) :
    EndS w w1 na nb aa ab xa xb ca cb p n1 s1 m1 c1 ng sg mg cg u z m c ny sy my cy ((X.setCell ⟨w.heap.size + 1 + 1 + 1, 0, none⟩ (.bool u)).setCell ⟨w.heap.size + 1 + 1 + 1, 1, none⟩ (.slice z m c)) := by
  have hl := h.low
  exact ⟨h.low, (h.a.other (by simp; try omega) _).other (by simp; try omega) _, (h.b.other (by simp; try omega) _).other (by simp; try omega) _, (h.g.other (by simp; try omega) _).other (by simp; try omega) _, (h.x.set 0 (.bool u)).set 1 (.slice z m c), (h.y.other (by simp; try omega) _).other (by simp; try omega) _, (h.f.other (by simp; try omega) _).other (by simp; try omega) _,
    (h.below.setCell (by simp; try omega) _).setCell (by simp; try omega) _, fun v xs hv => two_kept (h.keep v xs hv) (h.x.cell 0) (h.x.cell 1) _ _⟩
theorem en_y (h : EndS w w1 na nb aa ab xa xb ca cb p n1 s1 m1 c1 ng sg mg cg nx sx mx cx ny sy my cy X) (u : Bool) (z : Option Addr) (m c : Nat) :
    EndS w w1 na nb aa ab xa xb ca cb p n1 s1 m1 c1 ng sg mg cg nx sx mx cx u z m c ((X.setCell ⟨w.heap.size + 1 + 1 + 1 + 1, 0, none⟩ (.bool u)).setCell ⟨w.heap.size + 1 + 1 + 1 + 1, 1, none⟩ (.slice z m c)) := by
  have hl := h.low
  exact ⟨h.low, (h.a.other (by simp; try omega) _).other (by simp; try omega) _, (h.b.other (by simp; try omega) _).other (by simp; try omega) _, (h.g.other (by simp; try omega) _).other (by simp; try omega) _, (h.x.other (by simp; try omega) _).other (by simp; try omega) _, (h.y.set 0 (.bool u)).set 1 (.slice z m c), (h.f.other (by simp; try omega) _).other (by simp; try omega) _,
    (h.below.setCell (by simp; try omega) _).setCell (by simp; try omega) _, fun v xs hv => two_kept (h.keep v xs hv) (h.y.cell 0) (h.y.cell 1) _ _⟩
end

/-- whatever the fourth of them holds -/
def EndE (w w1 : World) (na nb : Bool) (aa ab : Option Addr) (xa xb : List Nat) (ca cb p : Nat) (n1 : Bool) (s1 : Option Addr) (m1 c1 : Nat) (ng : Bool) (sg : Option Addr) (mg cg : Nat) (nx : Bool) (sx : Option Addr) (mx cx : Nat) (X : World) : Prop := ∃ ny sy my cy, EndS w w1 na nb aa ab xa xb ca cb p n1 s1 m1 c1 ng sg mg cg nx sx mx cx ny sy my cy X
@[reducible] def EndL (w w1 : World) (na nb : Bool) (aa ab : Option Addr) (xa xb : List Nat) (ca cb p : Nat) (n1 : Bool) (s1 : Option Addr) (m1 c1 : Nat) (ng : Bool) (sg : Option Addr) (mg cg : Nat) (nx : Bool) (sx : Option Addr) (mx cx : Nat) (X : World) : Prop :=
  X.cell? ⟨w.heap.size, 0, none⟩ = some (.bool na) ∧ X.cell? ⟨w.heap.size, 1, none⟩ = some (.slice aa xa.length ca) ∧ X.cell? ⟨w.heap.size + 1, 0, none⟩ = some (.bool nb) ∧ X.cell? ⟨w.heap.size + 1, 1, none⟩ = some (.slice ab xb.length cb) ∧
  X.cell? ⟨w.heap.size + 1 + 1, 0, none⟩ = some (.bool ng) ∧ X.cell? ⟨w.heap.size + 1 + 1, 1, none⟩ = some (.slice sg mg cg) ∧ X.cell? ⟨w.heap.size + 1 + 1 + 1, 0, none⟩ = some (.bool nx) ∧ X.cell? ⟨w.heap.size + 1 + 1 + 1, 1, none⟩ = some (.slice sx mx cx) ∧
  EndE w w1 na nb aa ab xa xb ca cb p n1 s1 m1 c1 ng sg mg cg nx sx mx cx X
section
variable {w w1 X : World} {na nb : Bool} {aa ab : Option Addr} {xa xb : List Nat} {ca cb p : Nat} {n1 : Bool} {s1 : Option Addr} {m1 c1 : Nat} {ng : Bool} {sg : Option Addr} {mg cg : Nat} {nx : Bool} {sx : Option Addr} {mx cx : Nat} {ny : Bool} {sy : Option Addr} {my cy : Nat}
theorem el_of (h : EndE w w1 na nb aa ab xa xb ca cb p n1 s1 m1 c1 ng sg mg cg nx sx mx cx X) : EndL w w1 na nb aa ab xa xb ca cb p n1 s1 m1 c1 ng sg mg cg nx sx mx cx X := by
  obtain ⟨ny, sy, my, cy, h⟩ := h
  exact ⟨h.a.cell 0, h.a.cell 1, h.b.cell 0, h.b.cell 1, h.g.cell 0, h.g.cell 1, h.x.cell 0, h.x.cell 1, ny, sy, my, cy, h⟩
theorem EndE.keep (h : EndE w w1 na nb aa ab xa xb ca cb p n1 s1 m1 c1 ng sg mg cg nx sx mx cx X) : ∀ v xs, Reads .u32 w1 v xs → Reads .u32 X v xs := by
  obtain ⟨ny, sy, my, cy, h⟩ := h
  exact h.keep
theorem ee_step {X' : World} (h : EndE w w1 na nb aa ab xa xb ca cb p n1 s1 m1 c1 ng sg mg cg nx sx mx cx X) (hb : Below X.heap.size X X') : EndE w w1 na nb aa ab xa xb ca cb p n1 s1 m1 c1 ng sg mg cg nx sx mx cx X' := by
  obtain ⟨ny, sy, my, cy, h⟩ := h
  exact ⟨ny, sy, my, cy, en_step h hb⟩
theorem ee_y (h : EndE w w1 na nb aa ab xa xb ca cb p n1 s1 m1 c1 ng sg mg cg nx sx mx cx X) (u : Bool) (z : Option Addr) (m c : Nat) : EndE w w1 na nb aa ab xa xb ca cb p n1 s1 m1 c1 ng sg mg cg nx sx mx cx ((X.setCell ⟨w.heap.size + 1 + 1 + 1 + 1, 0, none⟩ (.bool u)).setCell ⟨w.heap.size + 1 + 1 + 1 + 1, 1, none⟩ (.slice z m c)) := by
  obtain ⟨ny, sy, my, cy, h⟩ := h
  exact ⟨u, z, m, c, en_y h u z m c⟩
theorem ee_cells (h : EndE w w1 na nb aa ab xa xb ca cb p n1 s1 m1 c1 ng sg mg cg nx sx mx cx X) : ∃ ny sy my cy, X.cell? ⟨w.heap.size + 1 + 1 + 1 + 1, 0, none⟩ = some (.bool ny) ∧ X.cell? ⟨w.heap.size + 1 + 1 + 1 + 1, 1, none⟩ = some (.slice sy my cy) ∧ X.frozen? ⟨w.heap.size + 1 + 1 + 1 + 1, 0, none⟩ = false ∧ X.frozen? ⟨w.heap.size + 1 + 1 + 1 + 1, 1, none⟩ = false := by
  obtain ⟨ny, sy, my, cy, h⟩ := h
  exact ⟨ny, sy, my, cy, h.y.cell 0, h.y.cell 1, h.y.frozen 0, h.y.frozen 1⟩
end
theorem IsInt.shape {W : World} {v : Value} {i : Int} (h : IsInt W v i) : ∃ n s m c, v = .agg #[.bool n, .slice s m c] := by
  obtain ⟨n, va, xs, rfl, hr, _⟩ := h
  obtain ⟨a, c, rfl, _⟩ := hr.form
  exact ⟨n, a, _, c, rfl⟩

@[reducible] def EndR (w w1 : World) (na nb : Bool) (aa ab : Option Addr) (xa xb : List Nat) (ca cb p : Nat) (n1 : Bool) (s1 : Option Addr) (m1 c1 : Nat) (ng : Bool) (sg : Option Addr) (mg cg : Nat) (nx : Bool) (sx : Option Addr) (mx cx : Nat) (ny : Bool) (sy : Option Addr) (my cy : Nat) (X : World) : Prop :=
  X.cell? ⟨w.heap.size + 1 + 1, 0, none⟩ = some (.bool ng) ∧ X.cell? ⟨w.heap.size + 1 + 1, 1, none⟩ = some (.slice sg mg cg) ∧ X.cell? ⟨w.heap.size + 1 + 1 + 1, 0, none⟩ = some (.bool nx) ∧ X.cell? ⟨w.heap.size + 1 + 1 + 1, 1, none⟩ = some (.slice sx mx cx) ∧
  X.cell? ⟨w.heap.size + 1 + 1 + 1 + 1, 0, none⟩ = some (.bool ny) ∧ X.cell? ⟨w.heap.size + 1 + 1 + 1 + 1, 1, none⟩ = some (.slice sy my cy) ∧ X.frozen? ⟨w.heap.size + 1 + 1, 0, none⟩ = false ∧ X.frozen? ⟨w.heap.size + 1 + 1, 1, none⟩ = false ∧
  X.frozen? ⟨w.heap.size + 1 + 1 + 1, 0, none⟩ = false ∧ X.frozen? ⟨w.heap.size + 1 + 1 + 1, 1, none⟩ = false ∧ X.frozen? ⟨w.heap.size + 1 + 1 + 1 + 1, 0, none⟩ = false ∧ X.frozen? ⟨w.heap.size + 1 + 1 + 1 + 1, 1, none⟩ = false ∧
  EndS w w1 na nb aa ab xa xb ca cb p n1 s1 m1 c1 ng sg mg cg nx sx mx cx ny sy my cy X
section
variable {w w1 X : World} {na nb : Bool} {aa ab : Option Addr} {xa xb : List Nat} {ca cb p : Nat} {n1 : Bool} {s1 : Option Addr} {m1 c1 : Nat} {ng : Bool} {sg : Option Addr} {mg cg : Nat} {nx : Bool} {sx : Option Addr} {mx cx : Nat} {ny : Bool} {sy : Option Addr} {my cy : Nat}
theorem er_of (h : EndS w w1 na nb aa ab xa xb ca cb p n1 s1 m1 c1 ng sg mg cg nx sx mx cx ny sy my cy X) : EndR w w1 na nb aa ab xa xb ca cb p n1 s1 m1 c1 ng sg mg cg nx sx mx cx ny sy my cy X := ⟨h.g.cell 0, h.g.cell 1, h.x.cell 0, h.x.cell 1, h.y.cell 0, h.y.cell 1, h.g.frozen 0, h.g.frozen 1, h.x.frozen 0, h.x.frozen 1, h.y.frozen 0, h.y.frozen 1, h⟩
theorem er_g (h : EndS w w1 na nb aa ab xa xb ca cb p n1 s1 m1 c1 ng sg mg cg nx sx mx cx ny sy my cy X) : EndR w w1 na nb aa ab xa xb ca cb p n1 s1 m1 c1 ng sg mg cg nx sx mx cx ny sy my cy ((X.setCell ⟨w.heap.size + 1 + 1, 0, none⟩ (.bool ng)).setCell ⟨w.heap.size + 1 + 1, 1, none⟩ (.slice sg mg cg)) := er_of (en_g h _ _ _ _)
theorem er_x (h : EndS w w1 na nb aa ab xa xb ca cb p n1 s1 m1 c1 ng sg mg cg nx sx mx cx ny sy my cy X) : EndR w w1 na nb aa ab xa xb ca cb p n1 s1 m1 c1 ng sg mg cg nx sx mx cx ny sy my cy ((X.setCell ⟨w.heap.size + 1 + 1 + 1, 0, none⟩ (.bool nx)).setCell ⟨w.heap.size + 1 + 1 + 1, 1, none⟩ (.slice sx mx cx)) := er_of (en_x h _ _ _ _)
theorem er_y (h : EndS w w1 na nb aa ab xa xb ca cb p n1 s1 m1 c1 ng sg mg cg nx sx mx cx ny sy my cy X) : EndR w w1 na nb aa ab xa xb ca cb p n1 s1 m1 c1 ng sg mg cg nx sx mx cx ny sy my cy ((X.setCell ⟨w.heap.size + 1 + 1 + 1 + 1, 0, none⟩ (.bool ny)).setCell ⟨w.heap.size + 1 + 1 + 1 + 1, 1, none⟩ (.slice sy my cy)) := er_of (en_y h _ _ _ _)
theorem er_gd (h : EndS w w1 na nb aa ab xa xb ca cb p n1 s1 m1 c1 ng sg mg cg nx sx mx cx ny sy my cy X.drew) : EndR w w1 na nb aa ab xa xb ca cb p n1 s1 m1 c1 ng sg mg cg nx sx mx cx ny sy my cy ((X.setCell ⟨w.heap.size + 1 + 1, 0, none⟩ (.bool ng)).setCell ⟨w.heap.size + 1 + 1, 1, none⟩ (.slice sg mg cg)).drew := er_g h
theorem er_xd (h : EndS w w1 na nb aa ab xa xb ca cb p n1 s1 m1 c1 ng sg mg cg nx sx mx cx ny sy my cy X.drew) : EndR w w1 na nb aa ab xa xb ca cb p n1 s1 m1 c1 ng sg mg cg nx sx mx cx ny sy my cy ((X.setCell ⟨w.heap.size + 1 + 1 + 1, 0, none⟩ (.bool nx)).setCell ⟨w.heap.size + 1 + 1 + 1, 1, none⟩ (.slice sx mx cx)).drew := er_x h
theorem er_yd (h : EndS w w1 na nb aa ab xa xb ca cb p n1 s1 m1 c1 ng sg mg cg nx sx mx cx ny sy my cy X.drew) : EndR w w1 na nb aa ab xa xb ca cb p n1 s1 m1 c1 ng sg mg cg nx sx mx cx ny sy my cy ((X.setCell ⟨w.heap.size + 1 + 1 + 1 + 1, 0, none⟩ (.bool ny)).setCell ⟨w.heap.size + 1 + 1 + 1 + 1, 1, none⟩ (.slice sy my cy)).drew := er_y h
end

set_option exponentiation.threshold 200000 in
set_option maxHeartbeats 8000000 in
set_option maxRecDepth 100000 in
theorem divisor_any (K : Nat) (hK : K ≤ 30) (hD : DivUpTo (3 * K + 3) K) (hK0 : 0 < K) (va vb : Value) (na nb : Bool) (xa xb : List Nat) (w : World) (ha : Reads .u32 w va xa) (hb : Reads .u32 w vb xb) (hka : Canon xa) (hkb : Canon xb) (la : xa.length ≤ K) (lb : xb.length ≤ K) (hna : (na && decide (0 < xa.length)) = na) (hnb : (nb && decide (0 < xb.length)) = nb) :
    Calls Tryd.prog 83 #[.agg #[.bool na, va], .agg #[.bool nb, vb]] w fun e w' => Below w.heap.size w w' ∧ ∃ g x y i j, e = .returned (.tuple #[g, x, y]) ∧ IsInt w' g (Nat.gcd (val xa) (val xb) : Nat) ∧ IsInt w' x i ∧ IsInt w' y j ∧
      (Nat.gcd (val xa) (val xb) : Int) = sgn na (val xa) * i + sgn nb (val xb) * j ∧ i.natAbs ≤ max 1 (val xb) ∧ j.natAbs ≤ max 1 (val xa) := by
  obtain ⟨aa, ca, rfl, hca, hma⟩ := ha.form
  obtain ⟨ab, cb, rfl, hcb, hmb⟩ := hb.form
  have q0 := ((((RowAt.new w 24 [.bool na, .slice aa xa.length ca]).alloc (.cells #[.bool nb, .slice ab xb.length cb] 24)).alloc (.cells #[.bool false, .slice none 0 0] 24)).alloc (.cells #[.bool false, .slice none 0 0] 24)).alloc (.cells #[.bool false, .slice none 0 0] 24)
  have q1 := (((RowAt.new (w.alloc (.cells #[.bool na, .slice aa xa.length ca] 24)) 24 [.bool nb, .slice ab xb.length cb]).alloc (.cells #[.bool false, .slice none 0 0] 24)).alloc (.cells #[.bool false, .slice none 0 0] 24)).alloc (.cells #[.bool false, .slice none 0 0] 24)
  have q2 := ((RowAt.new ((w.alloc (.cells #[.bool na, .slice aa xa.length ca] 24)).alloc (.cells #[.bool nb, .slice ab xb.length cb] 24)) 24 [.bool false, .slice none 0 0]).alloc (.cells #[.bool false, .slice none 0 0] 24)).alloc (.cells #[.bool false, .slice none 0 0] 24)
  have q3 := (RowAt.new (((w.alloc (.cells #[.bool na, .slice aa xa.length ca] 24)).alloc (.cells #[.bool nb, .slice ab xb.length cb] 24)).alloc (.cells #[.bool false, .slice none 0 0] 24)) 24 [.bool false, .slice none 0 0]).alloc (.cells #[.bool false, .slice none 0 0] 24)
  have q4 := RowAt.new ((((w.alloc (.cells #[.bool na, .slice aa xa.length ca] 24)).alloc (.cells #[.bool nb, .slice ab xb.length cb] 24)).alloc (.cells #[.bool false, .slice none 0 0] 24)).alloc (.cells #[.bool false, .slice none 0 0] 24)) 24 [.bool false, .slice none 0 0]
  have b5 := ((((((Below.refl w.heap.size w).alloc (Nat.le_refl _) (.cells #[.bool na, .slice aa xa.length ca] 24)).alloc (by simp) (.cells #[.bool nb, .slice ab xb.length cb] 24)).alloc (by simp; omega) (.cells #[.bool false, .slice none 0 0] 24)).alloc (by simp; omega) (.cells #[.bool false, .slice none 0 0] 24)).alloc (by simp; omega) (.cells #[.bool false, .slice none 0 0] 24))
  have s5 : (((((w.alloc (.cells #[.bool na, .slice aa xa.length ca] 24)).alloc (.cells #[.bool nb, .slice ab xb.length cb] 24)).alloc (.cells #[.bool false, .slice none 0 0] 24)).alloc (.cells #[.bool false, .slice none 0 0] 24)).alloc (.cells #[.bool false, .slice none 0 0] 24)).heap.size = w.heap.size + 5 := by simp
  simp only [World.size_alloc] at q1 q2 q3 q4
  have Q := Lib.hid (And.intro q0 (And.intro q1 (And.intro q2 (And.intro q3 (And.intro q4 (And.intro b5 s5))))))
  clear q0 q1 q2 q3 q4 b5 s5
  go_enter Tryd.func83, Tryd.ntmps83
  go_wp2_with fail
  go_quiet (fail)
  go_wp2_with (first | (go_at_call 106; refine (one_any _).mono ?_; rintro e w1 ⟨hbe1, v1, rfl, h1⟩; obtain ⟨a1, c1, rfl, hc1, hm1⟩ := h1.form) | (go_at_call 63; refine (signed_any _ _ _ _ _).mono ?_; rintro e w2 ⟨hbe2, rfl⟩))
  obtain ⟨q0, q1, q2, q3, q4, b5, s5⟩ := Q.out
  clear Q
  generalize hW5 : (((((w.alloc (.cells #[.bool na, .slice aa xa.length ca] 24)).alloc (.cells #[.bool nb, .slice ab xb.length cb] 24)).alloc (.cells #[.bool false, .slice none 0 0] 24)).alloc (.cells #[.bool false, .slice none 0 0] 24)).alloc (.cells #[.bool false, .slice none 0 0] 24)) = W5 at *
  have hbe1' : Below W5.heap.size W5 w1 := ⟨hbe1.os, hbe1.tape, hbe1.output, hbe1.size, hbe1.block⟩
  have b1 : Below w.heap.size w w1 := b5.trans (hbe1'.mono (by rw [s5]; omega))
  have b2 := b1.trans (hbe2.mono b1.size)
  have s1 : w.heap.size + 5 ≤ w1.heap.size := by
    have := hbe1'.size
    omega
  have s2 : w.heap.size + 5 ≤ w2.heap.size := Nat.le_trans s1 hbe2.size
  have b12 : Below W5.heap.size W5 w2 := hbe1'.trans (hbe2.mono hbe1'.size)
  have hS : GcdR w ((w2.alloc (.cells #[.bool false, .slice a1 1 c1] 24)).alloc (.cells #[.bool false, .slice none 0 0] 24)) na nb aa ab xa xb ca cb w2.heap.size false a1 1 c1 false none 0 0 ((w2.alloc (.cells #[.bool false, .slice a1 1 c1] 24)).alloc (.cells #[.bool false, .slice none 0 0] 24)) := by
    exact ⟨s2, ((q0.below b12).alloc _).alloc _, ((q1.below b12).alloc _).alloc _, ((q2.below b12).alloc _).alloc _, ((q3.below b12).alloc _).alloc _, ((q4.below b12).alloc _).alloc _, (RowAt.new w2 24 [.bool false, .slice a1 1 c1]).alloc _, RowAt.at (RowAt.new _ 24 [.bool false, .slice none 0 0]) (by simp), (b2.alloc b2.size _).alloc (by simp; have := b2.size; omega) _, fun _ _ h => h⟩
  have hi1 : IsInt ((w2.alloc (.cells #[.bool false, .slice a1 1 c1] 24)).alloc (.cells #[.bool false, .slice none 0 0] 24)) (.agg #[.bool false, .slice a1 1 c1]) 1 :=
    ⟨false, _, [1], rfl, (h1.below hbe2).below (((Below.refl _ _).alloc (Nat.le_refl _) _).alloc (by simp) _), ⟨by intro x hx; simp at hx; subst hx; decide, rfl⟩, rfl, rfl⟩
  have hi0 : IsInt ((w2.alloc (.cells #[.bool false, .slice a1 1 c1] 24)).alloc (.cells #[.bool false, .slice none 0 0] 24)) (.agg #[.bool false, .slice none 0 0]) 0 :=
    ⟨false, _, [], rfl, Reads.nil _ _, canon_nil, rfl, rfl⟩
  have hra := ha.below hS.below
  have hrb := hb.below hS.below
  generalize ((w2.alloc (.cells #[.bool false, .slice a1 1 c1] 24)).alloc (.cells #[.bool false, .slice none 0 0] 24)) = W0 at *
  generalize w2.heap.size = p at *
  clear q0 q1 q2 q3 q4 b5 s5 hW5 b1 b2 s1 s2 b12 hbe1 hbe1' hbe2 h1
  go_loopw [7, 8] (fun v u W => (∃ s n c s' n' c', v = .slice s n c ∧ u = .slice s' n' c') ∧ ∃ ls ns F G H I n1 s1 m1 c1 n2 s2 m2 c2, Reads .u32 W v ls ∧ Reads .u32 W u ns ∧ Canon ls ∧ Canon ns ∧ GcdInv (val xa) (val xb) (val ls) (val ns) F G H I ∧ GcdR w W na nb aa ab xa xb ca cb p n1 s1 m1 c1 n2 s2 m2 c2 W ∧ IsInt W (.agg #[.bool n1, .slice s1 m1 c1]) F ∧ IsInt W (.agg #[.bool n2, .slice s2 m2 c2]) G) (fun _ u W => readVal u W)
  case atStart => exact ⟨⟨_, _, _, _, _, _, rfl, rfl⟩, xa, xb, 1, 0, 0, 1, _, _, _, _, _, _, _, _, hra, hrb, hka, hkb, GcdInv.start _ _, hS, hi1, hi0⟩
  case round =>
    obtain ⟨⟨s, n, c, s', n', c', rfl, rfl⟩, ls, ns, F, G, H, I, n1, s1, m1, c1, n2, s2, m2, c2, hl, hn, hkl, hkn, hinv, hS, hF, hG⟩ := hrel
    obtain ⟨s_, c_, hsl, -, -⟩ := hl.form
    simp only [Value.slice.injEq] at hsl
    obtain ⟨rfl, rfl, rfl⟩ := hsl
    obtain ⟨s_, c_, hsl, -, -⟩ := hn.form
    simp only [Value.slice.injEq] at hsl
    obtain ⟨rfl, rfl, rfl⟩ := hsl
    by_cases hz : ns.length = 0
    · have hL0 : ns = [] := List.eq_nil_of_length_eq_zero hz
      subst hL0
      have hgl := hinv.last
      have HI := Lib.hid (And.intro hinv hgl)
      have hE : EndS w wr na nb aa ab xa xb ca cb p n1 s1 m1 c1 false none 0 0 false none 0 0 false none 0 0 wr := ⟨hS.low, hS.a, hS.b, hS.g, hS.x, hS.y, hS.f, hS.below, fun _ _ h => h⟩
      have hll : ls.length ≤ 1000000 := by
        have := canon_length_le (k := K) hkl (Nat.lt_of_le_of_lt hinv.bL (by
          have h1 := Nat.lt_of_lt_of_le (val_lt hka.1) (Nat.pow_le_pow_right B32_pos la)
          have h2 := Nat.lt_of_lt_of_le (val_lt hkb.1) (Nat.pow_le_pow_right B32_pos lb)
          omega))
        omega
      have hcl := clone_any _ ls wr hl hll
      obtain ⟨nf, vf, fs, hfe, hfr, hfc, hfn, hfi⟩ := hF
      simp only [Value.agg.injEq, Array.mk.injEq, List.cons.injEq, Value.bool.injEq, and_true] at hfe
      obtain ⟨rfl, rfl⟩ := hfe
      obtain ⟨s_, c_, hsl, -, -⟩ := hfr.form
      simp only [Value.slice.injEq] at hsl
      obtain ⟨rfl, rfl, rfl⟩ := hsl
      have hraE := ha.below hS.below
      have hrbE := hb.below hS.below
      clear hS hinv hgl hG hn hz
      have tok1 : True := trivial
      have HF := Lib.hid hfi
      have HN := Lib.hid hfn
      have HNA := Lib.hid (And.intro hna hnb)
      clear hfi hfn hna hnb
      go_wp2_with (first
        | (go_at_call 110; refine hcl.mono ?_; rintro e w4 ⟨hbe4, v4, rfl, h4⟩; obtain ⟨a4, c4, rfl, hc4, hm4⟩ := h4.form; clear hcl)
        | (go_at_call 63; have _t := tok1; refine (signed_any _ _ _ _ _).mono ?_; rintro e w5 ⟨hbe5, rfl⟩; have hE5 := en_keep (en_step (en_step hE hbe4) hbe5) (fun v xs (h : Reads .u32 w5 v xs) => h); obtain ⟨-, -, -, -, e5, e6, -, -, -, -, -, -, e13, -, -, -⟩ := en_of hE5; have hE6 := en_g hE5 false a4 ls.length c4; obtain ⟨d1, d2, -, -, -, -, -, -, -, -, d11, d12, -, -, -, -⟩ := en_of hE6; clear tok1 _t)
        | (go_at_call 63; refine (signed_any _ _ _ _ _).mono ?_; rintro e w7 ⟨hbe7, rfl⟩; have hE7 := en_step hE6 hbe7; obtain ⟨-, -, -, -, -, -, e7, e8, -, -, -, -, -, e14, -, -⟩ := en_of hE7; have hE8 := en_x hE7 (!(n1 == na) && decide (0 < fs.length)) s1 fs.length c1; obtain ⟨-, -, -, f4, -, -, -, -, -, -, -, -, -, -, -, -⟩ := en_of hE8))
      all_goals
        have hg8 := hE8.keep _ _ (h4.below hbe5)
        have hx8 := hE8.keep _ _ ((hfr.below hbe4).below hbe5)
        have ha8 := hE8.keep _ _ ((hraE.below hbe4).below hbe5)
        have hb8 := hE8.keep _ _ ((hrbE.below hbe4).below hbe5)
        clear hE hE5 hE6 hE7 d1 d2 d11 d12 e5 e6 e7 e8 e13 e14 f4 hbe4 hbe5 hbe7 h4 hfr hraE hrbE
        generalize ((w7.setCell ⟨w.heap.size + 1 + 1 + 1, 0, none⟩ (.bool (!(n1 == na) && decide (0 < fs.length)))).setCell ⟨w.heap.size + 1 + 1 + 1, 1, none⟩ (.slice s1 fs.length c1)) = W8 at *
        have hxI : IsInt W8 (.agg #[.bool (!(n1 == na) && decide (0 < fs.length)), .slice s1 fs.length c1]) (sgn (!(n1 == na)) (val fs)) := isInt_mk _ hx8 hfc rfl
        generalize (!(n1 == na) && decide (0 < fs.length)) = nx at *
      · have hxbp : 0 < xb.length := by assumption
        have hBp : 0 < val xb := (canon_pos_iff hkb).2 hxbp
        obtain ⟨e1, hend, -⟩ := gcd_end HI.out.1 na nb n1 (val fs) HF.out
        have hend := hend hBp
        have hE9 := en_keep hE8 (fun v xs (h : Reads .u32 W8 v xs) => h)
        have hgI : IsInt W8 (.agg #[.bool false, .slice a4 ls.length c4]) ((val ls : Nat) : Int) := ⟨false, _, ls, rfl, hg8, hkl, rfl, rfl⟩
        have haI : IsInt W8 (.agg #[.bool na, .slice aa xa.length ca]) (sgn na (val xa)) := ⟨na, _, xa, rfl, ha8, hka, HNA.out.1, rfl⟩
        have hbI : IsInt W8 (.agg #[.bool nb, .slice ab xb.length cb]) (sgn nb (val xb)) := ⟨nb, _, xb, rfl, hb8, hkb, HNA.out.2, rfl⟩
        have hA : max (val xa) (val xb) < B32 ^ K := by
          have h1 := Nat.lt_of_lt_of_le (val_lt hka.1) (Nat.pow_le_pow_right B32_pos la)
          have h2 := Nat.lt_of_lt_of_le (val_lt hkb.1) (Nat.pow_le_pow_right B32_pos lb)
          omega
        have h1K : 1 < B32 ^ K := Nat.one_lt_pow (by omega) (by decide)
        have hLb : (val ls) < B32 ^ K := Nat.lt_of_le_of_lt HI.out.1.bL hA
        have hXb : (sgn (!(n1 == na)) (val fs)).natAbs < B32 ^ K := by have := hend.bx; omega
        have hAb : (sgn na (val xa)).natAbs < B32 ^ K := by rw [sgn_natAbs]; omega
        have hprod := fun W (hk : ∀ v xs, Reads .u32 W8 v xs → Reads .u32 W v xs) => product_le (.agg #[.bool na, .slice aa xa.length ca]) (.agg #[.bool nx, .slice s1 fs.length c1]) _ _ K K W (haI.keep hk) (hxI.keep hk) (by omega) (by omega) hAb hXb (.inr hXb)
        have h2K : B32 ^ K * B32 ^ K = B32 ^ (2 * K) := by rw [← Nat.pow_add]; congr 1; omega
        have hPb : (sgn na (val xa) * sgn (!(n1 == na)) (val fs)).natAbs < B32 ^ (2 * K) := by
          rw [Int.natAbs_mul, ← h2K]
          exact Nat.mul_lt_mul'' hAb hXb
        have hLb2 : ((val ls : Nat) : Int).natAbs < B32 ^ (2 * K) := by
          rw [Int.natAbs_natCast]
          exact Nat.lt_of_lt_of_le hLb (Nat.pow_le_pow_right B32_pos (by omega))
        have hR1b : (((val ls : Nat) : Int) - sgn na (val xa) * sgn (!(n1 == na)) (val fs)).natAbs < B32 ^ (2 * K + 1) := by
          have h1 := Int.natAbs_sub_le ((val ls : Nat) : Int) (sgn na (val xa) * sgn (!(n1 == na)) (val fs))
          have h2 : B32 ^ (2 * K + 1) = B32 * B32 ^ (2 * K) := by rw [Nat.pow_succ, Nat.mul_comm]
          have h3 : 2 ≤ B32 := by decide
          have h4 : 2 * B32 ^ (2 * K) ≤ B32 * B32 ^ (2 * K) := Nat.mul_le_mul_right _ h3
          omega
        have hdiff := fun (v : Value) W (hv : IsInt W v (sgn na (val xa) * sgn (!(n1 == na)) (val fs))) (hk : ∀ v xs, Reads .u32 W8 v xs → Reads .u32 W v xs) => difference_any (.agg #[.bool false, .slice a4 ls.length c4]) v _ _ (2 * K) W (hgI.keep hk) hv (by omega) hLb2 hPb
        have hBb : (sgn nb (val xb)).natAbs = val xb := sgn_natAbs _ _
        have hB0 : sgn nb (val xb) ≠ 0 := by intro h; rw [h] at hBb; simp at hBb; omega
        have hfl := fun (v : Value) W (hv : IsInt W v (((val ls : Nat) : Int) - sgn na (val xa) * sgn (!(n1 == na)) (val fs))) (hk : ∀ v xs, Reads .u32 W8 v xs → Reads .u32 W v xs) => floored_any v (.agg #[.bool nb, .slice ab xb.length cb]) _ _ W hv (hbI.keep hk)
          (Nat.lt_of_lt_of_le hR1b (Nat.pow_le_pow_right B32_pos (by omega))) (by rw [hBb]; exact Nat.lt_of_lt_of_le (show val xb < B32 ^ K by omega) (Nat.pow_le_pow_right B32_pos (by omega))) hB0
          (fun va vb ya yb hcy hcz hvy hvz hry hrz W' hW' => hD va vb ya yb W' (hry.below hW') (hrz.below hW') hcy hcz (by have := canon_length_le hcy (by rw [hvy]; exact hR1b); omega) (canon_length_le hcz (by rw [hvz, hBb]; omega)) (by rw [hvz, hBb]; exact hBp))
        rw [e1] at hfl
        rw [e1] at hdiff
        have HP := Lib.hid hprod
        have HDF := Lib.hid hdiff
        have HFL := Lib.hid hfl
        have HEND := Lib.hid hend
        generalize hX : sgn (!(n1 == na)) (val fs) = X at *
        generalize hY : ((val xb : Int) * H).fdiv (sgn nb (val xb)) = Y at *
        generalize hM : sgn na (val xa) * X = M at *
        generalize hQ : (val xb : Int) * H = Q at *
        generalize hAV : sgn na (val xa) = AV at *
        generalize hBV : sgn nb (val xb) = BV at *
        clear hX hM hQ hprod hdiff hfl hend e1 hA h1K hLb hXb hAb h2K hPb hLb2 hR1b hBb hB0 hgI haI hbI hD hll
        have hD9 := Lib.hid (el_of ⟨_, _, _, _, en_drew hE9⟩)
        obtain ⟨q1, q2, q3, q4, q5, q6, q7, q8, -⟩ := el_of ⟨_, _, _, _, hE9⟩
        clear hE8 hx8 ha8 hb8 hi1 hi0 hra hrb hl
        have HG8 := Lib.hid (And.intro hg8 hxI)
        clear hg8 hxI
        go_region_held3 (fun X => X.cell? ⟨w.heap.size, 0, none⟩ = some (.bool na) ∧ X.cell? ⟨w.heap.size, 1, none⟩ = some (.slice aa xa.length ca) ∧ X.cell? ⟨w.heap.size + 1, 0, none⟩ = some (.bool nb) ∧ X.cell? ⟨w.heap.size + 1, 1, none⟩ = some (.slice ab xb.length cb) ∧
          X.cell? ⟨w.heap.size + 1 + 1, 0, none⟩ = some (.bool false) ∧ X.cell? ⟨w.heap.size + 1 + 1, 1, none⟩ = some (.slice a4 ls.length c4) ∧ X.cell? ⟨w.heap.size + 1 + 1 + 1, 0, none⟩ = some (.bool nx) ∧ X.cell? ⟨w.heap.size + 1 + 1 + 1, 1, none⟩ = some (.slice s1 fs.length c1) ∧
          EndE w W8 na nb aa ab xa xb ca cb p n1 s1 fs.length c1 false a4 ls.length c4 nx s1 fs.length c1 X)
          (first | exact hD9.out | (go_split_ands; exact el_of (ee_step (by assumption) hbe5)) | (go_split_ands; exact el_of (ee_step (by assumption) hbe6)) | (go_split_ands; exact el_of (ee_step (by assumption) hbe9)) | (go_split_ands; exact el_of (ee_y hE10 _ _ _ _)))
          (first
            | (go_at_call 69; go_split_ands; refine (HP.out _ (EndE.keep (by assumption))).mono ?_; rintro e w5' ⟨hbe5, v5, rfl, hi5⟩; obtain ⟨n5, s5, m5, c5, rfl⟩ := hi5.shape)
            | (go_at_call 68; go_split_ands; refine (HDF.out _ _ hi5 (EndE.keep (by assumption))).mono ?_; rintro e w6 ⟨hbe6, v6, rfl, hi6⟩; obtain ⟨n6, s6, m6, c6, rfl⟩ := hi6.shape)
            | (go_at_call 73; go_split_ands; refine (HFL.out _ _ hi6 (EndE.keep (by assumption))).mono ?_; rintro e w9 ⟨hbe9, v9, r9, rfl, hi9, hr9⟩; obtain ⟨n9, s9, m9, c9, rfl⟩ := hi9.shape; have hE10 := ee_step (by assumption) hbe9; obtain ⟨yn, ys, ym, yc, y1, y2, y3, y4⟩ := ee_cells hE10))
        obtain ⟨yn', ys', ym', yc', hS9⟩ := hE10
        have hkp9 := fun v xs (h : Reads .u32 w9 v xs) => two_kept h y1 y2 (.bool n9) (.slice s9 m9 c9)
        have hyI := hi9.keep hkp9
        have hE11 := en_y hS9 n9 s9 m9 c9
        clear hE9 hD9 q1 q2 q3 q4 q5 q6 q7 q8 hS9 hkp9 hi9 hr9 y1 y2 y3 y4 hi6 hi5 hbe5 hbe6 hbe9
        generalize ((w9.setCell ⟨w.heap.size + 1 + 1 + 1 + 1, 0, none⟩ (.bool n9)).setCell ⟨w.heap.size + 1 + 1 + 1 + 1, 1, none⟩ (.slice s9 m9 c9)) = W10 at *
        obtain ⟨q1, q2, q3, q4, q5, q6, o1, o2, o3, o4, o5, o6, -⟩ := er_of hE11
        go_wp2_with fail
        go_region
        have hE12 := en_drew (en_y (en_x (en_g (en_keep hE11 (fun v xs (h : Reads .u32 W10 v xs) => h)) false a4 ls.length c4) nx s1 fs.length c1) n9 s9 m9 c9)
        obtain ⟨t1, t2, t3, t4, t5, t6, -⟩ := er_of hE12
        clear q1 q2 q3 q4 q5 q6 o1 o2 o3 o4 o5 o6
        go_wp2
        exact bodyPost_ret (v := .tuple #[.agg #[.bool false, .slice a4 ls.length c4], .agg #[.bool nx, .slice s1 fs.length c1], .agg #[.bool n9, .slice s9 m9 c9]]) (by simp [results, Tryd.results83, go_sem, loadCellsFrom, t1, t2, t3, t4, t5, t6]) rfl
          ⟨hE12.below, _, _, _, X, Y, rfl, ⟨false, _, ls, rfl, hE12.keep _ _ (hE11.keep _ _ HG8.out.1), hkl, rfl, by rw [← HI.out.2]; rfl⟩, (HG8.out.2.keep hE11.keep).keep hE12.keep, hyI.keep hE12.keep, HEND.out.eq, HEND.out.bx, HEND.out.by'⟩
      · have hE9 := en_keep hE8 (fun v xs (h : Reads .u32 W8 v xs) => h)
        have hD9 := Lib.hid (er_of (en_drew hE9))
        obtain ⟨q1, q2, q3, q4, q5, q6, o1, o2, o3, o4, o5, o6, -⟩ := er_of hE9
        clear hE8
        clear hi1 hi0 hra hrb hl
        go_region
        have hE12 := en_drew (en_y (en_x (en_g hE9 false a4 ls.length c4) nx s1 fs.length c1) false none 0 0)
        obtain ⟨t1, t2, t3, t4, t5, t6, -⟩ := er_of hE12
        clear q1 q2 q3 q4 q5 q6 o1 o2 o3 o4 o5 o6 hD9
        go_wp2
        have hxb0 : xb = [] := List.eq_nil_of_length_eq_zero (by omega)
        have hend := (gcd_end HI.out.1 na nb n1 (val fs) HF.out).2.2 (by rw [hxb0]; rfl)
        exact bodyPost_ret (v := .tuple #[.agg #[.bool false, .slice a4 ls.length c4], .agg #[.bool nx, .slice s1 fs.length c1], .agg #[.bool false, .slice none 0 0]]) (by simp [results, Tryd.results83, go_sem, loadCellsFrom, t1, t2, t3, t4, t5, t6]) rfl
          ⟨hE12.below, _, _, _, sgn (!(n1 == na)) (val fs), 0, rfl, ⟨false, _, ls, rfl, hE12.keep _ _ hg8, hkl, rfl, by rw [← HI.out.2]; rfl⟩, hxI.keep hE12.keep, ⟨false, _, [], rfl, Reads.nil _ _, canon_nil, rfl, rfl⟩, hend.eq, hend.bx, hend.by'⟩
    · have hz' : 0 < ns.length := by omega
      have hnpos : 0 < val ns := (canon_pos_iff hkn).2 hz'
      have hA : max (val xa) (val xb) < B32 ^ K := by
        have h1 := Nat.lt_of_lt_of_le (val_lt hka.1) (Nat.pow_le_pow_right B32_pos la)
        have h2 := Nat.lt_of_lt_of_le (val_lt hkb.1) (Nat.pow_le_pow_right B32_pos lb)
        omega
      have hBK : val xb < B32 ^ K := by omega
      have h1K : 1 < B32 ^ K := Nat.one_lt_pow (by omega) (by decide)
      have lls : ls.length ≤ K := canon_length_le hkl (Nat.lt_of_le_of_lt hinv.bL hA)
      have lns : ns.length ≤ K := canon_length_le hkn (Nat.lt_of_le_of_lt hinv.bN hA)
      have hst := hinv.step hnpos
      have hcross : (F - ((val ls / val ns : Nat) : Int) * G).natAbs = F.natAbs + (val ls / val ns) * G.natAbs := natAbs_cross _ (by rcases hinv.sg with h | h <;> omega)
      have hqG : (((val ls / val ns : Nat) : Int) * G).natAbs < B32 ^ K := by
        rw [Int.natAbs_mul, Int.natAbs_natCast]
        have := hst.bG
        omega
      have hFK : F.natAbs < B32 ^ K := by have := hinv.bF; omega
      have hGK : G.natAbs < B32 ^ K := by have := hinv.bG; omega
      have HI := Lib.hid hinv
      have HS := Lib.hid hst
      have H1 := Lib.hid (And.intro hqG (And.intro hFK hGK))
      have HNP := Lib.hid hnpos
      clear hinv hst hqG hFK hGK hcross h1K hBK hA hnpos
      have hdv := hD _ _ ls ns wr hl hn hkl hkn (by omega) lns HNP.out
      go_wp2_with (go_at_call 105; refine hdv.mono ?_; rintro e w4 ⟨hbe4, v4, r4, qs, rs, rfl, h4, h4r, k4, k4r, e4, e4r⟩; obtain ⟨a4, c4, rfl, hc4, hm4⟩ := h4.form; obtain ⟨a5, c5, rfl, hc5, hm5⟩ := h4r.form; clear hdv)
      have hF4 := hF.below hbe4
      have hG4 := hG.below hbe4
      have hn4 := hn.below hbe4
      have hR4 := gr_keep (gr_step hS hbe4).2.2.2.2 (fun v xs (h : Reads .u32 w4 v xs) => h)
      have hrv := readVal_eq hn
      clear hS hF hG hl hn hbe4
      have hD4 := Lib.hid (gr_drew hR4)
      obtain ⟨d1, d2, d3, d4, -⟩ := gr_of hR4
      have hp4 : p + 1 < w4.heap.size := hR4.h.lt
      obtain ⟨Q, hQ⟩ : ∃ Q, val ls / val ns = Q := ⟨_, rfl⟩
      have hqi : IsInt w4 (.agg #[.bool false, .slice a4 qs.length c4]) ((Q : Nat) : Int) := ⟨false, _, qs, rfl, h4, k4, rfl, by rw [e4, hQ]; rfl⟩
      have hqb : ((Q : Nat) : Int).natAbs < B32 ^ K := by
        rw [Int.natAbs_natCast, ← hQ, ← e4]
        exact Nat.lt_of_lt_of_le (val_lt k4.1) (Nat.pow_le_pow_right B32_pos (Nat.le_trans (canon_le_length hkl k4 (by rw [e4]; exact Nat.div_le_self _ _)) lls))
      have hgb := H1.out.2.2
      have HB := Lib.hid (And.intro hqb hgb)
      clear hqb hgb hR4
      go_cut [13] from 21 to 39 (fun v13 wx => ∃ q n6 s6 m6 c6, v13 = .pointer (some ⟨q, 0, none⟩) ∧ p + 1 < q ∧ RowAt wx q 24 [.bool n6, .slice s6 m6 c6] ∧ IsInt wx (.agg #[.bool n6, .slice s6 m6 c6]) ((Q : Int) * G) ∧ GcdR w w4 na nb aa ab xa xb ca cb p n1 s1 m1 c1 n2 s2 m2 c2 wx)
      case first =>
        go_region_held3 (fun X => X.cell? ⟨p, 0, none⟩ = some (.bool n1) ∧ X.cell? ⟨p, 1, none⟩ = some (.slice s1 m1 c1) ∧ X.cell? ⟨p + 1, 0, none⟩ = some (.bool n2) ∧ X.cell? ⟨p + 1, 1, none⟩ = some (.slice s2 m2 c2) ∧ GcdR w w4 na nb aa ab xa xb ca cb p n1 s1 m1 c1 n2 s2 m2 c2 X)
          (first
            | exact hD4.out
            | (go_split_ands; exact gr_step (by assumption) hbe5)
            | (go_split_ands; exact gr_step (by assumption) hbe6)
            | (go_split_ands; exact gr_step (by assumption) ((Below.refl _ _).alloc (Nat.le_refl _) _))
            | (go_split_ands; exact gr_step hR6 ((Below.refl _ _).alloc (Nat.le_refl _) _))
            | (go_split_ands; exact gr_other hR6 hrow6 hR5.h.lt _ _ _ _)
            | (go_split_ands; exact gr_other hR6 hrow6 hp4 _ _ _ _))
          (first
            | (go_at_call 63; go_split_ands; refine (signed_any _ _ _ _ _).mono ?_; rintro e w5 ⟨hbe5, rfl⟩; have hR5 := (gr_step (by assumption) hbe5).2.2.2.2; (try have hrow5 : RowAt w5 w4.heap.size 24 [.bool false, .slice none 0 0] := RowAt.below (RowAt.new w4.drew 24 [.bool false, .slice none 0 0]) hbe5))
            | (go_at_call 69; go_split_ands; refine (product_le _ _ _ _ K K _ (hqi.keep (GcdR.keep (by assumption))) (hG4.keep (GcdR.keep (by assumption))) (by omega) (by omega) HB.out.1 HB.out.2 (.inr H1.out.2.2)).mono ?_; rintro e w6 ⟨hbe6, v6, rfl, n6, z6, y6, rfl, hr6, hk6, hn6, hi6⟩; obtain ⟨s6, c6, rfl, hc6, hm6⟩ := hr6.form; (first | have hrow6 := RowAt.below (RowAt.new _ 24 [.bool false, .slice none 0 0]) hbe6 | have hrow6 := hrow5.below hbe6 | skip); (try (have cq1 := hrow6.cell 0; have cq2 := hrow6.cell 1; have cq3 := hrow6.frozen 0; have cq4 := hrow6.frozen 1; simp only [List.getElem?_cons_zero, List.getElem?_cons_succ] at cq1 cq2)); have hR6 := (gr_step (by assumption) hbe6).2.2.2.2))
        all_goals rename_i hT
        all_goals go_wp2_with fail
        all_goals go_meet
        all_goals first
          | exact ⟨_, _, _, _, _, rfl, hR6.h.lt, RowAt.new w6 24 [.bool n6, .slice s6 y6.length c6], ⟨n6, _, y6, rfl, hr6.below ((Below.refl _ _).alloc (Nat.le_refl _) _), hk6, hn6, hi6⟩, hT.2.2.2.2⟩
          | exact ⟨_, _, _, _, _, rfl, hR5.h.lt, (hrow6.set 0 (.bool n6)).set 1 (.slice s6 y6.length c6), ⟨n6, _, y6, rfl, two_kept hr6 cq1 cq2 _ _, hk6, hn6, hi6⟩, hT.2.2.2.2⟩
          | exact ⟨_, _, _, _, _, rfl, hp4, (hrow6.set 0 (.bool n6)).set 1 (.slice s6 y6.length c6), ⟨n6, _, y6, rfl, two_kept hr6 cq1 cq2 _ _, hk6, hn6, hi6⟩, hT.2.2.2.2⟩
      case rest =>
        obtain ⟨q, n6, s6, m6, c6, rfl, hpq, hrow, hless, hR⟩ := hcut
        have hF7 := hF4.keep hR.keep
        have hG7 := hG4.keep hR.keep
        have hn7 := hR.keep _ _ hn4
        have hr7 := hR.keep _ _ h4r
        have k1 := hR.f.cell 0
        have k2 := hR.f.cell 1
        have k3 := hR.h.cell 0
        have k4' := hR.h.cell 1
        have k5 := hrow.cell 0
        have k6 := hrow.cell 1
        have z1 := hR.f.frozen 0
        have z2 := hR.f.frozen 1
        have z3 := hR.h.frozen 0
        have z4 := hR.h.frozen 1
        simp only [List.getElem?_cons_zero, List.getElem?_cons_succ] at k1 k2 k3 k4' k5 k6
        have hdf := difference_any _ _ F ((Q : Int) * G) K wc.drew hF7 hless (by omega) H1.out.2.1 (by rw [← hQ]; exact H1.out.1)
        go_wp2_with fail
        go_region_with (go_at_call 68; refine hdf.mono ?_; rintro e w9 ⟨hbe9, v9, rfl, n9, z9, y9, rfl, hr9, hk9, hn9, hi9⟩; obtain ⟨s9, c9, rfl, hc9, hm9⟩ := hr9.form; have hR9 := (gr_step (gr_drew hR).2.2.2.2 hbe9).2.2.2.2; have j1 := hR9.f.cell 0; have j2 := hR9.f.cell 1; have j3 := hR9.h.cell 0; have j4 := hR9.h.cell 1; have j5 := hR9.f.frozen 0; have j6 := hR9.f.frozen 1; have j7 := hR9.h.frozen 0; have j8 := hR9.h.frozen 1; simp only [List.getElem?_cons_zero, List.getElem?_cons_succ] at j1 j2 j3 j4)
        all_goals
          have hst := HS.out
          rw [hQ, ← e4r] at hst
          have hlt : val rs < val ns := by rw [e4r]; exact Nat.mod_lt _ HNP.out
          obtain ⟨hRn, hkp⟩ := gr_swap hR9 n9 s9 y9.length c9
          have hrs' := hkp _ _ (hR9.keep _ _ h4r)
          have hns' := hkp _ _ (hR9.keep _ _ hn4)
          have hG' := (hG4.keep hR9.keep).keep hkp
          have hN' : IsInt _ (.agg #[.bool n9, .slice s9 y9.length c9]) (F - (Q : Int) * G) := ⟨n9, _, y9, rfl, hkp _ _ hr9, hk9, hn9, hi9⟩
          clear HS HI H1 HB hR9 hr9 j1 j2 j3 j4 j5 j6 j7 j8
          go_wp2_with fail
          exact ⟨⟨⟨_, _, _, _, _, _, rfl, rfl⟩, ns, rs, G, F - (Q : Int) * G, I, H - (Q : Int) * I, n2, s2, m2, c2, n9, s9, y9.length, c9, hns', hrs', hkn, k4r, hst, hRn, hG', hN'⟩, by rw [hrv, readVal_eq hrs']; exact hlt⟩
end Go.Proofs.YtlghjfpkfdnfoaaDoor
