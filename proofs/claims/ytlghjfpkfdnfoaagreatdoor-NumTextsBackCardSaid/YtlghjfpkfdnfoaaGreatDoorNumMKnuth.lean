/- num.root -/
import Derived.Test.YtlghjfpkfdnfoaaGreatDoorNumMShiftRight
import Derived.Test.YtlghjfpkfdnfoaaGreatDoorNumMBitLen
import Derived.Test.YtlghjfpkfdnfoaaGreatDoorNumMApis
import Derived.Test.YtlghjfpkfdnfoaaGreatDoorNumMFloored
import Derived.Test.YtlghjfpkfdnfoaaGreatDoorNumMLimbs
namespace Go.Proofs.YtlghjfpkfdnfoaaGreatDoor
open Go Go.RowKit Go.Shelf

/-- divide keeps its contract where the dividend has at most Ka limbs and the divisor at most Kb -/
def DivUpTo (Ka Kb : Nat) : Prop := ∀ (va vb : Value) (xa xb : List Nat) (w : World), Reads .u32 w va xa → Reads .u32 w vb xb → Canon xa → Canon xb → xa.length ≤ Ka → xb.length ≤ Kb → 0 < val xb →
  Calls Tryz.prog 78 #[va, vb] w fun e W' => DivRes w W' xa xb e
theorem divUpTo_one : DivUpTo 100000 1 := by
  intro va vb xa xb w ha hb hka hkb la lb h0
  cases xb with
  | nil => simp [val] at h0
  | cons d rest =>
    have hr0 : rest.length = 0 := by have : (d :: rest).length = rest.length + 1 := rfl
                                     omega
    obtain rfl : rest = [] := List.eq_nil_of_length_eq_zero hr0
    exact divide_small va vb xa d w ha hb hka hkb la

theorem Reads.inj {k : IntKind} {w : World} {v : Value} {xs ys : List Nat} (h : Reads k w v xs) (h' : Reads k w v ys) : xs = ys := by
  obtain ⟨a, c, rfl, _, _, hx⟩ := h
  obtain ⟨a', c', e, _, _, hy⟩ := h'
  simp only [Value.slice.injEq] at e
  obtain ⟨rfl, hl, rfl⟩ := e
  apply List.ext_getElem hl
  intro j h1 h2
  have e1 := (hx j h1).2
  have e2 := (hy j h2).2
  rw [e1] at e2
  simp only [Option.some.injEq, Value.int.injEq, true_and, List.getElem?_eq_getElem h1, List.getElem?_eq_getElem h2, Option.getD_some] at e2
  omega
open Classical in
noncomputable def readVal (v : Value) (W : World) : Nat := if h : ∃ xs, Reads .u32 W v xs then val (Classical.choose h) else 0
theorem readVal_eq {v : Value} {W : World} {xs : List Nat} (h : Reads .u32 W v xs) : readVal v W = val xs := by
  have hex : ∃ xs, Reads .u32 W v xs := ⟨xs, h⟩
  unfold readVal
  rw [dif_pos hex, Reads.inj (Classical.choose_spec hex) h]

structure NearInv (w : World) (A n : Nat) (v : Value) (W : World) : Prop where
  below : Below w.heap.size w W
  reads : ∃ cs, Reads .u32 W v cs ∧ Canon cs ∧ 0 < val cs ∧ val cs ^ n ≤ 2 ^ n * A ∧ (∀ r, r ^ n ≤ A → r ≤ val cs)

set_option maxHeartbeats 1000000 in
set_option maxRecDepth 100000 in
theorem root_nil (va : Value) (n : Int) (w : World) (ha : Reads .u32 w va []) :
    Calls Tryz.prog 88 #[va, .int .i64 n] w fun e w' => Below w.heap.size w w' ∧ e = .returned (.slice none 0 0) := by
  obtain ⟨aa, ca, rfl, hca, hma⟩ := ha.form
  have b0 : Below w.heap.size w w := Below.refl _ _
  go_enter Tryz.func88, Tryz.ntmps88
  go_wp2
  go_ret
  exact ⟨b0, rfl⟩

set_option maxHeartbeats 1000000 in
set_option maxRecDepth 100000 in
theorem root_one (va : Value) (xa : List Nat) (n : Nat) (w : World) (ha : Reads .u32 w va xa) (hla : Limbs xa) (hx : xa.length ≠ 0) (na : xa.length ≤ 1000) (h1 : 1 ≤ bitsOf xa) (hb : bitsOf xa ≤ n) (hn : n ≤ 100) :
    Calls Tryz.prog 88 #[va, .int .i64 n] w fun e w' => Below w.heap.size w w' ∧ ∃ v, e = .returned v ∧ Reads .u32 w' v [1] := by
  obtain ⟨aa, ca, rfl, hca, hma⟩ := ha.form
  have hq : ((bitsOf xa : Int) - 1) / n = 0 := Int.ediv_eq_zero_of_lt (by omega) (by omega)
  have hq' : ((bitsOf xa : Int) - 1).tdiv n = 0 := Int.tdiv_eq_zero_of_lt (by omega) (by omega)
  have hn0 : (n : Int) ≠ 0 := by omega
  have hn1 : n ≠ 0 := by omega
  have hbl := fun W h => bitLen_any (.slice aa xa.length ca) xa W (ha.below h) hla (by omega)
  go_enter Tryz.func88, Tryz.ntmps88
  go_wp2_with (first | (go_at_call 49; refine (hbl _ (Below.refl _ _)).mono ?_; rintro e w1 ⟨rfl, rfl⟩; generalize bitsOf xa = bits at *) | (go_at_call 80; refine (one_any _).mono ?_; rintro e w1 ⟨hbe1, v1, rfl, h1⟩; obtain ⟨a1, c1, rfl, hc1, hm1⟩ := h1.form))
  go_ret
  exact ⟨hbe1, _, rfl, h1⟩
theorem shiftRight_any (va : Value) (xa : List Nat) (n : Nat) (w : World) (ha : Reads .u32 w va xa) (hla : Limbs xa) (na : xa.length ≤ 100000) (hn : n ≤ 3200000) :
    Calls Tryz.prog 105 #[va, .int .i64 (n : Int)] w fun e w' => Below w.heap.size w w' ∧ ∃ v cs, e = .returned v ∧ Reads .u32 w' v cs ∧ Canon cs ∧ val cs = val xa / 2 ^ n := by
  have hp : 2 ^ n = B32 ^ (n / 32) * 2 ^ (n % 32) := by rw [B32_pow, ← Nat.pow_add, Nat.div_add_mod]
  by_cases hw : n / 32 < xa.length
  · refine (shiftRight_some va xa n w ha hla na hn hw).mono ?_
    rintro e w' ⟨hbe, v, cs, rfl, h1, h2, h3⟩
    refine ⟨hbe, v, cs, rfl, h1, h2, ?_⟩
    have hv := val_append (xa.take (n / 32)) (xa.drop (n / 32))
    rw [List.take_append_drop, List.length_take, Nat.min_eq_left (by omega)] at hv
    have hlt : val (xa.take (n / 32)) < B32 ^ (n / 32) := by
      have := val_lt (limbs_take hla (n / 32))
      rwa [List.length_take, Nat.min_eq_left (by omega)] at this
    rw [h3, hp, ← Nat.div_div_eq_div_mul, hv, Nat.add_mul_div_left _ _ (Nat.pow_pos B32_pos), Nat.div_eq_of_lt hlt, Nat.zero_add]
  · refine (shiftRight_none va xa n w ha hn (by omega)).mono ?_
    rintro e w' ⟨hbe, rfl⟩
    refine ⟨hbe, _, [], rfl, Reads.nil _ _, canon_nil, ?_⟩
    have hlt := val_lt hla
    have hle : B32 ^ xa.length ≤ 2 ^ n := by
      rw [hp]
      exact Nat.le_trans (Nat.pow_le_pow_right B32_pos (by omega)) (Nat.le_mul_of_pos_right _ (Nat.pow_pos (by decide)))
    rw [Nat.div_eq_of_lt (by omega)]
    rfl

theorem cmpI_nonneg (x y : Nat) : 0 ≤ cmpI (x : Int) (y : Int) ↔ y ≤ x := by
  unfold cmpI
  split
  · omega
  · split <;> omega

theorem root_length {A n L : Nat} {rs : List Nat} (hk : Canon rs) (hn : n ≠ 0) (h : val rs ^ n ≤ A) (hA : A < B32 ^ L) : rs.length ≤ L :=
  canon_length_le hk (Nat.lt_of_le_of_lt (Nat.le_trans (Nat.le_self_pow hn _) h) hA)
theorem root_length1 {A n L : Nat} {rs ps : List Nat} (hk : Canon ps) (hn : n ≠ 0) (h : val rs ^ n ≤ A) (hA : A < B32 ^ L) (hp : val ps = val rs + 1) : ps.length ≤ L + 1 := by
  apply canon_length_le hk
  have h1 : val rs < B32 ^ L := Nat.lt_of_le_of_lt (Nat.le_trans (Nat.le_self_pow hn _) h) hA
  have h2 : B32 ^ L < B32 ^ (L + 1) := Nat.pow_lt_pow_right (by decide) (by omega)
  rw [hp]
  exact Nat.lt_of_le_of_lt h1 h2
theorem canon_len_add {xs ys zs : List Nat} (hz : Canon zs) (hx : Limbs xs) (hy : Limbs ys) (e : val zs = val xs + val ys) : zs.length ≤ max xs.length ys.length + 1 := by
  apply canon_length_le hz
  have h1 := Nat.lt_of_lt_of_le (val_lt hx) (Nat.pow_le_pow_right B32_pos (Nat.le_max_left xs.length ys.length))
  have h2 := Nat.lt_of_lt_of_le (val_lt hy) (Nat.pow_le_pow_right B32_pos (Nat.le_max_right xs.length ys.length))
  rw [e, Nat.pow_succ]
  have h3 : B32 ^ max xs.length ys.length * 2 ≤ B32 ^ max xs.length ys.length * B32 := Nat.mul_le_mul_left _ (by decide)
  omega
theorem canon_len_tplus {xs zs : List Nat} {f c : Nat} (hz : Canon zs) (hx : Limbs xs) (hf : f < B32) (hc : c < B32) (e : val zs = val xs * f + c) : zs.length ≤ xs.length + 1 := by
  apply canon_length_le hz
  rw [e, Nat.pow_succ]
  have h1 := val_lt hx
  have h2 : val xs * f ≤ val xs * (B32 - 1) := Nat.mul_le_mul_left _ (by omega)
  have h3 : (val xs + 1) * B32 ≤ B32 ^ xs.length * B32 := Nat.mul_le_mul_right _ h1
  have h4 : val xs * (B32 - 1) + val xs = val xs * B32 := by
    rw [← Nat.mul_succ, show (B32 - 1).succ = B32 from rfl]
  rw [Nat.add_mul, Nat.one_mul] at h3
  omega

set_option maxHeartbeats 2000000 in
set_option maxRecDepth 100000 in
theorem root_step (K L m q half s : Nat) (hT : TimesUpTo K) (hD : DivUpTo L K) (hL : L ≤ 1000) (hK0 : 0 < K) (hK : K ≤ 1000) (hm : m < 100) (va : Value) (xa : List Nat) (w : World) (ha : Reads .u32 w va xa) (hka : Canon xa) (hx : xa.length ≠ 0) (na : xa.length ≤ L)
    (hq : (bitsOf xa - 1) / (m + 1) = q) (hq1 : 1 ≤ q) (hhalf : (q + 1) / 2 = half) (hs : (m + 1) * half = s) (hs1 : val xa / 2 ^ s ≠ 0) (h1 : 1 ≤ bitsOf xa) (hfit : 2 ^ (m + 1) * val xa < B32 ^ K)
    (hrec : ∀ v ys W, Below w.heap.size w W → Reads .u32 W v ys → Canon ys → val ys = val xa / 2 ^ s → Calls Tryz.prog 88 #[v, .int .i64 ((m : Int) + 1)] W fun e W' => Below W.heap.size W W' ∧ ∃ v' cs, e = .returned v' ∧ Reads .u32 W' v' cs ∧ Canon cs ∧ IsRoot (val xa / 2 ^ s) (m + 1) (val cs)) :
    Calls Tryz.prog 88 #[va, .int .i64 ((m : Int) + 1)] w fun e w' => Below w.heap.size w w' ∧ ∃ v cs, e = .returned v ∧ Reads .u32 w' v cs ∧ Canon cs ∧ IsRoot (val xa) (m + 1) (val cs) := by
  obtain ⟨aa, ca, rfl, hca, hma⟩ := ha.form
  have hbits : bitsOf xa ≤ 32000 := by
    unfold bitsOf
    rw [if_neg hx]
    have := (bitLen_bounds (canon_last hka (by intro h; exact hx (by simp [h]))) (limb_getD hka.1 (xa.length - 1))).2.1
    omega
  have hqb : q ≤ 32000 := by rw [← hq]; exact Nat.le_trans (Nat.div_le_self _ _) (by omega)
  have hq' : ((bitsOf xa : Int) - 1) / ((m : Int) + 1) = (q : Int) := by
    rw [← hq, show ((bitsOf xa : Int) - 1) = ((bitsOf xa - 1 : Nat) : Int) by omega]; rfl
  have hq2 : ((bitsOf xa : Int) - 1).tdiv ((m : Int) + 1) = (q : Int) := by
    rw [Int.tdiv_eq_ediv_of_nonneg (by omega)]; exact hq'
  have hh : ((q : Int) + 1) / 2 = (half : Int) := by rw [← hhalf]; omega
  have hsm : ((m : Int) + 1) * (half : Int) = (s : Int) := by rw [← hs]; push_cast; rfl
  have hsb : s ≤ 3200000 := by
    rw [← hs]; exact Nat.le_trans (Nat.mul_le_mul (show m + 1 ≤ 100 by omega) (show half ≤ 32000 by rw [← hhalf]; omega)) (by decide)
  have hw1 : IntKind.u32.wrap (m : Int) = (m : Int) := by rw [IntKind.wrap_u32']; omega
  have hw2 : IntKind.u32.wrap ((m : Int) + 1) = (m : Int) + 1 := by rw [IntKind.wrap_u32']; omega
  have hbl := fun W h => bitLen_any (.slice aa xa.length ca) xa W (ha.below h) hka.1 (by omega)
  have hA1 : val xa < B32 ^ L := Nat.lt_of_lt_of_le (val_lt hka.1) (Nat.pow_le_pow_right B32_pos na)
  have HA1 := Lib.hid hA1
  clear hA1
  have HQ := Lib.hid hq
  have HS := Lib.hid hs
  have HF := Lib.hid hfit
  have HS1 := Lib.hid hs1
  clear hq hs hfit hs1
  go_enter Tryz.func88, Tryz.ntmps88
  go_wp2_with (first
    | (go_at_call 49; refine (hbl _ (Below.refl _ _)).mono ?_; rintro e w1 ⟨rfl, rfl⟩; generalize bitsOf xa = bits at *; clear hbl)
    | (go_at_call 105; refine (shiftRight_any _ xa s _ ha hka.1 (by omega) hsb).mono ?_; rintro e w2 ⟨hbe2, v2, ys, rfl, h2, k2, e2⟩; obtain ⟨a2, c2, rfl, hc2, hm2⟩ := h2.form; have b2 := hbe2)
    | (go_at_call 88; refine (hrec _ ys _ b2 h2 k2 e2).mono ?_; rintro e w3 ⟨hbe3, v3, rs, rfl, h3, k3, e3⟩; obtain ⟨a3, c3, rfl, hc3, hm3⟩ := h3.form; have b3 := b2.trans (hbe3.mono b2.size); have hA2 := Nat.lt_of_le_of_lt (Nat.div_le_self (val xa) (2 ^ s)) HA1.out; have hlr : rs.length ≤ L := root_length k3 (by omega) e3.1 hA2; have HA2 := Lib.hid hA2; clear hA2)
    | (go_at_call 80; refine (one_any _).mono ?_; rintro e w4 ⟨hbe4, v4, rfl, h4⟩; obtain ⟨a4, c4, rfl, hc4, hm4⟩ := h4.form; have b4 := b3.trans (hbe4.mono b3.size))
    | (go_at_call 79; refine (plus_any _ _ rs [1] _ (h3.below hbe4) h4 k3.1 (by intro x hx; simp at hx; subst hx; decide) (by omega) (by simp)).mono ?_; rintro e w5 ⟨hbe5, v5, ps, rfl, h5, k5, e5⟩; have hlp : ps.length ≤ L + 1 := root_length1 k5 (show m + 1 ≠ 0 by omega) e3.1 HA2.out (by rw [e5]; rfl); obtain ⟨a5, c5, rfl, hc5, hm5⟩ := h5.form; have b5 := b4.trans (hbe5.mono b4.size))
    | (go_at_call 101; refine (shiftLeft_any _ ps half _ h5 k5.1 (by omega) (by omega)).mono ?_; rintro e w6 ⟨hbe6, v6, ns, rfl, h6, k6, e6⟩; obtain ⟨a6, c6, rfl, hc6, hm6⟩ := h6.form; have b6 := b5.trans (hbe6.mono b5.size)))
  have hpos : 0 < val xa := by
    have := HS1.out
    rcases Nat.eq_zero_or_pos (val xa) with h | h
    · rw [h, Nat.zero_div] at this; exact absurd rfl this
    · exact h
  have hs1' : 1 ≤ val rs := by
    rcases Nat.eq_zero_or_pos (val rs) with h | h
    · have := e3.2
      rw [h, Nat.zero_add, Nat.one_pow] at this
      have := HS1.out
      omega
    · exact h
  have hsE := HS.out
  have hstart : NearInv w (val xa) (m + 1) (.slice a6 ns.length c6) w6 := by
    refine ⟨b6, ns, h6, k6, ?_, ?_, ?_⟩
    · rw [e6, e5]; exact Nat.mul_pos (Nat.add_pos_left hs1' _) (Nat.pow_pos (by decide))
    · rw [e6, e5, show val [1] = 1 from rfl]
      rw [← hsE] at e3
      exact near_small e3 hs1'
    · intro r hr
      rw [← hsE] at e3
      have h9 := near_start e3
      rw [e6, e5, show val [1] = 1 from rfl]
      exact Nat.le_of_lt (Nat.lt_of_not_le fun hc => by
        have := Nat.pow_le_pow_left hc (m + 1)
        omega)
  clear hrec hq' hq2 hh hsm hsb hbits h1 HS HS1 e6 k6 h6 e5 k5 h5 e3 k3 h3 e2 k2 h2 hbe2 hbe3 hbe4 hbe5 hbe6 b2 b3 b4 b5 b6 hqb hq1 hsE hs1' hlr hlp HA2 HQ hx h4
  go_loopw [7] (fun v W => (∃ a2 n2 c2, v = .slice a2 n2 c2) ∧ NearInv w (val xa) (m + 1) v W) (fun v W => readVal v W)
  case atStart => exact ⟨⟨_, _, _, rfl⟩, hstart⟩
  case round =>
    obtain ⟨⟨a2, n2, c2, rfl⟩, hb, cs, hr, hkc, hv0, hvn, hvr⟩ := hrel
    have hA1 := HA1.out
    have hcsK : val cs < B32 ^ K := Nat.lt_of_le_of_lt (Nat.le_trans (Nat.le_self_pow (by omega) _) hvn) HF.out
    have lcs : cs.length ≤ K := canon_length_le hkc hcsK
    have hfitp : val cs ^ m < B32 ^ K := by
      refine Nat.lt_of_le_of_lt (Nat.le_trans ?_ hvn) HF.out
      rw [Nat.pow_succ]
      exact Nat.le_mul_of_pos_right _ hv0
    have hpp : 0 < val cs ^ m := Nat.pow_pos hv0
    have HV0 := Lib.hid hv0
    have HVN := Lib.hid hvn
    have HVR := Lib.hid hvr
    have HFP := Lib.hid hfitp
    have HPP := Lib.hid hpp
    have HCK := Lib.hid hcsK
    clear hv0 hvn hvr hfitp hpp hcsK hA1
    obtain ⟨a2', c2', hsl, -, -⟩ := hr.form
    simp only [Value.slice.injEq] at hsl
    obtain ⟨rfl, rfl, rfl⟩ := hsl
    have hdl : ∀ (v : Value) (ys : List Nat) (W : World), Reads .u32 W v ys → Limbs ys → ys.length ≤ 100000 → Calls Tryz.prog 60 #[v, .int .u32 ((m : Int) + 1)] W fun e w' => Below W.heap.size W w' ∧ ∃ v' cs, e = .returned (.tuple #[v', .int .u32 ((val ys % (m + 1) : Nat) : Int)]) ∧ Reads .u32 w' v' cs ∧ Canon cs ∧ val cs = val ys / (m + 1) := fun v ys W h hl hn => by
      rw [show ((m : Int) + 1) = ((m + 1 : Nat) : Int) by omega]
      exact divideLimb_any v ys (m + 1) W h hl hn (by omega) (by unfold B32; omega)
    go_wp2_with (first
      | (go_at_call 52; refine (power_any K hT hK0 _ cs m _ hr hkc (by omega) HFP.out).mono ?_; rintro e w1 ⟨hbe1, v1, qs1, rfl, h1, k1, e1⟩; obtain ⟨a1, c1, rfl, hc1, hm1⟩ := h1.form; have b1 := hb.trans (hbe1.mono hb.size))
      | (go_at_call 78; refine (hD _ _ xa qs1 _ (ha.below b1) h1 hka k1 na (canon_length_le k1 (by rw [e1]; exact HFP.out)) (by rw [e1]; exact HPP.out)).mono ?_; rintro e w2 ⟨hbe2, v2, r2, qs2, rs2, rfl, h2, h2r, k2, k2r, e2, e2r⟩; obtain ⟨a3, c3, rfl, hc3, hm3⟩ := h2.form; obtain ⟨a4, c4, rfl, hc4, hm4⟩ := h2r.form; have b2 := b1.trans (hbe2.mono b1.size); have lq2 : qs2.length ≤ 1000 := Nat.le_trans (canon_le_length hka k2 (by rw [e2]; exact Nat.div_le_self _ _)) (by omega); clear hD)
      | (go_at_call 64; refine (timesPlus_any _ cs m 0 _ ((hr.below hbe1).below hbe2) hkc.1 (by omega) (by unfold B32; omega) (by decide)).mono ?_; rintro e w3 ⟨hbe3, v3, ts, rfl, h3, k3, e3⟩; obtain ⟨a5, c5, rfl, hc5, hm5⟩ := h3.form; have b3 := b2.trans (hbe3.mono b2.size); have lts := canon_len_tplus k3 hkc.1 (show m < B32 by unfold B32; omega) (by decide) e3)
      | (go_at_call 79; refine (plus_any _ _ ts qs2 _ h3 (h2.below hbe3) k3.1 k2.1 (by omega) (by omega)).mono ?_; rintro e w4 ⟨hbe4, v4, us, rfl, h4, k4, e4⟩; obtain ⟨a6, c6, rfl, hc6, hm6⟩ := h4.form; have b4 := b3.trans (hbe4.mono b3.size); have lus := canon_len_add k4 k3.1 k2.1 e4)
      | (go_at_call 60; refine (hdl _ us _ h4 k4.1 (by omega)).mono ?_; rintro e w5 ⟨hbe5, v5, ns, rfl, h5, k5, e5⟩; obtain ⟨a7, c7, rfl, hc7, hm7⟩ := h5.form; have b5 := b4.trans (hbe5.mono b4.size); have lns : ns.length ≤ us.length := canon_le_length k4 k5 (by rw [e5]; exact Nat.div_le_self _ _))
      | (go_at_call 31; refine (compare_any _ _ ns cs _ h5 ((((hr.below hbe1).below hbe2).below hbe3).below hbe4 |>.below hbe5) k5 hkc (by omega)).mono ?_; rintro e w6 ⟨hbe6, rfl⟩; have b6 := b5.trans (hbe6.mono b5.size)))
    all_goals rename_i hc
    all_goals have E5 : val ns = ((m + 1 - 1) * val cs + val xa / val cs ^ (m + 1 - 1)) / (m + 1) := by rw [e5, e4, e3, e2, e1, Nat.add_zero, Nat.add_sub_cancel, Nat.mul_comm]
    all_goals have EI : ((val cs : Int) * (m : Int) + (val xa : Int) / (val cs : Int) ^ m) / ((m : Int) + 1) = ((val ns : Nat) : Int) := by rw [e5, e4, e3, e2, e1]; simp
    all_goals rw [EI] at hc
    · go_ret
      refine ⟨b6, _, cs, rfl, (((((hr.below hbe1).below hbe2).below hbe3).below hbe4).below hbe5).below hbe6, hkc, isRoot_of ?_ HVR.out⟩
      refine newton_stop HV0.out (Nat.succ_pos m) ?_
      rw [← E5]
      exact (cmpI_nonneg _ _).1 hc
    · have hlt : val ns < val cs := Nat.lt_of_not_le fun h => by
        have := (cmpI_nonneg (val ns) (val cs)).2 h
        omega
      refine ⟨⟨⟨_, _, _, rfl⟩, b6, ns, h5.below hbe6, k5, ?_, ?_, ?_⟩, ?_⟩
      · have := newton_ge (A := val xa) (x := val cs) (n := m + 1) (r := 1) HV0.out (Nat.succ_pos m) (by rw [Nat.one_pow]; exact hpos)
        rw [← E5] at this
        exact this
      · exact Nat.le_trans (Nat.pow_le_pow_left (Nat.le_of_lt hlt) _) HVN.out
      · intro r hr9
        have := newton_ge (A := val xa) (x := val cs) (n := m + 1) (r := r) HV0.out (Nat.succ_pos m) hr9
        rw [← E5] at this
        exact this
      · rw [readVal_eq (h5.below hbe6), readVal_eq hr]
        exact hlt

theorem root_any (K L m : Nat) (hT : TimesUpTo K) (hD : DivUpTo L K) (hL : L ≤ 1000) (hK0 : 0 < K) (hK : K ≤ 1000) (hm : m < 100) : ∀ (b : Nat) (va : Value) (xa : List Nat) (w : World), bitsOf xa ≤ b → Reads .u32 w va xa → Canon xa → xa.length ≤ L → 2 ^ (m + 1) * val xa < B32 ^ K →
    Calls Tryz.prog 88 #[va, .int .i64 ((m : Int) + 1)] w fun e w' => Below w.heap.size w w' ∧ ∃ v cs, e = .returned v ∧ Reads .u32 w' v cs ∧ Canon cs ∧ IsRoot (val xa) (m + 1) (val cs) := by
  intro b
  induction b with
  | zero =>
    intro va xa w hb ha hka _ _
    have hx : xa = [] := by
      apply Classical.byContradiction
      intro hx
      have := (bitsOf_bounds hka hx).1
      omega
    subst hx
    refine (root_nil va _ w ha).mono ?_
    rintro e w' ⟨hbe, rfl⟩
    exact ⟨hbe, _, [], rfl, Reads.nil _ _, canon_nil, by simp [IsRoot, val]⟩
  | succ b ih =>
    intro va xa w hb ha hka hla hfit
    by_cases hx : xa = []
    · subst hx
      refine (root_nil va _ w ha).mono ?_
      rintro e w' ⟨hbe, rfl⟩
      exact ⟨hbe, _, [], rfl, Reads.nil _ _, canon_nil, by simp [IsRoot, val]⟩
    · obtain ⟨h1, h2, h3⟩ := bitsOf_bounds hka hx
      have hlx : xa.length ≠ 0 := fun h => hx (List.eq_nil_of_length_eq_zero h)
      by_cases hone : bitsOf xa ≤ m + 1
      · have e1 : ((m : Int) + 1) = ((m + 1 : Nat) : Int) := by omega
        rw [e1]
        refine (root_one va xa (m + 1) w ha hka.1 hlx (by omega) h1 hone (by omega)).mono ?_
        rintro e w' ⟨hbe, v, rfl, hr⟩
        refine ⟨hbe, v, [1], rfl, hr, ⟨by intro x hx; simp at hx; subst hx; decide, rfl⟩, ?_⟩
        have hv : val [1] = 1 := rfl
        rw [hv]
        refine ⟨?_, Nat.lt_of_lt_of_le h3 (Nat.pow_le_pow_right (by decide) hone)⟩
        rw [Nat.one_pow]
        exact Nat.le_trans (Nat.pow_pos (by decide)) h2
      · obtain ⟨q, hq⟩ : ∃ q, (bitsOf xa - 1) / (m + 1) = q := ⟨_, rfl⟩
        have hq1 : 1 ≤ q := by rw [← hq, Nat.le_div_iff_mul_le (Nat.succ_pos m)]; omega
        obtain ⟨half, hh⟩ : ∃ half, (q + 1) / 2 = half := ⟨_, rfl⟩
        obtain ⟨s, hs⟩ : ∃ s, (m + 1) * half = s := ⟨_, rfl⟩
        have hsq : s ≤ bitsOf xa - 1 := by
          have h4 : (m + 1) * half ≤ (m + 1) * q := Nat.mul_le_mul_left _ (by omega)
          have h5 : (m + 1) * q ≤ bitsOf xa - 1 := by rw [← hq]; exact Nat.mul_div_le _ _
          omega
        have hs0 : 1 ≤ s := by
          rw [← hs]
          exact Nat.mul_pos (Nat.succ_pos m) (by omega)
        have hdiv : val xa / 2 ^ s ≠ 0 := by
          have h4 : 2 ^ s ≤ val xa := Nat.le_trans (Nat.pow_le_pow_right (by decide) hsq) h2
          have := Nat.div_pos h4 (Nat.pow_pos (by decide))
          omega
        refine root_step K L m q half s hT hD hL hK0 hK hm va xa w ha hka hlx hla hq hq1 hh hs hdiv h1 hfit ?_
        intro v ys W hW hr hk hv
        have hle : val ys ≤ val xa := by rw [hv]; exact Nat.div_le_self _ _
        rw [← hv]
        refine ih v ys W ?_ hr hk (Nat.le_trans (canon_le_length hka hk hle) hla) (Nat.lt_of_le_of_lt (Nat.mul_le_mul_left _ hle) hfit)
        by_cases hy : ys = []
        · subst hy; simp [bitsOf]
        · obtain ⟨g1, g2, -⟩ := bitsOf_bounds hk hy
          rw [hv] at g2
          have g3 : val xa / 2 ^ s < 2 ^ (bitsOf xa - s) := by
            rw [Nat.div_lt_iff_lt_mul (Nat.pow_pos (by decide)), ← Nat.pow_add, show bitsOf xa - s + s = bitsOf xa by omega]
            exact h3
          have g4 := (Nat.pow_lt_pow_iff_right (a := 2) (by decide)).1 (Nat.lt_of_le_of_lt g2 g3)
          omega

end Go.Proofs.YtlghjfpkfdnfoaaGreatDoor

/- num.floorRoot -/
namespace Go.Proofs.YtlghjfpkfdnfoaaGreatDoor
open Go Go.RowKit Go.Shelf

/-- what stays on the way: the integer, the result's variable -/
structure FrS (w w1 : World) (na : Bool) (aa : Option Addr) (xa : List Nat) (ca : Nat) (X : World) : Prop where
  a : RowAt X w.heap.size 24 [.bool na, .slice aa xa.length ca]
  res : RowAt X (w.heap.size + 1) 24 [.bool false, .slice none 0 0]
  below : Below w.heap.size w X
  ra : Reads .u32 X (.slice aa xa.length ca) xa
  keep : ∀ v xs, Reads .u32 w1 v xs → Reads .u32 X v xs
@[reducible] def FrC (w w1 : World) (na : Bool) (aa : Option Addr) (xa : List Nat) (ca : Nat) (X : World) : Prop :=
  X.cell? ⟨w.heap.size, 0, none⟩ = some (.bool na) ∧ X.cell? ⟨w.heap.size, 1, none⟩ = some (.slice aa xa.length ca) ∧ FrS w w1 na aa xa ca X
section
variable {w w1 X : World} {na : Bool} {aa : Option Addr} {xa : List Nat} {ca : Nat}
theorem fr_of (h : FrS w w1 na aa xa ca X) : FrC w w1 na aa xa ca X := ⟨h.a.cell 0, h.a.cell 1, h⟩
theorem fr_drew (h : FrS w w1 na aa xa ca X) : FrC w w1 na aa xa ca X.drew := fr_of ⟨h.a, h.res, h.below.drew, h.ra, h.keep⟩
theorem fr_step {X' : World} (h : FrS w w1 na aa xa ca X) (hb : Below X.heap.size X X') : FrC w w1 na aa xa ca X' :=
  fr_of ⟨h.a.below hb, h.res.below hb, h.below.trans (hb.mono h.below.size), h.ra.below hb, fun v xs hv => (h.keep v xs hv).below hb⟩
end

set_option maxHeartbeats 1000000 in
set_option maxRecDepth 100000 in
theorem floorRoot_exact (K L m : Nat) (hT : TimesUpTo K) (hD : DivUpTo L K) (hL : L ≤ 1000) (hK0 : 0 < K) (hK : K ≤ 1000) (hm : m < 100) (va : Value) (xa : List Nat) (r : Nat) (w : World) (ha : Reads .u32 w va xa) (hka : Canon xa) (hla : xa.length ≤ L) (hfit : 2 ^ (m + 1) * val xa < B32 ^ K) (hr : r ^ (m + 1) = val xa) :
    Calls Tryz.prog 56 #[.agg #[.bool true, va], .int .i64 ((m : Int) + 1)] w fun e w' => Below w.heap.size w w' ∧ ∃ v, e = .returned v ∧ IsInt w' v (-(r : Int)) := by
  obtain ⟨aa, ca, rfl, hca, hma⟩ := ha.form
  have b0 := ((Below.refl w.heap.size w).alloc (Nat.le_refl _) (.cells #[.bool true, .slice aa xa.length ca] 24)).alloc (by simp) (.cells #[.bool false, .slice none 0 0] 24)
  have r1 := (RowAt.new w 24 [.bool true, .slice aa xa.length ca]).alloc (.cells #[.bool false, .slice none 0 0] 24)
  have r2 := RowAt.new (w.alloc (.cells #[.bool true, .slice aa xa.length ca] 24)) 24 [.bool false, .slice none 0 0]
  simp only [World.size_alloc] at r2
  have hS0 : FrS w w true aa xa ca ((w.alloc (.cells #[.bool true, .slice aa xa.length ca] 24)).alloc (.cells #[.bool false, .slice none 0 0] 24)) := ⟨r1, r2, b0, ha.below b0, fun v xs h => h.below b0⟩
  generalize hW0 : (w.alloc (.cells #[.bool true, .slice aa xa.length ca] 24)).alloc (.cells #[.bool false, .slice none 0 0] 24) = W0 at hS0
  have hroot := root_any K L m hT hD hL hK0 hK hm (bitsOf xa) (.slice aa xa.length ca) xa W0 (Nat.le_refl _) hS0.ra hka hla hfit
  have hpw : ∀ (v : Value) (rs : List Nat) (W : World), Reads .u32 W v rs → Canon rs → val rs = r → Calls Tryz.prog 52 #[v, .int .i64 ((m : Int) + 1)] W fun e w' => Below W.heap.size W w' ∧ ∃ v' cs, e = .returned v' ∧ Reads .u32 w' v' cs ∧ Canon cs ∧ val cs = val xa := fun v rs W h hk hv => by
    rw [show ((m : Int) + 1) = ((m + 1 : Nat) : Int) by omega, ← hr, ← hv]
    refine power_any K hT hK0 v rs (m + 1) W h hk (by omega) ?_
    rw [hv, hr]
    exact Nat.lt_of_le_of_lt (Nat.le_mul_of_pos_left _ (Nat.pow_pos (by decide))) hfit
  have hcp : ∀ (v : Value) (ps : List Nat) (W : World), Reads .u32 W v ps → Canon ps → val ps = val xa → Reads .u32 W (.slice aa xa.length ca) xa → Calls Tryz.prog 31 #[v, .slice aa xa.length ca] W fun e w' => Below W.heap.size W w' ∧ e = .returned (.int .i64 0) := fun v ps W h hk hv hx => by
    have := compare_any v (.slice aa xa.length ca) ps xa W h hx hk hka (Nat.le_trans (Nat.le_of_eq (by rw [canon_inj hk hka hv])) (show xa.length ≤ 1000000 by omega))
    rwa [hv, cmpI_self] at this
  have hrr : ∀ s, IsRoot (val xa) (m + 1) s → s = r := fun s h => by
    have h1 := isRoot_le h (s := r) (by rw [hr]; exact Nat.le_refl _)
    refine Nat.le_antisymm (Nat.le_of_not_lt fun hc => ?_) h1
    have h2 : (r + 1) ^ (m + 1) ≤ s ^ (m + 1) := Nat.pow_le_pow_left hc _
    have h3 := h.1
    have h4 : r ^ (m + 1) < (r + 1) ^ (m + 1) := Nat.pow_lt_pow_left (by omega) (by omega)
    omega
  have HW := Lib.hid hW0
  clear hr hfit hW0 r1 r2 b0
  go_enter Tryz.func56, Tryz.ntmps56
  go_wp2_with (go_at_call 88; (try rw [HW.out]); refine hroot.mono ?_; rintro e w3 ⟨hbe3, v3, rs, rfl, h3, k3, e3⟩; obtain ⟨a3, c3, rfl, hc3, hm3⟩ := h3.form)
  have hS3 : FrS w w3 true aa xa ca w3 := ⟨hS0.a.below hbe3, hS0.res.below hbe3, hS0.below.trans (hbe3.mono hS0.below.size), hS0.ra.below hbe3, fun _ _ h => h⟩
  have hD3 := Lib.hid (fr_drew hS3)
  obtain ⟨d1, d2, -⟩ := fr_of hS3
  have er := hrr _ e3
  clear hS0 hS3 hroot hrr HW e3 hbe3
  go_region_held3 (fun X => X.cell? ⟨w.heap.size, 0, none⟩ = some (.bool true) ∧ X.cell? ⟨w.heap.size, 1, none⟩ = some (.slice aa xa.length ca) ∧ FrS w w3 true aa xa ca X)
    (first | exact hD3.out | (go_split_ands; exact fr_step (by assumption) hbe4) | (go_split_ands; exact fr_step (by assumption) hbe5))
    (first
      | (go_at_call 52; go_split_ands; refine (hpw _ rs _ (FrS.keep (by assumption) _ _ h3) k3 er).mono ?_; rintro e w4 ⟨hbe4, v4, ps, rfl, h4, k4, e4⟩; obtain ⟨a4, c4, rfl, hc4, hm4⟩ := h4.form)
      | (go_at_call 31; go_split_ands; refine (hcp _ ps _ h4 k4 e4 (FrS.ra (by assumption))).mono ?_; rintro e w5 ⟨hbe5, rfl⟩))
  rename_i hT5
  obtain ⟨o1, o2, hS5⟩ := hT5
  have h5 := hS5.keep _ _ h3
  go_wp2_with (go_at_call 51; refine (signed_any _ _ _ _ _).mono ?_; rintro e w6 ⟨hbe6, rfl⟩; have hres := hS5.res.below hbe6; have q1 := hres.cell 0; have q2 := hres.cell 1; have q3 := hres.frozen 0; have q4 := hres.frozen 1; have h6 := h5.below hbe6; simp only [List.getElem?_cons_zero, List.getElem?_cons_succ] at q1 q2)
  obtain ⟨s1, s2⟩ := two_reads (b := w.heap.size + 1) q1 q2 (.bool (decide (0 < rs.length))) (.slice a3 rs.length c3)
  have hk := two_kept (b := w.heap.size + 1) h6 q1 q2 (.bool (decide (0 < rs.length))) (.slice a3 rs.length c3)
  have b6 := hS5.below.trans (hbe6.mono hS5.below.size)
  have b7 : Below w.heap.size w ((w6.setCell ⟨w.heap.size + 1, 0, none⟩ (.bool (decide (0 < rs.length)))).setCell ⟨w.heap.size + 1, 1, none⟩ (.slice a3 rs.length c3)) := (b6.setCell (by simp) _).setCell (by simp) _
  have hI : IsInt ((w6.setCell ⟨w.heap.size + 1, 0, none⟩ (.bool (decide (0 < rs.length)))).setCell ⟨w.heap.size + 1, 1, none⟩ (.slice a3 rs.length c3)) (.agg #[.bool (decide (0 < rs.length)), .slice a3 rs.length c3]) (-(r : Int)) := by
    have := isInt_mk true hk k3 (i := -(r : Int)) (by rw [er]; rfl)
    rwa [Bool.true_and] at this
  refine bodyPost_ret (v := .agg #[.bool (decide (0 < rs.length)), .slice a3 rs.length c3]) (by simp [results, Tryz.results56, go_sem, loadCellsFrom, s1, s2]) rfl ⟨b7, _, rfl, hI⟩

set_option maxHeartbeats 4000000 in
set_option maxRecDepth 100000 in
theorem root1_exact (B : Nat) (na : Bool) (aa : Option Addr) (ca : Nat) (xa : List Nat) (m : Nat) (r0 : Bool) (r1 : Option Addr) (r2 r3 : Nat) (w : World) (hra : RowAt w B 24 [.bool na, .slice aa xa.length ca]) (hrn : RowAt w (B + 1) 3 [.int .i64 ((m : Int) + 1)]) (hrr : RowAt w (B + 2) 24 [.bool r0, .slice r1 r2 r3])
    (ha : Reads .u32 w (.slice aa xa.length ca) xa) (hla : Limbs xa) (fa : formedB na xa = true) (hm : m < 100) (hpar : na = false ∨ ((m : Int) + 1).tmod 2 = 1) (i : Int)
    (hop : ∀ W, Below w.heap.size w W → Calls Tryz.prog 56 #[.agg #[.bool na, .slice aa xa.length ca], .int .i64 ((m : Int) + 1)] W fun e W' => Below W.heap.size W W' ∧ ∃ v, e = .returned v ∧ IsInt W' v i) :
    Calls Tryz.prog 55 #[.pointer (some ⟨B, 0, none⟩), .pointer (some ⟨B + 1, 0, none⟩), .pointer (some ⟨B + 2, 0, none⟩)] w fun e w' => e = .returned (.tuple #[]) ∧ Chg (fun k => k = B + 2) w w' ∧ ∃ m a l c, RowAt w' (B + 2) 24 [.bool m, .slice a l c] ∧ IsInt w' (.agg #[.bool m, .slice a l c]) i := by
  have a0 := hra.cell 0
  have a1 := hra.cell 1
  have n0 := hrn.cell 0
  simp only [List.getElem?_cons_zero, List.getElem?_cons_succ] at a0 a1 n0
  have r0' := RowAt.new w 24 [.bool na, .slice aa xa.length ca]
  have bw := (Below.refl w.heap.size w).alloc (Nat.le_refl _) (.cells #[.bool na, .slice aa xa.length ca] 24)
  have hpar' : na = true → ((m : Int) + 1).tmod 2 = 1 := fun h => hpar.resolve_left (by simp [h])
  clear hpar
  cases na
  all_goals try replace hpar' := hpar' rfl
  all_goals
    go_enter Tryz.func55, Tryz.ntmps55
    go_wp2_with (first
      | (go_at_call 24; refine (demand1_ok _ _ aa ca xa _ r0' (ha.below bw) hla fa).mono ?_; rintro e w1 ⟨hbe1, rfl⟩; have bw1 := bw.trans (hbe1.mono (by simp)); have p0 := (hra.below bw1).cell 0; have p2 := (hra.below bw1).cell 1; have p1 := (hrn.below bw1).cell 0; simp only [List.getElem?_cons_zero, List.getElem?_cons_succ] at p0 p1 p2)
      | (go_at_call 45; refine (demand_ok _ _ _ (by first | rfl | (simp; omega))).mono ?_; rintro e w2 ⟨rfl, rfl⟩)
      | (go_at_call 56; refine (hop _ bw1).mono ?_; rintro e w3 ⟨hbe3, v, rfl, n9, v9, x9, rfl, g1, k1, l1, m1⟩; have bw3 := bw1.trans (hbe3.mono bw1.size); obtain ⟨y1, c1, rfl, -, -⟩ := g1.form; have sr := hrr.below bw3; have o1 := sr.cell 0; have o2 := sr.cell 1; have o5 := sr.frozen 0; have o6 := sr.frozen 1; simp only [List.getElem?_cons_zero, List.getElem?_cons_succ] at o1 o2))
    have hk := two_kept (b := B + 2) g1 o1 o2 (.bool n9) (.slice y1 x9.length c1)
    go_end0
    exact ⟨rfl, (((Chg.refl (fun k => k = B + 2) w).thenBelow bw3).setCell (p := ⟨B + 2, 0, none⟩) (.inl rfl) _).setCell (p := ⟨B + 2, 1, none⟩) (.inl rfl) _, n9, y1, x9.length, c1, (sr.set 0 (.bool n9)).set 1 (.slice y1 x9.length c1), n9, _, x9, rfl, hk, k1, l1, m1⟩

set_option maxHeartbeats 1000000 in
set_option maxRecDepth 100000 in
theorem root1_none (B : Nat) (aa : Option Addr) (ca : Nat) (xa : List Nat) (n : Int) (w : World) (hra : RowAt w B 24 [.bool true, .slice aa xa.length ca]) (hrn : RowAt w (B + 1) 3 [.int .i64 n])
    (ha : Reads .u32 w (.slice aa xa.length ca) xa) (hla : Limbs xa) (fa : formedB true xa = true) (h1 : 1 ≤ n) (h100 : n ≤ 100) (hpar : n.tmod 2 = 0) :
    Calls Tryz.prog 55 #[.pointer (some ⟨B, 0, none⟩), .pointer (some ⟨B + 1, 0, none⟩), .pointer (some ⟨B + 2, 0, none⟩)] w fun e w' => Below w.heap.size w w' ∧ e = .panicked [{ v := .iface 27 (.int .i64 5), recovered := false }] := by
  have a0 := hra.cell 0
  have a1 := hra.cell 1
  have n0 := hrn.cell 0
  simp only [List.getElem?_cons_zero, List.getElem?_cons_succ] at a0 a1 n0
  have r0' := RowAt.new w 24 [.bool true, .slice aa xa.length ca]
  have bw := (Below.refl w.heap.size w).alloc (Nat.le_refl _) (.cells #[.bool true, .slice aa xa.length ca] 24)
  go_enter Tryz.func55, Tryz.ntmps55
  go_wp2_with (first
    | (go_at_call 24; refine (demand1_ok _ _ aa ca xa _ r0' (ha.below bw) hla fa).mono ?_; rintro e w1 ⟨hbe1, rfl⟩; have bw1 := bw.trans (hbe1.mono (by simp)); have p0 := (hra.below bw1).cell 0; have p2 := (hra.below bw1).cell 1; have p1 := (hrn.below bw1).cell 0; simp only [List.getElem?_cons_zero, List.getElem?_cons_succ] at p0 p1 p2)
    | (go_at_call 45; refine (demand_ok _ _ _ (by first | rfl | (simp; omega))).mono ?_; rintro e w2 ⟨rfl, rfl⟩)
    | (go_at_call 45; refine (demand_no _ _ _ (by first | rfl | simp)).mono ?_; rintro e w2 ⟨rfl, rfl⟩))
  all_goals exact ⟨rfl, bw1, rfl⟩
end Go.Proofs.YtlghjfpkfdnfoaaGreatDoor

/- num: Pow, Root, Text where they answer a number or a text; Root where there is no root -/
namespace Go.Proofs.YtlghjfpkfdnfoaaGreatDoor
open Go Go.RowKit Go.Shelf

theorem formedB_bounds {n : Bool} {xs : List Nat} (hl : Limbs xs) (f : formedB n xs = true) : Canon xs ∧ xs.length ≤ 300 := by
  simp only [formedB, Bool.and_eq_true, decide_eq_true_eq] at f
  exact ⟨⟨hl, f.1.2⟩, f.1.1⟩

theorem Text_ok (va : Value) (na : Bool) (xa : List Nat) (b : Nat) (w : World) (ha : IntAt w va na xa) (fa : formedB na xa = true) (h2 : 2 ≤ b) (h36 : b ≤ 36) (hT : DigitsAt w) :
    Calls Tryz.prog 6 #[va, .int .i64 (b : Int)] w fun e w' => Below w.heap.size w w' ∧ ∃ s : ByteArray, e = .returned (.tuple #[.string s, .int .i64 0]) ∧ s.data.toList.map (·.toNat) = textOf na b (val xa) := by
  refine (Text_of va na xa (b : Int) w ha (fun k _ v => k = 0 ∧ ∃ s : ByteArray, v = .string s ∧ s.data.toList.map (·.toNat) = textOf na b (val xa)) (fun _ _ _ _ h _ => h) ?_).mono ?_
  · intro B aa ca W4 hb4 hra hrn hrr hrd he
    obtain ⟨va', he', _, hl⟩ := ha
    refine (text1_ok B na aa ca xa b _ W4 hra hrn hrr hrd hl fa h2 h36 (hT.below hb4)).mono ?_
    rintro e W ⟨rfl, hch, s, hs, ht⟩
    exact ⟨0, .inl ⟨rfl, rfl⟩, hch, s, hs, rfl, s, rfl, ht⟩
  · rintro e W ⟨hbe, r0, k, rfl, rfl, s, rfl, hs⟩
    exact ⟨hbe, s, rfl, hs⟩

set_option exponentiation.threshold 400 in
theorem Pow_ok (va : Value) (xa : List Nat) (n K : Nat) (hT : TimesUpTo K) (hK : 0 < K) (w : World) (ha : IntAt w va false xa) (fa : formedB false xa = true) (hn : n ≤ 9600) (hnear : ((bitsOf xa : Int) - 1) * n < 9600) (hbb : bitsOf xa ≤ 9600) (hfitK : val xa ^ n < B32 ^ K) (hfit : val xa ^ n < B32 ^ 300) :
    Calls Tryz.prog 18 #[va, .int .i64 (n : Int)] w fun e w' => Below w.heap.size w w' ∧ ∃ v, e = .returned (.tuple #[v, .int .i64 0]) ∧ IsInt w' v (sgn false (val xa) ^ n) := by
  refine (Pow_of va false xa (n : Int) w ha (fun k W v => k = 0 ∧ IsInt W v (sgn false (val xa) ^ n)) (fun _ _ _ _ h hk => ⟨h.1, h.2.keep hk⟩) ?_).mono ?_
  · intro B aa ca W4 hb4 hra hrn hrr hrd he
    obtain ⟨va', he', _, hl⟩ := ha
    obtain ⟨hkx, hxl⟩ := formedB_bounds hl fa
    refine (pow1_ok B aa ca xa n _ _ _ _ K hT hK W4 hra hrn hrr hrd hkx fa hn hxl hnear hbb hfitK hfit).mono ?_
    rintro e W ⟨rfl, hch, m, a, l, c, hr, hi⟩
    exact ⟨0, .inl ⟨rfl, rfl⟩, hch, m, a, l, c, hr, rfl, hi⟩
  · rintro e W ⟨hbe, r0, k, rfl, rfl, hi⟩
    exact ⟨hbe, _, rfl, hi⟩

theorem Root_ok (va : Value) (na : Bool) (xa : List Nat) (m : Nat) (w : World) (ha : IntAt w va na xa) (fa : formedB na xa = true) (hm : m < 100) (hpar : na = false ∨ ((m : Int) + 1).tmod 2 = 1) (i : Int)
    (hop : ∀ W, Below w.heap.size w W → Calls Tryz.prog 56 #[va, .int .i64 ((m : Int) + 1)] W fun e W' => Below W.heap.size W W' ∧ ∃ v, e = .returned v ∧ IsInt W' v i) :
    Calls Tryz.prog 20 #[va, .int .i64 ((m : Int) + 1)] w fun e w' => Below w.heap.size w w' ∧ ∃ v, e = .returned (.tuple #[v, .int .i64 0]) ∧ IsInt w' v i := by
  refine (Root_of va na xa ((m : Int) + 1) w ha (fun k W v => k = 0 ∧ IsInt W v i) (fun _ _ _ _ h hk => ⟨h.1, h.2.keep hk⟩) ?_).mono ?_
  · intro B aa ca W4 hb4 hra hrn hrr hrd he
    obtain ⟨va', he', _, hl⟩ := ha
    refine (root1_exact B na aa ca xa m _ _ _ _ W4 hra hrn hrr hrd hl fa hm hpar i (fun W hW => ?_)).mono ?_
    · rw [← he]
      exact hop W (hb4.trans (hW.mono hb4.size))
    · rintro e W ⟨rfl, hch, m, a, l, c, hr, hi⟩
      exact ⟨0, .inl ⟨rfl, rfl⟩, hch, m, a, l, c, hr, rfl, hi⟩
  · rintro e W ⟨hbe, r0, k, rfl, rfl, hi⟩
    exact ⟨hbe, _, rfl, hi⟩

theorem Root_none (va : Value) (xa : List Nat) (n : Int) (w : World) (ha : IntAt w va true xa) (fa : formedB true xa = true) (h1 : 1 ≤ n) (h100 : n ≤ 100) (hpar : n.tmod 2 = 0) :
    Calls Tryz.prog 20 #[va, .int .i64 n] w fun e w' => Below w.heap.size w w' ∧ e = .returned (.tuple #[zeroInt, .int .i64 5]) := by
  refine (Root_of va true xa n w ha (fun k W v => k = 5 ∧ v = zeroInt) (fun _ _ _ _ h _ => h) ?_).mono ?_
  · intro B aa ca W4 hb4 hra hrn hrr hrd he
    obtain ⟨va', he', _, hl⟩ := ha
    refine (root1_none B aa ca xa n W4 hra hrn hrd hl fa h1 h100 hpar).mono ?_
    rintro e W ⟨hbe, rfl⟩
    exact ⟨5, .inr rfl, (Chg.refl _ W4).thenBelow hbe, false, none, 0, 0, hrr.below hbe, rfl, rfl⟩
  · rintro e W ⟨hbe, r0, k, rfl, rfl, rfl⟩
    exact ⟨hbe, rfl⟩

end Go.Proofs.YtlghjfpkfdnfoaaGreatDoor

/- num.Parse where it answers a number -/
namespace Go.Proofs.YtlghjfpkfdnfoaaGreatDoor
open Go Go.RowKit Go.Shelf

set_option exponentiation.threshold 400 in
set_option maxHeartbeats 1000000 in
set_option maxRecDepth 100000 in
theorem Parse_ok (s : ByteArray) (b : Nat) (w : World) (h2 : 2 ≤ b) (h36 : b ≤ 36) (neg : Bool) (l : List UInt8) (hs : s.data.toList = (if neg then [45] else []) ++ l) (hl0 : l ≠ []) (hlen : l.length ≤ 100000) (hdig : ∀ c ∈ l, digitVal c.toNat < b) (hfit : numBE b l < B32 ^ 300) :
    Calls Tryz.prog 7 #[.string s, .int .i64 (b : Int)] w fun e w' => Below w.heap.size w w' ∧ ∃ v, e = .returned (.tuple #[v, .int .i64 0]) ∧ IsInt w' v (sgn neg (numBE b l)) := by
  refine (Parse_of s (b : Int) w (fun k W v => k = 0 ∧ IsInt W v (sgn neg (numBE b l))) (fun _ _ _ _ h hk => ⟨h.1, h.2.keep hk⟩) ?_).mono ?_
  · intro B W4 hb4 hrs hrn hrr
    have hpa := fun W => parse_ok s b W h2 h36 neg l hs hl0 hlen hdig hfit
    have HP := Lib.hid hpa
    have s0 := hrs.cell 0
    have n0 := hrn.cell 0
    simp only [List.getElem?_cons_zero] at s0 n0
    clear hpa hs hfit
    go_enter Tryz.func27, Tryz.ntmps27
    go_wp2_with (first
      | (go_at_call 25; refine (demandBase_ok _ _ h2 h36).mono ?_; rintro e w2 ⟨rfl, rfl⟩)
      | (go_at_call 28; refine (HP.out _).mono ?_; rintro e w3 ⟨hbe3, v, rfl, n9, v9, x9, rfl, g1, k1, l1, m1⟩; obtain ⟨y1, c1, rfl, -, -⟩ := g1.form; have sr := hrr.below hbe3; have o1 := sr.cell 0; have o2 := sr.cell 1; have o5 := sr.frozen 0; have o6 := sr.frozen 1; simp only [List.getElem?_cons_zero, List.getElem?_cons_succ] at o1 o2))
    have hk := two_kept (b := B + 2) g1 o1 o2 (.bool n9) (.slice y1 x9.length c1)
    go_end0
    refine ⟨0, .inl ⟨rfl, rfl⟩, (((Chg.refl (fun k => k = B + 2) W4).thenBelow hbe3).setCell (p := ⟨B + 2, 0, none⟩) (.inl rfl) _).setCell (p := ⟨B + 2, 1, none⟩) (.inl rfl) _, n9, y1, x9.length, c1, (sr.set 0 (.bool n9)).set 1 (.slice y1 x9.length c1), rfl, n9, _, x9, rfl, hk, k1, l1, m1⟩
  · rintro e W ⟨hbe, r0, k, rfl, rfl, hi⟩
    exact ⟨hbe, _, rfl, hi⟩

end Go.Proofs.YtlghjfpkfdnfoaaGreatDoor

/- Long division, limb by limb: what is guessed, taken and given back; without the program. -/
namespace Go.Proofs.YtlghjfpkfdnfoaaGreatDoor

/-! ### a limb times a list is taken from a row -/
/-- one round: the row, the carry of the product, the borrow -/
def ttStep (o g : Nat) (st : List Nat × Nat × Nat) (p : Nat × Nat) : List Nat × Nat × Nat :=
  (st.1.set (o + p.1) ((st.1[o + p.1]?.getD 0 + B32 - ((st.2.1 + g * p.2) % B32 + st.2.2)) % B32), (st.2.1 + g * p.2) / B32, 1 - (st.1[o + p.1]?.getD 0 + B32 - ((st.2.1 + g * p.2) % B32 + st.2.2)) / B32)
def ttFold (o g : Nat) (xs : List Nat) (ps : List (Nat × Nat)) : List Nat × Nat × Nat := ps.foldl (ttStep o g) (xs, 0, 0)
theorem ttFold_snoc (o g : Nat) (xs : List Nat) (ps : List (Nat × Nat)) (p : Nat × Nat) : ttFold o g xs (ps ++ [p]) = ttStep o g (ttFold o g xs ps) p := by simp [ttFold]
theorem ttFold_length (o g : Nat) (xs : List Nat) (ps : List (Nat × Nat)) : (ttFold o g xs ps).1.length = xs.length := by
  induction ps using snoc_ind with
  | h0 => rfl
  | h1 ps p ih => rw [ttFold_snoc]; simp [ttStep, ih]
theorem ttFold_limbs {o g : Nat} {xs : List Nat} (hg : g < B32) (hx : Limbs xs) (ps : List (Nat × Nat)) (hp : ∀ p ∈ ps, p.2 < B32) : Limbs (ttFold o g xs ps).1 ∧ (ttFold o g xs ps).2.1 < B32 ∧ (ttFold o g xs ps).2.2 ≤ 1 := by
  induction ps using snoc_ind with
  | h0 => exact ⟨hx, B32_pos, Nat.zero_le _⟩
  | h1 ps p ih =>
    obtain ⟨h1, h2, h3⟩ := ih (fun q hq => hp q (List.mem_append_left _ hq))
    have h4 := hp p (by simp)
    rw [ttFold_snoc]
    refine ⟨limbs_set h1 _ (Nat.mod_lt _ B32_pos), Nat.div_lt_of_lt_mul ?_, Nat.sub_le _ _⟩
    exact mul_limb_lt h2 hg h4
theorem ttFold_val {o g : Nat} {xs ys : List Nat} (hg : g < B32) (hx : Limbs xs) (hy : Limbs ys) (k : Nat) (hk : o + k ≤ xs.length) :
    val (ttFold o g xs (limbPairs ys k)).1 + B32 ^ o * (g * val (ys.take k)) = val xs + B32 ^ (o + k) * ((ttFold o g xs (limbPairs ys k)).2.1 + (ttFold o g xs (limbPairs ys k)).2.2) := by
  induction k with
  | zero => simp [limbPairs, ttFold, val]
  | succ k ih =>
    have ih := ih (by omega)
    have hl := ttFold_length o g xs (limbPairs ys k)
    obtain ⟨b1, b2, b3⟩ := ttFold_limbs (o := o) hg hx (limbPairs ys k) (fun p hp' => by
      obtain ⟨i, _, rfl⟩ := List.mem_map.1 hp'
      exact limb_getD hy i)
    have b4 := limb_getD b1 (o + k)
    rw [limbPairs_succ, ttFold_snoc, val_take_succ]
    simp only [ttStep]
    generalize (ttFold o g xs (limbPairs ys k)).2.2 = b at *
    generalize (ttFold o g xs (limbPairs ys k)).2.1 = c at *
    generalize (ttFold o g xs (limbPairs ys k)).1 = q at *
    generalize ys[k]?.getD 0 = y at *
    have hd := Nat.div_add_mod (c + g * y) B32
    have hm := Nat.mod_lt (c + g * y) B32_pos
    generalize (c + g * y) / B32 = c' at *
    generalize (c + g * y) % B32 = cl at *
    have hs := fun z => val_set q (o + k) z (by omega)
    generalize q[o + k]?.getD 0 = x at *
    have h3 : (x + B32 - (cl + b)) % B32 + cl + b = x + B32 * (1 - (x + B32 - (cl + b)) / B32) := by unfold B32 at *; omega
    have hs := hs ((x + B32 - (cl + b)) % B32)
    generalize (x + B32 - (cl + b)) % B32 = m at *
    generalize 1 - (x + B32 - (cl + b)) / B32 = b' at *
    generalize val (q.set (o + k) m) = Z at *
    have h4 := congrArg (B32 ^ (o + k) * ·) h3
    have h5 := congrArg (B32 ^ (o + k) * ·) hd
    simp only [Nat.mul_add] at h4 h5
    rw [← Nat.add_assoc, Nat.pow_succ, Nat.mul_assoc (B32 ^ (o + k)), Nat.mul_add g, Nat.mul_add (B32 ^ o), Nat.mul_add B32, Nat.mul_add (B32 ^ (o + k))]
    have e : B32 ^ o * (g * (B32 ^ k * y)) = B32 ^ (o + k) * (g * y) := by rw [Nat.pow_add, Nat.mul_left_comm g, Nat.mul_assoc]
    rw [Nat.mul_add (B32 ^ (o + k))] at ih
    rw [e]
    omega
theorem ttFold_above (o g : Nat) (xs ys : List Nat) (k m : Nat) (hm : o + k ≤ m) : (ttFold o g xs (limbPairs ys k)).1[m]? = xs[m]? := by
  induction k with
  | zero => rfl
  | succ k ih =>
    rw [limbPairs_succ, ttFold_snoc]
    simp only [ttStep]
    rw [List.getElem?_set_ne (by omega)]
    exact ih (by omega)

/-! ### a list is added to a row -/
def adStep (o : Nat) (st : List Nat × Nat) (p : Nat × Nat) : List Nat × Nat := (st.1.set (o + p.1) ((st.2 + (st.1[o + p.1]?.getD 0 + p.2)) % B32), (st.2 + (st.1[o + p.1]?.getD 0 + p.2)) / B32)
def adFold (o : Nat) (xs : List Nat) (ps : List (Nat × Nat)) : List Nat × Nat := ps.foldl (adStep o) (xs, 0)
theorem adFold_snoc (o : Nat) (xs : List Nat) (ps : List (Nat × Nat)) (p : Nat × Nat) : adFold o xs (ps ++ [p]) = adStep o (adFold o xs ps) p := by simp [adFold]
theorem adFold_length (o : Nat) (xs : List Nat) (ps : List (Nat × Nat)) : (adFold o xs ps).1.length = xs.length := by
  induction ps using snoc_ind with
  | h0 => rfl
  | h1 ps p ih => rw [adFold_snoc]; simp [adStep, ih]
theorem adFold_limbs {o : Nat} {xs : List Nat} (hx : Limbs xs) (ps : List (Nat × Nat)) (hp : ∀ p ∈ ps, p.2 < B32) : Limbs (adFold o xs ps).1 ∧ (adFold o xs ps).2 ≤ 1 := by
  induction ps using snoc_ind with
  | h0 => exact ⟨hx, Nat.zero_le _⟩
  | h1 ps p ih =>
    obtain ⟨h1, h2⟩ := ih (fun q hq => hp q (List.mem_append_left _ hq))
    have h3 := hp p (by simp)
    have h4 := limb_getD h1 (o + p.1)
    rw [adFold_snoc]
    refine ⟨limbs_set h1 _ (Nat.mod_lt _ B32_pos), ?_⟩
    show (_ + (_ + _)) / B32 ≤ 1
    unfold B32 at *; omega
theorem adFold_val {o : Nat} {xs ys : List Nat} (k : Nat) (hk : o + k ≤ xs.length) : val (adFold o xs (limbPairs ys k)).1 + B32 ^ (o + k) * (adFold o xs (limbPairs ys k)).2 = val xs + B32 ^ o * val (ys.take k) := by
  induction k with
  | zero => simp [limbPairs, adFold, val]
  | succ k ih =>
    have ih := ih (by omega)
    have hl := adFold_length o xs (limbPairs ys k)
    rw [limbPairs_succ, adFold_snoc, val_take_succ]
    simp only [adStep]
    generalize (adFold o xs (limbPairs ys k)).2 = c at *
    generalize (adFold o xs (limbPairs ys k)).1 = q at *
    generalize ys[k]?.getD 0 = y at *
    have hs := fun z => val_set q (o + k) z (by omega)
    generalize q[o + k]?.getD 0 = x at *
    have hd := Nat.div_add_mod (c + (x + y)) B32
    have hs := hs ((c + (x + y)) % B32)
    generalize (c + (x + y)) / B32 = c' at *
    generalize (c + (x + y)) % B32 = m at *
    generalize val (q.set (o + k) m) = Z at *
    have h5 := congrArg (B32 ^ (o + k) * ·) hd
    simp only [Nat.mul_add] at h5
    rw [← Nat.add_assoc, Nat.pow_succ, Nat.mul_assoc (B32 ^ (o + k)), Nat.mul_add (B32 ^ o), ← Nat.mul_assoc (B32 ^ o) (B32 ^ k), ← Nat.pow_add]
    omega
theorem adFold_above (o : Nat) (xs ys : List Nat) (k m : Nat) (hm : o + k ≤ m) : (adFold o xs (limbPairs ys k)).1[m]? = xs[m]? := by
  induction k with
  | zero => rfl
  | succ k ih =>
    rw [limbPairs_succ, adFold_snoc]
    simp only [adStep]
    rw [List.getElem?_set_ne (by omega)]
    exact ih (by omega)
/-- behind the end of the list, without a carry, nothing changes -/
theorem adFold_rest {o : Nat} {xs ys : List Nat} {k : Nat} (hx : Limbs xs) (hy : ys.length ≤ k) (hc : (adFold o xs (limbPairs ys k)).2 = 0) (hpl : ∀ p ∈ limbPairs ys k, p.2 < B32) (j : Nat) : adFold o xs (limbPairs ys (k + j)) = adFold o xs (limbPairs ys k) := by
  induction j with
  | zero => rfl
  | succ j ih =>
    rw [← Nat.add_assoc, limbPairs_succ, adFold_snoc, ih, List.getElem?_eq_none (by omega)]
    have hb := (adFold_limbs (o := o) hx (limbPairs ys k) hpl).1
    generalize adFold o xs (limbPairs ys k) = st at *
    obtain ⟨q, c⟩ := st
    simp only at hc hb
    subst hc
    have h4 := limb_getD hb (o + (k + j))
    simp only [adStep, Option.getD_none, Nat.add_zero, Nat.zero_add, Nat.mod_eq_of_lt h4, Nat.div_eq_of_lt h4]
    congr 1
    by_cases hi : o + (k + j) < q.length
    · rw [List.getElem?_eq_getElem hi, Option.getD_some, List.set_getElem_self]
    · rw [List.set_eq_of_length_le (by omega)]

/-! ### the guess -/
def guessN (U3 V2 : Nat) : Nat := min (U3 / V2) (B32 - 1)
theorem guessN_lt (U3 V2 : Nat) : guessN U3 V2 < B32 := by unfold guessN B32; omega
/-- the true quotient is the guess, or one less -/
theorem guess_near {A N lowV V2 lowL U3 : Nat} (hN : 0 < N) (hA : 0 < A) (hV2 : B32 ≤ V2) (hlV : lowV < N) (hlL : lowL < A * N) (hB : lowL + A * N * U3 < A * (lowV + N * V2) * B32) :
    (lowL + A * N * U3) / (A * (lowV + N * V2)) ≤ guessN U3 V2 ∧ guessN U3 V2 ≤ (lowL + A * N * U3) / (A * (lowV + N * V2)) + 1 := by
  have hV0 : 0 < V2 := Nat.lt_of_lt_of_le B32_pos hV2
  have hNV : 0 < N * V2 := Nat.mul_pos hN hV0
  have hD : 0 < A * (lowV + N * V2) := Nat.mul_pos hA (by omega)
  have hDle : A * N * V2 ≤ A * (lowV + N * V2) := by
    rw [Nat.mul_assoc]; exact Nat.mul_le_mul_left _ (by omega)
  generalize hX : lowL + A * N * U3 = X at *
  generalize hDD : A * (lowV + N * V2) = D at *
  have hq1 : X / D * D ≤ X := Nat.div_mul_le_self _ _
  have hq2 : X < (X / D + 1) * D := by
    rw [Nat.mul_comm]; exact Nat.lt_mul_div_succ X hD
  generalize hq : X / D = q at *
  have hqB : q < B32 := by
    rw [← hq]; exact Nat.div_lt_of_lt_mul hB
  refine ⟨?_, ?_⟩
  · unfold guessN
    refine Nat.le_min.2 ⟨(Nat.le_div_iff_mul_le hV0).2 ?_, by omega⟩
    refine Nat.le_of_lt_succ (Nat.lt_of_not_le fun hc => ?_)
    have h1 : A * N * (U3 + 1) ≤ A * N * (q * V2) := Nat.mul_le_mul_left _ hc
    have h2 : A * N * (q * V2) ≤ q * D := by
      rw [Nat.mul_left_comm]; exact Nat.mul_le_mul_left _ hDle
    rw [Nat.mul_add, Nat.mul_one] at h1
    omega
  · refine Nat.le_of_lt_succ (Nat.lt_of_not_le fun hc => ?_)
    have hg1 : guessN U3 V2 ≤ U3 / V2 := Nat.min_le_left _ _
    have hg2 : guessN U3 V2 < B32 := guessN_lt _ _
    have hg3 : guessN U3 V2 * V2 ≤ U3 := (Nat.le_div_iff_mul_le hV0).1 hg1
    generalize guessN U3 V2 = g at *
    have h1 : g * D ≤ X + D := by
      have h2 : g * D = A * (g * lowV) + A * N * (g * V2) := by
        rw [← hDD, Nat.mul_left_comm, Nat.mul_add, Nat.mul_add, Nat.mul_left_comm g N, Nat.mul_assoc A N]
      have h3 : A * N * (g * V2) ≤ A * N * U3 := Nat.mul_le_mul_left _ hg3
      have h4 : A * (g * lowV) ≤ A * N * V2 := by
        rw [Nat.mul_assoc]
        refine Nat.mul_le_mul_left _ ?_
        rw [Nat.mul_comm N]
        exact Nat.mul_le_mul (by omega) (by omega)
      omega
    have h5 : (q + 2) * D ≤ g * D := Nat.mul_le_mul_right _ (by omega)
    have h6 : (q + 2) * D = (q + 1) * D + D := by rw [show q + 2 = (q + 1) + 1 from rfl, Nat.add_mul (q + 1) 1, Nat.one_mul]
    omega
theorem guess_dec {t b l0 limb rest u g : Nat} (hg : g = guessN (l0 + B32 * u) (b + B32 * t)) (hu : limb * t + rest = u) (hV : 0 < b + B32 * t) (hgl : g ≤ limb) (hc : B32 ≤ limb ∨ rest * B32 + l0 < limb * b) : g ≤ limb - 1 ∧ 1 ≤ limb := by
  rcases hc with hc | hc
  · have := guessN_lt (l0 + B32 * u) (b + B32 * t)
    have := B32_pos
    omega
  · have h1 : g ≤ (l0 + B32 * u) / (b + B32 * t) := by rw [hg]; exact Nat.min_le_left _ _
    have h2 : (l0 + B32 * u) / (b + B32 * t) < limb := by
      rw [Nat.div_lt_iff_lt_mul hV, Nat.mul_add, ← hu, Nat.mul_add, Nat.mul_left_comm limb, Nat.mul_comm B32 rest]
      omega
    omega
theorem guess_end {t b l0 limb rest u g : Nat} (hg : g = guessN (l0 + B32 * u) (b + B32 * t)) (hu : limb * t + rest = u) (hV : 0 < b + B32 * t) (hgl : g ≤ limb) (hub : u < t * B32 + B32) (hb : b < B32)
    (hc : B32 ≤ rest ∨ (limb < B32 ∧ limb * b ≤ rest * B32 + l0)) : limb = g := by
  have hlb : limb < B32 := by
    rcases hc with hc | hc
    · have h1 : limb * t < B32 * t := by rw [Nat.mul_comm B32]; omega
      exact Nat.lt_of_mul_lt_mul_right h1
    · exact hc.1
  have h2 : limb * b ≤ rest * B32 + l0 := by
    rcases hc with hc | hc
    · have h3 : limb * b ≤ B32 * B32 := Nat.mul_le_mul (by omega) (by omega)
      have h4 : B32 * B32 ≤ rest * B32 := Nat.mul_le_mul_right _ hc
      omega
    · exact hc.2
  have h3 : limb ≤ (l0 + B32 * u) / (b + B32 * t) := by
    rw [Nat.le_div_iff_mul_le hV, Nat.mul_add, ← hu, Nat.mul_add, Nat.mul_left_comm limb, Nat.mul_comm B32 rest]
    omega
  have h4 : limb ≤ g := by rw [hg]; exact Nat.le_min.2 ⟨h3, by omega⟩
  omega


/-! ### one round -/
theorem val_two {bs : List Nat} {k : Nat} (h : bs.length = k + 2) : val bs = val (bs.take k) + B32 ^ k * (bs[k]?.getD 0 + B32 * bs[k + 1]?.getD 0) := by
  rw [val_split bs k (by omega), val_drop_succ bs (k + 1) (by omega), List.drop_of_length_le (show bs.length ≤ k + 1 + 1 by omega)]
  simp [val]
theorem val_three {xs : List Nat} {k : Nat} (h : k + 3 ≤ xs.length) : val xs = val (xs.take k) + B32 ^ k * (xs[k]?.getD 0 + B32 * (xs[k + 1]?.getD 0 + B32 * (xs[k + 2]?.getD 0 + B32 * val (xs.drop (k + 3))))) := by
  rw [val_split xs k (by omega), val_drop_succ xs (k + 1) (by omega), val_drop_succ xs (k + 2) (by omega)]
theorem take_lt {xs : List Nat} (h : Limbs xs) (k : Nat) (hk : k ≤ xs.length) : val (xs.take k) < B32 ^ k := by
  have := val_lt (limbs_take h k)
  rwa [List.length_take, Nat.min_eq_left hk] at this
/-- what is divided, by its parts -/
structure Knu (L bs : List Nat) (o k : Nat) : Prop where
  ll : Limbs L
  lb : Limbs bs
  len : o + k + 3 ≤ L.length
  blen : bs.length = k + 2
  top : 2147483648 ≤ bs[k + 1]?.getD 0
  lt : val L < val bs * B32 ^ (o + 1)
theorem Knu.high {L bs : List Nat} {o k : Nat} (h : Knu L bs o k) : val (L.drop (o + k + 3)) = 0 := by
  have h1 := val_three h.len
  have h2 := h.lt
  have h3 := val_lt h.lb
  rw [h.blen] at h3
  rcases Nat.eq_zero_or_pos (val (L.drop (o + k + 3))) with e | e
  · exact e
  · exfalso
    have h4 : val bs * B32 ^ (o + 1) < B32 ^ (k + 2) * B32 ^ (o + 1) := Nat.mul_lt_mul_of_pos_right h3 (Nat.pow_pos B32_pos)
    have h5 : B32 ^ (k + 2) * B32 ^ (o + 1) = B32 ^ (o + k) * (B32 * (B32 * B32)) := by
      rw [← Nat.pow_add, show k + 2 + (o + 1) = o + k + 1 + 1 + 1 by omega, Nat.pow_succ, Nat.pow_succ, Nat.pow_succ]
      simp only [Nat.mul_assoc]
    have h6 : B32 ^ (o + k) * (B32 * (B32 * B32)) ≤ B32 ^ (o + k) * (L[o + k]?.getD 0 + B32 * (L[o + k + 1]?.getD 0 + B32 * (L[o + k + 2]?.getD 0 + B32 * val (L.drop (o + k + 3))))) := by
      refine Nat.mul_le_mul_left _ ?_
      unfold B32; omega
    omega
theorem Knu.vals {L bs : List Nat} {o k : Nat} (h : Knu L bs o k) : val L = val (L.take (o + k)) + B32 ^ o * B32 ^ k * (L[o + k]?.getD 0 + B32 * (L[o + k + 1]?.getD 0 + B32 * L[o + k + 2]?.getD 0)) := by
  have h1 := val_three h.len
  rw [h.high, Nat.mul_zero, Nat.add_zero, Nat.pow_add] at h1
  exact h1
theorem Knu.le_top {L bs : List Nat} {o k : Nat} (h : Knu L bs o k) : L[o + k + 2]?.getD 0 ≤ bs[k + 1]?.getD 0 := by
  refine Nat.le_of_lt_succ (Nat.lt_of_not_le fun hc => ?_)
  have h1 := h.vals
  have h2 := h.lt
  have h3 : val bs < B32 ^ (k + 1) * (bs[k + 1]?.getD 0 + 1) := by
    have e := val_two h.blen
    have e1 := take_lt h.lb k (by have := h.blen; omega)
    have e2 := limb_getD h.lb k
    have e3 : B32 ^ k * (bs[k]?.getD 0 + 1) ≤ B32 ^ k * B32 := Nat.mul_le_mul_left _ e2
    rw [Nat.pow_succ, Nat.mul_assoc, Nat.mul_add B32, Nat.mul_add (B32 ^ k), Nat.mul_one]
    rw [Nat.mul_add (B32 ^ k)] at e e3
    rw [Nat.mul_one] at e3
    omega
  have h4 : val bs * B32 ^ (o + 1) < B32 ^ (k + 1) * (bs[k + 1]?.getD 0 + 1) * B32 ^ (o + 1) := Nat.mul_lt_mul_of_pos_right h3 (Nat.pow_pos B32_pos)
  have h5 : B32 ^ (k + 1) * (bs[k + 1]?.getD 0 + 1) * B32 ^ (o + 1) = B32 ^ o * B32 ^ k * (B32 * (B32 * (bs[k + 1]?.getD 0 + 1))) := by
    rw [Nat.pow_succ, Nat.pow_succ]
    generalize B32 ^ k = P
    generalize B32 ^ o = R
    generalize bs[k + 1]?.getD 0 + 1 = t
    rw [Nat.mul_assoc P B32, Nat.mul_comm (P * (B32 * t)), Nat.mul_assoc R B32, Nat.mul_left_comm B32 P, Nat.mul_assoc R P]
  have h6 : B32 ^ o * B32 ^ k * (B32 * (B32 * (bs[k + 1]?.getD 0 + 1))) ≤ B32 ^ o * B32 ^ k * (L[o + k]?.getD 0 + B32 * (L[o + k + 1]?.getD 0 + B32 * L[o + k + 2]?.getD 0)) := by
    refine Nat.mul_le_mul_left _ ?_
    have e1 : B32 * (bs[k + 1]?.getD 0 + 1) ≤ B32 * L[o + k + 2]?.getD 0 := Nat.mul_le_mul_left _ hc
    have e2 : B32 * (B32 * (bs[k + 1]?.getD 0 + 1)) ≤ B32 * (L[o + k + 1]?.getD 0 + B32 * L[o + k + 2]?.getD 0) := Nat.mul_le_mul_left _ (by omega)
    omega
  omega
/-- the guess of a round -/
def knuG (L bs : List Nat) (o k : Nat) : Nat := guessN (L[o + k]?.getD 0 + B32 * (L[o + k + 1]?.getD 0 + B32 * L[o + k + 2]?.getD 0)) (bs[k]?.getD 0 + B32 * bs[k + 1]?.getD 0)
/-- the quotient's limb -/
def knuQ (L bs : List Nat) (o : Nat) : Nat := val L / (B32 ^ o * val bs)
theorem Knu.pos {L bs : List Nat} {o k : Nat} (h : Knu L bs o k) : 0 < B32 ^ o * val bs := by
  refine Nat.mul_pos (Nat.pow_pos B32_pos) ?_
  rw [val_two h.blen]
  have h1 := h.top
  have h2 : 0 < B32 ^ k * (bs[k]?.getD 0 + B32 * bs[k + 1]?.getD 0) := Nat.mul_pos (Nat.pow_pos B32_pos) (by unfold B32; omega)
  omega
theorem Knu.q_lt {L bs : List Nat} {o k : Nat} (h : Knu L bs o k) : knuQ L bs o < B32 := by
  refine Nat.div_lt_of_lt_mul ?_
  have := h.lt
  rw [Nat.pow_succ, Nat.mul_comm (val bs), Nat.mul_assoc, Nat.mul_comm B32, ← Nat.mul_assoc] at this
  exact this
theorem Knu.near {L bs : List Nat} {o k : Nat} (h : Knu L bs o k) : knuQ L bs o ≤ knuG L bs o k ∧ knuG L bs o k ≤ knuQ L bs o + 1 := by
  have h1 := h.vals
  have h2 := val_two h.blen
  have h3 := take_lt h.lb k (by have := h.blen; omega)
  have h4 := take_lt h.ll (o + k) (by have := h.len; omega)
  have h5 := h.top
  have h6 := h.lt
  rw [Nat.pow_add] at h4
  unfold knuQ knuG
  rw [h1, h2]
  refine guess_near (Nat.pow_pos B32_pos) (Nat.pow_pos B32_pos) ?_ h3 h4 ?_
  · have : B32 * 1 ≤ B32 * bs[k + 1]?.getD 0 := Nat.mul_le_mul_left _ (by omega)
    omega
  · rw [← h1, ← h2]
    rw [Nat.pow_succ, ← Nat.mul_assoc, Nat.mul_comm (val bs)] at h6
    exact h6
theorem row_high {xs R : List Nat} {m : Nat} (hab : ∀ j, m ≤ j → R[j]? = xs[j]?) : R.drop m = xs.drop m := by
  apply List.ext_getElem?
  intro i
  rw [List.getElem?_drop, List.getElem?_drop]
  exact hab _ (by omega)
theorem knu_arith {X Y Z D T q g bo cz : Nat} (hn1 : q ≤ g) (hn2 : g ≤ q + 1) (hq1 : q * D ≤ X) (hq2 : X < q * D + D) (hv : Y + g * D = X + T * bo) (hb : bo ≤ 1) (hY : Y < T) (had : Z + T * cz = Y + D) (hc : cz ≤ 1) (hZ : Z < T) :
    (bo = 0 → g = q ∧ Y + q * D = X) ∧ (bo ≠ 0 → g = q + 1 ∧ Z + q * D = X) := by
  rcases Nat.lt_or_ge q g with hlt | hge
  · obtain rfl : g = q + 1 := by omega
    rw [Nat.add_mul, Nat.one_mul] at hv
    refine ⟨fun e => ?_, fun e => ⟨rfl, ?_⟩⟩
    · subst e; omega
    · obtain rfl : bo = 1 := by omega
      rcases Nat.eq_zero_or_pos cz with e | e
      · subst e; omega
      · obtain rfl : cz = 1 := by omega
        omega
  · obtain rfl : g = q := by omega
    refine ⟨fun e => ⟨rfl, ?_⟩, fun e => ?_⟩
    · subst e; omega
    · obtain rfl : bo = 1 := by omega
      omega
theorem Knu.low {L bs : List Nat} {o k : Nat} (h : Knu L bs o k) (R : List Nat) (hR : Limbs R) (hRl : R.length = L.length) (hRd : R.drop (o + k + 3) = L.drop (o + k + 3)) : val R < B32 ^ (o + k + 3) := by
  have e1 := val_append (R.take (o + k + 3)) (R.drop (o + k + 3))
  rw [List.take_append_drop, hRd, h.high, Nat.mul_zero, Nat.add_zero] at e1
  rw [e1]
  exact take_lt hR _ (by rw [hRl]; exact h.len)
theorem Knu.pairs {L bs : List Nat} {o k : Nat} (h : Knu L bs o k) (n : Nat) : ∀ p ∈ limbPairs bs n, p.2 < B32 := fun p hp' => by
  obtain ⟨i, _, rfl⟩ := List.mem_map.1 hp'
  exact limb_getD h.lb i
theorem Knu.carry {L bs : List Nat} {o k : Nat} (h : Knu L bs o k) {g : Nat} (hg : g < B32) : (ttFold o g L (limbPairs bs (k + 3))).2.1 = 0 := by
  have h1 := (ttFold_limbs (o := o) hg h.ll (limbPairs bs (k + 2)) (h.pairs _)).2.1
  have h2 := h.blen
  rw [limbPairs_succ, ttFold_snoc]
  simp only [ttStep]
  rw [List.getElem?_eq_none (by omega), Option.getD_none, Nat.mul_zero, Nat.add_zero]
  exact Nat.div_eq_of_lt h1
theorem Knu.tt {L bs : List Nat} {o k : Nat} (h : Knu L bs o k) {g : Nat} (hg : g < B32) :
    val (ttFold o g L (limbPairs bs (k + 3))).1 + g * (B32 ^ o * val bs) = val L + B32 ^ (o + k + 3) * (ttFold o g L (limbPairs bs (k + 3))).2.2 ∧ val (ttFold o g L (limbPairs bs (k + 3))).1 < B32 ^ (o + k + 3) := by
  have hl := h.len
  have hb := h.blen
  have hv := ttFold_val (o := o) hg h.ll h.lb (k + 3) (by omega)
  rw [h.carry hg, Nat.zero_add, List.take_of_length_le (show bs.length ≤ k + 3 by omega), Nat.mul_left_comm (B32 ^ o)] at hv
  refine ⟨hv, h.low _ (ttFold_limbs (o := o) hg h.ll _ (h.pairs _)).1 (ttFold_length _ _ _ _) (row_high (fun j hj => ttFold_above o g L bs (k + 3) j hj))⟩
theorem Knu.ad {L bs : List Nat} {o k : Nat} (h : Knu L bs o k) {g : Nat} (hg : g < B32) (R : List Nat) (hR : R = (ttFold o g L (limbPairs bs (k + 3))).1) :
    val (adFold o R (limbPairs bs (k + 3))).1 + B32 ^ (o + k + 3) * (adFold o R (limbPairs bs (k + 3))).2 = val R + B32 ^ o * val bs ∧ (adFold o R (limbPairs bs (k + 3))).2 ≤ 1 ∧ val (adFold o R (limbPairs bs (k + 3))).1 < B32 ^ (o + k + 3) := by
  have hl := h.len
  have hb := h.blen
  have t1 : Limbs R := by rw [hR]; exact (ttFold_limbs (o := o) hg h.ll _ (h.pairs _)).1
  have tl : R.length = L.length := by rw [hR]; exact ttFold_length _ _ _ _
  have ta : R.drop (o + k + 3) = L.drop (o + k + 3) := by rw [hR]; exact row_high (fun j hj => ttFold_above o g L bs (k + 3) j hj)
  have hv := adFold_val (o := o) (xs := R) (ys := bs) (k + 3) (by omega)
  rw [List.take_of_length_le (show bs.length ≤ k + 3 by omega)] at hv
  obtain ⟨a1, a2⟩ := adFold_limbs (o := o) t1 (limbPairs bs (k + 3)) (h.pairs _)
  exact ⟨hv, a2, h.low _ a1 ((adFold_length _ _ _).trans tl) ((row_high (fun j hj => adFold_above o R bs (k + 3) j hj)).trans ta)⟩
/-- where no borrow is left, the guess was the limb; else it was one more, and adding back mends it -/
theorem Knu.round {L bs : List Nat} {o k : Nat} (h : Knu L bs o k) :
    ((ttFold o (knuG L bs o k) L (limbPairs bs (k + 3))).2.2 = 0 → knuG L bs o k = knuQ L bs o ∧ val (ttFold o (knuG L bs o k) L (limbPairs bs (k + 3))).1 + B32 ^ o * (knuQ L bs o * val bs) = val L) ∧
    ((ttFold o (knuG L bs o k) L (limbPairs bs (k + 3))).2.2 ≠ 0 → knuG L bs o k = knuQ L bs o + 1 ∧ val (adFold o (ttFold o (knuG L bs o k) L (limbPairs bs (k + 3))).1 (limbPairs bs (k + 3))).1 + B32 ^ o * (knuQ L bs o * val bs) = val L) := by
  have hg : knuG L bs o k < B32 := guessN_lt _ _
  have hn := h.near
  have hD := h.pos
  have hq1 : knuQ L bs o * (B32 ^ o * val bs) ≤ val L := Nat.div_mul_le_self _ _
  have hq2 : val L < (knuQ L bs o + 1) * (B32 ^ o * val bs) := by
    rw [Nat.mul_comm]; exact Nat.lt_mul_div_succ _ hD
  rw [Nat.add_mul, Nat.one_mul] at hq2
  obtain ⟨v1, v2⟩ := h.tt hg
  obtain ⟨w1, w2, w3⟩ := h.ad hg _ rfl
  have hb := (ttFold_limbs (o := o) hg h.ll (limbPairs bs (k + 3)) (h.pairs _)).2.2
  rw [Nat.mul_left_comm (B32 ^ o)]
  exact knu_arith hn.1 hn.2 hq1 hq2 v1 hb v2 w1 w2 w3
/-- the numbers ahead of a round and behind it -/
theorem Knu.next {L bs Q R : List Nat} {o k A0 : Nat} (h : Knu L bs o k) (hQ : o < Q.length) (hA : val L + val bs * (B32 ^ (o + 1) * val (Q.drop (o + 1))) = A0) (hR : val R + B32 ^ o * (knuQ L bs o * val bs) = val L) :
    val R + val bs * (B32 ^ o * val ((Q.set o (knuQ L bs o)).drop o)) = A0 ∧ val R < val bs * B32 ^ o := by
  have hD := h.pos
  have hq2 : val L < (knuQ L bs o + 1) * (B32 ^ o * val bs) := by
    rw [Nat.mul_comm]; exact Nat.lt_mul_div_succ _ hD
  generalize knuQ L bs o = q at *
  constructor
  · rw [val_drop_succ _ o (by simpa using hQ), List.getElem?_set_self hQ, Option.getD_some, List.drop_set_of_lt (by omega)]
    rw [Nat.pow_succ, Nat.mul_assoc (B32 ^ o) B32] at hA
    rw [Nat.mul_add (B32 ^ o), Nat.mul_add (val bs)]
    have e : val bs * (B32 ^ o * q) = B32 ^ o * (q * val bs) := by
      rw [Nat.mul_left_comm, Nat.mul_comm q]
    omega
  · rw [Nat.add_mul, Nat.one_mul, Nat.mul_left_comm q] at hq2
    rw [Nat.mul_comm (val bs)]
    omega

end Go.Proofs.YtlghjfpkfdnfoaaGreatDoor
