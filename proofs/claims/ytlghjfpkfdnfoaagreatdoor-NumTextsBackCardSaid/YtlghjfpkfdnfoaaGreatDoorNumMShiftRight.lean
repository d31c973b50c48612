/- num.Text -/
import Derived.Test.YtlghjfpkfdnfoaaGreatDoorNumMApis
import Derived.Test.YtlghjfpkfdnfoaaGreatDoorNumMBitLen
import Derived.Lib.ItoaNum
import Derived.Test.YtlghjfpkfdnfoaaGreatDoorNumMTimesSmall
namespace Go.Proofs.YtlghjfpkfdnfoaaGreatDoor
open Go Go.RowKit Go.Shelf

set_option maxHeartbeats 1000000 in
set_option maxRecDepth 100000 in
theorem demandBase_no (b : Int) (w : World) (h : b < 2 ∨ 36 < b) :
    Calls Tryz.prog 25 #[.int .i64 b] w fun e w' => w = w' ∧ e = .panicked [{ v := .iface 27 (.int .i64 1), recovered := false }] := by
  by_cases h2 : b < 2
  · have hd : decide (2 ≤ b) = false := by simp; omega
    go_enter Tryz.func25, Tryz.ntmps25
    go_wp2_with (go_at_call 45; refine (demand_no _ _ _ (by simp; try omega)).mono ?_; rintro e w' ⟨rfl, rfl⟩)
    exact ⟨rfl, rfl, rfl⟩
  · have h36 : 36 < b := h.resolve_left h2
    have hd : decide (2 ≤ b) = true := by simp; omega
    have hd2 : decide (b ≤ 36) = false := by simp; omega
    go_enter Tryz.func25, Tryz.ntmps25
    go_wp2_with (go_at_call 45; refine (demand_no _ _ _ (by simp; try omega)).mono ?_; rintro e w' ⟨rfl, rfl⟩)
    exact ⟨rfl, rfl, rfl⟩

set_option maxHeartbeats 1000000 in
set_option maxRecDepth 100000 in
theorem text1_ok (B : Nat) (na : Bool) (aa : Option Addr) (ca : Nat) (xa : List Nat) (b : Nat) (s0 : ByteArray) (w : World) (hra : RowAt w B 24 [.bool na, .slice aa xa.length ca]) (hrn : RowAt w (B + 1) 3 [.int .i64 (b : Int)]) (hrr : RowAt w (B + 2) 9 [.string s0])
    (ha : Reads .u32 w (.slice aa xa.length ca) xa) (hla : Limbs xa) (fa : formedB na xa = true) (h2 : 2 ≤ b) (h36 : b ≤ 36) (hT : DigitsAt w) :
    Calls Tryz.prog 23 #[.pointer (some ⟨B, 0, none⟩), .pointer (some ⟨B + 1, 0, none⟩), .pointer (some ⟨B + 2, 0, none⟩)] w fun e w' => e = .returned (.tuple #[]) ∧ Chg (fun k => k = B + 2) w w' ∧ ∃ s : ByteArray, RowAt w' (B + 2) 9 [.string s] ∧ s.data.toList.map (·.toNat) = textOf na b (val xa) := by
  have a0 := hra.cell 0
  have a1 := hra.cell 1
  have n0 := hrn.cell 0
  simp only [List.getElem?_cons_zero, List.getElem?_cons_succ] at a0 a1 n0
  have r0' := RowAt.new w 24 [.bool na, .slice aa xa.length ca]
  have bw := (Below.refl w.heap.size w).alloc (Nat.le_refl _) (.cells #[.bool na, .slice aa xa.length ca] 24)
  obtain ⟨hkx, hxl⟩ : Canon xa ∧ xa.length ≤ 300 := by
    simp only [formedB, Bool.and_eq_true, decide_eq_true_eq] at fa
    exact ⟨⟨hla, fa.1.2⟩, fa.1.1⟩
  go_enter Tryz.func23, Tryz.ntmps23
  go_wp2_with (first
    | (go_at_call 24; refine (demand1_ok _ _ aa ca xa _ r0' (ha.below bw) hla fa).mono ?_; rintro e w1 ⟨hbe1, rfl⟩; have bw1 := bw.trans (hbe1.mono (by simp)); have p0 := (hra.below bw1).cell 0; have p2 := (hra.below bw1).cell 1; have p1 := (hrn.below bw1).cell 0; simp only [List.getElem?_cons_zero, List.getElem?_cons_succ] at p0 p1 p2)
    | (go_at_call 25; refine (demandBase_ok _ _ h2 h36).mono ?_; rintro e w2 ⟨rfl, rfl⟩)
    | (go_at_call 26; refine (text_any na _ xa b _ (ha.below bw1) hkx hxl h2 h36 (hT.below bw1)).mono ?_; rintro e w3 ⟨hbe3, s, rfl, hs⟩; have bw3 := bw1.trans (hbe3.mono bw1.size); have sr := hrr.below bw3; have o1 := sr.cell 0; have o5 := sr.frozen 0; simp only [List.getElem?_cons_zero] at o1))
  go_end0
  exact ⟨rfl, ((Chg.refl (fun k => k = B + 2) w).thenBelow bw3).setCell (p := ⟨B + 2, 0, none⟩) (.inl rfl) _, s, sr.set 0 (.string s), hs⟩

end Go.Proofs.YtlghjfpkfdnfoaaGreatDoor

/- arithmetic of Euclid's steps, Newton's steps and of shifts -/
namespace Go.Proofs.YtlghjfpkfdnfoaaGreatDoor
open Go Go.RowKit Go.Shelf

structure GcdInv (A B : Nat) (L N : Nat) (F G H I : Int) : Prop where
  eL : (L : Int) = A * F + B * H
  eN : (N : Int) = A * G + B * I
  g : Nat.gcd L N = Nat.gcd A B
  sg : (0 ≤ F ∧ G ≤ 0 ∧ H ≤ 0 ∧ 0 ≤ I) ∨ (F ≤ 0 ∧ 0 ≤ G ∧ 0 ≤ H ∧ I ≤ 0)
  pB : L * G.natAbs + N * F.natAbs = B
  pA : L * I.natAbs + N * H.natAbs = A
  bF : F.natAbs ≤ max 1 B
  bG : G.natAbs ≤ B
  bH : H.natAbs ≤ max 1 A
  bI : I.natAbs ≤ max 1 A
  bL : L ≤ max A B
  bN : N ≤ max A B

theorem GcdInv.start (A B : Nat) : GcdInv A B A B 1 0 0 1 :=
  ⟨by simp, by simp, rfl, .inl (by decide), by simp, by simp, by simp; omega, by simp, by simp, by simp; omega, by omega, by omega⟩

theorem natAbs_cross {F G : Int} (q : Nat) (h : (0 ≤ F ∧ G ≤ 0) ∨ (F ≤ 0 ∧ 0 ≤ G)) : (F - (q : Int) * G).natAbs = F.natAbs + q * G.natAbs := by
  rcases h with ⟨h1, h2⟩ | ⟨h1, h2⟩
  · obtain ⟨f, rfl⟩ := Int.eq_ofNat_of_zero_le h1
    obtain ⟨g, hg⟩ := Int.eq_ofNat_of_zero_le (show 0 ≤ -G by omega)
    have hG : G = -(g : Int) := by omega
    subst hG
    have : (f : Int) - (q : Int) * -(g : Int) = ((f + q * g : Nat) : Int) := by rw [Int.mul_neg]; push_cast; omega
    rw [this]
    simp only [Int.natAbs_natCast, Int.natAbs_neg]
  · obtain ⟨f, hf⟩ := Int.eq_ofNat_of_zero_le (show 0 ≤ -F by omega)
    obtain ⟨g, rfl⟩ := Int.eq_ofNat_of_zero_le h2
    have hF : F = -(f : Int) := by omega
    subst hF
    have : -(f : Int) - (q : Int) * (g : Int) = -((f + q * g : Nat) : Int) := by push_cast; omega
    rw [this]
    simp only [Int.natAbs_natCast, Int.natAbs_neg]

theorem sign_cross {F G : Int} (q : Nat) : ((0 ≤ F ∧ G ≤ 0) → 0 ≤ F - (q : Int) * G) ∧ ((F ≤ 0 ∧ 0 ≤ G) → F - (q : Int) * G ≤ 0) := by
  constructor
  · rintro ⟨h1, h2⟩
    have := Int.mul_nonpos_of_nonneg_of_nonpos (a := (q : Int)) (b := G) (by omega) h2
    omega
  · rintro ⟨h1, h2⟩
    have := Int.mul_nonneg (a := (q : Int)) (b := G) (by omega) h2
    omega

theorem GcdInv.step {A B L N : Nat} {F G H I : Int} (h : GcdInv A B L N F G H I) (hN : 0 < N) :
    GcdInv A B N (L % N) G (F - ((L / N : Nat) : Int) * G) I (H - ((L / N : Nat) : Int) * I) := by
  obtain ⟨eL, eN, g, sg, pB, pA, bF, bG, bH, bI, bL, bN⟩ := h
  have hdm := Nat.div_add_mod L N
  have hlt := Nat.mod_lt L hN
  generalize hq : L / N = q at *
  generalize hr : L % N = r at *
  have cB : (F - (q : Int) * G).natAbs = F.natAbs + q * G.natAbs := natAbs_cross q (by omega)
  have cA : (H - (q : Int) * I).natAbs = H.natAbs + q * I.natAbs := natAbs_cross q (by omega)
  have pB' : N * (F - (q : Int) * G).natAbs + r * G.natAbs = B := by
    rw [cB, ← pB, ← hdm, Nat.mul_add, Nat.add_mul, Nat.mul_assoc]; omega
  have pA' : N * (H - (q : Int) * I).natAbs + r * I.natAbs = A := by
    rw [cA, ← pA, ← hdm, Nat.mul_add, Nat.add_mul, Nat.mul_assoc]; omega
  have k1 := Nat.le_mul_of_pos_left (F - (q : Int) * G).natAbs hN
  have k2 := Nat.le_mul_of_pos_left (H - (q : Int) * I).natAbs hN
  refine ⟨eN, ?_, ?_, ?_, pB', pA', by omega, by omega, by omega, by omega, by omega, by omega⟩
  · have : (L : Int) = N * q + r := by rw [← hdm]; push_cast; rfl
    have : (r : Int) = L - q * N := by rw [this, Int.mul_comm (q : Int)]; omega
    rw [this, eL, eN]
    simp only [Int.mul_sub, Int.mul_add]
    rw [Int.mul_left_comm (A : Int) q G, Int.mul_left_comm (B : Int) q I]
    omega
  · rw [← g, ← hr, Nat.gcd_comm N, ← Nat.gcd_rec N L, Nat.gcd_comm]
  · have s1 := sign_cross (F := F) (G := G) q
    have s2 := sign_cross (F := H) (G := I) q
    rcases sg with ⟨h1, h2, h3, h4⟩ | ⟨h1, h2, h3, h4⟩
    · exact .inr ⟨h2, s1.1 ⟨h1, h2⟩, h4, s2.2 ⟨h3, h4⟩⟩
    · exact .inl ⟨h2, s1.2 ⟨h1, h2⟩, h4, s2.1 ⟨h3, h4⟩⟩

theorem GcdInv.last {A B L : Nat} {F G H I : Int} (h : GcdInv A B L 0 F G H I) : L = Nat.gcd A B := by
  have := h.g; simpa using this

/-- Newton's step does not lead below a root -/
theorem amgm (x r : Nat) : ∀ n, (n + 1) * r * x ^ n ≤ n * x ^ (n + 1) + r ^ (n + 1) := by
  intro n
  induction n with
  | zero => simp
  | succ n ih =>
    have h1 : (n + 1) * r * x ^ n * x ≤ (n * x ^ (n + 1) + r ^ (n + 1)) * x := Nat.mul_le_mul_right x ih
    have h2 : x ^ (n + 1) * r + r ^ (n + 1) * x ≤ x ^ (n + 1) * x + r ^ (n + 1) * r := by
      rcases Nat.le_total x r with hxr | hxr
      · have hp : x ^ (n + 1) ≤ r ^ (n + 1) := Nat.pow_le_pow_left hxr _
        obtain ⟨d, rfl⟩ := Nat.exists_eq_add_of_le hxr
        have := Nat.mul_le_mul_right d hp
        simp only [Nat.mul_add]; omega
      · have hp : r ^ (n + 1) ≤ x ^ (n + 1) := Nat.pow_le_pow_left hxr _
        obtain ⟨d, rfl⟩ := Nat.exists_eq_add_of_le hxr
        have := Nat.mul_le_mul_right d hp
        simp only [Nat.mul_add]; omega
    have e1 : (n + 1 + 1) * r * x ^ (n + 1) = (n + 1) * r * x ^ n * x + x ^ (n + 1) * r := by
      rw [Nat.pow_succ x n]
      generalize x ^ n = X
      rw [Nat.mul_assoc (n + 1 + 1), Nat.mul_assoc ((n + 1) * r), Nat.mul_assoc (n + 1), Nat.mul_comm (X * x) r, Nat.add_mul (n + 1) 1, Nat.one_mul]
    have e2 : (n + 1) * x ^ (n + 1 + 1) + r ^ (n + 1 + 1) = n * x ^ (n + 1) * x + x ^ (n + 1) * x + r ^ (n + 1) * r := by
      rw [Nat.pow_succ x (n + 1), Nat.pow_succ r (n + 1), Nat.add_mul, Nat.one_mul, Nat.mul_assoc n]
    rw [e1, e2]
    rw [Nat.add_mul (n * x ^ (n + 1))] at h1
    omega

theorem newton_ge {A x n r : Nat} (hx : 0 < x) (hn : 0 < n) (hr : r ^ n ≤ A) : r ≤ ((n - 1) * x + A / x ^ (n - 1)) / n := by
  obtain ⟨m, rfl⟩ : ∃ m, n = m + 1 := ⟨n - 1, by omega⟩
  simp only [Nat.add_sub_cancel]
  rw [Nat.le_div_iff_mul_le hn]
  have hp : 0 < x ^ m := Nat.pow_pos hx
  have h := amgm x r m
  by_cases hc : r * (m + 1) ≤ m * x
  · exact Nat.le_trans hc (Nat.le_add_right _ _)
  · have : r * (m + 1) - m * x ≤ A / x ^ m := by
      rw [Nat.le_div_iff_mul_le hp, Nat.sub_mul]
      have e1 : r * (m + 1) * x ^ m = (m + 1) * r * x ^ m := by rw [Nat.mul_comm r]
      have e2 : m * x * x ^ m = m * x ^ (m + 1) := by rw [Nat.pow_succ, Nat.mul_assoc, Nat.mul_comm x]
      rw [e1, e2]; omega
    omega

theorem newton_stop {A x n : Nat} (hx : 0 < x) (hn : 0 < n) (hle : x ≤ ((n - 1) * x + A / x ^ (n - 1)) / n) : x ^ n ≤ A := by
  obtain ⟨m, rfl⟩ : ∃ m, n = m + 1 := ⟨n - 1, by omega⟩
  simp only [Nat.add_sub_cancel] at hle
  rw [Nat.le_div_iff_mul_le hn] at hle
  have hp : 0 < x ^ m := Nat.pow_pos hx
  have h1 : x ≤ A / x ^ m := by
    rw [Nat.mul_add, Nat.mul_one, Nat.mul_comm x m] at hle; omega
  rw [Nat.le_div_iff_mul_le hp] at h1
  rw [Nat.pow_succ, Nat.mul_comm]; exact h1

/-- r is the root -/
def IsRoot (A n r : Nat) : Prop := r ^ n ≤ A ∧ A < (r + 1) ^ n

theorem isRoot_le {A n r s : Nat} (h : IsRoot A n r) (hs : s ^ n ≤ A) : s ≤ r := by
  apply Nat.le_of_lt_succ
  exact Nat.lt_of_not_le fun hc => by
    have h9 : (r + 1) ^ n ≤ s ^ n := Nat.pow_le_pow_left hc n
    have := h.2
    omega

theorem isRoot_of {A n x : Nat} (h1 : x ^ n ≤ A) (h2 : ∀ r, r ^ n ≤ A → r ≤ x) : IsRoot A n x := by
  refine ⟨h1, Nat.lt_of_not_le fun hc => ?_⟩
  have := h2 _ hc
  omega

theorem near_start {A n half s : Nat} (hs : IsRoot (A / 2 ^ (n * half)) n s) : A < ((s + 1) * 2 ^ half) ^ n := by
  have h := hs.2
  rw [Nat.mul_pow, ← Nat.pow_mul, Nat.mul_comm half n]
  have hp : 0 < 2 ^ (n * half) := Nat.pow_pos (by decide)
  rwa [Nat.div_lt_iff_lt_mul hp] at h

theorem near_small {A n half s : Nat} (hs : IsRoot (A / 2 ^ (n * half)) n s) (h1 : 1 ≤ s) : ((s + 1) * 2 ^ half) ^ n ≤ 2 ^ n * A := by
  have h := hs.1
  have hp : 0 < 2 ^ (n * half) := Nat.pow_pos (by decide)
  rw [Nat.le_div_iff_mul_le hp] at h
  calc ((s + 1) * 2 ^ half) ^ n ≤ (2 * s * 2 ^ half) ^ n := Nat.pow_le_pow_left (Nat.mul_le_mul_right _ (by omega)) _
    _ = 2 ^ n * (s ^ n * 2 ^ (n * half)) := by rw [Nat.mul_pow, Nat.mul_pow, ← Nat.pow_mul, Nat.mul_comm half n, Nat.mul_assoc]
    _ ≤ 2 ^ n * A := Nat.mul_le_mul_left _ h
def srOf (part x next : Nat) : Nat := ((next * B32 + x) / 2 ^ part) % B32
def srLimb (xs : List Nat) (part i next : Nat) : Nat := srOf part (xs[i]?.getD 0) next
def srStep (xs : List Nat) (part : Nat) (st : List Nat) (p : Nat × Nat) : List Nat := st.set p.1 (srLimb xs part p.1 p.2)
def srFold (xs : List Nat) (part : Nat) (ps : List (Nat × Nat)) : List Nat := ps.foldl (srStep xs part) (List.replicate xs.length 0)
theorem srFold_snoc (xs : List Nat) (part : Nat) (ps : List (Nat × Nat)) (p : Nat × Nat) : srFold xs part (ps ++ [p]) = srStep xs part (srFold xs part ps) p := by
  simp [srFold, List.foldl_append]
theorem srFold_length (xs : List Nat) (part : Nat) (ps : List (Nat × Nat)) : (srFold xs part ps).length = xs.length := by
  unfold srFold
  generalize hz : List.replicate xs.length 0 = z
  have hl : z.length = xs.length := by rw [← hz]; simp
  clear hz
  induction ps generalizing z with
  | nil => simpa using hl
  | cons p ps ih => exact ih _ (by simp [srStep, hl])
theorem srFold_limbs (xs : List Nat) (part : Nat) (ps : List (Nat × Nat)) : Limbs (srFold xs part ps) := by
  unfold srFold
  generalize hz : List.replicate xs.length 0 = z
  have hl : Limbs z := by rw [← hz]; exact limbs_zeros _
  clear hz
  induction ps generalizing z with
  | nil => exact hl
  | cons p ps ih => exact ih _ (limbs_set hl _ (Nat.mod_lt _ B32_pos))
def mapNext (g : Nat → Nat → Nat) : List Nat → List Nat
  | [] => []
  | x :: rest => g x (rest[0]?.getD 0) :: mapNext g rest
theorem mapNext_eq (g : Nat → Nat → Nat) : ∀ xs : List Nat, mapNext g xs = (List.range xs.length).map (fun i => g (xs[i]?.getD 0) (xs.tail[i]?.getD 0))
  | [] => rfl
  | x :: rest => by
    rw [mapNext, mapNext_eq g rest, List.length_cons, List.range_succ_eq_map, List.map_cons, List.map_map]
    refine List.cons_eq_cons.2 ⟨by simp only [List.tail_cons, List.getElem?_cons_zero, Option.getD_some], ?_⟩
    apply List.map_congr_left
    intro i _
    simp only [Function.comp, List.tail_cons, List.getElem?_cons_succ, Nat.succ_eq_add_one, List.getElem?_tail]
theorem srFold_part (xs : List Nat) (part : Nat) : ∀ k, k ≤ xs.length → srFold xs part (limbPairs xs.tail k) = (List.range k).map (fun i => srLimb xs part i (xs.tail[i]?.getD 0)) ++ List.replicate (xs.length - k) 0 := by
  intro k
  induction k with
  | zero => intro _; simp [srFold, limbPairs]
  | succ k ih =>
    intro hk
    rw [limbPairs_succ, srFold_snoc, ih (by omega), srStep, List.range_succ, List.map_append]
    obtain ⟨m, hm⟩ : ∃ m, xs.length - k = m + 1 := ⟨xs.length - k - 1, by omega⟩
    have hm2 : xs.length - (k + 1) = m := by omega
    rw [hm, hm2, List.set_append_right _ _ (by simp), List.replicate_succ]
    simp
theorem sr_carry {x V p : Nat} (hx : x < B32) (hp : p < 32) : (x + B32 * V) / 2 ^ p = ((V % B32 * B32 + x) / 2 ^ p) % B32 + B32 * (V / 2 ^ p) := by
  have hpp : 0 < 2 ^ p := Nat.pow_pos (by decide)
  have hdm := Nat.div_add_mod V (2 ^ p)
  have hlt := Nat.mod_lt V hpp
  generalize hq : V / 2 ^ p = q at *
  generalize hr : V % 2 ^ p = r at *
  have e1 : x + B32 * V = (x + B32 * r) + 2 ^ p * (B32 * q) := by
    rw [← hdm, Nat.mul_add, Nat.mul_left_comm]; omega
  have hb : (x + B32 * r) / 2 ^ p < B32 := by
    rw [Nat.div_lt_iff_lt_mul hpp]
    have h1 : B32 * (r + 1) ≤ B32 * 2 ^ p := Nat.mul_le_mul_left _ hlt
    rw [Nat.mul_add] at h1; omega
  obtain ⟨c, hc⟩ : ∃ c, B32 = 2 ^ p * c := ⟨2 ^ (32 - p), by rw [← Nat.pow_add, show p + (32 - p) = 32 by omega]; rfl⟩
  have hm : V % B32 % 2 ^ p = r := by rw [← hr, hc, Nat.mod_mul_right_mod]
  have hdm2 := Nat.div_add_mod (V % B32) (2 ^ p)
  rw [hm] at hdm2
  generalize V % B32 / 2 ^ p = s at hdm2
  have e2 : V % B32 * B32 + x = (x + B32 * r) + 2 ^ p * (B32 * s) := by
    rw [← hdm2, Nat.mul_comm (2 ^ p * s + r), Nat.mul_add, Nat.mul_left_comm]; omega
  rw [e1, e2, Nat.add_mul_div_left _ _ hpp, Nat.add_mul_div_left _ _ hpp, Nat.add_mul_mod_self_left, Nat.mod_eq_of_lt hb]
theorem val_mod (xs : List Nat) (h : Limbs xs) : val xs % B32 = xs[0]?.getD 0 := by
  cases xs with
  | nil => rfl
  | cons x rest => simp only [val, List.getElem?_cons_zero, Option.getD_some]; rw [Nat.add_mul_mod_self_left, Nat.mod_eq_of_lt (h x (by simp))]
theorem val_srL {part : Nat} (hp : part < 32) : ∀ xs : List Nat, Limbs xs → val (mapNext (srOf part) xs) = val xs / 2 ^ part
  | [], _ => by simp [mapNext, val]
  | x :: rest, h => by
    have hr : Limbs rest := fun y hy => h y (by simp [hy])
    rw [mapNext, val, val, srOf, sr_carry (h x (by simp)) hp, val_mod rest hr, val_srL hp rest hr]
theorem srFold_end {part : Nat} (hp : part < 32) {xs : List Nat} (h : Limbs xs) : val (srFold xs part (limbPairs xs.tail xs.length)) = val xs / 2 ^ part := by
  rw [srFold_part xs part _ (Nat.le_refl _), Nat.sub_self, List.replicate_zero, List.append_nil, show (fun i => srLimb xs part i (xs.tail[i]?.getD 0)) = fun i => srOf part (xs[i]?.getD 0) (xs.tail[i]?.getD 0) from rfl, ← mapNext_eq, val_srL hp _ h]

theorem bitLen_bounds {x : Nat} (h0 : x ≠ 0) (h : x < B32) : 1 ≤ Lib.bitLen x ∧ Lib.bitLen x ≤ 32 ∧ 2 ^ (Lib.bitLen x - 1) ≤ x ∧ x < 2 ^ Lib.bitLen x := by
  have h1 : x < 2 ^ 32 := h
  obtain ⟨a, b, c⟩ := Lib.bitLenAux_bounds 64 x (Nat.lt_of_lt_of_le h1 (by decide)) h0
  exact ⟨a, Lib.bitLen_le x 32 (by decide) h1, b, c⟩
theorem bitsOf_bounds {xs : List Nat} (hk : Canon xs) (hx : xs ≠ []) : 1 ≤ bitsOf xs ∧ 2 ^ (bitsOf xs - 1) ≤ val xs ∧ val xs < 2 ^ bitsOf xs := by
  have hl : 0 < xs.length := List.length_pos_iff.2 hx
  have htop := canon_last hk hx
  have htb := limb_getD hk.1 (xs.length - 1)
  obtain ⟨b1, b2, b3, b4⟩ := bitLen_bounds htop htb
  have hv : val xs = val (xs.take (xs.length - 1)) + B32 ^ (xs.length - 1) * xs[xs.length - 1]?.getD 0 := by
    have := val_take_succ xs (xs.length - 1)
    rwa [show xs.length - 1 + 1 = xs.length by omega, List.take_length] at this
  have hlow : val (xs.take (xs.length - 1)) < B32 ^ (xs.length - 1) := by
    have := val_lt (limbs_take hk.1 (xs.length - 1))
    rwa [List.length_take, show min (xs.length - 1) xs.length = xs.length - 1 by omega] at this
  have hb : bitsOf xs = 32 * (xs.length - 1) + Lib.bitLen (xs[xs.length - 1]?.getD 0) := by rw [bitsOf, if_neg (by omega)]
  rw [hb]
  generalize Lib.bitLen (xs[xs.length - 1]?.getD 0) = L at *
  generalize xs[xs.length - 1]?.getD 0 = t at *
  generalize val (xs.take (xs.length - 1)) = v at *
  generalize xs.length - 1 = n at *
  refine ⟨by omega, ?_, ?_⟩
  · rw [show 32 * n + L - 1 = 32 * n + (L - 1) by omega, Nat.pow_add, ← B32_pow, hv]
    have := Nat.mul_le_mul_left (B32 ^ n) b3
    omega
  · rw [Nat.pow_add, ← B32_pow, hv]
    have h1 : B32 ^ n * (t + 1) ≤ B32 ^ n * 2 ^ L := Nat.mul_le_mul_left _ b4
    rw [Nat.mul_add] at h1
    omega

end Go.Proofs.YtlghjfpkfdnfoaaGreatDoor

/- num.Pow -/
namespace Go.Proofs.YtlghjfpkfdnfoaaGreatDoor
open Go Go.RowKit Go.Shelf

set_option maxHeartbeats 1000000 in
set_option maxRecDepth 100000 in
theorem pow1_no (B : Nat) (na : Bool) (aa : Option Addr) (ca : Nat) (xa : List Nat) (w : World) (hra : RowAt w B 24 [.bool na, .slice aa xa.length ca]) (ha : Reads .u32 w (.slice aa xa.length ca) xa) (hla : Limbs xa) (fa : formedB na xa = false) :
    Calls Tryz.prog 48 #[.pointer (some ⟨B, 0, none⟩), .pointer (some ⟨B + 1, 0, none⟩), .pointer (some ⟨B + 2, 0, none⟩)] w fun e w' => Below w.heap.size w w' ∧ e = .panicked [{ v := .iface 27 (.int .i64 1), recovered := false }] := by
  have a0 := hra.cell 0
  have a1 := hra.cell 1
  simp only [List.getElem?_cons_zero, List.getElem?_cons_succ] at a0 a1
  have r0' := RowAt.new w 24 [.bool na, .slice aa xa.length ca]
  have bw := (Below.refl w.heap.size w).alloc (Nat.le_refl _) (.cells #[.bool na, .slice aa xa.length ca] 24)
  go_enter Tryz.func48, Tryz.ntmps48
  go_wp2_with (go_at_call 24; refine (demand1_no _ na aa ca xa _ r0' (ha.below bw) hla fa).mono ?_; rintro e w1 ⟨hbe1, rfl⟩; have bw1 := bw.trans (hbe1.mono (by simp)))
  exact ⟨rfl, bw1, rfl⟩

set_option maxHeartbeats 1000000 in
set_option maxRecDepth 100000 in
theorem pow1_arg (B : Nat) (na : Bool) (aa : Option Addr) (ca : Nat) (xa : List Nat) (n : Int) (w : World) (hra : RowAt w B 24 [.bool na, .slice aa xa.length ca]) (hrn : RowAt w (B + 1) 3 [.int .i64 n]) (ha : Reads .u32 w (.slice aa xa.length ca) xa) (hla : Limbs xa) (fa : formedB na xa = true) (hn : ¬ (0 ≤ n ∧ n ≤ 9600)) :
    Calls Tryz.prog 48 #[.pointer (some ⟨B, 0, none⟩), .pointer (some ⟨B + 1, 0, none⟩), .pointer (some ⟨B + 2, 0, none⟩)] w fun e w' => Below w.heap.size w w' ∧ e = .panicked [{ v := .iface 27 (.int .i64 1), recovered := false }] := by
  have a0 := hra.cell 0
  have a1 := hra.cell 1
  have n0 := hrn.cell 0
  simp only [List.getElem?_cons_zero, List.getElem?_cons_succ] at a0 a1 n0
  have r0' := RowAt.new w 24 [.bool na, .slice aa xa.length ca]
  have bw := (Below.refl w.heap.size w).alloc (Nat.le_refl _) (.cells #[.bool na, .slice aa xa.length ca] 24)
  have HN := Lib.hid hn
  clear hn
  go_enter Tryz.func48, Tryz.ntmps48
  go_wp2_with (first | (go_at_call 24; refine (demand1_ok _ na aa ca xa _ r0' (ha.below bw) hla fa).mono ?_; rintro e w1 ⟨hbe1, rfl⟩; have bw1 := bw.trans (hbe1.mono (by simp)); have p1 := (hrn.below bw1).cell 0; simp only [List.getElem?_cons_zero] at p1) | (go_at_call 45; refine (demand_no _ _ _ (by first | rfl | (have := HN.out; simp; omega))).mono ?_; rintro e w2 ⟨rfl, rfl⟩))
  all_goals exact ⟨rfl, bw1, rfl⟩

/-- what stays on the way through the closure's last statement -/
structure PowS (w : World) (B : Nat) (na : Bool) (aa : Option Addr) (xa : List Nat) (ca : Nat) (n : Int) (X : World) : Prop where
  a : RowAt X B 24 [.bool na, .slice aa xa.length ca]
  ra : Reads .u32 X (.slice aa xa.length ca) xa
  n : RowAt X (B + 1) 3 [.int .i64 n]
  chg : Chg (fun k => k = B + 2) w X
  res : ∃ r0 r1 r2 r3, RowAt X (B + 2) 24 [.bool r0, .slice r1 r2 r3]
@[reducible] def PowC (w : World) (B : Nat) (na : Bool) (aa : Option Addr) (xa : List Nat) (ca : Nat) (n : Int) (X : World) : Prop :=
  X.cell? ⟨B, 0, none⟩ = some (.bool na) ∧ X.cell? ⟨B, 1, none⟩ = some (.slice aa xa.length ca) ∧ X.cell? ⟨B + 1, 0, none⟩ = some (.int .i64 n) ∧ PowS w B na aa xa ca n X
section
variable {w X : World} {B : Nat} {na : Bool} {aa : Option Addr} {xa : List Nat} {ca : Nat} {n : Int}
theorem pow_of (h : PowS w B na aa xa ca n X) : PowC w B na aa xa ca n X := ⟨h.a.cell 0, h.a.cell 1, h.n.cell 0, h⟩
theorem pow_drew (h : PowS w B na aa xa ca n X) : PowC w B na aa xa ca n X.drew := pow_of ⟨h.a, h.ra, h.n, h.chg.drew, h.res⟩
theorem pow_step {X' : World} (h : PowS w B na aa xa ca n X) (hb : Below X.heap.size X X') : PowC w B na aa xa ca n X' :=
  pow_of ⟨h.a.below hb, h.ra.below hb, h.n.below hb, h.chg.thenBelow hb, (by obtain ⟨r0, r1, r2, r3, hr⟩ := h.res; exact ⟨r0, r1, r2, r3, hr.below hb⟩)⟩
theorem pow_store (h : PowS w B na aa xa ca n X) (x : Bool) (b : Option Addr) (m c : Nat) : PowC w B na aa xa ca n ((X.setCell ⟨B + 2, 0, none⟩ (.bool x)).setCell ⟨B + 2, 1, none⟩ (.slice b m c)) :=
  pow_of ⟨(h.a.other (by simp) _).other (by simp) _, (by obtain ⟨r0, r1, r2, r3, hr⟩ := h.res; exact two_kept (b := B + 2) h.ra (hr.cell 0) (hr.cell 1) _ _), (h.n.other (by simp) _).other (by simp) _, (h.chg.setCell (.inl rfl) _).setCell (.inl rfl) _, (by obtain ⟨r0, r1, r2, r3, hr⟩ := h.res; exact ⟨x, b, m, c, (hr.set 0 (.bool x)).set 1 (.slice b m c)⟩)⟩
theorem pow_cells (h : PowS w B na aa xa ca n X) : ∃ r0 r1 r2 r3, X.cell? ⟨B + 2, 0, none⟩ = some (.bool r0) ∧ X.cell? ⟨B + 2, 1, none⟩ = some (.slice r1 r2 r3) ∧ X.frozen? ⟨B + 2, 0, none⟩ = false ∧ X.frozen? ⟨B + 2, 1, none⟩ = false ∧ RowAt X (B + 2) 24 [.bool r0, .slice r1 r2 r3] := by
  obtain ⟨r0, r1, r2, r3, hr⟩ := h.res
  exact ⟨r0, r1, r2, r3, hr.cell 0, hr.cell 1, hr.frozen 0, hr.frozen 1, hr⟩
end

set_option maxHeartbeats 1000000 in
set_option maxRecDepth 100000 in
theorem pow1_ok (B : Nat) (aa : Option Addr) (ca : Nat) (xa : List Nat) (n : Nat) (r0 : Bool) (r1 : Option Addr) (r2 r3 : Nat) (K : Nat) (hT : TimesUpTo K) (hK : 0 < K) (w : World) (hra : RowAt w B 24 [.bool false, .slice aa xa.length ca]) (hrn : RowAt w (B + 1) 3 [.int .i64 n]) (hrr : RowAt w (B + 2) 24 [.bool r0, .slice r1 r2 r3])
    (ha : Reads .u32 w (.slice aa xa.length ca) xa) (hka : Canon xa) (fa : formedB false xa = true) (hn : n ≤ 9600) (hxl : xa.length ≤ 300) (hnear : ((bitsOf xa : Int) - 1) * n < 9600) (hbb : bitsOf xa ≤ 9600) (hfitK : val xa ^ n < B32 ^ K) (hfit : val xa ^ n < B32 ^ 300) :
    Calls Tryz.prog 48 #[.pointer (some ⟨B, 0, none⟩), .pointer (some ⟨B + 1, 0, none⟩), .pointer (some ⟨B + 2, 0, none⟩)] w fun e w' => e = .returned (.tuple #[]) ∧ Chg (fun k => k = B + 2) w w' ∧ ∃ m a l c, RowAt w' (B + 2) 24 [.bool m, .slice a l c] ∧ IsInt w' (.agg #[.bool m, .slice a l c]) (sgn false (val xa) ^ n) := by
  have a0 := hra.cell 0
  have a1 := hra.cell 1
  have n0 := hrn.cell 0
  simp only [List.getElem?_cons_zero, List.getElem?_cons_succ] at a0 a1 n0
  have hla := hka.1
  have r0' := RowAt.new w 24 [.bool false, .slice aa xa.length ca]
  have bw := (Below.refl w.heap.size w).alloc (Nat.le_refl _) (.cells #[.bool false, .slice aa xa.length ca] 24)
  have hbl := fun W (h : Below w.heap.size w W) => bitLen_any (.slice aa xa.length ca) xa W (ha.below h) hla (by omega)
  obtain ⟨P, hP⟩ : ∃ P : Int, ((bitsOf xa : Int) - 1) * n = P := ⟨_, rfl⟩
  have hPb : -9600 ≤ P := by
    rw [← hP]
    have h1 : (-1 : Int) * n ≤ ((bitsOf xa : Int) - 1) * n := Int.mul_le_mul_of_nonneg_right (by omega) (by omega)
    omega
  rw [hP] at hnear
  have hPw : IntKind.i64.wrap P = P := by rw [IntKind.wrap_i64]; omega
  have HF := Lib.hid hfit
  have HK := Lib.hid hfitK
  clear hfit hfitK
  go_enter Tryz.func48, Tryz.ntmps48
  go_wp2_with (first
    | (go_at_call 24; refine (demand1_ok _ false aa ca xa _ r0' (ha.below bw) hla fa).mono ?_; rintro e w1 ⟨hbe1, rfl⟩; have bw1 := bw.trans (hbe1.mono (by simp)); have p0 := (hra.below bw1).cell 0; have p2 := (hra.below bw1).cell 1; have p1 := (hrn.below bw1).cell 0; simp only [List.getElem?_cons_zero, List.getElem?_cons_succ] at p0 p1 p2)
    | (go_at_call 45; refine (demand_ok _ _ _ (by simp; omega)).mono ?_; rintro e w2 ⟨rfl, rfl⟩))
  go_quiet (first
    | (go_at_call 49; exact (bitLen_any (.slice aa xa.length ca) xa _ ((ha.below bw1).drewN _) hla (by omega)).mono (fun e w' ⟨h1, h2⟩ => ⟨h2, _, h1.symm⟩))
    | (go_at_call 45; exact (demand_ok _ _ _ (by first | rfl | (simp; omega))).mono (fun e w' ⟨h1, h2⟩ => ⟨h2, _, h1.symm⟩)))
  have hS : PowS w B false aa xa ca n (w1.drewN nq) := by
    have h1 : Below w.heap.size w (w1.drewN nq) := ⟨bw1.os, bw1.tape, bw1.output, bw1.size, bw1.block⟩
    exact ⟨hra.below h1, ha.below h1, hrn.below h1, (Chg.refl (fun k => k = B + 2) w).thenBelow h1, ⟨r0, r1, r2, r3, hrr.below h1⟩⟩
  generalize w1.drewN nq = W2 at *
  clear hra hrn hrr hbl hP hPw hPb hnear a0 a1 n0 r0' bw bw1 hbe1 p0 p1 p2 hbb ha
  have hD := Lib.hid (pow_drew hS)
  obtain ⟨d1, d2, d3, -⟩ := pow_of hS
  clear hS
  go_wp2_with fail
  refine wp_region_held_drew (S := (fun X => X.cell? ⟨B, 0, none⟩ = some (.bool false) ∧ X.cell? ⟨B, 1, none⟩ = some (.slice aa xa.length ca) ∧ X.cell? ⟨B + 1, 0, none⟩ = some (.int .i64 n) ∧ PowS w B false aa xa ca n X)) (by kernel_rfl) hD.out (fun hHeld => ?_)
  refine wpAnyH_take (i := 0) (oi := _) (v := .pointer (some ⟨B, 0, none⟩)) rfl (by kernel_rfl) (by kernel_rfl) (by kernel_rfl) (fun _ _ _ h => h) (Or.inl ⟨by rfl, fun w hSw => by dsimp only at hSw; go_simp⟩) (by assumption) ?_
  refine wpAnyH_take (i := 1) (oi := _) (v := .bool false) rfl (by kernel_rfl) (by kernel_rfl) (by kernel_rfl) (fun _ _ _ h => h) (Or.inl ⟨by rfl, fun w hSw => by dsimp only at hSw; go_simp⟩) (by assumption) ?_
  refine wpAnyH_take (i := 2) (oi := _) (v := .bool false) rfl (by kernel_rfl) (by kernel_rfl) (by kernel_rfl) (fun _ _ _ h => h) (Or.inl ⟨by rfl, fun w hSw => by dsimp only at hSw; go_simp⟩) (by assumption) ?_
  refine wpAnyH_take (i := 3) (oi := _) (v := undef) rfl (by kernel_rfl) (by kernel_rfl) (by kernel_rfl) (fun _ _ _ h => h) (Or.inr ⟨by rfl, rfl⟩) (by assumption) ?_
  refine wpAnyH_take (i := 4) (oi := _) (v := undef) rfl (by kernel_rfl) (by kernel_rfl) (by kernel_rfl) (fun _ _ _ h => h) (Or.inr ⟨by rfl, rfl⟩) (by assumption) ?_
  refine wpAnyH_take (i := 5) (oi := _) (v := undef) rfl (by kernel_rfl) (by kernel_rfl) (by kernel_rfl) (fun _ _ _ h => h) (Or.inr ⟨by rfl, rfl⟩) (by assumption) ?_
  refine wpAnyH_take (i := 6) (oi := _) (v := .bool false) rfl (by kernel_rfl) (by kernel_rfl) (by kernel_rfl) (fun _ _ _ h => h) (Or.inl ⟨by rfl, fun w hSw => by dsimp only at hSw; go_simp⟩) (by assumption) ?_
  refine wpAnyH_take (i := 7) (oi := _) (v := .pointer (some ⟨B, 1, none⟩)) rfl (by kernel_rfl) (by kernel_rfl) (by kernel_rfl) (fun _ _ _ h => h) (Or.inl ⟨by rfl, fun w hSw => by dsimp only at hSw; go_simp⟩) (by assumption) ?_
  refine wpAnyH_take (i := 8) (oi := _) (v := .slice aa xa.length ca) rfl (by kernel_rfl) (by kernel_rfl) (by kernel_rfl) (fun _ _ _ h => h) (Or.inl ⟨by rfl, fun w hSw => by dsimp only at hSw; go_simp⟩) (by assumption) ?_
  refine wpAnyH_take (i := 9) (oi := _) (v := .int .i64 n) rfl (by kernel_rfl) (by kernel_rfl) (by kernel_rfl) (fun _ _ _ h => h) (Or.inl ⟨by rfl, fun w hSw => by dsimp only at hSw; go_simp⟩) (by assumption) ?_
  simp only [Act.put, List.setIfInBounds_toArray]
  refine wpAnyH_ready (rs := [10]) (by kernel_rfl) (by simp) ?_
  refine AllReadyH.cons (o := _) rfl (fun K9 hK9 => ?_) AllReadyH.nil
  rw [if_pos (by rfl)]
  obtain ⟨-, -, -, hP1⟩ := hHeld
  go_wp2_with (go_at_call 52; refine (power_any K hT hK _ xa n _ hP1.ra hka hn HK.out).mono ?_; rintro e w9 ⟨hbe, v, cs, rfl, h1, k1, e1⟩; obtain ⟨a3, c3, rfl, hc3, hm3⟩ := h1.form)
  refine hK9.out _ _ ?_ (fun hHeld => ?_)
  · exact pow_step hP1 hbe
  clear hK9 K9
  refine wpAnyH_ready (rs := [11]) (by kernel_rfl) (by simp) ?_
  refine AllReadyH.cons (o := _) rfl (fun K9 hK9 => ?_) AllReadyH.nil
  rw [if_pos (by rfl)]
  obtain ⟨-, -, -, hP2⟩ := hHeld
  go_wp2_with (go_at_call 51; refine (signed_any _ _ _ _ _).mono ?_; rintro e w10 ⟨hbe2, rfl⟩)
  refine hK9.out _ _ ?_ (fun hHeld => ?_)
  · exact pow_step hP2 hbe2
  clear hK9 K9
  refine wpAnyH_ready (rs := [12]) (by kernel_rfl) (by simp) ?_
  refine AllReadyH.cons (o := _) rfl (fun K9 hK9 => ?_) AllReadyH.nil
  rw [if_pos (by rfl)]
  obtain ⟨-, -, -, hP3⟩ := hHeld
  go_wp2_with (go_at_call 50; refine (fitting_any _ _ _ _ _ (by rw [canon_length_iff k1, e1]; exact HF.out)).mono ?_; rintro e w11 ⟨hbe3, rfl⟩)
  refine hK9.out _ _ ?_ (fun hHeld => ?_)
  · exact pow_step hP3 hbe3
  clear hK9 K9
  refine wpAnyH_ready (rs := [13]) (by kernel_rfl) (by simp) ?_
  refine AllReadyH.cons (o := _) rfl (fun K9 hK9 => ?_) AllReadyH.nil
  rw [if_pos (by rfl)]
  obtain ⟨-, -, -, hP4⟩ := hHeld
  obtain ⟨u0, u1, u2, u3, q1, q2, q3, q4, q5⟩ := pow_cells hP4
  go_wp2_with fail
  refine hK9.out _ _ ?_ (fun hHeld => ?_)
  · exact pow_store hP4 _ _ _ _
  clear hK9 K9
  refine wpAnyH_done (by kernel_rfl) ?_ _
  obtain ⟨-, -, -, hP5⟩ := hHeld
  go_end0
  exact ⟨rfl, hP5.chg, false, a3, cs.length, c3, (q5.set 0 (.bool false)).set 1 (.slice a3 cs.length c3), false, _, cs, rfl, two_kept (b := B + 2) ((h1.below hbe2).below hbe3) q1 q2 _ _, k1, rfl, by rw [e1]; simp [sgn]⟩

end Go.Proofs.YtlghjfpkfdnfoaaGreatDoor

/- num.shiftLeft -/
namespace Go.Proofs.YtlghjfpkfdnfoaaGreatDoor
open Go Go.RowKit Go.Shelf
attribute [local go_sem] Oper.semAt_some

theorem or_word {c y part : Nat} (hc : c < 2 ^ part) (hy : y < 4294967296) (hp : part < 32) :
    bits BinOp.or IntKind.u64 (c : Int) (IntKind.u64.wrap (IntKind.u64.wrap (y : Int) * 2 ^ part)) = ((c + y * 2 ^ part : Nat) : Int) := by
  have h2 : 2 ^ part ≤ 2 ^ 31 := Nat.pow_le_pow_right (by omega) (by omega)
  have h3 : y * 2 ^ part ≤ 4294967295 * 2 ^ 31 := Nat.mul_le_mul (by omega) h2
  have e1 : IntKind.u64.wrap (y : Int) = (y : Int) := by rw [IntKind.wrap_u64]; omega
  have e2 : IntKind.u64.wrap ((y : Int) * 2 ^ part) = ((y * 2 ^ part : Nat) : Int) := by
    rw [IntKind.wrap_u64, show ((y : Int) * 2 ^ part) = ((y * 2 ^ part : Nat) : Int) by simp]
    omega
  rw [e1, e2, bits_or_u64_nat _ _ (by omega) (by omega), Nat.or_comm, ← Nat.shiftLeft_eq, ← Nat.shiftLeft_add_eq_or_of_lt hc, Nat.add_comm, Nat.shiftLeft_eq]

set_option maxHeartbeats 2000000 in
set_option maxRecDepth 100000 in
theorem shiftLeft_any (va : Value) (xa : List Nat) (n : Nat) (w : World) (ha : Reads .u32 w va xa) (hla : Limbs xa) (na : xa.length ≤ 100000) (hn : n ≤ 3200000) :
    Calls Tryz.prog 101 #[va, .int .i64 (n : Int)] w fun e w' => Below w.heap.size w w' ∧ ∃ v cs, e = .returned v ∧ Reads .u32 w' v cs ∧ Canon cs ∧ val cs = val xa * 2 ^ n := by
  obtain ⟨aa, ca, rfl, hca, hma⟩ := ha.form
  unfold maxLen at hma
  obtain ⟨whole, hwh⟩ : ∃ q, n / 32 = q := ⟨_, rfl⟩
  obtain ⟨part, hpt⟩ : ∃ q, n % 32 = q := ⟨_, rfl⟩
  have hp32 : part < 32 := by omega
  have hw32 : whole ≤ 100000 := by omega
  have hnn : n = 32 * whole + part := by omega
  have e1 : (n : Int) / 32 = (whole : Int) := by omega
  have e2 : (n : Int) % 32 = (part : Int) := by omega
  have HNN := Lib.hid hnn
  clear hnn hwh hpt
  obtain ⟨inf, hi, hzz⟩ := Option.map_eq_some_iff.1 info_limb
  simp only [Prod.mk.injEq] at hzz
  obtain ⟨hz0, hz1, hz2⟩ := hzz
  refine (callsIn_wide (n := 9)).1 ?_
  refine callsIn_of_wp_marks Tryz.func101 rfl trivial ?_ rfl
  simp only [Tryz.ntmps101, List.size_toArray, List.length_cons, List.length_nil, Nat.reduceAdd, Nat.reduceSub, Array.replicate_succ, Array.replicate_zero, List.push_toArray, List.append_toArray, List.nil_append, List.cons_append]
  have hmk : ∀ w, (Instr.makeSlice 22 (.int .i64 (whole : Int)) (.int .i64 ((whole : Int) + (xa.length : Int) + 1))).run Tryz.prog w = .ok (.slice (some ⟨w.heap.size, 0, none⟩) whole (whole + xa.length + 1)) (w.alloc (.cells (zeros (whole + xa.length + 1)) 52)) := fun w => by
    have := make_limbs (whole : Int) ((whole : Int) + (xa.length : Int) + 1) (by omega) (by omega) (by omega) w
    rw [this, show ((whole : Int) + (xa.length : Int) + 1).toNat = whole + xa.length + 1 by omega]; simp
  gi_wp2_with (refine ⟨trivial, ?_⟩; gi_at_call 90; refine (callsIn_wide.2 (limbs_any _ _ _ ⟨_, _, _, rfl⟩)).mono ?_; rintro e w' ⟨rfl, rfl⟩)
  clear hmk
  have r0 := make_limbs_own2 (w.alloc (.cells #[.int .i64 (part : Int)] 3)) w.heap.size whole (whole + xa.length + 1) (by omega) (by simp) (by omega)
  have r1 := (((r0.alloc (.cells #[.slice (some ⟨w.heap.size + 1, 0, none⟩) whole (whole + xa.length + 1)] 22)).alloc (.cells #[.int .u64 0] 77)).alloc (.cells #[.slice aa xa.length ca] 22)).alloc (.cells #[.int .i64 ((xa.length : Int) + 1)] 3)
  rw [show (w.alloc (.cells #[.int .i64 (part : Int)] 3)).heap.size = w.heap.size + 1 by simp] at r1
  clear r0
  have b0 : Below w.heap.size w w := Below.refl _ _
  refine range_limbs 27 10 (w.heap.size + 5) (w.heap.size + 4) w.heap.size (xa.length + 1) (.slice aa xa.length ca) xa (by exact rfl) hla (by omega) (by simp) (by simp) (by simp; omega) ?m1 ?m2 (ha.below ?m3) ha.lt
    (fun pre W => ∃ v, Boxed W (w.heap.size + 2) 22 v ∧ W.ownsRow w.heap.size 52 1 v (whole + pre.length) (enc32 (slFold whole part (pre.map (·.1))).1) ∧ Boxed W (w.heap.size + 3) 77 (.int .u64 ((slFold whole part (pre.map (·.1))).2 : Int)) ∧
      Boxed W (w.heap.size + 4) 22 (.slice aa xa.length ca) ∧ Boxed W w.heap.size 3 (.int .i64 (part : Int)) ∧ Below w.heap.size w W)
    (fun _ _ _ => False)
    (ownFrom_ex fun v => (ownFrom_boxed _ _ _).and ((ownFrom_row _ _ _ _ _ _).and ((ownFrom_boxed _ _ _).and ((ownFrom_boxed _ _ _).and ((ownFrom_boxed _ _ _).and (ownFrom_below (Nat.le_refl _) ?mB))))))
    (fun _ _ _ _ _ h _ _ => h.elim) ?start ?assign ?body ?done ?stop
  case mB => simp; omega
  case m1 => go_simp
  case m2 => go_simp
  case m3 => exact (((((b0.alloc (Nat.le_refl _) _).alloc (by simp) _).alloc (by simp; omega) _).alloc (by simp; omega) _).alloc (by simp; omega) _).alloc (by simp; omega) _
  case start =>
    refine ⟨_, ?_, by simpa [slFold, enc32] using r1, ?_, ?_, ?_, ?_⟩
    · exact Boxed.at ((((Boxed.new _ _ _).alloc _).alloc _).alloc _) (by simp)
    · exact Boxed.at (((Boxed.new _ _ _).alloc _).alloc _) (by simp)
    · exact Boxed.at ((Boxed.new _ _ _).alloc _) (by simp)
    · exact (((((Boxed.new _ _ _).alloc _).alloc _).alloc _).alloc _).alloc _
    · exact (((((b0.alloc (Nat.le_refl _) _).alloc (by simp) _).alloc (by simp; omega) _).alloc (by simp; omega) _).alloc (by simp; omega) _).alloc (by simp; omega) _
  case assign =>
    intro l x W K hK
    gi_wp2
    exact hK
  case body =>
    rintro l pre x W ⟨v, bv, rv, bc, bs, bl, bw⟩ hlt
    have hbB := bw.size
    obtain ⟨⟨i, y⟩, hi1, hi2⟩ := x
    have hps : ∀ p ∈ pre.map (·.1), p.2 < B32 := fun p hp => by
      obtain ⟨q, _, rfl⟩ := List.mem_map.1 hp
      exact q.2.2
    have hcle := (slFold_limbs whole (part := part) (pre.map (·.1)) hps).2
    have hnext := slFold_snoc whole part (pre.map (·.1)) (i, y)
    have hmap : (pre ++ [(⟨(i, y), hi1, hi2⟩ : IdxLimb (xa.length + 1))]).map (·.1) = pre.map (·.1) ++ [(i, y)] := by simp
    generalize hst : slFold whole part (pre.map (·.1)) = st at *
    obtain ⟨r, c⟩ := st
    simp only [slStep] at hnext
    dsimp only at *
    clear hst hps
    have hm := sl_bound hcle hi2
    have HN := Lib.hid hnext
    have HM := Lib.hid hmap
    clear hnext hmap
    unfold B32 at hi2
    have hbc := bc.cell
    have hfc := bc.frozen
    have hbv := bv.cell
    have hfv := bv.frozen
    have hcf := bl.cell
    have hbW := bv.lt
    have HCL := Lib.hid hcle
    have HMM := Lib.hid hm
    clear hcle hm
    simp only [boundFrame]
    gi_wp2_with fail
    refine region_tail (.inr ⟨_, rfl⟩) 6 (by kernel_rfl) (by kernel_rfl) ?_
    simp only [List.take_succ_cons, List.take_zero, List.drop_succ_cons, List.drop_zero]
    repeat still_step
    refine wpStill_nil ?_
    change wpListIn _ _ _ _ _ _ _ W.drew
    rw [or_word HCL.out hi2 hp32]
    obtain ⟨T, hT⟩ : ∃ T, c + y * 2 ^ part = T := ⟨_, rfl⟩
    rw [hT] at HN ⊢
    clear hT HMM
    have hrowA := ((rv.kept (grownBy_setCell' W (w.heap.size + 3) (.int .u64 (T : Int))) (.inr (bc.not_row (by decide) rv).symm)).alloc (.cells #[.int .u32 ((T : Int) % 4294967296)] 52)).drew
    gi_wp2_with (gi_at_builtin; go_loud (refine wpListIn_append_own _ rfl _ _ 22 rfl w.heap.size 52 inf (.int .u32 0) 1 4 und_limbs hi hz0 hz1 hz2 rfl (by decide) _ _ _ rfl hrowA ⟨W.heap.size, 0, none⟩ 1 1 [.int .u32 ((T : Int) % 4294967296)] rfl rfl (cell_new_drew _ _ _ _ (by simp)) (by simp [Value.oneCell']) (by unfold maxLen; omega) (by omega) (by simp; omega) ?_); intro v' w1 hown' hgrow _; obtain ⟨g', cap', rfl⟩ := ownsRow_succ hown'; go_loud (have hG := grown_step (n0 := w.heap.size) (by omega) (by omega) (by omega) (by omega) hbB (by decide) (by decide) bv bc rv ((((Chg.refl (fun j => j = w.heap.size + 3) W).setCell (p := ⟨w.heap.size + 3, 0, none⟩) (.inl rfl) (.int .u64 (T : Int))).alloc (.cells #[.int .u32 ((T : Int) % 4294967296)] 52)).drew) (Boxed.drew (Boxed.alloc (bc.set _) _)) hgrow hown'); have hcc1 := hG.boxC.cell; have hcv1 := hG.boxR.cell; have hfc1 := hG.boxC.frozen; have hfv1 := hG.boxR.frozen)
    obtain ⟨f1, f2, f3, f4, f5, f6⟩ := hG.fin (.int .u64 ((T : Int) / 4294967296))
    have f7 := f6 _ _ _ (.inl (by decide)) (by omega) (by omega) bs
    refine ⟨f5 _, Kp0.boxed f4 bs f7, _, f1, ?_, ?_, f7, f6 _ _ _ (.inl (by decide)) (by omega) (by omega) bl, bw.trans f4⟩
    · rw [HM.out, HN.out, enc32_snoc, List.length_append]
      have hv : Value.int .u32 ((T % B32 : Nat) : Int) = .int .u32 ((T : Int) % 4294967296) := congrArg _ (by unfold B32; omega)
      rw [hv]
      exact f3
    · rw [HM.out, HN.out]
      have hv : Value.int .u64 ((T / B32 : Nat) : Int) = .int .u64 ((T : Int) / 4294967296) := congrArg _ (by unfold B32; omega)
      rw [hv]
      exact f2
  case done =>
    rintro D ys W hD hys ⟨v, bv, rv, bc, bs, bl, bw⟩ hK
    have hlim := (slFold_limbs whole (part := part) (limbPairs xa (xa.length + 1)) (fun p hp => by
      obtain ⟨q, _, rfl⟩ := List.mem_map.1 (hys ▸ hp)
      exact q.2.2)).1
    have hval := slFold_end (whole := whole) hp32 hla
    have hylen : ys.length = xa.length + 1 := by have := congrArg List.length hys; simpa [limbPairs_length] using this
    rw [hys] at rv
    rw [hylen] at rv
    clear hys hylen bc
    generalize slFold whole part (limbPairs xa (xa.length + 1)) = st at *
    obtain ⟨r, c⟩ := st
    dsimp only at *
    have HV := Lib.hid hval
    clear hval
    have hbv := bv.cell
    have hrd : Reads .u32 W v r := Reads.ofOwn rv
    gi_wp2_with (refine ⟨trivial, ?_⟩; gi_at_call 57; refine (callsIn_wide.2 (trim_any _ _ _ hrd)).mono ?_; rintro e w' ⟨rfl, v3, rfl, hr3⟩)
    refine ⟨by simp, .inl ⟨_, _, rfl, run_takeDeferred hK, ?_⟩⟩
    refine ⟨_, results_tmp rfl _ _ _, bw.trans (belowK_b (w := w) (Nat.le_refl _) W D _ _ (by simp at hD; omega) hK rfl rfl), v3, _, rfl, hr3.putObj hK rfl _, canon_trimmed hlim, ?_⟩
    rw [val_trimmed, HV.out, HNN.out]
  case stop =>
    rintro D c pre W _ _ h _
    exact h.elim

end Go.Proofs.YtlghjfpkfdnfoaaGreatDoor

/- num.shiftRight -/
namespace Go.Proofs.YtlghjfpkfdnfoaaGreatDoor
open Go Go.RowKit Go.Shelf
attribute [local go_sem] Oper.semAt_some

set_option maxHeartbeats 1000000 in
set_option maxRecDepth 100000 in
theorem shiftRight_none (va : Value) (xa : List Nat) (n : Nat) (w : World) (ha : Reads .u32 w va xa) (hn : n ≤ 3200000) (hw : xa.length ≤ n / 32) :
    Calls Tryz.prog 105 #[va, .int .i64 (n : Int)] w fun e w' => Below w.heap.size w w' ∧ e = .returned (.slice none 0 0) := by
  obtain ⟨aa, ca, rfl, hca, hma⟩ := ha.form
  unfold maxLen at hma
  obtain ⟨whole, hwh⟩ : ∃ q, n / 32 = q := ⟨_, rfl⟩
  have e1 : (n : Int) / 32 = (whole : Int) := by omega
  rw [hwh] at hw
  clear hwh
  have b0 : Below w.heap.size w w := Below.refl _ _
  have b2 := (b0.alloc (Nat.le_refl _) (.cells #[.slice aa xa.length ca] 22)).alloc (by simp) (.cells #[.int .i64 ((n : Int) % 32)] 3)
  go_enter Tryz.func105, Tryz.ntmps105
  go_wp2
  go_ret
  exact ⟨b2, rfl⟩

set_option maxHeartbeats 2000000 in
set_option maxRecDepth 100000 in
theorem shiftRight_some (va : Value) (xa : List Nat) (n : Nat) (w : World) (ha : Reads .u32 w va xa) (hla : Limbs xa) (na : xa.length ≤ 100000) (hn : n ≤ 3200000) (hw : n / 32 < xa.length) :
    Calls Tryz.prog 105 #[va, .int .i64 (n : Int)] w fun e w' => Below w.heap.size w w' ∧ ∃ v cs, e = .returned v ∧ Reads .u32 w' v cs ∧ Canon cs ∧ val cs = val (xa.drop (n / 32)) / 2 ^ (n % 32) := by
  obtain ⟨aa, ca, rfl, hca, hma⟩ := ha.form
  unfold maxLen at hma
  obtain ⟨whole, hwh⟩ : ∃ q, n / 32 = q := ⟨_, rfl⟩
  obtain ⟨part, hpt⟩ : ∃ q, n % 32 = q := ⟨_, rfl⟩
  have hp32 : part < 32 := by omega
  have e1 : (n : Int) / 32 = (whole : Int) := by omega
  have e2 : (n : Int) % 32 = (part : Int) := by omega
  rw [hwh] at hw
  rw [hwh, hpt]
  clear hwh hpt
  refine (callsIn_wide (n := 9)).1 ?_
  refine callsIn_of_wp_marks Tryz.func105 rfl trivial ?_ rfl
  simp only [Tryz.ntmps105, List.size_toArray, List.length_cons, List.length_nil, Nat.reduceAdd, Nat.reduceSub, Array.replicate_succ, Array.replicate_zero, List.push_toArray, List.append_toArray, List.nil_append, List.cons_append]
  obtain ⟨L, hL⟩ : ∃ L, xa.length - whole = L := ⟨_, rfl⟩
  obtain ⟨xs, hxs⟩ : ∃ xs, xa.drop whole = xs := ⟨_, rfl⟩
  have hlx : xs.length = L := by rw [← hxs, List.length_drop]; exact hL
  have hL1 : 1 ≤ L := by omega
  have hLb : L ≤ 100000 := by omega
  have hcL : ca - whole = L + (ca - xa.length) := by omega
  obtain ⟨C, hC⟩ : ∃ C, ca - xa.length = C := ⟨_, rfl⟩
  obtain ⟨A, hA⟩ : ∃ A, Option.map (fun x : Addr => x.add whole) aa = A := ⟨_, rfl⟩
  have hrs : Reads .u32 w (.slice A L (L + C)) xs := by
    have := ha.part whole xa.length (by omega) (Nat.le_refl _)
    rw [List.take_length, hxs] at this
    simp only [sliced] at this
    rw [if_neg (by omega), Nat.mul_one, hA, hL, hcL, hC] at this
    exact this
  have hxl : Limbs xs := by rw [← hxs]; intro x hx; exact hla x (List.mem_of_mem_drop hx)
  rw [hC] at hcL
  rw [hxs]
  have hmk : ∀ w, (Instr.makeSlice 22 (.int .i64 (L : Int)) (.int .i64 (L : Int))).run Tryz.prog w = .ok (.slice (some ⟨w.heap.size, 0, none⟩) L L) (w.alloc (.cells (zeros L) 52)) := fun w => by
    simpa using make_limbs (L : Int) (L : Int) (by omega) (by omega) (by omega) w
  obtain ⟨A2, hA2⟩ : ∃ A2, (if L + C = 1 then A else Option.map (fun x : Addr => x.add 1) A) = A2 := ⟨_, rfl⟩
  have hsl : ∀ W, (Instr.slice 22 (.slice A L (L + C)) (some (.int .i64 1)) none none).run Tryz.prog W = .ok (.slice A2 (L - 1) (L + C - 1)) W := fun W => by
    rw [← hA2]
    go_simp
    intro h; omega
  have hrt : Reads .u32 w (.slice A2 (L - 1) (L + C - 1)) xs.tail := by
    have := hrs.part 1 L (by omega) (by omega)
    rw [← hlx, List.take_length, List.drop_one, hlx] at this
    simp only [sliced, Nat.mul_one] at this
    rw [hA2] at this
    exact this
  clear hxs hC hA2
  gi_wp2_with fail
  clear hmk
  refine region_tail (.inl rfl) 4 (by kernel_rfl) (by kernel_rfl) ?_
  simp only [List.take_succ_cons, List.take_zero, List.drop_succ_cons, List.drop_zero]
  repeat still_step
  refine wpStill_nil ?_
  gi_wp2_with (refine ⟨trivial, ?_⟩; gi_at_call 90; refine (callsIn_wide.2 (limbs_any _ _ _ ⟨_, _, _, rfl⟩)).mono ?_; rintro e w' ⟨rfl, rfl⟩)
  clear hsl
  have b0 : Below w.heap.size w w := Below.refl _ _
  refine range_limbs 8 9 (w.heap.size + 5) (w.heap.size + 4) w.heap.size L (.slice A2 (L - 1) (L + C - 1)) xs.tail (by exact rfl) (fun x hx => hxl x (List.mem_of_mem_tail hx)) (by omega) (by simp) (by simp) (by simp; omega) ?m1 ?m2 (hrt.below ?m3) hrt.lt
    (fun pre W => Boxed W (w.heap.size + 3) 22 (.slice (some ⟨w.heap.size + 2, 0, none⟩) L L) ∧ RowAt W (w.heap.size + 2) 52 (enc32 (srFold xs part (pre.map (·.1)))) ∧
      Boxed W (w.heap.size + 4) 22 (.slice A2 (L - 1) (L + C - 1)) ∧ Boxed W w.heap.size 22 (.slice A L (L + C)) ∧ Boxed W (w.heap.size + 1) 3 (.int .i64 (part : Int)) ∧ Below w.heap.size w W)
    (fun _ _ _ => False)
    ((ownFrom_boxed _ _ _).and ((ownFrom_rowAt _ _ _).and ((ownFrom_boxed _ _ _).and ((ownFrom_boxed _ _ _).and ((ownFrom_boxed _ _ _).and (ownFrom_below (Nat.le_refl _) ?mB))))))
    (fun _ _ _ _ _ h _ _ => h.elim) ?start ?assign ?body ?done ?stop
  case mB => simp; omega
  case m1 => go_simp
  case m2 => go_simp
  case m3 => exact (((((((b0.alloc (Nat.le_refl _) _).alloc (by simp) _).alloc (by simp; omega) _).alloc (by simp; omega) _).drew).alloc (by simp; omega) _).alloc (by simp; omega) _)
  case start =>
    refine ⟨?_, ?_, ?_, ?_, ?_, ?_⟩
    · exact Boxed.at (((Boxed.drew (Boxed.new _ _ _)).alloc _).alloc _) (by simp)
    · have e : enc32 (srFold xs part (([] : List (IdxLimb L)).map (·.1))) = (zeros L).toList := by simp [srFold, enc32, zeros, hlx]
      rw [e]
      exact RowAt.at (((RowAt.drew ((RowAt.new _ _ _).alloc _)).alloc _).alloc _) (by simp)
    · exact Boxed.at ((Boxed.new _ _ _).alloc _) (by simp)
    · exact ((Boxed.drew ((((Boxed.new _ _ _).alloc _).alloc _).alloc _)).alloc _).alloc _
    · exact Boxed.at (((Boxed.drew (((Boxed.new _ _ _).alloc _).alloc _)).alloc _).alloc _) (by simp)
    · exact (((((((b0.alloc (Nat.le_refl _) _).alloc (by simp) _).alloc (by simp; omega) _).alloc (by simp; omega) _).drew).alloc (by simp; omega) _).alloc (by simp; omega) _)
  case assign =>
    intro l x W K hK
    gi_wp2
    exact hK
  case body =>
    rintro l pre x W ⟨bv, rv, bs, bl, bp, bw⟩ hlt
    have hbB := bw.size
    obtain ⟨⟨i, y⟩, hi1, hi2⟩ := x
    have hlen := srFold_length xs part (pre.map (·.1))
    have hnext := srFold_snoc xs part (pre.map (·.1)) (i, y)
    have hmap : (pre ++ [(⟨(i, y), hi1, hi2⟩ : IdxLimb L)]).map (·.1) = pre.map (·.1) ++ [(i, y)] := by simp
    have hd := limb_getD hxl i
    have hcell := (hrs.below bw).cell i (by omega)
    have hix := hrs.index und_limbs size_limb i .i64
    generalize hst : srFold xs part (pre.map (·.1)) = r at *
    simp only [srStep, srLimb] at hnext
    dsimp only at *
    generalize xs[i]?.getD 0 = x at *
    clear hst
    have HN := Lib.hid hnext
    have HM := Lib.hid hmap
    have HL := Lib.hid hlen
    clear hnext hmap hlen
    unfold B32 at hi2 hd
    obtain ⟨T, hT⟩ : ∃ T, y * B32 + x = T := ⟨_, rfl⟩
    have hwy : IntKind.u64.wrap (y : Int) = (y : Int) := by rw [IntKind.wrap_u64]; omega
    have hwx : IntKind.u64.wrap (x : Int) = (x : Int) := by rw [IntKind.wrap_u64]; omega
    have hwm : IntKind.u64.wrap ((y : Int) * 4294967296) = (y : Int) * 4294967296 := by rw [IntKind.wrap_u64]; omega
    have hor : bits BinOp.or IntKind.u64 ((y : Int) * 4294967296) (x : Int) = (T : Int) := by
      have e1 : (y : Int) * 4294967296 = ((y * 4294967296 : Nat) : Int) := by omega
      rw [e1, bits_or_u64_nat _ _ (by omega) (by omega), show y * 4294967296 = y <<< 32 by rw [Nat.shiftLeft_eq], ← Nat.shiftLeft_add_eq_or_of_lt (by omega), Nat.shiftLeft_eq, ← hT]
      rfl
    obtain ⟨Q, hQ⟩ : ∃ Q, T / 2 ^ part = Q := ⟨_, rfl⟩
    have hq : (T : Int) / 2 ^ part = (Q : Int) := by rw [← hQ]; simp
    have hQw : srOf part x y = Q % B32 := by rw [srOf, hT, hQ]
    rw [hQw] at HN
    clear hQw hQ hT
    have hci : W.cell? ⟨w.heap.size + 2, i, none⟩ = some (.int .u32 ((r[i]?.getD 0 : Nat) : Int)) := by
      rw [rv.cell]
      have := HL.out
      simp [enc32, List.getElem?_eq_getElem (show i < r.length by omega)]
    have hcz := rv.frozen i
    have hbv := bv.cell
    have hbl := bl.cell
    have hbp := bp.cell
    simp only [boundFrame]
    gi_wp2_with fail
    refine region_tail (.inr ⟨_, rfl⟩) 15 (by kernel_rfl) (by kernel_rfl) ?_
    simp only [List.take_succ_cons, List.take_zero, List.drop_succ_cons, List.drop_zero]
    repeat still_step
    refine wpStill_nil ?_
    change wpListIn _ _ _ _ _ _ _ W.drew
    gi_wp2_with fail
    have hwq : IntKind.u32.wrap (Q : Int) = ((Q % B32 : Nat) : Int) := by rw [IntKind.wrap_u32']; unfold B32; omega
    rw [hwq]
    have hF : Chg (fun k => k = w.heap.size + 2) W ((W.drew).setCell ⟨w.heap.size + 2, i, none⟩ (.int .u32 ((Q % B32 : Nat) : Int))) := (Chg.refl (fun k => k = w.heap.size + 2) W).drew.setCell (p := ⟨w.heap.size + 2, i, none⟩) (.inl rfl) _
    have hbel := hF.below (B := w.heap.size) (by intro k e; omega) hbB
    have f4 := hF.boxed bs (by omega)
    refine ⟨hF.keepsFrom _ ?_, Kp0.boxed hbel bs f4, hF.boxed bv (by omega), ?_, f4, hF.boxed bl (by omega), hF.boxed bp (by omega), bw.trans hbel⟩
    · rintro k rfl
      exact rv.isCells
    · rw [HM.out, HN.out]
      have e : enc32 (r.set i (Q % B32)) = (enc32 r).set i (.int .u32 ((Q % B32 : Nat) : Int)) := by simp [enc32, List.map_set]
      rw [e]
      exact RowAt.set (RowAt.drew rv) i _
  case done =>
    rintro D ys W hD hys ⟨bv, rv, bs, bl, bp, bw⟩ hK
    have hlim := srFold_limbs xs part (limbPairs xs.tail L)
    have hval := srFold_end hp32 hxl
    have hlen := srFold_length xs part (limbPairs xs.tail L)
    rw [hlx] at hval
    rw [hys] at rv
    clear hys
    generalize srFold xs part (limbPairs xs.tail L) = r at *
    have hrd : Reads .u32 W (.slice (some ⟨w.heap.size + 2, 0, none⟩) L L) r := RowAt.reads rv _ _ (by omega) (Nat.le_refl _) (by unfold maxLen; omega)
    have HV := Lib.hid hval
    have HL := Lib.hid hlen
    clear hval hlen
    have hbv := bv.cell
    gi_wp2_with (refine ⟨trivial, ?_⟩; gi_at_call 57; refine (callsIn_wide.2 (trim_any _ _ _ hrd)).mono ?_; rintro e w' ⟨rfl, v3, rfl, hr3⟩)
    refine ⟨by simp, .inl ⟨_, _, rfl, run_takeDeferred hK, ?_⟩⟩
    refine ⟨_, results_tmp rfl _ _ _, bw.trans (belowK_b (w := w) (Nat.le_refl _) W D _ _ (by simp at hD; omega) hK rfl rfl), v3, _, rfl, hr3.putObj hK rfl _, canon_trimmed hlim, ?_⟩
    rw [val_trimmed, HV.out]
  case stop =>
    rintro D c pre W _ _ h _
    exact h.elim

end Go.Proofs.YtlghjfpkfdnfoaaGreatDoor
