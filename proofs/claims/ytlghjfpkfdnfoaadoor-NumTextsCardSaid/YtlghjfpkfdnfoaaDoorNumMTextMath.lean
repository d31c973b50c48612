/- num.power, given products up to a size -/
import Derived.Test.YtlghjfpkfdnfoaaDoorNumMDiv2
import Derived.Test.YtlghjfpkfdnfoaaDoorNumMQuiet
namespace Go.Proofs.YtlghjfpkfdnfoaaDoor
open Go Go.RowKit Go.Shelf

/-- products of magnitudes of at most K limbs -/
def TimesUpTo (K : Nat) : Prop := ∀ (va vb : Value) (xa xb : List Nat) (w : World), Reads .u32 w va xa → Reads .u32 w vb xb → Limbs xa → Limbs xb → xa.length ≤ K → xb.length ≤ K →
  Calls Tryd.prog 104 #[va, vb] w fun e w' => Below w.heap.size w w' ∧ ∃ v cs, e = .returned v ∧ Reads .u32 w' v cs ∧ Canon cs ∧ val cs = val xa * val xb
theorem times_79 : TimesUpTo 79 := fun va vb xa xb w ha hb hla hlb la lb => times_small va vb xa xb w ha hb hla hlb (by omega) (by omega) (by omega)

theorem and_one_i64 (m : Nat) (h : m < 9223372036854775808) : bits BinOp.and IntKind.i64 (m : Int) 1 = ((m % 2 : Nat) : Int) := by
  have h1 : (BitVec.ofInt 64 (m : Int)).toNat = m := by
    rw [BitVec.ofInt_natCast, BitVec.toNat_ofNat]; exact Nat.mod_eq_of_lt (by omega)
  have h2 : (BitVec.ofInt 64 (1 : Int)).toNat = 1 := by decide
  show IntKind.i64.wrap ((BitVec.ofInt 64 (m : Int) &&& BitVec.ofInt 64 (1 : Int)).toNat : Int) = _
  rw [BitVec.toNat_and, h1, h2, Nat.and_one_is_mod, IntKind.wrap_i64]
  have := Nat.mod_lt m (show 0 < 2 by decide)
  omega

theorem lt_bitLen : ∀ (x : Nat), x < 2 ^ 64 → x < 2 ^ Lib.bitLen x := by
  intro x
  induction x using Nat.strongRecOn with
  | ind x ih =>
    intro h
    rcases Nat.eq_zero_or_pos x with rfl | hp
    · exact Nat.pow_pos (by decide)
    · rw [Lib.bitLen_half x (by omega) h, Nat.add_comm, Nat.pow_succ]
      have := ih (x / 2) (by omega) (by omega)
      omega

/-- what a round of power starts from -/
structure PowInv (w : World) (A n : Nat) (k : Nat) (v : Value) (W : World) : Prop where
  below : Below w.heap.size w W
  reads : ∃ cs, Reads .u32 W v cs ∧ Canon cs ∧ val cs = A ^ (n / 2 ^ k)

theorem pow_le_of {A n m : Nat} (h : m ≤ n) {K : Nat} (hK : 0 < K) (hA : A ^ n < B32 ^ K) : A ^ m < B32 ^ K := by
  rcases Nat.eq_zero_or_pos A with rfl | hp
  · rcases Nat.eq_zero_or_pos m with rfl | hm
    · have : 1 < B32 ^ K := Nat.one_lt_pow (by omega) (by decide)
      simpa using this
    · rw [Nat.zero_pow hm]; exact Nat.pow_pos (by decide)
  · exact Nat.lt_of_le_of_lt (Nat.pow_le_pow_right hp h) hA

set_option maxRecDepth 100000 in
set_option maxHeartbeats 1000000 in
theorem power_any (K : Nat) (hT : TimesUpTo K) (hK : 0 < K) (va : Value) (xa : List Nat) (n : Nat) (w : World) (ha : Reads .u32 w va xa) (hka : Canon xa) (hn : n ≤ 9600) (hfit : val xa ^ n < B32 ^ K) :
    Calls Tryd.prog 77 #[va, .int .i64 n] w fun e w' => Below w.heap.size w w' ∧ ∃ v cs, e = .returned v ∧ Reads .u32 w' v cs ∧ Canon cs ∧ val cs = val xa ^ n := by
  obtain ⟨a, c, rfl, hc, hm⟩ := ha.form
  have HF := Lib.hid hfit
  clear hfit
  have hbl : Lib.bitLen n ≤ 14 := Lib.bitLen_le n 14 (by decide) (by omega)
  have hbn : n / 2 ^ Lib.bitLen n = 0 := Nat.div_eq_of_lt (lt_bitLen n (by omega))
  go_enter Tryd.func77, Tryd.ntmps77
  go_wp2_with (first | (go_at_call 106; refine (one_any _).mono ?_; rintro e w1 ⟨hbe1, v1, rfl, h1⟩; obtain ⟨a1, c1, rfl, hc1, hm1⟩ := h1.form) | (go_at_call 108; refine (Tryd.bits_Len _ _ (by omega) (by omega)).mono ?_; rintro e w2 ⟨rfl, rfl⟩; simp only [Int.toNat_natCast]))
  go_loopw [5, 6] (fun v b W => ∃ k : Nat, k ≤ Lib.bitLen n ∧ b = .int .i64 ((k : Int) - 1) ∧ (∃ a2 n2 c2, v = .slice a2 n2 c2) ∧ PowInv w (val xa) n k v W) (fun _ b _ => (intOf b + 1).toNat)
  case atStart => exact ⟨Lib.bitLen n, Nat.le_refl _, rfl, ⟨_, _, _, rfl⟩, hbe1, [1], h1, ⟨by intro x hx; simp at hx; subst hx; decide, rfl⟩, by rw [hbn]; simp [val]⟩
  case round =>
    obtain ⟨k, hk, rfl, ⟨a2, n2, c2, rfl⟩, hb, cs, hr, hkc, hv⟩ := hrel
    cases k with
    | zero =>
      go_wp2
      go_ret
      exact ⟨hb, _, cs, rfl, hr, hkc, by rw [hv]; simp⟩
    | succ j =>
      have e1 : ((j + 1 : Nat) : Int) - 1 = (j : Int) := by omega
      rw [e1]
      have HV := Lib.hid hv
      clear hv
      have hmn : n / 2 ^ j ≤ n := Nat.div_le_self _ _
      have hmj : n / 2 ^ j = 2 * (n / 2 ^ (j + 1)) + n / 2 ^ j % 2 := by
        have : n / 2 ^ (j + 1) = n / 2 ^ j / 2 := by rw [Nat.pow_succ, Nat.div_div_eq_div_mul]
        rw [this]; omega
      have hm2 : n / 2 ^ (j + 1) ≤ n := Nat.div_le_self _ _
      have hand0 : bits BinOp.and IntKind.i64 ((n : Int) / 2 ^ j) 1 = ((n / 2 ^ j % 2 : Nat) : Int) := by
        have := and_one_i64 (n / 2 ^ j) (by omega)
        simpa using this
      have lcs : cs.length ≤ K := canon_length_le hkc (by rw [HV.out]; exact pow_le_of hm2 hK HF.out)
      have t1 : ∀ W, Below wr.heap.size wr W → Calls Tryd.prog 104 #[.slice a2 n2 c2, .slice a2 n2 c2] W fun e w' => Below W.heap.size W w' ∧ ∃ v cs2, e = .returned v ∧ Reads .u32 w' v cs2 ∧ Canon cs2 ∧ val cs2 = val xa ^ (2 * (n / 2 ^ (j + 1))) := fun W hW => by
        have := hT _ _ cs cs W (hr.below hW) (hr.below hW) hkc.1 hkc.1 lcs lcs
        rwa [HV.out, ← Nat.pow_add, ← Nat.two_mul] at this
      have hpar : n / 2 ^ j % 2 = 0 ∨ n / 2 ^ j % 2 = 1 := by omega
      have hM : ((j : Int) - 1 + 1).toNat < ((j : Int) + 1).toNat := by omega
      rcases hpar with hp | hp
      · have hand : bits BinOp.and IntKind.i64 ((n : Int) / 2 ^ j) 1 = 0 := by rw [hand0, hp]; rfl
        have hfin : 2 * (n / 2 ^ (j + 1)) = n / 2 ^ j := by omega
        have HX := Lib.hid hfin
        clear hfin hp hmj hand0 hmn hm2
        go_wp2_with (go_at_call 104; refine (t1 _ (Below.refl _ _)).mono ?_; rintro e w3 ⟨hbe3, v3, cs3, rfl, h3, k3, e3⟩; obtain ⟨a3, c3, rfl, hc3, hm3⟩ := h3.form; clear t1)
        exact ⟨⟨j, by omega, rfl, ⟨_, _, _, rfl⟩, hb.trans (hbe3.mono hb.size), cs3, h3, k3, by rw [e3, HX.out]⟩, hM⟩
      · have hand : bits BinOp.and IntKind.i64 ((n : Int) / 2 ^ j) 1 = 1 := by rw [hand0, hp]; rfl
        have hfin : 2 * (n / 2 ^ (j + 1)) + 1 = n / 2 ^ j := by omega
        have HX := Lib.hid hfin
        have lxa : xa.length ≤ K := canon_length_le hka (by have := pow_le_of (A := val xa) (n := n) (m := 1) (by omega) hK HF.out; simpa using this)
        have t2 : ∀ W v3 cs3, Below w.heap.size w W → Reads .u32 W v3 cs3 → Canon cs3 → val cs3 = val xa ^ (2 * (n / 2 ^ (j + 1))) → Calls Tryd.prog 104 #[v3, .slice a xa.length c] W fun e w' => Below W.heap.size W w' ∧ ∃ v cs2, e = .returned v ∧ Reads .u32 w' v cs2 ∧ Canon cs2 ∧ val cs2 = val xa ^ (n / 2 ^ j) := fun W v3 cs3 hW h3 k3 e3 => by
          have := hT _ _ cs3 xa W h3 (ha.below hW) k3.1 hka.1 (canon_length_le k3 (by rw [e3]; exact pow_le_of (by omega) hK HF.out)) lxa
          rwa [e3, ← Nat.pow_succ, Nat.succ_eq_add_one, HX.out] at this
        clear hfin hp hmj hand0 hmn hm2
        go_wp2_with (first | (go_at_call 104; refine (t1 _ (Below.refl _ _)).mono ?_; rintro e w3 ⟨hbe3, v3, cs3, rfl, h3, k3, e3⟩; obtain ⟨a3, c3, rfl, hc3, hm3⟩ := h3.form; have hb3 := hb.trans (hbe3.mono hb.size); clear t1) | (go_at_call 104; refine (t2 _ _ cs3 hb3 h3 k3 e3).mono ?_; rintro e w4 ⟨hbe4, v4, cs4, rfl, h4, k4, e4⟩; obtain ⟨a4, c4, rfl, hc4, hm4⟩ := h4.form))
        exact ⟨⟨j, by omega, rfl, ⟨_, _, _, rfl⟩, hb3.trans (hbe4.mono hb3.size), cs4, h4, k4, e4⟩, hM⟩
end Go.Proofs.YtlghjfpkfdnfoaaDoor

/- num.bitLen, num.Bits -/
namespace Go.Proofs.YtlghjfpkfdnfoaaDoor
open Go Go.RowKit Go.Shelf

/-- how many binary digits a list of limbs has -/
def bitsOf (xs : List Nat) : Nat := if xs.length = 0 then 0 else 32 * (xs.length - 1) + Lib.bitLen (xs[xs.length - 1]?.getD 0)

set_option maxHeartbeats 1000000 in
set_option maxRecDepth 100000 in
theorem bitLen_any (va : Value) (xs : List Nat) (w : World) (hr : Reads .u32 w va xs) (hl : Limbs xs) (hn : xs.length ≤ 100000) :
    Calls Tryd.prog 55 #[va] w fun e w' => w = w' ∧ e = .returned (.int .i64 (bitsOf xs)) := by
  obtain ⟨a, c, rfl, hc, hm⟩ := hr.form
  by_cases hx : xs.length = 0
  · have hb : bitsOf xs = 0 := by simp [bitsOf, hx]
    rw [hb]
    go_enter Tryd.func55, Tryd.ntmps55
    go_wp2
    go_ret
    exact ⟨rfl, rfl⟩
  · have he : ((xs.length - 1 : Nat) : Int) = (xs.length : Int) - 1 := by omega
    have hcell := hr.cell (xs.length - 1) (by omega)
    have hix := fun W => hr.index und_limbs size_limb (P := Tryd.prog) (xs.length - 1) .i64 W (by omega)
    have hlast : xs[xs.length - 1]?.getD 0 < B32 := by
      rw [List.getElem?_eq_getElem (by omega)]
      exact hl _ (by simp)
    have hb : (bitsOf xs : Int) = 32 * ((xs.length : Int) - 1) + Lib.bitLen (xs[xs.length - 1]?.getD 0) := by
      simp only [bitsOf, if_neg hx]; omega
    rw [he] at hix
    rw [hb]
    obtain ⟨top, hT⟩ : ∃ top, xs[xs.length - 1]?.getD 0 = top := ⟨_, rfl⟩
    rw [hT] at hcell hlast ⊢
    have hbl : Lib.bitLen top ≤ 32 := Lib.bitLen_le top 32 (by decide) (by unfold B32 at hlast; omega)
    generalize xs.length - 1 = k at *
    unfold B32 at hlast
    clear hb hT
    go_enter Tryd.func55, Tryd.ntmps55
    go_wp2_with (go_at_call 96; refine (Tryd.bits_Len32 _ _ (by omega) (by omega)).mono ?_; rintro e w2 ⟨rfl, rfl⟩; simp only [Int.toNat_natCast])
    go_ret
    exact ⟨rfl, rfl⟩

end Go.Proofs.YtlghjfpkfdnfoaaDoor

/- num.Of -/
namespace Go.Proofs.YtlghjfpkfdnfoaaDoor
open Go Go.RowKit Go.Shelf

/-- a magnitude of at most 64 bits as two limbs -/
theorem two_limbs (m : Nat) (h : m < 18446744073709551616) : val [m % 4294967296, m / 4294967296] = m ∧ Limbs [m % 4294967296, m / 4294967296] := by
  constructor
  · simp only [val, B32]; omega
  · intro x hx; simp at hx; unfold B32; rcases hx with rfl | rfl <;> omega
theorem two_trim (m : Nat) (h : m < 18446744073709551616) (w : World) : Calls Tryd.prog 64 #[.slice (some ⟨w.heap.size, 0, none⟩) 2 2] (w.alloc (.cells #[.int .u32 ((m : Int) % 4294967296), .int .u32 ((m : Int) / 4294967296)] 72)) fun e w' => Below w.heap.size w w' ∧ ∃ v cs, e = .returned v ∧ Reads .u32 w' v cs ∧ Canon cs ∧ val cs = m := by
  obtain ⟨hv, hl⟩ := two_limbs m h
  have r := RowAt.reads (xs := [m % 4294967296, m / 4294967296]) (RowAt.new w 72 [.int .u32 ((m % 4294967296 : Nat) : Int), .int .u32 ((m / 4294967296 : Nat) : Int)]) 2 2 rfl (by simp) (by simp [maxLen])
  have e1 : ((m % 4294967296 : Nat) : Int) = (m : Int) % 4294967296 := by omega
  have e2 : ((m / 4294967296 : Nat) : Int) = (m : Int) / 4294967296 := by omega
  rw [e1, e2] at r
  refine (trim_any _ _ _ r).mono ?_
  rintro e w' ⟨rfl, v, rfl, h1⟩
  exact ⟨(Below.refl _ _).alloc (Nat.le_refl _) _, v, _, rfl, h1, canon_trimmed hl, by rw [val_trimmed, hv]⟩

set_option maxHeartbeats 1000000 in
set_option maxRecDepth 100000 in
theorem Of_nonneg (n : Nat) (w : World) (hn : n < 9223372036854775808) :
    Calls Tryd.prog 26 #[.int .i64 n] w fun e w' => Below w.heap.size w w' ∧ ∃ v, e = .returned v ∧ IsInt w' v n := by
  have tr := two_trim n (by omega) (w.alloc (.cells #[.bool false, .slice none 0 0] 24))
  have r0 := RowAt.new w 24 [.bool false, .slice none 0 0]
  have bw := (Below.refl w.heap.size w).alloc (Nat.le_refl _) (.cells #[.bool false, .slice none 0 0] 24)
  simp only [World.size_alloc] at tr
  go_enter Tryd.func26, Tryd.ntmps26
  go_wp2_with (first | (go_at_call 64; refine tr.mono ?_; rintro e w2 ⟨hbe2, v, cs, rfl, h1, h2, h3⟩; clear tr; obtain ⟨a2, c2, rfl, hc2, hm2⟩ := h1.form; have bw2 := bw.trans (hbe2.mono (by omega)); have r2 : RowAt w2 w.heap.size 24 [.bool false, .slice none 0 0] := (hbe2.block _ (by omega)).trans r0) | (go_at_call 63; refine (signed_any _ _ _ _ _).mono ?_; rintro e w3 ⟨hbe3, rfl⟩; have r3 := r2.below hbe3; have q1 := r3.cell 0; have q2 := r3.cell 1; have q3 := r3.frozen 0; have q4 := r3.frozen 1; simp only [List.getElem?_cons_zero, List.getElem?_cons_succ] at q1 q2))
  obtain ⟨s1, s2⟩ := two_reads (b := w.heap.size) q1 q2 (.bool (false && decide (0 < cs.length))) (.slice a2 cs.length c2)
  have hk := two_kept (b := w.heap.size) (h1.below hbe3) q1 q2 (.bool (false && decide (0 < cs.length))) (.slice a2 cs.length c2)
  have hlow := ((bw2.trans (hbe3.mono bw2.size)).setCell (p := ⟨w.heap.size, 0, none⟩) (Nat.le_refl _) (.bool (false && decide (0 < cs.length)))).setCell (p := ⟨w.heap.size, 1, none⟩) (Nat.le_refl _) (.slice a2 cs.length c2)
  simp only [Bool.false_and] at s1 s2 hk hlow
  have hd : decide ((n : Int) < 0) = false := by simp
  simp only [hd, Bool.false_and]
  exact bodyPost_ret (v := .agg #[.bool (false && decide (0 < cs.length)), .slice a2 cs.length c2]) (by simp [results, Tryd.results26, go_sem, loadCellsFrom, s1, s2]) rfl ⟨hlow, _, rfl, isInt_mk false hk h2 (by rw [h3]; rfl)⟩
set_option maxHeartbeats 1000000 in
set_option maxRecDepth 100000 in
theorem Of_neg (n : Nat) (w : World) (h0 : 0 < n) (hn : n ≤ 9223372036854775808) :
    Calls Tryd.prog 26 #[.int .i64 (-(n : Int))] w fun e w' => Below w.heap.size w w' ∧ ∃ v, e = .returned v ∧ IsInt w' v (-(n : Int)) := by
  have tr := two_trim n (by omega) (w.alloc (.cells #[.bool false, .slice none 0 0] 24))
  have r0 := RowAt.new w 24 [.bool false, .slice none 0 0]
  have bw := (Below.refl w.heap.size w).alloc (Nat.le_refl _) (.cells #[.bool false, .slice none 0 0] 24)
  simp only [World.size_alloc] at tr
  have hw : IntKind.u64.wrap (-IntKind.u64.wrap (-(n : Int))) = n := by simp only [IntKind.wrap_u64]; omega
  have hq : (n : Int) / 4294967296 % 4294967296 = (n : Int) / 4294967296 := by omega
  go_enter Tryd.func26, Tryd.ntmps26
  go_wp2_with (first | (go_at_call 64; refine tr.mono ?_; rintro e w2 ⟨hbe2, v, cs, rfl, h1, h2, h3⟩; clear tr; obtain ⟨a2, c2, rfl, hc2, hm2⟩ := h1.form; have bw2 := bw.trans (hbe2.mono (by omega)); have r2 : RowAt w2 w.heap.size 24 [.bool false, .slice none 0 0] := (hbe2.block _ (by omega)).trans r0) | (go_at_call 63; refine (signed_any _ _ _ _ _).mono ?_; rintro e w3 ⟨hbe3, rfl⟩; have r3 := r2.below hbe3; have q1 := r3.cell 0; have q2 := r3.cell 1; have q3 := r3.frozen 0; have q4 := r3.frozen 1; simp only [List.getElem?_cons_zero, List.getElem?_cons_succ] at q1 q2))
  obtain ⟨s1, s2⟩ := two_reads (b := w.heap.size) q1 q2 (.bool (true && decide (0 < cs.length))) (.slice a2 cs.length c2)
  have hk := two_kept (b := w.heap.size) (h1.below hbe3) q1 q2 (.bool (true && decide (0 < cs.length))) (.slice a2 cs.length c2)
  have hlow := ((bw2.trans (hbe3.mono bw2.size)).setCell (p := ⟨w.heap.size, 0, none⟩) (Nat.le_refl _) (.bool (true && decide (0 < cs.length)))).setCell (p := ⟨w.heap.size, 1, none⟩) (Nat.le_refl _) (.slice a2 cs.length c2)
  simp only [Bool.true_and] at s1 s2 hk hlow
  exact bodyPost_ret (v := .agg #[.bool (true && decide (0 < cs.length)), .slice a2 cs.length c2]) (by simp [results, Tryd.results26, go_sem, loadCellsFrom, s1, s2]) rfl ⟨hlow, _, rfl, isInt_mk true hk h2 (by rw [h3]; rfl)⟩

end Go.Proofs.YtlghjfpkfdnfoaaDoor

/- Digits to a base, the least one first; texts; without the program. -/
namespace Go.Proofs.YtlghjfpkfdnfoaaDoor

/-- so many digits of a number -/
def digs (b : Nat) : Nat → Nat → List Nat
  | 0, _ => []
  | n + 1, A => A % b :: digs b n (A / b)
theorem digs_length (b n A : Nat) : (digs b n A).length = n := by
  induction n generalizing A with
  | zero => rfl
  | succ n ih => simp [digs, ih]
theorem digs_add (b n m A : Nat) : digs b (n + m) A = digs b n A ++ digs b m (A / b ^ n) := by
  induction n generalizing A with
  | zero => simp [digs]
  | succ n ih =>
    rw [show n + 1 + m = (n + m) + 1 by omega]
    simp only [digs, List.cons_append, ih]
    rw [Nat.div_div_eq_div_mul, Nat.pow_succ, Nat.mul_comm b]
theorem digs_snoc (b n A : Nat) : digs b (n + 1) A = digs b n A ++ [A / b ^ n % b] := by rw [digs_add]; rfl
theorem digs_zero (b n : Nat) : digs b n 0 = List.replicate n 0 := by
  induction n with
  | zero => rfl
  | succ n ih => simp [digs, ih, List.replicate_succ]
theorem digs_mod (b n A : Nat) : digs b n (A % b ^ n) = digs b n A := by
  induction n generalizing A with
  | zero => rfl
  | succ n ih =>
    simp only [digs]
    have h1 : A % b ^ (n + 1) % b = A % b := Nat.mod_mod_of_dvd _ ⟨b ^ n, by rw [Nat.pow_succ, Nat.mul_comm]⟩
    have h2 : A % b ^ (n + 1) / b = A / b % b ^ n := by
      rw [Nat.pow_succ, Nat.mul_comm]
      exact Nat.mod_mul_right_div_self A b (b ^ n)
    rw [h1, h2, ih]
theorem digs_lt {b : Nat} (hb : 0 < b) (n A : Nat) : ∀ d ∈ digs b n A, d < b := by
  induction n generalizing A with
  | zero => intro d hd; simp [digs] at hd
  | succ n ih =>
    intro d hd
    simp only [digs, List.mem_cons] at hd
    rcases hd with rfl | hd
    · exact Nat.mod_lt _ hb
    · exact ih _ d hd
theorem trimmed_zeros (xs : List Nat) (n : Nat) : trimmed (xs ++ List.replicate n 0) = trimmed xs := by
  induction n with
  | zero => simp
  | succ n ih => rw [List.replicate_succ', ← List.append_assoc, trimmed_snoc_zero, ih]
theorem lt_pow_self2 {b : Nat} (hb : 2 ≤ b) (A : Nat) : A < b ^ A := Nat.lt_of_lt_of_le Nat.lt_two_pow_self (Nat.pow_le_pow_left hb A)
/-- the digits of a number -/
def digits (b A : Nat) : List Nat := trimmed (digs b A A)
theorem digits_eq {b N A : Nat} (hb : 2 ≤ b) (h : A / b ^ N = 0) : trimmed (digs b N A) = digits b A := by
  have e1 : digs b (N + A) A = digs b N A ++ List.replicate A 0 := by rw [digs_add, h, digs_zero]
  have e2 : digs b (A + N) A = digs b A A ++ List.replicate N 0 := by rw [digs_add, Nat.div_eq_of_lt (lt_pow_self2 hb A), digs_zero]
  rw [digits, ← trimmed_zeros (digs b N A) A, ← e1, Nat.add_comm, e2, trimmed_zeros]
theorem digits_zero (b : Nat) : digits b 0 = [] := rfl
/-- the number of digits -/
def numb (b : Nat) : List Nat → Nat
  | [] => 0
  | x :: xs => x + b * numb b xs
theorem numb_append (b : Nat) (xs ys : List Nat) : numb b (xs ++ ys) = numb b xs + b ^ xs.length * numb b ys := by
  induction xs with
  | nil => simp [numb]
  | cons x xs ih => simp only [List.cons_append, numb, ih, List.length_cons, Nat.pow_succ, Nat.mul_add, Nat.add_assoc]; rw [Nat.mul_comm (b ^ xs.length) b, Nat.mul_assoc]
theorem numb_zeros (b n : Nat) : numb b (List.replicate n 0) = 0 := by
  induction n with
  | zero => rfl
  | succ n ih => simp [List.replicate_succ, numb, ih]
theorem numb_digs {b : Nat} (n A : Nat) : numb b (digs b n A) = A % b ^ n := by
  induction n generalizing A with
  | zero => simp [digs, numb, Nat.mod_one]
  | succ n ih =>
    simp only [digs, numb, ih]
    rw [Nat.pow_succ, Nat.mul_comm (b ^ n) b, Nat.mod_mul]
theorem numb_trimmed (b : Nat) (xs : List Nat) : numb b (trimmed xs) = numb b xs := by
  obtain ⟨n, h⟩ := trimmed_eq xs
  conv => rhs; rw [h]
  rw [numb_append, numb_zeros]; simp
theorem numb_digits {b : Nat} (hb : 2 ≤ b) (A : Nat) : numb b (digits b A) = A := by
  rw [digits, numb_trimmed, numb_digs, Nat.mod_eq_of_lt (lt_pow_self2 hb A)]
theorem digits_nil_iff {b A : Nat} (hb : 2 ≤ b) : digits b A = [] ↔ A = 0 := by
  constructor
  · intro h
    have := numb_digits hb A
    rw [h] at this
    exact this.symm
  · rintro rfl; rfl

/-- the byte of a digit -/
def digChar (d : Nat) : Nat := if d < 10 then 48 + d else 87 + d
theorem digChar_lt {d : Nat} (h : d < 36) : digChar d < 256 := by unfold digChar; split <;> omega
theorem digChar_zero {d : Nat} (h : d < 36) : digChar d = 48 ↔ d = 0 := by unfold digChar; split <;> omega
/-- the bytes of the text of a number -/
def textOf (neg : Bool) (b A : Nat) : List Nat := if A = 0 then [48] else (if neg then [45] else []) ++ ((digits b A).map digChar).reverse

end Go.Proofs.YtlghjfpkfdnfoaaDoor
