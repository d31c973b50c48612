/- num.Of -/
import Derived.Test.YtlghjfpkfdnfoaaGreatDoorNumMBitLen
import Derived.Test.YtlghjfpkfdnfoaaGreatDoorNumMLimbs
import Derived.WalkLawsBesides
import Derived.Outline
import Derived.Lib.Hide
import Derived.IntWalk
import Derived.Test.YtlghjfpkfdnfoaaGreatDoorProg
import Derived.Lib.IndexBytes
namespace Go.Proofs.YtlghjfpkfdnfoaaGreatDoor
open Go Go.RowKit Go.Shelf

/-- a magnitude of at most 64 bits as two limbs -/
theorem two_limbs (m : Nat) (h : m < 18446744073709551616) : val [m % 4294967296, m / 4294967296] = m ∧ Limbs [m % 4294967296, m / 4294967296] := by
  constructor
  · simp only [val, B32]; omega
  · intro x hx; simp at hx; unfold B32; rcases hx with rfl | rfl <;> omega
theorem two_trim (m : Nat) (h : m < 18446744073709551616) (w : World) : Calls Tryz.prog 57 #[.slice (some ⟨w.heap.size, 0, none⟩) 2 2] (w.alloc (.cells #[.int .u32 ((m : Int) % 4294967296), .int .u32 ((m : Int) / 4294967296)] 52)) fun e w' => Below w.heap.size w w' ∧ ∃ v cs, e = .returned v ∧ Reads .u32 w' v cs ∧ Canon cs ∧ val cs = m := by
  obtain ⟨hv, hl⟩ := two_limbs m h
  have r := RowAt.reads (xs := [m % 4294967296, m / 4294967296]) (RowAt.new w 52 [.int .u32 ((m % 4294967296 : Nat) : Int), .int .u32 ((m / 4294967296 : Nat) : Int)]) 2 2 rfl (by simp) (by simp [maxLen])
  have e1 : ((m % 4294967296 : Nat) : Int) = (m : Int) % 4294967296 := by omega
  have e2 : ((m / 4294967296 : Nat) : Int) = (m : Int) / 4294967296 := by omega
  rw [e1, e2] at r
  refine (trim_any _ _ _ r).mono ?_
  rintro e w' ⟨rfl, v, rfl, h1⟩
  exact ⟨(Below.refl _ _).alloc (Nat.le_refl _) _, v, _, rfl, h1, canon_trimmed hl, by rw [val_trimmed, hv]⟩

set_option maxHeartbeats 1000000 in
set_option maxRecDepth 100000 in
theorem Of_nonneg (n : Nat) (w : World) (hn : n < 9223372036854775808) :
    Calls Tryz.prog 21 #[.int .i64 n] w fun e w' => Below w.heap.size w w' ∧ ∃ v, e = .returned v ∧ IsInt w' v n := by
  have tr := two_trim n (by omega) (w.alloc (.cells #[.bool false, .slice none 0 0] 24))
  have r0 := RowAt.new w 24 [.bool false, .slice none 0 0]
  have bw := (Below.refl w.heap.size w).alloc (Nat.le_refl _) (.cells #[.bool false, .slice none 0 0] 24)
  simp only [World.size_alloc] at tr
  go_enter Tryz.func21, Tryz.ntmps21
  go_wp2_with (first | (go_at_call 57; refine tr.mono ?_; rintro e w2 ⟨hbe2, v, cs, rfl, h1, h2, h3⟩; clear tr; obtain ⟨a2, c2, rfl, hc2, hm2⟩ := h1.form; have bw2 := bw.trans (hbe2.mono (by omega)); have r2 : RowAt w2 w.heap.size 24 [.bool false, .slice none 0 0] := (hbe2.block _ (by omega)).trans r0) | (go_at_call 51; refine (signed_any _ _ _ _ _).mono ?_; rintro e w3 ⟨hbe3, rfl⟩; have r3 := r2.below hbe3; have q1 := r3.cell 0; have q2 := r3.cell 1; have q3 := r3.frozen 0; have q4 := r3.frozen 1; simp only [List.getElem?_cons_zero, List.getElem?_cons_succ] at q1 q2))
  obtain ⟨s1, s2⟩ := two_reads (b := w.heap.size) q1 q2 (.bool (false && decide (0 < cs.length))) (.slice a2 cs.length c2)
  have hk := two_kept (b := w.heap.size) (h1.below hbe3) q1 q2 (.bool (false && decide (0 < cs.length))) (.slice a2 cs.length c2)
  have hlow := ((bw2.trans (hbe3.mono bw2.size)).setCell (p := ⟨w.heap.size, 0, none⟩) (Nat.le_refl _) (.bool (false && decide (0 < cs.length)))).setCell (p := ⟨w.heap.size, 1, none⟩) (Nat.le_refl _) (.slice a2 cs.length c2)
  simp only [Bool.false_and] at s1 s2 hk hlow
  have hd : decide ((n : Int) < 0) = false := by simp
  simp only [hd, Bool.false_and]
  exact bodyPost_ret (v := .agg #[.bool (false && decide (0 < cs.length)), .slice a2 cs.length c2]) (by simp [results, Tryz.results21, go_sem, loadCellsFrom, s1, s2]) rfl ⟨hlow, _, rfl, isInt_mk false hk h2 (by rw [h3]; rfl)⟩
set_option maxHeartbeats 1000000 in
set_option maxRecDepth 100000 in
theorem Of_neg (n : Nat) (w : World) (h0 : 0 < n) (hn : n ≤ 9223372036854775808) :
    Calls Tryz.prog 21 #[.int .i64 (-(n : Int))] w fun e w' => Below w.heap.size w w' ∧ ∃ v, e = .returned v ∧ IsInt w' v (-(n : Int)) := by
  have tr := two_trim n (by omega) (w.alloc (.cells #[.bool false, .slice none 0 0] 24))
  have r0 := RowAt.new w 24 [.bool false, .slice none 0 0]
  have bw := (Below.refl w.heap.size w).alloc (Nat.le_refl _) (.cells #[.bool false, .slice none 0 0] 24)
  simp only [World.size_alloc] at tr
  have hw : IntKind.u64.wrap (-IntKind.u64.wrap (-(n : Int))) = n := by simp only [IntKind.wrap_u64]; omega
  have hq : (n : Int) / 4294967296 % 4294967296 = (n : Int) / 4294967296 := by omega
  go_enter Tryz.func21, Tryz.ntmps21
  go_wp2_with (first | (go_at_call 57; refine tr.mono ?_; rintro e w2 ⟨hbe2, v, cs, rfl, h1, h2, h3⟩; clear tr; obtain ⟨a2, c2, rfl, hc2, hm2⟩ := h1.form; have bw2 := bw.trans (hbe2.mono (by omega)); have r2 : RowAt w2 w.heap.size 24 [.bool false, .slice none 0 0] := (hbe2.block _ (by omega)).trans r0) | (go_at_call 51; refine (signed_any _ _ _ _ _).mono ?_; rintro e w3 ⟨hbe3, rfl⟩; have r3 := r2.below hbe3; have q1 := r3.cell 0; have q2 := r3.cell 1; have q3 := r3.frozen 0; have q4 := r3.frozen 1; simp only [List.getElem?_cons_zero, List.getElem?_cons_succ] at q1 q2))
  obtain ⟨s1, s2⟩ := two_reads (b := w.heap.size) q1 q2 (.bool (true && decide (0 < cs.length))) (.slice a2 cs.length c2)
  have hk := two_kept (b := w.heap.size) (h1.below hbe3) q1 q2 (.bool (true && decide (0 < cs.length))) (.slice a2 cs.length c2)
  have hlow := ((bw2.trans (hbe3.mono bw2.size)).setCell (p := ⟨w.heap.size, 0, none⟩) (Nat.le_refl _) (.bool (true && decide (0 < cs.length)))).setCell (p := ⟨w.heap.size, 1, none⟩) (Nat.le_refl _) (.slice a2 cs.length c2)
  simp only [Bool.true_and] at s1 s2 hk hlow
  exact bodyPost_ret (v := .agg #[.bool (true && decide (0 < cs.length)), .slice a2 cs.length c2]) (by simp [results, Tryz.results21, go_sem, loadCellsFrom, s1, s2]) rfl ⟨hlow, _, rfl, isInt_mk true hk h2 (by rw [h3]; rfl)⟩

end Go.Proofs.YtlghjfpkfdnfoaaGreatDoor

/- num.digitOf, num.demandBase, num.chunk -/
namespace Go.Proofs.YtlghjfpkfdnfoaaGreatDoor
open Go Go.RowKit Go.Shelf

/-- the value of a digit -/
def digitVal (c : Nat) : Nat := if 48 ≤ c ∧ c ≤ 57 then c - 48 else if 97 ≤ c ∧ c ≤ 122 then c - 87 else if 65 ≤ c ∧ c ≤ 90 then c - 55 else 36

set_option maxHeartbeats 1000000 in
set_option maxRecDepth 100000 in
theorem digitOf_any (c : Nat) (w : World) (hc : c < 256) :
    Calls Tryz.prog 62 #[.int .u8 c] w fun e w' => w = w' ∧ e = .returned (.int .i64 (digitVal c)) := by
  have cases4 : (48 ≤ c ∧ c ≤ 57 ∧ digitVal c = c - 48) ∨ (97 ≤ c ∧ c ≤ 122 ∧ digitVal c = c - 87) ∨ (65 ≤ c ∧ c ≤ 90 ∧ digitVal c = c - 55) ∨ ((c < 48 ∨ 57 < c) ∧ (c < 97 ∨ 122 < c) ∧ (c < 65 ∨ 90 < c) ∧ digitVal c = 36) := by
    unfold digitVal; (repeat' split) <;> omega
  rcases cases4 with ⟨h1, h2, h3⟩ | ⟨h1, h2, h3⟩ | ⟨h1, h2, h3⟩ | ⟨h1, h2, h4, h3⟩
  · have hd : ((digitVal c : Nat) : Int) = (c : Int) - 48 := by omega
    rw [hd]
    clear h3 hd
    go_enter Tryz.func62, Tryz.ntmps62
    go_wp2
    all_goals exact bodyPost_ret (v := .int .i64 ((c : Int) - 48)) (by simp [results, Tryz.results62, go_sem]) rfl ⟨rfl, rfl⟩
  · have hd : ((digitVal c : Nat) : Int) = (c : Int) - 97 + 10 := by omega
    rw [hd]
    clear h3 hd
    go_enter Tryz.func62, Tryz.ntmps62
    go_wp2
    all_goals exact bodyPost_ret (v := .int .i64 ((c : Int) - 97 + 10)) (by simp [results, Tryz.results62, go_sem]) rfl ⟨rfl, rfl⟩
  · have hd : ((digitVal c : Nat) : Int) = (c : Int) - 65 + 10 := by omega
    rw [hd]
    clear h3 hd
    go_enter Tryz.func62, Tryz.ntmps62
    go_wp2
    all_goals exact bodyPost_ret (v := .int .i64 ((c : Int) - 65 + 10)) (by simp [results, Tryz.results62, go_sem]) rfl ⟨rfl, rfl⟩
  · have hd : ((digitVal c : Nat) : Int) = 36 := by omega
    rw [hd]
    clear h3 hd
    go_enter Tryz.func62, Tryz.ntmps62
    go_wp2
    all_goals exact bodyPost_ret (v := .int .i64 (36)) (by simp [results, Tryz.results62, go_sem]) rfl ⟨rfl, rfl⟩

set_option maxHeartbeats 1000000 in
set_option maxRecDepth 100000 in
theorem demandBase_ok (b : Nat) (w : World) (h2 : 2 ≤ b) (h36 : b ≤ 36) :
    Calls Tryz.prog 25 #[.int .i64 b] w fun e w' => w = w' ∧ e = .returned (.tuple #[]) := by
  go_enter Tryz.func25, Tryz.ntmps25
  go_wp2_with (go_at_call 45; refine (demand_ok _ _ _ (by simp; try omega)).mono ?_; rintro e w' ⟨rfl, rfl⟩)
  go_end0
  exact ⟨rfl, rfl⟩

end Go.Proofs.YtlghjfpkfdnfoaaGreatDoor

/- Digits to a base, the least one first; texts; without the program. -/
namespace Go.Proofs.YtlghjfpkfdnfoaaGreatDoor

/-- so many digits of a number -/
def digs (b : Nat) : Nat → Nat → List Nat
  | 0, _ => []
  | n + 1, A => A % b :: digs b n (A / b)
theorem digs_length (b n A : Nat) : (digs b n A).length = n := by
  induction n generalizing A with
  | zero => rfl
  | succ n ih => simp [digs, ih]
theorem digs_add (b n m A : Nat) : digs b (n + m) A = digs b n A ++ digs b m (A / b ^ n) := by
  induction n generalizing A with
  | zero => simp [digs]
  | succ n ih =>
    rw [show n + 1 + m = (n + m) + 1 by omega]
    simp only [digs, List.cons_append, ih]
    rw [Nat.div_div_eq_div_mul, Nat.pow_succ, Nat.mul_comm b]
theorem digs_snoc (b n A : Nat) : digs b (n + 1) A = digs b n A ++ [A / b ^ n % b] := by rw [digs_add]; rfl
theorem digs_zero (b n : Nat) : digs b n 0 = List.replicate n 0 := by
  induction n with
  | zero => rfl
  | succ n ih => simp [digs, ih, List.replicate_succ]
theorem digs_mod (b n A : Nat) : digs b n (A % b ^ n) = digs b n A := by
  induction n generalizing A with
  | zero => rfl
  | succ n ih =>
    simp only [digs]
    have h1 : A % b ^ (n + 1) % b = A % b := Nat.mod_mod_of_dvd _ ⟨b ^ n, by rw [Nat.pow_succ, Nat.mul_comm]⟩
    have h2 : A % b ^ (n + 1) / b = A / b % b ^ n := by
      rw [Nat.pow_succ, Nat.mul_comm]
      exact Nat.mod_mul_right_div_self A b (b ^ n)
    rw [h1, h2, ih]
theorem digs_lt {b : Nat} (hb : 0 < b) (n A : Nat) : ∀ d ∈ digs b n A, d < b := by
  induction n generalizing A with
  | zero => intro d hd; simp [digs] at hd
  | succ n ih =>
    intro d hd
    simp only [digs, List.mem_cons] at hd
    rcases hd with rfl | hd
    · exact Nat.mod_lt _ hb
    · exact ih _ d hd
theorem trimmed_zeros (xs : List Nat) (n : Nat) : trimmed (xs ++ List.replicate n 0) = trimmed xs := by
  induction n with
  | zero => simp
  | succ n ih => rw [List.replicate_succ', ← List.append_assoc, trimmed_snoc_zero, ih]
theorem lt_pow_self2 {b : Nat} (hb : 2 ≤ b) (A : Nat) : A < b ^ A := Nat.lt_of_lt_of_le Nat.lt_two_pow_self (Nat.pow_le_pow_left hb A)
/-- the digits of a number -/
def digits (b A : Nat) : List Nat := trimmed (digs b A A)
theorem digits_eq {b N A : Nat} (hb : 2 ≤ b) (h : A / b ^ N = 0) : trimmed (digs b N A) = digits b A := by
  have e1 : digs b (N + A) A = digs b N A ++ List.replicate A 0 := by rw [digs_add, h, digs_zero]
  have e2 : digs b (A + N) A = digs b A A ++ List.replicate N 0 := by rw [digs_add, Nat.div_eq_of_lt (lt_pow_self2 hb A), digs_zero]
  rw [digits, ← trimmed_zeros (digs b N A) A, ← e1, Nat.add_comm, e2, trimmed_zeros]
theorem digits_zero (b : Nat) : digits b 0 = [] := rfl
/-- the number of digits -/
def numb (b : Nat) : List Nat → Nat
  | [] => 0
  | x :: xs => x + b * numb b xs
theorem numb_append (b : Nat) (xs ys : List Nat) : numb b (xs ++ ys) = numb b xs + b ^ xs.length * numb b ys := by
  induction xs with
  | nil => simp [numb]
  | cons x xs ih => simp only [List.cons_append, numb, ih, List.length_cons, Nat.pow_succ, Nat.mul_add, Nat.add_assoc]; rw [Nat.mul_comm (b ^ xs.length) b, Nat.mul_assoc]
theorem numb_zeros (b n : Nat) : numb b (List.replicate n 0) = 0 := by
  induction n with
  | zero => rfl
  | succ n ih => simp [List.replicate_succ, numb, ih]
theorem numb_digs {b : Nat} (n A : Nat) : numb b (digs b n A) = A % b ^ n := by
  induction n generalizing A with
  | zero => simp [digs, numb, Nat.mod_one]
  | succ n ih =>
    simp only [digs, numb, ih]
    rw [Nat.pow_succ, Nat.mul_comm (b ^ n) b, Nat.mod_mul]
theorem numb_trimmed (b : Nat) (xs : List Nat) : numb b (trimmed xs) = numb b xs := by
  obtain ⟨n, h⟩ := trimmed_eq xs
  conv => rhs; rw [h]
  rw [numb_append, numb_zeros]; simp
theorem numb_digits {b : Nat} (hb : 2 ≤ b) (A : Nat) : numb b (digits b A) = A := by
  rw [digits, numb_trimmed, numb_digs, Nat.mod_eq_of_lt (lt_pow_self2 hb A)]
theorem digits_nil_iff {b A : Nat} (hb : 2 ≤ b) : digits b A = [] ↔ A = 0 := by
  constructor
  · intro h
    have := numb_digits hb A
    rw [h] at this
    exact this.symm
  · rintro rfl; rfl

/-- the byte of a digit -/
def digChar (d : Nat) : Nat := if d < 10 then 48 + d else 87 + d
theorem digChar_lt {d : Nat} (h : d < 36) : digChar d < 256 := by unfold digChar; split <;> omega
theorem digChar_zero {d : Nat} (h : d < 36) : digChar d = 48 ↔ d = 0 := by unfold digChar; split <;> omega
/-- the bytes of the text of a number -/
def textOf (neg : Bool) (b A : Nat) : List Nat := if A = 0 then [48] else (if neg then [45] else []) ++ ((digits b A).map digChar).reverse

end Go.Proofs.YtlghjfpkfdnfoaaGreatDoor

/- num.chunk -/
namespace Go.Proofs.YtlghjfpkfdnfoaaGreatDoor
open Go Go.RowKit

def ChunkInv (b : Nat) (m u : Value) : Prop := ∃ k : Nat, 1 ≤ k ∧ m = .int .i64 (k : Nat) ∧ u = .int .u32 (b ^ k : Nat) ∧ b ^ k < 4294967296

def ChunkOut (b : Nat) (e : Ending) : Prop := ∃ m : Nat, e = .returned (.tuple #[.int .i64 (m : Nat), .int .u32 (b ^ m : Nat)]) ∧ 1 ≤ m ∧ m ≤ 31 ∧ b ^ m < B32

def ChunkFull (b : Nat) (e : Ending) : Prop := ∃ m : Nat, e = .returned (.tuple #[.int .i64 (m : Nat), .int .u32 (b ^ m : Nat)]) ∧ 1 ≤ m ∧ m ≤ 31 ∧ b ^ m < B32 ∧ B32 ≤ b ^ (m + 1)

set_option maxHeartbeats 1000000 in
set_option maxRecDepth 100000 in
theorem chunk_full (b : Nat) (w : World) (h2 : 2 ≤ b) (h36 : b ≤ 36) :
    Calls Tryz.prog 59 #[.int .i64 b] w fun e w' => w = w' ∧ ChunkFull b e := by
  have hw : IntKind.u32.wrap (b : Int) = b := by simp only [IntKind.wrap_u32]; omega
  have hw2 : IntKind.u64.wrap (b : Int) = b := by simp only [IntKind.wrap_u64]; omega
  go_enter Tryz.func59, Tryz.ntmps59
  go_wp2
  go_loop [2, 3] (fun m u => ChunkInv b m u) (fun m _ => (32 - intOf m).toNat)
  case atStart => exact ⟨1, by omega, rfl, by simp, by simp; omega⟩
  case round =>
    obtain ⟨k, hk, rfl, rfl, hlt⟩ := hrel
    have hk31 : k ≤ 31 := by
      rcases Nat.lt_or_ge 31 k with h | h
      · have h1 : 2 ^ 32 ≤ 2 ^ k := Nat.pow_le_pow_right (by decide) h
        have h2' : 2 ^ k ≤ b ^ k := Nat.pow_le_pow_left h2 k
        omega
      · exact h
    have hs : b ^ (k + 1) = b ^ k * b := Nat.pow_succ b k
    generalize hU : b ^ k = U at *
    have hUb : U * b ≤ 4294967296 * 36 := Nat.mul_le_mul (by omega) h36
    have hc : (U : Int) * (b : Int) = ((U * b : Nat) : Int) := by simp
    obtain ⟨V, hV⟩ : ∃ V, U * b = V := ⟨_, rfl⟩
    rw [hV] at hc hs hUb
    have hm1 : IntKind.u64.wrap ((U : Int) * (b : Int)) = (V : Int) := by rw [hc]; simp only [IntKind.wrap_u64]; omega
    have hcu : IntKind.u64.wrap (U : Int) = U := by simp only [IntKind.wrap_u64]; omega
    have HS := Lib.hid hs
    have HU := Lib.hid hU
    by_cases hcond : V < 4294967296
    · have hm2 : IntKind.u32.wrap ((U : Int) * (b : Int)) = (V : Int) := by rw [hc]; simp only [IntKind.wrap_u32]; omega
      have hd : decide ((V : Int) < 4294967296) = true := by simp; omega
      have HC := Lib.hid hcond
      have HL := Lib.hid hlt
      clear hs hU hV hc hUb hcond hlt
      go_wp2
      exact ⟨⟨k + 1, by omega, rfl, by rw [HS.out], by rw [HS.out]; exact HC.out⟩, by simp [intOf]; omega⟩
    · have hd : decide ((V : Int) < 4294967296) = false := by simp; omega
      have HL := Lib.hid hlt
      have HC := Lib.hid hcond
      clear hs hU hV hc hUb hcond hlt
      go_wp2
      go_ret2
      exact ⟨rfl, k, by rw [HU.out]; rfl, hk, hk31, by rw [HU.out]; exact HL.out, by rw [HS.out]; exact Nat.le_of_not_lt HC.out⟩

theorem chunk_any (b : Nat) (w : World) (h2 : 2 ≤ b) (h36 : b ≤ 36) :
    Calls Tryz.prog 59 #[.int .i64 b] w fun e w' => w = w' ∧ ChunkOut b e :=
  (chunk_full b w h2 h36).mono fun _ _ ⟨h1, m, h2, h3, h4, h5, _⟩ => ⟨h1, m, h2, h3, h4, h5⟩
theorem chunk_at (b M : Nat) (w : World) (h2 : 2 ≤ b) (h36 : b ≤ 36) (hM : b ^ M < B32) (hM1 : B32 ≤ b ^ (M + 1)) :
    Calls Tryz.prog 59 #[.int .i64 b] w fun e w' => w = w' ∧ e = .returned (.tuple #[.int .i64 (M : Nat), .int .u32 (b ^ M : Nat)]) := by
  refine (chunk_full b w h2 h36).mono ?_
  rintro e w' ⟨rfl, m, he, h3, h4, h5, h6⟩
  have a1 : m < M + 1 := (Nat.pow_lt_pow_iff_right (show 1 < b by omega)).1 (Nat.lt_of_lt_of_le h5 hM1)
  have a2 : M < m + 1 := (Nat.pow_lt_pow_iff_right (show 1 < b by omega)).1 (Nat.lt_of_lt_of_le hM h6)
  obtain rfl : m = M := by omega
  exact ⟨rfl, he⟩
theorem chunk_exists (b : Nat) (h2 : 2 ≤ b) (h36 : b ≤ 36) : ∃ M, 1 ≤ M ∧ b ^ M < B32 ∧ B32 ≤ b ^ (M + 1) := by
  apply Classical.byContradiction
  intro hc
  have h : ∀ k, b ^ (k + 1) < B32 := fun k => by
    induction k with
    | zero => simp; unfold B32; omega
    | succ k ih => exact Nat.lt_of_not_le fun h => hc ⟨k + 1, by omega, ih, h⟩
  have h1 : b ^ 32 < B32 := h 31
  have h3 : 2 ^ 32 ≤ b ^ 32 := Nat.pow_le_pow_left h2 32
  unfold B32 at h1
  omega

end Go.Proofs.YtlghjfpkfdnfoaaGreatDoor

/- num.chunks, what it gives -/
namespace Go.Proofs.YtlghjfpkfdnfoaaGreatDoor
open Go Go.RowKit Go.Shelf
attribute [local go_sem] Oper.semAt_some

/-- the number of a text to a base -/
def numBE (b : Nat) (l : List UInt8) : Nat := l.foldl (fun v c => v * b + digitVal c.toNat) 0
theorem foldBE (b : Nat) (l : List UInt8) (z : Nat) : l.foldl (fun v c => v * b + digitVal c.toNat) z = z * b ^ l.length + numBE b l := by
  unfold numBE
  induction l generalizing z with
  | nil => simp
  | cons c l ih =>
    simp only [List.foldl_cons, List.length_cons]
    rw [ih, ih (0 * b + digitVal c.toNat), Nat.pow_succ]
    simp only [Nat.zero_mul, Nat.zero_add, Nat.add_mul]
    rw [Nat.mul_assoc z b, Nat.mul_comm b, Nat.add_assoc]
theorem numBE_append (b : Nat) (xs ys : List UInt8) : numBE b (xs ++ ys) = numBE b xs * b ^ ys.length + numBE b ys := by
  rw [numBE, List.foldl_append]
  exact foldBE b ys _
theorem numBE_snoc (b : Nat) (xs : List UInt8) (c : UInt8) : numBE b (xs ++ [c]) = numBE b xs * b + digitVal c.toNat := by
  rw [numBE_append]
  simp [numBE]
theorem numBE_lt {b : Nat} (l : List UInt8) (h : ∀ c ∈ l, digitVal c.toNat < b) : numBE b l < b ^ l.length := by
  induction l using snoc_ind with
  | h0 => simp [numBE]
  | h1 l c ih =>
    have h1 := ih (fun x hx => h x (by simp [hx]))
    have h2 := h c (by simp)
    rw [numBE_snoc, List.length_append, List.length_singleton, Nat.pow_succ]
    calc numBE b l * b + digitVal c.toNat < numBE b l * b + b := by omega
      _ = (numBE b l + 1) * b := by rw [Nat.add_mul, Nat.one_mul]
      _ ≤ b ^ l.length * b := Nat.mul_le_mul_right _ h1
/-- the piece k of a text, m digits long -/
def pieceAt (m : Nat) (l : List UInt8) (k : Nat) : List UInt8 := (l.drop (m * k)).take m
theorem take_piece (m : Nat) (l : List UInt8) (k : Nat) : l.take (m * (k + 1)) = l.take (m * k) ++ pieceAt m l k := by
  rw [pieceAt, Nat.mul_succ, List.take_add]
theorem piece_length (m : Nat) (l : List UInt8) (k : Nat) : (pieceAt m l k).length = min m (l.length - m * k) := by simp [pieceAt]

/-- a chunk: the base to the power of its length, its value -/
abbrev IdxChunk := { p : Nat × Nat // p.1 < B32 ∧ p.2 < B32 }
def encChunk (p : IdxChunk) : Array Value := #[.int .u32 (p.1.1 : Int), .int .u32 (p.1.2 : Int)]
def chunkAt (b m : Nat) (l : List UInt8) (k : Nat) : Nat × Nat := (b ^ (pieceAt m l k).length, numBE b (pieceAt m l k))
def strLen : Option Value → Nat
  | some (.string s) => s.size
  | _ => 0
/-- what is left behind so many chunks -/
def restAt (m : Nat) (l : List UInt8) (k : Nat) : ByteArray := ⟨(l.drop (m * k)).toArray⟩
theorem restAt_size (m : Nat) (l : List UInt8) (k : Nat) : (restAt m l k).size = l.length - m * k := by simp [restAt, ByteArray.size]
theorem restAt_toList (m : Nat) (l : List UInt8) (k : Nat) : (restAt m l k).data.toList = l.drop (m * k) := by simp [restAt]
theorem bytes_ext {s t : ByteArray} (h : s.data.toList = t.data.toList) : s = t := by
  obtain ⟨⟨a⟩⟩ := s
  obtain ⟨⟨c⟩⟩ := t
  simp at h
  rw [h]
theorem restAt_next (m : Nat) (l : List UInt8) (k : Nat) : (restAt m l k).extract (min m (l.length - m * k)) (l.length - m * k) = restAt m l (k + 1) := by
  apply bytes_ext
  have h := Lib.extract_to_end (restAt m l k) (min m (l.length - m * k))
  rw [restAt_size] at h
  rw [h, restAt_toList, restAt_toList, List.drop_drop, Nat.mul_succ]
  by_cases hc : m ≤ l.length - m * k
  · rw [Nat.min_eq_left hc]
  · rw [Nat.min_eq_right (by omega), List.drop_eq_nil_of_le (by omega), List.drop_eq_nil_of_le (by omega)]

set_option maxRecDepth 100000 in
set_option maxHeartbeats 4000000 in
theorem chunks1_in (b m : Nat) (l : List UInt8) (h2 : 2 ≤ b) (h36 : b ≤ 36) (hm1 : 1 ≤ m) (hM : b ^ m < B32) (hM1 : B32 ≤ b ^ (m + 1)) (hl : l.length ≤ 1000000) (hdig : ∀ c ∈ l, digitVal c.toNat < b) (y Bb Bs : Nat)
    (J : List IdxChunk → World → Prop) (hJ : ∀ s A A', J s A → A.grownBy A' (some Bs) → J s A')
    (hY : ∀ pre x A, J pre A → Boxed A Bs 9 (.string (restAt m l (pre ++ [x]).length)) → pre.length < 1000000 → ((pre ++ [x]).map (·.1) = (List.range (pre ++ [x]).length).map (chunkAt b m l)) → YieldAt Fence.wide (8 - 1) Tryz.prog y (encChunk x) A fun e A' => e = .returned (.bool true) ∧ J (pre ++ [x]) A' ∧ A'.heap[Bb]? = A.heap[Bb]? ∧ A'.heap[Bs]? = A.heap[Bs]?)
    (W : World) (hb : Boxed W Bb 3 (.int .i64 (b : Int))) (hs : Boxed W Bs 9 (.string (restAt m l 0))) (hne : Bb ≠ Bs) (h0 : J [] W) :
    CallsIn Fence.wide 8 Tryz.prog 89 #[.func (.yield y) #[] #[], .pointer (some ⟨Bb, 0, none⟩), .pointer (some ⟨Bs, 0, none⟩)] W fun e W' => (∃ v, e = .returned v) ∧
      ∃ xs : List IdxChunk, (xs.map (·.1) = (List.range xs.length).map (chunkAt b m l) ∧ l.length ≤ m * xs.length) ∧ J xs W' := by
  have hbc := hb.cell
  refine callsIn_of_wp Tryz.func89 rfl trivial ?_ rfl
  simp only [Tryz.ntmps89, List.size_toArray, List.length_cons, List.length_nil, Nat.reduceAdd, Nat.reduceSub, Array.replicate_succ, Array.replicate_zero, List.push_toArray, List.append_toArray, List.nil_append, List.cons_append]
  have HM := Lib.hid (And.intro hM hM1)
  obtain ⟨U, hU⟩ : ∃ U, b ^ m = U := ⟨_, rfl⟩
  have hch := chunk_at b m W h2 h36 hM hM1
  rw [hU] at hch
  have HC := Lib.hid hch
  clear hch hM hM1 hU
  gi_wp2_with (refine ⟨trivial, ?_⟩; gi_at_call 59; refine (callsIn_wide.2 HC.out).mono ?_; rintro e w' ⟨rfl, rfl⟩)
  gi_loopw [6] (fun _ wr => ∃ pre : List IdxChunk, pre.map (·.1) = (List.range pre.length).map (chunkAt b m l) ∧ pre.length ≤ l.length ∧ J pre wr ∧ Boxed wr Bb 3 (.int .i64 (b : Int)) ∧ Boxed wr Bs 9 (.string (restAt m l pre.length))) (fun _ W => strLen (W.cell? ⟨Bs, 0, none⟩))
  case atStart => exact ⟨[], rfl, by simp, h0, hb, hs⟩
  case round =>
    obtain ⟨pre, hpre, hpl, hJ1, hb1, hs1⟩ := hrel
    obtain ⟨k, hk⟩ : ∃ k, pre.length = k := ⟨_, rfl⟩
    rw [hk] at hs1 hpl
    obtain ⟨L, hL⟩ : ∃ L, l.length - m * k = L := ⟨_, rfl⟩
    have hsz : (restAt m l k).size = L := by rw [restAt_size, hL]
    have hrl := restAt_toList m l k
    have hnx := restAt_next m l k
    rw [hL] at hnx
    have hpl2 := piece_length m l k
    rw [hL] at hpl2
    have hc1 := hs1.cell
    have hf1 := hs1.frozen
    have hc2 := hb1.cell
    by_cases hlt : 0 < L
    · have HP := Lib.hid (And.intro hpre (And.intro hk (And.intro hL (And.intro hnx (And.intro hpl2 hrl)))))
      have HS := Lib.hid hsz
      clear hpre hk hL hnx hpl2 hrl
      obtain ⟨r, hr⟩ : ∃ r, restAt m l k = r := ⟨_, rfl⟩
      rw [hr] at hc1 hsz
      have HR := Lib.hid hr
      have hrL : r.size = L := hsz
      clear hr hsz
      have hLb : L ≤ 1000000 := by have := HP.out.2.2.1; omega
      have hmnB : min m L ≤ 1000000 := by omega
      gi_wp2
      rw [show min (m : Int) (L : Int) = ((min m L : Nat) : Int) by omega]
      obtain ⟨mn, hmn⟩ : ∃ mn, min m L = mn := ⟨_, rfl⟩
      rw [hmn] at hmnB ⊢
      have hmnL : mn ≤ L := by omega
      have HMN := Lib.hid hmn
      obtain ⟨pc, hpc⟩ : ∃ pc, pieceAt m l k = pc := ⟨_, rfl⟩
      have hpcl : pc.length = mn := by rw [← hpc, HP.out.2.2.2.2.1, hmn]
      have hpcd : ∀ c ∈ pc, digitVal c.toNat < b := fun c hc => hdig c (by rw [← hpc, pieceAt] at hc; exact List.mem_of_mem_drop (List.mem_of_mem_take hc))
      have hpcr : ∀ j, j < mn → ∃ hj : j < r.size, r[j] = pc[j]! := fun j hj => by
        refine ⟨by omega, ?_⟩
        have e1 : r.data.toList = l.drop (m * k) := by rw [← HR.out]; exact HP.out.2.2.2.2.2
        have e2 : r.data.toList[j]? = some (r[j]'(by omega)) := by
          have hs : j < r.data.size := by have : r.data.size = r.size := rfl; omega
          rw [Array.getElem?_toList, Array.getElem?_eq_getElem hs]
          rfl
        have e4 : (pieceAt m l k)[j]? = r.data.toList[j]? := by
          rw [pieceAt, List.getElem?_take, if_pos (by omega), ← e1]
        have e3 : pc[j]? = some (r[j]'(by omega)) := by
          rw [hpc] at e4
          exact e4.trans e2
        have hjp : j < pc.length := by rw [hpcl]; exact hj
        rw [getElem!_pos pc j hjp]
        rw [List.getElem?_eq_getElem hjp] at e3
        exact (Option.some.inj e3).symm
      have HPC := Lib.hid (And.intro hpc (And.intro hpcl (And.intro hpcd hpcr)))
      clear hmn hpc hpcl hpcd hpcr
      gi_loopw [6, 7, 21] (fun u v i W => ∃ j : Nat, j ≤ mn ∧ i = .int .i64 j ∧ u = .int .u64 ((b ^ j : Nat) : Int) ∧ v = .int .u64 ((numBE b (pc.take j) : Nat) : Int) ∧ ∃ nq, W = wr.drewN nq) (fun _ _ i _ => mn - (intOf i).toNat)
      case atStart => exact ⟨0, Nat.zero_le _, rfl, by simp, by simp [numBE], 0, rfl⟩
      case round =>
        obtain ⟨j, hj, rfl, rfl, rfl, nq, rfl⟩ := hrel
        have c1 : (wr.drewN nq).cell? ⟨Bs, 0, none⟩ = some (.string r) := hc1
        have c2 : (wr.drewN nq).cell? ⟨Bb, 0, none⟩ = some (.int .i64 (b : Int)) := hc2
        by_cases hjm : j < mn
        · obtain ⟨hjr, hjc⟩ := HPC.out.2.2.2 j hjm
          obtain ⟨P1, hP1⟩ : ∃ P1, b ^ j = P1 := ⟨_, rfl⟩
          obtain ⟨V1, hV1⟩ : ∃ V1, numBE b (pc.take j) = V1 := ⟨_, rfl⟩
          rw [hP1, hV1]
          have hmnm : mn ≤ m := by have := HMN.out; omega
          have hPlt : b ^ (j + 1) < B32 := Nat.lt_of_le_of_lt (Nat.pow_le_pow_right (by omega) (by omega)) HM.out.1
          have hcm : pc[j]! ∈ pc := by
            have := HPC.out.2.1
            rw [getElem!_pos pc j (by omega)]
            exact List.getElem_mem _
          have hdlt := HPC.out.2.2.1 _ hcm
          have htk : pc.take (j + 1) = pc.take j ++ [pc[j]!] := by
            have := HPC.out.2.1
            rw [List.take_succ_eq_append_getElem (by omega), getElem!_pos pc j (by omega)]
          have hVn : numBE b (pc.take (j + 1)) = V1 * b + digitVal r[j].toNat := by rw [htk, numBE_snoc, hV1, hjc]
          have hVlt : numBE b (pc.take (j + 1)) < B32 := by
            refine Nat.lt_of_lt_of_le (numBE_lt _ (fun c hc => HPC.out.2.2.1 c (List.mem_of_mem_take hc))) (Nat.le_of_lt (Nat.lt_of_le_of_lt (Nat.pow_le_pow_right (by omega) ?_) hPlt))
            have := List.length_take_le (j + 1) pc
            omega
          rw [← hjc] at hdlt
          have hP2 : b ^ (j + 1) = P1 * b := by rw [← hP1, Nat.pow_succ]
          have hix : ∀ W, (Instr.index 9 (.string r) (.int .i64 (j : Int))).run Tryz.prog W = .ok (.int .u8 ((r[j].toNat : Nat) : Int)) W := fun W => by
            simp [go_sem, hjr]
          obtain ⟨c, hc⟩ : ∃ c, r[j].toNat = c := ⟨_, rfl⟩
          have hc256 : c < 256 := by rw [← hc]; exact r[j].toNat_lt
          rw [hc] at hix hVn hdlt
          obtain ⟨d, hdd⟩ : ∃ d, digitVal c = d := ⟨_, rfl⟩
          rw [hdd] at hVn hdlt
          obtain ⟨P2, hP2'⟩ : ∃ P2, P1 * b = P2 := ⟨_, rfl⟩
          obtain ⟨V2, hV2⟩ : ∃ V2, V1 * b = V2 := ⟨_, rfl⟩
          rw [hP2'] at hP2
          rw [hV2] at hVn
          have w1 : IntKind.u64.wrap ((P1 : Int) * (b : Int)) = (P2 : Int) := by rw [← Int.natCast_mul, hP2', IntKind.wrap_u64]; unfold B32 at hPlt; omega
          have w2 : IntKind.u64.wrap ((V1 : Int) * (b : Int)) = (V2 : Int) := by rw [← Int.natCast_mul, hV2, IntKind.wrap_u64]; unfold B32 at hVlt; omega
          have w3 : IntKind.u64.wrap (d : Int) = (d : Int) := by rw [IntKind.wrap_u64]; omega
          have w4 : IntKind.u64.wrap ((V2 : Int) + (d : Int)) = ((V2 + d : Nat) : Int) := by rw [IntKind.wrap_u64]; unfold B32 at hVlt; omega
          have hdg := fun W => digitOf_any c W hc256
          rw [hdd] at hdg
          have HDG := Lib.hid hdg
          have HPV := Lib.hid (And.intro hP2 hVn)
          clear hjc hmnm hPlt hcm hdlt htk hVn hVlt hP2 hc hc256 hdd hP2' hV2 hdg hP1 hV1 hjr
          gi_wp2_with fail
          refine region_round (.inl rfl) (by kernel_rfl) (by kernel_rfl) ?_
          repeat (go_big_quiet_step (exact (HDG.out _).mono (fun e w' ⟨h1, h2⟩ => ⟨h2, _, h1.symm⟩)))
          refine wpQuiet_nil ?_
          rintro _ ⟨nq2, rfl⟩
          gi_wp2
          exact ⟨⟨j + 1, by omega, by go_num, by rw [HPV.out.1], by rw [HPV.out.2, Int.natCast_add], _, rfl⟩, by simp [intOf]; omega⟩
        · obtain rfl : j = mn := by omega
          have hml := HMN.out
          have hx1 : b ^ j < B32 := Nat.lt_of_le_of_lt (Nat.pow_le_pow_right (by omega) (by omega)) HM.out.1
          have htk : pc.take j = pc := List.take_of_length_le (by rw [HPC.out.2.1]; exact Nat.le_refl _)
          have hx2 : numBE b pc < B32 := Nat.lt_trans (numBE_lt _ HPC.out.2.2.1) (by rw [HPC.out.2.1]; exact hx1)
          have hck : chunkAt b m l k = (b ^ j, numBE b pc) := by rw [chunkAt, HPC.out.1, HPC.out.2.1]
          have hrx : r.extract j L = restAt m l (k + 1) := by rw [← HR.out, ← HP.out.2.2.2.1, HMN.out]
          have hpk := HP.out.2.1
          have hkl := HP.out.2.2.1
          rw [htk]
          obtain ⟨P1, hP1⟩ : ∃ P1, b ^ j = P1 := ⟨_, rfl⟩
          obtain ⟨V1, hV1⟩ : ∃ V1, numBE b pc = V1 := ⟨_, rfl⟩
          rw [hP1] at hx1 hck ⊢
          rw [hV1] at hx2 hck ⊢
          have hJ2 : J pre ((wr.drewN nq).setCell ⟨Bs, 0, none⟩ (.string (restAt m l (k + 1)))) := hJ _ (wr.drewN nq) _ (hJ _ wr (wr.drewN nq) hJ1 ⟨rfl, rfl, rfl, Nat.le_refl _, fun _ _ _ => rfl⟩) (grownBy_setCell' _ _ _)
          have hB2 : Boxed ((wr.drewN nq).setCell ⟨Bs, 0, none⟩ (.string (restAt m l (k + 1)))) Bs 9 (.string (restAt m l (pre ++ [(⟨(P1, V1), hx1, hx2⟩ : IdxChunk)]).length)) := by
            rw [List.length_append, List.length_singleton, hpk]
            exact Boxed.set _ (show Boxed (wr.drewN nq) Bs _ _ from hs1)
          have hkm : k ≤ m * k := Nat.le_mul_of_pos_left k hm1
          have hmap : (pre ++ [(⟨(P1, V1), hx1, hx2⟩ : IdxChunk)]).map (·.1) = (List.range (pre ++ [(⟨(P1, V1), hx1, hx2⟩ : IdxChunk)]).length).map (chunkAt b m l) := by
            rw [List.map_append, HP.out.1, List.length_append, List.length_singleton, List.range_succ, List.map_append, hpk]
            simp only [List.map_cons, List.map_nil]
            rw [hck]
          obtain ⟨fn, tmps, assign, body, hy, hRo⟩ := hY pre ⟨(P1, V1), hx1, hx2⟩ _ hJ2 hB2 (by rw [hpk]; omega) hmap
          have HMAP := Lib.hid hmap
          clear hmap
          simp only [encChunk] at hy
          have w1 : IntKind.u32.wrap (P1 : Int) = (P1 : Int) := by rw [IntKind.wrap_u32']; unfold B32 at hx1; omega
          have w2 : IntKind.u32.wrap (V1 : Int) = (V1 : Int) := by rw [IntKind.wrap_u32']; unfold B32 at hx2; omega
          have hfB : (wr.drewN nq).frozen? ⟨Bs, 0, none⟩ = false := hf1 
          have hmin : min (m : Int) (L : Int) = (j : Int) := by omega
          have HX := Lib.hid (And.intro hml (And.intro htk (And.intro hck (And.intro hpk (And.intro hkl (And.intro hP1 hV1))))))
          have HR2 := Lib.hid hRo
          clear hml htk hck hpk hkl hP1 hV1 hkm hB2 hJ2 hRo HPC HMN HR
          gi_wp2_with fail
          refine HR2.out.mono ?_
          rintro e W3 ⟨rfl, hJ3, hbe3, hs3⟩
          have hB3 : Boxed W3 Bs 9 (.string (restAt m l (k + 1))) := hs3.trans (Boxed.set _ (show Boxed (wr.drewN nq) Bs _ _ from hs1))
          have hb3 : Boxed W3 Bb 3 (.int .i64 (b : Int)) := hbe3.trans (Boxed.other (show Boxed (wr.drewN nq) Bb _ _ from hb1) hne _)
          have hc3 := hB3.cell
          have hms : strLen (W3.cell? ⟨Bs, 0, none⟩) < strLen (wr.cell? ⟨Bs, 0, none⟩) := by
            rw [hc3, hc1]
            show (restAt m l (k + 1)).size < r.size
            have := HX.out.2.2.2.2.1
            rw [restAt_size, hrL, ← this, Nat.mul_succ]
            omega
          clear hc3 hs3
          gi_wp2_with fail
          have hpk := HX.out.2.2.2.1
          refine ⟨⟨pre ++ [_], ?_, ?_, hJ3, hb3, ?_⟩, hms⟩
          · exact HMAP.out
          · rw [List.length_append, List.length_singleton, hpk]
            have hkm : k ≤ m * k := Nat.le_mul_of_pos_left k hm1
            have := HX.out.2.2.2.2.1
            omega
          · rw [List.length_append, List.length_singleton, hpk]
            exact hB3
    · have hL0 : L = 0 := by omega
      have hr0 : (restAt m l k).size = 0 := by rw [hsz, hL0]
      have HP := Lib.hid (And.intro hpre (And.intro hk hL))
      clear hpre hk hL hsz hrl hnx hpl2
      obtain ⟨r, hr⟩ : ∃ r, restAt m l k = r := ⟨_, rfl⟩
      rw [hr] at hc1 hr0
      clear hr
      gi_wp2
      go_end0
      exact ⟨⟨_, rfl⟩, pre, ⟨HP.out.1, by have h1 := HP.out.2.2; have h2 := HP.out.2.1; rw [h2]; omega⟩, hJ1⟩

/-- what a round keeps: the two boxes of the iterator -/
def KpC (Bb Bs : Nat) (A A' : World) : Prop := A'.heap[Bb]? = A.heap[Bb]? ∧ A'.heap[Bs]? = A.heap[Bs]?
theorem KpC.trans {Bb Bs : Nat} {A B C : World} (h : KpC Bb Bs A B) (k : KpC Bb Bs B C) : KpC Bb Bs A C := ⟨k.1.trans h.1, k.2.trans h.2⟩

theorem chunks_any (s : ByteArray) (b : Int) (w : World) :
    Calls Tryz.prog 63 #[.string s, .int .i64 b] w fun e w' =>
      e = .returned (.func (.func 89) #[] #[.pointer (some ⟨w.heap.size + 1, 0, none⟩), .pointer (some ⟨w.heap.size, 0, none⟩)]) ∧
      (w.alloc (.cells #[.string s] 9)).alloc (.cells #[.int .i64 b] 3) = w' := by
  go_enter Tryz.func63, Tryz.ntmps63
  go_wp2
  go_ret
  exact ⟨rfl, rfl⟩

theorem chunks_stops (b m : Nat) (l : List UInt8) (h2 : 2 ≤ b) (h36 : b ≤ 36) (hm1 : 1 ≤ m) (hM : b ^ m < B32) (hM1 : B32 ≤ b ^ (m + 1)) (hl : l.length ≤ 1000000) (hdig : ∀ c ∈ l, digitVal c.toNat < b) (Bb Bs : Nat) (w : World)
    (hb : Boxed w Bb 3 (.int .i64 (b : Int))) (hs : Boxed w Bs 9 (.string (restAt m l 0))) (hne : Bb ≠ Bs) :
    SeqSt Fence.wide (9 - 1) Tryz.prog 89 #[.pointer (some ⟨Bb, 0, none⟩), .pointer (some ⟨Bs, 0, none⟩)] encChunk (KpC Bb Bs)
      (fun xs => xs.map (·.1) = (List.range xs.length).map (chunkAt b m l) ∧ l.length ≤ m * xs.length) (fun ys => ys.map (·.1) = (List.range ys.length).map (chunkAt b m l)) 1000000 Bs 9 (fun ys => .string (restAt m l ys.length)) w :=
  fun y J W hW hJ hY h0 => chunks1_in b m l h2 h36 hm1 hM hM1 hl hdig y Bb Bs J hJ hY W (hb.kept (row := none) ⟨hW.os, hW.tape, hW.output, hW.size, fun j hj _ => hW.block j hj⟩ (by simp)) (hs.kept (row := none) ⟨hW.os, hW.tape, hW.output, hW.size, fun j hj _ => hW.block j hj⟩ (by simp)) hne h0

/-- a loop over chunks, at the wide fence -/
theorem range_chunks {g : Operand} {p1 p2 : Tmp} {assign body : Code} {Q : Exit → Act → World → Prop} {a : Act} {w : World} (d1 d2 : Nat) (b m : Nat) (l : List UInt8) (h2 : 2 ≤ b) (h36 : b ≤ 36) (hm1 : 1 ≤ m) (hM : b ^ m < B32) (hM1 : B32 ≤ b ^ (m + 1)) (hl : l.length ≤ 1000000) (hdig : ∀ c ∈ l, digitVal c.toNat < b) (Bb Bs : Nat)
    (hg : a.eval g = .func (.func 89) #[] #[.pointer (some ⟨Bb, 0, none⟩), .pointer (some ⟨Bs, 0, none⟩)])
    (hb : Boxed w Bb 3 (.int .i64 (b : Int))) (hs : Boxed w Bs 9 (.string (restAt m l 0))) (hne : Bb ≠ Bs)
    (I : List IdxChunk → World → Prop) (hI : ∀ s A A' row, I s A → A.grownBy A' row → (∀ r, row = some r → r = Bs ∨ (w.heap.size ≤ r ∧ ∃ o : Obj, A.heap[r]? = some o ∧ o.isCells = false)) → I s A') (h0 : I [] w)
    (hassign : ∀ (l : Nat) (x : IdxChunk) (W : World) (K : Act → World → Prop), K (boundFrame a p1 p2 d1 d2 (.int .u32 (x.1.1 : Int)) (.int .u32 (x.1.2 : Int))) W →
      assign.wpIn (Fence.wide.inRound l) 7 Tryz.prog (Exit.then K (fun _ _ _ => False)) { tmps := (a.tmps.setIfInBounds p1 (.int .u32 (x.1.1 : Int))).setIfInBounds p2 (.int .u32 (x.1.2 : Int)), defers := [] } W)
    (hbody : ∀ (y : Nat) (pre : List IdxChunk) (x : IdxChunk) (W : World), I pre W → Boxed W Bs 9 (.string (restAt m l (pre ++ [x]).length)) → pre.length < 1000000 → (pre ++ [x]).map (·.1) = (List.range (pre ++ [x]).length).map (chunkAt b m l) →
      body.wpIn (Fence.wide.inRound y) 7 Tryz.prog (stPost w.heap.size (KpC Bb Bs) I (pre ++ [x]) W) (boundFrame a p1 p2 d1 d2 (.int .u32 (x.1.1 : Int)) (.int .u32 (x.1.2 : Int))) W)
    (hdone : ∀ (D : Nat) (xs : List IdxChunk) (W : World), w.heap.size ≤ D → (xs.map (·.1) = (List.range xs.length).map (chunkAt b m l) ∧ l.length ≤ m * xs.length) → I xs W → W.heap[D]? = some (.deferred (some [])) → Q .normal { a with defers := { target := .collected D, args := #[] } :: a.defers } W) :
    (Code.rangeFunc g #[p1, p2] assign body).wpIn Fence.wide 9 Tryz.prog Q a w :=
  wpIn_rangeFunc_st (n := 9) (F := Fence.wide) rfl (by omega) (gf := 89) (lb := #[.pointer (some ⟨Bb, 0, none⟩), .pointer (some ⟨Bs, 0, none⟩)]) hg trivial (enters_of Tryz.func89 (by kernel_rfl) rfl)
    (chunks_stops b m l h2 h36 hm1 hM hM1 hl hdig Bb Bs w hb hs hne) KpC.trans (fun W l o o' hB h hc hw => ⟨World.putObj_heap_other (by have := hb.lt; omega), World.putObj_heap_other (by have := hs.lt; omega)⟩) (Below.refl _ _) (fun _ => rfl) hs.lt I hI h0
    (fun x => boundFrame a p1 p2 d1 d2 (.int .u32 (x.1.1 : Int)) (.int .u32 (x.1.2 : Int))) (fun l x W K hK => by simpa [encChunk] using hassign l x W K hK) hbody hdone

end Go.Proofs.YtlghjfpkfdnfoaaGreatDoor
