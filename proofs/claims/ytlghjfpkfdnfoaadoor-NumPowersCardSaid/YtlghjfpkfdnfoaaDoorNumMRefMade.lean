/- num.Of -/
import Derived.Test.YtlghjfpkfdnfoaaDoorNumMBitLen
import Derived.Test.YtlghjfpkfdnfoaaDoorNumMChg
import Derived.WalkLawsBesides
import Derived.Outline
import Derived.Lib.Hide
import Derived.IntWalk
import Derived.Test.YtlghjfpkfdnfoaaDoorProg
import Derived.WalkKit
import Derived.WalkSpells
import Derived.RegionTactic
import Derived.ChangeAlike
import Derived.Laws.OwnMore
import Derived.Test.YtlghjfpkfdnfoaaDoorNumMAttempt
import Derived.Test.YtlghjfpkfdnfoaaDoorNumMRing2
namespace Go.Proofs.YtlghjfpkfdnfoaaDoor
open Go Go.RowKit Go.Shelf

/-- a magnitude of at most 64 bits as two limbs -/
theorem two_limbs (m : Nat) (h : m < 18446744073709551616) : val [m % 4294967296, m / 4294967296] = m ∧ Limbs [m % 4294967296, m / 4294967296] := by
  constructor
  · simp only [val, B32]; omega
  · intro x hx; simp at hx; unfold B32; rcases hx with rfl | rfl <;> omega
theorem two_trim (m : Nat) (h : m < 18446744073709551616) (w : World) : Calls Tryd.prog 64 #[.slice (some ⟨w.heap.size, 0, none⟩) 2 2] (w.alloc (.cells #[.int .u32 ((m : Int) % 4294967296), .int .u32 ((m : Int) / 4294967296)] 72)) fun e w' => Below w.heap.size w w' ∧ ∃ v cs, e = .returned v ∧ Reads .u32 w' v cs ∧ Canon cs ∧ val cs = m := by
  obtain ⟨hv, hl⟩ := two_limbs m h
  have r := RowAt.reads (xs := [m % 4294967296, m / 4294967296]) (RowAt.new w 72 [.int .u32 ((m % 4294967296 : Nat) : Int), .int .u32 ((m / 4294967296 : Nat) : Int)]) 2 2 rfl (by simp) (by simp [maxLen])
  have e1 : ((m % 4294967296 : Nat) : Int) = (m : Int) % 4294967296 := by omega
  have e2 : ((m / 4294967296 : Nat) : Int) = (m : Int) / 4294967296 := by omega
  rw [e1, e2] at r
  refine (trim_any _ _ _ r).mono ?_
  rintro e w' ⟨rfl, v, rfl, h1⟩
  exact ⟨(Below.refl _ _).alloc (Nat.le_refl _) _, v, _, rfl, h1, canon_trimmed hl, by rw [val_trimmed, hv]⟩

set_option maxHeartbeats 1000000 in
set_option maxRecDepth 100000 in
theorem Of_nonneg (n : Nat) (w : World) (hn : n < 9223372036854775808) :
    Calls Tryd.prog 26 #[.int .i64 n] w fun e w' => Below w.heap.size w w' ∧ ∃ v, e = .returned v ∧ IsInt w' v n := by
  have tr := two_trim n (by omega) (w.alloc (.cells #[.bool false, .slice none 0 0] 24))
  have r0 := RowAt.new w 24 [.bool false, .slice none 0 0]
  have bw := (Below.refl w.heap.size w).alloc (Nat.le_refl _) (.cells #[.bool false, .slice none 0 0] 24)
  simp only [World.size_alloc] at tr
  go_enter Tryd.func26, Tryd.ntmps26
  go_wp2_with (first | (go_at_call 64; refine tr.mono ?_; rintro e w2 ⟨hbe2, v, cs, rfl, h1, h2, h3⟩; clear tr; obtain ⟨a2, c2, rfl, hc2, hm2⟩ := h1.form; have bw2 := bw.trans (hbe2.mono (by omega)); have r2 : RowAt w2 w.heap.size 24 [.bool false, .slice none 0 0] := (hbe2.block _ (by omega)).trans r0) | (go_at_call 63; refine (signed_any _ _ _ _ _).mono ?_; rintro e w3 ⟨hbe3, rfl⟩; have r3 := r2.below hbe3; have q1 := r3.cell 0; have q2 := r3.cell 1; have q3 := r3.frozen 0; have q4 := r3.frozen 1; simp only [List.getElem?_cons_zero, List.getElem?_cons_succ] at q1 q2))
  obtain ⟨s1, s2⟩ := two_reads (b := w.heap.size) q1 q2 (.bool (false && decide (0 < cs.length))) (.slice a2 cs.length c2)
  have hk := two_kept (b := w.heap.size) (h1.below hbe3) q1 q2 (.bool (false && decide (0 < cs.length))) (.slice a2 cs.length c2)
  have hlow := ((bw2.trans (hbe3.mono bw2.size)).setCell (p := ⟨w.heap.size, 0, none⟩) (Nat.le_refl _) (.bool (false && decide (0 < cs.length)))).setCell (p := ⟨w.heap.size, 1, none⟩) (Nat.le_refl _) (.slice a2 cs.length c2)
  simp only [Bool.false_and] at s1 s2 hk hlow
  have hd : decide ((n : Int) < 0) = false := by simp
  simp only [hd, Bool.false_and]
  exact bodyPost_ret (v := .agg #[.bool (false && decide (0 < cs.length)), .slice a2 cs.length c2]) (by simp [results, Tryd.results26, go_sem, loadCellsFrom, s1, s2]) rfl ⟨hlow, _, rfl, isInt_mk false hk h2 (by rw [h3]; rfl)⟩
set_option maxHeartbeats 1000000 in
set_option maxRecDepth 100000 in
theorem Of_neg (n : Nat) (w : World) (h0 : 0 < n) (hn : n ≤ 9223372036854775808) :
    Calls Tryd.prog 26 #[.int .i64 (-(n : Int))] w fun e w' => Below w.heap.size w w' ∧ ∃ v, e = .returned v ∧ IsInt w' v (-(n : Int)) := by
  have tr := two_trim n (by omega) (w.alloc (.cells #[.bool false, .slice none 0 0] 24))
  have r0 := RowAt.new w 24 [.bool false, .slice none 0 0]
  have bw := (Below.refl w.heap.size w).alloc (Nat.le_refl _) (.cells #[.bool false, .slice none 0 0] 24)
  simp only [World.size_alloc] at tr
  have hw : IntKind.u64.wrap (-IntKind.u64.wrap (-(n : Int))) = n := by simp only [IntKind.wrap_u64]; omega
  have hq : (n : Int) / 4294967296 % 4294967296 = (n : Int) / 4294967296 := by omega
  go_enter Tryd.func26, Tryd.ntmps26
  go_wp2_with (first | (go_at_call 64; refine tr.mono ?_; rintro e w2 ⟨hbe2, v, cs, rfl, h1, h2, h3⟩; clear tr; obtain ⟨a2, c2, rfl, hc2, hm2⟩ := h1.form; have bw2 := bw.trans (hbe2.mono (by omega)); have r2 : RowAt w2 w.heap.size 24 [.bool false, .slice none 0 0] := (hbe2.block _ (by omega)).trans r0) | (go_at_call 63; refine (signed_any _ _ _ _ _).mono ?_; rintro e w3 ⟨hbe3, rfl⟩; have r3 := r2.below hbe3; have q1 := r3.cell 0; have q2 := r3.cell 1; have q3 := r3.frozen 0; have q4 := r3.frozen 1; simp only [List.getElem?_cons_zero, List.getElem?_cons_succ] at q1 q2))
  obtain ⟨s1, s2⟩ := two_reads (b := w.heap.size) q1 q2 (.bool (true && decide (0 < cs.length))) (.slice a2 cs.length c2)
  have hk := two_kept (b := w.heap.size) (h1.below hbe3) q1 q2 (.bool (true && decide (0 < cs.length))) (.slice a2 cs.length c2)
  have hlow := ((bw2.trans (hbe3.mono bw2.size)).setCell (p := ⟨w.heap.size, 0, none⟩) (Nat.le_refl _) (.bool (true && decide (0 < cs.length)))).setCell (p := ⟨w.heap.size, 1, none⟩) (Nat.le_refl _) (.slice a2 cs.length c2)
  simp only [Bool.true_and] at s1 s2 hk hlow
  exact bodyPost_ret (v := .agg #[.bool (true && decide (0 < cs.length)), .slice a2 cs.length c2]) (by simp [results, Tryd.results26, go_sem, loadCellsFrom, s1, s2]) rfl ⟨hlow, _, rfl, isInt_mk true hk h2 (by rw [h3]; rfl)⟩

end Go.Proofs.YtlghjfpkfdnfoaaDoor

/- Digits to a base, the least one first; texts; without the program. -/
namespace Go.Proofs.YtlghjfpkfdnfoaaDoor

/-- so many digits of a number -/
def digs (b : Nat) : Nat → Nat → List Nat
  | 0, _ => []
  | n + 1, A => A % b :: digs b n (A / b)
theorem digs_length (b n A : Nat) : (digs b n A).length = n := by
  induction n generalizing A with
  | zero => rfl
  | succ n ih => simp [digs, ih]
theorem digs_add (b n m A : Nat) : digs b (n + m) A = digs b n A ++ digs b m (A / b ^ n) := by
  induction n generalizing A with
  | zero => simp [digs]
  | succ n ih =>
    rw [show n + 1 + m = (n + m) + 1 by omega]
    simp only [digs, List.cons_append, ih]
    rw [Nat.div_div_eq_div_mul, Nat.pow_succ, Nat.mul_comm b]
theorem digs_snoc (b n A : Nat) : digs b (n + 1) A = digs b n A ++ [A / b ^ n % b] := by rw [digs_add]; rfl
theorem digs_zero (b n : Nat) : digs b n 0 = List.replicate n 0 := by
  induction n with
  | zero => rfl
  | succ n ih => simp [digs, ih, List.replicate_succ]
theorem digs_mod (b n A : Nat) : digs b n (A % b ^ n) = digs b n A := by
  induction n generalizing A with
  | zero => rfl
  | succ n ih =>
    simp only [digs]
    have h1 : A % b ^ (n + 1) % b = A % b := Nat.mod_mod_of_dvd _ ⟨b ^ n, by rw [Nat.pow_succ, Nat.mul_comm]⟩
    have h2 : A % b ^ (n + 1) / b = A / b % b ^ n := by
      rw [Nat.pow_succ, Nat.mul_comm]
      exact Nat.mod_mul_right_div_self A b (b ^ n)
    rw [h1, h2, ih]
theorem digs_lt {b : Nat} (hb : 0 < b) (n A : Nat) : ∀ d ∈ digs b n A, d < b := by
  induction n generalizing A with
  | zero => intro d hd; simp [digs] at hd
  | succ n ih =>
    intro d hd
    simp only [digs, List.mem_cons] at hd
    rcases hd with rfl | hd
    · exact Nat.mod_lt _ hb
    · exact ih _ d hd
theorem trimmed_zeros (xs : List Nat) (n : Nat) : trimmed (xs ++ List.replicate n 0) = trimmed xs := by
  induction n with
  | zero => simp
  | succ n ih => rw [List.replicate_succ', ← List.append_assoc, trimmed_snoc_zero, ih]
theorem lt_pow_self2 {b : Nat} (hb : 2 ≤ b) (A : Nat) : A < b ^ A := Nat.lt_of_lt_of_le Nat.lt_two_pow_self (Nat.pow_le_pow_left hb A)
/-- the digits of a number -/
def digits (b A : Nat) : List Nat := trimmed (digs b A A)
theorem digits_eq {b N A : Nat} (hb : 2 ≤ b) (h : A / b ^ N = 0) : trimmed (digs b N A) = digits b A := by
  have e1 : digs b (N + A) A = digs b N A ++ List.replicate A 0 := by rw [digs_add, h, digs_zero]
  have e2 : digs b (A + N) A = digs b A A ++ List.replicate N 0 := by rw [digs_add, Nat.div_eq_of_lt (lt_pow_self2 hb A), digs_zero]
  rw [digits, ← trimmed_zeros (digs b N A) A, ← e1, Nat.add_comm, e2, trimmed_zeros]
theorem digits_zero (b : Nat) : digits b 0 = [] := rfl
/-- the number of digits -/
def numb (b : Nat) : List Nat → Nat
  | [] => 0
  | x :: xs => x + b * numb b xs
theorem numb_append (b : Nat) (xs ys : List Nat) : numb b (xs ++ ys) = numb b xs + b ^ xs.length * numb b ys := by
  induction xs with
  | nil => simp [numb]
  | cons x xs ih => simp only [List.cons_append, numb, ih, List.length_cons, Nat.pow_succ, Nat.mul_add, Nat.add_assoc]; rw [Nat.mul_comm (b ^ xs.length) b, Nat.mul_assoc]
theorem numb_zeros (b n : Nat) : numb b (List.replicate n 0) = 0 := by
  induction n with
  | zero => rfl
  | succ n ih => simp [List.replicate_succ, numb, ih]
theorem numb_digs {b : Nat} (n A : Nat) : numb b (digs b n A) = A % b ^ n := by
  induction n generalizing A with
  | zero => simp [digs, numb, Nat.mod_one]
  | succ n ih =>
    simp only [digs, numb, ih]
    rw [Nat.pow_succ, Nat.mul_comm (b ^ n) b, Nat.mod_mul]
theorem numb_trimmed (b : Nat) (xs : List Nat) : numb b (trimmed xs) = numb b xs := by
  obtain ⟨n, h⟩ := trimmed_eq xs
  conv => rhs; rw [h]
  rw [numb_append, numb_zeros]; simp
theorem numb_digits {b : Nat} (hb : 2 ≤ b) (A : Nat) : numb b (digits b A) = A := by
  rw [digits, numb_trimmed, numb_digs, Nat.mod_eq_of_lt (lt_pow_self2 hb A)]
theorem digits_nil_iff {b A : Nat} (hb : 2 ≤ b) : digits b A = [] ↔ A = 0 := by
  constructor
  · intro h
    have := numb_digits hb A
    rw [h] at this
    exact this.symm
  · rintro rfl; rfl

/-- the byte of a digit -/
def digChar (d : Nat) : Nat := if d < 10 then 48 + d else 87 + d
theorem digChar_lt {d : Nat} (h : d < 36) : digChar d < 256 := by unfold digChar; split <;> omega
theorem digChar_zero {d : Nat} (h : d < 36) : digChar d = 48 ↔ d = 0 := by unfold digChar; split <;> omega
/-- the bytes of the text of a number -/
def textOf (neg : Bool) (b A : Nat) : List Nat := if A = 0 then [48] else (if neg then [45] else []) ++ ((digits b A).map digChar).reverse

end Go.Proofs.YtlghjfpkfdnfoaaDoor

/- num.chunk -/
namespace Go.Proofs.YtlghjfpkfdnfoaaDoor
open Go Go.RowKit

def ChunkInv (b : Nat) (m u : Value) : Prop := ∃ k : Nat, 1 ≤ k ∧ m = .int .i64 (k : Nat) ∧ u = .int .u32 (b ^ k : Nat) ∧ b ^ k < 4294967296

def ChunkOut (b : Nat) (e : Ending) : Prop := ∃ m : Nat, e = .returned (.tuple #[.int .i64 (m : Nat), .int .u32 (b ^ m : Nat)]) ∧ 1 ≤ m ∧ m ≤ 31 ∧ b ^ m < B32

def ChunkFull (b : Nat) (e : Ending) : Prop := ∃ m : Nat, e = .returned (.tuple #[.int .i64 (m : Nat), .int .u32 (b ^ m : Nat)]) ∧ 1 ≤ m ∧ m ≤ 31 ∧ b ^ m < B32 ∧ B32 ≤ b ^ (m + 1)

set_option maxHeartbeats 1000000 in
set_option maxRecDepth 100000 in
theorem chunk_full (b : Nat) (w : World) (h2 : 2 ≤ b) (h36 : b ≤ 36) :
    Calls Tryd.prog 111 #[.int .i64 b] w fun e w' => w = w' ∧ ChunkFull b e := by
  have hw : IntKind.u32.wrap (b : Int) = b := by simp only [IntKind.wrap_u32]; omega
  have hw2 : IntKind.u64.wrap (b : Int) = b := by simp only [IntKind.wrap_u64]; omega
  go_enter Tryd.func111, Tryd.ntmps111
  go_wp2
  go_loop [2, 3] (fun m u => ChunkInv b m u) (fun m _ => (32 - intOf m).toNat)
  case atStart => exact ⟨1, by omega, rfl, by simp, by simp; omega⟩
  case round =>
    obtain ⟨k, hk, rfl, rfl, hlt⟩ := hrel
    have hk31 : k ≤ 31 := by
      rcases Nat.lt_or_ge 31 k with h | h
      · have h1 : 2 ^ 32 ≤ 2 ^ k := Nat.pow_le_pow_right (by decide) h
        have h2' : 2 ^ k ≤ b ^ k := Nat.pow_le_pow_left h2 k
        omega
      · exact h
    have hs : b ^ (k + 1) = b ^ k * b := Nat.pow_succ b k
    generalize hU : b ^ k = U at *
    have hUb : U * b ≤ 4294967296 * 36 := Nat.mul_le_mul (by omega) h36
    have hc : (U : Int) * (b : Int) = ((U * b : Nat) : Int) := by simp
    obtain ⟨V, hV⟩ : ∃ V, U * b = V := ⟨_, rfl⟩
    rw [hV] at hc hs hUb
    have hm1 : IntKind.u64.wrap ((U : Int) * (b : Int)) = (V : Int) := by rw [hc]; simp only [IntKind.wrap_u64]; omega
    have hcu : IntKind.u64.wrap (U : Int) = U := by simp only [IntKind.wrap_u64]; omega
    have HS := Lib.hid hs
    have HU := Lib.hid hU
    by_cases hcond : V < 4294967296
    · have hm2 : IntKind.u32.wrap ((U : Int) * (b : Int)) = (V : Int) := by rw [hc]; simp only [IntKind.wrap_u32]; omega
      have hd : decide ((V : Int) < 4294967296) = true := by simp; omega
      have HC := Lib.hid hcond
      have HL := Lib.hid hlt
      clear hs hU hV hc hUb hcond hlt
      go_wp2
      exact ⟨⟨k + 1, by omega, rfl, by rw [HS.out], by rw [HS.out]; exact HC.out⟩, by simp [intOf]; omega⟩
    · have hd : decide ((V : Int) < 4294967296) = false := by simp; omega
      have HL := Lib.hid hlt
      have HC := Lib.hid hcond
      clear hs hU hV hc hUb hcond hlt
      go_wp2
      go_ret2
      exact ⟨rfl, k, by rw [HU.out]; rfl, hk, hk31, by rw [HU.out]; exact HL.out, by rw [HS.out]; exact Nat.le_of_not_lt HC.out⟩

theorem chunk_any (b : Nat) (w : World) (h2 : 2 ≤ b) (h36 : b ≤ 36) :
    Calls Tryd.prog 111 #[.int .i64 b] w fun e w' => w = w' ∧ ChunkOut b e :=
  (chunk_full b w h2 h36).mono fun _ _ ⟨h1, m, h2, h3, h4, h5, _⟩ => ⟨h1, m, h2, h3, h4, h5⟩
theorem chunk_at (b M : Nat) (w : World) (h2 : 2 ≤ b) (h36 : b ≤ 36) (hM : b ^ M < B32) (hM1 : B32 ≤ b ^ (M + 1)) :
    Calls Tryd.prog 111 #[.int .i64 b] w fun e w' => w = w' ∧ e = .returned (.tuple #[.int .i64 (M : Nat), .int .u32 (b ^ M : Nat)]) := by
  refine (chunk_full b w h2 h36).mono ?_
  rintro e w' ⟨rfl, m, he, h3, h4, h5, h6⟩
  have a1 : m < M + 1 := (Nat.pow_lt_pow_iff_right (show 1 < b by omega)).1 (Nat.lt_of_lt_of_le h5 hM1)
  have a2 : M < m + 1 := (Nat.pow_lt_pow_iff_right (show 1 < b by omega)).1 (Nat.lt_of_lt_of_le hM h6)
  obtain rfl : m = M := by omega
  exact ⟨rfl, he⟩
theorem chunk_exists (b : Nat) (h2 : 2 ≤ b) (h36 : b ≤ 36) : ∃ M, 1 ≤ M ∧ b ^ M < B32 ∧ B32 ≤ b ^ (M + 1) := by
  apply Classical.byContradiction
  intro hc
  have h : ∀ k, b ^ (k + 1) < B32 := fun k => by
    induction k with
    | zero => simp; unfold B32; omega
    | succ k ih => exact Nat.lt_of_not_le fun h => hc ⟨k + 1, by omega, ih, h⟩
  have h1 : b ^ 32 < B32 := h 31
  have h3 : 2 ^ 32 ≤ b ^ 32 := Nat.pow_le_pow_left h2 32
  unfold B32 at h1
  omega

end Go.Proofs.YtlghjfpkfdnfoaaDoor

/- slices.Reverse of bytes that the caller owns -/
namespace Go.Proofs.YtlghjfpkfdnfoaaDoor
open Go Go.RowKit

theorem und_bytes : Tryd.prog.underlying 97 = some (.slice 5) := by kernel_rfl
theorem und_byte : Tryd.prog.underlying 5 = some (.int .u8) := by kernel_rfl
theorem und_string : Tryd.prog.underlying 9 = some .string := by kernel_rfl
theorem info_byte : (Tryd.prog.info? 5).map (fun i => (i.zero, i.size, i.bytes)) = some (some (.int .u8 0), 1, 1) := by kernel_rfl
theorem size_byte (w : World) : (sizeOf 5).run Tryd.prog w = .ok 1 w := by kernel_rfl
/-- the cells of a list of bytes -/
def enc8 (xs : List Nat) : List Value := xs.map fun (x : Nat) => Value.int .u8 (x : Int)
theorem enc8_snoc (xs : List Nat) (x : Nat) : enc8 (xs ++ [x]) = enc8 xs ++ [.int .u8 (x : Int)] := by simp [enc8]
theorem enc8_length (xs : List Nat) : (enc8 xs).length = xs.length := by simp [enc8]
theorem enc8_set (xs : List Nat) (i x : Nat) : enc8 (xs.set i x) = (enc8 xs).set i (.int .u8 (x : Int)) := by simp [enc8, List.map_set]

theorem own_form {W : World} {B n : Nat} {e : TypeId} {s : Value} {ys : List Value} (h : W.ownsRow B e 1 s n ys) : ∃ a c, s = .slice a n c := by
  rcases h.2 with ⟨rfl, h0⟩ | ⟨g, cap, cur, rfl, _⟩
  · exact ⟨none, 0, by rw [h0]⟩
  · exact ⟨_, _, rfl⟩
theorem own_form_pos {W : World} {B n : Nat} {e : TypeId} {s : Value} {ys : List Value} (h : W.ownsRow B e 1 s n ys) (hn : 0 < n) : ∃ g c, s = .slice (some ⟨g, 0, none⟩) n c ∧ n ≤ c ∧ c ≤ maxLen := by
  rcases h.2 with ⟨rfl, h0⟩ | ⟨g, cap, cur, rfl, _, _, h1, h2, _⟩
  · omega
  · exact ⟨_, _, rfl, h1, h2⟩

/-- the first k, and the last k, are exchanged -/
def Swapped (bs cur : List Nat) (k : Nat) : Prop := cur.length = bs.length ∧ ∀ i, i < bs.length → cur[i]? = if i < k ∨ bs.length - k ≤ i then bs[bs.length - 1 - i]? else bs[i]?
theorem Swapped.step {bs cur : List Nat} {k m : Nat} (h : Swapped bs cur k) (hkm : k < m) (hm : k + m + 1 = bs.length) : Swapped bs ((cur.set k (cur[m]?.getD 0)).set m (cur[k]?.getD 0)) (k + 1) := by
  obtain ⟨hl, hc⟩ := h
  refine ⟨by simp [hl], fun i hi => ?_⟩
  have hk1 := hc k (by omega)
  have hm1 := hc m (by omega)
  rw [if_neg (by omega)] at hk1 hm1
  have hkd : cur[k]?.getD 0 = bs[k]?.getD 0 := by rw [hk1]
  have hmd : cur[m]?.getD 0 = bs[m]?.getD 0 := by rw [hm1]
  rw [hkd, hmd]
  by_cases e1 : i = m
  · subst e1
    rw [if_pos (by omega), List.getElem?_set_self (by simp; omega), show bs.length - 1 - i = k by omega, List.getElem?_eq_getElem (show k < bs.length by omega)]
    rfl
  · rw [List.getElem?_set_ne (by omega)]
    by_cases e2 : i = k
    · subst e2
      rw [if_pos (by omega), List.getElem?_set_self (by omega), show bs.length - 1 - i = m by omega, List.getElem?_eq_getElem (show m < bs.length by omega)]
      rfl
    · rw [List.getElem?_set_ne (by omega), hc i hi]
      by_cases e3 : i < k ∨ bs.length - k ≤ i
      · rw [if_pos e3, if_pos (by omega)]
      · rw [if_neg e3, if_neg (by omega)]
theorem Swapped.done {bs cur : List Nat} {k : Nat} (h : Swapped bs cur k) (hk : bs.length ≤ 2 * k + 1) (hkl : k ≤ bs.length) : cur = bs.reverse := by
  obtain ⟨hl, hc⟩ := h
  apply List.ext_getElem?
  intro i
  by_cases hi : i < bs.length
  · rw [hc i hi, List.getElem?_reverse hi]
    by_cases e3 : i < k ∨ bs.length - k ≤ i
    · rw [if_pos e3]
    · rw [if_neg e3, show bs.length - 1 - i = i by omega]
  · rw [List.getElem?_eq_none (by omega), List.getElem?_eq_none (by simp; omega)]

set_option maxHeartbeats 1000000 in
set_option maxRecDepth 100000 in
theorem reverse_any (base g cap : Nat) (bs : List Nat) (w : World) (hn : bs.length ≤ 1000000) (hown : w.ownsRow base 5 1 (.slice (some ⟨g, 0, none⟩) bs.length cap) bs.length (enc8 bs)) :
    Calls Tryd.prog 113 #[.slice (some ⟨g, 0, none⟩) bs.length cap] w fun e w' => e = .returned (.tuple #[]) ∧ Chg (fun k => k = g) w w' ∧ w'.ownsRow base 5 1 (.slice (some ⟨g, 0, none⟩) bs.length cap) bs.length (enc8 bs.reverse) := by
  obtain ⟨n, hN⟩ : ∃ n, bs.length = n := ⟨_, rfl⟩
  have hix : ∀ (j : Nat) (W : World), j < n → (Instr.indexAt 97 (.slice (some ⟨g, 0, none⟩) n cap) (.int .i64 (j : Int))).run Tryd.prog W = .ok (.pointer (some ⟨g, j, none⟩)) W := fun j W hj => by
    have := index_lookAt (P := Tryd.prog) 97 5 und_bytes size_byte (some ⟨g, 0, none⟩) n cap j hj ⟨_, _, rfl⟩ .i64 W
    simpa [lookAt] using this
  rw [hN] at hown hn ⊢
  have HN := Lib.hid hN
  have HIX := Lib.hid hix
  clear hN hix
  go_enter Tryd.func113, Tryd.ntmps113
  go_wp2
  go_loopw [2, 3] (fun i j W => ∃ (k : Nat) (cur : List Nat), i = .int .i64 k ∧ j = .int .i64 ((n : Int) - 1 - k) ∧ k ≤ n ∧ Swapped bs cur k ∧ W.ownsRow base 5 1 (.slice (some ⟨g, 0, none⟩) n cap) n (enc8 cur) ∧ Chg (fun k => k = g) w W)
    (fun i _ _ => n - (intOf i).toNat)
  case atStart => exact ⟨0, bs, rfl, by simp, Nat.zero_le _, ⟨rfl, fun i hi => by rw [if_neg (by omega)]⟩, hown, Chg.refl _ _⟩
  case round =>
    obtain ⟨k, cur, rfl, rfl, hk, hsw, hrow, hch⟩ := hrel
    by_cases hlt : 2 * k + 1 < n
    · obtain ⟨m, hm⟩ : ∃ m : Nat, (n : Int) - 1 - k = m := ⟨n - 1 - k, by omega⟩
      have hkm : k < m := by omega
      have hmn : m < n := by omega
      rw [hm]
      have hlen : cur.length = n := hsw.1.trans HN.out
      have ck := hrow.cellAt k (by omega)
      have cm := hrow.cellAt m (by omega)
      obtain ⟨a, ha⟩ : ∃ a, cur[k]?.getD 0 = a := ⟨_, rfl⟩
      obtain ⟨b, hb⟩ : ∃ b, cur[m]?.getD 0 = b := ⟨_, rfl⟩
      have ek : (enc8 cur)[k]? = some (.int .u8 (a : Int)) := by rw [← ha]; simp [enc8, List.getElem?_eq_getElem (show k < cur.length by omega)]
      have em : (enc8 cur)[m]? = some (.int .u8 (b : Int)) := by rw [← hb]; simp [enc8, List.getElem?_eq_getElem (show m < cur.length by omega)]
      rw [ek] at ck
      rw [em] at cm
      have fk := hrow.frozenAt k
      have fm := hrow.frozenAt m
      have i1 := fun W => HIX.out k W (by omega)
      have i2 := fun W => HIX.out m W (by omega)
      have hd : decide ((k : Int) < (m : Int)) = true := by simp; omega
      have HM := Lib.hid hm
      have HA := Lib.hid (And.intro ha hb)
      clear hm ha hb ek em
      have hkm' : ¬ k = m := by omega
      have hk0 : (0 : Int) ≤ (k : Int) := by omega
      go_wp2_with fail
      go_region
      go_wp2
      have s1 := hrow.stored k (.int .u8 (b : Int))
      have s2 := s1.1.stored m (.int .u8 (a : Int))
      refine ⟨⟨k + 1, (cur.set k b).set m a, by go_num, ?_, by omega, ?_, ?_, ?_⟩, by simp [intOf]; omega⟩
      · have := HM.out
        congr 1
        omega
      · have := hsw.step hkm (by have := HN.out; have := HM.out; omega)
        rw [HA.out.1, HA.out.2] at this
        exact this
      · rw [enc8_set, enc8_set]
        exact s2.1.drew
      · exact ((hch.setCell (p := ⟨g, k, none⟩) (.inl rfl) _).setCell (p := ⟨g, m, none⟩) (.inl rfl) _).drew
    · have hd : decide ((k : Int) < (n : Int) - 1 - (k : Int)) = false := by simp; omega
      have hfin := hsw.done (by have := HN.out; omega) (by have := HN.out; omega)
      subst hfin
      go_wp2
      go_end0
      exact ⟨rfl, hch, hrow⟩

end Go.Proofs.YtlghjfpkfdnfoaaDoor

/- zermeloref01: made, Of -/
namespace Go.Proofs.YtlghjfpkfdnfoaaDoor
open Go Go.RowKit Go.Shelf

set_option maxHeartbeats 2000000 in
set_option maxRecDepth 100000 in
theorem made_any (neg : Bool) (v : Value) (xs : List Nat) (w : World) (h : Reads .u32 w v xs) (hl : Limbs xs) (hn : xs.length ≤ 1000000) :
    Calls Tryd.prog 65 #[.bool neg, v] w fun e w' => Below w.heap.size w w' ∧ ∃ v', e = .returned v' ∧ IsInt w' v' (sgn neg (val xs)) := by
  obtain ⟨a, c, rfl, hc, hm⟩ := h.form
  unfold maxLen at hm
  obtain ⟨inf, hi, hzz⟩ := Option.map_eq_some_iff.1 info_limb
  simp only [Prod.mk.injEq] at hzz
  obtain ⟨hz0, hz1, hz2⟩ := hzz
  have HZ := Lib.hid (And.intro hz0 (And.intro hz1 hz2))
  clear hz0 hz1 hz2
  have b0 := (Below.refl w.heap.size w).alloc (Nat.le_refl _) (.cells #[.bool false, .slice none 0 0] 24)
  have r0 := RowAt.new w 24 [.bool false, .slice none 0 0]
  have h0 := h.below b0
  obtain ⟨W0, hW0⟩ : ∃ W0, w.alloc (.cells #[.bool false, .slice none 0 0] 24) = W0 := ⟨_, rfl⟩
  have hs0 : W0.heap.size = w.heap.size + 1 := by rw [← hW0]; simp
  rw [hW0] at b0 r0 h0
  have HW := Lib.hid (And.intro hW0 hs0)
  have hst : ∀ (x : Addr) (W : World), (storeCells x []).run Tryd.prog W = .ok () W := fun x W => by simp [storeCells]
  have hrun0 : ∀ (x : Addr) (W : World), (loadCellsFrom x 0 0 #[]).run Tryd.prog W = .ok #[] W := fun x W => by simp [loadCellsFrom]
  clear hW0 hs0
  go_enter Tryd.func65, Tryd.ntmps65
  go_wp2
  rw [HW.out.1]
  go_loop [5] (fun i => ∃ k : Nat, i = .int .i64 k ∧ k ≤ xs.length ∧ trimmed (xs.take k) = trimmed xs) (fun i => (intOf i).toNat)
  case atStart => exact ⟨xs.length, rfl, Nat.le_refl _, by simp⟩
  case round =>
    obtain ⟨k, rfl, hk, htk⟩ := hrel
    by_cases hk0 : k = 0
    · subst hk0
      have ht : trimmed xs = [] := by rw [← htk]; rfl
      have hs1 := HW.out.2
      have HT := Lib.hid (And.intro ht hs1)
      have rr := r0.alloc (.cells #[] 72)
      have o1 := rr.cell 0
      have o2 := rr.cell 1
      have o3 := rr.frozen 0
      have o4 := rr.frozen 1
      simp only [List.getElem?_cons_zero, List.getElem?_cons_succ] at o1 o2
      have hng : (neg && decide ((0 : Int) < 0)) = false := by simp
      clear ht hs1 htk
      cases a
      all_goals cases neg
      all_goals go_wp2
      all_goals
        obtain ⟨s1, s2⟩ := two_reads (b := w.heap.size) o1 o2 (.bool false) (.slice (some ⟨W0.heap.size, 0, none⟩) 0 0)
        refine bodyPost_ret (v := .agg #[.bool false, .slice (some ⟨W0.heap.size, 0, none⟩) 0 0]) (by simp [results, Tryd.results65, go_sem, loadCellsFrom, s1, s2]) rfl ⟨?_, _, rfl, ⟨false, _, [], rfl, ⟨_, 0, rfl, by simp, by simp [maxLen], fun j hj => by simp at hj⟩, canon_nil, rfl, ?_⟩⟩
        · exact ((b0.alloc (by have := HW.out.2; omega) _).setCell (Nat.le_refl _) _).setCell (Nat.le_refl _) _
        · rw [← val_trimmed, HT.out.1]; first | done | rfl
    · have HA := Lib.hid h0
      have hlast := h0.cell (k - 1) (by omega)
      have hix := fun W => h0.index und_limbs size_limb (P := Tryd.prog) (k - 1) .i64 W (by omega)
      rw [show ((k - 1 : Nat) : Int) = (k : Int) - 1 by omega] at hix
      obtain ⟨top, hT⟩ : ∃ top, xs[k - 1]?.getD 0 = top := ⟨_, rfl⟩
      rw [hT] at hlast
      have hkd : ((0 : Int) < (k : Int)) := by omega
      have htk1 : trimmed (xs.take k) = if top = 0 then trimmed (xs.take (k - 1)) else xs.take k := by
        have e := take_succ_getD xs (k - 1) (by omega)
        rw [show k - 1 + 1 = k by omega, hT] at e
        rw [e]
        by_cases ht0 : top = 0
        · subst ht0; rw [if_pos rfl, trimmed_snoc_zero]
        · rw [if_neg ht0, trimmed_snoc _ _ ht0]
      by_cases ht0 : top = 0
      · subst ht0
        rw [if_pos rfl] at htk1
        have HK := Lib.hid (And.intro htk htk1)
        clear htk htk1 hT
        go_wp2
        exact ⟨⟨k - 1, by congr 1; omega, by omega, by rw [← HK.out.2]; exact HK.out.1⟩, by simp [intOf]; omega⟩
      · rw [if_neg ht0] at htk1
        have hne : (((top : Nat) : Int) == 0) = false := by simp; omega
        have HK := Lib.hid (And.intro htk htk1)
        clear htk htk1 hT
        obtain ⟨b, off, rfl⟩ : ∃ b off, a = some ⟨b, off, none⟩ := by
          obtain ⟨a', cap', he, _, _, hr⟩ := h0
          cases he
          exact (hr 0 (by omega)).1
        have hw0 : W0.heap.size = w.heap.size + 1 := HW.out.2
        have hlen : (xs.take k).length = k := by simp; omega
        have hnews : ∀ j u, (enc32 (xs.take k))[j]? = some u → (W0.alloc (.cells #[] 72)).cell? ((⟨b, off, none⟩ : Addr).add j) = some u := by
          intro j u hu
          have hj : j < k := by
            have := (List.getElem?_eq_some_iff.1 hu).1
            rw [enc32_length, hlen] at this
            exact this
          have h1 := (h0.below ((Below.refl _ W0).alloc (Nat.le_refl _) (.cells #[] 72))).cell j (by omega)
          rw [lookAt_some] at h1
          rw [Addr.add_lit, h1]
          simp only [enc32, List.getElem?_map, List.getElem?_take, hj, if_true] at hu
          simp [List.getElem?_eq_getElem (show j < xs.length by omega)] at hu ⊢
          exact hu
        have hnl : (enc32 (xs.take k)).length = k * 1 := by rw [enc32_length, hlen]; omega
        have hone : ∀ u ∈ enc32 (xs.take k), u.oneCell' = true := fun u hu => by
          obtain ⟨x, _, rfl⟩ := List.mem_map.1 hu
          rfl
        have hown0 := World.ownsRow_made (e := 72) (size := 1) (base := W0.heap.size) W0 #[] 0 (Nat.le_refl _) (by simp [maxLen]) rfl
        have HN := Lib.hid (And.intro hnews (And.intro hnl hone))
        have HS := Lib.hid (And.intro hw0 (And.intro hlen hown0))
        have hk0' : decide ((0 : Int) < (k : Int)) = true := by simp; omega
        clear hnews hnl hone hlen hown0 hw0
        cases neg
        · go_wp2_with (at_builtin; go_loud (refine wpList_append_own _ rfl _ _ 22 rfl W0.heap.size 72 inf (.int .u32 0) 1 4 und_limbs hi HZ.out.1 HZ.out.2.1 HZ.out.2.2 rfl (by decide) _ _ _ rfl HS.out.2.2 ⟨b, off, none⟩ k c (enc32 (xs.take k)) rfl HN.out.2.1 HN.out.1 HN.out.2.2 (by unfold maxLen; omega) (by omega) (by simp) ?_); intro v' w1 hown' hgrow _; obtain ⟨g, c1, rfl, hc1, hm1⟩ := own_form_pos hown' (by omega); have hb1 : Below W0.heap.size W0 w1 := ((Below.refl _ W0).alloc (Nat.le_refl _) _).grown hgrow (by simp) (fun k e => by cases e; exact Nat.le_refl _); have rr := r0.below hb1; have o1 := rr.cell 0; have o2 := rr.cell 1; have o3 := rr.frozen 0; have o4 := rr.frozen 1; simp only [List.getElem?_cons_zero, List.getElem?_cons_succ] at o1 o2)
          obtain ⟨s1, s2⟩ := two_reads (b := w.heap.size) o1 o2 (.bool false) (.slice (some ⟨g, 0, none⟩) k c1)
          have hrd0 : Reads .u32 w1 (.slice (some ⟨g, 0, none⟩) (0 + k) c1) (xs.take k) := Reads.ofOwn (by simpa [enc32] using hown')
          rw [Nat.zero_add] at hrd0
          have hrd := two_kept (b := w.heap.size) hrd0 o1 o2 (.bool false) (.slice (some ⟨g, 0, none⟩) k c1)
          have hcan : Canon (xs.take k) := ⟨limbs_take hl k, HK.out.2⟩
          have hval : val (xs.take k) = val xs := by rw [← HK.out.2, HK.out.1, val_trimmed]
          refine bodyPost_ret (v := .agg #[.bool false, .slice (some ⟨g, 0, none⟩) k c1]) (by simp [results, Tryd.results65, go_sem, loadCellsFrom, s1, s2]) rfl ⟨?_, _, rfl, false, _, xs.take k, rfl, hrd, hcan, by simp [HS.out.2.1]; try omega, by rw [hval]⟩
          exact (((b0.trans (hb1.mono b0.size))).setCell (Nat.le_refl _) _).setCell (Nat.le_refl _) _
        · go_wp2_with (at_builtin; go_loud (refine wpList_append_own _ rfl _ _ 22 rfl W0.heap.size 72 inf (.int .u32 0) 1 4 und_limbs hi HZ.out.1 HZ.out.2.1 HZ.out.2.2 rfl (by decide) _ _ _ rfl HS.out.2.2 ⟨b, off, none⟩ k c (enc32 (xs.take k)) rfl HN.out.2.1 HN.out.1 HN.out.2.2 (by unfold maxLen; omega) (by omega) (by simp) ?_); intro v' w1 hown' hgrow _; obtain ⟨g, c1, rfl, hc1, hm1⟩ := own_form_pos hown' (by omega); have hb1 : Below W0.heap.size W0 w1 := ((Below.refl _ W0).alloc (Nat.le_refl _) _).grown hgrow (by simp) (fun k e => by cases e; exact Nat.le_refl _); have rr := r0.below hb1; have o1 := rr.cell 0; have o2 := rr.cell 1; have o3 := rr.frozen 0; have o4 := rr.frozen 1; simp only [List.getElem?_cons_zero, List.getElem?_cons_succ] at o1 o2)
          obtain ⟨s1, s2⟩ := two_reads (b := w.heap.size) o1 o2 (.bool true) (.slice (some ⟨g, 0, none⟩) k c1)
          have hrd0 : Reads .u32 w1 (.slice (some ⟨g, 0, none⟩) (0 + k) c1) (xs.take k) := Reads.ofOwn (by simpa [enc32] using hown')
          rw [Nat.zero_add] at hrd0
          have hrd := two_kept (b := w.heap.size) hrd0 o1 o2 (.bool true) (.slice (some ⟨g, 0, none⟩) k c1)
          have hcan : Canon (xs.take k) := ⟨limbs_take hl k, HK.out.2⟩
          have hval : val (xs.take k) = val xs := by rw [← HK.out.2, HK.out.1, val_trimmed]
          refine bodyPost_ret (v := .agg #[.bool true, .slice (some ⟨g, 0, none⟩) k c1]) (by simp [results, Tryd.results65, go_sem, loadCellsFrom, s1, s2]) rfl ⟨?_, _, rfl, true, _, xs.take k, rfl, hrd, hcan, by simp [HS.out.2.1]; try omega, by rw [hval]⟩
          exact (((b0.trans (hb1.mono b0.size))).setCell (Nat.le_refl _) _).setCell (Nat.le_refl _) _

end Go.Proofs.YtlghjfpkfdnfoaaDoor
