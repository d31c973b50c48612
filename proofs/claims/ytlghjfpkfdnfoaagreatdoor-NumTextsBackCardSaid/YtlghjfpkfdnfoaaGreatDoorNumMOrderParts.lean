/- texts of numbers, there and back; without the program -/
import Derived.Test.YtlghjfpkfdnfoaaGreatDoorNumMTextAny
import Derived.Lib.Case
import Derived.Lib.Strings
import Derived.Lib.TrimByte
import Derived.Lib.Bytealg
import Derived.Test.YtlghjfpkfdnfoaaGreatDoorNumMKnuth
import Derived.Deep.CutRange
import Derived.Test.YtlghjfpkfdnfoaaGreatDoorNumMRing2
import Derived.Test.YtlghjfpkfdnfoaaGreatDoorNumMDifference
import Derived.Test.YtlghjfpkfdnfoaaGreatDoorNumMTakeTimes
import Derived.Test.YtlghjfpkfdnfoaaGreatDoorNumMFloored
namespace Go.Proofs.YtlghjfpkfdnfoaaGreatDoor
open Go Go.RowKit Go.Shelf

theorem digs_numb {b : Nat} : ∀ ds : List Nat, (∀ d ∈ ds, d < b) → digs b ds.length (numb b ds) = ds ∧ numb b ds < b ^ ds.length
  | [], _ => ⟨rfl, by simp [numb]⟩
  | x :: xs, h => by
    obtain ⟨h1, h2⟩ := digs_numb xs (fun d hd => h d (List.mem_cons_of_mem _ hd))
    have hx := h x List.mem_cons_self
    have hb : 0 < b := by omega
    have e1 : (x + b * numb b xs) % b = x := by rw [Nat.add_mul_mod_self_left, Nat.mod_eq_of_lt hx]
    have e2 : (x + b * numb b xs) / b = numb b xs := by rw [Nat.add_mul_div_left _ _ hb, Nat.div_eq_of_lt hx, Nat.zero_add]
    refine ⟨by simp only [List.length_cons, digs, numb, e1, e2, h1], ?_⟩
    simp only [List.length_cons, numb, Nat.pow_succ]
    have h3 : b * numb b xs + b ≤ b * b ^ xs.length := by
      rw [← Nat.mul_succ]
      exact Nat.mul_le_mul_left b h2
    rw [Nat.mul_comm (b ^ xs.length) b]
    omega
theorem digits_numb {b : Nat} (hb : 2 ≤ b) (ds : List Nat) (h : ∀ d ∈ ds, d < b) : digits b (numb b ds) = trimmed ds := by
  obtain ⟨h1, h2⟩ := digs_numb ds h
  rw [← digits_eq hb (N := ds.length) (Nat.div_eq_of_lt h2), h1]
theorem numBE_numb (b : Nat) (l : List UInt8) : numBE b l = numb b (l.map fun c => digitVal c.toNat).reverse := by
  induction l using snoc_ind with
  | h0 => rfl
  | h1 l c ih =>
    rw [numBE_snoc, ih]
    simp only [List.map_append, List.map_cons, List.map_nil, List.reverse_append, List.reverse_cons, List.reverse_nil, List.nil_append, List.singleton_append, numb]
    rw [Nat.mul_comm, Nat.add_comm]
theorem dropWhile_digChar : ∀ ds : List Nat, (∀ d ∈ ds, d < 36) → (ds.map digChar).dropWhile (· == 48) = (ds.dropWhile (· == 0)).map digChar
  | [], _ => rfl
  | d :: ds, h => by
    have hd := digChar_zero (h d List.mem_cons_self)
    by_cases h0 : d = 0
    · subst h0
      have : digChar 0 = 48 := by decide
      simp only [List.map_cons, List.dropWhile_cons, this, BEq.rfl, if_true]
      exact dropWhile_digChar ds (fun x hx => h x (List.mem_cons_of_mem _ hx))
    · have h1 : ¬ digChar d = 48 := fun e => h0 (hd.1 e)
      simp [h0, h1]
/-- the digits of what a text says, without zeros in front -/
theorem digits_of_text {b : Nat} (hb : 2 ≤ b) (h36 : b ≤ 36) (l : List UInt8) (h : ∀ c ∈ l, digitVal c.toNat < b) :
    ((digits b (numBE b l)).map digChar).reverse = (l.map fun c => digChar (digitVal c.toNat)).dropWhile (· == 48) := by
  have h1 : ∀ d ∈ (l.map fun c => digitVal c.toNat), d < b := by
    intro d hd
    obtain ⟨c, hc, rfl⟩ := List.mem_map.1 hd
    exact h c hc
  rw [numBE_numb, digits_numb hb _ (fun d hd => h1 d (List.mem_reverse.1 hd)), trimmed, List.reverse_reverse]
  rw [show (l.map fun c => digChar (digitVal c.toNat)) = (l.map fun c => digitVal c.toNat).map digChar by rw [List.map_map]; rfl, dropWhile_digChar _ (fun d hd => Nat.lt_of_lt_of_le (h1 d hd) h36), ← List.map_reverse, List.reverse_reverse]
set_option maxRecDepth 100000 in
theorem lower_all : ∀ n : Fin 256, digitVal n.val < 36 → (Lib.lowerB (UInt8.ofNat n.val)).toNat = digChar (digitVal n.val) ∧ n.val < 128 ∧ n.val ≠ 45 := by decide +kernel
theorem lower_digit (c : UInt8) (h : digitVal c.toNat < 36) : (Lib.lowerB c).toNat = digChar (digitVal c.toNat) ∧ c.toNat < 128 ∧ c.toNat ≠ 45 := by
  have := lower_all ⟨c.toNat, c.toNat_lt⟩ h
  simpa using this
theorem digitVal_digChar {d : Nat} (h : d < 36) : digitVal (digChar d) = d := by
  unfold digChar digitVal
  (repeat' split) <;> omega
theorem digChar_ge (d : Nat) : 48 ≤ digChar d := by unfold digChar; split <;> omega
theorem digChar_mono {d e : Nat} (h36 : e < 36) (h : d < e) : digChar d < digChar e := by
  unfold digChar
  (repeat' split) <;> omega
theorem digits_lt {b : Nat} (hb : 2 ≤ b) (A : Nat) : ∀ d ∈ digits b A, d < b := by
  intro d hd
  unfold digits at hd
  rw [← trimmed_take] at hd
  exact digs_lt (by omega) _ _ d (List.mem_of_mem_take hd)

/-- the bytes of a number's text without the sign -/
structure IsText (b A : Nat) (l : List UInt8) : Prop where
  ne : l ≠ []
  dig : ∀ c ∈ l, digitVal c.toNat < b
  char : ∀ c ∈ l, c.toNat = digChar (digitVal c.toNat)
  num : numBE b l = A
  len : ∀ N, 1 ≤ N → A < b ^ N → l.length ≤ N
theorem digits_length {b A N : Nat} (hb : 2 ≤ b) (h : A < b ^ N) : (digits b A).length ≤ N := by
  rw [← digits_eq hb (N := N) (Nat.div_eq_of_lt h)]
  exact Nat.le_trans (trimmed_length _) (Nat.le_of_eq (digs_length _ _ _))
theorem isText_of {b A : Nat} (hb : 2 ≤ b) (h36 : b ≤ 36) {l : List UInt8} (h : l.map (·.toNat) = textOf false b A) : IsText b A l := by
  unfold textOf at h
  by_cases h0 : A = 0
  · rw [if_pos h0] at h
    have hlen : l.length = 1 := by simpa using congrArg List.length h
    obtain ⟨c, rfl⟩ := List.length_eq_one_iff.1 hlen
    · have hc : c.toNat = 48 := by simpa using h
      refine ⟨by simp, ?_, ?_, ?_, fun N h1 _ => by simpa using h1⟩
      · intro x hx
        obtain rfl := List.mem_singleton.1 hx
        rw [hc]
        have : digitVal 48 = 0 := by decide
        omega
      · intro x hx
        obtain rfl := List.mem_singleton.1 hx
        rw [hc]
        decide
      · rw [h0, numBE]
        simp [hc, digitVal]
  · rw [if_neg h0] at h
    simp only [Bool.false_eq_true, if_false, List.nil_append] at h
    have hd := digits_lt hb A
    have hv : l.map (fun c => digitVal c.toNat) = (digits b A).reverse := by
      rw [show (l.map fun c => digitVal c.toNat) = (l.map (·.toNat)).map digitVal by rw [List.map_map]; rfl, h, List.map_reverse, List.map_map]
      congr 1
      conv => rhs; rw [← List.map_id (digits b A)]
      exact List.map_congr_left fun d hm => digitVal_digChar (Nat.lt_of_lt_of_le (hd d hm) h36)
    have hmem : ∀ c ∈ l, ∃ d ∈ digits b A, c.toNat = digChar d := by
      intro c hc
      have h1 : c.toNat ∈ l.map (·.toNat) := List.mem_map.2 ⟨c, hc, rfl⟩
      rw [h, List.mem_reverse] at h1
      obtain ⟨d, hm, e⟩ := List.mem_map.1 h1
      exact ⟨d, hm, e.symm⟩
    refine ⟨?_, ?_, ?_, ?_, fun N _ h1 => ?_⟩
    · rintro rfl
      simp only [List.map_nil] at hv
      have := List.reverse_eq_nil_iff.1 hv.symm
      exact h0 ((digits_nil_iff hb).1 this)
    · intro c hc
      obtain ⟨d, hm, e⟩ := hmem c hc
      rw [e, digitVal_digChar (Nat.lt_of_lt_of_le (hd d hm) h36)]
      exact hd d hm
    · intro c hc
      obtain ⟨d, hm, e⟩ := hmem c hc
      rw [e, digitVal_digChar (Nat.lt_of_lt_of_le (hd d hm) h36)]
    · rw [numBE_numb, hv, List.reverse_reverse, numb_digits hb]
    · have h2 := congrArg List.length hv
      simp only [List.length_map, List.length_reverse] at h2
      rw [h2]
      exact digits_length hb h1
/-- a text, parted into its sign and its digits -/
theorem text_in {b A : Nat} (hb : 2 ≤ b) (h36 : b ≤ 36) {na : Bool} (hna : A = 0 → na = false) {s : ByteArray} (h : s.data.toList.map (·.toNat) = textOf na b A) :
    ∃ l, s.data.toList = (if na then [45] else []) ++ l ∧ IsText b A l := by
  cases na with
  | false => exact ⟨s.data.toList, rfl, isText_of hb h36 h⟩
  | true =>
    have h0 : A ≠ 0 := fun e => by have := hna e; cases this
    have ht : textOf true b A = 45 :: textOf false b A := by simp [textOf, h0]
    rw [ht] at h
    cases hl : s.data.toList with
    | nil => rw [hl] at h; simp at h
    | cons c t =>
      rw [hl] at h
      simp only [List.map_cons, List.cons.injEq] at h
      exact ⟨t, by rw [show c = 45 from UInt8.toNat_inj.1 h.1]; rfl, isText_of hb h36 h.2⟩
theorem cons_num (b : Nat) (c : UInt8) (l : List UInt8) : numBE b (c :: l) = digitVal c.toNat * b ^ l.length + numBE b l := by
  rw [numBE, List.foldl_cons, foldBE]
  simp
/-- texts of one length have the order of their numbers -/
theorem compare_texts {b : Nat} (h36 : b ≤ 36) : ∀ (l m : List UInt8), l.length = m.length → (∀ c ∈ l, digitVal c.toNat < b ∧ c.toNat = digChar (digitVal c.toNat)) → (∀ c ∈ m, digitVal c.toNat < b ∧ c.toNat = digChar (digitVal c.toNat)) → Lib.compareBytes l m = cmpI (numBE b l : Int) (numBE b m : Int)
  | [], [], _, _, _ => by simp [Lib.compareBytes, cmpI, numBE]
  | [], _ :: _, h, _, _ => by simp at h
  | _ :: _, [], h, _, _ => by simp at h
  | x :: l, y :: m, h, hl, hm => by
    have hlen : l.length = m.length := by simpa using h
    have ih := compare_texts h36 l m hlen (fun c hc => hl c (List.mem_cons_of_mem _ hc)) (fun c hc => hm c (List.mem_cons_of_mem _ hc))
    obtain ⟨x1, x2⟩ := hl x List.mem_cons_self
    obtain ⟨y1, y2⟩ := hm y List.mem_cons_self
    have bl := numBE_lt l (fun c hc => (hl c (List.mem_cons_of_mem _ hc)).1)
    have bm := numBE_lt m (fun c hc => (hm c (List.mem_cons_of_mem _ hc)).1)
    rw [cons_num, cons_num, hlen]
    rw [hlen] at bl
    unfold Lib.compareBytes
    generalize numBE b l = u at *
    generalize numBE b m = v at *
    generalize b ^ m.length = P at *
    have key : ∀ {d e u v : Nat}, d < e → u < P → d * P + u < e * P + v := fun {d e u v} h1 h2 => by
      have h3 : (d + 1) * P ≤ e * P := Nat.mul_le_mul_right P h1
      rw [Nat.succ_mul] at h3
      omega
    by_cases c1 : x < y
    · rw [if_pos c1]
      have h3 : digitVal x.toNat < digitVal y.toNat := by
        apply Classical.byContradiction
        intro h4
        have c2 : x.toNat < y.toNat := UInt8.lt_iff_toNat_lt.1 c1
        rcases Nat.lt_or_eq_of_le (Nat.le_of_not_lt h4) with h5 | h5
        · have := digChar_mono (Nat.lt_of_lt_of_le x1 h36) h5
          omega
        · rw [x2, y2, h5] at c2; omega
      have := key (v := v) h3 bl
      unfold cmpI
      rw [if_pos (by omega)]
    · rw [if_neg c1]
      by_cases c2 : y < x
      · rw [if_pos c2]
        have h3 : digitVal y.toNat < digitVal x.toNat := by
          apply Classical.byContradiction
          intro h4
          have c3 : y.toNat < x.toNat := UInt8.lt_iff_toNat_lt.1 c2
          rcases Nat.lt_or_eq_of_le (Nat.le_of_not_lt h4) with h5 | h5
          · have := digChar_mono (Nat.lt_of_lt_of_le y1 h36) h5
            omega
          · rw [x2, y2, h5] at c3; omega
        have := key (v := u) h3 bm
        unfold cmpI
        rw [if_neg (by omega), if_pos (by omega)]
      · rw [if_neg c2, ih]
        have e : x = y := by
          have h5 : ¬ x.toNat < y.toNat := fun h => c1 (UInt8.lt_iff_toNat_lt.2 h)
          have h6 : ¬ y.toNat < x.toNat := fun h => c2 (UInt8.lt_iff_toNat_lt.2 h)
          exact UInt8.toNat_inj.1 (by omega)
        subst e
        unfold cmpI
        generalize digitVal x.toNat * P = Z
        (repeat' split) <;> omega

/-- what is left of a text in small letters, without the sign and the zeros in front -/
def strip (s : List UInt8) : List UInt8 := Lib.trimLeftB (Lib.trimPrefix (Lib.toLowerA s) [45]) 48
theorem strip_eq {b : Nat} (hb : 2 ≤ b) (h36 : b ≤ 36) {s : ByteArray} {neg : Bool} {l : List UInt8} (hin : ParseIn s neg l) (h : ∀ c ∈ l, digitVal c.toNat < b) :
    (strip s.data.toList).map (·.toNat) = ((digits b (numBE b l)).map digChar).reverse := by
  have hd : ∀ c ∈ l, digitVal c.toNat < 36 := fun c hc => Nat.lt_of_lt_of_le (h c hc) h36
  have h45 : Lib.lowerB 45 = 45 := by decide
  have hl : Lib.trimPrefix (Lib.toLowerA s.data.toList) [45] = l.map Lib.lowerB := by
    rw [hin.bytes]
    unfold Lib.trimPrefix Lib.hasPrefix Lib.toLowerA
    cases neg with
    | true => simp [h45]
    | false =>
      simp only [Bool.false_eq_true, if_false, List.nil_append]
      rw [if_neg]
      cases l with
      | nil => simp
      | cons c t =>
        intro h1
        simp [List.isPrefixOf] at h1
        have h2 := (lower_digit c (hd c List.mem_cons_self)).1
        rw [← h1] at h2
        have h3 := digChar_ge (digitVal c.toNat)
        have : (45 : UInt8).toNat = 45 := rfl
        omega
  rw [digits_of_text hb h36 l h]
  unfold strip
  rw [hl]
  unfold Lib.trimLeftB
  clear hl hin
  induction l with
  | nil => rfl
  | cons c t ih =>
    have h2 := (lower_digit c (hd c List.mem_cons_self)).1
    have ih2 := ih (fun x hx => h x (List.mem_cons_of_mem _ hx)) (fun x hx => hd x (List.mem_cons_of_mem _ hx))
    simp only [List.map_cons, List.dropWhile_cons]
    by_cases h0 : Lib.lowerB c = 48
    · have h3 : digChar (digitVal c.toNat) = 48 := by rw [← h2, h0]; rfl
      rw [h3]
      simp only [h0, BEq.rfl, if_true]
      exact ih2
    · have h3 : ¬ digChar (digitVal c.toNat) = 48 := by
        rw [← h2]
        intro e
        exact h0 (UInt8.toNat_inj.1 e)
      have e1 : (Lib.lowerB c == 48) = false := by simp [h0]
      have e2 : (digChar (digitVal c.toNat) == 48) = false := by simp [h3]
      rw [e1, e2]
      simp only [Bool.false_eq_true, if_false, List.map_cons, h2]
      congr 1
      rw [List.map_map]
      exact List.map_congr_left fun x hx => (lower_digit x (hd x (List.mem_cons_of_mem _ hx))).1
end Go.Proofs.YtlghjfpkfdnfoaaGreatDoor

/- the examples of the chapter, call by call -/
namespace Go.Proofs.YtlghjfpkfdnfoaaGreatDoor
open Go Go.RowKit Go.Shelf

theorem canon_one {x : Nat} (h0 : 0 < x) (hx : x < B32) : Canon [x] := by
  refine ⟨fun y hy => ?_, ?_⟩
  · simp only [List.mem_singleton] at hy
    subst hy
    exact hx
  · have := trimmed_snoc [] x (by omega)
    simpa using this
theorem val_one (x : Nat) : val [x] = x := by simp [val]
theorem IsInt.limb {w : World} {v : Value} {neg : Bool} {x : Nat} (h : IsInt w v (sgn neg x)) (h0 : 0 < x) (hx : x < B32) : IntAt w v neg [x] ∧ formedB neg [x] = true := by
  have hc := canon_one h0 hx
  obtain ⟨n, va, xs, rfl, hr, hcx, hn, hi⟩ := h
  rw [← val_one x] at hi
  obtain ⟨rfl, rfl⟩ := (sgn_inj hc hcx (by simp) hn).1 hi
  refine ⟨⟨va, rfl, hr, hc.1⟩, ?_⟩
  simp [formedB, hc.2]

theorem pow_at (a : Value) (w : World) (ha : IsInt w a 2) :
    Calls Tryz.prog 18 #[a, .int .i64 32] w fun e w' => Below w.heap.size w w' ∧ ∃ v, e = .returned (.tuple #[v, .int .i64 0]) ∧ IsInt w' v 4294967296 := by
  obtain ⟨hA, fA⟩ := IsInt.limb (neg := false) (x := 2) ha (by decide) (by decide)
  have hb : bitsOf [2] = 2 := by decide +kernel
  exact Pow_ok a [2] 32 79 times_79 (by omega) w hA fA (by omega) (by rw [hb]; decide) (by rw [hb]; decide) (by rw [val_one]; decide +kernel) (by rw [val_one]; decide +kernel)

theorem gcd_at (a b : Value) (w : World) (ha : IsInt w a 12) (hb : IsInt w b (-18)) :
    Calls Tryz.prog 19 #[a, b] w fun e w' => Below w.heap.size w w' ∧ ∃ g x y i j, e = .returned (.tuple #[g, x, y, .int .i64 0]) ∧ IsInt w' g 6 ∧ IsInt w' x i ∧ IsInt w' y j := by
  obtain ⟨hA, fA⟩ := IsInt.limb (neg := false) (x := 12) ha (by decide) (by decide)
  obtain ⟨hB, fB⟩ := IsInt.limb (neg := true) (x := 18) hb (by decide) (by decide)
  refine (Gcd_ok a b false true [12] [18] w hA hB fA fB 6 (fun _ _ => True) (fun W hW => ?_)).mono ?_
  · obtain ⟨va, rfl, hra, hla⟩ := hA
    obtain ⟨vb, rfl, hrb, hlb⟩ := hB
    refine (divisor_any 1 (by omega) (divUpTo_le divUpTo_one (by omega) (by omega)) (by omega) va vb false true [12] [18] W (hra.below hW) (hrb.below hW) (canon_one (by decide) (by decide)) (canon_one (by decide) (by decide)) (by simp) (by simp) rfl rfl).mono ?_
    rintro e W' ⟨hbe, g, x, y, i, j, rfl, h1, h2, h3, -⟩
    exact ⟨hbe, g, x, y, i, j, rfl, h1, h2, h3, trivial⟩
  · rintro e W ⟨hbe, g, x, y, i, j, rfl, h1, h2, h3, -⟩
    exact ⟨hbe, g, x, y, i, j, rfl, h1, h2, h3⟩

theorem text_at (a : Value) (w : World) (ha : IsInt w a 255) (hT : DigitsAt w) :
    Calls Tryz.prog 6 #[a, .int .i64 16] w fun e w' => Below w.heap.size w w' ∧ e = .returned (.tuple #[.string ⟨#[102, 102]⟩, .int .i64 0]) := by
  obtain ⟨hA, fA⟩ := IsInt.limb (neg := false) (x := 255) ha (by decide) (by decide)
  refine (Text_ok a false [255] 16 w hA fA (by omega) (by omega) hT).mono ?_
  rintro e W ⟨hbe, s, rfl, hs⟩
  refine ⟨hbe, ?_⟩
  have h1 : textOf false 16 (val [255]) = [102, 102] := by
    rw [val_one, textOf, if_neg (by decide), ← digits_eq (N := 2) (by decide) (by decide)]
    decide +kernel
  rw [h1] at hs
  have h2 : s = ⟨#[102, 102]⟩ := by
    apply bytes_ext
    generalize s.data.toList = l at hs
    obtain ⟨x, y, rfl⟩ : ∃ x y, l = [x, y] := by
      have hl := congrArg List.length hs
      rcases l with _ | ⟨x, _ | ⟨y, _ | ⟨z, t⟩⟩⟩
      · simp at hl
      · simp at hl
      · exact ⟨x, y, rfl⟩
      · simp at hl
    simp only [List.map_cons, List.map_nil, List.cons.injEq, and_true] at hs
    obtain ⟨hx, hy⟩ := hs
    obtain rfl : x = 102 := UInt8.toNat_inj.1 hx
    obtain rfl : y = 102 := UInt8.toNat_inj.1 hy
    rfl
  rw [h2]

theorem parse_at (w : World) :
    Calls Tryz.prog 7 #[.string ⟨#[45, 48, 65]⟩, .int .i64 16] w fun e w' => Below w.heap.size w w' ∧ ∃ v, e = .returned (.tuple #[v, .int .i64 0]) ∧ IsInt w' v (-10) :=
  Parse_ok ⟨#[45, 48, 65]⟩ 16 w (by omega) (by omega) true [48, 65] rfl (by simp) (by simp) (by decide) (by decide +kernel)

theorem root_at (a : Value) (w : World) (ha : IsInt w a (-27)) :
    Calls Tryz.prog 20 #[a, .int .i64 3] w fun e w' => Below w.heap.size w w' ∧ ∃ v, e = .returned (.tuple #[v, .int .i64 0]) ∧ IsInt w' v (-3) := by
  obtain ⟨hA, fA⟩ := IsInt.limb (neg := true) (x := 27) ha (by decide) (by decide)
  refine Root_ok a true [27] 2 w hA fA (by omega) (.inr (by decide)) (-3) (fun W hW => ?_)
  obtain ⟨va, rfl, hra, hla⟩ := hA
  exact floorRoot_exact 1 1 2 (timesUpTo_le times_79 (by omega)) (divUpTo_le divUpTo_one (by omega) (by omega)) (by omega) (by omega) (by omega) (by omega) va [27] 3 W (hra.below hW) (canon_one (by decide) (by decide)) (by simp) (by rw [val_one]; decide) (by rw [val_one])

theorem root_none_at (a : Value) (w : World) (ha : IsInt w a (-1)) :
    Calls Tryz.prog 20 #[a, .int .i64 2] w fun e w' => Below w.heap.size w w' ∧ e = .returned (.tuple #[zeroInt, .int .i64 5]) := by
  obtain ⟨hA, fA⟩ := IsInt.limb (neg := true) (x := 1) ha (by decide) (by decide)
  exact Root_none a [1] 2 w hA fA (by omega) (by omega) (by decide)

theorem div_at (a b : Value) (w : World) (ha : IsInt w a (-7)) (hb : IsInt w b 2) :
    Calls Tryz.prog 16 #[a, b] w fun e w' => Below w.heap.size w w' ∧ ∃ q r, e = .returned (.tuple #[q, r, .int .i64 0]) ∧ IsInt w' q (-4) ∧ IsInt w' r 1 :=
  Div_ok a b (-7) 2 1 1 (divUpTo_le divUpTo_one (by omega) (by omega)) w ha hb (by decide +kernel) (by decide +kernel) (by decide) (by decide) (by decide)

end Go.Proofs.YtlghjfpkfdnfoaaGreatDoor

/- zermelolaw01.sane -/
namespace Go.Proofs.YtlghjfpkfdnfoaaGreatDoor
open Go Go.RowKit Go.Shelf

/-- a variable that holds an integer -/
def BoxI (W : World) (v : Value) (i : Int) : Prop := ∃ b n a m c, v = .pointer (some ⟨b, 0, none⟩) ∧ RowAt W b 24 [.bool n, .slice a m c] ∧ IsInt W (.agg #[.bool n, .slice a m c]) i
theorem BoxI.below {W W' : World} {v : Value} {i : Int} (h : BoxI W v i) (hb : Below W.heap.size W W') : BoxI W' v i := by
  obtain ⟨b, n, a, m, c, rfl, hr, hi⟩ := h
  exact ⟨b, n, a, m, c, rfl, hr.below hb, hi.below hb⟩
theorem BoxI.new {W : World} {n : Bool} {a : Option Addr} {m c : Nat} {i : Int} (h : IsInt W (.agg #[.bool n, .slice a m c]) i) : BoxI (W.alloc (.cells #[.bool n, .slice a m c] 24)) (.pointer (some ⟨W.heap.size, 0, none⟩)) i :=
  ⟨_, n, a, m, c, rfl, RowAt.new W 24 [.bool n, .slice a m c], h.below ((Below.refl _ _).alloc (Nat.le_refl _) _)⟩
theorem BoxI.alloc {W : World} {v : Value} {i : Int} (h : BoxI W v i) (o : Obj) : BoxI (W.alloc o) v i := h.below ((Below.refl _ _).alloc (Nat.le_refl _) _)

theorem rsame_eq (va vb : Value) (i : Int) (w : World) (ha : IsInt w va i) (hb : IsInt w vb i) :
    Calls Tryz.prog 8 #[va, vb] w fun e w' => Below w.heap.size w w' ∧ e = .returned (.bool true) :=
  (rsame_int va vb i i w ha hb).mono fun _ _ ⟨h1, h2⟩ => ⟨h1, by rw [h2]; simp⟩
/-- the variables of sane that hold integers -/
structure SaneL (w w1 : World) (b1 : Nat) (n1 : Bool) (a1 : Option Addr) (m1 c1 : Nat) (b2 : Nat) (n2 : Bool) (a2 : Option Addr) (m2 c2 : Nat) (b4 : Nat) (n4 : Bool) (a4 : Option Addr) (m4 c4 : Nat) (b6 : Nat) (n6 : Bool) (a6 : Option Addr) (m6 c6 : Nat) (b12 : Nat) (n12 : Bool) (a12 : Option Addr) (m12 c12 : Nat) (b14 : Nat) (n14 : Bool) (a14 : Option Addr) (m14 c14 : Nat) (X : World) : Prop where
  r1 : RowAt X b1 24 [.bool n1, .slice a1 m1 c1]
  r2 : RowAt X b2 24 [.bool n2, .slice a2 m2 c2]
  r4 : RowAt X b4 24 [.bool n4, .slice a4 m4 c4]
  r6 : RowAt X b6 24 [.bool n6, .slice a6 m6 c6]
  r12 : RowAt X b12 24 [.bool n12, .slice a12 m12 c12]
  r14 : RowAt X b14 24 [.bool n14, .slice a14 m14 c14]
  below : Below w.heap.size w X
  keep : ∀ v xs, Reads .u32 w1 v xs → Reads .u32 X v xs
@[reducible] def SaneC (w w1 : World) (b1 : Nat) (n1 : Bool) (a1 : Option Addr) (m1 c1 : Nat) (b2 : Nat) (n2 : Bool) (a2 : Option Addr) (m2 c2 : Nat) (b4 : Nat) (n4 : Bool) (a4 : Option Addr) (m4 c4 : Nat) (b6 : Nat) (n6 : Bool) (a6 : Option Addr) (m6 c6 : Nat) (b12 : Nat) (n12 : Bool) (a12 : Option Addr) (m12 c12 : Nat) (b14 : Nat) (n14 : Bool) (a14 : Option Addr) (m14 c14 : Nat) (X : World) : Prop :=
  X.cell? ⟨b1, 0, none⟩ = some (.bool n1) ∧ X.cell? ⟨b1, 1, none⟩ = some (.slice a1 m1 c1) ∧ X.cell? ⟨b2, 0, none⟩ = some (.bool n2) ∧ X.cell? ⟨b2, 1, none⟩ = some (.slice a2 m2 c2) ∧ X.cell? ⟨b4, 0, none⟩ = some (.bool n4) ∧ X.cell? ⟨b4, 1, none⟩ = some (.slice a4 m4 c4) ∧ X.cell? ⟨b6, 0, none⟩ = some (.bool n6) ∧ X.cell? ⟨b6, 1, none⟩ = some (.slice a6 m6 c6) ∧ X.cell? ⟨b12, 0, none⟩ = some (.bool n12) ∧ X.cell? ⟨b12, 1, none⟩ = some (.slice a12 m12 c12) ∧ X.cell? ⟨b14, 0, none⟩ = some (.bool n14) ∧ X.cell? ⟨b14, 1, none⟩ = some (.slice a14 m14 c14) ∧ SaneL w w1 b1 n1 a1 m1 c1 b2 n2 a2 m2 c2 b4 n4 a4 m4 c4 b6 n6 a6 m6 c6 b12 n12 a12 m12 c12 b14 n14 a14 m14 c14 X
section
variable {w w1 X : World} {b1 : Nat} {n1 : Bool} {a1 : Option Addr} {m1 c1 : Nat} {b2 : Nat} {n2 : Bool} {a2 : Option Addr} {m2 c2 : Nat} {b4 : Nat} {n4 : Bool} {a4 : Option Addr} {m4 c4 : Nat} {b6 : Nat} {n6 : Bool} {a6 : Option Addr} {m6 c6 : Nat} {b12 : Nat} {n12 : Bool} {a12 : Option Addr} {m12 c12 : Nat} {b14 : Nat} {n14 : Bool} {a14 : Option Addr} {m14 c14 : Nat}
theorem sl_of (h : SaneL w w1 b1 n1 a1 m1 c1 b2 n2 a2 m2 c2 b4 n4 a4 m4 c4 b6 n6 a6 m6 c6 b12 n12 a12 m12 c12 b14 n14 a14 m14 c14 X) : SaneC w w1 b1 n1 a1 m1 c1 b2 n2 a2 m2 c2 b4 n4 a4 m4 c4 b6 n6 a6 m6 c6 b12 n12 a12 m12 c12 b14 n14 a14 m14 c14 X := ⟨h.r1.cell 0, h.r1.cell 1, h.r2.cell 0, h.r2.cell 1, h.r4.cell 0, h.r4.cell 1, h.r6.cell 0, h.r6.cell 1, h.r12.cell 0, h.r12.cell 1, h.r14.cell 0, h.r14.cell 1, h⟩
theorem sl_step {X' : World} (h : SaneL w w1 b1 n1 a1 m1 c1 b2 n2 a2 m2 c2 b4 n4 a4 m4 c4 b6 n6 a6 m6 c6 b12 n12 a12 m12 c12 b14 n14 a14 m14 c14 X) (hb : Below X.heap.size X X') : SaneL w w1 b1 n1 a1 m1 c1 b2 n2 a2 m2 c2 b4 n4 a4 m4 c4 b6 n6 a6 m6 c6 b12 n12 a12 m12 c12 b14 n14 a14 m14 c14 X' := ⟨h.r1.below hb, h.r2.below hb, h.r4.below hb, h.r6.below hb, h.r12.below hb, h.r14.below hb, h.below.trans (hb.mono h.below.size), fun v xs hv => (h.keep v xs hv).below hb⟩
theorem sl_drew (h : SaneL w w1 b1 n1 a1 m1 c1 b2 n2 a2 m2 c2 b4 n4 a4 m4 c4 b6 n6 a6 m6 c6 b12 n12 a12 m12 c12 b14 n14 a14 m14 c14 X) : SaneC w w1 b1 n1 a1 m1 c1 b2 n2 a2 m2 c2 b4 n4 a4 m4 c4 b6 n6 a6 m6 c6 b12 n12 a12 m12 c12 b14 n14 a14 m14 c14 X.drew := sl_of ⟨h.r1, h.r2, h.r4, h.r6, h.r12, h.r14, h.below.drew, h.keep⟩
end

set_option maxHeartbeats 4000000 in
set_option maxRecDepth 100000 in
theorem sane_any (w : World) (hT : DigitsAt w) :
    Calls Tryz.prog 5 #[] w fun e w' => Below w.heap.size w w' ∧ e = .returned (.bool true) := by
  have tok1 : True := trivial
  have tok2 : True := trivial
  go_enter Tryz.func5, Tryz.ntmps5
  go_upto_region 1 with (fail)
  go_cut [1, 2, 3] from 18 to 24 (fun v1 v2 v3 W => BoxI W v1 (-4) ∧ BoxI W v2 1 ∧ v3 = .int .i64 0 ∧ Below w.heap.size w W)
  case first =>
    go_wp2_with (first
      | (go_at_call 17; have _t := tok1; refine (rof_int (-7) _ (by decide) (by decide)).mono ?_; rintro e w1 ⟨hb1, u1, rfl, h1⟩; clear tok1 _t)
      | (go_at_call 17; refine (rof_int 2 _ (by decide) (by decide)).mono ?_; rintro e w2 ⟨hb2, u2, rfl, h2⟩)
      | (go_at_call 16; refine (div_at _ _ _ (h1.below hb2) h2).mono ?_; rintro e w3 ⟨hb3, u3, u4, rfl, h3, h4⟩; obtain ⟨n3, s3, m3, c3, rfl⟩ := h3.shape; obtain ⟨n4, s4, m4, c4, rfl⟩ := h4.shape))
    go_meet
    exact ⟨(BoxI.new h3).alloc _, by have hx := BoxI.new (h4.below ((Below.refl w3.heap.size w3).alloc (Nat.le_refl _) (.cells #[.bool n3, .slice s3 m3 c3] 24))); simpa only [World.size_alloc] using hx, rfl, (((hb1.trans (hb2.mono hb1.size)).trans (hb3.mono (hb1.trans (hb2.mono hb1.size)).size)).alloc (by have := hb1.size; have := hb2.size; have := hb3.size; omega) _).alloc (by have := hb1.size; have := hb2.size; have := hb3.size; simp; omega) _⟩
  case rest =>
    obtain ⟨q1, q2, rfl, hbe⟩ := hcut
    clear tok1
    generalize wc = wX2 at *
    have hTc : DigitsAt wX2 := hT.below hbe
    go_upto_region 2 with (fail)
    go_cut [4, 5] from 25 to 29 (fun v4 v5 W => BoxI W v4 4294967296 ∧ v5 = .int .i64 0 ∧ Below wX2.heap.size wX2 W)
    case first =>
      go_wp2_with (first
        | (go_at_call 17; refine (rof_int (2) _ (by decide) (by decide)).mono ?_; rintro e w1 ⟨hb1, u1, rfl, h1⟩)
        | (go_at_call 18; refine (pow_at _ _ h1).mono ?_; rintro e w3 ⟨hb3, u3, rfl, h3⟩; obtain ⟨n3, s3, m3, c3, rfl⟩ := h3.shape))
      go_meet
      exact ⟨BoxI.new h3, rfl, ((hb1.trans (hb3.mono hb1.size))).alloc (by have := hb1.size; have := hb3.size; omega) _⟩
    case rest =>
      obtain ⟨q4, rfl, hbn⟩ := hcut
      replace q1 := q1.below hbn
      replace q2 := q2.below hbn
      replace hbe := hbe.trans (hbn.mono hbe.size)
      clear hbn hTc
      generalize wc = wX3 at *
      have hTc : DigitsAt wX3 := hT.below hbe
      go_upto_region 3 with (fail)
      go_cut [6, 9] from 30 to 37 (fun v6 v9 W => BoxI W v6 6 ∧ v9 = .int .i64 0 ∧ Below wX3.heap.size wX3 W)
      case first =>
        go_wp2_with (first
          | (go_at_call 17; have _t := tok2; refine (rof_int (12) _ (by decide) (by decide)).mono ?_; rintro e w1 ⟨hb1, u1, rfl, h1⟩; clear tok2 _t)
          | (go_at_call 17; refine (rof_int (-18) _ (by decide) (by decide)).mono ?_; rintro e w2 ⟨hb2, u2, rfl, h2⟩)
          | (go_at_call 19; refine (gcd_at _ _ _ (h1.below hb2) h2).mono ?_; rintro e w3 ⟨hb3, u3, u4, u5, i, j, rfl, h3, h4, h5⟩; obtain ⟨n3, s3, m3, c3, rfl⟩ := h3.shape; obtain ⟨n4, s4, m4, c4, rfl⟩ := h4.shape; obtain ⟨n5, s5, m5, c5, rfl⟩ := h5.shape))
        go_meet
        exact ⟨((BoxI.new h3).alloc _).alloc _, rfl, (((((hb1.trans (hb2.mono hb1.size)).trans (hb3.mono (hb1.trans (hb2.mono hb1.size)).size))).alloc (by have := hb1.size; have := hb2.size; have := hb3.size; omega) _).alloc (by have := hb1.size; have := hb2.size; have := hb3.size; simp; omega) _).alloc (by have := hb1.size; have := hb2.size; have := hb3.size; simp; omega) _⟩
      case rest =>
        obtain ⟨q6, rfl, hbn⟩ := hcut
        replace q1 := q1.below hbn
        replace q2 := q2.below hbn
        replace q4 := q4.below hbn
        replace hbe := hbe.trans (hbn.mono hbe.size)
        clear hbn hTc tok2
        generalize wc = wX4 at *
        have hTc : DigitsAt wX4 := hT.below hbe
        go_upto_region 4 with (fail)
        go_cut [10, 11] from 38 to 42 (fun v10 v11 W => v10 = .string ⟨#[102, 102]⟩ ∧ v11 = .int .i64 0 ∧ Below wX4.heap.size wX4 W)
        case first =>
          go_wp2_with (first
            | (go_at_call 17; refine (rof_int (255) _ (by decide) (by decide)).mono ?_; rintro e w1 ⟨hb1, u1, rfl, h1⟩)
            | (go_at_call 6; refine (text_at _ _ h1 (hTc.below hb1)).mono ?_; rintro e w3 ⟨hb3, rfl⟩))
          go_meet
          exact ⟨rfl, rfl, (hb1.trans (hb3.mono hb1.size))⟩
        case rest =>
          obtain ⟨rfl, rfl, hbn⟩ := hcut
          replace q1 := q1.below hbn
          replace q2 := q2.below hbn
          replace q4 := q4.below hbn
          replace q6 := q6.below hbn
          replace hbe := hbe.trans (hbn.mono hbe.size)
          clear hbn hTc
          generalize wc = wX5 at *
          have hTc : DigitsAt wX5 := hT.below hbe
          go_upto_region 5 with (fail)
          go_cut [12, 13] from 43 to 46 (fun v12 v13 W => BoxI W v12 (-10) ∧ v13 = .int .i64 0 ∧ Below wX5.heap.size wX5 W)
          case first =>
            go_wp2_with (first
              | (go_at_call 7; refine (parse_at _).mono ?_; rintro e w3 ⟨hb3, u3, rfl, h3⟩; obtain ⟨n3, s3, m3, c3, rfl⟩ := h3.shape))
            go_meet
            exact ⟨BoxI.new h3, rfl, hb3.alloc hb3.size _⟩
          case rest =>
            obtain ⟨q12, rfl, hbn⟩ := hcut
            replace q1 := q1.below hbn
            replace q2 := q2.below hbn
            replace q4 := q4.below hbn
            replace q6 := q6.below hbn
            replace hbe := hbe.trans (hbn.mono hbe.size)
            clear hbn hTc
            generalize wc = wX6 at *
            have hTc : DigitsAt wX6 := hT.below hbe
            go_upto_region 6 with (fail)
            go_cut [14, 15] from 47 to 51 (fun v14 v15 W => BoxI W v14 (-3) ∧ v15 = .int .i64 0 ∧ Below wX6.heap.size wX6 W)
            case first =>
              go_wp2_with (first
                | (go_at_call 17; refine (rof_int (-27) _ (by decide) (by decide)).mono ?_; rintro e w1 ⟨hb1, u1, rfl, h1⟩)
                | (go_at_call 20; refine (root_at _ _ h1).mono ?_; rintro e w3 ⟨hb3, u3, rfl, h3⟩; obtain ⟨n3, s3, m3, c3, rfl⟩ := h3.shape))
              go_meet
              exact ⟨BoxI.new h3, rfl, ((hb1.trans (hb3.mono hb1.size))).alloc (by have := hb1.size; have := hb3.size; omega) _⟩
            case rest =>
              obtain ⟨q14, rfl, hbn⟩ := hcut
              replace q1 := q1.below hbn
              replace q2 := q2.below hbn
              replace q4 := q4.below hbn
              replace q6 := q6.below hbn
              replace q12 := q12.below hbn
              replace hbe := hbe.trans (hbn.mono hbe.size)
              clear hbn hTc
              generalize wc = wX7 at *
              have hTc : DigitsAt wX7 := hT.below hbe
              go_upto_region 7 with (fail)
              go_cut [17] from 52 to 56 (fun v17 W => v17 = .int .i64 5 ∧ Below wX7.heap.size wX7 W)
              case first =>
                go_wp2_with (first
                  | (go_at_call 17; refine (rof_int (-1) _ (by decide) (by decide)).mono ?_; rintro e w1 ⟨hb1, u1, rfl, h1⟩)
                  | (go_at_call 20; refine (root_none_at _ _ h1).mono ?_; unfold zeroInt; rintro e w3 ⟨hb3, rfl⟩))
                go_meet
                exact ⟨rfl, ((hb1.trans (hb3.mono hb1.size))).alloc (by have := hb1.size; have := hb3.size; omega) _⟩
              case rest =>
                obtain ⟨rfl, hbn⟩ := hcut
                replace q1 := q1.below hbn
                replace q2 := q2.below hbn
                replace q4 := q4.below hbn
                replace q6 := q6.below hbn
                replace q12 := q12.below hbn
                replace q14 := q14.below hbn
                replace hbe := hbe.trans (hbn.mono hbe.size)
                clear hbn hTc
                go_upto_region 10 with (fail)
                obtain ⟨b1, n1, a1, m1, c1, rfl, r1, j1⟩ := q1
                obtain ⟨b2, n2, a2, m2, c2, rfl, r2, j2⟩ := q2
                obtain ⟨b4, n4, a4, m4, c4, rfl, r4, j4⟩ := q4
                obtain ⟨b6, n6, a6, m6, c6, rfl, r6, j6⟩ := q6
                obtain ⟨b12, n12, a12, m12, c12, rfl, r12, j12⟩ := q12
                obtain ⟨b14, n14, a14, m14, c14, rfl, r14, j14⟩ := q14
                have hL : SaneL w wc b1 n1 a1 m1 c1 b2 n2 a2 m2 c2 b4 n4 a4 m4 c4 b6 n6 a6 m6 c6 b12 n12 a12 m12 c12 b14 n14 a14 m14 c14 wc := ⟨r1, r2, r4, r6, r12, r14, hbe, fun _ _ h => h⟩
                have hD := Lib.hid (sl_drew hL)
                obtain ⟨d1, d2, d3, d4, d5, d6, d7, d8, d9, d10, d11, d12, -⟩ := sl_of hL
                have k1 : True := trivial
                have k2 : True := trivial
                have k3 : True := trivial
                have k4 : True := trivial
                have k5 : True := trivial
                have k6 : True := trivial
                clear hL r1 r2 r4 r6 r12 r14
                go_region_held3 (fun X => X.cell? ⟨b1, 0, none⟩ = some (.bool n1) ∧ X.cell? ⟨b1, 1, none⟩ = some (.slice a1 m1 c1) ∧ X.cell? ⟨b2, 0, none⟩ = some (.bool n2) ∧ X.cell? ⟨b2, 1, none⟩ = some (.slice a2 m2 c2) ∧ X.cell? ⟨b4, 0, none⟩ = some (.bool n4) ∧ X.cell? ⟨b4, 1, none⟩ = some (.slice a4 m4 c4) ∧ X.cell? ⟨b6, 0, none⟩ = some (.bool n6) ∧ X.cell? ⟨b6, 1, none⟩ = some (.slice a6 m6 c6) ∧ X.cell? ⟨b12, 0, none⟩ = some (.bool n12) ∧ X.cell? ⟨b12, 1, none⟩ = some (.slice a12 m12 c12) ∧ X.cell? ⟨b14, 0, none⟩ = some (.bool n14) ∧ X.cell? ⟨b14, 1, none⟩ = some (.slice a14 m14 c14) ∧ SaneL w wc b1 n1 a1 m1 c1 b2 n2 a2 m2 c2 b4 n4 a4 m4 c4 b6 n6 a6 m6 c6 b12 n12 a12 m12 c12 b14 n14 a14 m14 c14 X)
                  (first | exact hD.out | (go_split_ands; exact sl_of (sl_step (by assumption) hbc)))
                  (first
                    | (go_at_call 17; go_split_ands; refine (rof_int _ _ (by decide) (by decide)).mono ?_; rintro e wk ⟨hbc, uk, rfl, hof⟩; obtain ⟨nk, sk, mk, ck, rfl⟩ := hof.shape)
                    | (go_at_call 21; go_split_ands; refine (of_int _ _ (by decide) (by decide)).mono ?_; rintro e wl ⟨hbc, ul, rfl, hno⟩; obtain ⟨nl, sl, ml, cl, rfl⟩ := hno.shape)
                    | (go_at_call 8; have _t := k1; go_split_ands; refine (rsame_eq _ _ _ _ (j1.keep (SaneL.keep (by assumption))) hof).mono ?_; rintro e wk ⟨hbc, rfl⟩; clear k1 _t hof)
                    | (go_at_call 8; have _t := k2; go_split_ands; refine (rsame_eq _ _ _ _ (j2.keep (SaneL.keep (by assumption))) hof).mono ?_; rintro e wk ⟨hbc, rfl⟩; clear k2 _t hof)
                    | (go_at_call 8; have _t := k3; go_split_ands; refine (rsame_eq _ _ _ _ (j4.keep (SaneL.keep (by assumption))) hof).mono ?_; rintro e wk ⟨hbc, rfl⟩; clear k3 _t hof)
                    | (go_at_call 8; have _t := k4; go_split_ands; refine (rsame_eq _ _ _ _ (j6.keep (SaneL.keep (by assumption))) hof).mono ?_; rintro e wk ⟨hbc, rfl⟩; clear k4 _t hof)
                    | (go_at_call 8; have _t := k5; go_split_ands; refine (rsame_eq _ _ _ _ (j12.keep (SaneL.keep (by assumption))) hof).mono ?_; rintro e wk ⟨hbc, rfl⟩; clear k5 _t hof)
                    | (go_at_call 8; have _t := k6; go_split_ands; refine (rsame_eq _ _ _ _ (j14.keep (SaneL.keep (by assumption))) hof).mono ?_; rintro e wk ⟨hbc, rfl⟩; clear k6 _t hof)
                    | (go_at_call 8; go_split_ands; refine (rsame_eq _ _ (-5) _ (by first | with_reducible exact hno | with_reducible exact hno.below hbc) (by first | with_reducible exact hof | with_reducible exact hof.below hbc)).mono ?_; rintro e wk ⟨hbc, rfl⟩))
                rename_i hTT
                obtain ⟨-, -, -, -, -, -, -, -, -, -, -, -, hTf⟩ := hTT
                go_wp2
                go_ret
                exact ⟨hTf.below, rfl⟩

end Go.Proofs.YtlghjfpkfdnfoaaGreatDoor

/- zermelolaw01.formed -/
namespace Go.Proofs.YtlghjfpkfdnfoaaGreatDoor
open Go Go.RowKit Go.Shelf

/-- integers in a row: sign, slice, limbs -/
abbrev Item := Bool × Value × List Nat
def rowCells (l : List Item) : List Value := l.flatMap fun it => [.bool it.1, it.2.1]
theorem rowCells_at (l : List Item) (k : Nat) (it : Item) (h : l[k]? = some it) : (rowCells l)[k * 2]? = some (.bool it.1) ∧ (rowCells l)[k * 2 + 1]? = some it.2.1 := by
  induction l generalizing k with
  | nil => simp at h
  | cons x l ih =>
    cases k with
    | zero =>
      simp at h
      subst h
      simp [rowCells]
    | succ k =>
      have := ih k (by simpa using h)
      simp only [rowCells, List.flatMap_cons] at this ⊢
      rw [show (k + 1) * 2 = k * 2 + 1 + 1 by omega]
      simpa using this
/-- what the law asks of each -/
def fitB (most : Int) (it : Item) : Bool := formedB it.1 it.2.2 && decide ((it.2.2.length : Int) ≤ most)

set_option maxHeartbeats 2000000 in
set_option maxRecDepth 100000 in
theorem formed_list (l : List Item) (most : Int) (b : Nat) (w : World) (hrow : RowAt w b 24 (rowCells l)) (hl : l.length ≤ 1000) (hr : ∀ it ∈ l, Reads .u32 w it.2.1 it.2.2 ∧ Limbs it.2.2) :
    Calls Tryz.prog 4 #[.int .i64 most, .slice (some ⟨b, 0, none⟩) l.length l.length] w fun e w' => Below w.heap.size w w' ∧ e = .returned (.bool (l.all (fitB most))) := by
  obtain ⟨n, hn⟩ : ∃ n, l.length = n := ⟨_, rfl⟩
  rw [hn] at hl ⊢
  have HN := Lib.hid hn
  clear hn
  go_enter Tryz.func4, Tryz.ntmps4
  go_wp2
  go_loopw [9] (fun i W => ∃ k : Nat, k ≤ n ∧ i = .int .i64 k ∧ (l.take k).all (fitB most) = true ∧ Below w.heap.size w W) (fun i _ => n - (intOf i).toNat)
  case atStart => exact ⟨0, Nat.zero_le _, rfl, rfl, Below.refl _ _⟩
  case round =>
    obtain ⟨k, hk, rfl, hall, hbe⟩ := hrel
    by_cases hlt : k < n
    · have hkl : k < l.length := by have := HN.out; omega
      obtain ⟨it, hit⟩ : ∃ it, l[k]? = some it := ⟨_, List.getElem?_eq_getElem hkl⟩
      have hmem : it ∈ l := List.mem_of_getElem? hit
      obtain ⟨hrd, hlm⟩ := hr it hmem
      obtain ⟨neg, v, xs⟩ := it
      change Reads .u32 w v xs at hrd
      change Limbs xs at hlm
      obtain ⟨a, c, rfl, hc, hm⟩ := hrd.form
      unfold maxLen at hm
      obtain ⟨g1, g2⟩ := rowCells_at l k _ hit
      have hrw := hrow.below hbe
      have c1 := hrw.cell (k * 2)
      have c2 := hrw.cell (k * 2 + 1)
      rw [g1] at c1
      rw [g2] at c2
      have hix := fun W => index_ints b n k hlt W
      have htk : l.take (k + 1) = l.take k ++ [(neg, Value.slice a xs.length c, xs)] := by
        rw [List.take_succ_eq_append_getElem hkl]
        rw [List.getElem?_eq_getElem hkl] at hit
        rw [Option.some.inj hit]
      have hsz := hbe.size
      have hb1 : Below w.heap.size w (wr.alloc (.cells #[.bool neg, .slice a xs.length c] 24)) := hbe.alloc hsz _
      have hrf := rformed_any (.agg #[.bool neg, .slice a xs.length c]) neg xs (wr.alloc (.cells #[.bool neg, .slice a xs.length c] 24)) ⟨_, rfl, hrd.below hb1, hlm⟩
      have rr := RowAt.new wr 24 [.bool neg, .slice a xs.length c]
      have HL := Lib.hid (And.intro hall (And.intro htk hit))
      clear hall htk hit g1 g2
      cases hfb : formedB neg xs with
      | false =>
        rw [hfb] at hrf
        have hfalse : l.all (fitB most) = false := by
          rw [List.all_eq_false]
          exact ⟨_, hmem, by simp [fitB, hfb]⟩
        have HF := Lib.hid hfalse
        clear hfalse
        go_wp2_with (go_at_call 15; refine hrf.mono ?_; rintro e w2 ⟨hbe2, rfl⟩)
        go_ret
        exact ⟨hb1.trans (hbe2.mono hb1.size), by rw [HF.out]; rfl⟩
      | true =>
        rw [hfb] at hrf
        by_cases hmo : (xs.length : Int) ≤ most
        · have hd : decide (most < (xs.length : Int)) = false := by simp; omega
          go_wp2_with (go_at_call 15; refine hrf.mono ?_; rintro e w2 ⟨hbe2, rfl⟩; have rr2 := rr.below hbe2; have q2 := rr2.cell 1; simp only [List.getElem?_cons_zero, List.getElem?_cons_succ] at q2)
          refine ⟨⟨k + 1, by omega, by go_num, ?_, hb1.trans (hbe2.mono hb1.size)⟩, by simp [intOf]; omega⟩
          rw [HL.out.2.1, List.all_append, HL.out.1]
          simp [fitB, hfb, hmo]
        · have hd : decide (most < (xs.length : Int)) = true := by simp; omega
          have hfalse : l.all (fitB most) = false := by
            rw [List.all_eq_false]
            exact ⟨_, hmem, by simp [fitB, hmo]⟩
          have HF := Lib.hid hfalse
          clear hfalse
          go_wp2_with (go_at_call 15; refine hrf.mono ?_; rintro e w2 ⟨hbe2, rfl⟩; have rr2 := rr.below hbe2; have q2 := rr2.cell 1; simp only [List.getElem?_cons_zero, List.getElem?_cons_succ] at q2)
          go_ret
          exact ⟨hb1.trans (hbe2.mono hb1.size), by rw [HF.out]; rfl⟩
    · have htk : l.take k = l := List.take_of_length_le (by have := HN.out; omega)
      rw [htk] at hall
      have HA := Lib.hid hall
      clear hall
      go_wp2
      go_ret
      exact ⟨hbe, by rw [HA.out]; rfl⟩

end Go.Proofs.YtlghjfpkfdnfoaaGreatDoor

/- what NumOrder calls, at values -/
namespace Go.Proofs.YtlghjfpkfdnfoaaGreatDoor
open Go Go.RowKit Go.Shelf

set_option exponentiation.threshold 400 in
theorem compare_int (va vb : Value) (i j : Int) (w : World) (ha : IsInt w va i) (hb : IsInt w vb j) (hi : i.natAbs < B32 ^ 300) (hj : j.natAbs < B32 ^ 300) :
    Calls Tryz.prog 10 #[va, vb] w fun e w' => Below w.heap.size w w' ∧ e = .returned (.int .i64 (cmpI i j)) := by
  obtain ⟨na, xa, hA, fa, rfl, -, -⟩ := ha.at hi
  obtain ⟨nb, xb, hB, fb, rfl, -, -⟩ := hb.at hj
  have := Compare_any va vb na nb xa xb w hA hB
  rw [fa, fb] at this
  simpa using this

set_option exponentiation.threshold 400 in
theorem b32_up {n k : Nat} (h : n < B32 ^ k) (hk : k ≤ 300) : n < B32 ^ 300 := Nat.lt_of_lt_of_le h (Nat.pow_le_pow_right (by decide) hk)
theorem b32_add {i j : Int} (hi : i.natAbs < B32 ^ 100) (hj : j.natAbs < B32 ^ 100) : (i + j).natAbs < B32 ^ 101 := by
  have h1 : B32 ^ 101 = B32 ^ 100 * B32 := Nat.pow_succ ..
  have h2 : (2 : Nat) ≤ B32 := by decide
  have h3 : B32 ^ 100 * 2 ≤ B32 ^ 100 * B32 := Nat.mul_le_mul_left _ h2
  generalize B32 ^ 100 = P at *
  omega

/-- orders of three integers -/
theorem cmpI_cases (i j : Int) : (i < j ∧ cmpI i j = -1 ∧ cmpI j i = 1) ∨ (i = j ∧ cmpI i j = 0 ∧ cmpI j i = 0) ∨ (j < i ∧ cmpI i j = 1 ∧ cmpI j i = -1) := by
  unfold cmpI
  rcases Int.lt_trichotomy i j with h | h | h
  · have : ¬ j < i := by omega
    exact .inl ⟨h, by simp [h], by simp [h, this]⟩
  · subst h
    exact .inr (.inl ⟨rfl, by simp, by simp⟩)
  · have : ¬ i < j := by omega
    exact .inr (.inr ⟨h, by simp [h, this], by simp [h]⟩)
theorem cmpI_add (i j k : Int) : cmpI (i + k) (j + k) = cmpI i j := cmpI_congr (by omega) (by omega)

/-- the three variables of the law -/
structure OrdL (w w1 : World) (b1 : Nat) (n1 : Bool) (a1 : Option Addr) (m1 c1 : Nat) (b2 : Nat) (n2 : Bool) (a2 : Option Addr) (m2 c2 : Nat) (b3 : Nat) (n3 : Bool) (a3 : Option Addr) (m3 c3 : Nat) (X : World) : Prop where
  r1 : RowAt X b1 24 [.bool n1, .slice a1 m1 c1]
  r2 : RowAt X b2 24 [.bool n2, .slice a2 m2 c2]
  r3 : RowAt X b3 24 [.bool n3, .slice a3 m3 c3]
  below : Below w.heap.size w X
  keep : ∀ v xs, Reads .u32 w1 v xs → Reads .u32 X v xs
@[reducible] def OrdC (w w1 : World) (b1 : Nat) (n1 : Bool) (a1 : Option Addr) (m1 c1 : Nat) (b2 : Nat) (n2 : Bool) (a2 : Option Addr) (m2 c2 : Nat) (b3 : Nat) (n3 : Bool) (a3 : Option Addr) (m3 c3 : Nat) (X : World) : Prop :=
  X.cell? ⟨b1, 0, none⟩ = some (.bool n1) ∧ X.cell? ⟨b1, 1, none⟩ = some (.slice a1 m1 c1) ∧ X.cell? ⟨b2, 0, none⟩ = some (.bool n2) ∧ X.cell? ⟨b2, 1, none⟩ = some (.slice a2 m2 c2) ∧ X.cell? ⟨b3, 0, none⟩ = some (.bool n3) ∧ X.cell? ⟨b3, 1, none⟩ = some (.slice a3 m3 c3) ∧ OrdL w w1 b1 n1 a1 m1 c1 b2 n2 a2 m2 c2 b3 n3 a3 m3 c3 X
section
variable {w w1 X : World} {b1 : Nat} {n1 : Bool} {a1 : Option Addr} {m1 c1 : Nat} {b2 : Nat} {n2 : Bool} {a2 : Option Addr} {m2 c2 : Nat} {b3 : Nat} {n3 : Bool} {a3 : Option Addr} {m3 c3 : Nat}
theorem ol_of (h : OrdL w w1 b1 n1 a1 m1 c1 b2 n2 a2 m2 c2 b3 n3 a3 m3 c3 X) : OrdC w w1 b1 n1 a1 m1 c1 b2 n2 a2 m2 c2 b3 n3 a3 m3 c3 X := ⟨h.r1.cell 0, h.r1.cell 1, h.r2.cell 0, h.r2.cell 1, h.r3.cell 0, h.r3.cell 1, h⟩
theorem ol_step {X' : World} (h : OrdL w w1 b1 n1 a1 m1 c1 b2 n2 a2 m2 c2 b3 n3 a3 m3 c3 X) (hb : Below X.heap.size X X') : OrdL w w1 b1 n1 a1 m1 c1 b2 n2 a2 m2 c2 b3 n3 a3 m3 c3 X' := ⟨h.r1.below hb, h.r2.below hb, h.r3.below hb, h.below.trans (hb.mono h.below.size), fun v xs hv => (h.keep v xs hv).below hb⟩
theorem ol_drew (h : OrdL w w1 b1 n1 a1 m1 c1 b2 n2 a2 m2 c2 b3 n3 a3 m3 c3 X) : OrdC w w1 b1 n1 a1 m1 c1 b2 n2 a2 m2 c2 b3 n3 a3 m3 c3 X.drew := ol_of ⟨h.r1, h.r2, h.r3, h.below.drew, h.keep⟩
end
end Go.Proofs.YtlghjfpkfdnfoaaGreatDoor
