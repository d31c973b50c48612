/- num.parse of what is no number -/
import Derived.Test.YtlghjfpkfdnfoaaDoorNumMSaneParts
import Derived.Test.YtlghjfpkfdnfoaaDoorNumMRefBits
import Derived.Test.YtlghjfpkfdnfoaaDoorNumMTo
import Derived.Test.YtlghjfpkfdnfoaaDoorNumMDivideSmall
import Derived.Test.YtlghjfpkfdnfoaaDoorNumMRefOf
namespace Go.Proofs.YtlghjfpkfdnfoaaDoor
open Go Go.RowKit Go.Shelf

/-- a string as Parse takes it: its sign, what is behind it -/
structure ParseIn (s : ByteArray) (neg : Bool) (l : List UInt8) : Prop where
  bytes : s.data.toList = (if neg then [45] else []) ++ l
  first : neg = false → ∀ c, l.head? = some c → c.toNat ≠ 45
theorem parseIn_ex (s : ByteArray) : ∃ neg l, ParseIn s neg l := by
  cases h : s.data.toList with
  | nil => exact ⟨false, [], by rw [h]; rfl, fun _ c hc => by simp at hc⟩
  | cons c t =>
    by_cases h45 : c.toNat = 45
    · obtain rfl : c = 45 := UInt8.toNat_inj.1 h45
      exact ⟨true, t, by rw [h]; rfl, fun h => by cases h⟩
    · exact ⟨false, c :: t, by rw [h]; rfl, fun _ d hd => by simp at hd; subst hd; exact h45⟩
/-- the first byte that is no digit -/
theorem bad_first (b : Nat) : ∀ (l : List UInt8), ¬ (∀ c ∈ l, digitVal c.toNat < b) → ∃ p, ∃ h : p < l.length, ¬ digitVal (l[p]'h).toNat < b ∧ ∀ i (hi : i < p), digitVal (l[i]'(by omega)).toNat < b
  | [], h => absurd (fun c hc => by simp at hc) h
  | c :: t, h => by
    by_cases hc : digitVal c.toNat < b
    · obtain ⟨p, hp, h1, h2⟩ := bad_first b t (fun ht => h (fun d hd => by
        rcases List.mem_cons.1 hd with rfl | hd
        · exact hc
        · exact ht d hd))
      refine ⟨p + 1, by simp; omega, by simpa using h1, fun i hi => ?_⟩
      cases i with
      | zero => simpa using hc
      | succ i => simpa using h2 i (by omega)
    · exact ⟨0, by simp, by simpa using hc, fun i hi => by omega⟩

set_option maxHeartbeats 4000000 in
set_option maxRecDepth 100000 in
theorem parse_bad (s : ByteArray) (b : Nat) (w : World) (neg : Bool) (l : List UInt8) (hin : ParseIn s neg l) (hlen : l.length ≤ 100000) (hbad : l = [] ∨ ¬ ∀ c ∈ l, digitVal c.toNat < b) :
    Calls Tryd.prog 91 #[.string s, .int .i64 (b : Int)] w fun e w' => Below w.heap.size w w' ∧ e = .panicked [{ v := .iface 27 (.int .i64 2), recovered := false }] := by
  obtain ⟨hs, hfirst⟩ := hin
  obtain ⟨t, ht⟩ : ∃ t : ByteArray, t.data.toList = l := ⟨⟨l.toArray⟩, by simp⟩
  have htz : t.size = l.length := by rw [← ht, size_toList]
  have hcut : neg = true → s.extract 1 s.size = t := fun hn => by
    subst hn
    apply bytes_ext
    rw [Lib.extract_to_end, hs, ht]
    rfl
  have hsame : neg = false → s = t := fun hn => by
    subst hn
    apply bytes_ext
    rw [hs, ht]
    rfl
  have hsz : s.size = (if neg then 1 else 0) + l.length := by
    rw [← size_toList, hs]
    cases neg <;> simp [Nat.add_comm]
  refine (callsIn_wide (n := 9)).1 ?_
  refine callsIn_of_wp_marks Tryd.func91 rfl trivial ?_ rfl
  simp only [Tryd.ntmps91, List.size_toArray, List.length_cons, List.length_nil, Nat.reduceAdd, Nat.reduceSub, Array.replicate_succ, Array.replicate_zero, List.push_toArray, List.append_toArray, List.nil_append, List.cons_append]
  have b0 := (Below.refl w.heap.size w).alloc (Nat.le_refl _) (.cells #[.bool false, .slice none 0 0] 24)
  by_cases hl0 : l = []
  · subst hl0
    cases neg with
    | false =>
      obtain rfl := hsame rfl
      have hz : s.size = 0 := htz
      clear hsame hcut hsz hs hfirst hbad ht htz
      gi_wp2_with (refine ⟨trivial, ?_⟩; gi_at_call 60; refine (callsIn_wide.2 (demand_no _ _ _ (by first | rfl | (simp; omega)))).mono ?_; rintro e w2 ⟨rfl, rfl⟩)
      exact ⟨b0, rfl⟩
    | true =>
      have e0 := hcut rfl
      have hz : t.size = 0 := htz
      have hs1 : s.size = 1 := by rw [hsz]; rfl
      have hi0 : ∀ W, (Instr.index 9 (.string s) (.int .i64 0)).run Tryd.prog W = .ok (.int .u8 45) W := fun W => by
        have := index_string s 0 _ hs (by simp) W
        rw [Int.ofNat_zero] at this
        rw [this]
        rfl
      rw [hs1] at e0
      clear hsame hcut hsz hs hfirst hbad ht htz
      gi_wp2_with (refine ⟨trivial, ?_⟩; gi_at_call 60; refine (callsIn_wide.2 (demand_no _ _ _ (by first | rfl | (simp; omega)))).mono ?_; rintro e w2 ⟨rfl, rfl⟩)
      exact ⟨b0, rfl⟩
  · have hbad' := hbad.resolve_left hl0
    obtain ⟨p, hp, hp1, hp2⟩ := bad_first b l hbad'
    have hlp : 0 < l.length := by omega
    have hi0 : ∀ W, (Instr.index 9 (.string s) (.int .i64 0)).run Tryd.prog W = .ok (.int .u8 (if neg then 45 else (((l[0]'hlp).toNat : Nat) : Int))) W := fun W => by
      have h0 : 0 < ((if neg then [45] else []) ++ l).length := by cases neg <;> simp <;> omega
      have := index_string s 0 _ hs h0 W
      rw [Int.ofNat_zero] at this
      rw [this]
      cases neg <;> rfl
    have hn45 : neg = false → ((((l[0]'hlp).toNat : Nat) : Int) == 45) = false := fun hn => by
      have h1 := hfirst hn (l[0]'hlp) (by rw [List.head?_eq_getElem?, List.getElem?_eq_getElem hlp])
      refine beq_eq_false_iff_ne.2 fun e => h1 (by omega)
    have hspos : 0 < s.size := by rw [hsz]; omega
    have HL := Lib.hid (And.intro ht (And.intro htz (And.intro hs hsz)))
    have HB := Lib.hid (And.intro hp1 hp2)
    clear ht htz hs hsz hl0 hbad hbad' hfirst hp1 hp2
    obtain ⟨W0, hW0⟩ : ∃ W0, w.alloc (.cells #[.bool false, .slice none 0 0] 24) = W0 := ⟨_, rfl⟩
    rw [hW0] at b0
    have HW := Lib.hid hW0
    clear hW0
    have htz := HL.out.2.1
    have hd0 : decide ((0 : Int) < (l.length : Int)) = true := by simp; omega
    cases neg
    · have e0 := hsame rfl
      have h45 := hn45 rfl
      simp only [Bool.false_eq_true, if_false] at hi0
      clear hsame hcut hn45
      subst e0
      gi_wp2_with (refine ⟨trivial, ?_⟩; gi_at_call 60; refine (callsIn_wide.2 (demand_ok _ _ _ (by first | rfl | (simp; omega)))).mono ?_; rintro e w2 ⟨rfl, rfl⟩)
      generalize s = t at *
      clear hi0 h45 hspos
      rw [HW.out]
      gi_loop [27] (fun i => ∃ j : Nat, j ≤ p ∧ i = .int .i64 j) (fun i => l.length - (intOf i).toNat)
      case atStart => exact ⟨0, Nat.zero_le _, rfl⟩
      case round =>
        obtain ⟨j, hj, rfl⟩ := hrel
        have hjl : j < l.length := by omega
        have hix := fun W => index_string t j l HL.out.1 hjl W
        obtain ⟨c, hc⟩ : ∃ c, (l[j]'hjl).toNat = c := ⟨_, rfl⟩
        have hc256 : c < 256 := by rw [← hc]; exact (l[j]'hjl).toNat_lt
        rw [hc] at hix
        by_cases hjp : j = p
        · have hcd : ¬ digitVal c < b := by subst hjp; rw [← hc]; exact HB.out.1
          have hdd : decide (((digitVal c : Nat) : Int) < (b : Int)) = false := by simp; omega
          have HJ := Lib.hid hjp
          clear hc hjp
          gi_wp2_with (first
            | (refine ⟨trivial, ?_⟩; gi_at_call 114; refine (callsIn_wide.2 (digitOf_any c _ hc256)).mono ?_; rintro e w2 ⟨rfl, rfl⟩)
            | (refine ⟨trivial, ?_⟩; gi_at_call 60; refine (callsIn_wide.2 (demand_no _ _ _ (by first | rfl | (simp; omega)))).mono ?_; rintro e w2 ⟨rfl, rfl⟩))
          exact ⟨b0, rfl⟩
        · have hcd : digitVal c < b := by rw [← hc]; exact HB.out.2 j (by omega)
          have hdd : decide (((digitVal c : Nat) : Int) < (b : Int)) = true := by simp; omega
          clear hc
          gi_wp2_with (first
            | (refine ⟨trivial, ?_⟩; gi_at_call 114; refine (callsIn_wide.2 (digitOf_any c _ hc256)).mono ?_; rintro e w2 ⟨rfl, rfl⟩)
            | (refine ⟨trivial, ?_⟩; gi_at_call 60; refine (callsIn_wide.2 (demand_ok _ _ _ (by first | rfl | (simp; omega)))).mono ?_; rintro e w2 ⟨rfl, rfl⟩))
          exact ⟨⟨j + 1, by omega, by go_num⟩, by simp [intOf]; omega⟩
    · have e0 := hcut rfl
      simp only [if_true] at hi0
      clear hsame hcut hn45
      have hs0 : (s.size : Int) = (t.size : Int) + 1 := by have := HL.out.2.2.2; simp at this; omega
      have hss : decide ((0 : Int) < (s.size : Int)) = true := by simp; omega
      gi_wp2_with (refine ⟨trivial, ?_⟩; gi_at_call 60; refine (callsIn_wide.2 (demand_ok _ _ _ (by first | rfl | (simp; omega)))).mono ?_; rintro e w2 ⟨rfl, rfl⟩)
      clear hi0 hspos
      rw [HW.out]
      gi_loop [27] (fun i => ∃ j : Nat, j ≤ p ∧ i = .int .i64 j) (fun i => l.length - (intOf i).toNat)
      case atStart => exact ⟨0, Nat.zero_le _, rfl⟩
      case round =>
        obtain ⟨j, hj, rfl⟩ := hrel
        have hjl : j < l.length := by omega
        have hix := fun W => index_string t j l HL.out.1 hjl W
        obtain ⟨c, hc⟩ : ∃ c, (l[j]'hjl).toNat = c := ⟨_, rfl⟩
        have hc256 : c < 256 := by rw [← hc]; exact (l[j]'hjl).toNat_lt
        rw [hc] at hix
        by_cases hjp : j = p
        · have hcd : ¬ digitVal c < b := by subst hjp; rw [← hc]; exact HB.out.1
          have hdd : decide (((digitVal c : Nat) : Int) < (b : Int)) = false := by simp; omega
          have HJ := Lib.hid hjp
          clear hc hjp
          gi_wp2_with (first
            | (refine ⟨trivial, ?_⟩; gi_at_call 114; refine (callsIn_wide.2 (digitOf_any c _ hc256)).mono ?_; rintro e w2 ⟨rfl, rfl⟩)
            | (refine ⟨trivial, ?_⟩; gi_at_call 60; refine (callsIn_wide.2 (demand_no _ _ _ (by first | rfl | (simp; omega)))).mono ?_; rintro e w2 ⟨rfl, rfl⟩))
          exact ⟨b0, rfl⟩
        · have hcd : digitVal c < b := by rw [← hc]; exact HB.out.2 j (by omega)
          have hdd : decide (((digitVal c : Nat) : Int) < (b : Int)) = true := by simp; omega
          clear hc
          gi_wp2_with (first
            | (refine ⟨trivial, ?_⟩; gi_at_call 114; refine (callsIn_wide.2 (digitOf_any c _ hc256)).mono ?_; rintro e w2 ⟨rfl, rfl⟩)
            | (refine ⟨trivial, ?_⟩; gi_at_call 60; refine (callsIn_wide.2 (demand_ok _ _ _ (by first | rfl | (simp; omega)))).mono ?_; rintro e w2 ⟨rfl, rfl⟩))
          exact ⟨⟨j + 1, by omega, by go_num⟩, by simp [intOf]; omega⟩
end Go.Proofs.YtlghjfpkfdnfoaaDoor

/- num.Text, num.Parse for all arguments -/
namespace Go.Proofs.YtlghjfpkfdnfoaaDoor
open Go Go.RowKit Go.Shelf

/-- what Text answers -/
def TextOut (fa na : Bool) (base : Int) (A : Nat) (k : Int) (v : Value) : Prop :=
  if fa = true ∧ 2 ≤ base ∧ base ≤ 36 then k = 0 ∧ ∃ s : ByteArray, v = .string s ∧ s.data.toList.map (·.toNat) = textOf na base.toNat A else k = 1 ∧ v = .string ByteArray.empty
/-- what Parse answers -/
def ParseOut (base : Int) (neg : Bool) (l : List UInt8) (k : Int) (W : World) (v : Value) : Prop :=
  if 2 ≤ base ∧ base ≤ 36 then (if l = [] ∨ ¬ ∀ c ∈ l, digitVal c.toNat < base.toNat then k = 2 ∧ v = zeroInt else k = 0 ∧ IsInt W v (sgn neg (numBE base.toNat l))) else k = 1 ∧ v = zeroInt

set_option maxHeartbeats 1000000 in
set_option maxRecDepth 100000 in
theorem text1_no (B : Nat) (na : Bool) (aa : Option Addr) (ca : Nat) (xa : List Nat) (base : Int) (w : World) (hra : RowAt w B 24 [.bool na, .slice aa xa.length ca]) (hrn : RowAt w (B + 1) 3 [.int .i64 base])
    (ha : Reads .u32 w (.slice aa xa.length ca) xa) (hla : Limbs xa) (h : formedB na xa = false ∨ base < 2 ∨ 36 < base) :
    Calls Tryd.prog 86 #[.pointer (some ⟨B, 0, none⟩), .pointer (some ⟨B + 1, 0, none⟩), .pointer (some ⟨B + 2, 0, none⟩)] w fun e w' => Below w.heap.size w w' ∧ e = .panicked [{ v := .iface 27 (.int .i64 1), recovered := false }] := by
  have a0 := hra.cell 0
  have a1 := hra.cell 1
  simp only [List.getElem?_cons_zero, List.getElem?_cons_succ] at a0 a1
  have r0' := RowAt.new w 24 [.bool na, .slice aa xa.length ca]
  have bw := (Below.refl w.heap.size w).alloc (Nat.le_refl _) (.cells #[.bool na, .slice aa xa.length ca] 24)
  cases fa : formedB na xa with
  | false =>
    clear h
    go_enter Tryd.func86, Tryd.ntmps86
    go_wp2_with (go_at_call 59; refine (demand1_no _ na aa ca xa _ r0' (ha.below bw) hla fa).mono ?_; rintro e w1 ⟨hbe1, rfl⟩; have bw1 := bw.trans (hbe1.mono (by simp)))
    exact ⟨rfl, bw1, rfl⟩
  | true =>
    have hbd : base < 2 ∨ 36 < base := by rw [fa] at h; exact h.resolve_left (by simp)
    have HB := Lib.hid hbd
    clear h hbd
    go_enter Tryd.func86, Tryd.ntmps86
    go_wp2_with (first
      | (go_at_call 59; refine (demand1_ok _ _ aa ca xa _ r0' (ha.below bw) hla fa).mono ?_; rintro e w1 ⟨hbe1, rfl⟩; have bw1 := bw.trans (hbe1.mono (by simp)); have p1 := (hrn.below bw1).cell 0; simp only [List.getElem?_cons_zero] at p1)
      | (go_at_call 87; refine (demandBase_no _ _ HB.out).mono ?_; rintro e w2 ⟨rfl, rfl⟩))
    exact ⟨rfl, bw1, rfl⟩

theorem Text_any (va : Value) (na : Bool) (xa : List Nat) (base : Int) (w : World) (ha : IntAt w va na xa) (hT : DigitsAt w) :
    Calls Tryd.prog 46 #[va, .int .i64 base] w fun e w' => Below w.heap.size w w' ∧ ∃ s k, e = .returned (.tuple #[.string s, .int .i64 k]) ∧ TextOut (formedB na xa) na base (val xa) k (.string s) := by
  by_cases hc : formedB na xa = true ∧ 2 ≤ base ∧ base ≤ 36
  · obtain ⟨fa, h2, h36⟩ := hc
    obtain ⟨b, rfl⟩ := Int.eq_ofNat_of_zero_le (show 0 ≤ base by omega)
    refine (Text_ok va na xa b w ha fa (by omega) (by omega) hT).mono ?_
    rintro e w' ⟨h1, s, rfl, hs⟩
    refine ⟨h1, s, 0, rfl, ?_⟩
    unfold TextOut
    rw [if_pos ⟨fa, h2, h36⟩]
    exact ⟨rfl, s, rfl, hs⟩
  · refine (Text_of va na xa base w ha (fun k _ v => k = 1 ∧ v = .string ByteArray.empty) (fun _ _ _ _ h _ => h) ?_).mono ?_
    · intro B aa ca W4 hb4 hra hrn hrr hrd he
      obtain ⟨va', he', _, hl⟩ := ha
      refine (text1_no B na aa ca xa base W4 hra hrn hrd hl ?_).mono ?_
      · cases f : formedB na xa with
        | false => exact .inl rfl
        | true => exact .inr (by rw [f] at hc; simp at hc; omega)
      · rintro e W ⟨hbe, rfl⟩
        exact ⟨1, .inr rfl, (Chg.refl _ W4).thenBelow hbe, ByteArray.empty, hrr.below hbe, rfl, rfl⟩
    · rintro e W ⟨hbe, r0, k, rfl, rfl, rfl⟩
      refine ⟨hbe, _, _, rfl, ?_⟩
      unfold TextOut
      rw [if_neg hc]
      exact ⟨rfl, rfl⟩

set_option maxHeartbeats 1000000 in
set_option maxRecDepth 100000 in
theorem Parse_no (s : ByteArray) (base : Int) (neg : Bool) (l : List UInt8) (k0 : Int) (w : World) (hin : ParseIn s neg l) (hlen : l.length ≤ 400)
    (h : (k0 = 1 ∧ (base < 2 ∨ 36 < base)) ∨ (k0 = 2 ∧ (2 ≤ base ∧ base ≤ 36) ∧ (l = [] ∨ ¬ ∀ c ∈ l, digitVal c.toNat < base.toNat))) :
    Calls Tryd.prog 48 #[.string s, .int .i64 base] w fun e w' => Below w.heap.size w w' ∧ e = .returned (.tuple #[zeroInt, .int .i64 k0]) := by
  refine (Parse_of s base w (fun k W v => k = k0 ∧ v = zeroInt) (fun _ _ _ _ h _ => h) ?_).mono ?_
  · intro B W4 hb4 hrs hrn hrr
    have s0 := hrs.cell 0
    have n0 := hrn.cell 0
    simp only [List.getElem?_cons_zero] at s0 n0
    rcases h with ⟨rfl, h⟩ | ⟨rfl, ⟨h2, h36⟩, h⟩
    · have HB := Lib.hid h
      clear h
      go_enter Tryd.func90, Tryd.ntmps90
      go_wp2_with (go_at_call 87; refine (demandBase_no _ _ HB.out).mono ?_; rintro e w2 ⟨rfl, rfl⟩)
      exact ⟨rfl, 1, .inr rfl, Chg.refl _ _, false, none, 0, 0, hrr, rfl, rfl⟩
    · obtain ⟨b, rfl⟩ := Int.eq_ofNat_of_zero_le (show 0 ≤ base by omega)
      have hpa := fun W => parse_bad s b W neg l hin (by omega) h
      have HP := Lib.hid hpa
      clear hpa h hin
      go_enter Tryd.func90, Tryd.ntmps90
      go_wp2_with (first
        | (go_at_call 87; refine (demandBase_ok _ _ (by omega) (by omega)).mono ?_; rintro e w2 ⟨rfl, rfl⟩)
        | (go_at_call 91; refine (HP.out _).mono ?_; rintro e w3 ⟨hbe3, rfl⟩))
      exact ⟨rfl, 2, .inr rfl, (Chg.refl _ _).thenBelow hbe3, false, none, 0, 0, hrr.below hbe3, rfl, rfl⟩
  · rintro e W ⟨hbe, r0, k, rfl, rfl, rfl⟩
    exact ⟨hbe, rfl⟩

set_option exponentiation.threshold 20000 in
theorem numBE_bound {b : Nat} (hb : b ≤ 36) (l : List UInt8) (h : ∀ c ∈ l, digitVal c.toNat < b) (hl : l.length ≤ 400) : numBE b l < B32 ^ 300 := by
  have h1 := numBE_lt l h
  have h2 : b ^ l.length ≤ 64 ^ l.length := Nat.pow_le_pow_left (by omega) _
  have h3 : 64 ^ l.length ≤ 64 ^ 400 := Nat.pow_le_pow_right (by decide) hl
  have h4 : (64 : Nat) ^ 400 < B32 ^ 300 := by
    rw [B32_pow, show (64 : Nat) = 2 ^ 6 by rfl, ← Nat.pow_mul]
    exact Nat.pow_lt_pow_right (by decide) (by decide)
  exact Nat.lt_of_lt_of_le h1 (Nat.le_trans h2 (Nat.le_trans h3 (Nat.le_of_lt h4)))
theorem Parse_any (s : ByteArray) (base : Int) (neg : Bool) (l : List UInt8) (w : World) (hin : ParseIn s neg l) (hlen : l.length ≤ 400) :
    Calls Tryd.prog 48 #[.string s, .int .i64 base] w fun e w' => Below w.heap.size w w' ∧ ∃ n a m c k, e = .returned (.tuple #[.agg #[.bool n, .slice a m c], .int .i64 k]) ∧ ParseOut base neg l k w' (.agg #[.bool n, .slice a m c]) := by
  by_cases hb : 2 ≤ base ∧ base ≤ 36
  · by_cases hbad : l = [] ∨ ¬ ∀ c ∈ l, digitVal c.toNat < base.toNat
    · refine (Parse_no s base neg l 2 w hin hlen (.inr ⟨rfl, hb, hbad⟩)).mono ?_
      rintro e w' ⟨h1, rfl⟩
      refine ⟨h1, false, none, 0, 0, 2, rfl, ?_⟩
      unfold ParseOut
      rw [if_pos hb, if_pos hbad]
      exact ⟨rfl, rfl⟩
    · obtain ⟨b, rfl⟩ := Int.eq_ofNat_of_zero_le (show 0 ≤ base by omega)
      have h1 : l ≠ [] := fun h => hbad (.inl h)
      have h2 : ∀ c ∈ l, digitVal c.toNat < b := Classical.byContradiction fun h => hbad (.inr h)
      refine (Parse_ok s b w (by omega) (by omega) neg l hin.bytes h1 (by omega) h2 (numBE_bound (by omega) l h2 hlen)).mono ?_
      rintro e w' ⟨g1, v, rfl, hI⟩
      obtain ⟨n, a, m, c, rfl⟩ := hI.shape
      refine ⟨g1, n, a, m, c, 0, rfl, ?_⟩
      unfold ParseOut
      rw [if_pos hb, if_neg hbad]
      exact ⟨rfl, hI⟩
  · refine (Parse_no s base neg l 1 w hin hlen (.inl ⟨rfl, by omega⟩)).mono ?_
    rintro e w' ⟨h1, rfl⟩
    refine ⟨h1, false, none, 0, 0, 1, rfl, ?_⟩
    unfold ParseOut
    rw [if_neg hb]
    exact ⟨rfl, rfl⟩

end Go.Proofs.YtlghjfpkfdnfoaaDoor

/- zermeloref01.short -/
namespace Go.Proofs.YtlghjfpkfdnfoaaDoor
open Go Go.RowKit Go.Shelf

/-- a quotient and a rest, as the specification returns them -/
def PartsOut (W : World) (e : Ending) (q r : Int) : Prop := ∃ n1 a1 m1 c1 n2 a2 m2 c2, e = .returned (.agg #[.bool n1, .slice a1 m1 c1, .bool n2, .slice a2 m2 c2]) ∧ IsInt W (.agg #[.bool n1, .slice a1 m1 c1]) q ∧ IsInt W (.agg #[.bool n2, .slice a2 m2 c2]) r
/-- what a walk of short keeps -/
structure RshS (w : World) (q : List Nat) (W : World) : Prop where
  r : RowAt W w.heap.size 48 [.bool false, .slice none 0 0, .bool false, .slice none 0 0]
  o : RowAt W (w.heap.size + 1) 72 (enc32 q)
  chg : Below w.heap.size w W
theorem RshS.set {w : World} {q : List Nat} {W : World} (h : RshS w q W) (i z : Nat) : RshS w (q.set i z) (W.setCell ⟨w.heap.size + 1, i, none⟩ (.int .u32 (z : Int))) :=
  ⟨h.r.other (show w.heap.size ≠ w.heap.size + 1 by omega) _, by rw [enc32_set]; exact h.o.set i _, h.chg.setCell (show w.heap.size ≤ w.heap.size + 1 by omega) _⟩
theorem row4_keep {W : World} {b : Nat} {t : TypeId} {n0 n1 : Bool} {a0 a1 : Option Addr} {m0 c0 m1 c1 : Nat} (q : RowAt W b t [.bool n0, .slice a0 m0 c0, .bool n1, .slice a1 m1 c1]) (x y z u : Value) :
    ∀ v xs, Reads .u32 W v xs → Reads .u32 ((((W.setCell ⟨b, 0, none⟩ x).setCell ⟨b, 1, none⟩ y).setCell ⟨b, 2, none⟩ z).setCell ⟨b, 3, none⟩ u) v xs := fun _ _ h =>
  (((h.setOther (c := .bool n0) (q.cell 0) (by simp) x).setOther (c := .slice a0 m0 c0) ((q.set 0 x).cell 1) (by simp) y).setOther (c := .bool n1) (((q.set 0 x).set 1 y).cell 2) (by simp) z).setOther (c := .slice a1 m1 c1) ((((q.set 0 x).set 1 y).set 2 z).cell 3) (by simp) u

set_option maxHeartbeats 2000000 in
set_option maxRecDepth 100000 in
theorem rshort_any (va : Value) (xa : List Nat) (d : Nat) (w : World) (ha : Reads .u32 w va xa) (hla : Limbs xa) (la : xa.length ≤ 100000) (hd0 : 0 < d) (hd : d < B32) :
    Calls Tryd.prog 89 #[va, .int .u32 (d : Int)] w fun e w' => Below w.heap.size w w' ∧ PartsOut w' e ((val xa / d : Nat) : Int) ((val xa % d : Nat) : Int) := by
  obtain ⟨aa, ca, rfl, hca, hma⟩ := ha.form
  have hmk : ∀ W, (Instr.makeSlice 22 (.int .i64 (xa.length : Int)) (.int .i64 (xa.length : Int))).run Tryd.prog W = .ok (.slice (some ⟨W.heap.size, 0, none⟩) xa.length xa.length) (W.alloc (.cells (zeros xa.length) 72)) := fun W => by
    simpa using make_limbs (xa.length : Int) (xa.length : Int) (by omega) (by omega) (by omega) W
  have hstart : RshS w (dlFold xa.length d (backPairs xa 0)).1 ((w.alloc (.cells #[.bool false, .slice none 0 0, .bool false, .slice none 0 0] 48)).alloc (.cells (zeros xa.length) 72)) := by
    have b1 := (Below.refl w.heap.size w).alloc (Nat.le_refl _) (.cells #[.bool false, .slice none 0 0, .bool false, .slice none 0 0] 48)
    have b2 := b1.alloc b1.size (.cells (zeros xa.length) 72)
    refine ⟨(RowAt.new w 48 [.bool false, .slice none 0 0, .bool false, .slice none 0 0]).alloc _, ?_, b2⟩
    have e : (enc32 (dlFold xa.length d (backPairs xa 0)).1).toArray = zeros xa.length := by simp [dlFold, backPairs, enc32, zeros]
    have := RowAt.new (w.alloc (.cells #[.bool false, .slice none 0 0, .bool false, .slice none 0 0] 48)) 72 (enc32 (dlFold xa.length d (backPairs xa 0)).1)
    rw [e] at this
    exact RowAt.at this (by simp)
  have HS := Lib.hid hstart
  clear hstart
  have hdz : ¬ (d : Int) = 0 := by omega
  have hdw : IntKind.u64.wrap (d : Int) = (d : Int) := by rw [IntKind.wrap_u64]; unfold B32 at hd; omega
  go_enter Tryd.func89, Tryd.ntmps89
  go_wp2_with fail
  generalize hW0 : (w.alloc (.cells #[.bool false, .slice none 0 0, .bool false, .slice none 0 0] 48)).alloc (.cells (zeros xa.length) 72) = W0 at *
  clear hW0 hmk
  go_loopw [6, 7] (fun s6 s7 W => ∃ j : Nat, j ≤ xa.length ∧ s7 = .int .i64 ((xa.length : Int) - 1 - j) ∧ s6 = .int .u64 ((dlFold xa.length d (backPairs xa j)).2 : Int) ∧ RshS w (dlFold xa.length d (backPairs xa j)).1 W) (fun _ s7 _ => (intOf s7 + 1).toNat)
  case atStart => exact ⟨0, Nat.zero_le _, by simp, by simp [dlFold, backPairs], HS.out⟩
  case round =>
    obtain ⟨j, hj, rfl, rfl, hS⟩ := hrel
    have hps : ∀ p ∈ backPairs xa j, p.2 < B32 := fun p hp => by
      obtain ⟨q, _, rfl⟩ := List.mem_map.1 hp
      exact limb_getD hla _
    obtain ⟨hq1, hr1⟩ := dlFold_limbs xa.length hd0 (backPairs xa j) hps
    have hlen := dlFold_length xa.length d (backPairs xa j)
    by_cases hlt : j < xa.length
    · obtain ⟨k, hk⟩ : ∃ k, xa.length = j + 1 + k := ⟨xa.length - (j + 1), by omega⟩
      have hki : (xa.length : Int) - 1 - (j : Int) = (k : Int) := by omega
      have hnext : dlFold xa.length d (backPairs xa (j + 1)) = dlStep d (dlFold xa.length d (backPairs xa j)) (k, xa[k]?.getD 0) := by
        rw [backPairs_succ, dlFold_snoc, show xa.length - 1 - j = k by omega]
      rw [hki]
      generalize dlFold xa.length d (backPairs xa j) = st at *
      obtain ⟨q, r⟩ := st
      dsimp only at *
      simp only [dlStep] at hnext
      have hkl : k < xa.length := by omega
      have hA := ha.below hS.chg
      have ia := fun W => hA.index und_limbs size_limb (P := Tryd.prog) k .i64 W hkl
      have ca1 := hA.cell k hkl
      have hxb := limb_getD hla k
      obtain ⟨x, hx⟩ : ∃ x, xa[k]?.getD 0 = x := ⟨_, rfl⟩
      rw [hx] at ca1 hxb hnext
      have hdb := dl_bound hr1 hxb
      have hcell : ∃ z : Value, wr.cell? ⟨w.heap.size + 1, k, none⟩ = some z := by
        rw [hS.o.cell]
        exact ⟨_, enc32_at (by omega)⟩
      obtain ⟨z, hcell⟩ := hcell
      have hfz := hS.o.frozen k
      have ir := fun W => index_win (w.heap.size + 1) 0 xa.length xa.length k (by omega) .i64 W
      simp only [Nat.zero_add] at ir
      obtain ⟨P, hP⟩ : ∃ P, r * B32 = P := ⟨_, rfl⟩
      obtain ⟨T, hT⟩ : ∃ T, P + x = T := ⟨_, rfl⟩
      rw [hP, hT] at hnext hdb
      obtain ⟨Q, hQ⟩ : ∃ Q, T / d = Q := ⟨_, rfl⟩
      obtain ⟨R, hR⟩ : ∃ R, T % d = R := ⟨_, rfl⟩
      rw [hQ, hR] at hnext
      rw [hQ] at hdb
      have hRd : R < d := by rw [← hR]; exact Nat.mod_lt _ hd0
      have hTq : (T : Int) / (d : Int) = (Q : Int) := by rw [← hQ]; exact (Int.natCast_ediv T d).symm
      have hTm : (T : Int) % (d : Int) = (R : Int) := by rw [← hR]; exact (Int.natCast_emod T d).symm
      unfold B32 at hP hxb hdb hd
      have hPB : P ≤ 4294967294 * 4294967296 := by rw [← hP]; exact Nat.mul_le_mul_right _ (by omega)
      have hmul : IntKind.u64.wrap ((r : Int) * 4294967296) = (P : Int) := by rw [← hP, IntKind.wrap_u64]; omega
      have hs1 : IntKind.u64.wrap ((P : Int) + (x : Int)) = (T : Int) := by rw [IntKind.wrap_u64]; omega
      have hw1 : IntKind.u64.wrap (x : Int) = (x : Int) := by rw [IntKind.wrap_u64]; omega
      have hw2 : IntKind.u64.wrap (Q : Int) = (Q : Int) := by rw [IntKind.wrap_u64]; omega
      have hw3 : IntKind.u32.wrap (Q : Int) = (Q : Int) := by rw [IntKind.wrap_u32']; omega
      have hw4 : IntKind.u64.wrap (R : Int) = (R : Int) := by rw [IntKind.wrap_u64]; omega
      have HN := Lib.hid (And.intro hnext (And.intro hk (And.intro hki hlen)))
      clear hnext hk hki hlen hP hT hQ hR hx hdb hps hxb hPB hd
      go_wp2_with fail
      obtain ⟨hn, hk, hki, hl⟩ := HN.out
      refine ⟨⟨j + 1, by omega, by go_num, ?_, ?_⟩, ?_⟩
      · rw [hn, hTm]
      · rw [hn]
        exact hS.set k Q
      · simp [intOf]
    · obtain rfl : j = xa.length := by omega
      obtain ⟨hv1, hv2⟩ := dlFold_end hd0 hla
      generalize dlFold xa.length d (backPairs xa xa.length) = st at *
      obtain ⟨q, r⟩ := st
      dsimp only at *
      have hneg : (xa.length : Int) - 1 - (xa.length : Int) = -1 := by omega
      rw [hneg]
      have hq6 : q.length ≤ 1000000 := by omega
      have hrd : Reads .u32 wr (.slice (some ⟨w.heap.size + 1, 0, none⟩) xa.length xa.length) q := RowAt.reads hS.o _ _ hlen.symm (Nat.le_refl _) (by unfold maxLen; omega)
      have hw1 : IntKind.u32.wrap (r : Int) = (r : Int) := by rw [IntKind.wrap_u32']; unfold B32 at hd; omega
      have hrB : r < B32 := Nat.lt_trans hr1 hd
      have HV := Lib.hid (And.intro hv1 (And.intro hv2 hrB))
      have hrr := hS.r
      have hchg := hS.chg
      clear hv1 hv2 hlen hps hS hr1 hd hrB
      have m2 := fun (X : World) => made_any false (.slice (some ⟨X.heap.size, 0, none⟩) 1 1) [r] (X.alloc (.cells #[.int .u32 (r : Int)] 72)) (RowAt.reads (RowAt.new X 72 [.int .u32 (r : Int)]) 1 1 rfl (Nat.le_refl _) (by unfold maxLen; omega)) (by simpa [Limbs] using HV.out.2.2) (by simp)
      go_wp2_with (first
        | (go_at_call 65; with_reducible refine (made_any _ _ q _ hrd hq1 hq6).mono ?_; rintro e w5 ⟨hb5, v5, rfl, hI⟩; obtain ⟨n5, a5, m5, c5, rfl⟩ := hI.shape; have hr5 := hrr.below hb5)
        | (go_at_call 65; with_reducible refine (m2 _).mono ?_; rintro e w6 ⟨hb6, v6, rfl, hJ⟩; obtain ⟨n6, a6, m6, c6, rfl⟩ := hJ.shape; have g6 := ((Below.refl _ w5).alloc (Nat.le_refl _) (.cells #[.int .u32 (r : Int)] 72)).trans (hb6.mono (by simp)); have hr6 := hr5.below g6; have q1 := hr6.cell 0; have q2 := hr6.cell 1; have q3 := hr6.cell 2; have q4 := hr6.cell 3; have f1 := hr6.frozen 0; have f2 := hr6.frozen 1; have f3 := hr6.frozen 2; have f4 := hr6.frozen 3; simp only [List.getElem?_cons_zero, List.getElem?_cons_succ] at q1 q2 q3 q4))
      have q5 := (((hr6.set 0 (.bool n5)).set 1 (.slice a5 m5 c5)).set 2 (.bool n6)).set 3 (.slice a6 m6 c6)
      have u1 := q5.cell 0
      have u2 := q5.cell 1
      have u3 := q5.cell 2
      have u4 := q5.cell 3
      simp only [List.set_cons_zero, List.set_cons_succ, List.getElem?_cons_zero, List.getElem?_cons_succ] at u1 u2 u3 u4
      have b5 := hchg.trans (hb5.mono hchg.size)
      have b9 := b5.trans (g6.mono b5.size)
      obtain ⟨hv1, hv2, -⟩ := HV.out
      have hk := row4_keep hr6 (.bool n5) (.slice a5 m5 c5) (.bool n6) (.slice a6 m6 c6)
      refine bodyPost_ret (v := .agg #[.bool n5, .slice a5 m5 c5, .bool n6, .slice a6 m6 c6]) (by simp [results, Tryd.results89, go_sem, loadCellsFrom, u1, u2, u3, u4]) rfl ⟨(((b9.setCell (Nat.le_refl _) _).setCell (Nat.le_refl _) _).setCell (Nat.le_refl _) _).setCell (Nat.le_refl _) _, n5, a5, m5, c5, n6, a6, m6, c6, rfl, ?_, ?_⟩
      · rw [← hv1]
        exact (hI.below g6).keep hk
      · rw [← hv2]
        have : sgn false (val [r]) = (r : Int) := by simp [sgn, val]
        rw [this] at hJ
        exact hJ.keep hk
end Go.Proofs.YtlghjfpkfdnfoaaDoor

/- zermeloref01.made: its limbs are new -/
namespace Go.Proofs.YtlghjfpkfdnfoaaDoor
open Go Go.RowKit Go.Shelf

/-- an integer whose limbs lie in memory that was not there -/
def FreshV (w : World) (v : Value) : Prop := ∀ n a m c, v = .agg #[.bool n, .slice (some a) m c] → w.heap.size ≤ a.block
theorem fresh_mk {w : World} {n : Bool} {g m c : Nat} (h : w.heap.size ≤ g) : FreshV w (.agg #[.bool n, .slice (some ⟨g, 0, none⟩) m c]) := by
  intro n' a m' c' e
  simp only [Value.agg.injEq, Array.mk.injEq, List.cons.injEq, Value.bool.injEq, Value.slice.injEq, Option.some.injEq, and_true] at e
  obtain ⟨-, rfl, -, -⟩ := e
  exact h

set_option maxHeartbeats 2000000 in
set_option maxRecDepth 100000 in
theorem made_fresh (neg : Bool) (v : Value) (xs : List Nat) (w : World) (h : Reads .u32 w v xs) (hl : Limbs xs) (hn : xs.length ≤ 1000000) :
    Calls Tryd.prog 65 #[.bool neg, v] w fun e w' => Below w.heap.size w w' ∧ ∃ v', e = .returned v' ∧ IsInt w' v' (sgn neg (val xs)) ∧ FreshV w v' := by
  obtain ⟨a, c, rfl, hc, hm⟩ := h.form
  unfold maxLen at hm
  obtain ⟨inf, hi, hzz⟩ := Option.map_eq_some_iff.1 info_limb
  simp only [Prod.mk.injEq] at hzz
  obtain ⟨hz0, hz1, hz2⟩ := hzz
  have HZ := Lib.hid (And.intro hz0 (And.intro hz1 hz2))
  clear hz0 hz1 hz2
  have b0 := (Below.refl w.heap.size w).alloc (Nat.le_refl _) (.cells #[.bool false, .slice none 0 0] 24)
  have r0 := RowAt.new w 24 [.bool false, .slice none 0 0]
  have h0 := h.below b0
  obtain ⟨W0, hW0⟩ : ∃ W0, w.alloc (.cells #[.bool false, .slice none 0 0] 24) = W0 := ⟨_, rfl⟩
  have hs0 : W0.heap.size = w.heap.size + 1 := by rw [← hW0]; simp
  rw [hW0] at b0 r0 h0
  have HW := Lib.hid (And.intro hW0 hs0)
  have hst : ∀ (x : Addr) (W : World), (storeCells x []).run Tryd.prog W = .ok () W := fun x W => by simp [storeCells]
  have hrun0 : ∀ (x : Addr) (W : World), (loadCellsFrom x 0 0 #[]).run Tryd.prog W = .ok #[] W := fun x W => by simp [loadCellsFrom]
  clear hW0 hs0
  go_enter Tryd.func65, Tryd.ntmps65
  go_wp2
  rw [HW.out.1]
  go_loop [5] (fun i => ∃ k : Nat, i = .int .i64 k ∧ k ≤ xs.length ∧ trimmed (xs.take k) = trimmed xs) (fun i => (intOf i).toNat)
  case atStart => exact ⟨xs.length, rfl, Nat.le_refl _, by simp⟩
  case round =>
    obtain ⟨k, rfl, hk, htk⟩ := hrel
    by_cases hk0 : k = 0
    · subst hk0
      have ht : trimmed xs = [] := by rw [← htk]; rfl
      have hs1 := HW.out.2
      have HT := Lib.hid (And.intro ht hs1)
      have rr := r0.alloc (.cells #[] 72)
      have o1 := rr.cell 0
      have o2 := rr.cell 1
      have o3 := rr.frozen 0
      have o4 := rr.frozen 1
      simp only [List.getElem?_cons_zero, List.getElem?_cons_succ] at o1 o2
      have hng : (neg && decide ((0 : Int) < 0)) = false := by simp
      clear ht hs1 htk
      cases a
      all_goals cases neg
      all_goals go_wp2
      all_goals
        obtain ⟨s1, s2⟩ := two_reads (b := w.heap.size) o1 o2 (.bool false) (.slice (some ⟨W0.heap.size, 0, none⟩) 0 0)
        refine bodyPost_ret (v := .agg #[.bool false, .slice (some ⟨W0.heap.size, 0, none⟩) 0 0]) (by simp [results, Tryd.results65, go_sem, loadCellsFrom, s1, s2]) rfl ⟨?_, _, rfl, ⟨false, _, [], rfl, ⟨_, 0, rfl, by simp, by simp [maxLen], fun j hj => by simp at hj⟩, canon_nil, rfl, ?_⟩, fresh_mk (by have := HW.out.2; omega)⟩
        · exact ((b0.alloc (by have := HW.out.2; omega) _).setCell (Nat.le_refl _) _).setCell (Nat.le_refl _) _
        · rw [← val_trimmed, HT.out.1]; first | done | rfl
    · have HA := Lib.hid h0
      have hlast := h0.cell (k - 1) (by omega)
      have hix := fun W => h0.index und_limbs size_limb (P := Tryd.prog) (k - 1) .i64 W (by omega)
      rw [show ((k - 1 : Nat) : Int) = (k : Int) - 1 by omega] at hix
      obtain ⟨top, hT⟩ : ∃ top, xs[k - 1]?.getD 0 = top := ⟨_, rfl⟩
      rw [hT] at hlast
      have hkd : ((0 : Int) < (k : Int)) := by omega
      have htk1 : trimmed (xs.take k) = if top = 0 then trimmed (xs.take (k - 1)) else xs.take k := by
        have e := take_succ_getD xs (k - 1) (by omega)
        rw [show k - 1 + 1 = k by omega, hT] at e
        rw [e]
        by_cases ht0 : top = 0
        · subst ht0; rw [if_pos rfl, trimmed_snoc_zero]
        · rw [if_neg ht0, trimmed_snoc _ _ ht0]
      by_cases ht0 : top = 0
      · subst ht0
        rw [if_pos rfl] at htk1
        have HK := Lib.hid (And.intro htk htk1)
        clear htk htk1 hT
        go_wp2
        exact ⟨⟨k - 1, by congr 1; omega, by omega, by rw [← HK.out.2]; exact HK.out.1⟩, by simp [intOf]; omega⟩
      · rw [if_neg ht0] at htk1
        have hne : (((top : Nat) : Int) == 0) = false := by simp; omega
        have HK := Lib.hid (And.intro htk htk1)
        clear htk htk1 hT
        obtain ⟨b, off, rfl⟩ : ∃ b off, a = some ⟨b, off, none⟩ := by
          obtain ⟨a', cap', he, _, _, hr⟩ := h0
          cases he
          exact (hr 0 (by omega)).1
        have hw0 : W0.heap.size = w.heap.size + 1 := HW.out.2
        have hlen : (xs.take k).length = k := by simp; omega
        have hnews : ∀ j u, (enc32 (xs.take k))[j]? = some u → (W0.alloc (.cells #[] 72)).cell? ((⟨b, off, none⟩ : Addr).add j) = some u := by
          intro j u hu
          have hj : j < k := by
            have := (List.getElem?_eq_some_iff.1 hu).1
            rw [enc32_length, hlen] at this
            exact this
          have h1 := (h0.below ((Below.refl _ W0).alloc (Nat.le_refl _) (.cells #[] 72))).cell j (by omega)
          rw [lookAt_some] at h1
          rw [Addr.add_lit, h1]
          simp only [enc32, List.getElem?_map, List.getElem?_take, hj, if_true] at hu
          simp [List.getElem?_eq_getElem (show j < xs.length by omega)] at hu ⊢
          exact hu
        have hnl : (enc32 (xs.take k)).length = k * 1 := by rw [enc32_length, hlen]; omega
        have hone : ∀ u ∈ enc32 (xs.take k), u.oneCell' = true := fun u hu => by
          obtain ⟨x, _, rfl⟩ := List.mem_map.1 hu
          rfl
        have hown0 := World.ownsRow_made (e := 72) (size := 1) (base := W0.heap.size) W0 #[] 0 (Nat.le_refl _) (by simp [maxLen]) rfl
        have HN := Lib.hid (And.intro hnews (And.intro hnl hone))
        have HS := Lib.hid (And.intro hw0 (And.intro hlen hown0))
        have hk0' : decide ((0 : Int) < (k : Int)) = true := by simp; omega
        clear hnews hnl hone hlen hown0 hw0
        cases neg
        · go_wp2_with (at_builtin; go_loud (refine wpList_append_own _ rfl _ _ 22 rfl W0.heap.size 72 inf (.int .u32 0) 1 4 und_limbs hi HZ.out.1 HZ.out.2.1 HZ.out.2.2 rfl (by decide) _ _ _ rfl HS.out.2.2 ⟨b, off, none⟩ k c (enc32 (xs.take k)) rfl HN.out.2.1 HN.out.1 HN.out.2.2 (by unfold maxLen; omega) (by omega) (by simp) ?_); intro v' w1 hown' hgrow _; obtain ⟨g, c1, rfl, hc1, hm1⟩ := own_form_pos hown' (by omega); have hb1 : Below W0.heap.size W0 w1 := ((Below.refl _ W0).alloc (Nat.le_refl _) _).grown hgrow (by simp) (fun k e => by cases e; exact Nat.le_refl _); have rr := r0.below hb1; have o1 := rr.cell 0; have o2 := rr.cell 1; have o3 := rr.frozen 0; have o4 := rr.frozen 1; simp only [List.getElem?_cons_zero, List.getElem?_cons_succ] at o1 o2)
          obtain ⟨s1, s2⟩ := two_reads (b := w.heap.size) o1 o2 (.bool false) (.slice (some ⟨g, 0, none⟩) k c1)
          have hrd0 : Reads .u32 w1 (.slice (some ⟨g, 0, none⟩) (0 + k) c1) (xs.take k) := Reads.ofOwn (by simpa [enc32] using hown')
          rw [Nat.zero_add] at hrd0
          have hrd := two_kept (b := w.heap.size) hrd0 o1 o2 (.bool false) (.slice (some ⟨g, 0, none⟩) k c1)
          have hcan : Canon (xs.take k) := ⟨limbs_take hl k, HK.out.2⟩
          have hval : val (xs.take k) = val xs := by rw [← HK.out.2, HK.out.1, val_trimmed]
          refine bodyPost_ret (v := .agg #[.bool false, .slice (some ⟨g, 0, none⟩) k c1]) (by simp [results, Tryd.results65, go_sem, loadCellsFrom, s1, s2]) rfl ⟨?_, _, rfl, ⟨false, _, xs.take k, rfl, hrd, hcan, by simp [HS.out.2.1]; try omega, by rw [hval]⟩, fresh_mk (by have := (hown'.lt g rfl).1; have := HS.out.1; omega)⟩
          exact (((b0.trans (hb1.mono b0.size))).setCell (Nat.le_refl _) _).setCell (Nat.le_refl _) _
        · go_wp2_with (at_builtin; go_loud (refine wpList_append_own _ rfl _ _ 22 rfl W0.heap.size 72 inf (.int .u32 0) 1 4 und_limbs hi HZ.out.1 HZ.out.2.1 HZ.out.2.2 rfl (by decide) _ _ _ rfl HS.out.2.2 ⟨b, off, none⟩ k c (enc32 (xs.take k)) rfl HN.out.2.1 HN.out.1 HN.out.2.2 (by unfold maxLen; omega) (by omega) (by simp) ?_); intro v' w1 hown' hgrow _; obtain ⟨g, c1, rfl, hc1, hm1⟩ := own_form_pos hown' (by omega); have hb1 : Below W0.heap.size W0 w1 := ((Below.refl _ W0).alloc (Nat.le_refl _) _).grown hgrow (by simp) (fun k e => by cases e; exact Nat.le_refl _); have rr := r0.below hb1; have o1 := rr.cell 0; have o2 := rr.cell 1; have o3 := rr.frozen 0; have o4 := rr.frozen 1; simp only [List.getElem?_cons_zero, List.getElem?_cons_succ] at o1 o2)
          obtain ⟨s1, s2⟩ := two_reads (b := w.heap.size) o1 o2 (.bool true) (.slice (some ⟨g, 0, none⟩) k c1)
          have hrd0 : Reads .u32 w1 (.slice (some ⟨g, 0, none⟩) (0 + k) c1) (xs.take k) := Reads.ofOwn (by simpa [enc32] using hown')
          rw [Nat.zero_add] at hrd0
          have hrd := two_kept (b := w.heap.size) hrd0 o1 o2 (.bool true) (.slice (some ⟨g, 0, none⟩) k c1)
          have hcan : Canon (xs.take k) := ⟨limbs_take hl k, HK.out.2⟩
          have hval : val (xs.take k) = val xs := by rw [← HK.out.2, HK.out.1, val_trimmed]
          refine bodyPost_ret (v := .agg #[.bool true, .slice (some ⟨g, 0, none⟩) k c1]) (by simp [results, Tryd.results65, go_sem, loadCellsFrom, s1, s2]) rfl ⟨?_, _, rfl, ⟨true, _, xs.take k, rfl, hrd, hcan, by simp [HS.out.2.1]; try omega, by rw [hval]⟩, fresh_mk (by have := (hown'.lt g rfl).1; have := HS.out.1; omega)⟩
          exact (((b0.trans (hb1.mono b0.size))).setCell (Nat.le_refl _) _).setCell (Nat.le_refl _) _


end Go.Proofs.YtlghjfpkfdnfoaaDoor
