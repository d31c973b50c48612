/- integers by their values: Of, Same, Formed, Div, Pow, Gcd -/
import Derived.Test.YtlghjfpkfdnfoaaGreatDoorNumMGcd
import Derived.Test.YtlghjfpkfdnfoaaGreatDoorNumMKnuth
import Derived.Test.YtlghjfpkfdnfoaaGreatDoorNumMFloored
import Derived.Test.YtlghjfpkfdnfoaaGreatDoorNumMHalves
import Derived.Deep.RegionHeld3
namespace Go.Proofs.YtlghjfpkfdnfoaaGreatDoor
open Go Go.RowKit Go.Shelf

theorem rof_int (i : Int) (w : World) (h1 : -9223372036854775808 ≤ i) (h2 : i ≤ 9223372036854775807) :
    Calls Tryz.prog 17 #[.int .i64 i] w fun e w' => Below w.heap.size w w' ∧ ∃ v, e = .returned v ∧ IsInt w' v i := by
  by_cases h : 0 ≤ i
  · obtain ⟨n, rfl⟩ := Int.eq_ofNat_of_zero_le h
    exact rof_nonneg n w (by omega)
  · obtain ⟨n, hn⟩ := Int.eq_ofNat_of_zero_le (show 0 ≤ -i by omega)
    obtain rfl : i = -(n : Int) := by omega
    exact rof_neg n w (by omega) (by omega)
theorem of_int (i : Int) (w : World) (h1 : -9223372036854775808 ≤ i) (h2 : i ≤ 9223372036854775807) :
    Calls Tryz.prog 21 #[.int .i64 i] w fun e w' => Below w.heap.size w w' ∧ ∃ v, e = .returned v ∧ IsInt w' v i := by
  by_cases h : 0 ≤ i
  · obtain ⟨n, rfl⟩ := Int.eq_ofNat_of_zero_le h
    exact Of_nonneg n w (by omega)
  · obtain ⟨n, hn⟩ := Int.eq_ofNat_of_zero_le (show 0 ≤ -i by omega)
    obtain rfl : i = -(n : Int) := by omega
    exact Of_neg n w (by omega) (by omega)

/-- the sign and the limbs of a value are its own -/
theorem sgn_inj {na nb : Bool} {xa xb : List Nat} (ca : Canon xa) (cb : Canon xb) (ha : (na && decide (0 < xa.length)) = na) (hb : (nb && decide (0 < xb.length)) = nb) : sgn na (val xa) = sgn nb (val xb) ↔ na = nb ∧ xa = xb := by
  constructor
  · intro h
    have pa := canon_pos_iff ca
    have pb := canon_pos_iff cb
    have hv : val xa = val xb := by rw [← sgn_natAbs na (val xa), h, sgn_natAbs]
    have hx := canon_inj ca cb hv
    subst hx
    refine ⟨?_, rfl⟩
    cases na <;> cases nb <;> simp_all [sgn]
    all_goals omega
  · rintro ⟨rfl, rfl⟩; rfl
theorem IsInt.at {w : World} {v : Value} {i : Int} (h : IsInt w v i) (hi : i.natAbs < B32 ^ 300) : ∃ neg xs, IntAt w v neg xs ∧ formedB neg xs = true ∧ i = sgn neg (val xs) ∧ Canon xs ∧ (neg && decide (0 < xs.length)) = neg := by
  obtain ⟨neg, va, xs, rfl, hr, hc, hn, rfl⟩ := h
  rw [sgn_natAbs] at hi
  refine ⟨neg, xs, ⟨va, rfl, hr, hc.1⟩, ?_, rfl, hc, hn⟩
  have hl := canon_length_le hc hi
  simp only [formedB, hl, hc.2, decide_true, Bool.true_and]
  cases neg with
  | false => rfl
  | true =>
    simp only [Bool.true_and, decide_eq_true_eq] at hn
    simp only [Bool.true_and, Bool.not_eq_true', decide_eq_false_iff_not]
    omega
theorem IsInt.intAt {w : World} {v : Value} {i : Int} (h : IsInt w v i) : ∃ neg xs, IntAt w v neg xs ∧ i = sgn neg (val xs) ∧ Canon xs ∧ (neg && decide (0 < xs.length)) = neg := by
  obtain ⟨neg, va, xs, rfl, hr, hc, hn, rfl⟩ := h
  exact ⟨neg, xs, ⟨va, rfl, hr, hc.1⟩, rfl, hc, hn⟩

theorem rsame_int (va vb : Value) (i j : Int) (w : World) (ha : IsInt w va i) (hb : IsInt w vb j) :
    Calls Tryz.prog 8 #[va, vb] w fun e w' => Below w.heap.size w w' ∧ e = .returned (.bool (decide (i = j))) := by
  obtain ⟨na, xa, hA, rfl, ca, la⟩ := ha.intAt
  obtain ⟨nb, xb, hB, rfl, cb, lb⟩ := hb.intAt
  refine (rsame_any va vb na nb xa xb w hA hB).mono ?_
  rintro e w' ⟨hbe, rfl⟩
  refine ⟨hbe, ?_⟩
  have h : sameB na nb xa xb = decide (sgn na (val xa) = sgn nb (val xb)) := by
    rw [Bool.eq_iff_iff]
    simp only [sameB, Bool.and_eq_true, decide_eq_true_eq]
    exact (sgn_inj ca cb la lb).symm
  rw [h]

set_option exponentiation.threshold 200000 in
theorem Div_ok (a b : Value) (i j : Int) (Ka Kb : Nat) (hD : DivUpTo Ka Kb) (w : World) (ha : IsInt w a i) (hb : IsInt w b j) (hi : i.natAbs < B32 ^ 300) (hj : j.natAbs < B32 ^ 300) (hiK : i.natAbs < B32 ^ Ka) (hjK : j.natAbs < B32 ^ Kb) (hj0 : j ≠ 0) :
    Calls Tryz.prog 16 #[a, b] w fun e w' => Below w.heap.size w w' ∧ ∃ q r, e = .returned (.tuple #[q, r, .int .i64 0]) ∧ IsInt w' q (i.fdiv j) ∧ IsInt w' r (i.fmod j) := by
  have ha0 := ha
  have hb0 := hb
  obtain ⟨na, xa, haA, fa, ei, ca, la⟩ := ha.at hi
  obtain ⟨nb, xb, hbA, fb, ej, cb, lb⟩ := hb.at hj
  have hxb : xb.length ≠ 0 := by
    intro h
    have : xb = [] := List.eq_nil_of_length_eq_zero h
    subst this
    apply hj0
    rw [ej]
    cases nb <;> rfl
  refine (Div_of a b na nb xa xb w haA hbA (i.fdiv j) (i.fmod j) (fun _ _ _ W hW => ?_)).mono ?_
  · refine floored_any a b i j W (ha0.below hW) (hb0.below hW) (Nat.lt_of_lt_of_le hi (Nat.pow_le_pow_right B32_pos (by omega))) (Nat.lt_of_lt_of_le hj (Nat.pow_le_pow_right B32_pos (by omega))) hj0 (fun va vb ya yb hcy hcz hvy hvz hry hrz W' hW' => ?_)
    exact hD va vb ya yb W' (hry.below hW') (hrz.below hW') hcy hcz (canon_length_le hcy (by rw [hvy]; exact hiK)) (canon_length_le hcz (by rw [hvz]; exact hjK)) (by rw [hvz]; omega)
  · rintro e W ⟨hbe, v1, v2, k, rfl, hd⟩
    simp only [DivOut, fa, fb, Bool.and_self, if_true, if_neg hxb] at hd
    obtain ⟨rfl, h1, h2⟩ := hd
    exact ⟨hbe, v1, v2, rfl, h1, h2⟩

theorem timesUpTo_le {K L : Nat} (h : TimesUpTo L) (hKL : K ≤ L) : TimesUpTo K := by
  intro va vb xa xb w ha hb hla hlb la lb
  exact h va vb xa xb w ha hb hla hlb (by omega) (by omega)
theorem divUpTo_le {Ka Kb La Lb : Nat} (h : DivUpTo La Lb) (h1 : Ka ≤ La) (h2 : Kb ≤ Lb) : DivUpTo Ka Kb := fun va vb xa xb w ha hb hka hkb la lb h0 => h va vb xa xb w ha hb hka hkb (by omega) (by omega) h0

end Go.Proofs.YtlghjfpkfdnfoaaGreatDoor

/- num.Mul where one factor has fewer than 80 limbs -/
namespace Go.Proofs.YtlghjfpkfdnfoaaGreatDoor
open Go Go.RowKit Go.Shelf

set_option exponentiation.threshold 400 in
/-- the three operations of the ring, at values -/
theorem ring_value {fa fb : Bool} {r k : Int} {W : World} {v : Value} (h : RingRes fa fb r k W v) (ha : fa = true) (hb : fb = true) (hr : r.natAbs < B32 ^ 300) : k = 0 ∧ IsInt W v r := by
  unfold RingRes at h
  rw [ha, hb, if_pos (by rfl), if_pos hr] at h
  exact h
end Go.Proofs.YtlghjfpkfdnfoaaGreatDoor

/- num.product and num.Mul at every length -/
namespace Go.Proofs.YtlghjfpkfdnfoaaGreatDoor
open Go Go.RowKit Go.Shelf

set_option maxHeartbeats 1000000 in
set_option maxRecDepth 100000 in
theorem product_any (na nb : Bool) (va vb : Value) (xa xb : List Nat) (w : World) (ha : Reads .u32 w va xa) (hb : Reads .u32 w vb xb) (hla : Limbs xa) (hlb : Limbs xb) (la : xa.length ≤ 40000) (lb : xb.length ≤ 40000) :
    Calls Tryz.prog 85 #[.agg #[.bool na, va], .agg #[.bool nb, vb]] w fun e w' => Below w.heap.size w w' ∧ ∃ v cs, e = .returned (.agg #[.bool ((na != nb) && decide (0 < cs.length)), v]) ∧ Reads .u32 w' v cs ∧ Canon cs ∧ val cs = val xa * val xb := by
  have h0 := twoInts_start (na := na) (nb := nb) ha hb
  obtain ⟨aa, ca, rfl, hca, hma⟩ := ha.form
  obtain ⟨ab, cb, rfl, hcb, hmb⟩ := hb.form
  have H0 := Lib.hid h0
  clear h0
  go_enter Tryz.func85, Tryz.ntmps85
  go_wp2_with fail
  go_region_held3 (fun W => W.cell? ⟨w.heap.size, 0, none⟩ = some (.bool na) ∧ W.cell? ⟨w.heap.size, 1, none⟩ = some (.slice aa xa.length ca) ∧ W.cell? ⟨w.heap.size + 1, 0, none⟩ = some (.bool nb) ∧ W.cell? ⟨w.heap.size + 1, 1, none⟩ = some (.slice ab xb.length cb) ∧ TwoRest w (.slice aa xa.length ca) (.slice ab xb.length cb) xa xb W)
    (first | exact ⟨H0.out.1, H0.out.2.1, H0.out.2.2.1, H0.out.2.2.2.1, H0.out.2.2.2.2.drew⟩ | (go_split_ands; exact twoInts_step (by assumption) (by assumption) (by assumption) (by assumption) (by assumption) (by assumption)) | (go_split_ands; exact twoInts_store (by assumption) (by assumption) (by assumption) (by assumption) (by assumption) _ _ _ _))
    (first | (go_at_call 84; go_split_ands; refine (times_any _ _ xa xb _ (TwoRest.ra (by assumption)) (TwoRest.rb (by assumption)) hla hlb la lb).mono ?_; rintro e w' ⟨hbe, v, cs, rfl, h1, h2, h3⟩; obtain ⟨a3, c3, rfl, hc3, hm3⟩ := h1.form) | (go_at_call 51; go_split_ands; refine (signed_any _ _ _ _ _).mono ?_; rintro e w'' ⟨hbe2, rfl⟩; obtain ⟨u0, u1, u2, u3, q1, q2, q3, q4⟩ := TwoRest.cells (TwoRest.step (by assumption) hbe2)))
  obtain ⟨s1, s2⟩ := two_reads (b := w.heap.size + 1 + 1) q1 q2 (.bool (!na == nb && decide (0 < cs.length))) (.slice a3 cs.length c3)
  have hk := two_kept (b := w.heap.size + 1 + 1) (h1.below hbe2) q1 q2 (.bool (!na == nb && decide (0 < cs.length))) (.slice a3 cs.length c3)
  rename_i hT
  replace hT := hT.2.2.2.2.below
  go_wp2
  refine bodyPost_ret (v := .agg #[.bool (!na == nb && decide (0 < cs.length)), .slice a3 cs.length c3]) (by simp [results, Tryz.results85, go_sem, loadCellsFrom, s1, s2]) rfl ⟨hT, _, cs, ?_, hk, h2, h3⟩
  cases na <;> cases nb <;> rfl

theorem product_all (a b : Value) (i j : Int) (L : Nat) (w : World) (ha : IsInt w a i) (hb : IsInt w b j) (hL : L ≤ 40000) (hi : i.natAbs < B32 ^ L) (hj : j.natAbs < B32 ^ L) :
    Calls Tryz.prog 85 #[a, b] w fun e w' => Below w.heap.size w w' ∧ ∃ v, e = .returned v ∧ IsInt w' v (i * j) := by
  obtain ⟨na, va, xa, rfl, hra, hca, hna, rfl⟩ := ha
  obtain ⟨nb, vb, xb, rfl, hrb, hcb, hnb, rfl⟩ := hb
  rw [sgn_natAbs] at hi hj
  have la := canon_length_le hca hi
  have lb := canon_length_le hcb hj
  refine (product_any na nb va vb xa xb w hra hrb hca.1 hcb.1 (by omega) (by omega)).mono ?_
  rintro e w' ⟨hbe, v, cs, rfl, h1, h2, h3⟩
  exact ⟨hbe, _, rfl, isInt_mk _ h1 h2 (by rw [h3]; cases na <;> cases nb <;> simp [sgn, Int.neg_mul, Int.mul_neg])⟩

end Go.Proofs.YtlghjfpkfdnfoaaGreatDoor

/- num.parse of what is no number -/
namespace Go.Proofs.YtlghjfpkfdnfoaaGreatDoor
open Go Go.RowKit Go.Shelf

/-- a string as Parse takes it: its sign, what is behind it -/
structure ParseIn (s : ByteArray) (neg : Bool) (l : List UInt8) : Prop where
  bytes : s.data.toList = (if neg then [45] else []) ++ l
  first : neg = false → ∀ c, l.head? = some c → c.toNat ≠ 45
theorem parseIn_ex (s : ByteArray) : ∃ neg l, ParseIn s neg l := by
  cases h : s.data.toList with
  | nil => exact ⟨false, [], by rw [h]; rfl, fun _ c hc => by simp at hc⟩
  | cons c t =>
    by_cases h45 : c.toNat = 45
    · obtain rfl : c = 45 := UInt8.toNat_inj.1 h45
      exact ⟨true, t, by rw [h]; rfl, fun h => by cases h⟩
    · exact ⟨false, c :: t, by rw [h]; rfl, fun _ d hd => by simp at hd; subst hd; exact h45⟩
/-- the first byte that is no digit -/
theorem bad_first (b : Nat) : ∀ (l : List UInt8), ¬ (∀ c ∈ l, digitVal c.toNat < b) → ∃ p, ∃ h : p < l.length, ¬ digitVal (l[p]'h).toNat < b ∧ ∀ i (hi : i < p), digitVal (l[i]'(by omega)).toNat < b
  | [], h => absurd (fun c hc => by simp at hc) h
  | c :: t, h => by
    by_cases hc : digitVal c.toNat < b
    · obtain ⟨p, hp, h1, h2⟩ := bad_first b t (fun ht => h (fun d hd => by
        rcases List.mem_cons.1 hd with rfl | hd
        · exact hc
        · exact ht d hd))
      refine ⟨p + 1, by simp; omega, by simpa using h1, fun i hi => ?_⟩
      cases i with
      | zero => simpa using hc
      | succ i => simpa using h2 i (by omega)
    · exact ⟨0, by simp, by simpa using hc, fun i hi => by omega⟩

set_option maxHeartbeats 4000000 in
set_option maxRecDepth 100000 in
theorem parse_bad (s : ByteArray) (b : Nat) (w : World) (neg : Bool) (l : List UInt8) (hin : ParseIn s neg l) (hlen : l.length ≤ 100000) (hbad : l = [] ∨ ¬ ∀ c ∈ l, digitVal c.toNat < b) :
    Calls Tryz.prog 28 #[.string s, .int .i64 (b : Int)] w fun e w' => Below w.heap.size w w' ∧ e = .panicked [{ v := .iface 27 (.int .i64 2), recovered := false }] := by
  obtain ⟨hs, hfirst⟩ := hin
  obtain ⟨t, ht⟩ : ∃ t : ByteArray, t.data.toList = l := ⟨⟨l.toArray⟩, by simp⟩
  have htz : t.size = l.length := by rw [← ht, size_toList]
  have hcut : neg = true → s.extract 1 s.size = t := fun hn => by
    subst hn
    apply bytes_ext
    rw [Lib.extract_to_end, hs, ht]
    rfl
  have hsame : neg = false → s = t := fun hn => by
    subst hn
    apply bytes_ext
    rw [hs, ht]
    rfl
  have hsz : s.size = (if neg then 1 else 0) + l.length := by
    rw [← size_toList, hs]
    cases neg <;> simp [Nat.add_comm]
  refine (callsIn_wide (n := 9)).1 ?_
  refine callsIn_of_wp_marks Tryz.func28 rfl trivial ?_ rfl
  simp only [Tryz.ntmps28, List.size_toArray, List.length_cons, List.length_nil, Nat.reduceAdd, Nat.reduceSub, Array.replicate_succ, Array.replicate_zero, List.push_toArray, List.append_toArray, List.nil_append, List.cons_append]
  have b0 := (Below.refl w.heap.size w).alloc (Nat.le_refl _) (.cells #[.bool false, .slice none 0 0] 24)
  by_cases hl0 : l = []
  · subst hl0
    cases neg with
    | false =>
      obtain rfl := hsame rfl
      have hz : s.size = 0 := htz
      clear hsame hcut hsz hs hfirst hbad ht htz
      gi_wp2_with (refine ⟨trivial, ?_⟩; gi_at_call 45; refine (callsIn_wide.2 (demand_no _ _ _ (by first | rfl | (simp; omega)))).mono ?_; rintro e w2 ⟨rfl, rfl⟩)
      exact ⟨b0, rfl⟩
    | true =>
      have e0 := hcut rfl
      have hz : t.size = 0 := htz
      have hs1 : s.size = 1 := by rw [hsz]; rfl
      have hi0 : ∀ W, (Instr.index 9 (.string s) (.int .i64 0)).run Tryz.prog W = .ok (.int .u8 45) W := fun W => by
        have := index_string s 0 _ hs (by simp) W
        rw [Int.ofNat_zero] at this
        rw [this]
        rfl
      rw [hs1] at e0
      clear hsame hcut hsz hs hfirst hbad ht htz
      gi_wp2_with (refine ⟨trivial, ?_⟩; gi_at_call 45; refine (callsIn_wide.2 (demand_no _ _ _ (by first | rfl | (simp; omega)))).mono ?_; rintro e w2 ⟨rfl, rfl⟩)
      exact ⟨b0, rfl⟩
  · have hbad' := hbad.resolve_left hl0
    obtain ⟨p, hp, hp1, hp2⟩ := bad_first b l hbad'
    have hlp : 0 < l.length := by omega
    have hi0 : ∀ W, (Instr.index 9 (.string s) (.int .i64 0)).run Tryz.prog W = .ok (.int .u8 (if neg then 45 else (((l[0]'hlp).toNat : Nat) : Int))) W := fun W => by
      have h0 : 0 < ((if neg then [45] else []) ++ l).length := by cases neg <;> simp <;> omega
      have := index_string s 0 _ hs h0 W
      rw [Int.ofNat_zero] at this
      rw [this]
      cases neg <;> rfl
    have hn45 : neg = false → ((((l[0]'hlp).toNat : Nat) : Int) == 45) = false := fun hn => by
      have h1 := hfirst hn (l[0]'hlp) (by rw [List.head?_eq_getElem?, List.getElem?_eq_getElem hlp])
      refine beq_eq_false_iff_ne.2 fun e => h1 (by omega)
    have hspos : 0 < s.size := by rw [hsz]; omega
    have HL := Lib.hid (And.intro ht (And.intro htz (And.intro hs hsz)))
    have HB := Lib.hid (And.intro hp1 hp2)
    clear ht htz hs hsz hl0 hbad hbad' hfirst hp1 hp2
    obtain ⟨W0, hW0⟩ : ∃ W0, w.alloc (.cells #[.bool false, .slice none 0 0] 24) = W0 := ⟨_, rfl⟩
    rw [hW0] at b0
    have HW := Lib.hid hW0
    clear hW0
    have htz := HL.out.2.1
    have hd0 : decide ((0 : Int) < (l.length : Int)) = true := by simp; omega
    cases neg
    · have e0 := hsame rfl
      have h45 := hn45 rfl
      simp only [Bool.false_eq_true, if_false] at hi0
      clear hsame hcut hn45
      subst e0
      gi_wp2_with (refine ⟨trivial, ?_⟩; gi_at_call 45; refine (callsIn_wide.2 (demand_ok _ _ _ (by first | rfl | (simp; omega)))).mono ?_; rintro e w2 ⟨rfl, rfl⟩)
      generalize s = t at *
      clear hi0 h45 hspos
      rw [HW.out]
      gi_loop [27] (fun i => ∃ j : Nat, j ≤ p ∧ i = .int .i64 j) (fun i => l.length - (intOf i).toNat)
      case atStart => exact ⟨0, Nat.zero_le _, rfl⟩
      case round =>
        obtain ⟨j, hj, rfl⟩ := hrel
        have hjl : j < l.length := by omega
        have hix := fun W => index_string t j l HL.out.1 hjl W
        obtain ⟨c, hc⟩ : ∃ c, (l[j]'hjl).toNat = c := ⟨_, rfl⟩
        have hc256 : c < 256 := by rw [← hc]; exact (l[j]'hjl).toNat_lt
        rw [hc] at hix
        by_cases hjp : j = p
        · have hcd : ¬ digitVal c < b := by subst hjp; rw [← hc]; exact HB.out.1
          have hdd : decide (((digitVal c : Nat) : Int) < (b : Int)) = false := by simp; omega
          have HJ := Lib.hid hjp
          clear hc hjp
          gi_wp2_with (first
            | (refine ⟨trivial, ?_⟩; gi_at_call 62; refine (callsIn_wide.2 (digitOf_any c _ hc256)).mono ?_; rintro e w2 ⟨rfl, rfl⟩)
            | (refine ⟨trivial, ?_⟩; gi_at_call 45; refine (callsIn_wide.2 (demand_no _ _ _ (by first | rfl | (simp; omega)))).mono ?_; rintro e w2 ⟨rfl, rfl⟩))
          exact ⟨b0, rfl⟩
        · have hcd : digitVal c < b := by rw [← hc]; exact HB.out.2 j (by omega)
          have hdd : decide (((digitVal c : Nat) : Int) < (b : Int)) = true := by simp; omega
          clear hc
          gi_wp2_with (first
            | (refine ⟨trivial, ?_⟩; gi_at_call 62; refine (callsIn_wide.2 (digitOf_any c _ hc256)).mono ?_; rintro e w2 ⟨rfl, rfl⟩)
            | (refine ⟨trivial, ?_⟩; gi_at_call 45; refine (callsIn_wide.2 (demand_ok _ _ _ (by first | rfl | (simp; omega)))).mono ?_; rintro e w2 ⟨rfl, rfl⟩))
          exact ⟨⟨j + 1, by omega, by go_num⟩, by simp [intOf]; omega⟩
    · have e0 := hcut rfl
      simp only [if_true] at hi0
      clear hsame hcut hn45
      have hs0 : (s.size : Int) = (t.size : Int) + 1 := by have := HL.out.2.2.2; simp at this; omega
      have hss : decide ((0 : Int) < (s.size : Int)) = true := by simp; omega
      gi_wp2_with (refine ⟨trivial, ?_⟩; gi_at_call 45; refine (callsIn_wide.2 (demand_ok _ _ _ (by first | rfl | (simp; omega)))).mono ?_; rintro e w2 ⟨rfl, rfl⟩)
      clear hi0 hspos
      rw [HW.out]
      gi_loop [27] (fun i => ∃ j : Nat, j ≤ p ∧ i = .int .i64 j) (fun i => l.length - (intOf i).toNat)
      case atStart => exact ⟨0, Nat.zero_le _, rfl⟩
      case round =>
        obtain ⟨j, hj, rfl⟩ := hrel
        have hjl : j < l.length := by omega
        have hix := fun W => index_string t j l HL.out.1 hjl W
        obtain ⟨c, hc⟩ : ∃ c, (l[j]'hjl).toNat = c := ⟨_, rfl⟩
        have hc256 : c < 256 := by rw [← hc]; exact (l[j]'hjl).toNat_lt
        rw [hc] at hix
        by_cases hjp : j = p
        · have hcd : ¬ digitVal c < b := by subst hjp; rw [← hc]; exact HB.out.1
          have hdd : decide (((digitVal c : Nat) : Int) < (b : Int)) = false := by simp; omega
          have HJ := Lib.hid hjp
          clear hc hjp
          gi_wp2_with (first
            | (refine ⟨trivial, ?_⟩; gi_at_call 62; refine (callsIn_wide.2 (digitOf_any c _ hc256)).mono ?_; rintro e w2 ⟨rfl, rfl⟩)
            | (refine ⟨trivial, ?_⟩; gi_at_call 45; refine (callsIn_wide.2 (demand_no _ _ _ (by first | rfl | (simp; omega)))).mono ?_; rintro e w2 ⟨rfl, rfl⟩))
          exact ⟨b0, rfl⟩
        · have hcd : digitVal c < b := by rw [← hc]; exact HB.out.2 j (by omega)
          have hdd : decide (((digitVal c : Nat) : Int) < (b : Int)) = true := by simp; omega
          clear hc
          gi_wp2_with (first
            | (refine ⟨trivial, ?_⟩; gi_at_call 62; refine (callsIn_wide.2 (digitOf_any c _ hc256)).mono ?_; rintro e w2 ⟨rfl, rfl⟩)
            | (refine ⟨trivial, ?_⟩; gi_at_call 45; refine (callsIn_wide.2 (demand_ok _ _ _ (by first | rfl | (simp; omega)))).mono ?_; rintro e w2 ⟨rfl, rfl⟩))
          exact ⟨⟨j + 1, by omega, by go_num⟩, by simp [intOf]; omega⟩
end Go.Proofs.YtlghjfpkfdnfoaaGreatDoor

/- num.Text, num.Parse for all arguments -/
namespace Go.Proofs.YtlghjfpkfdnfoaaGreatDoor
open Go Go.RowKit Go.Shelf

/-- what Text answers -/
def TextOut (fa na : Bool) (base : Int) (A : Nat) (k : Int) (v : Value) : Prop :=
  if fa = true ∧ 2 ≤ base ∧ base ≤ 36 then k = 0 ∧ ∃ s : ByteArray, v = .string s ∧ s.data.toList.map (·.toNat) = textOf na base.toNat A else k = 1 ∧ v = .string ByteArray.empty
/-- what Parse answers -/
def ParseOut (base : Int) (neg : Bool) (l : List UInt8) (k : Int) (W : World) (v : Value) : Prop :=
  if 2 ≤ base ∧ base ≤ 36 then (if l = [] ∨ ¬ ∀ c ∈ l, digitVal c.toNat < base.toNat then k = 2 ∧ v = zeroInt else k = 0 ∧ IsInt W v (sgn neg (numBE base.toNat l))) else k = 1 ∧ v = zeroInt

set_option maxHeartbeats 1000000 in
set_option maxRecDepth 100000 in
theorem text1_no (B : Nat) (na : Bool) (aa : Option Addr) (ca : Nat) (xa : List Nat) (base : Int) (w : World) (hra : RowAt w B 24 [.bool na, .slice aa xa.length ca]) (hrn : RowAt w (B + 1) 3 [.int .i64 base])
    (ha : Reads .u32 w (.slice aa xa.length ca) xa) (hla : Limbs xa) (h : formedB na xa = false ∨ base < 2 ∨ 36 < base) :
    Calls Tryz.prog 23 #[.pointer (some ⟨B, 0, none⟩), .pointer (some ⟨B + 1, 0, none⟩), .pointer (some ⟨B + 2, 0, none⟩)] w fun e w' => Below w.heap.size w w' ∧ e = .panicked [{ v := .iface 27 (.int .i64 1), recovered := false }] := by
  have a0 := hra.cell 0
  have a1 := hra.cell 1
  simp only [List.getElem?_cons_zero, List.getElem?_cons_succ] at a0 a1
  have r0' := RowAt.new w 24 [.bool na, .slice aa xa.length ca]
  have bw := (Below.refl w.heap.size w).alloc (Nat.le_refl _) (.cells #[.bool na, .slice aa xa.length ca] 24)
  cases fa : formedB na xa with
  | false =>
    clear h
    go_enter Tryz.func23, Tryz.ntmps23
    go_wp2_with (go_at_call 24; refine (demand1_no _ na aa ca xa _ r0' (ha.below bw) hla fa).mono ?_; rintro e w1 ⟨hbe1, rfl⟩; have bw1 := bw.trans (hbe1.mono (by simp)))
    exact ⟨rfl, bw1, rfl⟩
  | true =>
    have hbd : base < 2 ∨ 36 < base := by rw [fa] at h; exact h.resolve_left (by simp)
    have HB := Lib.hid hbd
    clear h hbd
    go_enter Tryz.func23, Tryz.ntmps23
    go_wp2_with (first
      | (go_at_call 24; refine (demand1_ok _ _ aa ca xa _ r0' (ha.below bw) hla fa).mono ?_; rintro e w1 ⟨hbe1, rfl⟩; have bw1 := bw.trans (hbe1.mono (by simp)); have p1 := (hrn.below bw1).cell 0; simp only [List.getElem?_cons_zero] at p1)
      | (go_at_call 25; refine (demandBase_no _ _ HB.out).mono ?_; rintro e w2 ⟨rfl, rfl⟩))
    exact ⟨rfl, bw1, rfl⟩

theorem Text_any (va : Value) (na : Bool) (xa : List Nat) (base : Int) (w : World) (ha : IntAt w va na xa) (hT : DigitsAt w) :
    Calls Tryz.prog 6 #[va, .int .i64 base] w fun e w' => Below w.heap.size w w' ∧ ∃ s k, e = .returned (.tuple #[.string s, .int .i64 k]) ∧ TextOut (formedB na xa) na base (val xa) k (.string s) := by
  by_cases hc : formedB na xa = true ∧ 2 ≤ base ∧ base ≤ 36
  · obtain ⟨fa, h2, h36⟩ := hc
    obtain ⟨b, rfl⟩ := Int.eq_ofNat_of_zero_le (show 0 ≤ base by omega)
    refine (Text_ok va na xa b w ha fa (by omega) (by omega) hT).mono ?_
    rintro e w' ⟨h1, s, rfl, hs⟩
    refine ⟨h1, s, 0, rfl, ?_⟩
    unfold TextOut
    rw [if_pos ⟨fa, h2, h36⟩]
    exact ⟨rfl, s, rfl, hs⟩
  · refine (Text_of va na xa base w ha (fun k _ v => k = 1 ∧ v = .string ByteArray.empty) (fun _ _ _ _ h _ => h) ?_).mono ?_
    · intro B aa ca W4 hb4 hra hrn hrr hrd he
      obtain ⟨va', he', _, hl⟩ := ha
      refine (text1_no B na aa ca xa base W4 hra hrn hrd hl ?_).mono ?_
      · cases f : formedB na xa with
        | false => exact .inl rfl
        | true => exact .inr (by rw [f] at hc; simp at hc; omega)
      · rintro e W ⟨hbe, rfl⟩
        exact ⟨1, .inr rfl, (Chg.refl _ W4).thenBelow hbe, ByteArray.empty, hrr.below hbe, rfl, rfl⟩
    · rintro e W ⟨hbe, r0, k, rfl, rfl, rfl⟩
      refine ⟨hbe, _, _, rfl, ?_⟩
      unfold TextOut
      rw [if_neg hc]
      exact ⟨rfl, rfl⟩

set_option maxHeartbeats 1000000 in
set_option maxRecDepth 100000 in
theorem Parse_no (s : ByteArray) (base : Int) (neg : Bool) (l : List UInt8) (k0 : Int) (w : World) (hin : ParseIn s neg l) (hlen : l.length ≤ 400)
    (h : (k0 = 1 ∧ (base < 2 ∨ 36 < base)) ∨ (k0 = 2 ∧ (2 ≤ base ∧ base ≤ 36) ∧ (l = [] ∨ ¬ ∀ c ∈ l, digitVal c.toNat < base.toNat))) :
    Calls Tryz.prog 7 #[.string s, .int .i64 base] w fun e w' => Below w.heap.size w w' ∧ e = .returned (.tuple #[zeroInt, .int .i64 k0]) := by
  refine (Parse_of s base w (fun k W v => k = k0 ∧ v = zeroInt) (fun _ _ _ _ h _ => h) ?_).mono ?_
  · intro B W4 hb4 hrs hrn hrr
    have s0 := hrs.cell 0
    have n0 := hrn.cell 0
    simp only [List.getElem?_cons_zero] at s0 n0
    rcases h with ⟨rfl, h⟩ | ⟨rfl, ⟨h2, h36⟩, h⟩
    · have HB := Lib.hid h
      clear h
      go_enter Tryz.func27, Tryz.ntmps27
      go_wp2_with (go_at_call 25; refine (demandBase_no _ _ HB.out).mono ?_; rintro e w2 ⟨rfl, rfl⟩)
      exact ⟨rfl, 1, .inr rfl, Chg.refl _ _, false, none, 0, 0, hrr, rfl, rfl⟩
    · obtain ⟨b, rfl⟩ := Int.eq_ofNat_of_zero_le (show 0 ≤ base by omega)
      have hpa := fun W => parse_bad s b W neg l hin (by omega) h
      have HP := Lib.hid hpa
      clear hpa h hin
      go_enter Tryz.func27, Tryz.ntmps27
      go_wp2_with (first
        | (go_at_call 25; refine (demandBase_ok _ _ (by omega) (by omega)).mono ?_; rintro e w2 ⟨rfl, rfl⟩)
        | (go_at_call 28; refine (HP.out _).mono ?_; rintro e w3 ⟨hbe3, rfl⟩))
      exact ⟨rfl, 2, .inr rfl, (Chg.refl _ _).thenBelow hbe3, false, none, 0, 0, hrr.below hbe3, rfl, rfl⟩
  · rintro e W ⟨hbe, r0, k, rfl, rfl, rfl⟩
    exact ⟨hbe, rfl⟩

set_option exponentiation.threshold 20000 in
theorem numBE_bound {b : Nat} (hb : b ≤ 36) (l : List UInt8) (h : ∀ c ∈ l, digitVal c.toNat < b) (hl : l.length ≤ 400) : numBE b l < B32 ^ 300 := by
  have h1 := numBE_lt l h
  have h2 : b ^ l.length ≤ 64 ^ l.length := Nat.pow_le_pow_left (by omega) _
  have h3 : 64 ^ l.length ≤ 64 ^ 400 := Nat.pow_le_pow_right (by decide) hl
  have h4 : (64 : Nat) ^ 400 < B32 ^ 300 := by
    rw [B32_pow, show (64 : Nat) = 2 ^ 6 by rfl, ← Nat.pow_mul]
    exact Nat.pow_lt_pow_right (by decide) (by decide)
  exact Nat.lt_of_lt_of_le h1 (Nat.le_trans h2 (Nat.le_trans h3 (Nat.le_of_lt h4)))
theorem Parse_any (s : ByteArray) (base : Int) (neg : Bool) (l : List UInt8) (w : World) (hin : ParseIn s neg l) (hlen : l.length ≤ 400) :
    Calls Tryz.prog 7 #[.string s, .int .i64 base] w fun e w' => Below w.heap.size w w' ∧ ∃ n a m c k, e = .returned (.tuple #[.agg #[.bool n, .slice a m c], .int .i64 k]) ∧ ParseOut base neg l k w' (.agg #[.bool n, .slice a m c]) := by
  by_cases hb : 2 ≤ base ∧ base ≤ 36
  · by_cases hbad : l = [] ∨ ¬ ∀ c ∈ l, digitVal c.toNat < base.toNat
    · refine (Parse_no s base neg l 2 w hin hlen (.inr ⟨rfl, hb, hbad⟩)).mono ?_
      rintro e w' ⟨h1, rfl⟩
      refine ⟨h1, false, none, 0, 0, 2, rfl, ?_⟩
      unfold ParseOut
      rw [if_pos hb, if_pos hbad]
      exact ⟨rfl, rfl⟩
    · obtain ⟨b, rfl⟩ := Int.eq_ofNat_of_zero_le (show 0 ≤ base by omega)
      have h1 : l ≠ [] := fun h => hbad (.inl h)
      have h2 : ∀ c ∈ l, digitVal c.toNat < b := Classical.byContradiction fun h => hbad (.inr h)
      refine (Parse_ok s b w (by omega) (by omega) neg l hin.bytes h1 (by omega) h2 (numBE_bound (by omega) l h2 hlen)).mono ?_
      rintro e w' ⟨g1, v, rfl, hI⟩
      obtain ⟨n, a, m, c, rfl⟩ := hI.shape
      refine ⟨g1, n, a, m, c, 0, rfl, ?_⟩
      unfold ParseOut
      rw [if_pos hb, if_neg hbad]
      exact ⟨rfl, hI⟩
  · refine (Parse_no s base neg l 1 w hin hlen (.inl ⟨rfl, by omega⟩)).mono ?_
    rintro e w' ⟨h1, rfl⟩
    refine ⟨h1, false, none, 0, 0, 1, rfl, ?_⟩
    unfold ParseOut
    rw [if_neg hb]
    exact ⟨rfl, rfl⟩

end Go.Proofs.YtlghjfpkfdnfoaaGreatDoor
