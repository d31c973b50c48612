/- num.floorRoot of what is not negative; num.Root at values -/
import Derived.Test.YtlghjfpkfdnfoaaDoorNumMSub
import Derived.Test.YtlghjfpkfdnfoaaDoorNumMVals2
import Derived.Test.YtlghjfpkfdnfoaaDoorNumMRefBits
import Derived.Test.YtlghjfpkfdnfoaaDoorNumMRefDigits
import Derived.Test.YtlghjfpkfdnfoaaDoorNumMApiOk
import Derived.BigQuiet
namespace Go.Proofs.YtlghjfpkfdnfoaaDoor
open Go Go.RowKit Go.Shelf

theorem isRoot_unique {A n r s : Nat} (h : IsRoot A n r) (h' : IsRoot A n s) : r = s := by
  have key : ∀ {a b : Nat}, IsRoot A n a → IsRoot A n b → a ≤ b := fun {a b} ha hb => Nat.le_of_not_lt fun hc => by
    have h1 := Nat.pow_le_pow_left (show b + 1 ≤ a from hc) n
    have h2 := ha.1
    have h3 := hb.2
    omega
  exact Nat.le_antisymm (key h h') (key h' h)
theorem isRoot_ex (A : Nat) {n : Nat} (hn : n ≠ 0) : ∃ r, IsRoot A n r := by
  have key : ∀ k, ∃ r, r ^ n ≤ A ∧ (A < (r + 1) ^ n ∨ k ≤ r) := fun k => by
    induction k with
    | zero => exact ⟨0, by rw [Nat.zero_pow (by omega)]; exact Nat.zero_le _, .inr (Nat.zero_le _)⟩
    | succ k ih =>
      obtain ⟨r, h1, h2⟩ := ih
      rcases h2 with h2 | h2
      · exact ⟨r, h1, .inl h2⟩
      · by_cases h3 : A < (r + 1) ^ n
        · exact ⟨r, h1, .inl h3⟩
        · exact ⟨r + 1, by omega, .inr (by omega)⟩
  obtain ⟨r, h1, h2⟩ := key (A + 1)
  refine ⟨r, h1, h2.resolve_right fun h => ?_⟩
  have h3 : r ^ 1 ≤ r ^ n := Nat.pow_le_pow_right (by omega) (by omega)
  rw [Nat.pow_one] at h3
  omega

set_option maxHeartbeats 1000000 in
set_option maxRecDepth 100000 in
theorem floorRoot_pos (K L m : Nat) (hT : TimesUpTo K) (hD : DivUpTo L K) (hL : L ≤ 1000) (hK0 : 0 < K) (hK : K ≤ 1000) (hm : m < 100) (va : Value) (xa : List Nat) (w : World) (ha : Reads .u32 w va xa) (hka : Canon xa) (hla : xa.length ≤ L) (hfit : 2 ^ (m + 1) * val xa < B32 ^ K) :
    Calls Tryd.prog 79 #[.agg #[.bool false, va], .int .i64 ((m : Int) + 1)] w fun e w' => Below w.heap.size w w' ∧ ∃ v r, e = .returned v ∧ IsInt w' v ((r : Nat) : Int) ∧ IsRoot (val xa) (m + 1) r := by
  obtain ⟨aa, ca, rfl, hca, hma⟩ := ha.form
  have b0 := ((Below.refl w.heap.size w).alloc (Nat.le_refl _) (.cells #[.bool false, .slice aa xa.length ca] 24)).alloc (by simp) (.cells #[.bool false, .slice none 0 0] 24)
  have r1 := (RowAt.new w 24 [.bool false, .slice aa xa.length ca]).alloc (.cells #[.bool false, .slice none 0 0] 24)
  have r2 := RowAt.new (w.alloc (.cells #[.bool false, .slice aa xa.length ca] 24)) 24 [.bool false, .slice none 0 0]
  simp only [World.size_alloc] at r2
  have hS0 : FrS w w false aa xa ca ((w.alloc (.cells #[.bool false, .slice aa xa.length ca] 24)).alloc (.cells #[.bool false, .slice none 0 0] 24)) := ⟨r1, r2, b0, ha.below b0, fun v xs h => h.below b0⟩
  generalize hW0 : (w.alloc (.cells #[.bool false, .slice aa xa.length ca] 24)).alloc (.cells #[.bool false, .slice none 0 0] 24) = W0 at hS0
  have hroot := root_any K L m hT hD hL hK0 hK hm (bitsOf xa) (.slice aa xa.length ca) xa W0 (Nat.le_refl _) hS0.ra hka hla hfit
  have HW := Lib.hid hW0
  clear hfit hW0 r1 r2 b0
  go_enter Tryd.func79, Tryd.ntmps79
  go_wp2_with (go_at_call 109; (try rw [HW.out]); refine hroot.mono ?_; rintro e w3 ⟨hbe3, v3, rs, rfl, h3, k3, e3⟩; obtain ⟨a3, c3, rfl, hc3, hm3⟩ := h3.form)
  have hS3 : FrS w w3 false aa xa ca w3 := ⟨hS0.a.below hbe3, hS0.res.below hbe3, hS0.below.trans (hbe3.mono hS0.below.size), hS0.ra.below hbe3, fun _ _ h => h⟩
  obtain ⟨d1, d2, -⟩ := fr_of hS3
  have HE := Lib.hid e3
  clear hS0 hroot HW e3 hbe3
  go_quiet (fail)
  have hS5 : FrS w w3 false aa xa ca (w3.drewN nq) := ⟨row_drewN hS3.a nq, row_drewN hS3.res nq, below_drewN hS3.below nq, reads_drewN hS3.ra nq, fun v xs h => reads_drewN h nq⟩
  have h5 := hS5.keep _ _ h3
  clear d1 d2 hS3 h3
  generalize w3.drewN nq = w5 at *
  obtain ⟨d1, d2, -⟩ := fr_of hS5
  go_wp2_with (go_at_call 63; refine (signed_any _ _ _ _ _).mono ?_; rintro e w6 ⟨hbe6, rfl⟩; have hres := hS5.res.below hbe6; have q1 := hres.cell 0; have q2 := hres.cell 1; have q3 := hres.frozen 0; have q4 := hres.frozen 1; have h6 := h5.below hbe6; simp only [List.getElem?_cons_zero, List.getElem?_cons_succ] at q1 q2)
  obtain ⟨s1, s2⟩ := two_reads (b := w.heap.size + 1) q1 q2 (.bool false) (.slice a3 rs.length c3)
  have hk := two_kept (b := w.heap.size + 1) h6 q1 q2 (.bool false) (.slice a3 rs.length c3)
  have b6 := hS5.below.trans (hbe6.mono hS5.below.size)
  have b7 : Below w.heap.size w ((w6.setCell ⟨w.heap.size + 1, 0, none⟩ (.bool false)).setCell ⟨w.heap.size + 1, 1, none⟩ (.slice a3 rs.length c3)) := (b6.setCell (by simp) _).setCell (by simp) _
  refine bodyPost_ret (v := .agg #[.bool false, .slice a3 rs.length c3]) (by simp [results, Tryd.results79, go_sem, loadCellsFrom, s1, s2]) rfl ⟨b7, _, val rs, rfl, isInt_mk false hk k3 rfl, HE.out⟩

set_option exponentiation.threshold 20000 in
theorem root_int (va : Value) (i : Nat) (m : Nat) (w : World) (ha : IsInt w va (i : Int)) (hi : i < B32 ^ 250) (hm : m < 100) :
    Calls Tryd.prog 38 #[va, .int .i64 ((m : Int) + 1)] w fun e w' => Below w.heap.size w w' ∧ ∃ v r, e = .returned (.tuple #[v, .int .i64 0]) ∧ IsInt w' v ((r : Nat) : Int) ∧ IsRoot i (m + 1) r := by
  obtain ⟨n, xs, hA, fA, hs, hk, hn⟩ := ha.at (by rw [Int.natAbs_natCast]; exact Nat.lt_of_lt_of_le hi (Nat.pow_le_pow_right B32_pos (by decide)))
  obtain ⟨hv, rfl⟩ : val xs = i ∧ n = false := by
    have h1 := congrArg Int.natAbs hs
    rw [sgn_natAbs, Int.natAbs_natCast] at h1
    refine ⟨h1.symm, ?_⟩
    cases n with
    | false => rfl
    | true =>
      exfalso
      rw [Bool.true_and, decide_eq_true_eq] at hn
      have := (canon_pos_iff hk).2 hn
      simp [sgn] at hs
      omega
  have hfit : 2 ^ (m + 1) * val xs < B32 ^ 300 := by
    have h1 : 2 ^ (m + 1) ≤ B32 ^ 50 := by rw [B32_pow]; exact Nat.pow_le_pow_right (by decide) (by omega)
    have e : B32 ^ 300 = B32 ^ 50 * B32 ^ 250 := by rw [← Nat.pow_add]
    rw [hv, e]
    generalize B32 ^ 250 = Y at *
    generalize B32 ^ 50 = Z at *
    exact Nat.lt_of_le_of_lt (Nat.mul_le_mul_right _ h1) (Nat.mul_lt_mul_of_pos_left hi (Nat.lt_of_lt_of_le (Nat.pow_pos (by decide)) h1))
  have hl := canon_length_le hk (by rw [hv]; exact hi)
  obtain ⟨r, hr⟩ : ∃ r, IsRoot i (m + 1) r := isRoot_ex i (by omega)
  refine (Root_ok va false xs m w hA fA hm (.inl rfl) (r : Int) (fun W hW => ?_)).mono ?_
  · obtain ⟨va', rfl, hra, hla⟩ := hA
    refine (floorRoot_pos 300 300 m (timesUpTo_le times_any (by decide)) (divUpTo_le (divUpTo_all 300) (by decide) (by decide)) (by decide) (by decide) (by decide) hm va' xs W (hra.below hW) hk (by omega) hfit).mono ?_
    rintro e W' ⟨hb, v, s, rfl, hI, hR⟩
    rw [hv] at hR
    rw [isRoot_unique hR hr] at hI
    exact ⟨hb, v, rfl, hI⟩
  · rintro e W ⟨hb, v, rfl, hI⟩
    exact ⟨hb, v, r, rfl, hI, hr⟩
end Go.Proofs.YtlghjfpkfdnfoaaDoor

/- num.Pow of a negative base; at values -/
namespace Go.Proofs.YtlghjfpkfdnfoaaDoor
open Go Go.RowKit Go.Shelf

theorem sgn_pow (x : Nat) : ∀ n : Nat, sgn true x ^ n = sgn (((n % 2 : Nat) : Int) == 1) (x ^ n)
  | 0 => by simp [sgn]
  | n + 1 => by
    rw [Int.pow_succ, sgn_pow x n]
    rcases Nat.mod_two_eq_zero_or_one n with h | h
    · rw [h, show (n + 1) % 2 = 1 by omega]
      simp [sgn, Nat.pow_succ, Int.mul_neg]
    · rw [h, show (n + 1) % 2 = 0 by omega]
      simp [sgn, Nat.pow_succ, Int.neg_mul_neg]

set_option maxHeartbeats 1000000 in
set_option maxRecDepth 100000 in
theorem pow1_neg (B : Nat) (aa : Option Addr) (ca : Nat) (xa : List Nat) (n : Nat) (r0 : Bool) (r1 : Option Addr) (r2 r3 : Nat) (K : Nat) (hT : TimesUpTo K) (hK : 0 < K) (w : World) (hra : RowAt w B 24 [.bool true, .slice aa xa.length ca]) (hrn : RowAt w (B + 1) 3 [.int .i64 n]) (hrr : RowAt w (B + 2) 24 [.bool r0, .slice r1 r2 r3])
    (ha : Reads .u32 w (.slice aa xa.length ca) xa) (hka : Canon xa) (fa : formedB true xa = true) (hn : n ≤ 9600) (hxl : xa.length ≤ 300) (hnear : ((bitsOf xa : Int) - 1) * n < 9600) (hbb : bitsOf xa ≤ 9600) (hfitK : val xa ^ n < B32 ^ K) (hfit : val xa ^ n < B32 ^ 300) :
    Calls Tryd.prog 75 #[.pointer (some ⟨B, 0, none⟩), .pointer (some ⟨B + 1, 0, none⟩), .pointer (some ⟨B + 2, 0, none⟩)] w fun e w' => e = .returned (.tuple #[]) ∧ Chg (fun k => k = B + 2) w w' ∧ ∃ m a l c, RowAt w' (B + 2) 24 [.bool m, .slice a l c] ∧ IsInt w' (.agg #[.bool m, .slice a l c]) (sgn true (val xa) ^ n) := by
  have a0 := hra.cell 0
  have a1 := hra.cell 1
  have n0 := hrn.cell 0
  simp only [List.getElem?_cons_zero, List.getElem?_cons_succ] at a0 a1 n0
  have hla := hka.1
  have r0' := RowAt.new w 24 [.bool true, .slice aa xa.length ca]
  have bw := (Below.refl w.heap.size w).alloc (Nat.le_refl _) (.cells #[.bool true, .slice aa xa.length ca] 24)
  have hbl := fun W (h : Below w.heap.size w W) => bitLen_any (.slice aa xa.length ca) xa W (ha.below h) hla (by omega)
  obtain ⟨P, hP⟩ : ∃ P : Int, ((bitsOf xa : Int) - 1) * n = P := ⟨_, rfl⟩
  have hPb : -9600 ≤ P := by
    rw [← hP]
    have h1 : (-1 : Int) * n ≤ ((bitsOf xa : Int) - 1) * n := Int.mul_le_mul_of_nonneg_right (by omega) (by omega)
    omega
  rw [hP] at hnear
  have hPw : IntKind.i64.wrap P = P := by rw [IntKind.wrap_i64]; omega
  have HF := Lib.hid hfit
  have HK := Lib.hid hfitK
  clear hfit hfitK
  obtain ⟨p, hp⟩ : ∃ p, n % 2 = p := ⟨_, rfl⟩
  have hp2 : p = 0 ∨ p = 1 := by omega
  have hpn : (n : Int) % 2 = (p : Int) := by omega
  have hpt : (n : Int).tmod 2 = (p : Int) := by rw [Int.tmod_eq_emod_of_nonneg (by omega)]; omega
  have HP := Lib.hid hp
  clear hp
  go_enter Tryd.func75, Tryd.ntmps75
  go_wp2_with (first
    | (go_at_call 59; refine (demand1_ok _ true aa ca xa _ r0' (ha.below bw) hla fa).mono ?_; rintro e w1 ⟨hbe1, rfl⟩; have bw1 := bw.trans (hbe1.mono (by simp)); have p0 := (hra.below bw1).cell 0; have p2 := (hra.below bw1).cell 1; have p1 := (hrn.below bw1).cell 0; simp only [List.getElem?_cons_zero, List.getElem?_cons_succ] at p0 p1 p2)
    | (go_at_call 60; refine (demand_ok _ _ _ (by simp; omega)).mono ?_; rintro e w2 ⟨rfl, rfl⟩))
  go_quiet (first
    | (go_at_call 55; exact (bitLen_any (.slice aa xa.length ca) xa _ ((ha.below bw1).drewN _) hla (by omega)).mono (fun e w' ⟨h1, h2⟩ => ⟨h2, _, h1.symm⟩))
    | (go_at_call 60; exact (demand_ok _ _ _ (by first | rfl | (simp; omega))).mono (fun e w' ⟨h1, h2⟩ => ⟨h2, _, h1.symm⟩)))
  have hS : PowS w B true aa xa ca n (w1.drewN nq) := by
    have h1 : Below w.heap.size w (w1.drewN nq) := ⟨bw1.os, bw1.tape, bw1.output, bw1.size, bw1.block⟩
    exact ⟨hra.below h1, ha.below h1, hrn.below h1, (Chg.refl (fun k => k = B + 2) w).thenBelow h1, ⟨r0, r1, r2, r3, hrr.below h1⟩⟩
  generalize w1.drewN nq = W2 at *
  clear hra hrn hrr hbl hP hPw hPb hnear a0 a1 n0 r0' bw bw1 hbe1 p0 p1 p2 hbb ha
  have hD := Lib.hid (pow_drew hS)
  obtain ⟨d1, d2, d3, -⟩ := pow_of hS
  clear hS
  go_wp2_with fail
  obtain ⟨f, hf⟩ : ∃ f : Bool, ((p : Int) == 1) = f := ⟨_, rfl⟩
  have HS := Lib.hid hf
  go_region_held3 (fun X => X.cell? ⟨B, 0, none⟩ = some (.bool true) ∧ X.cell? ⟨B, 1, none⟩ = some (.slice aa xa.length ca) ∧ X.cell? ⟨B + 1, 0, none⟩ = some (.int .i64 n) ∧ PowS w B true aa xa ca n X)
    (first | exact hD.out | (go_split_ands; exact pow_step (by assumption) hbc) | (go_split_ands; exact pow_store (by assumption) _ _ _ _))
    (first
      | (go_at_call 77; go_split_ands; refine (power_any K hT hK _ xa n _ (PowS.ra (by assumption)) hka hn HK.out).mono ?_; rintro e w9 ⟨hbc, v, cs, rfl, h1, k1, e1⟩; obtain ⟨a3, c3, rfl, hc3, hm3⟩ := h1.form)
      | (go_at_call 63; go_split_ands; refine (signed_any _ _ _ _ _).mono ?_; rintro e w10 ⟨hbc, rfl⟩; replace h1 := h1.below hbc)
      | (go_at_call 76; go_split_ands; refine (fitting_any _ _ _ _ _ (by rw [canon_length_iff k1, e1]; exact HF.out)).mono ?_; rintro e w11 ⟨hbc, rfl⟩; replace h1 := h1.below hbc; obtain ⟨u0, u1, u2, u3, q1, q2, q3, q4, q5⟩ := pow_cells (pow_step (by assumption) hbc).2.2.2))
  rename_i hX
  obtain ⟨-, -, -, hP5⟩ := hX
  go_end0
  exact ⟨rfl, hP5.chg, f && decide (0 < cs.length), a3, cs.length, c3, (q5.set 0 (.bool (f && decide (0 < cs.length)))).set 1 (.slice a3 cs.length c3), isInt_mk f (two_kept (b := B + 2) h1 q1 q2 _ _) k1 (by rw [e1, sgn_pow, HP.out, HS.out])⟩

set_option exponentiation.threshold 400 in
theorem Pow_neg (va : Value) (xa : List Nat) (n K : Nat) (hT : TimesUpTo K) (hK : 0 < K) (w : World) (ha : IntAt w va true xa) (fa : formedB true xa = true) (hn : n ≤ 9600) (hnear : ((bitsOf xa : Int) - 1) * n < 9600) (hbb : bitsOf xa ≤ 9600) (hfitK : val xa ^ n < B32 ^ K) (hfit : val xa ^ n < B32 ^ 300) :
    Calls Tryd.prog 37 #[va, .int .i64 (n : Int)] w fun e w' => Below w.heap.size w w' ∧ ∃ v, e = .returned (.tuple #[v, .int .i64 0]) ∧ IsInt w' v (sgn true (val xa) ^ n) := by
  refine (Pow_of va true xa (n : Int) w ha (fun k W v => k = 0 ∧ IsInt W v (sgn true (val xa) ^ n)) (fun _ _ _ _ h hk => ⟨h.1, h.2.keep hk⟩) ?_).mono ?_
  · intro B aa ca W4 hb4 hra hrn hrr hrd he
    obtain ⟨va', he', _, hl⟩ := ha
    obtain ⟨hkx, hxl⟩ := formedB_bounds hl fa
    refine (pow1_neg B aa ca xa n _ _ _ _ K hT hK W4 hra hrn hrr hrd hkx fa hn hxl hnear hbb hfitK hfit).mono ?_
    rintro e W ⟨rfl, hch, m, a, l, c, hr, hi⟩
    exact ⟨0, .inl ⟨rfl, rfl⟩, hch, m, a, l, c, hr, rfl, hi⟩
  · rintro e W ⟨hbe, r0, k, rfl, rfl, hi⟩
    exact ⟨hbe, _, rfl, hi⟩

set_option exponentiation.threshold 400 in
theorem pow_int (va : Value) (i : Int) (n : Nat) (w : World) (ha : IsInt w va i) (hi : i.natAbs < B32 ^ 7) (hn : n ≤ 40) :
    Calls Tryd.prog 37 #[va, .int .i64 (n : Int)] w fun e w' => Below w.heap.size w w' ∧ ∃ v, e = .returned (.tuple #[v, .int .i64 0]) ∧ IsInt w' v (i ^ n) := by
  obtain ⟨na, xs, hA, fA, rfl, hk, -⟩ := ha.at (abs_lt_up hi (by decide))
  rw [sgn_natAbs] at hi
  have hl := canon_length_le hk hi
  have hbb : bitsOf xs ≤ 224 := by
    by_cases h0 : xs = []
    · subst h0; decide +kernel
    · obtain ⟨-, h2, -⟩ := bitsOf_bounds hk h0
      have h3 := Nat.lt_of_le_of_lt h2 hi
      rw [B32_pow] at h3
      have := (Nat.pow_lt_pow_iff_right (show 1 < 2 by decide)).1 h3
      omega
  have hnear : ((bitsOf xs : Int) - 1) * n < 9600 := by
    have h1 : ((bitsOf xs : Int) - 1) * n ≤ 223 * n := Int.mul_le_mul_of_nonneg_right (by omega) (by omega)
    omega
  have hp : val xs ^ n < B32 ^ 281 := by
    have h1 : val xs ^ n ≤ (B32 ^ 7) ^ n := Nat.pow_le_pow_left (Nat.le_of_lt hi) n
    rw [← Nat.pow_mul] at h1
    exact Nat.lt_of_le_of_lt h1 (Nat.pow_lt_pow_right (by decide) (by omega))
  have h300 : val xs ^ n < B32 ^ 300 := Nat.lt_of_lt_of_le hp (Nat.pow_le_pow_right B32_pos (by decide))
  cases na with
  | false => exact Pow_ok va xs n 300 (timesUpTo_le times_any (by decide)) (by decide) w hA fA (by omega) hnear (by omega) h300 h300
  | true => exact Pow_neg va xs n 300 (timesUpTo_le times_any (by decide)) (by decide) w hA fA (by omega) hnear (by omega) h300 h300

end Go.Proofs.YtlghjfpkfdnfoaaDoor

/- zermelolaw01.NumShifts -/
namespace Go.Proofs.YtlghjfpkfdnfoaaDoor
open Go Go.RowKit Go.Shelf

theorem boxes_two {W W' : World} {n m : Bool} {a b : Option Addr} {k c l d : Nat} {i j : Int} (h1 : IsInt W' (.agg #[.bool n, .slice a k c]) i) (h2 : IsInt W' (.agg #[.bool m, .slice b l d]) j) (hb : Below W.heap.size W W') :
    BoxI ((W'.alloc (.cells #[.bool n, .slice a k c] 24)).alloc (.cells #[.bool m, .slice b l d] 24)) (.pointer (some ⟨W'.heap.size, 0, none⟩)) i ∧ BoxI ((W'.alloc (.cells #[.bool n, .slice a k c] 24)).alloc (.cells #[.bool m, .slice b l d] 24)) (.pointer (some ⟨W'.heap.size + 1, 0, none⟩)) j ∧ Value.int .i64 0 = Value.int .i64 0 ∧
    Below W.heap.size W ((W'.alloc (.cells #[.bool n, .slice a k c] 24)).alloc (.cells #[.bool m, .slice b l d] 24)) := by
  have b1 := hb.alloc hb.size (.cells #[.bool n, .slice a k c] 24)
  have q := BoxI.new (n := m) (a := b) (m := l) (c := d) (h2.below ((Below.refl W'.heap.size W').alloc (Nat.le_refl _) (.cells #[.bool n, .slice a k c] 24)))
  rw [World.size_alloc] at q
  exact ⟨(BoxI.new h1).alloc _, q, rfl, b1.alloc b1.size _⟩

set_option maxHeartbeats 4000000 in
set_option maxRecDepth 100000 in
set_option exponentiation.threshold 400 in
theorem shifts_any (va : Value) (na : Bool) (xa : List Nat) (n : Nat) (hn : n ≤ 255) (w : World) (ha : IntAt w va na xa) (hT : DigitsAt w) :
    Calls Tryd.prog 11 #[va, .int .u8 (n : Int)] w fun e w' => Below w.heap.size w w' ∧ e = .returned (.bool true) := by
  obtain ⟨sa, rfl, hra, hla⟩ := ha
  obtain ⟨aa, ca, rfl, hca, hma⟩ := hra.form
  go_enter Tryd.func11, Tryd.ntmps11
  go_upto_region 0 with (fail)
  go_cut [2] from 0 to 0 (fun v2 W => BoxF W v2 na xa ∧ Below w.heap.size w W)
  case first =>
    go_wp2
    go_meet
    have B1 : Below w.heap.size w (w.alloc (.cells #[.bool na, .slice aa xa.length ca] 24)) := (Below.refl _ _).alloc (Nat.le_refl _) _
    exact ⟨⟨_, aa, ca, rfl, RowAt.new w 24 [.bool na, .slice aa xa.length ca], hra.below B1⟩, B1⟩
  case rest =>
    obtain ⟨q1, hbe⟩ := hcut
    clear hra hca hma
    have hT1 := hT.below hbe
    obtain ⟨b1, a1, c1, rfl, r1, j1⟩ := q1
    have d11 := r1.cell 0
    have d12 := r1.cell 1
    simp only [List.getElem?_cons_zero, List.getElem?_cons_succ] at d11 d12
    have hnew := RowAt.new wc 24 [.bool na, .slice a1 xa.length c1]
    have hB : Below wc.heap.size wc (wc.alloc (.cells #[.bool na, .slice a1 xa.length c1] 24)) := (Below.refl _ _).alloc (Nat.le_refl _) _
    have hf := formed_list [(na, .slice a1 xa.length c1, xa)] 60 wc.heap.size _ hnew (by simp) (by
      intro it hit
      simp only [List.mem_cons, List.not_mem_nil, or_false] at hit
      subst hit
      exact ⟨j1.below hB, hla⟩)
    simp only [List.length_cons, List.length_nil] at hf
    have hsz := hbe.size
    cases hall : List.all [(na, Value.slice a1 xa.length c1, xa)] (fitB 60) with
    | false =>
      rw [hall] at hf
      clear hnew hall
      go_wp2_with (first
        | (go_at_call 50; refine hf.mono ?_; rintro e w2 ⟨hb2, rfl⟩)
        | (go_at_call 16; refine (sane_any _ ((hT1.below hB).below hb2)).mono ?_; rintro e w3 ⟨hb3, rfl⟩))
      go_ret
      have e1 := hB.trans (hb2.mono hB.size)
      have e2 := e1.trans (hb3.mono e1.size)
      exact ⟨hbe.trans (e2.mono hsz), rfl⟩
    | true =>
      rw [hall] at hf
      have hA := Lib.hid hall
      clear hnew hall
      cases na with
      | true =>
        go_wp2_with (first
          | (go_at_call 50; refine hf.mono ?_; rintro e w2 ⟨hb2, rfl⟩; have e1 := hB.trans (hb2.mono hB.size); have g1 := (r1.below e1).cell 0; simp only [List.getElem?_cons_zero] at g1)
          | (go_at_call 16; refine (sane_any _ ((hT1.below hB).below hb2)).mono ?_; rintro e w3 ⟨hb3, rfl⟩))
        go_ret
        have e2 := e1.trans (hb3.mono e1.size)
        exact ⟨hbe.trans (e2.mono hsz), rfl⟩
      | false =>
        go_upto_region 3 with (go_at_call 50; refine hf.mono ?_; rintro e w2 ⟨hb2, rfl⟩; have e1 := hB.trans (hb2.mono hB.size); have g1 := (r1.below e1).cell 0; simp only [List.getElem?_cons_zero] at g1)
        obtain ⟨f1, l1⟩ : formedB false xa = true ∧ xa.length ≤ 60 := by
          have := hA.out
          simp only [List.all_cons, List.all_nil, fitB, Bool.and_true, Bool.and_eq_true, decide_eq_true_eq] at this
          exact ⟨this.1, by omega⟩
        have k1 := (IntAt.isInt ⟨_, rfl, j1.below e1, hla⟩ f1 : IsInt w2 (.agg #[.bool false, .slice a1 xa.length c1]) (sgn false (val xa)))
        have n1 : (sgn false (val xa)).natAbs < B32 ^ 60 := by rw [sgn_natAbs]; exact (canon_length_iff (formedB_bounds hla f1).1 60).1 l1
        have q2 : BoxI w2 (.pointer (some ⟨b1, 0, none⟩)) ((val xa : Nat) : Int) := ⟨b1, false, a1, xa.length, c1, rfl, r1.below e1, k1⟩
        replace hbe := hbe.trans (e1.mono hsz)
        have n2 : ((val xa : Nat) : Int).natAbs < B32 ^ 60 := n1
        clear hA hf l1 f1 d11 d12 hb2 hB e1 r1 j1 hsz hT1 hla k1 n1 g1
        generalize val xa = N at *
        obtain ⟨T, hTT⟩ : ∃ T : Nat, 2 ^ n = T := ⟨_, rfl⟩
        have hT0 : 0 < T := by rw [← hTT]; exact Nat.pow_pos (by omega)
        have hTb : ((T : Nat) : Int).natAbs < B32 ^ 8 := by rw [Int.natAbs_natCast, ← hTT, B32_pow]; exact Nat.pow_lt_pow_right (by omega) (by omega)
        have hpT : (2 : Int) ^ n = (T : Int) := by rw [← hTT]; simp
        have BN := b32_up n2 (by decide)
        have n60 := n2
        have BT := b32_up hTb (by decide)
        have cU : ((N : Int) * (T : Int)).natAbs < B32 ^ 68 := abs_mul_lt n2 hTb
        have BU := b32_up cU (by decide)
        have hTz : (T : Int) ≠ 0 := by omega
        have BQ : ((N / T : Nat) : Int).natAbs < B32 ^ 300 := by
          rw [Int.natAbs_natCast] at BN ⊢
          exact Nat.lt_of_le_of_lt (Nat.div_le_self _ _) BN
        have eU : (N : Int) * (T : Int) = ((N * T : Nat) : Int) := by simp
        have eD1 : ((N : Int) * (T : Int)).fdiv (T : Int) = (N : Int) := Int.mul_fdiv_cancel _ hTz
        have eD2 : ((N : Int) * (T : Int)).fmod (T : Int) = 0 := by rw [Int.fmod_def, eD1, Int.mul_comm]; omega
        have eQ : (N : Int).fdiv (T : Int) = ((N / T : Nat) : Int) := by rw [Int.fdiv_eq_ediv_of_nonneg _ (by omega)]; rfl
        have HE := Lib.hid (And.intro eU (And.intro eD1 (And.intro eD2 (And.intro eQ (And.intro hpT (And.intro hTT hT0))))))
        clear eU eD1 eD2 eQ hpT hTT cU hTb n2
        generalize w2 = wX2 at *
        go_upto_region 3 with (fail)
        go_cut [5, 6] from 29 to 35 (fun v1 v2 W => BoxI W v1 (T : Int) ∧ v2 = .int .i64 0 ∧ Below wX2.heap.size wX2 W)
        case first =>
          have hwn : IntKind.i64.wrap (n : Int) = (n : Int) := by rw [IntKind.wrap_i64]; omega
          have hpT := HE.out.2.2.2.2.1
          have HP := Lib.hid hpT
          clear hpT
          have C1 := rof_int 2 wX2 (by omega) (by omega)
          go_wp2_with (first
            | (go_at_call 27; refine C1.mono ?_; rintro e w3 ⟨hb3, v3, rfl, hi3⟩)
            | (go_at_call 37; refine (pow_two _ n _ hi3 hn).mono ?_; rintro e w4 ⟨hb4, v4, rfl, hi4⟩; obtain ⟨n4, s4, m4, q4, rfl⟩ := hi4.shape))
          go_meet
          rw [HP.out] at hi4
          have hb5 := hb3.trans (hb4.mono hb3.size)
          exact ⟨BoxI.new hi4, rfl, hb5.alloc hb5.size _⟩
        case rest =>
          obtain ⟨q5, rfl, hbn⟩ := hcut
          replace q2 := q2.below hbn
          replace hbe := hbe.trans (hbn.mono hbe.size)
          clear hbn
          generalize wc = wX3 at *
          go_upto_region 6 with (fail)
          go_cut [6, 7] from 38 to 43 (fun v1 v2 W => v1 = .int .i64 0 ∧ BoxI W v2 ((N : Int) * (T : Int)) ∧ Below wX3.heap.size wX3 W)
          case first =>
            obtain ⟨nx, ax, mx, cx, rx, ix⟩ := q2.at
            have xx := rx.cell 0
            have yx := rx.cell 1
            simp only [List.getElem?_cons_zero, List.getElem?_cons_succ] at xx yx
            obtain ⟨bz, ny, ay, my, cy, rfl, ry, iy⟩ := q5
            have xy := ry.cell 0
            have yy := ry.cell 1
            simp only [List.getElem?_cons_zero, List.getElem?_cons_succ] at xy yy
            have C := mul_int 60 (by decide) _ _ _ _ _ ix iy BN BT (.inl n60) BU
            go_wp2_with (go_at_call 30; with_reducible refine C.mono ?_; rintro e w3 ⟨hb3, v3, rfl, hi3⟩; obtain ⟨n3, s3, m3, q3, rfl⟩ := hi3.shape)
            go_meet
            exact ⟨rfl, BoxI.new hi3, hb3.alloc hb3.size _⟩
          case rest =>
            obtain ⟨rfl, q7, hbn⟩ := hcut
            replace q2 := q2.below hbn
            replace q5 := q5.below hbn
            replace hbe := hbe.trans (hbn.mono hbe.size)
            clear hbn
            generalize wc = wX6 at *
            go_upto_region 7 with (fail)
            go_cut [8, 9, 10] from 44 to 50 (fun v1 v2 v3 W => BoxI W v1 (N : Int) ∧ BoxI W v2 0 ∧ v3 = .int .i64 0 ∧ Below wX6.heap.size wX6 W)
            case first =>
              obtain ⟨bx, nx, ax, mx, cx, rfl, rx, ix⟩ := q7
              have xx := rx.cell 0
              have yx := rx.cell 1
              simp only [List.getElem?_cons_zero, List.getElem?_cons_succ] at xx yx
              obtain ⟨bz, ny, ay, my, cy, rfl, ry, iy⟩ := q5
              have xy := ry.cell 0
              have yy := ry.cell 1
              simp only [List.getElem?_cons_zero, List.getElem?_cons_succ] at xy yy
              have C := div_int _ _ _ _ _ ix iy BU BT hTz
              go_wp2_with (go_at_call 35; with_reducible refine C.mono ?_; rintro e w3 ⟨hb3, v3, v4, rfl, hi3, hi4⟩; obtain ⟨n3, s3, m3, q3, rfl⟩ := hi3.shape; obtain ⟨n4, s4, m4, q4, rfl⟩ := hi4.shape)
              go_meet
              rw [HE.out.2.1] at hi3
              rw [HE.out.2.2.1] at hi4
              exact boxes_two hi3 hi4 hb3
            case rest =>
              obtain ⟨q8, q9, rfl, hbn⟩ := hcut
              replace q2 := q2.below hbn
              replace q5 := q5.below hbn
              replace q7 := q7.below hbn
              replace hbe := hbe.trans (hbn.mono hbe.size)
              clear hbn
              generalize wc = wX7 at *
              go_upto_region 8 with (fail)
              go_cut [11, 12, 13] from 51 to 57 (fun v1 v2 v3 W => BoxI W v1 ((N / T : Nat) : Int) ∧ BoxI W v2 ((N : Int).fmod (T : Int)) ∧ v3 = .int .i64 0 ∧ Below wX7.heap.size wX7 W)
              case first =>
                obtain ⟨nx, ax, mx, cx, rx, ix⟩ := q2.at
                have xx := rx.cell 0
                have yx := rx.cell 1
                simp only [List.getElem?_cons_zero, List.getElem?_cons_succ] at xx yx
                obtain ⟨bz, ny, ay, my, cy, rfl, ry, iy⟩ := q5
                have xy := ry.cell 0
                have yy := ry.cell 1
                simp only [List.getElem?_cons_zero, List.getElem?_cons_succ] at xy yy
                have C := div_int _ _ _ _ _ ix iy BN BT hTz
                go_wp2_with (go_at_call 35; with_reducible refine C.mono ?_; rintro e w3 ⟨hb3, v3, v4, rfl, hi3, hi4⟩; obtain ⟨n3, s3, m3, q3, rfl⟩ := hi3.shape; obtain ⟨n4, s4, m4, q4, rfl⟩ := hi4.shape)
                go_meet
                rw [HE.out.2.2.2.1] at hi3
                exact boxes_two hi3 hi4 hb3
              case rest =>
                obtain ⟨q11, q12, rfl, hbn⟩ := hcut
                clear q12
                replace q2 := q2.below hbn
                replace q5 := q5.below hbn
                replace q7 := q7.below hbn
                replace q8 := q8.below hbn
                replace q9 := q9.below hbn
                replace hbe := hbe.trans (hbn.mono hbe.size)
                clear hbn
                generalize wc = wX8 at *
                go_upto_region 9 with (fail)
                go_cut [14, 15] from 58 to 62 (fun v1 v2 W => (∃ k : Nat, v1 = .int .i64 (k : Int) ∧ BitsIs k N ∧ k ≤ 9600) ∧ v2 = .int .i64 0 ∧ Below wX8.heap.size wX8 W)
                case first =>
                  obtain ⟨nx, ax, mx, cx, rx, ix⟩ := q2.at
                  have xx := rx.cell 0
                  have yx := rx.cell 1
                  simp only [List.getElem?_cons_zero, List.getElem?_cons_succ] at xx yx
                  have C := bits_int _ _ _ ix BN
                  go_wp2_with (go_at_call 21; with_reducible refine C.mono ?_; rintro e w3 ⟨hb3, k, rfl, hk, hkl⟩)
                  go_meet
                  have hk2 : BitsIs k N := hk
                  exact ⟨⟨k, rfl, hk2, hkl⟩, rfl, hb3⟩
                case rest =>
                  obtain ⟨⟨had, rfl, hhad, lhad⟩, rfl, hbn⟩ := hcut
                  replace q2 := q2.below hbn
                  replace q5 := q5.below hbn
                  replace q7 := q7.below hbn
                  replace q8 := q8.below hbn
                  replace q9 := q9.below hbn
                  replace q11 := q11.below hbn
                  replace hbe := hbe.trans (hbn.mono hbe.size)
                  clear hbn
                  generalize wc = wX9 at *
                  go_upto_region 10 with (fail)
                  go_cut [16, 17] from 63 to 67 (fun v1 v2 W => (∃ k : Nat, v1 = .int .i64 (k : Int) ∧ BitsIs k (N * T) ∧ k ≤ 9600) ∧ v2 = .int .i64 0 ∧ Below wX9.heap.size wX9 W)
                  case first =>
                    obtain ⟨bx, nx, ax, mx, cx, rfl, rx, ix⟩ := q7
                    have xx := rx.cell 0
                    have yx := rx.cell 1
                    simp only [List.getElem?_cons_zero, List.getElem?_cons_succ] at xx yx
                    have C := bits_int _ _ _ ix BU
                    go_wp2_with (go_at_call 21; with_reducible refine C.mono ?_; rintro e w3 ⟨hb3, k, rfl, hk, hkl⟩)
                    go_meet
                    have hk2 : BitsIs k (N * T) := by rw [HE.out.1] at hk; exact hk
                    exact ⟨⟨k, rfl, hk2, hkl⟩, rfl, hb3⟩
                  case rest =>
                    obtain ⟨⟨more, rfl, hmore, lmore⟩, rfl, hbn⟩ := hcut
                    replace q2 := q2.below hbn
                    replace q5 := q5.below hbn
                    replace q7 := q7.below hbn
                    replace q8 := q8.below hbn
                    replace q9 := q9.below hbn
                    replace q11 := q11.below hbn
                    replace hbe := hbe.trans (hbn.mono hbe.size)
                    clear hbn
                    generalize wc = wX10 at *
                    go_upto_region 11 with (fail)
                    go_cut [18, 19] from 68 to 72 (fun v1 v2 W => (∃ k : Nat, v1 = .int .i64 (k : Int) ∧ BitsIs k (N / T) ∧ k ≤ 9600) ∧ v2 = .int .i64 0 ∧ Below wX10.heap.size wX10 W)
                    case first =>
                      obtain ⟨bx, nx, ax, mx, cx, rfl, rx, ix⟩ := q11
                      have xx := rx.cell 0
                      have yx := rx.cell 1
                      simp only [List.getElem?_cons_zero, List.getElem?_cons_succ] at xx yx
                      have C := bits_int _ _ _ ix BQ
                      go_wp2_with (go_at_call 21; with_reducible refine C.mono ?_; rintro e w3 ⟨hb3, k, rfl, hk, hkl⟩)
                      go_meet
                      have hk2 : BitsIs k (N / T) := hk
                      exact ⟨⟨k, rfl, hk2, hkl⟩, rfl, hb3⟩
                    case rest =>
                      obtain ⟨⟨left, rfl, hleft, lleft⟩, rfl, hbn⟩ := hcut
                      replace q2 := q2.below hbn
                      replace q5 := q5.below hbn
                      replace q7 := q7.below hbn
                      replace q8 := q8.below hbn
                      replace q9 := q9.below hbn
                      replace q11 := q11.below hbn
                      replace hbe := hbe.trans (hbn.mono hbe.size)
                      clear hbn
                      generalize wc = wX11 at *
                      have hmul := fun h => bitsIs_mul (s := n) hhad (by rw [HE.out.2.2.2.2.2.1]; exact hmore) h
                      have hdiv := bitsIs_div (s := n) hhad (by rw [HE.out.2.2.2.2.2.1]; exact hleft)
                      clear hhad hmore hleft BN BT BU BQ n60
                      have BI : (had : Int) ≤ 9600 := by omega
                      have hmx : max (0 : Int) ((had : Int) - (n : Int)) = (left : Int) := by omega
                      have hwn : IntKind.i64.wrap (n : Int) = (n : Int) := by rw [IntKind.wrap_i64]; omega
                      obtain ⟨n2, a2, m2, c2, r2, i2⟩ := q2.at
                      obtain ⟨b8, n8, a8, m8, c8, rfl, r8, i8⟩ := q8
                      obtain ⟨b9, n9, a9, m9, c9, rfl, r9, i9⟩ := q9
                      obtain rfl : m9 = 0 := (isInt_zero i9).2 rfl
                      have hz2 := isInt_zero i2
                      clear q5 q7 q11 i9 hdiv HE hTz hT0
                      by_cases hN : N = 0
                      · obtain rfl : m2 = 0 := hz2.2 (by omega)
                        clear hmul hz2 lmore
                        go_wp2_with (first
                          | (go_at_call 16; with_reducible refine (sane_any _ (hT.below hbe)).mono ?_; rintro e w0 ⟨H0, rfl⟩; have x8 := (r8.below H0).cell 0; have y8 := (r8.below H0).cell 1; have x2 := (r2.below H0).cell 0; have y2 := (r2.below H0).cell 1; simp only [List.getElem?_cons_zero, List.getElem?_cons_succ] at x8 y8 x2 y2)
                          | (go_at_call 25; with_reducible refine (rsame_eq _ _ _ _ (i8.below H0) (i2.below H0)).mono ?_; rintro e w1 ⟨hs0, rfl⟩; have H1 := H0.trans (hs0.mono H0.size); have y9 := (r9.below H1).cell 1; have z2 := (r2.below H1).cell 1; simp only [List.getElem?_cons_zero, List.getElem?_cons_succ] at y9 z2))
                        go_ret
                        exact ⟨hbe.trans (H1.mono hbe.size), rfl⟩
                      · have hm2 : ¬ m2 = 0 := fun h => hN (by have := hz2.1 h; omega)
                        obtain rfl : more = had + n := hmul hN
                        clear hmul hz2 lmore
                        go_wp2_with (first
                          | (go_at_call 16; with_reducible refine (sane_any _ (hT.below hbe)).mono ?_; rintro e w0 ⟨H0, rfl⟩; have x8 := (r8.below H0).cell 0; have y8 := (r8.below H0).cell 1; have x2 := (r2.below H0).cell 0; have y2 := (r2.below H0).cell 1; simp only [List.getElem?_cons_zero, List.getElem?_cons_succ] at x8 y8 x2 y2)
                          | (go_at_call 25; with_reducible refine (rsame_eq _ _ _ _ (i8.below H0) (i2.below H0)).mono ?_; rintro e w1 ⟨hs0, rfl⟩; have H1 := H0.trans (hs0.mono H0.size); have y9 := (r9.below H1).cell 1; have z2 := (r2.below H1).cell 1; simp only [List.getElem?_cons_zero, List.getElem?_cons_succ] at y9 z2))
                        go_ret
                        exact ⟨hbe.trans (H1.mono hbe.size), rfl⟩

end Go.Proofs.YtlghjfpkfdnfoaaDoor

/- zermelolaw01.NumDivisors -/
namespace Go.Proofs.YtlghjfpkfdnfoaaDoor
open Go Go.RowKit Go.Shelf

theorem isInt_abs {w : World} {n : Bool} {v : Value} {i : Int} (h : IsInt w (.agg #[.bool n, v]) i) : IsInt w (.agg #[.bool false, v]) (i.natAbs : Int) := by
  obtain ⟨neg, va, xs, e, hr, hc, hn, rfl⟩ := h
  simp only [Value.agg.injEq, Array.mk.injEq, List.cons.injEq, Value.bool.injEq, and_true] at e
  obtain ⟨rfl, rfl⟩ := e
  exact ⟨false, _, xs, rfl, hr, hc, rfl, by rw [sgn_natAbs]; rfl⟩

set_option exponentiation.threshold 400 in
theorem gcd_int (va vb : Value) (i j : Int) (w : World) (ha : IsInt w va i) (hb : IsInt w vb j) (hi : i.natAbs < B32 ^ 30) (hj : j.natAbs < B32 ^ 30) :
    Calls Tryd.prog 41 #[va, vb] w fun e w' => Below w.heap.size w w' ∧ ∃ g x y k l, e = .returned (.tuple #[g, x, y, .int .i64 0]) ∧ IsInt w' g (Nat.gcd i.natAbs j.natAbs : Nat) ∧ IsInt w' x k ∧ IsInt w' y l := by
  obtain ⟨na, xa, hA, fa, rfl, ca, la⟩ := ha.at (abs_lt_up hi (by decide))
  obtain ⟨nb, xb, hB, fb, rfl, cb, lb⟩ := hb.at (abs_lt_up hj (by decide))
  rw [sgn_natAbs] at hi hj
  rw [sgn_natAbs, sgn_natAbs]
  refine (Gcd_ok va vb na nb xa xb w hA hB fa fb (Nat.gcd (val xa) (val xb) : Nat) (fun _ _ => True) (fun W hW => ?_)).mono ?_
  · obtain ⟨va', rfl, hra, hla⟩ := hA
    obtain ⟨vb', rfl, hrb, hlb⟩ := hB
    refine (divisor_any 30 (by omega) (divUpTo_le (divUpTo_all 30) (by omega) (by omega)) (by omega) va' vb' na nb xa xb W (hra.below hW) (hrb.below hW) ca cb (canon_length_le ca hi) (canon_length_le cb hj) la lb).mono ?_
    rintro e W' ⟨hbe, g, x, y, k, l, rfl, h1, h2, h3, -⟩
    exact ⟨hbe, g, x, y, k, l, rfl, h1, h2, h3, trivial⟩
  · rintro e W ⟨hbe, g, x, y, k, l, rfl, h1, h2, h3, -⟩
    exact ⟨hbe, g, x, y, k, l, rfl, h1, h2, h3⟩

theorem box_first {W W' : World} {n m p : Bool} {a b d : Option Addr} {k c l e q r : Nat} {i : Int} (h1 : IsInt W' (.agg #[.bool n, .slice a k c]) i) (hb : Below W.heap.size W W') :
    BoxI (((W'.alloc (.cells #[.bool n, .slice a k c] 24)).alloc (.cells #[.bool m, .slice b l e] 24)).alloc (.cells #[.bool p, .slice d q r] 24)) (.pointer (some ⟨W'.heap.size, 0, none⟩)) i ∧
    Below W.heap.size W (((W'.alloc (.cells #[.bool n, .slice a k c] 24)).alloc (.cells #[.bool m, .slice b l e] 24)).alloc (.cells #[.bool p, .slice d q r] 24)) := by
  have b1 := hb.alloc hb.size (.cells #[.bool n, .slice a k c] 24)
  have b2 := b1.alloc b1.size (.cells #[.bool m, .slice b l e] 24)
  exact ⟨((BoxI.new h1).alloc _).alloc _, b2.alloc b2.size _⟩

set_option maxHeartbeats 4000000 in
set_option maxRecDepth 100000 in
set_option exponentiation.threshold 400 in
theorem divisors_any (va vb vc : Value) (na nb nc : Bool) (xa xb xc : List Nat) (w : World) (ha : IntAt w va na xa) (hb : IntAt w vb nb xb) (hc : IntAt w vc nc xc) (hT : DigitsAt w) :
    Calls Tryd.prog 12 #[va, vb, vc] w fun e w' => Below w.heap.size w w' ∧ e = .returned (.bool true) := by
  obtain ⟨sa, rfl, hra, hla⟩ := ha
  obtain ⟨sb, rfl, hrb, hlb⟩ := hb
  obtain ⟨sc, rfl, hrc, hlc⟩ := hc
  obtain ⟨aa, ca, rfl, hca, hma⟩ := hra.form
  obtain ⟨ab, cb, rfl, hcb, hmb⟩ := hrb.form
  obtain ⟨ac, cc, rfl, hcc, hmc⟩ := hrc.form
  go_enter Tryd.func12, Tryd.ntmps12
  go_upto_region 0 with (fail)
  go_cut [3, 4, 5] from 0 to 2 (fun v3 v4 v5 W => BoxF W v3 na xa ∧ BoxF W v4 nb xb ∧ BoxF W v5 nc xc ∧ Below w.heap.size w W)
  case first =>
    go_wp2
    go_meet
    have B1 : Below w.heap.size w (w.alloc (.cells #[.bool na, .slice aa xa.length ca] 24)) := (Below.refl _ _).alloc (Nat.le_refl _) _
    have B2 := B1.alloc B1.size (.cells #[.bool nb, .slice ab xb.length cb] 24)
    have B3 := B2.alloc B2.size (.cells #[.bool nc, .slice ac xc.length cc] 24)
    have C1 : BoxF _ _ na xa := ⟨_, aa, ca, rfl, RowAt.new w 24 [.bool na, .slice aa xa.length ca], hra.below B1⟩
    have C2 : BoxF _ _ nb xb := ⟨_, ab, cb, rfl, RowAt.new (w.alloc (.cells #[.bool na, .slice aa xa.length ca] 24)) 24 [.bool nb, .slice ab xb.length cb], hrb.below B2⟩
    have C3 : BoxF _ _ nc xc := ⟨_, ac, cc, rfl, RowAt.new ((w.alloc (.cells #[.bool na, .slice aa xa.length ca] 24)).alloc (.cells #[.bool nb, .slice ab xb.length cb] 24)) 24 [.bool nc, .slice ac xc.length cc], hrc.below B3⟩
    simp only [World.size_alloc] at C2 C3
    exact ⟨(C1.below ((Below.refl _ _).alloc (Nat.le_refl _) _)).below ((Below.refl _ _).alloc (Nat.le_refl _) _), C2.below ((Below.refl _ _).alloc (Nat.le_refl _) _), C3, B3⟩
  case rest =>
    obtain ⟨q1, q2, q3, hbe⟩ := hcut
    clear hra hrb hrc hca hcb hcc hma hmb hmc
    have hT1 := hT.below hbe
    obtain ⟨b1, a1, c1, rfl, r1, j1⟩ := q1
    obtain ⟨b2, a2, c2, rfl, r2, j2⟩ := q2
    obtain ⟨b3, a3, c3, rfl, r3, j3⟩ := q3
    have d11 := r1.cell 0
    have d12 := r1.cell 1
    have d21 := r2.cell 0
    have d22 := r2.cell 1
    have d31 := r3.cell 0
    have d32 := r3.cell 1
    simp only [List.getElem?_cons_zero, List.getElem?_cons_succ] at d11 d12 d21 d22 d31 d32
    have hnew := RowAt.new wc 24 [.bool na, .slice a1 xa.length c1, .bool nb, .slice a2 xb.length c2, .bool nc, .slice a3 xc.length c3]
    have hB : Below wc.heap.size wc (wc.alloc (.cells #[.bool na, .slice a1 xa.length c1, .bool nb, .slice a2 xb.length c2, .bool nc, .slice a3 xc.length c3] 24)) := (Below.refl _ _).alloc (Nat.le_refl _) _
    have hf := formed_list [(na, .slice a1 xa.length c1, xa), (nb, .slice a2 xb.length c2, xb), (nc, .slice a3 xc.length c3, xc)] 8 wc.heap.size _ hnew (by simp) (by
      intro it hit
      simp only [List.mem_cons, List.not_mem_nil, or_false] at hit
      rcases hit with rfl | rfl | rfl
      · exact ⟨j1.below hB, hla⟩
      · exact ⟨j2.below hB, hlb⟩
      · exact ⟨j3.below hB, hlc⟩)
    simp only [List.length_cons, List.length_nil] at hf
    have hsz := hbe.size
    cases hall : List.all [(na, Value.slice a1 xa.length c1, xa), (nb, Value.slice a2 xb.length c2, xb), (nc, Value.slice a3 xc.length c3, xc)] (fitB 8) with
    | false =>
      rw [hall] at hf
      clear hnew hall
      go_wp2_with (first
        | (go_at_call 50; refine hf.mono ?_; rintro e w2 ⟨hb2, rfl⟩)
        | (go_at_call 16; refine (sane_any _ ((hT1.below hB).below hb2)).mono ?_; rintro e w3 ⟨hb3, rfl⟩))
      go_ret
      have e1 := hB.trans (hb2.mono hB.size)
      have e2 := e1.trans (hb3.mono e1.size)
      exact ⟨hbe.trans (e2.mono hsz), rfl⟩
    | true =>
      rw [hall] at hf
      have hA := Lib.hid hall
      clear hnew hall
      go_upto_region 3 with (go_at_call 50; refine hf.mono ?_; rintro e w2 ⟨hb2, rfl⟩)
      have e1 := hB.trans (hb2.mono hB.size)
      obtain ⟨⟨f1, l1⟩, ⟨f2, l2⟩, ⟨f3, l3⟩⟩ : (formedB na xa = true ∧ xa.length ≤ 8) ∧ (formedB nb xb = true ∧ xb.length ≤ 8) ∧ (formedB nc xc = true ∧ xc.length ≤ 8) := by
        have := hA.out
        simp only [List.all_cons, List.all_nil, fitB, Bool.and_true, Bool.and_eq_true, decide_eq_true_eq] at this
        exact ⟨⟨this.1.1, by omega⟩, ⟨this.2.1.1, by omega⟩, ⟨this.2.2.1, by omega⟩⟩
      have k1 := (IntAt.isInt ⟨_, rfl, j1.below e1, hla⟩ f1 : IsInt w2 (.agg #[.bool na, .slice a1 xa.length c1]) (sgn na (val xa)))
      have k2 := (IntAt.isInt ⟨_, rfl, j2.below e1, hlb⟩ f2 : IsInt w2 (.agg #[.bool nb, .slice a2 xb.length c2]) (sgn nb (val xb)))
      have k3 := (IntAt.isInt ⟨_, rfl, j3.below e1, hlc⟩ f3 : IsInt w2 (.agg #[.bool nc, .slice a3 xc.length c3]) (sgn nc (val xc)))
      have n1 : (sgn na (val xa)).natAbs < B32 ^ 8 := by rw [sgn_natAbs]; exact (canon_length_iff (formedB_bounds hla f1).1 8).1 l1
      have n2 : (sgn nb (val xb)).natAbs < B32 ^ 8 := by rw [sgn_natAbs]; exact (canon_length_iff (formedB_bounds hlb f2).1 8).1 l2
      have n3 : (sgn nc (val xc)).natAbs < B32 ^ 8 := by rw [sgn_natAbs]; exact (canon_length_iff (formedB_bounds hlc f3).1 8).1 l3
      have q3 : BoxI w2 (.pointer (some ⟨b1, 0, none⟩)) (sgn na (val xa)) := ⟨b1, na, a1, xa.length, c1, rfl, r1.below e1, k1⟩
      have q4 : BoxI w2 (.pointer (some ⟨b2, 0, none⟩)) (sgn nb (val xb)) := ⟨b2, nb, a2, xb.length, c2, rfl, r2.below e1, k2⟩
      have q5 : BoxI w2 (.pointer (some ⟨b3, 0, none⟩)) (sgn nc (val xc)) := ⟨b3, nc, a3, xc.length, c3, rfl, r3.below e1, k3⟩
      replace hbe := hbe.trans (e1.mono hsz)
      clear hA hf l1 l2 l3 f1 f2 f3 d11 d12 d21 d22 d31 d32 hb2 hB e1 r1 r2 r3 j1 j2 j3 hsz hT1 hla hlb hlc k1 k2 k3
      generalize sgn na (val xa) = i at *
      generalize sgn nb (val xb) = j at *
      generalize sgn nc (val xc) = k at *
      obtain ⟨G, hG⟩ : ∃ G, Nat.gcd i.natAbs j.natAbs = G := ⟨_, rfl⟩
      have gi : (G : Int) ∣ i := by rw [← hG]; exact Int.ofNat_dvd_left.2 (Nat.gcd_dvd_left _ _)
      have gj : (G : Int) ∣ j := by rw [← hG]; exact Int.ofNat_dvd_left.2 (Nat.gcd_dvd_right _ _)
      have hGb : ((G : Nat) : Int).natAbs < B32 ^ 8 := by
        rw [Int.natAbs_natCast, ← hG]
        rcases Nat.eq_zero_or_pos i.natAbs with h0 | h0
        · rw [h0, Nat.gcd_zero_left]; exact n2
        · exact Nat.lt_of_le_of_lt (Nat.gcd_le_left _ h0) n1
      have hGk : Nat.gcd (i * k).natAbs (j * k).natAbs = G * k.natAbs := by rw [Int.natAbs_mul, Int.natAbs_mul, Nat.gcd_mul_right, hG]
      have hGk2 : ((G : Nat) : Int) * (k.natAbs : Int) = ((G * k.natAbs : Nat) : Int) := by simp
      have cX : (i * k).natAbs < B32 ^ 16 := abs_mul_lt n1 n3
      have cY : (j * k).natAbs < B32 ^ 16 := abs_mul_lt n2 n3
      have nK : ((k.natAbs : Nat) : Int).natAbs < B32 ^ 8 := by rw [Int.natAbs_natCast]; exact n3
      have cW : (((G : Nat) : Int) * (k.natAbs : Int)).natAbs < B32 ^ 16 := abs_mul_lt hGb nK
      have Bi := b32_up n1 (by decide)
      have Bj := b32_up n2 (by decide)
      have Bk := b32_up n3 (by decide)
      have BG := b32_up hGb (by decide)
      have BK := b32_up nK (by decide)
      have BX := b32_up cX (by decide)
      have BY := b32_up cY (by decide)
      have BW := b32_up cW (by decide)
      have i30 := abs_lt_up n1 (show 8 ≤ 30 by decide)
      have j30 := abs_lt_up n2 (show 8 ≤ 30 by decide)
      have x30 := abs_lt_up cX (show 16 ≤ 30 by decide)
      have y30 := abs_lt_up cY (show 16 ≤ 30 by decide)
      have HE := Lib.hid (And.intro hG (And.intro hGk (And.intro hGk2 (And.intro gi gj))))
      have N1 := n1
      have N3 := n3
      clear hG hGk hGk2 gi gj cX cY cW nK n1 n2 n3
      generalize w2 = wX2 at *
      go_upto_region 3 with (fail)
      go_cut [7, 8, 9, 10] from 33 to 40 (fun v1 v2 v3 v4 W => BoxI W v1 (G : Int) ∧ v4 = .int .i64 0 ∧ Below wX2.heap.size wX2 W)
      case first =>
        obtain ⟨n1, a1, m1, c1, r1, i1⟩ := q3.at
        have x1 := r1.cell 0
        have y1 := r1.cell 1
        simp only [List.getElem?_cons_zero, List.getElem?_cons_succ] at x1 y1
        obtain ⟨n2, a2, m2, c2, r2, i2⟩ := q4.at
        have x2 := r2.cell 0
        have y2 := r2.cell 1
        simp only [List.getElem?_cons_zero, List.getElem?_cons_succ] at x2 y2
        have C := gcd_int _ _ _ _ _ i1 i2 i30 j30
        go_wp2_with (go_at_call 41; with_reducible refine C.mono ?_; rintro e w3 ⟨hb3, v3, v4, v5, k4, k5, rfl, hi3, hi4, hi5⟩; obtain ⟨n3, s3, m3, q3, rfl⟩ := hi3.shape; obtain ⟨n4, s4, m4, q4, rfl⟩ := hi4.shape; obtain ⟨n5, s5, m5, q5, rfl⟩ := hi5.shape)
        go_meet
        rw [HE.out.1] at hi3
        obtain ⟨z1, z2⟩ := box_first hi3 hb3
        exact ⟨z1, rfl, z2⟩
      case rest =>
        obtain ⟨q7, rfl, hbn⟩ := hcut
        replace q3 := q3.below hbn
        replace q4 := q4.below hbn
        replace q5 := q5.below hbn
        replace hbe := hbe.trans (hbn.mono hbe.size)
        clear hbn
        generalize wc = wX3 at *
        go_upto_region 4 with (fail)
        go_cut [11, 12] from 41 to 46 (fun v1 v2 W => BoxI W v1 (i * k) ∧ v2 = .int .i64 0 ∧ Below wX3.heap.size wX3 W)
        case first =>
          obtain ⟨n1, a1, m1, c1, r1, i1⟩ := q3.at
          have x1 := r1.cell 0
          have y1 := r1.cell 1
          simp only [List.getElem?_cons_zero, List.getElem?_cons_succ] at x1 y1
          obtain ⟨n2, a2, m2, c2, r2, i2⟩ := q5.at
          have x2 := r2.cell 0
          have y2 := r2.cell 1
          simp only [List.getElem?_cons_zero, List.getElem?_cons_succ] at x2 y2
          have C := mul_int 8 (by decide) _ _ _ _ _ i1 i2 Bi Bk (.inl N1) BX
          go_wp2_with (go_at_call 30; with_reducible refine C.mono ?_; rintro e w3 ⟨hb3, v3, rfl, hi3⟩; obtain ⟨n3, s3, m3, q3, rfl⟩ := hi3.shape)
          go_meet
          exact ⟨BoxI.new hi3, rfl, hb3.alloc hb3.size _⟩
        case rest =>
          obtain ⟨q11, rfl, hbn⟩ := hcut
          replace q3 := q3.below hbn
          replace q4 := q4.below hbn
          replace q5 := q5.below hbn
          replace q7 := q7.below hbn
          replace hbe := hbe.trans (hbn.mono hbe.size)
          clear hbn
          generalize wc = wX4 at *
          go_upto_region 5 with (fail)
          go_cut [13, 14] from 47 to 52 (fun v1 v2 W => BoxI W v1 (j * k) ∧ v2 = .int .i64 0 ∧ Below wX4.heap.size wX4 W)
          case first =>
            obtain ⟨n1, a1, m1, c1, r1, i1⟩ := q4.at
            have x1 := r1.cell 0
            have y1 := r1.cell 1
            simp only [List.getElem?_cons_zero, List.getElem?_cons_succ] at x1 y1
            obtain ⟨n2, a2, m2, c2, r2, i2⟩ := q5.at
            have x2 := r2.cell 0
            have y2 := r2.cell 1
            simp only [List.getElem?_cons_zero, List.getElem?_cons_succ] at x2 y2
            have C := mul_int 8 (by decide) _ _ _ _ _ i1 i2 Bj Bk (.inr N3) BY
            go_wp2_with (go_at_call 30; with_reducible refine C.mono ?_; rintro e w3 ⟨hb3, v3, rfl, hi3⟩; obtain ⟨n3, s3, m3, q3, rfl⟩ := hi3.shape)
            go_meet
            exact ⟨BoxI.new hi3, rfl, hb3.alloc hb3.size _⟩
          case rest =>
            obtain ⟨q13, rfl, hbn⟩ := hcut
            replace q3 := q3.below hbn
            replace q4 := q4.below hbn
            replace q5 := q5.below hbn
            replace q7 := q7.below hbn
            replace q11 := q11.below hbn
            replace hbe := hbe.trans (hbn.mono hbe.size)
            clear hbn
            generalize wc = wX5 at *
            go_upto_region 6 with (fail)
            go_cut [15, 16, 17, 18] from 53 to 60 (fun v1 v2 v3 v4 W => BoxI W v1 ((G * k.natAbs : Nat) : Int) ∧ v4 = .int .i64 0 ∧ Below wX5.heap.size wX5 W)
            case first =>
              obtain ⟨b1, n1, a1, m1, c1, rfl, r1, i1⟩ := q11
              have x1 := r1.cell 0
              have y1 := r1.cell 1
              simp only [List.getElem?_cons_zero, List.getElem?_cons_succ] at x1 y1
              obtain ⟨b2, n2, a2, m2, c2, rfl, r2, i2⟩ := q13
              have x2 := r2.cell 0
              have y2 := r2.cell 1
              simp only [List.getElem?_cons_zero, List.getElem?_cons_succ] at x2 y2
              have C := gcd_int _ _ _ _ _ i1 i2 x30 y30
              go_wp2_with (go_at_call 41; with_reducible refine C.mono ?_; rintro e w3 ⟨hb3, v3, v4, v5, k4, k5, rfl, hi3, hi4, hi5⟩; obtain ⟨n3, s3, m3, q3, rfl⟩ := hi3.shape; obtain ⟨n4, s4, m4, q4, rfl⟩ := hi4.shape; obtain ⟨n5, s5, m5, q5, rfl⟩ := hi5.shape)
              go_meet
              rw [HE.out.2.1] at hi3
              obtain ⟨z1, z2⟩ := box_first hi3 hb3
              exact ⟨z1, rfl, z2⟩
            case rest =>
              obtain ⟨q15, rfl, hbn⟩ := hcut
              replace q3 := q3.below hbn
              replace q4 := q4.below hbn
              replace q5 := q5.below hbn
              replace q7 := q7.below hbn
              replace q11 := q11.below hbn
              replace q13 := q13.below hbn
              replace hbe := hbe.trans (hbn.mono hbe.size)
              clear hbn
              generalize wc = wX6 at *
              obtain ⟨n1, a1, m1, c1, r1, i1⟩ := q5.at
              have x1 := r1.cell 0
              have y1 := r1.cell 1
              simp only [List.getElem?_cons_zero, List.getElem?_cons_succ] at x1 y1
              go_upto_region 9 with (fail)
              clear x1 y1
              have q19 := BoxI.new (isInt_abs i1)
              have hbn := (Below.refl wX6.heap.size wX6).alloc (Nat.le_refl _) (.cells #[.bool false, .slice a1 m1 c1] 24)
              clear r1 i1
              replace q3 := q3.below hbn
              replace q4 := q4.below hbn
              replace q5 := q5.below hbn
              replace q7 := q7.below hbn
              replace q11 := q11.below hbn
              replace q13 := q13.below hbn
              replace q15 := q15.below hbn
              replace hbe := hbe.trans (hbn.mono hbe.size)
              clear hbn
              generalize wX6.alloc (.cells #[.bool false, .slice a1 m1 c1] 24) = wX7 at *
              go_cut [20, 21] from 63 to 68 (fun v1 v2 W => BoxI W v1 ((G * k.natAbs : Nat) : Int) ∧ v2 = .int .i64 0 ∧ Below wX7.heap.size wX7 W)
              case first =>
                obtain ⟨b1, n1, a1, m1, c1, rfl, r1, i1⟩ := q7
                have x1 := r1.cell 0
                have y1 := r1.cell 1
                simp only [List.getElem?_cons_zero, List.getElem?_cons_succ] at x1 y1
                obtain ⟨n2, a2, m2, c2, r2, i2⟩ := q19.at
                have x2 := r2.cell 0
                have y2 := r2.cell 1
                simp only [List.getElem?_cons_zero, List.getElem?_cons_succ] at x2 y2
                have C := mul_int 8 (by decide) _ _ _ _ _ i1 i2 BG BK (.inl hGb) BW
                go_wp2_with (go_at_call 30; with_reducible refine C.mono ?_; rintro e w3 ⟨hb3, v3, rfl, hi3⟩; obtain ⟨n3, s3, m3, q3, rfl⟩ := hi3.shape)
                go_meet
                rw [HE.out.2.2.1] at hi3
                exact ⟨BoxI.new hi3, rfl, hb3.alloc hb3.size _⟩
              case rest =>
                obtain ⟨q20, rfl, hbn⟩ := hcut
                replace q3 := q3.below hbn
                replace q4 := q4.below hbn
                replace q5 := q5.below hbn
                replace q7 := q7.below hbn
                replace q11 := q11.below hbn
                replace q13 := q13.below hbn
                replace q15 := q15.below hbn
                replace q19 := q19.below hbn
                replace hbe := hbe.trans (hbn.mono hbe.size)
                clear hbn
                generalize wc = wX9 at *
                clear q5 q11 q13 q19 BX BY BW BK Bk i30 j30 x30 y30 N1 N3
                obtain ⟨b1, n1, a1, m1, c1, rfl, r1, i1⟩ := q15
                have x1 := r1.cell 0
                have y1 := r1.cell 1
                simp only [List.getElem?_cons_zero, List.getElem?_cons_succ] at x1 y1
                obtain ⟨b2, n2, a2, m2, c2, rfl, r2, i2⟩ := q20
                have x2 := r2.cell 0
                have y2 := r2.cell 1
                simp only [List.getElem?_cons_zero, List.getElem?_cons_succ] at x2 y2
                have C := rsame_eq _ _ _ _ i1 i2
                clear i1 i2 r1 r2
                go_upto_region 12 with (go_at_call 25; with_reducible refine C.mono ?_; rintro e wY ⟨hbn, rfl⟩)
                clear C x1 y1 x2 y2
                replace q3 := q3.below hbn
                replace q4 := q4.below hbn
                replace q7 := q7.below hbn
                replace hbe := hbe.trans (hbn.mono hbe.size)
                clear hbn
                obtain ⟨b7, n7, a7, m7, c7, rfl, r7, i7⟩ := q7
                have hz := isInt_zero i7
                have y7 := r7.cell 1
                simp only [List.getElem?_cons_zero, List.getElem?_cons_succ] at y7
                by_cases hm : m7 = 0
                · subst hm
                  clear hz i7 r7 q3 q4
                  go_wp2_with (go_at_call 16; refine (sane_any _ (hT.below hbe)).mono ?_; rintro e w3 ⟨hb3, rfl⟩)
                  go_ret
                  exact ⟨hbe.trans (hb3.mono hbe.size), rfl⟩
                · have hG0 : (G : Int) ≠ 0 := fun h => hm (hz.2 h)
                  have e1 : i.fmod (G : Int) = 0 := Int.fmod_eq_zero_of_dvd HE.out.2.2.2.1
                  have e2 : j.fmod (G : Int) = 0 := Int.fmod_eq_zero_of_dvd HE.out.2.2.2.2
                  have q7 : BoxI wY (.pointer (some ⟨b7, 0, none⟩)) (G : Int) := ⟨b7, n7, a7, m7, c7, rfl, r7, i7⟩
                  have HZ := Lib.hid (And.intro e1 e2)
                  clear hz e1 e2 i7 r7
                  go_upto_region 14 with (fail)
                  clear y7
                  go_cut [10, 22, 23] from 93 to 104 (fun v1 v2 v3 W => v1 = .int .i64 0 ∧ BoxI W v3 0 ∧ Below wY.heap.size wY W)
                  case first =>
                    obtain ⟨n1, a1, m1, c1, r1, i1⟩ := q3.at
                    have x1 := r1.cell 0
                    have y1 := r1.cell 1
                    simp only [List.getElem?_cons_zero, List.getElem?_cons_succ] at x1 y1
                    obtain ⟨n2, a2, m2, c2, r2, i2⟩ := q7.at
                    have x2 := r2.cell 0
                    have y2 := r2.cell 1
                    simp only [List.getElem?_cons_zero, List.getElem?_cons_succ] at x2 y2
                    have C := div_int _ _ _ _ _ i1 i2 Bi BG hG0
                    go_wp2_with (go_at_call 35; with_reducible refine C.mono ?_; rintro e w3 ⟨hb3, v3, v4, rfl, hi3, hi4⟩; obtain ⟨n3, s3, m3, q3, rfl⟩ := hi3.shape; obtain ⟨n4, s4, m4, q4, rfl⟩ := hi4.shape)
                    go_meet
                    rw [HZ.out.1] at hi4
                    obtain ⟨z1, z2, -, z4⟩ := boxes_two hi3 hi4 hb3
                    exact ⟨rfl, z2, z4⟩
                  case rest =>
                    obtain ⟨rfl, q23, hbn⟩ := hcut
                    replace q3 := q3.below hbn
                    replace q4 := q4.below hbn
                    replace q7 := q7.below hbn
                    replace hbe := hbe.trans (hbn.mono hbe.size)
                    clear hbn
                    generalize wc = wX14 at *
                    go_upto_region 15 with (fail)
                    go_cut [12, 24, 25] from 105 to 111 (fun v1 v2 v3 W => v1 = .int .i64 0 ∧ BoxI W v3 0 ∧ Below wX14.heap.size wX14 W)
                    case first =>
                      obtain ⟨n1, a1, m1, c1, r1, i1⟩ := q4.at
                      have x1 := r1.cell 0
                      have y1 := r1.cell 1
                      simp only [List.getElem?_cons_zero, List.getElem?_cons_succ] at x1 y1
                      obtain ⟨n2, a2, m2, c2, r2, i2⟩ := q7.at
                      have x2 := r2.cell 0
                      have y2 := r2.cell 1
                      simp only [List.getElem?_cons_zero, List.getElem?_cons_succ] at x2 y2
                      have C := div_int _ _ _ _ _ i1 i2 Bj BG hG0
                      go_wp2_with (go_at_call 35; with_reducible refine C.mono ?_; rintro e w3 ⟨hb3, v3, v4, rfl, hi3, hi4⟩; obtain ⟨n3, s3, m3, q3, rfl⟩ := hi3.shape; obtain ⟨n4, s4, m4, q4, rfl⟩ := hi4.shape)
                      go_meet
                      rw [HZ.out.2] at hi4
                      obtain ⟨z1, z2, -, z4⟩ := boxes_two hi3 hi4 hb3
                      exact ⟨rfl, z2, z4⟩
                    case rest =>
                      obtain ⟨rfl, q25, hbn⟩ := hcut
                      replace q3 := q3.below hbn
                      replace q4 := q4.below hbn
                      replace q7 := q7.below hbn
                      replace q23 := q23.below hbn
                      replace hbe := hbe.trans (hbn.mono hbe.size)
                      clear hbn
                      generalize wc = wX15 at *
                      obtain ⟨b23, n23, a23, m23, c23, rfl, r23, i23⟩ := q23
                      obtain ⟨b25, n25, a25, m25, c25, rfl, r25, i25⟩ := q25
                      obtain rfl : m23 = 0 := (isInt_zero i23).2 rfl
                      obtain rfl : m25 = 0 := (isInt_zero i25).2 rfl
                      clear q3 q4 q7 i23 i25
                      go_wp2_with (go_at_call 16; refine (sane_any _ (hT.below hbe)).mono ?_; rintro e w3 ⟨hb3, rfl⟩; have y23 := (r23.below hb3).cell 1; have y25 := (r25.below hb3).cell 1; simp only [List.getElem?_cons_zero, List.getElem?_cons_succ] at y23 y25)
                      go_ret
                      exact ⟨hbe.trans (hb3.mono hbe.size), rfl⟩

end Go.Proofs.YtlghjfpkfdnfoaaDoor
