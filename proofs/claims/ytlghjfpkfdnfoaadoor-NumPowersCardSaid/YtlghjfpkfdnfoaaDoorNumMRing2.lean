/- num.Check, num.demandFormed -/
import Derived.Test.YtlghjfpkfdnfoaaDoorNumMAttempt
import Derived.LoopN
namespace Go.Proofs.YtlghjfpkfdnfoaaDoor
open Go Go.RowKit Go.Shelf

theorem trimmed_of_last {xs : List Nat} (h : xs[xs.length - 1]?.getD 0 ≠ 0) : trimmed xs = xs := by
  rcases List.eq_nil_or_concat xs with rfl | ⟨ys, y, rfl⟩
  · rfl
  · simp at h
    simp [trimmed, h]

/-- an integer of the API: the sign, the limbs; whether it is formed -/
def IntAt (w : World) (v : Value) (neg : Bool) (xs : List Nat) : Prop := ∃ va, v = .agg #[.bool neg, va] ∧ Reads .u32 w va xs ∧ Limbs xs
def formedB (neg : Bool) (xs : List Nat) : Bool := decide (xs.length ≤ 300) && decide (trimmed xs = xs) && !(neg && decide (xs.length = 0))

set_option maxHeartbeats 1000000 in
set_option maxRecDepth 100000 in
theorem check_ok (v : Value) (neg : Bool) (xs : List Nat) (w : World) (h : IntAt w v neg xs) (hf : formedB neg xs = true) :
    Calls Tryd.prog 17 #[v] w fun e w' => Below w.heap.size w w' ∧ e = .returned (.int .i64 0) := by
  obtain ⟨va, rfl, hr, hl⟩ := h
  obtain ⟨a, c, rfl, hc, hm⟩ := hr.form
  unfold maxLen at hm
  simp only [formedB, Bool.and_eq_true, decide_eq_true_eq, Bool.not_eq_true', Bool.and_eq_false_iff, decide_eq_false_iff_not] at hf
  obtain ⟨⟨h1, h2⟩, h3⟩ := hf
  by_cases hx : xs.length = 0
  · have h4 : neg = false := by rcases h3 with h | h; exact h; exact absurd hx h
    subst h4
    go_enter Tryd.func17, Tryd.ntmps17
    go_wp2
    exact bodyPost_ret (v := .int .i64 0) (by simp [results, Tryd.results17, go_sem]) rfl ⟨(Below.refl _ _).alloc (Nat.le_refl _) _, rfl⟩
  · have he : ((xs.length - 1 : Nat) : Int) = (xs.length : Int) - 1 := by omega
    have hlast := canon_last (xs := xs) ⟨hl, h2⟩ (by intro e; subst e; simp at hx)
    have b0 := (Below.refl w.heap.size w).alloc (Nat.le_refl _) (.cells #[.bool neg, .slice a xs.length c] 24)
    have hcell := (hr.below b0).cell (xs.length - 1) (by omega)
    have hix := fun W => hr.index und_limbs size_limb (P := Tryd.prog) (xs.length - 1) .i64 W (by omega)
    rw [he] at hix
    obtain ⟨top, hT⟩ : ∃ top, xs[xs.length - 1]?.getD 0 = top := ⟨_, rfl⟩
    rw [hT] at hcell hlast
    generalize xs.length - 1 = k at *
    have hne : ¬ (top : Int) = 0 := by omega
    go_enter Tryd.func17, Tryd.ntmps17
    go_wp2
    exact bodyPost_ret (v := .int .i64 0) (by simp [results, Tryd.results17, go_sem]) rfl ⟨(Below.refl _ _).alloc (Nat.le_refl _) _, rfl⟩

set_option maxHeartbeats 1000000 in
set_option maxRecDepth 100000 in
theorem check_no (v : Value) (neg : Bool) (xs : List Nat) (w : World) (h : IntAt w v neg xs) (hf : formedB neg xs = false) :
    Calls Tryd.prog 17 #[v] w fun e w' => Below w.heap.size w w' ∧ e = .returned (.int .i64 1) := by
  obtain ⟨va, rfl, hr, hl⟩ := h
  obtain ⟨a, c, rfl, hc, hm⟩ := hr.form
  unfold maxLen at hm
  by_cases h1 : 300 < xs.length
  · clear hf
    go_enter Tryd.func17, Tryd.ntmps17
    go_wp2
    exact bodyPost_ret (v := .int .i64 1) (by simp [results, Tryd.results17, go_sem]) rfl ⟨(Below.refl _ _).alloc (Nat.le_refl _) _, rfl⟩
  by_cases hx : xs.length = 0
  · have h4 : neg = true := by
      have : xs = [] := List.eq_nil_of_length_eq_zero hx
      subst this
      cases neg <;> simp_all [formedB, trimmed]
    subst h4
    clear hf
    go_enter Tryd.func17, Tryd.ntmps17
    go_wp2
    exact bodyPost_ret (v := .int .i64 1) (by simp [results, Tryd.results17, go_sem]) rfl ⟨(Below.refl _ _).alloc (Nat.le_refl _) _, rfl⟩
  · have hlast : xs[xs.length - 1]?.getD 0 = 0 := by
      apply Classical.byContradiction
      intro hc
      have := trimmed_of_last hc
      simp_all [formedB]
    clear hf
    have he : ((xs.length - 1 : Nat) : Int) = (xs.length : Int) - 1 := by omega
    have b0 := (Below.refl w.heap.size w).alloc (Nat.le_refl _) (.cells #[.bool neg, .slice a xs.length c] 24)
    have hcell := (hr.below b0).cell (xs.length - 1) (by omega)
    have hix := fun W => hr.index und_limbs size_limb (P := Tryd.prog) (xs.length - 1) .i64 W (by omega)
    rw [he] at hix
    rw [hlast] at hcell
    generalize xs.length - 1 = k at *
    go_enter Tryd.func17, Tryd.ntmps17
    go_wp2
    exact bodyPost_ret (v := .int .i64 1) (by simp [results, Tryd.results17, go_sem]) rfl ⟨(Below.refl _ _).alloc (Nat.le_refl _) _, rfl⟩

end Go.Proofs.YtlghjfpkfdnfoaaDoor

/- zermeloref01: Formed, Same -/
namespace Go.Proofs.YtlghjfpkfdnfoaaDoor
open Go Go.RowKit Go.Shelf

set_option maxHeartbeats 1000000 in
set_option maxRecDepth 100000 in
theorem rformed_any (v : Value) (neg : Bool) (xs : List Nat) (w : World) (h : IntAt w v neg xs) :
    Calls Tryd.prog 19 #[v] w fun e w' => Below w.heap.size w w' ∧ e = .returned (.bool (formedB neg xs)) := by
  obtain ⟨va, rfl, hr, hl⟩ := h
  obtain ⟨a, c, rfl, hc, hm⟩ := hr.form
  unfold maxLen at hm
  by_cases hx : xs.length = 0
  · have hB : formedB neg xs = !neg := by
      have : xs = [] := List.eq_nil_of_length_eq_zero hx
      subst this
      cases neg <;> rfl
    rw [hB]
    have hx' : (((xs.length : Nat) : Int) == 0) = true := by simp [hx]
    clear hB
    go_enter Tryd.func19, Tryd.ntmps19
    go_wp2
    go_ret
    exact ⟨(Below.refl _ _).alloc (Nat.le_refl _) _, rfl⟩
  · have hx' : (((xs.length : Nat) : Int) == 0) = false := beq_eq_false_iff_ne.2 (by omega)
    by_cases h1 : 300 < xs.length
    · have hB : formedB neg xs = false := by simp [formedB, show ¬ xs.length ≤ 300 by omega]
      rw [hB]
      have hd : decide ((xs.length : Int) ≤ 300) = false := by simp; omega
      clear hB
      go_enter Tryd.func19, Tryd.ntmps19
      go_wp2
      go_ret
      exact ⟨(Below.refl _ _).alloc (Nat.le_refl _) _, rfl⟩
    · have hd : decide ((xs.length : Int) ≤ 300) = true := by simp; omega
      have he : ((xs.length - 1 : Nat) : Int) = (xs.length : Int) - 1 := by omega
      have b0 := (Below.refl w.heap.size w).alloc (Nat.le_refl _) (.cells #[.bool neg, .slice a xs.length c] 24)
      have hcell := (hr.below b0).cell (xs.length - 1) (by omega)
      have hix := fun W => hr.index und_limbs size_limb (P := Tryd.prog) (xs.length - 1) .i64 W (by omega)
      rw [he] at hix
      have hbx : ¬ (xs.length : Int) ≤ 0 := by omega
      by_cases ht : xs[xs.length - 1]?.getD 0 = 0
      · have hB : formedB neg xs = false := by
          have h2 : trimmed xs ≠ xs := fun e => canon_last (xs := xs) ⟨hl, e⟩ (by intro e; subst e; simp at hx) ht
          simp [formedB, h2]
        rw [hB]
        rw [ht] at hcell
        clear hB ht
        generalize xs.length - 1 = k at *
        go_enter Tryd.func19, Tryd.ntmps19
        go_wp2
        go_ret
        exact ⟨(Below.refl _ _).alloc (Nat.le_refl _) _, rfl⟩
      · have hB : formedB neg xs = true := by
          have h2 : trimmed xs = xs := trimmed_of_last ht
          simp [formedB, h2, show xs.length ≤ 300 by omega]
          exact .inr (by intro e; simp [e] at hx)
        rw [hB]
        obtain ⟨top, hT⟩ : ∃ top, xs[xs.length - 1]?.getD 0 = top := ⟨_, rfl⟩
        rw [hT] at hcell ht
        have hne : (((top : Nat) : Int) != 0) = true := by simp; omega
        clear hB hT ht
        generalize xs.length - 1 = k at *
        go_enter Tryd.func19, Tryd.ntmps19
        go_wp2
        go_ret
        exact ⟨(Below.refl _ _).alloc (Nat.le_refl _) _, rfl⟩

theorem below_drewN {B : Nat} {w W : World} (h : Below B w W) (n : Nat) : Below B w (W.drewN n) := ⟨h.os, h.tape, h.output, h.size, h.block⟩
/-- whether two integers of the API are the same -/
def sameB (na nb : Bool) (xa xb : List Nat) : Bool := decide (na = nb) && decide (xa = xb)

set_option maxHeartbeats 1000000 in
set_option maxRecDepth 100000 in
theorem rsame_any (va vb : Value) (na nb : Bool) (xa xb : List Nat) (w : World) (ha : IntAt w va na xa) (hb : IntAt w vb nb xb) :
    Calls Tryd.prog 25 #[va, vb] w fun e w' => Below w.heap.size w w' ∧ e = .returned (.bool (sameB na nb xa xb)) := by
  obtain ⟨sa, rfl, hra, hla⟩ := ha
  obtain ⟨sb, rfl, hrb, hlb⟩ := hb
  obtain ⟨aa, ca, rfl, hca, hma⟩ := hra.form
  obtain ⟨ab, cb, rfl, hcb, hmb⟩ := hrb.form
  unfold maxLen at hma hmb
  have b0 := ((Below.refl w.heap.size w).alloc (Nat.le_refl _) (.cells #[.bool na, .slice aa xa.length ca] 24)).alloc (by simp) (.cells #[.bool nb, .slice ab xb.length cb] 24)
  by_cases hn : na = nb
  · subst hn
    have hn1 : (na != na) = false := by simp
    by_cases hl : xa.length = xb.length
    · have hl1 : (((xa.length : Nat) : Int) != (xb.length : Int)) = false := by rw [hl]; simp
      have hB : sameB na na xa xb = decide (xa = xb) := by simp [sameB]
      rw [hB]
      have HL := Lib.hid hl
      have hra0 := hra.below b0
      have hrb0 := hrb.below b0
      clear hl hB
      have HN1 := Lib.hid hn1
      obtain ⟨W0, hW0⟩ : ∃ W0, (w.alloc (.cells #[.bool na, .slice aa xa.length ca] 24)).alloc (.cells #[.bool na, .slice ab xb.length cb] 24) = W0 := ⟨_, rfl⟩
      have ra := (RowAt.new w 24 [.bool na, .slice aa xa.length ca]).alloc (.cells #[.bool na, .slice ab xb.length cb] 24)
      have rb := RowAt.new (w.alloc (.cells #[.bool na, .slice aa xa.length ca] 24)) 24 [.bool na, .slice ab xb.length cb]
      simp only [World.size_alloc] at rb
      rw [hW0] at ra rb hra0 hrb0 b0
      have HW := Lib.hid hW0
      clear hW0
      go_enter Tryd.func25, Tryd.ntmps25
      go_wp2
      go_loopw [5] (fun i W => ∃ k : Nat, k ≤ xa.length ∧ i = .int .i64 k ∧ xa.take k = xb.take k ∧ ∃ nq, W = W0.drewN nq) (fun i _ => xa.length - (intOf i).toNat)
      case atStart => exact ⟨0, Nat.zero_le _, rfl, rfl, 0, by rw [HW.out]; rfl⟩
      case round =>
        obtain ⟨k, hk, rfl, htk, nq, rfl⟩ := hrel
        have c1 := (ra.below (Below.refl _ _)).cell 1
        have c2 := rb.cell 1
        simp only [List.getElem?_cons_zero, List.getElem?_cons_succ] at c1 c2
        have c1' : (W0.drewN nq).cell? ⟨w.heap.size, 1, none⟩ = some (.slice aa xa.length ca) := c1
        have c2' : (W0.drewN nq).cell? ⟨w.heap.size + 1, 1, none⟩ = some (.slice ab xb.length cb) := c2
        by_cases hlt : k < xa.length
        · have i1 := fun W => hra.index und_limbs size_limb (P := Tryd.prog) k .i64 W hlt
          have i2 := fun W => hrb.index und_limbs size_limb (P := Tryd.prog) k .i64 W (by have := HL.out; omega)
          have d1 := hra0.cell k hlt
          have d2 := hrb0.cell k (by have := HL.out; omega)
          obtain ⟨x, hx⟩ : ∃ x, xa[k]?.getD 0 = x := ⟨_, rfl⟩
          obtain ⟨y, hy⟩ : ∃ y, xb[k]?.getD 0 = y := ⟨_, rfl⟩
          rw [hx] at d1
          rw [hy] at d2
          have HX := Lib.hid (And.intro hx (And.intro hy htk))
          clear hx hy htk
          by_cases hxy : x = y
          · subst hxy
            have he : (((x : Nat) : Int) != (x : Int)) = false := by simp
            go_wp2_with fail
            go_quiet (fail)
            go_wp2
            have hk1 : xa.take (k + 1) = xb.take (k + 1) := by
              rw [take_succ_getD xa k hlt, take_succ_getD xb k (by have := HL.out; omega), HX.out.1, HX.out.2.1, HX.out.2.2]
            exact ⟨⟨k + 1, by omega, by go_num, hk1, _, rfl⟩, by simp [intOf]; omega⟩
          · have he : (((x : Nat) : Int) != (y : Int)) = true := by simp; omega
            have hB : decide (xa = xb) = false := by
              simp only [decide_eq_false_iff_not]
              intro e
              subst e
              exact hxy (HX.out.1.symm.trans HX.out.2.1)
            have HB := Lib.hid hB
            clear hB
            go_wp2_with fail
            go_quiet (fail)
            go_wp2
            go_ret
            exact ⟨below_drewN (below_drewN b0 _) _, by rw [HB.out]; rfl⟩
        · have hB : decide (xa = xb) = true := by
            simp only [decide_eq_true_eq]
            have h1 := htk
            rw [List.take_of_length_le (by omega), List.take_of_length_le (by have := HL.out; omega)] at h1
            exact h1
          have HB := Lib.hid hB
          have hd : decide ((k : Int) < (xa.length : Int)) = false := by simp; omega
          clear hB htk
          go_wp2
          go_ret
          exact ⟨below_drewN b0 _, by rw [HB.out]; rfl⟩
    · have hl1 : (((xa.length : Nat) : Int) != (xb.length : Int)) = true := by simp; omega
      have hB : sameB na na xa xb = false := by
        simp only [sameB, decide_true, Bool.true_and, decide_eq_false_iff_not]
        intro e
        exact hl (by rw [e])
      rw [hB]
      clear hB hl
      go_enter Tryd.func25, Tryd.ntmps25
      go_wp2
      go_ret
      exact ⟨b0, rfl⟩
  · have hB : sameB na nb xa xb = false := by simp [sameB, hn]
    rw [hB]
    clear hB
    cases na <;> cases nb
    · exact absurd rfl hn
    · clear hn
      go_enter Tryd.func25, Tryd.ntmps25
      go_wp2
      go_ret
      exact ⟨b0, rfl⟩
    · clear hn
      go_enter Tryd.func25, Tryd.ntmps25
      go_wp2
      go_ret
      exact ⟨b0, rfl⟩
    · exact absurd rfl hn

end Go.Proofs.YtlghjfpkfdnfoaaDoor

/- num.demandFormed at one integer and at two -/
namespace Go.Proofs.YtlghjfpkfdnfoaaDoor
open Go Go.RowKit Go.Shelf

theorem und_ints : Tryd.prog.underlying 71 = some (.slice 24) := by kernel_rfl
theorem size_int (w : World) : (sizeOf 24).run Tryd.prog w = .ok 2 w := by simp [go_sem]
theorem index_ints (b n : Nat) (j : Nat) (hj : j < n) (W : World) : (Instr.indexAt 71 (.slice (some ⟨b, 0, none⟩) n n) (.int .i64 (j : Int))).run Tryd.prog W = .ok (.pointer (some ⟨b, j * 2, none⟩)) W := by
  have he : Tryd.prog.elem 71 = 24 := by simp [Program.elem]
  have h1 : (sizeOf (Tryd.prog.elem 71)).run Tryd.prog W = .ok 2 W := by rw [he]; exact size_int W
  rw [run_indexAt_slice W 71 ⟨b, 0, none⟩ n n .i64 j (by rw [und_ints, he])]
  rw [if_pos ⟨by omega, by omega⟩, h1]
  simp [Result.andThen, Addr.add]
  intro h; exact h.symm

set_option maxHeartbeats 1000000 in
set_option maxRecDepth 100000 in
theorem demand1_ok (b : Nat) (na : Bool) (aa : Option Addr) (ca : Nat) (xa : List Nat) (w : World) (hr : RowAt w b 24 [.bool na, .slice aa xa.length ca]) (ha : Reads .u32 w (.slice aa xa.length ca) xa) (hla : Limbs xa) (fa : formedB na xa = true) :
    Calls Tryd.prog 59 #[.slice (some ⟨b, 0, none⟩) 1 1] w fun e w' => Below w.heap.size w w' ∧ e = .returned (.tuple #[]) := by
  have c0 := hr.cell 0
  have c1 := hr.cell 1
  simp only [List.getElem?_cons_zero, List.getElem?_cons_succ] at c0 c1
  have i0 := index_ints b 1 0 (by decide)
  simp only [Int.ofNat_zero, Nat.zero_mul] at i0
  have b0 := (Below.refl w.heap.size w).alloc (Nat.le_refl _) (.cells #[.bool na, .slice aa xa.length ca] 24)
  go_enter Tryd.func59, Tryd.ntmps59
  go_wp2_with fail
  refine wp_loop_rounds 3 ?_
  rw [rounds_succ]
  go_wp2_with (first | (go_at_call 17; refine (check_ok _ na xa _ ⟨_, rfl, ha.below b0, hla⟩ fa).mono ?_; rintro e w1 ⟨hbe1, rfl⟩; have b1 := b0.trans (hbe1.mono (by simp))) | (go_at_call 60; refine (demand_ok _ _ _ (by rfl)).mono ?_; rintro e w9 ⟨rfl, rfl⟩))
  rw [rounds_succ]
  go_wp2_with fail
  go_end0
  exact ⟨b1, rfl⟩

set_option maxHeartbeats 1000000 in
set_option maxRecDepth 100000 in
theorem demand1_no (b : Nat) (na : Bool) (aa : Option Addr) (ca : Nat) (xa : List Nat) (w : World) (hr : RowAt w b 24 [.bool na, .slice aa xa.length ca]) (ha : Reads .u32 w (.slice aa xa.length ca) xa) (hla : Limbs xa) (fa : formedB na xa = false) :
    Calls Tryd.prog 59 #[.slice (some ⟨b, 0, none⟩) 1 1] w fun e w' => Below w.heap.size w w' ∧ e = .panicked [{ v := .iface 27 (.int .i64 1), recovered := false }] := by
  have c0 := hr.cell 0
  have c1 := hr.cell 1
  simp only [List.getElem?_cons_zero, List.getElem?_cons_succ] at c0 c1
  have i0 := index_ints b 1 0 (by decide)
  simp only [Int.ofNat_zero, Nat.zero_mul] at i0
  have b0 := (Below.refl w.heap.size w).alloc (Nat.le_refl _) (.cells #[.bool na, .slice aa xa.length ca] 24)
  go_enter Tryd.func59, Tryd.ntmps59
  go_wp2_with fail
  refine wp_loop_rounds 3 ?_
  rw [rounds_succ]
  go_wp2_with (first | (go_at_call 17; refine (check_no _ na xa _ ⟨_, rfl, ha.below b0, hla⟩ fa).mono ?_; rintro e w1 ⟨hbe1, rfl⟩; have b1 := b0.trans (hbe1.mono (by simp))) | (go_at_call 60; refine (demand_no _ _ _ (by rfl)).mono ?_; rintro e w9 ⟨rfl, rfl⟩))
  exact ⟨rfl, b1, rfl⟩

set_option maxHeartbeats 1000000 in
set_option maxRecDepth 100000 in
theorem demand2_okok (b : Nat) (na nb : Bool) (aa ab : Option Addr) (ca cb : Nat) (xa xb : List Nat) (w : World) (hr : RowAt w b 24 [.bool na, .slice aa xa.length ca, .bool nb, .slice ab xb.length cb]) (ha : Reads .u32 w (.slice aa xa.length ca) xa) (hla : Limbs xa) (fa : formedB na xa = true) (hb : Reads .u32 w (.slice ab xb.length cb) xb) (hlb : Limbs xb) (fb : formedB nb xb = true) :
    Calls Tryd.prog 59 #[.slice (some ⟨b, 0, none⟩) 2 2] w fun e w' => Below w.heap.size w w' ∧ e = .returned (.tuple #[]) := by
  have c0 := hr.cell 0
  have c1 := hr.cell 1
  simp only [List.getElem?_cons_zero, List.getElem?_cons_succ] at c0 c1
  have i0 := index_ints b 2 0 (by decide)
  simp only [Int.ofNat_zero, Nat.zero_mul] at i0
  have i1 := index_ints b 2 1 (by decide)
  simp only [Int.ofNat_one, Nat.one_mul] at i1
  have b0 := (Below.refl w.heap.size w).alloc (Nat.le_refl _) (.cells #[.bool na, .slice aa xa.length ca] 24)
  go_enter Tryd.func59, Tryd.ntmps59
  go_wp2_with fail
  refine wp_loop_rounds 3 ?_
  rw [rounds_succ]
  go_wp2_with (first | (go_at_call 17; refine (check_ok _ na xa _ ⟨_, rfl, ha.below b0, hla⟩ fa).mono ?_; rintro e w1 ⟨hbe1, rfl⟩; have b1 := b0.trans (hbe1.mono (by simp)); have r1 := hr.below b1; have c2 := r1.cell 2; have c3 := r1.cell 3; simp only [List.getElem?_cons_zero, List.getElem?_cons_succ] at c2 c3) | (go_at_call 60; refine (demand_ok _ _ _ (by rfl)).mono ?_; rintro e w9 ⟨rfl, rfl⟩))
  rw [rounds_succ]
  go_wp2_with (first | (go_at_call 17; refine (check_ok _ nb xb _ ⟨_, rfl, hb.below (b1.alloc b1.size _), hlb⟩ fb).mono ?_; rintro e w2 ⟨hbe2, rfl⟩; have b2 := (b1.alloc b1.size (.cells #[.bool nb, .slice ab xb.length cb] 24)).trans (hbe2.mono (by have := b1.size; simp; omega))) | (go_at_call 60; refine (demand_ok _ _ _ (by rfl)).mono ?_; rintro e w9 ⟨rfl, rfl⟩))
  rw [rounds_succ]
  go_wp2_with fail
  go_end0
  exact ⟨b2, rfl⟩

set_option maxHeartbeats 1000000 in
set_option maxRecDepth 100000 in
theorem demand2_okno (b : Nat) (na nb : Bool) (aa ab : Option Addr) (ca cb : Nat) (xa xb : List Nat) (w : World) (hr : RowAt w b 24 [.bool na, .slice aa xa.length ca, .bool nb, .slice ab xb.length cb]) (ha : Reads .u32 w (.slice aa xa.length ca) xa) (hla : Limbs xa) (fa : formedB na xa = true) (hb : Reads .u32 w (.slice ab xb.length cb) xb) (hlb : Limbs xb) (fb : formedB nb xb = false) :
    Calls Tryd.prog 59 #[.slice (some ⟨b, 0, none⟩) 2 2] w fun e w' => Below w.heap.size w w' ∧ e = .panicked [{ v := .iface 27 (.int .i64 1), recovered := false }] := by
  have c0 := hr.cell 0
  have c1 := hr.cell 1
  simp only [List.getElem?_cons_zero, List.getElem?_cons_succ] at c0 c1
  have i0 := index_ints b 2 0 (by decide)
  simp only [Int.ofNat_zero, Nat.zero_mul] at i0
  have i1 := index_ints b 2 1 (by decide)
  simp only [Int.ofNat_one, Nat.one_mul] at i1
  have b0 := (Below.refl w.heap.size w).alloc (Nat.le_refl _) (.cells #[.bool na, .slice aa xa.length ca] 24)
  go_enter Tryd.func59, Tryd.ntmps59
  go_wp2_with fail
  refine wp_loop_rounds 3 ?_
  rw [rounds_succ]
  go_wp2_with (first | (go_at_call 17; refine (check_ok _ na xa _ ⟨_, rfl, ha.below b0, hla⟩ fa).mono ?_; rintro e w1 ⟨hbe1, rfl⟩; have b1 := b0.trans (hbe1.mono (by simp)); have r1 := hr.below b1; have c2 := r1.cell 2; have c3 := r1.cell 3; simp only [List.getElem?_cons_zero, List.getElem?_cons_succ] at c2 c3) | (go_at_call 60; refine (demand_ok _ _ _ (by rfl)).mono ?_; rintro e w9 ⟨rfl, rfl⟩))
  rw [rounds_succ]
  go_wp2_with (first | (go_at_call 17; refine (check_no _ nb xb _ ⟨_, rfl, hb.below (b1.alloc b1.size _), hlb⟩ fb).mono ?_; rintro e w2 ⟨hbe2, rfl⟩; have b2 := (b1.alloc b1.size (.cells #[.bool nb, .slice ab xb.length cb] 24)).trans (hbe2.mono (by have := b1.size; simp; omega))) | (go_at_call 60; refine (demand_no _ _ _ (by rfl)).mono ?_; rintro e w9 ⟨rfl, rfl⟩))
  exact ⟨rfl, b2, rfl⟩

set_option maxHeartbeats 1000000 in
set_option maxRecDepth 100000 in
theorem demand2_no (b : Nat) (na nb : Bool) (aa ab : Option Addr) (ca cb : Nat) (xa xb : List Nat) (w : World) (hr : RowAt w b 24 [.bool na, .slice aa xa.length ca, .bool nb, .slice ab xb.length cb]) (ha : Reads .u32 w (.slice aa xa.length ca) xa) (hla : Limbs xa) (fa : formedB na xa = false) :
    Calls Tryd.prog 59 #[.slice (some ⟨b, 0, none⟩) 2 2] w fun e w' => Below w.heap.size w w' ∧ e = .panicked [{ v := .iface 27 (.int .i64 1), recovered := false }] := by
  have c0 := hr.cell 0
  have c1 := hr.cell 1
  simp only [List.getElem?_cons_zero, List.getElem?_cons_succ] at c0 c1
  have i0 := index_ints b 2 0 (by decide)
  simp only [Int.ofNat_zero, Nat.zero_mul] at i0
  have i1 := index_ints b 2 1 (by decide)
  simp only [Int.ofNat_one, Nat.one_mul] at i1
  have b0 := (Below.refl w.heap.size w).alloc (Nat.le_refl _) (.cells #[.bool na, .slice aa xa.length ca] 24)
  go_enter Tryd.func59, Tryd.ntmps59
  go_wp2_with fail
  refine wp_loop_rounds 3 ?_
  rw [rounds_succ]
  go_wp2_with (first | (go_at_call 17; refine (check_no _ na xa _ ⟨_, rfl, ha.below b0, hla⟩ fa).mono ?_; rintro e w1 ⟨hbe1, rfl⟩; have b1 := b0.trans (hbe1.mono (by simp))) | (go_at_call 60; refine (demand_no _ _ _ (by rfl)).mono ?_; rintro e w9 ⟨rfl, rfl⟩))
  exact ⟨rfl, b1, rfl⟩

end Go.Proofs.YtlghjfpkfdnfoaaDoor

/- num.ring: an operation that all formed integers have, and whose result may have too many limbs -/
namespace Go.Proofs.YtlghjfpkfdnfoaaDoor
open Go Go.RowKit Go.Shelf

set_option maxRecDepth 100000 in
set_option maxHeartbeats 400000 in
theorem fitting_no (neg : Bool) (a : Option Addr) (n cap : Nat) (w : World) (hn : ¬ n ≤ 300) :
    Calls Tryd.prog 76 #[.agg #[.bool neg, .slice a n cap]] w fun e w' => Below w.heap.size w w' ∧ e = .panicked [{ v := .iface 27 (.int .i64 3), recovered := false }] := by
  go_enter Tryd.func76, Tryd.ntmps76
  go_wp2_with (go_at_call 60; refine (demand_no _ _ _ (by simp; try omega)).mono ?_; rintro e w' ⟨rfl, rfl⟩)
  exact ⟨rfl, ((Below.refl _ _).alloc (Nat.le_refl _) _).alloc (by simp) _, rfl⟩

theorem canon_length_iff {xs : List Nat} (h : Canon xs) (k : Nat) : xs.length ≤ k ↔ val xs < B32 ^ k := by
  refine ⟨fun hl => ?_, canon_length_le h⟩
  exact Nat.lt_of_lt_of_le (val_lt h.1) (Nat.pow_le_pow_right (by decide) hl)

set_option maxHeartbeats 1000000 in
set_option maxRecDepth 100000 in
theorem ring1_no (B G : Nat) (na nb : Bool) (aa ab : Option Addr) (ca cb : Nat) (xa xb : List Nat) (r0 : Bool) (r1 : Option Addr) (r2 r3 : Nat) (w : World) (hra : RowAt w B 24 [.bool na, .slice aa xa.length ca]) (hrb : RowAt w (B + 1) 24 [.bool nb, .slice ab xb.length cb])
    (_hG : RowAt w (B + 2) 57 [.func (.func G) #[] #[]]) (_hR : RowAt w (B + 3) 24 [.bool r0, .slice r1 r2 r3]) (ha : Reads .u32 w (.slice aa xa.length ca) xa) (hla : Limbs xa) (fa : formedB na xa = false) :
    Calls Tryd.prog 100 #[.pointer (some ⟨B, 0, none⟩), .pointer (some ⟨B + 1, 0, none⟩), .pointer (some ⟨B + 2, 0, none⟩), .pointer (some ⟨B + 3, 0, none⟩)] w fun e w' => Below w.heap.size w w' ∧ e = .panicked [{ v := .iface 27 (.int .i64 1), recovered := false }] := by
  have a0 := hra.cell 0
  have a1 := hra.cell 1
  have b0 := hrb.cell 0
  have b1 := hrb.cell 1
  simp only [List.getElem?_cons_zero, List.getElem?_cons_succ] at a0 a1 b0 b1
  have r0' := RowAt.new w 24 [.bool na, .slice aa xa.length ca, .bool nb, .slice ab xb.length cb]
  have bw := (Below.refl w.heap.size w).alloc (Nat.le_refl _) (.cells #[.bool na, .slice aa xa.length ca, .bool nb, .slice ab xb.length cb] 24)
  go_enter Tryd.func100, Tryd.ntmps100
  go_wp2_with (go_at_call 59; refine (demand2_no _ na nb aa ab ca cb xa xb _ r0' (ha.below bw) hla fa).mono ?_; rintro e w1 ⟨hbe1, rfl⟩; have bw1 := bw.trans (hbe1.mono (by simp)))
  exact ⟨rfl, bw1, rfl⟩

set_option maxHeartbeats 1000000 in
set_option maxRecDepth 100000 in
theorem ring1_okno (B G : Nat) (na nb : Bool) (aa ab : Option Addr) (ca cb : Nat) (xa xb : List Nat) (r0 : Bool) (r1 : Option Addr) (r2 r3 : Nat) (w : World) (hra : RowAt w B 24 [.bool na, .slice aa xa.length ca]) (hrb : RowAt w (B + 1) 24 [.bool nb, .slice ab xb.length cb])
    (_hG : RowAt w (B + 2) 57 [.func (.func G) #[] #[]]) (_hR : RowAt w (B + 3) 24 [.bool r0, .slice r1 r2 r3]) (ha : Reads .u32 w (.slice aa xa.length ca) xa) (hla : Limbs xa) (fa : formedB na xa = true) (hb : Reads .u32 w (.slice ab xb.length cb) xb) (hlb : Limbs xb) (fb : formedB nb xb = false) :
    Calls Tryd.prog 100 #[.pointer (some ⟨B, 0, none⟩), .pointer (some ⟨B + 1, 0, none⟩), .pointer (some ⟨B + 2, 0, none⟩), .pointer (some ⟨B + 3, 0, none⟩)] w fun e w' => Below w.heap.size w w' ∧ e = .panicked [{ v := .iface 27 (.int .i64 1), recovered := false }] := by
  have a0 := hra.cell 0
  have a1 := hra.cell 1
  have b0 := hrb.cell 0
  have b1 := hrb.cell 1
  simp only [List.getElem?_cons_zero, List.getElem?_cons_succ] at a0 a1 b0 b1
  have r0' := RowAt.new w 24 [.bool na, .slice aa xa.length ca, .bool nb, .slice ab xb.length cb]
  have bw := (Below.refl w.heap.size w).alloc (Nat.le_refl _) (.cells #[.bool na, .slice aa xa.length ca, .bool nb, .slice ab xb.length cb] 24)
  go_enter Tryd.func100, Tryd.ntmps100
  go_wp2_with (go_at_call 59; refine (demand2_okno _ na nb aa ab ca cb xa xb _ r0' (ha.below bw) hla fa (hb.below bw) hlb fb).mono ?_; rintro e w1 ⟨hbe1, rfl⟩; have bw1 := bw.trans (hbe1.mono (by simp)))
  exact ⟨rfl, bw1, rfl⟩

set_option maxHeartbeats 1000000 in
set_option maxRecDepth 100000 in
theorem ring1_fits (B G : Nat) (na nb : Bool) (aa ab : Option Addr) (ca cb : Nat) (xa xb : List Nat) (r0 : Bool) (r1 : Option Addr) (r2 r3 : Nat) (w : World) (hra : RowAt w B 24 [.bool na, .slice aa xa.length ca]) (hrb : RowAt w (B + 1) 24 [.bool nb, .slice ab xb.length cb])
    (hG : RowAt w (B + 2) 57 [.func (.func G) #[] #[]]) (hR : RowAt w (B + 3) 24 [.bool r0, .slice r1 r2 r3]) (ha : Reads .u32 w (.slice aa xa.length ca) xa) (hb : Reads .u32 w (.slice ab xb.length cb) xb) (hla : Limbs xa) (hlb : Limbs xb) (fa : formedB na xa = true) (fb : formedB nb xb = true) (r : Int) (hF : ∀ W args, (callFunc G args).run Tryd.prog W = .ok (.enter G args) W)
    (hop : ∀ W, Below w.heap.size w W → Calls Tryd.prog G #[.agg #[.bool na, .slice aa xa.length ca], .agg #[.bool nb, .slice ab xb.length cb]] W fun e W' => Below W.heap.size W W' ∧ ∃ v, e = .returned v ∧ IsInt W' v r) (hfit : r.natAbs < B32 ^ 300) :
    Calls Tryd.prog 100 #[.pointer (some ⟨B, 0, none⟩), .pointer (some ⟨B + 1, 0, none⟩), .pointer (some ⟨B + 2, 0, none⟩), .pointer (some ⟨B + 3, 0, none⟩)] w fun e w' => e = .returned (.tuple #[]) ∧ Chg (fun k => k = B + 3) w w' ∧ ∃ n a m c, RowAt w' (B + 3) 24 [.bool n, .slice a m c] ∧ IsInt w' (.agg #[.bool n, .slice a m c]) r := by
  have a0 := hra.cell 0
  have a1 := hra.cell 1
  have b0 := hrb.cell 0
  have b1 := hrb.cell 1
  simp only [List.getElem?_cons_zero, List.getElem?_cons_succ] at a0 a1 b0 b1
  have r0' := RowAt.new w 24 [.bool na, .slice aa xa.length ca, .bool nb, .slice ab xb.length cb]
  have bw := (Below.refl w.heap.size w).alloc (Nat.le_refl _) (.cells #[.bool na, .slice aa xa.length ca, .bool nb, .slice ab xb.length cb] 24)
  have HF := Lib.hid hfit
  clear hfit
  go_enter Tryd.func100, Tryd.ntmps100
  go_wp2_with (first | (go_at_call 59; refine (demand2_okok _ na nb aa ab ca cb xa xb _ r0' (ha.below bw) hla fa (hb.below bw) hlb fb).mono ?_; rintro e w1 ⟨hbe1, rfl⟩; have bw1 := bw.trans (hbe1.mono (by simp)); have p1 := (hra.below bw1).cell 0; have p2 := (hra.below bw1).cell 1; have p3 := (hrb.below bw1).cell 0; have p4 := (hrb.below bw1).cell 1; have p5 := (hG.below bw1).cell 0; simp only [List.getElem?_cons_zero, List.getElem?_cons_succ] at p1 p2 p3 p4 p5) | (refine (hop _ bw1).mono ?_; rintro e w2 ⟨hbe2, v, rfl, n2, v2, x2, rfl, hr2, hk2, hn2, hi2⟩; have bw2 := bw1.trans (hbe2.mono bw1.size); obtain ⟨a2, c2, rfl, hc2, hm2⟩ := hr2.form; have hlen := canon_length_iff hk2 300; have hrr : r.natAbs = val x2 := by rw [hi2, sgn_natAbs]) | (go_at_call 76; refine (fitting_any _ _ _ _ _ (hlen.2 (by rw [← hrr]; exact HF.out))).mono ?_; rintro e w3 ⟨hbe3, rfl⟩; have bw3 := bw2.trans (hbe3.mono bw2.size); have q := hR.below bw3; have q1 := q.cell 0; have q2 := q.cell 1; have q3 := q.frozen 0; have q4 := q.frozen 1; simp only [List.getElem?_cons_zero, List.getElem?_cons_succ] at q1 q2))
  go_end0
  have hk := two_kept (b := B + 3) (hr2.below hbe3) q1 q2 (.bool n2) (.slice a2 x2.length c2)
  exact ⟨rfl, (((Chg.refl (fun k => k = B + 3) w).thenBelow bw3).setCell (p := ⟨B + 3, 0, none⟩) (.inl rfl) _).setCell (p := ⟨B + 3, 1, none⟩) (.inl rfl) _, n2, a2, x2.length, c2, (q.set 0 (.bool n2)).set 1 (.slice a2 x2.length c2), n2, _, x2, rfl, hk, hk2, hn2, hi2⟩

set_option maxHeartbeats 1000000 in
set_option maxRecDepth 100000 in
theorem ring1_not (B G : Nat) (na nb : Bool) (aa ab : Option Addr) (ca cb : Nat) (xa xb : List Nat) (r0 : Bool) (r1 : Option Addr) (r2 r3 : Nat) (w : World) (hra : RowAt w B 24 [.bool na, .slice aa xa.length ca]) (hrb : RowAt w (B + 1) 24 [.bool nb, .slice ab xb.length cb])
    (hG : RowAt w (B + 2) 57 [.func (.func G) #[] #[]]) (_hR : RowAt w (B + 3) 24 [.bool r0, .slice r1 r2 r3]) (ha : Reads .u32 w (.slice aa xa.length ca) xa) (hb : Reads .u32 w (.slice ab xb.length cb) xb) (hla : Limbs xa) (hlb : Limbs xb) (fa : formedB na xa = true) (fb : formedB nb xb = true) (r : Int) (hF : ∀ W args, (callFunc G args).run Tryd.prog W = .ok (.enter G args) W)
    (hop : ∀ W, Below w.heap.size w W → Calls Tryd.prog G #[.agg #[.bool na, .slice aa xa.length ca], .agg #[.bool nb, .slice ab xb.length cb]] W fun e W' => Below W.heap.size W W' ∧ ∃ v, e = .returned v ∧ IsInt W' v r) (hfit : ¬ r.natAbs < B32 ^ 300) :
    Calls Tryd.prog 100 #[.pointer (some ⟨B, 0, none⟩), .pointer (some ⟨B + 1, 0, none⟩), .pointer (some ⟨B + 2, 0, none⟩), .pointer (some ⟨B + 3, 0, none⟩)] w fun e w' => Below w.heap.size w w' ∧ e = .panicked [{ v := .iface 27 (.int .i64 3), recovered := false }] := by
  have a0 := hra.cell 0
  have a1 := hra.cell 1
  have b0 := hrb.cell 0
  have b1 := hrb.cell 1
  simp only [List.getElem?_cons_zero, List.getElem?_cons_succ] at a0 a1 b0 b1
  have r0' := RowAt.new w 24 [.bool na, .slice aa xa.length ca, .bool nb, .slice ab xb.length cb]
  have bw := (Below.refl w.heap.size w).alloc (Nat.le_refl _) (.cells #[.bool na, .slice aa xa.length ca, .bool nb, .slice ab xb.length cb] 24)
  have HF := Lib.hid hfit
  clear hfit
  go_enter Tryd.func100, Tryd.ntmps100
  go_wp2_with (first | (go_at_call 59; refine (demand2_okok _ na nb aa ab ca cb xa xb _ r0' (ha.below bw) hla fa (hb.below bw) hlb fb).mono ?_; rintro e w1 ⟨hbe1, rfl⟩; have bw1 := bw.trans (hbe1.mono (by simp)); have p1 := (hra.below bw1).cell 0; have p2 := (hra.below bw1).cell 1; have p3 := (hrb.below bw1).cell 0; have p4 := (hrb.below bw1).cell 1; have p5 := (hG.below bw1).cell 0; simp only [List.getElem?_cons_zero, List.getElem?_cons_succ] at p1 p2 p3 p4 p5) | (refine (hop _ bw1).mono ?_; rintro e w2 ⟨hbe2, v, rfl, n2, v2, x2, rfl, hr2, hk2, hn2, hi2⟩; have bw2 := bw1.trans (hbe2.mono bw1.size); obtain ⟨a2, c2, rfl, hc2, hm2⟩ := hr2.form; have hlen := canon_length_iff hk2 300; have hrr : r.natAbs = val x2 := by rw [hi2, sgn_natAbs]) | (go_at_call 76; refine (fitting_no _ _ _ _ _ (fun e => HF.out (by rw [hrr]; exact hlen.1 e))).mono ?_; rintro e w3 ⟨hbe3, rfl⟩; have bw3 := bw2.trans (hbe3.mono bw2.size)))
  exact ⟨rfl, bw3, rfl⟩

end Go.Proofs.YtlghjfpkfdnfoaaDoor

/- num.ring whole -/
namespace Go.Proofs.YtlghjfpkfdnfoaaDoor
open Go Go.RowKit Go.Shelf

def zeroInt : Value := .agg #[.bool false, .slice none 0 0]
def RingRes (fa fb : Bool) (r : Int) (k : Int) (W : World) (v : Value) : Prop :=
  if (fa && fb) = true then (if r.natAbs < B32 ^ 300 then k = 0 ∧ IsInt W v r else k = 3 ∧ v = zeroInt) else k = 1 ∧ v = zeroInt

theorem IsInt.keep {W W' : World} {v : Value} {i : Int} (h : IsInt W v i) (hk : ∀ v xs, Reads .u32 W v xs → Reads .u32 W' v xs) : IsInt W' v i := by
  obtain ⟨neg, va, xs, e, hr, hc, hn, hi⟩ := h
  exact ⟨neg, va, xs, e, hk _ _ hr, hc, hn, hi⟩
set_option exponentiation.threshold 400 in
theorem RingRes.keep {fa fb : Bool} {r k : Int} {W W' : World} {v : Value} (h : RingRes fa fb r k W v) (hk : ∀ v xs, Reads .u32 W v xs → Reads .u32 W' v xs) : RingRes fa fb r k W' v := by
  unfold RingRes at *
  by_cases h1 : (fa && fb) = true
  · rw [if_pos h1] at h ⊢
    by_cases h2 : r.natAbs < B32 ^ 300
    · rw [if_pos h2] at h ⊢
      exact ⟨h.1, h.2.keep hk⟩
    · rw [if_neg h2] at h ⊢
      exact h
  · rw [if_neg h1] at h ⊢
    exact h

theorem ring1_any (B G : Nat) (na nb : Bool) (aa ab : Option Addr) (ca cb : Nat) (xa xb : List Nat) (w : World) (hra : RowAt w B 24 [.bool na, .slice aa xa.length ca]) (hrb : RowAt w (B + 1) 24 [.bool nb, .slice ab xb.length cb])
    (hG : RowAt w (B + 2) 57 [.func (.func G) #[] #[]]) (hR : RowAt w (B + 3) 24 [.bool false, .slice none 0 0]) (ha : Reads .u32 w (.slice aa xa.length ca) xa)
    (hb : Reads .u32 w (.slice ab xb.length cb) xb) (hla : Limbs xa) (hlb : Limbs xb) (r : Int) (hF : ∀ W args, (callFunc G args).run Tryd.prog W = .ok (.enter G args) W)
    (hop : formedB na xa = true → formedB nb xb = true → ∀ W, Below w.heap.size w W → Calls Tryd.prog G #[.agg #[.bool na, .slice aa xa.length ca], .agg #[.bool nb, .slice ab xb.length cb]] W fun e W' => Below W.heap.size W W' ∧ ∃ v, e = .returned v ∧ IsInt W' v r) :
    Calls Tryd.prog 100 #[.pointer (some ⟨B, 0, none⟩), .pointer (some ⟨B + 1, 0, none⟩), .pointer (some ⟨B + 2, 0, none⟩), .pointer (some ⟨B + 3, 0, none⟩)] w fun e W =>
      ∃ k, (k = 0 ∧ e = .returned (.tuple #[]) ∨ e = .panicked [{ v := .iface 27 (.int .i64 k), recovered := false }]) ∧ Chg (fun k => k = B + 3) w W ∧ ∃ n a m c, RowAt W (B + 3) 24 [.bool n, .slice a m c] ∧ RingRes (formedB na xa) (formedB nb xb) r k W (.agg #[.bool n, .slice a m c]) := by
  have hchg : ∀ W, Below w.heap.size w W → Chg (fun k => k = B + 3) w W := fun W h => (Chg.refl _ w).thenBelow h
  cases hfa : formedB na xa with
  | false =>
    refine (ring1_no B G na nb aa ab ca cb xa xb false none 0 0 w hra hrb hG hR ha hla hfa).mono ?_
    rintro e W ⟨hbe, rfl⟩
    exact ⟨1, .inr rfl, hchg _ hbe, false, none, 0, 0, hR.below hbe, by simp [RingRes, zeroInt]⟩
  | true =>
    cases hfb : formedB nb xb with
    | false =>
      refine (ring1_okno B G na nb aa ab ca cb xa xb false none 0 0 w hra hrb hG hR ha hla hfa hb hlb hfb).mono ?_
      rintro e W ⟨hbe, rfl⟩
      exact ⟨1, .inr rfl, hchg _ hbe, false, none, 0, 0, hR.below hbe, by simp [RingRes, zeroInt]⟩
    | true =>
      by_cases hfit : r.natAbs < B32 ^ 300
      · refine (ring1_fits B G na nb aa ab ca cb xa xb false none 0 0 w hra hrb hG hR ha hb hla hlb hfa hfb r hF (hop hfa hfb) hfit).mono ?_
        rintro e W ⟨rfl, hch, n, a, m, c, h1, h2⟩
        exact ⟨0, .inl ⟨rfl, rfl⟩, hch, n, a, m, c, h1, by simp only [RingRes, Bool.and_self, if_true, if_pos hfit]; exact ⟨trivial, h2⟩⟩
      · refine (ring1_not B G na nb aa ab ca cb xa xb false none 0 0 w hra hrb hG hR ha hb hla hlb hfa hfb r hF (hop hfa hfb) hfit).mono ?_
        rintro e W ⟨hbe, rfl⟩
        exact ⟨3, .inr rfl, hchg _ hbe, false, none, 0, 0, hR.below hbe, by simp only [RingRes, Bool.and_self, if_true, if_neg hfit]; exact ⟨trivial, rfl⟩⟩

set_option maxHeartbeats 1000000 in
set_option maxRecDepth 100000 in
theorem ring_any (G : Nat) (a b : Value) (na nb : Bool) (xa xb : List Nat) (w : World) (ha : IntAt w a na xa) (hb : IntAt w b nb xb) (r : Int) (hF : ∀ W args, (callFunc G args).run Tryd.prog W = .ok (.enter G args) W)
    (hop : formedB na xa = true → formedB nb xb = true → ∀ W, Below w.heap.size w W → Calls Tryd.prog G #[a, b] W fun e W' => Below W.heap.size W W' ∧ ∃ v, e = .returned v ∧ IsInt W' v r) :
    Calls Tryd.prog 66 #[a, b, .func (.func G) #[] #[]] w fun e w' => Below w.heap.size w w' ∧ ∃ v k, e = .returned (.tuple #[v, .int .i64 k]) ∧ RingRes (formedB na xa) (formedB nb xb) r k w' v := by
  obtain ⟨va, rfl, hra, hla⟩ := ha
  obtain ⟨vb, rfl, hrb, hlb⟩ := hb
  obtain ⟨aa, ca, rfl, hca, hma⟩ := hra.form
  obtain ⟨ab, cb, rfl, hcb, hmb⟩ := hrb.form
  have hmf : ∀ (fn : Fn) (first cap : Array Value) (w : World), (Instr.makeFunc fn first cap).run Tryd.prog w = .ok (.func fn first cap) w := fun _ _ _ _ => rfl
  have q0 := ((((RowAt.new w 24 [.bool na, .slice aa xa.length ca]).alloc (.cells #[.bool nb, .slice ab xb.length cb] 24)).alloc (.cells #[.func (.func G) #[] #[]] 57)).alloc (.cells #[.bool false, .slice none 0 0] 24)).alloc (.cells #[.int .i64 0] 27)
  have q1 := (((RowAt.new (w.alloc (.cells #[.bool na, .slice aa xa.length ca] 24)) 24 [.bool nb, .slice ab xb.length cb]).alloc (.cells #[.func (.func G) #[] #[]] 57)).alloc (.cells #[.bool false, .slice none 0 0] 24)).alloc (.cells #[.int .i64 0] 27)
  have q2 := ((RowAt.new ((w.alloc (.cells #[.bool na, .slice aa xa.length ca] 24)).alloc (.cells #[.bool nb, .slice ab xb.length cb] 24)) 57 [.func (.func G) #[] #[]]).alloc (.cells #[.bool false, .slice none 0 0] 24)).alloc (.cells #[.int .i64 0] 27)
  have q3 := (RowAt.new (((w.alloc (.cells #[.bool na, .slice aa xa.length ca] 24)).alloc (.cells #[.bool nb, .slice ab xb.length cb] 24)).alloc (.cells #[.func (.func G) #[] #[]] 57)) 24 [.bool false, .slice none 0 0]).alloc (.cells #[.int .i64 0] 27)
  have q4 := Boxed.new ((((w.alloc (.cells #[.bool na, .slice aa xa.length ca] 24)).alloc (.cells #[.bool nb, .slice ab xb.length cb] 24)).alloc (.cells #[.func (.func G) #[] #[]] 57)).alloc (.cells #[.bool false, .slice none 0 0] 24)) 27 (.int .i64 0)
  have bw := ((((((Below.refl w.heap.size w).alloc (Nat.le_refl _) (.cells #[.bool na, .slice aa xa.length ca] 24)).alloc (by simp) (.cells #[.bool nb, .slice ab xb.length cb] 24)).alloc (by simp; omega) (.cells #[.func (.func G) #[] #[]] 57)).alloc (by simp; omega) (.cells #[.bool false, .slice none 0 0] 24)).alloc (by simp; omega) (.cells #[.int .i64 0] 27))
  simp only [World.size_alloc] at q0 q1 q2 q3 q4
  generalize hW4 : ((((w.alloc (.cells #[.bool na, .slice aa xa.length ca] 24)).alloc (.cells #[.bool nb, .slice ab xb.length cb] 24)).alloc (.cells #[.func (.func G) #[] #[]] 57)).alloc (.cells #[.bool false, .slice none 0 0] 24)).alloc (.cells #[.int .i64 0] 27) = W4 at q0 q1 q2 q3 q4 bw
  have key := ring1_any w.heap.size G na nb aa ab ca cb xa xb W4 q0 q1 q2 q3 (hra.below bw) (hrb.below bw) hla hlb r hF (fun h1 h2 W hW => hop h1 h2 W (bw.trans (hW.mono bw.size)))
  have att := attempt_any 100 #[.pointer (some ⟨w.heap.size, 0, none⟩), .pointer (some ⟨w.heap.size + 1, 0, none⟩), .pointer (some ⟨w.heap.size + 1 + 1, 0, none⟩), .pointer (some ⟨w.heap.size + 1 + 1 + 1, 0, none⟩)]
    ((((w.alloc (.cells #[.bool na, .slice aa xa.length ca] 24)).alloc (.cells #[.bool nb, .slice ab xb.length cb] 24)).alloc (.cells #[.func (.func G) #[] #[]] 57)).alloc (.cells #[.bool false, .slice none 0 0] 24))
    (fun k W => Chg (fun i => i = w.heap.size + 3) W4 W ∧ ∃ n a m c, RowAt W (w.heap.size + 3) 24 [.bool n, .slice a m c] ∧ RingRes (formedB na xa) (formedB nb xb) r k W (.agg #[.bool n, .slice a m c]))
    (fun W => by simp [go_sem])
    (fun k W h => by simp only [World.size_alloc]; exact h.1.boxed q4 (by omega))
    (by
      rw [hW4]
      refine key.mono ?_
      rintro e W ⟨k, h1, h2⟩
      rcases h1 with ⟨rfl, rfl⟩ | rfl
      · exact .inl ⟨rfl, h2⟩
      · exact .inr ⟨k, rfl, h2⟩)
  clear key
  go_enter Tryd.func66, Tryd.ntmps66
  go_wp2_with (refine att.mono ?_; rintro e W' ⟨k, W, ⟨hch, n, a, m, c, hr, hres⟩, rfl, rfl⟩; simp only [World.size_alloc]; have hr9 := hr.other (a := ⟨w.heap.size + 1 + 1 + 1 + 1, 0, none⟩) (by simp) (.int .i64 k); have s3 := hr.frozen 0; have s4 := hr.frozen 1; have s1 := hr9.cell 0; have s2 := hr9.cell 1; simp only [List.getElem?_cons_zero, List.getElem?_cons_succ] at s1 s2)
  obtain ⟨u1, u2⟩ := two_reads (b := w.heap.size + 1 + 1 + 1) s1 s2 (.bool n) (.slice a m c)
  have e4 := (hch.boxed q4 (by omega)).cell
  have hkeep : ∀ v xs, Reads .u32 W v xs → Reads .u32 (((W.setCell ⟨w.heap.size + 1 + 1 + 1 + 1, 0, none⟩ (.int .i64 k)).setCell ⟨w.heap.size + 1 + 1 + 1, 0, none⟩ (.bool n)).setCell ⟨w.heap.size + 1 + 1 + 1, 1, none⟩ (.slice a m c)) v xs :=
    fun v xs h => two_kept (b := w.heap.size + 1 + 1 + 1) (h.setOther e4 (by simp) _) s1 s2 _ _
  refine bodyPost_ret (v := .tuple #[.agg #[.bool n, .slice a m c], .int .i64 k]) (by simp [results, Tryd.results66, go_sem, loadCellsFrom, u1, u2]) rfl ⟨?_, _, k, rfl, hres.keep hkeep⟩
  have hb9 : Below w.heap.size w W := bw.trans (hch.below (B := w.heap.size) (fun i hi => by omega) bw.size)
  exact ((hb9.setCell (by simp; omega) _).setCell (by simp; omega) _).setCell (by simp; omega) _

end Go.Proofs.YtlghjfpkfdnfoaaDoor
