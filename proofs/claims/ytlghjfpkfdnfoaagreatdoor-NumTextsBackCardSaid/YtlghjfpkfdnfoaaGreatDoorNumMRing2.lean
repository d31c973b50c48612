/- num.attempt: what panics within ends the work, and becomes the error -/
import Derived.Test.YtlghjfpkfdnfoaaGreatDoorNumMDifference
import Derived.Recover
import Derived.LoopN
namespace Go.Proofs.YtlghjfpkfdnfoaaGreatDoor
open Go Go.RowKit Go.Shelf

set_option maxRecDepth 100000 in
theorem catch_panicking (p : Addr) (x : Value) (k : Int) (older : List PanicEntry) (w : World) (hc : w.cell? p = some x) (hz : w.frozen? p = false) :
    CallsD Tryz.prog 58 #[.pointer (some p)] (.panicking ({ v := .iface 27 (.int .i64 k), recovered := false } :: older)) w fun e u' w' =>
      e = .returned (.tuple #[]) ∧ u' = .panicking ({ v := .iface 27 (.int .i64 k), recovered := true } :: older) ∧ w' = w.setCell p (.int .i64 k) := by
  refine callsD_of_wpS Tryz.func58 rfl fun c₀ cs hu => ?_
  apply wpS_seq
  apply wpS_region
  simp [wpOpsS, go_sem, recoverD, hu, Tryz.ntmps58, Exit.thenS]
  have e0 : #[Value.pointer (some p)] ++ (Array.replicate 9 undef).setIfInBounds 3 (.iface 27 (.int .i64 k)) = #[.pointer (some p), undef, undef, undef, .iface 27 (.int .i64 k), undef, undef, undef, undef, undef] := rfl
  rw [e0]
  refine wpS_of_wp ?_
  have hta : ∀ W, (Instr.typeAssert (.iface 27 (.int .i64 k)) 20 27 true).run Tryz.prog W = .ok (.tuple #[.int .i64 k, .bool true]) W := fun W => by
    simp [Instr.typeAssert, go_sem]
  go_wp2
  simp_all [bodyPostS, results, Tryz.results58]

set_option maxRecDepth 100000 in
theorem catch_idle (p : Addr) (w : World) :
    CallsD Tryz.prog 58 #[.pointer (some p)] .returning w fun e u' w' => e = .returned (.tuple #[]) ∧ u' = .returning ∧ w' = w := by
  refine callsD_of_wpS Tryz.func58 rfl fun c₀ cs hu => ?_
  apply wpS_seq
  apply wpS_region
  simp [wpOpsS, go_sem, recoverD, hu, Tryz.ntmps58, Exit.thenS]
  have e0 : #[Value.pointer (some p)] ++ (Array.replicate 9 undef).setIfInBounds 3 Value.nilIface = #[.pointer (some p), undef, undef, undef, Value.nilIface, undef, undef, undef, undef, undef] := rfl
  rw [e0]
  refine wpS_of_wp ?_
  go_wp2
  cases c₀
  simp_all [bodyPostS, results, Tryz.results58]

theorem attempt_any (F : Nat) (cs : Array Value) (w : World) (Post : Int → World → Prop) (hF : ∀ W, (callFunc F cs).run Tryz.prog W = .ok (.enter F cs) W) (hpost : ∀ k W, Post k W → Boxed W w.heap.size 27 (.int .i64 0))
    (hc : Calls Tryz.prog F cs (w.alloc (.cells #[.int .i64 0] 27)) fun e W => (e = .returned (.tuple #[]) ∧ Post 0 W) ∨ ∃ k, e = .panicked [{ v := .iface 27 (.int .i64 k), recovered := false }] ∧ Post k W) :
    Calls Tryz.prog 22 #[.func (.func F) #[] cs] w fun e W' => ∃ k W, Post k W ∧ e = .returned (.int .i64 k) ∧ W' = W.setCell ⟨w.heap.size, 0, none⟩ (.int .i64 k) := by
  have hmf : ∀ (fn : Fn) (first cap : Array Value) (w : World), (Instr.makeFunc fn first cap).run Tryz.prog w = .ok (.func fn first cap) w := fun _ _ _ _ => rfl
  go_enter_defers Tryz.func22, Tryz.ntmps22
  go_wp2_with (refine hc.mono ?_; rintro e W (⟨rfl, hp⟩ | ⟨k, rfl, hp⟩) <;> have q1 := (hpost _ _ hp).cell <;> have q2 := (hpost _ _ hp).frozen)
  · refine leaves_cons (f := 58) (args := #[.pointer (some ⟨w.heap.size, 0, none⟩)]) (by simp) (by simp [go_sem]) ?_
    refine (catch_idle ⟨w.heap.size, 0, none⟩ _).mono ?_
    rintro e u' w'' ⟨rfl, rfl, rfl⟩
    simp [Leaves, settle, results, Tryz.results22, go_sem]
    rw [World.cell?_setCell_same _ _ _ q1]
    exact ⟨_, rfl, 0, W, hp, rfl, rfl⟩
  · refine leaves_cons (f := 58) (args := #[.pointer (some ⟨w.heap.size, 0, none⟩)]) (by simp) (by simp [go_sem]) ?_
    refine (catch_panicking ⟨w.heap.size, 0, none⟩ _ k [] _ q1 q2).mono ?_
    rintro e u' w'' ⟨rfl, rfl, rfl⟩
    simp [Leaves, settle, results, Tryz.results22, go_sem]
    rw [World.cell?_setCell_same _ _ _ q1]
    exact ⟨_, rfl, k, W, hp, rfl, rfl⟩
end Go.Proofs.YtlghjfpkfdnfoaaGreatDoor

/- num.Check, num.demandFormed -/
namespace Go.Proofs.YtlghjfpkfdnfoaaGreatDoor
open Go Go.RowKit Go.Shelf

theorem trimmed_of_last {xs : List Nat} (h : xs[xs.length - 1]?.getD 0 ≠ 0) : trimmed xs = xs := by
  rcases List.eq_nil_or_concat xs with rfl | ⟨ys, y, rfl⟩
  · rfl
  · simp at h
    simp [trimmed, h]

/-- an integer of the API: the sign, the limbs; whether it is formed -/
def IntAt (w : World) (v : Value) (neg : Bool) (xs : List Nat) : Prop := ∃ va, v = .agg #[.bool neg, va] ∧ Reads .u32 w va xs ∧ Limbs xs
def formedB (neg : Bool) (xs : List Nat) : Bool := decide (xs.length ≤ 300) && decide (trimmed xs = xs) && !(neg && decide (xs.length = 0))

set_option maxHeartbeats 1000000 in
set_option maxRecDepth 100000 in
theorem check_ok (v : Value) (neg : Bool) (xs : List Nat) (w : World) (h : IntAt w v neg xs) (hf : formedB neg xs = true) :
    Calls Tryz.prog 30 #[v] w fun e w' => Below w.heap.size w w' ∧ e = .returned (.int .i64 0) := by
  obtain ⟨va, rfl, hr, hl⟩ := h
  obtain ⟨a, c, rfl, hc, hm⟩ := hr.form
  unfold maxLen at hm
  simp only [formedB, Bool.and_eq_true, decide_eq_true_eq, Bool.not_eq_true', Bool.and_eq_false_iff, decide_eq_false_iff_not] at hf
  obtain ⟨⟨h1, h2⟩, h3⟩ := hf
  by_cases hx : xs.length = 0
  · have h4 : neg = false := by rcases h3 with h | h; exact h; exact absurd hx h
    subst h4
    go_enter Tryz.func30, Tryz.ntmps30
    go_wp2
    exact bodyPost_ret (v := .int .i64 0) (by simp [results, Tryz.results30, go_sem]) rfl ⟨(Below.refl _ _).alloc (Nat.le_refl _) _, rfl⟩
  · have he : ((xs.length - 1 : Nat) : Int) = (xs.length : Int) - 1 := by omega
    have hlast := canon_last (xs := xs) ⟨hl, h2⟩ (by intro e; subst e; simp at hx)
    have b0 := (Below.refl w.heap.size w).alloc (Nat.le_refl _) (.cells #[.bool neg, .slice a xs.length c] 24)
    have hcell := (hr.below b0).cell (xs.length - 1) (by omega)
    have hix := fun W => hr.index und_limbs size_limb (P := Tryz.prog) (xs.length - 1) .i64 W (by omega)
    rw [he] at hix
    obtain ⟨top, hT⟩ : ∃ top, xs[xs.length - 1]?.getD 0 = top := ⟨_, rfl⟩
    rw [hT] at hcell hlast
    generalize xs.length - 1 = k at *
    have hne : ¬ (top : Int) = 0 := by omega
    go_enter Tryz.func30, Tryz.ntmps30
    go_wp2
    exact bodyPost_ret (v := .int .i64 0) (by simp [results, Tryz.results30, go_sem]) rfl ⟨(Below.refl _ _).alloc (Nat.le_refl _) _, rfl⟩

set_option maxHeartbeats 1000000 in
set_option maxRecDepth 100000 in
theorem check_no (v : Value) (neg : Bool) (xs : List Nat) (w : World) (h : IntAt w v neg xs) (hf : formedB neg xs = false) :
    Calls Tryz.prog 30 #[v] w fun e w' => Below w.heap.size w w' ∧ e = .returned (.int .i64 1) := by
  obtain ⟨va, rfl, hr, hl⟩ := h
  obtain ⟨a, c, rfl, hc, hm⟩ := hr.form
  unfold maxLen at hm
  by_cases h1 : 300 < xs.length
  · clear hf
    go_enter Tryz.func30, Tryz.ntmps30
    go_wp2
    exact bodyPost_ret (v := .int .i64 1) (by simp [results, Tryz.results30, go_sem]) rfl ⟨(Below.refl _ _).alloc (Nat.le_refl _) _, rfl⟩
  by_cases hx : xs.length = 0
  · have h4 : neg = true := by
      have : xs = [] := List.eq_nil_of_length_eq_zero hx
      subst this
      cases neg <;> simp_all [formedB, trimmed]
    subst h4
    clear hf
    go_enter Tryz.func30, Tryz.ntmps30
    go_wp2
    exact bodyPost_ret (v := .int .i64 1) (by simp [results, Tryz.results30, go_sem]) rfl ⟨(Below.refl _ _).alloc (Nat.le_refl _) _, rfl⟩
  · have hlast : xs[xs.length - 1]?.getD 0 = 0 := by
      apply Classical.byContradiction
      intro hc
      have := trimmed_of_last hc
      simp_all [formedB]
    clear hf
    have he : ((xs.length - 1 : Nat) : Int) = (xs.length : Int) - 1 := by omega
    have b0 := (Below.refl w.heap.size w).alloc (Nat.le_refl _) (.cells #[.bool neg, .slice a xs.length c] 24)
    have hcell := (hr.below b0).cell (xs.length - 1) (by omega)
    have hix := fun W => hr.index und_limbs size_limb (P := Tryz.prog) (xs.length - 1) .i64 W (by omega)
    rw [he] at hix
    rw [hlast] at hcell
    generalize xs.length - 1 = k at *
    go_enter Tryz.func30, Tryz.ntmps30
    go_wp2
    exact bodyPost_ret (v := .int .i64 1) (by simp [results, Tryz.results30, go_sem]) rfl ⟨(Below.refl _ _).alloc (Nat.le_refl _) _, rfl⟩

end Go.Proofs.YtlghjfpkfdnfoaaGreatDoor

/- num.demandFormed at one integer and at two -/
namespace Go.Proofs.YtlghjfpkfdnfoaaGreatDoor
open Go Go.RowKit Go.Shelf

theorem und_ints : Tryz.prog.underlying 39 = some (.slice 24) := by kernel_rfl
theorem size_int (w : World) : (sizeOf 24).run Tryz.prog w = .ok 2 w := by simp [go_sem]
theorem index_ints (b n : Nat) (j : Nat) (hj : j < n) (W : World) : (Instr.indexAt 39 (.slice (some ⟨b, 0, none⟩) n n) (.int .i64 (j : Int))).run Tryz.prog W = .ok (.pointer (some ⟨b, j * 2, none⟩)) W := by
  have he : Tryz.prog.elem 39 = 24 := by simp [Program.elem]
  have h1 : (sizeOf (Tryz.prog.elem 39)).run Tryz.prog W = .ok 2 W := by rw [he]; exact size_int W
  rw [run_indexAt_slice W 39 ⟨b, 0, none⟩ n n .i64 j (by rw [und_ints, he])]
  rw [if_pos ⟨by omega, by omega⟩, h1]
  simp [Result.andThen, Addr.add]
  intro h; exact h.symm

set_option maxHeartbeats 1000000 in
set_option maxRecDepth 100000 in
theorem demand1_ok (b : Nat) (na : Bool) (aa : Option Addr) (ca : Nat) (xa : List Nat) (w : World) (hr : RowAt w b 24 [.bool na, .slice aa xa.length ca]) (ha : Reads .u32 w (.slice aa xa.length ca) xa) (hla : Limbs xa) (fa : formedB na xa = true) :
    Calls Tryz.prog 24 #[.slice (some ⟨b, 0, none⟩) 1 1] w fun e w' => Below w.heap.size w w' ∧ e = .returned (.tuple #[]) := by
  have c0 := hr.cell 0
  have c1 := hr.cell 1
  simp only [List.getElem?_cons_zero, List.getElem?_cons_succ] at c0 c1
  have i0 := index_ints b 1 0 (by decide)
  simp only [Int.ofNat_zero, Nat.zero_mul] at i0
  have b0 := (Below.refl w.heap.size w).alloc (Nat.le_refl _) (.cells #[.bool na, .slice aa xa.length ca] 24)
  go_enter Tryz.func24, Tryz.ntmps24
  go_wp2_with fail
  refine wp_loop_rounds 3 ?_
  rw [rounds_succ]
  go_wp2_with (first | (go_at_call 30; refine (check_ok _ na xa _ ⟨_, rfl, ha.below b0, hla⟩ fa).mono ?_; rintro e w1 ⟨hbe1, rfl⟩; have b1 := b0.trans (hbe1.mono (by simp))) | (go_at_call 45; refine (demand_ok _ _ _ (by rfl)).mono ?_; rintro e w9 ⟨rfl, rfl⟩))
  rw [rounds_succ]
  go_wp2_with fail
  go_end0
  exact ⟨b1, rfl⟩

set_option maxHeartbeats 1000000 in
set_option maxRecDepth 100000 in
theorem demand1_no (b : Nat) (na : Bool) (aa : Option Addr) (ca : Nat) (xa : List Nat) (w : World) (hr : RowAt w b 24 [.bool na, .slice aa xa.length ca]) (ha : Reads .u32 w (.slice aa xa.length ca) xa) (hla : Limbs xa) (fa : formedB na xa = false) :
    Calls Tryz.prog 24 #[.slice (some ⟨b, 0, none⟩) 1 1] w fun e w' => Below w.heap.size w w' ∧ e = .panicked [{ v := .iface 27 (.int .i64 1), recovered := false }] := by
  have c0 := hr.cell 0
  have c1 := hr.cell 1
  simp only [List.getElem?_cons_zero, List.getElem?_cons_succ] at c0 c1
  have i0 := index_ints b 1 0 (by decide)
  simp only [Int.ofNat_zero, Nat.zero_mul] at i0
  have b0 := (Below.refl w.heap.size w).alloc (Nat.le_refl _) (.cells #[.bool na, .slice aa xa.length ca] 24)
  go_enter Tryz.func24, Tryz.ntmps24
  go_wp2_with fail
  refine wp_loop_rounds 3 ?_
  rw [rounds_succ]
  go_wp2_with (first | (go_at_call 30; refine (check_no _ na xa _ ⟨_, rfl, ha.below b0, hla⟩ fa).mono ?_; rintro e w1 ⟨hbe1, rfl⟩; have b1 := b0.trans (hbe1.mono (by simp))) | (go_at_call 45; refine (demand_no _ _ _ (by rfl)).mono ?_; rintro e w9 ⟨rfl, rfl⟩))
  exact ⟨rfl, b1, rfl⟩

set_option maxHeartbeats 1000000 in
set_option maxRecDepth 100000 in
theorem demand2_okok (b : Nat) (na nb : Bool) (aa ab : Option Addr) (ca cb : Nat) (xa xb : List Nat) (w : World) (hr : RowAt w b 24 [.bool na, .slice aa xa.length ca, .bool nb, .slice ab xb.length cb]) (ha : Reads .u32 w (.slice aa xa.length ca) xa) (hla : Limbs xa) (fa : formedB na xa = true) (hb : Reads .u32 w (.slice ab xb.length cb) xb) (hlb : Limbs xb) (fb : formedB nb xb = true) :
    Calls Tryz.prog 24 #[.slice (some ⟨b, 0, none⟩) 2 2] w fun e w' => Below w.heap.size w w' ∧ e = .returned (.tuple #[]) := by
  have c0 := hr.cell 0
  have c1 := hr.cell 1
  simp only [List.getElem?_cons_zero, List.getElem?_cons_succ] at c0 c1
  have i0 := index_ints b 2 0 (by decide)
  simp only [Int.ofNat_zero, Nat.zero_mul] at i0
  have i1 := index_ints b 2 1 (by decide)
  simp only [Int.ofNat_one, Nat.one_mul] at i1
  have b0 := (Below.refl w.heap.size w).alloc (Nat.le_refl _) (.cells #[.bool na, .slice aa xa.length ca] 24)
  go_enter Tryz.func24, Tryz.ntmps24
  go_wp2_with fail
  refine wp_loop_rounds 3 ?_
  rw [rounds_succ]
  go_wp2_with (first | (go_at_call 30; refine (check_ok _ na xa _ ⟨_, rfl, ha.below b0, hla⟩ fa).mono ?_; rintro e w1 ⟨hbe1, rfl⟩; have b1 := b0.trans (hbe1.mono (by simp)); have r1 := hr.below b1; have c2 := r1.cell 2; have c3 := r1.cell 3; simp only [List.getElem?_cons_zero, List.getElem?_cons_succ] at c2 c3) | (go_at_call 45; refine (demand_ok _ _ _ (by rfl)).mono ?_; rintro e w9 ⟨rfl, rfl⟩))
  rw [rounds_succ]
  go_wp2_with (first | (go_at_call 30; refine (check_ok _ nb xb _ ⟨_, rfl, hb.below (b1.alloc b1.size _), hlb⟩ fb).mono ?_; rintro e w2 ⟨hbe2, rfl⟩; have b2 := (b1.alloc b1.size (.cells #[.bool nb, .slice ab xb.length cb] 24)).trans (hbe2.mono (by have := b1.size; simp; omega))) | (go_at_call 45; refine (demand_ok _ _ _ (by rfl)).mono ?_; rintro e w9 ⟨rfl, rfl⟩))
  rw [rounds_succ]
  go_wp2_with fail
  go_end0
  exact ⟨b2, rfl⟩

set_option maxHeartbeats 1000000 in
set_option maxRecDepth 100000 in
theorem demand2_okno (b : Nat) (na nb : Bool) (aa ab : Option Addr) (ca cb : Nat) (xa xb : List Nat) (w : World) (hr : RowAt w b 24 [.bool na, .slice aa xa.length ca, .bool nb, .slice ab xb.length cb]) (ha : Reads .u32 w (.slice aa xa.length ca) xa) (hla : Limbs xa) (fa : formedB na xa = true) (hb : Reads .u32 w (.slice ab xb.length cb) xb) (hlb : Limbs xb) (fb : formedB nb xb = false) :
    Calls Tryz.prog 24 #[.slice (some ⟨b, 0, none⟩) 2 2] w fun e w' => Below w.heap.size w w' ∧ e = .panicked [{ v := .iface 27 (.int .i64 1), recovered := false }] := by
  have c0 := hr.cell 0
  have c1 := hr.cell 1
  simp only [List.getElem?_cons_zero, List.getElem?_cons_succ] at c0 c1
  have i0 := index_ints b 2 0 (by decide)
  simp only [Int.ofNat_zero, Nat.zero_mul] at i0
  have i1 := index_ints b 2 1 (by decide)
  simp only [Int.ofNat_one, Nat.one_mul] at i1
  have b0 := (Below.refl w.heap.size w).alloc (Nat.le_refl _) (.cells #[.bool na, .slice aa xa.length ca] 24)
  go_enter Tryz.func24, Tryz.ntmps24
  go_wp2_with fail
  refine wp_loop_rounds 3 ?_
  rw [rounds_succ]
  go_wp2_with (first | (go_at_call 30; refine (check_ok _ na xa _ ⟨_, rfl, ha.below b0, hla⟩ fa).mono ?_; rintro e w1 ⟨hbe1, rfl⟩; have b1 := b0.trans (hbe1.mono (by simp)); have r1 := hr.below b1; have c2 := r1.cell 2; have c3 := r1.cell 3; simp only [List.getElem?_cons_zero, List.getElem?_cons_succ] at c2 c3) | (go_at_call 45; refine (demand_ok _ _ _ (by rfl)).mono ?_; rintro e w9 ⟨rfl, rfl⟩))
  rw [rounds_succ]
  go_wp2_with (first | (go_at_call 30; refine (check_no _ nb xb _ ⟨_, rfl, hb.below (b1.alloc b1.size _), hlb⟩ fb).mono ?_; rintro e w2 ⟨hbe2, rfl⟩; have b2 := (b1.alloc b1.size (.cells #[.bool nb, .slice ab xb.length cb] 24)).trans (hbe2.mono (by have := b1.size; simp; omega))) | (go_at_call 45; refine (demand_no _ _ _ (by rfl)).mono ?_; rintro e w9 ⟨rfl, rfl⟩))
  exact ⟨rfl, b2, rfl⟩

set_option maxHeartbeats 1000000 in
set_option maxRecDepth 100000 in
theorem demand2_no (b : Nat) (na nb : Bool) (aa ab : Option Addr) (ca cb : Nat) (xa xb : List Nat) (w : World) (hr : RowAt w b 24 [.bool na, .slice aa xa.length ca, .bool nb, .slice ab xb.length cb]) (ha : Reads .u32 w (.slice aa xa.length ca) xa) (hla : Limbs xa) (fa : formedB na xa = false) :
    Calls Tryz.prog 24 #[.slice (some ⟨b, 0, none⟩) 2 2] w fun e w' => Below w.heap.size w w' ∧ e = .panicked [{ v := .iface 27 (.int .i64 1), recovered := false }] := by
  have c0 := hr.cell 0
  have c1 := hr.cell 1
  simp only [List.getElem?_cons_zero, List.getElem?_cons_succ] at c0 c1
  have i0 := index_ints b 2 0 (by decide)
  simp only [Int.ofNat_zero, Nat.zero_mul] at i0
  have i1 := index_ints b 2 1 (by decide)
  simp only [Int.ofNat_one, Nat.one_mul] at i1
  have b0 := (Below.refl w.heap.size w).alloc (Nat.le_refl _) (.cells #[.bool na, .slice aa xa.length ca] 24)
  go_enter Tryz.func24, Tryz.ntmps24
  go_wp2_with fail
  refine wp_loop_rounds 3 ?_
  rw [rounds_succ]
  go_wp2_with (first | (go_at_call 30; refine (check_no _ na xa _ ⟨_, rfl, ha.below b0, hla⟩ fa).mono ?_; rintro e w1 ⟨hbe1, rfl⟩; have b1 := b0.trans (hbe1.mono (by simp))) | (go_at_call 45; refine (demand_no _ _ _ (by rfl)).mono ?_; rintro e w9 ⟨rfl, rfl⟩))
  exact ⟨rfl, b1, rfl⟩

end Go.Proofs.YtlghjfpkfdnfoaaGreatDoor

/- num.ring: an operation that all formed integers have, and whose result may have too many limbs -/
namespace Go.Proofs.YtlghjfpkfdnfoaaGreatDoor
open Go Go.RowKit Go.Shelf

set_option maxRecDepth 100000 in
set_option maxHeartbeats 400000 in
theorem fitting_no (neg : Bool) (a : Option Addr) (n cap : Nat) (w : World) (hn : ¬ n ≤ 300) :
    Calls Tryz.prog 50 #[.agg #[.bool neg, .slice a n cap]] w fun e w' => Below w.heap.size w w' ∧ e = .panicked [{ v := .iface 27 (.int .i64 3), recovered := false }] := by
  go_enter Tryz.func50, Tryz.ntmps50
  go_wp2_with (go_at_call 45; refine (demand_no _ _ _ (by simp; try omega)).mono ?_; rintro e w' ⟨rfl, rfl⟩)
  exact ⟨rfl, ((Below.refl _ _).alloc (Nat.le_refl _) _).alloc (by simp) _, rfl⟩

theorem canon_length_iff {xs : List Nat} (h : Canon xs) (k : Nat) : xs.length ≤ k ↔ val xs < B32 ^ k := by
  refine ⟨fun hl => ?_, canon_length_le h⟩
  exact Nat.lt_of_lt_of_le (val_lt h.1) (Nat.pow_le_pow_right (by decide) hl)

end Go.Proofs.YtlghjfpkfdnfoaaGreatDoor

/- num.ring whole -/
namespace Go.Proofs.YtlghjfpkfdnfoaaGreatDoor
open Go Go.RowKit Go.Shelf

def zeroInt : Value := .agg #[.bool false, .slice none 0 0]
def RingRes (fa fb : Bool) (r : Int) (k : Int) (W : World) (v : Value) : Prop :=
  if (fa && fb) = true then (if r.natAbs < B32 ^ 300 then k = 0 ∧ IsInt W v r else k = 3 ∧ v = zeroInt) else k = 1 ∧ v = zeroInt

theorem IsInt.keep {W W' : World} {v : Value} {i : Int} (h : IsInt W v i) (hk : ∀ v xs, Reads .u32 W v xs → Reads .u32 W' v xs) : IsInt W' v i := by
  obtain ⟨neg, va, xs, e, hr, hc, hn, hi⟩ := h
  exact ⟨neg, va, xs, e, hk _ _ hr, hc, hn, hi⟩
set_option exponentiation.threshold 400 in
theorem RingRes.keep {fa fb : Bool} {r k : Int} {W W' : World} {v : Value} (h : RingRes fa fb r k W v) (hk : ∀ v xs, Reads .u32 W v xs → Reads .u32 W' v xs) : RingRes fa fb r k W' v := by
  unfold RingRes at *
  by_cases h1 : (fa && fb) = true
  · rw [if_pos h1] at h ⊢
    by_cases h2 : r.natAbs < B32 ^ 300
    · rw [if_pos h2] at h ⊢
      exact ⟨h.1, h.2.keep hk⟩
    · rw [if_neg h2] at h ⊢
      exact h
  · rw [if_neg h1] at h ⊢
    exact h

end Go.Proofs.YtlghjfpkfdnfoaaGreatDoor
