/- zermeloref01.Bits, limb, To -/
import Derived.Test.YtnacgkljdcfkcaaDoorNumMBits
import Derived.Test.YtnacgkljdcfkcaaDoorNumMShiftRight
import Derived.Test.YtnacgkljdcfkcaaDoorNumMRing2
import Derived.Test.YtnacgkljdcfkcaaDoorNumMDivideSmall
namespace Go.Proofs.YtnacgkljdcfkcaaDoor
open Go Go.RowKit Go.Shelf

set_option maxHeartbeats 1000000 in
set_option maxRecDepth 100000 in
theorem rbits_any (va : Value) (na : Bool) (xs : List Nat) (w : World) (ha : IntAt w va na xs) (hn : xs.length ≤ 100000) :
    Calls Tryd.prog 22 #[va] w fun e w' => Below w.heap.size w w' ∧ e = .returned (.agg #[.int .i64 (if formedB na xs = true then (bitsOf xs : Int) else 0), .int .i64 (if formedB na xs = true then 0 else 1)]) := by
  have k1 := fun w2 (hb2 : Below w.heap.size w w2) => rformed_any va na xs w2 (ha.below hb2)
  have k2 := fun w2 (hb2 : Below w.heap.size w w2) (f : formedB na xs = true) => digits_any va na xs w2 (ha.below hb2) (by obtain ⟨sa, -, -, hla⟩ := ha; exact (formedB_canon f hla).1) hn
  obtain ⟨sa, rfl, hra, hla⟩ := ha
  obtain ⟨aa, ca, rfl, hlca, hma⟩ := hra.form
  have b0 := ((Below.refl w.heap.size w).alloc (Nat.le_refl _) (.cells #[.bool na, .slice aa xs.length ca] 24)).alloc (by simp) (.cells #[.int .i64 0, .int .i64 0] 34)
  have rr := RowAt.new (w.alloc (.cells #[.bool na, .slice aa xs.length ca] 24)) 34 [.int .i64 0, .int .i64 0]
  have ra := (RowAt.new w 24 [.bool na, .slice aa xs.length ca]).alloc (.cells #[.int .i64 0, .int .i64 0] 34)
  simp only [World.size_alloc] at rr
  have key := k1 _ b0
  cases f : formedB na xs with
  | true =>
    rw [f] at key
    have k3 := fun w2 (hb2 : Below w.heap.size w w2) => k2 w2 hb2 f
    clear k1 k2
    go_enter Tryd.func22, Tryd.ntmps22
    go_wp2_with (first
      | (go_at_call 19; refine key.mono ?_; rintro e w2 ⟨hbe, rfl⟩; have bw := b0.trans (hbe.mono b0.size); have c1 := (ra.below hbe).cell 0; have c2 := (ra.below hbe).cell 1; simp only [List.getElem?_cons_zero, List.getElem?_cons_succ] at c1 c2; have k4 := k3 _ bw; have rr2 := rr.below hbe)
      | (go_at_call 56; refine k4.mono ?_; rintro e w3 ⟨hbe3, rfl⟩; have bw3 := bw.trans (hbe3.mono bw.size); have q := rr2.below hbe3; have s1 := q.cell 0; have s2 := q.cell 1; have s3 := q.frozen 0; have s4 := q.frozen 1; simp only [List.getElem?_cons_zero, List.getElem?_cons_succ] at s1 s2))
    obtain ⟨u1, u2⟩ := two_reads (b := w.heap.size + 1) s1 s2 (.int .i64 (bitsOf xs)) (.int .i64 0)
    refine bodyPost_ret (v := .agg #[.int .i64 (bitsOf xs), .int .i64 0]) (by simp [results, Tryd.results22, go_sem, loadCellsFrom, u1, u2]) rfl ⟨?_, rfl⟩
    exact (bw3.setCell (by simp) _).setCell (by simp) _
  | false =>
    rw [f] at key
    clear k1 k2
    go_enter Tryd.func22, Tryd.ntmps22
    go_wp2_with (first
      | (go_at_call 19; refine key.mono ?_; rintro e w2 ⟨hbe, rfl⟩; have bw := b0.trans (hbe.mono b0.size); have q := rr.below hbe; have s1 := q.cell 0; have s2 := q.cell 1; have s3 := q.frozen 0; have s4 := q.frozen 1; simp only [List.getElem?_cons_zero, List.getElem?_cons_succ] at s1 s2))
    obtain ⟨u1, u2⟩ := two_reads (b := w.heap.size + 1) s1 s2 (.int .i64 0) (.int .i64 1)
    refine bodyPost_ret (v := .agg #[.int .i64 0, .int .i64 1]) (by simp [results, Tryd.results22, go_sem, loadCellsFrom, u1, u2]) rfl ⟨?_, rfl⟩
    exact (bw.setCell (by simp) _).setCell (by simp) _

set_option maxHeartbeats 1000000 in
set_option maxRecDepth 100000 in
theorem limb_any (va : Value) (xs : List Nat) (i : Nat) (w : World) (ha : Reads .u32 w va xs) (hl : Limbs xs) :
    Calls Tryd.prog 62 #[va, .int .i64 i] w fun e w' => w = w' ∧ e = .returned (.int .u64 ((xs[i]?.getD 0 : Nat) : Int)) := by
  obtain ⟨aa, ca, rfl, hlca, hma⟩ := ha.form
  by_cases h : i < xs.length
  · have hd : decide ((i : Int) < (xs.length : Int)) = true := by simp <;> omega
    have i1 := fun W => ha.index und_limbs size_limb (P := Tryd.prog) i .i64 W h
    have d1 := ha.cell i h
    have hx := limb_getD hl i
    generalize xs[i]?.getD 0 = x at *
    have hw : IntKind.u64.wrap (x : Int) = x := by
      unfold B32 at hx
      simp [IntKind.wrap, IntKind.bits, IntKind.signed]
      omega
    clear hx
    go_enter Tryd.func62, Tryd.ntmps62
    go_wp2
    go_ret
    exact ⟨rfl, rfl⟩
  · have hd : decide ((i : Int) < (xs.length : Int)) = false := by simp <;> omega
    rw [List.getElem?_eq_none (by omega)]
    go_enter Tryd.func62, Tryd.ntmps62
    go_wp2
    go_ret
    exact ⟨rfl, rfl⟩

/-- what To tells: the number and the error -/
def toRes (na : Bool) (xs : List Nat) : Int × Int :=
  if formedB na xs = true then
    if xs.length ≤ 2 then
      if na = true then (if val xs ≤ 9223372036854775808 then (-(val xs : Int), 0) else (0, 3))
      else (if val xs < 9223372036854775808 then ((val xs : Int), 0) else (0, 3))
    else (0, 3)
  else (0, 1)
theorem val_two {xs : List Nat} (h : xs.length ≤ 2) : (val xs : Int) = ((xs[1]?.getD 0 : Nat) : Int) * 4294967296 + ((xs[0]?.getD 0 : Nat) : Int) := by
  match xs, h with
  | [], _ => simp [val]
  | [x], _ => simp [val]
  | [x, y], _ => simp [val, B32]; omega

theorem row_drewN {W : World} {b : Nat} {t : TypeId} {cs : List Value} (h : RowAt W b t cs) (n : Nat) : RowAt (W.drewN n) b t cs := h.below (below_drewN (Below.refl _ _) n)

set_option maxHeartbeats 1000000 in
set_option maxRecDepth 100000 in
theorem rto_small (na : Bool) (aa : Option Addr) (ca : Nat) (xs : List Nat) (w : World) (hra : Reads .u32 w (.slice aa xs.length ca) xs) (hla : Limbs xs) (f : formedB na xs = true) (h2 : xs.length ≤ 2) :
    Calls Tryd.prog 24 #[.agg #[.bool na, .slice aa xs.length ca]] w fun e w' => Below w.heap.size w w' ∧ e = .returned (.agg #[.int .i64 (toRes na xs).1, .int .i64 (toRes na xs).2]) := by
  have b0 := ((Below.refl w.heap.size w).alloc (Nat.le_refl _) (.cells #[.bool na, .slice aa xs.length ca] 24)).alloc (by simp) (.cells #[.int .i64 0, .int .i64 0] 34)
  have rr := RowAt.new (w.alloc (.cells #[.bool na, .slice aa xs.length ca] 24)) 34 [.int .i64 0, .int .i64 0]
  have ra := (RowAt.new w 24 [.bool na, .slice aa xs.length ca]).alloc (.cells #[.int .i64 0, .int .i64 0] 34)
  simp only [World.size_alloc] at rr
  have key := rformed_any (.agg #[.bool na, .slice aa xs.length ca]) na xs _ ⟨_, rfl, hra.below b0, hla⟩
  rw [f] at key
  have L0 : ∀ W, Reads .u32 W (.slice aa xs.length ca) xs → Calls Tryd.prog 62 #[.slice aa xs.length ca, .int .i64 0] W fun e w' => W = w' ∧ e = .returned (.int .u64 ((xs[0]?.getD 0 : Nat) : Int)) := fun W h => limb_any (.slice aa xs.length ca) xs 0 W h hla
  have L1 : ∀ W, Reads .u32 W (.slice aa xs.length ca) xs → Calls Tryd.prog 62 #[.slice aa xs.length ca, .int .i64 1] W fun e w' => W = w' ∧ e = .returned (.int .u64 ((xs[1]?.getD 0 : Nat) : Int)) := fun W h => limb_any (.slice aa xs.length ca) xs 1 W h hla
  have hv := val_two h2
  have hl0 := limb_getD hla 0
  have hl1 := limb_getD hla 1
  unfold B32 at hl0 hl1
  have hd : decide ((2 : Int) < (xs.length : Int)) = false := by simp <;> omega
  generalize xs[0]?.getD 0 = x0 at *
  generalize xs[1]?.getD 0 = x1 at *
  have hT : toRes na xs = if na = true then (if val xs ≤ 9223372036854775808 then (-(val xs : Int), 0) else (0, 3)) else (if val xs < 9223372036854775808 then ((val xs : Int), 0) else (0, 3)) := by
    rw [toRes, if_pos f, if_pos h2]
  generalize toRes na xs = R at *
  generalize val xs = u at *
  have HR := Lib.hid hT
  obtain ⟨m, hm⟩ : ∃ m : Int, (x1 : Int) * 4294967296 = m := ⟨_, rfl⟩
  have t1 : IntKind.u64.wrap ((x1 : Int) * 4294967296) = m := by
    rw [hm]
    simp [IntKind.wrap, IntKind.bits, IntKind.signed]
    omega
  have t2 : IntKind.u64.wrap (m + (x0 : Int)) = (u : Int) := by
    simp [IntKind.wrap, IntKind.bits, IntKind.signed]
    omega
  have HV := Lib.hid (And.intro hv (And.intro hl0 (And.intro hl1 hm)))
  clear hT hv hl0 hl1 hm
  go_enter Tryd.func24, Tryd.ntmps24
  go_wp2_with (first
      | (go_at_call 19; refine key.mono ?_; rintro e w2 ⟨hbe, rfl⟩; have bw := b0.trans (hbe.mono b0.size); have c1 := (ra.below hbe).cell 0; have c2 := (ra.below hbe).cell 1; have q := rr.below hbe; have s1 := q.cell 0; have s2 := q.cell 1; have s3 := q.frozen 0; have s4 := q.frozen 1; simp only [List.getElem?_cons_zero, List.getElem?_cons_succ] at c1 c2 s1 s2; have hr2 := hra.below bw))
  go_quiet (first
      | (go_at_call 62; with_reducible refine (L0 _ (hr2.drewN _)).mono ?_; exact fun e w' h => ⟨h.2, _, h.1.symm⟩)
      | (go_at_call 62; with_reducible refine (L1 _ (hr2.drewN _)).mono ?_; exact fun e w' h => ⟨h.2, _, h.1.symm⟩))
  have q3 := row_drewN q nq
  have ra3 := row_drewN (ra.below hbe) nq
  have bw3 := below_drewN bw nq
  generalize w2.drewN nq = W3 at *
  clear key L0 L1 hr2 c1 c2 s1 s2 s3 s4 q hbe bw t1 t2
  have c1 := ra3.cell 0
  have s1 := q3.cell 0
  have s2 := q3.cell 1
  have s3 := q3.frozen 0
  have s4 := q3.frozen 1
  simp only [List.getElem?_cons_zero, List.getElem?_cons_succ] at c1 s1 s2
  have fin := fun x y => two_reads (b := w.heap.size + 1) s1 s2 x y
  cases na with
  | true =>
    by_cases hu : u ≤ 9223372036854775808
    · have hd1 : decide ((u : Int) ≤ 9223372036854775808) = true := by simp <;> omega
      obtain ⟨y, hy⟩ : ∃ y, IntKind.u64.wrap (-(u : Int)) = y := ⟨_, rfl⟩
      have hz : IntKind.i64.wrap y = -(u : Int) := by
        rw [← hy]
        simp [IntKind.wrap, IntKind.bits, IntKind.signed]
        omega
      go_wp2
      obtain ⟨u1, u2⟩ := fin (.int .i64 (-(u : Int))) (.int .i64 0)
      refine bodyPost_ret (v := .agg #[.int .i64 (-(u : Int)), .int .i64 0]) (by simp [results, Tryd.results24, go_sem, loadCellsFrom, u1, u2]) rfl ⟨?_, by rw [HR.out]; simp [hu]⟩
      exact (bw3.setCell (by simp) _).setCell (by simp) _
    · have hd1 : decide ((u : Int) ≤ 9223372036854775808) = false := by simp <;> omega
      go_wp2
      obtain ⟨u1, u2⟩ := fin (.int .i64 0) (.int .i64 3)
      refine bodyPost_ret (v := .agg #[.int .i64 0, .int .i64 3]) (by simp [results, Tryd.results24, go_sem, loadCellsFrom, u1, u2]) rfl ⟨?_, by rw [HR.out]; simp [hu]⟩
      exact (bw3.setCell (by simp) _).setCell (by simp) _
  | false =>
    by_cases hu : u < 9223372036854775808
    · have hd1 : decide ((9223372036854775808 : Int) ≤ (u : Int)) = false := by simp <;> omega
      have hz : IntKind.i64.wrap (u : Int) = u := by
        simp [IntKind.wrap, IntKind.bits, IntKind.signed]
        omega
      go_wp2
      obtain ⟨u1, u2⟩ := fin (.int .i64 u) (.int .i64 0)
      refine bodyPost_ret (v := .agg #[.int .i64 u, .int .i64 0]) (by simp [results, Tryd.results24, go_sem, loadCellsFrom, u1, u2]) rfl ⟨?_, by rw [HR.out]; simp [hu]⟩
      exact (bw3.setCell (by simp) _).setCell (by simp) _
    · have hd1 : decide ((9223372036854775808 : Int) ≤ (u : Int)) = true := by simp <;> omega
      go_wp2
      obtain ⟨u1, u2⟩ := fin (.int .i64 0) (.int .i64 3)
      refine bodyPost_ret (v := .agg #[.int .i64 0, .int .i64 3]) (by simp [results, Tryd.results24, go_sem, loadCellsFrom, u1, u2]) rfl ⟨?_, by rw [HR.out]; simp [hu]⟩
      exact (bw3.setCell (by simp) _).setCell (by simp) _

set_option maxHeartbeats 1000000 in
set_option maxRecDepth 100000 in
theorem rto_any (va : Value) (na : Bool) (xs : List Nat) (w : World) (ha : IntAt w va na xs) :
    Calls Tryd.prog 24 #[va] w fun e w' => Below w.heap.size w w' ∧ e = .returned (.agg #[.int .i64 (toRes na xs).1, .int .i64 (toRes na xs).2]) := by
  have k1 := fun w2 (hb2 : Below w.heap.size w w2) => rformed_any va na xs w2 (ha.below hb2)
  obtain ⟨sa, rfl, hra, hla⟩ := ha
  obtain ⟨aa, ca, rfl, hlca, hma⟩ := hra.form
  cases f : formedB na xs with
  | true =>
    by_cases h2 : xs.length ≤ 2
    · exact rto_small na aa ca xs w hra hla f h2
    · have hT : toRes na xs = (0, 3) := by rw [toRes, if_pos f, if_neg h2]
      rw [hT]
      have b0 := ((Below.refl w.heap.size w).alloc (Nat.le_refl _) (.cells #[.bool na, .slice aa xs.length ca] 24)).alloc (by simp) (.cells #[.int .i64 0, .int .i64 0] 34)
      have rr := RowAt.new (w.alloc (.cells #[.bool na, .slice aa xs.length ca] 24)) 34 [.int .i64 0, .int .i64 0]
      have ra := (RowAt.new w 24 [.bool na, .slice aa xs.length ca]).alloc (.cells #[.int .i64 0, .int .i64 0] 34)
      simp only [World.size_alloc] at rr
      have key := k1 _ b0
      rw [f] at key
      clear k1 hT
      have hd : decide ((2 : Int) < (xs.length : Int)) = true := by simp <;> omega
      go_enter Tryd.func24, Tryd.ntmps24
      go_wp2_with (first
        | (go_at_call 19; refine key.mono ?_; rintro e w2 ⟨hbe, rfl⟩; have bw := b0.trans (hbe.mono b0.size); have c1 := (ra.below hbe).cell 0; have c2 := (ra.below hbe).cell 1; have q := rr.below hbe; have s1 := q.cell 0; have s2 := q.cell 1; have s3 := q.frozen 0; have s4 := q.frozen 1; simp only [List.getElem?_cons_zero, List.getElem?_cons_succ] at c1 c2 s1 s2))
      obtain ⟨u1, u2⟩ := two_reads (b := w.heap.size + 1) s1 s2 (.int .i64 0) (.int .i64 3)
      refine bodyPost_ret (v := .agg #[.int .i64 0, .int .i64 3]) (by simp [results, Tryd.results24, go_sem, loadCellsFrom, u1, u2]) rfl ⟨?_, rfl⟩
      exact (bw.setCell (by simp) _).setCell (by simp) _
  | false =>
    have hT : toRes na xs = (0, 1) := by rw [toRes, f]; rfl
    rw [hT]
    have b0 := ((Below.refl w.heap.size w).alloc (Nat.le_refl _) (.cells #[.bool na, .slice aa xs.length ca] 24)).alloc (by simp) (.cells #[.int .i64 0, .int .i64 0] 34)
    have rr := RowAt.new (w.alloc (.cells #[.bool na, .slice aa xs.length ca] 24)) 34 [.int .i64 0, .int .i64 0]
    simp only [World.size_alloc] at rr
    have key := k1 _ b0
    rw [f] at key
    clear k1 hT
    go_enter Tryd.func24, Tryd.ntmps24
    go_wp2_with (first
      | (go_at_call 19; refine key.mono ?_; rintro e w2 ⟨hbe, rfl⟩; have bw := b0.trans (hbe.mono b0.size); have q := rr.below hbe; have s1 := q.cell 0; have s2 := q.cell 1; have s3 := q.frozen 0; have s4 := q.frozen 1; simp only [List.getElem?_cons_zero, List.getElem?_cons_succ] at s1 s2))
    obtain ⟨u1, u2⟩ := two_reads (b := w.heap.size + 1) s1 s2 (.int .i64 0) (.int .i64 1)
    refine bodyPost_ret (v := .agg #[.int .i64 0, .int .i64 1]) (by simp [results, Tryd.results24, go_sem, loadCellsFrom, u1, u2]) rfl ⟨?_, rfl⟩
    exact (bw.setCell (by simp) _).setCell (by simp) _

end Go.Proofs.YtnacgkljdcfkcaaDoor

/- num.word -/
namespace Go.Proofs.YtnacgkljdcfkcaaDoor
open Go Go.RowKit Go.Shelf
attribute [local go_sem] Oper.semAt_some

/-- limbs put together as a word -/
def wordFold (ps : List (Nat × Nat)) : Nat := ps.foldl (fun m p => m ||| (p.2 <<< (32 * p.1))) 0
theorem wordFold_snoc (ps : List (Nat × Nat)) (p : Nat × Nat) : wordFold (ps ++ [p]) = wordFold ps ||| (p.2 <<< (32 * p.1)) := by simp [wordFold]
theorem wordFold_lt (ps : List (Nat × Nat)) (h : ∀ p ∈ ps, p.1 < 2 ∧ p.2 < B32) : wordFold ps < 2 ^ 64 := by
  suffices H : ∀ (ps : List (Nat × Nat)) (m : Nat), m < 2 ^ 64 → (∀ p ∈ ps, p.1 < 2 ∧ p.2 < B32) → ps.foldl (fun m p => m ||| (p.2 <<< (32 * p.1))) m < 2 ^ 64 from H ps 0 (by decide) h
  intro ps
  induction ps with
  | nil => intro m hm _; simpa using hm
  | cons p ps ih =>
    intro m hm h
    obtain ⟨h1, h2⟩ := h p (by simp)
    simp only [List.foldl_cons]
    refine ih _ (Nat.or_lt_two_pow hm ?_) (fun q hq => h q (by simp [hq]))
    rw [Nat.shiftLeft_eq]
    unfold B32 at h2
    rcases Nat.lt_or_ge p.1 1 with h3 | h3
    · have : p.1 = 0 := by omega
      rw [this]; omega
    · have : p.1 = 1 := by omega
      rw [this]; omega
theorem wordFold_two {x y : Nat} (hx : x < 4294967296) : wordFold [(0, x), (1, y)] = y * 4294967296 + x := by
  simp only [wordFold, List.foldl_cons, List.foldl_nil, Nat.zero_or, Nat.mul_zero, Nat.mul_one, Nat.shiftLeft_zero]
  rw [Nat.or_comm, ← Nat.shiftLeft_add_eq_or_of_lt (show x < 2 ^ 32 from hx), Nat.shiftLeft_eq]

theorem or_word2 {m y s : Nat} (hm : m < 2 ^ 64) (hy : y < B32) (hs : s = 0 ∨ s = 32) :
    bits BinOp.or IntKind.u64 (m : Int) (IntKind.u64.wrap (IntKind.u64.wrap (y : Int) * 2 ^ s)) = ((m ||| y <<< s : Nat) : Int) := by
  unfold B32 at hy
  have e1 : IntKind.u64.wrap (y : Int) = (y : Int) := by rw [IntKind.wrap_u64]; omega
  have e3 : y * 2 ^ s < 18446744073709551616 := by
    rcases hs with rfl | rfl
    · omega
    · omega
  have e2 : IntKind.u64.wrap ((y : Int) * 2 ^ s) = ((y * 2 ^ s : Nat) : Int) := by
    rw [IntKind.wrap_u64, show ((y : Int) * 2 ^ s) = ((y * 2 ^ s : Nat) : Int) by simp]
    omega
  rw [e1, e2, bits_or_u64_nat _ _ (by omega) (by omega), Nat.shiftLeft_eq]

theorem wrap_neg {u : Nat} (hu : u ≤ 9223372036854775808) : wrap64 (IntKind.u64.wrap (-(u : Int))) = -(u : Int) := by
  rw [IntKind.wrap_u64]
  unfold wrap64
  omega
/-- how word ends -/
def wordEnd (na : Bool) (u : Nat) : Ending :=
  if na = true then (if u ≤ 9223372036854775808 then .returned (.int .i64 (-(u : Int))) else .panicked [{ v := .iface 27 (.int .i64 3), recovered := false }])
  else (if u < 9223372036854775808 then .returned (.int .i64 u) else .panicked [{ v := .iface 27 (.int .i64 3), recovered := false }])

set_option maxHeartbeats 2000000 in
set_option maxRecDepth 100000 in
theorem word_any (na : Bool) (aa : Option Addr) (ca : Nat) (xs : List Nat) (w : World) (ha : Reads .u32 w (.slice aa xs.length ca) xs) (hla : Limbs xs) (h2 : xs.length ≤ 2) :
    Calls Tryd.prog 61 #[.agg #[.bool na, .slice aa xs.length ca]] w fun e w' => Below w.heap.size w w' ∧ e = wordEnd na (val xs) := by
  obtain ⟨E, hE⟩ : ∃ E, wordEnd na (val xs) = E := ⟨_, rfl⟩
  rw [hE]
  have HE := Lib.hid hE
  clear hE
  refine (callsIn_wide (n := 9)).1 ?_
  refine callsIn_of_wp_marks Tryd.func61 rfl trivial ?_ rfl
  simp only [Tryd.ntmps61, List.size_toArray, List.length_cons, List.length_nil, Nat.reduceAdd, Nat.reduceSub, Array.replicate_succ, Array.replicate_zero, List.push_toArray, List.append_toArray, List.nil_append, List.cons_append]
  gi_wp2_with (refine ⟨trivial, ?_⟩; gi_at_call 99; refine (callsIn_wide.2 (limbs_any _ _ _ ⟨_, _, _, rfl⟩)).mono ?_; rintro e w' ⟨rfl, rfl⟩)
  have b0 : Below w.heap.size w w := Below.refl _ _
  refine range_limbs 4 5 (w.heap.size + 3) (w.heap.size + 2) w.heap.size 2 (.slice aa xs.length ca) xs (by exact rfl) hla (by omega) (by simp) (by simp) (by simp; omega) ?m1 ?m2 (ha.below ?m3) ha.lt
    (fun pre W => Boxed W (w.heap.size + 1) 79 (.int .u64 (wordFold (pre.map (·.1)) : Int)) ∧ Boxed W (w.heap.size + 2) 22 (.slice aa xs.length ca) ∧ RowAt W w.heap.size 24 [.bool na, .slice aa xs.length ca] ∧ Below w.heap.size w W)
    (fun _ _ _ => False)
    ((ownFrom_boxed _ _ _).and ((ownFrom_boxed _ _ _).and ((ownFrom_rowAt _ _ (fun _ => [.bool na, .slice aa xs.length ca])).and (ownFrom_below (Nat.le_refl _) ?mB))))
    (fun _ _ _ _ _ h _ _ => h.elim) ?start ?assign ?body ?done ?stop
  case mB => simp; omega
  case m1 => go_simp
  case m2 => go_simp
  case m3 => exact (((b0.alloc (Nat.le_refl _) _).alloc (by simp) _).alloc (by simp; omega) _).alloc (by simp; omega) _
  case start =>
    refine ⟨?_, ?_, ?_, ?_⟩
    · exact Boxed.at (((Boxed.new _ _ _).alloc _).alloc _) (by simp)
    · exact Boxed.at ((Boxed.new _ _ _).alloc _) (by simp)
    · exact (((RowAt.new w 24 [.bool na, .slice aa xs.length ca]).alloc _).alloc _).alloc _
    · exact (((b0.alloc (Nat.le_refl _) _).alloc (by simp) _).alloc (by simp; omega) _).alloc (by simp; omega) _
  case assign =>
    intro l x W K hK
    gi_wp2
    exact hK
  case body =>
    rintro l pre x W ⟨bc, bl, br, bw⟩ hlt
    have hbB := bw.size
    obtain ⟨⟨i, y⟩, hi1, hi2⟩ := x
    have hfl := wordFold_lt (pre.map (·.1)) (fun p hp => by
      obtain ⟨q, _, rfl⟩ := List.mem_map.1 hp
      exact q.2)
    have hmap : (pre ++ [(⟨(i, y), hi1, hi2⟩ : IdxLimb 2)]).map (·.1) = pre.map (·.1) ++ [(i, y)] := by simp
    have hnext := wordFold_snoc (pre.map (·.1)) (i, y)
    generalize wordFold (pre.map (·.1)) = m at *
    dsimp only at *
    have HN := Lib.hid hnext
    have HM := Lib.hid hmap
    clear hnext hmap
    have HI2 := Lib.hid hi2
    have HFL := Lib.hid hfl
    clear hfl
    have hbc := bc.cell
    have hfc := bc.frozen
    obtain ⟨s, hs⟩ : ∃ s : Nat, 32 * i = s := ⟨_, rfl⟩
    have hs1 : IntKind.i64.wrap (32 * (i : Int)) = (s : Int) := by rw [IntKind.wrap_i64]; omega
    have hs2 : s < 64 := by omega
    have HS := Lib.hid hs
    clear hs
    simp only [boundFrame]
    gi_wp2_with fail
    refine region_tail (.inr ⟨_, rfl⟩) 7 (by kernel_rfl) (by kernel_rfl) ?_
    simp only [List.take_succ_cons, List.take_zero, List.drop_succ_cons, List.drop_zero]
    repeat still_step
    refine wpStill_nil ?_
    change wpListIn _ _ _ _ _ _ _ W.drew
    rw [or_word2 HFL.out HI2.out (by have := HS.out; omega)]
    have hnew : wordFold (List.map (·.1) pre ++ [(i, y)]) = m ||| y <<< s := by rw [HN.out, HS.out]
    have HN2 := Lib.hid hnew
    clear hnew
    obtain ⟨T, hT⟩ : ∃ T, m ||| y <<< s = T := ⟨_, rfl⟩
    rw [hT] at HN2 ⊢
    clear hT
    gi_wp2_with fail
    have hF : Chg (fun k => k = w.heap.size + 1) W (W.drew.setCell ⟨w.heap.size + 1, 0, none⟩ (.int .u64 (T : Int))) := (Chg.refl (fun k => k = w.heap.size + 1) W).drew.setCell (p := ⟨w.heap.size + 1, 0, none⟩) (.inl rfl) _
    have hFb := hF.below (B := w.heap.size) (by rintro k rfl; omega) hbB
    refine ⟨hF.keepsFrom _ (by rintro k rfl; exact Boxed.isCells bc), Kp0.boxed hFb bl (hF.boxed bl (by omega)), ?_, hF.boxed bl (by omega), hF.row br (by omega), bw.trans hFb⟩
    rw [HM.out, HN2.out]
    exact Boxed.set _ (Boxed.drew bc)
  case done =>
    rintro D ys W hD hys ⟨bc, bl, br, bw⟩ hK
    rw [hys] at bc
    have hval : wordFold (limbPairs xs 2) = val xs := by
      have h1 := val_two h2
      have h3 := limb_getD hla 0
      rw [show limbPairs xs 2 = [(0, xs[0]?.getD 0), (1, xs[1]?.getD 0)] from rfl, wordFold_two h3]
      omega
    rw [hval] at bc
    have hDlt := (Array.getElem?_eq_some_iff.1 hK).1
    have hD2 : w.heap.size + 3 < D := by simp at hD; omega
    clear hys hval
    generalize val xs = u at *
    have hbc := bc.cell
    have c1 := br.cell 0
    simp only [List.getElem?_cons_zero] at c1
    cases na with
    | true =>
      by_cases hu : u ≤ 9223372036854775808
      · have hd1 : decide ((u : Int) ≤ 9223372036854775808) = true := by simp <;> omega
        have hz := wrap_neg hu
        gi_wp2_with (refine ⟨trivial, ?_⟩; gi_at_call 60; refine (callsIn_wide.2 (demand_ok _ _ _ rfl)).mono ?_; rintro e w' ⟨rfl, rfl⟩)
        refine ⟨by simp, .inl ⟨_, _, rfl, run_takeDeferred hK, ?_⟩⟩
        refine ⟨.int .i64 (-(u : Int)), by simp [results, Tryd.results61, go_sem, hz], bw.trans (belowK_b (w := w) (Nat.le_refl _) _ D _ _ (by omega) hK rfl rfl), ?_⟩
        rw [← HE.out]
        simp [wordEnd, hu]
      · have hd1 : decide ((u : Int) ≤ 9223372036854775808) = false := by simp <;> omega
        gi_wp2_with (refine ⟨trivial, ?_⟩; gi_at_call 60; refine (callsIn_wide.2 (demand_no _ _ _ rfl)).mono ?_; rintro e w' ⟨rfl, rfl⟩)
        refine ⟨by simp, .inl ⟨_, _, rfl, run_takeDeferred hK, ?_⟩⟩
        exact ⟨bw.trans (belowK_b (w := w) (Nat.le_refl _) _ D _ _ (by omega) hK rfl rfl), by rw [← HE.out]; simp [wordEnd, hu]⟩
    | false =>
      by_cases hu : u < 9223372036854775808
      · have hd1 : decide ((u : Int) < 9223372036854775808) = true := by simp <;> omega
        have hz : wrap64 (u : Int) = (u : Int) := by unfold wrap64; omega
        gi_wp2_with (refine ⟨trivial, ?_⟩; gi_at_call 60; refine (callsIn_wide.2 (demand_ok _ _ _ rfl)).mono ?_; rintro e w' ⟨rfl, rfl⟩)
        refine ⟨by simp, .inl ⟨_, _, rfl, run_takeDeferred hK, ?_⟩⟩
        refine ⟨.int .i64 (u : Int), by simp [results, Tryd.results61, go_sem], bw.trans (belowK_b (w := w) (Nat.le_refl _) _ D _ _ (by omega) hK rfl rfl), ?_⟩
        rw [← HE.out]
        simp [wordEnd, hu]
      · have hd1 : decide ((u : Int) < 9223372036854775808) = false := by simp <;> omega
        gi_wp2_with (refine ⟨trivial, ?_⟩; gi_at_call 60; refine (callsIn_wide.2 (demand_no _ _ _ rfl)).mono ?_; rintro e w' ⟨rfl, rfl⟩)
        refine ⟨by simp, .inl ⟨_, _, rfl, run_takeDeferred hK, ?_⟩⟩
        exact ⟨bw.trans (belowK_b (w := w) (Nat.le_refl _) _ D _ _ (by omega) hK rfl rfl), by rw [← HE.out]; simp [wordEnd, hu]⟩
  case stop =>
    rintro D c pre W hD hpf h hK
    exact h.elim

end Go.Proofs.YtnacgkljdcfkcaaDoor

/- num.To, every way -/
namespace Go.Proofs.YtnacgkljdcfkcaaDoor
open Go Go.RowKit Go.Shelf

theorem bits_64 {xs : List Nat} (hk : Canon xs) : bitsOf xs ≤ 64 ↔ xs.length ≤ 2 := by
  by_cases hx : xs = []
  · subst hx; simp [bitsOf]
  · have hl : 0 < xs.length := List.length_pos_iff.2 hx
    obtain ⟨b1, b2, -, -⟩ := bitLen_bounds (canon_last hk hx) (limb_getD hk.1 (xs.length - 1))
    rw [bitsOf, if_neg (by omega)]
    omega

set_option maxHeartbeats 1000000 in
set_option maxRecDepth 100000 in
theorem to1_any (B : Nat) (na : Bool) (aa : Option Addr) (ca : Nat) (xa : List Nat) (w : World) (hra : RowAt w B 24 [.bool na, .slice aa xa.length ca]) (hrr : RowAt w (B + 1) 3 [.int .i64 0]) (ha : Reads .u32 w (.slice aa xa.length ca) xa) (hla : Limbs xa) :
    Calls Tryd.prog 58 #[.pointer (some ⟨B, 0, none⟩), .pointer (some ⟨B + 1, 0, none⟩)] w fun e W => ∃ k, (k = 0 ∧ e = .returned (.tuple #[]) ∨ e = .panicked [{ v := .iface 27 (.int .i64 k), recovered := false }]) ∧ Chg (fun i => i = B + 1) w W ∧ (∃ i0, RowAt W (B + 1) 3 [.int .i64 i0] ∧ i0 = (toRes na xa).1 ∧ k = (toRes na xa).2) := by
  have a0 := hra.cell 0
  have a1 := hra.cell 1
  simp only [List.getElem?_cons_zero, List.getElem?_cons_succ] at a0 a1
  have r0' := RowAt.new w 24 [.bool na, .slice aa xa.length ca]
  have bw := (Below.refl w.heap.size w).alloc (Nat.le_refl _) (.cells #[.bool na, .slice aa xa.length ca] 24)
  have hch0 : Chg (fun i => i = B + 1) w w := Chg.refl (fun k => k = B + 1) w
  cases fa : formedB na xa with
  | false =>
    have hT : toRes na xa = (0, 1) := by rw [toRes, fa]; rfl
    rw [hT]
    clear hT
    go_enter Tryd.func58, Tryd.ntmps58
    go_wp2_with (go_at_call 59; refine (demand1_no _ na aa ca xa _ r0' (ha.below bw) hla fa).mono ?_; rintro e w1 ⟨hbe1, rfl⟩; have bw1 := bw.trans (hbe1.mono (by simp)))
    exact ⟨rfl, 1, .inr rfl, hch0.thenBelow bw1, 0, hrr.below bw1, rfl, rfl⟩
  | true =>
    obtain ⟨hkx, hxl, -⟩ := formedB_canon fa hla
    have hb64 := bits_64 hkx
    by_cases h2 : xa.length ≤ 2
    · have hd : decide ((bitsOf xa : Int) ≤ 64) = true := by simp <;> omega
      have hT : toRes na xa = if na = true then (if val xa ≤ 9223372036854775808 then (-(val xa : Int), 0) else (0, 3)) else (if val xa < 9223372036854775808 then ((val xa : Int), 0) else (0, 3)) := by
        rw [toRes, if_pos fa, if_pos h2]
      have HT := Lib.hid hT
      clear hT hb64
      by_cases hu : if na = true then val xa ≤ 9223372036854775808 else val xa < 9223372036854775808
      · have hwe : wordEnd na (val xa) = .returned (.int .i64 (toRes na xa).1) ∧ (toRes na xa).2 = 0 := by
          rw [HT.out]
          cases na
          · simp at hu; simp [wordEnd, hu]
          · simp at hu; simp [wordEnd, hu]
        have key := fun w2 (hb2 : Below w.heap.size w w2) => word_any na aa ca xa w2 (ha.below hb2) hla h2
        rw [hwe.1] at key
        have H0 := Lib.hid hwe.2
        clear hwe hu
        go_enter Tryd.func58, Tryd.ntmps58
        go_wp2_with (first
          | (go_at_call 59; refine (demand1_ok _ _ aa ca xa _ r0' (ha.below bw) hla fa).mono ?_; rintro e w1 ⟨hbe1, rfl⟩; have bw1 := bw.trans (hbe1.mono (by simp)); have p0 := (hra.below bw1).cell 0; have p2 := (hra.below bw1).cell 1; simp only [List.getElem?_cons_zero, List.getElem?_cons_succ] at p0 p2; have key1 := key _ bw1)
          | (go_at_call 55; refine (bitLen_any (.slice aa xa.length ca) xa _ (ha.below bw1) hla (by omega)).mono ?_; rintro e w2 ⟨rfl, rfl⟩)
          | (go_at_call 60; refine (demand_ok _ _ _ (by first | rfl | (simp; omega))).mono ?_; rintro e w2 ⟨rfl, rfl⟩)
          | (go_at_call 61; refine key1.mono ?_; rintro e w3 ⟨hbe3, rfl⟩; have bw3 := bw1.trans (hbe3.mono bw1.size); have sr := hrr.below bw3; have o1 := sr.cell 0; have o5 := sr.frozen 0; simp only [List.getElem?_cons_zero] at o1))
        go_end0
        exact ⟨0, .inl ⟨rfl, rfl⟩, (hch0.thenBelow bw3).setCell (p := ⟨B + 1, 0, none⟩) (.inl rfl) _, _, sr.set 0 _, rfl, H0.out.symm⟩
      · have hwe : wordEnd na (val xa) = .panicked [{ v := .iface 27 (.int .i64 3), recovered := false }] ∧ toRes na xa = (0, 3) := by
          rw [HT.out]
          cases na
          · simp at hu; simp [wordEnd]; omega
          · simp at hu; simp [wordEnd]; omega
        have key := fun w2 (hb2 : Below w.heap.size w w2) => word_any na aa ca xa w2 (ha.below hb2) hla h2
        rw [hwe.1] at key
        rw [hwe.2]
        clear hwe hu HT
        go_enter Tryd.func58, Tryd.ntmps58
        go_wp2_with (first
          | (go_at_call 59; refine (demand1_ok _ _ aa ca xa _ r0' (ha.below bw) hla fa).mono ?_; rintro e w1 ⟨hbe1, rfl⟩; have bw1 := bw.trans (hbe1.mono (by simp)); have p0 := (hra.below bw1).cell 0; have p2 := (hra.below bw1).cell 1; simp only [List.getElem?_cons_zero, List.getElem?_cons_succ] at p0 p2; have key1 := key _ bw1)
          | (go_at_call 55; refine (bitLen_any (.slice aa xa.length ca) xa _ (ha.below bw1) hla (by omega)).mono ?_; rintro e w2 ⟨rfl, rfl⟩)
          | (go_at_call 60; refine (demand_ok _ _ _ (by first | rfl | (simp; omega))).mono ?_; rintro e w2 ⟨rfl, rfl⟩)
          | (go_at_call 61; refine key1.mono ?_; rintro e w3 ⟨hbe3, rfl⟩; have bw3 := bw1.trans (hbe3.mono bw1.size)))
        exact ⟨rfl, 3, .inr rfl, hch0.thenBelow bw3, 0, hrr.below bw3, rfl, rfl⟩
    · have hd : decide ((bitsOf xa : Int) ≤ 64) = false := by simp <;> omega
      have hT : toRes na xa = (0, 3) := by rw [toRes, if_pos fa, if_neg h2]
      rw [hT]
      clear hT hb64
      go_enter Tryd.func58, Tryd.ntmps58
      go_wp2_with (first
        | (go_at_call 59; refine (demand1_ok _ _ aa ca xa _ r0' (ha.below bw) hla fa).mono ?_; rintro e w1 ⟨hbe1, rfl⟩; have bw1 := bw.trans (hbe1.mono (by simp)); have p0 := (hra.below bw1).cell 0; have p2 := (hra.below bw1).cell 1; simp only [List.getElem?_cons_zero, List.getElem?_cons_succ] at p0 p2)
        | (go_at_call 55; refine (bitLen_any (.slice aa xa.length ca) xa _ (ha.below bw1) hla (by omega)).mono ?_; rintro e w2 ⟨rfl, rfl⟩)
        | (go_at_call 60; refine (demand_no _ _ _ (by first | rfl | (simp; omega))).mono ?_; rintro e w2 ⟨rfl, rfl⟩))
      exact ⟨rfl, 3, .inr rfl, hch0.thenBelow bw1, 0, hrr.below bw1, rfl, rfl⟩

theorem To_any (va : Value) (na : Bool) (xa : List Nat) (w : World) (ha : IntAt w va na xa) :
    Calls Tryd.prog 23 #[va] w fun e w' => Below w.heap.size w w' ∧ e = .returned (.tuple #[.int .i64 (toRes na xa).1, .int .i64 (toRes na xa).2]) := by
  have hla : Limbs xa := by obtain ⟨_, -, -, h⟩ := ha; exact h
  refine (To_of va na xa w ha (fun k _ v => v = .int .i64 (toRes na xa).1 ∧ k = (toRes na xa).2) (fun _ _ _ _ h _ => h) ?_).mono ?_
  · intro B aa ca W4 _ h1 h2 h3 _
    refine (to1_any B na aa ca xa W4 h1 h2 h3 hla).mono ?_
    rintro e W ⟨k, hk, hc, i0, hr, rfl, rfl⟩
    exact ⟨_, hk, hc, _, hr, rfl, rfl⟩
  · rintro e w2 ⟨h1, r0, k, rfl, rfl, rfl⟩
    exact ⟨h1, rfl⟩

end Go.Proofs.YtnacgkljdcfkcaaDoor

/- zermeloref01.larger, Compare -/
namespace Go.Proofs.YtnacgkljdcfkcaaDoor
open Go Go.RowKit Go.Shelf

set_option maxHeartbeats 1000000 in
set_option maxRecDepth 100000 in
theorem larger_any (va vb : Value) (xa xb : List Nat) (w : World) (ha : Reads .u32 w va xa) (hb : Reads .u32 w vb xb) (hca : Canon xa) (hcb : Canon xb) (na : xa.length ≤ 1000000) :
    Calls Tryd.prog 54 #[va, vb] w fun e w' => Below w.heap.size w w' ∧ e = .returned (.int .i64 (cmpI (val xa : Int) (val xb : Int))) := by
  obtain ⟨aa, ca, rfl, hlca, hma⟩ := ha.form
  obtain ⟨ab, cb, rfl, hlcb, hmb⟩ := hb.form
  unfold maxLen at hma hmb
  by_cases hl : xa.length = xb.length
  · have HL := Lib.hid hl
    have hl1 : (((xa.length : Nat) : Int) != (xb.length : Int)) = false := by rw [hl]; simp
    clear hl
    go_enter Tryd.func54, Tryd.ntmps54
    go_wp2
    go_loopw [5] (fun i W => ∃ k : Nat, k ≤ xa.length ∧ i = .int .i64 ((k : Int) - 1) ∧ (∀ q, k ≤ q → q < xa.length → xa[q]?.getD 0 = xb[q]?.getD 0) ∧ ∃ nq, W = w.drewN nq) (fun i _ => (intOf i + 1).toNat)
    case atStart => exact ⟨xa.length, Nat.le_refl _, by go_num, fun q h1 h2 => absurd h2 (by omega), 0, rfl⟩
    case round =>
      obtain ⟨k, hk, rfl, hup, nq, rfl⟩ := hrel
      cases k with
      | zero =>
        have hval : cmpI (val xa : Int) (val xb : Int) = 0 := by
          have : xa = xb := by
            apply List.ext_getElem HL.out
            intro i h1 h2
            have := hup i (Nat.zero_le _) h1
            simpa [List.getElem?_eq_getElem h1, List.getElem?_eq_getElem h2] using this
          rw [this, cmpI_self]
        have HV := Lib.hid hval
        clear hval hup
        go_wp2
        go_ret
        exact ⟨below_drewN (Below.refl _ _) _, by rw [HV.out]; rfl⟩
      | succ k =>
        have hk1 : ((k + 1 : Nat) : Int) - 1 = (k : Int) := by omega
        rw [hk1]
        have hlt : k < xa.length := by omega
        have i1 := fun W => ha.index und_limbs size_limb (P := Tryd.prog) k .i64 W hlt
        have i2 := fun W => hb.index und_limbs size_limb (P := Tryd.prog) k .i64 W (by have := HL.out; omega)
        have d1 := ha.cell k hlt
        have d2 := hb.cell k (by have := HL.out; omega)
        have hat := fun hne => cmp_at hca.1 hcb.1 HL.out k hlt (fun i h1 h2 => hup i (by omega) h2) hne
        obtain ⟨x, hx⟩ : ∃ x, xa[k]?.getD 0 = x := ⟨_, rfl⟩
        obtain ⟨y, hy⟩ : ∃ y, xb[k]?.getD 0 = y := ⟨_, rfl⟩
        rw [hx] at d1
        rw [hy] at d2
        rw [hx, hy] at hat
        have HX := Lib.hid (And.intro hx (And.intro hy hup))
        have HAT := Lib.hid hat
        clear hx hy hup hat hk1
        rcases Nat.lt_trichotomy x y with hxy | hxy | hxy
        · have he : decide ((x : Int) < (y : Int)) = true := by simp <;> omega
          have hval := HAT.out (by omega)
          have hc1 : cmpI (x : Int) (y : Int) = -1 := by unfold cmpI; rw [if_pos (by omega)]
          rw [hc1] at hval
          have HV := Lib.hid hval
          clear hval hc1
          go_wp2_with fail
          go_quiet (fail)
          go_wp2
          go_ret
          exact ⟨below_drewN (below_drewN (Below.refl _ _) _) _, by rw [HV.out]; rfl⟩
        · subst hxy
          have he : decide ((x : Int) < (x : Int)) = false := by simp
          go_wp2_with fail
          go_quiet (fail)
          go_wp2
          go_quiet (fail)
          go_wp2
          refine ⟨⟨k, by omega, by go_num, ?_, _, rfl⟩, by simp [intOf] <;> omega⟩
          intro q h1 h2
          rcases Nat.lt_or_ge k q with h | h
          · exact HX.out.2.2 q (by omega) h2
          · obtain rfl : q = k := by omega
            rw [HX.out.1, HX.out.2.1]
        · have he : decide ((x : Int) < (y : Int)) = false := by simp <;> omega
          have he2 : decide ((y : Int) < (x : Int)) = true := by simp <;> omega
          have hval := HAT.out (by omega)
          have hc1 : cmpI (x : Int) (y : Int) = 1 := by unfold cmpI; rw [if_neg (by omega), if_pos (by omega)]
          rw [hc1] at hval
          have HV := Lib.hid hval
          clear hval hc1
          go_wp2_with fail
          go_quiet (fail)
          go_wp2
          go_quiet (fail)
          go_wp2
          go_ret
          exact ⟨below_drewN (below_drewN (below_drewN (Below.refl _ _) _) _) _, by rw [HV.out]; rfl⟩
  · have hl1 : (((xa.length : Nat) : Int) != (xb.length : Int)) = true := by simp <;> omega
    have hval := cmp_len hca hcb hl
    rw [hval]
    clear hval
    go_enter Tryd.func54, Tryd.ntmps54
    rcases Nat.lt_or_gt_of_ne hl with h | h
    · have hd : decide ((xa.length : Int) < (xb.length : Int)) = true := by simp <;> omega
      have hc1 : cmpI (xa.length : Int) (xb.length : Int) = -1 := by unfold cmpI; rw [if_pos (by omega)]
      rw [hc1]
      go_wp2
      go_ret
      exact ⟨Below.refl _ _, rfl⟩
    · have hd : decide ((xa.length : Int) < (xb.length : Int)) = false := by simp <;> omega
      have hc1 : cmpI (xa.length : Int) (xb.length : Int) = 1 := by unfold cmpI; rw [if_neg (by omega), if_pos (by omega)]
      rw [hc1]
      go_wp2
      go_ret
      exact ⟨Below.refl _ _, rfl⟩

set_option maxHeartbeats 1000000 in
set_option maxRecDepth 100000 in
theorem rcompare_int (va vb : Value) (i j : Int) (w : World) (ha : IsInt w va i) (hb : IsInt w vb j) (L : Nat) (hL : L ≤ 100000) (hi : i.natAbs < B32 ^ L) (hj : j.natAbs < B32 ^ L) :
    Calls Tryd.prog 20 #[va, vb] w fun e w' => Below w.heap.size w w' ∧ e = .returned (.int .i64 (cmpI i j)) := by
  obtain ⟨na, sa, xa, rfl, hra, hca, hna, rfl⟩ := ha
  obtain ⟨nb, sb, xb, rfl, hrb, hcb, hnb, rfl⟩ := hb
  rw [sgn_natAbs] at hi hj
  have la := canon_length_le hca hi
  have lb := canon_length_le hcb hj
  clear hi hj
  obtain ⟨aa, ca, rfl, hlca, hma⟩ := hra.form
  obtain ⟨ab, cb, rfl, hlcb, hmb⟩ := hrb.form
  have b0 := ((Below.refl w.heap.size w).alloc (Nat.le_refl _) (.cells #[.bool na, .slice aa xa.length ca] 24)).alloc (by simp) (.cells #[.bool nb, .slice ab xb.length cb] 24)
  have k1 := larger_any _ _ xa xb _ (hra.below b0) (hrb.below b0) hca hcb (by omega)
  have k2 := larger_any _ _ xb xa _ (hrb.below b0) (hra.below b0) hcb hca (by omega)
  have pa := canon_pos_iff hca
  have pb := canon_pos_iff hcb
  cases na <;> cases nb
  · have e : cmpI (sgn false (val xa)) (sgn false (val xb)) = cmpI (val xa : Int) (val xb : Int) := by simp [sgn]
    rw [e]
    clear e k2
    go_enter Tryd.func20, Tryd.ntmps20
    go_wp2_with (go_at_call 54; refine k1.mono ?_; rintro e w2 ⟨hbe, rfl⟩)
    go_ret
    exact ⟨b0.trans (hbe.mono b0.size), rfl⟩
  · have e : cmpI (sgn false (val xa)) (sgn true (val xb)) = 1 := by
      have : 0 < xb.length := by simpa using hnb
      unfold cmpI sgn
      rw [if_neg (by simp <;> omega), if_pos (by simp <;> omega)]
    rw [e]
    clear e k1 k2
    go_enter Tryd.func20, Tryd.ntmps20
    go_wp2
    go_ret
    exact ⟨b0, rfl⟩
  · have e : cmpI (sgn true (val xa)) (sgn false (val xb)) = -1 := by
      have : 0 < xa.length := by simpa using hna
      unfold cmpI sgn
      rw [if_pos (by simp <;> omega)]
    rw [e]
    clear e k1 k2
    go_enter Tryd.func20, Tryd.ntmps20
    go_wp2
    go_ret
    exact ⟨b0, rfl⟩
  · have e : cmpI (sgn true (val xa)) (sgn true (val xb)) = cmpI (val xb : Int) (val xa : Int) := cmpI_congr (by simp [sgn] <;> omega) (by simp [sgn] <;> omega)
    rw [e]
    clear e k1
    go_enter Tryd.func20, Tryd.ntmps20
    go_wp2_with (go_at_call 54; refine k2.mono ?_; rintro e w2 ⟨hbe, rfl⟩)
    go_ret
    exact ⟨b0.trans (hbe.mono b0.size), rfl⟩

end Go.Proofs.YtnacgkljdcfkcaaDoor
