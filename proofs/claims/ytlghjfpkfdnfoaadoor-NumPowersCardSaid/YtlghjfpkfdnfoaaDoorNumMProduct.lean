/- Div, Gcd, Bits and powers of 2 at values -/
import Derived.Test.YtlghjfpkfdnfoaaDoorNumMDivLong
import Derived.Test.YtlghjfpkfdnfoaaDoorNumMBits
import Derived.Test.YtlghjfpkfdnfoaaDoorNumMSplit
import Derived.Test.YtlghjfpkfdnfoaaDoorNumMDivisor
import Derived.BigQuiet
import Derived.Deep.RegionHeld3
namespace Go.Proofs.YtlghjfpkfdnfoaaDoor
open Go Go.RowKit Go.Shelf

theorem divUpTo_all (K : Nat) : DivUpTo 90000 K := fun va vb xa xb w ha hb hka hkb la _ h0 => divide_any va vb xa xb w ha hb hka hkb la (by rintro rfl; simp [val] at h0)

set_option exponentiation.threshold 400 in
theorem div_int (va vb : Value) (i j : Int) (w : World) (ha : IsInt w va i) (hb : IsInt w vb j) (hi : i.natAbs < B32 ^ 300) (hj : j.natAbs < B32 ^ 300) (hj0 : j ≠ 0) :
    Calls Tryd.prog 35 #[va, vb] w fun e w' => Below w.heap.size w w' ∧ ∃ q r, e = .returned (.tuple #[q, r, .int .i64 0]) ∧ IsInt w' q (i.fdiv j) ∧ IsInt w' r (i.fmod j) :=
  Div_ok va vb i j 300 300 (divUpTo_le (divUpTo_all 300) (by omega) (by omega)) w ha hb hi hj hi hj hj0

/-- so many binary digits -/
def BitsIs (k n : Nat) : Prop := (n = 0 ∧ k = 0) ∨ (1 ≤ k ∧ 2 ^ (k - 1) ≤ n ∧ n < 2 ^ k)
theorem bitsIs_of {xs : List Nat} (h : Canon xs) : BitsIs (bitsOf xs) (val xs) := by
  by_cases hx : xs = []
  · subst hx; exact .inl ⟨rfl, rfl⟩
  · exact .inr (bitsOf_bounds h hx)
theorem bitsIs_unique {k m n : Nat} (h : BitsIs k n) (h' : BitsIs m n) : k = m := by
  have key : ∀ {k m : Nat}, 1 ≤ k → 2 ^ (k - 1) ≤ n → n < 2 ^ m → k ≤ m := fun {k m} h1 h2 h3 => by
    have := (Nat.pow_lt_pow_iff_right (show 1 < 2 by omega)).1 (Nat.lt_of_le_of_lt h2 h3)
    omega
  rcases h with ⟨h1, h2⟩ | ⟨h1, h2, h3⟩ <;> rcases h' with ⟨h4, h5⟩ | ⟨h4, h5, h6⟩
  · omega
  · subst h1; have : 0 < 2 ^ (m - 1) := Nat.pow_pos (by omega); omega
  · subst h4; have : 0 < 2 ^ (k - 1) := Nat.pow_pos (by omega); omega
  · have a := key h1 h2 h6
    have b := key h4 h5 h3
    omega
theorem bitsIs_mul {k m n s : Nat} (h : BitsIs k n) (h' : BitsIs m (n * 2 ^ s)) (hn : n ≠ 0) : m = k + s := by
  rcases h with ⟨h1, h2⟩ | ⟨h1, h2, h3⟩
  · exact absurd h1 hn
  · refine bitsIs_unique h' (.inr ⟨by omega, ?_, ?_⟩)
    · rw [show k + s - 1 = (k - 1) + s by omega, Nat.pow_add]; exact Nat.mul_le_mul_right _ h2
    · rw [Nat.pow_add]; exact Nat.mul_lt_mul_of_pos_right h3 (Nat.pow_pos (by omega))
theorem bitsIs_div {k m n s : Nat} (h : BitsIs k n) (h' : BitsIs m (n / 2 ^ s)) : m = k - s := by
  have hs : 0 < 2 ^ s := Nat.pow_pos (by omega)
  rcases h with ⟨h1, h2⟩ | ⟨h1, h2, h3⟩
  · subst h1
    refine bitsIs_unique h' (.inl ⟨by simp, by omega⟩)
  · rcases Nat.lt_or_ge s k with hlt | hge
    · refine bitsIs_unique h' (.inr ⟨by omega, ?_, ?_⟩)
      · rw [Nat.le_div_iff_mul_le hs, ← Nat.pow_add, show k - s - 1 + s = k - 1 by omega]; exact h2
      · rw [Nat.div_lt_iff_lt_mul hs, ← Nat.pow_add, show k - s + s = k by omega]; exact h3
    · have h4 : 2 ^ k ≤ 2 ^ s := Nat.pow_le_pow_right (by omega) hge
      refine bitsIs_unique h' (.inl ⟨Nat.div_eq_of_lt (by omega), by omega⟩)

set_option exponentiation.threshold 400 in
theorem bits_int (va : Value) (i : Int) (w : World) (ha : IsInt w va i) (hi : i.natAbs < B32 ^ 300) :
    Calls Tryd.prog 21 #[va] w fun e w' => Below w.heap.size w w' ∧ ∃ k : Nat, e = .returned (.tuple #[.int .i64 (k : Int), .int .i64 0]) ∧ BitsIs k i.natAbs ∧ k ≤ 9600 := by
  obtain ⟨na, xa, hA, fa, rfl, ca, -⟩ := ha.at hi
  rw [sgn_natAbs] at hi
  have hl := canon_length_le ca hi
  refine (Bits_any va na xa w hA (by omega)).mono ?_
  rintro e w' ⟨h1, rfl⟩
  refine ⟨h1, bitsOf xa, by rw [fa]; rfl, by rw [sgn_natAbs]; exact bitsIs_of ca, ?_⟩
  by_cases hx : xa = []
  · subst hx; simp [bitsOf]
  · have hb := bitsOf_bounds ca hx
    rw [B32_pow] at hi
    have := (Nat.pow_lt_pow_iff_right (show 1 < 2 by omega)).1 (Nat.lt_of_le_of_lt hb.2.1 hi)
    omega

set_option exponentiation.threshold 400 in
theorem pow_two (a : Value) (n : Nat) (w : World) (ha : IsInt w a 2) (hn : n ≤ 255) :
    Calls Tryd.prog 37 #[a, .int .i64 (n : Int)] w fun e w' => Below w.heap.size w w' ∧ ∃ v, e = .returned (.tuple #[v, .int .i64 0]) ∧ IsInt w' v ((2 : Int) ^ n) := by
  obtain ⟨hA, fA⟩ := IsInt.limb (neg := false) (x := 2) ha (by decide) (by decide)
  have hb : bitsOf [2] = 2 := by decide +kernel
  have hp : ∀ K, 8 ≤ K → val [2] ^ n < B32 ^ K := fun K hK => by rw [val_one, B32_pow]; exact Nat.pow_lt_pow_right (by omega) (by omega)
  refine (Pow_ok a [2] n 79 times_79 (by omega) w hA fA (by omega) (by rw [hb]; omega) (by rw [hb]; decide) (hp _ (by omega)) (hp _ (by omega))).mono ?_
  rintro e w' ⟨h1, v, rfl, h2⟩
  refine ⟨h1, v, rfl, ?_⟩
  rw [val_one] at h2
  exact h2

/-- an integer is 0 just without limbs -/
theorem isInt_zero {w : World} {n : Bool} {a : Option Addr} {m c : Nat} {i : Int} (h : IsInt w (.agg #[.bool n, .slice a m c]) i) : m = 0 ↔ i = 0 := by
  obtain ⟨neg, va, xs, e, hr, hc, hn, rfl⟩ := h
  simp only [Value.agg.injEq, Array.mk.injEq, List.cons.injEq, Value.bool.injEq, and_true] at e
  obtain ⟨rfl, rfl⟩ := e
  obtain ⟨a', c', e, -, -⟩ := hr.form
  simp only [Value.slice.injEq] at e
  obtain ⟨-, rfl, -⟩ := e
  have h1 := canon_pos_iff hc
  constructor
  · intro h
    have : val xs = 0 := by omega
    rw [this]; cases n <;> rfl
  · intro h
    have : val xs = 0 := by
      have := congrArg Int.natAbs h
      rwa [sgn_natAbs] at this
    omega

end Go.Proofs.YtlghjfpkfdnfoaaDoor

/- zermeloref01.Bits, limb, To -/
namespace Go.Proofs.YtlghjfpkfdnfoaaDoor
open Go Go.RowKit Go.Shelf

set_option maxHeartbeats 1000000 in
set_option maxRecDepth 100000 in
theorem rbits_any (va : Value) (na : Bool) (xs : List Nat) (w : World) (ha : IntAt w va na xs) (hn : xs.length ≤ 100000) :
    Calls Tryd.prog 22 #[va] w fun e w' => Below w.heap.size w w' ∧ e = .returned (.agg #[.int .i64 (if formedB na xs = true then (bitsOf xs : Int) else 0), .int .i64 (if formedB na xs = true then 0 else 1)]) := by
  have k1 := fun w2 (hb2 : Below w.heap.size w w2) => rformed_any va na xs w2 (ha.below hb2)
  have k2 := fun w2 (hb2 : Below w.heap.size w w2) (f : formedB na xs = true) => digits_any va na xs w2 (ha.below hb2) (by obtain ⟨sa, -, -, hla⟩ := ha; exact (formedB_canon f hla).1) hn
  obtain ⟨sa, rfl, hra, hla⟩ := ha
  obtain ⟨aa, ca, rfl, hlca, hma⟩ := hra.form
  have b0 := ((Below.refl w.heap.size w).alloc (Nat.le_refl _) (.cells #[.bool na, .slice aa xs.length ca] 24)).alloc (by simp) (.cells #[.int .i64 0, .int .i64 0] 34)
  have rr := RowAt.new (w.alloc (.cells #[.bool na, .slice aa xs.length ca] 24)) 34 [.int .i64 0, .int .i64 0]
  have ra := (RowAt.new w 24 [.bool na, .slice aa xs.length ca]).alloc (.cells #[.int .i64 0, .int .i64 0] 34)
  simp only [World.size_alloc] at rr
  have key := k1 _ b0
  cases f : formedB na xs with
  | true =>
    rw [f] at key
    have k3 := fun w2 (hb2 : Below w.heap.size w w2) => k2 w2 hb2 f
    clear k1 k2
    go_enter Tryd.func22, Tryd.ntmps22
    go_wp2_with (first
      | (go_at_call 19; refine key.mono ?_; rintro e w2 ⟨hbe, rfl⟩; have bw := b0.trans (hbe.mono b0.size); have c1 := (ra.below hbe).cell 0; have c2 := (ra.below hbe).cell 1; simp only [List.getElem?_cons_zero, List.getElem?_cons_succ] at c1 c2; have k4 := k3 _ bw; have rr2 := rr.below hbe)
      | (go_at_call 56; refine k4.mono ?_; rintro e w3 ⟨hbe3, rfl⟩; have bw3 := bw.trans (hbe3.mono bw.size); have q := rr2.below hbe3; have s1 := q.cell 0; have s2 := q.cell 1; have s3 := q.frozen 0; have s4 := q.frozen 1; simp only [List.getElem?_cons_zero, List.getElem?_cons_succ] at s1 s2))
    obtain ⟨u1, u2⟩ := two_reads (b := w.heap.size + 1) s1 s2 (.int .i64 (bitsOf xs)) (.int .i64 0)
    refine bodyPost_ret (v := .agg #[.int .i64 (bitsOf xs), .int .i64 0]) (by simp [results, Tryd.results22, go_sem, loadCellsFrom, u1, u2]) rfl ⟨?_, rfl⟩
    exact (bw3.setCell (by simp) _).setCell (by simp) _
  | false =>
    rw [f] at key
    clear k1 k2
    go_enter Tryd.func22, Tryd.ntmps22
    go_wp2_with (first
      | (go_at_call 19; refine key.mono ?_; rintro e w2 ⟨hbe, rfl⟩; have bw := b0.trans (hbe.mono b0.size); have q := rr.below hbe; have s1 := q.cell 0; have s2 := q.cell 1; have s3 := q.frozen 0; have s4 := q.frozen 1; simp only [List.getElem?_cons_zero, List.getElem?_cons_succ] at s1 s2))
    obtain ⟨u1, u2⟩ := two_reads (b := w.heap.size + 1) s1 s2 (.int .i64 0) (.int .i64 1)
    refine bodyPost_ret (v := .agg #[.int .i64 0, .int .i64 1]) (by simp [results, Tryd.results22, go_sem, loadCellsFrom, u1, u2]) rfl ⟨?_, rfl⟩
    exact (bw.setCell (by simp) _).setCell (by simp) _

set_option maxHeartbeats 1000000 in
set_option maxRecDepth 100000 in
theorem limb_any (va : Value) (xs : List Nat) (i : Nat) (w : World) (ha : Reads .u32 w va xs) (hl : Limbs xs) :
    Calls Tryd.prog 62 #[va, .int .i64 i] w fun e w' => w = w' ∧ e = .returned (.int .u64 ((xs[i]?.getD 0 : Nat) : Int)) := by
  obtain ⟨aa, ca, rfl, hlca, hma⟩ := ha.form
  by_cases h : i < xs.length
  · have hd : decide ((i : Int) < (xs.length : Int)) = true := by simp <;> omega
    have i1 := fun W => ha.index und_limbs size_limb (P := Tryd.prog) i .i64 W h
    have d1 := ha.cell i h
    have hx := limb_getD hl i
    generalize xs[i]?.getD 0 = x at *
    have hw : IntKind.u64.wrap (x : Int) = x := by
      unfold B32 at hx
      simp [IntKind.wrap, IntKind.bits, IntKind.signed]
      omega
    clear hx
    go_enter Tryd.func62, Tryd.ntmps62
    go_wp2
    go_ret
    exact ⟨rfl, rfl⟩
  · have hd : decide ((i : Int) < (xs.length : Int)) = false := by simp <;> omega
    rw [List.getElem?_eq_none (by omega)]
    go_enter Tryd.func62, Tryd.ntmps62
    go_wp2
    go_ret
    exact ⟨rfl, rfl⟩

/-- what To tells: the number and the error -/
def toRes (na : Bool) (xs : List Nat) : Int × Int :=
  if formedB na xs = true then
    if xs.length ≤ 2 then
      if na = true then (if val xs ≤ 9223372036854775808 then (-(val xs : Int), 0) else (0, 3))
      else (if val xs < 9223372036854775808 then ((val xs : Int), 0) else (0, 3))
    else (0, 3)
  else (0, 1)
theorem val_pair {xs : List Nat} (h : xs.length ≤ 2) : (val xs : Int) = ((xs[1]?.getD 0 : Nat) : Int) * 4294967296 + ((xs[0]?.getD 0 : Nat) : Int) := by
  match xs, h with
  | [], _ => simp [val]
  | [x], _ => simp [val]
  | [x, y], _ => simp [val, B32]; omega

theorem row_drewN {W : World} {b : Nat} {t : TypeId} {cs : List Value} (h : RowAt W b t cs) (n : Nat) : RowAt (W.drewN n) b t cs := h.below (below_drewN (Below.refl _ _) n)

set_option maxHeartbeats 1000000 in
set_option maxRecDepth 100000 in
theorem rto_small (na : Bool) (aa : Option Addr) (ca : Nat) (xs : List Nat) (w : World) (hra : Reads .u32 w (.slice aa xs.length ca) xs) (hla : Limbs xs) (f : formedB na xs = true) (h2 : xs.length ≤ 2) :
    Calls Tryd.prog 24 #[.agg #[.bool na, .slice aa xs.length ca]] w fun e w' => Below w.heap.size w w' ∧ e = .returned (.agg #[.int .i64 (toRes na xs).1, .int .i64 (toRes na xs).2]) := by
  have b0 := ((Below.refl w.heap.size w).alloc (Nat.le_refl _) (.cells #[.bool na, .slice aa xs.length ca] 24)).alloc (by simp) (.cells #[.int .i64 0, .int .i64 0] 34)
  have rr := RowAt.new (w.alloc (.cells #[.bool na, .slice aa xs.length ca] 24)) 34 [.int .i64 0, .int .i64 0]
  have ra := (RowAt.new w 24 [.bool na, .slice aa xs.length ca]).alloc (.cells #[.int .i64 0, .int .i64 0] 34)
  simp only [World.size_alloc] at rr
  have key := rformed_any (.agg #[.bool na, .slice aa xs.length ca]) na xs _ ⟨_, rfl, hra.below b0, hla⟩
  rw [f] at key
  have L0 : ∀ W, Reads .u32 W (.slice aa xs.length ca) xs → Calls Tryd.prog 62 #[.slice aa xs.length ca, .int .i64 0] W fun e w' => W = w' ∧ e = .returned (.int .u64 ((xs[0]?.getD 0 : Nat) : Int)) := fun W h => limb_any (.slice aa xs.length ca) xs 0 W h hla
  have L1 : ∀ W, Reads .u32 W (.slice aa xs.length ca) xs → Calls Tryd.prog 62 #[.slice aa xs.length ca, .int .i64 1] W fun e w' => W = w' ∧ e = .returned (.int .u64 ((xs[1]?.getD 0 : Nat) : Int)) := fun W h => limb_any (.slice aa xs.length ca) xs 1 W h hla
  have hv := val_pair h2
  have hl0 := limb_getD hla 0
  have hl1 := limb_getD hla 1
  unfold B32 at hl0 hl1
  have hd : decide ((2 : Int) < (xs.length : Int)) = false := by simp <;> omega
  generalize xs[0]?.getD 0 = x0 at *
  generalize xs[1]?.getD 0 = x1 at *
  have hT : toRes na xs = if na = true then (if val xs ≤ 9223372036854775808 then (-(val xs : Int), 0) else (0, 3)) else (if val xs < 9223372036854775808 then ((val xs : Int), 0) else (0, 3)) := by
    rw [toRes, if_pos f, if_pos h2]
  generalize toRes na xs = R at *
  generalize val xs = u at *
  have HR := Lib.hid hT
  obtain ⟨m, hm⟩ : ∃ m : Int, (x1 : Int) * 4294967296 = m := ⟨_, rfl⟩
  have t1 : IntKind.u64.wrap ((x1 : Int) * 4294967296) = m := by
    rw [hm]
    simp [IntKind.wrap, IntKind.bits, IntKind.signed]
    omega
  have t2 : IntKind.u64.wrap (m + (x0 : Int)) = (u : Int) := by
    simp [IntKind.wrap, IntKind.bits, IntKind.signed]
    omega
  have HV := Lib.hid (And.intro hv (And.intro hl0 (And.intro hl1 hm)))
  clear hT hv hl0 hl1 hm
  go_enter Tryd.func24, Tryd.ntmps24
  go_wp2_with (first
      | (go_at_call 19; refine key.mono ?_; rintro e w2 ⟨hbe, rfl⟩; have bw := b0.trans (hbe.mono b0.size); have c1 := (ra.below hbe).cell 0; have c2 := (ra.below hbe).cell 1; have q := rr.below hbe; have s1 := q.cell 0; have s2 := q.cell 1; have s3 := q.frozen 0; have s4 := q.frozen 1; simp only [List.getElem?_cons_zero, List.getElem?_cons_succ] at c1 c2 s1 s2; have hr2 := hra.below bw))
  go_quiet (first
      | (go_at_call 62; with_reducible refine (L0 _ (hr2.drewN _)).mono ?_; exact fun e w' h => ⟨h.2, _, h.1.symm⟩)
      | (go_at_call 62; with_reducible refine (L1 _ (hr2.drewN _)).mono ?_; exact fun e w' h => ⟨h.2, _, h.1.symm⟩))
  have q3 := row_drewN q nq
  have ra3 := row_drewN (ra.below hbe) nq
  have bw3 := below_drewN bw nq
  generalize w2.drewN nq = W3 at *
  clear key L0 L1 hr2 c1 c2 s1 s2 s3 s4 q hbe bw t1 t2
  have c1 := ra3.cell 0
  have s1 := q3.cell 0
  have s2 := q3.cell 1
  have s3 := q3.frozen 0
  have s4 := q3.frozen 1
  simp only [List.getElem?_cons_zero, List.getElem?_cons_succ] at c1 s1 s2
  have fin := fun x y => two_reads (b := w.heap.size + 1) s1 s2 x y
  cases na with
  | true =>
    by_cases hu : u ≤ 9223372036854775808
    · have hd1 : decide ((u : Int) ≤ 9223372036854775808) = true := by simp <;> omega
      obtain ⟨y, hy⟩ : ∃ y, IntKind.u64.wrap (-(u : Int)) = y := ⟨_, rfl⟩
      have hz : IntKind.i64.wrap y = -(u : Int) := by
        rw [← hy]
        simp [IntKind.wrap, IntKind.bits, IntKind.signed]
        omega
      go_wp2
      obtain ⟨u1, u2⟩ := fin (.int .i64 (-(u : Int))) (.int .i64 0)
      refine bodyPost_ret (v := .agg #[.int .i64 (-(u : Int)), .int .i64 0]) (by simp [results, Tryd.results24, go_sem, loadCellsFrom, u1, u2]) rfl ⟨?_, by rw [HR.out]; simp [hu]⟩
      exact (bw3.setCell (by simp) _).setCell (by simp) _
    · have hd1 : decide ((u : Int) ≤ 9223372036854775808) = false := by simp <;> omega
      go_wp2
      obtain ⟨u1, u2⟩ := fin (.int .i64 0) (.int .i64 3)
      refine bodyPost_ret (v := .agg #[.int .i64 0, .int .i64 3]) (by simp [results, Tryd.results24, go_sem, loadCellsFrom, u1, u2]) rfl ⟨?_, by rw [HR.out]; simp [hu]⟩
      exact (bw3.setCell (by simp) _).setCell (by simp) _
  | false =>
    by_cases hu : u < 9223372036854775808
    · have hd1 : decide ((9223372036854775808 : Int) ≤ (u : Int)) = false := by simp <;> omega
      have hz : IntKind.i64.wrap (u : Int) = u := by
        simp [IntKind.wrap, IntKind.bits, IntKind.signed]
        omega
      go_wp2
      obtain ⟨u1, u2⟩ := fin (.int .i64 u) (.int .i64 0)
      refine bodyPost_ret (v := .agg #[.int .i64 u, .int .i64 0]) (by simp [results, Tryd.results24, go_sem, loadCellsFrom, u1, u2]) rfl ⟨?_, by rw [HR.out]; simp [hu]⟩
      exact (bw3.setCell (by simp) _).setCell (by simp) _
    · have hd1 : decide ((9223372036854775808 : Int) ≤ (u : Int)) = true := by simp <;> omega
      go_wp2
      obtain ⟨u1, u2⟩ := fin (.int .i64 0) (.int .i64 3)
      refine bodyPost_ret (v := .agg #[.int .i64 0, .int .i64 3]) (by simp [results, Tryd.results24, go_sem, loadCellsFrom, u1, u2]) rfl ⟨?_, by rw [HR.out]; simp [hu]⟩
      exact (bw3.setCell (by simp) _).setCell (by simp) _

set_option maxHeartbeats 1000000 in
set_option maxRecDepth 100000 in
theorem rto_any (va : Value) (na : Bool) (xs : List Nat) (w : World) (ha : IntAt w va na xs) :
    Calls Tryd.prog 24 #[va] w fun e w' => Below w.heap.size w w' ∧ e = .returned (.agg #[.int .i64 (toRes na xs).1, .int .i64 (toRes na xs).2]) := by
  have k1 := fun w2 (hb2 : Below w.heap.size w w2) => rformed_any va na xs w2 (ha.below hb2)
  obtain ⟨sa, rfl, hra, hla⟩ := ha
  obtain ⟨aa, ca, rfl, hlca, hma⟩ := hra.form
  cases f : formedB na xs with
  | true =>
    by_cases h2 : xs.length ≤ 2
    · exact rto_small na aa ca xs w hra hla f h2
    · have hT : toRes na xs = (0, 3) := by rw [toRes, if_pos f, if_neg h2]
      rw [hT]
      have b0 := ((Below.refl w.heap.size w).alloc (Nat.le_refl _) (.cells #[.bool na, .slice aa xs.length ca] 24)).alloc (by simp) (.cells #[.int .i64 0, .int .i64 0] 34)
      have rr := RowAt.new (w.alloc (.cells #[.bool na, .slice aa xs.length ca] 24)) 34 [.int .i64 0, .int .i64 0]
      have ra := (RowAt.new w 24 [.bool na, .slice aa xs.length ca]).alloc (.cells #[.int .i64 0, .int .i64 0] 34)
      simp only [World.size_alloc] at rr
      have key := k1 _ b0
      rw [f] at key
      clear k1 hT
      have hd : decide ((2 : Int) < (xs.length : Int)) = true := by simp <;> omega
      go_enter Tryd.func24, Tryd.ntmps24
      go_wp2_with (first
        | (go_at_call 19; refine key.mono ?_; rintro e w2 ⟨hbe, rfl⟩; have bw := b0.trans (hbe.mono b0.size); have c1 := (ra.below hbe).cell 0; have c2 := (ra.below hbe).cell 1; have q := rr.below hbe; have s1 := q.cell 0; have s2 := q.cell 1; have s3 := q.frozen 0; have s4 := q.frozen 1; simp only [List.getElem?_cons_zero, List.getElem?_cons_succ] at c1 c2 s1 s2))
      obtain ⟨u1, u2⟩ := two_reads (b := w.heap.size + 1) s1 s2 (.int .i64 0) (.int .i64 3)
      refine bodyPost_ret (v := .agg #[.int .i64 0, .int .i64 3]) (by simp [results, Tryd.results24, go_sem, loadCellsFrom, u1, u2]) rfl ⟨?_, rfl⟩
      exact (bw.setCell (by simp) _).setCell (by simp) _
  | false =>
    have hT : toRes na xs = (0, 1) := by rw [toRes, f]; rfl
    rw [hT]
    have b0 := ((Below.refl w.heap.size w).alloc (Nat.le_refl _) (.cells #[.bool na, .slice aa xs.length ca] 24)).alloc (by simp) (.cells #[.int .i64 0, .int .i64 0] 34)
    have rr := RowAt.new (w.alloc (.cells #[.bool na, .slice aa xs.length ca] 24)) 34 [.int .i64 0, .int .i64 0]
    simp only [World.size_alloc] at rr
    have key := k1 _ b0
    rw [f] at key
    clear k1 hT
    go_enter Tryd.func24, Tryd.ntmps24
    go_wp2_with (first
      | (go_at_call 19; refine key.mono ?_; rintro e w2 ⟨hbe, rfl⟩; have bw := b0.trans (hbe.mono b0.size); have q := rr.below hbe; have s1 := q.cell 0; have s2 := q.cell 1; have s3 := q.frozen 0; have s4 := q.frozen 1; simp only [List.getElem?_cons_zero, List.getElem?_cons_succ] at s1 s2))
    obtain ⟨u1, u2⟩ := two_reads (b := w.heap.size + 1) s1 s2 (.int .i64 0) (.int .i64 1)
    refine bodyPost_ret (v := .agg #[.int .i64 0, .int .i64 1]) (by simp [results, Tryd.results24, go_sem, loadCellsFrom, u1, u2]) rfl ⟨?_, rfl⟩
    exact (bw.setCell (by simp) _).setCell (by simp) _

end Go.Proofs.YtlghjfpkfdnfoaaDoor

/- num.floorRoot of what is not negative; num.Root at values -/
namespace Go.Proofs.YtlghjfpkfdnfoaaDoor
open Go Go.RowKit Go.Shelf

theorem isRoot_unique {A n r s : Nat} (h : IsRoot A n r) (h' : IsRoot A n s) : r = s := by
  have key : ∀ {a b : Nat}, IsRoot A n a → IsRoot A n b → a ≤ b := fun {a b} ha hb => Nat.le_of_not_lt fun hc => by
    have h1 := Nat.pow_le_pow_left (show b + 1 ≤ a from hc) n
    have h2 := ha.1
    have h3 := hb.2
    omega
  exact Nat.le_antisymm (key h h') (key h' h)
theorem isRoot_ex (A : Nat) {n : Nat} (hn : n ≠ 0) : ∃ r, IsRoot A n r := by
  have key : ∀ k, ∃ r, r ^ n ≤ A ∧ (A < (r + 1) ^ n ∨ k ≤ r) := fun k => by
    induction k with
    | zero => exact ⟨0, by rw [Nat.zero_pow (by omega)]; exact Nat.zero_le _, .inr (Nat.zero_le _)⟩
    | succ k ih =>
      obtain ⟨r, h1, h2⟩ := ih
      rcases h2 with h2 | h2
      · exact ⟨r, h1, .inl h2⟩
      · by_cases h3 : A < (r + 1) ^ n
        · exact ⟨r, h1, .inl h3⟩
        · exact ⟨r + 1, by omega, .inr (by omega)⟩
  obtain ⟨r, h1, h2⟩ := key (A + 1)
  refine ⟨r, h1, h2.resolve_right fun h => ?_⟩
  have h3 : r ^ 1 ≤ r ^ n := Nat.pow_le_pow_right (by omega) (by omega)
  rw [Nat.pow_one] at h3
  omega

set_option maxHeartbeats 1000000 in
set_option maxRecDepth 100000 in
theorem floorRoot_pos (K L m : Nat) (hT : TimesUpTo K) (hD : DivUpTo L K) (hL : L ≤ 1000) (hK0 : 0 < K) (hK : K ≤ 1000) (hm : m < 100) (va : Value) (xa : List Nat) (w : World) (ha : Reads .u32 w va xa) (hka : Canon xa) (hla : xa.length ≤ L) (hfit : 2 ^ (m + 1) * val xa < B32 ^ K) :
    Calls Tryd.prog 79 #[.agg #[.bool false, va], .int .i64 ((m : Int) + 1)] w fun e w' => Below w.heap.size w w' ∧ ∃ v r, e = .returned v ∧ IsInt w' v ((r : Nat) : Int) ∧ IsRoot (val xa) (m + 1) r := by
  obtain ⟨aa, ca, rfl, hca, hma⟩ := ha.form
  have b0 := ((Below.refl w.heap.size w).alloc (Nat.le_refl _) (.cells #[.bool false, .slice aa xa.length ca] 24)).alloc (by simp) (.cells #[.bool false, .slice none 0 0] 24)
  have r1 := (RowAt.new w 24 [.bool false, .slice aa xa.length ca]).alloc (.cells #[.bool false, .slice none 0 0] 24)
  have r2 := RowAt.new (w.alloc (.cells #[.bool false, .slice aa xa.length ca] 24)) 24 [.bool false, .slice none 0 0]
  simp only [World.size_alloc] at r2
  have hS0 : FrS w w false aa xa ca ((w.alloc (.cells #[.bool false, .slice aa xa.length ca] 24)).alloc (.cells #[.bool false, .slice none 0 0] 24)) := ⟨r1, r2, b0, ha.below b0, fun v xs h => h.below b0⟩
  generalize hW0 : (w.alloc (.cells #[.bool false, .slice aa xa.length ca] 24)).alloc (.cells #[.bool false, .slice none 0 0] 24) = W0 at hS0
  have hroot := root_any K L m hT hD hL hK0 hK hm (bitsOf xa) (.slice aa xa.length ca) xa W0 (Nat.le_refl _) hS0.ra hka hla hfit
  have HW := Lib.hid hW0
  clear hfit hW0 r1 r2 b0
  go_enter Tryd.func79, Tryd.ntmps79
  go_wp2_with (go_at_call 109; (try rw [HW.out]); refine hroot.mono ?_; rintro e w3 ⟨hbe3, v3, rs, rfl, h3, k3, e3⟩; obtain ⟨a3, c3, rfl, hc3, hm3⟩ := h3.form)
  have hS3 : FrS w w3 false aa xa ca w3 := ⟨hS0.a.below hbe3, hS0.res.below hbe3, hS0.below.trans (hbe3.mono hS0.below.size), hS0.ra.below hbe3, fun _ _ h => h⟩
  obtain ⟨d1, d2, -⟩ := fr_of hS3
  have HE := Lib.hid e3
  clear hS0 hroot HW e3 hbe3
  go_quiet (fail)
  have hS5 : FrS w w3 false aa xa ca (w3.drewN nq) := ⟨row_drewN hS3.a nq, row_drewN hS3.res nq, below_drewN hS3.below nq, reads_drewN hS3.ra nq, fun v xs h => reads_drewN h nq⟩
  have h5 := hS5.keep _ _ h3
  clear d1 d2 hS3 h3
  generalize w3.drewN nq = w5 at *
  obtain ⟨d1, d2, -⟩ := fr_of hS5
  go_wp2_with (go_at_call 63; refine (signed_any _ _ _ _ _).mono ?_; rintro e w6 ⟨hbe6, rfl⟩; have hres := hS5.res.below hbe6; have q1 := hres.cell 0; have q2 := hres.cell 1; have q3 := hres.frozen 0; have q4 := hres.frozen 1; have h6 := h5.below hbe6; simp only [List.getElem?_cons_zero, List.getElem?_cons_succ] at q1 q2)
  obtain ⟨s1, s2⟩ := two_reads (b := w.heap.size + 1) q1 q2 (.bool false) (.slice a3 rs.length c3)
  have hk := two_kept (b := w.heap.size + 1) h6 q1 q2 (.bool false) (.slice a3 rs.length c3)
  have b6 := hS5.below.trans (hbe6.mono hS5.below.size)
  have b7 : Below w.heap.size w ((w6.setCell ⟨w.heap.size + 1, 0, none⟩ (.bool false)).setCell ⟨w.heap.size + 1, 1, none⟩ (.slice a3 rs.length c3)) := (b6.setCell (by simp) _).setCell (by simp) _
  refine bodyPost_ret (v := .agg #[.bool false, .slice a3 rs.length c3]) (by simp [results, Tryd.results79, go_sem, loadCellsFrom, s1, s2]) rfl ⟨b7, _, val rs, rfl, isInt_mk false hk k3 rfl, HE.out⟩

set_option exponentiation.threshold 20000 in
theorem root_int (va : Value) (i : Nat) (m : Nat) (w : World) (ha : IsInt w va (i : Int)) (hi : i < B32 ^ 250) (hm : m < 100) :
    Calls Tryd.prog 38 #[va, .int .i64 ((m : Int) + 1)] w fun e w' => Below w.heap.size w w' ∧ ∃ v r, e = .returned (.tuple #[v, .int .i64 0]) ∧ IsInt w' v ((r : Nat) : Int) ∧ IsRoot i (m + 1) r := by
  obtain ⟨n, xs, hA, fA, hs, hk, hn⟩ := ha.at (by rw [Int.natAbs_natCast]; exact Nat.lt_of_lt_of_le hi (Nat.pow_le_pow_right B32_pos (by decide)))
  obtain ⟨hv, rfl⟩ : val xs = i ∧ n = false := by
    have h1 := congrArg Int.natAbs hs
    rw [sgn_natAbs, Int.natAbs_natCast] at h1
    refine ⟨h1.symm, ?_⟩
    cases n with
    | false => rfl
    | true =>
      exfalso
      rw [Bool.true_and, decide_eq_true_eq] at hn
      have := (canon_pos_iff hk).2 hn
      simp [sgn] at hs
      omega
  have hfit : 2 ^ (m + 1) * val xs < B32 ^ 300 := by
    have h1 : 2 ^ (m + 1) ≤ B32 ^ 50 := by rw [B32_pow]; exact Nat.pow_le_pow_right (by decide) (by omega)
    have e : B32 ^ 300 = B32 ^ 50 * B32 ^ 250 := by rw [← Nat.pow_add]
    rw [hv, e]
    generalize B32 ^ 250 = Y at *
    generalize B32 ^ 50 = Z at *
    exact Nat.lt_of_le_of_lt (Nat.mul_le_mul_right _ h1) (Nat.mul_lt_mul_of_pos_left hi (Nat.lt_of_lt_of_le (Nat.pow_pos (by decide)) h1))
  have hl := canon_length_le hk (by rw [hv]; exact hi)
  obtain ⟨r, hr⟩ : ∃ r, IsRoot i (m + 1) r := isRoot_ex i (by omega)
  refine (Root_ok va false xs m w hA fA hm (.inl rfl) (r : Int) (fun W hW => ?_)).mono ?_
  · obtain ⟨va', rfl, hra, hla⟩ := hA
    refine (floorRoot_pos 300 300 m (timesUpTo_le times_any (by decide)) (divUpTo_le (divUpTo_all 300) (by decide) (by decide)) (by decide) (by decide) (by decide) hm va' xs W (hra.below hW) hk (by omega) hfit).mono ?_
    rintro e W' ⟨hb, v, s, rfl, hI, hR⟩
    rw [hv] at hR
    rw [isRoot_unique hR hr] at hI
    exact ⟨hb, v, rfl, hI⟩
  · rintro e W ⟨hb, v, rfl, hI⟩
    exact ⟨hb, v, r, rfl, hI, hr⟩
end Go.Proofs.YtlghjfpkfdnfoaaDoor

/- num.Pow of a negative base; at values -/
namespace Go.Proofs.YtlghjfpkfdnfoaaDoor
open Go Go.RowKit Go.Shelf

theorem sgn_pow (x : Nat) : ∀ n : Nat, sgn true x ^ n = sgn (((n % 2 : Nat) : Int) == 1) (x ^ n)
  | 0 => by simp [sgn]
  | n + 1 => by
    rw [Int.pow_succ, sgn_pow x n]
    rcases Nat.mod_two_eq_zero_or_one n with h | h
    · rw [h, show (n + 1) % 2 = 1 by omega]
      simp [sgn, Nat.pow_succ, Int.mul_neg]
    · rw [h, show (n + 1) % 2 = 0 by omega]
      simp [sgn, Nat.pow_succ, Int.neg_mul_neg]

set_option maxHeartbeats 1000000 in
set_option maxRecDepth 100000 in
theorem pow1_neg (B : Nat) (aa : Option Addr) (ca : Nat) (xa : List Nat) (n : Nat) (r0 : Bool) (r1 : Option Addr) (r2 r3 : Nat) (K : Nat) (hT : TimesUpTo K) (hK : 0 < K) (w : World) (hra : RowAt w B 24 [.bool true, .slice aa xa.length ca]) (hrn : RowAt w (B + 1) 3 [.int .i64 n]) (hrr : RowAt w (B + 2) 24 [.bool r0, .slice r1 r2 r3])
    (ha : Reads .u32 w (.slice aa xa.length ca) xa) (hka : Canon xa) (fa : formedB true xa = true) (hn : n ≤ 9600) (hxl : xa.length ≤ 300) (hnear : ((bitsOf xa : Int) - 1) * n < 9600) (hbb : bitsOf xa ≤ 9600) (hfitK : val xa ^ n < B32 ^ K) (hfit : val xa ^ n < B32 ^ 300) :
    Calls Tryd.prog 75 #[.pointer (some ⟨B, 0, none⟩), .pointer (some ⟨B + 1, 0, none⟩), .pointer (some ⟨B + 2, 0, none⟩)] w fun e w' => e = .returned (.tuple #[]) ∧ Chg (fun k => k = B + 2) w w' ∧ ∃ m a l c, RowAt w' (B + 2) 24 [.bool m, .slice a l c] ∧ IsInt w' (.agg #[.bool m, .slice a l c]) (sgn true (val xa) ^ n) := by
  have a0 := hra.cell 0
  have a1 := hra.cell 1
  have n0 := hrn.cell 0
  simp only [List.getElem?_cons_zero, List.getElem?_cons_succ] at a0 a1 n0
  have hla := hka.1
  have r0' := RowAt.new w 24 [.bool true, .slice aa xa.length ca]
  have bw := (Below.refl w.heap.size w).alloc (Nat.le_refl _) (.cells #[.bool true, .slice aa xa.length ca] 24)
  have hbl := fun W (h : Below w.heap.size w W) => bitLen_any (.slice aa xa.length ca) xa W (ha.below h) hla (by omega)
  obtain ⟨P, hP⟩ : ∃ P : Int, ((bitsOf xa : Int) - 1) * n = P := ⟨_, rfl⟩
  have hPb : -9600 ≤ P := by
    rw [← hP]
    have h1 : (-1 : Int) * n ≤ ((bitsOf xa : Int) - 1) * n := Int.mul_le_mul_of_nonneg_right (by omega) (by omega)
    omega
  rw [hP] at hnear
  have hPw : IntKind.i64.wrap P = P := by rw [IntKind.wrap_i64]; omega
  have HF := Lib.hid hfit
  have HK := Lib.hid hfitK
  clear hfit hfitK
  obtain ⟨p, hp⟩ : ∃ p, n % 2 = p := ⟨_, rfl⟩
  have hp2 : p = 0 ∨ p = 1 := by omega
  have hpn : (n : Int) % 2 = (p : Int) := by omega
  have hpt : (n : Int).tmod 2 = (p : Int) := by rw [Int.tmod_eq_emod_of_nonneg (by omega)]; omega
  have HP := Lib.hid hp
  clear hp
  go_enter Tryd.func75, Tryd.ntmps75
  go_wp2_with (first
    | (go_at_call 59; refine (demand1_ok _ true aa ca xa _ r0' (ha.below bw) hla fa).mono ?_; rintro e w1 ⟨hbe1, rfl⟩; have bw1 := bw.trans (hbe1.mono (by simp)); have p0 := (hra.below bw1).cell 0; have p2 := (hra.below bw1).cell 1; have p1 := (hrn.below bw1).cell 0; simp only [List.getElem?_cons_zero, List.getElem?_cons_succ] at p0 p1 p2)
    | (go_at_call 60; refine (demand_ok _ _ _ (by simp; omega)).mono ?_; rintro e w2 ⟨rfl, rfl⟩))
  go_quiet (first
    | (go_at_call 55; exact (bitLen_any (.slice aa xa.length ca) xa _ ((ha.below bw1).drewN _) hla (by omega)).mono (fun e w' ⟨h1, h2⟩ => ⟨h2, _, h1.symm⟩))
    | (go_at_call 60; exact (demand_ok _ _ _ (by first | rfl | (simp; omega))).mono (fun e w' ⟨h1, h2⟩ => ⟨h2, _, h1.symm⟩)))
  have hS : PowS w B true aa xa ca n (w1.drewN nq) := by
    have h1 : Below w.heap.size w (w1.drewN nq) := ⟨bw1.os, bw1.tape, bw1.output, bw1.size, bw1.block⟩
    exact ⟨hra.below h1, ha.below h1, hrn.below h1, (Chg.refl (fun k => k = B + 2) w).thenBelow h1, ⟨r0, r1, r2, r3, hrr.below h1⟩⟩
  generalize w1.drewN nq = W2 at *
  clear hra hrn hrr hbl hP hPw hPb hnear a0 a1 n0 r0' bw bw1 hbe1 p0 p1 p2 hbb ha
  have hD := Lib.hid (pow_drew hS)
  obtain ⟨d1, d2, d3, -⟩ := pow_of hS
  clear hS
  go_wp2_with fail
  obtain ⟨f, hf⟩ : ∃ f : Bool, ((p : Int) == 1) = f := ⟨_, rfl⟩
  have HS := Lib.hid hf
  go_region_held3 (fun X => X.cell? ⟨B, 0, none⟩ = some (.bool true) ∧ X.cell? ⟨B, 1, none⟩ = some (.slice aa xa.length ca) ∧ X.cell? ⟨B + 1, 0, none⟩ = some (.int .i64 n) ∧ PowS w B true aa xa ca n X)
    (first | exact hD.out | (go_split_ands; exact pow_step (by assumption) hbc) | (go_split_ands; exact pow_store (by assumption) _ _ _ _))
    (first
      | (go_at_call 77; go_split_ands; refine (power_any K hT hK _ xa n _ (PowS.ra (by assumption)) hka hn HK.out).mono ?_; rintro e w9 ⟨hbc, v, cs, rfl, h1, k1, e1⟩; obtain ⟨a3, c3, rfl, hc3, hm3⟩ := h1.form)
      | (go_at_call 63; go_split_ands; refine (signed_any _ _ _ _ _).mono ?_; rintro e w10 ⟨hbc, rfl⟩; replace h1 := h1.below hbc)
      | (go_at_call 76; go_split_ands; refine (fitting_any _ _ _ _ _ (by rw [canon_length_iff k1, e1]; exact HF.out)).mono ?_; rintro e w11 ⟨hbc, rfl⟩; replace h1 := h1.below hbc; obtain ⟨u0, u1, u2, u3, q1, q2, q3, q4, q5⟩ := pow_cells (pow_step (by assumption) hbc).2.2.2))
  rename_i hX
  obtain ⟨-, -, -, hP5⟩ := hX
  go_end0
  exact ⟨rfl, hP5.chg, f && decide (0 < cs.length), a3, cs.length, c3, (q5.set 0 (.bool (f && decide (0 < cs.length)))).set 1 (.slice a3 cs.length c3), isInt_mk f (two_kept (b := B + 2) h1 q1 q2 _ _) k1 (by rw [e1, sgn_pow, HP.out, HS.out])⟩

set_option exponentiation.threshold 400 in
theorem Pow_neg (va : Value) (xa : List Nat) (n K : Nat) (hT : TimesUpTo K) (hK : 0 < K) (w : World) (ha : IntAt w va true xa) (fa : formedB true xa = true) (hn : n ≤ 9600) (hnear : ((bitsOf xa : Int) - 1) * n < 9600) (hbb : bitsOf xa ≤ 9600) (hfitK : val xa ^ n < B32 ^ K) (hfit : val xa ^ n < B32 ^ 300) :
    Calls Tryd.prog 37 #[va, .int .i64 (n : Int)] w fun e w' => Below w.heap.size w w' ∧ ∃ v, e = .returned (.tuple #[v, .int .i64 0]) ∧ IsInt w' v (sgn true (val xa) ^ n) := by
  refine (Pow_of va true xa (n : Int) w ha (fun k W v => k = 0 ∧ IsInt W v (sgn true (val xa) ^ n)) (fun _ _ _ _ h hk => ⟨h.1, h.2.keep hk⟩) ?_).mono ?_
  · intro B aa ca W4 hb4 hra hrn hrr hrd he
    obtain ⟨va', he', _, hl⟩ := ha
    obtain ⟨hkx, hxl⟩ := formedB_bounds hl fa
    refine (pow1_neg B aa ca xa n _ _ _ _ K hT hK W4 hra hrn hrr hrd hkx fa hn hxl hnear hbb hfitK hfit).mono ?_
    rintro e W ⟨rfl, hch, m, a, l, c, hr, hi⟩
    exact ⟨0, .inl ⟨rfl, rfl⟩, hch, m, a, l, c, hr, rfl, hi⟩
  · rintro e W ⟨hbe, r0, k, rfl, rfl, hi⟩
    exact ⟨hbe, _, rfl, hi⟩

set_option exponentiation.threshold 400 in
theorem pow_int (va : Value) (i : Int) (n : Nat) (w : World) (ha : IsInt w va i) (hi : i.natAbs < B32 ^ 7) (hn : n ≤ 40) :
    Calls Tryd.prog 37 #[va, .int .i64 (n : Int)] w fun e w' => Below w.heap.size w w' ∧ ∃ v, e = .returned (.tuple #[v, .int .i64 0]) ∧ IsInt w' v (i ^ n) := by
  obtain ⟨na, xs, hA, fA, rfl, hk, -⟩ := ha.at (abs_lt_up hi (by decide))
  rw [sgn_natAbs] at hi
  have hl := canon_length_le hk hi
  have hbb : bitsOf xs ≤ 224 := by
    by_cases h0 : xs = []
    · subst h0; decide +kernel
    · obtain ⟨-, h2, -⟩ := bitsOf_bounds hk h0
      have h3 := Nat.lt_of_le_of_lt h2 hi
      rw [B32_pow] at h3
      have := (Nat.pow_lt_pow_iff_right (show 1 < 2 by decide)).1 h3
      omega
  have hnear : ((bitsOf xs : Int) - 1) * n < 9600 := by
    have h1 : ((bitsOf xs : Int) - 1) * n ≤ 223 * n := Int.mul_le_mul_of_nonneg_right (by omega) (by omega)
    omega
  have hp : val xs ^ n < B32 ^ 281 := by
    have h1 : val xs ^ n ≤ (B32 ^ 7) ^ n := Nat.pow_le_pow_left (Nat.le_of_lt hi) n
    rw [← Nat.pow_mul] at h1
    exact Nat.lt_of_le_of_lt h1 (Nat.pow_lt_pow_right (by decide) (by omega))
  have h300 : val xs ^ n < B32 ^ 300 := Nat.lt_of_lt_of_le hp (Nat.pow_le_pow_right B32_pos (by decide))
  cases na with
  | false => exact Pow_ok va xs n 300 (timesUpTo_le times_any (by decide)) (by decide) w hA fA (by omega) hnear (by omega) h300 h300
  | true => exact Pow_neg va xs n 300 (timesUpTo_le times_any (by decide)) (by decide) w hA fA (by omega) hnear (by omega) h300 h300

end Go.Proofs.YtlghjfpkfdnfoaaDoor

/- num.product and num.Mul at every length -/
namespace Go.Proofs.YtlghjfpkfdnfoaaDoor
open Go Go.RowKit Go.Shelf

set_option maxHeartbeats 1000000 in
set_option maxRecDepth 100000 in
theorem product_any (na nb : Bool) (va vb : Value) (xa xb : List Nat) (w : World) (ha : Reads .u32 w va xa) (hb : Reads .u32 w vb xb) (hla : Limbs xa) (hlb : Limbs xb) (la : xa.length ≤ 40000) (lb : xb.length ≤ 40000) :
    Calls Tryd.prog 69 #[.agg #[.bool na, va], .agg #[.bool nb, vb]] w fun e w' => Below w.heap.size w w' ∧ ∃ v cs, e = .returned (.agg #[.bool ((na != nb) && decide (0 < cs.length)), v]) ∧ Reads .u32 w' v cs ∧ Canon cs ∧ val cs = val xa * val xb := by
  have h0 := twoInts_start (na := na) (nb := nb) ha hb
  obtain ⟨aa, ca, rfl, hca, hma⟩ := ha.form
  obtain ⟨ab, cb, rfl, hcb, hmb⟩ := hb.form
  have H0 := Lib.hid h0
  clear h0
  go_enter Tryd.func69, Tryd.ntmps69
  go_wp2_with fail
  go_region_held3 (fun W => W.cell? ⟨w.heap.size, 0, none⟩ = some (.bool na) ∧ W.cell? ⟨w.heap.size, 1, none⟩ = some (.slice aa xa.length ca) ∧ W.cell? ⟨w.heap.size + 1, 0, none⟩ = some (.bool nb) ∧ W.cell? ⟨w.heap.size + 1, 1, none⟩ = some (.slice ab xb.length cb) ∧ TwoRest w (.slice aa xa.length ca) (.slice ab xb.length cb) xa xb W)
    (first | exact ⟨H0.out.1, H0.out.2.1, H0.out.2.2.1, H0.out.2.2.2.1, H0.out.2.2.2.2.drew⟩ | (go_split_ands; exact twoInts_step (by assumption) (by assumption) (by assumption) (by assumption) (by assumption) (by assumption)) | (go_split_ands; exact twoInts_store (by assumption) (by assumption) (by assumption) (by assumption) (by assumption) _ _ _ _))
    (first | (go_at_call 104; go_split_ands; refine (times_any _ _ xa xb _ (TwoRest.ra (by assumption)) (TwoRest.rb (by assumption)) hla hlb la lb).mono ?_; rintro e w' ⟨hbe, v, cs, rfl, h1, h2, h3⟩; obtain ⟨a3, c3, rfl, hc3, hm3⟩ := h1.form) | (go_at_call 63; go_split_ands; refine (signed_any _ _ _ _ _).mono ?_; rintro e w'' ⟨hbe2, rfl⟩; obtain ⟨u0, u1, u2, u3, q1, q2, q3, q4⟩ := TwoRest.cells (TwoRest.step (by assumption) hbe2)))
  obtain ⟨s1, s2⟩ := two_reads (b := w.heap.size + 1 + 1) q1 q2 (.bool (!na == nb && decide (0 < cs.length))) (.slice a3 cs.length c3)
  have hk := two_kept (b := w.heap.size + 1 + 1) (h1.below hbe2) q1 q2 (.bool (!na == nb && decide (0 < cs.length))) (.slice a3 cs.length c3)
  rename_i hT
  replace hT := hT.2.2.2.2.below
  go_wp2
  refine bodyPost_ret (v := .agg #[.bool (!na == nb && decide (0 < cs.length)), .slice a3 cs.length c3]) (by simp [results, Tryd.results69, go_sem, loadCellsFrom, s1, s2]) rfl ⟨hT, _, cs, ?_, hk, h2, h3⟩
  cases na <;> cases nb <;> rfl

theorem product_all (a b : Value) (i j : Int) (L : Nat) (w : World) (ha : IsInt w a i) (hb : IsInt w b j) (hL : L ≤ 40000) (hi : i.natAbs < B32 ^ L) (hj : j.natAbs < B32 ^ L) :
    Calls Tryd.prog 69 #[a, b] w fun e w' => Below w.heap.size w w' ∧ ∃ v, e = .returned v ∧ IsInt w' v (i * j) := by
  obtain ⟨na, va, xa, rfl, hra, hca, hna, rfl⟩ := ha
  obtain ⟨nb, vb, xb, rfl, hrb, hcb, hnb, rfl⟩ := hb
  rw [sgn_natAbs] at hi hj
  have la := canon_length_le hca hi
  have lb := canon_length_le hcb hj
  refine (product_any na nb va vb xa xb w hra hrb hca.1 hcb.1 (by omega) (by omega)).mono ?_
  rintro e w' ⟨hbe, v, cs, rfl, h1, h2, h3⟩
  exact ⟨hbe, _, rfl, isInt_mk _ h1 h2 (by rw [h3]; cases na <;> cases nb <;> simp [sgn, Int.neg_mul, Int.mul_neg])⟩

set_option maxHeartbeats 1000000 in
set_option maxRecDepth 100000 in
theorem Mul_all (a b : Value) (na nb : Bool) (xa xb : List Nat) (w : World) (ha : IntAt w a na xa) (hb : IntAt w b nb xb) :
    Calls Tryd.prog 30 #[a, b] w fun e w' => Below w.heap.size w w' ∧ ∃ v k, e = .returned (.tuple #[v, .int .i64 k]) ∧ RingRes (formedB na xa) (formedB nb xb) (sgn na (val xa) * sgn nb (val xb)) k w' v := by
  have key := fun w2 (hb2 : Below w.heap.size w w2) => ring_any 69 a b na nb xa xb w2 (ha.below hb2) (hb.below hb2) (sgn na (val xa) * sgn nb (val xb)) (fun W args => by simp [go_sem])
    (fun fa fb W hW => product_all a b _ _ 300 W (((ha.below hb2).isInt fa).below hW) (((hb.below hb2).isInt fb).below hW) (by omega) (ha.natAbs_lt fa) (hb.natAbs_lt fb))
  obtain ⟨va, rfl, hra, hla⟩ := ha
  obtain ⟨vb, rfl, hrb, hlb⟩ := hb
  obtain ⟨aa, ca, rfl, hca, hma⟩ := hra.form
  obtain ⟨ab, cb, rfl, hcb, hmb⟩ := hrb.form
  have bw := ((((Below.refl w.heap.size w).alloc (Nat.le_refl _) (.cells #[.bool na, .slice aa xa.length ca] 24)).alloc (by simp) (.cells #[.bool nb, .slice ab xb.length cb] 24)).alloc (by simp; omega) (.cells #[.bool false, .slice none 0 0] 24))
  have q3 := RowAt.new ((w.alloc (.cells #[.bool na, .slice aa xa.length ca] 24)).alloc (.cells #[.bool nb, .slice ab xb.length cb] 24)) 24 [.bool false, .slice none 0 0]
  simp only [World.size_alloc] at q3
  go_enter Tryd.func30, Tryd.ntmps30
  go_wp2_with (refine (key _ bw).mono ?_; rintro e w1 ⟨hbe1, v, k, rfl, hres⟩; obtain ⟨n, a, m, c, rfl⟩ := hres.form; have q4 := q3.below hbe1; have s1 := q4.cell 0; have s2 := q4.cell 1; have s3 := q4.frozen 0; have s4 := q4.frozen 1; simp only [List.getElem?_cons_zero, List.getElem?_cons_succ] at s1 s2)
  obtain ⟨u1, u2⟩ := two_reads (b := w.heap.size + 1 + 1) s1 s2 (.bool n) (.slice a m c)
  have hkeep : ∀ v xs, Reads .u32 w1 v xs → Reads .u32 ((w1.setCell ⟨w.heap.size + 1 + 1, 0, none⟩ (.bool n)).setCell ⟨w.heap.size + 1 + 1, 1, none⟩ (.slice a m c)) v xs :=
    fun v xs h => two_kept (b := w.heap.size + 1 + 1) h s1 s2 _ _
  refine bodyPost_ret (v := .tuple #[.agg #[.bool n, .slice a m c], .int .i64 k]) (by simp [results, Tryd.results30, go_sem, loadCellsFrom, u1, u2]) rfl ⟨?_, _, k, rfl, hres.keep hkeep⟩
  have hb9 : Below w.heap.size w w1 := bw.trans (hbe1.mono bw.size)
  exact (hb9.setCell (by simp; omega) _).setCell (by simp; omega) _

set_option exponentiation.threshold 400 in
theorem mul_all (va vb : Value) (i j : Int) (w : World) (ha : IsInt w va i) (hb : IsInt w vb j) (hi : i.natAbs < B32 ^ 300) (hj : j.natAbs < B32 ^ 300) (hr : (i * j).natAbs < B32 ^ 300) :
    Calls Tryd.prog 30 #[va, vb] w fun e w' => Below w.heap.size w w' ∧ ∃ v, e = .returned (.tuple #[v, .int .i64 0]) ∧ IsInt w' v (i * j) := by
  obtain ⟨na, xa, hA, fa, rfl, -, -⟩ := ha.at hi
  obtain ⟨nb, xb, hB, fb, rfl, -, -⟩ := hb.at hj
  refine (Mul_all va vb na nb xa xb w hA hB).mono ?_
  rintro e w2 ⟨h1, v, k, rfl, h2⟩
  obtain ⟨rfl, h3⟩ := ring_value h2 fa fb hr
  exact ⟨h1, v, rfl, h3⟩

end Go.Proofs.YtlghjfpkfdnfoaaDoor
