/- from the rows' conditions to what the walks ask: the table of digits, an argument api.Int -/
import Derived.Test.YtifngjfhgehakaaDoorRows
import Derived.Test.YtifngjfhgehakaaDoorNumMOrder
import Derived.ProofKit
import Derived.LaidMore
import Derived.OpenShut
import Derived.LaidHandle
import Derived.MakeChecks
import Derived.Lib.SmallJoins
import Derived.Test.YtifngjfhgehakaaDoorNumMQuiet
import Derived.Test.YtifngjfhgehakaaDoorNumMMinus
namespace Go.Proofs.YtifngjfhgehakaaDoor
open Go.ChangeShapes Go.WideShapes Go.ChangeAt Go.RowKit Go.Joins

theorem own : ownKnob Tryd.prog.godebug = none := by kernel_rfl
theorem laidOut : laidOutB Tryd.prog = true := by kernel_rfl
theorem cells_int : Tryd.prog.cellsOf 24 = 2 := by kernel_rfl
theorem gDigits : Tryd.prog.globalNamed "zermelo/num.digits" = some 0 := by kernel_rfl
theorem tDigits : (Tryd.prog.globals[0]?).map (·.type) = some 118 := by kernel_rfl
theorem cells_byte : Tryd.prog.cellsOf 5 = 1 := by kernel_rfl
theorem cells_u32 : Tryd.prog.cellsOf 72 = 1 := by kernel_rfl
theorem tTable : Tryd.prog.underlying 118 = some (.array 36 5) := by kernel_rfl
theorem tByte : Tryd.prog.underlying 5 = some (.int .u8) := by kernel_rfl

theorem laid_digits {H : Type} : (Rows.laid_zermelo_num_digits : DataW H) = .agg ((List.range 36).map fun i => .lit (.int .u8 ((digChar i : Nat) : Int))) := by rfl

abbrev theLaid : List (String × DataW Unit) := [("zermelo/num.digits", Rows.laid_zermelo_num_digits)]

/-- The door's own heap meets the condition. -/
theorem door_met (os : Os) (args : Array Value) : laidMetH Tryd.prog theLaid ((World.doorLaid Tryd.prog 400 os).forCall (fun _ _ => 0) ⟨#[], args, []⟩).memory :=
  laidMetH_of_parts3 (fuel := 8) (laidMet_of_run' 8 (by kernel_rfl) (by kernel_rfl)) (by kernel_rfl) (by kernel_rfl)

/-- What the condition gives the walks. -/
theorem of_laid {W : World} (h : laidMetH Tryd.prog theLaid W) : DigitsAt W := by
  rw [MakeChecks.laidMetH_plain _ _ _ (by kernel_rfl)] at h
  obtain ⟨ps, ⟨g0, t0, cs0, f0, p0, q0, hg0, ht0, hv0, hd0, _⟩, _⟩ := h
  obtain rfl := Option.some.inj (gDigits.symm.trans hg0)
  obtain rfl := Option.some.inj (tDigits.symm.trans ht0)
  obtain ⟨xs, m, rfl, hx, hlen, hn, hel⟩ := DataW.trod_array tTable hd0
  intro i hi
  have h1 := hel i hi
  rw [cells_byte, Nat.mul_one] at h1
  simp only [Prod.mk.injEq] at hx
  have h2 := hx.1
  rw [laid_digits, DataW.agg.injEq] at h2
  have h3 : (xs.map (·.1))[i]? = some (.lit (.int .u8 ((digChar i : Nat) : Int))) := by
    rw [← h2]
    simp [hi]
  rw [List.getElem?_map] at h3
  cases hxi : xs[i]? with
  | none => rw [hxi] at h3; simp at h3
  | some y =>
    rw [hxi] at h1 h3
    simp only [Option.map_some, Option.some.injEq] at h3
    obtain ⟨k, e1, e2, _⟩ := DataW.trod_int tByte h1
    rw [e2] at h3
    simp only [DataW.lit.injEq, Lit.int.injEq, true_and] at h3
    subst h3
    have hc := World.var?_cell hg0 hv0 i
    rw [hc]
    have : (cs0.toList.drop i)[0]? = some (.int .u8 ((digChar i : Nat) : Int)) := by
      have := congrArg (·[0]?) e1
      simpa using this
    simpa using this
set_option maxRecDepth 100000 in
/-- An argument api.Int, opened. -/
theorem open_Int {H : Type} {enc : TypeId × Value → H} {W : World} {base : Nat} {v : Value} {d : DataW H} {p : List MemPlace} (hv : Value.okWide Tryd.prog W .any base 24 v) (h : DataW.Trod enc Tryd.prog W 0 (fun _ => true) true 24 v d p) : ∃ neg xs, IntAt W v neg xs := by
  obtain ⟨c0, c1, y0, y1, m, rfl, rfl, rfl, hy0, hy1⟩ := open_agg2 Tryd.underlying24 (by kernel_rfl) cells_int hv h
  obtain ⟨neg, e0, -⟩ := DataW.trod_bool Tryd.underlying4 hy0
  simp only [List.cons.injEq, and_true] at e0
  subst e0
  refine ⟨neg, ?_⟩
  rcases open_ints Tryd.underlying22 Tryd.underlying72 cells_u32 hy1 with ⟨hcs, -⟩ | ⟨x, l, c, zs, hcs, _, hl, hm, hz, _, hcell, hwz⟩
  · simp only [List.cons.injEq, and_true] at hcs
    subst hcs
    exact ⟨[], _, rfl, ⟨none, 0, rfl, Nat.le_refl _, Nat.zero_le _, fun j hj => absurd hj (Nat.not_lt_zero _)⟩, fun x hx => absurd hx (List.not_mem_nil)⟩
  · simp only [List.cons.injEq, and_true] at hcs
    subst hcs
    simp only [if_pos] at hz
    have hget : ∀ j, j < l → ∃ n : Nat, zs.getD j 0 = (n : Int) ∧ n < B32 := by
      intro j hj
      have hj' : j < zs.length := by omega
      have hw := hwz (zs.getD j 0) (by rw [List.getD_eq_getElem?_getD, List.getElem?_eq_getElem hj', Option.getD_some]; exact List.getElem_mem hj')
      simp only [Lit.wf, Bool.and_eq_true, decide_eq_true_eq] at hw
      have h1 : (0 : Int) ≤ zs.getD j 0 := hw.1
      have h2 : zs.getD j 0 ≤ (4294967295 : Int) := hw.2
      obtain ⟨n, hn⟩ := Int.eq_ofNat_of_zero_le h1
      refine ⟨n, hn, ?_⟩
      rw [hn] at h2
      show n < 4294967296
      omega
    have hlen : ((zs.take l).map Int.toNat).length = l := by simp; omega
    have hgl : ∀ j, j < l → ((zs.take l).map Int.toNat)[j]? = some (zs.getD j 0).toNat := by
      intro j hj
      have hj' : j < zs.length := by omega
      simp [hj, List.getElem?_eq_getElem hj']
    refine ⟨(zs.take l).map Int.toNat, .slice (some x) l c, rfl, ⟨some x, c, by rw [hlen], by rw [hlen]; exact hl, hm, fun j hj => ?_⟩, ?_⟩
    · rw [hlen] at hj
      obtain ⟨n, h1, -⟩ := hget j hj
      have h2 := hcell j (by omega)
      obtain ⟨b, off, spot⟩ := x
      have h0 := hcell 0 (by omega)
      have hspot : spot = none := by simpa [Addr.add] using World.cell?_spot h0
      subst hspot
      refine ⟨⟨b, off, rfl⟩, ?_⟩
      rw [hgl j hj, lookAt_some]
      rw [h1] at h2 ⊢
      simp only [Option.getD_some, Int.toNat_natCast]
      rw [← h2]
      congr 1
      unfold Addr.add
      split
      · rename_i e; subst e; rfl
      · rfl
    · intro y hy
      obtain ⟨j, hj, rfl⟩ := List.mem_iff_getElem.1 hy
      rw [hlen] at hj
      obtain ⟨n, h1, h2⟩ := hget j hj
      have h3 := hgl j hj
      rw [List.getElem?_eq_getElem (by rw [hlen]; exact hj)] at h3
      rw [Option.some.inj h3, h1]
      simpa using h2
end Go.Proofs.YtifngjfhgehakaaDoor

/- Long division, limb by limb: what is guessed, taken and given back; without the program. -/
namespace Go.Proofs.YtifngjfhgehakaaDoor

/-! ### a limb times a list is taken from a row -/
/-- one round: the row, the carry of the product, the borrow -/
def ttStep (o g : Nat) (st : List Nat × Nat × Nat) (p : Nat × Nat) : List Nat × Nat × Nat :=
  (st.1.set (o + p.1) ((st.1[o + p.1]?.getD 0 + B32 - ((st.2.1 + g * p.2) % B32 + st.2.2)) % B32), (st.2.1 + g * p.2) / B32, 1 - (st.1[o + p.1]?.getD 0 + B32 - ((st.2.1 + g * p.2) % B32 + st.2.2)) / B32)
def ttFold (o g : Nat) (xs : List Nat) (ps : List (Nat × Nat)) : List Nat × Nat × Nat := ps.foldl (ttStep o g) (xs, 0, 0)
theorem ttFold_snoc (o g : Nat) (xs : List Nat) (ps : List (Nat × Nat)) (p : Nat × Nat) : ttFold o g xs (ps ++ [p]) = ttStep o g (ttFold o g xs ps) p := by simp [ttFold]
theorem ttFold_length (o g : Nat) (xs : List Nat) (ps : List (Nat × Nat)) : (ttFold o g xs ps).1.length = xs.length := by
  induction ps using snoc_ind with
  | h0 => rfl
  | h1 ps p ih => rw [ttFold_snoc]; simp [ttStep, ih]
theorem ttFold_limbs {o g : Nat} {xs : List Nat} (hg : g < B32) (hx : Limbs xs) (ps : List (Nat × Nat)) (hp : ∀ p ∈ ps, p.2 < B32) : Limbs (ttFold o g xs ps).1 ∧ (ttFold o g xs ps).2.1 < B32 ∧ (ttFold o g xs ps).2.2 ≤ 1 := by
  induction ps using snoc_ind with
  | h0 => exact ⟨hx, B32_pos, Nat.zero_le _⟩
  | h1 ps p ih =>
    obtain ⟨h1, h2, h3⟩ := ih (fun q hq => hp q (List.mem_append_left _ hq))
    have h4 := hp p (by simp)
    rw [ttFold_snoc]
    refine ⟨limbs_set h1 _ (Nat.mod_lt _ B32_pos), Nat.div_lt_of_lt_mul ?_, Nat.sub_le _ _⟩
    exact mul_limb_lt h2 hg h4
theorem ttFold_val {o g : Nat} {xs ys : List Nat} (hg : g < B32) (hx : Limbs xs) (hy : Limbs ys) (k : Nat) (hk : o + k ≤ xs.length) :
    val (ttFold o g xs (limbPairs ys k)).1 + B32 ^ o * (g * val (ys.take k)) = val xs + B32 ^ (o + k) * ((ttFold o g xs (limbPairs ys k)).2.1 + (ttFold o g xs (limbPairs ys k)).2.2) := by
  induction k with
  | zero => simp [limbPairs, ttFold, val]
  | succ k ih =>
    have ih := ih (by omega)
    have hl := ttFold_length o g xs (limbPairs ys k)
    obtain ⟨b1, b2, b3⟩ := ttFold_limbs (o := o) hg hx (limbPairs ys k) (fun p hp' => by
      obtain ⟨i, _, rfl⟩ := List.mem_map.1 hp'
      exact limb_getD hy i)
    have b4 := limb_getD b1 (o + k)
    rw [limbPairs_succ, ttFold_snoc, val_take_succ]
    simp only [ttStep]
    generalize (ttFold o g xs (limbPairs ys k)).2.2 = b at *
    generalize (ttFold o g xs (limbPairs ys k)).2.1 = c at *
    generalize (ttFold o g xs (limbPairs ys k)).1 = q at *
    generalize ys[k]?.getD 0 = y at *
    have hd := Nat.div_add_mod (c + g * y) B32
    have hm := Nat.mod_lt (c + g * y) B32_pos
    generalize (c + g * y) / B32 = c' at *
    generalize (c + g * y) % B32 = cl at *
    have hs := fun z => val_set q (o + k) z (by omega)
    generalize q[o + k]?.getD 0 = x at *
    have h3 : (x + B32 - (cl + b)) % B32 + cl + b = x + B32 * (1 - (x + B32 - (cl + b)) / B32) := by unfold B32 at *; omega
    have hs := hs ((x + B32 - (cl + b)) % B32)
    generalize (x + B32 - (cl + b)) % B32 = m at *
    generalize 1 - (x + B32 - (cl + b)) / B32 = b' at *
    generalize val (q.set (o + k) m) = Z at *
    have h4 := congrArg (B32 ^ (o + k) * ·) h3
    have h5 := congrArg (B32 ^ (o + k) * ·) hd
    simp only [Nat.mul_add] at h4 h5
    rw [← Nat.add_assoc, Nat.pow_succ, Nat.mul_assoc (B32 ^ (o + k)), Nat.mul_add g, Nat.mul_add (B32 ^ o), Nat.mul_add B32, Nat.mul_add (B32 ^ (o + k))]
    have e : B32 ^ o * (g * (B32 ^ k * y)) = B32 ^ (o + k) * (g * y) := by rw [Nat.pow_add, Nat.mul_left_comm g, Nat.mul_assoc]
    rw [Nat.mul_add (B32 ^ (o + k))] at ih
    rw [e]
    omega
theorem ttFold_above (o g : Nat) (xs ys : List Nat) (k m : Nat) (hm : o + k ≤ m) : (ttFold o g xs (limbPairs ys k)).1[m]? = xs[m]? := by
  induction k with
  | zero => rfl
  | succ k ih =>
    rw [limbPairs_succ, ttFold_snoc]
    simp only [ttStep]
    rw [List.getElem?_set_ne (by omega)]
    exact ih (by omega)

/-! ### a list is added to a row -/
def adStep (o : Nat) (st : List Nat × Nat) (p : Nat × Nat) : List Nat × Nat := (st.1.set (o + p.1) ((st.2 + (st.1[o + p.1]?.getD 0 + p.2)) % B32), (st.2 + (st.1[o + p.1]?.getD 0 + p.2)) / B32)
def adFold (o : Nat) (xs : List Nat) (ps : List (Nat × Nat)) : List Nat × Nat := ps.foldl (adStep o) (xs, 0)
theorem adFold_snoc (o : Nat) (xs : List Nat) (ps : List (Nat × Nat)) (p : Nat × Nat) : adFold o xs (ps ++ [p]) = adStep o (adFold o xs ps) p := by simp [adFold]
theorem adFold_length (o : Nat) (xs : List Nat) (ps : List (Nat × Nat)) : (adFold o xs ps).1.length = xs.length := by
  induction ps using snoc_ind with
  | h0 => rfl
  | h1 ps p ih => rw [adFold_snoc]; simp [adStep, ih]
theorem adFold_limbs {o : Nat} {xs : List Nat} (hx : Limbs xs) (ps : List (Nat × Nat)) (hp : ∀ p ∈ ps, p.2 < B32) : Limbs (adFold o xs ps).1 ∧ (adFold o xs ps).2 ≤ 1 := by
  induction ps using snoc_ind with
  | h0 => exact ⟨hx, Nat.zero_le _⟩
  | h1 ps p ih =>
    obtain ⟨h1, h2⟩ := ih (fun q hq => hp q (List.mem_append_left _ hq))
    have h3 := hp p (by simp)
    have h4 := limb_getD h1 (o + p.1)
    rw [adFold_snoc]
    refine ⟨limbs_set h1 _ (Nat.mod_lt _ B32_pos), ?_⟩
    show (_ + (_ + _)) / B32 ≤ 1
    unfold B32 at *; omega
theorem adFold_val {o : Nat} {xs ys : List Nat} (k : Nat) (hk : o + k ≤ xs.length) : val (adFold o xs (limbPairs ys k)).1 + B32 ^ (o + k) * (adFold o xs (limbPairs ys k)).2 = val xs + B32 ^ o * val (ys.take k) := by
  induction k with
  | zero => simp [limbPairs, adFold, val]
  | succ k ih =>
    have ih := ih (by omega)
    have hl := adFold_length o xs (limbPairs ys k)
    rw [limbPairs_succ, adFold_snoc, val_take_succ]
    simp only [adStep]
    generalize (adFold o xs (limbPairs ys k)).2 = c at *
    generalize (adFold o xs (limbPairs ys k)).1 = q at *
    generalize ys[k]?.getD 0 = y at *
    have hs := fun z => val_set q (o + k) z (by omega)
    generalize q[o + k]?.getD 0 = x at *
    have hd := Nat.div_add_mod (c + (x + y)) B32
    have hs := hs ((c + (x + y)) % B32)
    generalize (c + (x + y)) / B32 = c' at *
    generalize (c + (x + y)) % B32 = m at *
    generalize val (q.set (o + k) m) = Z at *
    have h5 := congrArg (B32 ^ (o + k) * ·) hd
    simp only [Nat.mul_add] at h5
    rw [← Nat.add_assoc, Nat.pow_succ, Nat.mul_assoc (B32 ^ (o + k)), Nat.mul_add (B32 ^ o), ← Nat.mul_assoc (B32 ^ o) (B32 ^ k), ← Nat.pow_add]
    omega
theorem adFold_above (o : Nat) (xs ys : List Nat) (k m : Nat) (hm : o + k ≤ m) : (adFold o xs (limbPairs ys k)).1[m]? = xs[m]? := by
  induction k with
  | zero => rfl
  | succ k ih =>
    rw [limbPairs_succ, adFold_snoc]
    simp only [adStep]
    rw [List.getElem?_set_ne (by omega)]
    exact ih (by omega)
/-- behind the end of the list, without a carry, nothing changes -/
theorem adFold_rest {o : Nat} {xs ys : List Nat} {k : Nat} (hx : Limbs xs) (hy : ys.length ≤ k) (hc : (adFold o xs (limbPairs ys k)).2 = 0) (hpl : ∀ p ∈ limbPairs ys k, p.2 < B32) (j : Nat) : adFold o xs (limbPairs ys (k + j)) = adFold o xs (limbPairs ys k) := by
  induction j with
  | zero => rfl
  | succ j ih =>
    rw [← Nat.add_assoc, limbPairs_succ, adFold_snoc, ih, List.getElem?_eq_none (by omega)]
    have hb := (adFold_limbs (o := o) hx (limbPairs ys k) hpl).1
    generalize adFold o xs (limbPairs ys k) = st at *
    obtain ⟨q, c⟩ := st
    simp only at hc hb
    subst hc
    have h4 := limb_getD hb (o + (k + j))
    simp only [adStep, Option.getD_none, Nat.add_zero, Nat.zero_add, Nat.mod_eq_of_lt h4, Nat.div_eq_of_lt h4]
    congr 1
    by_cases hi : o + (k + j) < q.length
    · rw [List.getElem?_eq_getElem hi, Option.getD_some, List.set_getElem_self]
    · rw [List.set_eq_of_length_le (by omega)]

/-! ### the guess -/
def guessN (U3 V2 : Nat) : Nat := min (U3 / V2) (B32 - 1)
theorem guessN_lt (U3 V2 : Nat) : guessN U3 V2 < B32 := by unfold guessN B32; omega
/-- the true quotient is the guess, or one less -/
theorem guess_near {A N lowV V2 lowL U3 : Nat} (hN : 0 < N) (hA : 0 < A) (hV2 : B32 ≤ V2) (hlV : lowV < N) (hlL : lowL < A * N) (hB : lowL + A * N * U3 < A * (lowV + N * V2) * B32) :
    (lowL + A * N * U3) / (A * (lowV + N * V2)) ≤ guessN U3 V2 ∧ guessN U3 V2 ≤ (lowL + A * N * U3) / (A * (lowV + N * V2)) + 1 := by
  have hV0 : 0 < V2 := Nat.lt_of_lt_of_le B32_pos hV2
  have hNV : 0 < N * V2 := Nat.mul_pos hN hV0
  have hD : 0 < A * (lowV + N * V2) := Nat.mul_pos hA (by omega)
  have hDle : A * N * V2 ≤ A * (lowV + N * V2) := by
    rw [Nat.mul_assoc]; exact Nat.mul_le_mul_left _ (by omega)
  generalize hX : lowL + A * N * U3 = X at *
  generalize hDD : A * (lowV + N * V2) = D at *
  have hq1 : X / D * D ≤ X := Nat.div_mul_le_self _ _
  have hq2 : X < (X / D + 1) * D := by
    rw [Nat.mul_comm]; exact Nat.lt_mul_div_succ X hD
  generalize hq : X / D = q at *
  have hqB : q < B32 := by
    rw [← hq]; exact Nat.div_lt_of_lt_mul hB
  refine ⟨?_, ?_⟩
  · unfold guessN
    refine Nat.le_min.2 ⟨(Nat.le_div_iff_mul_le hV0).2 ?_, by omega⟩
    refine Nat.le_of_lt_succ (Nat.lt_of_not_le fun hc => ?_)
    have h1 : A * N * (U3 + 1) ≤ A * N * (q * V2) := Nat.mul_le_mul_left _ hc
    have h2 : A * N * (q * V2) ≤ q * D := by
      rw [Nat.mul_left_comm]; exact Nat.mul_le_mul_left _ hDle
    rw [Nat.mul_add, Nat.mul_one] at h1
    omega
  · refine Nat.le_of_lt_succ (Nat.lt_of_not_le fun hc => ?_)
    have hg1 : guessN U3 V2 ≤ U3 / V2 := Nat.min_le_left _ _
    have hg2 : guessN U3 V2 < B32 := guessN_lt _ _
    have hg3 : guessN U3 V2 * V2 ≤ U3 := (Nat.le_div_iff_mul_le hV0).1 hg1
    generalize guessN U3 V2 = g at *
    have h1 : g * D ≤ X + D := by
      have h2 : g * D = A * (g * lowV) + A * N * (g * V2) := by
        rw [← hDD, Nat.mul_left_comm, Nat.mul_add, Nat.mul_add, Nat.mul_left_comm g N, Nat.mul_assoc A N]
      have h3 : A * N * (g * V2) ≤ A * N * U3 := Nat.mul_le_mul_left _ hg3
      have h4 : A * (g * lowV) ≤ A * N * V2 := by
        rw [Nat.mul_assoc]
        refine Nat.mul_le_mul_left _ ?_
        rw [Nat.mul_comm N]
        exact Nat.mul_le_mul (by omega) (by omega)
      omega
    have h5 : (q + 2) * D ≤ g * D := Nat.mul_le_mul_right _ (by omega)
    have h6 : (q + 2) * D = (q + 1) * D + D := by rw [show q + 2 = (q + 1) + 1 from rfl, Nat.add_mul (q + 1) 1, Nat.one_mul]
    omega
theorem guess_dec {t b l0 limb rest u g : Nat} (hg : g = guessN (l0 + B32 * u) (b + B32 * t)) (hu : limb * t + rest = u) (hV : 0 < b + B32 * t) (hgl : g ≤ limb) (hc : B32 ≤ limb ∨ rest * B32 + l0 < limb * b) : g ≤ limb - 1 ∧ 1 ≤ limb := by
  rcases hc with hc | hc
  · have := guessN_lt (l0 + B32 * u) (b + B32 * t)
    have := B32_pos
    omega
  · have h1 : g ≤ (l0 + B32 * u) / (b + B32 * t) := by rw [hg]; exact Nat.min_le_left _ _
    have h2 : (l0 + B32 * u) / (b + B32 * t) < limb := by
      rw [Nat.div_lt_iff_lt_mul hV, Nat.mul_add, ← hu, Nat.mul_add, Nat.mul_left_comm limb, Nat.mul_comm B32 rest]
      omega
    omega
theorem guess_end {t b l0 limb rest u g : Nat} (hg : g = guessN (l0 + B32 * u) (b + B32 * t)) (hu : limb * t + rest = u) (hV : 0 < b + B32 * t) (hgl : g ≤ limb) (hub : u < t * B32 + B32) (hb : b < B32)
    (hc : B32 ≤ rest ∨ (limb < B32 ∧ limb * b ≤ rest * B32 + l0)) : limb = g := by
  have hlb : limb < B32 := by
    rcases hc with hc | hc
    · have h1 : limb * t < B32 * t := by rw [Nat.mul_comm B32]; omega
      exact Nat.lt_of_mul_lt_mul_right h1
    · exact hc.1
  have h2 : limb * b ≤ rest * B32 + l0 := by
    rcases hc with hc | hc
    · have h3 : limb * b ≤ B32 * B32 := Nat.mul_le_mul (by omega) (by omega)
      have h4 : B32 * B32 ≤ rest * B32 := Nat.mul_le_mul_right _ hc
      omega
    · exact hc.2
  have h3 : limb ≤ (l0 + B32 * u) / (b + B32 * t) := by
    rw [Nat.le_div_iff_mul_le hV, Nat.mul_add, ← hu, Nat.mul_add, Nat.mul_left_comm limb, Nat.mul_comm B32 rest]
    omega
  have h4 : limb ≤ g := by rw [hg]; exact Nat.le_min.2 ⟨h3, by omega⟩
  omega


/-! ### one round -/
theorem val_two {bs : List Nat} {k : Nat} (h : bs.length = k + 2) : val bs = val (bs.take k) + B32 ^ k * (bs[k]?.getD 0 + B32 * bs[k + 1]?.getD 0) := by
  rw [val_split bs k (by omega), val_drop_succ bs (k + 1) (by omega), List.drop_of_length_le (show bs.length ≤ k + 1 + 1 by omega)]
  simp [val]
theorem val_three {xs : List Nat} {k : Nat} (h : k + 3 ≤ xs.length) : val xs = val (xs.take k) + B32 ^ k * (xs[k]?.getD 0 + B32 * (xs[k + 1]?.getD 0 + B32 * (xs[k + 2]?.getD 0 + B32 * val (xs.drop (k + 3))))) := by
  rw [val_split xs k (by omega), val_drop_succ xs (k + 1) (by omega), val_drop_succ xs (k + 2) (by omega)]
theorem take_lt {xs : List Nat} (h : Limbs xs) (k : Nat) (hk : k ≤ xs.length) : val (xs.take k) < B32 ^ k := by
  have := val_lt (limbs_take h k)
  rwa [List.length_take, Nat.min_eq_left hk] at this
/-- what is divided, by its parts -/
structure Knu (L bs : List Nat) (o k : Nat) : Prop where
  ll : Limbs L
  lb : Limbs bs
  len : o + k + 3 ≤ L.length
  blen : bs.length = k + 2
  top : 2147483648 ≤ bs[k + 1]?.getD 0
  lt : val L < val bs * B32 ^ (o + 1)
theorem Knu.high {L bs : List Nat} {o k : Nat} (h : Knu L bs o k) : val (L.drop (o + k + 3)) = 0 := by
  have h1 := val_three h.len
  have h2 := h.lt
  have h3 := val_lt h.lb
  rw [h.blen] at h3
  rcases Nat.eq_zero_or_pos (val (L.drop (o + k + 3))) with e | e
  · exact e
  · exfalso
    have h4 : val bs * B32 ^ (o + 1) < B32 ^ (k + 2) * B32 ^ (o + 1) := Nat.mul_lt_mul_of_pos_right h3 (Nat.pow_pos B32_pos)
    have h5 : B32 ^ (k + 2) * B32 ^ (o + 1) = B32 ^ (o + k) * (B32 * (B32 * B32)) := by
      rw [← Nat.pow_add, show k + 2 + (o + 1) = o + k + 1 + 1 + 1 by omega, Nat.pow_succ, Nat.pow_succ, Nat.pow_succ]
      simp only [Nat.mul_assoc]
    have h6 : B32 ^ (o + k) * (B32 * (B32 * B32)) ≤ B32 ^ (o + k) * (L[o + k]?.getD 0 + B32 * (L[o + k + 1]?.getD 0 + B32 * (L[o + k + 2]?.getD 0 + B32 * val (L.drop (o + k + 3))))) := by
      refine Nat.mul_le_mul_left _ ?_
      unfold B32; omega
    omega
theorem Knu.vals {L bs : List Nat} {o k : Nat} (h : Knu L bs o k) : val L = val (L.take (o + k)) + B32 ^ o * B32 ^ k * (L[o + k]?.getD 0 + B32 * (L[o + k + 1]?.getD 0 + B32 * L[o + k + 2]?.getD 0)) := by
  have h1 := val_three h.len
  rw [h.high, Nat.mul_zero, Nat.add_zero, Nat.pow_add] at h1
  exact h1
theorem Knu.le_top {L bs : List Nat} {o k : Nat} (h : Knu L bs o k) : L[o + k + 2]?.getD 0 ≤ bs[k + 1]?.getD 0 := by
  refine Nat.le_of_lt_succ (Nat.lt_of_not_le fun hc => ?_)
  have h1 := h.vals
  have h2 := h.lt
  have h3 : val bs < B32 ^ (k + 1) * (bs[k + 1]?.getD 0 + 1) := by
    have e := val_two h.blen
    have e1 := take_lt h.lb k (by have := h.blen; omega)
    have e2 := limb_getD h.lb k
    have e3 : B32 ^ k * (bs[k]?.getD 0 + 1) ≤ B32 ^ k * B32 := Nat.mul_le_mul_left _ e2
    rw [Nat.pow_succ, Nat.mul_assoc, Nat.mul_add B32, Nat.mul_add (B32 ^ k), Nat.mul_one]
    rw [Nat.mul_add (B32 ^ k)] at e e3
    rw [Nat.mul_one] at e3
    omega
  have h4 : val bs * B32 ^ (o + 1) < B32 ^ (k + 1) * (bs[k + 1]?.getD 0 + 1) * B32 ^ (o + 1) := Nat.mul_lt_mul_of_pos_right h3 (Nat.pow_pos B32_pos)
  have h5 : B32 ^ (k + 1) * (bs[k + 1]?.getD 0 + 1) * B32 ^ (o + 1) = B32 ^ o * B32 ^ k * (B32 * (B32 * (bs[k + 1]?.getD 0 + 1))) := by
    rw [Nat.pow_succ, Nat.pow_succ]
    generalize B32 ^ k = P
    generalize B32 ^ o = R
    generalize bs[k + 1]?.getD 0 + 1 = t
    rw [Nat.mul_assoc P B32, Nat.mul_comm (P * (B32 * t)), Nat.mul_assoc R B32, Nat.mul_left_comm B32 P, Nat.mul_assoc R P]
  have h6 : B32 ^ o * B32 ^ k * (B32 * (B32 * (bs[k + 1]?.getD 0 + 1))) ≤ B32 ^ o * B32 ^ k * (L[o + k]?.getD 0 + B32 * (L[o + k + 1]?.getD 0 + B32 * L[o + k + 2]?.getD 0)) := by
    refine Nat.mul_le_mul_left _ ?_
    have e1 : B32 * (bs[k + 1]?.getD 0 + 1) ≤ B32 * L[o + k + 2]?.getD 0 := Nat.mul_le_mul_left _ hc
    have e2 : B32 * (B32 * (bs[k + 1]?.getD 0 + 1)) ≤ B32 * (L[o + k + 1]?.getD 0 + B32 * L[o + k + 2]?.getD 0) := Nat.mul_le_mul_left _ (by omega)
    omega
  omega
/-- the guess of a round -/
def knuG (L bs : List Nat) (o k : Nat) : Nat := guessN (L[o + k]?.getD 0 + B32 * (L[o + k + 1]?.getD 0 + B32 * L[o + k + 2]?.getD 0)) (bs[k]?.getD 0 + B32 * bs[k + 1]?.getD 0)
/-- the quotient's limb -/
def knuQ (L bs : List Nat) (o : Nat) : Nat := val L / (B32 ^ o * val bs)
theorem Knu.pos {L bs : List Nat} {o k : Nat} (h : Knu L bs o k) : 0 < B32 ^ o * val bs := by
  refine Nat.mul_pos (Nat.pow_pos B32_pos) ?_
  rw [val_two h.blen]
  have h1 := h.top
  have h2 : 0 < B32 ^ k * (bs[k]?.getD 0 + B32 * bs[k + 1]?.getD 0) := Nat.mul_pos (Nat.pow_pos B32_pos) (by unfold B32; omega)
  omega
theorem Knu.q_lt {L bs : List Nat} {o k : Nat} (h : Knu L bs o k) : knuQ L bs o < B32 := by
  refine Nat.div_lt_of_lt_mul ?_
  have := h.lt
  rw [Nat.pow_succ, Nat.mul_comm (val bs), Nat.mul_assoc, Nat.mul_comm B32, ← Nat.mul_assoc] at this
  exact this
theorem Knu.near {L bs : List Nat} {o k : Nat} (h : Knu L bs o k) : knuQ L bs o ≤ knuG L bs o k ∧ knuG L bs o k ≤ knuQ L bs o + 1 := by
  have h1 := h.vals
  have h2 := val_two h.blen
  have h3 := take_lt h.lb k (by have := h.blen; omega)
  have h4 := take_lt h.ll (o + k) (by have := h.len; omega)
  have h5 := h.top
  have h6 := h.lt
  rw [Nat.pow_add] at h4
  unfold knuQ knuG
  rw [h1, h2]
  refine guess_near (Nat.pow_pos B32_pos) (Nat.pow_pos B32_pos) ?_ h3 h4 ?_
  · have : B32 * 1 ≤ B32 * bs[k + 1]?.getD 0 := Nat.mul_le_mul_left _ (by omega)
    omega
  · rw [← h1, ← h2]
    rw [Nat.pow_succ, ← Nat.mul_assoc, Nat.mul_comm (val bs)] at h6
    exact h6
theorem row_high {xs R : List Nat} {m : Nat} (hab : ∀ j, m ≤ j → R[j]? = xs[j]?) : R.drop m = xs.drop m := by
  apply List.ext_getElem?
  intro i
  rw [List.getElem?_drop, List.getElem?_drop]
  exact hab _ (by omega)
theorem knu_arith {X Y Z D T q g bo cz : Nat} (hn1 : q ≤ g) (hn2 : g ≤ q + 1) (hq1 : q * D ≤ X) (hq2 : X < q * D + D) (hv : Y + g * D = X + T * bo) (hb : bo ≤ 1) (hY : Y < T) (had : Z + T * cz = Y + D) (hc : cz ≤ 1) (hZ : Z < T) :
    (bo = 0 → g = q ∧ Y + q * D = X) ∧ (bo ≠ 0 → g = q + 1 ∧ Z + q * D = X) := by
  rcases Nat.lt_or_ge q g with hlt | hge
  · obtain rfl : g = q + 1 := by omega
    rw [Nat.add_mul, Nat.one_mul] at hv
    refine ⟨fun e => ?_, fun e => ⟨rfl, ?_⟩⟩
    · subst e; omega
    · obtain rfl : bo = 1 := by omega
      rcases Nat.eq_zero_or_pos cz with e | e
      · subst e; omega
      · obtain rfl : cz = 1 := by omega
        omega
  · obtain rfl : g = q := by omega
    refine ⟨fun e => ⟨rfl, ?_⟩, fun e => ?_⟩
    · subst e; omega
    · obtain rfl : bo = 1 := by omega
      omega
theorem Knu.low {L bs : List Nat} {o k : Nat} (h : Knu L bs o k) (R : List Nat) (hR : Limbs R) (hRl : R.length = L.length) (hRd : R.drop (o + k + 3) = L.drop (o + k + 3)) : val R < B32 ^ (o + k + 3) := by
  have e1 := val_append (R.take (o + k + 3)) (R.drop (o + k + 3))
  rw [List.take_append_drop, hRd, h.high, Nat.mul_zero, Nat.add_zero] at e1
  rw [e1]
  exact take_lt hR _ (by rw [hRl]; exact h.len)
theorem Knu.pairs {L bs : List Nat} {o k : Nat} (h : Knu L bs o k) (n : Nat) : ∀ p ∈ limbPairs bs n, p.2 < B32 := fun p hp' => by
  obtain ⟨i, _, rfl⟩ := List.mem_map.1 hp'
  exact limb_getD h.lb i
theorem Knu.carry {L bs : List Nat} {o k : Nat} (h : Knu L bs o k) {g : Nat} (hg : g < B32) : (ttFold o g L (limbPairs bs (k + 3))).2.1 = 0 := by
  have h1 := (ttFold_limbs (o := o) hg h.ll (limbPairs bs (k + 2)) (h.pairs _)).2.1
  have h2 := h.blen
  rw [limbPairs_succ, ttFold_snoc]
  simp only [ttStep]
  rw [List.getElem?_eq_none (by omega), Option.getD_none, Nat.mul_zero, Nat.add_zero]
  exact Nat.div_eq_of_lt h1
theorem Knu.tt {L bs : List Nat} {o k : Nat} (h : Knu L bs o k) {g : Nat} (hg : g < B32) :
    val (ttFold o g L (limbPairs bs (k + 3))).1 + g * (B32 ^ o * val bs) = val L + B32 ^ (o + k + 3) * (ttFold o g L (limbPairs bs (k + 3))).2.2 ∧ val (ttFold o g L (limbPairs bs (k + 3))).1 < B32 ^ (o + k + 3) := by
  have hl := h.len
  have hb := h.blen
  have hv := ttFold_val (o := o) hg h.ll h.lb (k + 3) (by omega)
  rw [h.carry hg, Nat.zero_add, List.take_of_length_le (show bs.length ≤ k + 3 by omega), Nat.mul_left_comm (B32 ^ o)] at hv
  refine ⟨hv, h.low _ (ttFold_limbs (o := o) hg h.ll _ (h.pairs _)).1 (ttFold_length _ _ _ _) (row_high (fun j hj => ttFold_above o g L bs (k + 3) j hj))⟩
theorem Knu.ad {L bs : List Nat} {o k : Nat} (h : Knu L bs o k) {g : Nat} (hg : g < B32) (R : List Nat) (hR : R = (ttFold o g L (limbPairs bs (k + 3))).1) :
    val (adFold o R (limbPairs bs (k + 3))).1 + B32 ^ (o + k + 3) * (adFold o R (limbPairs bs (k + 3))).2 = val R + B32 ^ o * val bs ∧ (adFold o R (limbPairs bs (k + 3))).2 ≤ 1 ∧ val (adFold o R (limbPairs bs (k + 3))).1 < B32 ^ (o + k + 3) := by
  have hl := h.len
  have hb := h.blen
  have t1 : Limbs R := by rw [hR]; exact (ttFold_limbs (o := o) hg h.ll _ (h.pairs _)).1
  have tl : R.length = L.length := by rw [hR]; exact ttFold_length _ _ _ _
  have ta : R.drop (o + k + 3) = L.drop (o + k + 3) := by rw [hR]; exact row_high (fun j hj => ttFold_above o g L bs (k + 3) j hj)
  have hv := adFold_val (o := o) (xs := R) (ys := bs) (k + 3) (by omega)
  rw [List.take_of_length_le (show bs.length ≤ k + 3 by omega)] at hv
  obtain ⟨a1, a2⟩ := adFold_limbs (o := o) t1 (limbPairs bs (k + 3)) (h.pairs _)
  exact ⟨hv, a2, h.low _ a1 ((adFold_length _ _ _).trans tl) ((row_high (fun j hj => adFold_above o R bs (k + 3) j hj)).trans ta)⟩
/-- where no borrow is left, the guess was the limb; else it was one more, and adding back mends it -/
theorem Knu.round {L bs : List Nat} {o k : Nat} (h : Knu L bs o k) :
    ((ttFold o (knuG L bs o k) L (limbPairs bs (k + 3))).2.2 = 0 → knuG L bs o k = knuQ L bs o ∧ val (ttFold o (knuG L bs o k) L (limbPairs bs (k + 3))).1 + B32 ^ o * (knuQ L bs o * val bs) = val L) ∧
    ((ttFold o (knuG L bs o k) L (limbPairs bs (k + 3))).2.2 ≠ 0 → knuG L bs o k = knuQ L bs o + 1 ∧ val (adFold o (ttFold o (knuG L bs o k) L (limbPairs bs (k + 3))).1 (limbPairs bs (k + 3))).1 + B32 ^ o * (knuQ L bs o * val bs) = val L) := by
  have hg : knuG L bs o k < B32 := guessN_lt _ _
  have hn := h.near
  have hD := h.pos
  have hq1 : knuQ L bs o * (B32 ^ o * val bs) ≤ val L := Nat.div_mul_le_self _ _
  have hq2 : val L < (knuQ L bs o + 1) * (B32 ^ o * val bs) := by
    rw [Nat.mul_comm]; exact Nat.lt_mul_div_succ _ hD
  rw [Nat.add_mul, Nat.one_mul] at hq2
  obtain ⟨v1, v2⟩ := h.tt hg
  obtain ⟨w1, w2, w3⟩ := h.ad hg _ rfl
  have hb := (ttFold_limbs (o := o) hg h.ll (limbPairs bs (k + 3)) (h.pairs _)).2.2
  rw [Nat.mul_left_comm (B32 ^ o)]
  exact knu_arith hn.1 hn.2 hq1 hq2 v1 hb v2 w1 w2 w3
/-- the numbers ahead of a round and behind it -/
theorem Knu.next {L bs Q R : List Nat} {o k A0 : Nat} (h : Knu L bs o k) (hQ : o < Q.length) (hA : val L + val bs * (B32 ^ (o + 1) * val (Q.drop (o + 1))) = A0) (hR : val R + B32 ^ o * (knuQ L bs o * val bs) = val L) :
    val R + val bs * (B32 ^ o * val ((Q.set o (knuQ L bs o)).drop o)) = A0 ∧ val R < val bs * B32 ^ o := by
  have hD := h.pos
  have hq2 : val L < (knuQ L bs o + 1) * (B32 ^ o * val bs) := by
    rw [Nat.mul_comm]; exact Nat.lt_mul_div_succ _ hD
  generalize knuQ L bs o = q at *
  constructor
  · rw [val_drop_succ _ o (by simpa using hQ), List.getElem?_set_self hQ, Option.getD_some, List.drop_set_of_lt (by omega)]
    rw [Nat.pow_succ, Nat.mul_assoc (B32 ^ o) B32] at hA
    rw [Nat.mul_add (B32 ^ o), Nat.mul_add (val bs)]
    have e : val bs * (B32 ^ o * q) = B32 ^ o * (q * val bs) := by
      rw [Nat.mul_left_comm, Nat.mul_comm q]
    omega
  · rw [Nat.add_mul, Nat.one_mul, Nat.mul_left_comm q] at hq2
    rw [Nat.mul_comm (val bs)]
    omega

end Go.Proofs.YtifngjfhgehakaaDoor

/- num.takeTimes -/
namespace Go.Proofs.YtifngjfhgehakaaDoor
open Go Go.RowKit Go.Shelf
attribute [local go_sem] Oper.semAt_some

theorem Chg.narrow {S : Nat → Prop} {A W : World} (h : Chg (fun k => S k ∨ A.heap.size ≤ k) A W) : Chg S A W := ⟨h.os, h.tape, h.output, h.size, fun k hk hs => h.block k hk (by rintro (e | e); exact hs e; omega)⟩
theorem Chg.step {S S2 : Nat → Prop} {A W W' : World} (h : Chg S A W) (k : Chg S2 W W') (hs : ∀ b, S2 b → S b ∨ A.heap.size ≤ b) : Chg S A W' := Chg.narrow ((h.mono fun _ e => .inl e).trans (k.mono hs))
theorem ownFrom_chg {β : Type} {B : Nat} {S : Nat → Prop} {w : World} (hB : w.heap.size ≤ B) : OwnFrom B (fun (_ : β) W => Chg S w W) := fun _ _ _ _ h hg hr => Chg.grown h hg (fun k e => .inr (Nat.le_trans hB (hr k e).1))
theorem index_win (b o n cap i : Nat) (hi : i < n) (ki : IntKind) (W : World) : (Instr.indexAt 22 (.slice (some ⟨b, o, none⟩) n cap) (.int ki (i : Int))).run Tryd.prog W = .ok (.pointer (some ⟨b, o + i, none⟩)) W := index_lookAt _ _ und_limbs size_limb _ _ _ _ hi ⟨_, _, rfl⟩ _ _
theorem enc32_set (xs : List Nat) (i x : Nat) : enc32 (xs.set i x) = (enc32 xs).set i (.int .u32 (x : Int)) := by simp [enc32, List.map_set]
theorem enc32_at {xs : List Nat} {i : Nat} (h : i < xs.length) : (enc32 xs)[i]? = some (.int .u32 ((xs[i]?.getD 0 : Nat) : Int)) := by simp [enc32, List.getElem?_eq_getElem h]

set_option maxHeartbeats 2000000 in
set_option maxRecDepth 100000 in
theorem takeTimes_any (vb : Value) (bs L : List Nat) (g n o B0 cap : Nat) (w : World) (hrow : RowAt w B0 72 (enc32 L)) (hL : Limbs L) (hb : Reads .u32 w vb bs) (hlb : Limbs bs) (hn : o + n ≤ L.length) (hn2 : n ≤ 200000)
    (hbB : ∀ a m c, vb = .slice (some a) m c → bs ≠ [] → a.block < B0) (hg : g < B32) :
    Calls Tryd.prog 128 #[.slice (some ⟨B0, o, none⟩) n cap, vb, .int .u32 (g : Int)] w fun e w' => Chg (fun k => k = B0) w w' ∧ RowAt w' B0 72 (enc32 (ttFold o g L (limbPairs bs n)).1) ∧ e = .returned (.bool (decide (0 < (ttFold o g L (limbPairs bs n)).2.2))) := by
  have hB0 := hrow.lt
  obtain ⟨ab, cb, rfl, hcb, hmb⟩ := hb.form
  unfold maxLen at hmb
  have hg2 := hg
  unfold B32 at hg2
  refine (callsIn_wide (n := 9)).1 ?_
  refine callsIn_of_wp_marks Tryd.func128 rfl trivial ?_ rfl
  simp only [Tryd.ntmps128, List.size_toArray, List.length_cons, List.length_nil, Nat.reduceAdd, Nat.reduceSub, Array.replicate_succ, Array.replicate_zero, List.push_toArray, List.append_toArray, List.nil_append, List.cons_append]
  gi_wp2_with (refine ⟨trivial, ?_⟩; gi_at_call 99; refine (callsIn_wide.2 (limbs_any _ _ _ ⟨_, _, _, rfl⟩)).mono ?_; rintro e w' ⟨rfl, rfl⟩)
  have b0 : Below w.heap.size w w := Below.refl _ _
  have b6 := (((((b0.alloc (Nat.le_refl _) (.cells #[.slice (some ⟨B0, o, none⟩) n cap] 22)).alloc (by simp) (.cells #[.int .u32 (g : Int)] 72)).alloc (by simp; omega) (.cells #[.int .u64 0] 79)).alloc (by simp; omega) (.cells #[.int .u64 0] 79)).alloc (by simp; omega) (.cells #[.slice ab bs.length cb] 22)).alloc (by simp; omega) (.cells #[.int .i64 (n : Int)] 3)
  refine range_limbs 9 10 (w.heap.size + 5) (w.heap.size + 4) B0 n (.slice ab bs.length cb) bs (by exact rfl) hlb (by omega) (by simp) (by simp) (by simp; omega) ?m1 ?m2 (hb.below b6) hbB
    (fun pre W => RowAt W B0 72 (enc32 (ttFold o g L (pre.map (·.1))).1) ∧ Boxed W (w.heap.size + 2) 79 (.int .u64 ((ttFold o g L (pre.map (·.1))).2.1 : Int)) ∧ Boxed W (w.heap.size + 3) 79 (.int .u64 ((ttFold o g L (pre.map (·.1))).2.2 : Int)) ∧
      Boxed W (w.heap.size + 4) 22 (.slice ab bs.length cb) ∧ Boxed W w.heap.size 22 (.slice (some ⟨B0, o, none⟩) n cap) ∧ Boxed W (w.heap.size + 1) 72 (.int .u32 (g : Int)) ∧ Chg (fun k => k = B0) w W)
    (fun _ _ _ => False)
    ((ownFrom_rowAt _ _ _).and ((ownFrom_boxed _ _ _).and ((ownFrom_boxed _ _ _).and ((ownFrom_boxed _ _ _).and ((ownFrom_boxed _ _ _).and ((ownFrom_boxed _ _ _).and (ownFrom_chg ?mB)))))))
    (fun _ _ _ _ _ h _ _ => h.elim) ?start ?assign ?body ?done ?stop
  case mB => simp; omega
  case m1 => go_simp
  case m2 => go_simp
  case start =>
    refine ⟨?_, ?_, ?_, ?_, ?_, ?_, ?_⟩
    · exact (b6.block B0 hB0).trans hrow
    · exact Boxed.at ((((Boxed.new _ _ _).alloc _).alloc _).alloc _) (by simp)
    · exact Boxed.at (((Boxed.new _ _ _).alloc _).alloc _) (by simp)
    · exact Boxed.at ((Boxed.new _ _ _).alloc _) (by simp)
    · exact (((((Boxed.new _ _ _).alloc _).alloc _).alloc _).alloc _).alloc _
    · exact Boxed.at (((((Boxed.new _ _ _).alloc _).alloc _).alloc _).alloc _) (by simp)
    · exact (Chg.ofBelow b6).mono (fun k hk => hk) |> fun h => Chg.narrow (h.mono fun k hk => .inr hk)
  case assign =>
    intro l x W K hK
    gi_wp2
    exact hK
  case body =>
    rintro l pre x W ⟨rv, bc, bd, bs1, bl, bg, bw⟩ hlt
    have hwB := bw.size
    obtain ⟨⟨i, y⟩, hi1, hi2⟩ := x
    have hps : ∀ p ∈ pre.map (·.1), p.2 < B32 := fun p hp => by
      obtain ⟨q, _, rfl⟩ := List.mem_map.1 hp
      exact q.2.2
    obtain ⟨hr1, hc1, hd1⟩ := ttFold_limbs (o := o) hg hL (pre.map (·.1)) hps
    have hlen := ttFold_length o g L (pre.map (·.1))
    have hnext := ttFold_snoc o g L (pre.map (·.1)) (i, y)
    have hmap : (pre ++ [(⟨(i, y), hi1, hi2⟩ : IdxLimb n)]).map (·.1) = pre.map (·.1) ++ [(i, y)] := by simp
    generalize hst : ttFold o g L (pre.map (·.1)) = st at *
    obtain ⟨r, c, d⟩ := st
    simp only [ttStep] at hnext
    dsimp only at *
    clear hst hps
    obtain ⟨x, hx⟩ : ∃ x, r[o + i]?.getD 0 = x := ⟨_, rfl⟩
    have hxB := limb_getD hr1 (o + i)
    rw [hx] at hnext hxB
    have hcell : W.cell? ⟨B0, o + i, none⟩ = some (.int .u32 (x : Int)) := by
      rw [rv.cell, enc32_at (by omega), hx]
    have hfz := rv.frozen (o + i)
    obtain ⟨P, hP⟩ : ∃ P, g * y = P := ⟨_, rfl⟩
    obtain ⟨T, hT⟩ : ∃ T, c + P = T := ⟨_, rfl⟩
    have hTb : T < B32 * B32 := by rw [← hT, ← hP]; exact mul_limb_lt hc1 hg hi2
    rw [hP, hT] at hnext
    have hmul : IntKind.u64.wrap ((g : Int) * (y : Int)) = (P : Int) := by
      rw [← Int.natCast_mul, hP, IntKind.wrap_u64]; unfold B32 at *; omega
    have hs1 : IntKind.u64.wrap ((c : Int) + (P : Int)) = (T : Int) := by rw [IntKind.wrap_u64]; unfold B32 at *; omega
    clear hP hT hx
    obtain ⟨cl, hcl⟩ : ∃ cl, T % B32 = cl := ⟨_, rfl⟩
    obtain ⟨ch, hch⟩ : ∃ ch, T / B32 = ch := ⟨_, rfl⟩
    have hand : bits BinOp.and IntKind.u64 (T : Int) 4294967295 = (cl : Int) := by
      rw [show (4294967295 : Int) = ((2 ^ 32 - 1 : Nat) : Int) by decide, bits_and_u64_nat _ _ (by unfold B32 at *; omega) (by omega), Nat.and_two_pow_sub_one_eq_mod, ← hcl]; rfl
    have hdv : (T : Int) / 4294967296 = (ch : Int) := by rw [← hch]; unfold B32; omega
    have hclb : cl < 4294967296 := by rw [← hcl]; exact Nat.mod_lt _ (by decide)
    have hchb : ch < 4294967296 := by rw [← hch]; unfold B32 at *; omega
    rw [hcl, hch] at hnext
    clear hcl hch
    unfold B32 at hi2 hxB hc1 hTb
    obtain ⟨U, hU⟩ : ∃ U, IntKind.u64.wrap (IntKind.u64.wrap (IntKind.u64.wrap (x : Int) - IntKind.u64.wrap (cl : Int)) - (d : Int)) = U := ⟨_, rfl⟩
    obtain ⟨hw1, hw2⟩ := minus_word hxB hclb hd1 hU
    have hwx : IntKind.u64.wrap (x : Int) = (x : Int) := by rw [IntKind.wrap_u64]; omega
    have hwc : IntKind.u64.wrap (cl : Int) = (cl : Int) := by rw [IntKind.wrap_u64]; omega
    have hwg : IntKind.u64.wrap (g : Int) = (g : Int) := by rw [IntKind.wrap_u64]; omega
    have hwy : IntKind.u64.wrap (y : Int) = (y : Int) := by rw [IntKind.wrap_u64]; omega
    rw [hwx, hwc] at hU
    have HN := Lib.hid hnext
    have HM := Lib.hid hmap
    have HL := Lib.hid hlen
    have HW := Lib.hid (And.intro hw1 hw2)
    clear hnext hmap hlen hw1 hw2
    have hix := index_win B0 o n cap i hi1 .i64
    have hbc := bc.cell
    have hfc := bc.frozen
    have hbd := bd.cell
    have hfd := bd.frozen
    have hbl := bl.cell
    have hbg := bg.cell
    simp only [boundFrame]
    gi_wp2_with fail
    refine region_tail (.inr ⟨_, rfl⟩) 10 (by kernel_rfl) (by kernel_rfl) ?_
    simp only [List.take_succ_cons, List.take_zero, List.drop_succ_cons, List.drop_zero]
    repeat still_step
    refine wpStill_nil ?_
    change wpListIn _ _ _ _ _ _ _ (W.setCell _ _).drew
    gi_wp2_with fail
    have hF : Chg (fun k => k = B0 ∨ k = w.heap.size + 2 ∨ k = w.heap.size + 3) W _ := (((((Chg.refl _ W).setCell (p := ⟨w.heap.size + 2, 0, none⟩) (.inl (.inr (.inl rfl))) (.int .u64 (T : Int))).drew).setCell (p := ⟨B0, o + i, none⟩) (.inl (.inl rfl)) (.int .u32 (IntKind.u32.wrap U))).setCell (p := ⟨w.heap.size + 3, 0, none⟩) (.inl (.inr (.inr rfl))) (.int .u64 (U / 9223372036854775808))).setCell (p := ⟨w.heap.size + 2, 0, none⟩) (.inl (.inr (.inl rfl))) (.int .u64 (ch : Int))
    have hbel := hF.below (B := B0) (by rintro k (e | e | e) <;> omega) (by omega)
    have f4 := hF.boxed bs1 (by omega)
    refine ⟨hF.keepsFrom _ ?_, Kp0.boxed hbel bs1 f4, ?_, ?_, ?_, f4, hF.boxed bl (by omega), hF.boxed bg (by omega), bw.step hF (by rintro b (e | e | e) <;> omega)⟩
    · rintro k (rfl | rfl | rfl)
      · exact rv.isCells
      · exact Boxed.isCells bc
      · exact Boxed.isCells bd
    · rw [HM.out, HN.out, enc32_set, HW.out.1]
      exact RowAt.other (RowAt.other (RowAt.set (RowAt.drew (rv.other (by simp; omega) _)) (o + i) _) (by simp; omega) _) (by simp; omega) _
    · rw [HM.out, HN.out]
      exact Boxed.set _ (Boxed.otherAt (Boxed.otherAt (Boxed.drew (Boxed.set _ bc)) (by simp; omega) _) (by simp) _)
    · rw [HM.out, HN.out, HW.out.2]
      exact Boxed.otherAt (Boxed.set _ (Boxed.otherAt (Boxed.drew (Boxed.otherAt bd (by simp) _)) (by simp; omega) _)) (by simp) _
  case done =>
    rintro D ys W hD hys ⟨rv, bc, bd, bs1, bl, bg, bw⟩ hK
    rw [hys] at rv bd
    have hlim := (ttFold_limbs (o := o) hg hL (limbPairs bs n) (fun p hp => by
      obtain ⟨q, _, rfl⟩ := List.mem_map.1 (hys ▸ hp)
      exact q.2.2)).2.2
    clear hys bc
    obtain ⟨st, hst⟩ : ∃ st, ttFold o g L (limbPairs bs n) = st := ⟨_, rfl⟩
    rw [hst] at rv bd hlim
    have HS := Lib.hid hst
    clear hst
    obtain ⟨r, c, d⟩ := st
    dsimp only at *
    have hbd := bd.cell
    gi_wp2_with fail
    refine ⟨by simp, .inl ⟨_, _, rfl, run_takeDeferred hK, ?_⟩⟩
    have hD2 : w.heap.size + 6 ≤ D := by simpa using hD
    have hbk := belowK_b (w := w) (Nat.le_refl _) W D _ (.deferred none) (by omega) hK rfl rfl
    refine ⟨_, results_tmp rfl _ _ _, bw.step (Chg.ofBelow hbk) (fun b hb => .inr hb), ?_, ?_⟩
    · rw [HS.out]
      exact (World.putObj_heap_other (by omega)).trans rv
    · rw [HS.out]
      simp
  case stop =>
    rintro D c pre W _ _ h _
    exact h.elim

end Go.Proofs.YtifngjfhgehakaaDoor

/- num.addAt -/
namespace Go.Proofs.YtifngjfhgehakaaDoor
open Go Go.RowKit Go.Shelf
attribute [local go_sem] Oper.semAt_some

/-- a round has returned: nothing is left to add -/
def AdStop (w : World) (O B0 : Nat) (L : List Nat) (m : Nat) (c : Code) (ps : List (Nat × Nat)) (W : World) : Prop :=
  c = .ret ∧ (∃ pre' p, ps = pre' ++ [p] ∧ m ≤ p.1 ∧ (adFold O L pre').2 = 0 ∧ RowAt W B0 72 (enc32 (adFold O L pre').1)) ∧ Chg (fun k => k = B0) w W
theorem adStop_own (B : Nat) {w : World} (hB : w.heap.size ≤ B) (O B0 : Nat) (L : List Nat) (m : Nat) (c : Code) {α : Type} (f : α → List (Nat × Nat)) : OwnFrom B (fun s W => AdStop w O B0 L m c (f s) W) :=
  (ownFrom_pure _ _).and ((ownFrom_ex fun _ => ownFrom_ex fun _ => (ownFrom_pure _ _).and ((ownFrom_pure _ _).and ((ownFrom_pure _ _).and (ownFrom_rowAt _ _ _)))).and (ownFrom_chg hB))

set_option maxHeartbeats 2000000 in
set_option maxRecDepth 100000 in
theorem addAt_any (vb : Value) (bs L : List Nat) (la at' n o B0 cap : Nat) (w : World) (hrow : RowAt w B0 72 (enc32 L)) (hL : Limbs L) (hb : Reads .u32 w vb bs) (hlb : Limbs bs) (hla : la = at' + n) (hn : o + la ≤ L.length) (hn2 : la ≤ 200000)
    (hbB : ∀ a m c, vb = .slice (some a) m c → bs ≠ [] → a.block < B0) :
    Calls Tryd.prog 124 #[.slice (some ⟨B0, o, none⟩) la cap, vb, .int .i64 (at' : Int)] w fun e w' => Chg (fun k => k = B0) w w' ∧ RowAt w' B0 72 (enc32 (adFold (o + at') L (limbPairs bs n)).1) ∧ ∃ v, e = .returned v := by
  have hB0 := hrow.lt
  obtain ⟨ab, cb, rfl, hcb, hmb⟩ := hb.form
  unfold maxLen at hmb
  have hsub : (la : Int) - (at' : Int) = (n : Int) := by omega
  have hla1 : at' + n ≤ la := by omega
  clear hla
  refine (callsIn_wide (n := 9)).1 ?_
  refine callsIn_of_wp_marks Tryd.func124 rfl trivial ?_ rfl
  simp only [Tryd.ntmps124, List.size_toArray, List.length_cons, List.length_nil, Nat.reduceAdd, Nat.reduceSub, Array.replicate_succ, Array.replicate_zero, List.push_toArray, List.append_toArray, List.nil_append, List.cons_append]
  gi_wp2_with (refine ⟨trivial, ?_⟩; gi_at_call 99; refine (callsIn_wide.2 (limbs_any _ _ _ ⟨_, _, _, rfl⟩)).mono ?_; rintro e w' ⟨rfl, rfl⟩)
  have b0 : Below w.heap.size w w := Below.refl _ _
  have b6 := (((((b0.alloc (Nat.le_refl _) (.cells #[.slice (some ⟨B0, o, none⟩) la cap] 22)).alloc (by simp) (.cells #[.slice ab bs.length cb] 22)).alloc (by simp; omega) (.cells #[.int .i64 (at' : Int)] 3)).alloc (by simp; omega) (.cells #[.int .u64 0] 79)).alloc (by simp; omega) (.cells #[.slice ab bs.length cb] 22)).alloc (by simp; omega) (.cells #[.int .i64 (n : Int)] 3)
  refine range_limbs 7 8 (w.heap.size + 5) (w.heap.size + 4) B0 n (.slice ab bs.length cb) bs (by exact rfl) hlb (by omega) (by simp) (by simp) (by simp; omega) ?m1 ?m2 (hb.below b6) hbB
    (fun pre W => RowAt W B0 72 (enc32 (adFold (o + at') L (pre.map (·.1))).1) ∧ Boxed W (w.heap.size + 3) 79 (.int .u64 ((adFold (o + at') L (pre.map (·.1))).2 : Int)) ∧
      Boxed W (w.heap.size + 4) 22 (.slice ab bs.length cb) ∧ Boxed W w.heap.size 22 (.slice (some ⟨B0, o, none⟩) la cap) ∧ Boxed W (w.heap.size + 1) 22 (.slice ab bs.length cb) ∧ Boxed W (w.heap.size + 2) 3 (.int .i64 (at' : Int)) ∧ Chg (fun k => k = B0) w W)
    (fun c pre W => AdStop w (o + at') B0 L bs.length c (pre.map (·.1)) W)
    ((ownFrom_rowAt _ _ _).and ((ownFrom_boxed _ _ _).and ((ownFrom_boxed _ _ _).and ((ownFrom_boxed _ _ _).and ((ownFrom_boxed _ _ _).and ((ownFrom_boxed _ _ _).and (ownFrom_chg ?mB)))))))
    (fun c => adStop_own _ ?mB2 _ _ _ _ _ _) ?start ?assign ?body ?done ?stop
  case mB => simp; omega
  case mB2 => simp; omega
  case m1 => go_simp
  case m2 => go_simp
  case start =>
    refine ⟨?_, ?_, ?_, ?_, ?_, ?_, ?_⟩
    · exact (b6.block B0 hB0).trans hrow
    · exact Boxed.at (((Boxed.new _ _ _).alloc _).alloc _) (by simp)
    · exact Boxed.at ((Boxed.new _ _ _).alloc _) (by simp)
    · exact (((((Boxed.new _ _ _).alloc _).alloc _).alloc _).alloc _).alloc _
    · exact Boxed.at (((((Boxed.new _ _ _).alloc _).alloc _).alloc _).alloc _) (by simp)
    · exact Boxed.at ((((Boxed.new _ _ _).alloc _).alloc _).alloc _) (by simp)
    · exact (Chg.ofBelow b6).mono (fun k hk => hk) |> fun h => Chg.narrow (h.mono fun k hk => .inr hk)
  case assign =>
    intro l x W K hK
    gi_wp2
    exact hK
  case body =>
    rintro l pre x W ⟨rv, bc, bs1, bl, bb, bt, bw⟩ hlt
    have hwB := bw.size
    obtain ⟨⟨i, y⟩, hi1, hi2⟩ := x
    have hps : ∀ p ∈ pre.map (·.1), p.2 < B32 := fun p hp => by
      obtain ⟨q, _, rfl⟩ := List.mem_map.1 hp
      exact q.2.2
    obtain ⟨hr1, hc1⟩ := adFold_limbs (o := o + at') hL (pre.map (·.1)) hps
    have hlen := adFold_length (o + at') L (pre.map (·.1))
    have hnext := adFold_snoc (o + at') L (pre.map (·.1)) (i, y)
    have hmap : (pre ++ [(⟨(i, y), hi1, hi2⟩ : IdxLimb n)]).map (·.1) = pre.map (·.1) ++ [(i, y)] := by simp
    obtain ⟨st, hst⟩ : ∃ st, adFold (o + at') L (pre.map (·.1)) = st := ⟨_, rfl⟩
    rw [hst] at rv bc hr1 hc1 hlen hnext
    have HS := Lib.hid hst
    clear hst hps
    obtain ⟨r, c⟩ := st
    simp only [adStep] at hnext
    dsimp only at *
    have hbc := bc.cell
    have hfc := bc.frozen
    have hbl := bl.cell
    have hbb := bb.cell
    have hbt := bt.cell
    have HN := Lib.hid hnext
    have HM := Lib.hid hmap
    have HL := Lib.hid hlen
    clear hnext hmap hlen
    by_cases hret : bs.length ≤ i ∧ c = 0
    · obtain ⟨h1, rfl⟩ := hret
      simp only [boundFrame]
      gi_wp2_with fail
      refine ⟨KeepsFrom.refl _ _, rfl, ⟨pre.map (·.1), (i, y), HM.out, h1, ?_, ?_⟩, bw⟩
      · rw [HS.out]
      · rw [HS.out]; exact rv
    · have hgo : ¬ bs.length ≤ i ∨ (bs.length ≤ i ∧ ¬ (c : Int) = 0) := by omega
      have HN2 := HN.out
      have HLo := HL.out
      obtain ⟨x, hx⟩ : ∃ x, r[o + at' + i]?.getD 0 = x := ⟨_, rfl⟩
      have hxB := limb_getD hr1 (o + at' + i)
      rw [hx] at HN2 hxB
      have hcell : W.cell? ⟨B0, o + (at' + i), none⟩ = some (.int .u32 (x : Int)) := by
        rw [rv.cell, enc32_at (by omega), ← Nat.add_assoc, hx]
      have hfz := rv.frozen (o + (at' + i))
      have hix := index_win B0 o la cap (at' + i) (by omega) .i64
      rw [Int.natCast_add] at hix
      have hwi : IntKind.i64.wrap ((at' : Int) + (i : Int)) = (at' : Int) + (i : Int) := by rw [IntKind.wrap_i64]; omega
      obtain ⟨T, hT⟩ : ∃ T, c + (x + y) = T := ⟨_, rfl⟩
      rw [hT] at HN2
      unfold B32 at hi2 hxB
      have hs0 : IntKind.u64.wrap ((x : Int) + (y : Int)) = (x : Int) + (y : Int) := by rw [IntKind.wrap_u64]; omega
      have hs1 : IntKind.u64.wrap ((c : Int) + ((x : Int) + (y : Int))) = (T : Int) := by rw [IntKind.wrap_u64]; omega
      have hwx : IntKind.u64.wrap (x : Int) = (x : Int) := by rw [IntKind.wrap_u64]; omega
      have hwy : IntKind.u64.wrap (y : Int) = (y : Int) := by rw [IntKind.wrap_u64]; omega
      obtain ⟨cl, hcl⟩ : ∃ cl, T % B32 = cl := ⟨_, rfl⟩
      obtain ⟨ch, hch⟩ : ∃ ch, T / B32 = ch := ⟨_, rfl⟩
      have hwl : IntKind.u32.wrap (T : Int) = (cl : Int) := by rw [IntKind.wrap_u32', ← hcl]; unfold B32; omega
      have hdv : (T : Int) / 4294967296 = (ch : Int) := by rw [← hch]; unfold B32; omega
      rw [hcl, hch] at HN2
      clear hT hx hcl hch
      have HN3 := Lib.hid HN2
      clear HN2 HLo
      simp only [boundFrame]
      rcases hgo with hgo | ⟨hgo, hgo2⟩
      · gi_wp2_with fail
        refine region_tail (.inr ⟨_, rfl⟩) 12 (by kernel_rfl) (by kernel_rfl) ?_
        simp only [List.take_succ_cons, List.take_zero, List.drop_succ_cons, List.drop_zero]
        repeat still_step
        refine wpStill_nil ?_
        change wpListIn _ _ _ _ _ _ _ W.drew
        gi_wp2_with fail
        have hF : Chg (fun k => k = B0 ∨ k = w.heap.size + 3) W _ := ((((Chg.refl _ W).drew).setCell (p := ⟨w.heap.size + 3, 0, none⟩) (.inl (.inr rfl)) (.int .u64 (T : Int))).setCell (p := ⟨B0, o + (at' + i), none⟩) (.inl (.inl rfl)) (.int .u32 (cl : Int))).setCell (p := ⟨w.heap.size + 3, 0, none⟩) (.inl (.inr rfl)) (.int .u64 (ch : Int))
        have hbel := hF.below (B := B0) (by rintro k (e | e) <;> omega) (by omega)
        have f4 := hF.boxed bs1 (by omega)
        refine ⟨hF.keepsFrom _ ?_, Kp0.boxed hbel bs1 f4, ?_, ?_, f4, hF.boxed bl (by omega), hF.boxed bb (by omega), hF.boxed bt (by omega), bw.step hF (by rintro b (e | e) <;> omega)⟩
        · rintro k (rfl | rfl)
          · exact rv.isCells
          · exact Boxed.isCells bc
        · rw [HM.out, HN3.out, enc32_set, Nat.add_assoc o at' i]
          exact RowAt.other (a := ⟨w.heap.size + 3, 0, none⟩) (RowAt.set (RowAt.other (a := ⟨w.heap.size + 3, 0, none⟩) (RowAt.drew rv) (show B0 ≠ w.heap.size + 3 by omega) _) (o + (at' + i)) _) (show B0 ≠ w.heap.size + 3 by omega) _
        · rw [HM.out, HN3.out]
          exact Boxed.set _ (Boxed.otherAt (Boxed.set _ (Boxed.drew bc)) (by simp; omega) _)
      · gi_wp2_with fail
        refine region_tail (.inr ⟨_, rfl⟩) 12 (by kernel_rfl) (by kernel_rfl) ?_
        simp only [List.take_succ_cons, List.take_zero, List.drop_succ_cons, List.drop_zero]
        repeat still_step
        refine wpStill_nil ?_
        change wpListIn _ _ _ _ _ _ _ W.drew
        gi_wp2_with fail
        have hF : Chg (fun k => k = B0 ∨ k = w.heap.size + 3) W _ := ((((Chg.refl _ W).drew).setCell (p := ⟨w.heap.size + 3, 0, none⟩) (.inl (.inr rfl)) (.int .u64 (T : Int))).setCell (p := ⟨B0, o + (at' + i), none⟩) (.inl (.inl rfl)) (.int .u32 (cl : Int))).setCell (p := ⟨w.heap.size + 3, 0, none⟩) (.inl (.inr rfl)) (.int .u64 (ch : Int))
        have hbel := hF.below (B := B0) (by rintro k (e | e) <;> omega) (by omega)
        have f4 := hF.boxed bs1 (by omega)
        refine ⟨hF.keepsFrom _ ?_, Kp0.boxed hbel bs1 f4, ?_, ?_, f4, hF.boxed bl (by omega), hF.boxed bb (by omega), hF.boxed bt (by omega), bw.step hF (by rintro b (e | e) <;> omega)⟩
        · rintro k (rfl | rfl)
          · exact rv.isCells
          · exact Boxed.isCells bc
        · rw [HM.out, HN3.out, enc32_set, Nat.add_assoc o at' i]
          exact RowAt.other (a := ⟨w.heap.size + 3, 0, none⟩) (RowAt.set (RowAt.other (a := ⟨w.heap.size + 3, 0, none⟩) (RowAt.drew rv) (show B0 ≠ w.heap.size + 3 by omega) _) (o + (at' + i)) _) (show B0 ≠ w.heap.size + 3 by omega) _
        · rw [HM.out, HN3.out]
          exact Boxed.set _ (Boxed.otherAt (Boxed.set _ (Boxed.drew bc)) (by simp; omega) _)
  case done =>
    rintro D ys W hD hys ⟨rv, bc, bs1, bl, bb, bt, bw⟩ hK
    rw [hys] at rv
    clear hys bc
    gi_wp2_with fail
    refine ⟨by simp, .inl ⟨_, _, rfl, run_takeDeferred hK, ?_⟩⟩
    have hD2 : w.heap.size + 6 ≤ D := by simpa using hD
    have hbk := belowK_b (w := w) (Nat.le_refl _) W D _ (.deferred none) (by omega) hK rfl rfl
    refine ⟨_, results_none rfl _ _ _, bw.step (Chg.ofBelow hbk) (fun b hb => .inr hb), ?_, ⟨_, rfl⟩⟩
    exact (World.putObj_heap_other (by omega)).trans rv
  case stop =>
    rintro D c pre W hD hpf ⟨rfl, ⟨pre', p, hpp, hp1, hc0, rv⟩, bw⟩ hK
    gi_wp2
    refine ⟨by simp, .inl ⟨_, _, rfl, run_takeDeferred hK, ?_⟩⟩
    have hD2 : w.heap.size + 6 ≤ D := by simpa using hD
    have hbk := belowK_b (w := w) (Nat.le_refl _) W D _ (.deferred none) (by omega) hK rfl rfl
    refine ⟨_, results_none rfl _ _ _, bw.step (Chg.ofBelow hbk) (fun b hb => .inr hb), ?_, ⟨_, rfl⟩⟩
    have hle : (pre.map (·.1)).length ≤ n := by have := hpf.length_le; rwa [limbPairs_length] at this
    have hlen : (pre.map (·.1)).length = pre'.length + 1 := by rw [hpp]; simp
    have h1 := List.prefix_iff_eq_take.1 hpf
    have h2 := List.prefix_iff_eq_take.1 (limbPairs_prefix bs (show pre'.length + 1 ≤ n by omega))
    rw [limbPairs_length] at h2
    rw [hlen, ← h2, hpp, limbPairs_succ] at h1
    obtain ⟨e1, e2⟩ := List.append_inj' h1 rfl
    have e3 : p = (pre'.length, bs[pre'.length]?.getD 0) := by simpa using e2
    rw [e3] at hp1
    rw [e1] at hc0 rv
    have hr := adFold_rest (o := o + at') hL hp1 hc0 (fun p hp' => by
      obtain ⟨i, _, rfl⟩ := List.mem_map.1 hp'
      exact limb_getD hlb i) (n - pre'.length)
    rw [show pre'.length + (n - pre'.length) = n by omega] at hr
    rw [hr]
    exact (World.putObj_heap_other (by omega)).trans rv

end Go.Proofs.YtifngjfhgehakaaDoor
