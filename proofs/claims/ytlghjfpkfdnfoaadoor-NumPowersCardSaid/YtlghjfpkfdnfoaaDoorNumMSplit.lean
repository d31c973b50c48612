/- from the rows' conditions to what the walks ask: the table of digits, an argument api.Int -/
import Derived.Test.YtlghjfpkfdnfoaaDoorRows
import Derived.Test.YtlghjfpkfdnfoaaDoorNumMOrder
import Derived.ProofKit
import Derived.LaidMore
import Derived.OpenShut
import Derived.LaidHandle
import Derived.MakeChecks
import Derived.Lib.SmallJoins
import Derived.Test.YtlghjfpkfdnfoaaDoorNumMChg
import Derived.Test.YtlghjfpkfdnfoaaDoorNumMAttempt
import Derived.Test.YtlghjfpkfdnfoaaDoorNumMRing2
import Derived.Test.YtlghjfpkfdnfoaaDoorNumMBitLen
import Derived.Test.YtlghjfpkfdnfoaaDoorNumMTimesPlus
import Derived.Test.YtlghjfpkfdnfoaaDoorNumMBack
import Derived.BigQuiet
namespace Go.Proofs.YtlghjfpkfdnfoaaDoor
open Go.ChangeShapes Go.WideShapes Go.ChangeAt Go.RowKit Go.Joins

theorem own : ownKnob Tryd.prog.godebug = none := by kernel_rfl
theorem laidOut : laidOutB Tryd.prog = true := by kernel_rfl
theorem cells_int : Tryd.prog.cellsOf 24 = 2 := by kernel_rfl
theorem gDigits : Tryd.prog.globalNamed "zermelo/num.digits" = some 0 := by kernel_rfl
theorem tDigits : (Tryd.prog.globals[0]?).map (·.type) = some 118 := by kernel_rfl
theorem cells_byte : Tryd.prog.cellsOf 5 = 1 := by kernel_rfl
theorem cells_u32 : Tryd.prog.cellsOf 72 = 1 := by kernel_rfl
theorem tTable : Tryd.prog.underlying 118 = some (.array 36 5) := by kernel_rfl
theorem tByte : Tryd.prog.underlying 5 = some (.int .u8) := by kernel_rfl

theorem laid_digits {H : Type} : (Rows.laid_zermelo_num_digits : DataW H) = .agg ((List.range 36).map fun i => .lit (.int .u8 ((digChar i : Nat) : Int))) := by rfl

abbrev theLaid : List (String × DataW Unit) := [("zermelo/num.digits", Rows.laid_zermelo_num_digits)]

/-- The door's own heap meets the condition. -/
theorem door_met (os : Os) (args : Array Value) : laidMetH Tryd.prog theLaid ((World.doorLaid Tryd.prog 400 os).forCall (fun _ _ => 0) ⟨#[], args, []⟩).memory :=
  laidMetH_of_parts3 (fuel := 8) (laidMet_of_run' 8 (by kernel_rfl) (by kernel_rfl)) (by kernel_rfl) (by kernel_rfl)

/-- What the condition gives the walks. -/
theorem of_laid {W : World} (h : laidMetH Tryd.prog theLaid W) : DigitsAt W := by
  rw [MakeChecks.laidMetH_plain _ _ _ (by kernel_rfl)] at h
  obtain ⟨ps, ⟨g0, t0, cs0, f0, p0, q0, hg0, ht0, hv0, hd0, _⟩, _⟩ := h
  obtain rfl := Option.some.inj (gDigits.symm.trans hg0)
  obtain rfl := Option.some.inj (tDigits.symm.trans ht0)
  obtain ⟨xs, m, rfl, hx, hlen, hn, hel⟩ := DataW.trod_array tTable hd0
  intro i hi
  have h1 := hel i hi
  rw [cells_byte, Nat.mul_one] at h1
  simp only [Prod.mk.injEq] at hx
  have h2 := hx.1
  rw [laid_digits, DataW.agg.injEq] at h2
  have h3 : (xs.map (·.1))[i]? = some (.lit (.int .u8 ((digChar i : Nat) : Int))) := by
    rw [← h2]
    simp [hi]
  rw [List.getElem?_map] at h3
  cases hxi : xs[i]? with
  | none => rw [hxi] at h3; simp at h3
  | some y =>
    rw [hxi] at h1 h3
    simp only [Option.map_some, Option.some.injEq] at h3
    obtain ⟨k, e1, e2, _⟩ := DataW.trod_int tByte h1
    rw [e2] at h3
    simp only [DataW.lit.injEq, Lit.int.injEq, true_and] at h3
    subst h3
    have hc := World.var?_cell hg0 hv0 i
    rw [hc]
    have : (cs0.toList.drop i)[0]? = some (.int .u8 ((digChar i : Nat) : Int)) := by
      have := congrArg (·[0]?) e1
      simpa using this
    simpa using this
set_option maxRecDepth 100000 in
/-- An argument api.Int, opened. -/
theorem open_Int {H : Type} {enc : TypeId × Value → H} {W : World} {base : Nat} {v : Value} {d : DataW H} {p : List MemPlace} (hv : Value.okWide Tryd.prog W .any base 24 v) (h : DataW.Trod enc Tryd.prog W 0 (fun _ => true) true 24 v d p) : ∃ neg xs, IntAt W v neg xs := by
  obtain ⟨c0, c1, y0, y1, m, rfl, rfl, rfl, hy0, hy1⟩ := open_agg2 Tryd.underlying24 (by kernel_rfl) cells_int hv h
  obtain ⟨neg, e0, -⟩ := DataW.trod_bool Tryd.underlying4 hy0
  simp only [List.cons.injEq, and_true] at e0
  subst e0
  refine ⟨neg, ?_⟩
  rcases open_ints Tryd.underlying22 Tryd.underlying72 cells_u32 hy1 with ⟨hcs, -⟩ | ⟨x, l, c, zs, hcs, _, hl, hm, hz, _, hcell, hwz⟩
  · simp only [List.cons.injEq, and_true] at hcs
    subst hcs
    exact ⟨[], _, rfl, ⟨none, 0, rfl, Nat.le_refl _, Nat.zero_le _, fun j hj => absurd hj (Nat.not_lt_zero _)⟩, fun x hx => absurd hx (List.not_mem_nil)⟩
  · simp only [List.cons.injEq, and_true] at hcs
    subst hcs
    simp only [if_pos] at hz
    have hget : ∀ j, j < l → ∃ n : Nat, zs.getD j 0 = (n : Int) ∧ n < B32 := by
      intro j hj
      have hj' : j < zs.length := by omega
      have hw := hwz (zs.getD j 0) (by rw [List.getD_eq_getElem?_getD, List.getElem?_eq_getElem hj', Option.getD_some]; exact List.getElem_mem hj')
      simp only [Lit.wf, Bool.and_eq_true, decide_eq_true_eq] at hw
      have h1 : (0 : Int) ≤ zs.getD j 0 := hw.1
      have h2 : zs.getD j 0 ≤ (4294967295 : Int) := hw.2
      obtain ⟨n, hn⟩ := Int.eq_ofNat_of_zero_le h1
      refine ⟨n, hn, ?_⟩
      rw [hn] at h2
      show n < 4294967296
      omega
    have hlen : ((zs.take l).map Int.toNat).length = l := by simp; omega
    have hgl : ∀ j, j < l → ((zs.take l).map Int.toNat)[j]? = some (zs.getD j 0).toNat := by
      intro j hj
      have hj' : j < zs.length := by omega
      simp [hj, List.getElem?_eq_getElem hj']
    refine ⟨(zs.take l).map Int.toNat, .slice (some x) l c, rfl, ⟨some x, c, by rw [hlen], by rw [hlen]; exact hl, hm, fun j hj => ?_⟩, ?_⟩
    · rw [hlen] at hj
      obtain ⟨n, h1, -⟩ := hget j hj
      have h2 := hcell j (by omega)
      obtain ⟨b, off, spot⟩ := x
      have h0 := hcell 0 (by omega)
      have hspot : spot = none := by simpa [Addr.add] using World.cell?_spot h0
      subst hspot
      refine ⟨⟨b, off, rfl⟩, ?_⟩
      rw [hgl j hj, lookAt_some]
      rw [h1] at h2 ⊢
      simp only [Option.getD_some, Int.toNat_natCast]
      rw [← h2]
      congr 1
      unfold Addr.add
      split
      · rename_i e; subst e; rfl
      · rfl
    · intro y hy
      obtain ⟨j, hj, rfl⟩ := List.mem_iff_getElem.1 hy
      rw [hlen] at hj
      obtain ⟨n, h1, h2⟩ := hget j hj
      have h3 := hgl j hj
      rw [List.getElem?_eq_getElem (by rw [hlen]; exact hj)] at h3
      rw [Option.some.inj h3, h1]
      simpa using h2
end Go.Proofs.YtlghjfpkfdnfoaaDoor

/- Long division, limb by limb: what is guessed, taken and given back; without the program. -/
namespace Go.Proofs.YtlghjfpkfdnfoaaDoor

/-! ### a limb times a list is taken from a row -/
/-- one round: the row, the carry of the product, the borrow -/
def ttStep (o g : Nat) (st : List Nat × Nat × Nat) (p : Nat × Nat) : List Nat × Nat × Nat :=
  (st.1.set (o + p.1) ((st.1[o + p.1]?.getD 0 + B32 - ((st.2.1 + g * p.2) % B32 + st.2.2)) % B32), (st.2.1 + g * p.2) / B32, 1 - (st.1[o + p.1]?.getD 0 + B32 - ((st.2.1 + g * p.2) % B32 + st.2.2)) / B32)
def ttFold (o g : Nat) (xs : List Nat) (ps : List (Nat × Nat)) : List Nat × Nat × Nat := ps.foldl (ttStep o g) (xs, 0, 0)
theorem ttFold_snoc (o g : Nat) (xs : List Nat) (ps : List (Nat × Nat)) (p : Nat × Nat) : ttFold o g xs (ps ++ [p]) = ttStep o g (ttFold o g xs ps) p := by simp [ttFold]
theorem ttFold_length (o g : Nat) (xs : List Nat) (ps : List (Nat × Nat)) : (ttFold o g xs ps).1.length = xs.length := by
  induction ps using snoc_ind with
  | h0 => rfl
  | h1 ps p ih => rw [ttFold_snoc]; simp [ttStep, ih]
theorem ttFold_limbs {o g : Nat} {xs : List Nat} (hg : g < B32) (hx : Limbs xs) (ps : List (Nat × Nat)) (hp : ∀ p ∈ ps, p.2 < B32) : Limbs (ttFold o g xs ps).1 ∧ (ttFold o g xs ps).2.1 < B32 ∧ (ttFold o g xs ps).2.2 ≤ 1 := by
  induction ps using snoc_ind with
  | h0 => exact ⟨hx, B32_pos, Nat.zero_le _⟩
  | h1 ps p ih =>
    obtain ⟨h1, h2, h3⟩ := ih (fun q hq => hp q (List.mem_append_left _ hq))
    have h4 := hp p (by simp)
    rw [ttFold_snoc]
    refine ⟨limbs_set h1 _ (Nat.mod_lt _ B32_pos), Nat.div_lt_of_lt_mul ?_, Nat.sub_le _ _⟩
    exact mul_limb_lt h2 hg h4
theorem ttFold_val {o g : Nat} {xs ys : List Nat} (hg : g < B32) (hx : Limbs xs) (hy : Limbs ys) (k : Nat) (hk : o + k ≤ xs.length) :
    val (ttFold o g xs (limbPairs ys k)).1 + B32 ^ o * (g * val (ys.take k)) = val xs + B32 ^ (o + k) * ((ttFold o g xs (limbPairs ys k)).2.1 + (ttFold o g xs (limbPairs ys k)).2.2) := by
  induction k with
  | zero => simp [limbPairs, ttFold, val]
  | succ k ih =>
    have ih := ih (by omega)
    have hl := ttFold_length o g xs (limbPairs ys k)
    obtain ⟨b1, b2, b3⟩ := ttFold_limbs (o := o) hg hx (limbPairs ys k) (fun p hp' => by
      obtain ⟨i, _, rfl⟩ := List.mem_map.1 hp'
      exact limb_getD hy i)
    have b4 := limb_getD b1 (o + k)
    rw [limbPairs_succ, ttFold_snoc, val_take_succ]
    simp only [ttStep]
    generalize (ttFold o g xs (limbPairs ys k)).2.2 = b at *
    generalize (ttFold o g xs (limbPairs ys k)).2.1 = c at *
    generalize (ttFold o g xs (limbPairs ys k)).1 = q at *
    generalize ys[k]?.getD 0 = y at *
    have hd := Nat.div_add_mod (c + g * y) B32
    have hm := Nat.mod_lt (c + g * y) B32_pos
    generalize (c + g * y) / B32 = c' at *
    generalize (c + g * y) % B32 = cl at *
    have hs := fun z => val_set q (o + k) z (by omega)
    generalize q[o + k]?.getD 0 = x at *
    have h3 : (x + B32 - (cl + b)) % B32 + cl + b = x + B32 * (1 - (x + B32 - (cl + b)) / B32) := by unfold B32 at *; omega
    have hs := hs ((x + B32 - (cl + b)) % B32)
    generalize (x + B32 - (cl + b)) % B32 = m at *
    generalize 1 - (x + B32 - (cl + b)) / B32 = b' at *
    generalize val (q.set (o + k) m) = Z at *
    have h4 := congrArg (B32 ^ (o + k) * ·) h3
    have h5 := congrArg (B32 ^ (o + k) * ·) hd
    simp only [Nat.mul_add] at h4 h5
    rw [← Nat.add_assoc, Nat.pow_succ, Nat.mul_assoc (B32 ^ (o + k)), Nat.mul_add g, Nat.mul_add (B32 ^ o), Nat.mul_add B32, Nat.mul_add (B32 ^ (o + k))]
    have e : B32 ^ o * (g * (B32 ^ k * y)) = B32 ^ (o + k) * (g * y) := by rw [Nat.pow_add, Nat.mul_left_comm g, Nat.mul_assoc]
    rw [Nat.mul_add (B32 ^ (o + k))] at ih
    rw [e]
    omega
theorem ttFold_above (o g : Nat) (xs ys : List Nat) (k m : Nat) (hm : o + k ≤ m) : (ttFold o g xs (limbPairs ys k)).1[m]? = xs[m]? := by
  induction k with
  | zero => rfl
  | succ k ih =>
    rw [limbPairs_succ, ttFold_snoc]
    simp only [ttStep]
    rw [List.getElem?_set_ne (by omega)]
    exact ih (by omega)

/-! ### a list is added to a row -/
def adStep (o : Nat) (st : List Nat × Nat) (p : Nat × Nat) : List Nat × Nat := (st.1.set (o + p.1) ((st.2 + (st.1[o + p.1]?.getD 0 + p.2)) % B32), (st.2 + (st.1[o + p.1]?.getD 0 + p.2)) / B32)
def adFold (o : Nat) (xs : List Nat) (ps : List (Nat × Nat)) : List Nat × Nat := ps.foldl (adStep o) (xs, 0)
theorem adFold_snoc (o : Nat) (xs : List Nat) (ps : List (Nat × Nat)) (p : Nat × Nat) : adFold o xs (ps ++ [p]) = adStep o (adFold o xs ps) p := by simp [adFold]
theorem adFold_length (o : Nat) (xs : List Nat) (ps : List (Nat × Nat)) : (adFold o xs ps).1.length = xs.length := by
  induction ps using snoc_ind with
  | h0 => rfl
  | h1 ps p ih => rw [adFold_snoc]; simp [adStep, ih]
theorem adFold_limbs {o : Nat} {xs : List Nat} (hx : Limbs xs) (ps : List (Nat × Nat)) (hp : ∀ p ∈ ps, p.2 < B32) : Limbs (adFold o xs ps).1 ∧ (adFold o xs ps).2 ≤ 1 := by
  induction ps using snoc_ind with
  | h0 => exact ⟨hx, Nat.zero_le _⟩
  | h1 ps p ih =>
    obtain ⟨h1, h2⟩ := ih (fun q hq => hp q (List.mem_append_left _ hq))
    have h3 := hp p (by simp)
    have h4 := limb_getD h1 (o + p.1)
    rw [adFold_snoc]
    refine ⟨limbs_set h1 _ (Nat.mod_lt _ B32_pos), ?_⟩
    show (_ + (_ + _)) / B32 ≤ 1
    unfold B32 at *; omega
theorem adFold_val {o : Nat} {xs ys : List Nat} (k : Nat) (hk : o + k ≤ xs.length) : val (adFold o xs (limbPairs ys k)).1 + B32 ^ (o + k) * (adFold o xs (limbPairs ys k)).2 = val xs + B32 ^ o * val (ys.take k) := by
  induction k with
  | zero => simp [limbPairs, adFold, val]
  | succ k ih =>
    have ih := ih (by omega)
    have hl := adFold_length o xs (limbPairs ys k)
    rw [limbPairs_succ, adFold_snoc, val_take_succ]
    simp only [adStep]
    generalize (adFold o xs (limbPairs ys k)).2 = c at *
    generalize (adFold o xs (limbPairs ys k)).1 = q at *
    generalize ys[k]?.getD 0 = y at *
    have hs := fun z => val_set q (o + k) z (by omega)
    generalize q[o + k]?.getD 0 = x at *
    have hd := Nat.div_add_mod (c + (x + y)) B32
    have hs := hs ((c + (x + y)) % B32)
    generalize (c + (x + y)) / B32 = c' at *
    generalize (c + (x + y)) % B32 = m at *
    generalize val (q.set (o + k) m) = Z at *
    have h5 := congrArg (B32 ^ (o + k) * ·) hd
    simp only [Nat.mul_add] at h5
    rw [← Nat.add_assoc, Nat.pow_succ, Nat.mul_assoc (B32 ^ (o + k)), Nat.mul_add (B32 ^ o), ← Nat.mul_assoc (B32 ^ o) (B32 ^ k), ← Nat.pow_add]
    omega
theorem adFold_above (o : Nat) (xs ys : List Nat) (k m : Nat) (hm : o + k ≤ m) : (adFold o xs (limbPairs ys k)).1[m]? = xs[m]? := by
  induction k with
  | zero => rfl
  | succ k ih =>
    rw [limbPairs_succ, adFold_snoc]
    simp only [adStep]
    rw [List.getElem?_set_ne (by omega)]
    exact ih (by omega)
/-- behind the end of the list, without a carry, nothing changes -/
theorem adFold_rest {o : Nat} {xs ys : List Nat} {k : Nat} (hx : Limbs xs) (hy : ys.length ≤ k) (hc : (adFold o xs (limbPairs ys k)).2 = 0) (hpl : ∀ p ∈ limbPairs ys k, p.2 < B32) (j : Nat) : adFold o xs (limbPairs ys (k + j)) = adFold o xs (limbPairs ys k) := by
  induction j with
  | zero => rfl
  | succ j ih =>
    rw [← Nat.add_assoc, limbPairs_succ, adFold_snoc, ih, List.getElem?_eq_none (by omega)]
    have hb := (adFold_limbs (o := o) hx (limbPairs ys k) hpl).1
    generalize adFold o xs (limbPairs ys k) = st at *
    obtain ⟨q, c⟩ := st
    simp only at hc hb
    subst hc
    have h4 := limb_getD hb (o + (k + j))
    simp only [adStep, Option.getD_none, Nat.add_zero, Nat.zero_add, Nat.mod_eq_of_lt h4, Nat.div_eq_of_lt h4]
    congr 1
    by_cases hi : o + (k + j) < q.length
    · rw [List.getElem?_eq_getElem hi, Option.getD_some, List.set_getElem_self]
    · rw [List.set_eq_of_length_le (by omega)]

/-! ### the guess -/
def guessN (U3 V2 : Nat) : Nat := min (U3 / V2) (B32 - 1)
theorem guessN_lt (U3 V2 : Nat) : guessN U3 V2 < B32 := by unfold guessN B32; omega
/-- the true quotient is the guess, or one less -/
theorem guess_near {A N lowV V2 lowL U3 : Nat} (hN : 0 < N) (hA : 0 < A) (hV2 : B32 ≤ V2) (hlV : lowV < N) (hlL : lowL < A * N) (hB : lowL + A * N * U3 < A * (lowV + N * V2) * B32) :
    (lowL + A * N * U3) / (A * (lowV + N * V2)) ≤ guessN U3 V2 ∧ guessN U3 V2 ≤ (lowL + A * N * U3) / (A * (lowV + N * V2)) + 1 := by
  have hV0 : 0 < V2 := Nat.lt_of_lt_of_le B32_pos hV2
  have hNV : 0 < N * V2 := Nat.mul_pos hN hV0
  have hD : 0 < A * (lowV + N * V2) := Nat.mul_pos hA (by omega)
  have hDle : A * N * V2 ≤ A * (lowV + N * V2) := by
    rw [Nat.mul_assoc]; exact Nat.mul_le_mul_left _ (by omega)
  generalize hX : lowL + A * N * U3 = X at *
  generalize hDD : A * (lowV + N * V2) = D at *
  have hq1 : X / D * D ≤ X := Nat.div_mul_le_self _ _
  have hq2 : X < (X / D + 1) * D := by
    rw [Nat.mul_comm]; exact Nat.lt_mul_div_succ X hD
  generalize hq : X / D = q at *
  have hqB : q < B32 := by
    rw [← hq]; exact Nat.div_lt_of_lt_mul hB
  refine ⟨?_, ?_⟩
  · unfold guessN
    refine Nat.le_min.2 ⟨(Nat.le_div_iff_mul_le hV0).2 ?_, by omega⟩
    refine Nat.le_of_lt_succ (Nat.lt_of_not_le fun hc => ?_)
    have h1 : A * N * (U3 + 1) ≤ A * N * (q * V2) := Nat.mul_le_mul_left _ hc
    have h2 : A * N * (q * V2) ≤ q * D := by
      rw [Nat.mul_left_comm]; exact Nat.mul_le_mul_left _ hDle
    rw [Nat.mul_add, Nat.mul_one] at h1
    omega
  · refine Nat.le_of_lt_succ (Nat.lt_of_not_le fun hc => ?_)
    have hg1 : guessN U3 V2 ≤ U3 / V2 := Nat.min_le_left _ _
    have hg2 : guessN U3 V2 < B32 := guessN_lt _ _
    have hg3 : guessN U3 V2 * V2 ≤ U3 := (Nat.le_div_iff_mul_le hV0).1 hg1
    generalize guessN U3 V2 = g at *
    have h1 : g * D ≤ X + D := by
      have h2 : g * D = A * (g * lowV) + A * N * (g * V2) := by
        rw [← hDD, Nat.mul_left_comm, Nat.mul_add, Nat.mul_add, Nat.mul_left_comm g N, Nat.mul_assoc A N]
      have h3 : A * N * (g * V2) ≤ A * N * U3 := Nat.mul_le_mul_left _ hg3
      have h4 : A * (g * lowV) ≤ A * N * V2 := by
        rw [Nat.mul_assoc]
        refine Nat.mul_le_mul_left _ ?_
        rw [Nat.mul_comm N]
        exact Nat.mul_le_mul (by omega) (by omega)
      omega
    have h5 : (q + 2) * D ≤ g * D := Nat.mul_le_mul_right _ (by omega)
    have h6 : (q + 2) * D = (q + 1) * D + D := by rw [show q + 2 = (q + 1) + 1 from rfl, Nat.add_mul (q + 1) 1, Nat.one_mul]
    omega
theorem guess_dec {t b l0 limb rest u g : Nat} (hg : g = guessN (l0 + B32 * u) (b + B32 * t)) (hu : limb * t + rest = u) (hV : 0 < b + B32 * t) (hgl : g ≤ limb) (hc : B32 ≤ limb ∨ rest * B32 + l0 < limb * b) : g ≤ limb - 1 ∧ 1 ≤ limb := by
  rcases hc with hc | hc
  · have := guessN_lt (l0 + B32 * u) (b + B32 * t)
    have := B32_pos
    omega
  · have h1 : g ≤ (l0 + B32 * u) / (b + B32 * t) := by rw [hg]; exact Nat.min_le_left _ _
    have h2 : (l0 + B32 * u) / (b + B32 * t) < limb := by
      rw [Nat.div_lt_iff_lt_mul hV, Nat.mul_add, ← hu, Nat.mul_add, Nat.mul_left_comm limb, Nat.mul_comm B32 rest]
      omega
    omega
theorem guess_end {t b l0 limb rest u g : Nat} (hg : g = guessN (l0 + B32 * u) (b + B32 * t)) (hu : limb * t + rest = u) (hV : 0 < b + B32 * t) (hgl : g ≤ limb) (hub : u < t * B32 + B32) (hb : b < B32)
    (hc : B32 ≤ rest ∨ (limb < B32 ∧ limb * b ≤ rest * B32 + l0)) : limb = g := by
  have hlb : limb < B32 := by
    rcases hc with hc | hc
    · have h1 : limb * t < B32 * t := by rw [Nat.mul_comm B32]; omega
      exact Nat.lt_of_mul_lt_mul_right h1
    · exact hc.1
  have h2 : limb * b ≤ rest * B32 + l0 := by
    rcases hc with hc | hc
    · have h3 : limb * b ≤ B32 * B32 := Nat.mul_le_mul (by omega) (by omega)
      have h4 : B32 * B32 ≤ rest * B32 := Nat.mul_le_mul_right _ hc
      omega
    · exact hc.2
  have h3 : limb ≤ (l0 + B32 * u) / (b + B32 * t) := by
    rw [Nat.le_div_iff_mul_le hV, Nat.mul_add, ← hu, Nat.mul_add, Nat.mul_left_comm limb, Nat.mul_comm B32 rest]
    omega
  have h4 : limb ≤ g := by rw [hg]; exact Nat.le_min.2 ⟨h3, by omega⟩
  omega


/-! ### one round -/
theorem val_two {bs : List Nat} {k : Nat} (h : bs.length = k + 2) : val bs = val (bs.take k) + B32 ^ k * (bs[k]?.getD 0 + B32 * bs[k + 1]?.getD 0) := by
  rw [val_split bs k (by omega), val_drop_succ bs (k + 1) (by omega), List.drop_of_length_le (show bs.length ≤ k + 1 + 1 by omega)]
  simp [val]
theorem val_three {xs : List Nat} {k : Nat} (h : k + 3 ≤ xs.length) : val xs = val (xs.take k) + B32 ^ k * (xs[k]?.getD 0 + B32 * (xs[k + 1]?.getD 0 + B32 * (xs[k + 2]?.getD 0 + B32 * val (xs.drop (k + 3))))) := by
  rw [val_split xs k (by omega), val_drop_succ xs (k + 1) (by omega), val_drop_succ xs (k + 2) (by omega)]
theorem take_lt {xs : List Nat} (h : Limbs xs) (k : Nat) (hk : k ≤ xs.length) : val (xs.take k) < B32 ^ k := by
  have := val_lt (limbs_take h k)
  rwa [List.length_take, Nat.min_eq_left hk] at this
/-- what is divided, by its parts -/
structure Knu (L bs : List Nat) (o k : Nat) : Prop where
  ll : Limbs L
  lb : Limbs bs
  len : o + k + 3 ≤ L.length
  blen : bs.length = k + 2
  top : 2147483648 ≤ bs[k + 1]?.getD 0
  lt : val L < val bs * B32 ^ (o + 1)
theorem Knu.high {L bs : List Nat} {o k : Nat} (h : Knu L bs o k) : val (L.drop (o + k + 3)) = 0 := by
  have h1 := val_three h.len
  have h2 := h.lt
  have h3 := val_lt h.lb
  rw [h.blen] at h3
  rcases Nat.eq_zero_or_pos (val (L.drop (o + k + 3))) with e | e
  · exact e
  · exfalso
    have h4 : val bs * B32 ^ (o + 1) < B32 ^ (k + 2) * B32 ^ (o + 1) := Nat.mul_lt_mul_of_pos_right h3 (Nat.pow_pos B32_pos)
    have h5 : B32 ^ (k + 2) * B32 ^ (o + 1) = B32 ^ (o + k) * (B32 * (B32 * B32)) := by
      rw [← Nat.pow_add, show k + 2 + (o + 1) = o + k + 1 + 1 + 1 by omega, Nat.pow_succ, Nat.pow_succ, Nat.pow_succ]
      simp only [Nat.mul_assoc]
    have h6 : B32 ^ (o + k) * (B32 * (B32 * B32)) ≤ B32 ^ (o + k) * (L[o + k]?.getD 0 + B32 * (L[o + k + 1]?.getD 0 + B32 * (L[o + k + 2]?.getD 0 + B32 * val (L.drop (o + k + 3))))) := by
      refine Nat.mul_le_mul_left _ ?_
      unfold B32; omega
    omega
theorem Knu.vals {L bs : List Nat} {o k : Nat} (h : Knu L bs o k) : val L = val (L.take (o + k)) + B32 ^ o * B32 ^ k * (L[o + k]?.getD 0 + B32 * (L[o + k + 1]?.getD 0 + B32 * L[o + k + 2]?.getD 0)) := by
  have h1 := val_three h.len
  rw [h.high, Nat.mul_zero, Nat.add_zero, Nat.pow_add] at h1
  exact h1
theorem Knu.le_top {L bs : List Nat} {o k : Nat} (h : Knu L bs o k) : L[o + k + 2]?.getD 0 ≤ bs[k + 1]?.getD 0 := by
  refine Nat.le_of_lt_succ (Nat.lt_of_not_le fun hc => ?_)
  have h1 := h.vals
  have h2 := h.lt
  have h3 : val bs < B32 ^ (k + 1) * (bs[k + 1]?.getD 0 + 1) := by
    have e := val_two h.blen
    have e1 := take_lt h.lb k (by have := h.blen; omega)
    have e2 := limb_getD h.lb k
    have e3 : B32 ^ k * (bs[k]?.getD 0 + 1) ≤ B32 ^ k * B32 := Nat.mul_le_mul_left _ e2
    rw [Nat.pow_succ, Nat.mul_assoc, Nat.mul_add B32, Nat.mul_add (B32 ^ k), Nat.mul_one]
    rw [Nat.mul_add (B32 ^ k)] at e e3
    rw [Nat.mul_one] at e3
    omega
  have h4 : val bs * B32 ^ (o + 1) < B32 ^ (k + 1) * (bs[k + 1]?.getD 0 + 1) * B32 ^ (o + 1) := Nat.mul_lt_mul_of_pos_right h3 (Nat.pow_pos B32_pos)
  have h5 : B32 ^ (k + 1) * (bs[k + 1]?.getD 0 + 1) * B32 ^ (o + 1) = B32 ^ o * B32 ^ k * (B32 * (B32 * (bs[k + 1]?.getD 0 + 1))) := by
    rw [Nat.pow_succ, Nat.pow_succ]
    generalize B32 ^ k = P
    generalize B32 ^ o = R
    generalize bs[k + 1]?.getD 0 + 1 = t
    rw [Nat.mul_assoc P B32, Nat.mul_comm (P * (B32 * t)), Nat.mul_assoc R B32, Nat.mul_left_comm B32 P, Nat.mul_assoc R P]
  have h6 : B32 ^ o * B32 ^ k * (B32 * (B32 * (bs[k + 1]?.getD 0 + 1))) ≤ B32 ^ o * B32 ^ k * (L[o + k]?.getD 0 + B32 * (L[o + k + 1]?.getD 0 + B32 * L[o + k + 2]?.getD 0)) := by
    refine Nat.mul_le_mul_left _ ?_
    have e1 : B32 * (bs[k + 1]?.getD 0 + 1) ≤ B32 * L[o + k + 2]?.getD 0 := Nat.mul_le_mul_left _ hc
    have e2 : B32 * (B32 * (bs[k + 1]?.getD 0 + 1)) ≤ B32 * (L[o + k + 1]?.getD 0 + B32 * L[o + k + 2]?.getD 0) := Nat.mul_le_mul_left _ (by omega)
    omega
  omega
/-- the guess of a round -/
def knuG (L bs : List Nat) (o k : Nat) : Nat := guessN (L[o + k]?.getD 0 + B32 * (L[o + k + 1]?.getD 0 + B32 * L[o + k + 2]?.getD 0)) (bs[k]?.getD 0 + B32 * bs[k + 1]?.getD 0)
/-- the quotient's limb -/
def knuQ (L bs : List Nat) (o : Nat) : Nat := val L / (B32 ^ o * val bs)
theorem Knu.pos {L bs : List Nat} {o k : Nat} (h : Knu L bs o k) : 0 < B32 ^ o * val bs := by
  refine Nat.mul_pos (Nat.pow_pos B32_pos) ?_
  rw [val_two h.blen]
  have h1 := h.top
  have h2 : 0 < B32 ^ k * (bs[k]?.getD 0 + B32 * bs[k + 1]?.getD 0) := Nat.mul_pos (Nat.pow_pos B32_pos) (by unfold B32; omega)
  omega
theorem Knu.q_lt {L bs : List Nat} {o k : Nat} (h : Knu L bs o k) : knuQ L bs o < B32 := by
  refine Nat.div_lt_of_lt_mul ?_
  have := h.lt
  rw [Nat.pow_succ, Nat.mul_comm (val bs), Nat.mul_assoc, Nat.mul_comm B32, ← Nat.mul_assoc] at this
  exact this
theorem Knu.near {L bs : List Nat} {o k : Nat} (h : Knu L bs o k) : knuQ L bs o ≤ knuG L bs o k ∧ knuG L bs o k ≤ knuQ L bs o + 1 := by
  have h1 := h.vals
  have h2 := val_two h.blen
  have h3 := take_lt h.lb k (by have := h.blen; omega)
  have h4 := take_lt h.ll (o + k) (by have := h.len; omega)
  have h5 := h.top
  have h6 := h.lt
  rw [Nat.pow_add] at h4
  unfold knuQ knuG
  rw [h1, h2]
  refine guess_near (Nat.pow_pos B32_pos) (Nat.pow_pos B32_pos) ?_ h3 h4 ?_
  · have : B32 * 1 ≤ B32 * bs[k + 1]?.getD 0 := Nat.mul_le_mul_left _ (by omega)
    omega
  · rw [← h1, ← h2]
    rw [Nat.pow_succ, ← Nat.mul_assoc, Nat.mul_comm (val bs)] at h6
    exact h6
theorem row_high {xs R : List Nat} {m : Nat} (hab : ∀ j, m ≤ j → R[j]? = xs[j]?) : R.drop m = xs.drop m := by
  apply List.ext_getElem?
  intro i
  rw [List.getElem?_drop, List.getElem?_drop]
  exact hab _ (by omega)
theorem knu_arith {X Y Z D T q g bo cz : Nat} (hn1 : q ≤ g) (hn2 : g ≤ q + 1) (hq1 : q * D ≤ X) (hq2 : X < q * D + D) (hv : Y + g * D = X + T * bo) (hb : bo ≤ 1) (hY : Y < T) (had : Z + T * cz = Y + D) (hc : cz ≤ 1) (hZ : Z < T) :
    (bo = 0 → g = q ∧ Y + q * D = X) ∧ (bo ≠ 0 → g = q + 1 ∧ Z + q * D = X) := by
  rcases Nat.lt_or_ge q g with hlt | hge
  · obtain rfl : g = q + 1 := by omega
    rw [Nat.add_mul, Nat.one_mul] at hv
    refine ⟨fun e => ?_, fun e => ⟨rfl, ?_⟩⟩
    · subst e; omega
    · obtain rfl : bo = 1 := by omega
      rcases Nat.eq_zero_or_pos cz with e | e
      · subst e; omega
      · obtain rfl : cz = 1 := by omega
        omega
  · obtain rfl : g = q := by omega
    refine ⟨fun e => ⟨rfl, ?_⟩, fun e => ?_⟩
    · subst e; omega
    · obtain rfl : bo = 1 := by omega
      omega
theorem Knu.low {L bs : List Nat} {o k : Nat} (h : Knu L bs o k) (R : List Nat) (hR : Limbs R) (hRl : R.length = L.length) (hRd : R.drop (o + k + 3) = L.drop (o + k + 3)) : val R < B32 ^ (o + k + 3) := by
  have e1 := val_append (R.take (o + k + 3)) (R.drop (o + k + 3))
  rw [List.take_append_drop, hRd, h.high, Nat.mul_zero, Nat.add_zero] at e1
  rw [e1]
  exact take_lt hR _ (by rw [hRl]; exact h.len)
theorem Knu.pairs {L bs : List Nat} {o k : Nat} (h : Knu L bs o k) (n : Nat) : ∀ p ∈ limbPairs bs n, p.2 < B32 := fun p hp' => by
  obtain ⟨i, _, rfl⟩ := List.mem_map.1 hp'
  exact limb_getD h.lb i
theorem Knu.carry {L bs : List Nat} {o k : Nat} (h : Knu L bs o k) {g : Nat} (hg : g < B32) : (ttFold o g L (limbPairs bs (k + 3))).2.1 = 0 := by
  have h1 := (ttFold_limbs (o := o) hg h.ll (limbPairs bs (k + 2)) (h.pairs _)).2.1
  have h2 := h.blen
  rw [limbPairs_succ, ttFold_snoc]
  simp only [ttStep]
  rw [List.getElem?_eq_none (by omega), Option.getD_none, Nat.mul_zero, Nat.add_zero]
  exact Nat.div_eq_of_lt h1
theorem Knu.tt {L bs : List Nat} {o k : Nat} (h : Knu L bs o k) {g : Nat} (hg : g < B32) :
    val (ttFold o g L (limbPairs bs (k + 3))).1 + g * (B32 ^ o * val bs) = val L + B32 ^ (o + k + 3) * (ttFold o g L (limbPairs bs (k + 3))).2.2 ∧ val (ttFold o g L (limbPairs bs (k + 3))).1 < B32 ^ (o + k + 3) := by
  have hl := h.len
  have hb := h.blen
  have hv := ttFold_val (o := o) hg h.ll h.lb (k + 3) (by omega)
  rw [h.carry hg, Nat.zero_add, List.take_of_length_le (show bs.length ≤ k + 3 by omega), Nat.mul_left_comm (B32 ^ o)] at hv
  refine ⟨hv, h.low _ (ttFold_limbs (o := o) hg h.ll _ (h.pairs _)).1 (ttFold_length _ _ _ _) (row_high (fun j hj => ttFold_above o g L bs (k + 3) j hj))⟩
theorem Knu.ad {L bs : List Nat} {o k : Nat} (h : Knu L bs o k) {g : Nat} (hg : g < B32) (R : List Nat) (hR : R = (ttFold o g L (limbPairs bs (k + 3))).1) :
    val (adFold o R (limbPairs bs (k + 3))).1 + B32 ^ (o + k + 3) * (adFold o R (limbPairs bs (k + 3))).2 = val R + B32 ^ o * val bs ∧ (adFold o R (limbPairs bs (k + 3))).2 ≤ 1 ∧ val (adFold o R (limbPairs bs (k + 3))).1 < B32 ^ (o + k + 3) := by
  have hl := h.len
  have hb := h.blen
  have t1 : Limbs R := by rw [hR]; exact (ttFold_limbs (o := o) hg h.ll _ (h.pairs _)).1
  have tl : R.length = L.length := by rw [hR]; exact ttFold_length _ _ _ _
  have ta : R.drop (o + k + 3) = L.drop (o + k + 3) := by rw [hR]; exact row_high (fun j hj => ttFold_above o g L bs (k + 3) j hj)
  have hv := adFold_val (o := o) (xs := R) (ys := bs) (k + 3) (by omega)
  rw [List.take_of_length_le (show bs.length ≤ k + 3 by omega)] at hv
  obtain ⟨a1, a2⟩ := adFold_limbs (o := o) t1 (limbPairs bs (k + 3)) (h.pairs _)
  exact ⟨hv, a2, h.low _ a1 ((adFold_length _ _ _).trans tl) ((row_high (fun j hj => adFold_above o R bs (k + 3) j hj)).trans ta)⟩
/-- where no borrow is left, the guess was the limb; else it was one more, and adding back mends it -/
theorem Knu.round {L bs : List Nat} {o k : Nat} (h : Knu L bs o k) :
    ((ttFold o (knuG L bs o k) L (limbPairs bs (k + 3))).2.2 = 0 → knuG L bs o k = knuQ L bs o ∧ val (ttFold o (knuG L bs o k) L (limbPairs bs (k + 3))).1 + B32 ^ o * (knuQ L bs o * val bs) = val L) ∧
    ((ttFold o (knuG L bs o k) L (limbPairs bs (k + 3))).2.2 ≠ 0 → knuG L bs o k = knuQ L bs o + 1 ∧ val (adFold o (ttFold o (knuG L bs o k) L (limbPairs bs (k + 3))).1 (limbPairs bs (k + 3))).1 + B32 ^ o * (knuQ L bs o * val bs) = val L) := by
  have hg : knuG L bs o k < B32 := guessN_lt _ _
  have hn := h.near
  have hD := h.pos
  have hq1 : knuQ L bs o * (B32 ^ o * val bs) ≤ val L := Nat.div_mul_le_self _ _
  have hq2 : val L < (knuQ L bs o + 1) * (B32 ^ o * val bs) := by
    rw [Nat.mul_comm]; exact Nat.lt_mul_div_succ _ hD
  rw [Nat.add_mul, Nat.one_mul] at hq2
  obtain ⟨v1, v2⟩ := h.tt hg
  obtain ⟨w1, w2, w3⟩ := h.ad hg _ rfl
  have hb := (ttFold_limbs (o := o) hg h.ll (limbPairs bs (k + 3)) (h.pairs _)).2.2
  rw [Nat.mul_left_comm (B32 ^ o)]
  exact knu_arith hn.1 hn.2 hq1 hq2 v1 hb v2 w1 w2 w3
/-- the numbers ahead of a round and behind it -/
theorem Knu.next {L bs Q R : List Nat} {o k A0 : Nat} (h : Knu L bs o k) (hQ : o < Q.length) (hA : val L + val bs * (B32 ^ (o + 1) * val (Q.drop (o + 1))) = A0) (hR : val R + B32 ^ o * (knuQ L bs o * val bs) = val L) :
    val R + val bs * (B32 ^ o * val ((Q.set o (knuQ L bs o)).drop o)) = A0 ∧ val R < val bs * B32 ^ o := by
  have hD := h.pos
  have hq2 : val L < (knuQ L bs o + 1) * (B32 ^ o * val bs) := by
    rw [Nat.mul_comm]; exact Nat.lt_mul_div_succ _ hD
  generalize knuQ L bs o = q at *
  constructor
  · rw [val_drop_succ _ o (by simpa using hQ), List.getElem?_set_self hQ, Option.getD_some, List.drop_set_of_lt (by omega)]
    rw [Nat.pow_succ, Nat.mul_assoc (B32 ^ o) B32] at hA
    rw [Nat.mul_add (B32 ^ o), Nat.mul_add (val bs)]
    have e : val bs * (B32 ^ o * q) = B32 ^ o * (q * val bs) := by
      rw [Nat.mul_left_comm, Nat.mul_comm q]
    omega
  · rw [Nat.add_mul, Nat.one_mul, Nat.mul_left_comm q] at hq2
    rw [Nat.mul_comm (val bs)]
    omega

end Go.Proofs.YtlghjfpkfdnfoaaDoor

/- Products by halves: the arithmetic, without the program. -/
namespace Go.Proofs.YtlghjfpkfdnfoaaDoor

theorem limbs_drop {xs : List Nat} (h : Limbs xs) (m : Nat) : Limbs (xs.drop m) := fun x hx => h x (List.mem_of_mem_drop hx)
theorem val_parts (xs : List Nat) (m : Nat) (h : m ≤ xs.length) : val xs = val (xs.take m) + B32 ^ m * val (xs.drop m) := by
  conv => lhs; rw [← List.take_append_drop m xs]
  rw [val_append, List.length_take, Nat.min_eq_left h]

/-- a list is laid over a row, and nothing is carried out -/
theorem adFold_fits {o n : Nat} {xs ys : List Nat} (hx : Limbs xs) (hy : Canon ys) (hn : o + n = xs.length) (hv : val xs + B32 ^ o * val ys < B32 ^ xs.length) :
    (adFold o xs (limbPairs ys n)).1.length = xs.length ∧ Limbs (adFold o xs (limbPairs ys n)).1 ∧ val (adFold o xs (limbPairs ys n)).1 = val xs + B32 ^ o * val ys := by
  have h1 : val ys < B32 ^ n := by
    rw [← hn, Nat.pow_add] at hv
    exact Nat.lt_of_mul_lt_mul_left (Nat.lt_of_le_of_lt (Nat.le_add_left _ _) hv)
  have h2 := canon_length_le hy h1
  have h3 := adFold_val (o := o) (xs := xs) (ys := ys) n (by omega)
  rw [List.take_of_length_le h2, hn] at h3
  refine ⟨adFold_length _ _ _, (adFold_limbs hx _ fun p hp => ?_).1, ?_⟩
  · simp only [limbPairs, List.mem_map] at hp
    obtain ⟨i, -, rfl⟩ := hp
    exact limb_getD hy.1 i
  · rcases Nat.eq_zero_or_pos (adFold o xs (limbPairs ys n)).2 with hc | hc
    · rw [hc] at h3; omega
    · exfalso
      have := Nat.mul_le_mul_left (B32 ^ xs.length) hc
      omega

/-- the product of two numbers with two halves each -/
theorem halves_mul (A0 A1 B0 B1 H : Nat) : (A0 + H * A1) * (B0 + H * B1) = A0 * B0 + H * ((A0 + A1) * (B0 + B1) - A0 * B0 - A1 * B1) + H * H * (A1 * B1) := by
  have e : (A0 + A1) * (B0 + B1) - A0 * B0 - A1 * B1 = A0 * B1 + A1 * B0 := by
    have : (A0 + A1) * (B0 + B1) = A0 * B0 + A0 * B1 + (A1 * B0 + A1 * B1) := by rw [Nat.add_mul, Nat.mul_add, Nat.mul_add]
    omega
  rw [e]
  simp only [Nat.add_mul, Nat.mul_add]
  have e1 : H * A1 * B0 = H * (A1 * B0) := Nat.mul_assoc ..
  have e2 : A0 * (H * B1) = H * (A0 * B1) := Nat.mul_left_comm ..
  have e3 : H * A1 * (H * B1) = H * H * (A1 * B1) := Nat.mul_mul_mul_comm ..
  omega
theorem halves_le1 (A0 A1 B0 B1 : Nat) : A0 * B0 ≤ (A0 + A1) * (B0 + B1) := Nat.mul_le_mul (Nat.le_add_right _ _) (Nat.le_add_right _ _)
theorem halves_le2 (A0 A1 B0 B1 : Nat) : A1 * B1 ≤ (A0 + A1) * (B0 + B1) - A0 * B0 := by
  have : (A0 + A1) * (B0 + B1) = A0 * B0 + A0 * B1 + (A1 * B0 + A1 * B1) := by rw [Nat.add_mul, Nat.mul_add, Nat.mul_add]
  omega

/-- the three products over a row of zeros -/
theorem halves_end {xa xb low mid high : List Nat} {h n A0 A1 B0 B1 : Nat} (ha : Limbs xa) (hb : Limbs xb) (hA : val xa = A0 + B32 ^ h * A1) (hB : val xb = B0 + B32 ^ h * B1)
    (kl : Canon low) (km : Canon mid) (kh : Canon high) (el : val low = A0 * B0) (em : val mid = (A0 + A1) * (B0 + B1) - A0 * B0 - A1 * B1) (eh : val high = A1 * B1) (hn : n = xa.length + xb.length) (hh : 2 * h ≤ n) :
    ∃ r1 r2 r3, r1 = (adFold 0 (List.replicate n 0) (limbPairs low n)).1 ∧ r2 = (adFold h r1 (limbPairs mid (n - h))).1 ∧ r3 = (adFold (2 * h) r2 (limbPairs high (n - 2 * h))).1 ∧
      Limbs r1 ∧ r1.length = n ∧ Limbs r2 ∧ r2.length = n ∧ Limbs r3 ∧ r3.length = n ∧ val r3 = val xa * val xb := by
  have hm := halves_mul A0 A1 B0 B1 (B32 ^ h)
  rw [← hA, ← hB, ← em, ← el, ← eh, ← Nat.pow_add, show h + h = 2 * h by omega] at hm
  have hlt : val xa * val xb < B32 ^ n := by
    rw [hn, Nat.pow_add]
    exact Nat.mul_lt_mul'' (val_lt ha) (val_lt hb)
  have z1 : (List.replicate n 0).length = n := List.length_replicate
  obtain ⟨a1, a2, a3⟩ := adFold_fits (o := 0) (n := n) (limbs_zeros n) kl (by simp) (by rw [val_zeros, z1, Nat.pow_zero]; omega)
  rw [val_zeros, Nat.pow_zero, z1] at *
  obtain ⟨b1, b2, b3⟩ := adFold_fits (o := h) (n := n - h) a2 km (by omega) (by rw [a1, a3]; omega)
  obtain ⟨c1, c2, c3⟩ := adFold_fits (o := 2 * h) (n := n - 2 * h) b2 kh (by omega) (by rw [b1, b3, a1, a3]; omega)
  exact ⟨_, _, _, rfl, rfl, rfl, a2, a1, b2, b1.trans a1, c2, c1.trans (b1.trans a1), by rw [c3, b3, a3]; omega⟩

end Go.Proofs.YtlghjfpkfdnfoaaDoor

/- zermeloref01.bit, Digits -/
namespace Go.Proofs.YtlghjfpkfdnfoaaDoor
open Go Go.RowKit Go.Shelf

set_option maxHeartbeats 1000000 in
set_option maxRecDepth 100000 in
theorem bit_any (va : Value) (xs : List Nat) (i s : Nat) (n : Int) (e1 : n / 32 = (i : Int)) (e2 : n % 32 = (s : Int)) (hn0 : 0 ≤ n) (hn : n < 3200000) (hs : s < 32) (hi : i < xs.length) (w : World) (ha : Reads .u32 w va xs) (hl : Limbs xs) :
    Calls Tryd.prog 97 #[va, .int .i64 n] w fun e w' => (∃ nq, w' = w.drewN nq) ∧ e = .returned (.int .u32 ((xs[i]?.getD 0 / 2 ^ s % 2 : Nat) : Int)) := by
  obtain ⟨aa, ca, rfl, hlca, hma⟩ := ha.form
  have i1 := fun W => ha.index und_limbs size_limb (P := Tryd.prog) i .i64 W hi
  have d1 := ha.cell i hi
  have hx : xs[i]?.getD 0 < 4294967296 := by
    rw [List.getElem?_eq_getElem hi]
    exact hl _ (by simp)
  generalize xs[i]?.getD 0 = x at *
  have t1 : IntKind.i64.wrap (n.tdiv 32) = (i : Int) := by
    rw [Int.tdiv_eq_ediv_of_nonneg hn0, e1]
    have : (i : Int) < 3200000 := by omega
    simp [IntKind.wrap, IntKind.bits, IntKind.signed]
    omega
  have t2 : n.tmod 32 = (s : Int) := by rw [Int.tmod_eq_emod_of_nonneg hn0, e2]
  have hPl : 2 ^ s < 2 ^ 32 := Nat.pow_lt_pow_right (by decide) hs
  have hP0 : 0 < 2 ^ s := Nat.pow_pos (by decide)
  have hPc : ((2 : Int) ^ s) = ((2 ^ s : Nat) : Int) := by simp
  have t3 : IntKind.u32.wrap ((2 : Int) ^ s) = ((2 ^ s : Nat) : Int) := by
    rw [hPc]
    generalize 2 ^ s = P at *
    simp [IntKind.wrap, IntKind.bits, IntKind.signed]
    omega
  clear hPc
  generalize 2 ^ s = P at *
  have hPn : ¬ ((P : Int) = 0) := by omega
  have hPb : ((P : Int) == 0) = false := by simp; omega
  have hdx : x / P ≤ x := Nat.div_le_self _ _
  have t4 : IntKind.u32.wrap ((x : Int).tdiv (P : Int)) = ((x / P : Nat) : Int) := by
    rw [Int.tdiv_eq_ediv_of_nonneg (by omega), ← Int.natCast_ediv]
    generalize x / P = d at *
    simp [IntKind.wrap, IntKind.bits, IntKind.signed]
    omega
  have t6 : (x : Int) / (P : Int) % 4294967296 % 2 = ((x / P % 2 : Nat) : Int) := by
    rw [← Int.natCast_ediv]
    generalize x / P = d at *
    omega
  have H6 := Lib.hid t6
  clear t6
  generalize x / P = d at *
  have t5 : (d : Int).tmod 2 = ((d % 2 : Nat) : Int) := by rw [Int.tmod_eq_emod_of_nonneg (by omega)]; omega
  generalize d % 2 = r at *
  have HZ := Lib.hid (And.intro hdx (And.intro hPl hP0))
  clear hdx hPl hP0
  have HX := Lib.hid hx
  clear hx
  go_enter Tryd.func97, Tryd.ntmps97
  go_wp2_with fail
  go_quiet (fail)
  go_wp2
  go_ret
  exact ⟨⟨nq, rfl⟩, by rw [← H6.out]; rfl⟩

theorem reads_drewN {W : World} {v : Value} {xs : List Nat} (h : Reads .u32 W v xs) (n : Nat) : Reads .u32 (W.drewN n) v xs := h.below (below_drewN (Below.refl _ _) n)

/-- the topmost digits -/
theorem bit_top {xs : List Nat} (hk : Canon xs) (k : Nat) (h1 : bitsOf xs ≤ k) (h2 : k ≤ 32 * xs.length) (h0 : 0 < k) : (k - 1) / 32 < xs.length ∧ xs[(k - 1) / 32]?.getD 0 / 2 ^ ((k - 1) % 32) % 2 = if k = bitsOf xs then 1 else 0 := by
  have hl : 0 < xs.length := by omega
  have hx : xs ≠ [] := List.length_pos_iff.1 hl
  have htop := canon_last hk hx
  have htb := limb_getD hk.1 (xs.length - 1)
  obtain ⟨b1, b2, b3, b4⟩ := bitLen_bounds htop htb
  have hb : bitsOf xs = 32 * (xs.length - 1) + Lib.bitLen (xs[xs.length - 1]?.getD 0) := by rw [bitsOf, if_neg (by omega)]
  have hq : (k - 1) / 32 = xs.length - 1 := by omega
  refine ⟨by omega, ?_⟩
  rw [hq]
  rw [hb] at h1 ⊢
  generalize Lib.bitLen (xs[xs.length - 1]?.getD 0) = L at *
  generalize xs[xs.length - 1]?.getD 0 = t at *
  by_cases hkL : k = 32 * (xs.length - 1) + L
  · rw [if_pos hkL, show (k - 1) % 32 = L - 1 by omega]
    have h3 : 2 ^ L = 2 ^ (L - 1) * 2 := by rw [← Nat.pow_succ]; congr 1; omega
    have h4 : t / 2 ^ (L - 1) = 1 := by
      apply Nat.div_eq_of_lt_le <;> omega
    rw [h4]
  · rw [if_neg hkL]
    have h3 : 2 ^ L ≤ 2 ^ ((k - 1) % 32) := Nat.pow_le_pow_right (by decide) (by omega)
    rw [Nat.div_eq_of_lt (by omega)]

set_option maxHeartbeats 1000000 in
set_option maxRecDepth 100000 in
theorem digits_any (va : Value) (na : Bool) (xs : List Nat) (w : World) (ha : IntAt w va na xs) (hk : Canon xs) (hn : xs.length ≤ 100000) :
    Calls Tryd.prog 56 #[va] w fun e w' => Below w.heap.size w w' ∧ e = .returned (.int .i64 (bitsOf xs)) := by
  obtain ⟨sa, rfl, hra, hla⟩ := ha
  obtain ⟨aa, ca, rfl, hlca, hma⟩ := hra.form
  obtain ⟨n, hN⟩ : ∃ n, bitsOf xs = n := ⟨_, rfl⟩
  have HN := Lib.hid hN
  rw [hN]
  have hle : bitsOf xs ≤ 32 * xs.length := by
    by_cases hx : xs = []
    · subst hx; simp [bitsOf]
    · have hl : 0 < xs.length := List.length_pos_iff.2 hx
      obtain ⟨b1, b2, -, -⟩ := bitLen_bounds (canon_last hk hx) (limb_getD hk.1 (xs.length - 1))
      rw [bitsOf, if_neg (by omega)]
      omega
  rw [hN] at hle
  clear hN
  have b0 := (Below.refl w.heap.size w).alloc (Nat.le_refl _) (.cells #[.bool na, .slice aa xs.length ca] 24)
  have rr := RowAt.new w 24 [.bool na, .slice aa xs.length ca]
  have hra0 := hra.below b0
  obtain ⟨W0, hW0⟩ : ∃ W0, w.alloc (.cells #[.bool na, .slice aa xs.length ca] 24) = W0 := ⟨_, rfl⟩
  rw [hW0] at rr hra0 b0
  have HW := Lib.hid hW0
  clear hW0
  go_enter Tryd.func56, Tryd.ntmps56
  go_wp2
  go_loopw [3] (fun i W => ∃ k : Nat, n ≤ k ∧ k ≤ 32 * xs.length ∧ i = .int .i64 k ∧ ∃ nq, W = W0.drewN nq) (fun i _ => (intOf i).toNat)
  case atStart => exact ⟨32 * xs.length, hle, Nat.le_refl _, by go_num, 0, by rw [HW.out]; rfl⟩
  case round =>
    obtain ⟨k, hk1, hk2, rfl, nq, rfl⟩ := hrel
    have c2 : (W0.drewN nq).cell? ⟨w.heap.size, 1, none⟩ = some (.slice aa xs.length ca) := by
      have := rr.cell 1
      simp only [List.getElem?_cons_zero, List.getElem?_cons_succ] at this
      exact this
    by_cases h0 : 0 < k
    · have hd0 : decide ((0 : Int) < (k : Int)) = true := by simp <;> omega
      obtain ⟨hi, hbit⟩ := bit_top hk k (by rw [HN.out]; exact hk1) hk2 h0
      have key := bit_any (.slice aa xs.length ca) xs ((k - 1) / 32) ((k - 1) % 32) ((k : Int) - 1) (by omega) (by omega) (by omega) (by omega) (by omega) hi (W0.drewN nq) (reads_drewN hra0 nq) hla
      rw [hbit, HN.out] at key
      clear hbit hi
      by_cases hkn : k = n
      · rw [if_pos hkn] at key
        subst hkn
        go_wp2_with (go_at_call 97; with_reducible refine key.mono ?_; rintro e w2 ⟨⟨nq2, rfl⟩, rfl⟩)
        go_ret
        exact ⟨below_drewN b0 _, rfl⟩
      · rw [if_neg hkn] at key
        go_wp2_with (go_at_call 97; with_reducible refine key.mono ?_; rintro e w2 ⟨⟨nq2, rfl⟩, rfl⟩)
        exact ⟨⟨k - 1, by omega, by omega, by go_num, nq + nq2, rfl⟩, by simp [intOf] <;> omega⟩
    · obtain rfl : k = 0 := by omega
      obtain rfl : n = 0 := by omega
      go_wp2
      go_ret
      exact ⟨below_drewN b0 _, rfl⟩

end Go.Proofs.YtlghjfpkfdnfoaaDoor

/- num.split -/
namespace Go.Proofs.YtlghjfpkfdnfoaaDoor
open Go Go.RowKit Go.Shelf

theorem slice_lo (a : Option Addr) (n c : Nat) (m : Nat) (hm : m ≤ n) (hn : n ≤ c) (W : World) : (Instr.slice 22 (.slice a n c) none (some (.int .i64 (m : Int))) none).run Tryd.prog W = .ok (.slice a m c) W := by
  go_simp
  intro h
  omega
theorem slice_hi (a : Option Addr) (n c : Nat) (m : Nat) (hm : m ≤ n) (_hn : n ≤ c) (W : World) : (Instr.slice 22 (.slice a n c) (some (.int .i64 (m : Int))) none none).run Tryd.prog W = .ok (sliced a m n c 1) W := by
  go_simp
theorem trim_still (a : Option Addr) (n c : Nat) (xs : List Nat) (w : World) (h : Reads .u32 w (.slice a n c) xs) (k : Nat) : Calls Tryd.prog 64 #[.slice a n c] (w.drewN k) fun e w' => e = .returned (.slice a (trimmed xs).length c) ∧ ∃ m, w' = w.drewN m :=
  (trim_eq a n c xs (w.drewN k) h).mono fun _ _ ⟨h1, h2⟩ => ⟨h2, k, h1.symm⟩

set_option maxHeartbeats 1000000 in
set_option maxRecDepth 100000 in
theorem split_any (va : Value) (xa : List Nat) (h m : Nat) (hm : min h xa.length = m) (w : World) (ha : Reads .u32 w va xa) :
    Calls Tryd.prog 123 #[va, .int .i64 (h : Int)] w fun e w' => Below w.heap.size w w' ∧ ∃ v1 v2, e = .returned (.tuple #[v1, v2]) ∧ Reads .u32 w' v1 (trimmed (xa.take m)) ∧ Reads .u32 w' v2 (xa.drop m) := by
  obtain ⟨aa, ca, rfl, hca, hma⟩ := ha.form
  unfold maxLen at hma
  have hm1 : m ≤ xa.length := by omega
  have p2 := ha.part m xa.length hm1 (Nat.le_refl _)
  rw [List.take_of_length_le (Nat.le_refl _)] at p2
  have s1 := slice_lo aa xa.length ca m hm1 hca
  have s2 := slice_hi aa xa.length ca m hm1 hca
  have ht := trim_still aa m ca (xa.take m) w (ha.toLen m hm1)
  have p1 := trim_reads (ha.toLen m hm1)
  obtain ⟨a2, c2, e2, -, -⟩ := p2.form
  rw [e2] at p2
  simp only [e2] at s2
  clear e2
  generalize trimmed (xa.take m) = t0 at *
  generalize xa.drop m = d0 at *
  generalize t0.length = n0 at *
  generalize d0.length = n2 at *
  have hmin : min (h : Int) (xa.length : Int) = (m : Int) := by omega
  clear hm
  go_enter Tryd.func123, Tryd.ntmps123
  go_wp2_with fail
  go_quiet (first | (go_at_call 64; exact ht _))
  go_wp2
  exact bodyPost_ret (v := .tuple #[.slice aa n0 ca, .slice a2 n2 c2]) (by simp [results, Tryd.results123, go_sem]) rfl ⟨below_drewN (Below.refl _ _) nq, _, _, rfl, reads_drewN p1 nq, reads_drewN p2 nq⟩
end Go.Proofs.YtlghjfpkfdnfoaaDoor
