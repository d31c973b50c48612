/- num.timesPlus -/
import Derived.Test.YtlghjfpkfdnfoaaDoorNumMSmall
import Derived.Test.YtlghjfpkfdnfoaaDoorNumMShiftRight
import Derived.Test.YtlghjfpkfdnfoaaDoorNumMTextMath
import Derived.Test.YtlghjfpkfdnfoaaDoorNumMDivideSmall
import Derived.Test.YtlghjfpkfdnfoaaDoorNumMTextApi
namespace Go.Proofs.YtlghjfpkfdnfoaaDoor
open Go Go.RowKit Go.Shelf
attribute [local go_sem] Oper.semAt_some

set_option maxHeartbeats 2000000 in
set_option maxRecDepth 100000 in
theorem timesPlus_any (va : Value) (xa : List Nat) (f c0 : Nat) (w : World) (ha : Reads .u32 w va xa) (hla : Limbs xa) (na : xa.length ≤ 100000) (hf : f < B32) (hc0 : c0 < B32) :
    Calls Tryd.prog 116 #[va, .int .u32 (f : Int), .int .u32 (c0 : Int)] w fun e w' => Below w.heap.size w w' ∧ ∃ v cs, e = .returned v ∧ Reads .u32 w' v cs ∧ Canon cs ∧ val cs = val xa * f + c0 := by
  obtain ⟨aa, ca, rfl, hca, hma⟩ := ha.form
  unfold maxLen at hma
  have hfb := hf
  have hcb := hc0
  unfold B32 at hf hc0
  obtain ⟨inf, hi, hzz⟩ := Option.map_eq_some_iff.1 info_limb
  simp only [Prod.mk.injEq] at hzz
  obtain ⟨hz0, hz1, hz2⟩ := hzz
  refine (callsIn_wide (n := 9)).1 ?_
  refine callsIn_of_wp_marks Tryd.func116 rfl trivial ?_ rfl
  simp only [Tryd.ntmps116, List.size_toArray, List.length_cons, List.length_nil, Nat.reduceAdd, Nat.reduceSub, Array.replicate_succ, Array.replicate_zero, List.push_toArray, List.append_toArray, List.nil_append, List.cons_append]
  have hmk : ∀ w, (Instr.makeSlice 22 (.int .i64 0) (.int .i64 ((xa.length : Int) + 1))).run Tryd.prog w = .ok (.slice (some ⟨w.heap.size, 0, none⟩) 0 (xa.length + 1)) (w.alloc (.cells (zeros (xa.length + 1)) 72)) := fun w => by
    simpa using make_limbs 0 ((xa.length : Int) + 1) (by omega) (by omega) (by omega) w
  gi_wp2_with (refine ⟨trivial, ?_⟩; gi_at_call 99; refine (callsIn_wide.2 (limbs_any _ _ _ ⟨_, _, _, rfl⟩)).mono ?_; rintro e w' ⟨rfl, rfl⟩)
  clear hmk
  have r0 := make_limbs_own (w.alloc (.cells #[.int .u32 (f : Int)] 72)) (w.heap.size + 1) (xa.length + 1) (by simp) (by omega)
  have r1 := (((r0.alloc (.cells #[.slice (some ⟨w.heap.size + 1, 0, none⟩) 0 (xa.length + 1)] 22)).alloc (.cells #[.int .u64 (c0 : Int)] 79)).alloc (.cells #[.slice aa xa.length ca] 22)).alloc (.cells #[.int .i64 (xa.length : Int)] 3)
  rw [show (w.alloc (.cells #[.int .u32 (f : Int)] 72)).heap.size = w.heap.size + 1 by simp] at r1
  clear r0
  have b0 : Below w.heap.size w w := Below.refl _ _
  refine range_limbs 21 10 (w.heap.size + 5) (w.heap.size + 4) w.heap.size xa.length (.slice aa xa.length ca) xa (by exact rfl) hla (by omega) (by simp) (by simp) (by simp; omega) ?m1 ?m2 (ha.below ?m3) ha.lt
    (fun pre W => ∃ v, Boxed W (w.heap.size + 2) 22 v ∧ W.ownsRow (w.heap.size + 1) 72 1 v pre.length (enc32 (tplusFold f c0 (pre.map (·.1))).1) ∧ Boxed W (w.heap.size + 3) 79 (.int .u64 ((tplusFold f c0 (pre.map (·.1))).2 : Int)) ∧
      Boxed W (w.heap.size + 4) 22 (.slice aa xa.length ca) ∧ Boxed W w.heap.size 72 (.int .u32 (f : Int)) ∧ Below w.heap.size w W)
    (fun _ _ _ => False)
    (ownFrom_ex fun v => (ownFrom_boxed _ _ _).and ((ownFrom_row _ _ _ _ _ _).and ((ownFrom_boxed _ _ _).and ((ownFrom_boxed _ _ _).and ((ownFrom_boxed _ _ _).and (ownFrom_below (Nat.le_refl _) ?mB))))))
    (fun _ _ _ _ _ h _ _ => h.elim) ?start ?assign ?body ?done ?stop
  case mB => simp; omega
  case m1 => go_simp
  case m2 => go_simp
  case m3 => exact (((((b0.alloc (Nat.le_refl _) _).alloc (by simp) _).alloc (by simp; omega) _).alloc (by simp; omega) _).alloc (by simp; omega) _).alloc (by simp; omega) _
  case start =>
    refine ⟨_, ?_, by simpa [tplusFold, enc32] using r1, ?_, ?_, ?_, ?_⟩
    · exact Boxed.at ((((Boxed.new _ _ _).alloc _).alloc _).alloc _) (by simp)
    · exact Boxed.at (((Boxed.new _ _ _).alloc _).alloc _) (by simp)
    · exact Boxed.at ((Boxed.new _ _ _).alloc _) (by simp)
    · exact (((((Boxed.new _ _ _).alloc _).alloc _).alloc _).alloc _).alloc _
    · exact (((((b0.alloc (Nat.le_refl _) _).alloc (by simp) _).alloc (by simp; omega) _).alloc (by simp; omega) _).alloc (by simp; omega) _).alloc (by simp; omega) _
  case assign =>
    intro l x W K hK
    gi_wp2
    exact hK
  case body =>
    rintro l pre x W ⟨v, bv, rv, bc, bs, bl, bw⟩ hlt
    have hbB := bw.size
    obtain ⟨⟨i, y⟩, hi1, hi2⟩ := x
    have hps : ∀ p ∈ pre.map (·.1), p.2 < B32 := fun p hp => by
      obtain ⟨q, _, rfl⟩ := List.mem_map.1 hp
      exact q.2.2
    have hcle := (tplusFold_limbs hfb hcb (pre.map (·.1)) hps).2
    have hnext := tplusFold_snoc f c0 (pre.map (·.1)) (i, y)
    have hmap : (pre ++ [(⟨(i, y), hi1, hi2⟩ : IdxLimb xa.length)]).map (·.1) = pre.map (·.1) ++ [(i, y)] := by simp
    generalize hst : tplusFold f c0 (pre.map (·.1)) = st at *
    obtain ⟨r, c⟩ := st
    simp only [tplusStep] at hnext
    dsimp only at *
    clear hst hps
    have hm := mul_limb_lt hcle hi2 hfb
    obtain ⟨P, hP⟩ : ∃ P, y * f = P := ⟨_, rfl⟩
    rw [hP] at hnext hm
    obtain ⟨T, hT⟩ : ∃ T, c + P = T := ⟨_, rfl⟩
    rw [hT] at hnext hm
    have hmul : IntKind.u64.wrap ((y : Int) * (f : Int)) = (P : Int) := by
      rw [← Int.natCast_mul, hP, IntKind.wrap_u64]; unfold B32 at hm; omega
    have hsum : IntKind.u64.wrap ((c : Int) + (P : Int)) = (T : Int) := by
      rw [IntKind.wrap_u64]; unfold B32 at hm; omega
    clear hP hT
    have HN := Lib.hid hnext
    have HM := Lib.hid hmap
    clear hnext hmap hm
    unfold B32 at hi2
    have hbc := bc.cell
    have hfc := bc.frozen
    have hbv := bv.cell
    have hfv := bv.frozen
    have hcf := bl.cell
    have hbW := bv.lt
    have hrowA := ((rv.kept (grownBy_setCell' W (w.heap.size + 3) (.int .u64 (T : Int))) (.inr (bc.not_row (by decide) rv).symm)).alloc (.cells #[.int .u32 ((T : Int) % 4294967296)] 72))
    simp only [boundFrame]
    gi_wp2_with (gi_at_builtin; go_loud (refine wpListIn_append_own _ rfl _ _ 22 rfl (w.heap.size + 1) 72 inf (.int .u32 0) 1 4 und_limbs hi hz0 hz1 hz2 rfl (by decide) _ _ _ rfl hrowA ⟨W.heap.size, 0, none⟩ 1 1 [.int .u32 ((T : Int) % 4294967296)] rfl rfl (cell_new_plain _ _ _ _ (by simp)) (by simp [Value.oneCell']) (by unfold maxLen; omega) (by omega) (by simp; omega) ?_); intro v' w1 hown' hgrow _; obtain ⟨g', cap', rfl⟩ := ownsRow_succ hown'; go_loud (have hG := grown_step (n0 := w.heap.size) (by omega) (by omega) (by omega) (by omega) hbB (by decide) (by decide) bv bc rv (((Chg.refl (fun j => j = w.heap.size + 3) W).setCell (p := ⟨w.heap.size + 3, 0, none⟩) (.inl rfl) (.int .u64 (T : Int))).alloc (.cells #[.int .u32 ((T : Int) % 4294967296)] 72)) (Boxed.alloc (bc.set _) _) hgrow hown'); have hcc1 := hG.boxC.cell; have hcv1 := hG.boxR.cell; have hfc1 := hG.boxC.frozen; have hfv1 := hG.boxR.frozen)
    obtain ⟨f1, f2, f3, f4, f5, f6⟩ := hG.fin (.int .u64 ((T : Int) / 4294967296))
    have f7 := f6 _ _ _ (.inl (by decide)) (by omega) (by omega) bs
    refine ⟨f5 _, Kp0.boxed f4 bs f7, _, f1, ?_, ?_, f7, f6 _ _ _ (.inr (by omega)) (by omega) (by omega) bl, bw.trans f4⟩
    · rw [HM.out, HN.out, enc32_snoc, List.length_append]
      have hv : Value.int .u32 ((T % B32 : Nat) : Int) = .int .u32 ((T : Int) % 4294967296) := congrArg _ (by unfold B32; omega)
      rw [hv]
      exact f3
    · rw [HM.out, HN.out]
      have hv : Value.int .u64 ((T / B32 : Nat) : Int) = .int .u64 ((T : Int) / 4294967296) := congrArg _ (by unfold B32; omega)
      rw [hv]
      exact f2
  case done =>
    rintro D ys W hD hys ⟨v, bv, rv, bc, bs, bl, bw⟩ hK
    have hlim := tplusFold_limbs hfb hcb (limbPairs xa xa.length) (fun p hp => by
      obtain ⟨q, _, rfl⟩ := List.mem_map.1 (hys ▸ hp)
      exact q.2.2)
    have hval := tplusFold_val f c0 xa xa.length
    have hylen : ys.length = xa.length := by have := congrArg List.length hys; simpa [limbPairs_length] using this
    rw [hys] at rv bc
    rw [hylen] at rv
    clear hys hylen
    generalize tplusFold f c0 (limbPairs xa xa.length) = st at *
    obtain ⟨r, c⟩ := st
    obtain ⟨hlr, hc1⟩ := hlim
    dsimp only at *
    have HV := Lib.hid hval
    clear hval
    have hc2 : c < 4294967296 := hc1
    have hrowA := rv.alloc (.cells #[.int .u32 (c : Int)] 72)
    have hbB := bw.size
    have hbW := bv.lt
    have hbc := bc.cell
    have hbv := bv.cell
    have hnD := ownsRow_notWalk rv hK rfl
    have HD := Lib.hid hnD
    clear hnD
    gi_wp2_with (first | (gi_at_builtin; go_loud (refine wpListIn_append_own _ rfl _ _ 22 rfl (w.heap.size + 1) 72 inf (.int .u32 0) 1 4 und_limbs hi hz0 hz1 hz2 rfl (by decide) _ _ _ rfl hrowA ⟨W.heap.size, 0, none⟩ 1 1 [.int .u32 (c : Int)] rfl rfl (cell_new_plain _ _ _ _ rfl) (by simp [Value.oneCell']) (by unfold maxLen; omega) (by omega) (by simp; omega) ?_); intro v' w1 hown' hgrow _; have hrd : Reads .u32 w1 v' (r ++ [c]) := Reads.ofOwn (by simpa [enc32] using hown')) | (refine ⟨trivial, ?_⟩; gi_at_call 64; refine (callsIn_wide.2 (trim_any _ _ _ (by assumption))).mono ?_; rintro e w' ⟨rfl, v3, rfl, hr3⟩))
    have hg : (W.alloc (.cells #[.int .u32 (c : Int)] 72)).grownBy w1 v.ownBlock := hgrow
    have hK1 : w1.heap[D]? = some (.deferred (some [])) := (hg.block D (by have := (Array.getElem?_eq_some_iff.1 hK).1; simp; omega) HD.out).trans ((Below.heap_alloc W _ D (Array.getElem?_eq_some_iff.1 hK).1).trans hK)
    have hb1 : Below w.heap.size W w1 := ((Below.refl _ W).alloc hbB _).grown hg (by simp; omega) (fun k e => by have := (rv.lt k e).1; omega)
    have hlr2 : r.length = xa.length := by have := rv.1; simpa [enc32] using this
    refine ⟨by simp, .inl ⟨_, _, rfl, run_takeDeferred hK1, ?_⟩⟩
    refine ⟨_, results_tmp rfl _ _ _, (bw.trans hb1).trans (belowK_b (w := w) (Nat.le_refl _) w1 D _ _ (by simp at hD; omega) hK1 rfl rfl), v3, _, rfl, hr3.putObj hK1 rfl _, canon_trimmed (limbs_snoc hlr hc1), ?_⟩
    rw [val_trimmed, val_snoc, hlr2, HV.out, List.take_of_length_le (Nat.le_refl _)]
  case stop =>
    rintro D c pre W _ _ h _
    exact h.elim

end Go.Proofs.YtlghjfpkfdnfoaaDoor

/- num.root -/
namespace Go.Proofs.YtlghjfpkfdnfoaaDoor
open Go Go.RowKit Go.Shelf

/-- divide keeps its contract where the dividend has at most Ka limbs and the divisor at most Kb -/
def DivUpTo (Ka Kb : Nat) : Prop := ∀ (va vb : Value) (xa xb : List Nat) (w : World), Reads .u32 w va xa → Reads .u32 w vb xb → Canon xa → Canon xb → xa.length ≤ Ka → xb.length ≤ Kb → 0 < val xb →
  Calls Tryd.prog 105 #[va, vb] w fun e W' => DivRes w W' xa xb e
theorem divUpTo_one : DivUpTo 100000 1 := by
  intro va vb xa xb w ha hb hka hkb la lb h0
  cases xb with
  | nil => simp [val] at h0
  | cons d rest =>
    have hr0 : rest.length = 0 := by have : (d :: rest).length = rest.length + 1 := rfl
                                     omega
    obtain rfl : rest = [] := List.eq_nil_of_length_eq_zero hr0
    exact divide_small va vb xa d w ha hb hka hkb la

theorem Reads.inj {k : IntKind} {w : World} {v : Value} {xs ys : List Nat} (h : Reads k w v xs) (h' : Reads k w v ys) : xs = ys := by
  obtain ⟨a, c, rfl, _, _, hx⟩ := h
  obtain ⟨a', c', e, _, _, hy⟩ := h'
  simp only [Value.slice.injEq] at e
  obtain ⟨rfl, hl, rfl⟩ := e
  apply List.ext_getElem hl
  intro j h1 h2
  have e1 := (hx j h1).2
  have e2 := (hy j h2).2
  rw [e1] at e2
  simp only [Option.some.injEq, Value.int.injEq, true_and, List.getElem?_eq_getElem h1, List.getElem?_eq_getElem h2, Option.getD_some] at e2
  omega
open Classical in
noncomputable def readVal (v : Value) (W : World) : Nat := if h : ∃ xs, Reads .u32 W v xs then val (Classical.choose h) else 0
theorem readVal_eq {v : Value} {W : World} {xs : List Nat} (h : Reads .u32 W v xs) : readVal v W = val xs := by
  have hex : ∃ xs, Reads .u32 W v xs := ⟨xs, h⟩
  unfold readVal
  rw [dif_pos hex, Reads.inj (Classical.choose_spec hex) h]

structure NearInv (w : World) (A n : Nat) (v : Value) (W : World) : Prop where
  below : Below w.heap.size w W
  reads : ∃ cs, Reads .u32 W v cs ∧ Canon cs ∧ 0 < val cs ∧ val cs ^ n ≤ 2 ^ n * A ∧ (∀ r, r ^ n ≤ A → r ≤ val cs)

set_option maxHeartbeats 1000000 in
set_option maxRecDepth 100000 in
theorem root_nil (va : Value) (n : Int) (w : World) (ha : Reads .u32 w va []) :
    Calls Tryd.prog 109 #[va, .int .i64 n] w fun e w' => Below w.heap.size w w' ∧ e = .returned (.slice none 0 0) := by
  obtain ⟨aa, ca, rfl, hca, hma⟩ := ha.form
  have b0 : Below w.heap.size w w := Below.refl _ _
  go_enter Tryd.func109, Tryd.ntmps109
  go_wp2
  go_ret
  exact ⟨b0, rfl⟩

set_option maxHeartbeats 1000000 in
set_option maxRecDepth 100000 in
theorem root_one (va : Value) (xa : List Nat) (n : Nat) (w : World) (ha : Reads .u32 w va xa) (hla : Limbs xa) (hx : xa.length ≠ 0) (na : xa.length ≤ 1000) (h1 : 1 ≤ bitsOf xa) (hb : bitsOf xa ≤ n) (hn : n ≤ 100) :
    Calls Tryd.prog 109 #[va, .int .i64 n] w fun e w' => Below w.heap.size w w' ∧ ∃ v, e = .returned v ∧ Reads .u32 w' v [1] := by
  obtain ⟨aa, ca, rfl, hca, hma⟩ := ha.form
  have hq : ((bitsOf xa : Int) - 1) / n = 0 := Int.ediv_eq_zero_of_lt (by omega) (by omega)
  have hq' : ((bitsOf xa : Int) - 1).tdiv n = 0 := Int.tdiv_eq_zero_of_lt (by omega) (by omega)
  have hn0 : (n : Int) ≠ 0 := by omega
  have hn1 : n ≠ 0 := by omega
  have hbl := fun W h => bitLen_any (.slice aa xa.length ca) xa W (ha.below h) hla (by omega)
  go_enter Tryd.func109, Tryd.ntmps109
  go_wp2_with (first | (go_at_call 55; refine (hbl _ (Below.refl _ _)).mono ?_; rintro e w1 ⟨rfl, rfl⟩; generalize bitsOf xa = bits at *) | (go_at_call 106; refine (one_any _).mono ?_; rintro e w1 ⟨hbe1, v1, rfl, h1⟩; obtain ⟨a1, c1, rfl, hc1, hm1⟩ := h1.form))
  go_ret
  exact ⟨hbe1, _, rfl, h1⟩
theorem shiftRight_any (va : Value) (xa : List Nat) (n : Nat) (w : World) (ha : Reads .u32 w va xa) (hla : Limbs xa) (na : xa.length ≤ 100000) (hn : n ≤ 3200000) :
    Calls Tryd.prog 129 #[va, .int .i64 (n : Int)] w fun e w' => Below w.heap.size w w' ∧ ∃ v cs, e = .returned v ∧ Reads .u32 w' v cs ∧ Canon cs ∧ val cs = val xa / 2 ^ n := by
  have hp : 2 ^ n = B32 ^ (n / 32) * 2 ^ (n % 32) := by rw [B32_pow, ← Nat.pow_add, Nat.div_add_mod]
  by_cases hw : n / 32 < xa.length
  · refine (shiftRight_some va xa n w ha hla na hn hw).mono ?_
    rintro e w' ⟨hbe, v, cs, rfl, h1, h2, h3⟩
    refine ⟨hbe, v, cs, rfl, h1, h2, ?_⟩
    have hv := val_append (xa.take (n / 32)) (xa.drop (n / 32))
    rw [List.take_append_drop, List.length_take, Nat.min_eq_left (by omega)] at hv
    have hlt : val (xa.take (n / 32)) < B32 ^ (n / 32) := by
      have := val_lt (limbs_take hla (n / 32))
      rwa [List.length_take, Nat.min_eq_left (by omega)] at this
    rw [h3, hp, ← Nat.div_div_eq_div_mul, hv, Nat.add_mul_div_left _ _ (Nat.pow_pos B32_pos), Nat.div_eq_of_lt hlt, Nat.zero_add]
  · refine (shiftRight_none va xa n w ha hn (by omega)).mono ?_
    rintro e w' ⟨hbe, rfl⟩
    refine ⟨hbe, _, [], rfl, Reads.nil _ _, canon_nil, ?_⟩
    have hlt := val_lt hla
    have hle : B32 ^ xa.length ≤ 2 ^ n := by
      rw [hp]
      exact Nat.le_trans (Nat.pow_le_pow_right B32_pos (by omega)) (Nat.le_mul_of_pos_right _ (Nat.pow_pos (by decide)))
    rw [Nat.div_eq_of_lt (by omega)]
    rfl

theorem cmpI_nonneg (x y : Nat) : 0 ≤ cmpI (x : Int) (y : Int) ↔ y ≤ x := by
  unfold cmpI
  split
  · omega
  · split <;> omega

theorem root_length {A n L : Nat} {rs : List Nat} (hk : Canon rs) (hn : n ≠ 0) (h : val rs ^ n ≤ A) (hA : A < B32 ^ L) : rs.length ≤ L :=
  canon_length_le hk (Nat.lt_of_le_of_lt (Nat.le_trans (Nat.le_self_pow hn _) h) hA)
theorem root_length1 {A n L : Nat} {rs ps : List Nat} (hk : Canon ps) (hn : n ≠ 0) (h : val rs ^ n ≤ A) (hA : A < B32 ^ L) (hp : val ps = val rs + 1) : ps.length ≤ L + 1 := by
  apply canon_length_le hk
  have h1 : val rs < B32 ^ L := Nat.lt_of_le_of_lt (Nat.le_trans (Nat.le_self_pow hn _) h) hA
  have h2 : B32 ^ L < B32 ^ (L + 1) := Nat.pow_lt_pow_right (by decide) (by omega)
  rw [hp]
  exact Nat.lt_of_le_of_lt h1 h2
theorem canon_len_add {xs ys zs : List Nat} (hz : Canon zs) (hx : Limbs xs) (hy : Limbs ys) (e : val zs = val xs + val ys) : zs.length ≤ max xs.length ys.length + 1 := by
  apply canon_length_le hz
  have h1 := Nat.lt_of_lt_of_le (val_lt hx) (Nat.pow_le_pow_right B32_pos (Nat.le_max_left xs.length ys.length))
  have h2 := Nat.lt_of_lt_of_le (val_lt hy) (Nat.pow_le_pow_right B32_pos (Nat.le_max_right xs.length ys.length))
  rw [e, Nat.pow_succ]
  have h3 : B32 ^ max xs.length ys.length * 2 ≤ B32 ^ max xs.length ys.length * B32 := Nat.mul_le_mul_left _ (by decide)
  omega
theorem canon_len_tplus {xs zs : List Nat} {f c : Nat} (hz : Canon zs) (hx : Limbs xs) (hf : f < B32) (hc : c < B32) (e : val zs = val xs * f + c) : zs.length ≤ xs.length + 1 := by
  apply canon_length_le hz
  rw [e, Nat.pow_succ]
  have h1 := val_lt hx
  have h2 : val xs * f ≤ val xs * (B32 - 1) := Nat.mul_le_mul_left _ (by omega)
  have h3 : (val xs + 1) * B32 ≤ B32 ^ xs.length * B32 := Nat.mul_le_mul_right _ h1
  have h4 : val xs * (B32 - 1) + val xs = val xs * B32 := by
    rw [← Nat.mul_succ, show (B32 - 1).succ = B32 from rfl]
  rw [Nat.add_mul, Nat.one_mul] at h3
  omega

set_option maxHeartbeats 2000000 in
set_option maxRecDepth 100000 in
theorem root_step (K L m q half s : Nat) (hT : TimesUpTo K) (hD : DivUpTo L K) (hL : L ≤ 1000) (hK0 : 0 < K) (hK : K ≤ 1000) (hm : m < 100) (va : Value) (xa : List Nat) (w : World) (ha : Reads .u32 w va xa) (hka : Canon xa) (hx : xa.length ≠ 0) (na : xa.length ≤ L)
    (hq : (bitsOf xa - 1) / (m + 1) = q) (hq1 : 1 ≤ q) (hhalf : (q + 1) / 2 = half) (hs : (m + 1) * half = s) (hs1 : val xa / 2 ^ s ≠ 0) (h1 : 1 ≤ bitsOf xa) (hfit : 2 ^ (m + 1) * val xa < B32 ^ K)
    (hrec : ∀ v ys W, Below w.heap.size w W → Reads .u32 W v ys → Canon ys → val ys = val xa / 2 ^ s → Calls Tryd.prog 109 #[v, .int .i64 ((m : Int) + 1)] W fun e W' => Below W.heap.size W W' ∧ ∃ v' cs, e = .returned v' ∧ Reads .u32 W' v' cs ∧ Canon cs ∧ IsRoot (val xa / 2 ^ s) (m + 1) (val cs)) :
    Calls Tryd.prog 109 #[va, .int .i64 ((m : Int) + 1)] w fun e w' => Below w.heap.size w w' ∧ ∃ v cs, e = .returned v ∧ Reads .u32 w' v cs ∧ Canon cs ∧ IsRoot (val xa) (m + 1) (val cs) := by
  obtain ⟨aa, ca, rfl, hca, hma⟩ := ha.form
  have hbits : bitsOf xa ≤ 32000 := by
    unfold bitsOf
    rw [if_neg hx]
    have := (bitLen_bounds (canon_last hka (by intro h; exact hx (by simp [h]))) (limb_getD hka.1 (xa.length - 1))).2.1
    omega
  have hqb : q ≤ 32000 := by rw [← hq]; exact Nat.le_trans (Nat.div_le_self _ _) (by omega)
  have hq' : ((bitsOf xa : Int) - 1) / ((m : Int) + 1) = (q : Int) := by
    rw [← hq, show ((bitsOf xa : Int) - 1) = ((bitsOf xa - 1 : Nat) : Int) by omega]; rfl
  have hq2 : ((bitsOf xa : Int) - 1).tdiv ((m : Int) + 1) = (q : Int) := by
    rw [Int.tdiv_eq_ediv_of_nonneg (by omega)]; exact hq'
  have hh : ((q : Int) + 1) / 2 = (half : Int) := by rw [← hhalf]; omega
  have hsm : ((m : Int) + 1) * (half : Int) = (s : Int) := by rw [← hs]; push_cast; rfl
  have hsb : s ≤ 3200000 := by
    rw [← hs]; exact Nat.le_trans (Nat.mul_le_mul (show m + 1 ≤ 100 by omega) (show half ≤ 32000 by rw [← hhalf]; omega)) (by decide)
  have hw1 : IntKind.u32.wrap (m : Int) = (m : Int) := by rw [IntKind.wrap_u32']; omega
  have hw2 : IntKind.u32.wrap ((m : Int) + 1) = (m : Int) + 1 := by rw [IntKind.wrap_u32']; omega
  have hbl := fun W h => bitLen_any (.slice aa xa.length ca) xa W (ha.below h) hka.1 (by omega)
  have hA1 : val xa < B32 ^ L := Nat.lt_of_lt_of_le (val_lt hka.1) (Nat.pow_le_pow_right B32_pos na)
  have HA1 := Lib.hid hA1
  clear hA1
  have HQ := Lib.hid hq
  have HS := Lib.hid hs
  have HF := Lib.hid hfit
  have HS1 := Lib.hid hs1
  clear hq hs hfit hs1
  go_enter Tryd.func109, Tryd.ntmps109
  go_wp2_with (first
    | (go_at_call 55; refine (hbl _ (Below.refl _ _)).mono ?_; rintro e w1 ⟨rfl, rfl⟩; generalize bitsOf xa = bits at *; clear hbl)
    | (go_at_call 129; refine (shiftRight_any _ xa s _ ha hka.1 (by omega) hsb).mono ?_; rintro e w2 ⟨hbe2, v2, ys, rfl, h2, k2, e2⟩; obtain ⟨a2, c2, rfl, hc2, hm2⟩ := h2.form; have b2 := hbe2)
    | (go_at_call 109; refine (hrec _ ys _ b2 h2 k2 e2).mono ?_; rintro e w3 ⟨hbe3, v3, rs, rfl, h3, k3, e3⟩; obtain ⟨a3, c3, rfl, hc3, hm3⟩ := h3.form; have b3 := b2.trans (hbe3.mono b2.size); have hA2 := Nat.lt_of_le_of_lt (Nat.div_le_self (val xa) (2 ^ s)) HA1.out; have hlr : rs.length ≤ L := root_length k3 (by omega) e3.1 hA2; have HA2 := Lib.hid hA2; clear hA2)
    | (go_at_call 106; refine (one_any _).mono ?_; rintro e w4 ⟨hbe4, v4, rfl, h4⟩; obtain ⟨a4, c4, rfl, hc4, hm4⟩ := h4.form; have b4 := b3.trans (hbe4.mono b3.size))
    | (go_at_call 101; refine (plus_any _ _ rs [1] _ (h3.below hbe4) h4 k3.1 (by intro x hx; simp at hx; subst hx; decide) (by omega) (by simp)).mono ?_; rintro e w5 ⟨hbe5, v5, ps, rfl, h5, k5, e5⟩; have hlp : ps.length ≤ L + 1 := root_length1 k5 (show m + 1 ≠ 0 by omega) e3.1 HA2.out (by rw [e5]; rfl); obtain ⟨a5, c5, rfl, hc5, hm5⟩ := h5.form; have b5 := b4.trans (hbe5.mono b4.size))
    | (go_at_call 126; refine (shiftLeft_any _ ps half _ h5 k5.1 (by omega) (by omega)).mono ?_; rintro e w6 ⟨hbe6, v6, ns, rfl, h6, k6, e6⟩; obtain ⟨a6, c6, rfl, hc6, hm6⟩ := h6.form; have b6 := b5.trans (hbe6.mono b5.size)))
  have hpos : 0 < val xa := by
    have := HS1.out
    rcases Nat.eq_zero_or_pos (val xa) with h | h
    · rw [h, Nat.zero_div] at this; exact absurd rfl this
    · exact h
  have hs1' : 1 ≤ val rs := by
    rcases Nat.eq_zero_or_pos (val rs) with h | h
    · have := e3.2
      rw [h, Nat.zero_add, Nat.one_pow] at this
      have := HS1.out
      omega
    · exact h
  have hsE := HS.out
  have hstart : NearInv w (val xa) (m + 1) (.slice a6 ns.length c6) w6 := by
    refine ⟨b6, ns, h6, k6, ?_, ?_, ?_⟩
    · rw [e6, e5]; exact Nat.mul_pos (Nat.add_pos_left hs1' _) (Nat.pow_pos (by decide))
    · rw [e6, e5, show val [1] = 1 from rfl]
      rw [← hsE] at e3
      exact near_small e3 hs1'
    · intro r hr
      rw [← hsE] at e3
      have h9 := near_start e3
      rw [e6, e5, show val [1] = 1 from rfl]
      exact Nat.le_of_lt (Nat.lt_of_not_le fun hc => by
        have := Nat.pow_le_pow_left hc (m + 1)
        omega)
  clear hrec hq' hq2 hh hsm hsb hbits h1 HS HS1 e6 k6 h6 e5 k5 h5 e3 k3 h3 e2 k2 h2 hbe2 hbe3 hbe4 hbe5 hbe6 b2 b3 b4 b5 b6 hqb hq1 hsE hs1' hlr hlp HA2 HQ hx h4
  go_loopw [7] (fun v W => (∃ a2 n2 c2, v = .slice a2 n2 c2) ∧ NearInv w (val xa) (m + 1) v W) (fun v W => readVal v W)
  case atStart => exact ⟨⟨_, _, _, rfl⟩, hstart⟩
  case round =>
    obtain ⟨⟨a2, n2, c2, rfl⟩, hb, cs, hr, hkc, hv0, hvn, hvr⟩ := hrel
    have hA1 := HA1.out
    have hcsK : val cs < B32 ^ K := Nat.lt_of_le_of_lt (Nat.le_trans (Nat.le_self_pow (by omega) _) hvn) HF.out
    have lcs : cs.length ≤ K := canon_length_le hkc hcsK
    have hfitp : val cs ^ m < B32 ^ K := by
      refine Nat.lt_of_le_of_lt (Nat.le_trans ?_ hvn) HF.out
      rw [Nat.pow_succ]
      exact Nat.le_mul_of_pos_right _ hv0
    have hpp : 0 < val cs ^ m := Nat.pow_pos hv0
    have HV0 := Lib.hid hv0
    have HVN := Lib.hid hvn
    have HVR := Lib.hid hvr
    have HFP := Lib.hid hfitp
    have HPP := Lib.hid hpp
    have HCK := Lib.hid hcsK
    clear hv0 hvn hvr hfitp hpp hcsK hA1
    obtain ⟨a2', c2', hsl, -, -⟩ := hr.form
    simp only [Value.slice.injEq] at hsl
    obtain ⟨rfl, rfl, rfl⟩ := hsl
    have hdl : ∀ (v : Value) (ys : List Nat) (W : World), Reads .u32 W v ys → Limbs ys → ys.length ≤ 100000 → Calls Tryd.prog 112 #[v, .int .u32 ((m : Int) + 1)] W fun e w' => Below W.heap.size W w' ∧ ∃ v' cs, e = .returned (.tuple #[v', .int .u32 ((val ys % (m + 1) : Nat) : Int)]) ∧ Reads .u32 w' v' cs ∧ Canon cs ∧ val cs = val ys / (m + 1) := fun v ys W h hl hn => by
      rw [show ((m : Int) + 1) = ((m + 1 : Nat) : Int) by omega]
      exact divideLimb_any v ys (m + 1) W h hl hn (by omega) (by unfold B32; omega)
    go_wp2_with (first
      | (go_at_call 77; refine (power_any K hT hK0 _ cs m _ hr hkc (by omega) HFP.out).mono ?_; rintro e w1 ⟨hbe1, v1, qs1, rfl, h1, k1, e1⟩; obtain ⟨a1, c1, rfl, hc1, hm1⟩ := h1.form; have b1 := hb.trans (hbe1.mono hb.size))
      | (go_at_call 105; refine (hD _ _ xa qs1 _ (ha.below b1) h1 hka k1 na (canon_length_le k1 (by rw [e1]; exact HFP.out)) (by rw [e1]; exact HPP.out)).mono ?_; rintro e w2 ⟨hbe2, v2, r2, qs2, rs2, rfl, h2, h2r, k2, k2r, e2, e2r⟩; obtain ⟨a3, c3, rfl, hc3, hm3⟩ := h2.form; obtain ⟨a4, c4, rfl, hc4, hm4⟩ := h2r.form; have b2 := b1.trans (hbe2.mono b1.size); have lq2 : qs2.length ≤ 1000 := Nat.le_trans (canon_le_length hka k2 (by rw [e2]; exact Nat.div_le_self _ _)) (by omega); clear hD)
      | (go_at_call 116; refine (timesPlus_any _ cs m 0 _ ((hr.below hbe1).below hbe2) hkc.1 (by omega) (by unfold B32; omega) (by decide)).mono ?_; rintro e w3 ⟨hbe3, v3, ts, rfl, h3, k3, e3⟩; obtain ⟨a5, c5, rfl, hc5, hm5⟩ := h3.form; have b3 := b2.trans (hbe3.mono b2.size); have lts := canon_len_tplus k3 hkc.1 (show m < B32 by unfold B32; omega) (by decide) e3)
      | (go_at_call 101; refine (plus_any _ _ ts qs2 _ h3 (h2.below hbe3) k3.1 k2.1 (by omega) (by omega)).mono ?_; rintro e w4 ⟨hbe4, v4, us, rfl, h4, k4, e4⟩; obtain ⟨a6, c6, rfl, hc6, hm6⟩ := h4.form; have b4 := b3.trans (hbe4.mono b3.size); have lus := canon_len_add k4 k3.1 k2.1 e4)
      | (go_at_call 112; refine (hdl _ us _ h4 k4.1 (by omega)).mono ?_; rintro e w5 ⟨hbe5, v5, ns, rfl, h5, k5, e5⟩; obtain ⟨a7, c7, rfl, hc7, hm7⟩ := h5.form; have b5 := b4.trans (hbe5.mono b4.size); have lns : ns.length ≤ us.length := canon_le_length k4 k5 (by rw [e5]; exact Nat.div_le_self _ _))
      | (go_at_call 53; refine (compare_any _ _ ns cs _ h5 ((((hr.below hbe1).below hbe2).below hbe3).below hbe4 |>.below hbe5) k5 hkc (by omega)).mono ?_; rintro e w6 ⟨hbe6, rfl⟩; have b6 := b5.trans (hbe6.mono b5.size)))
    all_goals rename_i hc
    all_goals have E5 : val ns = ((m + 1 - 1) * val cs + val xa / val cs ^ (m + 1 - 1)) / (m + 1) := by rw [e5, e4, e3, e2, e1, Nat.add_zero, Nat.add_sub_cancel, Nat.mul_comm]
    all_goals have EI : ((val cs : Int) * (m : Int) + (val xa : Int) / (val cs : Int) ^ m) / ((m : Int) + 1) = ((val ns : Nat) : Int) := by rw [e5, e4, e3, e2, e1]; simp
    all_goals rw [EI] at hc
    · go_ret
      refine ⟨b6, _, cs, rfl, (((((hr.below hbe1).below hbe2).below hbe3).below hbe4).below hbe5).below hbe6, hkc, isRoot_of ?_ HVR.out⟩
      refine newton_stop HV0.out (Nat.succ_pos m) ?_
      rw [← E5]
      exact (cmpI_nonneg _ _).1 hc
    · have hlt : val ns < val cs := Nat.lt_of_not_le fun h => by
        have := (cmpI_nonneg (val ns) (val cs)).2 h
        omega
      refine ⟨⟨⟨_, _, _, rfl⟩, b6, ns, h5.below hbe6, k5, ?_, ?_, ?_⟩, ?_⟩
      · have := newton_ge (A := val xa) (x := val cs) (n := m + 1) (r := 1) HV0.out (Nat.succ_pos m) (by rw [Nat.one_pow]; exact hpos)
        rw [← E5] at this
        exact this
      · exact Nat.le_trans (Nat.pow_le_pow_left (Nat.le_of_lt hlt) _) HVN.out
      · intro r hr9
        have := newton_ge (A := val xa) (x := val cs) (n := m + 1) (r := r) HV0.out (Nat.succ_pos m) hr9
        rw [← E5] at this
        exact this
      · rw [readVal_eq (h5.below hbe6), readVal_eq hr]
        exact hlt

theorem root_any (K L m : Nat) (hT : TimesUpTo K) (hD : DivUpTo L K) (hL : L ≤ 1000) (hK0 : 0 < K) (hK : K ≤ 1000) (hm : m < 100) : ∀ (b : Nat) (va : Value) (xa : List Nat) (w : World), bitsOf xa ≤ b → Reads .u32 w va xa → Canon xa → xa.length ≤ L → 2 ^ (m + 1) * val xa < B32 ^ K →
    Calls Tryd.prog 109 #[va, .int .i64 ((m : Int) + 1)] w fun e w' => Below w.heap.size w w' ∧ ∃ v cs, e = .returned v ∧ Reads .u32 w' v cs ∧ Canon cs ∧ IsRoot (val xa) (m + 1) (val cs) := by
  intro b
  induction b with
  | zero =>
    intro va xa w hb ha hka _ _
    have hx : xa = [] := by
      apply Classical.byContradiction
      intro hx
      have := (bitsOf_bounds hka hx).1
      omega
    subst hx
    refine (root_nil va _ w ha).mono ?_
    rintro e w' ⟨hbe, rfl⟩
    exact ⟨hbe, _, [], rfl, Reads.nil _ _, canon_nil, by simp [IsRoot, val]⟩
  | succ b ih =>
    intro va xa w hb ha hka hla hfit
    by_cases hx : xa = []
    · subst hx
      refine (root_nil va _ w ha).mono ?_
      rintro e w' ⟨hbe, rfl⟩
      exact ⟨hbe, _, [], rfl, Reads.nil _ _, canon_nil, by simp [IsRoot, val]⟩
    · obtain ⟨h1, h2, h3⟩ := bitsOf_bounds hka hx
      have hlx : xa.length ≠ 0 := fun h => hx (List.eq_nil_of_length_eq_zero h)
      by_cases hone : bitsOf xa ≤ m + 1
      · have e1 : ((m : Int) + 1) = ((m + 1 : Nat) : Int) := by omega
        rw [e1]
        refine (root_one va xa (m + 1) w ha hka.1 hlx (by omega) h1 hone (by omega)).mono ?_
        rintro e w' ⟨hbe, v, rfl, hr⟩
        refine ⟨hbe, v, [1], rfl, hr, ⟨by intro x hx; simp at hx; subst hx; decide, rfl⟩, ?_⟩
        have hv : val [1] = 1 := rfl
        rw [hv]
        refine ⟨?_, Nat.lt_of_lt_of_le h3 (Nat.pow_le_pow_right (by decide) hone)⟩
        rw [Nat.one_pow]
        exact Nat.le_trans (Nat.pow_pos (by decide)) h2
      · obtain ⟨q, hq⟩ : ∃ q, (bitsOf xa - 1) / (m + 1) = q := ⟨_, rfl⟩
        have hq1 : 1 ≤ q := by rw [← hq, Nat.le_div_iff_mul_le (Nat.succ_pos m)]; omega
        obtain ⟨half, hh⟩ : ∃ half, (q + 1) / 2 = half := ⟨_, rfl⟩
        obtain ⟨s, hs⟩ : ∃ s, (m + 1) * half = s := ⟨_, rfl⟩
        have hsq : s ≤ bitsOf xa - 1 := by
          have h4 : (m + 1) * half ≤ (m + 1) * q := Nat.mul_le_mul_left _ (by omega)
          have h5 : (m + 1) * q ≤ bitsOf xa - 1 := by rw [← hq]; exact Nat.mul_div_le _ _
          omega
        have hs0 : 1 ≤ s := by
          rw [← hs]
          exact Nat.mul_pos (Nat.succ_pos m) (by omega)
        have hdiv : val xa / 2 ^ s ≠ 0 := by
          have h4 : 2 ^ s ≤ val xa := Nat.le_trans (Nat.pow_le_pow_right (by decide) hsq) h2
          have := Nat.div_pos h4 (Nat.pow_pos (by decide))
          omega
        refine root_step K L m q half s hT hD hL hK0 hK hm va xa w ha hka hlx hla hq hq1 hh hs hdiv h1 hfit ?_
        intro v ys W hW hr hk hv
        have hle : val ys ≤ val xa := by rw [hv]; exact Nat.div_le_self _ _
        rw [← hv]
        refine ih v ys W ?_ hr hk (Nat.le_trans (canon_le_length hka hk hle) hla) (Nat.lt_of_le_of_lt (Nat.mul_le_mul_left _ hle) hfit)
        by_cases hy : ys = []
        · subst hy; simp [bitsOf]
        · obtain ⟨g1, g2, -⟩ := bitsOf_bounds hk hy
          rw [hv] at g2
          have g3 : val xa / 2 ^ s < 2 ^ (bitsOf xa - s) := by
            rw [Nat.div_lt_iff_lt_mul (Nat.pow_pos (by decide)), ← Nat.pow_add, show bitsOf xa - s + s = bitsOf xa by omega]
            exact h3
          have g4 := (Nat.pow_lt_pow_iff_right (a := 2) (by decide)).1 (Nat.lt_of_le_of_lt g2 g3)
          omega

end Go.Proofs.YtlghjfpkfdnfoaaDoor

/- num.floorRoot -/
namespace Go.Proofs.YtlghjfpkfdnfoaaDoor
open Go Go.RowKit Go.Shelf

/-- what stays on the way: the integer, the result's variable -/
structure FrS (w w1 : World) (na : Bool) (aa : Option Addr) (xa : List Nat) (ca : Nat) (X : World) : Prop where
  a : RowAt X w.heap.size 24 [.bool na, .slice aa xa.length ca]
  res : RowAt X (w.heap.size + 1) 24 [.bool false, .slice none 0 0]
  below : Below w.heap.size w X
  ra : Reads .u32 X (.slice aa xa.length ca) xa
  keep : ∀ v xs, Reads .u32 w1 v xs → Reads .u32 X v xs
@[reducible] def FrC (w w1 : World) (na : Bool) (aa : Option Addr) (xa : List Nat) (ca : Nat) (X : World) : Prop :=
  X.cell? ⟨w.heap.size, 0, none⟩ = some (.bool na) ∧ X.cell? ⟨w.heap.size, 1, none⟩ = some (.slice aa xa.length ca) ∧ FrS w w1 na aa xa ca X
section
variable {w w1 X : World} {na : Bool} {aa : Option Addr} {xa : List Nat} {ca : Nat}
theorem fr_of (h : FrS w w1 na aa xa ca X) : FrC w w1 na aa xa ca X := ⟨h.a.cell 0, h.a.cell 1, h⟩
theorem fr_drew (h : FrS w w1 na aa xa ca X) : FrC w w1 na aa xa ca X.drew := fr_of ⟨h.a, h.res, h.below.drew, h.ra, h.keep⟩
theorem fr_step {X' : World} (h : FrS w w1 na aa xa ca X) (hb : Below X.heap.size X X') : FrC w w1 na aa xa ca X' :=
  fr_of ⟨h.a.below hb, h.res.below hb, h.below.trans (hb.mono h.below.size), h.ra.below hb, fun v xs hv => (h.keep v xs hv).below hb⟩
end

set_option maxHeartbeats 1000000 in
set_option maxRecDepth 100000 in
theorem floorRoot_exact (K L m : Nat) (hT : TimesUpTo K) (hD : DivUpTo L K) (hL : L ≤ 1000) (hK0 : 0 < K) (hK : K ≤ 1000) (hm : m < 100) (va : Value) (xa : List Nat) (r : Nat) (w : World) (ha : Reads .u32 w va xa) (hka : Canon xa) (hla : xa.length ≤ L) (hfit : 2 ^ (m + 1) * val xa < B32 ^ K) (hr : r ^ (m + 1) = val xa) :
    Calls Tryd.prog 79 #[.agg #[.bool true, va], .int .i64 ((m : Int) + 1)] w fun e w' => Below w.heap.size w w' ∧ ∃ v, e = .returned v ∧ IsInt w' v (-(r : Int)) := by
  obtain ⟨aa, ca, rfl, hca, hma⟩ := ha.form
  have b0 := ((Below.refl w.heap.size w).alloc (Nat.le_refl _) (.cells #[.bool true, .slice aa xa.length ca] 24)).alloc (by simp) (.cells #[.bool false, .slice none 0 0] 24)
  have r1 := (RowAt.new w 24 [.bool true, .slice aa xa.length ca]).alloc (.cells #[.bool false, .slice none 0 0] 24)
  have r2 := RowAt.new (w.alloc (.cells #[.bool true, .slice aa xa.length ca] 24)) 24 [.bool false, .slice none 0 0]
  simp only [World.size_alloc] at r2
  have hS0 : FrS w w true aa xa ca ((w.alloc (.cells #[.bool true, .slice aa xa.length ca] 24)).alloc (.cells #[.bool false, .slice none 0 0] 24)) := ⟨r1, r2, b0, ha.below b0, fun v xs h => h.below b0⟩
  generalize hW0 : (w.alloc (.cells #[.bool true, .slice aa xa.length ca] 24)).alloc (.cells #[.bool false, .slice none 0 0] 24) = W0 at hS0
  have hroot := root_any K L m hT hD hL hK0 hK hm (bitsOf xa) (.slice aa xa.length ca) xa W0 (Nat.le_refl _) hS0.ra hka hla hfit
  have hpw : ∀ (v : Value) (rs : List Nat) (W : World), Reads .u32 W v rs → Canon rs → val rs = r → Calls Tryd.prog 77 #[v, .int .i64 ((m : Int) + 1)] W fun e w' => Below W.heap.size W w' ∧ ∃ v' cs, e = .returned v' ∧ Reads .u32 w' v' cs ∧ Canon cs ∧ val cs = val xa := fun v rs W h hk hv => by
    rw [show ((m : Int) + 1) = ((m + 1 : Nat) : Int) by omega, ← hr, ← hv]
    refine power_any K hT hK0 v rs (m + 1) W h hk (by omega) ?_
    rw [hv, hr]
    exact Nat.lt_of_le_of_lt (Nat.le_mul_of_pos_left _ (Nat.pow_pos (by decide))) hfit
  have hcp : ∀ (v : Value) (ps : List Nat) (W : World), Reads .u32 W v ps → Canon ps → val ps = val xa → Reads .u32 W (.slice aa xa.length ca) xa → Calls Tryd.prog 53 #[v, .slice aa xa.length ca] W fun e w' => Below W.heap.size W w' ∧ e = .returned (.int .i64 0) := fun v ps W h hk hv hx => by
    have := compare_any v (.slice aa xa.length ca) ps xa W h hx hk hka (Nat.le_trans (Nat.le_of_eq (by rw [canon_inj hk hka hv])) (show xa.length ≤ 1000000 by omega))
    rwa [hv, cmpI_self] at this
  have hrr : ∀ s, IsRoot (val xa) (m + 1) s → s = r := fun s h => by
    have h1 := isRoot_le h (s := r) (by rw [hr]; exact Nat.le_refl _)
    refine Nat.le_antisymm (Nat.le_of_not_lt fun hc => ?_) h1
    have h2 : (r + 1) ^ (m + 1) ≤ s ^ (m + 1) := Nat.pow_le_pow_left hc _
    have h3 := h.1
    have h4 : r ^ (m + 1) < (r + 1) ^ (m + 1) := Nat.pow_lt_pow_left (by omega) (by omega)
    omega
  have HW := Lib.hid hW0
  clear hr hfit hW0 r1 r2 b0
  go_enter Tryd.func79, Tryd.ntmps79
  go_wp2_with (go_at_call 109; (try rw [HW.out]); refine hroot.mono ?_; rintro e w3 ⟨hbe3, v3, rs, rfl, h3, k3, e3⟩; obtain ⟨a3, c3, rfl, hc3, hm3⟩ := h3.form)
  have hS3 : FrS w w3 true aa xa ca w3 := ⟨hS0.a.below hbe3, hS0.res.below hbe3, hS0.below.trans (hbe3.mono hS0.below.size), hS0.ra.below hbe3, fun _ _ h => h⟩
  have hD3 := Lib.hid (fr_drew hS3)
  obtain ⟨d1, d2, -⟩ := fr_of hS3
  have er := hrr _ e3
  clear hS0 hS3 hroot hrr HW e3 hbe3
  go_region_held3 (fun X => X.cell? ⟨w.heap.size, 0, none⟩ = some (.bool true) ∧ X.cell? ⟨w.heap.size, 1, none⟩ = some (.slice aa xa.length ca) ∧ FrS w w3 true aa xa ca X)
    (first | exact hD3.out | (go_split_ands; exact fr_step (by assumption) hbe4) | (go_split_ands; exact fr_step (by assumption) hbe5))
    (first
      | (go_at_call 77; go_split_ands; refine (hpw _ rs _ (FrS.keep (by assumption) _ _ h3) k3 er).mono ?_; rintro e w4 ⟨hbe4, v4, ps, rfl, h4, k4, e4⟩; obtain ⟨a4, c4, rfl, hc4, hm4⟩ := h4.form)
      | (go_at_call 53; go_split_ands; refine (hcp _ ps _ h4 k4 e4 (FrS.ra (by assumption))).mono ?_; rintro e w5 ⟨hbe5, rfl⟩))
  rename_i hT5
  obtain ⟨o1, o2, hS5⟩ := hT5
  have h5 := hS5.keep _ _ h3
  go_wp2_with (go_at_call 63; refine (signed_any _ _ _ _ _).mono ?_; rintro e w6 ⟨hbe6, rfl⟩; have hres := hS5.res.below hbe6; have q1 := hres.cell 0; have q2 := hres.cell 1; have q3 := hres.frozen 0; have q4 := hres.frozen 1; have h6 := h5.below hbe6; simp only [List.getElem?_cons_zero, List.getElem?_cons_succ] at q1 q2)
  obtain ⟨s1, s2⟩ := two_reads (b := w.heap.size + 1) q1 q2 (.bool (decide (0 < rs.length))) (.slice a3 rs.length c3)
  have hk := two_kept (b := w.heap.size + 1) h6 q1 q2 (.bool (decide (0 < rs.length))) (.slice a3 rs.length c3)
  have b6 := hS5.below.trans (hbe6.mono hS5.below.size)
  have b7 : Below w.heap.size w ((w6.setCell ⟨w.heap.size + 1, 0, none⟩ (.bool (decide (0 < rs.length)))).setCell ⟨w.heap.size + 1, 1, none⟩ (.slice a3 rs.length c3)) := (b6.setCell (by simp) _).setCell (by simp) _
  have hI : IsInt ((w6.setCell ⟨w.heap.size + 1, 0, none⟩ (.bool (decide (0 < rs.length)))).setCell ⟨w.heap.size + 1, 1, none⟩ (.slice a3 rs.length c3)) (.agg #[.bool (decide (0 < rs.length)), .slice a3 rs.length c3]) (-(r : Int)) := by
    have := isInt_mk true hk k3 (i := -(r : Int)) (by rw [er]; rfl)
    rwa [Bool.true_and] at this
  refine bodyPost_ret (v := .agg #[.bool (decide (0 < rs.length)), .slice a3 rs.length c3]) (by simp [results, Tryd.results79, go_sem, loadCellsFrom, s1, s2]) rfl ⟨b7, _, rfl, hI⟩

set_option maxHeartbeats 4000000 in
set_option maxRecDepth 100000 in
theorem root1_exact (B : Nat) (na : Bool) (aa : Option Addr) (ca : Nat) (xa : List Nat) (m : Nat) (r0 : Bool) (r1 : Option Addr) (r2 r3 : Nat) (w : World) (hra : RowAt w B 24 [.bool na, .slice aa xa.length ca]) (hrn : RowAt w (B + 1) 3 [.int .i64 ((m : Int) + 1)]) (hrr : RowAt w (B + 2) 24 [.bool r0, .slice r1 r2 r3])
    (ha : Reads .u32 w (.slice aa xa.length ca) xa) (hla : Limbs xa) (fa : formedB na xa = true) (hm : m < 100) (hpar : na = false ∨ ((m : Int) + 1).tmod 2 = 1) (i : Int)
    (hop : ∀ W, Below w.heap.size w W → Calls Tryd.prog 79 #[.agg #[.bool na, .slice aa xa.length ca], .int .i64 ((m : Int) + 1)] W fun e W' => Below W.heap.size W W' ∧ ∃ v, e = .returned v ∧ IsInt W' v i) :
    Calls Tryd.prog 78 #[.pointer (some ⟨B, 0, none⟩), .pointer (some ⟨B + 1, 0, none⟩), .pointer (some ⟨B + 2, 0, none⟩)] w fun e w' => e = .returned (.tuple #[]) ∧ Chg (fun k => k = B + 2) w w' ∧ ∃ m a l c, RowAt w' (B + 2) 24 [.bool m, .slice a l c] ∧ IsInt w' (.agg #[.bool m, .slice a l c]) i := by
  have a0 := hra.cell 0
  have a1 := hra.cell 1
  have n0 := hrn.cell 0
  simp only [List.getElem?_cons_zero, List.getElem?_cons_succ] at a0 a1 n0
  have r0' := RowAt.new w 24 [.bool na, .slice aa xa.length ca]
  have bw := (Below.refl w.heap.size w).alloc (Nat.le_refl _) (.cells #[.bool na, .slice aa xa.length ca] 24)
  have hpar' : na = true → ((m : Int) + 1).tmod 2 = 1 := fun h => hpar.resolve_left (by simp [h])
  clear hpar
  cases na
  all_goals try replace hpar' := hpar' rfl
  all_goals
    go_enter Tryd.func78, Tryd.ntmps78
    go_wp2_with (first
      | (go_at_call 59; refine (demand1_ok _ _ aa ca xa _ r0' (ha.below bw) hla fa).mono ?_; rintro e w1 ⟨hbe1, rfl⟩; have bw1 := bw.trans (hbe1.mono (by simp)); have p0 := (hra.below bw1).cell 0; have p2 := (hra.below bw1).cell 1; have p1 := (hrn.below bw1).cell 0; simp only [List.getElem?_cons_zero, List.getElem?_cons_succ] at p0 p1 p2)
      | (go_at_call 60; refine (demand_ok _ _ _ (by first | rfl | (simp; omega))).mono ?_; rintro e w2 ⟨rfl, rfl⟩)
      | (go_at_call 79; refine (hop _ bw1).mono ?_; rintro e w3 ⟨hbe3, v, rfl, n9, v9, x9, rfl, g1, k1, l1, m1⟩; have bw3 := bw1.trans (hbe3.mono bw1.size); obtain ⟨y1, c1, rfl, -, -⟩ := g1.form; have sr := hrr.below bw3; have o1 := sr.cell 0; have o2 := sr.cell 1; have o5 := sr.frozen 0; have o6 := sr.frozen 1; simp only [List.getElem?_cons_zero, List.getElem?_cons_succ] at o1 o2))
    have hk := two_kept (b := B + 2) g1 o1 o2 (.bool n9) (.slice y1 x9.length c1)
    go_end0
    exact ⟨rfl, (((Chg.refl (fun k => k = B + 2) w).thenBelow bw3).setCell (p := ⟨B + 2, 0, none⟩) (.inl rfl) _).setCell (p := ⟨B + 2, 1, none⟩) (.inl rfl) _, n9, y1, x9.length, c1, (sr.set 0 (.bool n9)).set 1 (.slice y1 x9.length c1), n9, _, x9, rfl, hk, k1, l1, m1⟩

set_option maxHeartbeats 1000000 in
set_option maxRecDepth 100000 in
theorem root1_none (B : Nat) (aa : Option Addr) (ca : Nat) (xa : List Nat) (n : Int) (w : World) (hra : RowAt w B 24 [.bool true, .slice aa xa.length ca]) (hrn : RowAt w (B + 1) 3 [.int .i64 n])
    (ha : Reads .u32 w (.slice aa xa.length ca) xa) (hla : Limbs xa) (fa : formedB true xa = true) (h1 : 1 ≤ n) (h100 : n ≤ 100) (hpar : n.tmod 2 = 0) :
    Calls Tryd.prog 78 #[.pointer (some ⟨B, 0, none⟩), .pointer (some ⟨B + 1, 0, none⟩), .pointer (some ⟨B + 2, 0, none⟩)] w fun e w' => Below w.heap.size w w' ∧ e = .panicked [{ v := .iface 27 (.int .i64 5), recovered := false }] := by
  have a0 := hra.cell 0
  have a1 := hra.cell 1
  have n0 := hrn.cell 0
  simp only [List.getElem?_cons_zero, List.getElem?_cons_succ] at a0 a1 n0
  have r0' := RowAt.new w 24 [.bool true, .slice aa xa.length ca]
  have bw := (Below.refl w.heap.size w).alloc (Nat.le_refl _) (.cells #[.bool true, .slice aa xa.length ca] 24)
  go_enter Tryd.func78, Tryd.ntmps78
  go_wp2_with (first
    | (go_at_call 59; refine (demand1_ok _ _ aa ca xa _ r0' (ha.below bw) hla fa).mono ?_; rintro e w1 ⟨hbe1, rfl⟩; have bw1 := bw.trans (hbe1.mono (by simp)); have p0 := (hra.below bw1).cell 0; have p2 := (hra.below bw1).cell 1; have p1 := (hrn.below bw1).cell 0; simp only [List.getElem?_cons_zero, List.getElem?_cons_succ] at p0 p1 p2)
    | (go_at_call 60; refine (demand_ok _ _ _ (by first | rfl | (simp; omega))).mono ?_; rintro e w2 ⟨rfl, rfl⟩)
    | (go_at_call 60; refine (demand_no _ _ _ (by first | rfl | simp)).mono ?_; rintro e w2 ⟨rfl, rfl⟩))
  all_goals exact ⟨rfl, bw1, rfl⟩
end Go.Proofs.YtlghjfpkfdnfoaaDoor

/- num: Pow, Root, Text where they answer a number or a text; Root where there is no root -/
namespace Go.Proofs.YtlghjfpkfdnfoaaDoor
open Go Go.RowKit Go.Shelf

theorem formedB_bounds {n : Bool} {xs : List Nat} (hl : Limbs xs) (f : formedB n xs = true) : Canon xs ∧ xs.length ≤ 300 := by
  simp only [formedB, Bool.and_eq_true, decide_eq_true_eq] at f
  exact ⟨⟨hl, f.1.2⟩, f.1.1⟩

theorem Text_ok (va : Value) (na : Bool) (xa : List Nat) (b : Nat) (w : World) (ha : IntAt w va na xa) (fa : formedB na xa = true) (h2 : 2 ≤ b) (h36 : b ≤ 36) (hT : DigitsAt w) :
    Calls Tryd.prog 46 #[va, .int .i64 (b : Int)] w fun e w' => Below w.heap.size w w' ∧ ∃ s : ByteArray, e = .returned (.tuple #[.string s, .int .i64 0]) ∧ s.data.toList.map (·.toNat) = textOf na b (val xa) := by
  refine (Text_of va na xa (b : Int) w ha (fun k _ v => k = 0 ∧ ∃ s : ByteArray, v = .string s ∧ s.data.toList.map (·.toNat) = textOf na b (val xa)) (fun _ _ _ _ h _ => h) ?_).mono ?_
  · intro B aa ca W4 hb4 hra hrn hrr hrd he
    obtain ⟨va', he', _, hl⟩ := ha
    refine (text1_ok B na aa ca xa b _ W4 hra hrn hrr hrd hl fa h2 h36 (hT.below hb4)).mono ?_
    rintro e W ⟨rfl, hch, s, hs, ht⟩
    exact ⟨0, .inl ⟨rfl, rfl⟩, hch, s, hs, rfl, s, rfl, ht⟩
  · rintro e W ⟨hbe, r0, k, rfl, rfl, s, rfl, hs⟩
    exact ⟨hbe, s, rfl, hs⟩

set_option exponentiation.threshold 400 in
theorem Pow_ok (va : Value) (xa : List Nat) (n K : Nat) (hT : TimesUpTo K) (hK : 0 < K) (w : World) (ha : IntAt w va false xa) (fa : formedB false xa = true) (hn : n ≤ 9600) (hnear : ((bitsOf xa : Int) - 1) * n < 9600) (hbb : bitsOf xa ≤ 9600) (hfitK : val xa ^ n < B32 ^ K) (hfit : val xa ^ n < B32 ^ 300) :
    Calls Tryd.prog 37 #[va, .int .i64 (n : Int)] w fun e w' => Below w.heap.size w w' ∧ ∃ v, e = .returned (.tuple #[v, .int .i64 0]) ∧ IsInt w' v (sgn false (val xa) ^ n) := by
  refine (Pow_of va false xa (n : Int) w ha (fun k W v => k = 0 ∧ IsInt W v (sgn false (val xa) ^ n)) (fun _ _ _ _ h hk => ⟨h.1, h.2.keep hk⟩) ?_).mono ?_
  · intro B aa ca W4 hb4 hra hrn hrr hrd he
    obtain ⟨va', he', _, hl⟩ := ha
    obtain ⟨hkx, hxl⟩ := formedB_bounds hl fa
    refine (pow1_ok B aa ca xa n _ _ _ _ K hT hK W4 hra hrn hrr hrd hkx fa hn hxl hnear hbb hfitK hfit).mono ?_
    rintro e W ⟨rfl, hch, m, a, l, c, hr, hi⟩
    exact ⟨0, .inl ⟨rfl, rfl⟩, hch, m, a, l, c, hr, rfl, hi⟩
  · rintro e W ⟨hbe, r0, k, rfl, rfl, hi⟩
    exact ⟨hbe, _, rfl, hi⟩

theorem Root_ok (va : Value) (na : Bool) (xa : List Nat) (m : Nat) (w : World) (ha : IntAt w va na xa) (fa : formedB na xa = true) (hm : m < 100) (hpar : na = false ∨ ((m : Int) + 1).tmod 2 = 1) (i : Int)
    (hop : ∀ W, Below w.heap.size w W → Calls Tryd.prog 79 #[va, .int .i64 ((m : Int) + 1)] W fun e W' => Below W.heap.size W W' ∧ ∃ v, e = .returned v ∧ IsInt W' v i) :
    Calls Tryd.prog 38 #[va, .int .i64 ((m : Int) + 1)] w fun e w' => Below w.heap.size w w' ∧ ∃ v, e = .returned (.tuple #[v, .int .i64 0]) ∧ IsInt w' v i := by
  refine (Root_of va na xa ((m : Int) + 1) w ha (fun k W v => k = 0 ∧ IsInt W v i) (fun _ _ _ _ h hk => ⟨h.1, h.2.keep hk⟩) ?_).mono ?_
  · intro B aa ca W4 hb4 hra hrn hrr hrd he
    obtain ⟨va', he', _, hl⟩ := ha
    refine (root1_exact B na aa ca xa m _ _ _ _ W4 hra hrn hrr hrd hl fa hm hpar i (fun W hW => ?_)).mono ?_
    · rw [← he]
      exact hop W (hb4.trans (hW.mono hb4.size))
    · rintro e W ⟨rfl, hch, m, a, l, c, hr, hi⟩
      exact ⟨0, .inl ⟨rfl, rfl⟩, hch, m, a, l, c, hr, rfl, hi⟩
  · rintro e W ⟨hbe, r0, k, rfl, rfl, hi⟩
    exact ⟨hbe, _, rfl, hi⟩

theorem Root_none (va : Value) (xa : List Nat) (n : Int) (w : World) (ha : IntAt w va true xa) (fa : formedB true xa = true) (h1 : 1 ≤ n) (h100 : n ≤ 100) (hpar : n.tmod 2 = 0) :
    Calls Tryd.prog 38 #[va, .int .i64 n] w fun e w' => Below w.heap.size w w' ∧ e = .returned (.tuple #[zeroInt, .int .i64 5]) := by
  refine (Root_of va true xa n w ha (fun k W v => k = 5 ∧ v = zeroInt) (fun _ _ _ _ h _ => h) ?_).mono ?_
  · intro B aa ca W4 hb4 hra hrn hrr hrd he
    obtain ⟨va', he', _, hl⟩ := ha
    refine (root1_none B aa ca xa n W4 hra hrn hrd hl fa h1 h100 hpar).mono ?_
    rintro e W ⟨hbe, rfl⟩
    exact ⟨5, .inr rfl, (Chg.refl _ W4).thenBelow hbe, false, none, 0, 0, hrr.below hbe, rfl, rfl⟩
  · rintro e W ⟨hbe, r0, k, rfl, rfl, rfl⟩
    exact ⟨hbe, rfl⟩

end Go.Proofs.YtlghjfpkfdnfoaaDoor
