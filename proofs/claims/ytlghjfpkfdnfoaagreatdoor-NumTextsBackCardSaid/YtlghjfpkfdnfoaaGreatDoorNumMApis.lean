/- num.timesPlus -/
import Derived.Test.YtlghjfpkfdnfoaaGreatDoorNumMTimesSmall
import Derived.WalkKit
import Derived.WalkLawsBesides
import Derived.WalkSpells
import Derived.RegionTactic
import Derived.ChangeAlike
import Derived.Outline
import Derived.Laws.OwnMore
import Derived.Test.YtlghjfpkfdnfoaaGreatDoorNumMChunks
import Derived.Test.YtlghjfpkfdnfoaaGreatDoorNumMLimbs
import Derived.Test.YtlghjfpkfdnfoaaGreatDoorNumMFloored
import Derived.Test.YtlghjfpkfdnfoaaGreatDoorNumMDifference
import Derived.Deep.DeepFit
namespace Go.Proofs.YtlghjfpkfdnfoaaGreatDoor
open Go Go.RowKit Go.Shelf
attribute [local go_sem] Oper.semAt_some

set_option maxHeartbeats 2000000 in
set_option maxRecDepth 100000 in
theorem timesPlus_any (va : Value) (xa : List Nat) (f c0 : Nat) (w : World) (ha : Reads .u32 w va xa) (hla : Limbs xa) (na : xa.length ≤ 100000) (hf : f < B32) (hc0 : c0 < B32) :
    Calls Tryz.prog 64 #[va, .int .u32 (f : Int), .int .u32 (c0 : Int)] w fun e w' => Below w.heap.size w w' ∧ ∃ v cs, e = .returned v ∧ Reads .u32 w' v cs ∧ Canon cs ∧ val cs = val xa * f + c0 := by
  obtain ⟨aa, ca, rfl, hca, hma⟩ := ha.form
  unfold maxLen at hma
  have hfb := hf
  have hcb := hc0
  unfold B32 at hf hc0
  obtain ⟨inf, hi, hzz⟩ := Option.map_eq_some_iff.1 info_limb
  simp only [Prod.mk.injEq] at hzz
  obtain ⟨hz0, hz1, hz2⟩ := hzz
  refine (callsIn_wide (n := 9)).1 ?_
  refine callsIn_of_wp_marks Tryz.func64 rfl trivial ?_ rfl
  simp only [Tryz.ntmps64, List.size_toArray, List.length_cons, List.length_nil, Nat.reduceAdd, Nat.reduceSub, Array.replicate_succ, Array.replicate_zero, List.push_toArray, List.append_toArray, List.nil_append, List.cons_append]
  have hmk : ∀ w, (Instr.makeSlice 22 (.int .i64 0) (.int .i64 ((xa.length : Int) + 1))).run Tryz.prog w = .ok (.slice (some ⟨w.heap.size, 0, none⟩) 0 (xa.length + 1)) (w.alloc (.cells (zeros (xa.length + 1)) 52)) := fun w => by
    simpa using make_limbs 0 ((xa.length : Int) + 1) (by omega) (by omega) (by omega) w
  gi_wp2_with (refine ⟨trivial, ?_⟩; gi_at_call 90; refine (callsIn_wide.2 (limbs_any _ _ _ ⟨_, _, _, rfl⟩)).mono ?_; rintro e w' ⟨rfl, rfl⟩)
  clear hmk
  have r0 := make_limbs_own (w.alloc (.cells #[.int .u32 (f : Int)] 52)) (w.heap.size + 1) (xa.length + 1) (by simp) (by omega)
  have r1 := (((r0.alloc (.cells #[.slice (some ⟨w.heap.size + 1, 0, none⟩) 0 (xa.length + 1)] 22)).alloc (.cells #[.int .u64 (c0 : Int)] 77)).alloc (.cells #[.slice aa xa.length ca] 22)).alloc (.cells #[.int .i64 (xa.length : Int)] 3)
  rw [show (w.alloc (.cells #[.int .u32 (f : Int)] 52)).heap.size = w.heap.size + 1 by simp] at r1
  clear r0
  have b0 : Below w.heap.size w w := Below.refl _ _
  refine range_limbs 21 10 (w.heap.size + 5) (w.heap.size + 4) w.heap.size xa.length (.slice aa xa.length ca) xa (by exact rfl) hla (by omega) (by simp) (by simp) (by simp; omega) ?m1 ?m2 (ha.below ?m3) ha.lt
    (fun pre W => ∃ v, Boxed W (w.heap.size + 2) 22 v ∧ W.ownsRow (w.heap.size + 1) 52 1 v pre.length (enc32 (tplusFold f c0 (pre.map (·.1))).1) ∧ Boxed W (w.heap.size + 3) 77 (.int .u64 ((tplusFold f c0 (pre.map (·.1))).2 : Int)) ∧
      Boxed W (w.heap.size + 4) 22 (.slice aa xa.length ca) ∧ Boxed W w.heap.size 52 (.int .u32 (f : Int)) ∧ Below w.heap.size w W)
    (fun _ _ _ => False)
    (ownFrom_ex fun v => (ownFrom_boxed _ _ _).and ((ownFrom_row _ _ _ _ _ _).and ((ownFrom_boxed _ _ _).and ((ownFrom_boxed _ _ _).and ((ownFrom_boxed _ _ _).and (ownFrom_below (Nat.le_refl _) ?mB))))))
    (fun _ _ _ _ _ h _ _ => h.elim) ?start ?assign ?body ?done ?stop
  case mB => simp; omega
  case m1 => go_simp
  case m2 => go_simp
  case m3 => exact (((((b0.alloc (Nat.le_refl _) _).alloc (by simp) _).alloc (by simp; omega) _).alloc (by simp; omega) _).alloc (by simp; omega) _).alloc (by simp; omega) _
  case start =>
    refine ⟨_, ?_, by simpa [tplusFold, enc32] using r1, ?_, ?_, ?_, ?_⟩
    · exact Boxed.at ((((Boxed.new _ _ _).alloc _).alloc _).alloc _) (by simp)
    · exact Boxed.at (((Boxed.new _ _ _).alloc _).alloc _) (by simp)
    · exact Boxed.at ((Boxed.new _ _ _).alloc _) (by simp)
    · exact (((((Boxed.new _ _ _).alloc _).alloc _).alloc _).alloc _).alloc _
    · exact (((((b0.alloc (Nat.le_refl _) _).alloc (by simp) _).alloc (by simp; omega) _).alloc (by simp; omega) _).alloc (by simp; omega) _).alloc (by simp; omega) _
  case assign =>
    intro l x W K hK
    gi_wp2
    exact hK
  case body =>
    rintro l pre x W ⟨v, bv, rv, bc, bs, bl, bw⟩ hlt
    have hbB := bw.size
    obtain ⟨⟨i, y⟩, hi1, hi2⟩ := x
    have hps : ∀ p ∈ pre.map (·.1), p.2 < B32 := fun p hp => by
      obtain ⟨q, _, rfl⟩ := List.mem_map.1 hp
      exact q.2.2
    have hcle := (tplusFold_limbs hfb hcb (pre.map (·.1)) hps).2
    have hnext := tplusFold_snoc f c0 (pre.map (·.1)) (i, y)
    have hmap : (pre ++ [(⟨(i, y), hi1, hi2⟩ : IdxLimb xa.length)]).map (·.1) = pre.map (·.1) ++ [(i, y)] := by simp
    generalize hst : tplusFold f c0 (pre.map (·.1)) = st at *
    obtain ⟨r, c⟩ := st
    simp only [tplusStep] at hnext
    dsimp only at *
    clear hst hps
    have hm := mul_limb_lt hcle hi2 hfb
    obtain ⟨P, hP⟩ : ∃ P, y * f = P := ⟨_, rfl⟩
    rw [hP] at hnext hm
    obtain ⟨T, hT⟩ : ∃ T, c + P = T := ⟨_, rfl⟩
    rw [hT] at hnext hm
    have hmul : IntKind.u64.wrap ((y : Int) * (f : Int)) = (P : Int) := by
      rw [← Int.natCast_mul, hP, IntKind.wrap_u64]; unfold B32 at hm; omega
    have hsum : IntKind.u64.wrap ((c : Int) + (P : Int)) = (T : Int) := by
      rw [IntKind.wrap_u64]; unfold B32 at hm; omega
    clear hP hT
    have HN := Lib.hid hnext
    have HM := Lib.hid hmap
    clear hnext hmap hm
    unfold B32 at hi2
    have hbc := bc.cell
    have hfc := bc.frozen
    have hbv := bv.cell
    have hfv := bv.frozen
    have hcf := bl.cell
    have hbW := bv.lt
    have hrowA := ((rv.kept (grownBy_setCell' W (w.heap.size + 3) (.int .u64 (T : Int))) (.inr (bc.not_row (by decide) rv).symm)).alloc (.cells #[.int .u32 ((T : Int) % 4294967296)] 52))
    simp only [boundFrame]
    gi_wp2_with (gi_at_builtin; go_loud (refine wpListIn_append_own _ rfl _ _ 22 rfl (w.heap.size + 1) 52 inf (.int .u32 0) 1 4 und_limbs hi hz0 hz1 hz2 rfl (by decide) _ _ _ rfl hrowA ⟨W.heap.size, 0, none⟩ 1 1 [.int .u32 ((T : Int) % 4294967296)] rfl rfl (cell_new_plain _ _ _ _ (by simp)) (by simp [Value.oneCell']) (by unfold maxLen; omega) (by omega) (by simp; omega) ?_); intro v' w1 hown' hgrow _; obtain ⟨g', cap', rfl⟩ := ownsRow_succ hown'; go_loud (have hG := grown_step (n0 := w.heap.size) (by omega) (by omega) (by omega) (by omega) hbB (by decide) (by decide) bv bc rv (((Chg.refl (fun j => j = w.heap.size + 3) W).setCell (p := ⟨w.heap.size + 3, 0, none⟩) (.inl rfl) (.int .u64 (T : Int))).alloc (.cells #[.int .u32 ((T : Int) % 4294967296)] 52)) (Boxed.alloc (bc.set _) _) hgrow hown'); have hcc1 := hG.boxC.cell; have hcv1 := hG.boxR.cell; have hfc1 := hG.boxC.frozen; have hfv1 := hG.boxR.frozen)
    obtain ⟨f1, f2, f3, f4, f5, f6⟩ := hG.fin (.int .u64 ((T : Int) / 4294967296))
    have f7 := f6 _ _ _ (.inl (by decide)) (by omega) (by omega) bs
    refine ⟨f5 _, Kp0.boxed f4 bs f7, _, f1, ?_, ?_, f7, f6 _ _ _ (.inr (by omega)) (by omega) (by omega) bl, bw.trans f4⟩
    · rw [HM.out, HN.out, enc32_snoc, List.length_append]
      have hv : Value.int .u32 ((T % B32 : Nat) : Int) = .int .u32 ((T : Int) % 4294967296) := congrArg _ (by unfold B32; omega)
      rw [hv]
      exact f3
    · rw [HM.out, HN.out]
      have hv : Value.int .u64 ((T / B32 : Nat) : Int) = .int .u64 ((T : Int) / 4294967296) := congrArg _ (by unfold B32; omega)
      rw [hv]
      exact f2
  case done =>
    rintro D ys W hD hys ⟨v, bv, rv, bc, bs, bl, bw⟩ hK
    have hlim := tplusFold_limbs hfb hcb (limbPairs xa xa.length) (fun p hp => by
      obtain ⟨q, _, rfl⟩ := List.mem_map.1 (hys ▸ hp)
      exact q.2.2)
    have hval := tplusFold_val f c0 xa xa.length
    have hylen : ys.length = xa.length := by have := congrArg List.length hys; simpa [limbPairs_length] using this
    rw [hys] at rv bc
    rw [hylen] at rv
    clear hys hylen
    generalize tplusFold f c0 (limbPairs xa xa.length) = st at *
    obtain ⟨r, c⟩ := st
    obtain ⟨hlr, hc1⟩ := hlim
    dsimp only at *
    have HV := Lib.hid hval
    clear hval
    have hc2 : c < 4294967296 := hc1
    have hrowA := rv.alloc (.cells #[.int .u32 (c : Int)] 52)
    have hbB := bw.size
    have hbW := bv.lt
    have hbc := bc.cell
    have hbv := bv.cell
    have hnD := ownsRow_notWalk rv hK rfl
    have HD := Lib.hid hnD
    clear hnD
    gi_wp2_with (first | (gi_at_builtin; go_loud (refine wpListIn_append_own _ rfl _ _ 22 rfl (w.heap.size + 1) 52 inf (.int .u32 0) 1 4 und_limbs hi hz0 hz1 hz2 rfl (by decide) _ _ _ rfl hrowA ⟨W.heap.size, 0, none⟩ 1 1 [.int .u32 (c : Int)] rfl rfl (cell_new_plain _ _ _ _ rfl) (by simp [Value.oneCell']) (by unfold maxLen; omega) (by omega) (by simp; omega) ?_); intro v' w1 hown' hgrow _; have hrd : Reads .u32 w1 v' (r ++ [c]) := Reads.ofOwn (by simpa [enc32] using hown')) | (refine ⟨trivial, ?_⟩; gi_at_call 57; refine (callsIn_wide.2 (trim_any _ _ _ (by assumption))).mono ?_; rintro e w' ⟨rfl, v3, rfl, hr3⟩))
    have hg : (W.alloc (.cells #[.int .u32 (c : Int)] 52)).grownBy w1 v.ownBlock := hgrow
    have hK1 : w1.heap[D]? = some (.deferred (some [])) := (hg.block D (by have := (Array.getElem?_eq_some_iff.1 hK).1; simp; omega) HD.out).trans ((Below.heap_alloc W _ D (Array.getElem?_eq_some_iff.1 hK).1).trans hK)
    have hb1 : Below w.heap.size W w1 := ((Below.refl _ W).alloc hbB _).grown hg (by simp; omega) (fun k e => by have := (rv.lt k e).1; omega)
    have hlr2 : r.length = xa.length := by have := rv.1; simpa [enc32] using this
    refine ⟨by simp, .inl ⟨_, _, rfl, run_takeDeferred hK1, ?_⟩⟩
    refine ⟨_, results_tmp rfl _ _ _, (bw.trans hb1).trans (belowK_b (w := w) (Nat.le_refl _) w1 D _ _ (by simp at hD; omega) hK1 rfl rfl), v3, _, rfl, hr3.putObj hK1 rfl _, canon_trimmed (limbs_snoc hlr hc1), ?_⟩
    rw [val_trimmed, val_snoc, hlr2, HV.out, List.take_of_length_le (Nat.le_refl _)]
  case stop =>
    rintro D c pre W _ _ h _
    exact h.elim

end Go.Proofs.YtlghjfpkfdnfoaaGreatDoor

/- slices.Reverse of bytes that the caller owns -/
namespace Go.Proofs.YtlghjfpkfdnfoaaGreatDoor
open Go Go.RowKit

theorem und_bytes : Tryz.prog.underlying 63 = some (.slice 5) := by kernel_rfl
theorem und_byte : Tryz.prog.underlying 5 = some (.int .u8) := by kernel_rfl
theorem und_string : Tryz.prog.underlying 9 = some .string := by kernel_rfl
theorem info_byte : (Tryz.prog.info? 5).map (fun i => (i.zero, i.size, i.bytes)) = some (some (.int .u8 0), 1, 1) := by kernel_rfl
theorem size_byte (w : World) : (sizeOf 5).run Tryz.prog w = .ok 1 w := by kernel_rfl
/-- the cells of a list of bytes -/
def enc8 (xs : List Nat) : List Value := xs.map fun (x : Nat) => Value.int .u8 (x : Int)
theorem enc8_snoc (xs : List Nat) (x : Nat) : enc8 (xs ++ [x]) = enc8 xs ++ [.int .u8 (x : Int)] := by simp [enc8]
theorem enc8_length (xs : List Nat) : (enc8 xs).length = xs.length := by simp [enc8]
theorem enc8_set (xs : List Nat) (i x : Nat) : enc8 (xs.set i x) = (enc8 xs).set i (.int .u8 (x : Int)) := by simp [enc8, List.map_set]

theorem own_form {W : World} {B n : Nat} {e : TypeId} {s : Value} {ys : List Value} (h : W.ownsRow B e 1 s n ys) : ∃ a c, s = .slice a n c := by
  rcases h.2 with ⟨rfl, h0⟩ | ⟨g, cap, cur, rfl, _⟩
  · exact ⟨none, 0, by rw [h0]⟩
  · exact ⟨_, _, rfl⟩
theorem own_form_pos {W : World} {B n : Nat} {e : TypeId} {s : Value} {ys : List Value} (h : W.ownsRow B e 1 s n ys) (hn : 0 < n) : ∃ g c, s = .slice (some ⟨g, 0, none⟩) n c ∧ n ≤ c ∧ c ≤ maxLen := by
  rcases h.2 with ⟨rfl, h0⟩ | ⟨g, cap, cur, rfl, _, _, h1, h2, _⟩
  · omega
  · exact ⟨_, _, rfl, h1, h2⟩

/-- the first k, and the last k, are exchanged -/
def Swapped (bs cur : List Nat) (k : Nat) : Prop := cur.length = bs.length ∧ ∀ i, i < bs.length → cur[i]? = if i < k ∨ bs.length - k ≤ i then bs[bs.length - 1 - i]? else bs[i]?
theorem Swapped.step {bs cur : List Nat} {k m : Nat} (h : Swapped bs cur k) (hkm : k < m) (hm : k + m + 1 = bs.length) : Swapped bs ((cur.set k (cur[m]?.getD 0)).set m (cur[k]?.getD 0)) (k + 1) := by
  obtain ⟨hl, hc⟩ := h
  refine ⟨by simp [hl], fun i hi => ?_⟩
  have hk1 := hc k (by omega)
  have hm1 := hc m (by omega)
  rw [if_neg (by omega)] at hk1 hm1
  have hkd : cur[k]?.getD 0 = bs[k]?.getD 0 := by rw [hk1]
  have hmd : cur[m]?.getD 0 = bs[m]?.getD 0 := by rw [hm1]
  rw [hkd, hmd]
  by_cases e1 : i = m
  · subst e1
    rw [if_pos (by omega), List.getElem?_set_self (by simp; omega), show bs.length - 1 - i = k by omega, List.getElem?_eq_getElem (show k < bs.length by omega)]
    rfl
  · rw [List.getElem?_set_ne (by omega)]
    by_cases e2 : i = k
    · subst e2
      rw [if_pos (by omega), List.getElem?_set_self (by omega), show bs.length - 1 - i = m by omega, List.getElem?_eq_getElem (show m < bs.length by omega)]
      rfl
    · rw [List.getElem?_set_ne (by omega), hc i hi]
      by_cases e3 : i < k ∨ bs.length - k ≤ i
      · rw [if_pos e3, if_pos (by omega)]
      · rw [if_neg e3, if_neg (by omega)]
theorem Swapped.done {bs cur : List Nat} {k : Nat} (h : Swapped bs cur k) (hk : bs.length ≤ 2 * k + 1) (hkl : k ≤ bs.length) : cur = bs.reverse := by
  obtain ⟨hl, hc⟩ := h
  apply List.ext_getElem?
  intro i
  by_cases hi : i < bs.length
  · rw [hc i hi, List.getElem?_reverse hi]
    by_cases e3 : i < k ∨ bs.length - k ≤ i
    · rw [if_pos e3]
    · rw [if_neg e3, show bs.length - 1 - i = i by omega]
  · rw [List.getElem?_eq_none (by omega), List.getElem?_eq_none (by simp; omega)]

set_option maxHeartbeats 1000000 in
set_option maxRecDepth 100000 in
theorem reverse_any (base g cap : Nat) (bs : List Nat) (w : World) (hn : bs.length ≤ 1000000) (hown : w.ownsRow base 5 1 (.slice (some ⟨g, 0, none⟩) bs.length cap) bs.length (enc8 bs)) :
    Calls Tryz.prog 61 #[.slice (some ⟨g, 0, none⟩) bs.length cap] w fun e w' => e = .returned (.tuple #[]) ∧ Chg (fun k => k = g) w w' ∧ w'.ownsRow base 5 1 (.slice (some ⟨g, 0, none⟩) bs.length cap) bs.length (enc8 bs.reverse) := by
  obtain ⟨n, hN⟩ : ∃ n, bs.length = n := ⟨_, rfl⟩
  have hix : ∀ (j : Nat) (W : World), j < n → (Instr.indexAt 63 (.slice (some ⟨g, 0, none⟩) n cap) (.int .i64 (j : Int))).run Tryz.prog W = .ok (.pointer (some ⟨g, j, none⟩)) W := fun j W hj => by
    have := index_lookAt (P := Tryz.prog) 63 5 und_bytes size_byte (some ⟨g, 0, none⟩) n cap j hj ⟨_, _, rfl⟩ .i64 W
    simpa [lookAt] using this
  rw [hN] at hown hn ⊢
  have HN := Lib.hid hN
  have HIX := Lib.hid hix
  clear hN hix
  go_enter Tryz.func61, Tryz.ntmps61
  go_wp2
  go_loopw [2, 3] (fun i j W => ∃ (k : Nat) (cur : List Nat), i = .int .i64 k ∧ j = .int .i64 ((n : Int) - 1 - k) ∧ k ≤ n ∧ Swapped bs cur k ∧ W.ownsRow base 5 1 (.slice (some ⟨g, 0, none⟩) n cap) n (enc8 cur) ∧ Chg (fun k => k = g) w W)
    (fun i _ _ => n - (intOf i).toNat)
  case atStart => exact ⟨0, bs, rfl, by simp, Nat.zero_le _, ⟨rfl, fun i hi => by rw [if_neg (by omega)]⟩, hown, Chg.refl _ _⟩
  case round =>
    obtain ⟨k, cur, rfl, rfl, hk, hsw, hrow, hch⟩ := hrel
    by_cases hlt : 2 * k + 1 < n
    · obtain ⟨m, hm⟩ : ∃ m : Nat, (n : Int) - 1 - k = m := ⟨n - 1 - k, by omega⟩
      have hkm : k < m := by omega
      have hmn : m < n := by omega
      rw [hm]
      have hlen : cur.length = n := hsw.1.trans HN.out
      have ck := hrow.cellAt k (by omega)
      have cm := hrow.cellAt m (by omega)
      obtain ⟨a, ha⟩ : ∃ a, cur[k]?.getD 0 = a := ⟨_, rfl⟩
      obtain ⟨b, hb⟩ : ∃ b, cur[m]?.getD 0 = b := ⟨_, rfl⟩
      have ek : (enc8 cur)[k]? = some (.int .u8 (a : Int)) := by rw [← ha]; simp [enc8, List.getElem?_eq_getElem (show k < cur.length by omega)]
      have em : (enc8 cur)[m]? = some (.int .u8 (b : Int)) := by rw [← hb]; simp [enc8, List.getElem?_eq_getElem (show m < cur.length by omega)]
      rw [ek] at ck
      rw [em] at cm
      have fk := hrow.frozenAt k
      have fm := hrow.frozenAt m
      have i1 := fun W => HIX.out k W (by omega)
      have i2 := fun W => HIX.out m W (by omega)
      have hd : decide ((k : Int) < (m : Int)) = true := by simp; omega
      have HM := Lib.hid hm
      have HA := Lib.hid (And.intro ha hb)
      clear hm ha hb ek em
      have hkm' : ¬ k = m := by omega
      have hk0 : (0 : Int) ≤ (k : Int) := by omega
      go_wp2_with fail
      go_region
      go_wp2
      have s1 := hrow.stored k (.int .u8 (b : Int))
      have s2 := s1.1.stored m (.int .u8 (a : Int))
      refine ⟨⟨k + 1, (cur.set k b).set m a, by go_num, ?_, by omega, ?_, ?_, ?_⟩, by simp [intOf]; omega⟩
      · have := HM.out
        congr 1
        omega
      · have := hsw.step hkm (by have := HN.out; have := HM.out; omega)
        rw [HA.out.1, HA.out.2] at this
        exact this
      · rw [enc8_set, enc8_set]
        exact s2.1.drew
      · exact ((hch.setCell (p := ⟨g, k, none⟩) (.inl rfl) _).setCell (p := ⟨g, m, none⟩) (.inl rfl) _).drew
    · have hd : decide ((k : Int) < (n : Int) - 1 - (k : Int)) = false := by simp; omega
      have hfin := hsw.done (by have := HN.out; omega) (by have := HN.out; omega)
      subst hfin
      go_wp2
      go_end0
      exact ⟨rfl, hch, hrow⟩

end Go.Proofs.YtlghjfpkfdnfoaaGreatDoor

/- num.text -/
namespace Go.Proofs.YtlghjfpkfdnfoaaGreatDoor
open Go Go.RowKit Go.Shelf

/-- the table of the digits lies in memory -/
def DigitsAt (W : World) : Prop := ∀ i, i < 36 → W.cell? ⟨0, i, none⟩ = some (.int .u8 ((digChar i : Nat) : Int))
theorem DigitsAt.below {W W' : World} (h : DigitsAt W) (hb : Below W.heap.size W W') : DigitsAt W' := fun i hi =>
  (hb.cell (World.block_lt_of_cell? W _ (h i hi))).trans (h i hi)
theorem DigitsAt.belowS {W W' : World} (h : DigitsAt W) (hb : Below W.heap.size W W') : DigitsAt W' := h.below hb

/-- no cell of the slice lies in a row of bytes of the call's own -/
def ApartB (B : Nat) (W : World) (v : Value) : Prop := ∀ a n c, v = .slice (some a) n c → a.block < B ∨ ∃ cs fz, W.heap[a.block]? = some (.cells cs 52 fz)
theorem ownsRow_keep {W W1 : World} {B n : Nat} {s v : Value} {ys : List Value} {xs : List Nat} {o : Obj} (hs : W.ownsRow B 5 1 s n ys) (hg : (W.alloc o).grownBy W1 s.ownBlock) 
    (hr : Reads .u32 W v xs) (ha : ApartB B W v) : Reads .u32 W1 v xs ∧ ApartB B W1 v := by
  have hne : ∀ a n c, v = .slice (some a) n c → a.block < W.heap.size → some a.block ≠ s.ownBlock := fun a n c e hlt hc => by
    rcases ha a n c e with h | ⟨cs, fz, h⟩
    · have := (hs.lt a.block hc.symm).1
      omega
    · rcases hs.2 with ⟨rfl, -⟩ | ⟨g', cap', cur, rfl, _, hg', _⟩
      · simp [Value.ownBlock] at hc
      · simp only [Value.ownBlock, Option.some.injEq] at hc
        rw [hc] at h
        rw [h] at hg'
        simp at hg'
  have hkeep : ∀ k, k < W.heap.size → some k ≠ s.ownBlock → W1.heap[k]? = W.heap[k]? := fun k hk hn => (hg.block k (by simp; omega) hn).trans (Below.heap_alloc W o k hk)
  constructor
  · obtain ⟨a, cap, rfl, hc, hm, hcell⟩ := hr
    refine ⟨a, cap, rfl, hc, hm, fun j hj => ⟨(hcell j hj).1, ?_⟩⟩
    obtain ⟨⟨b, off, rfl⟩, h2⟩ := hcell j hj
    have hlt := World.block_lt_of_cell? W _ h2
    have h3 := hkeep b hlt (hne ⟨b, off, none⟩ _ _ rfl hlt)
    rw [← h2]
    exact World.cell?_of_block h3
  · intro a n c e
    rcases ha a n c e with h | ⟨cs, fz, h⟩
    · exact .inl h
    · have hlt : a.block < W.heap.size := (Array.getElem?_eq_some_iff.1 h).1
      exact .inr ⟨cs, fz, (hkeep _ hlt (hne a n c e hlt)).trans h⟩
theorem ownsRow_below1 {B : Nat} {e : TypeId} {k : Nat} {v : Value} {n : Nat} {xs : List Value} {w w' : World} (h : w.ownsRow B e k v n xs) (hb : Below w.heap.size w w') : w'.ownsRow B e k v n xs :=
  h.kept (row := none) ⟨hb.os, hb.tape, hb.output, hb.size, fun j hj _ => hb.block j hj⟩ (by cases v.ownBlock <;> simp)

/-- the bytes of the digits so far -/
def digBytes (b N A : Nat) : List Nat := (digs b N A).map digChar
theorem digBytes_length (b N A : Nat) : (digBytes b N A).length = N := by simp [digBytes, digs_length]
theorem digBytes_snoc (b N A : Nat) : digBytes b (N + 1) A = digBytes b N A ++ [digChar (A / b ^ N % b)] := by simp [digBytes, digs_snoc]
theorem pow_lt_of_dvd {b N A L : Nat} (hb : 2 ≤ b) (h : 0 < A / b ^ N) (hA : A < B32 ^ L) : N < 32 * L := by
  have h1 : b ^ N ≤ A := by
    apply Classical.byContradiction
    intro hc
    rw [Nat.div_eq_of_lt (by omega)] at h
    omega
  have h2 : 2 ^ N ≤ b ^ N := Nat.pow_le_pow_left hb N
  have h3 : 2 ^ N < 2 ^ (32 * L) := by rw [← B32_pow]; omega
  exact (Nat.pow_lt_pow_iff_right (by decide)).1 h3

/-- bytes as a string -/
def bytesOf (bs : List Nat) : ByteArray := strOfNums (bs.map fun (x : Nat) => (x : Int))
theorem bytesOf_toNat {bs : List Nat} (h : ∀ x ∈ bs, x < 256) : (bytesOf bs).data.toList.map (·.toNat) = bs := by
  rw [bytesOf, strOfNums_data, List.map_map, List.map_map]
  conv => rhs; rw [← List.map_id bs]
  refine List.map_congr_left fun x hx => ?_
  have := h x hx
  simp [Function.comp]
  omega
theorem conv_bytes {W : World} {base g cap n : Nat} {bs : List Nat} (hn : bs.length = n) (h : W.ownsRow base 5 1 (.slice (some ⟨g, 0, none⟩) n cap) n (enc8 bs)) :
    (convert 63 9 (.slice (some ⟨g, 0, none⟩) n cap)).run Tryz.prog W = .ok (.string (bytesOf bs)) W :=
  run_convert_bytes_arg W 63 5 und_bytes und_byte g 0 n cap (bs.map fun (x : Nat) => (x : Int)) (by simpa using hn) (fun i hi => by
    rw [Nat.zero_add, h.cellAt i (by omega)]
    simp [enc8, List.getElem?_eq_getElem (show i < bs.length by omega)]) 9 und_string
def lenSlice : Value → Nat
  | .slice _ n _ => n
  | _ => 0
theorem digit_at {A b N m k : Nat} (hk : k < m) : A / b ^ N % b ^ m / b ^ k % b = A / b ^ (N + k) % b := by
  obtain ⟨j, rfl⟩ : ∃ j, m = k + 1 + j := ⟨m - k - 1, by omega⟩
  generalize hX : A / b ^ N = X
  have h1 : X % b ^ (k + 1 + j) / b ^ k = X / b ^ k % b ^ (1 + j) := by
    rw [show k + 1 + j = k + (1 + j) by omega, Nat.pow_add]
    exact Nat.mod_mul_right_div_self X (b ^ k) (b ^ (1 + j))
  rw [h1, Nat.mod_mod_of_dvd _ ⟨b ^ j, by rw [Nat.pow_add]; simp⟩, ← hX, Nat.div_div_eq_div_mul, Nat.pow_add]

set_option exponentiation.threshold 400 in
set_option maxHeartbeats 2000000 in
set_option maxRecDepth 100000 in
theorem text_any (neg : Bool) (va : Value) (xa : List Nat) (b : Nat) (w : World) (ha : Reads .u32 w va xa) (hka : Canon xa) (na : xa.length ≤ 300) (h2 : 2 ≤ b) (h36 : b ≤ 36) (hT : DigitsAt w) :
    Calls Tryz.prog 26 #[.agg #[.bool neg, va], .int .i64 b] w fun e w' => Below w.heap.size w w' ∧ ∃ s : ByteArray, e = .returned (.string s) ∧ s.data.toList.map (·.toNat) = textOf neg b (val xa) := by
  obtain ⟨aa, ca, rfl, hca, hma⟩ := ha.form
  unfold maxLen at hma
  obtain ⟨A, hA⟩ : ∃ A, val xa = A := ⟨_, rfl⟩
  have hAb : A < B32 ^ 300 := by rw [← hA]; exact Nat.lt_of_lt_of_le (val_lt hka.1) (Nat.pow_le_pow_right B32_pos na)
  have hw : IntKind.u32.wrap (b : Int) = b := by simp only [IntKind.wrap_u32]; omega
  obtain ⟨inf, hi, hzz⟩ := Option.map_eq_some_iff.1 info_byte
  simp only [Prod.mk.injEq] at hzz
  obtain ⟨hz0, hz1, hz2⟩ := hzz
  have b0 := (Below.refl w.heap.size w).alloc (Nat.le_refl _) (.cells #[.bool neg, .slice aa xa.length ca] 24)
  have ha0 := ha.below b0
  have hap : ApartB (w.heap.size + 1) (w.alloc (.cells #[.bool neg, .slice aa xa.length ca] 24)) (.slice aa xa.length ca) ∨ xa = [] := by
    by_cases hx : xa = []
    · exact .inr hx
    · exact .inl fun a n c e => .inl (Nat.lt_succ_of_lt (ha.lt a n c e hx))
  have r0 := RowAt.new w 24 [.bool neg, .slice aa xa.length ca]
  have hT0 : DigitsAt (w.alloc (.cells #[.bool neg, .slice aa xa.length ca] 24)) := hT.below b0
  obtain ⟨W0, hW0⟩ : ∃ W0, (w.alloc (.cells #[.bool neg, .slice aa xa.length ca] 24)) = W0 := ⟨_, rfl⟩
  have hz0 : W0.heap.size = w.heap.size + 1 := by rw [← hW0]; simp
  rw [hW0] at ha0 hap r0 b0 hT0
  rw [← hz0] at hap
  have HW := Lib.hid (And.intro hW0 hz0)
  clear hW0 hz0 hT
  have HZ := Lib.hid (And.intro hz0 (And.intro hz1 hz2))
  have HA := Lib.hid (And.intro hA hAb)
  clear hz0 hz1 hz2 hA hAb
  go_enter Tryz.func26, Tryz.ntmps26
  go_wp2_with (go_at_call 59; refine (chunk_any b _ h2 h36).mono ?_; rintro e w1 ⟨rfl, m, he, hm1, hm31, hmb⟩; obtain ⟨U, hU⟩ : ∃ U, b ^ m = U := ⟨_, rfl⟩; rw [hU] at he hmb; have HU := Lib.hid (And.intro hU hmb); clear hU hmb; subst he)
  go_loopw [7, 8] (fun s left W => ∃ N xs, W.ownsRow W0.heap.size 5 1 s N (enc8 (digBytes b N A)) ∧ Reads .u32 W left xs ∧ Canon xs ∧ val xs = A / b ^ N ∧ (ApartB W0.heap.size W left ∨ xs = []) ∧ Below W0.heap.size W0 W ∧ N ≤ 10000) (fun s _ _ => 20000 - lenSlice s)
  case atStart => exact ⟨0, xa, World.ownsRow_nil _ _ _ _, by rw [HW.out.1]; exact ha0, hka, by simp [HA.out.1], by rw [HW.out.1]; exact hap, by rw [HW.out.1]; exact Below.refl _ _, by omega⟩
  case round =>
    obtain ⟨N, xs, hown, hrd, hkx, hvx, hapx, hbe, hN⟩ := hrel
    obtain ⟨sa, sc, rfl⟩ := own_form hown
    obtain ⟨la, lc, rfl, hlc, hlm⟩ := hrd.form
    unfold maxLen at hlm
    by_cases hz : xs.length = 0
    · have hx0 : xs = [] := List.eq_nil_of_length_eq_zero hz
      subst hx0
      have hdg := digits_eq h2 (show A / b ^ N = 0 from hvx.symm)
      have hl36 : ∀ d ∈ digs b N A, d < 36 := fun d hd => Nat.lt_of_lt_of_le (digs_lt (by omega) N A d hd) h36
      have hlN := digs_length b N A
      rw [digBytes] at hown
      generalize digs b N A = ys at *
      have HL := Lib.hid (And.intro hdg (And.intro hl36 hlN))
      clear hdg hl36 hlN hvx hapx hz hkx hrd hlc hlm
      have HO := Lib.hid hown
      clear hown
      go_wp2
      go_loop [7] (fun s => ∃ zs, trimmed zs = digits b A ∧ (∀ d ∈ zs, d < 36) ∧ zs.length ≤ 10000 ∧ wr.ownsRow W0.heap.size 5 1 s zs.length (enc8 (zs.map digChar))) (fun s => lenSlice s)
      case atStart => exact ⟨ys, HL.out.1, HL.out.2.1, by rw [HL.out.2.2]; exact hN, by rw [HL.out.2.2]; exact HO.out⟩
      case round =>
        obtain ⟨zs, htz, hz36, hzl, hown⟩ := hrel
        clear HO HL
        have hs0 := hbe.size
        rcases List.eq_nil_or_concat zs with rfl | ⟨ys', d, hzs⟩
        · obtain ⟨sa, sc, rfl⟩ := own_form hown
          have hA0 : A = 0 := (digits_nil_iff h2).1 (by rw [← htz]; rfl)
          have hT1 : textOf neg b (val xa) = [48] := by rw [HA.out.1, hA0]; rfl
          have HT := Lib.hid hT1
          clear hT1
          go_wp2_with (first | (at_builtin; refine wpList_append_own _ rfl _ _ 63 rfl W0.heap.size 5 inf (.int .u8 0) 1 1 und_bytes hi HZ.out.1 HZ.out.2.1 HZ.out.2.2 rfl (by decide) _ _ _ rfl (hown.alloc _) ⟨wr.heap.size, 0, none⟩ 1 1 [.int .u8 48] rfl rfl (cell_new_plain _ _ _ _ rfl) (by simp [Value.oneCell']) (by unfold maxLen; omega) (by omega) (by simp; omega) ?_; intro v' w5 hown' hgrow _))
          have hown1 : w5.ownsRow W0.heap.size 5 1 v' 1 (enc8 [48]) := hown'
          obtain ⟨g, sc5, rfl, hsc5, hscm5⟩ := own_form_pos hown1 (by omega)
          have hg := (hown1.lt g rfl).1
          have hb5 : Below W0.heap.size W0 w5 := hbe.trans (((Below.refl _ wr).alloc hs0 _).grown hgrow (by simp; omega) (fun k e => by have := (hown.lt k e).1; omega))
          clear hown' hgrow
          refine (reverse_any W0.heap.size g sc5 [48] w5 (by simp) hown1).mono ?_
          rintro e w6 ⟨rfl, hch6, hr6⟩
          have hcv := conv_bytes (n := 1) (bs := [48].reverse) rfl hr6
          have hb6 := hch6.below (B := W0.heap.size) (fun i hi => by omega) hb5.size
          go_wp2
          go_ret
          exact ⟨b0.trans ((hb5.trans hb6).mono b0.size), _, rfl, by rw [HT.out]; exact bytesOf_toNat (by simp)⟩
        · rw [List.concat_eq_append] at hzs
          subst hzs
          have hl1 : (ys' ++ [d]).length = ys'.length + 1 := by simp
          rw [hl1] at hown hzl
          obtain ⟨g, sc, rfl, hsc, hscm⟩ := own_form_pos hown (by omega)
          unfold maxLen at hscm
          have hd36 : d < 36 := hz36 d (by simp)
          have hc := hown.cellAt ys'.length (by omega)
          have hce : (enc8 ((ys' ++ [d]).map digChar))[ys'.length]? = some (.int .u8 ((digChar d : Nat) : Int)) := by simp [enc8]
          rw [hce] at hc
          have hix : ∀ W, (Instr.indexAt 63 (.slice (some ⟨g, 0, none⟩) (ys'.length + 1) sc) (.int .i64 (ys'.length : Int))).run Tryz.prog W = .ok (.pointer (some ⟨g, ys'.length, none⟩)) W := fun W => by
            have := index_lookAt (P := Tryz.prog) 63 5 und_bytes size_byte (some ⟨g, 0, none⟩) (ys'.length + 1) sc ys'.length (by omega) ⟨_, _, rfl⟩ .i64 W
            simpa [lookAt] using this
          have HOW := Lib.hid hown
          clear hce hown hl1
          by_cases hd0 : d = 0
          · subst hd0
            have hd48 : (((digChar 0 : Nat) : Int) == 48) = true := rfl
            have hls : ∀ a n c, lenSlice (.slice a n c) = n := fun _ _ _ => rfl
            go_wp2
            refine ⟨⟨ys', by rw [← htz, trimmed_snoc_zero], fun d hd => hz36 d (by simp [hd]), by omega, ?_⟩, by rw [hls, hls]; omega⟩
            have h1 := HOW.out
            rw [List.map_append, List.map_cons, List.map_nil, enc8_snoc] at h1
            exact ownsRow_pop (by simp [enc8]) h1
          · have hdd : trimmed (ys' ++ [d]) = ys' ++ [d] := trimmed_snoc ys' d hd0
            rw [hdd] at htz
            have hA0 : A ≠ 0 := fun h => by
              rw [h, digits_zero] at htz
              simp at htz
            have hT1 : textOf neg b (val xa) = (if neg then [45] else []) ++ ((ys' ++ [d]).map digChar).reverse := by
              rw [HA.out.1, textOf, if_neg hA0, htz]
            have hd48 : (((digChar d : Nat) : Int) == 48) = false := by
              have := digChar_zero hd36
              simp
              omega
            have h256 : ∀ x ∈ (ys' ++ [d]).map digChar, x < 256 := fun x hx => by
              obtain ⟨y, hy, rfl⟩ := List.mem_map.1 hx
              exact digChar_lt (hz36 y hy)
            obtain ⟨bs, hbs⟩ : ∃ bs, (ys' ++ [d]).map digChar = bs := ⟨_, rfl⟩
            have hbl : bs.length = ys'.length + 1 := by rw [← hbs]; simp
            rw [hbs] at hT1 h256 HOW
            have HT := Lib.hid (And.intro hT1 (And.intro h256 hbl))
            have hg := (HOW.out.lt g rfl).1
            clear hT1 h256 hbl hbs htz hdd hz36
            cases neg
            · have cn := (r0.below hbe).cell 0
              simp only [List.getElem?_cons_zero] at cn
              go_wp2_with fail
              have hrv := reverse_any W0.heap.size g sc bs wr (by rw [HT.out.2.2]; omega) (by rw [HT.out.2.2]; exact HOW.out)
              rw [HT.out.2.2] at hrv
              refine hrv.mono ?_
              rintro e w6 ⟨rfl, hch6, hr6⟩
              have hcv := conv_bytes (n := ys'.length + 1) (bs := bs.reverse) (by rw [List.length_reverse]; exact HT.out.2.2) hr6
              have hb6 := hch6.below (B := W0.heap.size) (fun i hi => by omega) hs0
              clear hrv
              go_wp2
              go_ret
              exact ⟨b0.trans ((hbe.trans hb6).mono b0.size), _, rfl, by rw [HT.out.1]; exact bytesOf_toNat (fun x hx => HT.out.2.1 x (by simpa using hx))⟩
            · have cn := (r0.below hbe).cell 0
              simp only [List.getElem?_cons_zero] at cn
              have hown := HOW.out
              go_wp2_with (first | (at_builtin; refine wpList_append_own _ rfl _ _ 63 rfl W0.heap.size 5 inf (.int .u8 0) 1 1 und_bytes hi HZ.out.1 HZ.out.2.1 HZ.out.2.2 rfl (by decide) _ _ _ rfl (hown.alloc _) ⟨wr.heap.size, 0, none⟩ 1 1 [.int .u8 45] rfl rfl (cell_new_plain _ _ _ _ rfl) (by simp [Value.oneCell']) (by unfold maxLen; omega) (by omega) (by simp; omega) ?_; intro v' w5 hown' hgrow _))
              have hown1 : w5.ownsRow W0.heap.size 5 1 v' (ys'.length + 2) (enc8 (bs ++ [45])) := by
                rw [enc8_snoc]
                exact hown'
              obtain ⟨g5, sc5, rfl, hsc5, hscm5⟩ := own_form_pos hown1 (by omega)
              have hg5 := (hown1.lt g5 rfl).1
              have hb5 : Below W0.heap.size W0 w5 := hbe.trans (((Below.refl _ wr).alloc hs0 _).grown hgrow (by simp; omega) (fun k e => by have := (hown.lt k e).1; omega))
              clear hown' hgrow
              have hbl5 : (bs ++ [45]).length = ys'.length + 2 := by simp [HT.out.2.2]
              have hrv := reverse_any W0.heap.size g5 sc5 (bs ++ [45]) w5 (by rw [hbl5]; omega) (by rw [hbl5]; exact hown1)
              rw [hbl5] at hrv
              refine hrv.mono ?_
              rintro e w6 ⟨rfl, hch6, hr6⟩
              have hcv := conv_bytes (n := ys'.length + 2) (bs := (bs ++ [45]).reverse) (by rw [List.length_reverse]; exact hbl5) hr6
              have hb6 := hch6.below (B := W0.heap.size) (fun i hi => by omega) hb5.size
              have HB := Lib.hid hbl5
              clear hrv hbl5
              go_wp2
              go_ret
              refine ⟨b0.trans ((hb5.trans hb6).mono b0.size), _, rfl, ?_⟩
              rw [HT.out.1, bytesOf_toNat]
              · simp
              · intro x hx
                simp only [List.mem_cons, List.mem_reverse] at hx
                rcases hx with rfl | hx
                · omega
                · exact HT.out.2.1 x hx
    · have hpos : 0 < val xs := (canon_pos_iff hkx).2 (by omega)
      have hN2 : N < 32 * 300 := pow_lt_of_dvd (A := A) h2 (by rw [← hvx]; exact hpos) HA.out.2
      have hxl : xs.length ≤ 300 := canon_length_le hkx (by rw [hvx]; exact Nat.lt_of_le_of_lt (Nat.div_le_self _ _) HA.out.2)
      have hapx' : ApartB W0.heap.size wr (.slice la xs.length lc) := hapx.resolve_right (by intro e; simp [e] at hz)
      have hU0 : 0 < U := by rw [← HU.out.1]; exact Nat.pow_pos (by omega)
      have HV := Lib.hid hvx
      have hdv := divideLimb_tag (.slice la xs.length lc) xs U wr hrd hkx.1 (by omega) hU0 HU.out.2
      obtain ⟨R, hR⟩ : ∃ R, val xs % U = R := ⟨_, rfl⟩
      rw [hR] at hdv
      have hRe : R = A / b ^ N % b ^ m := by rw [← hR, HV.out, HU.out.1]
      have hRb : R < B32 := by rw [← hR]; exact Nat.lt_of_lt_of_le (Nat.mod_lt _ hU0) (Nat.le_of_lt HU.out.2)
      have HR := Lib.hid (And.intro hRe hRb)
      have HD := Lib.hid hdv
      clear hR hRe hRb
      have hz' : decide ((0 : Int) < (xs.length : Int)) = true := by simp; omega
      clear hvx hapx hpos hdv
      go_wp2_with (go_at_call 60; refine HD.out.mono ?_; rintro e w4 ⟨hbe4, v4, qs, rfl, h4, k4, e4, t4⟩)
      have hown4 := ownsRow_below1 hown hbe4
      have hap4 : ApartB W0.heap.size w4 v4 := fun a n c e => .inr (t4 a n c e)
      have hb4 : Below W0.heap.size W0 w4 := hbe.trans (hbe4.mono hbe.size)
      obtain ⟨a4, c4, rfl, hc4, hm4⟩ := h4.form
      have H4 := Lib.hid e4
      clear e4 t4 hown hrd hbe HD hapx'
      unfold maxLen at hm4
      go_loopw [7, 10, 28] (fun s l i W => ∃ k : Nat, k ≤ m ∧ i = .int .i64 k ∧ l = .int .u32 ((R / b ^ k : Nat) : Int) ∧ W.ownsRow W0.heap.size 5 1 s (N + k) (enc8 (digBytes b (N + k) A)) ∧ Reads .u32 W (.slice a4 qs.length c4) qs ∧ ApartB W0.heap.size W (.slice a4 qs.length c4) ∧ Below W0.heap.size W0 W)
        (fun _ _ i _ => m - (intOf i).toNat)
      case atStart => exact ⟨0, Nat.zero_le _, rfl, by simp, by simpa using hown4, h4, hap4, hb4⟩
      case round =>
        obtain ⟨k, hk, rfl, rfl, hown, hrq, hapq, hbq⟩ := hrel
        obtain ⟨sa, sc, rfl⟩ := own_form hown
        by_cases hkm : k < m
        · have hd := digit_at (A := A) (b := b) (N := N) hkm
          rw [← HR.out.1] at hd
          have hq1 : R / b ^ (k + 1) = R / b ^ k / b := by rw [Nat.pow_succ, Nat.div_div_eq_div_mul]
          obtain ⟨Q, hQ⟩ : ∃ Q, R / b ^ k = Q := ⟨_, rfl⟩
          have hQb : Q < 4294967296 := by rw [← hQ]; exact Nat.lt_of_le_of_lt (Nat.div_le_self _ _) HR.out.2
          rw [hQ] at hd hq1 ⊢
          obtain ⟨d, hdd⟩ : ∃ d, Q % b = d := ⟨_, rfl⟩
          have hd36 : d < 36 := by rw [← hdd]; exact Nat.lt_of_lt_of_le (Nat.mod_lt _ (by omega)) h36
          obtain ⟨Q2, hQ2⟩ : ∃ Q2, Q / b = Q2 := ⟨_, rfl⟩
          have hrem : (Q : Int) % (b : Int) = (d : Int) := by rw [← hdd]; rfl
          have hquo : (Q : Int) / (b : Int) = (Q2 : Int) := by rw [← hQ2]; rfl
          have hcell := (hT0.below hbq) d hd36
          rw [hdd] at hd
          rw [hQ2] at hq1
          have hQ2b : Q2 < 4294967296 := by rw [← hQ2]; exact Nat.lt_of_le_of_lt (Nat.div_le_self _ _) hQb
          have HQ := Lib.hid hQ2b
          have HD := Lib.hid hd
          have HQ1 := Lib.hid hq1
          clear hQ hdd hQ2 hQb hd hq1 hQ2b
          have hsz := hbq.size
          go_wp2_with (at_builtin; refine wpList_append_own _ rfl _ _ 63 rfl W0.heap.size 5 inf (.int .u8 0) 1 1 und_bytes hi HZ.out.1 HZ.out.2.1 HZ.out.2.2 rfl (by decide) _ _ _ rfl (hown.alloc _) ⟨wr.heap.size, 0, none⟩ 1 1 [.int .u8 ((digChar d : Nat) : Int)] rfl rfl (cell_new_plain _ _ _ _ rfl) (by simp [Value.oneCell']) (by unfold maxLen; omega) (by omega) (by simp; omega) ?_; intro v' w5 hown' hgrow _)
          have hkp := ownsRow_keep hown hgrow hrq hapq
          have hbn : Below W0.heap.size W0 w5 := hbq.trans (((Below.refl _ wr).alloc hsz _).grown hgrow (by simp; omega) (fun k e => by have := (hown.lt k e).1; omega))
          refine ⟨⟨k + 1, by omega, by go_num, ?_, ?_, hkp.1, hkp.2, hbn⟩, by simp [intOf]; omega⟩
          · rw [HQ1.out]
            have := HQ.out
            congr 1
            omega
          · rw [show N + (k + 1) = N + k + 1 by omega, digBytes_snoc, enc8_snoc, ← HD.out]
            exact hown'
        · obtain rfl : k = m := by omega
          have hlq : lenSlice (.slice sa (N + k) sc) = N + k := rfl
          have hln : ∀ a c, lenSlice (.slice a N c) = N := fun _ _ => rfl
          go_wp2
          refine ⟨⟨N + k, qs, hown, hrq, k4, ?_, .inl hapq, hbq, by omega⟩, by rw [hlq, hln]; omega⟩
          rw [H4.out, HV.out, ← HU.out.1, Nat.div_div_eq_div_mul, Nat.pow_add]

end Go.Proofs.YtlghjfpkfdnfoaaGreatDoor

/- num.parse where it answers -/
namespace Go.Proofs.YtlghjfpkfdnfoaaGreatDoor
open Go Go.RowKit Go.Shelf
attribute [local go_sem] Oper.semAt_some

theorem size_toList (s : ByteArray) : s.data.toList.length = s.size := by
  rw [Array.length_toList]
  rfl
theorem index_string (r : ByteArray) (j : Nat) (l : List UInt8) (hl : r.data.toList = l) (hj : j < l.length) (W : World) :
    (Instr.index 9 (.string r) (.int .i64 (j : Int))).run Tryz.prog W = .ok (.int .u8 (((l[j]'hj).toNat : Nat) : Int)) W := by
  subst hl
  have hs : j < r.size := by have := size_toList r; omega
  have e : r[j] = r.data.toList[j] := by
    rw [Array.getElem_toList]
    rfl
  simp [go_sem, hs, e]

theorem numBE_zero (b : Nat) (c : UInt8) (l : List UInt8) (h : c.toNat = 48) : numBE b (c :: l) = numBE b l := by
  have h0 : 0 * b + digitVal 48 = 0 := by simp [digitVal]
  rw [numBE, List.foldl_cons, h, h0]
  rfl
theorem numBE_take_le (b : Nat) (hb : 0 < b) (n : Nat) (l : List UInt8) : numBE b (l.take n) ≤ numBE b l := by
  conv => rhs; rw [← List.take_append_drop n l, numBE_append]
  exact Nat.le_trans (Nat.le_mul_of_pos_right _ (Nat.pow_pos hb)) (Nat.le_add_right _ _)
/-- no limb lies in the box B -/
def OffB (B : Nat) (v : Value) (xs : List Nat) : Prop := ∀ a n c, v = .slice (some a) n c → xs ≠ [] → a.block ≠ B
theorem offB_of {W : World} {B : Nat} {t : TypeId} {s : ByteArray} {v : Value} {xs : List Nat} (hr : Reads .u32 W v xs) (hb : Boxed W B t (.string s)) : OffB B v xs := by
  obtain ⟨a, cap, rfl, hc, hm, hcell⟩ := hr
  intro a' n c e hx he
  simp only [Value.slice.injEq] at e
  obtain ⟨rfl, -, -⟩ := e
  obtain ⟨⟨b, off, hab⟩, h2⟩ := hcell 0 (List.length_pos_iff.2 hx)
  simp only [Option.some.injEq] at hab
  subst hab
  simp only at he
  subst he
  rw [lookAt_some] at h2
  simp only [World.cell?, show W.heap[b]? = _ from hb] at h2
  cases off with
  | zero => simp at h2
  | succ k => simp at h2
theorem reads_grown {W W' : World} {v : Value} {xs : List Nat} {row : Option Nat} (hr : Reads .u32 W v xs) (hg : W.grownBy W' row) (hrow : ∀ r, row = some r → (∀ a n c, v = .slice (some a) n c → xs ≠ [] → a.block ≠ r) ∨ ∃ o : Obj, W.heap[r]? = some o ∧ o.isCells = false) : Reads .u32 W' v xs := by
  obtain ⟨a, cap, rfl, hc, hm, hcell⟩ := hr
  refine ⟨a, cap, rfl, hc, hm, fun j hj => ⟨(hcell j hj).1, ?_⟩⟩
  obtain ⟨⟨b, off, rfl⟩, h2⟩ := hcell j hj
  have hlt := World.block_lt_of_cell? W _ h2
  have hx : xs ≠ [] := by intro e; simp [e] at hj
  have h3 : W'.heap[b]? = W.heap[b]? := hg.block b hlt (fun e => by
    rcases hrow b e.symm with h | ⟨o, ho, hoc⟩
    · exact h ⟨b, off, none⟩ _ _ rfl hx rfl
    · rw [lookAt_some] at h2
      cases o <;> simp_all [World.cell?, Obj.isCells])
  rw [← h2]
  exact World.cell?_of_block h3

/-- what a loop over chunks keeps -/
def ParI (W0 : World) (b m : Nat) (lx : List UInt8) (pre : List IdxChunk) (W : World) : Prop :=
  ∃ v xs, Boxed W W0.heap.size 22 v ∧ Reads .u32 W v xs ∧ OffB (W0.heap.size + 1) v xs ∧ Canon xs ∧ val xs = numBE b (lx.take (m * pre.length)) ∧ Below W0.heap.size W0 W ∧ W0.heap.size + 3 ≤ W.heap.size
theorem ParI.own {W0 : World} {b m n : Nat} {lx : List UInt8} (hn : W0.heap.size + 1 ≤ n) : ∀ (s : List IdxChunk) (A A' : World) (row : Option Nat), ParI W0 b m lx s A → A.grownBy A' row → (∀ r, row = some r → r = W0.heap.size + 1 ∨ (n ≤ r ∧ ∃ o : Obj, A.heap[r]? = some o ∧ o.isCells = false)) → ParI W0 b m lx s A' := by
  rintro s A A' row ⟨v, xs, hb, hr, ho, hc, hv, hbe, hsz⟩ hg hrow
  refine ⟨v, xs, hb.kept hg (fun e => ?_), reads_grown hr hg (fun r e => ?_), ho, hc, hv, hbe.grown hg hbe.size (fun r e => ?_), Nat.le_trans hsz hg.size⟩
  · rcases hrow _ e.symm with h | ⟨_, o, h, hoc⟩
    · omega
    · rw [show A.heap[W0.heap.size]? = _ from hb] at h
      cases h
      simp [Obj.isCells] at hoc
  · rcases hrow r e with h | ⟨_, h⟩
    · subst h; exact .inl ho
    · exact .inr h
  · rcases hrow r e with h | ⟨h, _⟩ <;> omega
theorem ParI.start {W0 : World} (b m : Nat) (lx : List UInt8) (o1 o2 : Obj) : ParI W0 b m lx [] (((W0.alloc (.cells #[.slice none 0 0] 22)).alloc o1).alloc o2) :=
  ⟨.slice none 0 0, [], ((Boxed.new W0 _ _).alloc _).alloc _, Reads.nil _ _, fun a n c e => by simp at e, canon_nil, by simp [val, numBE], (((Below.refl _ W0).alloc (Nat.le_refl _) _).alloc (by simp) _).alloc (by simp; omega) _, by simp⟩
theorem ParI.next {b m k : Nat} {lx : List UInt8} {ps : List (Nat × Nat)} {q : Nat × Nat} (hps : ps.length = k) (h : ps ++ [q] = (List.range (k + 1)).map (chunkAt b m lx)) (V : Nat) (hV : V = numBE b (lx.take (m * k)) * q.1 + q.2) : V = numBE b (lx.take (m * (k + 1))) := by
  have h1 := congrArg (fun z : List (Nat × Nat) => z[k]?) h
  rw [List.getElem?_append_right (by omega), hps, Nat.sub_self] at h1
  simp at h1
  rw [hV, h1, take_piece, numBE_append]
  rfl

set_option exponentiation.threshold 400 in
set_option maxHeartbeats 8000000 in
set_option maxRecDepth 100000 in
theorem parse_ok (s : ByteArray) (b : Nat) (w : World) (h2 : 2 ≤ b) (h36 : b ≤ 36) (neg : Bool) (l : List UInt8) (hs : s.data.toList = (if neg then [45] else []) ++ l) (hl0 : l ≠ []) (hlen : l.length ≤ 100000) (hdig : ∀ c ∈ l, digitVal c.toNat < b) (hfit : numBE b l < B32 ^ 300) :
    Calls Tryz.prog 28 #[.string s, .int .i64 (b : Int)] w fun e w' => Below w.heap.size w w' ∧ ∃ v, e = .returned v ∧ IsInt w' v (sgn neg (numBE b l)) := by
  have hlp : 0 < l.length := List.length_pos_iff.2 hl0
  obtain ⟨t, ht⟩ : ∃ t : ByteArray, t.data.toList = l := ⟨⟨l.toArray⟩, by simp⟩
  have htz : t.size = l.length := by rw [← ht, size_toList]
  have hcut : neg = true → s.extract 1 s.size = t := fun hn => by
    subst hn
    apply bytes_ext
    rw [Lib.extract_to_end, hs, ht]
    rfl
  have hsame : neg = false → s = t := fun hn => by
    subst hn
    apply bytes_ext
    rw [hs, ht]
    rfl
  have hsz : s.size = (if neg then 1 else 0) + l.length := by
    rw [← size_toList, hs]
    cases neg <;> simp [Nat.add_comm]
  have hi0 : ∀ W, (Instr.index 9 (.string s) (.int .i64 0)).run Tryz.prog W = .ok (.int .u8 (if neg then 45 else (((l[0]'hlp).toNat : Nat) : Int))) W := fun W => by
    have h0 : 0 < ((if neg then [45] else []) ++ l).length := by cases neg <;> simp <;> omega
    have := index_string s 0 _ hs h0 W
    rw [Int.ofNat_zero] at this
    rw [this]
    cases neg <;> rfl
  have hn45 : neg = false → ((((l[0]'hlp).toNat : Nat) : Int) == 45) = false := fun _ => by
    have h1 := hdig (l[0]'hlp) (List.getElem_mem _)
    refine beq_eq_false_iff_ne.2 fun e => ?_
    have e' : (l[0]'hlp).toNat = 45 := by omega
    rw [e'] at h1
    simp [digitVal] at h1
    omega
  have hspos : 0 < s.size := by rw [hsz]; omega
  obtain ⟨m, hm1, hM, hM1⟩ := chunk_exists b h2 h36
  have HL := Lib.hid (And.intro ht (And.intro htz (And.intro hs hsz)))
  refine (callsIn_wide (n := 9)).1 ?_
  refine callsIn_of_wp_marks Tryz.func28 rfl trivial ?_ rfl
  simp only [Tryz.ntmps28, List.size_toArray, List.length_cons, List.length_nil, Nat.reduceAdd, Nat.reduceSub, Array.replicate_succ, Array.replicate_zero, List.push_toArray, List.append_toArray, List.nil_append, List.cons_append]
  have hlm : l.length ≤ 9223372036854775807 := by omega
  have HFIT := Lib.hid hfit
  clear ht htz hs hsz hl0 hfit
  have b0 := (Below.refl w.heap.size w).alloc (Nat.le_refl _) (.cells #[.bool false, .slice none 0 0] 24)
  have r0 := RowAt.new w 24 [.bool false, .slice none 0 0]
  obtain ⟨W0, hW0⟩ : ∃ W0, w.alloc (.cells #[.bool false, .slice none 0 0] 24) = W0 := ⟨_, rfl⟩
  rw [hW0] at b0 r0
  have HW := Lib.hid hW0
  clear hW0
  have htz := HL.out.2.1
  have hd0 : decide ((0 : Int) < (l.length : Int)) = true := by simp; omega
  have hzz : s.size = s.size := rfl
  cases neg
  · have e0 := hsame rfl
    have h45 := hn45 rfl
    simp only [Bool.false_eq_true, if_false] at hi0
    clear hsame hcut hn45
    subst e0
    gi_wp2_with (refine ⟨trivial, ?_⟩; gi_at_call 45; refine (callsIn_wide.2 (demand_ok _ _ _ (by first | rfl | (simp; omega)))).mono ?_; rintro e w2 ⟨rfl, rfl⟩)
    generalize s = t at *
    clear hi0 h45 hspos hzz
    rw [HW.out]
    gi_loop [27] (fun i => ∃ j : Nat, j ≤ l.length ∧ i = .int .i64 j) (fun i => l.length - (intOf i).toNat)
    case atStart => exact ⟨0, Nat.zero_le _, rfl⟩
    case round =>
      obtain ⟨j, hj, rfl⟩ := hrel
      by_cases hjl : j < l.length
      · have hix := fun W => index_string t j l HL.out.1 hjl W
        have hcd := hdig (l[j]'hjl) (List.getElem_mem _)
        obtain ⟨c, hc⟩ : ∃ c, (l[j]'hjl).toNat = c := ⟨_, rfl⟩
        have hc256 : c < 256 := by rw [← hc]; exact (l[j]'hjl).toNat_lt
        rw [hc] at hix hcd
        have hdd : decide (((digitVal c : Nat) : Int) < (b : Int)) = true := by simp; omega
        clear hc
        gi_wp2_with (first
          | (refine ⟨trivial, ?_⟩; gi_at_call 62; refine (callsIn_wide.2 (digitOf_any c _ hc256)).mono ?_; rintro e w2 ⟨rfl, rfl⟩)
          | (refine ⟨trivial, ?_⟩; gi_at_call 45; refine (callsIn_wide.2 (demand_ok _ _ _ (by first | rfl | (simp; omega)))).mono ?_; rintro e w2 ⟨rfl, rfl⟩))
        exact ⟨⟨j + 1, by omega, by go_num⟩, by simp [intOf]; omega⟩
      · have hjd : decide ((j : Int) < (l.length : Int)) = false := by simp; omega
        have HLx := Lib.hid (And.intro htz hd0)
        clear htz hd0
        gi_wp2_with fail
        gi_loop [0] (fun v => ∃ (u : ByteArray) (l' : List UInt8), v = .string u ∧ u.data.toList = l' ∧ numBE b l' = numBE b l ∧ (∀ c ∈ l', digitVal c.toNat < b) ∧ l'.length ≤ 100000) (fun v => strLen (some v))
        case atStart => exact ⟨t, l, rfl, HL.out.1, rfl, hdig, hlen⟩
        case round =>
          obtain ⟨u, l', rfl, hu, hnum, hdig', hlen'⟩ := hrel
          have hus : u.size = l'.length := by rw [← hu, size_toList]
          have hguard : (l' = []) ∨ (∃ c l'', l' = c :: l'' ∧ c.toNat = 48) ∨ (∃ c l'', l' = c :: l'' ∧ c.toNat ≠ 48) := by
            cases l' with
            | nil => exact .inl rfl
            | cons c l'' =>
              by_cases h : c.toNat = 48
              · exact .inr (.inl ⟨c, l'', rfl, h⟩)
              · exact .inr (.inr ⟨c, l'', rfl, h⟩)
          have HU := Lib.hid (And.intro hu (And.intro hnum (And.intro hdig' hlen')))
          have hub : u.size ≤ 100000 := by omega
          clear hu hnum hdig' hlen'
          rcases hguard with hg | ⟨c, l'', hg, hc48⟩ | ⟨c, l'', hg, hc48⟩
          · subst hg
            simp only [List.length_nil] at hus
            gi_wp2_with (refine ⟨trivial, ?_⟩; gi_at_call 63; refine (callsIn_wide.2 (chunks_any _ _ _)).mono ?_; rintro e w' ⟨rfl, rfl⟩)
            refine range_chunks 8 9 b m [] h2 h36 hm1 hM hM1 (by have := HU.out.2.2.2; omega) HU.out.2.2.1 (W0.heap.size + 2) (W0.heap.size + 1) (by exact rfl) ?bb ?bs (by omega)
              (ParI W0 b m []) (ParI.own (by simp)) (ParI.start b m [] _ _) ?assign ?body ?done
            case bb => exact Boxed.at (Boxed.new _ _ _) (by simp)
            case bs =>
              have hu0 : restAt m [] 0 = u := bytes_ext (by rw [restAt_toList, Nat.mul_zero, List.drop_zero]; exact HU.out.1.symm)
              rw [hu0]
              exact Boxed.at ((Boxed.new _ _ _).alloc _) (by simp)
            case assign =>
              intro y x W K hK
              gi_wp2
              exact hK
            case body =>
              rintro y pre x W ⟨v, xs, hb, hr, ho, hc, hv, hbe, hsz⟩ hbs hlt hsp
              obtain ⟨⟨P1, V1⟩, hx1, hx2⟩ := x
              obtain ⟨va, vc, rfl, hvc, hvm⟩ := hr.form
              have hbc := hb.cell
              have hfc := hb.frozen
              have hle := numBE_take_le b (by omega) (m * (pre.length + 1)) []
              have hlx : xs.length ≤ 300 := canon_length_le hc (by rw [hv]; exact Nat.lt_of_le_of_lt (numBE_take_le b (by omega) _ _) (by rw [HU.out.2.1]; exact HFIT.out))
              have htp := timesPlus_any (.slice va xs.length vc) xs P1 V1 W hr hc.1 (by omega) hx1 hx2
              have HTP := Lib.hid htp
              have HH := Lib.hid (And.intro hv (And.intro hle hsp))
              clear hv hle hsp htp
              simp only [boundFrame]
              gi_wp2_with (first
                | (refine ⟨trivial, ?_⟩; gi_at_call 64; refine (callsIn_wide.2 HTP.out).mono ?_; rintro e w5 ⟨hbe5, v5, cs, rfl, h5, k5, e5⟩; obtain ⟨a5, c5, rfl, hc5, hm5⟩ := h5.form; have hb5 : Boxed w5 W0.heap.size 22 (.slice va xs.length vc) := (hbe5.block _ hb.lt).trans hb; have hbs5 : Boxed w5 (W0.heap.size + 1) 9 _ := (hbe5.block _ hbs.lt).trans hbs; have q1 := hb5.cell; have q2 := hb5.frozen;
                    have hvn : val cs = numBE b (([] : List UInt8).take (m * (pre.length + 1))) := ParI.next (ps := pre.map (·.1)) (q := (P1, V1)) (by simp) (by simpa using HH.out.2.2) _ (by rw [e5, HH.out.1]); have hcl : cs.length ≤ 300 := canon_length_le k5 (by rw [hvn]; exact Nat.lt_of_le_of_lt HH.out.2.1 (by rw [HU.out.2.1]; exact HFIT.out)); have hdl : decide ((cs.length : Int) ≤ 300) = true := (by simp; omega); have HV := Lib.hid hvn; clear hvn e5)
                | (refine ⟨trivial, ?_⟩; gi_at_call 45; refine (callsIn_wide.2 (demand_ok _ _ _ (by first | rfl | (simp; omega)))).mono ?_; rintro e w2 ⟨rfl, rfl⟩))
              have hF : Chg (fun k => k = W0.heap.size) W (w5.setCell ⟨W0.heap.size, 0, none⟩ (.slice a5 cs.length c5)) := ((Chg.refl (fun k => k = W0.heap.size) W).thenBelow hbe5).setCell (p := ⟨W0.heap.size, 0, none⟩) (.inl rfl) _
              refine ⟨hF.keepsFrom _ (by rintro k rfl; exact Boxed.isCells hb), ⟨hF.block _ (by omega) (by omega), hF.block _ (by omega) (by omega)⟩, _, cs, Boxed.set _ hb5, h5.setOther q1 (by simp) _, offB_of h5 hbs5, k5, ?_, hbe.trans (hF.below (fun k hk => by omega) hbe.size), ?_⟩
              · rw [List.length_append, List.length_singleton]
                exact HV.out
              · exact Nat.le_trans hsz hF.size
            case done =>
              rintro D ys W hD ⟨hys, hyl⟩ ⟨v, xs, hb, hr, ho, hc, hv, hbe, hsz⟩ hK
              obtain ⟨va, vc, rfl, hvc, hvm⟩ := hr.form
              have hbc := hb.cell
              have hval : val xs = numBE b l := by rw [hv, List.take_of_length_le hyl]; exact HU.out.2.1
              have HV := Lib.hid hval
              have hrr := r0.below hbe
              clear hv hval hys
              gi_wp2_with (refine ⟨trivial, ?_⟩; gi_at_call 51; refine (callsIn_wide.2 (signed_any _ _ _ _ _)).mono ?_; rintro e w6 ⟨hbe6, rfl⟩; have rr := hrr.below hbe6; have o1 := rr.cell 0; have o2 := rr.cell 1; have o3 := rr.frozen 0; have o4 := rr.frozen 1; simp only [List.getElem?_cons_zero, List.getElem?_cons_succ] at o1 o2)
              obtain ⟨s1, s2⟩ := two_reads (b := w.heap.size) o1 o2 (.bool (false && decide (0 < xs.length))) (.slice va xs.length vc)
              have hkp := two_kept (b := w.heap.size) (hr.below hbe6) o1 o2 (.bool (false && decide (0 < xs.length))) (.slice va xs.length vc)
              have hb8 : Below w.heap.size w ((w6.setCell ⟨w.heap.size, 0, none⟩ (.bool (false && decide (0 < xs.length)))).setCell ⟨w.heap.size, 1, none⟩ (.slice va xs.length vc)) := (((b0.trans (hbe.mono b0.size)).trans (hbe6.mono (b0.trans (hbe.mono b0.size)).size)).setCell (p := ⟨w.heap.size, 0, none⟩) (Nat.le_refl _) _).setCell (p := ⟨w.heap.size, 1, none⟩) (Nat.le_refl _) _
              have hDlt : D < W.heap.size := (Array.getElem?_eq_some_iff.1 hK).1
              have hDw : w.heap.size < D := by
                have h1 := b0.size
                have h2 := r0.lt
                simp only [World.size_alloc] at hD
                omega
              have hK8 : ((w6.setCell ⟨w.heap.size, 0, none⟩ (.bool (false && decide (0 < xs.length)))).setCell ⟨w.heap.size, 1, none⟩ (.slice va xs.length vc)).heap[D]? = some (.deferred (some [])) := by
                exact (Below.heap_setCell _ _ _ _ (by simp; omega)).trans ((Below.heap_setCell _ _ _ _ (by simp; omega)).trans ((hbe6.block D hDlt).trans hK))
              simp only [Bool.false_and] at s1 s2 hkp hb8 hK8
              generalize ((w6.setCell ⟨w.heap.size, 0, none⟩ (.bool false)).setCell ⟨w.heap.size, 1, none⟩ (.slice va xs.length vc)) = W8 at *
              have s1' : (W8.putObj D (.deferred none)).cell? ⟨w.heap.size, 0, none⟩ = some (.bool false) := (World.cell?_of_block (World.putObj_heap_other (by simp; omega))).trans s1
              have s2' : (W8.putObj D (.deferred none)).cell? ⟨w.heap.size, 1, none⟩ = some (.slice va xs.length vc) := (World.cell?_of_block (World.putObj_heap_other (by simp; omega))).trans s2
              refine ⟨by simp, .inl ⟨_, _, rfl, run_takeDeferred hK8, ?_⟩⟩
              refine ⟨.agg #[.bool false, .slice va xs.length vc], by simp [results, Tryz.results28, go_sem, loadCellsFrom, s1', s2'], ?_, _, rfl, ?_⟩
              · exact hb8.trans (belowK_b (w := w) (Nat.le_refl _) W8 D _ _ (by omega) hK8 rfl rfl)
              · have h9 := isInt_mk false (hkp.putObj hK8 rfl (.deferred none)) hc (i := sgn false (numBE b l)) (by rw [HV.out])
                simpa using h9
          · subst hg
            have h0' : 0 < (c :: l'').length := by simp
            have hix := fun W => index_string u 0 (c :: l'') HU.out.1 h0' W
            simp only [Int.ofNat_zero, List.getElem_cons_zero, hc48] at hix
            have hus1 : 0 < u.size := by rw [hus]; simp
            have hcut2 : ∃ u2 : ByteArray, u.extract 1 u.size = u2 ∧ u2.data.toList = l'' := ⟨_, rfl, by rw [Lib.extract_to_end, HU.out.1]; rfl⟩
            obtain ⟨u2, hu2, hu2l⟩ := hcut2
            have hsz2 : u2.size < u.size := by rw [hus, ← size_toList u2, hu2l]; simp
            have hst : strLen (some (.string u2)) < strLen (some (.string u)) := hsz2
            have H2 := Lib.hid hu2l
            have HC48 := Lib.hid hc48
            clear hus hu2l hsz2 hc48
            gi_wp2_with fail
            refine ⟨⟨u2, l'', rfl, H2.out, ?_, fun x hx => HU.out.2.2.1 x (by simp [hx]), by have := HU.out.2.2.2; simp at this; omega⟩, hst⟩
            rw [← HU.out.2.1, numBE_zero b c l'' HC48.out]
          · subst hg
            have h0' : 0 < (c :: l'').length := by simp
            have hix := fun W => index_string u 0 (c :: l'') HU.out.1 h0' W
            simp only [Int.ofNat_zero, List.getElem_cons_zero] at hix
            have hne48 : (((c.toNat : Nat) : Int) == 48) = false := beq_eq_false_iff_ne.2 (by omega)
            have hus1 : 0 < u.size := by rw [hus]; simp
            clear hus hc48
            gi_wp2_with (refine ⟨trivial, ?_⟩; gi_at_call 63; refine (callsIn_wide.2 (chunks_any _ _ _)).mono ?_; rintro e w' ⟨rfl, rfl⟩)
            refine range_chunks 8 9 b m (c :: l'') h2 h36 hm1 hM hM1 (by have := HU.out.2.2.2; omega) HU.out.2.2.1 (W0.heap.size + 2) (W0.heap.size + 1) (by exact rfl) ?bb ?bs (by omega)
              (ParI W0 b m (c :: l'')) (ParI.own (by simp)) (ParI.start b m (c :: l'') _ _) ?assign ?body ?done
            case bb => exact Boxed.at (Boxed.new _ _ _) (by simp)
            case bs =>
              have hu0 : restAt m (c :: l'') 0 = u := bytes_ext (by rw [restAt_toList, Nat.mul_zero, List.drop_zero]; exact HU.out.1.symm)
              rw [hu0]
              exact Boxed.at ((Boxed.new _ _ _).alloc _) (by simp)
            case assign =>
              intro y x W K hK
              gi_wp2
              exact hK
            case body =>
              rintro y pre x W ⟨v, xs, hb, hr, ho, hc, hv, hbe, hsz⟩ hbs hlt hsp
              obtain ⟨⟨P1, V1⟩, hx1, hx2⟩ := x
              obtain ⟨va, vc, rfl, hvc, hvm⟩ := hr.form
              have hbc := hb.cell
              have hfc := hb.frozen
              have hle := numBE_take_le b (by omega) (m * (pre.length + 1)) (c :: l'')
              have hlx : xs.length ≤ 300 := canon_length_le hc (by rw [hv]; exact Nat.lt_of_le_of_lt (numBE_take_le b (by omega) _ _) (by rw [HU.out.2.1]; exact HFIT.out))
              have htp := timesPlus_any (.slice va xs.length vc) xs P1 V1 W hr hc.1 (by omega) hx1 hx2
              have HTP := Lib.hid htp
              have HH := Lib.hid (And.intro hv (And.intro hle hsp))
              clear hv hle hsp htp
              simp only [boundFrame]
              gi_wp2_with (first
                | (refine ⟨trivial, ?_⟩; gi_at_call 64; refine (callsIn_wide.2 HTP.out).mono ?_; rintro e w5 ⟨hbe5, v5, cs, rfl, h5, k5, e5⟩; obtain ⟨a5, c5, rfl, hc5, hm5⟩ := h5.form; have hb5 : Boxed w5 W0.heap.size 22 (.slice va xs.length vc) := (hbe5.block _ hb.lt).trans hb; have hbs5 : Boxed w5 (W0.heap.size + 1) 9 _ := (hbe5.block _ hbs.lt).trans hbs; have q1 := hb5.cell; have q2 := hb5.frozen;
                    have hvn : val cs = numBE b ((c :: l'' : List UInt8).take (m * (pre.length + 1))) := ParI.next (ps := pre.map (·.1)) (q := (P1, V1)) (by simp) (by simpa using HH.out.2.2) _ (by rw [e5, HH.out.1]); have hcl : cs.length ≤ 300 := canon_length_le k5 (by rw [hvn]; exact Nat.lt_of_le_of_lt HH.out.2.1 (by rw [HU.out.2.1]; exact HFIT.out)); have hdl : decide ((cs.length : Int) ≤ 300) = true := (by simp; omega); have HV := Lib.hid hvn; clear hvn e5)
                | (refine ⟨trivial, ?_⟩; gi_at_call 45; refine (callsIn_wide.2 (demand_ok _ _ _ (by first | rfl | (simp; omega)))).mono ?_; rintro e w2 ⟨rfl, rfl⟩))
              have hF : Chg (fun k => k = W0.heap.size) W (w5.setCell ⟨W0.heap.size, 0, none⟩ (.slice a5 cs.length c5)) := ((Chg.refl (fun k => k = W0.heap.size) W).thenBelow hbe5).setCell (p := ⟨W0.heap.size, 0, none⟩) (.inl rfl) _
              refine ⟨hF.keepsFrom _ (by rintro k rfl; exact Boxed.isCells hb), ⟨hF.block _ (by omega) (by omega), hF.block _ (by omega) (by omega)⟩, _, cs, Boxed.set _ hb5, h5.setOther q1 (by simp) _, offB_of h5 hbs5, k5, ?_, hbe.trans (hF.below (fun k hk => by omega) hbe.size), ?_⟩
              · rw [List.length_append, List.length_singleton]
                exact HV.out
              · exact Nat.le_trans hsz hF.size
            case done =>
              rintro D ys W hD ⟨hys, hyl⟩ ⟨v, xs, hb, hr, ho, hc, hv, hbe, hsz⟩ hK
              obtain ⟨va, vc, rfl, hvc, hvm⟩ := hr.form
              have hbc := hb.cell
              have hval : val xs = numBE b l := by rw [hv, List.take_of_length_le hyl]; exact HU.out.2.1
              have HV := Lib.hid hval
              have hrr := r0.below hbe
              clear hv hval hys
              gi_wp2_with (refine ⟨trivial, ?_⟩; gi_at_call 51; refine (callsIn_wide.2 (signed_any _ _ _ _ _)).mono ?_; rintro e w6 ⟨hbe6, rfl⟩; have rr := hrr.below hbe6; have o1 := rr.cell 0; have o2 := rr.cell 1; have o3 := rr.frozen 0; have o4 := rr.frozen 1; simp only [List.getElem?_cons_zero, List.getElem?_cons_succ] at o1 o2)
              obtain ⟨s1, s2⟩ := two_reads (b := w.heap.size) o1 o2 (.bool (false && decide (0 < xs.length))) (.slice va xs.length vc)
              have hkp := two_kept (b := w.heap.size) (hr.below hbe6) o1 o2 (.bool (false && decide (0 < xs.length))) (.slice va xs.length vc)
              have hb8 : Below w.heap.size w ((w6.setCell ⟨w.heap.size, 0, none⟩ (.bool (false && decide (0 < xs.length)))).setCell ⟨w.heap.size, 1, none⟩ (.slice va xs.length vc)) := (((b0.trans (hbe.mono b0.size)).trans (hbe6.mono (b0.trans (hbe.mono b0.size)).size)).setCell (p := ⟨w.heap.size, 0, none⟩) (Nat.le_refl _) _).setCell (p := ⟨w.heap.size, 1, none⟩) (Nat.le_refl _) _
              have hDlt : D < W.heap.size := (Array.getElem?_eq_some_iff.1 hK).1
              have hDw : w.heap.size < D := by
                have h1 := b0.size
                have h2 := r0.lt
                simp only [World.size_alloc] at hD
                omega
              have hK8 : ((w6.setCell ⟨w.heap.size, 0, none⟩ (.bool (false && decide (0 < xs.length)))).setCell ⟨w.heap.size, 1, none⟩ (.slice va xs.length vc)).heap[D]? = some (.deferred (some [])) := by
                exact (Below.heap_setCell _ _ _ _ (by simp; omega)).trans ((Below.heap_setCell _ _ _ _ (by simp; omega)).trans ((hbe6.block D hDlt).trans hK))
              simp only [Bool.false_and] at s1 s2 hkp hb8 hK8
              generalize ((w6.setCell ⟨w.heap.size, 0, none⟩ (.bool false)).setCell ⟨w.heap.size, 1, none⟩ (.slice va xs.length vc)) = W8 at *
              have s1' : (W8.putObj D (.deferred none)).cell? ⟨w.heap.size, 0, none⟩ = some (.bool false) := (World.cell?_of_block (World.putObj_heap_other (by simp; omega))).trans s1
              have s2' : (W8.putObj D (.deferred none)).cell? ⟨w.heap.size, 1, none⟩ = some (.slice va xs.length vc) := (World.cell?_of_block (World.putObj_heap_other (by simp; omega))).trans s2
              refine ⟨by simp, .inl ⟨_, _, rfl, run_takeDeferred hK8, ?_⟩⟩
              refine ⟨.agg #[.bool false, .slice va xs.length vc], by simp [results, Tryz.results28, go_sem, loadCellsFrom, s1', s2'], ?_, _, rfl, ?_⟩
              · exact hb8.trans (belowK_b (w := w) (Nat.le_refl _) W8 D _ _ (by omega) hK8 rfl rfl)
              · have h9 := isInt_mk false (hkp.putObj hK8 rfl (.deferred none)) hc (i := sgn false (numBE b l)) (by rw [HV.out])
                simpa using h9
  · have e0 := hcut rfl
    simp only [if_true] at hi0
    clear hsame hcut hn45
    gi_wp2_with (refine ⟨trivial, ?_⟩; gi_at_call 45; refine (callsIn_wide.2 (demand_ok _ _ _ (by first | rfl | (simp; omega)))).mono ?_; rintro e w2 ⟨rfl, rfl⟩)
    clear hi0 e0 hspos hzz
    rw [HW.out]
    gi_loop [27] (fun i => ∃ j : Nat, j ≤ l.length ∧ i = .int .i64 j) (fun i => l.length - (intOf i).toNat)
    case atStart => exact ⟨0, Nat.zero_le _, rfl⟩
    case round =>
      obtain ⟨j, hj, rfl⟩ := hrel
      by_cases hjl : j < l.length
      · have hix := fun W => index_string t j l HL.out.1 hjl W
        have hcd := hdig (l[j]'hjl) (List.getElem_mem _)
        obtain ⟨c, hc⟩ : ∃ c, (l[j]'hjl).toNat = c := ⟨_, rfl⟩
        have hc256 : c < 256 := by rw [← hc]; exact (l[j]'hjl).toNat_lt
        rw [hc] at hix hcd
        have hdd : decide (((digitVal c : Nat) : Int) < (b : Int)) = true := by simp; omega
        clear hc
        gi_wp2_with (first
          | (refine ⟨trivial, ?_⟩; gi_at_call 62; refine (callsIn_wide.2 (digitOf_any c _ hc256)).mono ?_; rintro e w2 ⟨rfl, rfl⟩)
          | (refine ⟨trivial, ?_⟩; gi_at_call 45; refine (callsIn_wide.2 (demand_ok _ _ _ (by first | rfl | (simp; omega)))).mono ?_; rintro e w2 ⟨rfl, rfl⟩))
        exact ⟨⟨j + 1, by omega, by go_num⟩, by simp [intOf]; omega⟩
      · have hjd : decide ((j : Int) < (l.length : Int)) = false := by simp; omega
        have HLx := Lib.hid (And.intro htz hd0)
        clear htz hd0
        gi_wp2_with fail
        gi_loop [0] (fun v => ∃ (u : ByteArray) (l' : List UInt8), v = .string u ∧ u.data.toList = l' ∧ numBE b l' = numBE b l ∧ (∀ c ∈ l', digitVal c.toNat < b) ∧ l'.length ≤ 100000) (fun v => strLen (some v))
        case atStart => exact ⟨t, l, rfl, HL.out.1, rfl, hdig, hlen⟩
        case round =>
          obtain ⟨u, l', rfl, hu, hnum, hdig', hlen'⟩ := hrel
          have hus : u.size = l'.length := by rw [← hu, size_toList]
          have hguard : (l' = []) ∨ (∃ c l'', l' = c :: l'' ∧ c.toNat = 48) ∨ (∃ c l'', l' = c :: l'' ∧ c.toNat ≠ 48) := by
            cases l' with
            | nil => exact .inl rfl
            | cons c l'' =>
              by_cases h : c.toNat = 48
              · exact .inr (.inl ⟨c, l'', rfl, h⟩)
              · exact .inr (.inr ⟨c, l'', rfl, h⟩)
          have HU := Lib.hid (And.intro hu (And.intro hnum (And.intro hdig' hlen')))
          have hub : u.size ≤ 100000 := by omega
          clear hu hnum hdig' hlen'
          rcases hguard with hg | ⟨c, l'', hg, hc48⟩ | ⟨c, l'', hg, hc48⟩
          · subst hg
            simp only [List.length_nil] at hus
            gi_wp2_with (refine ⟨trivial, ?_⟩; gi_at_call 63; refine (callsIn_wide.2 (chunks_any _ _ _)).mono ?_; rintro e w' ⟨rfl, rfl⟩)
            refine range_chunks 8 9 b m [] h2 h36 hm1 hM hM1 (by have := HU.out.2.2.2; omega) HU.out.2.2.1 (W0.heap.size + 2) (W0.heap.size + 1) (by exact rfl) ?bb ?bs (by omega)
              (ParI W0 b m []) (ParI.own (by simp)) (ParI.start b m [] _ _) ?assign ?body ?done
            case bb => exact Boxed.at (Boxed.new _ _ _) (by simp)
            case bs =>
              have hu0 : restAt m [] 0 = u := bytes_ext (by rw [restAt_toList, Nat.mul_zero, List.drop_zero]; exact HU.out.1.symm)
              rw [hu0]
              exact Boxed.at ((Boxed.new _ _ _).alloc _) (by simp)
            case assign =>
              intro y x W K hK
              gi_wp2
              exact hK
            case body =>
              rintro y pre x W ⟨v, xs, hb, hr, ho, hc, hv, hbe, hsz⟩ hbs hlt hsp
              obtain ⟨⟨P1, V1⟩, hx1, hx2⟩ := x
              obtain ⟨va, vc, rfl, hvc, hvm⟩ := hr.form
              have hbc := hb.cell
              have hfc := hb.frozen
              have hle := numBE_take_le b (by omega) (m * (pre.length + 1)) []
              have hlx : xs.length ≤ 300 := canon_length_le hc (by rw [hv]; exact Nat.lt_of_le_of_lt (numBE_take_le b (by omega) _ _) (by rw [HU.out.2.1]; exact HFIT.out))
              have htp := timesPlus_any (.slice va xs.length vc) xs P1 V1 W hr hc.1 (by omega) hx1 hx2
              have HTP := Lib.hid htp
              have HH := Lib.hid (And.intro hv (And.intro hle hsp))
              clear hv hle hsp htp
              simp only [boundFrame]
              gi_wp2_with (first
                | (refine ⟨trivial, ?_⟩; gi_at_call 64; refine (callsIn_wide.2 HTP.out).mono ?_; rintro e w5 ⟨hbe5, v5, cs, rfl, h5, k5, e5⟩; obtain ⟨a5, c5, rfl, hc5, hm5⟩ := h5.form; have hb5 : Boxed w5 W0.heap.size 22 (.slice va xs.length vc) := (hbe5.block _ hb.lt).trans hb; have hbs5 : Boxed w5 (W0.heap.size + 1) 9 _ := (hbe5.block _ hbs.lt).trans hbs; have q1 := hb5.cell; have q2 := hb5.frozen;
                    have hvn : val cs = numBE b (([] : List UInt8).take (m * (pre.length + 1))) := ParI.next (ps := pre.map (·.1)) (q := (P1, V1)) (by simp) (by simpa using HH.out.2.2) _ (by rw [e5, HH.out.1]); have hcl : cs.length ≤ 300 := canon_length_le k5 (by rw [hvn]; exact Nat.lt_of_le_of_lt HH.out.2.1 (by rw [HU.out.2.1]; exact HFIT.out)); have hdl : decide ((cs.length : Int) ≤ 300) = true := (by simp; omega); have HV := Lib.hid hvn; clear hvn e5)
                | (refine ⟨trivial, ?_⟩; gi_at_call 45; refine (callsIn_wide.2 (demand_ok _ _ _ (by first | rfl | (simp; omega)))).mono ?_; rintro e w2 ⟨rfl, rfl⟩))
              have hF : Chg (fun k => k = W0.heap.size) W (w5.setCell ⟨W0.heap.size, 0, none⟩ (.slice a5 cs.length c5)) := ((Chg.refl (fun k => k = W0.heap.size) W).thenBelow hbe5).setCell (p := ⟨W0.heap.size, 0, none⟩) (.inl rfl) _
              refine ⟨hF.keepsFrom _ (by rintro k rfl; exact Boxed.isCells hb), ⟨hF.block _ (by omega) (by omega), hF.block _ (by omega) (by omega)⟩, _, cs, Boxed.set _ hb5, h5.setOther q1 (by simp) _, offB_of h5 hbs5, k5, ?_, hbe.trans (hF.below (fun k hk => by omega) hbe.size), ?_⟩
              · rw [List.length_append, List.length_singleton]
                exact HV.out
              · exact Nat.le_trans hsz hF.size
            case done =>
              rintro D ys W hD ⟨hys, hyl⟩ ⟨v, xs, hb, hr, ho, hc, hv, hbe, hsz⟩ hK
              obtain ⟨va, vc, rfl, hvc, hvm⟩ := hr.form
              have hbc := hb.cell
              have hval : val xs = numBE b l := by rw [hv, List.take_of_length_le hyl]; exact HU.out.2.1
              have HV := Lib.hid hval
              have hrr := r0.below hbe
              clear hv hval hys
              gi_wp2_with (refine ⟨trivial, ?_⟩; gi_at_call 51; refine (callsIn_wide.2 (signed_any _ _ _ _ _)).mono ?_; rintro e w6 ⟨hbe6, rfl⟩; have rr := hrr.below hbe6; have o1 := rr.cell 0; have o2 := rr.cell 1; have o3 := rr.frozen 0; have o4 := rr.frozen 1; simp only [List.getElem?_cons_zero, List.getElem?_cons_succ] at o1 o2)
              obtain ⟨s1, s2⟩ := two_reads (b := w.heap.size) o1 o2 (.bool (true && decide (0 < xs.length))) (.slice va xs.length vc)
              have hkp := two_kept (b := w.heap.size) (hr.below hbe6) o1 o2 (.bool (true && decide (0 < xs.length))) (.slice va xs.length vc)
              have hb8 : Below w.heap.size w ((w6.setCell ⟨w.heap.size, 0, none⟩ (.bool (true && decide (0 < xs.length)))).setCell ⟨w.heap.size, 1, none⟩ (.slice va xs.length vc)) := (((b0.trans (hbe.mono b0.size)).trans (hbe6.mono (b0.trans (hbe.mono b0.size)).size)).setCell (p := ⟨w.heap.size, 0, none⟩) (Nat.le_refl _) _).setCell (p := ⟨w.heap.size, 1, none⟩) (Nat.le_refl _) _
              have hDlt : D < W.heap.size := (Array.getElem?_eq_some_iff.1 hK).1
              have hDw : w.heap.size < D := by
                have h1 := b0.size
                have h2 := r0.lt
                simp only [World.size_alloc] at hD
                omega
              have hK8 : ((w6.setCell ⟨w.heap.size, 0, none⟩ (.bool (true && decide (0 < xs.length)))).setCell ⟨w.heap.size, 1, none⟩ (.slice va xs.length vc)).heap[D]? = some (.deferred (some [])) := by
                exact (Below.heap_setCell _ _ _ _ (by simp; omega)).trans ((Below.heap_setCell _ _ _ _ (by simp; omega)).trans ((hbe6.block D hDlt).trans hK))
              simp only [Bool.true_and] at s1 s2 hkp hb8 hK8
              generalize ((w6.setCell ⟨w.heap.size, 0, none⟩ (.bool (decide (0 < xs.length)))).setCell ⟨w.heap.size, 1, none⟩ (.slice va xs.length vc)) = W8 at *
              have s1' : (W8.putObj D (.deferred none)).cell? ⟨w.heap.size, 0, none⟩ = some (.bool (decide (0 < xs.length))) := (World.cell?_of_block (World.putObj_heap_other (by simp; omega))).trans s1
              have s2' : (W8.putObj D (.deferred none)).cell? ⟨w.heap.size, 1, none⟩ = some (.slice va xs.length vc) := (World.cell?_of_block (World.putObj_heap_other (by simp; omega))).trans s2
              refine ⟨by simp, .inl ⟨_, _, rfl, run_takeDeferred hK8, ?_⟩⟩
              refine ⟨.agg #[.bool (decide (0 < xs.length)), .slice va xs.length vc], by simp [results, Tryz.results28, go_sem, loadCellsFrom, s1', s2'], ?_, _, rfl, ?_⟩
              · exact hb8.trans (belowK_b (w := w) (Nat.le_refl _) W8 D _ _ (by omega) hK8 rfl rfl)
              · have h9 := isInt_mk true (hkp.putObj hK8 rfl (.deferred none)) hc (i := sgn true (numBE b l)) (by rw [HV.out])
                simpa using h9
          · subst hg
            have h0' : 0 < (c :: l'').length := by simp
            have hix := fun W => index_string u 0 (c :: l'') HU.out.1 h0' W
            simp only [Int.ofNat_zero, List.getElem_cons_zero, hc48] at hix
            have hus1 : 0 < u.size := by rw [hus]; simp
            have hcut2 : ∃ u2 : ByteArray, u.extract 1 u.size = u2 ∧ u2.data.toList = l'' := ⟨_, rfl, by rw [Lib.extract_to_end, HU.out.1]; rfl⟩
            obtain ⟨u2, hu2, hu2l⟩ := hcut2
            have hsz2 : u2.size < u.size := by rw [hus, ← size_toList u2, hu2l]; simp
            have hst : strLen (some (.string u2)) < strLen (some (.string u)) := hsz2
            have H2 := Lib.hid hu2l
            have HC48 := Lib.hid hc48
            clear hus hu2l hsz2 hc48
            gi_wp2_with fail
            refine ⟨⟨u2, l'', rfl, H2.out, ?_, fun x hx => HU.out.2.2.1 x (by simp [hx]), by have := HU.out.2.2.2; simp at this; omega⟩, hst⟩
            rw [← HU.out.2.1, numBE_zero b c l'' HC48.out]
          · subst hg
            have h0' : 0 < (c :: l'').length := by simp
            have hix := fun W => index_string u 0 (c :: l'') HU.out.1 h0' W
            simp only [Int.ofNat_zero, List.getElem_cons_zero] at hix
            have hne48 : (((c.toNat : Nat) : Int) == 48) = false := beq_eq_false_iff_ne.2 (by omega)
            have hus1 : 0 < u.size := by rw [hus]; simp
            clear hus hc48
            gi_wp2_with (refine ⟨trivial, ?_⟩; gi_at_call 63; refine (callsIn_wide.2 (chunks_any _ _ _)).mono ?_; rintro e w' ⟨rfl, rfl⟩)
            refine range_chunks 8 9 b m (c :: l'') h2 h36 hm1 hM hM1 (by have := HU.out.2.2.2; omega) HU.out.2.2.1 (W0.heap.size + 2) (W0.heap.size + 1) (by exact rfl) ?bb ?bs (by omega)
              (ParI W0 b m (c :: l'')) (ParI.own (by simp)) (ParI.start b m (c :: l'') _ _) ?assign ?body ?done
            case bb => exact Boxed.at (Boxed.new _ _ _) (by simp)
            case bs =>
              have hu0 : restAt m (c :: l'') 0 = u := bytes_ext (by rw [restAt_toList, Nat.mul_zero, List.drop_zero]; exact HU.out.1.symm)
              rw [hu0]
              exact Boxed.at ((Boxed.new _ _ _).alloc _) (by simp)
            case assign =>
              intro y x W K hK
              gi_wp2
              exact hK
            case body =>
              rintro y pre x W ⟨v, xs, hb, hr, ho, hc, hv, hbe, hsz⟩ hbs hlt hsp
              obtain ⟨⟨P1, V1⟩, hx1, hx2⟩ := x
              obtain ⟨va, vc, rfl, hvc, hvm⟩ := hr.form
              have hbc := hb.cell
              have hfc := hb.frozen
              have hle := numBE_take_le b (by omega) (m * (pre.length + 1)) (c :: l'')
              have hlx : xs.length ≤ 300 := canon_length_le hc (by rw [hv]; exact Nat.lt_of_le_of_lt (numBE_take_le b (by omega) _ _) (by rw [HU.out.2.1]; exact HFIT.out))
              have htp := timesPlus_any (.slice va xs.length vc) xs P1 V1 W hr hc.1 (by omega) hx1 hx2
              have HTP := Lib.hid htp
              have HH := Lib.hid (And.intro hv (And.intro hle hsp))
              clear hv hle hsp htp
              simp only [boundFrame]
              gi_wp2_with (first
                | (refine ⟨trivial, ?_⟩; gi_at_call 64; refine (callsIn_wide.2 HTP.out).mono ?_; rintro e w5 ⟨hbe5, v5, cs, rfl, h5, k5, e5⟩; obtain ⟨a5, c5, rfl, hc5, hm5⟩ := h5.form; have hb5 : Boxed w5 W0.heap.size 22 (.slice va xs.length vc) := (hbe5.block _ hb.lt).trans hb; have hbs5 : Boxed w5 (W0.heap.size + 1) 9 _ := (hbe5.block _ hbs.lt).trans hbs; have q1 := hb5.cell; have q2 := hb5.frozen;
                    have hvn : val cs = numBE b ((c :: l'' : List UInt8).take (m * (pre.length + 1))) := ParI.next (ps := pre.map (·.1)) (q := (P1, V1)) (by simp) (by simpa using HH.out.2.2) _ (by rw [e5, HH.out.1]); have hcl : cs.length ≤ 300 := canon_length_le k5 (by rw [hvn]; exact Nat.lt_of_le_of_lt HH.out.2.1 (by rw [HU.out.2.1]; exact HFIT.out)); have hdl : decide ((cs.length : Int) ≤ 300) = true := (by simp; omega); have HV := Lib.hid hvn; clear hvn e5)
                | (refine ⟨trivial, ?_⟩; gi_at_call 45; refine (callsIn_wide.2 (demand_ok _ _ _ (by first | rfl | (simp; omega)))).mono ?_; rintro e w2 ⟨rfl, rfl⟩))
              have hF : Chg (fun k => k = W0.heap.size) W (w5.setCell ⟨W0.heap.size, 0, none⟩ (.slice a5 cs.length c5)) := ((Chg.refl (fun k => k = W0.heap.size) W).thenBelow hbe5).setCell (p := ⟨W0.heap.size, 0, none⟩) (.inl rfl) _
              refine ⟨hF.keepsFrom _ (by rintro k rfl; exact Boxed.isCells hb), ⟨hF.block _ (by omega) (by omega), hF.block _ (by omega) (by omega)⟩, _, cs, Boxed.set _ hb5, h5.setOther q1 (by simp) _, offB_of h5 hbs5, k5, ?_, hbe.trans (hF.below (fun k hk => by omega) hbe.size), ?_⟩
              · rw [List.length_append, List.length_singleton]
                exact HV.out
              · exact Nat.le_trans hsz hF.size
            case done =>
              rintro D ys W hD ⟨hys, hyl⟩ ⟨v, xs, hb, hr, ho, hc, hv, hbe, hsz⟩ hK
              obtain ⟨va, vc, rfl, hvc, hvm⟩ := hr.form
              have hbc := hb.cell
              have hval : val xs = numBE b l := by rw [hv, List.take_of_length_le hyl]; exact HU.out.2.1
              have HV := Lib.hid hval
              have hrr := r0.below hbe
              clear hv hval hys
              gi_wp2_with (refine ⟨trivial, ?_⟩; gi_at_call 51; refine (callsIn_wide.2 (signed_any _ _ _ _ _)).mono ?_; rintro e w6 ⟨hbe6, rfl⟩; have rr := hrr.below hbe6; have o1 := rr.cell 0; have o2 := rr.cell 1; have o3 := rr.frozen 0; have o4 := rr.frozen 1; simp only [List.getElem?_cons_zero, List.getElem?_cons_succ] at o1 o2)
              obtain ⟨s1, s2⟩ := two_reads (b := w.heap.size) o1 o2 (.bool (true && decide (0 < xs.length))) (.slice va xs.length vc)
              have hkp := two_kept (b := w.heap.size) (hr.below hbe6) o1 o2 (.bool (true && decide (0 < xs.length))) (.slice va xs.length vc)
              have hb8 : Below w.heap.size w ((w6.setCell ⟨w.heap.size, 0, none⟩ (.bool (true && decide (0 < xs.length)))).setCell ⟨w.heap.size, 1, none⟩ (.slice va xs.length vc)) := (((b0.trans (hbe.mono b0.size)).trans (hbe6.mono (b0.trans (hbe.mono b0.size)).size)).setCell (p := ⟨w.heap.size, 0, none⟩) (Nat.le_refl _) _).setCell (p := ⟨w.heap.size, 1, none⟩) (Nat.le_refl _) _
              have hDlt : D < W.heap.size := (Array.getElem?_eq_some_iff.1 hK).1
              have hDw : w.heap.size < D := by
                have h1 := b0.size
                have h2 := r0.lt
                simp only [World.size_alloc] at hD
                omega
              have hK8 : ((w6.setCell ⟨w.heap.size, 0, none⟩ (.bool (true && decide (0 < xs.length)))).setCell ⟨w.heap.size, 1, none⟩ (.slice va xs.length vc)).heap[D]? = some (.deferred (some [])) := by
                exact (Below.heap_setCell _ _ _ _ (by simp; omega)).trans ((Below.heap_setCell _ _ _ _ (by simp; omega)).trans ((hbe6.block D hDlt).trans hK))
              simp only [Bool.true_and] at s1 s2 hkp hb8 hK8
              generalize ((w6.setCell ⟨w.heap.size, 0, none⟩ (.bool (decide (0 < xs.length)))).setCell ⟨w.heap.size, 1, none⟩ (.slice va xs.length vc)) = W8 at *
              have s1' : (W8.putObj D (.deferred none)).cell? ⟨w.heap.size, 0, none⟩ = some (.bool (decide (0 < xs.length))) := (World.cell?_of_block (World.putObj_heap_other (by simp; omega))).trans s1
              have s2' : (W8.putObj D (.deferred none)).cell? ⟨w.heap.size, 1, none⟩ = some (.slice va xs.length vc) := (World.cell?_of_block (World.putObj_heap_other (by simp; omega))).trans s2
              refine ⟨by simp, .inl ⟨_, _, rfl, run_takeDeferred hK8, ?_⟩⟩
              refine ⟨.agg #[.bool (decide (0 < xs.length)), .slice va xs.length vc], by simp [results, Tryz.results28, go_sem, loadCellsFrom, s1', s2'], ?_, _, rfl, ?_⟩
              · exact hb8.trans (belowK_b (w := w) (Nat.le_refl _) W8 D _ _ (by omega) hK8 rfl rfl)
              · have h9 := isInt_mk true (hkp.putObj hK8 rfl (.deferred none)) hc (i := sgn true (numBE b l)) (by rw [HV.out])
                simpa using h9

end Go.Proofs.YtlghjfpkfdnfoaaGreatDoor

/- num: Pow,Root,Text,Parse around guard.Attempt -/
namespace Go.Proofs.YtlghjfpkfdnfoaaGreatDoor
open Go Go.RowKit Go.Shelf

set_option maxHeartbeats 1000000 in
set_option maxRecDepth 100000 in
theorem Pow_of (va : Value) (na : Bool) (xa : List Nat) (n : Int) (w : World) (ha : IntAt w va na xa) (Post : Int → World → Value → Prop) (hpk : ∀ k W W' u0, Post k W u0 → (∀ v xs, Reads .u32 W v xs → Reads .u32 W' v xs) → Post k W' u0)
    (hcl : ∀ (B : Nat) (aa : Option Addr) (ca : Nat) (W4 : World), Below w.heap.size w W4 → RowAt W4 B 24 [.bool na, .slice aa xa.length ca] → RowAt W4 (B + 1) 3 [.int .i64 n] → RowAt W4 (B + 2) 24 [.bool false, .slice none 0 0] → Reads .u32 W4 (.slice aa xa.length ca) xa → va = .agg #[.bool na, .slice aa xa.length ca] → Calls Tryz.prog 48 #[.pointer (some ⟨B, 0, none⟩), .pointer (some ⟨B + 1, 0, none⟩), .pointer (some ⟨B + 2, 0, none⟩)] W4 fun e W => ∃ k, (k = 0 ∧ e = .returned (.tuple #[]) ∨ e = .panicked [{ v := .iface 27 (.int .i64 k), recovered := false }]) ∧ Chg (fun i => i = B + 2) W4 W ∧ (∃ n0 a0 m0 c0, RowAt W (B + 2) 24 [.bool n0, .slice a0 m0 c0] ∧ Post k W (.agg #[.bool n0, .slice a0 m0 c0]))) :
    Calls Tryz.prog 18 #[va, .int .i64 n] w fun e w' => Below w.heap.size w w' ∧ ∃ r0 k, e = .returned (.tuple #[r0, .int .i64 k]) ∧ Post k w' r0 := by
  obtain ⟨sa, rfl, hra, hla⟩ := ha
  obtain ⟨aa, ca, rfl, hca, hma⟩ := hra.form
  have hmf : ∀ (fn : Fn) (first cap : Array Value) (w : World), (Instr.makeFunc fn first cap).run Tryz.prog w = .ok (.func fn first cap) w := fun _ _ _ _ => rfl
  have q0 := (((RowAt.new w 24 [.bool na, .slice aa xa.length ca]).alloc (.cells #[.int .i64 n] 3)).alloc (.cells #[.bool false, .slice none 0 0] 24)).alloc (.cells #[.int .i64 0] 27)
  have q1 := ((RowAt.new (w.alloc (.cells #[.bool na, .slice aa xa.length ca] 24)) 3 [.int .i64 n]).alloc (.cells #[.bool false, .slice none 0 0] 24)).alloc (.cells #[.int .i64 0] 27)
  have q2 := (RowAt.new ((w.alloc (.cells #[.bool na, .slice aa xa.length ca] 24)).alloc (.cells #[.int .i64 n] 3)) 24 [.bool false, .slice none 0 0]).alloc (.cells #[.int .i64 0] 27)
  have q3 := Boxed.new (((w.alloc (.cells #[.bool na, .slice aa xa.length ca] 24)).alloc (.cells #[.int .i64 n] 3)).alloc (.cells #[.bool false, .slice none 0 0] 24)) 27 (.int .i64 0)
  have bw := (((((Below.refl w.heap.size w).alloc (Nat.le_refl _) (.cells #[.bool na, .slice aa xa.length ca] 24)).alloc (by simp) (.cells #[.int .i64 n] 3)).alloc (by simp; omega) (.cells #[.bool false, .slice none 0 0] 24)).alloc (by simp; omega) (.cells #[.int .i64 0] 27))
  simp only [World.size_alloc] at q1 q2 q3
  generalize hW4 : ((((w.alloc (.cells #[.bool na, .slice aa xa.length ca] 24)).alloc (.cells #[.int .i64 n] 3)).alloc (.cells #[.bool false, .slice none 0 0] 24)).alloc (.cells #[.int .i64 0] 27)) = W4 at q0 q1 q2 q3 bw
  have key := hcl w.heap.size aa ca W4 bw q0 q1 q2 (hra.below bw) rfl
  have att := attempt_any 48 #[.pointer (some ⟨w.heap.size, 0, none⟩), .pointer (some ⟨w.heap.size + 1, 0, none⟩), .pointer (some ⟨w.heap.size + 1 + 1, 0, none⟩)]
    (((w.alloc (.cells #[.bool na, .slice aa xa.length ca] 24)).alloc (.cells #[.int .i64 n] 3)).alloc (.cells #[.bool false, .slice none 0 0] 24))
    (fun k W => Chg (fun i => i = w.heap.size + 2) W4 W ∧ (∃ n0 a0 m0 c0, RowAt W (w.heap.size + 2) 24 [.bool n0, .slice a0 m0 c0] ∧ Post k W (.agg #[.bool n0, .slice a0 m0 c0])))
    (fun W => by simp [go_sem])
    (fun k W h => by simp only [World.size_alloc]; exact h.1.boxed q3 (by omega))
    (by
      rw [hW4]
      refine key.mono ?_
      rintro e W ⟨k, h1, h2⟩
      rcases h1 with ⟨rfl, rfl⟩ | rfl
      · exact .inl ⟨rfl, h2⟩
      · exact .inr ⟨k, rfl, h2⟩)
  clear key
  go_enter Tryz.func18, Tryz.ntmps18
  go_wp2_with (refine att.mono ?_; rintro e W' ⟨k, W, ⟨hch, n, a, m, c, hr, hres⟩, rfl, rfl⟩; simp only [World.size_alloc]; have hr9 := hr.other (a := ⟨w.heap.size + 1 + 1 + 1, 0, none⟩) (by simp) (.int .i64 k); have s3 := hr.frozen 0; have s4 := hr.frozen 1; have s1 := hr9.cell 0; have s2 := hr9.cell 1; simp only [List.getElem?_cons_zero, List.getElem?_cons_succ] at s1 s2)
  obtain ⟨u1, u2⟩ := two_reads (b := w.heap.size + 1 + 1) s1 s2 (.bool n) (.slice a m c)
  have e4 := (hch.boxed q3 (by omega)).cell
  have hkeep : ∀ v xs, Reads .u32 W v xs → Reads .u32 (((W.setCell ⟨w.heap.size + 1 + 1 + 1, 0, none⟩ (.int .i64 k)).setCell ⟨w.heap.size + 1 + 1, 0, none⟩ (.bool n)).setCell ⟨w.heap.size + 1 + 1, 1, none⟩ (.slice a m c)) v xs :=
    fun v xs h => two_kept (b := w.heap.size + 1 + 1) (h.setOther e4 (by simp) _) s1 s2 _ _
  refine bodyPost_ret (v := .tuple #[.agg #[.bool n, .slice a m c], .int .i64 k]) (by simp [results, Tryz.results18, go_sem, loadCellsFrom, u1, u2]) rfl ⟨?_, _, k, rfl, hpk _ _ _ _ hres hkeep⟩
  have hb9 : Below w.heap.size w W := bw.trans (hch.below (B := w.heap.size) (fun i hi => by omega) bw.size)
  exact ((hb9.setCell (by simp; omega) _).setCell (by simp; omega) _).setCell (by simp; omega) _

set_option maxHeartbeats 1000000 in
set_option maxRecDepth 100000 in
theorem Root_of (va : Value) (na : Bool) (xa : List Nat) (n : Int) (w : World) (ha : IntAt w va na xa) (Post : Int → World → Value → Prop) (hpk : ∀ k W W' u0, Post k W u0 → (∀ v xs, Reads .u32 W v xs → Reads .u32 W' v xs) → Post k W' u0)
    (hcl : ∀ (B : Nat) (aa : Option Addr) (ca : Nat) (W4 : World), Below w.heap.size w W4 → RowAt W4 B 24 [.bool na, .slice aa xa.length ca] → RowAt W4 (B + 1) 3 [.int .i64 n] → RowAt W4 (B + 2) 24 [.bool false, .slice none 0 0] → Reads .u32 W4 (.slice aa xa.length ca) xa → va = .agg #[.bool na, .slice aa xa.length ca] → Calls Tryz.prog 55 #[.pointer (some ⟨B, 0, none⟩), .pointer (some ⟨B + 1, 0, none⟩), .pointer (some ⟨B + 2, 0, none⟩)] W4 fun e W => ∃ k, (k = 0 ∧ e = .returned (.tuple #[]) ∨ e = .panicked [{ v := .iface 27 (.int .i64 k), recovered := false }]) ∧ Chg (fun i => i = B + 2) W4 W ∧ (∃ n0 a0 m0 c0, RowAt W (B + 2) 24 [.bool n0, .slice a0 m0 c0] ∧ Post k W (.agg #[.bool n0, .slice a0 m0 c0]))) :
    Calls Tryz.prog 20 #[va, .int .i64 n] w fun e w' => Below w.heap.size w w' ∧ ∃ r0 k, e = .returned (.tuple #[r0, .int .i64 k]) ∧ Post k w' r0 := by
  obtain ⟨sa, rfl, hra, hla⟩ := ha
  obtain ⟨aa, ca, rfl, hca, hma⟩ := hra.form
  have hmf : ∀ (fn : Fn) (first cap : Array Value) (w : World), (Instr.makeFunc fn first cap).run Tryz.prog w = .ok (.func fn first cap) w := fun _ _ _ _ => rfl
  have q0 := (((RowAt.new w 24 [.bool na, .slice aa xa.length ca]).alloc (.cells #[.int .i64 n] 3)).alloc (.cells #[.bool false, .slice none 0 0] 24)).alloc (.cells #[.int .i64 0] 27)
  have q1 := ((RowAt.new (w.alloc (.cells #[.bool na, .slice aa xa.length ca] 24)) 3 [.int .i64 n]).alloc (.cells #[.bool false, .slice none 0 0] 24)).alloc (.cells #[.int .i64 0] 27)
  have q2 := (RowAt.new ((w.alloc (.cells #[.bool na, .slice aa xa.length ca] 24)).alloc (.cells #[.int .i64 n] 3)) 24 [.bool false, .slice none 0 0]).alloc (.cells #[.int .i64 0] 27)
  have q3 := Boxed.new (((w.alloc (.cells #[.bool na, .slice aa xa.length ca] 24)).alloc (.cells #[.int .i64 n] 3)).alloc (.cells #[.bool false, .slice none 0 0] 24)) 27 (.int .i64 0)
  have bw := (((((Below.refl w.heap.size w).alloc (Nat.le_refl _) (.cells #[.bool na, .slice aa xa.length ca] 24)).alloc (by simp) (.cells #[.int .i64 n] 3)).alloc (by simp; omega) (.cells #[.bool false, .slice none 0 0] 24)).alloc (by simp; omega) (.cells #[.int .i64 0] 27))
  simp only [World.size_alloc] at q1 q2 q3
  generalize hW4 : ((((w.alloc (.cells #[.bool na, .slice aa xa.length ca] 24)).alloc (.cells #[.int .i64 n] 3)).alloc (.cells #[.bool false, .slice none 0 0] 24)).alloc (.cells #[.int .i64 0] 27)) = W4 at q0 q1 q2 q3 bw
  have key := hcl w.heap.size aa ca W4 bw q0 q1 q2 (hra.below bw) rfl
  have att := attempt_any 55 #[.pointer (some ⟨w.heap.size, 0, none⟩), .pointer (some ⟨w.heap.size + 1, 0, none⟩), .pointer (some ⟨w.heap.size + 1 + 1, 0, none⟩)]
    (((w.alloc (.cells #[.bool na, .slice aa xa.length ca] 24)).alloc (.cells #[.int .i64 n] 3)).alloc (.cells #[.bool false, .slice none 0 0] 24))
    (fun k W => Chg (fun i => i = w.heap.size + 2) W4 W ∧ (∃ n0 a0 m0 c0, RowAt W (w.heap.size + 2) 24 [.bool n0, .slice a0 m0 c0] ∧ Post k W (.agg #[.bool n0, .slice a0 m0 c0])))
    (fun W => by simp [go_sem])
    (fun k W h => by simp only [World.size_alloc]; exact h.1.boxed q3 (by omega))
    (by
      rw [hW4]
      refine key.mono ?_
      rintro e W ⟨k, h1, h2⟩
      rcases h1 with ⟨rfl, rfl⟩ | rfl
      · exact .inl ⟨rfl, h2⟩
      · exact .inr ⟨k, rfl, h2⟩)
  clear key
  go_enter Tryz.func20, Tryz.ntmps20
  go_wp2_with (refine att.mono ?_; rintro e W' ⟨k, W, ⟨hch, n, a, m, c, hr, hres⟩, rfl, rfl⟩; simp only [World.size_alloc]; have hr9 := hr.other (a := ⟨w.heap.size + 1 + 1 + 1, 0, none⟩) (by simp) (.int .i64 k); have s3 := hr.frozen 0; have s4 := hr.frozen 1; have s1 := hr9.cell 0; have s2 := hr9.cell 1; simp only [List.getElem?_cons_zero, List.getElem?_cons_succ] at s1 s2)
  obtain ⟨u1, u2⟩ := two_reads (b := w.heap.size + 1 + 1) s1 s2 (.bool n) (.slice a m c)
  have e4 := (hch.boxed q3 (by omega)).cell
  have hkeep : ∀ v xs, Reads .u32 W v xs → Reads .u32 (((W.setCell ⟨w.heap.size + 1 + 1 + 1, 0, none⟩ (.int .i64 k)).setCell ⟨w.heap.size + 1 + 1, 0, none⟩ (.bool n)).setCell ⟨w.heap.size + 1 + 1, 1, none⟩ (.slice a m c)) v xs :=
    fun v xs h => two_kept (b := w.heap.size + 1 + 1) (h.setOther e4 (by simp) _) s1 s2 _ _
  refine bodyPost_ret (v := .tuple #[.agg #[.bool n, .slice a m c], .int .i64 k]) (by simp [results, Tryz.results20, go_sem, loadCellsFrom, u1, u2]) rfl ⟨?_, _, k, rfl, hpk _ _ _ _ hres hkeep⟩
  have hb9 : Below w.heap.size w W := bw.trans (hch.below (B := w.heap.size) (fun i hi => by omega) bw.size)
  exact ((hb9.setCell (by simp; omega) _).setCell (by simp; omega) _).setCell (by simp; omega) _

set_option maxHeartbeats 1000000 in
set_option maxRecDepth 100000 in
theorem Text_of (va : Value) (na : Bool) (xa : List Nat) (base : Int) (w : World) (ha : IntAt w va na xa) (Post : Int → World → Value → Prop) (hpk : ∀ k W W' u0, Post k W u0 → (∀ v xs, Reads .u32 W v xs → Reads .u32 W' v xs) → Post k W' u0)
    (hcl : ∀ (B : Nat) (aa : Option Addr) (ca : Nat) (W4 : World), Below w.heap.size w W4 → RowAt W4 B 24 [.bool na, .slice aa xa.length ca] → RowAt W4 (B + 1) 3 [.int .i64 base] → RowAt W4 (B + 2) 9 [.string ByteArray.empty] → Reads .u32 W4 (.slice aa xa.length ca) xa → va = .agg #[.bool na, .slice aa xa.length ca] → Calls Tryz.prog 23 #[.pointer (some ⟨B, 0, none⟩), .pointer (some ⟨B + 1, 0, none⟩), .pointer (some ⟨B + 2, 0, none⟩)] W4 fun e W => ∃ k, (k = 0 ∧ e = .returned (.tuple #[]) ∨ e = .panicked [{ v := .iface 27 (.int .i64 k), recovered := false }]) ∧ Chg (fun i => i = B + 2) W4 W ∧ (∃ s0, RowAt W (B + 2) 9 [.string s0] ∧ Post k W (.string s0))) :
    Calls Tryz.prog 6 #[va, .int .i64 base] w fun e w' => Below w.heap.size w w' ∧ ∃ r0 k, e = .returned (.tuple #[r0, .int .i64 k]) ∧ Post k w' r0 := by
  obtain ⟨sa, rfl, hra, hla⟩ := ha
  obtain ⟨aa, ca, rfl, hca, hma⟩ := hra.form
  have hmf : ∀ (fn : Fn) (first cap : Array Value) (w : World), (Instr.makeFunc fn first cap).run Tryz.prog w = .ok (.func fn first cap) w := fun _ _ _ _ => rfl
  have q0 := (((RowAt.new w 24 [.bool na, .slice aa xa.length ca]).alloc (.cells #[.int .i64 base] 3)).alloc (.cells #[.string ByteArray.empty] 9)).alloc (.cells #[.int .i64 0] 27)
  have q1 := ((RowAt.new (w.alloc (.cells #[.bool na, .slice aa xa.length ca] 24)) 3 [.int .i64 base]).alloc (.cells #[.string ByteArray.empty] 9)).alloc (.cells #[.int .i64 0] 27)
  have q2 := (RowAt.new ((w.alloc (.cells #[.bool na, .slice aa xa.length ca] 24)).alloc (.cells #[.int .i64 base] 3)) 9 [.string ByteArray.empty]).alloc (.cells #[.int .i64 0] 27)
  have q3 := Boxed.new (((w.alloc (.cells #[.bool na, .slice aa xa.length ca] 24)).alloc (.cells #[.int .i64 base] 3)).alloc (.cells #[.string ByteArray.empty] 9)) 27 (.int .i64 0)
  have bw := (((((Below.refl w.heap.size w).alloc (Nat.le_refl _) (.cells #[.bool na, .slice aa xa.length ca] 24)).alloc (by simp) (.cells #[.int .i64 base] 3)).alloc (by simp; omega) (.cells #[.string ByteArray.empty] 9)).alloc (by simp; omega) (.cells #[.int .i64 0] 27))
  simp only [World.size_alloc] at q1 q2 q3
  generalize hW4 : ((((w.alloc (.cells #[.bool na, .slice aa xa.length ca] 24)).alloc (.cells #[.int .i64 base] 3)).alloc (.cells #[.string ByteArray.empty] 9)).alloc (.cells #[.int .i64 0] 27)) = W4 at q0 q1 q2 q3 bw
  have key := hcl w.heap.size aa ca W4 bw q0 q1 q2 (hra.below bw) rfl
  have att := attempt_any 23 #[.pointer (some ⟨w.heap.size, 0, none⟩), .pointer (some ⟨w.heap.size + 1, 0, none⟩), .pointer (some ⟨w.heap.size + 1 + 1, 0, none⟩)]
    (((w.alloc (.cells #[.bool na, .slice aa xa.length ca] 24)).alloc (.cells #[.int .i64 base] 3)).alloc (.cells #[.string ByteArray.empty] 9))
    (fun k W => Chg (fun i => i = w.heap.size + 2) W4 W ∧ (∃ s0, RowAt W (w.heap.size + 2) 9 [.string s0] ∧ Post k W (.string s0)))
    (fun W => by simp [go_sem])
    (fun k W h => by simp only [World.size_alloc]; exact h.1.boxed q3 (by omega))
    (by
      rw [hW4]
      refine key.mono ?_
      rintro e W ⟨k, h1, h2⟩
      rcases h1 with ⟨rfl, rfl⟩ | rfl
      · exact .inl ⟨rfl, h2⟩
      · exact .inr ⟨k, rfl, h2⟩)
  clear key
  go_enter Tryz.func6, Tryz.ntmps6
  go_wp2_with (refine att.mono ?_; rintro e W' ⟨k, W, ⟨hch, z, hr, hres⟩, rfl, rfl⟩; simp only [World.size_alloc]; have hr9 := hr.other (a := ⟨w.heap.size + 1 + 1 + 1, 0, none⟩) (by simp) (.int .i64 k); have s3 := hr.frozen 0; have s1 := hr9.cell 0; simp only [List.getElem?_cons_zero] at s1)
  have u1 := World.cell?_setCell_same _ _ (.string z) s1
  have e4 := (hch.boxed q3 (by omega)).cell
  have hkeep : ∀ v xs, Reads .u32 W v xs → Reads .u32 ((W.setCell ⟨w.heap.size + 1 + 1 + 1, 0, none⟩ (.int .i64 k)).setCell ⟨w.heap.size + 1 + 1, 0, none⟩ (.string z)) v xs :=
    fun v xs h => (h.setOther e4 (by simp) _).setOther s1 (by simp) _
  refine bodyPost_ret (v := .tuple #[.string z, .int .i64 k]) (by simp [results, Tryz.results6, go_sem, loadCellsFrom, u1]) rfl ⟨?_, _, k, rfl, hpk _ _ _ _ hres hkeep⟩
  have hb9 : Below w.heap.size w W := bw.trans (hch.below (B := w.heap.size) (fun i hi => by omega) bw.size)
  exact (hb9.setCell (by simp; omega) _).setCell (by simp; omega) _

set_option maxHeartbeats 1000000 in
set_option maxRecDepth 100000 in
theorem Parse_of (s : ByteArray) (base : Int) (w : World)  (Post : Int → World → Value → Prop) (hpk : ∀ k W W' u0, Post k W u0 → (∀ v xs, Reads .u32 W v xs → Reads .u32 W' v xs) → Post k W' u0)
    (hcl : ∀ (B : Nat)  (W4 : World), Below w.heap.size w W4 → RowAt W4 B 9 [.string s] → RowAt W4 (B + 1) 3 [.int .i64 base] → RowAt W4 (B + 2) 24 [.bool false, .slice none 0 0] → Calls Tryz.prog 27 #[.pointer (some ⟨B + 1, 0, none⟩), .pointer (some ⟨B, 0, none⟩), .pointer (some ⟨B + 2, 0, none⟩)] W4 fun e W => ∃ k, (k = 0 ∧ e = .returned (.tuple #[]) ∨ e = .panicked [{ v := .iface 27 (.int .i64 k), recovered := false }]) ∧ Chg (fun i => i = B + 2) W4 W ∧ (∃ n0 a0 m0 c0, RowAt W (B + 2) 24 [.bool n0, .slice a0 m0 c0] ∧ Post k W (.agg #[.bool n0, .slice a0 m0 c0]))) :
    Calls Tryz.prog 7 #[.string s, .int .i64 base] w fun e w' => Below w.heap.size w w' ∧ ∃ r0 k, e = .returned (.tuple #[r0, .int .i64 k]) ∧ Post k w' r0 := by
  have hmf : ∀ (fn : Fn) (first cap : Array Value) (w : World), (Instr.makeFunc fn first cap).run Tryz.prog w = .ok (.func fn first cap) w := fun _ _ _ _ => rfl
  have q0 := (((RowAt.new w 9 [.string s]).alloc (.cells #[.int .i64 base] 3)).alloc (.cells #[.bool false, .slice none 0 0] 24)).alloc (.cells #[.int .i64 0] 27)
  have q1 := ((RowAt.new (w.alloc (.cells #[.string s] 9)) 3 [.int .i64 base]).alloc (.cells #[.bool false, .slice none 0 0] 24)).alloc (.cells #[.int .i64 0] 27)
  have q2 := (RowAt.new ((w.alloc (.cells #[.string s] 9)).alloc (.cells #[.int .i64 base] 3)) 24 [.bool false, .slice none 0 0]).alloc (.cells #[.int .i64 0] 27)
  have q3 := Boxed.new (((w.alloc (.cells #[.string s] 9)).alloc (.cells #[.int .i64 base] 3)).alloc (.cells #[.bool false, .slice none 0 0] 24)) 27 (.int .i64 0)
  have bw := (((((Below.refl w.heap.size w).alloc (Nat.le_refl _) (.cells #[.string s] 9)).alloc (by simp) (.cells #[.int .i64 base] 3)).alloc (by simp; omega) (.cells #[.bool false, .slice none 0 0] 24)).alloc (by simp; omega) (.cells #[.int .i64 0] 27))
  simp only [World.size_alloc] at q1 q2 q3
  generalize hW4 : ((((w.alloc (.cells #[.string s] 9)).alloc (.cells #[.int .i64 base] 3)).alloc (.cells #[.bool false, .slice none 0 0] 24)).alloc (.cells #[.int .i64 0] 27)) = W4 at q0 q1 q2 q3 bw
  have key := hcl w.heap.size  W4 bw q0 q1 q2  
  have att := attempt_any 27 #[.pointer (some ⟨w.heap.size + 1, 0, none⟩), .pointer (some ⟨w.heap.size, 0, none⟩), .pointer (some ⟨w.heap.size + 1 + 1, 0, none⟩)]
    (((w.alloc (.cells #[.string s] 9)).alloc (.cells #[.int .i64 base] 3)).alloc (.cells #[.bool false, .slice none 0 0] 24))
    (fun k W => Chg (fun i => i = w.heap.size + 2) W4 W ∧ (∃ n0 a0 m0 c0, RowAt W (w.heap.size + 2) 24 [.bool n0, .slice a0 m0 c0] ∧ Post k W (.agg #[.bool n0, .slice a0 m0 c0])))
    (fun W => by simp [go_sem])
    (fun k W h => by simp only [World.size_alloc]; exact h.1.boxed q3 (by omega))
    (by
      rw [hW4]
      refine key.mono ?_
      rintro e W ⟨k, h1, h2⟩
      rcases h1 with ⟨rfl, rfl⟩ | rfl
      · exact .inl ⟨rfl, h2⟩
      · exact .inr ⟨k, rfl, h2⟩)
  clear key
  go_enter Tryz.func7, Tryz.ntmps7
  go_wp2_with (refine att.mono ?_; rintro e W' ⟨k, W, ⟨hch, n, a, m, c, hr, hres⟩, rfl, rfl⟩; simp only [World.size_alloc]; have hr9 := hr.other (a := ⟨w.heap.size + 1 + 1 + 1, 0, none⟩) (by simp) (.int .i64 k); have s3 := hr.frozen 0; have s4 := hr.frozen 1; have s1 := hr9.cell 0; have s2 := hr9.cell 1; simp only [List.getElem?_cons_zero, List.getElem?_cons_succ] at s1 s2)
  obtain ⟨u1, u2⟩ := two_reads (b := w.heap.size + 1 + 1) s1 s2 (.bool n) (.slice a m c)
  have e4 := (hch.boxed q3 (by omega)).cell
  have hkeep : ∀ v xs, Reads .u32 W v xs → Reads .u32 (((W.setCell ⟨w.heap.size + 1 + 1 + 1, 0, none⟩ (.int .i64 k)).setCell ⟨w.heap.size + 1 + 1, 0, none⟩ (.bool n)).setCell ⟨w.heap.size + 1 + 1, 1, none⟩ (.slice a m c)) v xs :=
    fun v xs h => two_kept (b := w.heap.size + 1 + 1) (h.setOther e4 (by simp) _) s1 s2 _ _
  refine bodyPost_ret (v := .tuple #[.agg #[.bool n, .slice a m c], .int .i64 k]) (by simp [results, Tryz.results7, go_sem, loadCellsFrom, u1, u2]) rfl ⟨?_, _, k, rfl, hpk _ _ _ _ hres hkeep⟩
  have hb9 : Below w.heap.size w W := bw.trans (hch.below (B := w.heap.size) (fun i hi => by omega) bw.size)
  exact ((hb9.setCell (by simp; omega) _).setCell (by simp; omega) _).setCell (by simp; omega) _

end Go.Proofs.YtlghjfpkfdnfoaaGreatDoor
