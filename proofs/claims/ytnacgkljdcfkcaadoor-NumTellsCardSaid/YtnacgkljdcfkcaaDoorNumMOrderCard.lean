/- from the rows' conditions to what the walks ask: the table of digits, an argument api.Int -/
import Derived.Test.YtnacgkljdcfkcaaDoorRows
import Derived.Test.YtnacgkljdcfkcaaDoorNumMOrder
import Derived.ProofKit
import Derived.LaidMore
import Derived.OpenShut
import Derived.LaidHandle
import Derived.MakeChecks
import Derived.Lib.SmallJoins
import Derived.Test.YtnacgkljdcfkcaaDoorTie
import Derived.Test.YtnacgkljdcfkcaaDoorCards
import Derived.SevenTiedAt
import Derived.Below
import Derived.Carry
namespace Go.Proofs.YtnacgkljdcfkcaaDoor
open Go.ChangeShapes Go.WideShapes Go.ChangeAt Go.RowKit Go.Joins

theorem own : ownKnob Tryd.prog.godebug = none := by kernel_rfl
theorem laidOut : laidOutB Tryd.prog = true := by kernel_rfl
theorem cells_int : Tryd.prog.cellsOf 24 = 2 := by kernel_rfl
theorem gDigits : Tryd.prog.globalNamed "zermelo/num.digits" = some 0 := by kernel_rfl
theorem tDigits : (Tryd.prog.globals[0]?).map (·.type) = some 118 := by kernel_rfl
theorem cells_byte : Tryd.prog.cellsOf 5 = 1 := by kernel_rfl
theorem cells_u32 : Tryd.prog.cellsOf 72 = 1 := by kernel_rfl
theorem tTable : Tryd.prog.underlying 118 = some (.array 36 5) := by kernel_rfl
theorem tByte : Tryd.prog.underlying 5 = some (.int .u8) := by kernel_rfl

theorem laid_digits {H : Type} : (Rows.laid_zermelo_num_digits : DataW H) = .agg ((List.range 36).map fun i => .lit (.int .u8 ((digChar i : Nat) : Int))) := by rfl

abbrev theLaid : List (String × DataW Unit) := [("zermelo/num.digits", Rows.laid_zermelo_num_digits)]

/-- The door's own heap meets the condition. -/
theorem door_met (os : Os) (args : Array Value) : laidMetH Tryd.prog theLaid ((World.doorLaid Tryd.prog 400 os).forCall (fun _ _ => 0) ⟨#[], args, []⟩).memory :=
  laidMetH_of_parts3 (fuel := 8) (laidMet_of_run' 8 (by kernel_rfl) (by kernel_rfl)) (by kernel_rfl) (by kernel_rfl)

/-- What the condition gives the walks. -/
theorem of_laid {W : World} (h : laidMetH Tryd.prog theLaid W) : DigitsAt W := by
  rw [MakeChecks.laidMetH_plain _ _ _ (by kernel_rfl)] at h
  obtain ⟨ps, ⟨g0, t0, cs0, f0, p0, q0, hg0, ht0, hv0, hd0, _⟩, _⟩ := h
  obtain rfl := Option.some.inj (gDigits.symm.trans hg0)
  obtain rfl := Option.some.inj (tDigits.symm.trans ht0)
  obtain ⟨xs, m, rfl, hx, hlen, hn, hel⟩ := DataW.trod_array tTable hd0
  intro i hi
  have h1 := hel i hi
  rw [cells_byte, Nat.mul_one] at h1
  simp only [Prod.mk.injEq] at hx
  have h2 := hx.1
  rw [laid_digits, DataW.agg.injEq] at h2
  have h3 : (xs.map (·.1))[i]? = some (.lit (.int .u8 ((digChar i : Nat) : Int))) := by
    rw [← h2]
    simp [hi]
  rw [List.getElem?_map] at h3
  cases hxi : xs[i]? with
  | none => rw [hxi] at h3; simp at h3
  | some y =>
    rw [hxi] at h1 h3
    simp only [Option.map_some, Option.some.injEq] at h3
    obtain ⟨k, e1, e2, _⟩ := DataW.trod_int tByte h1
    rw [e2] at h3
    simp only [DataW.lit.injEq, Lit.int.injEq, true_and] at h3
    subst h3
    have hc := World.var?_cell hg0 hv0 i
    rw [hc]
    have : (cs0.toList.drop i)[0]? = some (.int .u8 ((digChar i : Nat) : Int)) := by
      have := congrArg (·[0]?) e1
      simpa using this
    simpa using this
set_option maxRecDepth 100000 in
/-- An argument api.Int, opened. -/
theorem open_Int {H : Type} {enc : TypeId × Value → H} {W : World} {base : Nat} {v : Value} {d : DataW H} {p : List MemPlace} (hv : Value.okWide Tryd.prog W .any base 24 v) (h : DataW.Trod enc Tryd.prog W 0 (fun _ => true) true 24 v d p) : ∃ neg xs, IntAt W v neg xs := by
  obtain ⟨c0, c1, y0, y1, m, rfl, rfl, rfl, hy0, hy1⟩ := open_agg2 Tryd.underlying24 (by kernel_rfl) cells_int hv h
  obtain ⟨neg, e0, -⟩ := DataW.trod_bool Tryd.underlying4 hy0
  simp only [List.cons.injEq, and_true] at e0
  subst e0
  refine ⟨neg, ?_⟩
  rcases open_ints Tryd.underlying22 Tryd.underlying72 cells_u32 hy1 with ⟨hcs, -⟩ | ⟨x, l, c, zs, hcs, _, hl, hm, hz, _, hcell, hwz⟩
  · simp only [List.cons.injEq, and_true] at hcs
    subst hcs
    exact ⟨[], _, rfl, ⟨none, 0, rfl, Nat.le_refl _, Nat.zero_le _, fun j hj => absurd hj (Nat.not_lt_zero _)⟩, fun x hx => absurd hx (List.not_mem_nil)⟩
  · simp only [List.cons.injEq, and_true] at hcs
    subst hcs
    simp only [if_pos] at hz
    have hget : ∀ j, j < l → ∃ n : Nat, zs.getD j 0 = (n : Int) ∧ n < B32 := by
      intro j hj
      have hj' : j < zs.length := by omega
      have hw := hwz (zs.getD j 0) (by rw [List.getD_eq_getElem?_getD, List.getElem?_eq_getElem hj', Option.getD_some]; exact List.getElem_mem hj')
      simp only [Lit.wf, Bool.and_eq_true, decide_eq_true_eq] at hw
      have h1 : (0 : Int) ≤ zs.getD j 0 := hw.1
      have h2 : zs.getD j 0 ≤ (4294967295 : Int) := hw.2
      obtain ⟨n, hn⟩ := Int.eq_ofNat_of_zero_le h1
      refine ⟨n, hn, ?_⟩
      rw [hn] at h2
      show n < 4294967296
      omega
    have hlen : ((zs.take l).map Int.toNat).length = l := by simp; omega
    have hgl : ∀ j, j < l → ((zs.take l).map Int.toNat)[j]? = some (zs.getD j 0).toNat := by
      intro j hj
      have hj' : j < zs.length := by omega
      simp [hj, List.getElem?_eq_getElem hj']
    refine ⟨(zs.take l).map Int.toNat, .slice (some x) l c, rfl, ⟨some x, c, by rw [hlen], by rw [hlen]; exact hl, hm, fun j hj => ?_⟩, ?_⟩
    · rw [hlen] at hj
      obtain ⟨n, h1, -⟩ := hget j hj
      have h2 := hcell j (by omega)
      obtain ⟨b, off, spot⟩ := x
      have h0 := hcell 0 (by omega)
      have hspot : spot = none := by simpa [Addr.add] using World.cell?_spot h0
      subst hspot
      refine ⟨⟨b, off, rfl⟩, ?_⟩
      rw [hgl j hj, lookAt_some]
      rw [h1] at h2 ⊢
      simp only [Option.getD_some, Int.toNat_natCast]
      rw [← h2]
      congr 1
      unfold Addr.add
      split
      · rename_i e; subst e; rfl
      · rfl
    · intro y hy
      obtain ⟨j, hj, rfl⟩ := List.mem_iff_getElem.1 hy
      rw [hlen] at hj
      obtain ⟨n, h1, h2⟩ := hget j hj
      have h3 := hgl j hj
      rw [List.getElem?_eq_getElem (by rw [hlen]; exact hj)] at h3
      rw [Option.some.inj h3, h1]
      simpa using h2
end Go.Proofs.YtnacgkljdcfkcaaDoor

/- zermelolaw01.NumOrder: the row and its card -/
namespace Go.Proofs.YtnacgkljdcfkcaaDoor
open Go.ChangeShapes Go.WideShapes Go.ChangeAt Go.RowKit Go.Joins

set_option maxRecDepth 100000 in
theorem order_lifted (os : Os) (started : os.Started) (H : Type) (enc : TypeId × Value → H) :
    ReturnsInHanded {} Tryd.checked os 14 .any (fun w args => (Rows.numOrderSpec.pre enc Tryd.prog Tryd.f14 [] false w args ∧ laidMetH Tryd.prog theLaid w) ∧ sizedMet enc Tryd.prog Tryd.f14 (OpenSpec.ofChange Rows.numOrderSpec) false w args)
      (Rows.numOrderSpec.post enc Tryd.prog Tryd.f14 false true false false) := by
  refine returnsInHanded_of_change_and (C := Tryd.checked) (X := fun w _ => laidMetH Tryd.prog theLaid w) (fun _ _ _ hh h => h.of_heap hh) own started (by kernel_rfl) Tryd.func14
    (ChangeSpec.witness_shaped (enc := enc) (C := Tryd.checked) (os := os) (X := fun w _ => laidMetH Tryd.prog theLaid w) false (World.doorLaid Tryd.prog 400 os) #[.agg #[.bool false, .slice none 0 0], .agg #[.bool false, .slice none 0 0], .agg #[.bool false, .slice none 0 0]] 8 rfl (World.shaped_of_RefB (by kernel_rfl) (by kernel_rfl)) (by kernel_rfl) (by kernel_rfl) (by kernel_rfl) (door_met os _)) ?_
  intro W base args ds gs before hval0 hW _ _ hL _
  have hval : ∀ (j : Nat) t v, Tryd.f14.params[j]? = some t → args[j]? = some v → Value.okWide Tryd.prog W .any base t v := hval0
  have hW' := hW
  obtain ⟨p, q, hA0, hV, rfl, hfz, hnd⟩ := hW
  have hA : DataW.TrodAll enc Tryd.prog W 0 (fun _ => true) true Tryd.f14.params.toList args.toList ds p := hA0
  rw [Tryd.params14] at hA hval
  obtain ⟨v0, vs0, d0, ds0, p0, q0, hargs, rfl, rfl, h0, r0⟩ := trodAll_cons hA
  obtain ⟨v1, vs1, d1, ds1, p1, q1, rfl, rfl, rfl, h1, r1⟩ := trodAll_cons r0
  obtain ⟨v2, vs2, d2, ds2, p2, q2, rfl, rfl, rfl, h2, r2⟩ := trodAll_cons r1
  obtain ⟨rfl, rfl, rfl⟩ := trodAll_nil r2
  obtain rfl : args = #[v0, v1, v2] := by cases args; simp_all
  obtain ⟨rfl, rfl⟩ := trodVars_none hV
  have lt0 : ∀ x ∈ p0, x.block < W.heap.size := by obtain ⟨m, hm⟩ := h0; exact DataW.trod_lt m _ _ _ hm
  have lt1 : ∀ x ∈ p1, x.block < W.heap.size := by obtain ⟨m, hm⟩ := h1; exact DataW.trod_lt m _ _ _ hm
  have lt2 : ∀ x ∈ p2, x.block < W.heap.size := by obtain ⟨m, hm⟩ := h2; exact DataW.trod_lt m _ _ _ hm
  obtain ⟨na, xa, ha⟩ := open_Int (hval 0 24 v0 rfl rfl) h0
  obtain ⟨nb, xb, hb⟩ := open_Int (hval 1 24 v1 rfl rfl) h1
  obtain ⟨nc, xc, hc⟩ := open_Int (hval 2 24 v2 rfl rfl) h2
  have hT := of_laid hL
  clear hA0 hval0
  refine (order_any v0 v1 v2 na nb nc xa xb xc W ha hb hc hT).mono fun e W' ⟨bel, he⟩ => ?_
  subst he
  exact ⟨_, rfl, _, _, _, [], _, [], hW', trodAll_mk1 (shut_bool Tryd.underlying4 _), (trodAll_cons_mk (Below.trod laidOut (by kernel_rfl) (of_decide_eq_true (by kernel_rfl)) h0 bel lt0) (trodAll_cons_mk (Below.trod laidOut (by kernel_rfl) (of_decide_eq_true (by kernel_rfl)) h1 bel lt1) (trodAll_cons_mk (Below.trod laidOut (by kernel_rfl) (of_decide_eq_true (by kernel_rfl)) h2 bel lt2) trodAll_mk0))), rfl, bel.frame _, fun h => by cases h⟩

theorem order_holds : Rows.NumOrderSaid :=
  OpenClaim.holds_of_wide 14 Tryd.f14 rfl rfl rfl rfl rfl rfl rfl ⟨rfl, rfl, rfl, rfl, rfl⟩ rfl rfl rfl rfl rfl (by kernel_rfl) Tryd.func14 (by kernel_rfl)
    (of_decide_eq_true (by kernel_rfl)) (by unfold Func.isWrapper; first | (rw [if_pos (by decide +kernel)]; kernel_rfl) | (rw [if_neg (by decide +kernel)]; exact ⟨rfl, rfl⟩))
    (fun os started H enc _ => order_lifted os started H enc)

theorem order_card : Rows.NumOrderCardSaid :=
  Claim7.holds_tied_plain_at .later [] [.data] true (true, "42a77e95b8ef9269488dac3a8c52bae1cf7a75fc7fd94978f00f86de717d5f2d") true
    order_holds (fun _ h => by cases h) (by kernel_rfl) (fun _ h => by cases h) numOrder_row_tie rfl ⟨rfl, rfl⟩ (by kernel_rfl) rfl
    (fun f fn hf hfn => by
      obtain rfl : f = 14 := Option.some.inj ((show Tryd.prog.funcNamed "zermelo/zermelolaw01.NumOrder" = some 14 by kernel_rfl).symm.trans hf) |>.symm
      obtain rfl : fn = Tryd.f14 := (Option.some.inj (Tryd.func14.symm.trans hfn)).symm
      exact ⟨by kernel_rfl, fun j t ht => by
        rw [Tryd.params14] at ht
        have hm : t ∈ [24, 24, 24] := by simpa using Array.mem_of_getElem? ht
        have hall : ([24, 24, 24].all fun u => !Tryd.prog.wantsStandIn u) = true := by kernel_rfl
        exact (show Tryd.prog.wantsStandIn t = false by simpa using List.all_eq_true.1 hall t hm)⟩)
    (by kernel_rfl)
#print axioms order_card
end Go.Proofs.YtnacgkljdcfkcaaDoor
