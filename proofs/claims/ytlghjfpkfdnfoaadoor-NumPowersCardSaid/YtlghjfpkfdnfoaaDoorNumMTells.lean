/- zermelolaw01.few -/
import Derived.Test.YtlghjfpkfdnfoaaDoorNumMOrder
import Derived.Test.YtlghjfpkfdnfoaaDoorNumMTextApi
import Derived.Test.YtlghjfpkfdnfoaaDoorNumMTimesPlus
import Derived.Test.YtlghjfpkfdnfoaaDoorNumMProduct
import Derived.Test.YtlghjfpkfdnfoaaDoorNumMRing2
import Derived.Test.YtlghjfpkfdnfoaaDoorNumMRefSumInt
import Derived.Deep.CutRange
namespace Go.Proofs.YtlghjfpkfdnfoaaDoor
open Go Go.RowKit Go.Shelf

/-- what few asks of each -/
def fewB (most : Int) (it : Item) : Bool := decide ((it.2.2.length : Int) ≤ most)

set_option maxHeartbeats 2000000 in
set_option maxRecDepth 100000 in
theorem few_list (l : List Item) (most : Int) (b : Nat) (w : World) (hrow : RowAt w b 24 (rowCells l)) (hl : l.length ≤ 1000) (hr : ∀ it ∈ l, Reads .u32 w it.2.1 it.2.2 ∧ Limbs it.2.2) :
    Calls Tryd.prog 15 #[.int .i64 most, .slice (some ⟨b, 0, none⟩) l.length l.length] w fun e w' => Below w.heap.size w w' ∧ e = .returned (.bool (l.all (fewB most))) := by
  obtain ⟨n, hn⟩ : ∃ n, l.length = n := ⟨_, rfl⟩
  rw [hn] at hl ⊢
  have HN := Lib.hid hn
  clear hn
  go_enter Tryd.func15, Tryd.ntmps15
  go_wp2
  go_loopw [5] (fun i W => ∃ k : Nat, k ≤ n ∧ i = .int .i64 k ∧ (l.take k).all (fewB most) = true ∧ Below w.heap.size w W) (fun i _ => n - (intOf i).toNat)
  case atStart => exact ⟨0, Nat.zero_le _, rfl, rfl, Below.refl _ _⟩
  case round =>
    obtain ⟨k, hk, rfl, hall, hbe⟩ := hrel
    by_cases hlt : k < n
    · have hkl : k < l.length := by have := HN.out; omega
      obtain ⟨it, hit⟩ : ∃ it, l[k]? = some it := ⟨_, List.getElem?_eq_getElem hkl⟩
      have hmem : it ∈ l := List.mem_of_getElem? hit
      obtain ⟨hrd, hlm⟩ := hr it hmem
      obtain ⟨neg, v, xs⟩ := it
      change Reads .u32 w v xs at hrd
      change Limbs xs at hlm
      obtain ⟨a, c, rfl, hc, hm⟩ := hrd.form
      unfold maxLen at hm
      obtain ⟨g1, g2⟩ := rowCells_at l k _ hit
      have hrw := hrow.below hbe
      have c1 := hrw.cell (k * 2)
      have c2 := hrw.cell (k * 2 + 1)
      rw [g1] at c1
      rw [g2] at c2
      have hix := fun W => index_ints b n k hlt W
      have htk : l.take (k + 1) = l.take k ++ [(neg, Value.slice a xs.length c, xs)] := by
        rw [List.take_succ_eq_append_getElem hkl]
        rw [List.getElem?_eq_getElem hkl] at hit
        rw [Option.some.inj hit]
      have hsz := hbe.size
      have hd0 : decide ((k : Int) < (n : Int)) = true := by simp <;> omega
      have HL := Lib.hid (And.intro hall (And.intro htk hit))
      clear hall htk hit g1 g2
      by_cases hmo : (xs.length : Int) ≤ most
      · have hd : decide (most < (xs.length : Int)) = false := by simp <;> omega
        go_wp2
        refine ⟨⟨k + 1, by omega, by go_num, ?_, hbe⟩, by simp [intOf] <;> omega⟩
        rw [HL.out.2.1, List.all_append, HL.out.1]
        simp [fewB, hmo]
      · have hd : decide (most < (xs.length : Int)) = true := by simp <;> omega
        have hfalse : l.all (fewB most) = false := by
          rw [List.all_eq_false]
          exact ⟨_, hmem, by simp [fewB, hmo]⟩
        have HF := Lib.hid hfalse
        clear hfalse
        go_wp2
        go_ret
        exact ⟨hbe, by rw [HF.out]; rfl⟩
    · have htk : l.take k = l := List.take_of_length_le (by have := HN.out; omega)
      rw [htk] at hall
      have HA := Lib.hid hall
      clear hall
      have hd0 : decide ((k : Int) < (n : Int)) = false := by simp <;> omega
      go_wp2
      go_ret
      exact ⟨hbe, by rw [HA.out]; rfl⟩

end Go.Proofs.YtlghjfpkfdnfoaaDoor

/- num: To around guard.Attempt -/
namespace Go.Proofs.YtlghjfpkfdnfoaaDoor
open Go Go.RowKit Go.Shelf

set_option maxHeartbeats 1000000 in
set_option maxRecDepth 100000 in
theorem To_of (va : Value) (na : Bool) (xa : List Nat) (w : World) (ha : IntAt w va na xa) (Post : Int → World → Value → Prop) (hpk : ∀ k W W' u0, Post k W u0 → (∀ v xs, Reads .u32 W v xs → Reads .u32 W' v xs) → Post k W' u0)
    (hcl : ∀ (B : Nat) (aa : Option Addr) (ca : Nat) (W4 : World), Below w.heap.size w W4 → RowAt W4 B 24 [.bool na, .slice aa xa.length ca] → RowAt W4 (B + 1) 3 [.int .i64 0] → Reads .u32 W4 (.slice aa xa.length ca) xa → va = .agg #[.bool na, .slice aa xa.length ca] → Calls Tryd.prog 58 #[.pointer (some ⟨B, 0, none⟩), .pointer (some ⟨B + 1, 0, none⟩)] W4 fun e W => ∃ k, (k = 0 ∧ e = .returned (.tuple #[]) ∨ e = .panicked [{ v := .iface 27 (.int .i64 k), recovered := false }]) ∧ Chg (fun i => i = B + 1) W4 W ∧ (∃ i0, RowAt W (B + 1) 3 [.int .i64 i0] ∧ Post k W (.int .i64 i0))) :
    Calls Tryd.prog 23 #[va] w fun e w' => Below w.heap.size w w' ∧ ∃ r0 k, e = .returned (.tuple #[r0, .int .i64 k]) ∧ Post k w' r0 := by
  obtain ⟨sa, rfl, hra, hla⟩ := ha
  obtain ⟨aa, ca, rfl, hca, hma⟩ := hra.form
  have hmf : ∀ (fn : Fn) (first cap : Array Value) (w : World), (Instr.makeFunc fn first cap).run Tryd.prog w = .ok (.func fn first cap) w := fun _ _ _ _ => rfl
  have q0 := ((RowAt.new w 24 [.bool na, .slice aa xa.length ca]).alloc (.cells #[.int .i64 0] 3)).alloc (.cells #[.int .i64 0] 27)
  have q1 := (RowAt.new (w.alloc (.cells #[.bool na, .slice aa xa.length ca] 24)) 3 [.int .i64 0]).alloc (.cells #[.int .i64 0] 27)
  have q2 := Boxed.new ((w.alloc (.cells #[.bool na, .slice aa xa.length ca] 24)).alloc (.cells #[.int .i64 0] 3)) 27 (.int .i64 0)
  have bw := ((((Below.refl w.heap.size w).alloc (Nat.le_refl _) (.cells #[.bool na, .slice aa xa.length ca] 24)).alloc (by simp) (.cells #[.int .i64 0] 3)).alloc (by simp; omega) (.cells #[.int .i64 0] 27))
  simp only [World.size_alloc] at q1 q2
  generalize hW4 : (((w.alloc (.cells #[.bool na, .slice aa xa.length ca] 24)).alloc (.cells #[.int .i64 0] 3)).alloc (.cells #[.int .i64 0] 27)) = W4 at q0 q1 q2 bw
  have key := hcl w.heap.size aa ca W4 bw q0 q1 (hra.below bw) rfl
  have att := attempt_any 58 #[.pointer (some ⟨w.heap.size, 0, none⟩), .pointer (some ⟨w.heap.size + 1, 0, none⟩)]
    ((w.alloc (.cells #[.bool na, .slice aa xa.length ca] 24)).alloc (.cells #[.int .i64 0] 3))
    (fun k W => Chg (fun i => i = w.heap.size + 1) W4 W ∧ (∃ i0, RowAt W (w.heap.size + 1) 3 [.int .i64 i0] ∧ Post k W (.int .i64 i0)))
    (fun W => by simp [go_sem])
    (fun k W h => by simp only [World.size_alloc]; exact h.1.boxed q2 (by omega))
    (by
      rw [hW4]
      refine key.mono ?_
      rintro e W ⟨k, h1, h2⟩
      rcases h1 with ⟨rfl, rfl⟩ | rfl
      · exact .inl ⟨rfl, h2⟩
      · exact .inr ⟨k, rfl, h2⟩)
  clear key
  go_enter Tryd.func23, Tryd.ntmps23
  go_wp2_with (refine att.mono ?_; rintro e W' ⟨k, W, ⟨hch, z, hr, hres⟩, rfl, rfl⟩; simp only [World.size_alloc]; have hr9 := hr.other (a := ⟨w.heap.size + 1 + 1, 0, none⟩) (by simp) (.int .i64 k); have s3 := hr.frozen 0; have s1 := hr9.cell 0; simp only [List.getElem?_cons_zero] at s1)
  have u1 := World.cell?_setCell_same _ _ (.int .i64 z) s1
  have e4 := (hch.boxed q2 (by omega)).cell
  have hkeep : ∀ v xs, Reads .u32 W v xs → Reads .u32 ((W.setCell ⟨w.heap.size + 1 + 1, 0, none⟩ (.int .i64 k)).setCell ⟨w.heap.size + 1, 0, none⟩ (.int .i64 z)) v xs :=
    fun v xs h => (h.setOther e4 (by simp) _).setOther s1 (by simp) _
  refine bodyPost_ret (v := .tuple #[.int .i64 z, .int .i64 k]) (by simp [results, Tryd.results23, go_sem, loadCellsFrom, u1]) rfl ⟨?_, _, k, rfl, hpk _ _ _ _ hres hkeep⟩
  have hb9 : Below w.heap.size w W := bw.trans (hch.below (B := w.heap.size) (fun i hi => by omega) bw.size)
  exact (hb9.setCell (by simp; omega) _).setCell (by simp) _

end Go.Proofs.YtlghjfpkfdnfoaaDoor

/- num.word -/
namespace Go.Proofs.YtlghjfpkfdnfoaaDoor
open Go Go.RowKit Go.Shelf
attribute [local go_sem] Oper.semAt_some

/-- limbs put together as a word -/
def wordFold (ps : List (Nat × Nat)) : Nat := ps.foldl (fun m p => m ||| (p.2 <<< (32 * p.1))) 0
theorem wordFold_snoc (ps : List (Nat × Nat)) (p : Nat × Nat) : wordFold (ps ++ [p]) = wordFold ps ||| (p.2 <<< (32 * p.1)) := by simp [wordFold]
theorem wordFold_lt (ps : List (Nat × Nat)) (h : ∀ p ∈ ps, p.1 < 2 ∧ p.2 < B32) : wordFold ps < 2 ^ 64 := by
  suffices H : ∀ (ps : List (Nat × Nat)) (m : Nat), m < 2 ^ 64 → (∀ p ∈ ps, p.1 < 2 ∧ p.2 < B32) → ps.foldl (fun m p => m ||| (p.2 <<< (32 * p.1))) m < 2 ^ 64 from H ps 0 (by decide) h
  intro ps
  induction ps with
  | nil => intro m hm _; simpa using hm
  | cons p ps ih =>
    intro m hm h
    obtain ⟨h1, h2⟩ := h p (by simp)
    simp only [List.foldl_cons]
    refine ih _ (Nat.or_lt_two_pow hm ?_) (fun q hq => h q (by simp [hq]))
    rw [Nat.shiftLeft_eq]
    unfold B32 at h2
    rcases Nat.lt_or_ge p.1 1 with h3 | h3
    · have : p.1 = 0 := by omega
      rw [this]; omega
    · have : p.1 = 1 := by omega
      rw [this]; omega
theorem wordFold_two {x y : Nat} (hx : x < 4294967296) : wordFold [(0, x), (1, y)] = y * 4294967296 + x := by
  simp only [wordFold, List.foldl_cons, List.foldl_nil, Nat.zero_or, Nat.mul_zero, Nat.mul_one, Nat.shiftLeft_zero]
  rw [Nat.or_comm, ← Nat.shiftLeft_add_eq_or_of_lt (show x < 2 ^ 32 from hx), Nat.shiftLeft_eq]

theorem or_word2 {m y s : Nat} (hm : m < 2 ^ 64) (hy : y < B32) (hs : s = 0 ∨ s = 32) :
    bits BinOp.or IntKind.u64 (m : Int) (IntKind.u64.wrap (IntKind.u64.wrap (y : Int) * 2 ^ s)) = ((m ||| y <<< s : Nat) : Int) := by
  unfold B32 at hy
  have e1 : IntKind.u64.wrap (y : Int) = (y : Int) := by rw [IntKind.wrap_u64]; omega
  have e3 : y * 2 ^ s < 18446744073709551616 := by
    rcases hs with rfl | rfl
    · omega
    · omega
  have e2 : IntKind.u64.wrap ((y : Int) * 2 ^ s) = ((y * 2 ^ s : Nat) : Int) := by
    rw [IntKind.wrap_u64, show ((y : Int) * 2 ^ s) = ((y * 2 ^ s : Nat) : Int) by simp]
    omega
  rw [e1, e2, bits_or_u64_nat _ _ (by omega) (by omega), Nat.shiftLeft_eq]

theorem wrap_neg {u : Nat} (hu : u ≤ 9223372036854775808) : wrap64 (IntKind.u64.wrap (-(u : Int))) = -(u : Int) := by
  rw [IntKind.wrap_u64]
  unfold wrap64
  omega
/-- how word ends -/
def wordEnd (na : Bool) (u : Nat) : Ending :=
  if na = true then (if u ≤ 9223372036854775808 then .returned (.int .i64 (-(u : Int))) else .panicked [{ v := .iface 27 (.int .i64 3), recovered := false }])
  else (if u < 9223372036854775808 then .returned (.int .i64 u) else .panicked [{ v := .iface 27 (.int .i64 3), recovered := false }])

set_option maxHeartbeats 2000000 in
set_option maxRecDepth 100000 in
theorem word_any (na : Bool) (aa : Option Addr) (ca : Nat) (xs : List Nat) (w : World) (ha : Reads .u32 w (.slice aa xs.length ca) xs) (hla : Limbs xs) (h2 : xs.length ≤ 2) :
    Calls Tryd.prog 61 #[.agg #[.bool na, .slice aa xs.length ca]] w fun e w' => Below w.heap.size w w' ∧ e = wordEnd na (val xs) := by
  obtain ⟨E, hE⟩ : ∃ E, wordEnd na (val xs) = E := ⟨_, rfl⟩
  rw [hE]
  have HE := Lib.hid hE
  clear hE
  refine (callsIn_wide (n := 9)).1 ?_
  refine callsIn_of_wp_marks Tryd.func61 rfl trivial ?_ rfl
  simp only [Tryd.ntmps61, List.size_toArray, List.length_cons, List.length_nil, Nat.reduceAdd, Nat.reduceSub, Array.replicate_succ, Array.replicate_zero, List.push_toArray, List.append_toArray, List.nil_append, List.cons_append]
  gi_wp2_with (refine ⟨trivial, ?_⟩; gi_at_call 99; refine (callsIn_wide.2 (limbs_any _ _ _ ⟨_, _, _, rfl⟩)).mono ?_; rintro e w' ⟨rfl, rfl⟩)
  have b0 : Below w.heap.size w w := Below.refl _ _
  refine range_limbs 4 5 (w.heap.size + 3) (w.heap.size + 2) w.heap.size 2 (.slice aa xs.length ca) xs (by exact rfl) hla (by omega) (by simp) (by simp) (by simp; omega) ?m1 ?m2 (ha.below ?m3) ha.lt
    (fun pre W => Boxed W (w.heap.size + 1) 79 (.int .u64 (wordFold (pre.map (·.1)) : Int)) ∧ Boxed W (w.heap.size + 2) 22 (.slice aa xs.length ca) ∧ RowAt W w.heap.size 24 [.bool na, .slice aa xs.length ca] ∧ Below w.heap.size w W)
    (fun _ _ _ => False)
    ((ownFrom_boxed _ _ _).and ((ownFrom_boxed _ _ _).and ((ownFrom_rowAt _ _ (fun _ => [.bool na, .slice aa xs.length ca])).and (ownFrom_below (Nat.le_refl _) ?mB))))
    (fun _ _ _ _ _ h _ _ => h.elim) ?start ?assign ?body ?done ?stop
  case mB => simp; omega
  case m1 => go_simp
  case m2 => go_simp
  case m3 => exact (((b0.alloc (Nat.le_refl _) _).alloc (by simp) _).alloc (by simp; omega) _).alloc (by simp; omega) _
  case start =>
    refine ⟨?_, ?_, ?_, ?_⟩
    · exact Boxed.at (((Boxed.new _ _ _).alloc _).alloc _) (by simp)
    · exact Boxed.at ((Boxed.new _ _ _).alloc _) (by simp)
    · exact (((RowAt.new w 24 [.bool na, .slice aa xs.length ca]).alloc _).alloc _).alloc _
    · exact (((b0.alloc (Nat.le_refl _) _).alloc (by simp) _).alloc (by simp; omega) _).alloc (by simp; omega) _
  case assign =>
    intro l x W K hK
    gi_wp2
    exact hK
  case body =>
    rintro l pre x W ⟨bc, bl, br, bw⟩ hlt
    have hbB := bw.size
    obtain ⟨⟨i, y⟩, hi1, hi2⟩ := x
    have hfl := wordFold_lt (pre.map (·.1)) (fun p hp => by
      obtain ⟨q, _, rfl⟩ := List.mem_map.1 hp
      exact q.2)
    have hmap : (pre ++ [(⟨(i, y), hi1, hi2⟩ : IdxLimb 2)]).map (·.1) = pre.map (·.1) ++ [(i, y)] := by simp
    have hnext := wordFold_snoc (pre.map (·.1)) (i, y)
    generalize wordFold (pre.map (·.1)) = m at *
    dsimp only at *
    have HN := Lib.hid hnext
    have HM := Lib.hid hmap
    clear hnext hmap
    have HI2 := Lib.hid hi2
    have HFL := Lib.hid hfl
    clear hfl
    have hbc := bc.cell
    have hfc := bc.frozen
    obtain ⟨s, hs⟩ : ∃ s : Nat, 32 * i = s := ⟨_, rfl⟩
    have hs1 : IntKind.i64.wrap (32 * (i : Int)) = (s : Int) := by rw [IntKind.wrap_i64]; omega
    have hs2 : s < 64 := by omega
    have HS := Lib.hid hs
    clear hs
    simp only [boundFrame]
    gi_wp2_with fail
    refine region_tail (.inr ⟨_, rfl⟩) 7 (by kernel_rfl) (by kernel_rfl) ?_
    simp only [List.take_succ_cons, List.take_zero, List.drop_succ_cons, List.drop_zero]
    repeat still_step
    refine wpStill_nil ?_
    change wpListIn _ _ _ _ _ _ _ W.drew
    rw [or_word2 HFL.out HI2.out (by have := HS.out; omega)]
    have hnew : wordFold (List.map (·.1) pre ++ [(i, y)]) = m ||| y <<< s := by rw [HN.out, HS.out]
    have HN2 := Lib.hid hnew
    clear hnew
    obtain ⟨T, hT⟩ : ∃ T, m ||| y <<< s = T := ⟨_, rfl⟩
    rw [hT] at HN2 ⊢
    clear hT
    gi_wp2_with fail
    have hF : Chg (fun k => k = w.heap.size + 1) W (W.drew.setCell ⟨w.heap.size + 1, 0, none⟩ (.int .u64 (T : Int))) := (Chg.refl (fun k => k = w.heap.size + 1) W).drew.setCell (p := ⟨w.heap.size + 1, 0, none⟩) (.inl rfl) _
    have hFb := hF.below (B := w.heap.size) (by rintro k rfl; omega) hbB
    refine ⟨hF.keepsFrom _ (by rintro k rfl; exact Boxed.isCells bc), Kp0.boxed hFb bl (hF.boxed bl (by omega)), ?_, hF.boxed bl (by omega), hF.row br (by omega), bw.trans hFb⟩
    rw [HM.out, HN2.out]
    exact Boxed.set _ (Boxed.drew bc)
  case done =>
    rintro D ys W hD hys ⟨bc, bl, br, bw⟩ hK
    rw [hys] at bc
    have hval : wordFold (limbPairs xs 2) = val xs := by
      have h1 := val_pair h2
      have h3 := limb_getD hla 0
      rw [show limbPairs xs 2 = [(0, xs[0]?.getD 0), (1, xs[1]?.getD 0)] from rfl, wordFold_two h3]
      omega
    rw [hval] at bc
    have hDlt := (Array.getElem?_eq_some_iff.1 hK).1
    have hD2 : w.heap.size + 3 < D := by simp at hD; omega
    clear hys hval
    generalize val xs = u at *
    have hbc := bc.cell
    have c1 := br.cell 0
    simp only [List.getElem?_cons_zero] at c1
    cases na with
    | true =>
      by_cases hu : u ≤ 9223372036854775808
      · have hd1 : decide ((u : Int) ≤ 9223372036854775808) = true := by simp <;> omega
        have hz := wrap_neg hu
        gi_wp2_with (refine ⟨trivial, ?_⟩; gi_at_call 60; refine (callsIn_wide.2 (demand_ok _ _ _ rfl)).mono ?_; rintro e w' ⟨rfl, rfl⟩)
        refine ⟨by simp, .inl ⟨_, _, rfl, run_takeDeferred hK, ?_⟩⟩
        refine ⟨.int .i64 (-(u : Int)), by simp [results, Tryd.results61, go_sem, hz], bw.trans (belowK_b (w := w) (Nat.le_refl _) _ D _ _ (by omega) hK rfl rfl), ?_⟩
        rw [← HE.out]
        simp [wordEnd, hu]
      · have hd1 : decide ((u : Int) ≤ 9223372036854775808) = false := by simp <;> omega
        gi_wp2_with (refine ⟨trivial, ?_⟩; gi_at_call 60; refine (callsIn_wide.2 (demand_no _ _ _ rfl)).mono ?_; rintro e w' ⟨rfl, rfl⟩)
        refine ⟨by simp, .inl ⟨_, _, rfl, run_takeDeferred hK, ?_⟩⟩
        exact ⟨bw.trans (belowK_b (w := w) (Nat.le_refl _) _ D _ _ (by omega) hK rfl rfl), by rw [← HE.out]; simp [wordEnd, hu]⟩
    | false =>
      by_cases hu : u < 9223372036854775808
      · have hd1 : decide ((u : Int) < 9223372036854775808) = true := by simp <;> omega
        have hz : wrap64 (u : Int) = (u : Int) := by unfold wrap64; omega
        gi_wp2_with (refine ⟨trivial, ?_⟩; gi_at_call 60; refine (callsIn_wide.2 (demand_ok _ _ _ rfl)).mono ?_; rintro e w' ⟨rfl, rfl⟩)
        refine ⟨by simp, .inl ⟨_, _, rfl, run_takeDeferred hK, ?_⟩⟩
        refine ⟨.int .i64 (u : Int), by simp [results, Tryd.results61, go_sem], bw.trans (belowK_b (w := w) (Nat.le_refl _) _ D _ _ (by omega) hK rfl rfl), ?_⟩
        rw [← HE.out]
        simp [wordEnd, hu]
      · have hd1 : decide ((u : Int) < 9223372036854775808) = false := by simp <;> omega
        gi_wp2_with (refine ⟨trivial, ?_⟩; gi_at_call 60; refine (callsIn_wide.2 (demand_no _ _ _ rfl)).mono ?_; rintro e w' ⟨rfl, rfl⟩)
        refine ⟨by simp, .inl ⟨_, _, rfl, run_takeDeferred hK, ?_⟩⟩
        exact ⟨bw.trans (belowK_b (w := w) (Nat.le_refl _) _ D _ _ (by omega) hK rfl rfl), by rw [← HE.out]; simp [wordEnd, hu]⟩
  case stop =>
    rintro D c pre W hD hpf h hK
    exact h.elim

end Go.Proofs.YtlghjfpkfdnfoaaDoor

/- num.To, every way -/
namespace Go.Proofs.YtlghjfpkfdnfoaaDoor
open Go Go.RowKit Go.Shelf

theorem bits_64 {xs : List Nat} (hk : Canon xs) : bitsOf xs ≤ 64 ↔ xs.length ≤ 2 := by
  by_cases hx : xs = []
  · subst hx; simp [bitsOf]
  · have hl : 0 < xs.length := List.length_pos_iff.2 hx
    obtain ⟨b1, b2, -, -⟩ := bitLen_bounds (canon_last hk hx) (limb_getD hk.1 (xs.length - 1))
    rw [bitsOf, if_neg (by omega)]
    omega

set_option maxHeartbeats 1000000 in
set_option maxRecDepth 100000 in
theorem to1_any (B : Nat) (na : Bool) (aa : Option Addr) (ca : Nat) (xa : List Nat) (w : World) (hra : RowAt w B 24 [.bool na, .slice aa xa.length ca]) (hrr : RowAt w (B + 1) 3 [.int .i64 0]) (ha : Reads .u32 w (.slice aa xa.length ca) xa) (hla : Limbs xa) :
    Calls Tryd.prog 58 #[.pointer (some ⟨B, 0, none⟩), .pointer (some ⟨B + 1, 0, none⟩)] w fun e W => ∃ k, (k = 0 ∧ e = .returned (.tuple #[]) ∨ e = .panicked [{ v := .iface 27 (.int .i64 k), recovered := false }]) ∧ Chg (fun i => i = B + 1) w W ∧ (∃ i0, RowAt W (B + 1) 3 [.int .i64 i0] ∧ i0 = (toRes na xa).1 ∧ k = (toRes na xa).2) := by
  have a0 := hra.cell 0
  have a1 := hra.cell 1
  simp only [List.getElem?_cons_zero, List.getElem?_cons_succ] at a0 a1
  have r0' := RowAt.new w 24 [.bool na, .slice aa xa.length ca]
  have bw := (Below.refl w.heap.size w).alloc (Nat.le_refl _) (.cells #[.bool na, .slice aa xa.length ca] 24)
  have hch0 : Chg (fun i => i = B + 1) w w := Chg.refl (fun k => k = B + 1) w
  cases fa : formedB na xa with
  | false =>
    have hT : toRes na xa = (0, 1) := by rw [toRes, fa]; rfl
    rw [hT]
    clear hT
    go_enter Tryd.func58, Tryd.ntmps58
    go_wp2_with (go_at_call 59; refine (demand1_no _ na aa ca xa _ r0' (ha.below bw) hla fa).mono ?_; rintro e w1 ⟨hbe1, rfl⟩; have bw1 := bw.trans (hbe1.mono (by simp)))
    exact ⟨rfl, 1, .inr rfl, hch0.thenBelow bw1, 0, hrr.below bw1, rfl, rfl⟩
  | true =>
    obtain ⟨hkx, hxl, -⟩ := formedB_canon fa hla
    have hb64 := bits_64 hkx
    by_cases h2 : xa.length ≤ 2
    · have hd : decide ((bitsOf xa : Int) ≤ 64) = true := by simp <;> omega
      have hT : toRes na xa = if na = true then (if val xa ≤ 9223372036854775808 then (-(val xa : Int), 0) else (0, 3)) else (if val xa < 9223372036854775808 then ((val xa : Int), 0) else (0, 3)) := by
        rw [toRes, if_pos fa, if_pos h2]
      have HT := Lib.hid hT
      clear hT hb64
      by_cases hu : if na = true then val xa ≤ 9223372036854775808 else val xa < 9223372036854775808
      · have hwe : wordEnd na (val xa) = .returned (.int .i64 (toRes na xa).1) ∧ (toRes na xa).2 = 0 := by
          rw [HT.out]
          cases na
          · simp at hu; simp [wordEnd, hu]
          · simp at hu; simp [wordEnd, hu]
        have key := fun w2 (hb2 : Below w.heap.size w w2) => word_any na aa ca xa w2 (ha.below hb2) hla h2
        rw [hwe.1] at key
        have H0 := Lib.hid hwe.2
        clear hwe hu
        go_enter Tryd.func58, Tryd.ntmps58
        go_wp2_with (first
          | (go_at_call 59; refine (demand1_ok _ _ aa ca xa _ r0' (ha.below bw) hla fa).mono ?_; rintro e w1 ⟨hbe1, rfl⟩; have bw1 := bw.trans (hbe1.mono (by simp)); have p0 := (hra.below bw1).cell 0; have p2 := (hra.below bw1).cell 1; simp only [List.getElem?_cons_zero, List.getElem?_cons_succ] at p0 p2; have key1 := key _ bw1)
          | (go_at_call 55; refine (bitLen_any (.slice aa xa.length ca) xa _ (ha.below bw1) hla (by omega)).mono ?_; rintro e w2 ⟨rfl, rfl⟩)
          | (go_at_call 60; refine (demand_ok _ _ _ (by first | rfl | (simp; omega))).mono ?_; rintro e w2 ⟨rfl, rfl⟩)
          | (go_at_call 61; refine key1.mono ?_; rintro e w3 ⟨hbe3, rfl⟩; have bw3 := bw1.trans (hbe3.mono bw1.size); have sr := hrr.below bw3; have o1 := sr.cell 0; have o5 := sr.frozen 0; simp only [List.getElem?_cons_zero] at o1))
        go_end0
        exact ⟨0, .inl ⟨rfl, rfl⟩, (hch0.thenBelow bw3).setCell (p := ⟨B + 1, 0, none⟩) (.inl rfl) _, _, sr.set 0 _, rfl, H0.out.symm⟩
      · have hwe : wordEnd na (val xa) = .panicked [{ v := .iface 27 (.int .i64 3), recovered := false }] ∧ toRes na xa = (0, 3) := by
          rw [HT.out]
          cases na
          · simp at hu; simp [wordEnd]; omega
          · simp at hu; simp [wordEnd]; omega
        have key := fun w2 (hb2 : Below w.heap.size w w2) => word_any na aa ca xa w2 (ha.below hb2) hla h2
        rw [hwe.1] at key
        rw [hwe.2]
        clear hwe hu HT
        go_enter Tryd.func58, Tryd.ntmps58
        go_wp2_with (first
          | (go_at_call 59; refine (demand1_ok _ _ aa ca xa _ r0' (ha.below bw) hla fa).mono ?_; rintro e w1 ⟨hbe1, rfl⟩; have bw1 := bw.trans (hbe1.mono (by simp)); have p0 := (hra.below bw1).cell 0; have p2 := (hra.below bw1).cell 1; simp only [List.getElem?_cons_zero, List.getElem?_cons_succ] at p0 p2; have key1 := key _ bw1)
          | (go_at_call 55; refine (bitLen_any (.slice aa xa.length ca) xa _ (ha.below bw1) hla (by omega)).mono ?_; rintro e w2 ⟨rfl, rfl⟩)
          | (go_at_call 60; refine (demand_ok _ _ _ (by first | rfl | (simp; omega))).mono ?_; rintro e w2 ⟨rfl, rfl⟩)
          | (go_at_call 61; refine key1.mono ?_; rintro e w3 ⟨hbe3, rfl⟩; have bw3 := bw1.trans (hbe3.mono bw1.size)))
        exact ⟨rfl, 3, .inr rfl, hch0.thenBelow bw3, 0, hrr.below bw3, rfl, rfl⟩
    · have hd : decide ((bitsOf xa : Int) ≤ 64) = false := by simp <;> omega
      have hT : toRes na xa = (0, 3) := by rw [toRes, if_pos fa, if_neg h2]
      rw [hT]
      clear hT hb64
      go_enter Tryd.func58, Tryd.ntmps58
      go_wp2_with (first
        | (go_at_call 59; refine (demand1_ok _ _ aa ca xa _ r0' (ha.below bw) hla fa).mono ?_; rintro e w1 ⟨hbe1, rfl⟩; have bw1 := bw.trans (hbe1.mono (by simp)); have p0 := (hra.below bw1).cell 0; have p2 := (hra.below bw1).cell 1; simp only [List.getElem?_cons_zero, List.getElem?_cons_succ] at p0 p2)
        | (go_at_call 55; refine (bitLen_any (.slice aa xa.length ca) xa _ (ha.below bw1) hla (by omega)).mono ?_; rintro e w2 ⟨rfl, rfl⟩)
        | (go_at_call 60; refine (demand_no _ _ _ (by first | rfl | (simp; omega))).mono ?_; rintro e w2 ⟨rfl, rfl⟩))
      exact ⟨rfl, 3, .inr rfl, hch0.thenBelow bw1, 0, hrr.below bw1, rfl, rfl⟩

theorem To_any (va : Value) (na : Bool) (xa : List Nat) (w : World) (ha : IntAt w va na xa) :
    Calls Tryd.prog 23 #[va] w fun e w' => Below w.heap.size w w' ∧ e = .returned (.tuple #[.int .i64 (toRes na xa).1, .int .i64 (toRes na xa).2]) := by
  have hla : Limbs xa := by obtain ⟨_, -, -, h⟩ := ha; exact h
  refine (To_of va na xa w ha (fun k _ v => v = .int .i64 (toRes na xa).1 ∧ k = (toRes na xa).2) (fun _ _ _ _ h _ => h) ?_).mono ?_
  · intro B aa ca W4 _ h1 h2 h3 _
    refine (to1_any B na aa ca xa W4 h1 h2 h3 hla).mono ?_
    rintro e W ⟨k, hk, hc, i0, hr, rfl, rfl⟩
    exact ⟨_, hk, hc, _, hr, rfl, rfl⟩
  · rintro e w2 ⟨h1, r0, k, rfl, rfl, rfl⟩
    exact ⟨h1, rfl⟩

end Go.Proofs.YtlghjfpkfdnfoaaDoor

/- zermelolaw01.NumTells -/
namespace Go.Proofs.YtlghjfpkfdnfoaaDoor
open Go Go.RowKit Go.Shelf

/-- the two variables of the law -/
structure TelL (w : World) (b1 : Nat) (na : Bool) (a1 : Option Addr) (c1 : Nat) (xa : List Nat) (b2 : Nat) (nb : Bool) (a2 : Option Addr) (c2 : Nat) (xb : List Nat) (X : World) : Prop where
  r1 : RowAt X b1 24 [.bool na, .slice a1 xa.length c1]
  r2 : RowAt X b2 24 [.bool nb, .slice a2 xb.length c2]
  ia : IntAt X (.agg #[.bool na, .slice a1 xa.length c1]) na xa
  ib : IntAt X (.agg #[.bool nb, .slice a2 xb.length c2]) nb xb
  below : Below w.heap.size w X
section
variable {w X X' : World} {b1 : Nat} {na : Bool} {a1 : Option Addr} {c1 : Nat} {xa : List Nat} {b2 : Nat} {nb : Bool} {a2 : Option Addr} {c2 : Nat} {xb : List Nat}
theorem tel_step (h : TelL w b1 na a1 c1 xa b2 nb a2 c2 xb X) (hb : Below X.heap.size X X') : TelL w b1 na a1 c1 xa b2 nb a2 c2 xb X' := ⟨h.r1.below hb, h.r2.below hb, h.ia.below hb, h.ib.below hb, h.below.trans (hb.mono h.below.size)⟩
theorem tel_cells (h : TelL w b1 na a1 c1 xa b2 nb a2 c2 xb X) : X.cell? ⟨b1, 0, none⟩ = some (.bool na) ∧ X.cell? ⟨b1, 1, none⟩ = some (.slice a1 xa.length c1) ∧ X.cell? ⟨b2, 0, none⟩ = some (.bool nb) ∧ X.cell? ⟨b2, 1, none⟩ = some (.slice a2 xb.length c2) := ⟨h.r1.cell 0, h.r1.cell 1, h.r2.cell 0, h.r2.cell 1⟩
end
/-- a variable that holds a number and an error -/
def BoxS (W : World) (v : Value) (n e : Int) : Prop := ∃ b, v = .pointer (some ⟨b, 0, none⟩) ∧ RowAt W b 34 [.int .i64 n, .int .i64 e]
theorem BoxS.below {W W' : World} {v : Value} {n e : Int} (h : BoxS W v n e) (hb : Below W.heap.size W W') : BoxS W' v n e := by
  obtain ⟨b, rfl, hr⟩ := h
  exact ⟨b, rfl, hr.below hb⟩
theorem BoxS.new {W : World} {n e : Int} : BoxS (W.alloc (.cells #[.int .i64 n, .int .i64 e] 34)) (.pointer (some ⟨W.heap.size, 0, none⟩)) n e := ⟨_, rfl, RowAt.new W 34 [.int .i64 n, .int .i64 e]⟩

theorem check_any (v : Value) (neg : Bool) (xs : List Nat) (w : World) (h : IntAt w v neg xs) :
    Calls Tryd.prog 17 #[v] w fun e w' => Below w.heap.size w w' ∧ e = .returned (.int .i64 (if formedB neg xs = true then 0 else 1)) := by
  cases f : formedB neg xs with
  | true => exact check_ok v neg xs w h f
  | false => exact check_no v neg xs w h f

set_option maxHeartbeats 4000000 in
set_option maxRecDepth 100000 in
theorem tells_any (va vb : Value) (na nb : Bool) (xa xb : List Nat) (n : Int) (hn1 : -9223372036854775808 ≤ n) (hn2 : n ≤ 9223372036854775807) (w : World) (ha : IntAt w va na xa) (hb : IntAt w vb nb xb) (hT : DigitsAt w) :
    Calls Tryd.prog 3 #[va, vb, .int .i64 n] w fun e w' => Below w.heap.size w w' ∧ e = .returned (.bool true) := by
  obtain ⟨sa, rfl, hra, hla⟩ := ha
  obtain ⟨sb, rfl, hrb, hlb⟩ := hb
  obtain ⟨aa, ca, rfl, hca, hma⟩ := hra.form
  obtain ⟨ab, cb, rfl, hcb, hmb⟩ := hrb.form
  go_enter Tryd.func3, Tryd.ntmps3
  go_upto_region 0 with (fail)
  go_cut [3, 4] from 0 to 1 (fun v3 v4 W => BoxF W v3 na xa ∧ BoxF W v4 nb xb ∧ Below w.heap.size w W)
  case first =>
    go_wp2
    go_meet
    have B1 : Below w.heap.size w (w.alloc (.cells #[.bool na, .slice aa xa.length ca] 24)) := (Below.refl _ _).alloc (Nat.le_refl _) _
    have B2 := B1.alloc B1.size (.cells #[.bool nb, .slice ab xb.length cb] 24)
    have C1 : BoxF _ _ na xa := ⟨_, aa, ca, rfl, RowAt.new w 24 [.bool na, .slice aa xa.length ca], hra.below B1⟩
    have C2 : BoxF _ _ nb xb := ⟨_, ab, cb, rfl, RowAt.new (w.alloc (.cells #[.bool na, .slice aa xa.length ca] 24)) 24 [.bool nb, .slice ab xb.length cb], hrb.below B2⟩
    simp only [World.size_alloc] at C2
    exact ⟨C1.below ((Below.refl _ _).alloc (Nat.le_refl _) _), C2, B2⟩
  case rest =>
    obtain ⟨q1, q2, hbe⟩ := hcut
    clear hra hrb hca hcb hma hmb
    have hT1 := hT.below hbe
    obtain ⟨b1, a1, c1, rfl, r1, j1⟩ := q1
    obtain ⟨b2, a2, c2, rfl, r2, j2⟩ := q2
    have d11 := r1.cell 0
    have d12 := r1.cell 1
    have d21 := r2.cell 0
    have d22 := r2.cell 1
    simp only [List.getElem?_cons_zero, List.getElem?_cons_succ] at d11 d12 d21 d22
    have hnew := RowAt.new wc 24 [.bool na, .slice a1 xa.length c1, .bool nb, .slice a2 xb.length c2]
    have hB : Below wc.heap.size wc (wc.alloc (.cells #[.bool na, .slice a1 xa.length c1, .bool nb, .slice a2 xb.length c2] 24)) := (Below.refl _ _).alloc (Nat.le_refl _) _
    have hf := few_list [(na, .slice a1 xa.length c1, xa), (nb, .slice a2 xb.length c2, xb)] 400 wc.heap.size _ hnew (by simp) (by
      intro it hit
      simp only [List.mem_cons, List.not_mem_nil, or_false] at hit
      rcases hit with rfl | rfl
      · exact ⟨j1.below hB, hla⟩
      · exact ⟨j2.below hB, hlb⟩)
    simp only [List.length_cons, List.length_nil] at hf
    have hsz := hbe.size
    cases hall : List.all [(na, Value.slice a1 xa.length c1, xa), (nb, Value.slice a2 xb.length c2, xb)] (fewB 400) with
    | false =>
      rw [hall] at hf
      clear hnew hall
      go_wp2_with (first
        | (go_at_call 15; refine hf.mono ?_; rintro e w2 ⟨hb2, rfl⟩)
        | (go_at_call 16; refine (sane_any _ ((hT1.below hB).below hb2)).mono ?_; rintro e w3 ⟨hb3, rfl⟩))
      go_ret
      have e1 := hB.trans (hb2.mono hB.size)
      have e2 := e1.trans (hb3.mono e1.size)
      exact ⟨hbe.trans (e2.mono hsz), rfl⟩
    | true =>
      rw [hall] at hf
      have hA := Lib.hid hall
      clear hnew hall
      go_upto_region 3 with (go_at_call 15; refine hf.mono ?_; rintro e w2 ⟨hb2, rfl⟩)
      have e1 := hB.trans (hb2.mono hB.size)
      obtain ⟨l1, l2⟩ : xa.length ≤ 400 ∧ xb.length ≤ 400 := by
        have := hA.out
        simp only [List.all_cons, List.all_nil, fewB, Bool.and_true, Bool.and_eq_true, decide_eq_true_eq] at this
        exact ⟨by omega, by omega⟩
      have T1 : TelL w b1 na a1 c1 xa b2 nb a2 c2 xb w2 := ⟨r1.below e1, r2.below e1, ⟨_, rfl, j1.below e1, hla⟩, ⟨_, rfl, j2.below e1, hlb⟩, hbe.trans (e1.mono hsz)⟩
      clear hA hf d11 d12 d21 d22 hb2 hB e1 r1 r2 j1 j2 hbe hsz hT1
      generalize w2 = wX2 at *
      have KC := fun X (hX : TelL w b1 na a1 c1 xa b2 nb a2 c2 xb X) => check_any _ na xa X hX.ia
      have KM := fun X (hX : TelL w b1 na a1 c1 xa b2 nb a2 c2 xb X) => Compare_any _ _ na nb xa xb X hX.ia hX.ib
      have KF := fun X (hX : TelL w b1 na a1 c1 xa b2 nb a2 c2 xb X) => rformed_any _ na xa X hX.ia
      have KG := fun X (hX : TelL w b1 na a1 c1 xa b2 nb a2 c2 xb X) => rformed_any _ nb xb X hX.ib
      have KR := fun X (hX : TelL w b1 na a1 c1 xa b2 nb a2 c2 xb X) (f : formedB na xa = true) (g : formedB nb xb = true) => rcompare_int _ _ _ _ X (IntAt.isInt hX.ia f) (IntAt.isInt hX.ib g) 300 (by decide) (IntAt.natAbs_lt hX.ia f) (IntAt.natAbs_lt hX.ib g)
      have KB := fun X (hX : TelL w b1 na a1 c1 xa b2 nb a2 c2 xb X) => Bits_any _ na xa X hX.ia (by omega)
      have KS := fun X (hX : TelL w b1 na a1 c1 xa b2 nb a2 c2 xb X) => rbits_any _ na xa X hX.ia (by omega)
      have KT := fun X (hX : TelL w b1 na a1 c1 xa b2 nb a2 c2 xb X) => To_any _ na xa X hX.ia
      have KU := fun X (hX : TelL w b1 na a1 c1 xa b2 nb a2 c2 xb X) => rto_any _ na xa X hX.ia
      have DG := fun X (hX : TelL w b1 na a1 c1 xa b2 nb a2 c2 xb X) => hT.below hX.below
      have KV := fun X (hX : TelL w b1 na a1 c1 xa b2 nb a2 c2 xb X) (f : formedB na xa = true) (g : formedB nb xb = true) => by
        have := KR X hX f g
        rw [show cmpI (sgn na (val xa)) (sgn nb (val xb)) = (if (formedB na xa && formedB nb xb) = true then cmpI (sgn na (val xa)) (sgn nb (val xb)) else 0) by rw [f, g]; rfl] at this
        exact this
      have C0 : (formedB na xa && formedB nb xb) = false → (if (formedB na xa && formedB nb xb) = true then cmpI (sgn na (val xa)) (sgn nb (val xb)) else 0) = 0 := fun h => by rw [h]; rfl
      have HC0 := Lib.hid C0
      clear KR C0
      generalize (if (formedB na xa && formedB nb xb) = true then cmpI (sgn na (val xa)) (sgn nb (val xb)) else 0) = C at *
      generalize (if formedB na xa = true then (bitsOf xa : Int) else 0) = N at *
      generalize (toRes na xa).1 = M at *
      generalize (toRes na xa).2 = F at *
      obtain ⟨E, hE⟩ : ∃ E : Int, (if formedB na xa = true then (0 : Int) else 1) = E := ⟨_, rfl⟩
      rw [hE] at KB KS KC
      have HE := Lib.hid hE
      clear hE
      generalize formedB na xa = fa at *
      generalize formedB nb xb = fb at *
      go_cut [7] from 22 to 24 (fun v W => v = .bool fa ∧ TelL w b1 na a1 c1 xa b2 nb a2 c2 xb W)
      case first =>
        obtain ⟨d1, d2, d3, d4⟩ := tel_cells T1
        have hd : (E == (0 : Int)) = fa := by rw [← HE.out]; cases fa <;> rfl
        go_wp2_with (go_at_call 17; with_reducible refine (KC _ T1).mono ?_; rintro e w3 ⟨hb3, rfl⟩)
        go_meet
        exact ⟨rfl, tel_step T1 hb3⟩
      case rest =>
        clear T1
        obtain ⟨rfl, T1⟩ := hcut
        generalize wc = wX3 at *
        go_upto_region 4 with (fail)
        go_cut [8] from 25 to 27 (fun v W => v = .int .i64 C ∧ TelL w b1 na a1 c1 xa b2 nb a2 c2 xb W)
        case first =>
          obtain ⟨d1, d2, d3, d4⟩ := tel_cells T1
          go_wp2_with (go_at_call 18; with_reducible refine (KM _ T1).mono ?_; rintro e w3 ⟨hb3, rfl⟩)
          go_meet
          exact ⟨rfl, tel_step T1 hb3⟩
        case rest =>
          clear T1
          obtain ⟨rfl, T1⟩ := hcut
          generalize wc = wX4 at *
          go_upto_region 6 with (fail)
          go_cut [33] from 28 to 32 (fun v W => v = .bool (fa && fb) ∧ TelL w b1 na a1 c1 xa b2 nb a2 c2 xb W)
          case first =>
            obtain ⟨d1, d2, d3, d4⟩ := tel_cells T1
            cases fa with
            | false =>
              go_wp2_with (go_at_call 19; with_reducible refine (KF _ T1).mono ?_; rintro e w3 ⟨hb3, rfl⟩)
              go_meet
              exact ⟨rfl, tel_step T1 hb3⟩
            | true =>
              go_wp2_with (first
                | (go_at_call 19; with_reducible refine (KF _ T1).mono ?_; rintro e w3 ⟨hb3, rfl⟩; have T2 := tel_step T1 hb3; obtain ⟨e1, e2, e3, e4⟩ := tel_cells T2)
                | (go_at_call 19; with_reducible refine (KG _ T2).mono ?_; rintro e w4 ⟨hb4, rfl⟩))
              go_meet
              exact ⟨rfl, tel_step T2 hb4⟩
          case rest =>
            clear T1
            obtain ⟨rfl, T1⟩ := hcut
            generalize wc = wX5 at *
            obtain ⟨g, hg⟩ : ∃ g, (fa && fb) = g := ⟨_, rfl⟩
            rw [hg]
            have HG := Lib.hid hg
            clear hg
            go_upto_if 33 with (fail)
            go_cut [9] from 34 to 36 (fun v W => v = .int .i64 C ∧ TelL w b1 na a1 c1 xa b2 nb a2 c2 xb W)
            case first =>
              obtain ⟨d1, d2, d3, d4⟩ := tel_cells T1
              cases g with
              | false =>
                go_wp2
                go_meet
                exact ⟨by rw [HC0.out HG.out], T1⟩
              | true =>
                have key := KV _ T1 (Bool.and_eq_true_iff.1 HG.out).1 (Bool.and_eq_true_iff.1 HG.out).2
                go_wp2_with (go_at_call 20; with_reducible refine key.mono ?_; rintro e w3 ⟨hb3, rfl⟩)
                go_meet
                exact ⟨rfl, tel_step T1 hb3⟩
            case rest =>
              clear T1
              obtain ⟨rfl, T1⟩ := hcut
              generalize wc = wX6 at *
              clear KM KG KV HC0 HG
              go_upto_region 8 with (fail)
              go_cut [10, 11] from 37 to 41 (fun v1 v2 W => v1 = .int .i64 N ∧ v2 = .int .i64 E ∧ TelL w b1 na a1 c1 xa b2 nb a2 c2 xb W)
              case first =>
                obtain ⟨d1, d2, d3, d4⟩ := tel_cells T1
                go_wp2_with (go_at_call 21; with_reducible refine (KB _ T1).mono ?_; rintro e w3 ⟨hb3, rfl⟩)
                go_meet
                exact ⟨rfl, rfl, tel_step T1 hb3⟩
              case rest =>
                clear T1
                obtain ⟨rfl, rfl, T1⟩ := hcut
                generalize wc = wX7 at *
                go_upto_region 9 with (fail)
                go_cut [12] from 42 to 43 (fun v1 W => BoxS W v1 N E ∧ TelL w b1 na a1 c1 xa b2 nb a2 c2 xb W)
                case first =>
                  obtain ⟨d1, d2, d3, d4⟩ := tel_cells T1
                  go_wp2_with (go_at_call 22; with_reducible refine (KS _ T1).mono ?_; rintro e w3 ⟨hb3, rfl⟩)
                  go_meet
                  exact ⟨BoxS.new, tel_step (tel_step T1 hb3) ((Below.refl _ _).alloc (Nat.le_refl _) _)⟩
                case rest =>
                  clear T1
                  obtain ⟨q12, T1⟩ := hcut
                  generalize wc = wX8 at *
                  go_upto_region 10 with (fail)
                  go_cut [13, 14] from 44 to 48 (fun v1 v2 W => v1 = .int .i64 M ∧ v2 = .int .i64 F ∧ BoxS W u12 N E ∧ TelL w b1 na a1 c1 xa b2 nb a2 c2 xb W)
                  case first =>
                    obtain ⟨d1, d2, d3, d4⟩ := tel_cells T1
                    go_wp2_with (go_at_call 23; with_reducible refine (KT _ T1).mono ?_; rintro e w3 ⟨hb3, rfl⟩)
                    go_meet
                    exact ⟨rfl, rfl, q12.below hb3, tel_step T1 hb3⟩
                  case rest =>
                    clear T1 q12
                    obtain ⟨rfl, rfl, q12, T1⟩ := hcut
                    generalize wc = wX9 at *
                    go_upto_region 11 with (fail)
                    go_cut [15] from 49 to 50 (fun v1 W => BoxS W v1 M F ∧ BoxS W u12 N E ∧ TelL w b1 na a1 c1 xa b2 nb a2 c2 xb W)
                    case first =>
                      obtain ⟨d1, d2, d3, d4⟩ := tel_cells T1
                      go_wp2_with (go_at_call 24; with_reducible refine (KU _ T1).mono ?_; rintro e w3 ⟨hb3, rfl⟩)
                      go_meet
                      exact ⟨BoxS.new, (q12.below hb3).below ((Below.refl _ _).alloc (Nat.le_refl _) _), tel_step (tel_step T1 hb3) ((Below.refl _ _).alloc (Nat.le_refl _) _)⟩
                    case rest =>
                      clear T1 q12
                      obtain ⟨q15, q12, T1⟩ := hcut
                      generalize wc = wX10 at *
                      clear KB KS KT KU
                      obtain ⟨b12, rfl, r12⟩ := q12
                      obtain ⟨b15, rfl, r15⟩ := q15
                      cases fa with
                      | true =>
                        clear KC
                        go_wp2_with (first
                          | (go_at_call 16; with_reducible refine (sane_any _ (DG _ T1)).mono ?_; rintro e w3 ⟨h3, rfl⟩; have T2 := tel_step T1 h3; obtain ⟨d1, d2, d3, d4⟩ := tel_cells T2)
                          | (go_at_call 19; with_reducible refine (KF _ T2).mono ?_; rintro e w4 ⟨h4, rfl⟩; have T3 := tel_step T2 h4; have g3 := h3.trans (h4.mono h3.size); have x1 := (r12.below g3).cell 0; have x2 := (r12.below g3).cell 1; have x3 := (r15.below g3).cell 0; have x4 := (r15.below g3).cell 1; simp only [List.getElem?_cons_zero, List.getElem?_cons_succ] at x1 x2 x3 x4)
                          | (go_at_call 26; refine (of_int n _ hn1 hn2).mono ?_; rintro e w5 ⟨h5, v5, rfl, i5⟩; have T4 := tel_step T3 h5)
                          | (go_at_call 27; refine (rof_int n _ hn1 hn2).mono ?_; rintro e w6 ⟨h6, v6, rfl, i6⟩; have T5 := tel_step T4 h6)
                          | (go_at_call 25; refine (rsame_eq _ _ n _ (i5.below h6) i6).mono ?_; rintro e w7 ⟨h7, rfl⟩; have T6 := tel_step T5 h7))
                        go_ret
                        exact ⟨T6.below, rfl⟩
                      | false =>
                        have hE1 : E = 1 := by rw [← HE.out]; rfl
                        go_wp2_with (first
                          | (go_at_call 16; with_reducible refine (sane_any _ (DG _ T1)).mono ?_; rintro e w3 ⟨h3, rfl⟩; have T2 := tel_step T1 h3; obtain ⟨d1, d2, d3, d4⟩ := tel_cells T2)
                          | (go_at_call 19; with_reducible refine (KF _ T2).mono ?_; rintro e w4 ⟨h4, rfl⟩; have T3 := tel_step T2 h4; obtain ⟨e1, e2, e3, e4⟩ := tel_cells T3)
                          | (go_at_call 17; with_reducible refine (KC _ T3).mono ?_; rintro e w8 ⟨h8, rfl⟩; have T3' := tel_step T3 h8; have g3 := (h3.trans (h4.mono h3.size)).trans (h8.mono (h3.trans (h4.mono h3.size)).size); have x1 := (r12.below g3).cell 0; have x2 := (r12.below g3).cell 1; have x3 := (r15.below g3).cell 0; have x4 := (r15.below g3).cell 1; simp only [List.getElem?_cons_zero, List.getElem?_cons_succ] at x1 x2 x3 x4)
                          | (go_at_call 26; refine (of_int n _ hn1 hn2).mono ?_; rintro e w5 ⟨h5, v5, rfl, i5⟩; have T4 := tel_step T3' h5)
                          | (go_at_call 27; refine (rof_int n _ hn1 hn2).mono ?_; rintro e w6 ⟨h6, v6, rfl, i6⟩; have T5 := tel_step T4 h6)
                          | (go_at_call 25; refine (rsame_eq _ _ n _ (i5.below h6) i6).mono ?_; rintro e w7 ⟨h7, rfl⟩; have T6 := tel_step T5 h7))
                        go_ret
                        exact ⟨T6.below, rfl⟩

end Go.Proofs.YtlghjfpkfdnfoaaDoor
