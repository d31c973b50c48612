/- num.addAt -/
import Derived.Test.YtlghjfpkfdnfoaaGreatDoorNumMTakeTimes
import Derived.Test.YtlghjfpkfdnfoaaGreatDoorNumMTimesSmall
import Derived.Deep.QuietTactic
import Derived.BigQuiet
import Derived.Test.YtlghjfpkfdnfoaaGreatDoorNumMKnuth
import Derived.Test.YtlghjfpkfdnfoaaGreatDoorNumMShiftRight
import Derived.Test.YtlghjfpkfdnfoaaGreatDoorNumMDifference
import Derived.Test.YtlghjfpkfdnfoaaGreatDoorNumMFloored
import Derived.Laws.CopyOwn
namespace Go.Proofs.YtlghjfpkfdnfoaaGreatDoor
open Go Go.RowKit Go.Shelf
attribute [local go_sem] Oper.semAt_some

/-- a round has returned: nothing is left to add -/
def AdStop (w : World) (O B0 : Nat) (L : List Nat) (m : Nat) (c : Code) (ps : List (Nat × Nat)) (W : World) : Prop :=
  c = .ret ∧ (∃ pre' p, ps = pre' ++ [p] ∧ m ≤ p.1 ∧ (adFold O L pre').2 = 0 ∧ RowAt W B0 52 (enc32 (adFold O L pre').1)) ∧ Chg (fun k => k = B0) w W
theorem adStop_own (B : Nat) {w : World} (hB : w.heap.size ≤ B) (O B0 : Nat) (L : List Nat) (m : Nat) (c : Code) {α : Type} (f : α → List (Nat × Nat)) : OwnFrom B (fun s W => AdStop w O B0 L m c (f s) W) :=
  (ownFrom_pure _ _).and ((ownFrom_ex fun _ => ownFrom_ex fun _ => (ownFrom_pure _ _).and ((ownFrom_pure _ _).and ((ownFrom_pure _ _).and (ownFrom_rowAt _ _ _)))).and (ownFrom_chg hB))

set_option maxHeartbeats 2000000 in
set_option maxRecDepth 100000 in
theorem addAt_any (vb : Value) (bs L : List Nat) (la at' n o B0 cap : Nat) (w : World) (hrow : RowAt w B0 52 (enc32 L)) (hL : Limbs L) (hb : Reads .u32 w vb bs) (hlb : Limbs bs) (hla : la = at' + n) (hn : o + la ≤ L.length) (hn2 : la ≤ 200000)
    (hbB : ∀ a m c, vb = .slice (some a) m c → bs ≠ [] → a.block < B0) :
    Calls Tryz.prog 104 #[.slice (some ⟨B0, o, none⟩) la cap, vb, .int .i64 (at' : Int)] w fun e w' => Chg (fun k => k = B0) w w' ∧ RowAt w' B0 52 (enc32 (adFold (o + at') L (limbPairs bs n)).1) ∧ ∃ v, e = .returned v := by
  have hB0 := hrow.lt
  obtain ⟨ab, cb, rfl, hcb, hmb⟩ := hb.form
  unfold maxLen at hmb
  have hsub : (la : Int) - (at' : Int) = (n : Int) := by omega
  have hla1 : at' + n ≤ la := by omega
  clear hla
  refine (callsIn_wide (n := 9)).1 ?_
  refine callsIn_of_wp_marks Tryz.func104 rfl trivial ?_ rfl
  simp only [Tryz.ntmps104, List.size_toArray, List.length_cons, List.length_nil, Nat.reduceAdd, Nat.reduceSub, Array.replicate_succ, Array.replicate_zero, List.push_toArray, List.append_toArray, List.nil_append, List.cons_append]
  gi_wp2_with (refine ⟨trivial, ?_⟩; gi_at_call 90; refine (callsIn_wide.2 (limbs_any _ _ _ ⟨_, _, _, rfl⟩)).mono ?_; rintro e w' ⟨rfl, rfl⟩)
  have b0 : Below w.heap.size w w := Below.refl _ _
  have b6 := (((((b0.alloc (Nat.le_refl _) (.cells #[.slice (some ⟨B0, o, none⟩) la cap] 22)).alloc (by simp) (.cells #[.slice ab bs.length cb] 22)).alloc (by simp; omega) (.cells #[.int .i64 (at' : Int)] 3)).alloc (by simp; omega) (.cells #[.int .u64 0] 77)).alloc (by simp; omega) (.cells #[.slice ab bs.length cb] 22)).alloc (by simp; omega) (.cells #[.int .i64 (n : Int)] 3)
  refine range_limbs 7 8 (w.heap.size + 5) (w.heap.size + 4) B0 n (.slice ab bs.length cb) bs (by exact rfl) hlb (by omega) (by simp) (by simp) (by simp; omega) ?m1 ?m2 (hb.below b6) hbB
    (fun pre W => RowAt W B0 52 (enc32 (adFold (o + at') L (pre.map (·.1))).1) ∧ Boxed W (w.heap.size + 3) 77 (.int .u64 ((adFold (o + at') L (pre.map (·.1))).2 : Int)) ∧
      Boxed W (w.heap.size + 4) 22 (.slice ab bs.length cb) ∧ Boxed W w.heap.size 22 (.slice (some ⟨B0, o, none⟩) la cap) ∧ Boxed W (w.heap.size + 1) 22 (.slice ab bs.length cb) ∧ Boxed W (w.heap.size + 2) 3 (.int .i64 (at' : Int)) ∧ Chg (fun k => k = B0) w W)
    (fun c pre W => AdStop w (o + at') B0 L bs.length c (pre.map (·.1)) W)
    ((ownFrom_rowAt _ _ _).and ((ownFrom_boxed _ _ _).and ((ownFrom_boxed _ _ _).and ((ownFrom_boxed _ _ _).and ((ownFrom_boxed _ _ _).and ((ownFrom_boxed _ _ _).and (ownFrom_chg ?mB)))))))
    (fun c => adStop_own _ ?mB2 _ _ _ _ _ _) ?start ?assign ?body ?done ?stop
  case mB => simp; omega
  case mB2 => simp; omega
  case m1 => go_simp
  case m2 => go_simp
  case start =>
    refine ⟨?_, ?_, ?_, ?_, ?_, ?_, ?_⟩
    · exact (b6.block B0 hB0).trans hrow
    · exact Boxed.at (((Boxed.new _ _ _).alloc _).alloc _) (by simp)
    · exact Boxed.at ((Boxed.new _ _ _).alloc _) (by simp)
    · exact (((((Boxed.new _ _ _).alloc _).alloc _).alloc _).alloc _).alloc _
    · exact Boxed.at (((((Boxed.new _ _ _).alloc _).alloc _).alloc _).alloc _) (by simp)
    · exact Boxed.at ((((Boxed.new _ _ _).alloc _).alloc _).alloc _) (by simp)
    · exact (Chg.ofBelow b6).mono (fun k hk => hk) |> fun h => Chg.narrow (h.mono fun k hk => .inr hk)
  case assign =>
    intro l x W K hK
    gi_wp2
    exact hK
  case body =>
    rintro l pre x W ⟨rv, bc, bs1, bl, bb, bt, bw⟩ hlt
    have hwB := bw.size
    obtain ⟨⟨i, y⟩, hi1, hi2⟩ := x
    have hps : ∀ p ∈ pre.map (·.1), p.2 < B32 := fun p hp => by
      obtain ⟨q, _, rfl⟩ := List.mem_map.1 hp
      exact q.2.2
    obtain ⟨hr1, hc1⟩ := adFold_limbs (o := o + at') hL (pre.map (·.1)) hps
    have hlen := adFold_length (o + at') L (pre.map (·.1))
    have hnext := adFold_snoc (o + at') L (pre.map (·.1)) (i, y)
    have hmap : (pre ++ [(⟨(i, y), hi1, hi2⟩ : IdxLimb n)]).map (·.1) = pre.map (·.1) ++ [(i, y)] := by simp
    obtain ⟨st, hst⟩ : ∃ st, adFold (o + at') L (pre.map (·.1)) = st := ⟨_, rfl⟩
    rw [hst] at rv bc hr1 hc1 hlen hnext
    have HS := Lib.hid hst
    clear hst hps
    obtain ⟨r, c⟩ := st
    simp only [adStep] at hnext
    dsimp only at *
    have hbc := bc.cell
    have hfc := bc.frozen
    have hbl := bl.cell
    have hbb := bb.cell
    have hbt := bt.cell
    have HN := Lib.hid hnext
    have HM := Lib.hid hmap
    have HL := Lib.hid hlen
    clear hnext hmap hlen
    by_cases hret : bs.length ≤ i ∧ c = 0
    · obtain ⟨h1, rfl⟩ := hret
      simp only [boundFrame]
      gi_wp2_with fail
      refine ⟨KeepsFrom.refl _ _, rfl, ⟨pre.map (·.1), (i, y), HM.out, h1, ?_, ?_⟩, bw⟩
      · rw [HS.out]
      · rw [HS.out]; exact rv
    · have hgo : ¬ bs.length ≤ i ∨ (bs.length ≤ i ∧ ¬ (c : Int) = 0) := by omega
      have HN2 := HN.out
      have HLo := HL.out
      obtain ⟨x, hx⟩ : ∃ x, r[o + at' + i]?.getD 0 = x := ⟨_, rfl⟩
      have hxB := limb_getD hr1 (o + at' + i)
      rw [hx] at HN2 hxB
      have hcell : W.cell? ⟨B0, o + (at' + i), none⟩ = some (.int .u32 (x : Int)) := by
        rw [rv.cell, enc32_at (by omega), ← Nat.add_assoc, hx]
      have hfz := rv.frozen (o + (at' + i))
      have hix := index_win B0 o la cap (at' + i) (by omega) .i64
      rw [Int.natCast_add] at hix
      have hwi : IntKind.i64.wrap ((at' : Int) + (i : Int)) = (at' : Int) + (i : Int) := by rw [IntKind.wrap_i64]; omega
      obtain ⟨T, hT⟩ : ∃ T, c + (x + y) = T := ⟨_, rfl⟩
      rw [hT] at HN2
      unfold B32 at hi2 hxB
      have hs0 : IntKind.u64.wrap ((x : Int) + (y : Int)) = (x : Int) + (y : Int) := by rw [IntKind.wrap_u64]; omega
      have hs1 : IntKind.u64.wrap ((c : Int) + ((x : Int) + (y : Int))) = (T : Int) := by rw [IntKind.wrap_u64]; omega
      have hwx : IntKind.u64.wrap (x : Int) = (x : Int) := by rw [IntKind.wrap_u64]; omega
      have hwy : IntKind.u64.wrap (y : Int) = (y : Int) := by rw [IntKind.wrap_u64]; omega
      obtain ⟨cl, hcl⟩ : ∃ cl, T % B32 = cl := ⟨_, rfl⟩
      obtain ⟨ch, hch⟩ : ∃ ch, T / B32 = ch := ⟨_, rfl⟩
      have hwl : IntKind.u32.wrap (T : Int) = (cl : Int) := by rw [IntKind.wrap_u32', ← hcl]; unfold B32; omega
      have hdv : (T : Int) / 4294967296 = (ch : Int) := by rw [← hch]; unfold B32; omega
      rw [hcl, hch] at HN2
      clear hT hx hcl hch
      have HN3 := Lib.hid HN2
      clear HN2 HLo
      simp only [boundFrame]
      rcases hgo with hgo | ⟨hgo, hgo2⟩
      · gi_wp2_with fail
        refine region_tail (.inr ⟨_, rfl⟩) 12 (by kernel_rfl) (by kernel_rfl) ?_
        simp only [List.take_succ_cons, List.take_zero, List.drop_succ_cons, List.drop_zero]
        repeat still_step
        refine wpStill_nil ?_
        change wpListIn _ _ _ _ _ _ _ W.drew
        gi_wp2_with fail
        have hF : Chg (fun k => k = B0 ∨ k = w.heap.size + 3) W _ := ((((Chg.refl _ W).drew).setCell (p := ⟨w.heap.size + 3, 0, none⟩) (.inl (.inr rfl)) (.int .u64 (T : Int))).setCell (p := ⟨B0, o + (at' + i), none⟩) (.inl (.inl rfl)) (.int .u32 (cl : Int))).setCell (p := ⟨w.heap.size + 3, 0, none⟩) (.inl (.inr rfl)) (.int .u64 (ch : Int))
        have hbel := hF.below (B := B0) (by rintro k (e | e) <;> omega) (by omega)
        have f4 := hF.boxed bs1 (by omega)
        refine ⟨hF.keepsFrom _ ?_, Kp0.boxed hbel bs1 f4, ?_, ?_, f4, hF.boxed bl (by omega), hF.boxed bb (by omega), hF.boxed bt (by omega), bw.step hF (by rintro b (e | e) <;> omega)⟩
        · rintro k (rfl | rfl)
          · exact rv.isCells
          · exact Boxed.isCells bc
        · rw [HM.out, HN3.out, enc32_set, Nat.add_assoc o at' i]
          exact RowAt.other (a := ⟨w.heap.size + 3, 0, none⟩) (RowAt.set (RowAt.other (a := ⟨w.heap.size + 3, 0, none⟩) (RowAt.drew rv) (show B0 ≠ w.heap.size + 3 by omega) _) (o + (at' + i)) _) (show B0 ≠ w.heap.size + 3 by omega) _
        · rw [HM.out, HN3.out]
          exact Boxed.set _ (Boxed.otherAt (Boxed.set _ (Boxed.drew bc)) (by simp; omega) _)
      · gi_wp2_with fail
        refine region_tail (.inr ⟨_, rfl⟩) 12 (by kernel_rfl) (by kernel_rfl) ?_
        simp only [List.take_succ_cons, List.take_zero, List.drop_succ_cons, List.drop_zero]
        repeat still_step
        refine wpStill_nil ?_
        change wpListIn _ _ _ _ _ _ _ W.drew
        gi_wp2_with fail
        have hF : Chg (fun k => k = B0 ∨ k = w.heap.size + 3) W _ := ((((Chg.refl _ W).drew).setCell (p := ⟨w.heap.size + 3, 0, none⟩) (.inl (.inr rfl)) (.int .u64 (T : Int))).setCell (p := ⟨B0, o + (at' + i), none⟩) (.inl (.inl rfl)) (.int .u32 (cl : Int))).setCell (p := ⟨w.heap.size + 3, 0, none⟩) (.inl (.inr rfl)) (.int .u64 (ch : Int))
        have hbel := hF.below (B := B0) (by rintro k (e | e) <;> omega) (by omega)
        have f4 := hF.boxed bs1 (by omega)
        refine ⟨hF.keepsFrom _ ?_, Kp0.boxed hbel bs1 f4, ?_, ?_, f4, hF.boxed bl (by omega), hF.boxed bb (by omega), hF.boxed bt (by omega), bw.step hF (by rintro b (e | e) <;> omega)⟩
        · rintro k (rfl | rfl)
          · exact rv.isCells
          · exact Boxed.isCells bc
        · rw [HM.out, HN3.out, enc32_set, Nat.add_assoc o at' i]
          exact RowAt.other (a := ⟨w.heap.size + 3, 0, none⟩) (RowAt.set (RowAt.other (a := ⟨w.heap.size + 3, 0, none⟩) (RowAt.drew rv) (show B0 ≠ w.heap.size + 3 by omega) _) (o + (at' + i)) _) (show B0 ≠ w.heap.size + 3 by omega) _
        · rw [HM.out, HN3.out]
          exact Boxed.set _ (Boxed.otherAt (Boxed.set _ (Boxed.drew bc)) (by simp; omega) _)
  case done =>
    rintro D ys W hD hys ⟨rv, bc, bs1, bl, bb, bt, bw⟩ hK
    rw [hys] at rv
    clear hys bc
    gi_wp2_with fail
    refine ⟨by simp, .inl ⟨_, _, rfl, run_takeDeferred hK, ?_⟩⟩
    have hD2 : w.heap.size + 6 ≤ D := by simpa using hD
    have hbk := belowK_b (w := w) (Nat.le_refl _) W D _ (.deferred none) (by omega) hK rfl rfl
    refine ⟨_, results_none rfl _ _ _, bw.step (Chg.ofBelow hbk) (fun b hb => .inr hb), ?_, ⟨_, rfl⟩⟩
    exact (World.putObj_heap_other (by omega)).trans rv
  case stop =>
    rintro D c pre W hD hpf ⟨rfl, ⟨pre', p, hpp, hp1, hc0, rv⟩, bw⟩ hK
    gi_wp2
    refine ⟨by simp, .inl ⟨_, _, rfl, run_takeDeferred hK, ?_⟩⟩
    have hD2 : w.heap.size + 6 ≤ D := by simpa using hD
    have hbk := belowK_b (w := w) (Nat.le_refl _) W D _ (.deferred none) (by omega) hK rfl rfl
    refine ⟨_, results_none rfl _ _ _, bw.step (Chg.ofBelow hbk) (fun b hb => .inr hb), ?_, ⟨_, rfl⟩⟩
    have hle : (pre.map (·.1)).length ≤ n := by have := hpf.length_le; rwa [limbPairs_length] at this
    have hlen : (pre.map (·.1)).length = pre'.length + 1 := by rw [hpp]; simp
    have h1 := List.prefix_iff_eq_take.1 hpf
    have h2 := List.prefix_iff_eq_take.1 (limbPairs_prefix bs (show pre'.length + 1 ≤ n by omega))
    rw [limbPairs_length] at h2
    rw [hlen, ← h2, hpp, limbPairs_succ] at h1
    obtain ⟨e1, e2⟩ := List.append_inj' h1 rfl
    have e3 : p = (pre'.length, bs[pre'.length]?.getD 0) := by simpa using e2
    rw [e3] at hp1
    rw [e1] at hc0 rv
    have hr := adFold_rest (o := o + at') hL hp1 hc0 (fun p hp' => by
      obtain ⟨i, _, rfl⟩ := List.mem_map.1 hp'
      exact limb_getD hlb i) (n - pre'.length)
    rw [show pre'.length + (n - pre'.length) = n by omega] at hr
    rw [hr]
    exact (World.putObj_heap_other (by omega)).trans rv

end Go.Proofs.YtlghjfpkfdnfoaaGreatDoor

/- num.guess -/
namespace Go.Proofs.YtlghjfpkfdnfoaaGreatDoor
open Go Go.RowKit Go.Shelf
attribute [local go_sem] Oper.semAt_some

/-- between two rounds -/
def GuInv (t u g : Nat) (s10 s11 : Value) : Prop := ∃ limb rest : Nat, s10 = .int .u64 (limb : Int) ∧ s11 = .int .u64 (rest : Int) ∧ limb * t + rest = u ∧ g ≤ limb ∧ rest < 8589934592 ∧ limb ≤ 8589934592

set_option maxHeartbeats 4000000 in
set_option maxRecDepth 100000 in
theorem guess_any (vb : Value) (bs L : List Nat) (k n o B0 cap : Nat) (w : World) (hrow : RowAt w B0 52 (enc32 L)) (hL : Limbs L) (hb : Reads .u32 w vb bs) (hlb : Limbs bs) (hbl : bs.length = k + 2) (hn : n = k + 3) (hl : o + k + 3 ≤ L.length) (hkk : k ≤ 200000)
    (ht : 2147483648 ≤ bs[k + 1]?.getD 0) (hle : L[o + k + 2]?.getD 0 ≤ bs[k + 1]?.getD 0) :
    Calls Tryz.prog 102 #[.slice (some ⟨B0, o, none⟩) n cap, vb] w fun e w' => Below w.heap.size w w' ∧ e = .returned (.int .u32 (knuG L bs o k : Int)) := by
  obtain ⟨ab, cb, rfl, hcb, hmb⟩ := hb.form
  unfold maxLen at hmb
  have c1 := hb.cell (k + 1) (by omega)
  have c2 := hb.cell k (by omega)
  have i1 := fun W => hb.index und_limbs size_limb (P := Tryz.prog) (k + 1) .i64 W (by omega)
  have i2 := fun W => hb.index und_limbs size_limb (P := Tryz.prog) k .i64 W (by omega)
  have c3 : w.cell? ⟨B0, o + (k + 2), none⟩ = some (.int .u32 ((L[o + k + 2]?.getD 0 : Nat) : Int)) := by rw [hrow.cell, enc32_at (by omega), Nat.add_assoc]
  have c4 : w.cell? ⟨B0, o + (k + 1), none⟩ = some (.int .u32 ((L[o + k + 1]?.getD 0 : Nat) : Int)) := by rw [hrow.cell, enc32_at (by omega), Nat.add_assoc]
  have c5 : w.cell? ⟨B0, o + k, none⟩ = some (.int .u32 ((L[o + k]?.getD 0 : Nat) : Int)) := by rw [hrow.cell, enc32_at (by omega)]
  have i3 := index_win B0 o n cap (k + 2) (by omega) .i64
  have i4 := index_win B0 o n cap (k + 1) (by omega) .i64
  have i5 := index_win B0 o n cap k (by omega) .i64
  have b1 := limb_getD hlb (k + 1)
  have b2 := limb_getD hlb k
  have b3 := limb_getD hL (o + k + 2)
  have b4 := limb_getD hL (o + k + 1)
  have b5 := limb_getD hL (o + k)
  obtain ⟨g, hg⟩ : ∃ g, knuG L bs o k = g := ⟨_, rfl⟩
  rw [hg]
  unfold knuG at hg
  have hgB := guessN_lt (L[o + k]?.getD 0 + B32 * (L[o + k + 1]?.getD 0 + B32 * L[o + k + 2]?.getD 0)) (bs[k]?.getD 0 + B32 * bs[k + 1]?.getD 0)
  rw [hg] at hgB
  generalize bs[k + 1]?.getD 0 = t at *
  generalize bs[k]?.getD 0 = b at *
  generalize L[o + k + 2]?.getD 0 = l2 at *
  generalize L[o + k + 1]?.getD 0 = l1 at *
  generalize L[o + k]?.getD 0 = l0 at *
  obtain ⟨u, hu⟩ : ∃ u, l1 + B32 * l2 = u := ⟨_, rfl⟩
  rw [hu] at hg
  have hub : u < t * B32 + B32 := by
    rw [← hu, Nat.mul_comm t]
    have : B32 * l2 ≤ B32 * t := Nat.mul_le_mul_left _ hle
    omega
  have hV : 0 < b + B32 * t := by unfold B32; omega
  have huB : u < 18446744073709551616 := by rw [← hu]; unfold B32 at *; omega
  have e1 : ((k + 1 : Nat) : Int) = (bs.length : Int) - 1 := by omega
  have e2 : ((k : Nat) : Int) = (bs.length : Int) - 2 := by omega
  have e3 : ((k + 2 : Nat) : Int) = (bs.length : Int) := by omega
  rw [e1] at i1 i4
  rw [e2] at i2 i5
  rw [e3] at i3
  clear e1 e2 e3
  have hb2 : 2 ≤ bs.length := by omega
  have hor : bits BinOp.or IntKind.u64 ((l2 : Int) * 4294967296) (l1 : Int) = (u : Int) := by
    have q1 : (l2 : Int) * 4294967296 = ((l2 * 4294967296 : Nat) : Int) := by omega
    rw [q1, bits_or_u64_nat _ _ (by unfold B32 at *; omega) (by unfold B32 at *; omega), show l2 * 4294967296 = l2 <<< 32 by rw [Nat.shiftLeft_eq], ← Nat.shiftLeft_add_eq_or_of_lt (by unfold B32 at *; omega), Nat.shiftLeft_eq, ← hu]
    unfold B32; omega
  have hq0 : u / t * t + u % t = u := by rw [Nat.mul_comm]; exact Nat.div_add_mod u t
  have hql : g ≤ u / t := by
    rw [← hg]
    refine Nat.le_trans (Nat.min_le_left _ _) ?_
    refine (Nat.le_div_iff_mul_le (by omega)).2 ?_
    have h1 := Nat.div_mul_le_self (l0 + B32 * u) (b + B32 * t)
    generalize (l0 + B32 * u) / (b + B32 * t) = q at *
    rw [Nat.mul_add, Nat.mul_left_comm q] at h1
    have h2 : B32 * (q * t) < B32 * (u + 1) := by rw [Nat.mul_add]; omega
    have h3 := Nat.lt_of_mul_lt_mul_left h2
    omega
  have hqb : u / t ≤ 8589934592 := by
    have : u / t < B32 + B32 := by
      refine Nat.div_lt_of_lt_mul ?_
      rw [Nat.mul_add, Nat.mul_comm t] at *
      have : B32 * 1 ≤ B32 * t := Nat.mul_le_mul_left _ (by omega)
      omega
    unfold B32 at this; omega
  have hrb : u % t < 8589934592 := by
    have := Nat.mod_lt u (show 0 < t by omega)
    unfold B32 at b1; omega
  have hstart : GuInv t u g (.int .u64 ((u / t : Nat) : Int)) (.int .u64 ((u % t : Nat) : Int)) := ⟨_, _, rfl, rfl, hq0, hql, hrb, hqb⟩
  have HS := Lib.hid hstart
  have HG := Lib.hid (And.intro hg.symm (And.intro hub hV))
  have hwl2 : IntKind.u64.wrap ((l2 : Int) * 4294967296) = (l2 : Int) * 4294967296 := by rw [IntKind.wrap_u64]; unfold B32 at b3; omega
  have hdq : (u : Int) / (t : Int) = ((u / t : Nat) : Int) := rfl
  have hdr : (u : Int) % (t : Int) = ((u % t : Nat) : Int) := rfl
  have htz : ¬ t = 0 := by omega
  clear hq0 hql hstart hg hub hV hu hle hbl hn hL hlb hrow hl
  unfold B32 at b1 b2 b3 b4 b5 hgB
  generalize u / t = Q0 at *
  generalize u % t = R0 at *
  go_enter Tryz.func102, Tryz.ntmps102
  go_wp2_with fail
  go_quiet (fail)
  go_wp2_with fail
  go_quiet (fail)
  go_wp2_with fail
  go_quiet (fail)
  go_wp2_with fail
  go_loopw [10, 11] (fun s10 s11 wr => GuInv t u g s10 s11 ∧ Below w.heap.size w wr) (fun s10 _ _ => (intOf s10).toNat)
  case atStart => exact ⟨by rw [hdr]; exact HS.out, below_drewN (below_drewN (below_drewN (Below.refl _ _) _) _) _⟩
  case round =>
    obtain ⟨⟨limb, rest, rfl, rfl, hsum, hgl, hr2, hl2⟩, hbe⟩ := hrel
    clear c1 c2 c3 c4 c5 i1 i2 i3 i4 i5 hor hdq hdr hwl2
    obtain ⟨hg, hub, hV⟩ := HG.out
    have hstep : g ≤ limb - 1 ∧ 1 ≤ limb → GuInv t u g (.int .u64 ((limb - 1 : Nat) : Int)) (.int .u64 ((rest + t : Nat) : Int)) ∨ 4294967296 ≤ rest := fun h => by
      rcases Nat.lt_or_ge rest 4294967296 with hr | hr
      · refine .inl ⟨limb - 1, rest + t, rfl, rfl, ?_, h.1, by omega, by omega⟩
        rw [← hsum, Nat.sub_mul, Nat.one_mul]
        have : 1 * t ≤ limb * t := Nat.mul_le_mul_right _ h.2
        omega
      · exact .inr hr
    have hdec := fun h => guess_dec (t := t) (b := b) (l0 := l0) (limb := limb) (rest := rest) hg hsum hV hgl h
    have hend := fun h => guess_end (t := t) (b := b) (l0 := l0) (limb := limb) (rest := rest) hg hsum hV hgl hub b2 h
    have HH := Lib.hid (And.intro hstep (And.intro hdec hend))
    clear hstep hdec hend hsum hg hub hV
    obtain ⟨rt, hrt⟩ : ∃ rt, rest + t = rt := ⟨_, rfl⟩
    obtain ⟨lm, hlm⟩ : ∃ lm, limb - 1 = lm := ⟨_, rfl⟩
    have hw1 : IntKind.u64.wrap ((rest : Int) + (t : Int)) = (rt : Int) := by rw [IntKind.wrap_u64]; omega
    have HR := Lib.hid (And.intro hrt hlm)
    clear hrt
    rcases Nat.lt_or_ge rest 4294967296 with hr | hr
    · rcases Nat.lt_or_ge limb 4294967296 with hlb | hlb
      · obtain ⟨P, hP⟩ : ∃ P, limb * b = P := ⟨_, rfl⟩
        obtain ⟨Z, hZ⟩ : ∃ Z, rest * 4294967296 + l0 = Z := ⟨_, rfl⟩
        have hPb : P < 18446744073709551616 := by
          rw [← hP]
          have := Nat.mul_le_mul (show limb ≤ 4294967295 by omega) (show b ≤ 4294967295 by omega); omega
        have hmul : IntKind.u64.wrap ((limb : Int) * (b : Int)) = (P : Int) := by rw [← Int.natCast_mul, hP, IntKind.wrap_u64]; omega
        have hwr : IntKind.u64.wrap ((rest : Int) * 4294967296) = (rest : Int) * 4294967296 := by rw [IntKind.wrap_u64]; omega
        have hor2 : bits BinOp.or IntKind.u64 ((rest : Int) * 4294967296) (l0 : Int) = (Z : Int) := by
          have q1 : (rest : Int) * 4294967296 = ((rest * 4294967296 : Nat) : Int) := by omega
          rw [q1, bits_or_u64_nat _ _ (by omega) (by omega), show rest * 4294967296 = rest <<< 32 by rw [Nat.shiftLeft_eq], ← Nat.shiftLeft_add_eq_or_of_lt (by omega), Nat.shiftLeft_eq, ← hZ]
        have HP := Lib.hid (And.intro hP hZ)
        clear hP hZ
        rcases Nat.lt_or_ge Z P with hc | hc
        · have hd := HH.out.2.1 (.inr (by rw [HP.out.1, show rest * B32 + l0 = Z from HP.out.2]; exact hc))
          have hl1 := hd.2
          have hGI := Lib.hid ((HH.out.1 hd).resolve_right (by omega))
          have hw2 : IntKind.u64.wrap ((limb : Int) - 1) = (lm : Int) := by rw [IntKind.wrap_u64]; omega
          rw [HR.out.1, HR.out.2] at hGI
          have hm : lm < limb := by omega
          have d1 : (rest : Int) < 4294967296 := by omega
          have d2 : (limb : Int) < 4294967296 := by omega
          have d3 : (Z : Int) < (P : Int) := by omega
          clear hl1 hd b1 b2 b3 b4 b5 hgB huB hr2 hl2 hr hlb hPb hc ht hqb hrb
          go_wp2
          go_roundw
          case rel => exact ⟨hGI.out, hbe⟩
          case measure => simpa [intOf] using hm
        · have he := HH.out.2.2 (.inr ⟨hlb, by rw [HP.out.1, show rest * B32 + l0 = Z from HP.out.2]; exact hc⟩)
          subst he
          have d1 : (rest : Int) < 4294967296 := by omega
          have d2 : (limb : Int) < 4294967296 := by omega
          have d3 : (P : Int) ≤ (Z : Int) := by omega
          clear hlm hw1 HR b1 b2 b3 b4 b5 hgB huB hr2 hl2 hr hlb hPb hc ht hqb hrb
          iterate 47 (first | go_values | go_skip | go_guarded | go_step | go_upon)
          refine wp_cond_split rfl (fun h => ?_) (fun h => ?_)
          · exfalso; clear hmul hwr hor2; revert h; simp; omega
          clear hmul hwr hor2 h
          go_wp2
          go_ret
          exact ⟨hbe, rfl⟩
      · have hd := HH.out.2.1 (.inl hlb)
        have hl1 := hd.2
        have hGI := Lib.hid ((HH.out.1 hd).resolve_right (by omega))
        have hw2 : IntKind.u64.wrap ((limb : Int) - 1) = (lm : Int) := by rw [IntKind.wrap_u64]; omega
        rw [HR.out.1, HR.out.2] at hGI
        have hm : lm < limb := by omega
        have d1 : (rest : Int) < 4294967296 := by omega
        have d2 : (4294967296 : Int) ≤ (limb : Int) := by omega
        clear hl1 hd b1 b2 b3 b4 b5 hgB huB hr2 hl2 hr hlb ht hqb hrb
        go_wp2
        go_roundw
        case rel => exact ⟨hGI.out, hbe⟩
        case measure => simpa [intOf] using hm
    · have he := HH.out.2.2 (.inl hr)
      subst he
      have d1 : decide ((rest : Int) < 4294967296) = false := by simp; omega
      have hwg : IntKind.u32.wrap (limb : Int) = (limb : Int) := by rw [IntKind.wrap_u32']; omega
      clear b1 b2 b3 b4 b5 hgB huB hr2 hl2 hr ht hqb hrb
      go_wp2
      go_ret
      exact ⟨hbe, rfl⟩

end Go.Proofs.YtlghjfpkfdnfoaaGreatDoor

/- Long division: its beginning and its end; without the program. -/
namespace Go.Proofs.YtlghjfpkfdnfoaaGreatDoor

/-- what divides, with the top bit 1 -/
theorem knu_norm {xb ys : List Nat} {k s : Nat} (hb : Canon xb) (hl : xb.length = k + 2) (hy : Canon ys) (hs : s + Lib.bitLen (xb[k + 1]?.getD 0) = 32) (hv : val ys = val xb * 2 ^ s) :
    ys.length = k + 2 ∧ 2147483648 ≤ ys[k + 1]?.getD 0 := by
  have hx0 : xb[k + 1]?.getD 0 ≠ 0 := by
    have := canon_last hb (by rintro rfl; simp at hl)
    rwa [hl, show k + 2 - 1 = k + 1 by omega] at this
  have hxB := limb_getD hb.1 (k + 1)
  obtain ⟨b1, b2, b3, b4⟩ := bitLen_bounds hx0 hxB
  have e1 := val_split xb (k + 1) (by omega)
  rw [List.drop_of_length_le (show xb.length ≤ k + 1 + 1 by omega)] at e1
  have e2 := take_lt hb.1 (k + 1) (by omega)
  simp only [val, Nat.mul_zero, Nat.add_zero] at e1
  generalize xb[k + 1]?.getD 0 = x at *
  generalize val (xb.take (k + 1)) = lo at *
  have p1 : 2 ^ s * 2 ^ Lib.bitLen x = 4294967296 := by rw [← Nat.pow_add, hs]
  have p2 : 2 ^ s * 2 ^ (Lib.bitLen x - 1) = 2147483648 := by rw [← Nat.pow_add, show s + (Lib.bitLen x - 1) = 31 by omega]
  have h1 : (lo + B32 ^ (k + 1) * x) * 2 ^ s < B32 ^ (k + 1) * B32 := by
    have : lo + B32 ^ (k + 1) * x < B32 ^ (k + 1) * 2 ^ Lib.bitLen x := by
      have : B32 ^ (k + 1) * (x + 1) ≤ B32 ^ (k + 1) * 2 ^ Lib.bitLen x := Nat.mul_le_mul_left _ b4
      rw [Nat.mul_add, Nat.mul_one] at this
      omega
    have := Nat.mul_lt_mul_of_pos_right this (show 0 < 2 ^ s from Nat.pow_pos (by omega))
    rw [Nat.mul_assoc, Nat.mul_comm (2 ^ Lib.bitLen x), p1] at this
    exact this
  have h2 : B32 ^ (k + 1) * 2147483648 ≤ (lo + B32 ^ (k + 1) * x) * 2 ^ s := by
    rw [← p2, Nat.mul_comm (2 ^ s), ← Nat.mul_assoc]
    refine Nat.mul_le_mul_right _ ?_
    have : B32 ^ (k + 1) * 2 ^ (Lib.bitLen x - 1) ≤ B32 ^ (k + 1) * x := Nat.mul_le_mul_left _ b3
    omega
  rw [← e1, ← hv] at h1 h2
  have l1 : ys.length ≤ k + 2 := canon_length_le hy (by rw [Nat.pow_succ]; exact h1)
  have hp : 0 < B32 ^ (k + 1) := Nat.pow_pos B32_pos
  have l2 : k + 2 ≤ ys.length := by
    refine Nat.le_of_not_lt fun hc => ?_
    have h3 := val_lt hy.1
    have h4 : B32 ^ ys.length ≤ B32 ^ (k + 1) := Nat.pow_le_pow_right B32_pos (by omega)
    omega
  refine ⟨by omega, ?_⟩
  have e3 := val_split ys (k + 1) (by omega)
  rw [List.drop_of_length_le (show ys.length ≤ k + 1 + 1 by omega)] at e3
  have e4 := take_lt hy.1 (k + 1) (by omega)
  simp only [val, Nat.mul_zero, Nat.add_zero] at e3
  refine Nat.le_of_not_lt fun hc => ?_
  have h5 : B32 ^ (k + 1) * (ys[k + 1]?.getD 0 + 1) ≤ B32 ^ (k + 1) * 2147483648 := Nat.mul_le_mul_left _ hc
  rw [Nat.mul_add, Nat.mul_one] at h5
  omega
/-- ahead of the first round -/
theorem knu_start {xa xb : List Nat} {s V A0 d : Nat} (ha : Limbs xa) (hb : Canon xb) (hb0 : xb ≠ []) (hd : xa.length + 1 = d + xb.length) (hA : A0 = val xa * 2 ^ s) (hV : V = val xb * 2 ^ s) : A0 < V * B32 ^ d := by
  subst hA hV
  have h1 := val_lt ha
  have h2 := canon_pos hb hb0
  have h3 : 0 < xb.length := List.length_pos_iff.2 hb0
  have h4 : B32 ^ xa.length ≤ val xb * B32 ^ d := by
    have : B32 ^ xa.length = B32 ^ (xb.length - 1) * B32 ^ d := by rw [← Nat.pow_add]; congr 1; omega
    rw [this]; exact Nat.mul_le_mul_right _ h2
  have h5 : val xa * 2 ^ s < val xb * B32 ^ d * 2 ^ s := Nat.mul_lt_mul_of_pos_right (by omega) (Nat.pow_pos (by omega))
  rw [Nat.mul_assoc, Nat.mul_comm (B32 ^ d), ← Nat.mul_assoc] at h5
  exact h5
/-- behind the last round -/
theorem knu_end {X A B s Q : Nat} (hA : X + B * 2 ^ s * Q = A * 2 ^ s) (hlt : X < B * 2 ^ s) (hB : 0 < B) : Q = A / B ∧ X / 2 ^ s = A % B := by
  have hs : 0 < 2 ^ s := Nat.pow_pos (by omega)
  have h1 : X = (A - B * Q) * 2 ^ s ∧ B * Q ≤ A := by
    have e : B * 2 ^ s * Q = B * Q * 2 ^ s := by rw [Nat.mul_assoc, Nat.mul_comm (2 ^ s), ← Nat.mul_assoc]
    rw [e] at hA
    have h2 : B * Q ≤ A := Nat.le_of_mul_le_mul_right (show B * Q * 2 ^ s ≤ A * 2 ^ s by omega) hs
    refine ⟨?_, h2⟩
    rw [Nat.sub_mul]; omega
  obtain ⟨h1, h2⟩ := h1
  rw [h1] at hlt
  have h3 : A - B * Q < B := Nat.lt_of_mul_lt_mul_right hlt
  have h4 : A = (A - B * Q) + B * Q := by omega
  generalize A - B * Q = r at *
  subst h4
  refine ⟨?_, ?_⟩
  · rw [Nat.add_mul_div_left _ _ hB, Nat.div_eq_of_lt h3, Nat.zero_add]
  · rw [h1, Nat.mul_div_cancel _ hs, Nat.add_mul_mod_self_left, Nat.mod_eq_of_lt h3]

end Go.Proofs.YtlghjfpkfdnfoaaGreatDoor

/- num.divide from two limbs on -/
namespace Go.Proofs.YtlghjfpkfdnfoaaGreatDoor
open Go Go.RowKit Go.Shelf

/-- between two rounds: what is left, and the quotient's limbs so far -/
structure DivW (W0 : World) (BL BQ : Nat) (ys : List Nat) (A0 m d j : Nat) (L Q : List Nat) (W : World) : Prop where
  rl : RowAt W BL 52 (enc32 L)
  rq : RowAt W BQ 52 (enc32 Q)
  ll : Limbs L
  lq : Limbs Q
  len : L.length = m + 1
  qlen : Q.length = d
  sum : val L + val ys * (B32 ^ j * val (Q.drop j)) = A0
  lt : val L < val ys * B32 ^ j
  chg : Chg (fun k => k = BL ∨ k = BQ) W0 W

theorem sr_list (v : Value) (xs : List Nat) (s : Nat) (w : World) (h : Reads .u32 w v xs) (hc : Canon xs) (hl : xs.length ≤ 100000) (hs : s < 32) :
    Calls Tryz.prog 105 #[v, .int .i64 (s : Int)] w fun e w' => Below w.heap.size w w' ∧ ∃ v' cs, e = .returned v' ∧ Reads .u32 w' v' cs ∧ Canon cs ∧ val cs = val xs / 2 ^ s := by
  by_cases hx : xs.length = 0
  · have : xs = [] := List.eq_nil_of_length_eq_zero hx
    subst this
    refine (shiftRight_none v [] s w h (by omega) (by simp)).mono ?_
    rintro e w' ⟨hb, rfl⟩
    exact ⟨hb, _, [], rfl, Reads.nil _ _, canon_nil, by simp [val]⟩
  · refine (shiftRight_some v xs s w h hc.1 hl (by omega) (by omega)).mono ?_
    rintro e w' ⟨hb, v', cs, rfl, h1, h2, h3⟩
    refine ⟨hb, _, _, rfl, h1, h2, ?_⟩
    rw [h3, Nat.div_eq_of_lt hs, Nat.mod_eq_of_lt hs]; rfl

/-- the row that was laid over zeros -/
theorem splice_zeros (zs : List Nat) (n : Nat) : splice (zeros n).toList 0 (enc32 zs) = enc32 (zs ++ List.replicate (n - zs.length) 0) := by
  simp [splice, zeros, enc32, List.drop_replicate]

theorem knu_of {W0 W : World} {BL BQ A0 m d o k : Nat} {ys L Q : List Nat} (h : DivW W0 BL BQ ys A0 m d (o + 1) L Q W) (hy : Limbs ys) (hl : ys.length = k + 2) (ht : 2147483648 ≤ ys[k + 1]?.getD 0) (ho : o + k + 3 ≤ m + 1) : Knu L ys o k :=
  ⟨h.ll, hy, by rw [h.len]; exact ho, hl, ht, h.lt⟩

theorem slice_win (b m o l : Nat) (h : o + l + 1 ≤ m) (W : World) : (Instr.slice 22 (.slice (some ⟨b, 0, none⟩) m m) (some (.int .i64 (o : Int))) (some (.int .i64 ((o : Int) + (l : Int) + 1))) none).run Tryz.prog W = .ok (.slice (some ⟨b, o, none⟩) (l + 1) (m - o)) W := by
  have e1 : ((o : Int) + (l : Int) + 1).toNat = o + l + 1 := by omega
  have e2 : o + l + 1 - o = l + 1 := by omega
  go_simp
  rw [if_pos ⟨by omega, by omega⟩, if_pos (by omega), if_neg (by omega)]
/-- at a round's head -/
def DivRel (W0 : World) (BL BQ : Nat) (ys : List Nat) (A0 m d : Nat) (v : Value) (W : World) : Prop := ∃ (j : Nat) (i : Int) (L Q : List Nat), v = .int .i64 i ∧ i + 1 = j ∧ j ≤ d ∧ DivW W0 BL BQ ys A0 m d j L Q W
theorem row_below {W W' : World} {b B : Nat} {t : TypeId} {cs : List Value} (h : RowAt W b t cs) (hb : Below B W W') (hlt : b < B) : RowAt W' b t cs := (hb.block b hlt).trans h
theorem chg_reads {S : Nat → Prop} {A W : World} {v : Value} {xs : List Nat} {B : Nat} (h : Chg S A W) (hr : Reads .u32 A v xs) (hb : ∀ a n c, v = .slice (some a) n c → xs ≠ [] → a.block < B) (hs : ∀ k, S k → B ≤ k) : Reads .u32 W v xs :=
  h.reads hr (fun a n c e hx hS => by have h1 := hb a n c e hx; have h2 := hs _ hS; omega)

theorem reads_src {W : World} {a : Option Addr} {n cap : Nat} {xs : List Nat} (h : Reads .u32 W (.slice a n cap) xs) (hp : 0 < (enc32 xs).length) : ∃ ad, a = some ad ∧ ∀ j v, (enc32 xs)[j]? = some v → W.cell? (ad.add j) = some v := by
  obtain ⟨a', cap', he, -, -, hj⟩ := h
  cases he
  rw [enc32_length] at hp
  obtain ⟨⟨b, off, rfl⟩, -⟩ := hj 0 hp
  refine ⟨_, rfl, fun j v hv => ?_⟩
  have hl : j < xs.length := by
    have := (List.getElem?_eq_some_iff.1 hv).1
    rwa [enc32_length] at this
  rw [enc32_at hl] at hv
  cases hv
  rw [Addr.add_lit]
  exact (hj j hl).2
theorem size_limb_at : (Tryz.prog.info? 52).map (·.size) = some 1 := by
  have := info_limb
  cases h : Tryz.prog.info? 52 with
  | none => rw [h] at this; cases this
  | some i =>
    rw [h] at this
    simp at this ⊢
    exact this.2.1

set_option maxHeartbeats 4000000 in
set_option maxRecDepth 100000 in
theorem divide_long (va vb : Value) (xa xb : List Nat) (k : Nat) (w : World) (ha : Reads .u32 w va xa) (hb : Reads .u32 w vb xb) (hka : Canon xa) (hkb : Canon xb) (la : xa.length ≤ 90000) (hlb : xb.length = k + 2) (hle : val xb ≤ val xa) :
    Calls Tryz.prog 78 #[va, vb] w fun e w' => DivRes w w' xa xb e := by
  have hcv : (0 : Int) ≤ cmpI (val xa : Int) (val xb : Int) := by unfold cmpI; (repeat' split) <;> omega
  have hll : xb.length ≤ xa.length := canon_le_length hka hkb hle
  have hb0 : 0 < val xb := (canon_pos_iff hkb).2 (by omega)
  obtain ⟨x, hx⟩ : ∃ x, xb[k + 1]?.getD 0 = x := ⟨_, rfl⟩
  have hxB := limb_getD hkb.1 (k + 1)
  have hx0 : x ≠ 0 := by
    have := canon_last hkb (by rintro rfl; simp at hlb)
    rwa [hlb, show k + 2 - 1 = k + 1 by omega, hx] at this
  rw [hx] at hxB
  obtain ⟨bx1, bx2, -, -⟩ := bitLen_bounds hx0 hxB
  obtain ⟨s, hs⟩ : ∃ s, s + Lib.bitLen x = 32 := ⟨32 - Lib.bitLen x, by omega⟩
  have hs32 : s < 32 := by omega
  have hnorm := fun ys hy hv => knu_norm (ys := ys) (s := s) hkb hlb hy (by rw [hx]; exact hs) hv
  obtain ⟨aa, ca, rfl, hca, hma⟩ := ha.form
  obtain ⟨ab, cb, rfl, hcb, hmb⟩ := hb.form
  unfold maxLen at hma hmb
  have hcell := fun W (hW : Below w.heap.size w W) => (hb.below hW).cell (k + 1) (by omega)
  rw [hx] at hcell
  have hix := fun W => hb.index und_limbs size_limb (P := Tryz.prog) (k + 1) .i64 W (by omega)
  rw [show ((k + 1 : Nat) : Int) = (xb.length : Int) - 1 by omega] at hix
  have hlz : ∀ W, Calls Tryz.prog 100 #[.int .u32 (x : Int)] W fun e w' => e = .returned (.int .i64 (s : Int)) ∧ w' = W := fun W => by
    refine (Tryz.bits_LeadingZeros32 (x : Int) W (by omega) (by unfold B32 at hxB; omega)).mono ?_
    rintro e w' ⟨rfl, rfl⟩
    refine ⟨?_, rfl⟩
    rw [Int.toNat_natCast, show (32 : Int) - (Lib.bitLen x : Int) = (s : Int) by omega]
  have sl1 := fun W (hW : Below w.heap.size w W) => shiftLeft_any _ xb s W (hb.below hW) hkb.1 (by omega) (by omega)
  have sl2 := fun W (hW : Below w.heap.size w W) => shiftLeft_any _ xa s W (ha.below hW) hka.1 (by omega) (by omega)
  obtain ⟨m, hm⟩ : ∃ m, xa.length = m := ⟨_, rfl⟩
  obtain ⟨d, hd⟩ : ∃ d, m + 1 = d + xb.length := ⟨m + 1 - xb.length, by omega⟩
  have hmk1 : ∀ W, (Instr.makeSlice 22 (.int .i64 ((xa.length : Int) + 1)) (.int .i64 ((xa.length : Int) + 1))).run Tryz.prog W = .ok (.slice (some ⟨W.heap.size, 0, none⟩) (m + 1) (m + 1)) (W.alloc (.cells (zeros (m + 1)) 52)) := fun W => by
    rw [make_limbs _ _ (by omega) (by omega) (by omega) W, show ((xa.length : Int) + 1).toNat = m + 1 by omega]
  have hmk2 : ∀ W, (Instr.makeSlice 22 (.int .i64 (d : Int)) (.int .i64 (d : Int))).run Tryz.prog W = .ok (.slice (some ⟨W.heap.size, 0, none⟩) d d) (W.alloc (.cells (zeros d) 52)) := fun W => by
    simpa using make_limbs (d : Int) (d : Int) (by omega) (by omega) (by omega) W
  have hat : (xa.length : Int) - (xb.length : Int) = (d : Int) - 1 := by omega
  have HZ : ∀ zs, Canon zs → val zs = val xa * 2 ^ s → zs.length ≤ m + 1 := fun zs hc hv => canon_length_le hc (by
    rw [hv, Nat.pow_succ, ← hm]
    exact Nat.mul_lt_mul_of_lt_of_le (val_lt hka.1) (Nat.pow_le_pow_right (by omega) (show s ≤ 32 by omega)) (by decide))
  have HC : ∃ cv, Hid (cmpI (val xa : Int) (val xb : Int) = cv) ∧ 0 ≤ cv := ⟨_, Lib.hid rfl, hcv⟩
  obtain ⟨cv, HC, hcv0⟩ := HC
  have HF := Lib.hid (And.intro hnorm (And.intro hb0 (And.intro hlb (And.intro hm hd))))
  have hne1 : ¬ (xb.length : Int) = 1 := by omega
  clear hcv hnorm hb0 hx bx1 bx2 hs hxB hx0 hle hm hd hlb
  go_enter Tryz.func78, Tryz.ntmps78
  go_wp2_with (first
    | (go_at_call 31; refine (compare_any _ _ xa xb _ ha hb hka hkb (by omega)).mono ?_; rintro e w1 ⟨hbe1, rfl⟩; rw [HC.out]; have hc1 := hcell _ hbe1)
    | (go_at_call 100; refine (hlz _).mono ?_; rintro e w2 ⟨rfl, rfl⟩)
    | (go_at_call 101; refine (sl1 _ hbe1).mono ?_; clear sl1; rintro e w3 ⟨hbe3, v3, ys, rfl, h3, c3, e3⟩; obtain ⟨a3, p3, rfl, hp3, hm3⟩ := h3.form; have b3 := hbe1.trans (hbe3.mono hbe1.size); have b4 := b3.alloc b3.size (.cells (zeros (m + 1)) 52))
    | (go_at_call 101; refine (sl2 _ b4).mono ?_; clear sl2; rintro e w5 ⟨hbe5, v5, zs, rfl, h5, c5, e5⟩; obtain ⟨a5, p5, rfl, hp5, hm5⟩ := h5.form; have hzl := HZ zs c5 e5; have hg5 : w5.heap[w3.heap.size]? = some (.cells (zeros (m + 1)).toList.toArray 52 (0, 0)) := (hbe5.block w3.heap.size (by simp)).trans (by simpa using World.alloc_heap_new w3 (.cells (zeros (m + 1)) 52)); have hg6 := Lib.hid hg5; clear hg5; have hq1 := Lib.hid (show (enc32 zs).length = Nat.min zs.length (m + 1) by rw [enc32_length]; exact (Nat.min_eq_left hzl).symm); have hq2 := Lib.hid (show 0 < (enc32 zs).length → ∃ ad, a5 = some ad ∧ ∀ j v, (enc32 zs)[j]? = some v → w5.cell? (ad.add j) = some v from fun hp => reads_src h5 hp); have hq3 := Lib.hid (show 0 + (enc32 zs).length ≤ (zeros (m + 1)).toList.length by rw [enc32_length]; simp [zeros]; omega); have hq4 := Lib.hid (show ∀ v ∈ enc32 zs, v.oneCell' = true from fun v hv => by obtain ⟨z, _, rfl⟩ := List.mem_map.1 hv; rfl))
    | ((with_reducible refine wpList_copy_splice rfl (.tmp 51) (.tmp 54) 22 22 rfl 52 und_limbs size_limb_at _ _ _ _ _ _ rfl rfl w3.heap.size 0 (zeros (m + 1)).toList 52 hg6.out (enc32 zs) hq1.out (fun hp => ⟨rfl, hq2.out hp⟩) hq3.out hq4.out w3.heap.size w5 (Below.refl _ _) (Nat.le_refl _) ?_); intro w6 hg7 hb6))
  obtain ⟨hnorm, hb0, hlb, hm, hd⟩ := HF.out
  obtain ⟨hyl, hyt⟩ := hnorm ys c3 e3
  have b5 := b4.trans (hbe5.mono b4.size)
  have b6 : Below w.heap.size w w6 := b5.trans (hb6.mono b3.size)
  have hlt56 : w3.heap.size < w5.heap.size := by have := hbe5.size; simp at this; omega
  have hlt6 : w3.heap.size < w6.heap.size := by have := hb6.size; omega
  have b36 : Below w3.heap.size w3 w6 := (((Below.refl w3.heap.size w3).alloc (Nat.le_refl _) (.cells (zeros (m + 1)) 52)).trans (hbe5.mono (by simp))).trans hb6
  have r6 : RowAt w6 w3.heap.size 52 (enc32 (zs ++ List.replicate (m + 1 - zs.length) 0)) := by rw [← splice_zeros]; exact hg7.out
  have hy0 := (h3.below b36).below ((Below.refl w6.heap.size w6).alloc (Nat.le_refl _) (.cells (zeros d) 52))
  have hylt := h3.lt
  have hstart : DivW (w6.alloc (.cells (zeros d) 52)) w3.heap.size w6.heap.size ys (val xa * 2 ^ s) m d d (zs ++ List.replicate (m + 1 - zs.length) 0) (List.replicate d 0) (w6.alloc (.cells (zeros d) 52)) := {
    rl := r6.alloc _
    rq := by
      have := RowAt.new w6 52 (enc32 (List.replicate d 0))
      have e : (enc32 (List.replicate d 0)).toArray = zeros d := by simp [enc32, zeros]
      rwa [e] at this
    ll := by
      intro x hx
      rcases List.mem_append.1 hx with h | h
      · exact c5.1 x h
      · rw [List.eq_of_mem_replicate h]; exact B32_pos
    lq := limbs_zeros d
    len := by simp; omega
    qlen := by simp
    sum := by rw [val_append, val_zeros, List.drop_replicate, Nat.sub_self, e5]; simp [val]
    lt := by
      rw [val_append, val_zeros, Nat.mul_zero, Nat.add_zero]
      exact knu_start hka.1 hkb (by rintro rfl; simp at hlb) (by omega) e5 e3
    chg := Chg.refl _ _ }
  have hstart2 : DivRel (w6.alloc (.cells (zeros d) 52)) w3.heap.size w6.heap.size ys (val xa * 2 ^ s) m d (.int .i64 ((d : Int) - 1)) (w6.alloc (.cells (zeros d) 52)) := ⟨d, _, _, _, rfl, by omega, Nat.le_refl _, hstart⟩
  have HS := Lib.hid hstart2
  have b7 := b6.alloc b6.size (.cells (zeros d) 52)
  have hs7 : (w6.alloc (.cells (zeros d) 52)).heap.size = w6.heap.size + 1 := by simp
  have HF2 := Lib.hid (And.intro hyl (And.intro e3 (And.intro hlb (And.intro hm (And.intro hd hs7)))))
  clear hnorm hyl e3 e5 hlb hm hd hs7 hstart hstart2 hmk1 hmk2 hq1 hq2 hq3 hq4 hg6 hg7 HF r6 h5 hat hix hcell hlz hne1
  generalize hW0 : w6.alloc (.cells (zeros d) 52) = W0 at *
  have HW0 := Lib.hid hW0
  clear hW0
  go_loopw [11] (fun s11 wr => DivRel W0 w3.heap.size w6.heap.size ys (val xa * 2 ^ s) m d s11 wr) (fun s11 _ => (intOf s11 + 1).toNat)
  case atStart => exact HS.out
  case round =>
    obtain ⟨j, i, L, Q, rfl, hij, hjd, hD⟩ := hrel
    rcases Nat.eq_zero_or_pos j with hj | hj
    · subst hj
      obtain rfl : i = -1 := by omega
      have hend := knu_end (X := val L) (A := val xa) (B := val xb) (s := s) (Q := val Q) (by
        have h1 := hD.sum
        rw [HF2.out.2.1, Nat.pow_zero, Nat.one_mul, List.drop_zero] at h1
        exact h1) (by
        have h1 := hD.lt
        rw [HF2.out.2.1, Nat.pow_zero, Nat.mul_one] at h1
        exact h1) hb0
      have HE := Lib.hid hend
      have rdL : Reads .u32 wr (.slice (some ⟨w3.heap.size, 0, none⟩) (m + 1) (m + 1)) L := RowAt.reads hD.rl _ _ hD.len.symm (Nat.le_refl _) (by have := HF2.out.2.2.2.1; unfold maxLen; omega)
      have rdQ : Reads .u32 wr (.slice (some ⟨w6.heap.size, 0, none⟩) d d) Q := RowAt.reads hD.rq _ _ hD.qlen.symm (Nat.le_refl _) (by have := HF2.out.2.2.2.2.1; have := HF2.out.2.2.2.1; unfold maxLen; omega)
      have hlL : (trimmed L).length ≤ 100000 := by
        have h1 := trimmed_length L
        have := HF2.out.2.2.2.1
        rw [hD.len] at h1
        omega
      have bwr : Below w.heap.size w wr := b7.trans (hD.chg.below (B := w.heap.size) (by rintro k (e | e) <;> (have := b3.size; omega)) b7.size)
      have hlQ := hD.lq
      have hlLL := hD.ll
      clear hend hb0 hD
      go_wp2_with (first
        | (go_at_call 57; refine (trim_any _ Q _ rdQ).mono ?_; clear rdQ; rintro e w8 ⟨rfl, v8, rfl, h8⟩; have hq8 := h8)
        | (go_at_call 57; refine (trim_any _ L _ rdL).mono ?_; clear rdL; rintro e w9 ⟨rfl, v9, rfl, h9⟩)
        | (go_at_call 105; refine (sr_list _ (trimmed L) s _ h9 (canon_trimmed hlLL) hlL hs32).mono ?_; rintro e w10 ⟨hbe10, v10, rs, rfl, h10, c10, e10⟩))
      exact bodyPost_ret (v := .tuple #[v8, v10]) (by simp [results, Tryz.results78, go_sem]) rfl
        ⟨bwr.trans (hbe10.mono bwr.size), v8, v10, trimmed Q, rs, rfl, h8.below hbe10, h10, canon_trimmed hlQ, c10, by rw [val_trimmed]; exact HE.out.1, by rw [e10, val_trimmed]; exact HE.out.2⟩
    · obtain ⟨o, rfl⟩ : ∃ o, j = o + 1 := ⟨j - 1, by omega⟩
      obtain rfl : i = (o : Int) := by omega
      obtain ⟨hyl, e3, hlb, hm, hd, hs7⟩ := HF2.out
      have hkn : Knu L ys o k := knu_of hD c3.1 hyl hyt (by omega)
      have hrd := hkn.round
      have hnx := fun R hR => Knu.next (Q := Q) (R := R) hkn (by rw [hD.qlen]; omega) hD.sum hR
      have hqB := hkn.q_lt
      have hGB : knuG L ys o k < B32 := guessN_lt _ _
      rw [show k + 3 = ys.length + 1 by omega] at hrd
      have b3s := b3.size
      have hyr : Reads .u32 wr (.slice a3 ys.length p3) ys := chg_reads hD.chg hy0 hylt (by rintro k (e | e) <;> omega)
      have kg := guess_any _ ys L k (ys.length + 1) o w3.heap.size (m + 1 - o) wr hD.rl hD.ll hyr c3.1 hyl (by omega) (by rw [hD.len]; omega) (by omega) hyt hkn.le_top
      obtain ⟨G, hG⟩ : ∃ G, knuG L ys o k = G := ⟨_, rfl⟩
      obtain ⟨q, hq⟩ : ∃ q, knuQ L ys o = q := ⟨_, rfl⟩
      rw [hG] at kg hrd hGB
      rw [hq] at hrd hqB
      simp only [hq] at hnx
      have hwL : w3.heap.size < wr.heap.size := hD.rl.lt
      have ktt := fun W (hW : Below wr.heap.size wr W) => takeTimes_any _ ys L G (ys.length + 1) o w3.heap.size (m + 1 - o) W (row_below hD.rl hW hwL) hD.ll (hyr.below hW) c3.1 (by rw [hD.len]; omega) (by omega) hylt hGB
      have hl1 := (ttFold_limbs (o := o) hGB hD.ll (limbPairs ys (ys.length + 1)) (hkn.pairs _)).1
      have hn1 := ttFold_length o G L (limbPairs ys (ys.length + 1))
      obtain ⟨st, hst⟩ : ∃ st, ttFold o G L (limbPairs ys (ys.length + 1)) = st := ⟨_, rfl⟩
      rw [hst] at hrd hl1 hn1
      simp only [hst] at ktt
      have kad := fun W0' W (hW : Below wr.heap.size wr W0') (hc : Chg (fun k => k = w3.heap.size) W0' W) (hr : RowAt W w3.heap.size 52 (enc32 st.1)) => addAt_any (.slice a3 ys.length p3) ys st.1 (ys.length + 1) 0 (ys.length + 1) o w3.heap.size (m + 1 - o) W hr hl1 (chg_reads hc (hyr.below hW) hylt (by rintro k rfl; omega)) c3.1 (by omega) (by rw [hn1, hD.len]; omega) (by omega) hylt
      simp only [Nat.add_zero, Int.ofNat_zero] at kad
      have hl2 := (adFold_limbs (o := o) hl1 (limbPairs ys (ys.length + 1)) (hkn.pairs _)).1
      have hn2 := adFold_length o st.1 (limbPairs ys (ys.length + 1))
      obtain ⟨R2, hR2⟩ : ∃ R2, (adFold o st.1 (limbPairs ys (ys.length + 1))).1 = R2 := ⟨_, rfl⟩
      rw [hR2] at hrd hl2 hn2
      simp only [hR2] at kad
      have hsl : ∀ W, (Instr.slice 22 (.slice (some ⟨w3.heap.size, 0, none⟩) (m + 1) (m + 1)) (some (.int .i64 (o : Int))) (some (.int .i64 ((o : Int) + (ys.length : Int) + 1))) none).run Tryz.prog W = .ok (.slice (some ⟨w3.heap.size, o, none⟩) (ys.length + 1) (m + 1 - o)) W := fun W => slice_win _ _ _ _ (by omega) W
      have hixq : ∀ W, (Instr.indexAt 22 (.slice (some ⟨w6.heap.size, 0, none⟩) d d) (.int .i64 (o : Int))).run Tryz.prog W = .ok (.pointer (some ⟨w6.heap.size, o, none⟩)) W := fun W => by
        simpa using index_win w6.heap.size 0 d d o (by omega) .i64 W
      have hrq : ∀ W1 W, Below wr.heap.size wr W1 → Chg (fun k => k = w3.heap.size) W1 W → RowAt W w6.heap.size 52 (enc32 Q) := fun W1 W h1 h2 => h2.row (row_below hD.rq h1 hD.rq.lt) (by omega)
      have fin : ∀ W1 W R, Below wr.heap.size wr W1 → Chg (fun k => k = w3.heap.size) W1 W → RowAt W w3.heap.size 52 (enc32 R) → Limbs R → R.length = L.length → val R + B32 ^ o * (q * val ys) = val L →
          DivRel W0 w3.heap.size w6.heap.size ys (val xa * 2 ^ s) m d (.int .i64 ((o : Int) - 1)) (W.setCell ⟨w6.heap.size, o, none⟩ (.int .u32 (q : Int))) := fun W1 W R h1 h2 hr hlR hnR hvR => by
        refine ⟨o, (o : Int) - 1, R, Q.set o q, rfl, by omega, by omega, ?_⟩
        obtain ⟨n1, n2⟩ := hnx R hvR
        exact {
          rl := RowAt.other hr (show w3.heap.size ≠ w6.heap.size by omega) _
          rq := by rw [enc32_set]; exact RowAt.set (hrq W1 W h1 h2) o _
          ll := hlR
          lq := limbs_set hD.lq o hqB
          len := hnR.trans hD.len
          qlen := by simpa using hD.qlen
          sum := n1
          lt := n2
          chg := (((hD.chg.thenBelow h1).trans (h2.mono fun k e => .inl e)).setCell (p := ⟨w6.heap.size, o, none⟩) (.inl (.inr rfl)) _) }
      have HR := Lib.hid hrd
      have HQ2 := Lib.hid (And.intro (hn2.trans hn1) hl2)
      have HQ := Lib.hid (And.intro hm (And.intro hd (And.intro hyl hlb)))
      have hol : o < d := by omega
      have hob : o ≤ 100000 := by omega
      have hyb : ys.length ≤ 100002 := by omega
      have hqi : ∃ z : Value, (enc32 Q)[o]? = some z := ⟨_, enc32_at (by rw [hD.qlen]; exact hol)⟩
      obtain ⟨z, hz⟩ := hqi
      clear hrd hnx hst hG hq hR2 hm hd hyl hlb hkn e3 hs7 hl2 hn2 hij
      by_cases hbo : st.2.2 = 0
      · obtain ⟨hGq, hv⟩ := HR.out.1 hbo
        subst hGq
        have hdec : decide (0 < st.2.2) = false := by rw [hbo]; rfl
        rw [hdec] at ktt
        have hv2 := Lib.hid hv
        clear hv hdec hbo kad
        go_wp2_with (first
          | (go_at_call 102; refine kg.mono ?_; rintro e w8 ⟨hb8, rfl⟩; have kt2 := ktt w8 hb8)
          | (go_at_call 103; refine kt2.mono ?_; rintro e w9 ⟨hc9, r9, rfl⟩; have hrq9 := hrq w8 w9 hb8 hc9; have hc := hrq9.cell o; rw [hz] at hc; have hfz := hrq9.frozen o; have hfin := fin w8 w9 st.1 hb8 hc9 r9 hl1 hn1 hv2.out))
        refine ⟨hfin, ?_⟩
        simp [intOf]
      · obtain ⟨hGq, hv⟩ := HR.out.2 hbo
        have hdec : decide (0 < st.2.2) = true := by simp; omega
        rw [hdec] at ktt
        have hwG : IntKind.u32.wrap ((G : Int) - 1) = (q : Int) := by
          rw [IntKind.wrap_u32']
          unfold B32 at hGB
          omega
        have hv2 := Lib.hid hv
        have hR2L := HQ2.out.2
        have hR2n := HQ2.out.1
        clear hv hdec hbo hGq
        go_wp2_with (first
          | (go_at_call 102; refine kg.mono ?_; rintro e w8 ⟨hb8, rfl⟩; have kt2 := ktt w8 hb8)
          | (go_at_call 103; refine kt2.mono ?_; rintro e w9 ⟨hc9, r9, rfl⟩; have ka2 := kad w8 w9 hb8 hc9 r9)
          | (go_at_call 104; with_reducible refine ka2.mono ?_; rintro e w10 ⟨hc10, r10, vv, rfl⟩; have hc11 := hc9.trans hc10; have hrq9 := hrq w8 w10 hb8 hc11; have hc := hrq9.cell o; rw [hz] at hc; have hfz := hrq9.frozen o; have hfin := fin w8 w10 R2 hb8 hc11 r10 hR2L hR2n hv2.out))
        refine ⟨hfin, ?_⟩
        simp [intOf]

/-- every divisor that is not 0 -/
theorem divide_any (va vb : Value) (xa xb : List Nat) (w : World) (ha : Reads .u32 w va xa) (hb : Reads .u32 w vb xb) (hka : Canon xa) (hkb : Canon xb) (la : xa.length ≤ 90000) (hb0 : xb ≠ []) :
    Calls Tryz.prog 78 #[va, vb] w fun e w' => DivRes w w' xa xb e := by
  match xb, hb, hkb, hb0 with
  | [d], hb, hkb, _ => exact divide_small va vb xa d w ha hb hka hkb (by omega)
  | x :: y :: zs, hb, hkb, _ =>
    rcases Nat.lt_or_ge (val xa) (val (x :: y :: zs)) with hlt | hge
    · refine (divide_lt va vb xa _ w ha hb hka hkb (by omega) hlt).mono ?_
      rintro e w' ⟨hbe, r, rfl, h1⟩
      exact ⟨hbe, _, r, [], xa, rfl, Reads.nil _ _, h1, canon_nil, hka, by rw [Nat.div_eq_of_lt hlt]; rfl, by rw [Nat.mod_eq_of_lt hlt]⟩
    · exact divide_long va vb xa _ zs.length w ha hb hka hkb la (by simp) hge

end Go.Proofs.YtlghjfpkfdnfoaaGreatDoor

/- num.times at every length: by halves -/
namespace Go.Proofs.YtlghjfpkfdnfoaaGreatDoor
open Go Go.RowKit Go.Shelf

/-- the closure that multiplies, in its variable -/
def HvF (b : Nat) (X : World) : Prop := X.cell? ⟨b, 0, none⟩ = some (Value.func (.func 107) #[] #[.pointer (some ⟨b, 0, none⟩)])
/-- the closure is right for so many limbs -/
def HvUp (b n : Nat) : Prop := ∀ (va vb : Value) (xa xb : List Nat) (w : World), HvF b w → Reads .u32 w va xa → Reads .u32 w vb xb → Limbs xa → Limbs xb → xa.length ≤ n → xb.length ≤ n →
  Calls Tryz.prog 107 #[va, vb, .pointer (some ⟨b, 0, none⟩)] w fun e w' => Below w.heap.size w w' ∧ ∃ v cs, e = .returned v ∧ Reads .u32 w' v cs ∧ Canon cs ∧ val cs = val xa * val xb
theorem hvF_below {b : Nat} {X X' : World} (h : HvF b X) (hb : Below X.heap.size X X') : HvF b X' := (World.cell?_of_block (hb.block _ (World.block_lt_of_cell? _ _ h))).trans h

/-- the halves of a list -/
theorem halves_of {xs : List Nat} (hx : Limbs xs) (h m : Nat) (hm : min h xs.length = m) (hh : xs.length ≤ 2 * h) :
    val xs = val (trimmed (xs.take m)) + B32 ^ h * val (xs.drop m) ∧ Canon (trimmed (xs.take m)) ∧ Limbs (xs.drop m) ∧ (trimmed (xs.take m)).length ≤ h ∧ (xs.drop m).length ≤ h := by
  refine ⟨?_, canon_trimmed (limbs_take hx m), limbs_drop hx m, ?_, ?_⟩
  · rw [val_trimmed]
    by_cases hc : h ≤ xs.length
    · obtain rfl : h = m := by omega
      exact val_parts xs h hc
    · obtain rfl : xs.length = m := by omega
      rw [List.take_of_length_le (Nat.le_refl _), List.drop_of_length_le (Nat.le_refl _)]
      simp [val]
  · have := trimmed_length (xs.take m)
    rw [List.length_take] at this
    omega
  · rw [List.length_drop]; omega

set_option maxHeartbeats 4000000 in
set_option maxRecDepth 100000 in
theorem halves_step (b n : Nat) (IH : HvUp b n) (va vb : Value) (xa xb : List Nat) (w : World) (hF : HvF b w) (ha : Reads .u32 w va xa) (hb : Reads .u32 w vb xb) (hla : Limbs xa) (hlb : Limbs xb) (la : xa.length ≤ n + 1) (lb : xb.length ≤ n + 1) (hn : n ≤ 40000) (hs : 80 ≤ min xa.length xb.length) :
    Calls Tryz.prog 107 #[va, vb, .pointer (some ⟨b, 0, none⟩)] w fun e w' => Below w.heap.size w w' ∧ ∃ v cs, e = .returned v ∧ Reads .u32 w' v cs ∧ Canon cs ∧ val cs = val xa * val xb := by
  obtain ⟨h, hh⟩ : ∃ h, (max xa.length xb.length + 1) / 2 = h := ⟨_, rfl⟩
  obtain ⟨ma, hma⟩ : ∃ m, min h xa.length = m := ⟨_, rfl⟩
  obtain ⟨mb, hmb⟩ : ∃ m, min h xb.length = m := ⟨_, rfl⟩
  obtain ⟨ea, ka0, ka1, na0, na1⟩ := halves_of hla h ma hma (by omega)
  obtain ⟨eb, kb0, kb1, nb0, nb1⟩ := halves_of hlb h mb hmb (by omega)
  have sa := fun W (hW : Below w.heap.size w W) => split_any va xa h ma hma W (ha.below hW)
  have sb := fun W (hW : Below w.heap.size w W) => split_any vb xb h mb hmb W (hb.below hW)
  generalize trimmed (xa.take ma) = a0 at *
  generalize xa.drop ma = a1 at *
  generalize trimmed (xb.take mb) = b0 at *
  generalize xb.drop mb = b1 at *
  have hmk : ∀ W, (Instr.makeSlice 22 (.int .i64 ((xa.length : Int) + (xb.length : Int))) (.int .i64 ((xa.length : Int) + (xb.length : Int)))).run Tryz.prog W = .ok (.slice (some ⟨W.heap.size, 0, none⟩) (xa.length + xb.length) (xa.length + xb.length)) (W.alloc (.cells (zeros (xa.length + xb.length)) 52)) := fun W => by
    rw [make_limbs _ _ (by omega) (by omega) (by omega) W, show ((xa.length : Int) + (xb.length : Int)).toNat = xa.length + xb.length by omega]
  have HE := Lib.hid (fun low mid high (kl : Canon low) (km : Canon mid) (kh : Canon high) e1 e2 e3 => halves_end (low := low) (mid := mid) (high := high) hla hlb ea eb kl km kh e1 e2 e3 rfl (by omega))
  have l80 : ¬ min (xa.length : Int) (xb.length : Int) < 80 := by omega
  obtain ⟨aa, ca, rfl, hca, hmaa⟩ := ha.form
  obtain ⟨ab, cb, rfl, hcb, hmbb⟩ := hb.form
  have hd : (max (xa.length : Int) (xb.length : Int) + 1) / 2 = (h : Int) := by omega
  have hlen1 : 80 ≤ xa.length := by omega
  have hlen2 : 80 ≤ xb.length := by omega
  have hhn : h + 1 ≤ n := by omega
  have hhm : 2 * h ≤ xa.length + xb.length := by omega
  clear ea eb hma hmb hs hh
  go_enter Tryz.func107, Tryz.ntmps107
  go_wp2_with (first
    | (go_at_call 109; with_reducible refine (sa _ (Below.refl _ _)).mono ?_; rintro e w1 ⟨hb1, v1, v2, rfl, r1, r2⟩)
    | (go_at_call 109; with_reducible refine (sb _ hb1).mono ?_; rintro e w2 ⟨hb2, v3, v4, rfl, r3, r4⟩))
  clear sa sb
  replace r1 := r1.below hb2
  replace r2 := r2.below hb2
  have hbe := hb1.trans (hb2.mono hb1.size)
  replace hF := hvF_below hF hbe
  clear hb1 hb2
  have kl := fun (X : World) (hX : X.cell? ⟨b, 0, none⟩ = some (Value.func (.func 107) #[] #[.pointer (some ⟨b, 0, none⟩)])) (hB : Below w2.heap.size w2 X) => IH v1 v3 a0 b0 X hX (r1.below hB) (r3.below hB) ka0.1 kb0.1 (by omega) (by omega)
  have kh := fun (X : World) (hX : X.cell? ⟨b, 0, none⟩ = some (Value.func (.func 107) #[] #[.pointer (some ⟨b, 0, none⟩)])) (hB : Below w2.heap.size w2 X) => IH v2 v4 a1 b1 X hX (r2.below hB) (r4.below hB) ka1 kb1 (by omega) (by omega)
  have HF := Lib.hid hF
  unfold HvF at hF

  go_region_held3 (fun X => X.cell? ⟨b, 0, none⟩ = some (Value.func (.func 107) #[] #[.pointer (some ⟨b, 0, none⟩)]) ∧ Below w2.heap.size w2 X)
    (first | exact ⟨HF.out, (Below.refl _ _).drew⟩ | (go_split_ands; exact ⟨hvF_below (by assumption) hbc, Below.trans (by assumption) (hbc.mono (Below.size (by assumption)))⟩))
    (first
      | (go_at_call 107; go_split_ands; with_reducible refine (kl _ (by assumption) (by assumption)).mono ?_; rintro e wk ⟨hbc, vl, low, rfl, rl, cl, el⟩)
      | (go_at_call 107; go_split_ands; with_reducible refine (kh _ (by assumption) (by assumption)).mono ?_; rintro e wk ⟨hbc, vh, high, rfl, rh, ch, eh⟩; replace rl := rl.below hbc))
  rename_i hX
  obtain ⟨hF6, hB6⟩ := hX
  replace hbe := hbe.trans (hB6.mono hbe.size)
  replace r1 := r1.below hB6
  replace r2 := r2.below hB6
  replace r3 := r3.below hB6
  replace r4 := r4.below hB6
  clear kl kh hF HF hB6
  generalize wk = w6 at *
  have kp := fun X (hB : Below w6.heap.size w6 X) => plus_any v1 v2 a0 a1 X (r1.below hB) (r2.below hB) ka0.1 ka1 (by omega) (by omega)
  have kq := fun X (hB : Below w6.heap.size w6 X) => plus_any v3 v4 b0 b1 X (r3.below hB) (r4.below hB) kb0.1 kb1 (by omega) (by omega)
  have ks := fun (X : World) (hX : X.cell? ⟨b, 0, none⟩ = some (Value.func (.func 107) #[] #[.pointer (some ⟨b, 0, none⟩)])) (vs vt : Value) (sA tB : List Nat) (rs : Reads .u32 X vs sA) (rt : Reads .u32 X vt tB) (cs : Canon sA) (ct : Canon tB) (es : val sA = val a0 + val a1) (et : val tB = val b0 + val b1) =>
    IH vs vt sA tB X hX rs rt cs.1 ct.1 (by have := canon_len_add cs ka0.1 ka1 es; omega) (by have := canon_len_add ct kb0.1 kb1 et; omega)
  have HF := Lib.hid hF6
  go_wp2_with fail
  go_region_held3 (fun X => X.cell? ⟨b, 0, none⟩ = some (Value.func (.func 107) #[] #[.pointer (some ⟨b, 0, none⟩)]) ∧ Below w6.heap.size w6 X)
    (first | exact ⟨HF.out, (Below.refl _ _).drew⟩ | (go_split_ands; exact ⟨hvF_below (by assumption) hbc, Below.trans (by assumption) (hbc.mono (Below.size (by assumption)))⟩))
    (first
      | (go_at_call 79; go_split_ands; with_reducible refine (kp _ (by assumption)).mono ?_; rintro e wk ⟨hbc, vs, sA, rfl, rs, cs, es⟩)
      | (go_at_call 79; go_split_ands; with_reducible refine (kq _ (by assumption)).mono ?_; rintro e wk ⟨hbc, vt, tB, rfl, rt, ct, et⟩; replace rs := rs.below hbc)
      | (go_at_call 107; go_split_ands; with_reducible refine (ks _ (by assumption) vs vt sA tB rs rt cs ct es et).mono ?_; rintro e wk ⟨hbc, vw, AL, rfl, rw_, cw, ew⟩))
  rename_i hX
  obtain ⟨-, hB7⟩ := hX
  have nAL : AL.length ≤ sA.length + tB.length := canon_length_le cw (by rw [ew, Nat.pow_add]; exact Nat.mul_lt_mul'' (val_lt cs.1) (val_lt ct.1))
  have nS := canon_len_add cs ka0.1 ka1 es
  have nT := canon_len_add ct kb0.1 kb1 et
  rw [es, et] at ew
  replace hbe := hbe.trans (hB7.mono hbe.size)
  replace rl := rl.below hB7
  replace rh := rh.below hB7
  clear kp kq ks HF hF6 hB7 r1 r2 r3 r4 rs rt IH
  generalize wk = w7 at *
  have g1 : val low ≤ val AL := by rw [el, ew]; exact halves_le1 _ _ _ _
  have m1 := minus_any vw vl AL low w7 rw_ rl cw.1 cl.1 (by omega) (canon_le_length cw cl g1) g1
  have m2 := fun X vm M1 (hB : Below w7.heap.size w7 X) (rm : Reads .u32 X vm M1) (cm : Canon M1) (em : val M1 = val AL - val low) => by
    have g2 : val high ≤ val M1 := by rw [em, el, ew, eh]; exact halves_le2 _ _ _ _
    have g3 : M1.length ≤ AL.length := canon_le_length cw cm (by omega)
    exact minus_any vm vh M1 high X rm (rh.below hB) cm.1 ch.1 (by omega) (canon_le_length cm ch g2) g2
  go_wp2_with (first
    | (go_at_call 81; with_reducible refine m1.mono ?_; rintro e w8 ⟨hb8, vm, M1, rfl, rm, cm, em⟩)
    | (go_at_call 81; with_reducible refine (m2 _ vm M1 hb8 rm cm em).mono ?_; rintro e w9 ⟨hb9, vd, M2, rfl, rd, cd, ed⟩))
  clear m1 m2 hmk rm rw_ nS nT nAL g1
  have rl9 := (rl.below hb8).below hb9
  have rh9 := (rh.below hb8).below hb9
  obtain ⟨q1, q2, q3, e1, e2, e3, lq1, nq1, lq2, nq2, lq3, nq3, vq⟩ := HE.out low M2 high cl cd ch el (by rw [ed, em, ew, el, eh]) eh
  clear HE rl rh ed em ew el eh es et
  have hbe9 := (hbe.trans (hb8.mono hbe.size)).trans (hb9.mono (Nat.le_trans hbe.size hb8.size))
  clear hb8 hb9 hbe
  obtain ⟨N, hN⟩ : ∃ N, xa.length + xb.length = N := ⟨_, rfl⟩
  rw [hN] at nq1 nq2 nq3 e1 e2 e3 hhm
  rw [hN]
  have hN2 : N ≤ 90000 := by omega
  have row9 := RowAt.new w9 52 (enc32 (List.replicate N 0))
  rw [show (enc32 (List.replicate N 0)).toArray = zeros N by simp [enc32, zeros]] at row9
  have hB9 := (Below.refl w9.heap.size w9).alloc (Nat.le_refl _) (.cells (zeros N) 52)
  have lt1 := rl9.lt
  have lt2 := rd.lt
  have lt3 := rh9.lt
  replace rl9 := rl9.below hB9
  replace rd := rd.below hB9
  replace rh9 := rh9.below hB9
  have hbeA := hbe9.trans (hB9.mono hbe9.size)
  have hB0 := hbe9.size
  generalize w9.alloc (.cells (zeros N) 52) = W9 at *
  generalize w9.heap.size = B0 at *
  have A1 := addAt_any vl low (List.replicate N 0) N 0 N 0 B0 N W9 row9 (limbs_zeros N) rl9 cl.1 (by omega) (by simp) (by omega) lt1
  rw [show ((0 : Nat) : Int) = 0 from rfl, Nat.add_zero, ← e1] at A1
  refine A1.mono ?_
  rintro e W10 ⟨hc10, row10, x10, rfl⟩
  replace rd := chg_reads hc10 rd lt2 (fun k hk => by omega)
  replace rh9 := chg_reads hc10 rh9 lt3 (fun k hk => by omega)
  replace hbeA := hbeA.trans (hc10.below (B := w.heap.size) (by rintro k rfl; omega) hbeA.size)
  clear A1 hc10 row9 rl9
  have A2 := addAt_any vd M2 q1 N h (N - h) 0 B0 N W10 row10 lq1 rd cd.1 (by omega) (by omega) (by omega) lt2
  rw [Nat.zero_add, ← e2] at A2
  go_wp2_with (first | (go_at_call 104; with_reducible refine A2.mono ?_; rintro e W11 ⟨hc11, row11, x11, rfl⟩))
  replace rh9 := chg_reads hc11 rh9 lt3 (fun k hk => by omega)
  replace hbeA := hbeA.trans (hc11.below (B := w.heap.size) (by rintro k rfl; omega) hbeA.size)
  clear A2 hc11 row10 rd
  have A3 := addAt_any vh high q2 N (2 * h) (N - 2 * h) 0 B0 N W11 row11 lq2 rh9 ch.1 (by omega) (by omega) (by omega) lt3
  rw [Nat.zero_add, ← e3, Int.natCast_mul] at A3
  refine A3.mono ?_
  rintro e W12 ⟨hc12, row12, x12, rfl⟩
  replace hbeA := hbeA.trans (hc12.below (B := w.heap.size) (by rintro k rfl; omega) hbeA.size)
  have rq : Reads .u32 W12 (.slice (some ⟨B0, 0, none⟩) N N) q3 := RowAt.reads row12 N N nq3.symm (Nat.le_refl _) (by unfold maxLen; omega)
  clear A3 hc12 row11 rh9
  go_wp2_with (first | (go_at_call 57; with_reducible refine (trim_any _ _ _ rq).mono ?_; rintro e W13 ⟨rfl, v13, rfl, hr⟩))
  go_ret
  exact ⟨hbeA, v13, trimmed q3, rfl, hr, canon_trimmed lq3, by rw [val_trimmed, vq]⟩

theorem halves_any (b : Nat) : ∀ n, n ≤ 40000 → HvUp b n := by
  intro n
  induction n with
  | zero => exact fun _ va vb xa xb w _ ha hb hla hlb la lb => byHalves_small va vb _ xa xb w ha hb hla hlb (by omega) (by omega) (by omega)
  | succ n ih =>
    intro hn va vb xa xb w hF ha hb hla hlb la lb
    by_cases hs : min xa.length xb.length < 80
    · exact byHalves_small va vb _ xa xb w ha hb hla hlb (by omega) (by omega) hs
    · exact halves_step b n (ih (by omega)) va vb xa xb w hF ha hb hla hlb la lb (by omega) (by omega)

set_option maxHeartbeats 1000000 in
set_option maxRecDepth 100000 in
/-- num.times for all factors of at most 40000 limbs -/
theorem times_any : TimesUpTo 40000 := by
  intro va vb xa xb w ha hb hla hlb na nb
  obtain ⟨aa, ca, rfl, hca, hma⟩ := ha.form
  obtain ⟨ab, cb, rfl, hcb, hmb⟩ := hb.form
  go_enter Tryz.func84, Tryz.ntmps84
  have b0 := (Below.refl w.heap.size w).alloc (Nat.le_refl _) (.cells #[Value.func (.func 107) #[] #[.pointer (some ⟨w.heap.size, 0, none⟩)]] 114)
  have hF : HvF w.heap.size (w.alloc (.cells #[Value.func (.func 107) #[] #[.pointer (some ⟨w.heap.size, 0, none⟩)]] 114)) := by unfold HvF; go_simp
  have key := halves_any w.heap.size 40000 (Nat.le_refl _) (.slice aa xa.length ca) (.slice ab xb.length cb) xa xb _ hF (ha.below b0) (hb.below b0) hla hlb na nb
  go_wp2_with (go_at_call 107; with_reducible refine key.mono ?_; rintro e w' ⟨hbe, v, cs, rfl, h1, h2, h3⟩)
  go_ret
  exact ⟨b0.trans (hbe.mono (by simp)), v, cs, rfl, h1, h2, h3⟩

end Go.Proofs.YtlghjfpkfdnfoaaGreatDoor
