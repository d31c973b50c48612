/- num.split -/
import Derived.Test.YtlghjfpkfdnfoaaDoorNumMSmall
import Derived.Test.YtlghjfpkfdnfoaaDoorNumMRefDigits
import Derived.BigQuiet
import Derived.Test.YtlghjfpkfdnfoaaDoorNumMMinus
import Derived.Test.YtlghjfpkfdnfoaaDoorNumMQuiet
import Derived.Deep.QuietTactic
namespace Go.Proofs.YtlghjfpkfdnfoaaDoor
open Go Go.RowKit Go.Shelf

theorem slice_lo (a : Option Addr) (n c : Nat) (m : Nat) (hm : m ≤ n) (hn : n ≤ c) (W : World) : (Instr.slice 22 (.slice a n c) none (some (.int .i64 (m : Int))) none).run Tryd.prog W = .ok (.slice a m c) W := by
  go_simp
  intro h
  omega
theorem slice_hi (a : Option Addr) (n c : Nat) (m : Nat) (hm : m ≤ n) (_hn : n ≤ c) (W : World) : (Instr.slice 22 (.slice a n c) (some (.int .i64 (m : Int))) none none).run Tryd.prog W = .ok (sliced a m n c 1) W := by
  go_simp
theorem trim_still (a : Option Addr) (n c : Nat) (xs : List Nat) (w : World) (h : Reads .u32 w (.slice a n c) xs) (k : Nat) : Calls Tryd.prog 64 #[.slice a n c] (w.drewN k) fun e w' => e = .returned (.slice a (trimmed xs).length c) ∧ ∃ m, w' = w.drewN m :=
  (trim_eq a n c xs (w.drewN k) h).mono fun _ _ ⟨h1, h2⟩ => ⟨h2, k, h1.symm⟩

set_option maxHeartbeats 1000000 in
set_option maxRecDepth 100000 in
theorem split_any (va : Value) (xa : List Nat) (h m : Nat) (hm : min h xa.length = m) (w : World) (ha : Reads .u32 w va xa) :
    Calls Tryd.prog 123 #[va, .int .i64 (h : Int)] w fun e w' => Below w.heap.size w w' ∧ ∃ v1 v2, e = .returned (.tuple #[v1, v2]) ∧ Reads .u32 w' v1 (trimmed (xa.take m)) ∧ Reads .u32 w' v2 (xa.drop m) := by
  obtain ⟨aa, ca, rfl, hca, hma⟩ := ha.form
  unfold maxLen at hma
  have hm1 : m ≤ xa.length := by omega
  have p2 := ha.part m xa.length hm1 (Nat.le_refl _)
  rw [List.take_of_length_le (Nat.le_refl _)] at p2
  have s1 := slice_lo aa xa.length ca m hm1 hca
  have s2 := slice_hi aa xa.length ca m hm1 hca
  have ht := trim_still aa m ca (xa.take m) w (ha.toLen m hm1)
  have p1 := trim_reads (ha.toLen m hm1)
  obtain ⟨a2, c2, e2, -, -⟩ := p2.form
  rw [e2] at p2
  simp only [e2] at s2
  clear e2
  generalize trimmed (xa.take m) = t0 at *
  generalize xa.drop m = d0 at *
  generalize t0.length = n0 at *
  generalize d0.length = n2 at *
  have hmin : min (h : Int) (xa.length : Int) = (m : Int) := by omega
  clear hm
  go_enter Tryd.func123, Tryd.ntmps123
  go_wp2_with fail
  go_quiet (first | (go_at_call 64; exact ht _))
  go_wp2
  exact bodyPost_ret (v := .tuple #[.slice aa n0 ca, .slice a2 n2 c2]) (by simp [results, Tryd.results123, go_sem]) rfl ⟨below_drewN (Below.refl _ _) nq, _, _, rfl, reads_drewN p1 nq, reads_drewN p2 nq⟩
end Go.Proofs.YtlghjfpkfdnfoaaDoor

/- num.takeTimes -/
namespace Go.Proofs.YtlghjfpkfdnfoaaDoor
open Go Go.RowKit Go.Shelf
attribute [local go_sem] Oper.semAt_some

theorem Chg.narrow {S : Nat → Prop} {A W : World} (h : Chg (fun k => S k ∨ A.heap.size ≤ k) A W) : Chg S A W := ⟨h.os, h.tape, h.output, h.size, fun k hk hs => h.block k hk (by rintro (e | e); exact hs e; omega)⟩
theorem Chg.step {S S2 : Nat → Prop} {A W W' : World} (h : Chg S A W) (k : Chg S2 W W') (hs : ∀ b, S2 b → S b ∨ A.heap.size ≤ b) : Chg S A W' := Chg.narrow ((h.mono fun _ e => .inl e).trans (k.mono hs))
theorem ownFrom_chg {β : Type} {B : Nat} {S : Nat → Prop} {w : World} (hB : w.heap.size ≤ B) : OwnFrom B (fun (_ : β) W => Chg S w W) := fun _ _ _ _ h hg hr => Chg.grown h hg (fun k e => .inr (Nat.le_trans hB (hr k e).1))
theorem index_win (b o n cap i : Nat) (hi : i < n) (ki : IntKind) (W : World) : (Instr.indexAt 22 (.slice (some ⟨b, o, none⟩) n cap) (.int ki (i : Int))).run Tryd.prog W = .ok (.pointer (some ⟨b, o + i, none⟩)) W := index_lookAt _ _ und_limbs size_limb _ _ _ _ hi ⟨_, _, rfl⟩ _ _
theorem enc32_set (xs : List Nat) (i x : Nat) : enc32 (xs.set i x) = (enc32 xs).set i (.int .u32 (x : Int)) := by simp [enc32, List.map_set]
theorem enc32_at {xs : List Nat} {i : Nat} (h : i < xs.length) : (enc32 xs)[i]? = some (.int .u32 ((xs[i]?.getD 0 : Nat) : Int)) := by simp [enc32, List.getElem?_eq_getElem h]

set_option maxHeartbeats 2000000 in
set_option maxRecDepth 100000 in
theorem takeTimes_any (vb : Value) (bs L : List Nat) (g n o B0 cap : Nat) (w : World) (hrow : RowAt w B0 72 (enc32 L)) (hL : Limbs L) (hb : Reads .u32 w vb bs) (hlb : Limbs bs) (hn : o + n ≤ L.length) (hn2 : n ≤ 200000)
    (hbB : ∀ a m c, vb = .slice (some a) m c → bs ≠ [] → a.block < B0) (hg : g < B32) :
    Calls Tryd.prog 128 #[.slice (some ⟨B0, o, none⟩) n cap, vb, .int .u32 (g : Int)] w fun e w' => Chg (fun k => k = B0) w w' ∧ RowAt w' B0 72 (enc32 (ttFold o g L (limbPairs bs n)).1) ∧ e = .returned (.bool (decide (0 < (ttFold o g L (limbPairs bs n)).2.2))) := by
  have hB0 := hrow.lt
  obtain ⟨ab, cb, rfl, hcb, hmb⟩ := hb.form
  unfold maxLen at hmb
  have hg2 := hg
  unfold B32 at hg2
  refine (callsIn_wide (n := 9)).1 ?_
  refine callsIn_of_wp_marks Tryd.func128 rfl trivial ?_ rfl
  simp only [Tryd.ntmps128, List.size_toArray, List.length_cons, List.length_nil, Nat.reduceAdd, Nat.reduceSub, Array.replicate_succ, Array.replicate_zero, List.push_toArray, List.append_toArray, List.nil_append, List.cons_append]
  gi_wp2_with (refine ⟨trivial, ?_⟩; gi_at_call 99; refine (callsIn_wide.2 (limbs_any _ _ _ ⟨_, _, _, rfl⟩)).mono ?_; rintro e w' ⟨rfl, rfl⟩)
  have b0 : Below w.heap.size w w := Below.refl _ _
  have b6 := (((((b0.alloc (Nat.le_refl _) (.cells #[.slice (some ⟨B0, o, none⟩) n cap] 22)).alloc (by simp) (.cells #[.int .u32 (g : Int)] 72)).alloc (by simp; omega) (.cells #[.int .u64 0] 79)).alloc (by simp; omega) (.cells #[.int .u64 0] 79)).alloc (by simp; omega) (.cells #[.slice ab bs.length cb] 22)).alloc (by simp; omega) (.cells #[.int .i64 (n : Int)] 3)
  refine range_limbs 9 10 (w.heap.size + 5) (w.heap.size + 4) B0 n (.slice ab bs.length cb) bs (by exact rfl) hlb (by omega) (by simp) (by simp) (by simp; omega) ?m1 ?m2 (hb.below b6) hbB
    (fun pre W => RowAt W B0 72 (enc32 (ttFold o g L (pre.map (·.1))).1) ∧ Boxed W (w.heap.size + 2) 79 (.int .u64 ((ttFold o g L (pre.map (·.1))).2.1 : Int)) ∧ Boxed W (w.heap.size + 3) 79 (.int .u64 ((ttFold o g L (pre.map (·.1))).2.2 : Int)) ∧
      Boxed W (w.heap.size + 4) 22 (.slice ab bs.length cb) ∧ Boxed W w.heap.size 22 (.slice (some ⟨B0, o, none⟩) n cap) ∧ Boxed W (w.heap.size + 1) 72 (.int .u32 (g : Int)) ∧ Chg (fun k => k = B0) w W)
    (fun _ _ _ => False)
    ((ownFrom_rowAt _ _ _).and ((ownFrom_boxed _ _ _).and ((ownFrom_boxed _ _ _).and ((ownFrom_boxed _ _ _).and ((ownFrom_boxed _ _ _).and ((ownFrom_boxed _ _ _).and (ownFrom_chg ?mB)))))))
    (fun _ _ _ _ _ h _ _ => h.elim) ?start ?assign ?body ?done ?stop
  case mB => simp; omega
  case m1 => go_simp
  case m2 => go_simp
  case start =>
    refine ⟨?_, ?_, ?_, ?_, ?_, ?_, ?_⟩
    · exact (b6.block B0 hB0).trans hrow
    · exact Boxed.at ((((Boxed.new _ _ _).alloc _).alloc _).alloc _) (by simp)
    · exact Boxed.at (((Boxed.new _ _ _).alloc _).alloc _) (by simp)
    · exact Boxed.at ((Boxed.new _ _ _).alloc _) (by simp)
    · exact (((((Boxed.new _ _ _).alloc _).alloc _).alloc _).alloc _).alloc _
    · exact Boxed.at (((((Boxed.new _ _ _).alloc _).alloc _).alloc _).alloc _) (by simp)
    · exact (Chg.ofBelow b6).mono (fun k hk => hk) |> fun h => Chg.narrow (h.mono fun k hk => .inr hk)
  case assign =>
    intro l x W K hK
    gi_wp2
    exact hK
  case body =>
    rintro l pre x W ⟨rv, bc, bd, bs1, bl, bg, bw⟩ hlt
    have hwB := bw.size
    obtain ⟨⟨i, y⟩, hi1, hi2⟩ := x
    have hps : ∀ p ∈ pre.map (·.1), p.2 < B32 := fun p hp => by
      obtain ⟨q, _, rfl⟩ := List.mem_map.1 hp
      exact q.2.2
    obtain ⟨hr1, hc1, hd1⟩ := ttFold_limbs (o := o) hg hL (pre.map (·.1)) hps
    have hlen := ttFold_length o g L (pre.map (·.1))
    have hnext := ttFold_snoc o g L (pre.map (·.1)) (i, y)
    have hmap : (pre ++ [(⟨(i, y), hi1, hi2⟩ : IdxLimb n)]).map (·.1) = pre.map (·.1) ++ [(i, y)] := by simp
    generalize hst : ttFold o g L (pre.map (·.1)) = st at *
    obtain ⟨r, c, d⟩ := st
    simp only [ttStep] at hnext
    dsimp only at *
    clear hst hps
    obtain ⟨x, hx⟩ : ∃ x, r[o + i]?.getD 0 = x := ⟨_, rfl⟩
    have hxB := limb_getD hr1 (o + i)
    rw [hx] at hnext hxB
    have hcell : W.cell? ⟨B0, o + i, none⟩ = some (.int .u32 (x : Int)) := by
      rw [rv.cell, enc32_at (by omega), hx]
    have hfz := rv.frozen (o + i)
    obtain ⟨P, hP⟩ : ∃ P, g * y = P := ⟨_, rfl⟩
    obtain ⟨T, hT⟩ : ∃ T, c + P = T := ⟨_, rfl⟩
    have hTb : T < B32 * B32 := by rw [← hT, ← hP]; exact mul_limb_lt hc1 hg hi2
    rw [hP, hT] at hnext
    have hmul : IntKind.u64.wrap ((g : Int) * (y : Int)) = (P : Int) := by
      rw [← Int.natCast_mul, hP, IntKind.wrap_u64]; unfold B32 at *; omega
    have hs1 : IntKind.u64.wrap ((c : Int) + (P : Int)) = (T : Int) := by rw [IntKind.wrap_u64]; unfold B32 at *; omega
    clear hP hT hx
    obtain ⟨cl, hcl⟩ : ∃ cl, T % B32 = cl := ⟨_, rfl⟩
    obtain ⟨ch, hch⟩ : ∃ ch, T / B32 = ch := ⟨_, rfl⟩
    have hand : bits BinOp.and IntKind.u64 (T : Int) 4294967295 = (cl : Int) := by
      rw [show (4294967295 : Int) = ((2 ^ 32 - 1 : Nat) : Int) by decide, bits_and_u64_nat _ _ (by unfold B32 at *; omega) (by omega), Nat.and_two_pow_sub_one_eq_mod, ← hcl]; rfl
    have hdv : (T : Int) / 4294967296 = (ch : Int) := by rw [← hch]; unfold B32; omega
    have hclb : cl < 4294967296 := by rw [← hcl]; exact Nat.mod_lt _ (by decide)
    have hchb : ch < 4294967296 := by rw [← hch]; unfold B32 at *; omega
    rw [hcl, hch] at hnext
    clear hcl hch
    unfold B32 at hi2 hxB hc1 hTb
    obtain ⟨U, hU⟩ : ∃ U, IntKind.u64.wrap (IntKind.u64.wrap (IntKind.u64.wrap (x : Int) - IntKind.u64.wrap (cl : Int)) - (d : Int)) = U := ⟨_, rfl⟩
    obtain ⟨hw1, hw2⟩ := minus_word hxB hclb hd1 hU
    have hwx : IntKind.u64.wrap (x : Int) = (x : Int) := by rw [IntKind.wrap_u64]; omega
    have hwc : IntKind.u64.wrap (cl : Int) = (cl : Int) := by rw [IntKind.wrap_u64]; omega
    have hwg : IntKind.u64.wrap (g : Int) = (g : Int) := by rw [IntKind.wrap_u64]; omega
    have hwy : IntKind.u64.wrap (y : Int) = (y : Int) := by rw [IntKind.wrap_u64]; omega
    rw [hwx, hwc] at hU
    have HN := Lib.hid hnext
    have HM := Lib.hid hmap
    have HL := Lib.hid hlen
    have HW := Lib.hid (And.intro hw1 hw2)
    clear hnext hmap hlen hw1 hw2
    have hix := index_win B0 o n cap i hi1 .i64
    have hbc := bc.cell
    have hfc := bc.frozen
    have hbd := bd.cell
    have hfd := bd.frozen
    have hbl := bl.cell
    have hbg := bg.cell
    simp only [boundFrame]
    gi_wp2_with fail
    refine region_tail (.inr ⟨_, rfl⟩) 10 (by kernel_rfl) (by kernel_rfl) ?_
    simp only [List.take_succ_cons, List.take_zero, List.drop_succ_cons, List.drop_zero]
    repeat still_step
    refine wpStill_nil ?_
    change wpListIn _ _ _ _ _ _ _ (W.setCell _ _).drew
    gi_wp2_with fail
    have hF : Chg (fun k => k = B0 ∨ k = w.heap.size + 2 ∨ k = w.heap.size + 3) W _ := (((((Chg.refl _ W).setCell (p := ⟨w.heap.size + 2, 0, none⟩) (.inl (.inr (.inl rfl))) (.int .u64 (T : Int))).drew).setCell (p := ⟨B0, o + i, none⟩) (.inl (.inl rfl)) (.int .u32 (IntKind.u32.wrap U))).setCell (p := ⟨w.heap.size + 3, 0, none⟩) (.inl (.inr (.inr rfl))) (.int .u64 (U / 9223372036854775808))).setCell (p := ⟨w.heap.size + 2, 0, none⟩) (.inl (.inr (.inl rfl))) (.int .u64 (ch : Int))
    have hbel := hF.below (B := B0) (by rintro k (e | e | e) <;> omega) (by omega)
    have f4 := hF.boxed bs1 (by omega)
    refine ⟨hF.keepsFrom _ ?_, Kp0.boxed hbel bs1 f4, ?_, ?_, ?_, f4, hF.boxed bl (by omega), hF.boxed bg (by omega), bw.step hF (by rintro b (e | e | e) <;> omega)⟩
    · rintro k (rfl | rfl | rfl)
      · exact rv.isCells
      · exact Boxed.isCells bc
      · exact Boxed.isCells bd
    · rw [HM.out, HN.out, enc32_set, HW.out.1]
      exact RowAt.other (RowAt.other (RowAt.set (RowAt.drew (rv.other (by simp; omega) _)) (o + i) _) (by simp; omega) _) (by simp; omega) _
    · rw [HM.out, HN.out]
      exact Boxed.set _ (Boxed.otherAt (Boxed.otherAt (Boxed.drew (Boxed.set _ bc)) (by simp; omega) _) (by simp) _)
    · rw [HM.out, HN.out, HW.out.2]
      exact Boxed.otherAt (Boxed.set _ (Boxed.otherAt (Boxed.drew (Boxed.otherAt bd (by simp) _)) (by simp; omega) _)) (by simp) _
  case done =>
    rintro D ys W hD hys ⟨rv, bc, bd, bs1, bl, bg, bw⟩ hK
    rw [hys] at rv bd
    have hlim := (ttFold_limbs (o := o) hg hL (limbPairs bs n) (fun p hp => by
      obtain ⟨q, _, rfl⟩ := List.mem_map.1 (hys ▸ hp)
      exact q.2.2)).2.2
    clear hys bc
    obtain ⟨st, hst⟩ : ∃ st, ttFold o g L (limbPairs bs n) = st := ⟨_, rfl⟩
    rw [hst] at rv bd hlim
    have HS := Lib.hid hst
    clear hst
    obtain ⟨r, c, d⟩ := st
    dsimp only at *
    have hbd := bd.cell
    gi_wp2_with fail
    refine ⟨by simp, .inl ⟨_, _, rfl, run_takeDeferred hK, ?_⟩⟩
    have hD2 : w.heap.size + 6 ≤ D := by simpa using hD
    have hbk := belowK_b (w := w) (Nat.le_refl _) W D _ (.deferred none) (by omega) hK rfl rfl
    refine ⟨_, results_tmp rfl _ _ _, bw.step (Chg.ofBelow hbk) (fun b hb => .inr hb), ?_, ?_⟩
    · rw [HS.out]
      exact (World.putObj_heap_other (by omega)).trans rv
    · rw [HS.out]
      simp
  case stop =>
    rintro D c pre W _ _ h _
    exact h.elim

end Go.Proofs.YtlghjfpkfdnfoaaDoor

/- num.addAt -/
namespace Go.Proofs.YtlghjfpkfdnfoaaDoor
open Go Go.RowKit Go.Shelf
attribute [local go_sem] Oper.semAt_some

/-- a round has returned: nothing is left to add -/
def AdStop (w : World) (O B0 : Nat) (L : List Nat) (m : Nat) (c : Code) (ps : List (Nat × Nat)) (W : World) : Prop :=
  c = .ret ∧ (∃ pre' p, ps = pre' ++ [p] ∧ m ≤ p.1 ∧ (adFold O L pre').2 = 0 ∧ RowAt W B0 72 (enc32 (adFold O L pre').1)) ∧ Chg (fun k => k = B0) w W
theorem adStop_own (B : Nat) {w : World} (hB : w.heap.size ≤ B) (O B0 : Nat) (L : List Nat) (m : Nat) (c : Code) {α : Type} (f : α → List (Nat × Nat)) : OwnFrom B (fun s W => AdStop w O B0 L m c (f s) W) :=
  (ownFrom_pure _ _).and ((ownFrom_ex fun _ => ownFrom_ex fun _ => (ownFrom_pure _ _).and ((ownFrom_pure _ _).and ((ownFrom_pure _ _).and (ownFrom_rowAt _ _ _)))).and (ownFrom_chg hB))

set_option maxHeartbeats 2000000 in
set_option maxRecDepth 100000 in
theorem addAt_any (vb : Value) (bs L : List Nat) (la at' n o B0 cap : Nat) (w : World) (hrow : RowAt w B0 72 (enc32 L)) (hL : Limbs L) (hb : Reads .u32 w vb bs) (hlb : Limbs bs) (hla : la = at' + n) (hn : o + la ≤ L.length) (hn2 : la ≤ 200000)
    (hbB : ∀ a m c, vb = .slice (some a) m c → bs ≠ [] → a.block < B0) :
    Calls Tryd.prog 124 #[.slice (some ⟨B0, o, none⟩) la cap, vb, .int .i64 (at' : Int)] w fun e w' => Chg (fun k => k = B0) w w' ∧ RowAt w' B0 72 (enc32 (adFold (o + at') L (limbPairs bs n)).1) ∧ ∃ v, e = .returned v := by
  have hB0 := hrow.lt
  obtain ⟨ab, cb, rfl, hcb, hmb⟩ := hb.form
  unfold maxLen at hmb
  have hsub : (la : Int) - (at' : Int) = (n : Int) := by omega
  have hla1 : at' + n ≤ la := by omega
  clear hla
  refine (callsIn_wide (n := 9)).1 ?_
  refine callsIn_of_wp_marks Tryd.func124 rfl trivial ?_ rfl
  simp only [Tryd.ntmps124, List.size_toArray, List.length_cons, List.length_nil, Nat.reduceAdd, Nat.reduceSub, Array.replicate_succ, Array.replicate_zero, List.push_toArray, List.append_toArray, List.nil_append, List.cons_append]
  gi_wp2_with (refine ⟨trivial, ?_⟩; gi_at_call 99; refine (callsIn_wide.2 (limbs_any _ _ _ ⟨_, _, _, rfl⟩)).mono ?_; rintro e w' ⟨rfl, rfl⟩)
  have b0 : Below w.heap.size w w := Below.refl _ _
  have b6 := (((((b0.alloc (Nat.le_refl _) (.cells #[.slice (some ⟨B0, o, none⟩) la cap] 22)).alloc (by simp) (.cells #[.slice ab bs.length cb] 22)).alloc (by simp; omega) (.cells #[.int .i64 (at' : Int)] 3)).alloc (by simp; omega) (.cells #[.int .u64 0] 79)).alloc (by simp; omega) (.cells #[.slice ab bs.length cb] 22)).alloc (by simp; omega) (.cells #[.int .i64 (n : Int)] 3)
  refine range_limbs 7 8 (w.heap.size + 5) (w.heap.size + 4) B0 n (.slice ab bs.length cb) bs (by exact rfl) hlb (by omega) (by simp) (by simp) (by simp; omega) ?m1 ?m2 (hb.below b6) hbB
    (fun pre W => RowAt W B0 72 (enc32 (adFold (o + at') L (pre.map (·.1))).1) ∧ Boxed W (w.heap.size + 3) 79 (.int .u64 ((adFold (o + at') L (pre.map (·.1))).2 : Int)) ∧
      Boxed W (w.heap.size + 4) 22 (.slice ab bs.length cb) ∧ Boxed W w.heap.size 22 (.slice (some ⟨B0, o, none⟩) la cap) ∧ Boxed W (w.heap.size + 1) 22 (.slice ab bs.length cb) ∧ Boxed W (w.heap.size + 2) 3 (.int .i64 (at' : Int)) ∧ Chg (fun k => k = B0) w W)
    (fun c pre W => AdStop w (o + at') B0 L bs.length c (pre.map (·.1)) W)
    ((ownFrom_rowAt _ _ _).and ((ownFrom_boxed _ _ _).and ((ownFrom_boxed _ _ _).and ((ownFrom_boxed _ _ _).and ((ownFrom_boxed _ _ _).and ((ownFrom_boxed _ _ _).and (ownFrom_chg ?mB)))))))
    (fun c => adStop_own _ ?mB2 _ _ _ _ _ _) ?start ?assign ?body ?done ?stop
  case mB => simp; omega
  case mB2 => simp; omega
  case m1 => go_simp
  case m2 => go_simp
  case start =>
    refine ⟨?_, ?_, ?_, ?_, ?_, ?_, ?_⟩
    · exact (b6.block B0 hB0).trans hrow
    · exact Boxed.at (((Boxed.new _ _ _).alloc _).alloc _) (by simp)
    · exact Boxed.at ((Boxed.new _ _ _).alloc _) (by simp)
    · exact (((((Boxed.new _ _ _).alloc _).alloc _).alloc _).alloc _).alloc _
    · exact Boxed.at (((((Boxed.new _ _ _).alloc _).alloc _).alloc _).alloc _) (by simp)
    · exact Boxed.at ((((Boxed.new _ _ _).alloc _).alloc _).alloc _) (by simp)
    · exact (Chg.ofBelow b6).mono (fun k hk => hk) |> fun h => Chg.narrow (h.mono fun k hk => .inr hk)
  case assign =>
    intro l x W K hK
    gi_wp2
    exact hK
  case body =>
    rintro l pre x W ⟨rv, bc, bs1, bl, bb, bt, bw⟩ hlt
    have hwB := bw.size
    obtain ⟨⟨i, y⟩, hi1, hi2⟩ := x
    have hps : ∀ p ∈ pre.map (·.1), p.2 < B32 := fun p hp => by
      obtain ⟨q, _, rfl⟩ := List.mem_map.1 hp
      exact q.2.2
    obtain ⟨hr1, hc1⟩ := adFold_limbs (o := o + at') hL (pre.map (·.1)) hps
    have hlen := adFold_length (o + at') L (pre.map (·.1))
    have hnext := adFold_snoc (o + at') L (pre.map (·.1)) (i, y)
    have hmap : (pre ++ [(⟨(i, y), hi1, hi2⟩ : IdxLimb n)]).map (·.1) = pre.map (·.1) ++ [(i, y)] := by simp
    obtain ⟨st, hst⟩ : ∃ st, adFold (o + at') L (pre.map (·.1)) = st := ⟨_, rfl⟩
    rw [hst] at rv bc hr1 hc1 hlen hnext
    have HS := Lib.hid hst
    clear hst hps
    obtain ⟨r, c⟩ := st
    simp only [adStep] at hnext
    dsimp only at *
    have hbc := bc.cell
    have hfc := bc.frozen
    have hbl := bl.cell
    have hbb := bb.cell
    have hbt := bt.cell
    have HN := Lib.hid hnext
    have HM := Lib.hid hmap
    have HL := Lib.hid hlen
    clear hnext hmap hlen
    by_cases hret : bs.length ≤ i ∧ c = 0
    · obtain ⟨h1, rfl⟩ := hret
      simp only [boundFrame]
      gi_wp2_with fail
      refine ⟨KeepsFrom.refl _ _, rfl, ⟨pre.map (·.1), (i, y), HM.out, h1, ?_, ?_⟩, bw⟩
      · rw [HS.out]
      · rw [HS.out]; exact rv
    · have hgo : ¬ bs.length ≤ i ∨ (bs.length ≤ i ∧ ¬ (c : Int) = 0) := by omega
      have HN2 := HN.out
      have HLo := HL.out
      obtain ⟨x, hx⟩ : ∃ x, r[o + at' + i]?.getD 0 = x := ⟨_, rfl⟩
      have hxB := limb_getD hr1 (o + at' + i)
      rw [hx] at HN2 hxB
      have hcell : W.cell? ⟨B0, o + (at' + i), none⟩ = some (.int .u32 (x : Int)) := by
        rw [rv.cell, enc32_at (by omega), ← Nat.add_assoc, hx]
      have hfz := rv.frozen (o + (at' + i))
      have hix := index_win B0 o la cap (at' + i) (by omega) .i64
      rw [Int.natCast_add] at hix
      have hwi : IntKind.i64.wrap ((at' : Int) + (i : Int)) = (at' : Int) + (i : Int) := by rw [IntKind.wrap_i64]; omega
      obtain ⟨T, hT⟩ : ∃ T, c + (x + y) = T := ⟨_, rfl⟩
      rw [hT] at HN2
      unfold B32 at hi2 hxB
      have hs0 : IntKind.u64.wrap ((x : Int) + (y : Int)) = (x : Int) + (y : Int) := by rw [IntKind.wrap_u64]; omega
      have hs1 : IntKind.u64.wrap ((c : Int) + ((x : Int) + (y : Int))) = (T : Int) := by rw [IntKind.wrap_u64]; omega
      have hwx : IntKind.u64.wrap (x : Int) = (x : Int) := by rw [IntKind.wrap_u64]; omega
      have hwy : IntKind.u64.wrap (y : Int) = (y : Int) := by rw [IntKind.wrap_u64]; omega
      obtain ⟨cl, hcl⟩ : ∃ cl, T % B32 = cl := ⟨_, rfl⟩
      obtain ⟨ch, hch⟩ : ∃ ch, T / B32 = ch := ⟨_, rfl⟩
      have hwl : IntKind.u32.wrap (T : Int) = (cl : Int) := by rw [IntKind.wrap_u32', ← hcl]; unfold B32; omega
      have hdv : (T : Int) / 4294967296 = (ch : Int) := by rw [← hch]; unfold B32; omega
      rw [hcl, hch] at HN2
      clear hT hx hcl hch
      have HN3 := Lib.hid HN2
      clear HN2 HLo
      simp only [boundFrame]
      rcases hgo with hgo | ⟨hgo, hgo2⟩
      · gi_wp2_with fail
        refine region_tail (.inr ⟨_, rfl⟩) 12 (by kernel_rfl) (by kernel_rfl) ?_
        simp only [List.take_succ_cons, List.take_zero, List.drop_succ_cons, List.drop_zero]
        repeat still_step
        refine wpStill_nil ?_
        change wpListIn _ _ _ _ _ _ _ W.drew
        gi_wp2_with fail
        have hF : Chg (fun k => k = B0 ∨ k = w.heap.size + 3) W _ := ((((Chg.refl _ W).drew).setCell (p := ⟨w.heap.size + 3, 0, none⟩) (.inl (.inr rfl)) (.int .u64 (T : Int))).setCell (p := ⟨B0, o + (at' + i), none⟩) (.inl (.inl rfl)) (.int .u32 (cl : Int))).setCell (p := ⟨w.heap.size + 3, 0, none⟩) (.inl (.inr rfl)) (.int .u64 (ch : Int))
        have hbel := hF.below (B := B0) (by rintro k (e | e) <;> omega) (by omega)
        have f4 := hF.boxed bs1 (by omega)
        refine ⟨hF.keepsFrom _ ?_, Kp0.boxed hbel bs1 f4, ?_, ?_, f4, hF.boxed bl (by omega), hF.boxed bb (by omega), hF.boxed bt (by omega), bw.step hF (by rintro b (e | e) <;> omega)⟩
        · rintro k (rfl | rfl)
          · exact rv.isCells
          · exact Boxed.isCells bc
        · rw [HM.out, HN3.out, enc32_set, Nat.add_assoc o at' i]
          exact RowAt.other (a := ⟨w.heap.size + 3, 0, none⟩) (RowAt.set (RowAt.other (a := ⟨w.heap.size + 3, 0, none⟩) (RowAt.drew rv) (show B0 ≠ w.heap.size + 3 by omega) _) (o + (at' + i)) _) (show B0 ≠ w.heap.size + 3 by omega) _
        · rw [HM.out, HN3.out]
          exact Boxed.set _ (Boxed.otherAt (Boxed.set _ (Boxed.drew bc)) (by simp; omega) _)
      · gi_wp2_with fail
        refine region_tail (.inr ⟨_, rfl⟩) 12 (by kernel_rfl) (by kernel_rfl) ?_
        simp only [List.take_succ_cons, List.take_zero, List.drop_succ_cons, List.drop_zero]
        repeat still_step
        refine wpStill_nil ?_
        change wpListIn _ _ _ _ _ _ _ W.drew
        gi_wp2_with fail
        have hF : Chg (fun k => k = B0 ∨ k = w.heap.size + 3) W _ := ((((Chg.refl _ W).drew).setCell (p := ⟨w.heap.size + 3, 0, none⟩) (.inl (.inr rfl)) (.int .u64 (T : Int))).setCell (p := ⟨B0, o + (at' + i), none⟩) (.inl (.inl rfl)) (.int .u32 (cl : Int))).setCell (p := ⟨w.heap.size + 3, 0, none⟩) (.inl (.inr rfl)) (.int .u64 (ch : Int))
        have hbel := hF.below (B := B0) (by rintro k (e | e) <;> omega) (by omega)
        have f4 := hF.boxed bs1 (by omega)
        refine ⟨hF.keepsFrom _ ?_, Kp0.boxed hbel bs1 f4, ?_, ?_, f4, hF.boxed bl (by omega), hF.boxed bb (by omega), hF.boxed bt (by omega), bw.step hF (by rintro b (e | e) <;> omega)⟩
        · rintro k (rfl | rfl)
          · exact rv.isCells
          · exact Boxed.isCells bc
        · rw [HM.out, HN3.out, enc32_set, Nat.add_assoc o at' i]
          exact RowAt.other (a := ⟨w.heap.size + 3, 0, none⟩) (RowAt.set (RowAt.other (a := ⟨w.heap.size + 3, 0, none⟩) (RowAt.drew rv) (show B0 ≠ w.heap.size + 3 by omega) _) (o + (at' + i)) _) (show B0 ≠ w.heap.size + 3 by omega) _
        · rw [HM.out, HN3.out]
          exact Boxed.set _ (Boxed.otherAt (Boxed.set _ (Boxed.drew bc)) (by simp; omega) _)
  case done =>
    rintro D ys W hD hys ⟨rv, bc, bs1, bl, bb, bt, bw⟩ hK
    rw [hys] at rv
    clear hys bc
    gi_wp2_with fail
    refine ⟨by simp, .inl ⟨_, _, rfl, run_takeDeferred hK, ?_⟩⟩
    have hD2 : w.heap.size + 6 ≤ D := by simpa using hD
    have hbk := belowK_b (w := w) (Nat.le_refl _) W D _ (.deferred none) (by omega) hK rfl rfl
    refine ⟨_, results_none rfl _ _ _, bw.step (Chg.ofBelow hbk) (fun b hb => .inr hb), ?_, ⟨_, rfl⟩⟩
    exact (World.putObj_heap_other (by omega)).trans rv
  case stop =>
    rintro D c pre W hD hpf ⟨rfl, ⟨pre', p, hpp, hp1, hc0, rv⟩, bw⟩ hK
    gi_wp2
    refine ⟨by simp, .inl ⟨_, _, rfl, run_takeDeferred hK, ?_⟩⟩
    have hD2 : w.heap.size + 6 ≤ D := by simpa using hD
    have hbk := belowK_b (w := w) (Nat.le_refl _) W D _ (.deferred none) (by omega) hK rfl rfl
    refine ⟨_, results_none rfl _ _ _, bw.step (Chg.ofBelow hbk) (fun b hb => .inr hb), ?_, ⟨_, rfl⟩⟩
    have hle : (pre.map (·.1)).length ≤ n := by have := hpf.length_le; rwa [limbPairs_length] at this
    have hlen : (pre.map (·.1)).length = pre'.length + 1 := by rw [hpp]; simp
    have h1 := List.prefix_iff_eq_take.1 hpf
    have h2 := List.prefix_iff_eq_take.1 (limbPairs_prefix bs (show pre'.length + 1 ≤ n by omega))
    rw [limbPairs_length] at h2
    rw [hlen, ← h2, hpp, limbPairs_succ] at h1
    obtain ⟨e1, e2⟩ := List.append_inj' h1 rfl
    have e3 : p = (pre'.length, bs[pre'.length]?.getD 0) := by simpa using e2
    rw [e3] at hp1
    rw [e1] at hc0 rv
    have hr := adFold_rest (o := o + at') hL hp1 hc0 (fun p hp' => by
      obtain ⟨i, _, rfl⟩ := List.mem_map.1 hp'
      exact limb_getD hlb i) (n - pre'.length)
    rw [show pre'.length + (n - pre'.length) = n by omega] at hr
    rw [hr]
    exact (World.putObj_heap_other (by omega)).trans rv

end Go.Proofs.YtlghjfpkfdnfoaaDoor

/- num.guess -/
namespace Go.Proofs.YtlghjfpkfdnfoaaDoor
open Go Go.RowKit Go.Shelf
attribute [local go_sem] Oper.semAt_some

/-- between two rounds -/
def GuInv (t u g : Nat) (s10 s11 : Value) : Prop := ∃ limb rest : Nat, s10 = .int .u64 (limb : Int) ∧ s11 = .int .u64 (rest : Int) ∧ limb * t + rest = u ∧ g ≤ limb ∧ rest < 8589934592 ∧ limb ≤ 8589934592

set_option maxHeartbeats 4000000 in
set_option maxRecDepth 100000 in
theorem guess_any (vb : Value) (bs L : List Nat) (k n o B0 cap : Nat) (w : World) (hrow : RowAt w B0 72 (enc32 L)) (hL : Limbs L) (hb : Reads .u32 w vb bs) (hlb : Limbs bs) (hbl : bs.length = k + 2) (hn : n = k + 3) (hl : o + k + 3 ≤ L.length) (hkk : k ≤ 200000)
    (ht : 2147483648 ≤ bs[k + 1]?.getD 0) (hle : L[o + k + 2]?.getD 0 ≤ bs[k + 1]?.getD 0) :
    Calls Tryd.prog 127 #[.slice (some ⟨B0, o, none⟩) n cap, vb] w fun e w' => Below w.heap.size w w' ∧ e = .returned (.int .u32 (knuG L bs o k : Int)) := by
  obtain ⟨ab, cb, rfl, hcb, hmb⟩ := hb.form
  unfold maxLen at hmb
  have c1 := hb.cell (k + 1) (by omega)
  have c2 := hb.cell k (by omega)
  have i1 := fun W => hb.index und_limbs size_limb (P := Tryd.prog) (k + 1) .i64 W (by omega)
  have i2 := fun W => hb.index und_limbs size_limb (P := Tryd.prog) k .i64 W (by omega)
  have c3 : w.cell? ⟨B0, o + (k + 2), none⟩ = some (.int .u32 ((L[o + k + 2]?.getD 0 : Nat) : Int)) := by rw [hrow.cell, enc32_at (by omega), Nat.add_assoc]
  have c4 : w.cell? ⟨B0, o + (k + 1), none⟩ = some (.int .u32 ((L[o + k + 1]?.getD 0 : Nat) : Int)) := by rw [hrow.cell, enc32_at (by omega), Nat.add_assoc]
  have c5 : w.cell? ⟨B0, o + k, none⟩ = some (.int .u32 ((L[o + k]?.getD 0 : Nat) : Int)) := by rw [hrow.cell, enc32_at (by omega)]
  have i3 := index_win B0 o n cap (k + 2) (by omega) .i64
  have i4 := index_win B0 o n cap (k + 1) (by omega) .i64
  have i5 := index_win B0 o n cap k (by omega) .i64
  have b1 := limb_getD hlb (k + 1)
  have b2 := limb_getD hlb k
  have b3 := limb_getD hL (o + k + 2)
  have b4 := limb_getD hL (o + k + 1)
  have b5 := limb_getD hL (o + k)
  obtain ⟨g, hg⟩ : ∃ g, knuG L bs o k = g := ⟨_, rfl⟩
  rw [hg]
  unfold knuG at hg
  have hgB := guessN_lt (L[o + k]?.getD 0 + B32 * (L[o + k + 1]?.getD 0 + B32 * L[o + k + 2]?.getD 0)) (bs[k]?.getD 0 + B32 * bs[k + 1]?.getD 0)
  rw [hg] at hgB
  generalize bs[k + 1]?.getD 0 = t at *
  generalize bs[k]?.getD 0 = b at *
  generalize L[o + k + 2]?.getD 0 = l2 at *
  generalize L[o + k + 1]?.getD 0 = l1 at *
  generalize L[o + k]?.getD 0 = l0 at *
  obtain ⟨u, hu⟩ : ∃ u, l1 + B32 * l2 = u := ⟨_, rfl⟩
  rw [hu] at hg
  have hub : u < t * B32 + B32 := by
    rw [← hu, Nat.mul_comm t]
    have : B32 * l2 ≤ B32 * t := Nat.mul_le_mul_left _ hle
    omega
  have hV : 0 < b + B32 * t := by unfold B32; omega
  have huB : u < 18446744073709551616 := by rw [← hu]; unfold B32 at *; omega
  have e1 : ((k + 1 : Nat) : Int) = (bs.length : Int) - 1 := by omega
  have e2 : ((k : Nat) : Int) = (bs.length : Int) - 2 := by omega
  have e3 : ((k + 2 : Nat) : Int) = (bs.length : Int) := by omega
  rw [e1] at i1 i4
  rw [e2] at i2 i5
  rw [e3] at i3
  clear e1 e2 e3
  have hb2 : 2 ≤ bs.length := by omega
  have hor : bits BinOp.or IntKind.u64 ((l2 : Int) * 4294967296) (l1 : Int) = (u : Int) := by
    have q1 : (l2 : Int) * 4294967296 = ((l2 * 4294967296 : Nat) : Int) := by omega
    rw [q1, bits_or_u64_nat _ _ (by unfold B32 at *; omega) (by unfold B32 at *; omega), show l2 * 4294967296 = l2 <<< 32 by rw [Nat.shiftLeft_eq], ← Nat.shiftLeft_add_eq_or_of_lt (by unfold B32 at *; omega), Nat.shiftLeft_eq, ← hu]
    unfold B32; omega
  have hq0 : u / t * t + u % t = u := by rw [Nat.mul_comm]; exact Nat.div_add_mod u t
  have hql : g ≤ u / t := by
    rw [← hg]
    refine Nat.le_trans (Nat.min_le_left _ _) ?_
    refine (Nat.le_div_iff_mul_le (by omega)).2 ?_
    have h1 := Nat.div_mul_le_self (l0 + B32 * u) (b + B32 * t)
    generalize (l0 + B32 * u) / (b + B32 * t) = q at *
    rw [Nat.mul_add, Nat.mul_left_comm q] at h1
    have h2 : B32 * (q * t) < B32 * (u + 1) := by rw [Nat.mul_add]; omega
    have h3 := Nat.lt_of_mul_lt_mul_left h2
    omega
  have hqb : u / t ≤ 8589934592 := by
    have : u / t < B32 + B32 := by
      refine Nat.div_lt_of_lt_mul ?_
      rw [Nat.mul_add, Nat.mul_comm t] at *
      have : B32 * 1 ≤ B32 * t := Nat.mul_le_mul_left _ (by omega)
      omega
    unfold B32 at this; omega
  have hrb : u % t < 8589934592 := by
    have := Nat.mod_lt u (show 0 < t by omega)
    unfold B32 at b1; omega
  have hstart : GuInv t u g (.int .u64 ((u / t : Nat) : Int)) (.int .u64 ((u % t : Nat) : Int)) := ⟨_, _, rfl, rfl, hq0, hql, hrb, hqb⟩
  have HS := Lib.hid hstart
  have HG := Lib.hid (And.intro hg.symm (And.intro hub hV))
  have hwl2 : IntKind.u64.wrap ((l2 : Int) * 4294967296) = (l2 : Int) * 4294967296 := by rw [IntKind.wrap_u64]; unfold B32 at b3; omega
  have hdq : (u : Int) / (t : Int) = ((u / t : Nat) : Int) := rfl
  have hdr : (u : Int) % (t : Int) = ((u % t : Nat) : Int) := rfl
  have htz : ¬ t = 0 := by omega
  clear hq0 hql hstart hg hub hV hu hle hbl hn hL hlb hrow hl
  unfold B32 at b1 b2 b3 b4 b5 hgB
  generalize u / t = Q0 at *
  generalize u % t = R0 at *
  go_enter Tryd.func127, Tryd.ntmps127
  go_wp2_with fail
  go_quiet (fail)
  go_wp2_with fail
  go_quiet (fail)
  go_wp2_with fail
  go_quiet (fail)
  go_wp2_with fail
  go_loopw [10, 11] (fun s10 s11 wr => GuInv t u g s10 s11 ∧ Below w.heap.size w wr) (fun s10 _ _ => (intOf s10).toNat)
  case atStart => exact ⟨by rw [hdr]; exact HS.out, below_drewN (below_drewN (below_drewN (Below.refl _ _) _) _) _⟩
  case round =>
    obtain ⟨⟨limb, rest, rfl, rfl, hsum, hgl, hr2, hl2⟩, hbe⟩ := hrel
    clear c1 c2 c3 c4 c5 i1 i2 i3 i4 i5 hor hdq hdr hwl2
    obtain ⟨hg, hub, hV⟩ := HG.out
    have hstep : g ≤ limb - 1 ∧ 1 ≤ limb → GuInv t u g (.int .u64 ((limb - 1 : Nat) : Int)) (.int .u64 ((rest + t : Nat) : Int)) ∨ 4294967296 ≤ rest := fun h => by
      rcases Nat.lt_or_ge rest 4294967296 with hr | hr
      · refine .inl ⟨limb - 1, rest + t, rfl, rfl, ?_, h.1, by omega, by omega⟩
        rw [← hsum, Nat.sub_mul, Nat.one_mul]
        have : 1 * t ≤ limb * t := Nat.mul_le_mul_right _ h.2
        omega
      · exact .inr hr
    have hdec := fun h => guess_dec (t := t) (b := b) (l0 := l0) (limb := limb) (rest := rest) hg hsum hV hgl h
    have hend := fun h => guess_end (t := t) (b := b) (l0 := l0) (limb := limb) (rest := rest) hg hsum hV hgl hub b2 h
    have HH := Lib.hid (And.intro hstep (And.intro hdec hend))
    clear hstep hdec hend hsum hg hub hV
    obtain ⟨rt, hrt⟩ : ∃ rt, rest + t = rt := ⟨_, rfl⟩
    obtain ⟨lm, hlm⟩ : ∃ lm, limb - 1 = lm := ⟨_, rfl⟩
    have hw1 : IntKind.u64.wrap ((rest : Int) + (t : Int)) = (rt : Int) := by rw [IntKind.wrap_u64]; omega
    have HR := Lib.hid (And.intro hrt hlm)
    clear hrt
    rcases Nat.lt_or_ge rest 4294967296 with hr | hr
    · rcases Nat.lt_or_ge limb 4294967296 with hlb | hlb
      · obtain ⟨P, hP⟩ : ∃ P, limb * b = P := ⟨_, rfl⟩
        obtain ⟨Z, hZ⟩ : ∃ Z, rest * 4294967296 + l0 = Z := ⟨_, rfl⟩
        have hPb : P < 18446744073709551616 := by
          rw [← hP]
          have := Nat.mul_le_mul (show limb ≤ 4294967295 by omega) (show b ≤ 4294967295 by omega); omega
        have hmul : IntKind.u64.wrap ((limb : Int) * (b : Int)) = (P : Int) := by rw [← Int.natCast_mul, hP, IntKind.wrap_u64]; omega
        have hwr : IntKind.u64.wrap ((rest : Int) * 4294967296) = (rest : Int) * 4294967296 := by rw [IntKind.wrap_u64]; omega
        have hor2 : bits BinOp.or IntKind.u64 ((rest : Int) * 4294967296) (l0 : Int) = (Z : Int) := by
          have q1 : (rest : Int) * 4294967296 = ((rest * 4294967296 : Nat) : Int) := by omega
          rw [q1, bits_or_u64_nat _ _ (by omega) (by omega), show rest * 4294967296 = rest <<< 32 by rw [Nat.shiftLeft_eq], ← Nat.shiftLeft_add_eq_or_of_lt (by omega), Nat.shiftLeft_eq, ← hZ]
        have HP := Lib.hid (And.intro hP hZ)
        clear hP hZ
        rcases Nat.lt_or_ge Z P with hc | hc
        · have hd := HH.out.2.1 (.inr (by rw [HP.out.1, show rest * B32 + l0 = Z from HP.out.2]; exact hc))
          have hl1 := hd.2
          have hGI := Lib.hid ((HH.out.1 hd).resolve_right (by omega))
          have hw2 : IntKind.u64.wrap ((limb : Int) - 1) = (lm : Int) := by rw [IntKind.wrap_u64]; omega
          rw [HR.out.1, HR.out.2] at hGI
          have hm : lm < limb := by omega
          have d1 : (rest : Int) < 4294967296 := by omega
          have d2 : (limb : Int) < 4294967296 := by omega
          have d3 : (Z : Int) < (P : Int) := by omega
          clear hl1 hd b1 b2 b3 b4 b5 hgB huB hr2 hl2 hr hlb hPb hc ht hqb hrb
          go_wp2
          go_roundw
          case rel => exact ⟨hGI.out, hbe⟩
          case measure => simpa [intOf] using hm
        · have he := HH.out.2.2 (.inr ⟨hlb, by rw [HP.out.1, show rest * B32 + l0 = Z from HP.out.2]; exact hc⟩)
          subst he
          have d1 : (rest : Int) < 4294967296 := by omega
          have d2 : (limb : Int) < 4294967296 := by omega
          have d3 : (P : Int) ≤ (Z : Int) := by omega
          clear hlm hw1 HR b1 b2 b3 b4 b5 hgB huB hr2 hl2 hr hlb hPb hc ht hqb hrb
          iterate 47 (first | go_values | go_skip | go_guarded | go_step | go_upon)
          refine wp_cond_split rfl (fun h => ?_) (fun h => ?_)
          · exfalso; clear hmul hwr hor2; revert h; simp; omega
          clear hmul hwr hor2 h
          go_wp2
          go_ret
          exact ⟨hbe, rfl⟩
      · have hd := HH.out.2.1 (.inl hlb)
        have hl1 := hd.2
        have hGI := Lib.hid ((HH.out.1 hd).resolve_right (by omega))
        have hw2 : IntKind.u64.wrap ((limb : Int) - 1) = (lm : Int) := by rw [IntKind.wrap_u64]; omega
        rw [HR.out.1, HR.out.2] at hGI
        have hm : lm < limb := by omega
        have d1 : (rest : Int) < 4294967296 := by omega
        have d2 : (4294967296 : Int) ≤ (limb : Int) := by omega
        clear hl1 hd b1 b2 b3 b4 b5 hgB huB hr2 hl2 hr hlb ht hqb hrb
        go_wp2
        go_roundw
        case rel => exact ⟨hGI.out, hbe⟩
        case measure => simpa [intOf] using hm
    · have he := HH.out.2.2 (.inl hr)
      subst he
      have d1 : decide ((rest : Int) < 4294967296) = false := by simp; omega
      have hwg : IntKind.u32.wrap (limb : Int) = (limb : Int) := by rw [IntKind.wrap_u32']; omega
      clear b1 b2 b3 b4 b5 hgB huB hr2 hl2 hr ht hqb hrb
      go_wp2
      go_ret
      exact ⟨hbe, rfl⟩

end Go.Proofs.YtlghjfpkfdnfoaaDoor
