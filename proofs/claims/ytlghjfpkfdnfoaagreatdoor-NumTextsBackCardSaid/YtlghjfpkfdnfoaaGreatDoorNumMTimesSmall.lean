/- A region that draws its order and only reads, within the round of a loop over a function: one walk of the lexical order serves every order. -/
import Derived.Deep.QuietTactic
import Derived.BigQuiet
import Derived.OwnWalkIn
import Derived.TacticsInMore
import Derived.OrdersIn
import Derived.RangeFuncCalls
import Derived.StillTailTactics
import Derived.Test.YtlghjfpkfdnfoaaGreatDoorNumMLimbs
import Derived.Maps.AppendAt
import Derived.Handy
import Derived.Test.YtlghjfpkfdnfoaaGreatDoorShelf
import Derived.Laws.EntriesVeiled
import Derived.Deep.RegionHeld3
namespace Go.Proofs.YtlghjfpkfdnfoaaGreatDoor
open Go

/-- the wide fence, within a round or not -/
def AnyRound (F : Fence) : Prop := F = Fence.wide ∨ ∃ l, F = Fence.wide.inRound l
theorem AnyRound.fn {F : Fence} (h : AnyRound F) (f : FuncId) : F.fn f := by rcases h with rfl | ⟨l, rfl⟩ <;> trivial
theorem AnyRound.depth {F : Fence} (h : AnyRound F) : F.depth.isSome = true → False := by rcases h with rfl | ⟨l, rfl⟩ <;> simp [Fence.wide]
theorem AnyRound.calls {F : Fence} (h : AnyRound F) {n : Nat} {P : Program} {f : FuncId} {args : Array Value} {w : World} {R : Ending → World → Prop} (hc : Calls P f args w R) : CallsIn F n P f args w R := by
  rcases h with rfl | ⟨l, rfl⟩
  · exact callsIn_wide.2 hc
  · exact CallsIn.inRound l (callsIn_wide.2 hc)

theorem quiet_no_defer {P : Program} {C : World → Prop} {o : Oper} {a : Act} {v : Value} {w : World} (h : o.quietAt P a C w v) : ∀ c, o.op ≠ .defer c := by
  intro c hc
  unfold Oper.quietAt at h
  simp only [execOp, hc, Sem.run_bind] at h
  generalize (resolve a.eval c o.type).run P w = r at h
  cases r <;> simp [Result.andThen, Oper.quietUpon] at h

theorem wpIn_of_quiet {P : Program} {C : World → Prop} {F : Fence} (hF : AnyRound F) {n : Nat} {o : Oper} {a : Act} {K : Act → Prop} {K' : Act → World → Prop} {Q' : Exit → Act → World → Prop} {w : World} (hw : C w) (h : ∀ a w', C w' → K a → K' a w')
    (hh : o.quiet P a C K) : o.wpIn F n P a w K' Q' := by
  obtain ⟨v, h1, h2⟩ := hh
  have h3 := h1 w hw
  have hnd := quiet_no_defer h3
  refine ⟨fun _ _ => hF.fn _, ?_⟩
  rw [Oper.semAt_plain _ _ _ hnd]
  unfold Oper.quietAt at h3
  generalize (execOp a.eval o).run P w = r at *
  cases r with
  | ok x w' =>
    cases x <;> simp only [Oper.quietUpon] at h3 <;> simp only [Oper.uponIn]
    case value u =>
      obtain ⟨e1, e2⟩ := h3
      rw [e1, e2]
      exact h _ _ hw h2
    case skip =>
      obtain ⟨e1, e2⟩ := h3
      rw [e1, ← e2]
      exact h _ _ hw h2
    case enter f args =>
      obtain ⟨e1, hc⟩ := h3
      rw [e1]
      refine ⟨fun hd => (hF.depth hd).elim, ?_⟩
      exact hF.calls (hc.mono fun e w'' ⟨he, hw''⟩ => by subst he; exact h _ _ hw'' h2)
  | halt x w' => simp only [Oper.quietUpon] at h3

theorem wpOpIn_of_qOp {P : Program} {C : World → Prop} {F : Fence} (hF : AnyRound F) {n : Nat} {ops : Array Oper} {i : Nat} {a : Act} {K : Act → Prop} {K' : Act → World → Prop} {Q' : Exit → Act → World → Prop} {w : World} (hC : C w) (h : ∀ a w', C w' → K a → K' a w')
    (hh : qOp P ops C i K a) : wpOpIn F n P ops Q' i K' a w := by
  unfold qOp at hh
  unfold wpOpIn
  split
  · rename_i ho; simp only [ho] at hh; exact h _ _ hC hh
  · rename_i o ho
    simp only [ho] at hh
    split
    · rename_i hw; simp only [hw, if_true] at hh; exact wpIn_of_quiet hF hC h hh
    · rename_i hw; simp only [hw] at hh; exact ⟨fun _ _ => hF.fn _, h _ _ hC hh⟩

theorem wpAnyIn_of_quiet {P : Program} {md : Region.Mode} {C : World → Prop} {F : Fence} (hF : AnyRound F) {n : Nat} {ops : Array Oper} {Q : Act → Prop} {Q' : Exit → Act → World → Prop} (hQ : ∀ a w, C w → Q a → Q' .normal a w) : ∀ (fuel : Nat) (listed : Array Bool) (a : Act) (w : World), C w →
    wpAnyQ P md ops C Q fuel listed a → wpAnyIn F n P md ops Q' fuel listed a w
  | 0, _, _, _, hw, h => ⟨h.1, hQ _ _ hw h.2⟩
  | fuel + 1, _, _, _, hw, h => ⟨fun h0 => hQ _ _ hw (h.1 h0), fun i hi => wpOpIn_of_qOp hF hw (fun a' w' hw' => wpAnyIn_of_quiet hF hQ fuel _ a' w' hw') (h.2 i hi)⟩

/-- the law at a region that is written out, at the class 'w after some draws' -/
theorem region_round {P : Program} {F : Fence} (hF : AnyRound F) {n : Nat} {id : Nat} {Q : Exit → Act → World → Prop} {a : Act} {w : World} {ls : List Oper} (hm : P.follows .mixedOrders = true) (hB : Region.lexB .any ls.toArray = true)
    (h : wpQuiet P ls.toArray (fun w' => ∃ n, w' = w.drewN n) (fun a' => ∀ w', (∃ n, w' = w.drewN n) → Q .normal a' w') ls a) : (Code.region id ls.toArray true).wpIn F n P Q a w := by
  simp only [Region.lexB, Bool.and_eq_true] at hB
  refine wpIn_region_any hm (wpAnyIn_of_quiet hF (C := fun w' => ∃ n, w' = w.drewN n) (Q := fun a' => ∀ w', (∃ n, w' = w.drewN n) → Q .normal a' w') (fun _ w' hw' h => h w' hw') _ _ _ _ ⟨1, rfl⟩ ?_)
  have := wpAnyQ_lex (C := fun w' => ∃ n, w' = w.drewN n) (md := .any) hB.1 ls.toArray.toList 0 (Array.replicate ls.toArray.size false) a (by simp) (by simpa using hB.2) (by simpa using h)
  simpa using this


/-! ### the same where the last operations, in one order, may do whatever -/
theorem still_no_defer {P : Program} {o : Oper} {a : Act} {w : World} {K : Act → Prop} (h : o.still P a w K) : ∀ c, o.op ≠ .defer c := by
  intro c hc
  unfold Oper.still at h
  simp only [execOp, hc, Sem.run_bind] at h
  generalize (resolve a.eval c o.type).run P w = r at h
  cases r <;> simp [Result.andThen, Oper.stillUpon] at h

theorem wpIn_of_still {P : Program} {F : Fence} (hF : AnyRound F) {n : Nat} {o : Oper} {a : Act} {w : World} {K : Act → Prop} {K' : Act → World → Prop} {Q' : Exit → Act → World → Prop} (h : ∀ a, K a → K' a w) (hh : o.still P a w K) : o.wpIn F n P a w K' Q' := by
  have hnd := still_no_defer hh
  refine ⟨fun _ _ => hF.fn _, ?_⟩
  rw [Oper.semAt_plain _ _ _ hnd]
  unfold Oper.still at hh
  generalize (execOp a.eval o).run P w = r at *
  cases r with
  | ok x w' =>
    cases x <;> simp only [Oper.stillUpon] at hh <;> simp only [Oper.uponIn]
    case value u => obtain ⟨rfl, hn⟩ := hh; exact h _ hn
    case skip => obtain ⟨rfl, hn⟩ := hh; exact h _ hn
    case enter f args =>
      obtain ⟨rfl, v, hc, hn⟩ := hh
      refine ⟨fun hd => (hF.depth hd).elim, ?_⟩
      exact hF.calls (hc.mono fun e w'' ⟨he, hw⟩ => by subst he; subst hw; exact h _ hn)
  | halt x w' => simp only [Oper.stillUpon] at hh

theorem wpOpIn_of_stOp {P : Program} {F : Fence} (hF : AnyRound F) {n : Nat} {ops : Array Oper} {i : Nat} {a : Act} {w : World} {K : Act → Prop} {K' : Act → World → Prop} {Q' : Exit → Act → World → Prop} (h : ∀ a, K a → K' a w)
    (hh : stOp P ops w i K a) : wpOpIn F n P ops Q' i K' a w := by
  unfold stOp at hh
  unfold wpOpIn
  split
  · rename_i ho; simp only [ho] at hh; exact h _ hh
  · rename_i o ho
    simp only [ho] at hh
    split
    · rename_i hw; simp only [hw, if_true] at hh; exact wpIn_of_still hF h hh
    · rename_i hw; simp only [hw] at hh; exact ⟨fun _ _ => hF.fn _, h _ hh⟩

theorem wpAnyIn_of_head {P : Program} {md : Region.Mode} {F : Fence} (hF : AnyRound F) {k : Nat} {ops : Array Oper} {w : World} {n g : Nat} {L : Array Bool → Act → Prop} {Q' : Exit → Act → World → Prop}
    (hL : ∀ listed a, L listed a → wpAnyIn F k P md ops Q' g listed a w) :
    ∀ (f : Nat) (listed : Array Bool) (a : Act), wpAnyL P md ops w n L f listed a → wpAnyIn F k P md ops Q' (f + g) listed a w
  | 0, listed, a, h => by rw [Nat.zero_add]; exact hL _ _ h
  | f + 1, listed, a, h => by
    rw [show f + 1 + g = (f + g) + 1 by omega]
    exact ⟨fun h0 => absurd h0 h.1, fun i hi => wpOpIn_of_stOp hF (fun a' h' => wpAnyIn_of_head hF hL f _ a' h') (h.2 i hi).2⟩

theorem wpAnyIn_of_seq {P : Program} {md : Region.Mode} {F : Fence} (hF : AnyRound F) {k0 : Nat} {ops : Array Oper} {Q' : Exit → Act → World → Prop} : ∀ (l : List Oper) (k : Nat) (listed : Array Bool) (a : Act) (w : World), (∀ j, l[j]? = ops[k + j]?) →
    Region.seqB md ops l.length k listed = true → wpListIn F k0 P ops Q' l a w → wpAnyIn F k0 P md ops Q' l.length listed a w
  | [], _, _, _, _, _, hB, h => ⟨by simpa [Region.seqB] using hB, h⟩
  | o :: l, k, listed, a, w, hl, hB, h => by
    have h0 : ops[k]? = some o := by simpa using (hl 0).symm
    simp only [List.length_cons, Region.seqB, Bool.and_eq_true, decide_eq_true_eq] at hB
    refine ⟨fun h1 => (by rw [hB.1] at h1; cases h1), fun i hi => ?_⟩
    rw [hB.1] at hi
    have hik : i = k := by simpa using hi
    subst hik
    have hw : wpOpIn F k0 P ops Q' i (wpListIn F k0 P ops Q' l) a w := by
      unfold wpOpIn
      simp only [h0]
      unfold wpListIn at h
      split at h
      · rename_i hq; rw [if_pos hq]; exact h
      · rename_i hq; rw [if_neg hq]; exact h
    exact wpOpIn_mono (fun a' w' h' => wpAnyIn_of_seq hF l (i + 1) _ a' w' (fun j => by have := hl (j + 1); simpa [Nat.add_assoc, Nat.add_comm 1 j] using this) hB.2 h') hw

/-- all operations but those from n on only read; these are carried out in their order -/
theorem region_tail {P : Program} {F : Fence} (hF : AnyRound F) {k : Nat} {id : Nat} {Q : Exit → Act → World → Prop} {a : Act} {w : World} {l : List Oper} (n : Nat) (hm : P.follows .mixedOrders = true) (hB : Region.lexTailB .any l.toArray n = true)
    (h : wpStill P l.toArray w.drew (fun a' => wpListIn F k P l.toArray Q (l.drop n) a' w.drew) (l.take n) a) : (Code.region id l.toArray true).wpIn F k P Q a w := by
  simp only [Region.lexTailB, Bool.and_eq_true, decide_eq_true_eq] at hB
  obtain ⟨⟨⟨⟨hsel, hn⟩, hs⟩, hc⟩, hlex⟩ := hB
  have hn' : n < l.length := by simpa using hn
  have htl : (l.take n).length = n := by simp; omega
  have hdl : (l.drop n).length = l.toArray.size - n := by simp
  have inv0 : HeadInv .any l.toArray n (Array.replicate l.toArray.size false) :=
    ⟨by simp, fun j oj _ hl => (by rw [getD_replicate_false] at hl; cases hl), fun t _ ht => getD_in (by simpa using ht) (getD_replicate_false _ _)⟩
  have H := wpAnyL_lex (md := .any) (g := l.toArray.size - n) hsel hs hc hn (l.take n) 0 _ a (fun j hj => by
    have hj' : j < n := by rw [htl] at hj; exact hj
    simp [hj']) (by simpa using htl) inv0 (by rw [htl]; exact hlex) h
  refine wpIn_region_any hm ?_
  have := wpAnyIn_of_head hF (Q' := Q) (g := l.toArray.size - n) (fun listed a' hL => by
    have := wpAnyIn_of_seq (md := .any) hF (Q' := Q) (l.drop n) n listed a' w.drew (fun j => by simp [List.getElem?_drop]) (by rw [hdl]; exact hL.1) hL.2
    rwa [hdl] at this) _ _ _ H
  rw [htl, show n + (l.toArray.size - n) = l.toArray.size by omega] at this
  exact this

end Go.Proofs.YtlghjfpkfdnfoaaGreatDoor

/- num.trim, num.plus -/
namespace Go.Proofs.YtlghjfpkfdnfoaaGreatDoor
open Go Go.RowKit Go.Shelf
attribute [local go_sem] Oper.semAt_some

set_option maxHeartbeats 400000 in
set_option maxRecDepth 100000 in
theorem trim_eq (a : Option Addr) (n cap : Nat) (xs : List Nat) (w : World) (h : Reads .u32 w (.slice a n cap) xs) :
    Calls Tryz.prog 57 #[.slice a n cap] w fun e w' => w = w' ∧ e = .returned (.slice a (trimmed xs).length cap) := by
  obtain ⟨a', cap', he, hc, hm⟩ := h.form
  cases he
  unfold maxLen at hm
  go_enter Tryz.func57, Tryz.ntmps57
  go_wp2
  go_loop [0] (fun s => ∃ k : Nat, k ≤ xs.length ∧ s = .slice a k cap ∧ trimmed (xs.take k) = trimmed xs) (fun s => match s with | .slice _ n _ => n | _ => 0)
  case atStart => exact ⟨xs.length, Nat.le_refl _, rfl, by simp⟩
  case round =>
    obtain ⟨k, hk, rfl, htr⟩ := hrel
    cases k with
    | zero =>
      go_wp2
      go_ret
      have hz : (trimmed xs).length = 0 := by rw [← htr]; simp [trimmed]
      exact ⟨rfl, by rw [hz]; rfl⟩
    | succ k =>
      have hix := (h.toLen (k+1) hk).index und_limbs size_limb k .i64
      have hcell := h.cell k (by omega)
      have hlt : k < (List.take (k+1) xs).length := by simp; omega
      have hlt2 : k < xs.length := by omega
      have hkc : k ≤ cap := by omega
      have hS := take_succ_getD xs k hlt2
      have HS := Lib.hid hS
      clear hS
      go_wp2
      · go_round
        case rel =>
          have h0 : (↑xs[k] == (0 : Int)) = true := by assumption
          have h1 : xs[k]?.getD 0 = 0 := by rw [List.getElem?_eq_getElem hlt2]; simpa using h0
          exact ⟨k, by omega, rfl, by rw [← htr, HS.out, h1, trimmed_snoc_zero]⟩
        case measure => simp
      · go_ret
        have h0 : (↑xs[k] == (0 : Int)) = false := by assumption
        have h1 : xs[k]?.getD 0 ≠ 0 := by rw [List.getElem?_eq_getElem hlt2]; simpa using h0
        have hz : (trimmed xs).length = k + 1 := by rw [← htr, HS.out, trimmed_snoc _ _ h1, ← HS.out]; simp; omega
        exact ⟨rfl, by rw [hz]; rfl⟩

theorem trim_reads {w : World} {a : Option Addr} {n cap : Nat} {xs : List Nat} (h : Reads .u32 w (.slice a n cap) xs) : Reads .u32 w (.slice a (trimmed xs).length cap) (trimmed xs) := by
  have := h.toLen (trimmed xs).length (trimmed_length xs)
  rwa [trimmed_take] at this

theorem trim_any (v : Value) (xs : List Nat) (w : World) (h : Reads .u32 w v xs) :
    Calls Tryz.prog 57 #[v] w fun e w' => w = w' ∧ ∃ v', e = .returned v' ∧ Reads .u32 w v' (trimmed xs) := by
  obtain ⟨a, cap, rfl, hc, hm⟩ := h.form
  exact (trim_eq a _ cap xs w h).mono fun e w' ⟨h1, h2⟩ => ⟨h1, _, h2, trim_reads h⟩

set_option maxHeartbeats 2000000 in
set_option maxRecDepth 100000 in
theorem plus_lt (va vb : Value) (xa xb : List Nat) (w : World) (ha : Reads .u32 w va xa) (hb : Reads .u32 w vb xb) (hla : Limbs xa) (hlb : Limbs xb) (na : xa.length ≤ 100000) (nb : xb.length ≤ 100000) (hl : xa.length < xb.length) :
    Calls Tryz.prog 79 #[va, vb] w fun e w' => Below w.heap.size w w' ∧ ∃ v cs, e = .returned v ∧ Reads .u32 w' v cs ∧ Canon cs ∧ val cs = val xa + val xb := by
  obtain ⟨aa, ca, rfl, hca, hma⟩ := ha.form
  obtain ⟨ab, cb, rfl, hcb, hmb⟩ := hb.form
  unfold maxLen at hma hmb
  obtain ⟨inf, hi, hzz⟩ := Option.map_eq_some_iff.1 info_limb
  simp only [Prod.mk.injEq] at hzz
  obtain ⟨hz0, hz1, hz2⟩ := hzz
  refine (callsIn_wide (n := 9)).1 ?_
  refine callsIn_of_wp_marks Tryz.func79 rfl trivial ?_ rfl
  simp only [Tryz.ntmps79, List.size_toArray, List.length_cons, List.length_nil, Nat.reduceAdd, Nat.reduceSub, Array.replicate_succ, Array.replicate_zero, List.push_toArray, List.append_toArray, List.nil_append, List.cons_append]
  have hmk : ∀ w, (Instr.makeSlice 22 (.int .i64 0) (.int .i64 ((xb.length : Int) + 1))).run Tryz.prog w = .ok (.slice (some ⟨w.heap.size, 0, none⟩) 0 (xb.length + 1)) (w.alloc (.cells (zeros (xb.length + 1)) 52)) := fun w => by
    simpa using make_limbs 0 ((xb.length : Int) + 1) (by omega) (by omega) (by omega) w
  gi_wp2_with (refine ⟨trivial, ?_⟩; gi_at_call 90; refine (callsIn_wide.2 (limbs_any _ _ _ ⟨_, _, _, rfl⟩)).mono ?_; rintro e w' ⟨rfl, rfl⟩)
  clear hmk
  have r0 := make_limbs_own (w.alloc (.cells #[(Value.slice ab xb.length cb)] 22)) w.heap.size (xb.length + 1) (by simp) (by omega)
  have r1 := (((r0.alloc (.cells #[.slice (some ⟨w.heap.size + 1, 0, none⟩) 0 (xb.length + 1)] 22)).alloc (.cells #[.int .u64 0] 77)).alloc (.cells #[(Value.slice aa xa.length ca)] 22)).alloc (.cells #[.int .i64 (xb.length : Int)] 3)
  rw [show (w.alloc (.cells #[(Value.slice ab xb.length cb)] 22)).heap.size = w.heap.size + 1 by simp] at r1
  clear r0
  have b0 : Below w.heap.size w w := Below.refl _ _
  refine range_limbs 7 8 (w.heap.size + 5) (w.heap.size + 4) w.heap.size xb.length (Value.slice aa xa.length ca) xa (by exact rfl) hla (by omega) (by simp) (by simp) (by simp; omega) ?m1 ?m2 (ha.below ?m3) ha.lt
    (fun pre W => ∃ v, Boxed W (w.heap.size + 2) 22 v ∧ W.ownsRow w.heap.size 52 1 v pre.length (enc32 (plusFold xb (pre.map (·.1))).1) ∧ Boxed W (w.heap.size + 3) 77 (.int .u64 ((plusFold xb (pre.map (·.1))).2 : Int)) ∧
      Boxed W (w.heap.size + 4) 22 (Value.slice aa xa.length ca) ∧ Boxed W w.heap.size 22 (Value.slice ab xb.length cb) ∧ Below w.heap.size w W)
    (fun _ _ _ => False)
    (ownFrom_ex fun v => (ownFrom_boxed _ _ _).and ((ownFrom_row _ _ _ _ _ _).and ((ownFrom_boxed _ _ _).and ((ownFrom_boxed _ _ _).and ((ownFrom_boxed _ _ _).and (ownFrom_below (Nat.le_refl _) ?mB))))))
    (fun _ _ _ _ _ h _ _ => h.elim) ?start ?assign ?body ?done ?stop
  case mB => simp; omega
  case m1 => go_simp
  case m2 => go_simp
  case m3 => exact (((((b0.alloc (Nat.le_refl _) _).alloc (by simp) _).alloc (by simp; omega) _).alloc (by simp; omega) _).alloc (by simp; omega) _).alloc (by simp; omega) _
  case start =>
    refine ⟨_, ?_, by simpa [plusFold, enc32] using r1, ?_, ?_, ?_, ?_⟩
    · exact Boxed.at ((((Boxed.new _ _ _).alloc _).alloc _).alloc _) (by simp)
    · exact Boxed.at (((Boxed.new _ _ _).alloc _).alloc _) (by simp)
    · exact Boxed.at ((Boxed.new _ _ _).alloc _) (by simp)
    · exact (((((Boxed.new _ _ _).alloc _).alloc _).alloc _).alloc _).alloc _
    · exact (((((b0.alloc (Nat.le_refl _) _).alloc (by simp) _).alloc (by simp; omega) _).alloc (by simp; omega) _).alloc (by simp; omega) _).alloc (by simp; omega) _
  case assign =>
    intro l x W K hK
    gi_wp2
    exact hK
  case body =>
    rintro l pre x W ⟨v, bv, rv, bc, bs, bl, bw⟩ hlt
    simp only [boundFrame]
    gi_wp2
    have hnr := bc.not_row (by decide) rv
    have hnv := bv.not_row (by decide) rv
    have hbB := bw.size
    obtain ⟨⟨i, y⟩, hi1, hi2⟩ := x
    have hps : ∀ p ∈ pre.map (·.1), p.2 < B32 := fun p hp => by
      obtain ⟨q, _, rfl⟩ := List.mem_map.1 hp
      exact q.2.2
    have hcle := (plusFold_limbs hlb (pre.map (·.1)) hps).2
    have hnext := plusFold_snoc xb (pre.map (·.1)) (i, y)
    have hmap : (pre ++ [(⟨(i, y), hi1, hi2⟩ : IdxLimb xb.length)]).map (·.1) = pre.map (·.1) ++ [(i, y)] := by simp
    have hd := limb_getD hlb i
    dsimp only at *
    have hcell := (hb.below bw).cell i hi1
    generalize hst : plusFold xb (pre.map (·.1)) = st at *
    obtain ⟨r, c⟩ := st
    simp only [plusStep] at hnext
    dsimp only at *
    generalize xb[i]?.getD 0 = d at *
    clear hst hps
    have HN := Lib.hid hnext
    have HM := Lib.hid hmap
    clear hnext hmap
    unfold B32 at hi2 hd
    have hix := hb.index und_limbs size_limb i .i64
    have hbc := bc.cell
    have hfc := bc.frozen
    have hbl := bl.cell
    have hbv := bv.cell
    have hfv := bv.frozen
    refine region_tail (.inr ⟨_, rfl⟩) 10 (by kernel_rfl) (by kernel_rfl) ?_
    simp only [List.take_succ_cons, List.take_zero, List.drop_succ_cons, List.drop_zero]
    repeat still_step
    refine wpStill_nil ?_
    change wpListIn _ _ _ _ _ _ _ W.drew
    have hrowA := (((rv.kept (grownBy_setCell' W (w.heap.size + 3) (.int .u64 ((c : Int) + ((d : Int) + (y : Int))))) (.inr hnr.symm)).alloc (.cells #[.int .u32 (((c : Int) + ((d : Int) + (y : Int))) % 4294967296)] 52))).drew
    have HR := Lib.hid hnr
    have HV := Lib.hid hnv
    clear hnr hnv
    gi_wp2_with (gi_at_builtin; refine wpListIn_append_own _ rfl _ _ 22 rfl w.heap.size 52 inf (.int .u32 0) 1 4 und_limbs hi hz0 hz1 hz2 rfl (by decide) _ _ _ rfl hrowA ⟨W.heap.size, 0, none⟩ 1 1 [.int .u32 (((c : Int) + ((d : Int) + (y : Int))) % 4294967296)] rfl rfl (cell_new_drew _ _ _ _ (by simp)) (by simp [Value.oneCell']) (by unfold maxLen; omega) (by omega) (by simp; omega) ?_; intro v' w1 hown' hgrow _; obtain ⟨g', cap', rfl⟩ := ownsRow_succ hown'; have bc1 := Boxed.kept (Boxed.drew (Boxed.alloc (bc.set (.int .u64 ((c : Int) + ((d : Int) + (y : Int))))) (.cells #[.int .u32 (((c : Int) + ((d : Int) + (y : Int))) % 4294967296)] 52))) hgrow HR.out; have bv1 := Boxed.kept (Boxed.drew (Boxed.alloc (bv.other (B' := w.heap.size + 3) (by omega) (.int .u64 ((c : Int) + ((d : Int) + (y : Int))))) (.cells #[.int .u32 (((c : Int) + ((d : Int) + (y : Int))) % 4294967296)] 52))) hgrow HV.out; have hcc1 := bc1.cell; have hcv1 := bv1.cell; have hfc1 := bc1.frozen; have hfv1 := bv1.frozen)
    have hS : Chg (fun k => k = w.heap.size + 2 ∨ k = w.heap.size + 3 ∨ v.ownBlock = some k) W w1 := (((((Chg.refl _ W).setCell (p := ⟨w.heap.size + 3, 0, none⟩) (.inl (.inr (.inl rfl))) _).alloc _).drew).grown hgrow (fun k e => .inl (.inr (.inr e))))
    have hF := (hS.setCell (p := ⟨w.heap.size + 2, 0, none⟩) (.inl (.inl rfl)) (Value.slice (some ⟨g', 0, none⟩) (pre.length + 1) cap')).setCell (p := ⟨w.heap.size + 3, 0, none⟩) (.inl (.inr (.inl rfl))) (.int .u64 (((c : Int) + ((d : Int) + (y : Int))) / 4294967296))
    have hge : ∀ k, (k = w.heap.size + 2 ∨ k = w.heap.size + 3 ∨ v.ownBlock = some k) → w.heap.size ≤ k := by
      rintro k (e | e | e)
      · omega
      · omega
      · exact (rv.lt k e).1
    have n4 : ¬ (w.heap.size + 4 = w.heap.size + 2 ∨ w.heap.size + 4 = w.heap.size + 3 ∨ v.ownBlock = some (w.heap.size + 4)) := by
      rintro (e | e | e)
      · omega
      · omega
      · exact bs.not_row (by decide) rv e.symm
    have n0 : ¬ (w.heap.size = w.heap.size + 2 ∨ w.heap.size = w.heap.size + 3 ∨ v.ownBlock = some w.heap.size) := by
      rintro (e | e | e)
      · omega
      · omega
      · exact bl.not_row (by decide) rv e.symm
    have hbel := hF.below hge hbB
    refine ⟨hF.keepsFrom _ ?_, Kp0.boxed hbel bs (hF.boxed bs n4), _, Boxed.other (bv1.set _) (by omega) _, ?_, ?_, hF.boxed bs n4, hF.boxed bl n0, bw.trans hbel⟩
    · rintro k (rfl | rfl | e)
      · exact Boxed.isCells bv
      · exact Boxed.isCells bc
      · exact ownsRow_isCells rv e
    · have hv1 : Value.int .u32 (((c + (d + y)) % B32 : Nat) : Int) = .int .u32 (((c : Int) + ((d : Int) + (y : Int))) % 4294967296) := congrArg _ (by unfold B32; omega)
      rw [HM.out, HN.out, enc32_snoc, hv1, List.length_append]
      have bv2 := bv1.set (Value.slice (some ⟨g', 0, none⟩) (pre.length + 1) cap')
      have r2 := hown'.kept (grownBy_setCell' w1 (w.heap.size + 2) (Value.slice (some ⟨g', 0, none⟩) (pre.length + 1) cap')) (.inr (bv1.not_row (by decide) hown').symm)
      exact r2.kept (grownBy_setCell' _ (w.heap.size + 3) _) (.inr (bc1.not_row (by decide) hown').symm)
    · have hv2 : Value.int .u64 (((c + (d + y)) / B32 : Nat) : Int) = .int .u64 (((c : Int) + ((d : Int) + (y : Int))) / 4294967296) := congrArg _ (by unfold B32; omega)
      rw [HM.out, HN.out, hv2]
      exact Boxed.set _ (bc1.other (by omega) _)
  case done =>
    rintro D ys W hD hys ⟨v, bv, rv, bc, bs, bl, bw⟩ hK
    have hlim := plusFold_limbs hlb (limbPairs xa xb.length) (fun p hp => by
      obtain ⟨q, _, rfl⟩ := List.mem_map.1 (hys ▸ hp)
      exact q.2.2)
    have hval := plusFold_val xb xa xb.length
    have hylen : ys.length = xb.length := by have := congrArg List.length hys; simpa [limbPairs_length] using this
    rw [hys] at rv bc
    rw [hylen] at rv
    clear hys hylen
    generalize plusFold xb (limbPairs xa xb.length) = st at *
    obtain ⟨r, c⟩ := st
    obtain ⟨hlr, hc1⟩ := hlim
    dsimp only at *
    have HV := Lib.hid hval
    clear hval
    have hrowA := rv.alloc (.cells #[.int .u32 (c : Int)] 52)
    have hbB := bw.size
    have hbc := bc.cell
    have hbv := bv.cell
    have hnD := ownsRow_notWalk rv hK rfl
    have HD := Lib.hid hnD
    clear hnD
    gi_wp2_with (first | (gi_at_builtin; go_loud (refine wpListIn_append_own _ rfl _ _ 22 rfl w.heap.size 52 inf (.int .u32 0) 1 4 und_limbs hi hz0 hz1 hz2 rfl (by decide) _ _ _ rfl hrowA ⟨W.heap.size, 0, none⟩ 1 1 [.int .u32 (c : Int)] rfl rfl (cell_new_plain _ _ _ _ rfl) (by simp [Value.oneCell']) (by unfold maxLen; omega) (by omega) (by simp; omega) ?_); intro v' w1 hown' hgrow _; have hrd : Reads .u32 w1 v' (r ++ [c]) := Reads.ofOwn (by simpa [enc32] using hown')) | (refine ⟨trivial, ?_⟩; gi_at_call 57; refine (callsIn_wide.2 (trim_any _ _ _ (by assumption))).mono ?_; rintro e w' ⟨rfl, v3, rfl, hr3⟩))
    have hg : (W.alloc (.cells #[.int .u32 (c : Int)] 52)).grownBy w1 v.ownBlock := hgrow
    have hK1 : w1.heap[D]? = some (.deferred (some [])) := (hg.block D (by have := (Array.getElem?_eq_some_iff.1 hK).1; simp; omega) HD.out).trans ((Below.heap_alloc W _ D (Array.getElem?_eq_some_iff.1 hK).1).trans hK)
    have hb1 : Below w.heap.size W w1 := ((Below.refl _ W).alloc hbB _).grown hg (by simp; omega) (fun k e => (rv.lt k e).1)
    have hlr2 : r.length = xb.length := by have := rv.1; simpa [enc32] using this
    refine ⟨by simp, .inl ⟨_, _, rfl, run_takeDeferred hK1, ?_⟩⟩
    refine ⟨_, results_tmp rfl _ _ _, (bw.trans hb1).trans (belowK_b (w := w) (Nat.le_refl _) w1 D _ _ (by simp at hD; omega) hK1 rfl rfl), v3, _, rfl, hr3.putObj hK1 rfl _, canon_trimmed (limbs_snoc hlr (by unfold B32; omega)), ?_⟩
    rw [val_trimmed, val_snoc, hlr2, HV.out, List.take_of_length_le (by omega), List.take_of_length_le (by omega)]
    omega
  case stop =>
    rintro D c pre W _ _ h _
    exact h.elim

set_option maxHeartbeats 2000000 in
set_option maxRecDepth 100000 in
theorem plus_ge (va vb : Value) (xa xb : List Nat) (w : World) (ha : Reads .u32 w va xa) (hb : Reads .u32 w vb xb) (hla : Limbs xa) (hlb : Limbs xb) (na : xa.length ≤ 100000) (_nb : xb.length ≤ 100000) (hl : ¬ xa.length < xb.length) :
    Calls Tryz.prog 79 #[va, vb] w fun e w' => Below w.heap.size w w' ∧ ∃ v cs, e = .returned v ∧ Reads .u32 w' v cs ∧ Canon cs ∧ val cs = val xa + val xb := by
  obtain ⟨aa, ca, rfl, hca, hma⟩ := ha.form
  obtain ⟨ab, cb, rfl, hcb, hmb⟩ := hb.form
  unfold maxLen at hma hmb
  obtain ⟨inf, hi, hzz⟩ := Option.map_eq_some_iff.1 info_limb
  simp only [Prod.mk.injEq] at hzz
  obtain ⟨hz0, hz1, hz2⟩ := hzz
  refine (callsIn_wide (n := 9)).1 ?_
  refine callsIn_of_wp_marks Tryz.func79 rfl trivial ?_ rfl
  simp only [Tryz.ntmps79, List.size_toArray, List.length_cons, List.length_nil, Nat.reduceAdd, Nat.reduceSub, Array.replicate_succ, Array.replicate_zero, List.push_toArray, List.append_toArray, List.nil_append, List.cons_append]
  have hmk : ∀ w, (Instr.makeSlice 22 (.int .i64 0) (.int .i64 ((xa.length : Int) + 1))).run Tryz.prog w = .ok (.slice (some ⟨w.heap.size, 0, none⟩) 0 (xa.length + 1)) (w.alloc (.cells (zeros (xa.length + 1)) 52)) := fun w => by
    simpa using make_limbs 0 ((xa.length : Int) + 1) (by omega) (by omega) (by omega) w
  gi_wp2_with (refine ⟨trivial, ?_⟩; gi_at_call 90; refine (callsIn_wide.2 (limbs_any _ _ _ ⟨_, _, _, rfl⟩)).mono ?_; rintro e w' ⟨rfl, rfl⟩)
  clear hmk
  have r0 := make_limbs_own (w.alloc (.cells #[(Value.slice aa xa.length ca)] 22)) w.heap.size (xa.length + 1) (by simp) (by omega)
  have r1 := (((r0.alloc (.cells #[.slice (some ⟨w.heap.size + 1, 0, none⟩) 0 (xa.length + 1)] 22)).alloc (.cells #[.int .u64 0] 77)).alloc (.cells #[(Value.slice ab xb.length cb)] 22)).alloc (.cells #[.int .i64 (xa.length : Int)] 3)
  rw [show (w.alloc (.cells #[(Value.slice aa xa.length ca)] 22)).heap.size = w.heap.size + 1 by simp] at r1
  clear r0
  have b0 : Below w.heap.size w w := Below.refl _ _
  refine range_limbs 7 8 (w.heap.size + 5) (w.heap.size + 4) w.heap.size xa.length (Value.slice ab xb.length cb) xb (by exact rfl) hlb (by omega) (by simp) (by simp) (by simp; omega) ?m1 ?m2 (hb.below ?m3) hb.lt
    (fun pre W => ∃ v, Boxed W (w.heap.size + 2) 22 v ∧ W.ownsRow w.heap.size 52 1 v pre.length (enc32 (plusFold xa (pre.map (·.1))).1) ∧ Boxed W (w.heap.size + 3) 77 (.int .u64 ((plusFold xa (pre.map (·.1))).2 : Int)) ∧
      Boxed W (w.heap.size + 4) 22 (Value.slice ab xb.length cb) ∧ Boxed W w.heap.size 22 (Value.slice aa xa.length ca) ∧ Below w.heap.size w W)
    (fun _ _ _ => False)
    (ownFrom_ex fun v => (ownFrom_boxed _ _ _).and ((ownFrom_row _ _ _ _ _ _).and ((ownFrom_boxed _ _ _).and ((ownFrom_boxed _ _ _).and ((ownFrom_boxed _ _ _).and (ownFrom_below (Nat.le_refl _) ?mB))))))
    (fun _ _ _ _ _ h _ _ => h.elim) ?start ?assign ?body ?done ?stop
  case mB => simp; omega
  case m1 => go_simp
  case m2 => go_simp
  case m3 => exact (((((b0.alloc (Nat.le_refl _) _).alloc (by simp) _).alloc (by simp; omega) _).alloc (by simp; omega) _).alloc (by simp; omega) _).alloc (by simp; omega) _
  case start =>
    refine ⟨_, ?_, by simpa [plusFold, enc32] using r1, ?_, ?_, ?_, ?_⟩
    · exact Boxed.at ((((Boxed.new _ _ _).alloc _).alloc _).alloc _) (by simp)
    · exact Boxed.at (((Boxed.new _ _ _).alloc _).alloc _) (by simp)
    · exact Boxed.at ((Boxed.new _ _ _).alloc _) (by simp)
    · exact (((((Boxed.new _ _ _).alloc _).alloc _).alloc _).alloc _).alloc _
    · exact (((((b0.alloc (Nat.le_refl _) _).alloc (by simp) _).alloc (by simp; omega) _).alloc (by simp; omega) _).alloc (by simp; omega) _).alloc (by simp; omega) _
  case assign =>
    intro l x W K hK
    gi_wp2
    exact hK
  case body =>
    rintro l pre x W ⟨v, bv, rv, bc, bs, bl, bw⟩ hlt
    simp only [boundFrame]
    gi_wp2
    have hnr := bc.not_row (by decide) rv
    have hnv := bv.not_row (by decide) rv
    have hbB := bw.size
    obtain ⟨⟨i, y⟩, hi1, hi2⟩ := x
    have hps : ∀ p ∈ pre.map (·.1), p.2 < B32 := fun p hp => by
      obtain ⟨q, _, rfl⟩ := List.mem_map.1 hp
      exact q.2.2
    have hcle := (plusFold_limbs hla (pre.map (·.1)) hps).2
    have hnext := plusFold_snoc xa (pre.map (·.1)) (i, y)
    have hmap : (pre ++ [(⟨(i, y), hi1, hi2⟩ : IdxLimb xa.length)]).map (·.1) = pre.map (·.1) ++ [(i, y)] := by simp
    have hd := limb_getD hla i
    dsimp only at *
    have hcell := (ha.below bw).cell i hi1
    generalize hst : plusFold xa (pre.map (·.1)) = st at *
    obtain ⟨r, c⟩ := st
    simp only [plusStep] at hnext
    dsimp only at *
    generalize xa[i]?.getD 0 = d at *
    clear hst hps
    have HN := Lib.hid hnext
    have HM := Lib.hid hmap
    clear hnext hmap
    unfold B32 at hi2 hd
    have hix := ha.index und_limbs size_limb i .i64
    have hbc := bc.cell
    have hfc := bc.frozen
    have hbl := bl.cell
    have hbv := bv.cell
    have hfv := bv.frozen
    refine region_tail (.inr ⟨_, rfl⟩) 10 (by kernel_rfl) (by kernel_rfl) ?_
    simp only [List.take_succ_cons, List.take_zero, List.drop_succ_cons, List.drop_zero]
    repeat still_step
    refine wpStill_nil ?_
    change wpListIn _ _ _ _ _ _ _ W.drew
    have hrowA := (((rv.kept (grownBy_setCell' W (w.heap.size + 3) (.int .u64 ((c : Int) + ((d : Int) + (y : Int))))) (.inr hnr.symm)).alloc (.cells #[.int .u32 (((c : Int) + ((d : Int) + (y : Int))) % 4294967296)] 52))).drew
    have HR := Lib.hid hnr
    have HV := Lib.hid hnv
    clear hnr hnv
    gi_wp2_with (gi_at_builtin; refine wpListIn_append_own _ rfl _ _ 22 rfl w.heap.size 52 inf (.int .u32 0) 1 4 und_limbs hi hz0 hz1 hz2 rfl (by decide) _ _ _ rfl hrowA ⟨W.heap.size, 0, none⟩ 1 1 [.int .u32 (((c : Int) + ((d : Int) + (y : Int))) % 4294967296)] rfl rfl (cell_new_drew _ _ _ _ (by simp)) (by simp [Value.oneCell']) (by unfold maxLen; omega) (by omega) (by simp; omega) ?_; intro v' w1 hown' hgrow _; obtain ⟨g', cap', rfl⟩ := ownsRow_succ hown'; have bc1 := Boxed.kept (Boxed.drew (Boxed.alloc (bc.set (.int .u64 ((c : Int) + ((d : Int) + (y : Int))))) (.cells #[.int .u32 (((c : Int) + ((d : Int) + (y : Int))) % 4294967296)] 52))) hgrow HR.out; have bv1 := Boxed.kept (Boxed.drew (Boxed.alloc (bv.other (B' := w.heap.size + 3) (by omega) (.int .u64 ((c : Int) + ((d : Int) + (y : Int))))) (.cells #[.int .u32 (((c : Int) + ((d : Int) + (y : Int))) % 4294967296)] 52))) hgrow HV.out; have hcc1 := bc1.cell; have hcv1 := bv1.cell; have hfc1 := bc1.frozen; have hfv1 := bv1.frozen)
    have hS : Chg (fun k => k = w.heap.size + 2 ∨ k = w.heap.size + 3 ∨ v.ownBlock = some k) W w1 := (((((Chg.refl _ W).setCell (p := ⟨w.heap.size + 3, 0, none⟩) (.inl (.inr (.inl rfl))) _).alloc _).drew).grown hgrow (fun k e => .inl (.inr (.inr e))))
    have hF := (hS.setCell (p := ⟨w.heap.size + 2, 0, none⟩) (.inl (.inl rfl)) (Value.slice (some ⟨g', 0, none⟩) (pre.length + 1) cap')).setCell (p := ⟨w.heap.size + 3, 0, none⟩) (.inl (.inr (.inl rfl))) (.int .u64 (((c : Int) + ((d : Int) + (y : Int))) / 4294967296))
    have hge : ∀ k, (k = w.heap.size + 2 ∨ k = w.heap.size + 3 ∨ v.ownBlock = some k) → w.heap.size ≤ k := by
      rintro k (e | e | e)
      · omega
      · omega
      · exact (rv.lt k e).1
    have n4 : ¬ (w.heap.size + 4 = w.heap.size + 2 ∨ w.heap.size + 4 = w.heap.size + 3 ∨ v.ownBlock = some (w.heap.size + 4)) := by
      rintro (e | e | e)
      · omega
      · omega
      · exact bs.not_row (by decide) rv e.symm
    have n0 : ¬ (w.heap.size = w.heap.size + 2 ∨ w.heap.size = w.heap.size + 3 ∨ v.ownBlock = some w.heap.size) := by
      rintro (e | e | e)
      · omega
      · omega
      · exact bl.not_row (by decide) rv e.symm
    have hbel := hF.below hge hbB
    refine ⟨hF.keepsFrom _ ?_, Kp0.boxed hbel bs (hF.boxed bs n4), _, Boxed.other (bv1.set _) (by omega) _, ?_, ?_, hF.boxed bs n4, hF.boxed bl n0, bw.trans hbel⟩
    · rintro k (rfl | rfl | e)
      · exact Boxed.isCells bv
      · exact Boxed.isCells bc
      · exact ownsRow_isCells rv e
    · have hv1 : Value.int .u32 (((c + (d + y)) % B32 : Nat) : Int) = .int .u32 (((c : Int) + ((d : Int) + (y : Int))) % 4294967296) := congrArg _ (by unfold B32; omega)
      rw [HM.out, HN.out, enc32_snoc, hv1, List.length_append]
      have bv2 := bv1.set (Value.slice (some ⟨g', 0, none⟩) (pre.length + 1) cap')
      have r2 := hown'.kept (grownBy_setCell' w1 (w.heap.size + 2) (Value.slice (some ⟨g', 0, none⟩) (pre.length + 1) cap')) (.inr (bv1.not_row (by decide) hown').symm)
      exact r2.kept (grownBy_setCell' _ (w.heap.size + 3) _) (.inr (bc1.not_row (by decide) hown').symm)
    · have hv2 : Value.int .u64 (((c + (d + y)) / B32 : Nat) : Int) = .int .u64 (((c : Int) + ((d : Int) + (y : Int))) / 4294967296) := congrArg _ (by unfold B32; omega)
      rw [HM.out, HN.out, hv2]
      exact Boxed.set _ (bc1.other (by omega) _)
  case done =>
    rintro D ys W hD hys ⟨v, bv, rv, bc, bs, bl, bw⟩ hK
    have hlim := plusFold_limbs hla (limbPairs xb xa.length) (fun p hp => by
      obtain ⟨q, _, rfl⟩ := List.mem_map.1 (hys ▸ hp)
      exact q.2.2)
    have hval := plusFold_val xa xb xa.length
    have hylen : ys.length = xa.length := by have := congrArg List.length hys; simpa [limbPairs_length] using this
    rw [hys] at rv bc
    rw [hylen] at rv
    clear hys hylen
    generalize plusFold xa (limbPairs xb xa.length) = st at *
    obtain ⟨r, c⟩ := st
    obtain ⟨hlr, hc1⟩ := hlim
    dsimp only at *
    have HV := Lib.hid hval
    clear hval
    have hrowA := rv.alloc (.cells #[.int .u32 (c : Int)] 52)
    have hbB := bw.size
    have hbc := bc.cell
    have hbv := bv.cell
    have hnD := ownsRow_notWalk rv hK rfl
    have HD := Lib.hid hnD
    clear hnD
    gi_wp2_with (first | (gi_at_builtin; go_loud (refine wpListIn_append_own _ rfl _ _ 22 rfl w.heap.size 52 inf (.int .u32 0) 1 4 und_limbs hi hz0 hz1 hz2 rfl (by decide) _ _ _ rfl hrowA ⟨W.heap.size, 0, none⟩ 1 1 [.int .u32 (c : Int)] rfl rfl (cell_new_plain _ _ _ _ rfl) (by simp [Value.oneCell']) (by unfold maxLen; omega) (by omega) (by simp; omega) ?_); intro v' w1 hown' hgrow _; have hrd : Reads .u32 w1 v' (r ++ [c]) := Reads.ofOwn (by simpa [enc32] using hown')) | (refine ⟨trivial, ?_⟩; gi_at_call 57; refine (callsIn_wide.2 (trim_any _ _ _ (by assumption))).mono ?_; rintro e w' ⟨rfl, v3, rfl, hr3⟩))
    have hg : (W.alloc (.cells #[.int .u32 (c : Int)] 52)).grownBy w1 v.ownBlock := hgrow
    have hK1 : w1.heap[D]? = some (.deferred (some [])) := (hg.block D (by have := (Array.getElem?_eq_some_iff.1 hK).1; simp; omega) HD.out).trans ((Below.heap_alloc W _ D (Array.getElem?_eq_some_iff.1 hK).1).trans hK)
    have hb1 : Below w.heap.size W w1 := ((Below.refl _ W).alloc hbB _).grown hg (by simp; omega) (fun k e => (rv.lt k e).1)
    have hlr2 : r.length = xa.length := by have := rv.1; simpa [enc32] using this
    refine ⟨by simp, .inl ⟨_, _, rfl, run_takeDeferred hK1, ?_⟩⟩
    refine ⟨_, results_tmp rfl _ _ _, (bw.trans hb1).trans (belowK_b (w := w) (Nat.le_refl _) w1 D _ _ (by simp at hD; omega) hK1 rfl rfl), v3, _, rfl, hr3.putObj hK1 rfl _, canon_trimmed (limbs_snoc hlr (by unfold B32; omega)), ?_⟩
    rw [val_trimmed, val_snoc, hlr2, HV.out, List.take_of_length_le (by omega), List.take_of_length_le (by omega)]
  case stop =>
    rintro D c pre W _ _ h _
    exact h.elim

theorem plus_any (va vb : Value) (xa xb : List Nat) (w : World) (ha : Reads .u32 w va xa) (hb : Reads .u32 w vb xb) (hla : Limbs xa) (hlb : Limbs xb) (na : xa.length ≤ 100000) (nb : xb.length ≤ 100000) :
    Calls Tryz.prog 79 #[va, vb] w fun e w' => Below w.heap.size w w' ∧ ∃ v cs, e = .returned v ∧ Reads .u32 w' v cs ∧ Canon cs ∧ val cs = val xa + val xb := by
  by_cases hl : xa.length < xb.length
  · exact plus_lt va vb xa xb w ha hb hla hlb na nb hl
  · exact plus_ge va vb xa xb w ha hb hla hlb na nb hl

end Go.Proofs.YtlghjfpkfdnfoaaGreatDoor

/- num.timesLimbs -/
namespace Go.Proofs.YtlghjfpkfdnfoaaGreatDoor
open Go Go.RowKit Go.Shelf
attribute [local go_sem] Oper.semAt_some

/-- between two rounds -/
def TlInv (w : World) (va vb : Value) (xa xb : List Nat) (ps : List (Nat × Nat)) (W : World) : Prop :=
  Boxed W (w.heap.size + 2) 22 (.slice (some ⟨w.heap.size + 1, 0, none⟩) (xa.length + xb.length) (xa.length + xb.length)) ∧ RowAt W (w.heap.size + 1) 52 (enc32 (tlFold (xa.length + xb.length) xb ps)) ∧
  Boxed W (w.heap.size + 3) 22 va ∧ Boxed W w.heap.size 22 vb ∧ Below w.heap.size w W
theorem tlInv_own (B : Nat) {w : World} (hB : w.heap.size ≤ B) (va vb : Value) (xa xb : List Nat) {α : Type} (f : α → List (Nat × Nat)) : OwnFrom B (fun s W => TlInv w va vb xa xb (f s) W) :=
  (ownFrom_boxed _ _ _).and ((ownFrom_rowAt _ _ (fun s => enc32 (tlFold (xa.length + xb.length) xb (f s)))).and ((ownFrom_boxed _ _ _).and ((ownFrom_boxed _ _ _).and (ownFrom_below (Nat.le_refl _) hB))))

set_option maxHeartbeats 2000000 in
set_option maxRecDepth 100000 in
theorem timesLimbs_any (va vb : Value) (xa xb : List Nat) (w : World) (ha : Reads .u32 w va xa) (hb : Reads .u32 w vb xb) (hla : Limbs xa) (hlb : Limbs xb) (na : xa.length ≤ 100000) (nb : xb.length ≤ 100000) :
    Calls Tryz.prog 108 #[va, vb] w fun e w' => Below w.heap.size w w' ∧ ∃ v cs, e = .returned v ∧ Reads .u32 w' v cs ∧ Canon cs ∧ val cs = val xa * val xb := by
  obtain ⟨aa, ca, rfl, hca, hma⟩ := ha.form
  obtain ⟨ab, cb, rfl, hcb, hmb⟩ := hb.form
  unfold maxLen at hma hmb
  refine (callsIn_wide (n := 9)).1 ?_
  refine callsIn_of_wp_marks Tryz.func108 rfl trivial ?_ rfl
  simp only [Tryz.ntmps108, List.size_toArray, List.length_cons, List.length_nil, Nat.reduceAdd, Nat.reduceSub, Array.replicate_succ, Array.replicate_zero, List.push_toArray, List.append_toArray, List.nil_append, List.cons_append]
  have hmk : ∀ w, (Instr.makeSlice 22 (.int .i64 ((xa.length : Int) + (xb.length : Int))) (.int .i64 ((xa.length : Int) + (xb.length : Int)))).run Tryz.prog w = .ok (.slice (some ⟨w.heap.size, 0, none⟩) (xa.length + xb.length) (xa.length + xb.length)) (w.alloc (.cells (zeros (xa.length + xb.length)) 52)) := fun w => by
    rw [make_limbs _ _ (by omega) (by omega) (by omega) w, show ((xa.length : Int) + (xb.length : Int)).toNat = xa.length + xb.length by omega]
  gi_wp2_with (refine ⟨trivial, ?_⟩; gi_at_call 90; refine (callsIn_wide.2 (limbs_any _ _ _ ⟨_, _, _, rfl⟩)).mono ?_; rintro e w' ⟨rfl, rfl⟩)
  clear hmk
  have b0 : Below w.heap.size w w := Below.refl _ _
  refine range_limbs 6 7 (w.heap.size + 4) (w.heap.size + 3) w.heap.size xa.length (.slice aa xa.length ca) xa (by exact rfl) hla (by omega) (by simp) (by simp) (by simp; omega) ?m1 ?m2 (ha.below ?m3) ha.lt
    (fun pre W => TlInv w (.slice aa xa.length ca) (.slice ab xb.length cb) xa xb (pre.map (·.1)) W)
    (fun _ _ _ => False) (tlInv_own _ ?mB _ _ _ _ _) (fun _ _ _ _ _ h _ _ => h.elim) ?start ?assign ?body ?done ?stop
  case mB => simp; omega
  case m1 => go_simp
  case m2 => go_simp
  case m3 => exact ((((b0.alloc (Nat.le_refl _) _).alloc (by simp) _).alloc (by simp; omega) _).alloc (by simp; omega) _).alloc (by simp; omega) _
  case start =>
    refine ⟨?_, ?_, ?_, ?_, ?_⟩
    · exact Boxed.at (((Boxed.new _ _ _).alloc _).alloc _) (by simp)
    · have e : enc32 (tlFold (xa.length + xb.length) xb (([] : List (IdxLimb xa.length)).map (·.1))) = (zeros (xa.length + xb.length)).toList := by simp [tlFold, enc32, zeros]
      rw [e]
      exact RowAt.at ((((RowAt.new _ _ _).alloc _).alloc _).alloc _) (by simp)
    · exact Boxed.at ((Boxed.new _ _ _).alloc _) (by simp)
    · exact ((((Boxed.new _ _ _).alloc _).alloc _).alloc _).alloc _
    · exact ((((b0.alloc (Nat.le_refl _) _).alloc (by simp) _).alloc (by simp; omega) _).alloc (by simp; omega) _).alloc (by simp; omega) _
  case assign =>
    intro l x W K hK
    gi_wp2
    exact hK
  case body =>
    rintro l pre x W ⟨bv, rv, bs, bl, bw⟩ hlt
    have hbB := bw.size
    obtain ⟨⟨i, y⟩, hi1, hi2⟩ := x
    have hps : ∀ p ∈ pre.map (·.1), p.2 < B32 := fun p hp => by
      obtain ⟨q, _, rfl⟩ := List.mem_map.1 hp
      exact q.2.2
    have hlr := tlFold_limbs (xa.length + xb.length) hlb (pre.map (·.1)) hps
    have hlen := tlFold_length (xa.length + xb.length) xb (pre.map (·.1))
    have hnext := tlFold_snoc (xa.length + xb.length) xb (pre.map (·.1)) (i, y)
    have hmap : (pre ++ [(⟨(i, y), hi1, hi2⟩ : IdxLimb xa.length)]).map (·.1) = pre.map (·.1) ++ [(i, y)] := by simp
    generalize tlFold (xa.length + xb.length) xb (pre.map (·.1)) = r at *
    simp only [tlStep] at hnext
    dsimp only at *
    clear hps
    have HN := Lib.hid hnext
    have HM := Lib.hid hmap
    have HL := Lib.hid hlen
    clear hnext hmap hlen
    have hi3 := hi2
    unfold B32 at hi3
    have hbv := bv.cell
    have hcf := bl.cell
    simp only [boundFrame]
    gi_wp2_with fail
    gi_loopw [8, 25] (fun s8 s25 wr => ∃ j : Nat, j ≤ xb.length ∧ s25 = .int .i64 (j : Int) ∧ s8 = .int .u64 ((tlInner y i xb r j).2 : Int) ∧ RowAt wr (w.heap.size + 1) 52 (enc32 (tlInner y i xb r j).1) ∧ Chg (fun k => k = w.heap.size + 1) W wr)
      (fun _ s25 _ => xb.length - (intOf s25).toNat)
    case atStart => exact ⟨0, Nat.zero_le _, rfl, rfl, rv, Chg.refl _ _⟩
    case round =>
      obtain ⟨j, hj, rfl, rfl, rw1, hch⟩ := hrel
      have bv1 := hch.boxed bv (by omega)
      have bl1 := hch.boxed bl (by omega)
      have hcv1 := bv1.cell
      have hcl1 := bl1.cell
      obtain ⟨hq1, hc1⟩ := tlInner_limbs hi2 i hlb hlr j
      have hql := tlInner_length y i xb r j
      rw [HL.out] at hql
      have hstep : tlInner y i xb r (j + 1) = ((tlInner y i xb r j).1.set (i + j) (((tlInner y i xb r j).2 + (y * xb[j]?.getD 0 + (tlInner y i xb r j).1[i + j]?.getD 0)) % B32), ((tlInner y i xb r j).2 + (y * xb[j]?.getD 0 + (tlInner y i xb r j).1[i + j]?.getD 0)) / B32) := rfl
      have HS := Lib.hid hstep
      clear hstep
      generalize hst : tlInner y i xb r j = st at *
      obtain ⟨q, c⟩ := st
      have HT := Lib.hid hst
      clear hst
      dsimp only at *
      by_cases hjl : j < xb.length
      · have hix := hb.index und_limbs size_limb j .i64
        have hcell := ((hb.below bw).belowAt (B := w.heap.size) hb.lt (hch.below (by omega) hbB)).cell j hjl
        have hbb := limb_getD hlb j
        obtain ⟨b, hbe⟩ : ∃ b, xb[j]?.getD 0 = b := ⟨_, rfl⟩
        obtain ⟨z, hze⟩ : ∃ z, q[i + j]?.getD 0 = z := ⟨_, rfl⟩
        have hzb := limb_getD hq1 (i + j)
        rw [hze] at hzb HS
        rw [hbe] at hcell hbb HS
        have hbd := tl_bound hc1 hi2 hbb hzb
        obtain ⟨P, hP⟩ : ∃ P, y * b = P := ⟨_, rfl⟩
        rw [hP] at hbd HS
        obtain ⟨T, hT⟩ : ∃ T, c + (P + z) = T := ⟨_, rfl⟩
        rw [hT] at HS
        unfold B32 at hbd hbb hzb hc1
        have hmul : IntKind.u64.wrap ((y : Int) * (b : Int)) = (P : Int) := by
          rw [← Int.natCast_mul, hP, IntKind.wrap_u64]; omega
        have hs1 : IntKind.u64.wrap ((P : Int) + (z : Int)) = (P : Int) + (z : Int) := by rw [IntKind.wrap_u64]; omega
        have hs2 : IntKind.u64.wrap ((c : Int) + ((P : Int) + (z : Int))) = (T : Int) := by rw [IntKind.wrap_u64]; omega
        have hci : wr.cell? ⟨w.heap.size + 1, i + j, none⟩ = some (.int .u32 (z : Int)) := by
          rw [rw1.cell]
          simp [enc32, List.getElem?_eq_getElem (show i + j < q.length by omega)]
          rw [← hze, List.getElem?_eq_getElem (show i + j < q.length by omega)]; rfl
        have hcz := rw1.frozen (i + j)
        clear hP hT hbe hze hbd
        have HQ := Lib.hid hql
        clear hql
        gi_wp2_with fail
        go_roundw
        case rel =>
          refine ⟨j + 1, by omega, by go_num, ?_, ?_, hch.setCell (.inl rfl) _⟩
          · rw [HS.out]
            exact congrArg _ (by show _ = ((T / B32 : Nat) : Int); unfold B32; omega)
          · rw [HS.out]
            have hv : Value.int .u32 ((T : Int) % 4294967296) = .int .u32 ((T % B32 : Nat) : Int) := congrArg _ (by unfold B32; omega)
            rw [hv]
            have e : enc32 (q.set (i + j) (T % B32)) = (enc32 q).set (i + j) (.int .u32 ((T % B32 : Nat) : Int)) := by simp [enc32, List.map_set]
            rw [e]
            exact rw1.set (i + j) _
        case measure => simp [intOf]; omega
      · obtain rfl : j = xb.length := by omega
        have hci : ∃ z : Value, wr.cell? ⟨w.heap.size + 1, i + xb.length, none⟩ = some z := by
          rw [rw1.cell]
          exact ⟨_, List.getElem?_eq_getElem (by simp [enc32]; omega)⟩
        obtain ⟨z, hci⟩ := hci
        have hcz := rw1.frozen (i + xb.length)
        unfold B32 at hc1
        have HQ := Lib.hid hql
        clear hql
        gi_wp2_with fail
        have hF := hch.setCell (p := ⟨w.heap.size + 1, i + xb.length, none⟩) (.inl rfl) (.int .u32 (c : Int))
        have hbel := hF.below (B := w.heap.size) (by rintro k rfl; omega) hbB
        have f4 := hF.boxed bs (by omega)
        refine ⟨hF.keepsFrom _ ?_, Kp0.boxed hbel bs f4, hF.boxed bv (by omega), ?_, f4, hF.boxed bl (by omega), bw.trans hbel⟩
        · rintro k rfl
          exact rv.isCells
        · rw [HM.out, HN.out, HT.out]
          have e : enc32 (q.set (i + xb.length) c) = (enc32 q).set (i + xb.length) (.int .u32 (c : Int)) := by simp [enc32, List.map_set]
          rw [e]
          exact rw1.set (i + xb.length) _
  case done =>
    rintro D ys W hD hys ⟨bv, rv, bs, bl, bw⟩ hK
    have hlim := tlFold_limbs (xa.length + xb.length) hlb (limbPairs xa xa.length) (fun p hp => by
      obtain ⟨q, _, rfl⟩ := List.mem_map.1 (hys ▸ hp)
      exact q.2.2)
    have hval := (tlFold_val xa xb xa.length (Nat.le_refl _)).1
    have hlen := tlFold_length (xa.length + xb.length) xb (limbPairs xa xa.length)
    rw [List.take_of_length_le (Nat.le_refl _)] at hval
    rw [hys] at rv
    clear hys
    generalize tlFold (xa.length + xb.length) xb (limbPairs xa xa.length) = r at *
    have HV := Lib.hid hval
    have hrd : Reads .u32 W (.slice (some ⟨w.heap.size + 1, 0, none⟩) (xa.length + xb.length) (xa.length + xb.length)) r := RowAt.reads rv _ _ hlen.symm (Nat.le_refl _) (by unfold maxLen; omega)
    clear hval hlen
    have hbv := bv.cell
    gi_wp2_with (refine ⟨trivial, ?_⟩; gi_at_call 57; refine (callsIn_wide.2 (trim_any _ _ _ hrd)).mono ?_; rintro e w' ⟨rfl, v3, rfl, hr3⟩)
    refine ⟨by simp, .inl ⟨_, _, rfl, run_takeDeferred hK, ?_⟩⟩
    refine ⟨_, results_tmp rfl _ _ _, bw.trans (belowK_b (w := w) (Nat.le_refl _) W D _ _ (by simp at hD; omega) hK rfl rfl), v3, _, rfl, hr3.putObj hK rfl _, canon_trimmed hlim, ?_⟩
    rw [val_trimmed, HV.out]
  case stop =>
    rintro D c pre W _ _ h _
    exact h.elim

end Go.Proofs.YtlghjfpkfdnfoaaGreatDoor

/- small functions of num: signed, negative, one, clone, bitLen, demand, fitting, Check -/
namespace Go.Proofs.YtlghjfpkfdnfoaaGreatDoor
open Go Go.RowKit Go.Shelf

set_option maxRecDepth 100000 in
set_option maxHeartbeats 400000 in
theorem signed_any (neg : Bool) (a : Option Addr) (n cap : Nat) (w : World) :
    Calls Tryz.prog 51 #[.bool neg, .slice a n cap] w fun e w' => Below w.heap.size w w' ∧ e = .returned (.agg #[.bool (neg && decide (0 < n)), .slice a n cap]) := by
  cases neg
  · go_enter Tryz.func51, Tryz.ntmps51
    go_wp2
    exact bodyPost_ret (v := .agg #[.bool false, .slice a n cap]) (by simp [results, Tryz.results51, go_sem]) rfl ⟨(Below.refl _ _).alloc (Nat.le_refl _) _, rfl⟩
  · go_enter Tryz.func51, Tryz.ntmps51
    go_wp2
    exact bodyPost_ret (v := .agg #[.bool (decide (0 < n)), .slice a n cap]) (by simp [results, Tryz.results51, go_sem]) rfl ⟨(Below.refl _ _).alloc (Nat.le_refl _) _, rfl⟩

set_option maxRecDepth 100000 in
set_option maxHeartbeats 400000 in
theorem one_any (w : World) : Calls Tryz.prog 80 #[] w fun e w' => Below w.heap.size w w' ∧ ∃ v, e = .returned v ∧ Reads .u32 w' v [1] := by
  go_enter Tryz.func80, Tryz.ntmps80
  go_wp2
  go_ret
  exact ⟨(Below.refl _ _).alloc (Nat.le_refl _) _, _, rfl, RowAt.reads (xs := [1]) (RowAt.new w 52 [.int .u32 1]) 1 1 rfl (by omega) (by simp [maxLen])⟩

set_option maxRecDepth 100000 in
set_option maxHeartbeats 400000 in
theorem demand_ok (b : Bool) (er : Int) (w : World) (hb : b = true) : Calls Tryz.prog 45 #[.bool b, .int .i64 er] w fun e w' => w = w' ∧ e = .returned (.tuple #[]) := by
  subst hb
  go_enter Tryz.func45, Tryz.ntmps45
  go_wp2
  go_end0
  exact ⟨rfl, rfl⟩

set_option maxRecDepth 100000 in
set_option maxHeartbeats 400000 in
theorem demand_no (b : Bool) (er : Int) (w : World) (hb : b = false) : Calls Tryz.prog 45 #[.bool b, .int .i64 er] w fun e w' => w = w' ∧ e = .panicked [{ v := .iface 27 (.int .i64 er), recovered := false }] := by
  subst hb
  go_enter Tryz.func45, Tryz.ntmps45
  go_wp2
  exact ⟨rfl, rfl, rfl⟩

set_option maxRecDepth 100000 in
set_option maxHeartbeats 400000 in
theorem fitting_any (neg : Bool) (a : Option Addr) (n cap : Nat) (w : World) (hn : n ≤ 300) :
    Calls Tryz.prog 50 #[.agg #[.bool neg, .slice a n cap]] w fun e w' => Below w.heap.size w w' ∧ e = .returned (.agg #[.bool neg, .slice a n cap]) := by
  go_enter Tryz.func50, Tryz.ntmps50
  go_wp2_with (go_at_call 45; refine (demand_ok _ _ _ (by simp; try omega)).mono ?_; rintro e w' ⟨rfl, rfl⟩)
  exact bodyPost_ret (v := .agg #[.bool neg, .slice a n cap]) (by simp [results, Tryz.results50, go_sem]) rfl ⟨((Below.refl _ _).alloc (Nat.le_refl _) _).alloc (by simp) _, rfl⟩

set_option maxRecDepth 100000 in
set_option maxHeartbeats 400000 in
theorem clone_any (v : Value) (xs : List Nat) (w : World) (h : Reads .u32 w v xs) (hn : xs.length ≤ 1000000) :
    Calls Tryz.prog 87 #[v] w fun e w' => Below w.heap.size w w' ∧ ∃ v', e = .returned v' ∧ Reads .u32 w' v' xs := by
  obtain ⟨a, cap, rfl, hc, hm⟩ := h.form
  by_cases hx : xs = []
  · subst hx
    have h0 : ∀ (a : Addr) (w : World), (loadCellsFrom a 0 0 #[]).run Tryz.prog w = .ok #[] w := fun a w => by simp [loadCellsFrom]
    cases a <;>
    · go_enter Tryz.func87, Tryz.ntmps87
      go_wp2
      go_ret
      exact ⟨Below.refl _ _, _, rfl, Reads.nil _ _⟩
  · obtain ⟨inf, hi, hzz⟩ := Option.map_eq_some_iff.1 info_limb
    simp only [Prod.mk.injEq] at hzz
    obtain ⟨hz0, hz1, hz2⟩ := hzz
    obtain ⟨a', cap', he, _, _, hr⟩ := h
    cases he
    obtain ⟨⟨b, off, rfl⟩, _⟩ := hr 0 (List.length_pos_iff.2 hx)
    have hnews : ∀ j u, (enc32 xs)[j]? = some u → w.cell? ((⟨b, off, none⟩ : Addr).add j) = some u := by
      intro j u hu
      have hj : j < xs.length := by
        have := (List.getElem?_eq_some_iff.1 hu).1
        simpa [enc32] using this
      have h2 := (hr j hj).2
      rw [lookAt_some] at h2
      rw [Addr.add_lit, h2]
      simp [enc32, List.getElem?_map, List.getElem?_eq_getElem hj] at hu ⊢
      exact hu
    have HN := Lib.hid hnews
    clear hnews hr hx
    go_enter Tryz.func87, Tryz.ntmps87
    go_wp2_with (at_builtin; go_loud (refine wpList_append_own _ rfl _ _ 22 rfl w.heap.size 52 inf (.int .u32 0) 1 4 und_limbs hi hz0 hz1 hz2 rfl (by decide) _ _ _ rfl (World.ownsRow_nil _ _ _ _) ⟨b, off, none⟩ xs.length cap (enc32 xs) rfl (by simp [enc32]) HN.out (by simp [enc32, Value.oneCell']) (by unfold maxLen; omega) (by omega) (Nat.le_refl _) ?_); intro v' w1 hown' hgrow _)
    go_ret
    refine ⟨(Below.refl _ _).grown hgrow (Nat.le_refl _) (fun k e => by cases e), v', rfl, Reads.ofOwn (by simpa [enc32] using hown')⟩

end Go.Proofs.YtlghjfpkfdnfoaaGreatDoor

/- num.times where the shorter factor has few limbs; num.product there -/
namespace Go.Proofs.YtlghjfpkfdnfoaaGreatDoor
open Go Go.RowKit Go.Shelf

set_option maxHeartbeats 1000000 in
set_option maxRecDepth 100000 in
theorem byHalves_small (va vb : Value) (p : Value) (xa xb : List Nat) (w : World) (ha : Reads .u32 w va xa) (hb : Reads .u32 w vb xb) (hla : Limbs xa) (hlb : Limbs xb) (na : xa.length ≤ 100000) (nb : xb.length ≤ 100000) (hs : min xa.length xb.length < 80) :
    Calls Tryz.prog 107 #[va, vb, p] w fun e w' => Below w.heap.size w w' ∧ ∃ v cs, e = .returned v ∧ Reads .u32 w' v cs ∧ Canon cs ∧ val cs = val xa * val xb := by
  obtain ⟨aa, ca, rfl, hca, hma⟩ := ha.form
  obtain ⟨ab, cb, rfl, hcb, hmb⟩ := hb.form
  unfold maxLen at hma hmb
  go_enter Tryz.func107, Tryz.ntmps107
  go_wp2_with (go_at_call 108; refine (timesLimbs_any _ _ xa xb _ ha hb hla hlb na nb).mono ?_; rintro e w' ⟨hbe, v, cs, rfl, h1, h2, h3⟩)
  go_ret
  exact ⟨hbe, v, cs, rfl, h1, h2, h3⟩

set_option maxHeartbeats 1000000 in
set_option maxRecDepth 100000 in
theorem times_small (va vb : Value) (xa xb : List Nat) (w : World) (ha : Reads .u32 w va xa) (hb : Reads .u32 w vb xb) (hla : Limbs xa) (hlb : Limbs xb) (na : xa.length ≤ 100000) (nb : xb.length ≤ 100000) (hs : min xa.length xb.length < 80) :
    Calls Tryz.prog 84 #[va, vb] w fun e w' => Below w.heap.size w w' ∧ ∃ v cs, e = .returned v ∧ Reads .u32 w' v cs ∧ Canon cs ∧ val cs = val xa * val xb := by
  obtain ⟨aa, ca, rfl, hca, hma⟩ := ha.form
  obtain ⟨ab, cb, rfl, hcb, hmb⟩ := hb.form
  have H := Lib.hid hs
  clear hs
  go_enter Tryz.func84, Tryz.ntmps84
  have b0 := (Below.refl w.heap.size w).alloc (Nat.le_refl _) (.cells #[Value.func (.func 107) #[] #[.pointer (some ⟨w.heap.size, 0, none⟩)]] 114)
  go_wp2_with (go_at_call 107; refine (byHalves_small _ _ _ xa xb _ (ha.below b0) (hb.below b0) hla hlb na nb H.out).mono ?_; rintro e w' ⟨hbe, v, cs, rfl, h1, h2, h3⟩)
  go_ret
  exact ⟨b0.trans (hbe.mono (by simp)), v, cs, rfl, h1, h2, h3⟩

/-- what stays on the way through a sum or a product: the two integers' limbs, the result's variable -/
structure TwoRest (w : World) (va vb : Value) (xa xb : List Nat) (W : World) : Prop where
  ra0 : Reads .u32 w va xa
  rb0 : Reads .u32 w vb xb
  below : Below w.heap.size w W
  size : w.heap.size + 3 ≤ W.heap.size
  res : ∃ r0 a n c, W.heap[w.heap.size + 2]? = some (.cells #[.bool r0, .slice a n c] 24 (0, 0))
theorem TwoRest.ra {w : World} {va vb : Value} {xa xb : List Nat} {W : World} (h : TwoRest w va vb xa xb W) : Reads .u32 W va xa := h.ra0.below h.below
theorem TwoRest.rb {w : World} {va vb : Value} {xa xb : List Nat} {W : World} (h : TwoRest w va vb xa xb W) : Reads .u32 W vb xb := h.rb0.below h.below
theorem TwoRest.drew {w : World} {va vb : Value} {xa xb : List Nat} {W : World} (h : TwoRest w va vb xa xb W) : TwoRest w va vb xa xb W.drew := ⟨h.ra0, h.rb0, h.below.drew, h.size, h.res⟩
theorem TwoRest.step {w : World} {va vb : Value} {xa xb : List Nat} {W W' : World} (h : TwoRest w va vb xa xb W) (hb : Below W.heap.size W W') : TwoRest w va vb xa xb W' := by
  obtain ⟨r0, a, n, c, hr⟩ := h.res
  exact ⟨h.ra0, h.rb0, h.below.trans (hb.mono (by have := h.size; omega)), Nat.le_trans h.size hb.size, r0, a, n, c, (hb.block _ (by have := h.size; omega)).trans hr⟩
/-- the result's variable can be written -/
theorem TwoRest.cells {w : World} {va vb : Value} {xa xb : List Nat} {W : World} (h : TwoRest w va vb xa xb W) : ∃ r0 a n c, W.cell? ⟨w.heap.size + 2, 0, none⟩ = some (.bool r0) ∧ W.cell? ⟨w.heap.size + 2, 1, none⟩ = some (.slice a n c) ∧ W.frozen? ⟨w.heap.size + 2, 0, none⟩ = false ∧ W.frozen? ⟨w.heap.size + 2, 1, none⟩ = false := by
  obtain ⟨r0, a, n, c, hr⟩ := h.res
  exact ⟨r0, a, n, c, by simp only [World.cell?, hr]; rfl, by simp only [World.cell?, hr]; rfl, by simp only [World.frozen?, hr]; rfl, by simp only [World.frozen?, hr]; rfl⟩
theorem TwoRest.store {w : World} {va vb : Value} {xa xb : List Nat} {W : World} (h : TwoRest w va vb xa xb W) (x : Bool) (a : Option Addr) (n c : Nat) : TwoRest w va vb xa xb ((W.setCell ⟨w.heap.size + 2, 0, none⟩ (.bool x)).setCell ⟨w.heap.size + 2, 1, none⟩ (.slice a n c)) := by
  obtain ⟨r0, a0, n0, c0, hr⟩ := h.res
  refine ⟨h.ra0, h.rb0, (h.below.setCell (by simp) _).setCell (by simp) _, by simpa using h.size, x, a, n, c, ?_⟩
  have r1 : RowAt W (w.heap.size + 2) 24 [.bool r0, .slice a0 n0 c0] := hr
  exact (r1.set 0 (.bool x)).set 1 (.slice a n c)

def TwoInts (w : World) (na nb : Bool) (va vb : Value) (xa xb : List Nat) (W : World) : Prop :=
  W.cell? ⟨w.heap.size, 0, none⟩ = some (.bool na) ∧ W.cell? ⟨w.heap.size, 1, none⟩ = some va ∧ W.cell? ⟨w.heap.size + 1, 0, none⟩ = some (.bool nb) ∧ W.cell? ⟨w.heap.size + 1, 1, none⟩ = some vb ∧ TwoRest w va vb xa xb W

theorem twoInts_start {w : World} {na nb : Bool} {va vb : Value} {xa xb : List Nat} (ha : Reads .u32 w va xa) (hb : Reads .u32 w vb xb) :
    TwoInts w na nb va vb xa xb (((w.alloc (.cells #[.bool na, va] 24)).alloc (.cells #[.bool nb, vb] 24)).alloc (.cells #[.bool false, .slice none 0 0] 24)) := by
  have b0 : Below w.heap.size w (((w.alloc (.cells #[.bool na, va] 24)).alloc (.cells #[.bool nb, vb] 24)).alloc (.cells #[.bool false, .slice none 0 0] 24)) := (((Below.refl _ w).alloc (Nat.le_refl _) _).alloc (by simp) _).alloc (by simp; omega) _
  refine ⟨by go_simp, by go_simp, by go_simp, by go_simp, ha, hb, b0, by simp, false, none, 0, 0, ?_⟩
  have := World.alloc_heap_new ((w.alloc (.cells #[.bool na, va] 24)).alloc (.cells #[.bool nb, vb] 24)) (.cells #[.bool false, .slice none 0 0] 24)
  simpa using this
theorem twoInts_step {w W W' : World} {na nb : Bool} {va vb : Value} {xa xb : List Nat} (h1 : W.cell? ⟨w.heap.size, 0, none⟩ = some (.bool na)) (h2 : W.cell? ⟨w.heap.size, 1, none⟩ = some va) (h3 : W.cell? ⟨w.heap.size + 1, 0, none⟩ = some (.bool nb))
    (h4 : W.cell? ⟨w.heap.size + 1, 1, none⟩ = some vb) (hr : TwoRest w va vb xa xb W) (hb : Below W.heap.size W W') : TwoInts w na nb va vb xa xb W' :=
  ⟨(World.cell?_of_block (hb.block _ (World.block_lt_of_cell? _ _ h1))).trans h1, (World.cell?_of_block (hb.block _ (World.block_lt_of_cell? _ _ h2))).trans h2, (World.cell?_of_block (hb.block _ (World.block_lt_of_cell? _ _ h3))).trans h3,
    (World.cell?_of_block (hb.block _ (World.block_lt_of_cell? _ _ h4))).trans h4, hr.step hb⟩
theorem twoInts_store {w W : World} {na nb : Bool} {va vb : Value} {xa xb : List Nat} (h1 : W.cell? ⟨w.heap.size, 0, none⟩ = some (.bool na)) (h2 : W.cell? ⟨w.heap.size, 1, none⟩ = some va) (h3 : W.cell? ⟨w.heap.size + 1, 0, none⟩ = some (.bool nb))
    (h4 : W.cell? ⟨w.heap.size + 1, 1, none⟩ = some vb) (hr : TwoRest w va vb xa xb W) (x : Bool) (a : Option Addr) (n c : Nat) : TwoInts w na nb va vb xa xb ((W.setCell ⟨w.heap.size + 2, 0, none⟩ (.bool x)).setCell ⟨w.heap.size + 2, 1, none⟩ (.slice a n c)) := by
  have hS : Chg (fun k => k = w.heap.size + 2) W ((W.setCell ⟨w.heap.size + 2, 0, none⟩ (.bool x)).setCell ⟨w.heap.size + 2, 1, none⟩ (.slice a n c)) := ((Chg.refl (fun k => k = w.heap.size + 2) W).setCell (p := ⟨w.heap.size + 2, 0, none⟩) (.inl rfl) _).setCell (p := ⟨w.heap.size + 2, 1, none⟩) (.inl rfl) _
  exact ⟨hS.cell h1 (by simp), hS.cell h2 (by simp), hS.cell h3 (by simp), hS.cell h4 (by simp), hr.store x a n c⟩

theorem two_reads {W : World} {b : Nat} {c0 c1 : Value} (q1 : W.cell? ⟨b, 0, none⟩ = some c0) (q2 : W.cell? ⟨b, 1, none⟩ = some c1) (x y : Value) :
    ((W.setCell ⟨b, 0, none⟩ x).setCell ⟨b, 1, none⟩ y).cell? ⟨b, 0, none⟩ = some x ∧ ((W.setCell ⟨b, 0, none⟩ x).setCell ⟨b, 1, none⟩ y).cell? ⟨b, 1, none⟩ = some y := by
  have e1 : (W.setCell ⟨b, 0, none⟩ x).cell? ⟨b, 0, none⟩ = some x := World.cell?_setCell_same _ _ _ q1
  have e2 : (W.setCell ⟨b, 0, none⟩ x).cell? ⟨b, 1, none⟩ = some c1 := by rw [World.cell?_setCell_other _ _ _ _ (by simp)]; exact q2
  exact ⟨by rw [World.cell?_setCell_other _ _ _ _ (by simp)]; exact e1, World.cell?_setCell_same _ _ _ e2⟩
theorem Reads.setOther {k : IntKind} {W : World} {v : Value} {xs : List Nat} (h : Reads k W v xs) {p : Addr} {c : Value} (hp : W.cell? p = some c) (hn : ∀ x, c ≠ .int k x) (u : Value) : Reads k (W.setCell p u) v xs := by
  obtain ⟨a, cap, rfl, hc, hm, hr⟩ := h
  refine ⟨a, cap, rfl, hc, hm, fun j hj => ⟨(hr j hj).1, ?_⟩⟩
  rw [World.cell?_setCell_other _ _ _ _ (fun e => by subst e; rw [(hr j hj).2] at hp; exact hn _ (Option.some.inj hp).symm)]
  exact (hr j hj).2
theorem two_kept {W : World} {b : Nat} {v : Value} {xs : List Nat} {r0 : Bool} {a : Option Addr} {n c : Nat} (h : Reads .u32 W v xs) (q1 : W.cell? ⟨b, 0, none⟩ = some (.bool r0)) (q2 : W.cell? ⟨b, 1, none⟩ = some (.slice a n c)) (x y : Value) : Reads .u32 ((W.setCell ⟨b, 0, none⟩ x).setCell ⟨b, 1, none⟩ y) v xs := by
  refine (h.setOther q1 (by simp) x).setOther (c := .slice a n c) ?_ (by simp) y
  rw [World.cell?_setCell_other _ _ _ _ (by simp)]; exact q2

set_option maxHeartbeats 1000000 in
set_option maxRecDepth 100000 in
theorem product_small (na nb : Bool) (va vb : Value) (xa xb : List Nat) (w : World) (ha : Reads .u32 w va xa) (hb : Reads .u32 w vb xb) (hla : Limbs xa) (hlb : Limbs xb) (la : xa.length ≤ 100000) (lb : xb.length ≤ 100000) (hs : min xa.length xb.length < 80) :
    Calls Tryz.prog 85 #[.agg #[.bool na, va], .agg #[.bool nb, vb]] w fun e w' => Below w.heap.size w w' ∧ ∃ v cs, e = .returned (.agg #[.bool ((na != nb) && decide (0 < cs.length)), v]) ∧ Reads .u32 w' v cs ∧ Canon cs ∧ val cs = val xa * val xb := by
  have h0 := twoInts_start (na := na) (nb := nb) ha hb
  obtain ⟨aa, ca, rfl, hca, hma⟩ := ha.form
  obtain ⟨ab, cb, rfl, hcb, hmb⟩ := hb.form
  have H := Lib.hid hs
  clear hs
  have H0 := Lib.hid h0
  clear h0
  go_enter Tryz.func85, Tryz.ntmps85
  go_wp2_with fail
  go_region_held3 (fun W => W.cell? ⟨w.heap.size, 0, none⟩ = some (.bool na) ∧ W.cell? ⟨w.heap.size, 1, none⟩ = some (.slice aa xa.length ca) ∧ W.cell? ⟨w.heap.size + 1, 0, none⟩ = some (.bool nb) ∧ W.cell? ⟨w.heap.size + 1, 1, none⟩ = some (.slice ab xb.length cb) ∧ TwoRest w (.slice aa xa.length ca) (.slice ab xb.length cb) xa xb W)
    (first | exact ⟨H0.out.1, H0.out.2.1, H0.out.2.2.1, H0.out.2.2.2.1, H0.out.2.2.2.2.drew⟩ | (go_split_ands; exact twoInts_step (by assumption) (by assumption) (by assumption) (by assumption) (by assumption) (by assumption)) | (go_split_ands; exact twoInts_store (by assumption) (by assumption) (by assumption) (by assumption) (by assumption) _ _ _ _))
    (first | (go_at_call 84; go_split_ands; refine (times_small _ _ xa xb _ (TwoRest.ra (by assumption)) (TwoRest.rb (by assumption)) hla hlb la lb H.out).mono ?_; rintro e w' ⟨hbe, v, cs, rfl, h1, h2, h3⟩; obtain ⟨a3, c3, rfl, hc3, hm3⟩ := h1.form) | (go_at_call 51; go_split_ands; refine (signed_any _ _ _ _ _).mono ?_; rintro e w'' ⟨hbe2, rfl⟩; obtain ⟨u0, u1, u2, u3, q1, q2, q3, q4⟩ := TwoRest.cells (TwoRest.step (by assumption) hbe2)))
  obtain ⟨s1, s2⟩ := two_reads (b := w.heap.size + 1 + 1) q1 q2 (.bool (!na == nb && decide (0 < cs.length))) (.slice a3 cs.length c3)
  have hk := two_kept (b := w.heap.size + 1 + 1) (h1.below hbe2) q1 q2 (.bool (!na == nb && decide (0 < cs.length))) (.slice a3 cs.length c3)
  rename_i hT
  replace hT := hT.2.2.2.2.below
  go_wp2
  refine bodyPost_ret (v := .agg #[.bool (!na == nb && decide (0 < cs.length)), .slice a3 cs.length c3]) (by simp [results, Tryz.results85, go_sem, loadCellsFrom, s1, s2]) rfl ⟨hT, _, cs, ?_, hk, h2, h3⟩
  cases na <;> cases nb <;> rfl

end Go.Proofs.YtlghjfpkfdnfoaaGreatDoor
