/- slices.Backward at limbs: what it gives; cmp.Compare -/
import Derived.Test.YtlghjfpkfdnfoaaGreatDoorNumMLimbs
import Derived.Test.YtlghjfpkfdnfoaaGreatDoorNumMTimesSmall
namespace Go.Proofs.YtlghjfpkfdnfoaaGreatDoor
open Go Go.RowKit Go.Shelf
attribute [local go_sem] Oper.semAt_some

set_option maxRecDepth 100000 in
theorem cmp_u32 (x y : Int) (w : World) : Calls Tryz.prog 68 #[.int .u32 x, .int .u32 y] w fun e w' => w = w' ∧ e = .returned (.int .i64 (cmpI x y)) := by
  have h1 : ∀ z : Int, Calls Tryz.prog 93 #[.int .u32 z] w fun e w' => w = w' ∧ e = .returned (.bool false) := fun z => by
    go_enter Tryz.func93, Tryz.ntmps93
    go_wp2
    go_ret
    exact ⟨rfl, by simp⟩
  have H1 := Lib.hid h1
  clear h1
  unfold cmpI
  rcases Int.lt_trichotomy x y with h | h | h
  · go_enter Tryz.func68, Tryz.ntmps68
    go_wp2_with (go_at_call 93; refine (H1.out _).mono ?_; rintro e w' ⟨rfl, rfl⟩)
    go_ret
    exact ⟨rfl, rfl⟩
  · subst h
    go_enter Tryz.func68, Tryz.ntmps68
    go_wp2_with (go_at_call 93; refine (H1.out _).mono ?_; rintro e w' ⟨rfl, rfl⟩)
    go_ret
    exact ⟨rfl, by simp⟩
  · go_enter Tryz.func68, Tryz.ntmps68
    go_wp2_with (go_at_call 93; refine (H1.out _).mono ?_; rintro e w' ⟨rfl, rfl⟩)
    go_ret
    exact ⟨rfl, rfl⟩

set_option maxRecDepth 100000 in
theorem cmp_int (x y : Int) (w : World) : Calls Tryz.prog 66 #[.int .i64 x, .int .i64 y] w fun e w' => w = w' ∧ e = .returned (.int .i64 (cmpI x y)) := by
  have h1 : ∀ z : Int, Calls Tryz.prog 91 #[.int .i64 z] w fun e w' => w = w' ∧ e = .returned (.bool false) := fun z => by
    go_enter Tryz.func91, Tryz.ntmps91
    go_wp2
    go_ret
    exact ⟨rfl, by simp⟩
  have H1 := Lib.hid h1
  clear h1
  unfold cmpI
  rcases Int.lt_trichotomy x y with h | h | h
  · go_enter Tryz.func66, Tryz.ntmps66
    go_wp2_with (go_at_call 91; refine (H1.out _).mono ?_; rintro e w' ⟨rfl, rfl⟩)
    go_ret
    exact ⟨rfl, rfl⟩
  · subst h
    go_enter Tryz.func66, Tryz.ntmps66
    go_wp2_with (go_at_call 91; refine (H1.out _).mono ?_; rintro e w' ⟨rfl, rfl⟩)
    go_ret
    exact ⟨rfl, by simp⟩
  · go_enter Tryz.func66, Tryz.ntmps66
    go_wp2_with (go_at_call 91; refine (H1.out _).mono ?_; rintro e w' ⟨rfl, rfl⟩)
    go_ret
    exact ⟨rfl, rfl⟩

set_option maxRecDepth 100000 in
set_option maxHeartbeats 2000000 in
theorem back1_in (F : Fence) (n : Nat) (hF : F.fn 92) (hro : F.round = none) (hn : 1 ≤ n) (l Ba n0 : Nat) (v : Value) (xs : List Nat) (hx : Limbs xs) (hlen : xs.length ≤ 1000000)
    (J Jx : List (IdxLimb xs.length) → World → Prop)
    (hY : ∀ pre x W, J pre W → pre.length < xs.length → YieldAt F (n - 1) Tryz.prog l (encLimb x) W fun e W' =>
      (e = .returned (.bool true) ∧ J (pre ++ [x]) W' ∧ Kp0 n0 Ba W W') ∨ (e = .returned (.bool false) ∧ Jx (pre ++ [x]) W'))
    (W : World) (ha : W.cell? ⟨Ba, 0, none⟩ = some v) (hv : Reads .u32 W v xs)
    (hvb : ∀ a n c, v = .slice (some a) n c → xs ≠ [] → a.block < n0) (h0 : J [] W) :
    CallsIn F n Tryz.prog 92 #[.func (.yield l) #[] #[], .pointer (some ⟨Ba, 0, none⟩)] W fun e W' => (∃ v, e = .returned v) ∧
      ((∃ ys : List (IdxLimb xs.length), ys.map (·.1) = backPairs xs xs.length ∧ J ys W') ∨ (∃ pre : List (IdxLimb xs.length), pre.map (·.1) <+: backPairs xs xs.length ∧ Jx pre W')) := by
  obtain ⟨a, cap, rfl, hc, hmx⟩ := hv.form
  unfold maxLen at hmx
  refine callsIn_of_wp Tryz.func92 rfl hF ?_ hro
  simp only [Tryz.ntmps92, List.size_toArray, List.length_cons, List.length_nil, Nat.reduceAdd, Nat.reduceSub, Array.replicate_succ, Array.replicate_zero, List.push_toArray, List.append_toArray, List.nil_append, List.cons_append]
  gi_wp2
  gi_loopw [3] (fun i wr => ∃ (m : Nat) (pre : List (IdxLimb xs.length)), m ≤ xs.length ∧ i = .int .i64 ((m : Int) - 1) ∧ pre.map (·.1) = backPairs xs (xs.length - m) ∧ J pre wr ∧ Kp0 n0 Ba W wr)
    (fun i _ => (intOf i + 1).toNat)
  case atStart => exact ⟨xs.length, [], Nat.le_refl _, rfl, by simp [backPairs], h0, Kp0.refl _ _ _⟩
  case round =>
    obtain ⟨m, pre, hm, hi, hpre, hJs, hnx⟩ := hrel
    have hplen : pre.length = xs.length - m := by have := congrArg List.length hpre; simpa [backPairs_length] using this
    have ham : wr.cell? ⟨Ba, 0, none⟩ = some (.slice a xs.length cap) := hnx.cell.trans ha
    cases m with
    | zero =>
      rw [show ((0 : Nat) : Int) - 1 = -1 from rfl] at hi
      subst hi
      clear hplen
      have HP := Lib.hid hpre
      clear hpre
      gi_wp2
      go_end0
      exact ⟨⟨_, rfl⟩, .inl ⟨_, HP.out, hJs⟩⟩
    | succ k =>
      rw [show ((k + 1 : Nat) : Int) - 1 = (k : Int) by omega] at hi
      subst hi
      have hlt : k < xs.length := by omega
      obtain ⟨x, hxk⟩ : ∃ x, xs[k]?.getD 0 = x := ⟨_, rfl⟩
      have hxb : x < B32 := by rw [← hxk]; exact limb_getD hx k
      obtain ⟨fn, tmps, assign, body, hy, hR⟩ := hY pre ⟨(k, x), hlt, hxb⟩ wr hJs (by omega)
      have hnext : (pre ++ [(⟨(k, x), hlt, hxb⟩ : IdxLimb xs.length)]).map (·.1) = backPairs xs (xs.length - k) := by
        rw [List.map_append, hpre, show xs.length - k = (xs.length - (k + 1)) + 1 by omega, backPairs_succ, show xs.length - 1 - (xs.length - (k + 1)) = k by omega, hxk]; rfl
      simp only [encLimb] at hy
      have hvr := hv.belowAt hvb hnx.1
      clear hpre hplen
      have HN := Lib.hid hnext
      clear hnext
      have hix := hvr.index und_limbs size_limb k .i64
      have hcell := hvr.cell k hlt
      rw [hxk] at hcell
      clear hxk
      gi_wp2
      refine hR.mono ?_
      rintro e W3 (⟨rfl, hJ3, hk3⟩ | ⟨rfl, hJx3⟩)
      · gi_wp2
        go_roundw
        case rel => exact ⟨k, _, by omega, rfl, HN.out, hJ3, hnx.trans hk3⟩
        case measure => simp [intOf]
      · gi_wp2
        refine bodyPost_ret (results_none rfl _ _ _) rfl ?_
        exact ⟨⟨_, rfl⟩, .inr ⟨_, by rw [HN.out]; exact backPairs_prefix xs (by omega), hJx3⟩⟩

set_option maxHeartbeats 1000000 in
theorem back_any (v : Value) (w : World) (hv : ∃ a n cap, v = .slice a n cap) :
    Calls Tryz.prog 67 #[v] w fun e w' =>
      e = .returned (.func (.func 92) #[] #[.pointer (some ⟨w.heap.size, 0, none⟩)]) ∧
      w.alloc (.cells #[v] 22) = w' := by
  obtain ⟨a, n, cap, rfl⟩ := hv
  go_enter Tryz.func67, Tryz.ntmps67
  go_wp2
  go_ret
  exact ⟨rfl, rfl⟩

theorem back_stops (F : Fence) (n : Nat) (hF : F.fn 92) (hro : F.round = none) (hn : 1 ≤ n) (Ba n0 : Nat) (v : Value) (xs : List Nat) (hx : Limbs xs) (hlen : xs.length ≤ 1000000)
    (w : World) (hBa : Ba < w.heap.size) (hn0 : n0 ≤ w.heap.size) (ha : w.cell? ⟨Ba, 0, none⟩ = some v) (hv : Reads .u32 w v xs)
    (hvb : ∀ a n c, v = .slice (some a) n c → xs ≠ [] → a.block < n0) :
    SeqStopsK F n Tryz.prog 92 #[.pointer (some ⟨Ba, 0, none⟩)] (encLimb (n := xs.length)) (Kp0 n0 Ba)
      (fun ys => ys.map (·.1) = backPairs xs xs.length) (fun pre => pre.map (·.1) <+: backPairs xs xs.length) xs.length w := fun l J Jx W hW _ _ hY h0 => by
  have hB0 := hW.mono hn0
  exact back1_in F n hF hro hn l Ba n0 v xs hx hlen J Jx hY W ((hW.cell (p := ⟨Ba, 0, none⟩) hBa).trans ha) (hv.belowAt hvb hB0) hvb h0

/-- a loop over the limbs from the end on, at the wide fence: its body keeps what lay below n0, and an invariant -/
theorem range_back {g : Operand} {p1 p2 : Tmp} {assign body : Code} {Q : Exit → Act → World → Prop} {a : Act} {w : World} (d1 d2 : Nat) (Ba n0 : Nat) (v : Value) (xs : List Nat)
    (hg : a.eval g = .func (.func 92) #[] #[.pointer (some ⟨Ba, 0, none⟩)])
    (hx : Limbs xs) (hlen : xs.length ≤ 1000000) (hBa : Ba < w.heap.size) (hn0 : n0 ≤ w.heap.size) (ha : w.cell? ⟨Ba, 0, none⟩ = some v) (hv : Reads .u32 w v xs)
    (hvb : ∀ a n c, v = .slice (some a) n c → xs ≠ [] → a.block < n0)
    (I : List (IdxLimb xs.length) → World → Prop) (Ix : Code → List (IdxLimb xs.length) → World → Prop) (hI : OwnFrom w.heap.size I) (hIx : ∀ c, OwnFrom w.heap.size (Ix c)) (h0 : I [] w)
    (hassign : ∀ (l : Nat) (x : IdxLimb xs.length) (W : World) (K : Act → World → Prop), K (boundFrame a p1 p2 d1 d2 (.int .i64 (x.1.1 : Int)) (.int .u32 (x.1.2 : Int))) W →
      assign.wpIn (Fence.wide.inRound l) 7 Tryz.prog (Exit.then K (fun _ _ _ => False)) { tmps := (a.tmps.setIfInBounds p1 (.int .i64 (x.1.1 : Int))).setIfInBounds p2 (.int .u32 (x.1.2 : Int)), defers := [] } W)
    (hbody : ∀ (l : Nat) (pre : List (IdxLimb xs.length)) (x : IdxLimb xs.length) (W : World), I pre W → pre.length < xs.length → body.wpIn (Fence.wide.inRound l) 7 Tryz.prog (ownPostG w.heap.size (Kp0 n0 Ba) I Ix (pre ++ [x]) W) (boundFrame a p1 p2 d1 d2 (.int .i64 (x.1.1 : Int)) (.int .u32 (x.1.2 : Int))) W)
    (hdone : ∀ (D : Nat) (ys : List (IdxLimb xs.length)) (W : World), w.heap.size ≤ D → ys.map (·.1) = backPairs xs xs.length → I ys W → W.heap[D]? = some (.deferred (some [])) → Q .normal { a with defers := { target := .collected D, args := #[] } :: a.defers } W)
    (hstop : ∀ (D : Nat) (c : Code) (pre : List (IdxLimb xs.length)) (W : World), w.heap.size ≤ D → pre.map (·.1) <+: backPairs xs xs.length → Ix c pre W → W.heap[D]? = some (.deferred (some [])) → c.wpIn Fence.wide 9 Tryz.prog Q { a with defers := { target := .collected D, args := #[] } :: a.defers } W) :
    (Code.rangeFunc g #[p1, p2] assign body).wpIn Fence.wide 9 Tryz.prog Q a w :=
  wpIn_rangeFunc_ownG (n := 9) (F := Fence.wide) rfl (by omega) (gf := 92) (lb := #[.pointer (some ⟨Ba, 0, none⟩)]) hg trivial (enters_of Tryz.func92 (by kernel_rfl) rfl)
    (back_stops Fence.wide (9 - 1) trivial rfl (by omega) Ba n0 v xs hx hlen w hBa hn0 ha hv hvb) Kp0.trans (Kp0.book hn0 hBa) (Below.refl _ _) (fun _ => rfl) I Ix hI hIx h0
    (fun x => boundFrame a p1 p2 d1 d2 (.int .i64 (x.1.1 : Int)) (.int .u32 (x.1.2 : Int))) (fun l x W K hK => by simpa [encLimb] using hassign l x W K hK) hbody hdone hstop

end Go.Proofs.YtlghjfpkfdnfoaaGreatDoor

/- num.compare -/
namespace Go.Proofs.YtlghjfpkfdnfoaaGreatDoor
open Go Go.RowKit Go.Shelf
attribute [local go_sem] Oper.semAt_some

set_option maxRecDepth 100000 in
set_option maxHeartbeats 400000 in
theorem compare_ne (va vb : Value) (xa xb : List Nat) (w : World) (ha : Reads .u32 w va xa) (hb : Reads .u32 w vb xb) (hca : Canon xa) (hcb : Canon xb) (hne : xa.length ≠ xb.length) :
    Calls Tryz.prog 31 #[va, vb] w fun e w' => Below w.heap.size w w' ∧ e = .returned (.int .i64 (cmpI (val xa : Int) (val xb : Int))) := by
  have hc := cmp_len hca hcb hne
  have HC := Lib.hid hc
  clear hc
  obtain ⟨aa, ca, rfl, hca, hma⟩ := ha.form
  obtain ⟨ab, cb, rfl, hcb, hmb⟩ := hb.form
  unfold maxLen at hma hmb
  have hbn : ((xa.length : Int) != (xb.length : Int)) = true := by rw [bne_iff_ne]; omega
  go_enter Tryz.func31, Tryz.ntmps31
  go_wp2_with (go_at_call 66; refine (cmp_int _ _ _).mono ?_; rintro e w' ⟨rfl, rfl⟩)
  refine bodyPost_ret (v := .int .i64 (cmpI (xa.length : Int) (xb.length : Int))) (by simp [results, Tryz.results31, go_sem]) rfl ⟨((Below.refl _ _).alloc (Nat.le_refl _) _).alloc (by simp) _, by rw [HC.out]⟩

/-- between two rounds: all limbs so far are the same -/
def CmpInv (w : World) (va vb : Value) (xb : List Nat) (ps : List (Nat × Nat)) (W : World) : Prop :=
  (∀ p ∈ ps, p.2 = xb[p.1]?.getD 0) ∧ (∃ r, Boxed W (w.heap.size + 1) 3 r) ∧ Boxed W (w.heap.size + 2) 22 va ∧ Boxed W w.heap.size 22 vb ∧ Below w.heap.size w W
/-- a round has returned: its limbs differ -/
def CmpStop (w : World) (xb : List Nat) (c : Code) (ps : List (Nat × Nat)) (W : World) : Prop :=
  c = .ret ∧ (∃ pre' p, ps = pre' ++ [p] ∧ (∀ p ∈ pre', p.2 = xb[p.1]?.getD 0) ∧ p.2 ≠ xb[p.1]?.getD 0 ∧ Boxed W (w.heap.size + 1) 3 (.int .i64 (cmpI (p.2 : Int) ((xb[p.1]?.getD 0 : Nat) : Int)))) ∧ Below w.heap.size w W
theorem cmpInv_own (B : Nat) {w : World} (hB : w.heap.size ≤ B) (va vb : Value) (xb : List Nat) {α : Type} (f : α → List (Nat × Nat)) : OwnFrom B (fun s W => CmpInv w va vb xb (f s) W) :=
  (ownFrom_pure _ _).and ((ownFrom_ex fun _ => ownFrom_boxed _ _ _).and ((ownFrom_boxed _ _ _).and ((ownFrom_boxed _ _ _).and (ownFrom_below (Nat.le_refl _) hB))))
theorem cmpStop_own (B : Nat) {w : World} (hB : w.heap.size ≤ B) (xb : List Nat) (c : Code) {α : Type} (f : α → List (Nat × Nat)) : OwnFrom B (fun s W => CmpStop w xb c (f s) W) :=
  (ownFrom_pure _ _).and ((ownFrom_ex fun _ => ownFrom_ex fun _ => (ownFrom_pure _ _).and ((ownFrom_pure _ _).and ((ownFrom_pure _ _).and (ownFrom_boxed _ _ _)))).and (ownFrom_below (Nat.le_refl _) hB))

set_option maxRecDepth 100000 in
set_option maxHeartbeats 2000000 in
theorem compare_eq (va vb : Value) (xa xb : List Nat) (w : World) (ha : Reads .u32 w va xa) (hb : Reads .u32 w vb xb) (hca : Canon xa) (hcb : Canon xb) (na : xa.length ≤ 1000000) (hl : xa.length = xb.length) :
    Calls Tryz.prog 31 #[va, vb] w fun e w' => Below w.heap.size w w' ∧ e = .returned (.int .i64 (cmpI (val xa : Int) (val xb : Int))) := by
  have hla := hca.1
  have hlb := hcb.1
  obtain ⟨aa, ca, rfl, hcca, hma⟩ := ha.form
  obtain ⟨ab, cb, rfl, hccb, hmb⟩ := hb.form
  unfold maxLen at hma hmb
  rw [← hl] at hb
  have HLL := Lib.hid hl
  rw [← hl]
  clear hl
  have hbn : ((xa.length : Int) != (xa.length : Int)) = false := by simp
  refine (callsIn_wide (n := 9)).1 ?_
  refine callsIn_of_wp_marks Tryz.func31 rfl trivial ?_ rfl
  simp only [Tryz.ntmps31, List.size_toArray, List.length_cons, List.length_nil, Nat.reduceAdd, Nat.reduceSub, Array.replicate_succ, Array.replicate_zero, List.push_toArray, List.append_toArray, List.nil_append, List.cons_append]
  gi_wp2_with (refine ⟨trivial, ?_⟩; gi_at_call 67; refine (callsIn_wide.2 (back_any _ _ ⟨_, _, _, rfl⟩)).mono ?_; rintro e w' ⟨rfl, rfl⟩)
  have b0 : Below w.heap.size w w := Below.refl _ _
  refine range_back 5 6 (w.heap.size + 2) w.heap.size (.slice aa xa.length ca) xa (by exact rfl) hla (by omega) (by simp) (by simp; omega) ?m2 (ha.below ?m3) ha.lt
    (fun pre W => CmpInv w (.slice aa xa.length ca) (.slice ab xa.length cb) xb (pre.map (·.1)) W)
    (fun c pre W => CmpStop w xb c (pre.map (·.1)) W)
    (cmpInv_own _ ?mB _ _ _ _) (fun c => cmpStop_own _ ?mB2 _ _ _) ?start ?assign ?body ?done ?stop
  case mB => simp; omega
  case mB2 => simp; omega
  case m2 => go_simp
  case m3 => exact ((b0.alloc (Nat.le_refl _) _).alloc (by simp) _).alloc (by simp; omega) _
  case start =>
    refine ⟨by simp, ⟨.int .i64 0, ?_⟩, ?_, ?_, ?_⟩
    · exact Boxed.at ((Boxed.new _ _ _).alloc _) (by simp)
    · exact Boxed.at (Boxed.new _ _ _) (by simp)
    · exact ((Boxed.new _ _ _).alloc _).alloc _
    · exact ((b0.alloc (Nat.le_refl _) _).alloc (by simp) _).alloc (by simp; omega) _
  case assign =>
    intro l x W K hK
    gi_wp2
    exact hK
  case body =>
    rintro l pre x W ⟨hpre, ⟨r, bc⟩, bs, bl, bw⟩ hlt
    have hbB := bw.size
    obtain ⟨⟨i, y⟩, hi1, hi2⟩ := x
    have hmap : (pre ++ [(⟨(i, y), hi1, hi2⟩ : IdxLimb xa.length)]).map (·.1) = pre.map (·.1) ++ [(i, y)] := by simp
    dsimp only at *
    have HM := Lib.hid hmap
    have HP := Lib.hid hpre
    clear hmap hpre
    have hi3 : i < xb.length := by have := HLL.out; omega
    have hcell := (hb.below bw).cell i hi3
    have hix := hb.index und_limbs size_limb i .i64
    obtain ⟨z, hz⟩ : ∃ z, xb[i]?.getD 0 = z := ⟨_, rfl⟩
    rw [hz] at hcell
    have HZ := Lib.hid hz
    clear hz
    have hbc := bc.cell
    have hfc := bc.frozen
    have hcf := bl.cell
    by_cases hyz : y = z
    · subst hyz
      simp only [boundFrame]
      gi_wp2_with fail
      refine ⟨KeepsFrom.refl _ _, Kp0.refl _ _ _, ?_⟩
      refine ⟨?_, ⟨r, bc⟩, bs, bl, bw⟩
      rw [HM.out]
      intro p hp
      rcases List.mem_append.1 hp with h1 | h1
      · exact HP.out p h1
      · have : p = (i, y) := by simpa using h1
        rw [this]; exact HZ.out.symm
    · have hbz : ((y : Int) != (z : Int)) = true := by rw [bne_iff_ne]; omega
      simp only [boundFrame]
      gi_wp2_with (refine ⟨trivial, ?_⟩; gi_at_call 68; refine (CallsIn.inRound l (callsIn_wide.2 (cmp_u32 _ _ _))).mono ?_; rintro e w' ⟨rfl, rfl⟩)
      have hF : Chg (fun k => k = w.heap.size + 1) W (W.setCell ⟨w.heap.size + 1, 0, none⟩ (.int .i64 (cmpI (y : Int) (z : Int)))) := (Chg.refl (fun k => k = w.heap.size + 1) W).setCell (p := ⟨w.heap.size + 1, 0, none⟩) (.inl rfl) _
      refine ⟨hF.keepsFrom _ (by rintro k rfl; exact Boxed.isCells bc), rfl, ⟨pre.map (·.1), (i, y), HM.out, HP.out, ?_, ?_⟩, bw.trans (hF.below (by rintro k rfl; omega) hbB)⟩
      · rw [HZ.out]; exact hyz
      · rw [HZ.out]; exact Boxed.set _ bc
  case done =>
    rintro D ys W hD hys ⟨hpre, ⟨r, bc⟩, bs, bl, bw⟩ hK
    rw [hys] at hpre
    have heq : xa = xb := by
      apply List.ext_getElem HLL.out
      intro i h1 h2
      have := hpre (xa.length - 1 - (xa.length - 1 - i), xa[xa.length - 1 - (xa.length - 1 - i)]?.getD 0) (List.mem_map.2 ⟨xa.length - 1 - i, by simp; omega, rfl⟩)
      rw [show xa.length - 1 - (xa.length - 1 - i) = i by omega] at this
      simpa [List.getElem?_eq_getElem h1, List.getElem?_eq_getElem h2] using this
    have hbB := bw.size
    have hbc := bc.cell
    have hfc := bc.frozen
    have HE := Lib.hid heq
    clear heq hpre hys
    gi_wp2
    have hF : Chg (fun k => k = w.heap.size + 1) W (W.setCell ⟨w.heap.size + 1, 0, none⟩ (.int .i64 0)) := (Chg.refl (fun k => k = w.heap.size + 1) W).setCell (p := ⟨w.heap.size + 1, 0, none⟩) (.inl rfl) _
    have bc2 := Boxed.set (.int .i64 0) bc
    have hK1 : (W.setCell ⟨w.heap.size + 1, 0, none⟩ (.int .i64 0)).heap[D]? = some (.deferred (some [])) := (hF.block D (Array.getElem?_eq_some_iff.1 hK).1 (by simp at hD; omega)).trans hK
    refine ⟨by simp, .inl ⟨_, _, rfl, run_takeDeferred hK1, ?_⟩⟩
    have bc3 := bc2.kept (grownBy_putObj' _ D (.deferred none)) (by simp at hD ⊢; omega)
    have hcc := bc3.cell
    refine ⟨.int .i64 0, by simp [results, Tryz.results31, go_sem, hcc], (bw.trans (hF.below (by rintro k rfl; omega) hbB)).trans (belowK_b (w := w) (Nat.le_refl _) _ D _ _ (by simp at hD; omega) hK1 rfl rfl), ?_⟩
    rw [← HE.out, cmpI_self]
  case stop =>
    rintro D c pre W hD hpf ⟨rfl, ⟨pre', p, hpp, hall, hne, bc⟩, bw⟩ hK
    have hbB := bw.size
    obtain ⟨k, hk, hpk⟩ : ∃ k, k < xa.length ∧ pre.map (·.1) = backPairs xa k ++ [(xa.length - 1 - k, xa[xa.length - 1 - k]?.getD 0)] := by
      have hlen : (pre.map (·.1)).length = pre'.length + 1 := by rw [hpp]; simp
      have hle : (pre.map (·.1)).length ≤ xa.length := by have := hpf.length_le; rwa [backPairs_length] at this
      refine ⟨pre'.length, by omega, ?_⟩
      rw [← backPairs_succ]
      have h1 := List.prefix_iff_eq_take.1 hpf
      rw [hlen] at h1
      rw [h1]
      have h2 := List.prefix_iff_eq_take.1 (backPairs_prefix xa (show pre'.length + 1 ≤ xa.length by omega))
      rw [backPairs_length] at h2
      exact h2.symm
    rw [hpk] at hpp
    obtain ⟨e1, e2⟩ := List.append_inj' hpp rfl
    obtain rfl : (xa.length - 1 - k, xa[xa.length - 1 - k]?.getD 0) = p := by simpa using e2
    have hup : ∀ i, xa.length - 1 - k < i → i < xa.length → xa[i]?.getD 0 = xb[i]?.getD 0 := by
      intro i h1 h2
      have := hall (xa.length - 1 - (xa.length - 1 - i), xa[xa.length - 1 - (xa.length - 1 - i)]?.getD 0) (by rw [← e1]; exact List.mem_map.2 ⟨xa.length - 1 - i, by simp; omega, rfl⟩)
      rwa [show xa.length - 1 - (xa.length - 1 - i) = i by omega] at this
    have hval := cmp_at hla hlb HLL.out (xa.length - 1 - k) (by omega) hup hne
    have HV := Lib.hid hval
    clear hval hup hall hne hpk hpp e1 e2 hpf
    gi_wp2
    refine ⟨by simp, .inl ⟨_, _, rfl, run_takeDeferred hK, ?_⟩⟩
    have bc3 := bc.kept (grownBy_putObj' _ D (.deferred none)) (by simp at hD ⊢; omega)
    have hcc := bc3.cell
    refine ⟨.int .i64 (cmpI ((xa[xa.length - 1 - k]?.getD 0 : Nat) : Int) ((xb[xa.length - 1 - k]?.getD 0 : Nat) : Int)), by simp [results, Tryz.results31, go_sem, hcc], bw.trans (belowK_b (w := w) (Nat.le_refl _) _ D _ _ (by simp at hD; omega) hK rfl rfl), ?_⟩
    rw [HV.out]

theorem compare_any (va vb : Value) (xa xb : List Nat) (w : World) (ha : Reads .u32 w va xa) (hb : Reads .u32 w vb xb) (hca : Canon xa) (hcb : Canon xb) (na : xa.length ≤ 1000000) :
    Calls Tryz.prog 31 #[va, vb] w fun e w' => Below w.heap.size w w' ∧ e = .returned (.int .i64 (cmpI (val xa : Int) (val xb : Int))) := by
  by_cases hl : xa.length = xb.length
  · exact compare_eq va vb xa xb w ha hb hca hcb na hl
  · exact compare_ne va vb xa xb w ha hb hca hcb hl

end Go.Proofs.YtlghjfpkfdnfoaaGreatDoor

/- num.minus, num.timesPlus, num.shiftLeft -/
namespace Go.Proofs.YtlghjfpkfdnfoaaGreatDoor
open Go Go.RowKit Go.Shelf
attribute [local go_sem] Oper.semAt_some

theorem minus_word {d y c : Nat} (hd : d < 4294967296) (hy : y < 4294967296) (hc : c ≤ 1) {T : Int} (hT : IntKind.u64.wrap (IntKind.u64.wrap (IntKind.u64.wrap (d : Int) - IntKind.u64.wrap (y : Int)) - (c : Int)) = T) :
    Value.int .u32 (((d + B32 - (y + c)) % B32 : Nat) : Int) = .int .u32 (IntKind.u32.wrap T) ∧ Value.int .u64 ((1 - (d + B32 - (y + c)) / B32 : Nat) : Int) = .int .u64 (T / 9223372036854775808) := by
  subst hT
  simp only [IntKind.wrap_u64, IntKind.wrap_u32']
  unfold B32
  exact ⟨congrArg _ (by omega), congrArg _ (by omega)⟩

set_option maxHeartbeats 2000000 in
set_option maxRecDepth 100000 in
theorem minus_any (va vb : Value) (xa xb : List Nat) (w : World) (ha : Reads .u32 w va xa) (hb : Reads .u32 w vb xb) (hla : Limbs xa) (hlb : Limbs xb) (na : xa.length ≤ 100000) (hll : xb.length ≤ xa.length) (hle : val xb ≤ val xa) :
    Calls Tryz.prog 81 #[va, vb] w fun e w' => Below w.heap.size w w' ∧ ∃ v cs, e = .returned v ∧ Reads .u32 w' v cs ∧ Canon cs ∧ val cs = val xa - val xb := by
  have hend := minusFold_end hla hlb hle hll
  have HE := Lib.hid hend
  clear hend hle
  obtain ⟨aa, ca, rfl, hca, hma⟩ := ha.form
  obtain ⟨ab, cb, rfl, hcb, hmb⟩ := hb.form
  unfold maxLen at hma hmb
  obtain ⟨inf, hi, hzz⟩ := Option.map_eq_some_iff.1 info_limb
  simp only [Prod.mk.injEq] at hzz
  obtain ⟨hz0, hz1, hz2⟩ := hzz
  refine (callsIn_wide (n := 9)).1 ?_
  refine callsIn_of_wp_marks Tryz.func81 rfl trivial ?_ rfl
  simp only [Tryz.ntmps81, List.size_toArray, List.length_cons, List.length_nil, Nat.reduceAdd, Nat.reduceSub, Array.replicate_succ, Array.replicate_zero, List.push_toArray, List.append_toArray, List.nil_append, List.cons_append]
  have hmk : ∀ w, (Instr.makeSlice 22 (.int .i64 0) (.int .i64 (xa.length : Int))).run Tryz.prog w = .ok (.slice (some ⟨w.heap.size, 0, none⟩) 0 xa.length) (w.alloc (.cells (zeros xa.length) 52)) := fun w => by
    simpa using make_limbs 0 (xa.length : Int) (by omega) (by omega) (by omega) w
  gi_wp2_with (refine ⟨trivial, ?_⟩; gi_at_call 90; refine (callsIn_wide.2 (limbs_any _ _ _ ⟨_, _, _, rfl⟩)).mono ?_; rintro e w' ⟨rfl, rfl⟩)
  clear hmk
  have r0 := make_limbs_own (w.alloc (.cells #[.slice aa xa.length ca] 22)) w.heap.size xa.length (by simp) (by omega)
  have r1 := (((r0.alloc (.cells #[.slice (some ⟨w.heap.size + 1, 0, none⟩) 0 xa.length] 22)).alloc (.cells #[.int .u64 0] 77)).alloc (.cells #[.slice ab xb.length cb] 22)).alloc (.cells #[.int .i64 (xa.length : Int)] 3)
  rw [show (w.alloc (.cells #[.slice aa xa.length ca] 22)).heap.size = w.heap.size + 1 by simp] at r1
  clear r0
  have b0 : Below w.heap.size w w := Below.refl _ _
  refine range_limbs 7 8 (w.heap.size + 5) (w.heap.size + 4) w.heap.size xa.length (.slice ab xb.length cb) xb (by exact rfl) hlb (by omega) (by simp) (by simp) (by simp; omega) ?m1 ?m2 (hb.below ?m3) hb.lt
    (fun pre W => ∃ v, Boxed W (w.heap.size + 2) 22 v ∧ W.ownsRow w.heap.size 52 1 v pre.length (enc32 (minusFold xa (pre.map (·.1))).1) ∧ Boxed W (w.heap.size + 3) 77 (.int .u64 ((minusFold xa (pre.map (·.1))).2 : Int)) ∧
      Boxed W (w.heap.size + 4) 22 (.slice ab xb.length cb) ∧ Boxed W w.heap.size 22 (.slice aa xa.length ca) ∧ Below w.heap.size w W)
    (fun _ _ _ => False)
    (ownFrom_ex fun v => (ownFrom_boxed _ _ _).and ((ownFrom_row _ _ _ _ _ _).and ((ownFrom_boxed _ _ _).and ((ownFrom_boxed _ _ _).and ((ownFrom_boxed _ _ _).and (ownFrom_below (Nat.le_refl _) ?mB))))))
    (fun _ _ _ _ _ h _ _ => h.elim) ?start ?assign ?body ?done ?stop
  case mB => simp; omega
  case m1 => go_simp
  case m2 => go_simp
  case m3 => exact (((((b0.alloc (Nat.le_refl _) _).alloc (by simp) _).alloc (by simp; omega) _).alloc (by simp; omega) _).alloc (by simp; omega) _).alloc (by simp; omega) _
  case start =>
    refine ⟨_, ?_, by simpa [minusFold, enc32] using r1, ?_, ?_, ?_, ?_⟩
    · exact Boxed.at ((((Boxed.new _ _ _).alloc _).alloc _).alloc _) (by simp)
    · exact Boxed.at (((Boxed.new _ _ _).alloc _).alloc _) (by simp)
    · exact Boxed.at ((Boxed.new _ _ _).alloc _) (by simp)
    · exact (((((Boxed.new _ _ _).alloc _).alloc _).alloc _).alloc _).alloc _
    · exact (((((b0.alloc (Nat.le_refl _) _).alloc (by simp) _).alloc (by simp; omega) _).alloc (by simp; omega) _).alloc (by simp; omega) _).alloc (by simp; omega) _
  case assign =>
    intro l x W K hK
    gi_wp2
    exact hK
  case body =>
    rintro l pre x W ⟨v, bv, rv, bc, bs, bl, bw⟩ hlt
    simp only [boundFrame]
    gi_wp2
    have hbB := bw.size
    obtain ⟨⟨i, y⟩, hi1, hi2⟩ := x
    have hcle := (minusFold_limbs xa (pre.map (·.1))).2
    have hnext := minusFold_snoc xa (pre.map (·.1)) (i, y)
    have hmap : (pre ++ [(⟨(i, y), hi1, hi2⟩ : IdxLimb xa.length)]).map (·.1) = pre.map (·.1) ++ [(i, y)] := by simp
    have hd := limb_getD hla i
    dsimp only at *
    have hcell := (ha.below bw).cell i hi1
    generalize hst : minusFold xa (pre.map (·.1)) = st at *
    obtain ⟨r, c⟩ := st
    simp only [minusStep] at hnext
    dsimp only at *
    generalize xa[i]?.getD 0 = d at *
    clear hst
    have HN := Lib.hid hnext
    have HM := Lib.hid hmap
    clear hnext hmap
    unfold B32 at hi2 hd
    have hix := ha.index und_limbs size_limb i .i64
    have hbc := bc.cell
    have hfc := bc.frozen
    have hbl := bl.cell
    have hbv := bv.cell
    have hfv := bv.frozen
    refine region_tail (.inr ⟨_, rfl⟩) 10 (by kernel_rfl) (by kernel_rfl) ?_
    simp only [List.take_succ_cons, List.take_zero, List.drop_succ_cons, List.drop_zero]
    repeat still_step
    refine wpStill_nil ?_
    change wpListIn _ _ _ _ _ _ _ W.drew
    generalize hT : IntKind.u64.wrap (IntKind.u64.wrap (IntKind.u64.wrap (d : Int) - IntKind.u64.wrap (y : Int)) - (c : Int)) = T
    have HT := Lib.hid hT
    clear hT
    have hrowA := (rv.alloc (.cells #[.int .u32 (IntKind.u32.wrap T)] 52)).drew
    gi_wp2_with (gi_at_builtin; refine wpListIn_append_own _ rfl _ _ 22 rfl w.heap.size 52 inf (.int .u32 0) 1 4 und_limbs hi hz0 hz1 hz2 rfl (by decide) _ _ _ rfl hrowA ⟨W.heap.size, 0, none⟩ 1 1 [.int .u32 (IntKind.u32.wrap T)] rfl rfl (cell_new_drew _ _ _ _ (by simp)) (by simp [Value.oneCell']) (by unfold maxLen; omega) (by omega) (by simp; omega) ?_; intro v' w1 hown' hgrow _; obtain ⟨g', cap', rfl⟩ := ownsRow_succ hown'; have hG := grown_step (by omega) (Nat.le_refl _) (by omega) (by omega) hbB (by decide) (by decide) bv bc rv (((Chg.refl _ W).alloc (.cells #[.int .u32 (IntKind.u32.wrap T)] 52)).drew) (Boxed.drew (Boxed.alloc bc _)) hgrow hown'; have hcc1 := hG.boxC.cell; have hcv1 := hG.boxR.cell; have hfc1 := hG.boxC.frozen; have hfv1 := hG.boxR.frozen)
    obtain ⟨hw1, hw2⟩ := minus_word hd hi2 hcle HT.out
    obtain ⟨f1, f2, f3, f4, f5, f6⟩ := hG.fin (.int .u64 (T / 9223372036854775808))
    have f7 := f6 _ _ _ (.inl (by decide)) (by omega) (by omega) bs
    refine ⟨f5 _, Kp0.boxed f4 bs f7, _, f1, ?_, ?_, f7, f6 _ _ _ (.inl (by decide)) (by omega) (by omega) bl, bw.trans f4⟩
    · rw [HM.out, HN.out, enc32_snoc, hw1, List.length_append]
      exact f3
    · rw [HM.out, HN.out, hw2]
      exact f2
  case done =>
    rintro D ys W hD hys ⟨v, bv, rv, bc, bs, bl, bw⟩ hK
    have hlim := (minusFold_limbs xa (limbPairs xb xa.length)).1
    have hylen : ys.length = xa.length := by have := congrArg List.length hys; simpa [limbPairs_length] using this
    rw [hys] at rv
    rw [hylen] at rv
    clear hys hylen bc
    generalize minusFold xa (limbPairs xb xa.length) = st at *
    obtain ⟨r, c⟩ := st
    dsimp only at *
    have hbv := bv.cell
    have hrd : Reads .u32 W v r := Reads.ofOwn rv
    gi_wp2_with (refine ⟨trivial, ?_⟩; gi_at_call 57; refine (callsIn_wide.2 (trim_any _ _ _ hrd)).mono ?_; rintro e w' ⟨rfl, v3, rfl, hr3⟩)
    refine ⟨by simp, .inl ⟨_, _, rfl, run_takeDeferred hK, ?_⟩⟩
    refine ⟨_, results_tmp rfl _ _ _, bw.trans (belowK_b (w := w) (Nat.le_refl _) W D _ _ (by simp at hD; omega) hK rfl rfl), v3, _, rfl, hr3.putObj hK rfl _, canon_trimmed hlim, ?_⟩
    rw [val_trimmed, HE.out]
  case stop =>
    rintro D c pre W _ _ h _
    exact h.elim

end Go.Proofs.YtlghjfpkfdnfoaaGreatDoor

/- num.sum, num.negative, num.difference -/
namespace Go.Proofs.YtlghjfpkfdnfoaaGreatDoor
open Go Go.RowKit Go.Shelf

theorem canon_le_length {xs ys : List Nat} (hx : Canon xs) (hy : Canon ys) (h : val ys ≤ val xs) : ys.length ≤ xs.length := by
  rcases Nat.lt_or_ge xs.length ys.length with hl | hl
  · have h1 := val_lt hx.1
    have h2 := canon_pos hy (by intro e; subst e; simp at hl)
    have h3 : B32 ^ xs.length ≤ B32 ^ (ys.length - 1) := Nat.pow_le_pow_right (by decide) (by omega)
    omega
  · exact hl

set_option maxHeartbeats 1000000 in
set_option maxRecDepth 100000 in
theorem sum_same (na : Bool) (va vb : Value) (xa xb : List Nat) (w : World) (ha : Reads .u32 w va xa) (hb : Reads .u32 w vb xb) (hla : Limbs xa) (hlb : Limbs xb) (la : xa.length ≤ 100000) (lb : xb.length ≤ 100000) :
    Calls Tryz.prog 110 #[.agg #[.bool na, va], .agg #[.bool na, vb]] w fun e w' => Below w.heap.size w w' ∧ ∃ v cs, e = .returned (.agg #[.bool (na && decide (0 < cs.length)), v]) ∧ Reads .u32 w' v cs ∧ Canon cs ∧ val cs = val xa + val xb := by
  have h0 := twoInts_start (na := na) (nb := na) ha hb
  obtain ⟨aa, ca, rfl, hca, hma⟩ := ha.form
  obtain ⟨ab, cb, rfl, hcb, hmb⟩ := hb.form
  have H0 := Lib.hid h0
  clear h0
  go_enter Tryz.func110, Tryz.ntmps110
  go_wp2_with fail
  go_region_held3 (fun W => W.cell? ⟨w.heap.size, 0, none⟩ = some (.bool na) ∧ W.cell? ⟨w.heap.size, 1, none⟩ = some (.slice aa xa.length ca) ∧ W.cell? ⟨w.heap.size + 1, 0, none⟩ = some (.bool na) ∧ W.cell? ⟨w.heap.size + 1, 1, none⟩ = some (.slice ab xb.length cb) ∧ TwoRest w (.slice aa xa.length ca) (.slice ab xb.length cb) xa xb W)
    (first | exact ⟨H0.out.1, H0.out.2.1, H0.out.2.2.1, H0.out.2.2.2.1, H0.out.2.2.2.2.drew⟩ | (go_split_ands; exact twoInts_step (by assumption) (by assumption) (by assumption) (by assumption) (by assumption) (by assumption)) | (go_split_ands; exact twoInts_store (by assumption) (by assumption) (by assumption) (by assumption) (by assumption) _ _ _ _))
    (first | (go_at_call 79; go_split_ands; refine (plus_any _ _ xa xb _ (TwoRest.ra (by assumption)) (TwoRest.rb (by assumption)) hla hlb la lb).mono ?_; rintro e w' ⟨hbe, v, cs, rfl, h1, h2, h3⟩; obtain ⟨a3, c3, rfl, hc3, hm3⟩ := h1.form) | (go_at_call 51; go_split_ands; refine (signed_any _ _ _ _ _).mono ?_; rintro e w'' ⟨hbe2, rfl⟩; obtain ⟨u0, u1, u2, u3, q1, q2, q3, q4⟩ := TwoRest.cells (TwoRest.step (by assumption) hbe2)))
  obtain ⟨s1, s2⟩ := two_reads (b := w.heap.size + 1 + 1) q1 q2 (.bool (na && decide (0 < cs.length))) (.slice a3 cs.length c3)
  have hk := two_kept (b := w.heap.size + 1 + 1) (h1.below hbe2) q1 q2 (.bool (na && decide (0 < cs.length))) (.slice a3 cs.length c3)
  rename_i hT
  replace hT := hT.2.2.2.2.below
  go_wp2
  refine bodyPost_ret (v := .agg #[.bool (na && decide (0 < cs.length)), .slice a3 cs.length c3]) (by simp [results, Tryz.results110, go_sem, loadCellsFrom, s1, s2]) rfl ⟨hT, _, cs, ?_, hk, h2, h3⟩
  rfl

set_option maxHeartbeats 1000000 in
set_option maxRecDepth 100000 in
theorem sum_ge (na nb : Bool) (va vb : Value) (xa xb : List Nat) (w : World) (ha : Reads .u32 w va xa) (hb : Reads .u32 w vb xb) (hla : Limbs xa) (hlb : Limbs xb) (la : xa.length ≤ 100000) (_lb : xb.length ≤ 100000) (hka : Canon xa) (hkb : Canon xb) (hn : na ≠ nb) (hle : val xb ≤ val xa) :
    Calls Tryz.prog 110 #[.agg #[.bool na, va], .agg #[.bool nb, vb]] w fun e w' => Below w.heap.size w w' ∧ ∃ v cs, e = .returned (.agg #[.bool (na && decide (0 < cs.length)), v]) ∧ Reads .u32 w' v cs ∧ Canon cs ∧ val cs = val xa - val xb := by
  have h0 := twoInts_start (na := na) (nb := nb) ha hb
  obtain ⟨aa, ca, rfl, hca, hma⟩ := ha.form
  obtain ⟨ab, cb, rfl, hcb, hmb⟩ := hb.form
  have H0 := Lib.hid h0
  clear h0
  have hl := canon_le_length hka hkb hle
  have hi : (0 : Int) ≤ cmpI (val xa) (val xb) := by unfold cmpI; split <;> (try split) <;> omega
  obtain rfl : nb = !na := by cases na <;> cases nb <;> first | rfl | exact absurd rfl hn
  generalize hcv : cmpI (val xa) (val xb) = cv at hi
  go_enter Tryz.func110, Tryz.ntmps110
  go_wp2_with (go_at_call 31; go_loud (refine (compare_any _ _ xa xb _ H0.out.2.2.2.2.ra H0.out.2.2.2.2.rb hka hkb (by omega)).mono ?_; rintro e w1 ⟨hbe1, rfl⟩; rw [hcv]; have H1 := Lib.hid (twoInts_step H0.out.1 H0.out.2.1 H0.out.2.2.1 H0.out.2.2.2.1 H0.out.2.2.2.2 hbe1)))
  go_region_held3 (fun W => W.cell? ⟨w.heap.size, 0, none⟩ = some (.bool na) ∧ W.cell? ⟨w.heap.size, 1, none⟩ = some (.slice aa xa.length ca) ∧ W.cell? ⟨w.heap.size + 1, 0, none⟩ = some (.bool !na) ∧ W.cell? ⟨w.heap.size + 1, 1, none⟩ = some (.slice ab xb.length cb) ∧ TwoRest w (.slice aa xa.length ca) (.slice ab xb.length cb) xa xb W)
    (first | exact ⟨H1.out.1, H1.out.2.1, H1.out.2.2.1, H1.out.2.2.2.1, H1.out.2.2.2.2.drew⟩ | (go_split_ands; exact twoInts_step (by assumption) (by assumption) (by assumption) (by assumption) (by assumption) (by assumption)) | (go_split_ands; exact twoInts_store (by assumption) (by assumption) (by assumption) (by assumption) (by assumption) _ _ _ _))
    (first | (go_at_call 81; go_split_ands; refine (minus_any _ _ xa xb _ (TwoRest.ra (by assumption)) (TwoRest.rb (by assumption)) hla hlb la hl hle).mono ?_; rintro e w' ⟨hbe, v, cs, rfl, h1, h2, h3⟩; obtain ⟨a3, c3, rfl, hc3, hm3⟩ := h1.form) | (go_at_call 51; go_split_ands; refine (signed_any _ _ _ _ _).mono ?_; rintro e w'' ⟨hbe2, rfl⟩; obtain ⟨u0, u1, u2, u3, q1, q2, q3, q4⟩ := TwoRest.cells (TwoRest.step (by assumption) hbe2)))
  obtain ⟨s1, s2⟩ := two_reads (b := w.heap.size + 1 + 1) q1 q2 (.bool (na && decide (0 < cs.length))) (.slice a3 cs.length c3)
  have hk := two_kept (b := w.heap.size + 1 + 1) (h1.below hbe2) q1 q2 (.bool (na && decide (0 < cs.length))) (.slice a3 cs.length c3)
  rename_i hT
  replace hT := hT.2.2.2.2.below
  go_wp2
  refine bodyPost_ret (v := .agg #[.bool (na && decide (0 < cs.length)), .slice a3 cs.length c3]) (by simp [results, Tryz.results110, go_sem, loadCellsFrom, s1, s2]) rfl ⟨hT, _, cs, ?_, hk, h2, h3⟩
  rfl

set_option maxHeartbeats 1000000 in
set_option maxRecDepth 100000 in
theorem sum_lt (na nb : Bool) (va vb : Value) (xa xb : List Nat) (w : World) (ha : Reads .u32 w va xa) (hb : Reads .u32 w vb xb) (hla : Limbs xa) (hlb : Limbs xb) (la : xa.length ≤ 100000) (lb : xb.length ≤ 100000) (hka : Canon xa) (hkb : Canon xb) (hn : na ≠ nb) (hlt : val xa < val xb) :
    Calls Tryz.prog 110 #[.agg #[.bool na, va], .agg #[.bool nb, vb]] w fun e w' => Below w.heap.size w w' ∧ ∃ v cs, e = .returned (.agg #[.bool (nb && decide (0 < cs.length)), v]) ∧ Reads .u32 w' v cs ∧ Canon cs ∧ val cs = val xb - val xa := by
  have h0 := twoInts_start (na := na) (nb := nb) ha hb
  obtain ⟨aa, ca, rfl, hca, hma⟩ := ha.form
  obtain ⟨ab, cb, rfl, hcb, hmb⟩ := hb.form
  have H0 := Lib.hid h0
  clear h0
  have hle : val xa ≤ val xb := Nat.le_of_lt hlt
  have hl := canon_le_length hkb hka hle
  have hi : cmpI (val xa) (val xb) < (0 : Int) := by unfold cmpI; split <;> (try split) <;> omega
  obtain rfl : nb = !na := by cases na <;> cases nb <;> first | rfl | exact absurd rfl hn
  generalize hcv : cmpI (val xa) (val xb) = cv at hi
  go_enter Tryz.func110, Tryz.ntmps110
  go_wp2_with (go_at_call 31; refine (compare_any _ _ xa xb _ H0.out.2.2.2.2.ra H0.out.2.2.2.2.rb hka hkb (by omega)).mono ?_; rintro e w1 ⟨hbe1, rfl⟩; rw [hcv]; have H1 := Lib.hid (twoInts_step H0.out.1 H0.out.2.1 H0.out.2.2.1 H0.out.2.2.2.1 H0.out.2.2.2.2 hbe1))
  go_region_held3 (fun W => W.cell? ⟨w.heap.size, 0, none⟩ = some (.bool na) ∧ W.cell? ⟨w.heap.size, 1, none⟩ = some (.slice aa xa.length ca) ∧ W.cell? ⟨w.heap.size + 1, 0, none⟩ = some (.bool !na) ∧ W.cell? ⟨w.heap.size + 1, 1, none⟩ = some (.slice ab xb.length cb) ∧ TwoRest w (.slice aa xa.length ca) (.slice ab xb.length cb) xa xb W)
    (first | exact ⟨H1.out.1, H1.out.2.1, H1.out.2.2.1, H1.out.2.2.2.1, H1.out.2.2.2.2.drew⟩ | (go_split_ands; exact twoInts_step (by assumption) (by assumption) (by assumption) (by assumption) (by assumption) (by assumption)) | (go_split_ands; exact twoInts_store (by assumption) (by assumption) (by assumption) (by assumption) (by assumption) _ _ _ _))
    (first | (go_at_call 81; go_split_ands; refine (minus_any _ _ xb xa _ (TwoRest.rb (by assumption)) (TwoRest.ra (by assumption)) hlb hla lb hl hle).mono ?_; rintro e w' ⟨hbe, v, cs, rfl, h1, h2, h3⟩; obtain ⟨a3, c3, rfl, hc3, hm3⟩ := h1.form) | (go_at_call 51; go_split_ands; refine (signed_any _ _ _ _ _).mono ?_; rintro e w'' ⟨hbe2, rfl⟩; obtain ⟨u0, u1, u2, u3, q1, q2, q3, q4⟩ := TwoRest.cells (TwoRest.step (by assumption) hbe2)))
  obtain ⟨s1, s2⟩ := two_reads (b := w.heap.size + 1 + 1) q1 q2 (.bool (!na && decide (0 < cs.length))) (.slice a3 cs.length c3)
  have hk := two_kept (b := w.heap.size + 1 + 1) (h1.below hbe2) q1 q2 (.bool (!na && decide (0 < cs.length))) (.slice a3 cs.length c3)
  rename_i hT
  replace hT := hT.2.2.2.2.below
  go_wp2
  refine bodyPost_ret (v := .agg #[.bool (!na && decide (0 < cs.length)), .slice a3 cs.length c3]) (by simp [results, Tryz.results110, go_sem, loadCellsFrom, s1, s2]) rfl ⟨hT, _, cs, ?_, hk, h2, h3⟩
  rfl

/-- an integer: its sign and its magnitude -/
def sgn (neg : Bool) (n : Nat) : Int := if neg then -(n : Int) else n
/-- a formed integer (but for the number of limbs), and its value -/
def IsInt (w : World) (v : Value) (i : Int) : Prop := ∃ neg va xs, v = .agg #[.bool neg, va] ∧ Reads .u32 w va xs ∧ Canon xs ∧ (neg && decide (0 < xs.length)) = neg ∧ i = sgn neg (val xs)
theorem IsInt.below {w w' : World} {v : Value} {i : Int} (h : IsInt w v i) (hb : Below w.heap.size w w') : IsInt w' v i := by
  obtain ⟨neg, va, xs, e, hr, hc, hn, hi⟩ := h
  exact ⟨neg, va, xs, e, hr.below hb, hc, hn, hi⟩
theorem canon_pos_iff {xs : List Nat} (h : Canon xs) : 0 < val xs ↔ 0 < xs.length := by
  constructor
  · intro hv; cases xs with | nil => simp [val] at hv | cons _ _ => simp
  · intro hl
    have := canon_pos h (by intro e; subst e; simp at hl)
    exact Nat.lt_of_lt_of_le (Nat.pow_pos (by decide)) this
theorem canon_length_le {xs : List Nat} (h : Canon xs) {k : Nat} (hv : val xs < B32 ^ k) : xs.length ≤ k := by
  rcases Nat.lt_or_ge k xs.length with hl | hl
  · have h1 := canon_pos h (by intro e; subst e; simp at hl)
    have h2 : B32 ^ k ≤ B32 ^ (xs.length - 1) := Nat.pow_le_pow_right (by decide) (by omega)
    omega
  · exact hl
theorem sgn_natAbs (neg : Bool) (n : Nat) : (sgn neg n).natAbs = n := by unfold sgn; split <;> omega
theorem isInt_mk {w : World} {v : Value} {cs : List Nat} (neg : Bool) (h : Reads .u32 w v cs) (hc : Canon cs) {i : Int} (hi : i = sgn neg (val cs)) : IsInt w (.agg #[.bool (neg && decide (0 < cs.length)), v]) i := by
  refine ⟨_, v, cs, rfl, h, hc, by simp, ?_⟩
  subst hi
  by_cases hl : 0 < cs.length
  · have hd : decide (0 < cs.length) = true := decide_eq_true hl
    rw [hd, Bool.and_true]
  · have : ¬ 0 < val cs := fun e => hl ((canon_pos_iff hc).1 e)
    have e0 : val cs = 0 := by omega
    cases neg <;> simp [sgn, e0]

theorem sum_any (a b : Value) (i j : Int) (k : Nat) (w : World) (ha : IsInt w a i) (hb : IsInt w b j) (hk : k ≤ 100000) (hi : i.natAbs < B32 ^ k) (hj : j.natAbs < B32 ^ k) :
    Calls Tryz.prog 110 #[a, b] w fun e w' => Below w.heap.size w w' ∧ ∃ v, e = .returned v ∧ IsInt w' v (i + j) := by
  obtain ⟨na, va, xa, rfl, hra, hca, hna, rfl⟩ := ha
  obtain ⟨nb, vb, xb, rfl, hrb, hcb, hnb, rfl⟩ := hb
  rw [sgn_natAbs] at hi hj
  have la := canon_length_le hca hi
  have lb := canon_length_le hcb hj
  by_cases hn : na = nb
  · subst hn
    refine (sum_same na va vb xa xb w hra hrb hca.1 hcb.1 (by omega) (by omega)).mono ?_
    rintro e w' ⟨hbe, v, cs, rfl, h1, h2, h3⟩
    exact ⟨hbe, _, rfl, isInt_mk na h1 h2 (by rw [h3]; cases na <;> simp [sgn] <;> omega)⟩
  · rcases Nat.lt_or_ge (val xa) (val xb) with hlt | hle
    · refine (sum_lt na nb va vb xa xb w hra hrb hca.1 hcb.1 (by omega) (by omega) hca hcb hn hlt).mono ?_
      rintro e w' ⟨hbe, v, cs, rfl, h1, h2, h3⟩
      exact ⟨hbe, _, rfl, isInt_mk nb h1 h2 (by rw [h3]; cases na <;> cases nb <;> first | exact absurd rfl hn | (simp [sgn]; omega))⟩
    · refine (sum_ge na nb va vb xa xb w hra hrb hca.1 hcb.1 (by omega) (by omega) hca hcb hn hle).mono ?_
      rintro e w' ⟨hbe, v, cs, rfl, h1, h2, h3⟩
      exact ⟨hbe, _, rfl, isInt_mk na h1 h2 (by rw [h3]; cases na <;> cases nb <;> first | exact absurd rfl hn | (simp [sgn]; omega))⟩

end Go.Proofs.YtlghjfpkfdnfoaaGreatDoor

/- num.negative, num.difference; num.product over integers -/
namespace Go.Proofs.YtlghjfpkfdnfoaaGreatDoor
open Go Go.RowKit Go.Shelf

theorem RowAt.below {W W' : World} {b : Nat} {t : TypeId} {cs : List Value} (h : RowAt W b t cs) (hb : Below W.heap.size W W') : RowAt W' b t cs := (hb.block _ h.lt).trans h

set_option maxHeartbeats 1000000 in
set_option maxRecDepth 100000 in
theorem negative_any (b : Value) (j : Int) (w : World) (hb : IsInt w b j) :
    Calls Tryz.prog 111 #[b] w fun e w' => Below w.heap.size w w' ∧ ∃ v, e = .returned v ∧ IsInt w' v (-j) := by
  obtain ⟨nb, vb, xb, rfl, hrb, hcb, hnb, rfl⟩ := hb
  have H := Lib.hid hrb
  obtain ⟨ab, cb, rfl, hc, hm⟩ := hrb.form
  go_enter Tryz.func111, Tryz.ntmps111
  have b0 := (Below.refl w.heap.size w).alloc (Nat.le_refl _) (.cells #[.bool nb, .slice ab xb.length cb] 24)
  have r0 : RowAt ((w.alloc (.cells #[.bool nb, .slice ab xb.length cb] 24)).alloc (.cells #[.bool false, .slice none 0 0] 24)) (w.heap.size + 1) 24 [.bool false, .slice none 0 0] := by
    have := RowAt.new (w.alloc (.cells #[.bool nb, .slice ab xb.length cb] 24)) 24 [.bool false, .slice none 0 0]
    rwa [World.size_alloc] at this
  have R0 := Lib.hid r0
  have B0 := Lib.hid (b0.alloc (by simp) (.cells #[.bool false, .slice none 0 0] 24))
  clear b0 r0
  go_wp2_with (go_at_call 51; refine (signed_any _ _ _ _ _).mono ?_; rintro e w'' ⟨hbe2, rfl⟩; have r1 := R0.out.below hbe2; have q1 := r1.cell 0; have q2 := r1.cell 1; have q3 := r1.frozen 0; have q4 := r1.frozen 1; simp only [List.getElem?_cons_zero, List.getElem?_cons_succ] at q1 q2)
  obtain ⟨s1, s2⟩ := two_reads (b := w.heap.size + 1) q1 q2 (.bool (!nb && decide (0 < xb.length))) (.slice ab xb.length cb)
  have hb9 := B0.out.trans (hbe2.mono (by simp; omega))
  have hk := two_kept (b := w.heap.size + 1) (H.out.below hb9) q1 q2 (.bool (!nb && decide (0 < xb.length))) (.slice ab xb.length cb)
  refine bodyPost_ret (v := .agg #[.bool (!nb && decide (0 < xb.length)), .slice ab xb.length cb]) (by simp [results, Tryz.results111, go_sem, loadCellsFrom, s1, s2]) rfl ⟨(hb9.setCell (by simp) _).setCell (by simp) _, _, rfl, isInt_mk (!nb) hk hcb (by cases nb <;> simp [sgn])⟩

set_option maxHeartbeats 1000000 in
set_option maxRecDepth 100000 in
theorem difference_any (a b : Value) (i j : Int) (k : Nat) (w : World) (ha : IsInt w a i) (hb : IsInt w b j) (hk : k ≤ 100000) (hi : i.natAbs < B32 ^ k) (hj : j.natAbs < B32 ^ k) :
    Calls Tryz.prog 86 #[a, b] w fun e w' => Below w.heap.size w w' ∧ ∃ v, e = .returned v ∧ IsInt w' v (i - j) := by
  have hj' : (-j).natAbs < B32 ^ k := by rwa [Int.natAbs_neg]
  have HJ := Lib.hid hj'
  have HI := Lib.hid hi
  clear hj' hi hj
  obtain ⟨na, va, xa, rfl, hra, hka, hna, hia⟩ := ha
  obtain ⟨nb, vb, xb, rfl, hrb, hkb, hnb, hjb⟩ := hb
  have h0 := twoInts_start (na := na) (nb := nb) hra hrb
  obtain ⟨aa, ca, rfl, hca, hma⟩ := hra.form
  obtain ⟨ab, cb, rfl, hcb, hmb⟩ := hrb.form
  have H0 := Lib.hid h0
  clear h0
  go_enter Tryz.func86, Tryz.ntmps86
  go_wp2_with fail
  go_region_held3 (fun W => W.cell? ⟨w.heap.size, 0, none⟩ = some (.bool na) ∧ W.cell? ⟨w.heap.size, 1, none⟩ = some (.slice aa xa.length ca) ∧ W.cell? ⟨w.heap.size + 1, 0, none⟩ = some (.bool nb) ∧ W.cell? ⟨w.heap.size + 1, 1, none⟩ = some (.slice ab xb.length cb) ∧ TwoRest w (.slice aa xa.length ca) (.slice ab xb.length cb) xa xb W)
    (first | exact ⟨H0.out.1, H0.out.2.1, H0.out.2.2.1, H0.out.2.2.2.1, H0.out.2.2.2.2.drew⟩ | (go_split_ands; exact twoInts_step (by assumption) (by assumption) (by assumption) (by assumption) (by assumption) (by assumption)) | (go_split_ands; exact twoInts_store (by assumption) (by assumption) (by assumption) (by assumption) (by assumption) _ _ _ _))
    (first | (go_at_call 111; go_split_ands; refine (negative_any _ j _ ⟨nb, _, xb, rfl, TwoRest.rb (by assumption), hkb, hnb, hjb⟩).mono ?_; rintro e w' ⟨hbe, v, rfl, n2, v2, x2, rfl, hr2, hk2, hn2, hi2⟩; obtain ⟨a2, c2, rfl, hc2, hm2⟩ := hr2.form) | (go_at_call 110; go_split_ands; refine (sum_any _ _ i (-j) k _ ⟨na, _, xa, rfl, TwoRest.ra (by assumption), hka, hna, hia⟩ ⟨n2, _, x2, rfl, by assumption, hk2, hn2, hi2⟩ hk HI.out HJ.out).mono ?_; rintro e w'' ⟨hbe2, v, rfl, n3, v3, x3, rfl, hr3, hk3, hn3, hi3⟩; obtain ⟨a3, c3, rfl, hc3, hm3⟩ := hr3.form; obtain ⟨u0, u1, u2, u3, q1, q2, q3, q4⟩ := TwoRest.cells (TwoRest.step (by assumption) hbe2)))
  obtain ⟨s1, s2⟩ := two_reads (b := w.heap.size + 1 + 1) q1 q2 (.bool n3) (.slice a3 x3.length c3)
  have hk := two_kept (b := w.heap.size + 1 + 1) hr3 q1 q2 (.bool n3) (.slice a3 x3.length c3)
  rename_i hT
  replace hT := hT.2.2.2.2.below
  go_wp2
  exact bodyPost_ret (v := .agg #[.bool n3, .slice a3 x3.length c3]) (by simp [results, Tryz.results86, go_sem, loadCellsFrom, s1, s2]) rfl ⟨hT, _, rfl, n3, _, x3, rfl, hk, hk3, hn3, by rw [← hi3]; omega⟩

set_option maxRecDepth 100000 in
theorem product_int (a b : Value) (i j : Int) (k : Nat) (w : World) (ha : IsInt w a i) (hb : IsInt w b j) (hk : k < 80) (hi : i.natAbs < B32 ^ 100000) (hj : j.natAbs < B32 ^ 100000) (hs : i.natAbs < B32 ^ k ∨ j.natAbs < B32 ^ k) :
    Calls Tryz.prog 85 #[a, b] w fun e w' => Below w.heap.size w w' ∧ ∃ v, e = .returned v ∧ IsInt w' v (i * j) := by
  obtain ⟨na, va, xa, rfl, hra, hca, hna, rfl⟩ := ha
  obtain ⟨nb, vb, xb, rfl, hrb, hcb, hnb, rfl⟩ := hb
  rw [sgn_natAbs] at hi hj hs
  rw [sgn_natAbs] at hs
  have la := canon_length_le hca hi
  have lb := canon_length_le hcb hj
  have hm : min xa.length xb.length < 80 := by
    rcases hs with h | h
    · have := canon_length_le hca h; omega
    · have := canon_length_le hcb h; omega
  refine (product_small na nb va vb xa xb w hra hrb hca.1 hcb.1 la lb hm).mono ?_
  rintro e w' ⟨hbe, v, cs, rfl, h1, h2, h3⟩
  exact ⟨hbe, _, rfl, isInt_mk _ h1 h2 (by rw [h3]; cases na <;> cases nb <;> simp [sgn, Int.neg_mul, Int.mul_neg])⟩

end Go.Proofs.YtlghjfpkfdnfoaaGreatDoor
