/- 'Only the blocks of S have changed': a relation of worlds, step by step; boxes and rows under it. -/
import Derived.Test.YtlghjfpkfdnfoaaDoorNumMQuiet
import Derived.RangeFuncNested
import Derived.Maps.AppendAt
import Derived.Handy
import Derived.Test.YtlghjfpkfdnfoaaDoorShelf
namespace Go.Proofs.YtlghjfpkfdnfoaaDoor
open Go Go.RowKit

structure Chg (S : Nat → Prop) (W W' : World) : Prop where
  os : W'.os = W.os
  tape : W'.tape = W.tape
  output : W'.output = W.output
  size : W.heap.size ≤ W'.heap.size
  block : ∀ k, k < W.heap.size → ¬ S k → W'.heap[k]? = W.heap[k]?

section
variable {S : Nat → Prop} {A W W' : World}
theorem Chg.refl (S : Nat → Prop) (W : World) : Chg S W W := ⟨rfl, rfl, rfl, Nat.le_refl _, fun _ _ _ => rfl⟩
theorem Chg.trans {B : World} (h : Chg S A B) (k : Chg S B W) : Chg S A W :=
  ⟨k.os.trans h.os, k.tape.trans h.tape, k.output.trans h.output, Nat.le_trans h.size k.size, fun i hi hs => (k.block i (Nat.lt_of_lt_of_le hi h.size) hs).trans (h.block i hi hs)⟩
theorem Chg.mono {S' : Nat → Prop} (h : Chg S A W) (hs : ∀ k, S k → S' k) : Chg S' A W := ⟨h.os, h.tape, h.output, h.size, fun k hk hn => h.block k hk (fun e => hn (hs k e))⟩
theorem Chg.drew (h : Chg S A W) : Chg S A W.drew := ⟨h.os, h.tape, h.output, h.size, h.block⟩
theorem Chg.drewN (h : Chg S A W) (n : Nat) : Chg S A (W.drewN n) := ⟨h.os, h.tape, h.output, h.size, h.block⟩
theorem Chg.alloc (h : Chg S A W) (o : Obj) : Chg S A (W.alloc o) :=
  ⟨h.os, h.tape, h.output, by have := h.size; simp; omega, fun k hk hs => (Below.heap_alloc W o k (Nat.lt_of_lt_of_le hk h.size)).trans (h.block k hk hs)⟩
theorem Chg.setCell (h : Chg S A W) {p : Addr} (hp : S p.block ∨ A.heap.size ≤ p.block) (u : Value) : Chg S A (W.setCell p u) :=
  ⟨h.os, h.tape, h.output, by have := h.size; simp; omega, fun k hk hs => (Below.heap_setCell W p u k (by rintro rfl; rcases hp with h1 | h1; exact hs h1; omega)).trans (h.block k hk hs)⟩
theorem Chg.grown (h : Chg S A W) {row : Option Nat} (hg : W.grownBy W' row) (hr : ∀ k, row = some k → S k ∨ A.heap.size ≤ k) : Chg S A W' :=
  ⟨hg.os.trans h.os, hg.tape.trans h.tape, hg.output.trans h.output, Nat.le_trans h.size hg.size, fun k hk hs =>
    (hg.block k (Nat.lt_of_lt_of_le hk h.size) (fun e => by rcases hr k e.symm with h1 | h1; exact hs h1; omega)).trans (h.block k hk hs)⟩
theorem Chg.ofBelow {B : Nat} (h : Below B A W) : Chg (fun k => B ≤ k) A W := ⟨h.os, h.tape, h.output, h.size, fun k _ hs => h.block k (by omega)⟩
theorem Chg.thenBelow (h : Chg S A W) (hb : Below W.heap.size W W') : Chg S A W' :=
  ⟨hb.os.trans h.os, hb.tape.trans h.tape, hb.output.trans h.output, Nat.le_trans h.size hb.size, fun k hk hs => (hb.block k (Nat.lt_of_lt_of_le hk h.size)).trans (h.block k hk hs)⟩
theorem Chg.below {B : Nat} (h : Chg S A W) (hs : ∀ k, S k → B ≤ k) (hB : B ≤ A.heap.size) : Below B A W := ⟨h.os, h.tape, h.output, h.size, fun k hk => h.block k (by omega) (fun e => by have := hs k e; omega)⟩
theorem Chg.boxed (h : Chg S A W) {B : Nat} {t : TypeId} {v : Value} (hb : Boxed A B t v) (hs : ¬ S B) : Boxed W B t v := (h.block B hb.lt hs).trans hb
theorem Chg.owns (h : Chg S A W) {base : Nat} {e : TypeId} {size : Nat} {v : Value} {n : Nat} {xs : List Value} (ho : A.ownsRow base e size v n xs) (hs : ∀ g, v.ownBlock = some g → ¬ S g) : W.ownsRow base e size v n xs := by
  refine ⟨ho.1, ?_⟩
  rcases ho.2 with hn | ⟨g, cap, cur, rfl, hb, hgg, rest⟩
  · exact .inl hn
  · exact .inr ⟨g, cap, cur, rfl, hb, (h.block g (Array.getElem?_eq_some_iff.1 hgg).1 (hs g (by simp [Value.ownBlock]))).trans hgg, rest⟩
theorem Chg.keepsFrom (h : Chg S A W) (B : Nat) (hs : ∀ k, S k → ∀ o, A.heap[k]? = some o → o.isCells = true) : KeepsFrom B A W :=
  ⟨h.size, fun k o _ hk ho => (h.block k (Array.getElem?_eq_some_iff.1 hk).1 (fun e => by rw [hs k e o hk] at ho; cases ho)).trans hk⟩
theorem Chg.cell (h : Chg S A W) {p : Addr} {v : Value} (hc : A.cell? p = some v) (hs : ¬ S p.block) : W.cell? p = some v :=
  (World.cell?_of_block (h.block p.block (World.block_lt_of_cell? A p hc) hs)).trans hc
end

/-- the block of a slice, if anything is read there, is none of S -/
def Off (S : Nat → Prop) (v : Value) (xs : List Nat) : Prop := ∀ a n c, v = .slice (some a) n c → xs ≠ [] → ¬ S a.block

theorem Chg.reads {S : Nat → Prop} {A W : World} (h : Chg S A W) {k : IntKind} {v : Value} {xs : List Nat} (hr : Reads k A v xs) (hs : Off S v xs) : Reads k W v xs := by
  obtain ⟨a, cap, rfl, hc, hm, hj⟩ := hr
  refine ⟨a, cap, rfl, hc, hm, fun j hjl => ⟨(hj j hjl).1, ?_⟩⟩
  obtain ⟨⟨b, off, rfl⟩, h2⟩ := hj j hjl
  exact h.cell h2 (hs ⟨b, off, none⟩ _ _ rfl (by intro e; simp [e] at hjl))

/-- what is read lies in the heap -/
theorem Reads.lt {k : IntKind} {w : World} {v : Value} {xs : List Nat} (h : Reads k w v xs) : ∀ a n c, v = .slice (some a) n c → xs ≠ [] → a.block < w.heap.size := by
  intro a n c hv hx
  obtain ⟨a', cap, rfl, hc, hm, hj⟩ := h
  cases hv
  have hp : 0 < xs.length := List.length_pos_iff.2 hx
  obtain ⟨⟨b, off, he⟩, h2⟩ := hj 0 hp
  cases he
  exact World.block_lt_of_cell? w _ h2

theorem Reads.off {k : IntKind} {w : World} {v : Value} {xs : List Nat} (h : Reads k w v xs) {S : Nat → Prop} (hs : ∀ k, S k → w.heap.size ≤ k) : Off S v xs := fun a n c e hx hS => by
  have h1 := h.lt a n c e hx
  have h2 := hs _ hS
  omega

theorem Boxed.isCells {W : World} {B : Nat} {t : TypeId} {v : Value} (h : Boxed W B t v) : ∀ o, W.heap[B]? = some o → o.isCells = true := fun o ho => by rw [show W.heap[B]? = _ from h] at ho; cases ho; rfl
theorem ownsRow_isCells {W : World} {base : Nat} {e : TypeId} {size : Nat} {v : Value} {n : Nat} {xs : List Value} (h : W.ownsRow base e size v n xs) {g : Nat} (hg : v.ownBlock = some g) : ∀ o, W.heap[g]? = some o → o.isCells = true := by
  rcases h.2 with ⟨rfl, _⟩ | ⟨g', cap, cur, rfl, _, hgb, _⟩
  · simp [Value.ownBlock] at hg
  · obtain rfl : g' = g := by simpa [Value.ownBlock] using hg
    intro o ho; rw [hgb] at ho; cases ho; rfl
theorem cell_new_drew (w : World) (x : Value) (t : TypeId) (b : Nat) (hb : b = w.heap.size) : ∀ j u, [x][j]? = some u → ((w.alloc (.cells #[x] t)).drew).cell? ((⟨b, 0, none⟩ : Addr).add j) = some u := by
  subst hb; exact cell_one_new w x t
theorem cell_new_plain (w : World) (x : Value) (t : TypeId) (b : Nat) (hb : b = w.heap.size) : ∀ j u, [x][j]? = some u → (w.alloc (.cells #[x] t)).cell? ((⟨b, 0, none⟩ : Addr).add j) = some u := by
  subst hb; exact cell_one_new w x t
theorem Boxed.at {W : World} {B B' : Nat} {t : TypeId} {v : Value} (h : Boxed W B t v) (e : B = B') : Boxed W B' t v := e ▸ h
theorem Boxed.drew {W : World} {B : Nat} {t : TypeId} {v : Value} (h : Boxed W B t v) : Boxed W.drew B t v := h
theorem ownFrom_ex {β γ : Type} {B : Nat} {I : γ → β → World → Prop} (h : ∀ v, OwnFrom B (I v)) : OwnFrom B (fun s W => ∃ v, I v s W) := fun s W W' row ⟨v, hv⟩ hg hr => ⟨v, h v s W W' row hv hg hr⟩
theorem ownFrom_boxed {β : Type} {B' : Nat} (B : Nat) (t : TypeId) (f : β → Value) : OwnFrom B' (fun s W => Boxed W B t (f s)) := Own.from (boxed_own B t f) _
theorem ownFrom_row {β : Type} {B' : Nat} (n0 : Nat) (e : TypeId) (size : Nat) (v : Value) (k : β → Nat) (f : β → List Value) : OwnFrom B' (fun s W => W.ownsRow n0 e size v (k s) (f s)) := fun s W W' row hs hg hr =>
  hs.kept hg (by
    rcases hs.2 with ⟨rfl, _⟩ | ⟨g, cap, cur, rfl, _, hgb, _⟩
    · exact .inl rfl
    · refine .inr fun e' => ?_
      obtain ⟨_, o, ho, hc⟩ := hr g e'.symm
      rw [hgb] at ho; cases ho; cases hc)
theorem ownFrom_cell {β : Type} {B' : Nat} (a : Addr) (v : Value) : OwnFrom B' (fun (_ : β) W => W.cell? a = some v) := fun s W W' row hs hg hr => by
  have h2 : W.cell? a = some v := hs
  refine hg.cell h2 (fun e => ?_)
  obtain ⟨_, o, ho, hcl⟩ := hr _ e.symm
  unfold World.cell? at h2
  rw [ho] at h2
  cases o <;> simp [Obj.isCells] at hcl h2
theorem ownFrom_reads {β : Type} {B' : Nat} (k : IntKind) (v : Value) (f : β → List Nat) : OwnFrom B' (fun s W => Reads k W v (f s)) := fun s W W' row hs hg hr => by
  obtain ⟨a, cap, rfl, hc, hm, hj⟩ := hs
  refine ⟨a, cap, rfl, hc, hm, fun j hjl => ⟨(hj j hjl).1, ?_⟩⟩
  refine hg.cell (hj j hjl).2 (fun e => ?_)
  obtain ⟨_, o, ho, hcl⟩ := hr _ e.symm
  have h2 := (hj j hjl).2
  unfold World.cell? at h2
  rw [ho] at h2
  cases o <;> simp [Obj.isCells] at hcl h2
theorem Reads.drewN {k : IntKind} {W : World} {v : Value} {xs : List Nat} (h : Reads k W v xs) (n : Nat) : Reads k (W.drewN n) v xs := h
theorem Reads.putObj {k : IntKind} {W : World} {v : Value} {xs : List Nat} (h : Reads k W v xs) {D : Nat} {o : Obj} (hl : W.heap[D]? = some o) (ho : o.isCells = false) (o' : Obj) : Reads k (W.putObj D o') v xs :=
  (ownFrom_reads (β := Unit) (B' := 0) k v (fun _ => xs)).putObj (s := ()) o' h (Nat.zero_le _) hl ho
theorem ownsRow_notWalk {W : World} {base : Nat} {e : TypeId} {size : Nat} {v : Value} {n : Nat} {xs : List Value} (h : W.ownsRow base e size v n xs) {D : Nat} {o : Obj} (hl : W.heap[D]? = some o) (ho : o.isCells = false) : some D ≠ v.ownBlock := fun e' => by
  have := ownsRow_isCells h e'.symm o hl
  rw [this] at ho; cases ho

/-- One round that sets the variable Bc, appends to the slice in the variable Br, and sets both: W at its start, W0 ahead of the append, w1 behind it. -/
structure GrownStep (n0 nb Br Bc : Nat) (tr tc e : TypeId) (W w1 : World) (v v' c1 : Value) (m : Nat) (ys : List Value) : Prop where
  boxR : Boxed w1 Br tr v
  boxC : Boxed w1 Bc tc c1
  fin : ∀ c2 : Value, Boxed ((w1.setCell ⟨Br, 0, none⟩ v').setCell ⟨Bc, 0, none⟩ c2) Br tr v' ∧ Boxed ((w1.setCell ⟨Br, 0, none⟩ v').setCell ⟨Bc, 0, none⟩ c2) Bc tc c2 ∧
    ((w1.setCell ⟨Br, 0, none⟩ v').setCell ⟨Bc, 0, none⟩ c2).ownsRow nb e 1 v' m ys ∧ Below n0 W ((w1.setCell ⟨Br, 0, none⟩ v').setCell ⟨Bc, 0, none⟩ c2) ∧
    (∀ B, KeepsFrom B W ((w1.setCell ⟨Br, 0, none⟩ v').setCell ⟨Bc, 0, none⟩ c2)) ∧
    (∀ B t u, (t ≠ e ∨ B < nb) → B ≠ Br → B ≠ Bc → Boxed W B t u → Boxed ((w1.setCell ⟨Br, 0, none⟩ v').setCell ⟨Bc, 0, none⟩ c2) B t u)

theorem grown_step {n0 nb Br Bc : Nat} {tr tc e : TypeId} {W W0 w1 : World} {v v' c0 c1 : Value} {k m : Nat} {xs ys : List Value} (hne : Br ≠ Bc) (h0 : n0 ≤ nb) (h1 : n0 ≤ Br) (h2 : n0 ≤ Bc) (hn : n0 ≤ W.heap.size) (htr : tr ≠ e) (htc : tc ≠ e)
    (bv : Boxed W Br tr v) (bc : Boxed W Bc tc c0) (rv : W.ownsRow nb e 1 v k xs) (hW : Chg (fun j => j = Bc) W W0) (bc0 : Boxed W0 Bc tc c1)
    (hgrow : W0.grownBy w1 v.ownBlock) (hown : w1.ownsRow nb e 1 v' m ys) : GrownStep n0 nb Br Bc tr tc e W w1 v v' c1 m ys := by
  have nR : some Br ≠ v.ownBlock := bv.not_row htr rv
  have nC : some Bc ≠ v.ownBlock := bc.not_row htc rv
  have bv1 : Boxed w1 Br tr v := (hW.boxed bv hne).kept hgrow nR
  have bc1 : Boxed w1 Bc tc c1 := bc0.kept hgrow nC
  refine ⟨bv1, bc1, fun c2 => ?_⟩
  have hS : Chg (fun j => j = Br ∨ j = Bc ∨ v.ownBlock = some j) W ((w1.setCell ⟨Br, 0, none⟩ v').setCell ⟨Bc, 0, none⟩ c2) :=
    ((((hW.mono (fun j h => .inr (.inl h))).grown hgrow (fun j h => .inl (.inr (.inr h)))).setCell (p := ⟨Br, 0, none⟩) (.inl (.inl rfl)) v').setCell (p := ⟨Bc, 0, none⟩) (.inl (.inr (.inl rfl))) c2)
  refine ⟨Boxed.other (bv1.set _) hne _, Boxed.set _ (bc1.other hne.symm _), ?_, hS.below ?_ hn, fun B => hS.keepsFrom B ?_, fun B t u ht hB1 hB2 hb => hS.boxed hb ?_⟩
  · exact (hown.kept (grownBy_setCell' w1 Br v') (.inr (bv1.not_row htr hown).symm)).kept (grownBy_setCell' _ Bc c2) (.inr (bc1.not_row htc hown).symm)
  · rintro j (rfl | rfl | h)
    · exact h1
    · exact h2
    · exact Nat.le_trans h0 (rv.lt j h).1
  · rintro j (rfl | rfl | h)
    · exact Boxed.isCells bv
    · exact Boxed.isCells bc
    · exact ownsRow_isCells rv h
  · rintro (h | h | h)
    · exact hB1 h
    · exact hB2 h
    · rcases ht with ht | ht
      · exact hb.not_row ht rv h.symm
      · have := (rv.lt B h).1; omega

/-- block b is a row of cells, not shared with a string -/
def RowAt (W : World) (b : Nat) (t : TypeId) (cs : List Value) : Prop := W.heap[b]? = some (.cells cs.toArray t (0, 0))
theorem RowAt.lt {W : World} {b : Nat} {t : TypeId} {cs : List Value} (h : RowAt W b t cs) : b < W.heap.size := (Array.getElem?_eq_some_iff.1 h).1
theorem RowAt.cell {W : World} {b : Nat} {t : TypeId} {cs : List Value} (h : RowAt W b t cs) (i : Nat) : W.cell? ⟨b, i, none⟩ = cs[i]? := by simp [World.cell?, show W.heap[b]? = _ from h]
theorem RowAt.frozen {W : World} {b : Nat} {t : TypeId} {cs : List Value} (h : RowAt W b t cs) (i : Nat) : W.frozen? ⟨b, i, none⟩ = false := by simp [World.frozen?, show W.heap[b]? = _ from h]
theorem RowAt.isCells {W : World} {b : Nat} {t : TypeId} {cs : List Value} (h : RowAt W b t cs) : ∀ o, W.heap[b]? = some o → o.isCells = true := fun o ho => by rw [show W.heap[b]? = _ from h] at ho; cases ho; rfl
theorem RowAt.set {W : World} {b : Nat} {t : TypeId} {cs : List Value} (h : RowAt W b t cs) (i : Nat) (v : Value) : RowAt (W.setCell ⟨b, i, none⟩ v) b t (cs.set i v) := by
  obtain ⟨hlt, hk⟩ := Array.getElem?_eq_some_iff.1 h
  show (W.heap.modify b _)[b]? = _
  rw [Array.getElem?_eq_getElem (by rw [Array.size_modify]; exact hlt), Array.getElem_modify_self, hk]
  simp
theorem RowAt.other {W : World} {b : Nat} {t : TypeId} {cs : List Value} (h : RowAt W b t cs) {a : Addr} (hne : b ≠ a.block) (u : Value) : RowAt (W.setCell a u) b t cs := (Below.heap_setCell W a u b hne).trans h
theorem RowAt.alloc {W : World} {b : Nat} {t : TypeId} {cs : List Value} (h : RowAt W b t cs) (o : Obj) : RowAt (W.alloc o) b t cs := (Below.heap_alloc W o b h.lt).trans h
theorem RowAt.drew {W : World} {b : Nat} {t : TypeId} {cs : List Value} (h : RowAt W b t cs) : RowAt W.drew b t cs := h
theorem RowAt.at {W : World} {B B' : Nat} {t : TypeId} {v : List Value} (h : RowAt W B t v) (e : B = B') : RowAt W B' t v := e ▸ h
theorem RowAt.new (W : World) (t : TypeId) (cs : List Value) : RowAt (W.alloc (.cells cs.toArray t)) W.heap.size t cs := World.alloc_heap_new W _
theorem Chg.row {S : Nat → Prop} {A W : World} (h : Chg S A W) {b : Nat} {t : TypeId} {cs : List Value} (hb : RowAt A b t cs) (hs : ¬ S b) : RowAt W b t cs := (h.block b hb.lt hs).trans hb
theorem ownFrom_rowAt {β : Type} {B' : Nat} (b : Nat) (t : TypeId) (f : β → List Value) : OwnFrom B' (fun s W => RowAt W b t (f s)) := fun s X Y row hs hg hr => by
  have h2 : RowAt X b t (f s) := hs
  refine (hg.block b h2.lt (fun e => ?_)).trans h2
  obtain ⟨_, o, ho, hc⟩ := hr b e.symm
  rw [show X.heap[b]? = _ from h2] at ho
  cases ho; cases hc
theorem Boxed.otherAt {W : World} {B : Nat} {t : TypeId} {v : Value} (h : Boxed W B t v) {a : Addr} (hne : B ≠ a.block) (u : Value) : Boxed (W.setCell a u) B t v := (Below.heap_setCell W a u B hne).trans h

/-- a part of a row reads as what it holds -/
theorem RowAt.reads {k : IntKind} {W : World} {b : Nat} {t : TypeId} {xs : List Nat} (h : RowAt W b t (xs.map fun (x : Nat) => Value.int k (x : Int))) (n cap : Nat) (hn : n = xs.length) (hc : n ≤ cap) (hm : cap ≤ maxLen) : Reads k W (.slice (some ⟨b, 0, none⟩) n cap) xs := by
  subst hn
  refine ⟨_, cap, rfl, hc, hm, fun j hj => ⟨⟨b, 0, rfl⟩, ?_⟩⟩
  rw [lookAt_some, Nat.zero_add, h.cell]
  simp [List.getElem?_map, List.getElem?_eq_getElem hj]
end Go.Proofs.YtlghjfpkfdnfoaaDoor

/- num.trim, num.plus -/
namespace Go.Proofs.YtlghjfpkfdnfoaaDoor
open Go Go.RowKit Go.Shelf
attribute [local go_sem] Oper.semAt_some

set_option maxHeartbeats 400000 in
set_option maxRecDepth 100000 in
theorem trim_eq (a : Option Addr) (n cap : Nat) (xs : List Nat) (w : World) (h : Reads .u32 w (.slice a n cap) xs) :
    Calls Tryd.prog 64 #[.slice a n cap] w fun e w' => w = w' ∧ e = .returned (.slice a (trimmed xs).length cap) := by
  obtain ⟨a', cap', he, hc, hm⟩ := h.form
  cases he
  unfold maxLen at hm
  go_enter Tryd.func64, Tryd.ntmps64
  go_wp2
  go_loop [0] (fun s => ∃ k : Nat, k ≤ xs.length ∧ s = .slice a k cap ∧ trimmed (xs.take k) = trimmed xs) (fun s => match s with | .slice _ n _ => n | _ => 0)
  case atStart => exact ⟨xs.length, Nat.le_refl _, rfl, by simp⟩
  case round =>
    obtain ⟨k, hk, rfl, htr⟩ := hrel
    cases k with
    | zero =>
      go_wp2
      go_ret
      have hz : (trimmed xs).length = 0 := by rw [← htr]; simp [trimmed]
      exact ⟨rfl, by rw [hz]; rfl⟩
    | succ k =>
      have hix := (h.toLen (k+1) hk).index und_limbs size_limb k .i64
      have hcell := h.cell k (by omega)
      have hlt : k < (List.take (k+1) xs).length := by simp; omega
      have hlt2 : k < xs.length := by omega
      have hkc : k ≤ cap := by omega
      have hS := take_succ_getD xs k hlt2
      have HS := Lib.hid hS
      clear hS
      go_wp2
      · go_round
        case rel =>
          have h0 : (↑xs[k] == (0 : Int)) = true := by assumption
          have h1 : xs[k]?.getD 0 = 0 := by rw [List.getElem?_eq_getElem hlt2]; simpa using h0
          exact ⟨k, by omega, rfl, by rw [← htr, HS.out, h1, trimmed_snoc_zero]⟩
        case measure => simp
      · go_ret
        have h0 : (↑xs[k] == (0 : Int)) = false := by assumption
        have h1 : xs[k]?.getD 0 ≠ 0 := by rw [List.getElem?_eq_getElem hlt2]; simpa using h0
        have hz : (trimmed xs).length = k + 1 := by rw [← htr, HS.out, trimmed_snoc _ _ h1, ← HS.out]; simp; omega
        exact ⟨rfl, by rw [hz]; rfl⟩

theorem trim_reads {w : World} {a : Option Addr} {n cap : Nat} {xs : List Nat} (h : Reads .u32 w (.slice a n cap) xs) : Reads .u32 w (.slice a (trimmed xs).length cap) (trimmed xs) := by
  have := h.toLen (trimmed xs).length (trimmed_length xs)
  rwa [trimmed_take] at this

theorem trim_any (v : Value) (xs : List Nat) (w : World) (h : Reads .u32 w v xs) :
    Calls Tryd.prog 64 #[v] w fun e w' => w = w' ∧ ∃ v', e = .returned v' ∧ Reads .u32 w v' (trimmed xs) := by
  obtain ⟨a, cap, rfl, hc, hm⟩ := h.form
  exact (trim_eq a _ cap xs w h).mono fun e w' ⟨h1, h2⟩ => ⟨h1, _, h2, trim_reads h⟩

set_option maxHeartbeats 2000000 in
set_option maxRecDepth 100000 in
theorem plus_lt (va vb : Value) (xa xb : List Nat) (w : World) (ha : Reads .u32 w va xa) (hb : Reads .u32 w vb xb) (hla : Limbs xa) (hlb : Limbs xb) (na : xa.length ≤ 100000) (nb : xb.length ≤ 100000) (hl : xa.length < xb.length) :
    Calls Tryd.prog 101 #[va, vb] w fun e w' => Below w.heap.size w w' ∧ ∃ v cs, e = .returned v ∧ Reads .u32 w' v cs ∧ Canon cs ∧ val cs = val xa + val xb := by
  obtain ⟨aa, ca, rfl, hca, hma⟩ := ha.form
  obtain ⟨ab, cb, rfl, hcb, hmb⟩ := hb.form
  unfold maxLen at hma hmb
  obtain ⟨inf, hi, hzz⟩ := Option.map_eq_some_iff.1 info_limb
  simp only [Prod.mk.injEq] at hzz
  obtain ⟨hz0, hz1, hz2⟩ := hzz
  refine (callsIn_wide (n := 9)).1 ?_
  refine callsIn_of_wp_marks Tryd.func101 rfl trivial ?_ rfl
  simp only [Tryd.ntmps101, List.size_toArray, List.length_cons, List.length_nil, Nat.reduceAdd, Nat.reduceSub, Array.replicate_succ, Array.replicate_zero, List.push_toArray, List.append_toArray, List.nil_append, List.cons_append]
  have hmk : ∀ w, (Instr.makeSlice 22 (.int .i64 0) (.int .i64 ((xb.length : Int) + 1))).run Tryd.prog w = .ok (.slice (some ⟨w.heap.size, 0, none⟩) 0 (xb.length + 1)) (w.alloc (.cells (zeros (xb.length + 1)) 72)) := fun w => by
    simpa using make_limbs 0 ((xb.length : Int) + 1) (by omega) (by omega) (by omega) w
  gi_wp2_with (refine ⟨trivial, ?_⟩; gi_at_call 99; refine (callsIn_wide.2 (limbs_any _ _ _ ⟨_, _, _, rfl⟩)).mono ?_; rintro e w' ⟨rfl, rfl⟩)
  clear hmk
  have r0 := make_limbs_own (w.alloc (.cells #[(Value.slice ab xb.length cb)] 22)) w.heap.size (xb.length + 1) (by simp) (by omega)
  have r1 := (((r0.alloc (.cells #[.slice (some ⟨w.heap.size + 1, 0, none⟩) 0 (xb.length + 1)] 22)).alloc (.cells #[.int .u64 0] 79)).alloc (.cells #[(Value.slice aa xa.length ca)] 22)).alloc (.cells #[.int .i64 (xb.length : Int)] 3)
  rw [show (w.alloc (.cells #[(Value.slice ab xb.length cb)] 22)).heap.size = w.heap.size + 1 by simp] at r1
  clear r0
  have b0 : Below w.heap.size w w := Below.refl _ _
  refine range_limbs 7 8 (w.heap.size + 5) (w.heap.size + 4) w.heap.size xb.length (Value.slice aa xa.length ca) xa (by exact rfl) hla (by omega) (by simp) (by simp) (by simp; omega) ?m1 ?m2 (ha.below ?m3) ha.lt
    (fun pre W => ∃ v, Boxed W (w.heap.size + 2) 22 v ∧ W.ownsRow w.heap.size 72 1 v pre.length (enc32 (plusFold xb (pre.map (·.1))).1) ∧ Boxed W (w.heap.size + 3) 79 (.int .u64 ((plusFold xb (pre.map (·.1))).2 : Int)) ∧
      Boxed W (w.heap.size + 4) 22 (Value.slice aa xa.length ca) ∧ Boxed W w.heap.size 22 (Value.slice ab xb.length cb) ∧ Below w.heap.size w W)
    (fun _ _ _ => False)
    (ownFrom_ex fun v => (ownFrom_boxed _ _ _).and ((ownFrom_row _ _ _ _ _ _).and ((ownFrom_boxed _ _ _).and ((ownFrom_boxed _ _ _).and ((ownFrom_boxed _ _ _).and (ownFrom_below (Nat.le_refl _) ?mB))))))
    (fun _ _ _ _ _ h _ _ => h.elim) ?start ?assign ?body ?done ?stop
  case mB => simp; omega
  case m1 => go_simp
  case m2 => go_simp
  case m3 => exact (((((b0.alloc (Nat.le_refl _) _).alloc (by simp) _).alloc (by simp; omega) _).alloc (by simp; omega) _).alloc (by simp; omega) _).alloc (by simp; omega) _
  case start =>
    refine ⟨_, ?_, by simpa [plusFold, enc32] using r1, ?_, ?_, ?_, ?_⟩
    · exact Boxed.at ((((Boxed.new _ _ _).alloc _).alloc _).alloc _) (by simp)
    · exact Boxed.at (((Boxed.new _ _ _).alloc _).alloc _) (by simp)
    · exact Boxed.at ((Boxed.new _ _ _).alloc _) (by simp)
    · exact (((((Boxed.new _ _ _).alloc _).alloc _).alloc _).alloc _).alloc _
    · exact (((((b0.alloc (Nat.le_refl _) _).alloc (by simp) _).alloc (by simp; omega) _).alloc (by simp; omega) _).alloc (by simp; omega) _).alloc (by simp; omega) _
  case assign =>
    intro l x W K hK
    gi_wp2
    exact hK
  case body =>
    rintro l pre x W ⟨v, bv, rv, bc, bs, bl, bw⟩ hlt
    simp only [boundFrame]
    gi_wp2
    have hnr := bc.not_row (by decide) rv
    have hnv := bv.not_row (by decide) rv
    have hbB := bw.size
    obtain ⟨⟨i, y⟩, hi1, hi2⟩ := x
    have hps : ∀ p ∈ pre.map (·.1), p.2 < B32 := fun p hp => by
      obtain ⟨q, _, rfl⟩ := List.mem_map.1 hp
      exact q.2.2
    have hcle := (plusFold_limbs hlb (pre.map (·.1)) hps).2
    have hnext := plusFold_snoc xb (pre.map (·.1)) (i, y)
    have hmap : (pre ++ [(⟨(i, y), hi1, hi2⟩ : IdxLimb xb.length)]).map (·.1) = pre.map (·.1) ++ [(i, y)] := by simp
    have hd := limb_getD hlb i
    dsimp only at *
    have hcell := (hb.below bw).cell i hi1
    generalize hst : plusFold xb (pre.map (·.1)) = st at *
    obtain ⟨r, c⟩ := st
    simp only [plusStep] at hnext
    dsimp only at *
    generalize xb[i]?.getD 0 = d at *
    clear hst hps
    have HN := Lib.hid hnext
    have HM := Lib.hid hmap
    clear hnext hmap
    unfold B32 at hi2 hd
    have hix := hb.index und_limbs size_limb i .i64
    have hbc := bc.cell
    have hfc := bc.frozen
    have hbl := bl.cell
    have hbv := bv.cell
    have hfv := bv.frozen
    refine region_tail (.inr ⟨_, rfl⟩) 10 (by kernel_rfl) (by kernel_rfl) ?_
    simp only [List.take_succ_cons, List.take_zero, List.drop_succ_cons, List.drop_zero]
    repeat still_step
    refine wpStill_nil ?_
    change wpListIn _ _ _ _ _ _ _ W.drew
    have hrowA := (((rv.kept (grownBy_setCell' W (w.heap.size + 3) (.int .u64 ((c : Int) + ((d : Int) + (y : Int))))) (.inr hnr.symm)).alloc (.cells #[.int .u32 (((c : Int) + ((d : Int) + (y : Int))) % 4294967296)] 72))).drew
    have HR := Lib.hid hnr
    have HV := Lib.hid hnv
    clear hnr hnv
    gi_wp2_with (gi_at_builtin; refine wpListIn_append_own _ rfl _ _ 22 rfl w.heap.size 72 inf (.int .u32 0) 1 4 und_limbs hi hz0 hz1 hz2 rfl (by decide) _ _ _ rfl hrowA ⟨W.heap.size, 0, none⟩ 1 1 [.int .u32 (((c : Int) + ((d : Int) + (y : Int))) % 4294967296)] rfl rfl (cell_new_drew _ _ _ _ (by simp)) (by simp [Value.oneCell']) (by unfold maxLen; omega) (by omega) (by simp; omega) ?_; intro v' w1 hown' hgrow _; obtain ⟨g', cap', rfl⟩ := ownsRow_succ hown'; have bc1 := Boxed.kept (Boxed.drew (Boxed.alloc (bc.set (.int .u64 ((c : Int) + ((d : Int) + (y : Int))))) (.cells #[.int .u32 (((c : Int) + ((d : Int) + (y : Int))) % 4294967296)] 72))) hgrow HR.out; have bv1 := Boxed.kept (Boxed.drew (Boxed.alloc (bv.other (B' := w.heap.size + 3) (by omega) (.int .u64 ((c : Int) + ((d : Int) + (y : Int))))) (.cells #[.int .u32 (((c : Int) + ((d : Int) + (y : Int))) % 4294967296)] 72))) hgrow HV.out; have hcc1 := bc1.cell; have hcv1 := bv1.cell; have hfc1 := bc1.frozen; have hfv1 := bv1.frozen)
    have hS : Chg (fun k => k = w.heap.size + 2 ∨ k = w.heap.size + 3 ∨ v.ownBlock = some k) W w1 := (((((Chg.refl _ W).setCell (p := ⟨w.heap.size + 3, 0, none⟩) (.inl (.inr (.inl rfl))) _).alloc _).drew).grown hgrow (fun k e => .inl (.inr (.inr e))))
    have hF := (hS.setCell (p := ⟨w.heap.size + 2, 0, none⟩) (.inl (.inl rfl)) (Value.slice (some ⟨g', 0, none⟩) (pre.length + 1) cap')).setCell (p := ⟨w.heap.size + 3, 0, none⟩) (.inl (.inr (.inl rfl))) (.int .u64 (((c : Int) + ((d : Int) + (y : Int))) / 4294967296))
    have hge : ∀ k, (k = w.heap.size + 2 ∨ k = w.heap.size + 3 ∨ v.ownBlock = some k) → w.heap.size ≤ k := by
      rintro k (e | e | e)
      · omega
      · omega
      · exact (rv.lt k e).1
    have n4 : ¬ (w.heap.size + 4 = w.heap.size + 2 ∨ w.heap.size + 4 = w.heap.size + 3 ∨ v.ownBlock = some (w.heap.size + 4)) := by
      rintro (e | e | e)
      · omega
      · omega
      · exact bs.not_row (by decide) rv e.symm
    have n0 : ¬ (w.heap.size = w.heap.size + 2 ∨ w.heap.size = w.heap.size + 3 ∨ v.ownBlock = some w.heap.size) := by
      rintro (e | e | e)
      · omega
      · omega
      · exact bl.not_row (by decide) rv e.symm
    have hbel := hF.below hge hbB
    refine ⟨hF.keepsFrom _ ?_, Kp0.boxed hbel bs (hF.boxed bs n4), _, Boxed.other (bv1.set _) (by omega) _, ?_, ?_, hF.boxed bs n4, hF.boxed bl n0, bw.trans hbel⟩
    · rintro k (rfl | rfl | e)
      · exact Boxed.isCells bv
      · exact Boxed.isCells bc
      · exact ownsRow_isCells rv e
    · have hv1 : Value.int .u32 (((c + (d + y)) % B32 : Nat) : Int) = .int .u32 (((c : Int) + ((d : Int) + (y : Int))) % 4294967296) := congrArg _ (by unfold B32; omega)
      rw [HM.out, HN.out, enc32_snoc, hv1, List.length_append]
      have bv2 := bv1.set (Value.slice (some ⟨g', 0, none⟩) (pre.length + 1) cap')
      have r2 := hown'.kept (grownBy_setCell' w1 (w.heap.size + 2) (Value.slice (some ⟨g', 0, none⟩) (pre.length + 1) cap')) (.inr (bv1.not_row (by decide) hown').symm)
      exact r2.kept (grownBy_setCell' _ (w.heap.size + 3) _) (.inr (bc1.not_row (by decide) hown').symm)
    · have hv2 : Value.int .u64 (((c + (d + y)) / B32 : Nat) : Int) = .int .u64 (((c : Int) + ((d : Int) + (y : Int))) / 4294967296) := congrArg _ (by unfold B32; omega)
      rw [HM.out, HN.out, hv2]
      exact Boxed.set _ (bc1.other (by omega) _)
  case done =>
    rintro D ys W hD hys ⟨v, bv, rv, bc, bs, bl, bw⟩ hK
    have hlim := plusFold_limbs hlb (limbPairs xa xb.length) (fun p hp => by
      obtain ⟨q, _, rfl⟩ := List.mem_map.1 (hys ▸ hp)
      exact q.2.2)
    have hval := plusFold_val xb xa xb.length
    have hylen : ys.length = xb.length := by have := congrArg List.length hys; simpa [limbPairs_length] using this
    rw [hys] at rv bc
    rw [hylen] at rv
    clear hys hylen
    generalize plusFold xb (limbPairs xa xb.length) = st at *
    obtain ⟨r, c⟩ := st
    obtain ⟨hlr, hc1⟩ := hlim
    dsimp only at *
    have HV := Lib.hid hval
    clear hval
    have hrowA := rv.alloc (.cells #[.int .u32 (c : Int)] 72)
    have hbB := bw.size
    have hbc := bc.cell
    have hbv := bv.cell
    have hnD := ownsRow_notWalk rv hK rfl
    have HD := Lib.hid hnD
    clear hnD
    gi_wp2_with (first | (gi_at_builtin; go_loud (refine wpListIn_append_own _ rfl _ _ 22 rfl w.heap.size 72 inf (.int .u32 0) 1 4 und_limbs hi hz0 hz1 hz2 rfl (by decide) _ _ _ rfl hrowA ⟨W.heap.size, 0, none⟩ 1 1 [.int .u32 (c : Int)] rfl rfl (cell_new_plain _ _ _ _ rfl) (by simp [Value.oneCell']) (by unfold maxLen; omega) (by omega) (by simp; omega) ?_); intro v' w1 hown' hgrow _; have hrd : Reads .u32 w1 v' (r ++ [c]) := Reads.ofOwn (by simpa [enc32] using hown')) | (refine ⟨trivial, ?_⟩; gi_at_call 64; refine (callsIn_wide.2 (trim_any _ _ _ (by assumption))).mono ?_; rintro e w' ⟨rfl, v3, rfl, hr3⟩))
    have hg : (W.alloc (.cells #[.int .u32 (c : Int)] 72)).grownBy w1 v.ownBlock := hgrow
    have hK1 : w1.heap[D]? = some (.deferred (some [])) := (hg.block D (by have := (Array.getElem?_eq_some_iff.1 hK).1; simp; omega) HD.out).trans ((Below.heap_alloc W _ D (Array.getElem?_eq_some_iff.1 hK).1).trans hK)
    have hb1 : Below w.heap.size W w1 := ((Below.refl _ W).alloc hbB _).grown hg (by simp; omega) (fun k e => (rv.lt k e).1)
    have hlr2 : r.length = xb.length := by have := rv.1; simpa [enc32] using this
    refine ⟨by simp, .inl ⟨_, _, rfl, run_takeDeferred hK1, ?_⟩⟩
    refine ⟨_, results_tmp rfl _ _ _, (bw.trans hb1).trans (belowK_b (w := w) (Nat.le_refl _) w1 D _ _ (by simp at hD; omega) hK1 rfl rfl), v3, _, rfl, hr3.putObj hK1 rfl _, canon_trimmed (limbs_snoc hlr (by unfold B32; omega)), ?_⟩
    rw [val_trimmed, val_snoc, hlr2, HV.out, List.take_of_length_le (by omega), List.take_of_length_le (by omega)]
    omega
  case stop =>
    rintro D c pre W _ _ h _
    exact h.elim

set_option maxHeartbeats 2000000 in
set_option maxRecDepth 100000 in
theorem plus_ge (va vb : Value) (xa xb : List Nat) (w : World) (ha : Reads .u32 w va xa) (hb : Reads .u32 w vb xb) (hla : Limbs xa) (hlb : Limbs xb) (na : xa.length ≤ 100000) (_nb : xb.length ≤ 100000) (hl : ¬ xa.length < xb.length) :
    Calls Tryd.prog 101 #[va, vb] w fun e w' => Below w.heap.size w w' ∧ ∃ v cs, e = .returned v ∧ Reads .u32 w' v cs ∧ Canon cs ∧ val cs = val xa + val xb := by
  obtain ⟨aa, ca, rfl, hca, hma⟩ := ha.form
  obtain ⟨ab, cb, rfl, hcb, hmb⟩ := hb.form
  unfold maxLen at hma hmb
  obtain ⟨inf, hi, hzz⟩ := Option.map_eq_some_iff.1 info_limb
  simp only [Prod.mk.injEq] at hzz
  obtain ⟨hz0, hz1, hz2⟩ := hzz
  refine (callsIn_wide (n := 9)).1 ?_
  refine callsIn_of_wp_marks Tryd.func101 rfl trivial ?_ rfl
  simp only [Tryd.ntmps101, List.size_toArray, List.length_cons, List.length_nil, Nat.reduceAdd, Nat.reduceSub, Array.replicate_succ, Array.replicate_zero, List.push_toArray, List.append_toArray, List.nil_append, List.cons_append]
  have hmk : ∀ w, (Instr.makeSlice 22 (.int .i64 0) (.int .i64 ((xa.length : Int) + 1))).run Tryd.prog w = .ok (.slice (some ⟨w.heap.size, 0, none⟩) 0 (xa.length + 1)) (w.alloc (.cells (zeros (xa.length + 1)) 72)) := fun w => by
    simpa using make_limbs 0 ((xa.length : Int) + 1) (by omega) (by omega) (by omega) w
  gi_wp2_with (refine ⟨trivial, ?_⟩; gi_at_call 99; refine (callsIn_wide.2 (limbs_any _ _ _ ⟨_, _, _, rfl⟩)).mono ?_; rintro e w' ⟨rfl, rfl⟩)
  clear hmk
  have r0 := make_limbs_own (w.alloc (.cells #[(Value.slice aa xa.length ca)] 22)) w.heap.size (xa.length + 1) (by simp) (by omega)
  have r1 := (((r0.alloc (.cells #[.slice (some ⟨w.heap.size + 1, 0, none⟩) 0 (xa.length + 1)] 22)).alloc (.cells #[.int .u64 0] 79)).alloc (.cells #[(Value.slice ab xb.length cb)] 22)).alloc (.cells #[.int .i64 (xa.length : Int)] 3)
  rw [show (w.alloc (.cells #[(Value.slice aa xa.length ca)] 22)).heap.size = w.heap.size + 1 by simp] at r1
  clear r0
  have b0 : Below w.heap.size w w := Below.refl _ _
  refine range_limbs 7 8 (w.heap.size + 5) (w.heap.size + 4) w.heap.size xa.length (Value.slice ab xb.length cb) xb (by exact rfl) hlb (by omega) (by simp) (by simp) (by simp; omega) ?m1 ?m2 (hb.below ?m3) hb.lt
    (fun pre W => ∃ v, Boxed W (w.heap.size + 2) 22 v ∧ W.ownsRow w.heap.size 72 1 v pre.length (enc32 (plusFold xa (pre.map (·.1))).1) ∧ Boxed W (w.heap.size + 3) 79 (.int .u64 ((plusFold xa (pre.map (·.1))).2 : Int)) ∧
      Boxed W (w.heap.size + 4) 22 (Value.slice ab xb.length cb) ∧ Boxed W w.heap.size 22 (Value.slice aa xa.length ca) ∧ Below w.heap.size w W)
    (fun _ _ _ => False)
    (ownFrom_ex fun v => (ownFrom_boxed _ _ _).and ((ownFrom_row _ _ _ _ _ _).and ((ownFrom_boxed _ _ _).and ((ownFrom_boxed _ _ _).and ((ownFrom_boxed _ _ _).and (ownFrom_below (Nat.le_refl _) ?mB))))))
    (fun _ _ _ _ _ h _ _ => h.elim) ?start ?assign ?body ?done ?stop
  case mB => simp; omega
  case m1 => go_simp
  case m2 => go_simp
  case m3 => exact (((((b0.alloc (Nat.le_refl _) _).alloc (by simp) _).alloc (by simp; omega) _).alloc (by simp; omega) _).alloc (by simp; omega) _).alloc (by simp; omega) _
  case start =>
    refine ⟨_, ?_, by simpa [plusFold, enc32] using r1, ?_, ?_, ?_, ?_⟩
    · exact Boxed.at ((((Boxed.new _ _ _).alloc _).alloc _).alloc _) (by simp)
    · exact Boxed.at (((Boxed.new _ _ _).alloc _).alloc _) (by simp)
    · exact Boxed.at ((Boxed.new _ _ _).alloc _) (by simp)
    · exact (((((Boxed.new _ _ _).alloc _).alloc _).alloc _).alloc _).alloc _
    · exact (((((b0.alloc (Nat.le_refl _) _).alloc (by simp) _).alloc (by simp; omega) _).alloc (by simp; omega) _).alloc (by simp; omega) _).alloc (by simp; omega) _
  case assign =>
    intro l x W K hK
    gi_wp2
    exact hK
  case body =>
    rintro l pre x W ⟨v, bv, rv, bc, bs, bl, bw⟩ hlt
    simp only [boundFrame]
    gi_wp2
    have hnr := bc.not_row (by decide) rv
    have hnv := bv.not_row (by decide) rv
    have hbB := bw.size
    obtain ⟨⟨i, y⟩, hi1, hi2⟩ := x
    have hps : ∀ p ∈ pre.map (·.1), p.2 < B32 := fun p hp => by
      obtain ⟨q, _, rfl⟩ := List.mem_map.1 hp
      exact q.2.2
    have hcle := (plusFold_limbs hla (pre.map (·.1)) hps).2
    have hnext := plusFold_snoc xa (pre.map (·.1)) (i, y)
    have hmap : (pre ++ [(⟨(i, y), hi1, hi2⟩ : IdxLimb xa.length)]).map (·.1) = pre.map (·.1) ++ [(i, y)] := by simp
    have hd := limb_getD hla i
    dsimp only at *
    have hcell := (ha.below bw).cell i hi1
    generalize hst : plusFold xa (pre.map (·.1)) = st at *
    obtain ⟨r, c⟩ := st
    simp only [plusStep] at hnext
    dsimp only at *
    generalize xa[i]?.getD 0 = d at *
    clear hst hps
    have HN := Lib.hid hnext
    have HM := Lib.hid hmap
    clear hnext hmap
    unfold B32 at hi2 hd
    have hix := ha.index und_limbs size_limb i .i64
    have hbc := bc.cell
    have hfc := bc.frozen
    have hbl := bl.cell
    have hbv := bv.cell
    have hfv := bv.frozen
    refine region_tail (.inr ⟨_, rfl⟩) 10 (by kernel_rfl) (by kernel_rfl) ?_
    simp only [List.take_succ_cons, List.take_zero, List.drop_succ_cons, List.drop_zero]
    repeat still_step
    refine wpStill_nil ?_
    change wpListIn _ _ _ _ _ _ _ W.drew
    have hrowA := (((rv.kept (grownBy_setCell' W (w.heap.size + 3) (.int .u64 ((c : Int) + ((d : Int) + (y : Int))))) (.inr hnr.symm)).alloc (.cells #[.int .u32 (((c : Int) + ((d : Int) + (y : Int))) % 4294967296)] 72))).drew
    have HR := Lib.hid hnr
    have HV := Lib.hid hnv
    clear hnr hnv
    gi_wp2_with (gi_at_builtin; refine wpListIn_append_own _ rfl _ _ 22 rfl w.heap.size 72 inf (.int .u32 0) 1 4 und_limbs hi hz0 hz1 hz2 rfl (by decide) _ _ _ rfl hrowA ⟨W.heap.size, 0, none⟩ 1 1 [.int .u32 (((c : Int) + ((d : Int) + (y : Int))) % 4294967296)] rfl rfl (cell_new_drew _ _ _ _ (by simp)) (by simp [Value.oneCell']) (by unfold maxLen; omega) (by omega) (by simp; omega) ?_; intro v' w1 hown' hgrow _; obtain ⟨g', cap', rfl⟩ := ownsRow_succ hown'; have bc1 := Boxed.kept (Boxed.drew (Boxed.alloc (bc.set (.int .u64 ((c : Int) + ((d : Int) + (y : Int))))) (.cells #[.int .u32 (((c : Int) + ((d : Int) + (y : Int))) % 4294967296)] 72))) hgrow HR.out; have bv1 := Boxed.kept (Boxed.drew (Boxed.alloc (bv.other (B' := w.heap.size + 3) (by omega) (.int .u64 ((c : Int) + ((d : Int) + (y : Int))))) (.cells #[.int .u32 (((c : Int) + ((d : Int) + (y : Int))) % 4294967296)] 72))) hgrow HV.out; have hcc1 := bc1.cell; have hcv1 := bv1.cell; have hfc1 := bc1.frozen; have hfv1 := bv1.frozen)
    have hS : Chg (fun k => k = w.heap.size + 2 ∨ k = w.heap.size + 3 ∨ v.ownBlock = some k) W w1 := (((((Chg.refl _ W).setCell (p := ⟨w.heap.size + 3, 0, none⟩) (.inl (.inr (.inl rfl))) _).alloc _).drew).grown hgrow (fun k e => .inl (.inr (.inr e))))
    have hF := (hS.setCell (p := ⟨w.heap.size + 2, 0, none⟩) (.inl (.inl rfl)) (Value.slice (some ⟨g', 0, none⟩) (pre.length + 1) cap')).setCell (p := ⟨w.heap.size + 3, 0, none⟩) (.inl (.inr (.inl rfl))) (.int .u64 (((c : Int) + ((d : Int) + (y : Int))) / 4294967296))
    have hge : ∀ k, (k = w.heap.size + 2 ∨ k = w.heap.size + 3 ∨ v.ownBlock = some k) → w.heap.size ≤ k := by
      rintro k (e | e | e)
      · omega
      · omega
      · exact (rv.lt k e).1
    have n4 : ¬ (w.heap.size + 4 = w.heap.size + 2 ∨ w.heap.size + 4 = w.heap.size + 3 ∨ v.ownBlock = some (w.heap.size + 4)) := by
      rintro (e | e | e)
      · omega
      · omega
      · exact bs.not_row (by decide) rv e.symm
    have n0 : ¬ (w.heap.size = w.heap.size + 2 ∨ w.heap.size = w.heap.size + 3 ∨ v.ownBlock = some w.heap.size) := by
      rintro (e | e | e)
      · omega
      · omega
      · exact bl.not_row (by decide) rv e.symm
    have hbel := hF.below hge hbB
    refine ⟨hF.keepsFrom _ ?_, Kp0.boxed hbel bs (hF.boxed bs n4), _, Boxed.other (bv1.set _) (by omega) _, ?_, ?_, hF.boxed bs n4, hF.boxed bl n0, bw.trans hbel⟩
    · rintro k (rfl | rfl | e)
      · exact Boxed.isCells bv
      · exact Boxed.isCells bc
      · exact ownsRow_isCells rv e
    · have hv1 : Value.int .u32 (((c + (d + y)) % B32 : Nat) : Int) = .int .u32 (((c : Int) + ((d : Int) + (y : Int))) % 4294967296) := congrArg _ (by unfold B32; omega)
      rw [HM.out, HN.out, enc32_snoc, hv1, List.length_append]
      have bv2 := bv1.set (Value.slice (some ⟨g', 0, none⟩) (pre.length + 1) cap')
      have r2 := hown'.kept (grownBy_setCell' w1 (w.heap.size + 2) (Value.slice (some ⟨g', 0, none⟩) (pre.length + 1) cap')) (.inr (bv1.not_row (by decide) hown').symm)
      exact r2.kept (grownBy_setCell' _ (w.heap.size + 3) _) (.inr (bc1.not_row (by decide) hown').symm)
    · have hv2 : Value.int .u64 (((c + (d + y)) / B32 : Nat) : Int) = .int .u64 (((c : Int) + ((d : Int) + (y : Int))) / 4294967296) := congrArg _ (by unfold B32; omega)
      rw [HM.out, HN.out, hv2]
      exact Boxed.set _ (bc1.other (by omega) _)
  case done =>
    rintro D ys W hD hys ⟨v, bv, rv, bc, bs, bl, bw⟩ hK
    have hlim := plusFold_limbs hla (limbPairs xb xa.length) (fun p hp => by
      obtain ⟨q, _, rfl⟩ := List.mem_map.1 (hys ▸ hp)
      exact q.2.2)
    have hval := plusFold_val xa xb xa.length
    have hylen : ys.length = xa.length := by have := congrArg List.length hys; simpa [limbPairs_length] using this
    rw [hys] at rv bc
    rw [hylen] at rv
    clear hys hylen
    generalize plusFold xa (limbPairs xb xa.length) = st at *
    obtain ⟨r, c⟩ := st
    obtain ⟨hlr, hc1⟩ := hlim
    dsimp only at *
    have HV := Lib.hid hval
    clear hval
    have hrowA := rv.alloc (.cells #[.int .u32 (c : Int)] 72)
    have hbB := bw.size
    have hbc := bc.cell
    have hbv := bv.cell
    have hnD := ownsRow_notWalk rv hK rfl
    have HD := Lib.hid hnD
    clear hnD
    gi_wp2_with (first | (gi_at_builtin; go_loud (refine wpListIn_append_own _ rfl _ _ 22 rfl w.heap.size 72 inf (.int .u32 0) 1 4 und_limbs hi hz0 hz1 hz2 rfl (by decide) _ _ _ rfl hrowA ⟨W.heap.size, 0, none⟩ 1 1 [.int .u32 (c : Int)] rfl rfl (cell_new_plain _ _ _ _ rfl) (by simp [Value.oneCell']) (by unfold maxLen; omega) (by omega) (by simp; omega) ?_); intro v' w1 hown' hgrow _; have hrd : Reads .u32 w1 v' (r ++ [c]) := Reads.ofOwn (by simpa [enc32] using hown')) | (refine ⟨trivial, ?_⟩; gi_at_call 64; refine (callsIn_wide.2 (trim_any _ _ _ (by assumption))).mono ?_; rintro e w' ⟨rfl, v3, rfl, hr3⟩))
    have hg : (W.alloc (.cells #[.int .u32 (c : Int)] 72)).grownBy w1 v.ownBlock := hgrow
    have hK1 : w1.heap[D]? = some (.deferred (some [])) := (hg.block D (by have := (Array.getElem?_eq_some_iff.1 hK).1; simp; omega) HD.out).trans ((Below.heap_alloc W _ D (Array.getElem?_eq_some_iff.1 hK).1).trans hK)
    have hb1 : Below w.heap.size W w1 := ((Below.refl _ W).alloc hbB _).grown hg (by simp; omega) (fun k e => (rv.lt k e).1)
    have hlr2 : r.length = xa.length := by have := rv.1; simpa [enc32] using this
    refine ⟨by simp, .inl ⟨_, _, rfl, run_takeDeferred hK1, ?_⟩⟩
    refine ⟨_, results_tmp rfl _ _ _, (bw.trans hb1).trans (belowK_b (w := w) (Nat.le_refl _) w1 D _ _ (by simp at hD; omega) hK1 rfl rfl), v3, _, rfl, hr3.putObj hK1 rfl _, canon_trimmed (limbs_snoc hlr (by unfold B32; omega)), ?_⟩
    rw [val_trimmed, val_snoc, hlr2, HV.out, List.take_of_length_le (by omega), List.take_of_length_le (by omega)]
  case stop =>
    rintro D c pre W _ _ h _
    exact h.elim

theorem plus_any (va vb : Value) (xa xb : List Nat) (w : World) (ha : Reads .u32 w va xa) (hb : Reads .u32 w vb xb) (hla : Limbs xa) (hlb : Limbs xb) (na : xa.length ≤ 100000) (nb : xb.length ≤ 100000) :
    Calls Tryd.prog 101 #[va, vb] w fun e w' => Below w.heap.size w w' ∧ ∃ v cs, e = .returned v ∧ Reads .u32 w' v cs ∧ Canon cs ∧ val cs = val xa + val xb := by
  by_cases hl : xa.length < xb.length
  · exact plus_lt va vb xa xb w ha hb hla hlb na nb hl
  · exact plus_ge va vb xa xb w ha hb hla hlb na nb hl

end Go.Proofs.YtlghjfpkfdnfoaaDoor

/- num.timesLimbs -/
namespace Go.Proofs.YtlghjfpkfdnfoaaDoor
open Go Go.RowKit Go.Shelf
attribute [local go_sem] Oper.semAt_some

/-- between two rounds -/
def TlInv (w : World) (va vb : Value) (xa xb : List Nat) (ps : List (Nat × Nat)) (W : World) : Prop :=
  Boxed W (w.heap.size + 2) 22 (.slice (some ⟨w.heap.size + 1, 0, none⟩) (xa.length + xb.length) (xa.length + xb.length)) ∧ RowAt W (w.heap.size + 1) 72 (enc32 (tlFold (xa.length + xb.length) xb ps)) ∧
  Boxed W (w.heap.size + 3) 22 va ∧ Boxed W w.heap.size 22 vb ∧ Below w.heap.size w W
theorem tlInv_own (B : Nat) {w : World} (hB : w.heap.size ≤ B) (va vb : Value) (xa xb : List Nat) {α : Type} (f : α → List (Nat × Nat)) : OwnFrom B (fun s W => TlInv w va vb xa xb (f s) W) :=
  (ownFrom_boxed _ _ _).and ((ownFrom_rowAt _ _ (fun s => enc32 (tlFold (xa.length + xb.length) xb (f s)))).and ((ownFrom_boxed _ _ _).and ((ownFrom_boxed _ _ _).and (ownFrom_below (Nat.le_refl _) hB))))

set_option maxHeartbeats 2000000 in
set_option maxRecDepth 100000 in
theorem timesLimbs_any (va vb : Value) (xa xb : List Nat) (w : World) (ha : Reads .u32 w va xa) (hb : Reads .u32 w vb xb) (hla : Limbs xa) (hlb : Limbs xb) (na : xa.length ≤ 100000) (nb : xb.length ≤ 100000) :
    Calls Tryd.prog 122 #[va, vb] w fun e w' => Below w.heap.size w w' ∧ ∃ v cs, e = .returned v ∧ Reads .u32 w' v cs ∧ Canon cs ∧ val cs = val xa * val xb := by
  obtain ⟨aa, ca, rfl, hca, hma⟩ := ha.form
  obtain ⟨ab, cb, rfl, hcb, hmb⟩ := hb.form
  unfold maxLen at hma hmb
  refine (callsIn_wide (n := 9)).1 ?_
  refine callsIn_of_wp_marks Tryd.func122 rfl trivial ?_ rfl
  simp only [Tryd.ntmps122, List.size_toArray, List.length_cons, List.length_nil, Nat.reduceAdd, Nat.reduceSub, Array.replicate_succ, Array.replicate_zero, List.push_toArray, List.append_toArray, List.nil_append, List.cons_append]
  have hmk : ∀ w, (Instr.makeSlice 22 (.int .i64 ((xa.length : Int) + (xb.length : Int))) (.int .i64 ((xa.length : Int) + (xb.length : Int)))).run Tryd.prog w = .ok (.slice (some ⟨w.heap.size, 0, none⟩) (xa.length + xb.length) (xa.length + xb.length)) (w.alloc (.cells (zeros (xa.length + xb.length)) 72)) := fun w => by
    rw [make_limbs _ _ (by omega) (by omega) (by omega) w, show ((xa.length : Int) + (xb.length : Int)).toNat = xa.length + xb.length by omega]
  gi_wp2_with (refine ⟨trivial, ?_⟩; gi_at_call 99; refine (callsIn_wide.2 (limbs_any _ _ _ ⟨_, _, _, rfl⟩)).mono ?_; rintro e w' ⟨rfl, rfl⟩)
  clear hmk
  have b0 : Below w.heap.size w w := Below.refl _ _
  refine range_limbs 6 7 (w.heap.size + 4) (w.heap.size + 3) w.heap.size xa.length (.slice aa xa.length ca) xa (by exact rfl) hla (by omega) (by simp) (by simp) (by simp; omega) ?m1 ?m2 (ha.below ?m3) ha.lt
    (fun pre W => TlInv w (.slice aa xa.length ca) (.slice ab xb.length cb) xa xb (pre.map (·.1)) W)
    (fun _ _ _ => False) (tlInv_own _ ?mB _ _ _ _ _) (fun _ _ _ _ _ h _ _ => h.elim) ?start ?assign ?body ?done ?stop
  case mB => simp; omega
  case m1 => go_simp
  case m2 => go_simp
  case m3 => exact ((((b0.alloc (Nat.le_refl _) _).alloc (by simp) _).alloc (by simp; omega) _).alloc (by simp; omega) _).alloc (by simp; omega) _
  case start =>
    refine ⟨?_, ?_, ?_, ?_, ?_⟩
    · exact Boxed.at (((Boxed.new _ _ _).alloc _).alloc _) (by simp)
    · have e : enc32 (tlFold (xa.length + xb.length) xb (([] : List (IdxLimb xa.length)).map (·.1))) = (zeros (xa.length + xb.length)).toList := by simp [tlFold, enc32, zeros]
      rw [e]
      exact RowAt.at ((((RowAt.new _ _ _).alloc _).alloc _).alloc _) (by simp)
    · exact Boxed.at ((Boxed.new _ _ _).alloc _) (by simp)
    · exact ((((Boxed.new _ _ _).alloc _).alloc _).alloc _).alloc _
    · exact ((((b0.alloc (Nat.le_refl _) _).alloc (by simp) _).alloc (by simp; omega) _).alloc (by simp; omega) _).alloc (by simp; omega) _
  case assign =>
    intro l x W K hK
    gi_wp2
    exact hK
  case body =>
    rintro l pre x W ⟨bv, rv, bs, bl, bw⟩ hlt
    have hbB := bw.size
    obtain ⟨⟨i, y⟩, hi1, hi2⟩ := x
    have hps : ∀ p ∈ pre.map (·.1), p.2 < B32 := fun p hp => by
      obtain ⟨q, _, rfl⟩ := List.mem_map.1 hp
      exact q.2.2
    have hlr := tlFold_limbs (xa.length + xb.length) hlb (pre.map (·.1)) hps
    have hlen := tlFold_length (xa.length + xb.length) xb (pre.map (·.1))
    have hnext := tlFold_snoc (xa.length + xb.length) xb (pre.map (·.1)) (i, y)
    have hmap : (pre ++ [(⟨(i, y), hi1, hi2⟩ : IdxLimb xa.length)]).map (·.1) = pre.map (·.1) ++ [(i, y)] := by simp
    generalize tlFold (xa.length + xb.length) xb (pre.map (·.1)) = r at *
    simp only [tlStep] at hnext
    dsimp only at *
    clear hps
    have HN := Lib.hid hnext
    have HM := Lib.hid hmap
    have HL := Lib.hid hlen
    clear hnext hmap hlen
    have hi3 := hi2
    unfold B32 at hi3
    have hbv := bv.cell
    have hcf := bl.cell
    simp only [boundFrame]
    gi_wp2_with fail
    gi_loopw [8, 25] (fun s8 s25 wr => ∃ j : Nat, j ≤ xb.length ∧ s25 = .int .i64 (j : Int) ∧ s8 = .int .u64 ((tlInner y i xb r j).2 : Int) ∧ RowAt wr (w.heap.size + 1) 72 (enc32 (tlInner y i xb r j).1) ∧ Chg (fun k => k = w.heap.size + 1) W wr)
      (fun _ s25 _ => xb.length - (intOf s25).toNat)
    case atStart => exact ⟨0, Nat.zero_le _, rfl, rfl, rv, Chg.refl _ _⟩
    case round =>
      obtain ⟨j, hj, rfl, rfl, rw1, hch⟩ := hrel
      have bv1 := hch.boxed bv (by omega)
      have bl1 := hch.boxed bl (by omega)
      have hcv1 := bv1.cell
      have hcl1 := bl1.cell
      obtain ⟨hq1, hc1⟩ := tlInner_limbs hi2 i hlb hlr j
      have hql := tlInner_length y i xb r j
      rw [HL.out] at hql
      have hstep : tlInner y i xb r (j + 1) = ((tlInner y i xb r j).1.set (i + j) (((tlInner y i xb r j).2 + (y * xb[j]?.getD 0 + (tlInner y i xb r j).1[i + j]?.getD 0)) % B32), ((tlInner y i xb r j).2 + (y * xb[j]?.getD 0 + (tlInner y i xb r j).1[i + j]?.getD 0)) / B32) := rfl
      have HS := Lib.hid hstep
      clear hstep
      generalize hst : tlInner y i xb r j = st at *
      obtain ⟨q, c⟩ := st
      have HT := Lib.hid hst
      clear hst
      dsimp only at *
      by_cases hjl : j < xb.length
      · have hix := hb.index und_limbs size_limb j .i64
        have hcell := ((hb.below bw).belowAt (B := w.heap.size) hb.lt (hch.below (by omega) hbB)).cell j hjl
        have hbb := limb_getD hlb j
        obtain ⟨b, hbe⟩ : ∃ b, xb[j]?.getD 0 = b := ⟨_, rfl⟩
        obtain ⟨z, hze⟩ : ∃ z, q[i + j]?.getD 0 = z := ⟨_, rfl⟩
        have hzb := limb_getD hq1 (i + j)
        rw [hze] at hzb HS
        rw [hbe] at hcell hbb HS
        have hbd := tl_bound hc1 hi2 hbb hzb
        obtain ⟨P, hP⟩ : ∃ P, y * b = P := ⟨_, rfl⟩
        rw [hP] at hbd HS
        obtain ⟨T, hT⟩ : ∃ T, c + (P + z) = T := ⟨_, rfl⟩
        rw [hT] at HS
        unfold B32 at hbd hbb hzb hc1
        have hmul : IntKind.u64.wrap ((y : Int) * (b : Int)) = (P : Int) := by
          rw [← Int.natCast_mul, hP, IntKind.wrap_u64]; omega
        have hs1 : IntKind.u64.wrap ((P : Int) + (z : Int)) = (P : Int) + (z : Int) := by rw [IntKind.wrap_u64]; omega
        have hs2 : IntKind.u64.wrap ((c : Int) + ((P : Int) + (z : Int))) = (T : Int) := by rw [IntKind.wrap_u64]; omega
        have hci : wr.cell? ⟨w.heap.size + 1, i + j, none⟩ = some (.int .u32 (z : Int)) := by
          rw [rw1.cell]
          simp [enc32, List.getElem?_eq_getElem (show i + j < q.length by omega)]
          rw [← hze, List.getElem?_eq_getElem (show i + j < q.length by omega)]; rfl
        have hcz := rw1.frozen (i + j)
        clear hP hT hbe hze hbd
        have HQ := Lib.hid hql
        clear hql
        gi_wp2_with fail
        go_roundw
        case rel =>
          refine ⟨j + 1, by omega, by go_num, ?_, ?_, hch.setCell (.inl rfl) _⟩
          · rw [HS.out]
            exact congrArg _ (by show _ = ((T / B32 : Nat) : Int); unfold B32; omega)
          · rw [HS.out]
            have hv : Value.int .u32 ((T : Int) % 4294967296) = .int .u32 ((T % B32 : Nat) : Int) := congrArg _ (by unfold B32; omega)
            rw [hv]
            have e : enc32 (q.set (i + j) (T % B32)) = (enc32 q).set (i + j) (.int .u32 ((T % B32 : Nat) : Int)) := by simp [enc32, List.map_set]
            rw [e]
            exact rw1.set (i + j) _
        case measure => simp [intOf]; omega
      · obtain rfl : j = xb.length := by omega
        have hci : ∃ z : Value, wr.cell? ⟨w.heap.size + 1, i + xb.length, none⟩ = some z := by
          rw [rw1.cell]
          exact ⟨_, List.getElem?_eq_getElem (by simp [enc32]; omega)⟩
        obtain ⟨z, hci⟩ := hci
        have hcz := rw1.frozen (i + xb.length)
        unfold B32 at hc1
        have HQ := Lib.hid hql
        clear hql
        gi_wp2_with fail
        have hF := hch.setCell (p := ⟨w.heap.size + 1, i + xb.length, none⟩) (.inl rfl) (.int .u32 (c : Int))
        have hbel := hF.below (B := w.heap.size) (by rintro k rfl; omega) hbB
        have f4 := hF.boxed bs (by omega)
        refine ⟨hF.keepsFrom _ ?_, Kp0.boxed hbel bs f4, hF.boxed bv (by omega), ?_, f4, hF.boxed bl (by omega), bw.trans hbel⟩
        · rintro k rfl
          exact rv.isCells
        · rw [HM.out, HN.out, HT.out]
          have e : enc32 (q.set (i + xb.length) c) = (enc32 q).set (i + xb.length) (.int .u32 (c : Int)) := by simp [enc32, List.map_set]
          rw [e]
          exact rw1.set (i + xb.length) _
  case done =>
    rintro D ys W hD hys ⟨bv, rv, bs, bl, bw⟩ hK
    have hlim := tlFold_limbs (xa.length + xb.length) hlb (limbPairs xa xa.length) (fun p hp => by
      obtain ⟨q, _, rfl⟩ := List.mem_map.1 (hys ▸ hp)
      exact q.2.2)
    have hval := (tlFold_val xa xb xa.length (Nat.le_refl _)).1
    have hlen := tlFold_length (xa.length + xb.length) xb (limbPairs xa xa.length)
    rw [List.take_of_length_le (Nat.le_refl _)] at hval
    rw [hys] at rv
    clear hys
    generalize tlFold (xa.length + xb.length) xb (limbPairs xa xa.length) = r at *
    have HV := Lib.hid hval
    have hrd : Reads .u32 W (.slice (some ⟨w.heap.size + 1, 0, none⟩) (xa.length + xb.length) (xa.length + xb.length)) r := RowAt.reads rv _ _ hlen.symm (Nat.le_refl _) (by unfold maxLen; omega)
    clear hval hlen
    have hbv := bv.cell
    gi_wp2_with (refine ⟨trivial, ?_⟩; gi_at_call 64; refine (callsIn_wide.2 (trim_any _ _ _ hrd)).mono ?_; rintro e w' ⟨rfl, v3, rfl, hr3⟩)
    refine ⟨by simp, .inl ⟨_, _, rfl, run_takeDeferred hK, ?_⟩⟩
    refine ⟨_, results_tmp rfl _ _ _, bw.trans (belowK_b (w := w) (Nat.le_refl _) W D _ _ (by simp at hD; omega) hK rfl rfl), v3, _, rfl, hr3.putObj hK rfl _, canon_trimmed hlim, ?_⟩
    rw [val_trimmed, HV.out]
  case stop =>
    rintro D c pre W _ _ h _
    exact h.elim

end Go.Proofs.YtlghjfpkfdnfoaaDoor

/- small functions of num: signed, negative, one, clone, bitLen, demand, fitting, Check -/
namespace Go.Proofs.YtlghjfpkfdnfoaaDoor
open Go Go.RowKit Go.Shelf

set_option maxRecDepth 100000 in
set_option maxHeartbeats 400000 in
theorem signed_any (neg : Bool) (a : Option Addr) (n cap : Nat) (w : World) :
    Calls Tryd.prog 63 #[.bool neg, .slice a n cap] w fun e w' => Below w.heap.size w w' ∧ e = .returned (.agg #[.bool (neg && decide (0 < n)), .slice a n cap]) := by
  cases neg
  · go_enter Tryd.func63, Tryd.ntmps63
    go_wp2
    exact bodyPost_ret (v := .agg #[.bool false, .slice a n cap]) (by simp [results, Tryd.results63, go_sem]) rfl ⟨(Below.refl _ _).alloc (Nat.le_refl _) _, rfl⟩
  · go_enter Tryd.func63, Tryd.ntmps63
    go_wp2
    exact bodyPost_ret (v := .agg #[.bool (decide (0 < n)), .slice a n cap]) (by simp [results, Tryd.results63, go_sem]) rfl ⟨(Below.refl _ _).alloc (Nat.le_refl _) _, rfl⟩

set_option maxRecDepth 100000 in
set_option maxHeartbeats 400000 in
theorem one_any (w : World) : Calls Tryd.prog 106 #[] w fun e w' => Below w.heap.size w w' ∧ ∃ v, e = .returned v ∧ Reads .u32 w' v [1] := by
  go_enter Tryd.func106, Tryd.ntmps106
  go_wp2
  go_ret
  exact ⟨(Below.refl _ _).alloc (Nat.le_refl _) _, _, rfl, RowAt.reads (xs := [1]) (RowAt.new w 72 [.int .u32 1]) 1 1 rfl (by omega) (by simp [maxLen])⟩

set_option maxRecDepth 100000 in
set_option maxHeartbeats 400000 in
theorem demand_ok (b : Bool) (er : Int) (w : World) (hb : b = true) : Calls Tryd.prog 60 #[.bool b, .int .i64 er] w fun e w' => w = w' ∧ e = .returned (.tuple #[]) := by
  subst hb
  go_enter Tryd.func60, Tryd.ntmps60
  go_wp2
  go_end0
  exact ⟨rfl, rfl⟩

set_option maxRecDepth 100000 in
set_option maxHeartbeats 400000 in
theorem demand_no (b : Bool) (er : Int) (w : World) (hb : b = false) : Calls Tryd.prog 60 #[.bool b, .int .i64 er] w fun e w' => w = w' ∧ e = .panicked [{ v := .iface 27 (.int .i64 er), recovered := false }] := by
  subst hb
  go_enter Tryd.func60, Tryd.ntmps60
  go_wp2
  exact ⟨rfl, rfl, rfl⟩

set_option maxRecDepth 100000 in
set_option maxHeartbeats 400000 in
theorem fitting_any (neg : Bool) (a : Option Addr) (n cap : Nat) (w : World) (hn : n ≤ 300) :
    Calls Tryd.prog 76 #[.agg #[.bool neg, .slice a n cap]] w fun e w' => Below w.heap.size w w' ∧ e = .returned (.agg #[.bool neg, .slice a n cap]) := by
  go_enter Tryd.func76, Tryd.ntmps76
  go_wp2_with (go_at_call 60; refine (demand_ok _ _ _ (by simp; try omega)).mono ?_; rintro e w' ⟨rfl, rfl⟩)
  exact bodyPost_ret (v := .agg #[.bool neg, .slice a n cap]) (by simp [results, Tryd.results76, go_sem]) rfl ⟨((Below.refl _ _).alloc (Nat.le_refl _) _).alloc (by simp) _, rfl⟩

set_option maxRecDepth 100000 in
set_option maxHeartbeats 400000 in
theorem clone_any (v : Value) (xs : List Nat) (w : World) (h : Reads .u32 w v xs) (hn : xs.length ≤ 1000000) :
    Calls Tryd.prog 110 #[v] w fun e w' => Below w.heap.size w w' ∧ ∃ v', e = .returned v' ∧ Reads .u32 w' v' xs := by
  obtain ⟨a, cap, rfl, hc, hm⟩ := h.form
  by_cases hx : xs = []
  · subst hx
    have h0 : ∀ (a : Addr) (w : World), (loadCellsFrom a 0 0 #[]).run Tryd.prog w = .ok #[] w := fun a w => by simp [loadCellsFrom]
    cases a <;>
    · go_enter Tryd.func110, Tryd.ntmps110
      go_wp2
      go_ret
      exact ⟨Below.refl _ _, _, rfl, Reads.nil _ _⟩
  · obtain ⟨inf, hi, hzz⟩ := Option.map_eq_some_iff.1 info_limb
    simp only [Prod.mk.injEq] at hzz
    obtain ⟨hz0, hz1, hz2⟩ := hzz
    obtain ⟨a', cap', he, _, _, hr⟩ := h
    cases he
    obtain ⟨⟨b, off, rfl⟩, _⟩ := hr 0 (List.length_pos_iff.2 hx)
    have hnews : ∀ j u, (enc32 xs)[j]? = some u → w.cell? ((⟨b, off, none⟩ : Addr).add j) = some u := by
      intro j u hu
      have hj : j < xs.length := by
        have := (List.getElem?_eq_some_iff.1 hu).1
        simpa [enc32] using this
      have h2 := (hr j hj).2
      rw [lookAt_some] at h2
      rw [Addr.add_lit, h2]
      simp [enc32, List.getElem?_map, List.getElem?_eq_getElem hj] at hu ⊢
      exact hu
    have HN := Lib.hid hnews
    clear hnews hr hx
    go_enter Tryd.func110, Tryd.ntmps110
    go_wp2_with (at_builtin; go_loud (refine wpList_append_own _ rfl _ _ 22 rfl w.heap.size 72 inf (.int .u32 0) 1 4 und_limbs hi hz0 hz1 hz2 rfl (by decide) _ _ _ rfl (World.ownsRow_nil _ _ _ _) ⟨b, off, none⟩ xs.length cap (enc32 xs) rfl (by simp [enc32]) HN.out (by simp [enc32, Value.oneCell']) (by unfold maxLen; omega) (by omega) (Nat.le_refl _) ?_); intro v' w1 hown' hgrow _)
    go_ret
    refine ⟨(Below.refl _ _).grown hgrow (Nat.le_refl _) (fun k e => by cases e), v', rfl, Reads.ofOwn (by simpa [enc32] using hown')⟩

end Go.Proofs.YtlghjfpkfdnfoaaDoor
