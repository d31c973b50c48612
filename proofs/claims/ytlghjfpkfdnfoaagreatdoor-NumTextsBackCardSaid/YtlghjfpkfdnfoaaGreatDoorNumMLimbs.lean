/- What it means that a slice reads as a list of numbers, and what keeps it. -/
import Derived.WalkKit
import Derived.WalkLawsBesides
import Derived.WalkSpells
import Derived.Lib.Hide
import Derived.RangeFuncNested
import Derived.Maps.AppendAt
import Derived.RangeFuncBound
import Derived.RangeFuncCalls
import Derived.RangeFuncLeaves
import Derived.Shelf.Abstract
import Derived.Shelf.RegionOpen
import Derived.OwnWalkIn
import Derived.TacticsInMore
import Derived.LoopNIn
import Derived.LoopIn
import Derived.Outline
import Derived.Test.YtlghjfpkfdnfoaaGreatDoorProg
namespace Go.Proofs.YtlghjfpkfdnfoaaGreatDoor
open Go Go.RowKit

/-- Where the element j of a slice lies. -/
def lookAt (a : Option Addr) (j : Nat) : Addr := ⟨(a.getD default).block, (a.getD default).off + j, none⟩

/-- The slice value v reads, in w, as the numbers xs of kind k. -/
def Reads (k : IntKind) (w : World) (v : Value) (xs : List Nat) : Prop :=
  ∃ a cap, v = .slice a xs.length cap ∧ xs.length ≤ cap ∧ cap ≤ maxLen ∧
    ∀ j, j < xs.length → (∃ b off, a = some ⟨b, off, none⟩) ∧ w.cell? (lookAt a j) = some (.int k ((xs[j]?.getD 0 : Nat) : Int))

theorem lookAt_some (b off j : Nat) : lookAt (some ⟨b, off, none⟩) j = ⟨b, off + j, none⟩ := rfl

/-- What lies below B lies in w' as in w: a reading there stays. -/
theorem Reads.below {k : IntKind} {w w' : World} {v : Value} {xs : List Nat} (h : Reads k w v xs) (hb : Below w.heap.size w w') : Reads k w' v xs := by
  obtain ⟨a, cap, rfl, hc, hm, hr⟩ := h
  refine ⟨a, cap, rfl, hc, hm, fun j hj => ⟨(hr j hj).1, ?_⟩⟩
  have h2 := (hr j hj).2
  exact (hb.cell (World.block_lt_of_cell? w _ h2)).trans h2

theorem Reads.belowAt {k : IntKind} {B : Nat} {w w' : World} {v : Value} {xs : List Nat} (h : Reads k w v xs) (hB : ∀ a n c, v = .slice (some a) n c → xs ≠ [] → a.block < B) (hb : Below B w w') : Reads k w' v xs := by
  obtain ⟨a, cap, rfl, hc, hm, hr⟩ := h
  refine ⟨a, cap, rfl, hc, hm, fun j hj => ⟨(hr j hj).1, ?_⟩⟩
  obtain ⟨⟨b, off, rfl⟩, h2⟩ := hr j hj
  have hBB : b < B := hB ⟨b, off, none⟩ _ _ rfl (by intro e; simp [e] at hj)
  exact (hb.cell (p := lookAt (some ⟨b, off, none⟩) j) hBB).trans h2

/-- The operation that takes an element's address. -/
theorem index_lookAt {P : Program} (t e : TypeId) (ht : P.underlying t = some (.slice e)) (hs : ∀ w, (sizeOf e).run P w = .ok 1 w) (a : Option Addr) (n cap : Nat) (j : Nat) (hj : j < n)
    (ha : ∃ b off, a = some ⟨b, off, none⟩) (ki : IntKind) (w : World) :
    (Instr.indexAt t (.slice a n cap) (.int ki (j : Int))).run P w = .ok (.pointer (some (lookAt a j))) w := by
  obtain ⟨b, off, rfl⟩ := ha
  have he : P.elem t = e := by simp [Program.elem, ht]
  have h1 : (sizeOf (P.elem t)).run P w = .ok 1 w := by rw [he]; exact hs w
  rw [run_indexAt_slice w t ⟨b, off, none⟩ n cap ki j (by rw [ht, he])]
  rw [if_pos ⟨by omega, by omega⟩, h1]
  simp [Result.andThen, Addr.add_lit, lookAt]

theorem Reads.index {P : Program} {t e : TypeId} (ht : P.underlying t = some (.slice e)) (hs : ∀ w, (sizeOf e).run P w = .ok 1 w) {k : IntKind} {w : World} {a : Option Addr} {n cap : Nat} {xs : List Nat}
    (h : Reads k w (.slice a n cap) xs) : ∀ (j : Nat) (ki : IntKind) (w' : World), j < xs.length → (Instr.indexAt t (.slice a n cap) (.int ki (j : Int))).run P w' = .ok (.pointer (some (lookAt a j))) w' := by
  obtain ⟨a', cap', he, hc, hm, hr⟩ := h
  cases he
  exact fun j ki w' hj => index_lookAt t e ht hs a _ cap j hj (hr j hj).1 ki w'

theorem Reads.cell {k : IntKind} {w : World} {a : Option Addr} {n cap : Nat} {xs : List Nat}
    (h : Reads k w (.slice a n cap) xs) : ∀ j, j < xs.length → w.cell? (lookAt a j) = some (.int k ((xs[j]?.getD 0 : Nat) : Int)) := by
  obtain ⟨a', cap', he, hc, hm, hr⟩ := h
  cases he
  exact fun j hj => (hr j hj).2

theorem Reads.form {k : IntKind} {w : World} {v : Value} {xs : List Nat} (h : Reads k w v xs) : ∃ a cap, v = .slice a xs.length cap ∧ xs.length ≤ cap ∧ cap ≤ maxLen := by
  obtain ⟨a, cap, e, hc, hm, _⟩ := h; exact ⟨a, cap, e, hc, hm⟩

/-- A part of what is read, from l on, n elements. -/
theorem Reads.part {k : IntKind} {w : World} {a : Option Addr} {n cap : Nat} {xs : List Nat} (h : Reads k w (.slice a n cap) xs) (l m : Nat) (hlm : l ≤ m) (hm : m ≤ xs.length) :
    Reads k w (sliced a l m cap 1) ((xs.take m).drop l) := by
  obtain ⟨a', cap', he, hc, hmx, hr⟩ := h
  cases he
  have hlen : ((xs.take m).drop l).length = m - l := by simp; omega
  refine ⟨if cap = l then a else a.map (·.add (l * 1)), cap - l, ?_, by omega, by omega, fun j hj => ?_⟩
  · simp only [sliced, hlen]
  · rw [hlen] at hj
    obtain ⟨⟨b, off, rfl⟩, h2⟩ := hr (l + j) (by omega)
    rw [if_neg (by omega)]
    refine ⟨⟨b, off + l, by simp [Addr.add_lit]⟩, ?_⟩
    have e1 : lookAt (Option.map (fun x : Addr => x.add (l * 1)) (some (⟨b, off, none⟩ : Addr))) j = lookAt (some ⟨b, off, none⟩) (l + j) := by
      simp [lookAt, Addr.add_lit, Nat.add_assoc]
    rw [e1, h2]
    congr 3
    simp [List.getElem?_drop, List.getElem?_take]
    rw [if_pos (by omega)]

/-- Its first elements. -/
theorem Reads.toLen {k : IntKind} {w : World} {a : Option Addr} {n cap : Nat} {xs : List Nat} (h : Reads k w (.slice a n cap) xs) (m : Nat) (hm : m ≤ xs.length) : Reads k w (.slice a m cap) (xs.take m) := by
  obtain ⟨a', cap', he, hc, hmx, hr⟩ := h
  cases he
  have hlen : (xs.take m).length = m := by simp; omega
  refine ⟨a, cap, by rw [hlen], by omega, hmx, fun j hj => ⟨(hr j (by omega)).1, ?_⟩⟩
  rw [(hr j (by omega)).2, List.getElem?_take, if_pos (by omega)]

/-- An owned row reads as what it holds. -/
theorem Reads.ofOwn {k : IntKind} {w : World} {base : Nat} {e : TypeId} {v : Value} {n : Nat} {xs : List Nat} (h : w.ownsRow base e 1 v n (xs.map (fun (x : Nat) => Value.int k (x : Int)))) : Reads k w v xs := by
  have hn : xs.length = n := by simpa using h.1
  subst hn
  rcases h.2 with ⟨rfl, h0⟩ | ⟨g, cap, cur, rfl, hb, hg, hnc, hcm, hcs, htake⟩
  · have hx : xs = [] := List.eq_nil_of_length_eq_zero h0
    subst hx
    exact ⟨none, 0, rfl, by simp, by simp [maxLen], fun j hj => by simp at hj⟩
  · refine ⟨some ⟨g, 0, none⟩, cap, rfl, hnc, hcm, fun j hj => ⟨⟨g, 0, rfl⟩, ?_⟩⟩
    have := h.cells (g := g) rfl j (.int k ((xs[j]?.getD 0 : Nat) : Int)) (by simp [List.getElem?_map, List.getElem?_eq_getElem hj])
    rw [Addr.add_lit] at this
    exact this

theorem Reads.nil (k : IntKind) (w : World) : Reads k w (.slice none 0 0) [] := ⟨none, 0, rfl, by simp, by simp [maxLen], fun j hj => by simp at hj⟩

end Go.Proofs.YtlghjfpkfdnfoaaGreatDoor

/- 'Only the blocks of S have changed': a relation of worlds, step by step; boxes and rows under it. -/
namespace Go.Proofs.YtlghjfpkfdnfoaaGreatDoor
open Go Go.RowKit

structure Chg (S : Nat → Prop) (W W' : World) : Prop where
  os : W'.os = W.os
  tape : W'.tape = W.tape
  output : W'.output = W.output
  size : W.heap.size ≤ W'.heap.size
  block : ∀ k, k < W.heap.size → ¬ S k → W'.heap[k]? = W.heap[k]?

section
variable {S : Nat → Prop} {A W W' : World}
theorem Chg.refl (S : Nat → Prop) (W : World) : Chg S W W := ⟨rfl, rfl, rfl, Nat.le_refl _, fun _ _ _ => rfl⟩
theorem Chg.trans {B : World} (h : Chg S A B) (k : Chg S B W) : Chg S A W :=
  ⟨k.os.trans h.os, k.tape.trans h.tape, k.output.trans h.output, Nat.le_trans h.size k.size, fun i hi hs => (k.block i (Nat.lt_of_lt_of_le hi h.size) hs).trans (h.block i hi hs)⟩
theorem Chg.mono {S' : Nat → Prop} (h : Chg S A W) (hs : ∀ k, S k → S' k) : Chg S' A W := ⟨h.os, h.tape, h.output, h.size, fun k hk hn => h.block k hk (fun e => hn (hs k e))⟩
theorem Chg.drew (h : Chg S A W) : Chg S A W.drew := ⟨h.os, h.tape, h.output, h.size, h.block⟩
theorem Chg.drewN (h : Chg S A W) (n : Nat) : Chg S A (W.drewN n) := ⟨h.os, h.tape, h.output, h.size, h.block⟩
theorem Chg.alloc (h : Chg S A W) (o : Obj) : Chg S A (W.alloc o) :=
  ⟨h.os, h.tape, h.output, by have := h.size; simp; omega, fun k hk hs => (Below.heap_alloc W o k (Nat.lt_of_lt_of_le hk h.size)).trans (h.block k hk hs)⟩
theorem Chg.setCell (h : Chg S A W) {p : Addr} (hp : S p.block ∨ A.heap.size ≤ p.block) (u : Value) : Chg S A (W.setCell p u) :=
  ⟨h.os, h.tape, h.output, by have := h.size; simp; omega, fun k hk hs => (Below.heap_setCell W p u k (by rintro rfl; rcases hp with h1 | h1; exact hs h1; omega)).trans (h.block k hk hs)⟩
theorem Chg.grown (h : Chg S A W) {row : Option Nat} (hg : W.grownBy W' row) (hr : ∀ k, row = some k → S k ∨ A.heap.size ≤ k) : Chg S A W' :=
  ⟨hg.os.trans h.os, hg.tape.trans h.tape, hg.output.trans h.output, Nat.le_trans h.size hg.size, fun k hk hs =>
    (hg.block k (Nat.lt_of_lt_of_le hk h.size) (fun e => by rcases hr k e.symm with h1 | h1; exact hs h1; omega)).trans (h.block k hk hs)⟩
theorem Chg.ofBelow {B : Nat} (h : Below B A W) : Chg (fun k => B ≤ k) A W := ⟨h.os, h.tape, h.output, h.size, fun k _ hs => h.block k (by omega)⟩
theorem Chg.thenBelow (h : Chg S A W) (hb : Below W.heap.size W W') : Chg S A W' :=
  ⟨hb.os.trans h.os, hb.tape.trans h.tape, hb.output.trans h.output, Nat.le_trans h.size hb.size, fun k hk hs => (hb.block k (Nat.lt_of_lt_of_le hk h.size)).trans (h.block k hk hs)⟩
theorem Chg.below {B : Nat} (h : Chg S A W) (hs : ∀ k, S k → B ≤ k) (hB : B ≤ A.heap.size) : Below B A W := ⟨h.os, h.tape, h.output, h.size, fun k hk => h.block k (by omega) (fun e => by have := hs k e; omega)⟩
theorem Chg.boxed (h : Chg S A W) {B : Nat} {t : TypeId} {v : Value} (hb : Boxed A B t v) (hs : ¬ S B) : Boxed W B t v := (h.block B hb.lt hs).trans hb
theorem Chg.owns (h : Chg S A W) {base : Nat} {e : TypeId} {size : Nat} {v : Value} {n : Nat} {xs : List Value} (ho : A.ownsRow base e size v n xs) (hs : ∀ g, v.ownBlock = some g → ¬ S g) : W.ownsRow base e size v n xs := by
  refine ⟨ho.1, ?_⟩
  rcases ho.2 with hn | ⟨g, cap, cur, rfl, hb, hgg, rest⟩
  · exact .inl hn
  · exact .inr ⟨g, cap, cur, rfl, hb, (h.block g (Array.getElem?_eq_some_iff.1 hgg).1 (hs g (by simp [Value.ownBlock]))).trans hgg, rest⟩
theorem Chg.keepsFrom (h : Chg S A W) (B : Nat) (hs : ∀ k, S k → ∀ o, A.heap[k]? = some o → o.isCells = true) : KeepsFrom B A W :=
  ⟨h.size, fun k o _ hk ho => (h.block k (Array.getElem?_eq_some_iff.1 hk).1 (fun e => by rw [hs k e o hk] at ho; cases ho)).trans hk⟩
theorem Chg.cell (h : Chg S A W) {p : Addr} {v : Value} (hc : A.cell? p = some v) (hs : ¬ S p.block) : W.cell? p = some v :=
  (World.cell?_of_block (h.block p.block (World.block_lt_of_cell? A p hc) hs)).trans hc
end

/-- the block of a slice, if anything is read there, is none of S -/
def Off (S : Nat → Prop) (v : Value) (xs : List Nat) : Prop := ∀ a n c, v = .slice (some a) n c → xs ≠ [] → ¬ S a.block

theorem Chg.reads {S : Nat → Prop} {A W : World} (h : Chg S A W) {k : IntKind} {v : Value} {xs : List Nat} (hr : Reads k A v xs) (hs : Off S v xs) : Reads k W v xs := by
  obtain ⟨a, cap, rfl, hc, hm, hj⟩ := hr
  refine ⟨a, cap, rfl, hc, hm, fun j hjl => ⟨(hj j hjl).1, ?_⟩⟩
  obtain ⟨⟨b, off, rfl⟩, h2⟩ := hj j hjl
  exact h.cell h2 (hs ⟨b, off, none⟩ _ _ rfl (by intro e; simp [e] at hjl))

/-- what is read lies in the heap -/
theorem Reads.lt {k : IntKind} {w : World} {v : Value} {xs : List Nat} (h : Reads k w v xs) : ∀ a n c, v = .slice (some a) n c → xs ≠ [] → a.block < w.heap.size := by
  intro a n c hv hx
  obtain ⟨a', cap, rfl, hc, hm, hj⟩ := h
  cases hv
  have hp : 0 < xs.length := List.length_pos_iff.2 hx
  obtain ⟨⟨b, off, he⟩, h2⟩ := hj 0 hp
  cases he
  exact World.block_lt_of_cell? w _ h2

theorem Reads.off {k : IntKind} {w : World} {v : Value} {xs : List Nat} (h : Reads k w v xs) {S : Nat → Prop} (hs : ∀ k, S k → w.heap.size ≤ k) : Off S v xs := fun a n c e hx hS => by
  have h1 := h.lt a n c e hx
  have h2 := hs _ hS
  omega

theorem Boxed.isCells {W : World} {B : Nat} {t : TypeId} {v : Value} (h : Boxed W B t v) : ∀ o, W.heap[B]? = some o → o.isCells = true := fun o ho => by rw [show W.heap[B]? = _ from h] at ho; cases ho; rfl
theorem ownsRow_isCells {W : World} {base : Nat} {e : TypeId} {size : Nat} {v : Value} {n : Nat} {xs : List Value} (h : W.ownsRow base e size v n xs) {g : Nat} (hg : v.ownBlock = some g) : ∀ o, W.heap[g]? = some o → o.isCells = true := by
  rcases h.2 with ⟨rfl, _⟩ | ⟨g', cap, cur, rfl, _, hgb, _⟩
  · simp [Value.ownBlock] at hg
  · obtain rfl : g' = g := by simpa [Value.ownBlock] using hg
    intro o ho; rw [hgb] at ho; cases ho; rfl
theorem cell_new_drew (w : World) (x : Value) (t : TypeId) (b : Nat) (hb : b = w.heap.size) : ∀ j u, [x][j]? = some u → ((w.alloc (.cells #[x] t)).drew).cell? ((⟨b, 0, none⟩ : Addr).add j) = some u := by
  subst hb; exact cell_one_new w x t
theorem cell_new_plain (w : World) (x : Value) (t : TypeId) (b : Nat) (hb : b = w.heap.size) : ∀ j u, [x][j]? = some u → (w.alloc (.cells #[x] t)).cell? ((⟨b, 0, none⟩ : Addr).add j) = some u := by
  subst hb; exact cell_one_new w x t
theorem Boxed.at {W : World} {B B' : Nat} {t : TypeId} {v : Value} (h : Boxed W B t v) (e : B = B') : Boxed W B' t v := e ▸ h
theorem Boxed.drew {W : World} {B : Nat} {t : TypeId} {v : Value} (h : Boxed W B t v) : Boxed W.drew B t v := h
theorem ownFrom_ex {β γ : Type} {B : Nat} {I : γ → β → World → Prop} (h : ∀ v, OwnFrom B (I v)) : OwnFrom B (fun s W => ∃ v, I v s W) := fun s W W' row ⟨v, hv⟩ hg hr => ⟨v, h v s W W' row hv hg hr⟩
theorem ownFrom_boxed {β : Type} {B' : Nat} (B : Nat) (t : TypeId) (f : β → Value) : OwnFrom B' (fun s W => Boxed W B t (f s)) := Own.from (boxed_own B t f) _
theorem ownFrom_row {β : Type} {B' : Nat} (n0 : Nat) (e : TypeId) (size : Nat) (v : Value) (k : β → Nat) (f : β → List Value) : OwnFrom B' (fun s W => W.ownsRow n0 e size v (k s) (f s)) := fun s W W' row hs hg hr =>
  hs.kept hg (by
    rcases hs.2 with ⟨rfl, _⟩ | ⟨g, cap, cur, rfl, _, hgb, _⟩
    · exact .inl rfl
    · refine .inr fun e' => ?_
      obtain ⟨_, o, ho, hc⟩ := hr g e'.symm
      rw [hgb] at ho; cases ho; cases hc)
theorem ownFrom_cell {β : Type} {B' : Nat} (a : Addr) (v : Value) : OwnFrom B' (fun (_ : β) W => W.cell? a = some v) := fun s W W' row hs hg hr => by
  have h2 : W.cell? a = some v := hs
  refine hg.cell h2 (fun e => ?_)
  obtain ⟨_, o, ho, hcl⟩ := hr _ e.symm
  unfold World.cell? at h2
  rw [ho] at h2
  cases o <;> simp [Obj.isCells] at hcl h2
theorem ownFrom_reads {β : Type} {B' : Nat} (k : IntKind) (v : Value) (f : β → List Nat) : OwnFrom B' (fun s W => Reads k W v (f s)) := fun s W W' row hs hg hr => by
  obtain ⟨a, cap, rfl, hc, hm, hj⟩ := hs
  refine ⟨a, cap, rfl, hc, hm, fun j hjl => ⟨(hj j hjl).1, ?_⟩⟩
  refine hg.cell (hj j hjl).2 (fun e => ?_)
  obtain ⟨_, o, ho, hcl⟩ := hr _ e.symm
  have h2 := (hj j hjl).2
  unfold World.cell? at h2
  rw [ho] at h2
  cases o <;> simp [Obj.isCells] at hcl h2
theorem Reads.drewN {k : IntKind} {W : World} {v : Value} {xs : List Nat} (h : Reads k W v xs) (n : Nat) : Reads k (W.drewN n) v xs := h
theorem Reads.putObj {k : IntKind} {W : World} {v : Value} {xs : List Nat} (h : Reads k W v xs) {D : Nat} {o : Obj} (hl : W.heap[D]? = some o) (ho : o.isCells = false) (o' : Obj) : Reads k (W.putObj D o') v xs :=
  (ownFrom_reads (β := Unit) (B' := 0) k v (fun _ => xs)).putObj (s := ()) o' h (Nat.zero_le _) hl ho
theorem ownsRow_notWalk {W : World} {base : Nat} {e : TypeId} {size : Nat} {v : Value} {n : Nat} {xs : List Value} (h : W.ownsRow base e size v n xs) {D : Nat} {o : Obj} (hl : W.heap[D]? = some o) (ho : o.isCells = false) : some D ≠ v.ownBlock := fun e' => by
  have := ownsRow_isCells h e'.symm o hl
  rw [this] at ho; cases ho

/-- One round that sets the variable Bc, appends to the slice in the variable Br, and sets both: W at its start, W0 ahead of the append, w1 behind it. -/
structure GrownStep (n0 nb Br Bc : Nat) (tr tc e : TypeId) (W w1 : World) (v v' c1 : Value) (m : Nat) (ys : List Value) : Prop where
  boxR : Boxed w1 Br tr v
  boxC : Boxed w1 Bc tc c1
  fin : ∀ c2 : Value, Boxed ((w1.setCell ⟨Br, 0, none⟩ v').setCell ⟨Bc, 0, none⟩ c2) Br tr v' ∧ Boxed ((w1.setCell ⟨Br, 0, none⟩ v').setCell ⟨Bc, 0, none⟩ c2) Bc tc c2 ∧
    ((w1.setCell ⟨Br, 0, none⟩ v').setCell ⟨Bc, 0, none⟩ c2).ownsRow nb e 1 v' m ys ∧ Below n0 W ((w1.setCell ⟨Br, 0, none⟩ v').setCell ⟨Bc, 0, none⟩ c2) ∧
    (∀ B, KeepsFrom B W ((w1.setCell ⟨Br, 0, none⟩ v').setCell ⟨Bc, 0, none⟩ c2)) ∧
    (∀ B t u, (t ≠ e ∨ B < nb) → B ≠ Br → B ≠ Bc → Boxed W B t u → Boxed ((w1.setCell ⟨Br, 0, none⟩ v').setCell ⟨Bc, 0, none⟩ c2) B t u)

theorem grown_step {n0 nb Br Bc : Nat} {tr tc e : TypeId} {W W0 w1 : World} {v v' c0 c1 : Value} {k m : Nat} {xs ys : List Value} (hne : Br ≠ Bc) (h0 : n0 ≤ nb) (h1 : n0 ≤ Br) (h2 : n0 ≤ Bc) (hn : n0 ≤ W.heap.size) (htr : tr ≠ e) (htc : tc ≠ e)
    (bv : Boxed W Br tr v) (bc : Boxed W Bc tc c0) (rv : W.ownsRow nb e 1 v k xs) (hW : Chg (fun j => j = Bc) W W0) (bc0 : Boxed W0 Bc tc c1)
    (hgrow : W0.grownBy w1 v.ownBlock) (hown : w1.ownsRow nb e 1 v' m ys) : GrownStep n0 nb Br Bc tr tc e W w1 v v' c1 m ys := by
  have nR : some Br ≠ v.ownBlock := bv.not_row htr rv
  have nC : some Bc ≠ v.ownBlock := bc.not_row htc rv
  have bv1 : Boxed w1 Br tr v := (hW.boxed bv hne).kept hgrow nR
  have bc1 : Boxed w1 Bc tc c1 := bc0.kept hgrow nC
  refine ⟨bv1, bc1, fun c2 => ?_⟩
  have hS : Chg (fun j => j = Br ∨ j = Bc ∨ v.ownBlock = some j) W ((w1.setCell ⟨Br, 0, none⟩ v').setCell ⟨Bc, 0, none⟩ c2) :=
    ((((hW.mono (fun j h => .inr (.inl h))).grown hgrow (fun j h => .inl (.inr (.inr h)))).setCell (p := ⟨Br, 0, none⟩) (.inl (.inl rfl)) v').setCell (p := ⟨Bc, 0, none⟩) (.inl (.inr (.inl rfl))) c2)
  refine ⟨Boxed.other (bv1.set _) hne _, Boxed.set _ (bc1.other hne.symm _), ?_, hS.below ?_ hn, fun B => hS.keepsFrom B ?_, fun B t u ht hB1 hB2 hb => hS.boxed hb ?_⟩
  · exact (hown.kept (grownBy_setCell' w1 Br v') (.inr (bv1.not_row htr hown).symm)).kept (grownBy_setCell' _ Bc c2) (.inr (bc1.not_row htc hown).symm)
  · rintro j (rfl | rfl | h)
    · exact h1
    · exact h2
    · exact Nat.le_trans h0 (rv.lt j h).1
  · rintro j (rfl | rfl | h)
    · exact Boxed.isCells bv
    · exact Boxed.isCells bc
    · exact ownsRow_isCells rv h
  · rintro (h | h | h)
    · exact hB1 h
    · exact hB2 h
    · rcases ht with ht | ht
      · exact hb.not_row ht rv h.symm
      · have := (rv.lt B h).1; omega

/-- block b is a row of cells, not shared with a string -/
def RowAt (W : World) (b : Nat) (t : TypeId) (cs : List Value) : Prop := W.heap[b]? = some (.cells cs.toArray t (0, 0))
theorem RowAt.lt {W : World} {b : Nat} {t : TypeId} {cs : List Value} (h : RowAt W b t cs) : b < W.heap.size := (Array.getElem?_eq_some_iff.1 h).1
theorem RowAt.cell {W : World} {b : Nat} {t : TypeId} {cs : List Value} (h : RowAt W b t cs) (i : Nat) : W.cell? ⟨b, i, none⟩ = cs[i]? := by simp [World.cell?, show W.heap[b]? = _ from h]
theorem RowAt.frozen {W : World} {b : Nat} {t : TypeId} {cs : List Value} (h : RowAt W b t cs) (i : Nat) : W.frozen? ⟨b, i, none⟩ = false := by simp [World.frozen?, show W.heap[b]? = _ from h]
theorem RowAt.isCells {W : World} {b : Nat} {t : TypeId} {cs : List Value} (h : RowAt W b t cs) : ∀ o, W.heap[b]? = some o → o.isCells = true := fun o ho => by rw [show W.heap[b]? = _ from h] at ho; cases ho; rfl
theorem RowAt.set {W : World} {b : Nat} {t : TypeId} {cs : List Value} (h : RowAt W b t cs) (i : Nat) (v : Value) : RowAt (W.setCell ⟨b, i, none⟩ v) b t (cs.set i v) := by
  obtain ⟨hlt, hk⟩ := Array.getElem?_eq_some_iff.1 h
  show (W.heap.modify b _)[b]? = _
  rw [Array.getElem?_eq_getElem (by rw [Array.size_modify]; exact hlt), Array.getElem_modify_self, hk]
  simp
theorem RowAt.other {W : World} {b : Nat} {t : TypeId} {cs : List Value} (h : RowAt W b t cs) {a : Addr} (hne : b ≠ a.block) (u : Value) : RowAt (W.setCell a u) b t cs := (Below.heap_setCell W a u b hne).trans h
theorem RowAt.alloc {W : World} {b : Nat} {t : TypeId} {cs : List Value} (h : RowAt W b t cs) (o : Obj) : RowAt (W.alloc o) b t cs := (Below.heap_alloc W o b h.lt).trans h
theorem RowAt.drew {W : World} {b : Nat} {t : TypeId} {cs : List Value} (h : RowAt W b t cs) : RowAt W.drew b t cs := h
theorem RowAt.at {W : World} {B B' : Nat} {t : TypeId} {v : List Value} (h : RowAt W B t v) (e : B = B') : RowAt W B' t v := e ▸ h
theorem RowAt.new (W : World) (t : TypeId) (cs : List Value) : RowAt (W.alloc (.cells cs.toArray t)) W.heap.size t cs := World.alloc_heap_new W _
theorem Chg.row {S : Nat → Prop} {A W : World} (h : Chg S A W) {b : Nat} {t : TypeId} {cs : List Value} (hb : RowAt A b t cs) (hs : ¬ S b) : RowAt W b t cs := (h.block b hb.lt hs).trans hb
theorem ownFrom_rowAt {β : Type} {B' : Nat} (b : Nat) (t : TypeId) (f : β → List Value) : OwnFrom B' (fun s W => RowAt W b t (f s)) := fun s X Y row hs hg hr => by
  have h2 : RowAt X b t (f s) := hs
  refine (hg.block b h2.lt (fun e => ?_)).trans h2
  obtain ⟨_, o, ho, hc⟩ := hr b e.symm
  rw [show X.heap[b]? = _ from h2] at ho
  cases ho; cases hc
theorem Boxed.otherAt {W : World} {B : Nat} {t : TypeId} {v : Value} (h : Boxed W B t v) {a : Addr} (hne : B ≠ a.block) (u : Value) : Boxed (W.setCell a u) B t v := (Below.heap_setCell W a u B hne).trans h

/-- a part of a row reads as what it holds -/
theorem RowAt.reads {k : IntKind} {W : World} {b : Nat} {t : TypeId} {xs : List Nat} (h : RowAt W b t (xs.map fun (x : Nat) => Value.int k (x : Int))) (n cap : Nat) (hn : n = xs.length) (hc : n ≤ cap) (hm : cap ≤ maxLen) : Reads k W (.slice (some ⟨b, 0, none⟩) n cap) xs := by
  subst hn
  refine ⟨_, cap, rfl, hc, hm, fun j hj => ⟨⟨b, 0, rfl⟩, ?_⟩⟩
  rw [lookAt_some, Nat.zero_add, h.cell]
  simp [List.getElem?_map, List.getElem?_eq_getElem hj]
end Go.Proofs.YtlghjfpkfdnfoaaGreatDoor

/- A loop over an iterator that keeps its state in one box of its own. -/
namespace Go.Proofs.YtlghjfpkfdnfoaaGreatDoor
open Go Go.RowKit

/-- an iterator over values x that keeps its state T in the box Bs, and never stops early -/
def SeqSt {α : Type} (F : Fence) (n : Nat) (P : Program) (g : Nat) (lb : Array Value) (encs : α → Array Value) (Kp : World → World → Prop) (S Sp : List α → Prop) (N Bs : Nat) (t : TypeId) (T : List α → Value) (w : World) : Prop :=
  ∀ (l : Nat) (J : List α → World → Prop) (W : World), Below w.heap.size w W → (∀ s A A', J s A → A.grownBy A' (some Bs) → J s A') →
    (∀ pre x A, J pre A → Boxed A Bs t (T (pre ++ [x])) → pre.length < N → Sp (pre ++ [x]) → YieldAt F (n - 1) P l (encs x) A fun e A' => e = .returned (.bool true) ∧ J (pre ++ [x]) A' ∧ Kp A A') →
    J [] W → CallsIn F n P g (#[.func (.yield l) #[] #[]] ++ lb) W fun e W' => (∃ v, e = .returned v) ∧ ∃ xs, S xs ∧ J xs W'

/-- how a round of it is left -/
def stPost {α : Type} (B : Nat) (Kp : World → World → Prop) (I : List α → World → Prop) (xs : List α) (W : World) : Exit → Act → World → Prop
  | .normal, _, W' => KeepsFrom B W W' ∧ Kp W W' ∧ I xs W'
  | _, _, _ => False

variable {F : Fence} {n : Nat} {P : Program} {w : World}

theorem wpIn_rangeFunc_st {α : Type} {g : Operand} {ps : Array Tmp} {assign body : Code} {Q : Exit → Act → World → Prop} {a : Act}
    (hro : F.round = none) (h1 : 1 ≤ n) {gf : Nat} {lb : Array Value} (hg : a.eval g = .func (.func gf) #[] lb) (hFg : F.fn gf) (eg : ∀ args w, (callFunc gf args).run P w = .ok (.enter gf args) w)
    {encs : α → Array Value} {Kp : World → World → Prop} {S Sp : List α → Prop} {N Bs : Nat} {t : TypeId} {T : List α → Value} {w0 : World} (hseq : SeqSt F (n - 1) P gf lb encs Kp S Sp N Bs t T w0)
    (hKt : ∀ {A B C : World}, Kp A B → Kp B C → Kp A C) (hKb : ∀ (W : World) (l : Nat) (o o' : Obj), w.heap.size ≤ l → W.heap[l]? = some o → o.isCells = false → o.isWalk = false → Kp W (W.putObj l o')) (hb0 : Below w0.heap.size w0 w) (hps : ∀ x, (encs x).size = ps.size)
    (hBs : Bs < w.heap.size) (I : List α → World → Prop) (hI : ∀ s A A' row, I s A → A.grownBy A' row → (∀ r, row = some r → r = Bs ∨ (w.heap.size ≤ r ∧ ∃ o : Obj, A.heap[r]? = some o ∧ o.isCells = false)) → I s A') (h0 : I [] w) (a₁ : α → Act)
    (hassign : ∀ (l : Nat) (x : α) (W : World) (K : Act → World → Prop), K (a₁ x) W →
      assign.wpIn (F.inRound l) (n - 1 - 1) P (Exit.then K (fun _ _ _ => False)) { tmps := (ps.zip (encs x)).foldl (fun t (p, v) => t.setIfInBounds p v) a.tmps, defers := [] } W)
    (hbody : ∀ (l : Nat) (pre : List α) (x : α) (W : World), I pre W → Boxed W Bs t (T (pre ++ [x])) → pre.length < N → Sp (pre ++ [x]) → body.wpIn (F.inRound l) (n - 1 - 1) P (stPost w.heap.size Kp I (pre ++ [x]) W) (a₁ x) W)
    (hdone : ∀ (D : Nat) (xs : List α) (W : World), w.heap.size ≤ D → S xs → I xs W → W.heap[D]? = some (.deferred (some [])) → Q .normal { a with defers := { target := .collected D, args := #[] } :: a.defers } W) :
    (Code.rangeFunc g ps assign body).wpIn F n P Q a w := by
  apply wpIn_rangeFunc
  intro fn hfn
  rw [hro]
  let rec' : LoopState → Option Code → Loop := fun st pe => { state := st, pending := pe, fn, tmps := a.tmps, params := ps, assign, body, defers := w.heap.size }
  have hsD : (w.alloc (.deferred (some []))).heap.size = w.heap.size + 1 := World.size_alloc _ _
  generalize hW1 : (w.alloc (.deferred (some []))).alloc (.loop (rec' .ready none)) = W1
  have hL1 : W1.heap[w.heap.size + 1]? = some (.loop (rec' .ready none)) := by
    rw [← hW1, ← hsD]
    exact World.alloc_heap_new _ _
  have hK1 : W1.heap[w.heap.size]? = some (.deferred (some [])) := by
    rw [← hW1]
    exact (Below.heap_alloc _ _ _ (by omega)).trans (World.alloc_heap_new w _)
  have hI1 : I [] W1 := by
    rw [← hW1]
    exact hI _ _ _ none (hI _ _ _ none h0 (World.grownBy_alloc w _ none) (fun r e => by cases e)) (World.grownBy_alloc _ _ none) (fun r e => by cases e)
  have hb1 : Below w0.heap.size w0 W1 := by
    rw [← hW1]
    exact hb0.trans ((((Below.refl _ w).alloc (Nat.le_refl _) _).alloc (by omega) _).mono hb0.size)
  refine ⟨w.heap.size + 1, [{ target := .collected w.heap.size, args := #[] }], W1, { target := .fn (.func gf) lb, args := #[.func (.yield (w.heap.size + 1)) #[] #[]] }, W1, gf,
    #[.func (.yield (w.heap.size + 1)) #[] #[]] ++ lb, W1, ?_, ?_, ?_, ?_, fun _ => h1, ?_⟩
  · rw [← hW1]
    exact run_enterLoop_outer _ _ _ _ _
  · simp only [resolve, hg]
    simp [go_sem]
  · intro f' hf'
    simp only [Target.leads, Option.some.injEq] at hf'
    subst hf'
    exact hFg
  · simp [invoke, go_sem, eg]
  have hne : w.heap.size + 1 ≠ Bs ∧ w.heap.size ≠ Bs := ⟨by omega, by omega⟩
  refine (hseq (w.heap.size + 1) (fun pre W => I pre W ∧ W.heap[w.heap.size + 1]? = some (.loop (rec' .ready none)) ∧ W.heap[w.heap.size]? = some (.deferred (some []))) W1 hb1 ?_ ?_ ⟨hI1, hL1, hK1⟩).mono ?_
  · rintro s A A' ⟨ha, hl, hk⟩ hgr
    refine ⟨hI s A A' (some Bs) ha hgr (fun r e => by cases e; exact .inl rfl), ?_, ?_⟩
    · rw [hgr.block _ (Array.getElem?_eq_some_iff.1 hl).1 (by simp; omega)]; exact hl
    · rw [hgr.block _ (Array.getElem?_eq_some_iff.1 hk).1 (by simp; omega)]; exact hk
  · rintro pre x W ⟨hi, hl, hk⟩ hbox hlen hsp
    have hlt : w.heap.size + 1 < W.heap.size := (Array.getElem?_eq_some_iff.1 hl).1
    have hput : ∀ (A : World) (s : List α) (l : Nat) (o o' : Obj), I s A → w.heap.size ≤ l → A.heap[l]? = some o → o.isCells = false → I s (A.putObj l o') := fun A s l o o' hs hB hl ho =>
      hI s A _ (some l) hs (grownBy_putObj' A l o') (fun r e => by cases e; exact .inr ⟨hB, o, hl, ho⟩)
    refine ⟨fn, _, assign, body, run_yield hl (hps x), roundIn_of_wpIn hfn (hassign _ x W _ ⟨_, run_beginRound hl rfl, ?_⟩)⟩
    generalize hW2 : W.putObj (w.heap.size + 1) (.loop { rec' .ready none with state := .busy }) = W2
    have hl2 : W2.heap[w.heap.size + 1]? = some (.loop { rec' .ready none with state := .busy }) := by rw [← hW2]; exact World.putObj_heap_same hlt
    have hk2 : W2.heap[w.heap.size]? = some (.deferred (some [])) := by rw [← hW2]; exact (World.putObj_heap_other (by omega)).trans hk
    have hb2 : Boxed W2 Bs t (T (pre ++ [x])) := by rw [← hW2]; exact (World.putObj_heap_other (by omega)).trans hbox
    have hi2 : I pre W2 := by rw [← hW2]; exact hput _ _ _ _ _ hi (by omega) hl rfl
    have hw2 : Kp W W2 := by rw [← hW2]; exact hKb _ _ _ _ (by omega) hl rfl rfl
    refine wpIn_mono (hbody _ pre x W2 hi2 hb2 hlen hsp) ?_
    rintro e a3 W3 hp
    cases e with
    | normal =>
      obtain ⟨hk3, hkp3, hi3⟩ := hp
      have hl3 := hk3.same _ _ (by omega) hl2 rfl
      have hd3 := hk3.same _ _ (Nat.le_refl _) hk2 rfl
      exact ⟨_, _, run_endRound none hl3, rfl, ⟨hput _ _ _ _ _ hi3 (by omega) hl3 rfl, World.putObj_heap_same (Array.getElem?_eq_some_iff.1 hl3).1, (World.putObj_heap_other (by omega)).trans hd3⟩, hKt (hKt hw2 hkp3) (hKb _ _ _ _ (by omega) hl3 rfl rfl)⟩
    | ret => exact hp.elim
    | exit id => exact hp.elim
    | goto t => exact hp.elim
    | panic ch => exact hp.elim
    | outgrown => exact hp.elim
  · rintro e W2 ⟨⟨v, rfl⟩, xs, hS, hi, hl, hk⟩
    refine ⟨none, _, run_endLoop hl (by simp [rec']), hdone _ xs _ (Nat.le_refl _) hS ?_ ((World.putObj_heap_other (by omega)).trans hk)⟩
    exact hI _ _ _ (some (w.heap.size + 1)) hi (grownBy_putObj' _ _ _) (fun r e => by cases e; exact .inr ⟨by omega, _, hl, rfl⟩)

end Go.Proofs.YtlghjfpkfdnfoaaGreatDoor

/- Lists of limbs and the numbers that they stand for; without the program. -/
namespace Go.Proofs.YtlghjfpkfdnfoaaGreatDoor

/-- the base of the limbs -/
def B32 : Nat := 4294967296
theorem B32_pos : 0 < B32 := by unfold B32; omega

/-- the number of a list of limbs, the least one first -/
def val : List Nat → Nat
  | [] => 0
  | x :: xs => x + B32 * val xs

/-- each limb has 32 bits -/
def Limbs (xs : List Nat) : Prop := ∀ x ∈ xs, x < B32

/-- without zeros at the end -/
def trimmed (xs : List Nat) : List Nat := (xs.reverse.dropWhile (· == 0)).reverse

theorem trimmed_snoc_zero (xs : List Nat) : trimmed (xs ++ [0]) = trimmed xs := by simp [trimmed]
theorem trimmed_snoc (xs : List Nat) (x : Nat) (h : x ≠ 0) : trimmed (xs ++ [x]) = xs ++ [x] := by simp [trimmed, h]
theorem trimmed_nil : trimmed [] = [] := rfl

theorem take_succ_getD (xs : List Nat) (k : Nat) (h : k < xs.length) : xs.take (k + 1) = xs.take k ++ [xs[k]?.getD 0] := by
  rw [List.take_succ_eq_append_getElem h, List.getElem?_eq_getElem h]; rfl

theorem val_append (xs ys : List Nat) : val (xs ++ ys) = val xs + B32 ^ xs.length * val ys := by
  induction xs with
  | nil => simp [val]
  | cons x xs ih => simp only [List.cons_append, val, ih, List.length_cons, Nat.pow_succ, Nat.mul_add]; rw [Nat.mul_comm (B32 ^ xs.length) B32, Nat.mul_assoc]; omega

theorem val_snoc (xs : List Nat) (x : Nat) : val (xs ++ [x]) = val xs + B32 ^ xs.length * x := by rw [val_append]; simp [val]

theorem val_zeros (n : Nat) : val (List.replicate n 0) = 0 := by
  induction n with
  | zero => rfl
  | succ n ih => simp [List.replicate_succ, val, ih]

theorem val_lt {xs : List Nat} (h : Limbs xs) : val xs < B32 ^ xs.length := by
  induction xs with
  | nil => simp [val]
  | cons x xs ih =>
    have h1 := ih (fun y hy => h y (List.mem_cons_of_mem _ hy))
    have h2 : x < B32 := h x List.mem_cons_self
    simp only [val, List.length_cons, Nat.pow_succ]
    have h3 : B32 * (val xs + 1) ≤ B32 * B32 ^ xs.length := Nat.mul_le_mul_left _ h1
    rw [Nat.mul_add, Nat.mul_one] at h3
    rw [Nat.mul_comm (B32 ^ xs.length) B32]
    omega

theorem trimmed_eq (xs : List Nat) : ∃ n, xs = trimmed xs ++ List.replicate n 0 := by
  have key : ∀ ys : List Nat, ∃ n, ys = List.replicate n 0 ++ ys.dropWhile (· == 0) := by
    intro ys
    induction ys with
    | nil => exact ⟨0, rfl⟩
    | cons y ys ih =>
      obtain ⟨n, hn⟩ := ih
      by_cases hy : y = 0
      · subst hy
        refine ⟨n + 1, ?_⟩
        simp [List.replicate_succ]
        exact hn
      · exact ⟨0, by simp [hy]⟩
  obtain ⟨n, hn⟩ := key xs.reverse
  refine ⟨n, ?_⟩
  have := congrArg List.reverse hn
  simpa [trimmed] using this

theorem trimmed_take (xs : List Nat) : xs.take (trimmed xs).length = trimmed xs := by
  obtain ⟨n, hn⟩ := trimmed_eq xs
  conv => lhs; arg 2; rw [hn]
  exact List.take_left

theorem val_trimmed (xs : List Nat) : val (trimmed xs) = val xs := by
  obtain ⟨n, hn⟩ := trimmed_eq xs
  conv => rhs; rw [hn]
  rw [val_append, val_zeros]; simp

theorem limbs_trimmed {xs : List Nat} (h : Limbs xs) : Limbs (trimmed xs) := by
  obtain ⟨n, hn⟩ := trimmed_eq xs
  intro x hx
  exact h x (by rw [hn]; exact List.mem_append_left _ hx)

theorem trimmed_length (xs : List Nat) : (trimmed xs).length ≤ xs.length := by
  obtain ⟨n, hn⟩ := trimmed_eq xs
  have := congrArg List.length hn
  simp at this; omega

/-- a canonical list: 32-bit limbs, the last one not 0 -/
def Canon (xs : List Nat) : Prop := Limbs xs ∧ trimmed xs = xs

theorem trimmed_idem (xs : List Nat) : trimmed (trimmed xs) = trimmed xs := by
  have key : ∀ ys : List Nat, (ys.dropWhile (· == 0)).dropWhile (· == 0) = ys.dropWhile (· == 0) := by
    intro ys
    induction ys with
    | nil => rfl
    | cons y ys ih =>
      by_cases hy : y = 0
      · subst hy; simpa using ih
      · simp [hy]
  simp [trimmed, key]

theorem canon_trimmed {xs : List Nat} (h : Limbs xs) : Canon (trimmed xs) := ⟨limbs_trimmed h, trimmed_idem xs⟩
theorem canon_nil : Canon [] := ⟨fun _ h => by simp at h, rfl⟩

theorem canon_last {xs : List Nat} (h : Canon xs) (hx : xs ≠ []) : xs[xs.length - 1]?.getD 0 ≠ 0 := by
  obtain ⟨ys, y, rfl⟩ : ∃ ys y, xs = ys ++ [y] := ⟨xs.dropLast, xs.getLast hx, (List.dropLast_concat_getLast hx).symm⟩
  simp
  intro e
  have := h.2
  rw [e, trimmed_snoc_zero] at this
  have h2 := congrArg List.length this
  have h3 := trimmed_length ys
  simp at h2; omega

theorem canon_pos {xs : List Nat} (h : Canon xs) (hx : xs ≠ []) : B32 ^ (xs.length - 1) ≤ val xs := by
  have hl := canon_last h hx
  obtain ⟨ys, y, rfl⟩ : ∃ ys y, xs = ys ++ [y] := ⟨xs.dropLast, xs.getLast hx, (List.dropLast_concat_getLast hx).symm⟩
  simp at hl
  rw [val_snoc]
  simp
  have : B32 ^ ys.length * 1 ≤ B32 ^ ys.length * y := Nat.mul_le_mul_left _ (by omega)
  omega

/-- a canonical list is told by its number -/
theorem canon_inj : ∀ {xs ys : List Nat}, Canon xs → Canon ys → val xs = val ys → xs = ys := by
  intro xs
  induction xs with
  | nil =>
    intro ys _ hy h
    by_cases e : ys = []
    · exact e.symm
    · have h1 := canon_pos hy e
      have h2 : 0 < B32 ^ (ys.length - 1) := Nat.pow_pos B32_pos
      simp [val] at h; omega
  | cons x xs ih =>
    intro ys hx hy h
    cases ys with
    | nil =>
      have h1 := canon_pos hx (by simp)
      have h2 : 0 < B32 ^ ((x :: xs).length - 1) := Nat.pow_pos B32_pos
      simp only [val] at h h1; omega
    | cons y ys =>
      have hx1 : x < B32 := hx.1 x List.mem_cons_self
      have hy1 : y < B32 := hy.1 y List.mem_cons_self
      have tl : ∀ {z : Nat} {zs : List Nat}, Canon (z :: zs) → Canon zs := by
        intro z zs hz
        refine ⟨fun u hu => hz.1 u (List.mem_cons_of_mem _ hu), ?_⟩
        by_cases e : zs = []
        · subst e; rfl
        · have hl := canon_last hz (by simp)
          obtain ⟨ws, w, rfl⟩ : ∃ ws w, zs = ws ++ [w] := ⟨zs.dropLast, zs.getLast e, (List.dropLast_concat_getLast e).symm⟩
          have e2 : (z :: (ws ++ [w]))[(z :: (ws ++ [w])).length - 1]?.getD 0 = w := by simp
          rw [e2] at hl
          exact trimmed_snoc ws w hl
      simp only [val] at h
      have hmod : x = y := by
        have := congrArg (· % B32) h
        simpa [Nat.add_mul_mod_self_left, Nat.mod_eq_of_lt hx1, Nat.mod_eq_of_lt hy1] using this
      subst hmod
      have hv : val xs = val ys := Nat.eq_of_mul_eq_mul_left B32_pos (by omega)
      rw [ih (tl hx) (tl hy) hv]


theorem snoc_ind {α : Type} {P : List α → Prop} (h0 : P []) (h1 : ∀ l x, P l → P (l ++ [x])) (l : List α) : P l := by
  have key : ∀ r : List α, P r.reverse := by
    intro r
    induction r with
    | nil => exact h0
    | cons x r ih => rw [List.reverse_cons]; exact h1 _ _ ih
  have := key l.reverse
  rwa [List.reverse_reverse] at this

theorem val_take_succ (ys : List Nat) (k : Nat) : val (ys.take (k + 1)) = val (ys.take k) + B32 ^ k * ys[k]?.getD 0 := by
  by_cases h : k < ys.length
  · rw [take_succ_getD ys k h, val_snoc, List.length_take, Nat.min_eq_left (by omega)]
  · rw [List.take_of_length_le (by omega), List.take_of_length_le (by omega), List.getElem?_eq_none (by omega)]; simp

/-- so many limbs of a list, with their indices: 0 behind the last one -/
def limbPairs (xs : List Nat) (n : Nat) : List (Nat × Nat) := (List.range n).map fun i => (i, xs[i]?.getD 0)

theorem limbPairs_succ (xs : List Nat) (n : Nat) : limbPairs xs (n + 1) = limbPairs xs n ++ [(n, xs[n]?.getD 0)] := by simp [limbPairs, List.range_succ]
theorem limbPairs_length (xs : List Nat) (n : Nat) : (limbPairs xs n).length = n := by simp [limbPairs]
theorem limbPairs_prefix (xs : List Nat) {k n : Nat} (h : k ≤ n) : limbPairs xs k <+: limbPairs xs n := by
  obtain ⟨d, rfl⟩ := Nat.exists_eq_add_of_le h
  induction d with
  | zero => exact List.prefix_refl _
  | succ d ih => rw [← Nat.add_assoc, limbPairs_succ]; exact (ih (by omega)).trans (List.prefix_append _ _)
theorem limb_getD {xs : List Nat} (h : Limbs xs) (i : Nat) : xs[i]?.getD 0 < B32 := by
  by_cases hi : i < xs.length
  · rw [List.getElem?_eq_getElem hi]; exact h _ (List.getElem_mem hi)
  · rw [List.getElem?_eq_none (by omega)]; exact B32_pos

/-! ### sums -/
/-- one round: the limbs so far, and the carry -/
def plusStep (xs : List Nat) (st : List Nat × Nat) (p : Nat × Nat) : List Nat × Nat := (st.1 ++ [(st.2 + (xs[p.1]?.getD 0 + p.2)) % B32], (st.2 + (xs[p.1]?.getD 0 + p.2)) / B32)
def plusFold (xs : List Nat) (ps : List (Nat × Nat)) : List Nat × Nat := ps.foldl (plusStep xs) ([], 0)
theorem plusFold_snoc (xs : List Nat) (ps : List (Nat × Nat)) (p : Nat × Nat) : plusFold xs (ps ++ [p]) = plusStep xs (plusFold xs ps) p := by simp [plusFold]
theorem plusFold_length (xs : List Nat) (ps : List (Nat × Nat)) : (plusFold xs ps).1.length = ps.length := by
  induction ps using snoc_ind with
  | h0 => rfl
  | h1 ps p ih => rw [plusFold_snoc]; simp [plusStep, ih]
theorem limbs_snoc {xs : List Nat} {x : Nat} (h : Limbs xs) (hx : x < B32) : Limbs (xs ++ [x]) := by
  intro y hy
  rcases List.mem_append.1 hy with h1 | h1
  · exact h y h1
  · have : y = x := by simpa using h1
    omega
theorem plusFold_limbs {xs : List Nat} (hx : Limbs xs) (ps : List (Nat × Nat)) (hp : ∀ p ∈ ps, p.2 < B32) : Limbs (plusFold xs ps).1 ∧ (plusFold xs ps).2 ≤ 1 := by
  induction ps using snoc_ind with
  | h0 => exact ⟨fun _ h => by simp [plusFold] at h, by simp [plusFold]⟩
  | h1 ps p ih =>
    obtain ⟨h1, h2⟩ := ih (fun q hq => hp q (List.mem_append_left _ hq))
    have h3 := hp p (by simp)
    have h4 := limb_getD hx p.1
    rw [plusFold_snoc]
    refine ⟨limbs_snoc h1 (Nat.mod_lt _ B32_pos), ?_⟩
    show (_ + (_ + _)) / B32 ≤ 1
    unfold B32 at *; omega
theorem plusFold_val (xs ys : List Nat) (k : Nat) : val (plusFold xs (limbPairs ys k)).1 + B32 ^ k * (plusFold xs (limbPairs ys k)).2 = val (xs.take k) + val (ys.take k) := by
  induction k with
  | zero => simp [limbPairs, plusFold, val]
  | succ k ih =>
    have hl := plusFold_length xs (limbPairs ys k)
    rw [limbPairs_length] at hl
    rw [limbPairs_succ, plusFold_snoc, val_take_succ xs, val_take_succ ys]
    simp only [plusStep]
    rw [val_snoc, hl]
    generalize (plusFold xs (limbPairs ys k)).2 = c at *
    generalize val (plusFold xs (limbPairs ys k)).1 = r at *
    have h := Nat.div_add_mod (c + (xs[k]?.getD 0 + ys[k]?.getD 0)) B32
    generalize (c + (xs[k]?.getD 0 + ys[k]?.getD 0)) / B32 = q at *
    generalize (c + (xs[k]?.getD 0 + ys[k]?.getD 0)) % B32 = m at *
    have h2 := congrArg (B32 ^ k * ·) h
    simp only [Nat.mul_add] at h2
    rw [Nat.pow_succ, Nat.mul_assoc]
    omega


/-! ### differences -/
def minusStep (xs : List Nat) (st : List Nat × Nat) (p : Nat × Nat) : List Nat × Nat := (st.1 ++ [(xs[p.1]?.getD 0 + B32 - (p.2 + st.2)) % B32], 1 - (xs[p.1]?.getD 0 + B32 - (p.2 + st.2)) / B32)
def minusFold (xs : List Nat) (ps : List (Nat × Nat)) : List Nat × Nat := ps.foldl (minusStep xs) ([], 0)
theorem minusFold_snoc (xs : List Nat) (ps : List (Nat × Nat)) (p : Nat × Nat) : minusFold xs (ps ++ [p]) = minusStep xs (minusFold xs ps) p := by simp [minusFold]
theorem minusFold_length (xs : List Nat) (ps : List (Nat × Nat)) : (minusFold xs ps).1.length = ps.length := by
  induction ps using snoc_ind with
  | h0 => rfl
  | h1 ps p ih => rw [minusFold_snoc]; simp [minusStep, ih]
theorem minusFold_limbs (xs : List Nat) (ps : List (Nat × Nat)) : Limbs (minusFold xs ps).1 ∧ (minusFold xs ps).2 ≤ 1 := by
  induction ps using snoc_ind with
  | h0 => exact ⟨fun _ h => by simp [minusFold] at h, by simp [minusFold]⟩
  | h1 ps p ih =>
    rw [minusFold_snoc]
    exact ⟨limbs_snoc ih.1 (Nat.mod_lt _ B32_pos), Nat.sub_le _ _⟩
theorem minusFold_val {xs ys : List Nat} (hx : Limbs xs) (hy : Limbs ys) (k : Nat) : val (minusFold xs (limbPairs ys k)).1 + val (ys.take k) = val (xs.take k) + B32 ^ k * (minusFold xs (limbPairs ys k)).2 := by
  induction k with
  | zero => simp [limbPairs, minusFold, val]
  | succ k ih =>
    have hl := minusFold_length xs (limbPairs ys k)
    have hb := (minusFold_limbs xs (limbPairs ys k)).2
    have h1 := limb_getD hx k
    have h2 := limb_getD hy k
    rw [limbPairs_length] at hl
    rw [limbPairs_succ, minusFold_snoc, val_take_succ xs, val_take_succ ys]
    simp only [minusStep]
    rw [val_snoc, hl]
    generalize (minusFold xs (limbPairs ys k)).2 = b at *
    generalize val (minusFold xs (limbPairs ys k)).1 = r at *
    generalize xs[k]?.getD 0 = x at *
    generalize ys[k]?.getD 0 = y at *
    have h3 : (x + B32 - (y + b)) % B32 + y + b = x + B32 * (1 - (x + B32 - (y + b)) / B32) := by unfold B32 at *; omega
    generalize (x + B32 - (y + b)) % B32 = m at *
    generalize 1 - (x + B32 - (y + b)) / B32 = q at *
    have h4 := congrArg (B32 ^ k * ·) h3
    simp only [Nat.mul_add] at h4
    rw [Nat.pow_succ, Nat.mul_assoc]
    omega
theorem minusFold_end {xs ys : List Nat} (hx : Limbs xs) (hy : Limbs ys) (hle : val ys ≤ val xs) (hl : ys.length ≤ xs.length) : val (minusFold xs (limbPairs ys xs.length)).1 = val xs - val ys := by
  have h := minusFold_val hx hy xs.length
  have hb := minusFold_limbs xs (limbPairs ys xs.length)
  have hlen := minusFold_length xs (limbPairs ys xs.length)
  rw [limbPairs_length] at hlen
  have hlt := val_lt hb.1
  rw [hlen] at hlt
  rw [List.take_of_length_le hl, List.take_of_length_le (Nat.le_refl _)] at h
  have h0 : (minusFold xs (limbPairs ys xs.length)).2 = 0 := by
    rcases Nat.eq_zero_or_pos (minusFold xs (limbPairs ys xs.length)).2 with e | e
    · exact e
    · have e1 : (minusFold xs (limbPairs ys xs.length)).2 = 1 := by omega
      rw [e1] at h; omega
  rw [h0] at h; omega

/-! ### a limb times a list, and a limb more -/
def tplusStep (f : Nat) (st : List Nat × Nat) (p : Nat × Nat) : List Nat × Nat := (st.1 ++ [(st.2 + p.2 * f) % B32], (st.2 + p.2 * f) / B32)
def tplusFold (f c0 : Nat) (ps : List (Nat × Nat)) : List Nat × Nat := ps.foldl (tplusStep f) ([], c0)
theorem tplusFold_snoc (f c0 : Nat) (ps : List (Nat × Nat)) (p : Nat × Nat) : tplusFold f c0 (ps ++ [p]) = tplusStep f (tplusFold f c0 ps) p := by simp [tplusFold]
theorem tplusFold_length (f c0 : Nat) (ps : List (Nat × Nat)) : (tplusFold f c0 ps).1.length = ps.length := by
  induction ps using snoc_ind with
  | h0 => rfl
  | h1 ps p ih => rw [tplusFold_snoc]; simp [tplusStep, ih]
theorem mul_limb_lt {c y f : Nat} (hc : c < B32) (hy : y < B32) (hf : f < B32) : c + y * f < B32 * B32 := by
  have h1 : y * f ≤ (B32 - 1) * (B32 - 1) := Nat.mul_le_mul (by omega) (by omega)
  unfold B32 at *; omega
theorem tplusFold_limbs {f c0 : Nat} (hf : f < B32) (hc : c0 < B32) (ps : List (Nat × Nat)) (hp : ∀ p ∈ ps, p.2 < B32) : Limbs (tplusFold f c0 ps).1 ∧ (tplusFold f c0 ps).2 < B32 := by
  induction ps using snoc_ind with
  | h0 => exact ⟨fun _ h => by simp [tplusFold] at h, by simpa [tplusFold] using hc⟩
  | h1 ps p ih =>
    obtain ⟨h1, h2⟩ := ih (fun q hq => hp q (List.mem_append_left _ hq))
    have h3 := hp p (by simp)
    rw [tplusFold_snoc]
    exact ⟨limbs_snoc h1 (Nat.mod_lt _ B32_pos), Nat.div_lt_of_lt_mul (mul_limb_lt h2 h3 hf)⟩
theorem tplusFold_val (f c0 : Nat) (ys : List Nat) (k : Nat) : val (tplusFold f c0 (limbPairs ys k)).1 + B32 ^ k * (tplusFold f c0 (limbPairs ys k)).2 = val (ys.take k) * f + c0 := by
  induction k with
  | zero => simp [limbPairs, tplusFold, val]
  | succ k ih =>
    have hl := tplusFold_length f c0 (limbPairs ys k)
    rw [limbPairs_length] at hl
    rw [limbPairs_succ, tplusFold_snoc, val_take_succ ys]
    simp only [tplusStep]
    rw [val_snoc, hl]
    generalize (tplusFold f c0 (limbPairs ys k)).2 = c at *
    generalize val (tplusFold f c0 (limbPairs ys k)).1 = r at *
    generalize ys[k]?.getD 0 = y at *
    have h := Nat.div_add_mod (c + y * f) B32
    generalize (c + y * f) / B32 = q at *
    generalize (c + y * f) % B32 = m at *
    have h2 := congrArg (B32 ^ k * ·) h
    simp only [Nat.mul_add] at h2
    rw [Nat.pow_succ, Nat.mul_assoc, Nat.add_mul, Nat.mul_assoc (B32 ^ k) y f]
    omega


/-! ### shifts to the left -/
def slStep (part : Nat) (st : List Nat × Nat) (p : Nat × Nat) : List Nat × Nat := (st.1 ++ [(st.2 + p.2 * 2 ^ part) % B32], (st.2 + p.2 * 2 ^ part) / B32)
def slFold (whole part : Nat) (ps : List (Nat × Nat)) : List Nat × Nat := ps.foldl (slStep part) (List.replicate whole 0, 0)
theorem slFold_snoc (whole part : Nat) (ps : List (Nat × Nat)) (p : Nat × Nat) : slFold whole part (ps ++ [p]) = slStep part (slFold whole part ps) p := by simp [slFold]
theorem slFold_length (whole part : Nat) (ps : List (Nat × Nat)) : (slFold whole part ps).1.length = whole + ps.length := by
  induction ps using snoc_ind with
  | h0 => simp [slFold]
  | h1 ps p ih => rw [slFold_snoc]; simp [slStep, ih]; omega
theorem sl_bound {c y part : Nat} (hc : c < 2 ^ part) (hy : y < B32) : c + y * 2 ^ part < B32 * 2 ^ part := by
  have h1 : (y + 1) * 2 ^ part ≤ B32 * 2 ^ part := Nat.mul_le_mul_right _ hy
  rw [Nat.add_mul, Nat.one_mul] at h1
  omega
theorem slFold_limbs (whole : Nat) {part : Nat} (ps : List (Nat × Nat)) (hp : ∀ p ∈ ps, p.2 < B32) : Limbs (slFold whole part ps).1 ∧ (slFold whole part ps).2 < 2 ^ part := by
  induction ps using snoc_ind with
  | h0 =>
    refine ⟨fun x h => ?_, by simpa [slFold] using Nat.pow_pos (by omega)⟩
    simp only [slFold, List.foldl_nil] at h
    rw [List.eq_of_mem_replicate h]; exact B32_pos
  | h1 ps p ih =>
    obtain ⟨h1, h2⟩ := ih (fun q hq => hp q (List.mem_append_left _ hq))
    have h3 := hp p (by simp)
    rw [slFold_snoc]
    exact ⟨limbs_snoc h1 (Nat.mod_lt _ B32_pos), Nat.div_lt_of_lt_mul (sl_bound h2 h3)⟩
theorem slFold_val (whole part : Nat) (ys : List Nat) (k : Nat) : val (slFold whole part (limbPairs ys k)).1 + B32 ^ (whole + k) * (slFold whole part (limbPairs ys k)).2 = B32 ^ whole * (val (ys.take k) * 2 ^ part) := by
  induction k with
  | zero => simp [limbPairs, slFold, val, val_zeros]
  | succ k ih =>
    have hl := slFold_length whole part (limbPairs ys k)
    rw [limbPairs_length] at hl
    rw [limbPairs_succ, slFold_snoc, val_take_succ ys]
    simp only [slStep]
    rw [val_snoc, hl]
    generalize (slFold whole part (limbPairs ys k)).2 = c at *
    generalize val (slFold whole part (limbPairs ys k)).1 = r at *
    generalize ys[k]?.getD 0 = y at *
    have h := Nat.div_add_mod (c + y * 2 ^ part) B32
    generalize (c + y * 2 ^ part) / B32 = q at *
    generalize (c + y * 2 ^ part) % B32 = m at *
    have h2 := congrArg (B32 ^ (whole + k) * ·) h
    simp only [Nat.mul_add] at h2
    rw [← Nat.add_assoc, Nat.pow_succ, Nat.mul_assoc, Nat.add_mul, Nat.mul_add (B32 ^ whole), ← ih, Nat.mul_assoc (B32 ^ k), ← Nat.mul_assoc (B32 ^ whole) (B32 ^ k), ← Nat.pow_add]
    omega
theorem B32_pow (k : Nat) : B32 ^ k = 2 ^ (32 * k) := by rw [Nat.pow_mul]; rfl
theorem slFold_end {whole part : Nat} (hp : part < 32) {ys : List Nat} (hy : Limbs ys) : val (slFold whole part (limbPairs ys (ys.length + 1))).1 = val ys * 2 ^ (32 * whole + part) := by
  have h := slFold_val whole part ys (ys.length + 1)
  rw [List.take_of_length_le (by omega)] at h
  have h0 : (slFold whole part (limbPairs ys (ys.length + 1))).2 = 0 := by
    rw [limbPairs_succ, slFold_snoc, List.getElem?_eq_none (Nat.le_refl _)]
    simp only [slStep]
    have hb := (slFold_limbs whole (part := part) (limbPairs ys ys.length) (fun p hp' => by
      obtain ⟨i, _, rfl⟩ := List.mem_map.1 hp'
      exact limb_getD hy i)).2
    have h3 : 2 ^ part ≤ 2 ^ 32 := Nat.pow_le_pow_right (by omega) (by omega)
    show (_ + (none.getD 0) * 2 ^ part) / B32 = 0
    rw [Option.getD_none, Nat.zero_mul, Nat.add_zero]
    apply Nat.div_eq_of_lt
    have : B32 = 2 ^ 32 := rfl
    omega
  rw [h0] at h
  rw [Nat.mul_zero, Nat.add_zero] at h
  rw [h, B32_pow, Nat.pow_add, ← Nat.mul_assoc, ← Nat.mul_assoc, Nat.mul_comm (val ys)]


/-! ### from the end on -/
/-- the limbs of a list with their indices, the last k, from the end on -/
def backPairs (xs : List Nat) (k : Nat) : List (Nat × Nat) := (List.range k).map fun j => (xs.length - 1 - j, xs[xs.length - 1 - j]?.getD 0)
theorem backPairs_succ (xs : List Nat) (n : Nat) : backPairs xs (n + 1) = backPairs xs n ++ [(xs.length - 1 - n, xs[xs.length - 1 - n]?.getD 0)] := by simp [backPairs, List.range_succ]
theorem backPairs_length (xs : List Nat) (n : Nat) : (backPairs xs n).length = n := by simp [backPairs]
theorem backPairs_prefix (xs : List Nat) {k n : Nat} (h : k ≤ n) : backPairs xs k <+: backPairs xs n := by
  obtain ⟨d, rfl⟩ := Nat.exists_eq_add_of_le h
  induction d with
  | zero => exact List.prefix_refl _
  | succ d ih => rw [← Nat.add_assoc, backPairs_succ]; exact (ih (by omega)).trans (List.prefix_append _ _)

/-- division by a limb: the quotient's limbs, and the rest -/
def dlStep (d : Nat) (st : List Nat × Nat) (p : Nat × Nat) : List Nat × Nat := (st.1.set p.1 ((st.2 * B32 + p.2) / d), (st.2 * B32 + p.2) % d)
def dlFold (n d : Nat) (ps : List (Nat × Nat)) : List Nat × Nat := ps.foldl (dlStep d) (List.replicate n 0, 0)
theorem dlFold_snoc (n d : Nat) (ps : List (Nat × Nat)) (p : Nat × Nat) : dlFold n d (ps ++ [p]) = dlStep d (dlFold n d ps) p := by simp [dlFold]
theorem dlFold_length (n d : Nat) (ps : List (Nat × Nat)) : (dlFold n d ps).1.length = n := by
  induction ps using snoc_ind with
  | h0 => simp [dlFold]
  | h1 ps p ih => rw [dlFold_snoc]; simp [dlStep, ih]
theorem dl_bound {r d x : Nat} (hr : r < d) (hx : x < B32) : (r * B32 + x) / d < B32 := by
  apply Nat.div_lt_of_lt_mul
  have h1 : (r + 1) * B32 ≤ d * B32 := Nat.mul_le_mul_right _ hr
  rw [Nat.add_mul, Nat.one_mul] at h1
  omega
theorem limbs_set {xs : List Nat} (h : Limbs xs) (i : Nat) {y : Nat} (hy : y < B32) : Limbs (xs.set i y) := by
  intro z hz
  rcases List.mem_or_eq_of_mem_set hz with h1 | h1
  · exact h z h1
  · rw [h1]; exact hy
theorem limbs_zeros (n : Nat) : Limbs (List.replicate n 0) := fun x hx => by rw [List.eq_of_mem_replicate hx]; exact B32_pos
theorem dlFold_limbs (n : Nat) {d : Nat} (hd : 0 < d) (ps : List (Nat × Nat)) (hp : ∀ p ∈ ps, p.2 < B32) : Limbs (dlFold n d ps).1 ∧ (dlFold n d ps).2 < d := by
  induction ps using snoc_ind with
  | h0 => exact ⟨limbs_zeros n, by simpa [dlFold] using hd⟩
  | h1 ps p ih =>
    obtain ⟨h1, h2⟩ := ih (fun q hq => hp q (List.mem_append_left _ hq))
    rw [dlFold_snoc]
    exact ⟨limbs_set h1 _ (dl_bound h2 (hp p (by simp))), Nat.mod_lt _ hd⟩
theorem val_drop_succ (xs : List Nat) (i : Nat) (h : i < xs.length) : val (xs.drop i) = xs[i]?.getD 0 + B32 * val (xs.drop (i + 1)) := by
  rw [List.drop_eq_getElem_cons h, List.getElem?_eq_getElem h]; rfl
/-- ahead of round k the upper k limbs have been divided -/
theorem dlFold_val {d : Nat} {xs : List Nat} (k : Nat) (hk : k ≤ xs.length) :
    val ((dlFold xs.length d (backPairs xs k)).1.drop (xs.length - k)) * d + (dlFold xs.length d (backPairs xs k)).2 = val (xs.drop (xs.length - k)) := by
  induction k with
  | zero => simp [backPairs, dlFold, val]
  | succ k ih =>
    have ih := ih (by omega)
    have hl := dlFold_length xs.length d (backPairs xs k)
    rw [backPairs_succ, dlFold_snoc]
    generalize hi : xs.length - 1 - k = i
    have e1 : xs.length - (k + 1) = i := by omega
    have e2 : xs.length - k = i + 1 := by omega
    rw [e1]; rw [e2] at ih
    simp only [dlStep]
    generalize (dlFold xs.length d (backPairs xs k)).2 = r at *
    generalize (dlFold xs.length d (backPairs xs k)).1 = q at *
    rw [val_drop_succ _ i (by simp [hl]; omega), val_drop_succ xs i (by omega)]
    rw [List.drop_set_of_lt (by omega), List.getElem?_set_self (by omega), Option.getD_some]
    generalize xs[i]?.getD 0 = x at *
    rw [← ih]
    have h := Nat.div_add_mod (r * B32 + x) d
    rw [Nat.mul_comm d] at h
    generalize (r * B32 + x) / d = q1 at *
    generalize (r * B32 + x) % d = m at *
    rw [Nat.add_mul, Nat.mul_add B32, Nat.mul_assoc B32]
    rw [Nat.mul_comm r B32] at h
    omega
theorem dlFold_end {d : Nat} (hd : 0 < d) {xs : List Nat} (hx : Limbs xs) : val (dlFold xs.length d (backPairs xs xs.length)).1 = val xs / d ∧ (dlFold xs.length d (backPairs xs xs.length)).2 = val xs % d := by
  have h := dlFold_val (d := d) (xs := xs) xs.length (Nat.le_refl _)
  have hb := (dlFold_limbs xs.length hd (backPairs xs xs.length) (fun p hp => by
    obtain ⟨i, _, rfl⟩ := List.mem_map.1 hp
    exact limb_getD hx _)).2
  simp only [Nat.sub_self, List.drop_zero] at h
  rw [← h]
  refine ⟨?_, ?_⟩
  · rw [Nat.mul_comm, Nat.mul_add_div hd, Nat.div_eq_of_lt hb, Nat.add_zero]
  · rw [Nat.mul_comm, Nat.mul_add_mod, Nat.mod_eq_of_lt hb]


/-! ### comparing -/
/-- -1, 0 or 1 -/
def cmpI (x y : Int) : Int := if x < y then -1 else if y < x then 1 else 0
theorem cmpI_self (x : Int) : cmpI x x = 0 := by simp [cmpI]
theorem cmpI_congr {x y z u : Int} (h1 : x < y ↔ z < u) (h2 : y < x ↔ u < z) : cmpI x y = cmpI z u := by simp [cmpI, h1, h2]

theorem val_split (xs : List Nat) (m : Nat) (h : m < xs.length) : val xs = val (xs.take m) + B32 ^ m * (xs[m]?.getD 0 + B32 * val (xs.drop (m + 1))) := by
  rw [← val_drop_succ xs m h]
  have := val_append (xs.take m) (xs.drop m)
  rw [List.take_append_drop, List.length_take, Nat.min_eq_left (by omega)] at this
  exact this
theorem limbs_take {xs : List Nat} (h : Limbs xs) (m : Nat) : Limbs (xs.take m) := fun x hx => h x (List.mem_of_mem_take hx)

/-- the topmost limb that differs tells -/
theorem cmp_at {xs ys : List Nat} (hx : Limbs xs) (hy : Limbs ys) (hl : xs.length = ys.length) (m : Nat) (hm : m < xs.length) (hup : ∀ i, m < i → i < xs.length → xs[i]?.getD 0 = ys[i]?.getD 0) (hne : xs[m]?.getD 0 ≠ ys[m]?.getD 0) :
    cmpI (val xs : Int) (val ys : Int) = cmpI ((xs[m]?.getD 0 : Nat) : Int) ((ys[m]?.getD 0 : Nat) : Int) := by
  have hd : xs.drop (m + 1) = ys.drop (m + 1) := by
    apply List.ext_getElem
    · simp [hl]
    · intro i h1 h2
      have h3 : m + 1 + i < xs.length := by simp at h1; omega
      have h4 : m + 1 + i < ys.length := by omega
      have := hup (m + 1 + i) (by omega) h3
      rw [List.getElem?_eq_getElem h3, List.getElem?_eq_getElem h4] at this
      simpa using this
  have e1 := val_split xs m hm
  have e2 := val_split ys m (by omega)
  rw [hd] at e1
  have l1 := val_lt (limbs_take hx m)
  have l2 := val_lt (limbs_take hy m)
  rw [List.length_take, Nat.min_eq_left (by omega)] at l1 l2
  generalize xs[m]?.getD 0 = x at *
  generalize ys[m]?.getD 0 = y at *
  generalize val (xs.take m) = u at *
  generalize val (ys.take m) = v at *
  generalize B32 * val (ys.drop (m + 1)) = D at *
  generalize B32 ^ m = P at *
  have key : ∀ {u v x y : Nat}, u < P → x < y → u + P * (x + D) < v + P * (y + D) := by
    intro u v x y hu hxy
    have h1 : P * (x + D + 1) ≤ P * (y + D) := Nat.mul_le_mul_left _ (by omega)
    rw [Nat.mul_add P (x + D) 1, Nat.mul_one] at h1
    omega
  rcases Nat.lt_or_gt_of_ne hne with h | h
  · have h1 := key (v := v) l1 h
    rw [← e1, ← e2] at h1
    exact cmpI_congr (by omega) (by omega)
  · have h1 := key (v := u) l2 h
    rw [← e1, ← e2] at h1
    exact cmpI_congr (by omega) (by omega)
/-- of two canonical lists the longer one is more -/
theorem cmp_len {xs ys : List Nat} (hx : Canon xs) (hy : Canon ys) (hne : xs.length ≠ ys.length) : cmpI (val xs : Int) (val ys : Int) = cmpI (xs.length : Int) (ys.length : Int) := by
  have key : ∀ {xs ys : List Nat}, Canon xs → Canon ys → xs.length < ys.length → val xs < val ys := by
    intro xs ys hx hy h
    have h1 := val_lt hx.1
    have h2 := canon_pos hy (by rintro rfl; simp at h)
    have h3 : B32 ^ xs.length ≤ B32 ^ (ys.length - 1) := Nat.pow_le_pow_right B32_pos (by omega)
    omega
  rcases Nat.lt_or_gt_of_ne hne with h | h
  · have := key hx hy h
    exact cmpI_congr (by omega) (by omega)
  · have := key hy hx h
    exact cmpI_congr (by omega) (by omega)


/-! ### products, limb by limb -/
theorem val_set : ∀ (r : List Nat) (k z : Nat), k < r.length → val (r.set k z) + B32 ^ k * r[k]?.getD 0 = val r + B32 ^ k * z := by
  intro r
  induction r with
  | nil => intro k z h; simp at h
  | cons x r ih =>
    intro k z h
    cases k with
    | zero => simp [val]; omega
    | succ k =>
      have := ih k z (by simpa using h)
      simp only [List.set_cons_succ, val, List.getElem?_cons_succ, Nat.pow_succ]
      have h2 := congrArg (B32 * ·) this
      simp only [Nat.mul_add] at h2
      rw [Nat.mul_comm (B32 ^ k) B32, Nat.mul_assoc, Nat.mul_assoc]
      omega

/-- the limb y at place i times the first j limbs of ys, added to r: the row, and the carry -/
def tlInner (y i : Nat) (ys : List Nat) (r : List Nat) : Nat → List Nat × Nat
  | 0 => (r, 0)
  | j + 1 =>
    let st := tlInner y i ys r j
    let t := st.2 + (y * ys[j]?.getD 0 + st.1[i + j]?.getD 0)
    (st.1.set (i + j) (t % B32), t / B32)
def tlStep (ys : List Nat) (r : List Nat) (p : Nat × Nat) : List Nat :=
  (tlInner p.2 p.1 ys r ys.length).1.set (p.1 + ys.length) (tlInner p.2 p.1 ys r ys.length).2
def tlFold (n : Nat) (ys : List Nat) (ps : List (Nat × Nat)) : List Nat := ps.foldl (tlStep ys) (List.replicate n 0)
theorem tlFold_snoc (n : Nat) (ys : List Nat) (ps : List (Nat × Nat)) (p : Nat × Nat) : tlFold n ys (ps ++ [p]) = tlStep ys (tlFold n ys ps) p := by simp [tlFold]
theorem tlInner_length (y i : Nat) (ys r : List Nat) (j : Nat) : (tlInner y i ys r j).1.length = r.length := by
  induction j with
  | zero => rfl
  | succ j ih => simp [tlInner, ih]
theorem tl_bound {c y b r : Nat} (hc : c < B32) (hy : y < B32) (hb : b < B32) (hr : r < B32) : c + (y * b + r) < B32 * B32 := by
  have h1 : y * b ≤ (B32 - 1) * (B32 - 1) := Nat.mul_le_mul (by omega) (by omega)
  unfold B32 at *; omega
theorem tlInner_limbs {y : Nat} (hy : y < B32) (i : Nat) {ys r : List Nat} (hys : Limbs ys) (hr : Limbs r) (j : Nat) : Limbs (tlInner y i ys r j).1 ∧ (tlInner y i ys r j).2 < B32 := by
  induction j with
  | zero => exact ⟨hr, B32_pos⟩
  | succ j ih =>
    obtain ⟨h1, h2⟩ := ih
    exact ⟨limbs_set h1 _ (Nat.mod_lt _ B32_pos), Nat.div_lt_of_lt_mul (tl_bound h2 hy (limb_getD hys j) (limb_getD h1 _))⟩
theorem tlInner_val (y i : Nat) (ys r : List Nat) (j : Nat) (hj : i + j ≤ r.length) : val (tlInner y i ys r j).1 + B32 ^ (i + j) * (tlInner y i ys r j).2 = val r + B32 ^ i * (y * val (ys.take j)) := by
  induction j with
  | zero => simp [tlInner, val]
  | succ j ih =>
    have ih := ih (by omega)
    have hl := tlInner_length y i ys r j
    simp only [tlInner]
    have hs := val_set (tlInner y i ys r j).1 (i + j) (((tlInner y i ys r j).2 + (y * ys[j]?.getD 0 + (tlInner y i ys r j).1[i + j]?.getD 0)) % B32) (by omega)
    generalize (tlInner y i ys r j).1 = q at *
    generalize (tlInner y i ys r j).2 = c at *
    generalize q[i + j]?.getD 0 = z at *
    rw [val_take_succ]
    generalize ys[j]?.getD 0 = b at *
    have h := Nat.div_add_mod (c + (y * b + z)) B32
    generalize (c + (y * b + z)) / B32 = t1 at *
    generalize (c + (y * b + z)) % B32 = t0 at *
    generalize val (q.set (i + j) t0) = V at *
    have h2 := congrArg (B32 ^ (i + j) * ·) h
    simp only [Nat.mul_add] at h2
    rw [← Nat.add_assoc, Nat.pow_succ, Nat.mul_assoc, Nat.mul_add y, Nat.mul_add (B32 ^ i)]
    have e : B32 ^ i * (y * (B32 ^ j * b)) = B32 ^ (i + j) * (y * b) := by
      rw [Nat.pow_add, Nat.mul_left_comm y, Nat.mul_assoc]
    rw [e]
    omega
theorem tlInner_above (y i : Nat) (ys r : List Nat) (j m : Nat) (hm : i + j ≤ m) : (tlInner y i ys r j).1[m]? = r[m]? := by
  induction j with
  | zero => rfl
  | succ j ih =>
    simp only [tlInner]
    rw [List.getElem?_set_ne (by omega)]
    exact ih (by omega)
theorem tlFold_length (n : Nat) (ys : List Nat) (ps : List (Nat × Nat)) : (tlFold n ys ps).length = n := by
  induction ps using snoc_ind with
  | h0 => simp [tlFold]
  | h1 ps p ih => rw [tlFold_snoc]; simp [tlStep, tlInner_length, ih]
theorem tlFold_limbs (n : Nat) {ys : List Nat} (hys : Limbs ys) (ps : List (Nat × Nat)) (hp : ∀ p ∈ ps, p.2 < B32) : Limbs (tlFold n ys ps) := by
  induction ps using snoc_ind with
  | h0 => exact limbs_zeros n
  | h1 ps p ih =>
    have h1 := ih (fun q hq => hp q (List.mem_append_left _ hq))
    have h2 := tlInner_limbs (hp p (by simp)) p.1 hys h1 ys.length
    rw [tlFold_snoc]
    exact limbs_set h2.1 _ h2.2
theorem tlFold_val (xs ys : List Nat) (k : Nat) (hk : k ≤ xs.length) :
    val (tlFold (xs.length + ys.length) ys (limbPairs xs k)) = val (xs.take k) * val ys ∧ ∀ m, k + ys.length ≤ m → (tlFold (xs.length + ys.length) ys (limbPairs xs k))[m]?.getD 0 = 0 := by
  induction k with
  | zero =>
    refine ⟨by simp [limbPairs, tlFold, val_zeros, val], fun m _ => ?_⟩
    simp only [limbPairs, tlFold, List.range_zero, List.map_nil, List.foldl_nil]
    by_cases h : m < xs.length + ys.length
    · simp [h]
    · rw [List.getElem?_eq_none (by simp; omega)]; rfl
  | succ k ih =>
    obtain ⟨h1, h2⟩ := ih (by omega)
    have hl := tlFold_length (xs.length + ys.length) ys (limbPairs xs k)
    rw [limbPairs_succ, tlFold_snoc]
    generalize tlFold (xs.length + ys.length) ys (limbPairs xs k) = r at *
    simp only [tlStep]
    have hv := tlInner_val (xs[k]?.getD 0) k ys r ys.length (by omega)
    have ha := tlInner_above (xs[k]?.getD 0) k ys r ys.length (k + ys.length) (Nat.le_refl _)
    have hab : ∀ m, k + ys.length ≤ m → (tlInner (xs[k]?.getD 0) k ys r ys.length).1[m]? = r[m]? := fun m hm => tlInner_above _ k ys r ys.length m hm
    have hll := tlInner_length (xs[k]?.getD 0) k ys r ys.length
    generalize (tlInner (xs[k]?.getD 0) k ys r ys.length).1 = q at *
    generalize (tlInner (xs[k]?.getD 0) k ys r ys.length).2 = c at *
    have hs := val_set q (k + ys.length) c (by omega)
    rw [ha, h2 _ (Nat.le_refl _)] at hs
    refine ⟨?_, fun m hm => ?_⟩
    · rw [val_take_succ, Nat.add_mul, ← h1]
      rw [List.take_of_length_le (Nat.le_refl _)] at hv
      rw [Nat.mul_assoc]
      omega
    · rw [List.getElem?_set_ne (by omega), hab m (by omega)]
      exact h2 m (by omega)

end Go.Proofs.YtlghjfpkfdnfoaaGreatDoor

/- The iterator limbs: what it gives, to every loop body that keeps what lay below n0. -/
namespace Go.Proofs.YtlghjfpkfdnfoaaGreatDoor
open Go Go.RowKit Go.Shelf
attribute [local go_sem] Oper.semAt_some

theorem und_limbs : Tryz.prog.underlying 22 = some (.slice 52) := by kernel_rfl
theorem info_limb : (Tryz.prog.info? 52).map (fun i => (i.zero, i.size, i.bytes)) = some (some (.int .u32 0), 1, 4) := by kernel_rfl
theorem size_limb (w : World) : (sizeOf 52).run Tryz.prog w = .ok 1 w := by kernel_rfl

/-- so many limbs 0 -/
def zeros (n : Nat) : Array Value := Array.replicate n (.int .u32 0)

theorem make_limbs (i j : Int) (h0 : 0 ≤ i) (hij : i ≤ j) (hj : j ≤ 10000000) (w : World) :
    (Instr.makeSlice 22 (.int .i64 i) (.int .i64 j)).run Tryz.prog w = .ok (.slice (some ⟨w.heap.size, 0, none⟩) i.toNat j.toNat) (w.alloc (.cells (zeros j.toNat) 52)) := by
  obtain ⟨inf, hi, hzz⟩ := Option.map_eq_some_iff.1 info_limb
  simp only [Prod.mk.injEq] at hzz
  obtain ⟨hz, hs, hb⟩ := hzz
  rw [run_make w _ _ inf (.int .u32 0) und_limbs hi hz .i64 .i64 i j h0 hij (by rw [hb]; omega) (by omega), hs, Nat.mul_one]
  have e : madeCells (Value.int .u32 0).cells j.toNat = zeros j.toNat := by
    apply Array.ext
    · simp [madeCells, zeros]
    · intro k h1 h2
      simp [madeCells, zeros, Value.cells, Nat.mod_one]
  rw [e]

theorem make_limbs_own (w : World) (base m : Nat) (hb : base ≤ w.heap.size) (hm : m ≤ 10000000) :
    (w.alloc (.cells (zeros m) 52)).ownsRow base 52 1 (.slice (some ⟨w.heap.size, 0, none⟩) 0 m) 0 [] :=
  World.ownsRow_made w (zeros m) m hb (by unfold maxLen; omega) (by simp [zeros])

theorem make_limbs_own2 (w : World) (base l m : Nat) (hlm : l ≤ m) (hb : base ≤ w.heap.size) (hm : m ≤ 10000000) :
    (w.alloc (.cells (zeros m) 52)).ownsRow base 52 1 (.slice (some ⟨w.heap.size, 0, none⟩) l m) l ((List.replicate l 0).map fun (x : Nat) => Value.int .u32 (x : Int)) := by
  refine ⟨by simp, .inr ⟨w.heap.size, m, zeros m, rfl, hb, World.alloc_heap_new w _, hlm, by unfold maxLen; omega, by simp [zeros], ?_⟩⟩
  simp [zeros, List.take_replicate]
  omega

/-- the cells of a list of limbs -/
def enc32 (xs : List Nat) : List Value := xs.map fun (x : Nat) => Value.int .u32 (x : Int)
theorem enc32_snoc (xs : List Nat) (x : Nat) : enc32 (xs ++ [x]) = enc32 xs ++ [.int .u32 (x : Int)] := by simp [enc32]
theorem enc32_length (xs : List Nat) : (enc32 xs).length = xs.length := by simp [enc32]

/-- an index below n, and a limb -/
abbrev IdxLimb (n : Nat) := { p : Nat × Nat // p.1 < n ∧ p.2 < B32 }
def encLimb {n : Nat} (p : IdxLimb n) : Array Value := #[.int .i64 (p.1.1 : Int), .int .u32 (p.1.2 : Int)]
/-- what a round keeps: what lay below n0, and the box of the slice -/
def Kp0 (n0 Ba : Nat) (W W' : World) : Prop := Below n0 W W' ∧ W'.heap[Ba]? = W.heap[Ba]?
theorem Kp0.refl (n0 Ba : Nat) (W : World) : Kp0 n0 Ba W W := ⟨Below.refl _ _, rfl⟩
theorem Kp0.trans {n0 Ba : Nat} {A B C : World} (h : Kp0 n0 Ba A B) (k : Kp0 n0 Ba B C) : Kp0 n0 Ba A C := ⟨h.1.trans k.1, k.2.trans h.2⟩
theorem Kp0.book {n0 Ba : Nat} {w : World} (hn : n0 ≤ w.heap.size) (hBa : Ba < w.heap.size) (W : World) (l : Nat) (o o' : Obj) (hl : w.heap.size ≤ l) (h : W.heap[l]? = some o) (hc : o.isCells = false) (hw : o.isWalk = false) : Kp0 n0 Ba W (W.putObj l o') :=
  ⟨belowK_b hn W l o o' hl h hc hw, World.putObj_heap_other (by omega)⟩
theorem Kp0.boxed {n0 Ba : Nat} {A B : World} {t : TypeId} {v : Value} (h : Below n0 A B) (ha : Boxed A Ba t v) (hb : Boxed B Ba t v) : Kp0 n0 Ba A B := ⟨h, Eq.trans hb ha.symm⟩
theorem Kp0.cell {n0 Ba : Nat} {A B : World} (h : Kp0 n0 Ba A B) : B.cell? ⟨Ba, 0, none⟩ = A.cell? ⟨Ba, 0, none⟩ := World.cell?_of_block h.2

set_option maxRecDepth 100000 in
set_option maxHeartbeats 2000000 in
theorem limbs1_in (F : Fence) (n : Nat) (hF : F.fn 112) (hro : F.round = none) (hn : 1 ≤ n) (l Bm Ba n0 many : Nat) (v : Value) (xs : List Nat) (hx : Limbs xs) (hmany : many ≤ 1000000)
    (J Jx : List (IdxLimb many) → World → Prop)
    (hY : ∀ pre x W, J pre W → pre.length < many → YieldAt F (n - 1) Tryz.prog l (encLimb x) W fun e W' =>
      (e = .returned (.bool true) ∧ J (pre ++ [x]) W' ∧ Kp0 n0 Ba W W') ∨ (e = .returned (.bool false) ∧ Jx (pre ++ [x]) W'))
    (W : World) (hm : W.cell? ⟨Bm, 0, none⟩ = some (.int .i64 (many : Int))) (ha : W.cell? ⟨Ba, 0, none⟩ = some v) (hv : Reads .u32 W v xs)
    (hvb : ∀ a n c, v = .slice (some a) n c → xs ≠ [] → a.block < n0) (h0 : J [] W) :
    CallsIn F n Tryz.prog 112 #[.func (.yield l) #[] #[], .pointer (some ⟨Bm, 0, none⟩), .pointer (some ⟨Ba, 0, none⟩)] W fun e W' => (∃ v, e = .returned v) ∧
      ((∃ ys : List (IdxLimb many), ys.map (·.1) = limbPairs xs many ∧ J ys W') ∨ (∃ pre : List (IdxLimb many), pre.map (·.1) <+: limbPairs xs many ∧ Jx pre W')) := by
  obtain ⟨a, cap, rfl, hc, hmx⟩ := hv.form
  unfold maxLen at hmx
  refine callsIn_of_wp Tryz.func112 rfl hF ?_ hro
  simp only [Tryz.ntmps112, List.size_toArray, List.length_cons, List.length_nil, Nat.reduceAdd, Nat.reduceSub, Array.replicate_succ, Array.replicate_zero, List.push_toArray, List.append_toArray, List.nil_append, List.cons_append]
  gi_wp2
  gi_loopw [7] (fun i wr => ∃ (k : Nat) (pre : List (IdxLimb many)), k ≤ many ∧ i = .int .i64 k ∧ pre.map (·.1) = limbPairs xs k ∧ J pre wr ∧ Kp0 n0 Ba W wr)
    (fun i _ => many - (intOf i).toNat)
  case atStart => exact ⟨0, [], Nat.zero_le _, rfl, rfl, h0, Kp0.refl _ _ _⟩
  case round =>
    obtain ⟨k, pre, hk, rfl, hpre, hJs, hnx⟩ := hrel
    have hplen : pre.length = k := by have := congrArg List.length hpre; simpa [limbPairs_length] using this
    have ham : wr.cell? ⟨Ba, 0, none⟩ = some (.slice a xs.length cap) := hnx.cell.trans ha
    by_cases hlt : k < many
    · obtain ⟨x, hxk⟩ : ∃ x, xs[k]?.getD 0 = x := ⟨_, rfl⟩
      have hxb : x < B32 := by rw [← hxk]; exact limb_getD hx k
      obtain ⟨fn, tmps, assign, body, hy, hR⟩ := hY pre ⟨(k, x), hlt, hxb⟩ wr hJs (by omega)
      have hnext : (pre ++ [(⟨(k, x), hlt, hxb⟩ : IdxLimb many)]).map (·.1) = limbPairs xs (k + 1) := by
        rw [List.map_append, hpre, limbPairs_succ, hxk]; rfl
      simp only [encLimb] at hy
      have hvr := hv.belowAt hvb hnx.1
      clear hpre hplen
      have HN := Lib.hid hnext
      clear hnext
      by_cases hin : k < xs.length
      · have hix := hvr.index und_limbs size_limb k .i64
        have hcell := hvr.cell k hin
        rw [hxk] at hcell
        clear hxk
        gi_wp2
        refine hR.mono ?_
        rintro e W3 (⟨rfl, hJ3, hk3⟩ | ⟨rfl, hJx3⟩)
        · gi_wp2
          go_roundw
          case rel => exact ⟨k + 1, _, by omega, by simp, HN.out, hJ3, hnx.trans hk3⟩
          case measure => simp [intOf]; omega
        · gi_wp2
          refine bodyPost_ret (results_none rfl _ _ _) rfl ?_
          exact ⟨⟨_, rfl⟩, .inr ⟨_, by rw [HN.out]; exact limbPairs_prefix xs hlt, hJx3⟩⟩
      · have hz : x = 0 := by rw [← hxk, List.getElem?_eq_none (by omega)]; rfl
        subst hz
        clear hxk
        rw [show ((0 : Nat) : Int) = 0 from rfl] at hy
        gi_wp2
        refine hR.mono ?_
        rintro e W3 (⟨rfl, hJ3, hk3⟩ | ⟨rfl, hJx3⟩)
        · gi_wp2
          go_roundw
          case rel => exact ⟨k + 1, _, by omega, by simp, HN.out, hJ3, hnx.trans hk3⟩
          case measure => simp [intOf]; omega
        · gi_wp2
          refine bodyPost_ret (results_none rfl _ _ _) rfl ?_
          exact ⟨⟨_, rfl⟩, .inr ⟨_, by rw [HN.out]; exact limbPairs_prefix xs hlt, hJx3⟩⟩
    · obtain rfl : k = many := by omega
      gi_wp2
      go_end0
      exact ⟨⟨_, rfl⟩, .inl ⟨_, hpre, hJs⟩⟩

set_option maxHeartbeats 1000000 in
theorem limbs_any (v : Value) (many : Int) (w : World) (hv : ∃ a n cap, v = .slice a n cap) :
    Calls Tryz.prog 90 #[v, .int .i64 many] w fun e w' =>
      e = .returned (.func (.func 112) #[] #[.pointer (some ⟨w.heap.size + 1, 0, none⟩), .pointer (some ⟨w.heap.size, 0, none⟩)]) ∧
      (w.alloc (.cells #[v] 22)).alloc (.cells #[.int .i64 many] 3) = w' := by
  obtain ⟨a, n, cap, rfl⟩ := hv
  go_enter Tryz.func90, Tryz.ntmps90
  go_wp2
  go_ret
  exact ⟨rfl, rfl⟩

/-- the frame in a round: the loop's two variables have been bound -/
def boundFrame (a : Act) (p1 p2 d1 d2 : Nat) (x y : Value) : Act := { tmps := (((a.tmps.setIfInBounds p1 x).setIfInBounds p2 y).setIfInBounds d1 x).setIfInBounds d2 y, defers := [] }

theorem limbs_stops (F : Fence) (n : Nat) (hF : F.fn 112) (hro : F.round = none) (hn : 1 ≤ n) (Bm Ba n0 many : Nat) (v : Value) (xs : List Nat) (hx : Limbs xs) (hmany : many ≤ 1000000)
    (w : World) (hBm : Bm < w.heap.size) (hBa : Ba < w.heap.size) (hn0 : n0 ≤ w.heap.size) (hm : w.cell? ⟨Bm, 0, none⟩ = some (.int .i64 (many : Int))) (ha : w.cell? ⟨Ba, 0, none⟩ = some v) (hv : Reads .u32 w v xs)
    (hvb : ∀ a n c, v = .slice (some a) n c → xs ≠ [] → a.block < n0) :
    SeqStopsK F n Tryz.prog 112 #[.pointer (some ⟨Bm, 0, none⟩), .pointer (some ⟨Ba, 0, none⟩)] (encLimb (n := many)) (Kp0 n0 Ba)
      (fun ys => ys.map (·.1) = limbPairs xs many) (fun pre => pre.map (·.1) <+: limbPairs xs many) many w := fun l J Jx W hW _ _ hY h0 => by
  have hB0 := hW.mono hn0
  exact limbs1_in F n hF hro hn l Bm Ba n0 many v xs hx hmany J Jx hY W ((hW.cell (p := ⟨Bm, 0, none⟩) hBm).trans hm) ((hW.cell (p := ⟨Ba, 0, none⟩) hBa).trans ha) (hv.belowAt hvb hB0) hvb h0


/-- a loop over limbs, at the wide fence: its body keeps what lay below n0, and an invariant -/
theorem range_limbs {g : Operand} {p1 p2 : Tmp} {assign body : Code} {Q : Exit → Act → World → Prop} {a : Act} {w : World} (d1 d2 : Nat) (Bm Ba n0 many : Nat) (v : Value) (xs : List Nat)
    (hg : a.eval g = .func (.func 112) #[] #[.pointer (some ⟨Bm, 0, none⟩), .pointer (some ⟨Ba, 0, none⟩)])
    (hx : Limbs xs) (hmany : many ≤ 1000000) (hBm : Bm < w.heap.size) (hBa : Ba < w.heap.size) (hn0 : n0 ≤ w.heap.size) (hm : w.cell? ⟨Bm, 0, none⟩ = some (.int .i64 (many : Int))) (ha : w.cell? ⟨Ba, 0, none⟩ = some v) (hv : Reads .u32 w v xs)
    (hvb : ∀ a n c, v = .slice (some a) n c → xs ≠ [] → a.block < n0)
    (I : List (IdxLimb many) → World → Prop) (Ix : Code → List (IdxLimb many) → World → Prop) (hI : OwnFrom w.heap.size I) (hIx : ∀ c, OwnFrom w.heap.size (Ix c)) (h0 : I [] w)
    (hassign : ∀ (l : Nat) (x : IdxLimb many) (W : World) (K : Act → World → Prop), K (boundFrame a p1 p2 d1 d2 (.int .i64 (x.1.1 : Int)) (.int .u32 (x.1.2 : Int))) W →
      assign.wpIn (Fence.wide.inRound l) 7 Tryz.prog (Exit.then K (fun _ _ _ => False)) { tmps := (a.tmps.setIfInBounds p1 (.int .i64 (x.1.1 : Int))).setIfInBounds p2 (.int .u32 (x.1.2 : Int)), defers := [] } W)
    (hbody : ∀ (l : Nat) (pre : List (IdxLimb many)) (x : IdxLimb many) (W : World), I pre W → pre.length < many → body.wpIn (Fence.wide.inRound l) 7 Tryz.prog (ownPostG w.heap.size (Kp0 n0 Ba) I Ix (pre ++ [x]) W) (boundFrame a p1 p2 d1 d2 (.int .i64 (x.1.1 : Int)) (.int .u32 (x.1.2 : Int))) W)
    (hdone : ∀ (D : Nat) (ys : List (IdxLimb many)) (W : World), w.heap.size ≤ D → ys.map (·.1) = limbPairs xs many → I ys W → W.heap[D]? = some (.deferred (some [])) → Q .normal { a with defers := { target := .collected D, args := #[] } :: a.defers } W)
    (hstop : ∀ (D : Nat) (c : Code) (pre : List (IdxLimb many)) (W : World), w.heap.size ≤ D → pre.map (·.1) <+: limbPairs xs many → Ix c pre W → W.heap[D]? = some (.deferred (some [])) → c.wpIn Fence.wide 9 Tryz.prog Q { a with defers := { target := .collected D, args := #[] } :: a.defers } W) :
    (Code.rangeFunc g #[p1, p2] assign body).wpIn Fence.wide 9 Tryz.prog Q a w :=
  wpIn_rangeFunc_ownG (n := 9) (F := Fence.wide) rfl (by omega) (gf := 112) (lb := #[.pointer (some ⟨Bm, 0, none⟩), .pointer (some ⟨Ba, 0, none⟩)]) hg trivial (enters_of Tryz.func112 (by kernel_rfl) rfl)
    (limbs_stops Fence.wide (9 - 1) trivial rfl (by omega) Bm Ba n0 many v xs hx hmany w hBm hBa hn0 hm ha hv hvb) Kp0.trans (Kp0.book hn0 hBa) (Below.refl _ _) (fun _ => rfl) I Ix hI hIx h0
    (fun x => boundFrame a p1 p2 d1 d2 (.int .i64 (x.1.1 : Int)) (.int .u32 (x.1.2 : Int))) (fun l x W K hK => by simpa [encLimb] using hassign l x W K hK) hbody hdone hstop

end Go.Proofs.YtlghjfpkfdnfoaaGreatDoor
