/- num.Sub -/
import Derived.Test.YtlghjfpkfdnfoaaGreatDoorNumMFloored
import Derived.Test.YtlghjfpkfdnfoaaGreatDoorNumMKnuth
import Derived.Test.YtlghjfpkfdnfoaaGreatDoorNumMBitLen
import Derived.Deep.CutRange
import Derived.RegionTactic
import Derived.BigRegion
import Derived.Test.YtlghjfpkfdnfoaaGreatDoorNumMDifference
import Derived.Test.YtlghjfpkfdnfoaaGreatDoorNumMTakeTimes
import Derived.Test.YtlghjfpkfdnfoaaGreatDoorNumMChunks
import Derived.Test.YtlghjfpkfdnfoaaGreatDoorNumMApis
namespace Go.Proofs.YtlghjfpkfdnfoaaGreatDoor
open Go Go.RowKit Go.Shelf

end Go.Proofs.YtlghjfpkfdnfoaaGreatDoor

/- num.divisor -/
namespace Go.Proofs.YtlghjfpkfdnfoaaGreatDoor
open Go Go.RowKit Go.Shelf

theorem lt_pow_of {x L N : Nat} (h : x < B32 ^ L) (hL : L ≤ N) : x < B32 ^ N := Nat.lt_of_lt_of_le h (Nat.pow_le_pow_right B32_pos hL)
set_option exponentiation.threshold 200000 in
theorem product_le (a b : Value) (i j : Int) (k L : Nat) (w : World) (ha : IsInt w a i) (hb : IsInt w b j) (hk : k < 80) (hL : L ≤ 100000) (hi : i.natAbs < B32 ^ L) (hj : j.natAbs < B32 ^ L) (hs : i.natAbs < B32 ^ k ∨ j.natAbs < B32 ^ k) :
    Calls Tryz.prog 85 #[a, b] w fun e w' => Below w.heap.size w w' ∧ ∃ v, e = .returned v ∧ IsInt w' v (i * j) := 
  product_int a b i j k w ha hb hk (lt_pow_of hi hL) (lt_pow_of hj hL) hs

/-- the variables of divisor, which lie in memory -/
structure GcdR (w w1 : World) (na nb : Bool) (aa ab : Option Addr) (xa xb : List Nat) (ca cb p : Nat) (n1 : Bool) (s1 : Option Addr) (m1 c1 : Nat) (n2 : Bool) (s2 : Option Addr) (m2 c2 : Nat) (X : World) : Prop where
  low : w.heap.size + 5 ≤ p
  a : RowAt X w.heap.size 24 [.bool na, .slice aa xa.length ca]
  b : RowAt X (w.heap.size + 1) 24 [.bool nb, .slice ab xb.length cb]
  g : RowAt X (w.heap.size + 2) 24 [.bool false, .slice none 0 0]
  x : RowAt X (w.heap.size + 3) 24 [.bool false, .slice none 0 0]
  y : RowAt X (w.heap.size + 4) 24 [.bool false, .slice none 0 0]
  f : RowAt X p 24 [.bool n1, .slice s1 m1 c1]
  h : RowAt X (p + 1) 24 [.bool n2, .slice s2 m2 c2]
  below : Below w.heap.size w X
  keep : ∀ v xs, Reads .u32 w1 v xs → Reads .u32 X v xs
@[reducible] def GcdC (w w1 : World) (na nb : Bool) (aa ab : Option Addr) (xa xb : List Nat) (ca cb p : Nat) (n1 : Bool) (s1 : Option Addr) (m1 c1 : Nat) (n2 : Bool) (s2 : Option Addr) (m2 c2 : Nat) (X : World) : Prop :=
  X.cell? ⟨p, 0, none⟩ = some (.bool n1) ∧ X.cell? ⟨p, 1, none⟩ = some (.slice s1 m1 c1) ∧ X.cell? ⟨p + 1, 0, none⟩ = some (.bool n2) ∧ X.cell? ⟨p + 1, 1, none⟩ = some (.slice s2 m2 c2) ∧ GcdR w w1 na nb aa ab xa xb ca cb p n1 s1 m1 c1 n2 s2 m2 c2 X
section
variable {w w1 X : World} {na nb : Bool} {aa ab : Option Addr} {xa xb : List Nat} {ca cb p : Nat} {n1 : Bool} {s1 : Option Addr} {m1 c1 : Nat} {n2 : Bool} {s2 : Option Addr} {m2 c2 : Nat}
theorem gr_of (h : GcdR w w1 na nb aa ab xa xb ca cb p n1 s1 m1 c1 n2 s2 m2 c2 X) : GcdC w w1 na nb aa ab xa xb ca cb p n1 s1 m1 c1 n2 s2 m2 c2 X := ⟨h.f.cell 0, h.f.cell 1, h.h.cell 0, h.h.cell 1, h⟩
theorem gr_drew (h : GcdR w w1 na nb aa ab xa xb ca cb p n1 s1 m1 c1 n2 s2 m2 c2 X) : GcdC w w1 na nb aa ab xa xb ca cb p n1 s1 m1 c1 n2 s2 m2 c2 X.drew := gr_of ⟨h.low, h.a, h.b, h.g, h.x, h.y, h.f, h.h, h.below.drew, h.keep⟩
theorem gr_step {X' : World} (h : GcdR w w1 na nb aa ab xa xb ca cb p n1 s1 m1 c1 n2 s2 m2 c2 X) (hb : Below X.heap.size X X') : GcdC w w1 na nb aa ab xa xb ca cb p n1 s1 m1 c1 n2 s2 m2 c2 X' :=
  gr_of ⟨h.low, h.a.below hb, h.b.below hb, h.g.below hb, h.x.below hb, h.y.below hb, h.f.below hb, h.h.below hb, h.below.trans (hb.mono h.below.size), fun v xs hv => (h.keep v xs hv).below hb⟩
theorem gr_other {q : Nat} {r0 : Bool} {r1 : Option Addr} {r2 r3 : Nat} (h : GcdR w w1 na nb aa ab xa xb ca cb p n1 s1 m1 c1 n2 s2 m2 c2 X) (hq : RowAt X q 24 [.bool r0, .slice r1 r2 r3]) (hlt : p + 1 < q) (u : Bool) (z : Option Addr) (m c : Nat) :
    GcdC w w1 na nb aa ab xa xb ca cb p n1 s1 m1 c1 n2 s2 m2 c2 ((X.setCell ⟨q, 0, none⟩ (.bool u)).setCell ⟨q, 1, none⟩ (.slice z m c)) := by
  have hl := h.low
  exact gr_of ⟨h.low, (h.a.other (by simp; omega) _).other (by simp; omega) _, (h.b.other (by simp; omega) _).other (by simp; omega) _, (h.g.other (by simp; omega) _).other (by simp; omega) _, (h.x.other (by simp; omega) _).other (by simp; omega) _, (h.y.other (by simp; omega) _).other (by simp; omega) _, (h.f.other (by simp; omega) _).other (by simp; omega) _, (h.h.other (by simp; omega) _).other (by simp; omega) _,
    (h.below.setCell (by simp; omega) _).setCell (by simp; omega) _, fun v xs hv => two_kept (h.keep v xs hv) (hq.cell 0) (hq.cell 1) _ _⟩
theorem gr_swap (h : GcdR w w1 na nb aa ab xa xb ca cb p n1 s1 m1 c1 n2 s2 m2 c2 X) (u : Bool) (z : Option Addr) (m c : Nat) : GcdR w ((((X.setCell ⟨p, 0, none⟩ (.bool n2)).setCell ⟨p, 1, none⟩ (.slice s2 m2 c2)).setCell ⟨p + 1, 0, none⟩ (.bool u)).setCell ⟨p + 1, 1, none⟩ (.slice z m c)) na nb aa ab xa xb ca cb p n2 s2 m2 c2 u z m c ((((X.setCell ⟨p, 0, none⟩ (.bool n2)).setCell ⟨p, 1, none⟩ (.slice s2 m2 c2)).setCell ⟨p + 1, 0, none⟩ (.bool u)).setCell ⟨p + 1, 1, none⟩ (.slice z m c)) ∧ ∀ v xs, Reads .u32 X v xs → Reads .u32 ((((X.setCell ⟨p, 0, none⟩ (.bool n2)).setCell ⟨p, 1, none⟩ (.slice s2 m2 c2)).setCell ⟨p + 1, 0, none⟩ (.bool u)).setCell ⟨p + 1, 1, none⟩ (.slice z m c)) v xs := by
  have hl := h.low
  have f1 := (h.f.set 0 (.bool n2)).set 1 (.slice s2 m2 c2)
  have g1 := (h.h.other (a := ⟨p, 0, none⟩) (by simp) (.bool n2)).other (a := ⟨p, 1, none⟩) (by simp) (.slice s2 m2 c2)
  have g2 := (g1.set 0 (.bool u)).set 1 (.slice z m c)
  refine ⟨⟨h.low, ?_, ?_, ?_, ?_, ?_, ?_, g2, ?_, fun _ _ hv => hv⟩, fun v xs hv => two_kept (b := p + 1) (two_kept (b := p) hv (h.f.cell 0) (h.f.cell 1) _ _) (g1.cell 0) (g1.cell 1) _ _⟩
  · exact (((h.a.other (by simp; omega) _).other (by simp; omega) _).other (by simp; omega) _).other (by simp; omega) _
  · exact (((h.b.other (by simp; omega) _).other (by simp; omega) _).other (by simp; omega) _).other (by simp; omega) _
  · exact (((h.g.other (by simp; omega) _).other (by simp; omega) _).other (by simp; omega) _).other (by simp; omega) _
  · exact (((h.x.other (by simp; omega) _).other (by simp; omega) _).other (by simp; omega) _).other (by simp; omega) _
  · exact (((h.y.other (by simp; omega) _).other (by simp; omega) _).other (by simp; omega) _).other (by simp; omega) _
  · exact (f1.other (by simp) _).other (by simp) _
  · exact (((h.below.setCell (by simp; omega) _).setCell (by simp; omega) _).setCell (by simp; omega) _).setCell (by simp; omega) _
theorem gr_keep {w2 : World} (h : GcdR w w1 na nb aa ab xa xb ca cb p n1 s1 m1 c1 n2 s2 m2 c2 X) (hk : ∀ v xs, Reads .u32 w2 v xs → Reads .u32 X v xs) : GcdR w w2 na nb aa ab xa xb ca cb p n1 s1 m1 c1 n2 s2 m2 c2 X := ⟨h.low, h.a, h.b, h.g, h.x, h.y, h.f, h.h, h.below, hk⟩
end


theorem sgn_cross (na n1 : Bool) (A f : Nat) : sgn na A * sgn (!(n1 == na)) f = (A : Int) * sgn n1 f := by
  cases na <;> cases n1 <;> simp [sgn, Int.neg_mul, Int.mul_neg]
theorem sgn_fdiv (nb : Bool) {B : Nat} (H : Int) (hB : 0 < B) : ((B : Int) * H).fdiv (sgn nb B) = (if nb then -H else H) ∧ sgn nb B * (if nb then -H else H) = (B : Int) * H := by
  cases nb
  · simp only [sgn, Bool.false_eq_true, if_false, and_true]
    exact Int.mul_fdiv_cancel_left _ (by omega)
  · simp only [sgn, if_true]
    constructor
    · rw [show (B : Int) * H = (-(B : Int)) * (-H) by rw [Int.neg_mul_neg]]
      exact Int.mul_fdiv_cancel_left _ (by omega)
    · rw [Int.neg_mul_neg]
/-- what the last part of divisor has to know of numbers -/
structure GcdEnd (A B L K : Nat) (na nb : Bool) (X Y : Int) : Prop where
  eq : ((Nat.gcd A B : Nat) : Int) = sgn na A * X + sgn nb B * Y
  bx : X.natAbs ≤ max 1 B
  by' : Y.natAbs ≤ max 1 A
theorem gcd_end {A B L : Nat} {F G H I : Int} (h : GcdInv A B L 0 F G H I) (na nb n1 : Bool) (f : Nat) (hF : F = sgn n1 f) :
    (L : Int) - sgn na A * sgn (!(n1 == na)) f = (B : Int) * H ∧ (0 < B → GcdEnd A B L 0 na nb (sgn (!(n1 == na)) f) (((B : Int) * H).fdiv (sgn nb B))) ∧ (B = 0 → GcdEnd A B L 0 na nb (sgn (!(n1 == na)) f) 0) := by
  have e := h.eL
  have eg := h.last
  have bF := h.bF
  have bH := h.bH
  rw [hF, sgn_natAbs] at bF
  have e1 : (L : Int) - sgn na A * sgn (!(n1 == na)) f = (B : Int) * H := by rw [sgn_cross, ← hF, e]; omega
  refine ⟨e1, fun hB => ?_, fun hB => ?_⟩
  · obtain ⟨f1, f2⟩ := sgn_fdiv nb H hB
    refine ⟨?_, by rw [sgn_natAbs]; exact bF, ?_⟩
    · rw [f1, f2, ← e1, ← eg]; omega
    · rw [f1]; cases nb <;> simpa using bH
  · subst hB
    refine ⟨?_, by rw [sgn_natAbs]; exact bF, by simp⟩
    rw [← eg]
    simp at e1
    omega

/-- the variables of divisor behind its loop -/
structure EndS (w w1 : World) (na nb : Bool) (aa ab : Option Addr) (xa xb : List Nat) (ca cb p : Nat) (n1 : Bool) (s1 : Option Addr) (m1 c1 : Nat) (ng : Bool) (sg : Option Addr) (mg cg : Nat) (nx : Bool) (sx : Option Addr) (mx cx : Nat) (ny : Bool) (sy : Option Addr) (my cy : Nat) (X : World) : Prop where
  low : w.heap.size + 5 ≤ p
  a : RowAt X w.heap.size 24 [.bool na, .slice aa xa.length ca]
  b : RowAt X (w.heap.size + 1) 24 [.bool nb, .slice ab xb.length cb]
  g : RowAt X (w.heap.size + 2) 24 [.bool ng, .slice sg mg cg]
  x : RowAt X (w.heap.size + 3) 24 [.bool nx, .slice sx mx cx]
  y : RowAt X (w.heap.size + 4) 24 [.bool ny, .slice sy my cy]
  f : RowAt X p 24 [.bool n1, .slice s1 m1 c1]
  below : Below w.heap.size w X
  keep : ∀ v xs, Reads .u32 w1 v xs → Reads .u32 X v xs
@[reducible] def EndC (w w1 : World) (na nb : Bool) (aa ab : Option Addr) (xa xb : List Nat) (ca cb p : Nat) (n1 : Bool) (s1 : Option Addr) (m1 c1 : Nat) (ng : Bool) (sg : Option Addr) (mg cg : Nat) (nx : Bool) (sx : Option Addr) (mx cx : Nat) (ny : Bool) (sy : Option Addr) (my cy : Nat) (X : World) : Prop :=
  X.cell? ⟨w.heap.size, 0, none⟩ = some (.bool na) ∧ X.cell? ⟨w.heap.size, 1, none⟩ = some (.slice aa xa.length ca) ∧ X.cell? ⟨w.heap.size + 1, 0, none⟩ = some (.bool nb) ∧ X.cell? ⟨w.heap.size + 1, 1, none⟩ = some (.slice ab xb.length cb) ∧
  X.cell? ⟨w.heap.size + 1 + 1, 0, none⟩ = some (.bool ng) ∧ X.cell? ⟨w.heap.size + 1 + 1, 1, none⟩ = some (.slice sg mg cg) ∧ X.cell? ⟨w.heap.size + 1 + 1 + 1, 0, none⟩ = some (.bool nx) ∧ X.cell? ⟨w.heap.size + 1 + 1 + 1, 1, none⟩ = some (.slice sx mx cx) ∧
  X.cell? ⟨w.heap.size + 1 + 1 + 1 + 1, 0, none⟩ = some (.bool ny) ∧ X.cell? ⟨w.heap.size + 1 + 1 + 1 + 1, 1, none⟩ = some (.slice sy my cy) ∧ X.cell? ⟨p, 0, none⟩ = some (.bool n1) ∧ X.cell? ⟨p, 1, none⟩ = some (.slice s1 m1 c1) ∧
  (∀ i, X.frozen? ⟨w.heap.size + 1 + 1, i, none⟩ = false) ∧ (∀ i, X.frozen? ⟨w.heap.size + 1 + 1 + 1, i, none⟩ = false) ∧ (∀ i, X.frozen? ⟨w.heap.size + 1 + 1 + 1 + 1, i, none⟩ = false) ∧
  EndS w w1 na nb aa ab xa xb ca cb p n1 s1 m1 c1 ng sg mg cg nx sx mx cx ny sy my cy X
section
variable {w w1 X : World} {na nb : Bool} {aa ab : Option Addr} {xa xb : List Nat} {ca cb p : Nat} {n1 : Bool} {s1 : Option Addr} {m1 c1 : Nat} {ng : Bool} {sg : Option Addr} {mg cg : Nat} {nx : Bool} {sx : Option Addr} {mx cx : Nat} {ny : Bool} {sy : Option Addr} {my cy : Nat}
theorem en_of (h : EndS w w1 na nb aa ab xa xb ca cb p n1 s1 m1 c1 ng sg mg cg nx sx mx cx ny sy my cy X) : EndC w w1 na nb aa ab xa xb ca cb p n1 s1 m1 c1 ng sg mg cg nx sx mx cx ny sy my cy X :=
  ⟨h.a.cell 0, h.a.cell 1, h.b.cell 0, h.b.cell 1, h.g.cell 0, h.g.cell 1, h.x.cell 0, h.x.cell 1, h.y.cell 0, h.y.cell 1, h.f.cell 0, h.f.cell 1, h.g.frozen, h.x.frozen, h.y.frozen, h⟩
theorem en_drew (h : EndS w w1 na nb aa ab xa xb ca cb p n1 s1 m1 c1 ng sg mg cg nx sx mx cx ny sy my cy X) : EndS w w1 na nb aa ab xa xb ca cb p n1 s1 m1 c1 ng sg mg cg nx sx mx cx ny sy my cy X.drew := ⟨h.low, h.a, h.b, h.g, h.x, h.y, h.f, h.below.drew, h.keep⟩
theorem en_step {X' : World} (h : EndS w w1 na nb aa ab xa xb ca cb p n1 s1 m1 c1 ng sg mg cg nx sx mx cx ny sy my cy X) (hb : Below X.heap.size X X') : EndS w w1 na nb aa ab xa xb ca cb p n1 s1 m1 c1 ng sg mg cg nx sx mx cx ny sy my cy X' :=
  ⟨h.low, h.a.below hb, h.b.below hb, h.g.below hb, h.x.below hb, h.y.below hb, h.f.below hb, h.below.trans (hb.mono h.below.size), fun v xs hv => (h.keep v xs hv).below hb⟩
theorem en_keep {w2 : World} (h : EndS w w1 na nb aa ab xa xb ca cb p n1 s1 m1 c1 ng sg mg cg nx sx mx cx ny sy my cy X) (hk : ∀ v xs, Reads .u32 w2 v xs → Reads .u32 X v xs) : EndS w w2 na nb aa ab xa xb ca cb p n1 s1 m1 c1 ng sg mg cg nx sx mx cx ny sy my cy X := ⟨h.low, h.a, h.b, h.g, h.x, h.y, h.f, h.below, hk⟩
theorem en_g (h : EndS w w1 na nb aa ab xa xb ca cb p n1 s1 m1 c1 ng sg mg cg nx sx mx cx ny sy my cy X) (u : Bool) (z : Option Addr) (m c : Nat) :
    EndS w w1 na nb aa ab xa xb ca cb p n1 s1 m1 c1 u z m c nx sx mx cx ny sy my cy ((X.setCell ⟨w.heap.size + 1 + 1, 0, none⟩ (.bool u)).setCell ⟨w.heap.size + 1 + 1, 1, none⟩ (.slice z m c)) := by
  have hl := h.low
  exact ⟨h.low, (h.a.other (by simp; try omega) _).other (by simp; try omega) _, (h.b.other (by simp; try omega) _).other (by simp; try omega) _, (h.g.set 0 (.bool u)).set 1 (.slice z m c), (h.x.other (by simp; try omega) _).other (by simp; try omega) _, (h.y.other (by simp; try omega) _).other (by simp; try omega) _, (h.f.other (by simp; try omega) _).other (by simp; try omega) _,
    (h.below.setCell (by simp; try omega) _).setCell (by simp; try omega) _, fun v xs hv => two_kept (h.keep v xs hv) (h.g.cell 0) (h.g.cell 1) _ _⟩
theorem en_x (h : EndS w w1 na nb aa ab xa xb ca cb p n1 s1 m1 c1 ng sg mg cg nx sx mx cx ny sy my cy X) (u : Bool) (z : Option Addr) (m c : Nat) :
    EndS w w1 na nb aa ab xa xb ca cb p n1 s1 m1 c1 ng sg mg cg u z m c ny sy my cy ((X.setCell ⟨w.heap.size + 1 + 1 + 1, 0, none⟩ (.bool u)).setCell ⟨w.heap.size + 1 + 1 + 1, 1, none⟩ (.slice z m c)) := by
  have hl := h.low
  exact ⟨h.low, (h.a.other (by simp; try omega) _).other (by simp; try omega) _, (h.b.other (by simp; try omega) _).other (by simp; try omega) _, (h.g.other (by simp; try omega) _).other (by simp; try omega) _, (h.x.set 0 (.bool u)).set 1 (.slice z m c), (h.y.other (by simp; try omega) _).other (by simp; try omega) _, (h.f.other (by simp; try omega) _).other (by simp; try omega) _,
    (h.below.setCell (by simp; try omega) _).setCell (by simp; try omega) _, fun v xs hv => two_kept (h.keep v xs hv) (h.x.cell 0) (h.x.cell 1) _ _⟩
theorem en_y (h : EndS w w1 na nb aa ab xa xb ca cb p n1 s1 m1 c1 ng sg mg cg nx sx mx cx ny sy my cy X) (u : Bool) (z : Option Addr) (m c : Nat) :
    EndS w w1 na nb aa ab xa xb ca cb p n1 s1 m1 c1 ng sg mg cg nx sx mx cx u z m c ((X.setCell ⟨w.heap.size + 1 + 1 + 1 + 1, 0, none⟩ (.bool u)).setCell ⟨w.heap.size + 1 + 1 + 1 + 1, 1, none⟩ (.slice z m c)) := by
  have hl := h.low
  exact ⟨h.low, (h.a.other (by simp; try omega) _).other (by simp; try omega) _, (h.b.other (by simp; try omega) _).other (by simp; try omega) _, (h.g.other (by simp; try omega) _).other (by simp; try omega) _, (h.x.other (by simp; try omega) _).other (by simp; try omega) _, (h.y.set 0 (.bool u)).set 1 (.slice z m c), (h.f.other (by simp; try omega) _).other (by simp; try omega) _,
    (h.below.setCell (by simp; try omega) _).setCell (by simp; try omega) _, fun v xs hv => two_kept (h.keep v xs hv) (h.y.cell 0) (h.y.cell 1) _ _⟩
end

/-- whatever the fourth of them holds -/
def EndE (w w1 : World) (na nb : Bool) (aa ab : Option Addr) (xa xb : List Nat) (ca cb p : Nat) (n1 : Bool) (s1 : Option Addr) (m1 c1 : Nat) (ng : Bool) (sg : Option Addr) (mg cg : Nat) (nx : Bool) (sx : Option Addr) (mx cx : Nat) (X : World) : Prop := ∃ ny sy my cy, EndS w w1 na nb aa ab xa xb ca cb p n1 s1 m1 c1 ng sg mg cg nx sx mx cx ny sy my cy X
@[reducible] def EndL (w w1 : World) (na nb : Bool) (aa ab : Option Addr) (xa xb : List Nat) (ca cb p : Nat) (n1 : Bool) (s1 : Option Addr) (m1 c1 : Nat) (ng : Bool) (sg : Option Addr) (mg cg : Nat) (nx : Bool) (sx : Option Addr) (mx cx : Nat) (X : World) : Prop :=
  X.cell? ⟨w.heap.size, 0, none⟩ = some (.bool na) ∧ X.cell? ⟨w.heap.size, 1, none⟩ = some (.slice aa xa.length ca) ∧ X.cell? ⟨w.heap.size + 1, 0, none⟩ = some (.bool nb) ∧ X.cell? ⟨w.heap.size + 1, 1, none⟩ = some (.slice ab xb.length cb) ∧
  X.cell? ⟨w.heap.size + 1 + 1, 0, none⟩ = some (.bool ng) ∧ X.cell? ⟨w.heap.size + 1 + 1, 1, none⟩ = some (.slice sg mg cg) ∧ X.cell? ⟨w.heap.size + 1 + 1 + 1, 0, none⟩ = some (.bool nx) ∧ X.cell? ⟨w.heap.size + 1 + 1 + 1, 1, none⟩ = some (.slice sx mx cx) ∧
  EndE w w1 na nb aa ab xa xb ca cb p n1 s1 m1 c1 ng sg mg cg nx sx mx cx X
section
variable {w w1 X : World} {na nb : Bool} {aa ab : Option Addr} {xa xb : List Nat} {ca cb p : Nat} {n1 : Bool} {s1 : Option Addr} {m1 c1 : Nat} {ng : Bool} {sg : Option Addr} {mg cg : Nat} {nx : Bool} {sx : Option Addr} {mx cx : Nat} {ny : Bool} {sy : Option Addr} {my cy : Nat}
theorem el_of (h : EndE w w1 na nb aa ab xa xb ca cb p n1 s1 m1 c1 ng sg mg cg nx sx mx cx X) : EndL w w1 na nb aa ab xa xb ca cb p n1 s1 m1 c1 ng sg mg cg nx sx mx cx X := by
  obtain ⟨ny, sy, my, cy, h⟩ := h
  exact ⟨h.a.cell 0, h.a.cell 1, h.b.cell 0, h.b.cell 1, h.g.cell 0, h.g.cell 1, h.x.cell 0, h.x.cell 1, ny, sy, my, cy, h⟩
theorem EndE.keep (h : EndE w w1 na nb aa ab xa xb ca cb p n1 s1 m1 c1 ng sg mg cg nx sx mx cx X) : ∀ v xs, Reads .u32 w1 v xs → Reads .u32 X v xs := by
  obtain ⟨ny, sy, my, cy, h⟩ := h
  exact h.keep
theorem ee_step {X' : World} (h : EndE w w1 na nb aa ab xa xb ca cb p n1 s1 m1 c1 ng sg mg cg nx sx mx cx X) (hb : Below X.heap.size X X') : EndE w w1 na nb aa ab xa xb ca cb p n1 s1 m1 c1 ng sg mg cg nx sx mx cx X' := by
  obtain ⟨ny, sy, my, cy, h⟩ := h
  exact ⟨ny, sy, my, cy, en_step h hb⟩
theorem ee_y (h : EndE w w1 na nb aa ab xa xb ca cb p n1 s1 m1 c1 ng sg mg cg nx sx mx cx X) (u : Bool) (z : Option Addr) (m c : Nat) : EndE w w1 na nb aa ab xa xb ca cb p n1 s1 m1 c1 ng sg mg cg nx sx mx cx ((X.setCell ⟨w.heap.size + 1 + 1 + 1 + 1, 0, none⟩ (.bool u)).setCell ⟨w.heap.size + 1 + 1 + 1 + 1, 1, none⟩ (.slice z m c)) := by
  obtain ⟨ny, sy, my, cy, h⟩ := h
  exact ⟨u, z, m, c, en_y h u z m c⟩
theorem ee_cells (h : EndE w w1 na nb aa ab xa xb ca cb p n1 s1 m1 c1 ng sg mg cg nx sx mx cx X) : ∃ ny sy my cy, X.cell? ⟨w.heap.size + 1 + 1 + 1 + 1, 0, none⟩ = some (.bool ny) ∧ X.cell? ⟨w.heap.size + 1 + 1 + 1 + 1, 1, none⟩ = some (.slice sy my cy) ∧ X.frozen? ⟨w.heap.size + 1 + 1 + 1 + 1, 0, none⟩ = false ∧ X.frozen? ⟨w.heap.size + 1 + 1 + 1 + 1, 1, none⟩ = false := by
  obtain ⟨ny, sy, my, cy, h⟩ := h
  exact ⟨ny, sy, my, cy, h.y.cell 0, h.y.cell 1, h.y.frozen 0, h.y.frozen 1⟩
end
theorem IsInt.shape {W : World} {v : Value} {i : Int} (h : IsInt W v i) : ∃ n s m c, v = .agg #[.bool n, .slice s m c] := by
  obtain ⟨n, va, xs, rfl, hr, _⟩ := h
  obtain ⟨a, c, rfl, _⟩ := hr.form
  exact ⟨n, a, _, c, rfl⟩

@[reducible] def EndR (w w1 : World) (na nb : Bool) (aa ab : Option Addr) (xa xb : List Nat) (ca cb p : Nat) (n1 : Bool) (s1 : Option Addr) (m1 c1 : Nat) (ng : Bool) (sg : Option Addr) (mg cg : Nat) (nx : Bool) (sx : Option Addr) (mx cx : Nat) (ny : Bool) (sy : Option Addr) (my cy : Nat) (X : World) : Prop :=
  X.cell? ⟨w.heap.size + 1 + 1, 0, none⟩ = some (.bool ng) ∧ X.cell? ⟨w.heap.size + 1 + 1, 1, none⟩ = some (.slice sg mg cg) ∧ X.cell? ⟨w.heap.size + 1 + 1 + 1, 0, none⟩ = some (.bool nx) ∧ X.cell? ⟨w.heap.size + 1 + 1 + 1, 1, none⟩ = some (.slice sx mx cx) ∧
  X.cell? ⟨w.heap.size + 1 + 1 + 1 + 1, 0, none⟩ = some (.bool ny) ∧ X.cell? ⟨w.heap.size + 1 + 1 + 1 + 1, 1, none⟩ = some (.slice sy my cy) ∧ X.frozen? ⟨w.heap.size + 1 + 1, 0, none⟩ = false ∧ X.frozen? ⟨w.heap.size + 1 + 1, 1, none⟩ = false ∧
  X.frozen? ⟨w.heap.size + 1 + 1 + 1, 0, none⟩ = false ∧ X.frozen? ⟨w.heap.size + 1 + 1 + 1, 1, none⟩ = false ∧ X.frozen? ⟨w.heap.size + 1 + 1 + 1 + 1, 0, none⟩ = false ∧ X.frozen? ⟨w.heap.size + 1 + 1 + 1 + 1, 1, none⟩ = false ∧
  EndS w w1 na nb aa ab xa xb ca cb p n1 s1 m1 c1 ng sg mg cg nx sx mx cx ny sy my cy X
section
variable {w w1 X : World} {na nb : Bool} {aa ab : Option Addr} {xa xb : List Nat} {ca cb p : Nat} {n1 : Bool} {s1 : Option Addr} {m1 c1 : Nat} {ng : Bool} {sg : Option Addr} {mg cg : Nat} {nx : Bool} {sx : Option Addr} {mx cx : Nat} {ny : Bool} {sy : Option Addr} {my cy : Nat}
theorem er_of (h : EndS w w1 na nb aa ab xa xb ca cb p n1 s1 m1 c1 ng sg mg cg nx sx mx cx ny sy my cy X) : EndR w w1 na nb aa ab xa xb ca cb p n1 s1 m1 c1 ng sg mg cg nx sx mx cx ny sy my cy X := ⟨h.g.cell 0, h.g.cell 1, h.x.cell 0, h.x.cell 1, h.y.cell 0, h.y.cell 1, h.g.frozen 0, h.g.frozen 1, h.x.frozen 0, h.x.frozen 1, h.y.frozen 0, h.y.frozen 1, h⟩
theorem er_g (h : EndS w w1 na nb aa ab xa xb ca cb p n1 s1 m1 c1 ng sg mg cg nx sx mx cx ny sy my cy X) : EndR w w1 na nb aa ab xa xb ca cb p n1 s1 m1 c1 ng sg mg cg nx sx mx cx ny sy my cy ((X.setCell ⟨w.heap.size + 1 + 1, 0, none⟩ (.bool ng)).setCell ⟨w.heap.size + 1 + 1, 1, none⟩ (.slice sg mg cg)) := er_of (en_g h _ _ _ _)
theorem er_x (h : EndS w w1 na nb aa ab xa xb ca cb p n1 s1 m1 c1 ng sg mg cg nx sx mx cx ny sy my cy X) : EndR w w1 na nb aa ab xa xb ca cb p n1 s1 m1 c1 ng sg mg cg nx sx mx cx ny sy my cy ((X.setCell ⟨w.heap.size + 1 + 1 + 1, 0, none⟩ (.bool nx)).setCell ⟨w.heap.size + 1 + 1 + 1, 1, none⟩ (.slice sx mx cx)) := er_of (en_x h _ _ _ _)
theorem er_y (h : EndS w w1 na nb aa ab xa xb ca cb p n1 s1 m1 c1 ng sg mg cg nx sx mx cx ny sy my cy X) : EndR w w1 na nb aa ab xa xb ca cb p n1 s1 m1 c1 ng sg mg cg nx sx mx cx ny sy my cy ((X.setCell ⟨w.heap.size + 1 + 1 + 1 + 1, 0, none⟩ (.bool ny)).setCell ⟨w.heap.size + 1 + 1 + 1 + 1, 1, none⟩ (.slice sy my cy)) := er_of (en_y h _ _ _ _)
theorem er_gd (h : EndS w w1 na nb aa ab xa xb ca cb p n1 s1 m1 c1 ng sg mg cg nx sx mx cx ny sy my cy X.drew) : EndR w w1 na nb aa ab xa xb ca cb p n1 s1 m1 c1 ng sg mg cg nx sx mx cx ny sy my cy ((X.setCell ⟨w.heap.size + 1 + 1, 0, none⟩ (.bool ng)).setCell ⟨w.heap.size + 1 + 1, 1, none⟩ (.slice sg mg cg)).drew := er_g h
theorem er_xd (h : EndS w w1 na nb aa ab xa xb ca cb p n1 s1 m1 c1 ng sg mg cg nx sx mx cx ny sy my cy X.drew) : EndR w w1 na nb aa ab xa xb ca cb p n1 s1 m1 c1 ng sg mg cg nx sx mx cx ny sy my cy ((X.setCell ⟨w.heap.size + 1 + 1 + 1, 0, none⟩ (.bool nx)).setCell ⟨w.heap.size + 1 + 1 + 1, 1, none⟩ (.slice sx mx cx)).drew := er_x h
theorem er_yd (h : EndS w w1 na nb aa ab xa xb ca cb p n1 s1 m1 c1 ng sg mg cg nx sx mx cx ny sy my cy X.drew) : EndR w w1 na nb aa ab xa xb ca cb p n1 s1 m1 c1 ng sg mg cg nx sx mx cx ny sy my cy ((X.setCell ⟨w.heap.size + 1 + 1 + 1 + 1, 0, none⟩ (.bool ny)).setCell ⟨w.heap.size + 1 + 1 + 1 + 1, 1, none⟩ (.slice sy my cy)).drew := er_y h
end

set_option exponentiation.threshold 200000 in
set_option maxHeartbeats 8000000 in
set_option maxRecDepth 100000 in
theorem divisor_any (K : Nat) (hK : K ≤ 30) (hD : DivUpTo (3 * K + 3) K) (hK0 : 0 < K) (va vb : Value) (na nb : Bool) (xa xb : List Nat) (w : World) (ha : Reads .u32 w va xa) (hb : Reads .u32 w vb xb) (hka : Canon xa) (hkb : Canon xb) (la : xa.length ≤ K) (lb : xb.length ≤ K) (hna : (na && decide (0 < xa.length)) = na) (hnb : (nb && decide (0 < xb.length)) = nb) :
    Calls Tryz.prog 54 #[.agg #[.bool na, va], .agg #[.bool nb, vb]] w fun e w' => Below w.heap.size w w' ∧ ∃ g x y i j, e = .returned (.tuple #[g, x, y]) ∧ IsInt w' g (Nat.gcd (val xa) (val xb) : Nat) ∧ IsInt w' x i ∧ IsInt w' y j ∧
      (Nat.gcd (val xa) (val xb) : Int) = sgn na (val xa) * i + sgn nb (val xb) * j ∧ i.natAbs ≤ max 1 (val xb) ∧ j.natAbs ≤ max 1 (val xa) := by
  obtain ⟨aa, ca, rfl, hca, hma⟩ := ha.form
  obtain ⟨ab, cb, rfl, hcb, hmb⟩ := hb.form
  have q0 := ((((RowAt.new w 24 [.bool na, .slice aa xa.length ca]).alloc (.cells #[.bool nb, .slice ab xb.length cb] 24)).alloc (.cells #[.bool false, .slice none 0 0] 24)).alloc (.cells #[.bool false, .slice none 0 0] 24)).alloc (.cells #[.bool false, .slice none 0 0] 24)
  have q1 := (((RowAt.new (w.alloc (.cells #[.bool na, .slice aa xa.length ca] 24)) 24 [.bool nb, .slice ab xb.length cb]).alloc (.cells #[.bool false, .slice none 0 0] 24)).alloc (.cells #[.bool false, .slice none 0 0] 24)).alloc (.cells #[.bool false, .slice none 0 0] 24)
  have q2 := ((RowAt.new ((w.alloc (.cells #[.bool na, .slice aa xa.length ca] 24)).alloc (.cells #[.bool nb, .slice ab xb.length cb] 24)) 24 [.bool false, .slice none 0 0]).alloc (.cells #[.bool false, .slice none 0 0] 24)).alloc (.cells #[.bool false, .slice none 0 0] 24)
  have q3 := (RowAt.new (((w.alloc (.cells #[.bool na, .slice aa xa.length ca] 24)).alloc (.cells #[.bool nb, .slice ab xb.length cb] 24)).alloc (.cells #[.bool false, .slice none 0 0] 24)) 24 [.bool false, .slice none 0 0]).alloc (.cells #[.bool false, .slice none 0 0] 24)
  have q4 := RowAt.new ((((w.alloc (.cells #[.bool na, .slice aa xa.length ca] 24)).alloc (.cells #[.bool nb, .slice ab xb.length cb] 24)).alloc (.cells #[.bool false, .slice none 0 0] 24)).alloc (.cells #[.bool false, .slice none 0 0] 24)) 24 [.bool false, .slice none 0 0]
  have b5 := ((((((Below.refl w.heap.size w).alloc (Nat.le_refl _) (.cells #[.bool na, .slice aa xa.length ca] 24)).alloc (by simp) (.cells #[.bool nb, .slice ab xb.length cb] 24)).alloc (by simp; omega) (.cells #[.bool false, .slice none 0 0] 24)).alloc (by simp; omega) (.cells #[.bool false, .slice none 0 0] 24)).alloc (by simp; omega) (.cells #[.bool false, .slice none 0 0] 24))
  have s5 : (((((w.alloc (.cells #[.bool na, .slice aa xa.length ca] 24)).alloc (.cells #[.bool nb, .slice ab xb.length cb] 24)).alloc (.cells #[.bool false, .slice none 0 0] 24)).alloc (.cells #[.bool false, .slice none 0 0] 24)).alloc (.cells #[.bool false, .slice none 0 0] 24)).heap.size = w.heap.size + 5 := by simp
  simp only [World.size_alloc] at q1 q2 q3 q4
  have Q := Lib.hid (And.intro q0 (And.intro q1 (And.intro q2 (And.intro q3 (And.intro q4 (And.intro b5 s5))))))
  clear q0 q1 q2 q3 q4 b5 s5
  go_enter Tryz.func54, Tryz.ntmps54
  go_wp2_with fail
  go_quiet (fail)
  go_wp2_with (first | (go_at_call 80; refine (one_any _).mono ?_; rintro e w1 ⟨hbe1, v1, rfl, h1⟩; obtain ⟨a1, c1, rfl, hc1, hm1⟩ := h1.form) | (go_at_call 51; refine (signed_any _ _ _ _ _).mono ?_; rintro e w2 ⟨hbe2, rfl⟩))
  obtain ⟨q0, q1, q2, q3, q4, b5, s5⟩ := Q.out
  clear Q
  generalize hW5 : (((((w.alloc (.cells #[.bool na, .slice aa xa.length ca] 24)).alloc (.cells #[.bool nb, .slice ab xb.length cb] 24)).alloc (.cells #[.bool false, .slice none 0 0] 24)).alloc (.cells #[.bool false, .slice none 0 0] 24)).alloc (.cells #[.bool false, .slice none 0 0] 24)) = W5 at *
  have hbe1' : Below W5.heap.size W5 w1 := ⟨hbe1.os, hbe1.tape, hbe1.output, hbe1.size, hbe1.block⟩
  have b1 : Below w.heap.size w w1 := b5.trans (hbe1'.mono (by rw [s5]; omega))
  have b2 := b1.trans (hbe2.mono b1.size)
  have s1 : w.heap.size + 5 ≤ w1.heap.size := by
    have := hbe1'.size
    omega
  have s2 : w.heap.size + 5 ≤ w2.heap.size := Nat.le_trans s1 hbe2.size
  have b12 : Below W5.heap.size W5 w2 := hbe1'.trans (hbe2.mono hbe1'.size)
  have hS : GcdR w ((w2.alloc (.cells #[.bool false, .slice a1 1 c1] 24)).alloc (.cells #[.bool false, .slice none 0 0] 24)) na nb aa ab xa xb ca cb w2.heap.size false a1 1 c1 false none 0 0 ((w2.alloc (.cells #[.bool false, .slice a1 1 c1] 24)).alloc (.cells #[.bool false, .slice none 0 0] 24)) := by
    exact ⟨s2, ((q0.below b12).alloc _).alloc _, ((q1.below b12).alloc _).alloc _, ((q2.below b12).alloc _).alloc _, ((q3.below b12).alloc _).alloc _, ((q4.below b12).alloc _).alloc _, (RowAt.new w2 24 [.bool false, .slice a1 1 c1]).alloc _, RowAt.at (RowAt.new _ 24 [.bool false, .slice none 0 0]) (by simp), (b2.alloc b2.size _).alloc (by simp; have := b2.size; omega) _, fun _ _ h => h⟩
  have hi1 : IsInt ((w2.alloc (.cells #[.bool false, .slice a1 1 c1] 24)).alloc (.cells #[.bool false, .slice none 0 0] 24)) (.agg #[.bool false, .slice a1 1 c1]) 1 :=
    ⟨false, _, [1], rfl, (h1.below hbe2).below (((Below.refl _ _).alloc (Nat.le_refl _) _).alloc (by simp) _), ⟨by intro x hx; simp at hx; subst hx; decide, rfl⟩, rfl, rfl⟩
  have hi0 : IsInt ((w2.alloc (.cells #[.bool false, .slice a1 1 c1] 24)).alloc (.cells #[.bool false, .slice none 0 0] 24)) (.agg #[.bool false, .slice none 0 0]) 0 :=
    ⟨false, _, [], rfl, Reads.nil _ _, canon_nil, rfl, rfl⟩
  have hra := ha.below hS.below
  have hrb := hb.below hS.below
  generalize ((w2.alloc (.cells #[.bool false, .slice a1 1 c1] 24)).alloc (.cells #[.bool false, .slice none 0 0] 24)) = W0 at *
  generalize w2.heap.size = p at *
  clear q0 q1 q2 q3 q4 b5 s5 hW5 b1 b2 s1 s2 b12 hbe1 hbe1' hbe2 h1
  go_loopw [7, 8] (fun v u W => (∃ s n c s' n' c', v = .slice s n c ∧ u = .slice s' n' c') ∧ ∃ ls ns F G H I n1 s1 m1 c1 n2 s2 m2 c2, Reads .u32 W v ls ∧ Reads .u32 W u ns ∧ Canon ls ∧ Canon ns ∧ GcdInv (val xa) (val xb) (val ls) (val ns) F G H I ∧ GcdR w W na nb aa ab xa xb ca cb p n1 s1 m1 c1 n2 s2 m2 c2 W ∧ IsInt W (.agg #[.bool n1, .slice s1 m1 c1]) F ∧ IsInt W (.agg #[.bool n2, .slice s2 m2 c2]) G) (fun _ u W => readVal u W)
  case atStart => exact ⟨⟨_, _, _, _, _, _, rfl, rfl⟩, xa, xb, 1, 0, 0, 1, _, _, _, _, _, _, _, _, hra, hrb, hka, hkb, GcdInv.start _ _, hS, hi1, hi0⟩
  case round =>
    obtain ⟨⟨s, n, c, s', n', c', rfl, rfl⟩, ls, ns, F, G, H, I, n1, s1, m1, c1, n2, s2, m2, c2, hl, hn, hkl, hkn, hinv, hS, hF, hG⟩ := hrel
    obtain ⟨s_, c_, hsl, -, -⟩ := hl.form
    simp only [Value.slice.injEq] at hsl
    obtain ⟨rfl, rfl, rfl⟩ := hsl
    obtain ⟨s_, c_, hsl, -, -⟩ := hn.form
    simp only [Value.slice.injEq] at hsl
    obtain ⟨rfl, rfl, rfl⟩ := hsl
    by_cases hz : ns.length = 0
    · have hL0 : ns = [] := List.eq_nil_of_length_eq_zero hz
      subst hL0
      have hgl := hinv.last
      have HI := Lib.hid (And.intro hinv hgl)
      have hE : EndS w wr na nb aa ab xa xb ca cb p n1 s1 m1 c1 false none 0 0 false none 0 0 false none 0 0 wr := ⟨hS.low, hS.a, hS.b, hS.g, hS.x, hS.y, hS.f, hS.below, fun _ _ h => h⟩
      have hll : ls.length ≤ 1000000 := by
        have := canon_length_le (k := K) hkl (Nat.lt_of_le_of_lt hinv.bL (by
          have h1 := Nat.lt_of_lt_of_le (val_lt hka.1) (Nat.pow_le_pow_right B32_pos la)
          have h2 := Nat.lt_of_lt_of_le (val_lt hkb.1) (Nat.pow_le_pow_right B32_pos lb)
          omega))
        omega
      have hcl := clone_any _ ls wr hl hll
      obtain ⟨nf, vf, fs, hfe, hfr, hfc, hfn, hfi⟩ := hF
      simp only [Value.agg.injEq, Array.mk.injEq, List.cons.injEq, Value.bool.injEq, and_true] at hfe
      obtain ⟨rfl, rfl⟩ := hfe
      obtain ⟨s_, c_, hsl, -, -⟩ := hfr.form
      simp only [Value.slice.injEq] at hsl
      obtain ⟨rfl, rfl, rfl⟩ := hsl
      have hraE := ha.below hS.below
      have hrbE := hb.below hS.below
      clear hS hinv hgl hG hn hz
      have tok1 : True := trivial
      have HF := Lib.hid hfi
      have HN := Lib.hid hfn
      have HNA := Lib.hid (And.intro hna hnb)
      clear hfi hfn hna hnb
      go_wp2_with (first
        | (go_at_call 87; refine hcl.mono ?_; rintro e w4 ⟨hbe4, v4, rfl, h4⟩; obtain ⟨a4, c4, rfl, hc4, hm4⟩ := h4.form; clear hcl)
        | (go_at_call 51; have _t := tok1; refine (signed_any _ _ _ _ _).mono ?_; rintro e w5 ⟨hbe5, rfl⟩; have hE5 := en_keep (en_step (en_step hE hbe4) hbe5) (fun v xs (h : Reads .u32 w5 v xs) => h); obtain ⟨-, -, -, -, e5, e6, -, -, -, -, -, -, e13, -, -, -⟩ := en_of hE5; have hE6 := en_g hE5 false a4 ls.length c4; obtain ⟨d1, d2, -, -, -, -, -, -, -, -, d11, d12, -, -, -, -⟩ := en_of hE6; clear tok1 _t)
        | (go_at_call 51; refine (signed_any _ _ _ _ _).mono ?_; rintro e w7 ⟨hbe7, rfl⟩; have hE7 := en_step hE6 hbe7; obtain ⟨-, -, -, -, -, -, e7, e8, -, -, -, -, -, e14, -, -⟩ := en_of hE7; have hE8 := en_x hE7 (!(n1 == na) && decide (0 < fs.length)) s1 fs.length c1; obtain ⟨-, -, -, f4, -, -, -, -, -, -, -, -, -, -, -, -⟩ := en_of hE8))
      all_goals
        have hg8 := hE8.keep _ _ (h4.below hbe5)
        have hx8 := hE8.keep _ _ ((hfr.below hbe4).below hbe5)
        have ha8 := hE8.keep _ _ ((hraE.below hbe4).below hbe5)
        have hb8 := hE8.keep _ _ ((hrbE.below hbe4).below hbe5)
        clear hE hE5 hE6 hE7 d1 d2 d11 d12 e5 e6 e7 e8 e13 e14 f4 hbe4 hbe5 hbe7 h4 hfr hraE hrbE
        generalize ((w7.setCell ⟨w.heap.size + 1 + 1 + 1, 0, none⟩ (.bool (!(n1 == na) && decide (0 < fs.length)))).setCell ⟨w.heap.size + 1 + 1 + 1, 1, none⟩ (.slice s1 fs.length c1)) = W8 at *
        have hxI : IsInt W8 (.agg #[.bool (!(n1 == na) && decide (0 < fs.length)), .slice s1 fs.length c1]) (sgn (!(n1 == na)) (val fs)) := isInt_mk _ hx8 hfc rfl
        generalize (!(n1 == na) && decide (0 < fs.length)) = nx at *
      · have hxbp : 0 < xb.length := by assumption
        have hBp : 0 < val xb := (canon_pos_iff hkb).2 hxbp
        obtain ⟨e1, hend, -⟩ := gcd_end HI.out.1 na nb n1 (val fs) HF.out
        have hend := hend hBp
        have hE9 := en_keep hE8 (fun v xs (h : Reads .u32 W8 v xs) => h)
        have hgI : IsInt W8 (.agg #[.bool false, .slice a4 ls.length c4]) ((val ls : Nat) : Int) := ⟨false, _, ls, rfl, hg8, hkl, rfl, rfl⟩
        have haI : IsInt W8 (.agg #[.bool na, .slice aa xa.length ca]) (sgn na (val xa)) := ⟨na, _, xa, rfl, ha8, hka, HNA.out.1, rfl⟩
        have hbI : IsInt W8 (.agg #[.bool nb, .slice ab xb.length cb]) (sgn nb (val xb)) := ⟨nb, _, xb, rfl, hb8, hkb, HNA.out.2, rfl⟩
        have hA : max (val xa) (val xb) < B32 ^ K := by
          have h1 := Nat.lt_of_lt_of_le (val_lt hka.1) (Nat.pow_le_pow_right B32_pos la)
          have h2 := Nat.lt_of_lt_of_le (val_lt hkb.1) (Nat.pow_le_pow_right B32_pos lb)
          omega
        have h1K : 1 < B32 ^ K := Nat.one_lt_pow (by omega) (by decide)
        have hLb : (val ls) < B32 ^ K := Nat.lt_of_le_of_lt HI.out.1.bL hA
        have hXb : (sgn (!(n1 == na)) (val fs)).natAbs < B32 ^ K := by have := hend.bx; omega
        have hAb : (sgn na (val xa)).natAbs < B32 ^ K := by rw [sgn_natAbs]; omega
        have hprod := fun W (hk : ∀ v xs, Reads .u32 W8 v xs → Reads .u32 W v xs) => product_le (.agg #[.bool na, .slice aa xa.length ca]) (.agg #[.bool nx, .slice s1 fs.length c1]) _ _ K K W (haI.keep hk) (hxI.keep hk) (by omega) (by omega) hAb hXb (.inr hXb)
        have h2K : B32 ^ K * B32 ^ K = B32 ^ (2 * K) := by rw [← Nat.pow_add]; congr 1; omega
        have hPb : (sgn na (val xa) * sgn (!(n1 == na)) (val fs)).natAbs < B32 ^ (2 * K) := by
          rw [Int.natAbs_mul, ← h2K]
          exact Nat.mul_lt_mul'' hAb hXb
        have hLb2 : ((val ls : Nat) : Int).natAbs < B32 ^ (2 * K) := by
          rw [Int.natAbs_natCast]
          exact Nat.lt_of_lt_of_le hLb (Nat.pow_le_pow_right B32_pos (by omega))
        have hR1b : (((val ls : Nat) : Int) - sgn na (val xa) * sgn (!(n1 == na)) (val fs)).natAbs < B32 ^ (2 * K + 1) := by
          have h1 := Int.natAbs_sub_le ((val ls : Nat) : Int) (sgn na (val xa) * sgn (!(n1 == na)) (val fs))
          have h2 : B32 ^ (2 * K + 1) = B32 * B32 ^ (2 * K) := by rw [Nat.pow_succ, Nat.mul_comm]
          have h3 : 2 ≤ B32 := by decide
          have h4 : 2 * B32 ^ (2 * K) ≤ B32 * B32 ^ (2 * K) := Nat.mul_le_mul_right _ h3
          omega
        have hdiff := fun (v : Value) W (hv : IsInt W v (sgn na (val xa) * sgn (!(n1 == na)) (val fs))) (hk : ∀ v xs, Reads .u32 W8 v xs → Reads .u32 W v xs) => difference_any (.agg #[.bool false, .slice a4 ls.length c4]) v _ _ (2 * K) W (hgI.keep hk) hv (by omega) hLb2 hPb
        have hBb : (sgn nb (val xb)).natAbs = val xb := sgn_natAbs _ _
        have hB0 : sgn nb (val xb) ≠ 0 := by intro h; rw [h] at hBb; simp at hBb; omega
        have hfl := fun (v : Value) W (hv : IsInt W v (((val ls : Nat) : Int) - sgn na (val xa) * sgn (!(n1 == na)) (val fs))) (hk : ∀ v xs, Reads .u32 W8 v xs → Reads .u32 W v xs) => floored_any v (.agg #[.bool nb, .slice ab xb.length cb]) _ _ W hv (hbI.keep hk)
          (Nat.lt_of_lt_of_le hR1b (Nat.pow_le_pow_right B32_pos (by omega))) (by rw [hBb]; exact Nat.lt_of_lt_of_le (show val xb < B32 ^ K by omega) (Nat.pow_le_pow_right B32_pos (by omega))) hB0
          (fun va vb ya yb hcy hcz hvy hvz hry hrz W' hW' => hD va vb ya yb W' (hry.below hW') (hrz.below hW') hcy hcz (by have := canon_length_le hcy (by rw [hvy]; exact hR1b); omega) (canon_length_le hcz (by rw [hvz, hBb]; omega)) (by rw [hvz, hBb]; exact hBp))
        rw [e1] at hfl
        rw [e1] at hdiff
        have HP := Lib.hid hprod
        have HDF := Lib.hid hdiff
        have HFL := Lib.hid hfl
        have HEND := Lib.hid hend
        generalize hX : sgn (!(n1 == na)) (val fs) = X at *
        generalize hY : ((val xb : Int) * H).fdiv (sgn nb (val xb)) = Y at *
        generalize hM : sgn na (val xa) * X = M at *
        generalize hQ : (val xb : Int) * H = Q at *
        generalize hAV : sgn na (val xa) = AV at *
        generalize hBV : sgn nb (val xb) = BV at *
        clear hX hM hQ hprod hdiff hfl hend e1 hA h1K hLb hXb hAb h2K hPb hLb2 hR1b hBb hB0 hgI haI hbI hD hll
        have hD9 := Lib.hid (el_of ⟨_, _, _, _, en_drew hE9⟩)
        obtain ⟨q1, q2, q3, q4, q5, q6, q7, q8, -⟩ := el_of ⟨_, _, _, _, hE9⟩
        clear hE8 hx8 ha8 hb8 hi1 hi0 hra hrb hl
        have HG8 := Lib.hid (And.intro hg8 hxI)
        clear hg8 hxI
        go_region_held3 (fun X => X.cell? ⟨w.heap.size, 0, none⟩ = some (.bool na) ∧ X.cell? ⟨w.heap.size, 1, none⟩ = some (.slice aa xa.length ca) ∧ X.cell? ⟨w.heap.size + 1, 0, none⟩ = some (.bool nb) ∧ X.cell? ⟨w.heap.size + 1, 1, none⟩ = some (.slice ab xb.length cb) ∧
          X.cell? ⟨w.heap.size + 1 + 1, 0, none⟩ = some (.bool false) ∧ X.cell? ⟨w.heap.size + 1 + 1, 1, none⟩ = some (.slice a4 ls.length c4) ∧ X.cell? ⟨w.heap.size + 1 + 1 + 1, 0, none⟩ = some (.bool nx) ∧ X.cell? ⟨w.heap.size + 1 + 1 + 1, 1, none⟩ = some (.slice s1 fs.length c1) ∧
          EndE w W8 na nb aa ab xa xb ca cb p n1 s1 fs.length c1 false a4 ls.length c4 nx s1 fs.length c1 X)
          (first | exact hD9.out | (go_split_ands; exact el_of (ee_step (by assumption) hbe5)) | (go_split_ands; exact el_of (ee_step (by assumption) hbe6)) | (go_split_ands; exact el_of (ee_step (by assumption) hbe9)) | (go_split_ands; exact el_of (ee_y hE10 _ _ _ _)))
          (first
            | (go_at_call 85; go_split_ands; refine (HP.out _ (EndE.keep (by assumption))).mono ?_; rintro e w5' ⟨hbe5, v5, rfl, hi5⟩; obtain ⟨n5, s5, m5, c5, rfl⟩ := hi5.shape)
            | (go_at_call 86; go_split_ands; refine (HDF.out _ _ hi5 (EndE.keep (by assumption))).mono ?_; rintro e w6 ⟨hbe6, v6, rfl, hi6⟩; obtain ⟨n6, s6, m6, c6, rfl⟩ := hi6.shape)
            | (go_at_call 46; go_split_ands; refine (HFL.out _ _ hi6 (EndE.keep (by assumption))).mono ?_; rintro e w9 ⟨hbe9, v9, r9, rfl, hi9, hr9⟩; obtain ⟨n9, s9, m9, c9, rfl⟩ := hi9.shape; have hE10 := ee_step (by assumption) hbe9; obtain ⟨yn, ys, ym, yc, y1, y2, y3, y4⟩ := ee_cells hE10))
        obtain ⟨yn', ys', ym', yc', hS9⟩ := hE10
        have hkp9 := fun v xs (h : Reads .u32 w9 v xs) => two_kept h y1 y2 (.bool n9) (.slice s9 m9 c9)
        have hyI := hi9.keep hkp9
        have hE11 := en_y hS9 n9 s9 m9 c9
        clear hE9 hD9 q1 q2 q3 q4 q5 q6 q7 q8 hS9 hkp9 hi9 hr9 y1 y2 y3 y4 hi6 hi5 hbe5 hbe6 hbe9
        generalize ((w9.setCell ⟨w.heap.size + 1 + 1 + 1 + 1, 0, none⟩ (.bool n9)).setCell ⟨w.heap.size + 1 + 1 + 1 + 1, 1, none⟩ (.slice s9 m9 c9)) = W10 at *
        obtain ⟨q1, q2, q3, q4, q5, q6, o1, o2, o3, o4, o5, o6, -⟩ := er_of hE11
        go_wp2_with fail
        go_region
        have hE12 := en_drew (en_y (en_x (en_g (en_keep hE11 (fun v xs (h : Reads .u32 W10 v xs) => h)) false a4 ls.length c4) nx s1 fs.length c1) n9 s9 m9 c9)
        obtain ⟨t1, t2, t3, t4, t5, t6, -⟩ := er_of hE12
        clear q1 q2 q3 q4 q5 q6 o1 o2 o3 o4 o5 o6
        go_wp2
        exact bodyPost_ret (v := .tuple #[.agg #[.bool false, .slice a4 ls.length c4], .agg #[.bool nx, .slice s1 fs.length c1], .agg #[.bool n9, .slice s9 m9 c9]]) (by simp [results, Tryz.results54, go_sem, loadCellsFrom, t1, t2, t3, t4, t5, t6]) rfl
          ⟨hE12.below, _, _, _, X, Y, rfl, ⟨false, _, ls, rfl, hE12.keep _ _ (hE11.keep _ _ HG8.out.1), hkl, rfl, by rw [← HI.out.2]; rfl⟩, (HG8.out.2.keep hE11.keep).keep hE12.keep, hyI.keep hE12.keep, HEND.out.eq, HEND.out.bx, HEND.out.by'⟩
      · have hE9 := en_keep hE8 (fun v xs (h : Reads .u32 W8 v xs) => h)
        have hD9 := Lib.hid (er_of (en_drew hE9))
        obtain ⟨q1, q2, q3, q4, q5, q6, o1, o2, o3, o4, o5, o6, -⟩ := er_of hE9
        clear hE8
        clear hi1 hi0 hra hrb hl
        go_region
        have hE12 := en_drew (en_y (en_x (en_g hE9 false a4 ls.length c4) nx s1 fs.length c1) false none 0 0)
        obtain ⟨t1, t2, t3, t4, t5, t6, -⟩ := er_of hE12
        clear q1 q2 q3 q4 q5 q6 o1 o2 o3 o4 o5 o6 hD9
        go_wp2
        have hxb0 : xb = [] := List.eq_nil_of_length_eq_zero (by omega)
        have hend := (gcd_end HI.out.1 na nb n1 (val fs) HF.out).2.2 (by rw [hxb0]; rfl)
        exact bodyPost_ret (v := .tuple #[.agg #[.bool false, .slice a4 ls.length c4], .agg #[.bool nx, .slice s1 fs.length c1], .agg #[.bool false, .slice none 0 0]]) (by simp [results, Tryz.results54, go_sem, loadCellsFrom, t1, t2, t3, t4, t5, t6]) rfl
          ⟨hE12.below, _, _, _, sgn (!(n1 == na)) (val fs), 0, rfl, ⟨false, _, ls, rfl, hE12.keep _ _ hg8, hkl, rfl, by rw [← HI.out.2]; rfl⟩, hxI.keep hE12.keep, ⟨false, _, [], rfl, Reads.nil _ _, canon_nil, rfl, rfl⟩, hend.eq, hend.bx, hend.by'⟩
    · have hz' : 0 < ns.length := by omega
      have hnpos : 0 < val ns := (canon_pos_iff hkn).2 hz'
      have hA : max (val xa) (val xb) < B32 ^ K := by
        have h1 := Nat.lt_of_lt_of_le (val_lt hka.1) (Nat.pow_le_pow_right B32_pos la)
        have h2 := Nat.lt_of_lt_of_le (val_lt hkb.1) (Nat.pow_le_pow_right B32_pos lb)
        omega
      have hBK : val xb < B32 ^ K := by omega
      have h1K : 1 < B32 ^ K := Nat.one_lt_pow (by omega) (by decide)
      have lls : ls.length ≤ K := canon_length_le hkl (Nat.lt_of_le_of_lt hinv.bL hA)
      have lns : ns.length ≤ K := canon_length_le hkn (Nat.lt_of_le_of_lt hinv.bN hA)
      have hst := hinv.step hnpos
      have hcross : (F - ((val ls / val ns : Nat) : Int) * G).natAbs = F.natAbs + (val ls / val ns) * G.natAbs := natAbs_cross _ (by rcases hinv.sg with h | h <;> omega)
      have hqG : (((val ls / val ns : Nat) : Int) * G).natAbs < B32 ^ K := by
        rw [Int.natAbs_mul, Int.natAbs_natCast]
        have := hst.bG
        omega
      have hFK : F.natAbs < B32 ^ K := by have := hinv.bF; omega
      have hGK : G.natAbs < B32 ^ K := by have := hinv.bG; omega
      have HI := Lib.hid hinv
      have HS := Lib.hid hst
      have H1 := Lib.hid (And.intro hqG (And.intro hFK hGK))
      have HNP := Lib.hid hnpos
      clear hinv hst hqG hFK hGK hcross h1K hBK hA hnpos
      have hdv := hD _ _ ls ns wr hl hn hkl hkn (by omega) lns HNP.out
      go_wp2_with (go_at_call 78; refine hdv.mono ?_; rintro e w4 ⟨hbe4, v4, r4, qs, rs, rfl, h4, h4r, k4, k4r, e4, e4r⟩; obtain ⟨a4, c4, rfl, hc4, hm4⟩ := h4.form; obtain ⟨a5, c5, rfl, hc5, hm5⟩ := h4r.form; clear hdv)
      have hF4 := hF.below hbe4
      have hG4 := hG.below hbe4
      have hn4 := hn.below hbe4
      have hR4 := gr_keep (gr_step hS hbe4).2.2.2.2 (fun v xs (h : Reads .u32 w4 v xs) => h)
      have hrv := readVal_eq hn
      clear hS hF hG hl hn hbe4
      have hD4 := Lib.hid (gr_drew hR4)
      obtain ⟨d1, d2, d3, d4, -⟩ := gr_of hR4
      have hp4 : p + 1 < w4.heap.size := hR4.h.lt
      obtain ⟨Q, hQ⟩ : ∃ Q, val ls / val ns = Q := ⟨_, rfl⟩
      have hqi : IsInt w4 (.agg #[.bool false, .slice a4 qs.length c4]) ((Q : Nat) : Int) := ⟨false, _, qs, rfl, h4, k4, rfl, by rw [e4, hQ]; rfl⟩
      have hqb : ((Q : Nat) : Int).natAbs < B32 ^ K := by
        rw [Int.natAbs_natCast, ← hQ, ← e4]
        exact Nat.lt_of_lt_of_le (val_lt k4.1) (Nat.pow_le_pow_right B32_pos (Nat.le_trans (canon_le_length hkl k4 (by rw [e4]; exact Nat.div_le_self _ _)) lls))
      have hgb := H1.out.2.2
      have HB := Lib.hid (And.intro hqb hgb)
      clear hqb hgb hR4
      go_cut [13] from 21 to 39 (fun v13 wx => ∃ q n6 s6 m6 c6, v13 = .pointer (some ⟨q, 0, none⟩) ∧ p + 1 < q ∧ RowAt wx q 24 [.bool n6, .slice s6 m6 c6] ∧ IsInt wx (.agg #[.bool n6, .slice s6 m6 c6]) ((Q : Int) * G) ∧ GcdR w w4 na nb aa ab xa xb ca cb p n1 s1 m1 c1 n2 s2 m2 c2 wx)
      case first =>
        go_region_held3 (fun X => X.cell? ⟨p, 0, none⟩ = some (.bool n1) ∧ X.cell? ⟨p, 1, none⟩ = some (.slice s1 m1 c1) ∧ X.cell? ⟨p + 1, 0, none⟩ = some (.bool n2) ∧ X.cell? ⟨p + 1, 1, none⟩ = some (.slice s2 m2 c2) ∧ GcdR w w4 na nb aa ab xa xb ca cb p n1 s1 m1 c1 n2 s2 m2 c2 X)
          (first
            | exact hD4.out
            | (go_split_ands; exact gr_step (by assumption) hbe5)
            | (go_split_ands; exact gr_step (by assumption) hbe6)
            | (go_split_ands; exact gr_step (by assumption) ((Below.refl _ _).alloc (Nat.le_refl _) _))
            | (go_split_ands; exact gr_step hR6 ((Below.refl _ _).alloc (Nat.le_refl _) _))
            | (go_split_ands; exact gr_other hR6 hrow6 hR5.h.lt _ _ _ _)
            | (go_split_ands; exact gr_other hR6 hrow6 hp4 _ _ _ _))
          (first
            | (go_at_call 51; go_split_ands; refine (signed_any _ _ _ _ _).mono ?_; rintro e w5 ⟨hbe5, rfl⟩; have hR5 := (gr_step (by assumption) hbe5).2.2.2.2; (try have hrow5 : RowAt w5 w4.heap.size 24 [.bool false, .slice none 0 0] := RowAt.below (RowAt.new w4.drew 24 [.bool false, .slice none 0 0]) hbe5))
            | (go_at_call 85; go_split_ands; refine (product_le _ _ _ _ K K _ (hqi.keep (GcdR.keep (by assumption))) (hG4.keep (GcdR.keep (by assumption))) (by omega) (by omega) HB.out.1 HB.out.2 (.inr H1.out.2.2)).mono ?_; rintro e w6 ⟨hbe6, v6, rfl, n6, z6, y6, rfl, hr6, hk6, hn6, hi6⟩; obtain ⟨s6, c6, rfl, hc6, hm6⟩ := hr6.form; (first | have hrow6 := RowAt.below (RowAt.new _ 24 [.bool false, .slice none 0 0]) hbe6 | have hrow6 := hrow5.below hbe6 | skip); (try (have cq1 := hrow6.cell 0; have cq2 := hrow6.cell 1; have cq3 := hrow6.frozen 0; have cq4 := hrow6.frozen 1; simp only [List.getElem?_cons_zero, List.getElem?_cons_succ] at cq1 cq2)); have hR6 := (gr_step (by assumption) hbe6).2.2.2.2))
        all_goals rename_i hT
        all_goals go_wp2_with fail
        all_goals go_meet
        all_goals first
          | exact ⟨_, _, _, _, _, rfl, hR6.h.lt, RowAt.new w6 24 [.bool n6, .slice s6 y6.length c6], ⟨n6, _, y6, rfl, hr6.below ((Below.refl _ _).alloc (Nat.le_refl _) _), hk6, hn6, hi6⟩, hT.2.2.2.2⟩
          | exact ⟨_, _, _, _, _, rfl, hR5.h.lt, (hrow6.set 0 (.bool n6)).set 1 (.slice s6 y6.length c6), ⟨n6, _, y6, rfl, two_kept hr6 cq1 cq2 _ _, hk6, hn6, hi6⟩, hT.2.2.2.2⟩
          | exact ⟨_, _, _, _, _, rfl, hp4, (hrow6.set 0 (.bool n6)).set 1 (.slice s6 y6.length c6), ⟨n6, _, y6, rfl, two_kept hr6 cq1 cq2 _ _, hk6, hn6, hi6⟩, hT.2.2.2.2⟩
      case rest =>
        obtain ⟨q, n6, s6, m6, c6, rfl, hpq, hrow, hless, hR⟩ := hcut
        have hF7 := hF4.keep hR.keep
        have hG7 := hG4.keep hR.keep
        have hn7 := hR.keep _ _ hn4
        have hr7 := hR.keep _ _ h4r
        have k1 := hR.f.cell 0
        have k2 := hR.f.cell 1
        have k3 := hR.h.cell 0
        have k4' := hR.h.cell 1
        have k5 := hrow.cell 0
        have k6 := hrow.cell 1
        have z1 := hR.f.frozen 0
        have z2 := hR.f.frozen 1
        have z3 := hR.h.frozen 0
        have z4 := hR.h.frozen 1
        simp only [List.getElem?_cons_zero, List.getElem?_cons_succ] at k1 k2 k3 k4' k5 k6
        have hdf := difference_any _ _ F ((Q : Int) * G) K wc.drew hF7 hless (by omega) H1.out.2.1 (by rw [← hQ]; exact H1.out.1)
        go_wp2_with fail
        go_region_with (go_at_call 86; refine hdf.mono ?_; rintro e w9 ⟨hbe9, v9, rfl, n9, z9, y9, rfl, hr9, hk9, hn9, hi9⟩; obtain ⟨s9, c9, rfl, hc9, hm9⟩ := hr9.form; have hR9 := (gr_step (gr_drew hR).2.2.2.2 hbe9).2.2.2.2; have j1 := hR9.f.cell 0; have j2 := hR9.f.cell 1; have j3 := hR9.h.cell 0; have j4 := hR9.h.cell 1; have j5 := hR9.f.frozen 0; have j6 := hR9.f.frozen 1; have j7 := hR9.h.frozen 0; have j8 := hR9.h.frozen 1; simp only [List.getElem?_cons_zero, List.getElem?_cons_succ] at j1 j2 j3 j4)
        all_goals
          have hst := HS.out
          rw [hQ, ← e4r] at hst
          have hlt : val rs < val ns := by rw [e4r]; exact Nat.mod_lt _ HNP.out
          obtain ⟨hRn, hkp⟩ := gr_swap hR9 n9 s9 y9.length c9
          have hrs' := hkp _ _ (hR9.keep _ _ h4r)
          have hns' := hkp _ _ (hR9.keep _ _ hn4)
          have hG' := (hG4.keep hR9.keep).keep hkp
          have hN' : IsInt _ (.agg #[.bool n9, .slice s9 y9.length c9]) (F - (Q : Int) * G) := ⟨n9, _, y9, rfl, hkp _ _ hr9, hk9, hn9, hi9⟩
          clear HS HI H1 HB hR9 hr9 j1 j2 j3 j4 j5 j6 j7 j8
          go_wp2_with fail
          exact ⟨⟨⟨_, _, _, _, _, _, rfl, rfl⟩, ns, rs, G, F - (Q : Int) * G, I, H - (Q : Int) * I, n2, s2, m2, c2, n9, s9, y9.length, c9, hns', hrs', hkn, k4r, hst, hRn, hG', hN'⟩, by rw [hrv, readVal_eq hrs']; exact hlt⟩
end Go.Proofs.YtlghjfpkfdnfoaaGreatDoor

/- zermeloref01: made, Of -/
namespace Go.Proofs.YtlghjfpkfdnfoaaGreatDoor
open Go Go.RowKit Go.Shelf

set_option maxHeartbeats 2000000 in
set_option maxRecDepth 100000 in
theorem made_any (neg : Bool) (v : Value) (xs : List Nat) (w : World) (h : Reads .u32 w v xs) (hl : Limbs xs) (hn : xs.length ≤ 1000000) :
    Calls Tryz.prog 47 #[.bool neg, v] w fun e w' => Below w.heap.size w w' ∧ ∃ v', e = .returned v' ∧ IsInt w' v' (sgn neg (val xs)) := by
  obtain ⟨a, c, rfl, hc, hm⟩ := h.form
  unfold maxLen at hm
  obtain ⟨inf, hi, hzz⟩ := Option.map_eq_some_iff.1 info_limb
  simp only [Prod.mk.injEq] at hzz
  obtain ⟨hz0, hz1, hz2⟩ := hzz
  have HZ := Lib.hid (And.intro hz0 (And.intro hz1 hz2))
  clear hz0 hz1 hz2
  have b0 := (Below.refl w.heap.size w).alloc (Nat.le_refl _) (.cells #[.bool false, .slice none 0 0] 24)
  have r0 := RowAt.new w 24 [.bool false, .slice none 0 0]
  have h0 := h.below b0
  obtain ⟨W0, hW0⟩ : ∃ W0, w.alloc (.cells #[.bool false, .slice none 0 0] 24) = W0 := ⟨_, rfl⟩
  have hs0 : W0.heap.size = w.heap.size + 1 := by rw [← hW0]; simp
  rw [hW0] at b0 r0 h0
  have HW := Lib.hid (And.intro hW0 hs0)
  have hst : ∀ (x : Addr) (W : World), (storeCells x []).run Tryz.prog W = .ok () W := fun x W => by simp [storeCells]
  have hrun0 : ∀ (x : Addr) (W : World), (loadCellsFrom x 0 0 #[]).run Tryz.prog W = .ok #[] W := fun x W => by simp [loadCellsFrom]
  clear hW0 hs0
  go_enter Tryz.func47, Tryz.ntmps47
  go_wp2
  rw [HW.out.1]
  go_loop [5] (fun i => ∃ k : Nat, i = .int .i64 k ∧ k ≤ xs.length ∧ trimmed (xs.take k) = trimmed xs) (fun i => (intOf i).toNat)
  case atStart => exact ⟨xs.length, rfl, Nat.le_refl _, by simp⟩
  case round =>
    obtain ⟨k, rfl, hk, htk⟩ := hrel
    by_cases hk0 : k = 0
    · subst hk0
      have ht : trimmed xs = [] := by rw [← htk]; rfl
      have hs1 := HW.out.2
      have HT := Lib.hid (And.intro ht hs1)
      have rr := r0.alloc (.cells #[] 52)
      have o1 := rr.cell 0
      have o2 := rr.cell 1
      have o3 := rr.frozen 0
      have o4 := rr.frozen 1
      simp only [List.getElem?_cons_zero, List.getElem?_cons_succ] at o1 o2
      have hng : (neg && decide ((0 : Int) < 0)) = false := by simp
      clear ht hs1 htk
      cases a
      all_goals cases neg
      all_goals go_wp2
      all_goals
        obtain ⟨s1, s2⟩ := two_reads (b := w.heap.size) o1 o2 (.bool false) (.slice (some ⟨W0.heap.size, 0, none⟩) 0 0)
        refine bodyPost_ret (v := .agg #[.bool false, .slice (some ⟨W0.heap.size, 0, none⟩) 0 0]) (by simp [results, Tryz.results47, go_sem, loadCellsFrom, s1, s2]) rfl ⟨?_, _, rfl, ⟨false, _, [], rfl, ⟨_, 0, rfl, by simp, by simp [maxLen], fun j hj => by simp at hj⟩, canon_nil, rfl, ?_⟩⟩
        · exact ((b0.alloc (by have := HW.out.2; omega) _).setCell (Nat.le_refl _) _).setCell (Nat.le_refl _) _
        · rw [← val_trimmed, HT.out.1]; first | done | rfl
    · have HA := Lib.hid h0
      have hlast := h0.cell (k - 1) (by omega)
      have hix := fun W => h0.index und_limbs size_limb (P := Tryz.prog) (k - 1) .i64 W (by omega)
      rw [show ((k - 1 : Nat) : Int) = (k : Int) - 1 by omega] at hix
      obtain ⟨top, hT⟩ : ∃ top, xs[k - 1]?.getD 0 = top := ⟨_, rfl⟩
      rw [hT] at hlast
      have hkd : ((0 : Int) < (k : Int)) := by omega
      have htk1 : trimmed (xs.take k) = if top = 0 then trimmed (xs.take (k - 1)) else xs.take k := by
        have e := take_succ_getD xs (k - 1) (by omega)
        rw [show k - 1 + 1 = k by omega, hT] at e
        rw [e]
        by_cases ht0 : top = 0
        · subst ht0; rw [if_pos rfl, trimmed_snoc_zero]
        · rw [if_neg ht0, trimmed_snoc _ _ ht0]
      by_cases ht0 : top = 0
      · subst ht0
        rw [if_pos rfl] at htk1
        have HK := Lib.hid (And.intro htk htk1)
        clear htk htk1 hT
        go_wp2
        exact ⟨⟨k - 1, by congr 1; omega, by omega, by rw [← HK.out.2]; exact HK.out.1⟩, by simp [intOf]; omega⟩
      · rw [if_neg ht0] at htk1
        have hne : (((top : Nat) : Int) == 0) = false := by simp; omega
        have HK := Lib.hid (And.intro htk htk1)
        clear htk htk1 hT
        obtain ⟨b, off, rfl⟩ : ∃ b off, a = some ⟨b, off, none⟩ := by
          obtain ⟨a', cap', he, _, _, hr⟩ := h0
          cases he
          exact (hr 0 (by omega)).1
        have hw0 : W0.heap.size = w.heap.size + 1 := HW.out.2
        have hlen : (xs.take k).length = k := by simp; omega
        have hnews : ∀ j u, (enc32 (xs.take k))[j]? = some u → (W0.alloc (.cells #[] 52)).cell? ((⟨b, off, none⟩ : Addr).add j) = some u := by
          intro j u hu
          have hj : j < k := by
            have := (List.getElem?_eq_some_iff.1 hu).1
            rw [enc32_length, hlen] at this
            exact this
          have h1 := (h0.below ((Below.refl _ W0).alloc (Nat.le_refl _) (.cells #[] 52))).cell j (by omega)
          rw [lookAt_some] at h1
          rw [Addr.add_lit, h1]
          simp only [enc32, List.getElem?_map, List.getElem?_take, hj, if_true] at hu
          simp [List.getElem?_eq_getElem (show j < xs.length by omega)] at hu ⊢
          exact hu
        have hnl : (enc32 (xs.take k)).length = k * 1 := by rw [enc32_length, hlen]; omega
        have hone : ∀ u ∈ enc32 (xs.take k), u.oneCell' = true := fun u hu => by
          obtain ⟨x, _, rfl⟩ := List.mem_map.1 hu
          rfl
        have hown0 := World.ownsRow_made (e := 52) (size := 1) (base := W0.heap.size) W0 #[] 0 (Nat.le_refl _) (by simp [maxLen]) rfl
        have HN := Lib.hid (And.intro hnews (And.intro hnl hone))
        have HS := Lib.hid (And.intro hw0 (And.intro hlen hown0))
        have hk0' : decide ((0 : Int) < (k : Int)) = true := by simp; omega
        clear hnews hnl hone hlen hown0 hw0
        cases neg
        · go_wp2_with (at_builtin; go_loud (refine wpList_append_own _ rfl _ _ 22 rfl W0.heap.size 52 inf (.int .u32 0) 1 4 und_limbs hi HZ.out.1 HZ.out.2.1 HZ.out.2.2 rfl (by decide) _ _ _ rfl HS.out.2.2 ⟨b, off, none⟩ k c (enc32 (xs.take k)) rfl HN.out.2.1 HN.out.1 HN.out.2.2 (by unfold maxLen; omega) (by omega) (by simp) ?_); intro v' w1 hown' hgrow _; obtain ⟨g, c1, rfl, hc1, hm1⟩ := own_form_pos hown' (by omega); have hb1 : Below W0.heap.size W0 w1 := ((Below.refl _ W0).alloc (Nat.le_refl _) _).grown hgrow (by simp) (fun k e => by cases e; exact Nat.le_refl _); have rr := r0.below hb1; have o1 := rr.cell 0; have o2 := rr.cell 1; have o3 := rr.frozen 0; have o4 := rr.frozen 1; simp only [List.getElem?_cons_zero, List.getElem?_cons_succ] at o1 o2)
          obtain ⟨s1, s2⟩ := two_reads (b := w.heap.size) o1 o2 (.bool false) (.slice (some ⟨g, 0, none⟩) k c1)
          have hrd0 : Reads .u32 w1 (.slice (some ⟨g, 0, none⟩) (0 + k) c1) (xs.take k) := Reads.ofOwn (by simpa [enc32] using hown')
          rw [Nat.zero_add] at hrd0
          have hrd := two_kept (b := w.heap.size) hrd0 o1 o2 (.bool false) (.slice (some ⟨g, 0, none⟩) k c1)
          have hcan : Canon (xs.take k) := ⟨limbs_take hl k, HK.out.2⟩
          have hval : val (xs.take k) = val xs := by rw [← HK.out.2, HK.out.1, val_trimmed]
          refine bodyPost_ret (v := .agg #[.bool false, .slice (some ⟨g, 0, none⟩) k c1]) (by simp [results, Tryz.results47, go_sem, loadCellsFrom, s1, s2]) rfl ⟨?_, _, rfl, false, _, xs.take k, rfl, hrd, hcan, by simp [HS.out.2.1]; try omega, by rw [hval]⟩
          exact (((b0.trans (hb1.mono b0.size))).setCell (Nat.le_refl _) _).setCell (Nat.le_refl _) _
        · go_wp2_with (at_builtin; go_loud (refine wpList_append_own _ rfl _ _ 22 rfl W0.heap.size 52 inf (.int .u32 0) 1 4 und_limbs hi HZ.out.1 HZ.out.2.1 HZ.out.2.2 rfl (by decide) _ _ _ rfl HS.out.2.2 ⟨b, off, none⟩ k c (enc32 (xs.take k)) rfl HN.out.2.1 HN.out.1 HN.out.2.2 (by unfold maxLen; omega) (by omega) (by simp) ?_); intro v' w1 hown' hgrow _; obtain ⟨g, c1, rfl, hc1, hm1⟩ := own_form_pos hown' (by omega); have hb1 : Below W0.heap.size W0 w1 := ((Below.refl _ W0).alloc (Nat.le_refl _) _).grown hgrow (by simp) (fun k e => by cases e; exact Nat.le_refl _); have rr := r0.below hb1; have o1 := rr.cell 0; have o2 := rr.cell 1; have o3 := rr.frozen 0; have o4 := rr.frozen 1; simp only [List.getElem?_cons_zero, List.getElem?_cons_succ] at o1 o2)
          obtain ⟨s1, s2⟩ := two_reads (b := w.heap.size) o1 o2 (.bool true) (.slice (some ⟨g, 0, none⟩) k c1)
          have hrd0 : Reads .u32 w1 (.slice (some ⟨g, 0, none⟩) (0 + k) c1) (xs.take k) := Reads.ofOwn (by simpa [enc32] using hown')
          rw [Nat.zero_add] at hrd0
          have hrd := two_kept (b := w.heap.size) hrd0 o1 o2 (.bool true) (.slice (some ⟨g, 0, none⟩) k c1)
          have hcan : Canon (xs.take k) := ⟨limbs_take hl k, HK.out.2⟩
          have hval : val (xs.take k) = val xs := by rw [← HK.out.2, HK.out.1, val_trimmed]
          refine bodyPost_ret (v := .agg #[.bool true, .slice (some ⟨g, 0, none⟩) k c1]) (by simp [results, Tryz.results47, go_sem, loadCellsFrom, s1, s2]) rfl ⟨?_, _, rfl, true, _, xs.take k, rfl, hrd, hcan, by simp [HS.out.2.1]; try omega, by rw [hval]⟩
          exact (((b0.trans (hb1.mono b0.size))).setCell (Nat.le_refl _) _).setCell (Nat.le_refl _) _

end Go.Proofs.YtlghjfpkfdnfoaaGreatDoor

/- zermeloref01.Of -/
namespace Go.Proofs.YtlghjfpkfdnfoaaGreatDoor
open Go Go.RowKit Go.Shelf

theorem two_made (neg : Bool) (m : Nat) (h : m < 18446744073709551616) (w : World) : Calls Tryz.prog 47 #[.bool neg, .slice (some ⟨w.heap.size, 0, none⟩) 2 2] (w.alloc (.cells #[.int .u32 ((m : Int) % 4294967296), .int .u32 ((m : Int) / 4294967296)] 52)) fun e w' => Below w.heap.size w w' ∧ ∃ v, e = .returned v ∧ IsInt w' v (sgn neg m) := by
  obtain ⟨hv, hl⟩ := two_limbs m h
  have r := RowAt.reads (xs := [m % 4294967296, m / 4294967296]) (RowAt.new w 52 [.int .u32 ((m % 4294967296 : Nat) : Int), .int .u32 ((m / 4294967296 : Nat) : Int)]) 2 2 rfl (by simp) (by simp [maxLen])
  have e1 : ((m % 4294967296 : Nat) : Int) = (m : Int) % 4294967296 := by omega
  have e2 : ((m / 4294967296 : Nat) : Int) = (m : Int) / 4294967296 := by omega
  rw [e1, e2] at r
  refine (made_any neg _ _ _ r hl (by simp)).mono ?_
  rintro e w' ⟨hbe, v, rfl, h1⟩
  rw [hv] at h1
  exact ⟨((Below.refl _ _).alloc (Nat.le_refl _) _).trans (hbe.mono (by simp)), v, rfl, h1⟩

set_option maxHeartbeats 1000000 in
set_option maxRecDepth 100000 in
theorem rof_nonneg (n : Nat) (w : World) (hn : n < 9223372036854775808) :
    Calls Tryz.prog 17 #[.int .i64 n] w fun e w' => Below w.heap.size w w' ∧ ∃ v, e = .returned v ∧ IsInt w' v n := by
  have tr := two_made false n (by omega) (w.alloc (.cells #[.bool false, .slice none 0 0] 24))
  have r0 := RowAt.new w 24 [.bool false, .slice none 0 0]
  have bw := (Below.refl w.heap.size w).alloc (Nat.le_refl _) (.cells #[.bool false, .slice none 0 0] 24)
  simp only [World.size_alloc] at tr
  go_enter Tryz.func17, Tryz.ntmps17
  go_wp2_with (go_at_call 47; refine tr.mono ?_; rintro e w2 ⟨hbe2, v, rfl, n9, v9, x9, rfl, h1, h2, h3, h4⟩; clear tr; obtain ⟨a2, c2, rfl, hc2, hm2⟩ := h1.form; have bw2 := bw.trans (hbe2.mono (by omega)); have r2 : RowAt w2 w.heap.size 24 [.bool false, .slice none 0 0] := (hbe2.block _ (by omega)).trans r0; have q1 := r2.cell 0; have q2 := r2.cell 1; have q3 := r2.frozen 0; have q4 := r2.frozen 1; simp only [List.getElem?_cons_zero, List.getElem?_cons_succ] at q1 q2)
  obtain ⟨s1, s2⟩ := two_reads (b := w.heap.size) q1 q2 (.bool n9) (.slice a2 x9.length c2)
  have hk := two_kept (b := w.heap.size) h1 q1 q2 (.bool n9) (.slice a2 x9.length c2)
  have hlow := (bw2.setCell (p := ⟨w.heap.size, 0, none⟩) (Nat.le_refl _) (.bool n9)).setCell (p := ⟨w.heap.size, 1, none⟩) (Nat.le_refl _) (.slice a2 x9.length c2)
  exact bodyPost_ret (v := .agg #[.bool n9, .slice a2 x9.length c2]) (by simp [results, Tryz.results17, go_sem, loadCellsFrom, s1, s2]) rfl ⟨hlow, _, rfl, n9, _, x9, rfl, hk, h2, h3, by rw [← h4]; rfl⟩
set_option maxHeartbeats 1000000 in
set_option maxRecDepth 100000 in
theorem rof_neg (n : Nat) (w : World) (h0 : 0 < n) (hn : n ≤ 9223372036854775808) :
    Calls Tryz.prog 17 #[.int .i64 (-(n : Int))] w fun e w' => Below w.heap.size w w' ∧ ∃ v, e = .returned v ∧ IsInt w' v (-(n : Int)) := by
  have tr := two_made true n (by omega) (w.alloc (.cells #[.bool false, .slice none 0 0] 24))
  have r0 := RowAt.new w 24 [.bool false, .slice none 0 0]
  have bw := (Below.refl w.heap.size w).alloc (Nat.le_refl _) (.cells #[.bool false, .slice none 0 0] 24)
  simp only [World.size_alloc] at tr
  have hw : IntKind.u64.wrap (-IntKind.u64.wrap (-(n : Int))) = n := by simp only [IntKind.wrap_u64]; omega
  have hw2 : IntKind.u64.wrap (0 - IntKind.u64.wrap (-(n : Int))) = n := by simp only [IntKind.wrap_u64]; omega
  have hq : (n : Int) / 4294967296 % 4294967296 = (n : Int) / 4294967296 := by omega
  go_enter Tryz.func17, Tryz.ntmps17
  go_wp2_with (go_at_call 47; refine tr.mono ?_; rintro e w2 ⟨hbe2, v, rfl, n9, v9, x9, rfl, h1, h2, h3, h4⟩; clear tr; obtain ⟨a2, c2, rfl, hc2, hm2⟩ := h1.form; have bw2 := bw.trans (hbe2.mono (by omega)); have r2 : RowAt w2 w.heap.size 24 [.bool false, .slice none 0 0] := (hbe2.block _ (by omega)).trans r0; have q1 := r2.cell 0; have q2 := r2.cell 1; have q3 := r2.frozen 0; have q4 := r2.frozen 1; simp only [List.getElem?_cons_zero, List.getElem?_cons_succ] at q1 q2)
  obtain ⟨s1, s2⟩ := two_reads (b := w.heap.size) q1 q2 (.bool n9) (.slice a2 x9.length c2)
  have hk := two_kept (b := w.heap.size) h1 q1 q2 (.bool n9) (.slice a2 x9.length c2)
  have hlow := (bw2.setCell (p := ⟨w.heap.size, 0, none⟩) (Nat.le_refl _) (.bool n9)).setCell (p := ⟨w.heap.size, 1, none⟩) (Nat.le_refl _) (.slice a2 x9.length c2)
  exact bodyPost_ret (v := .agg #[.bool n9, .slice a2 x9.length c2]) (by simp [results, Tryz.results17, go_sem, loadCellsFrom, s1, s2]) rfl ⟨hlow, _, rfl, n9, _, x9, rfl, hk, h2, h3, by rw [← h4]; rfl⟩

end Go.Proofs.YtlghjfpkfdnfoaaGreatDoor

/- num.Gcd -/
namespace Go.Proofs.YtlghjfpkfdnfoaaGreatDoor
open Go Go.RowKit Go.Shelf

set_option maxHeartbeats 1000000 in
set_option maxRecDepth 100000 in
theorem gcd1_ok (B : Nat) (na nb : Bool) (aa ab : Option Addr) (ca cb : Nat) (xa xb : List Nat) (r0 : Bool) (r1 : Option Addr) (r2 r3 : Nat) (t0 : Bool) (t1 : Option Addr) (t2 t3 : Nat) (u0 : Bool) (u1 : Option Addr) (u2 u3 : Nat) (w : World) (hra : RowAt w B 24 [.bool na, .slice aa xa.length ca]) (hrb : RowAt w (B + 1) 24 [.bool nb, .slice ab xb.length cb])
    (hG : RowAt w (B + 2) 24 [.bool r0, .slice r1 r2 r3]) (hX : RowAt w (B + 3) 24 [.bool t0, .slice t1 t2 t3]) (hY : RowAt w (B + 4) 24 [.bool u0, .slice u1 u2 u3]) (ha : Reads .u32 w (.slice aa xa.length ca) xa) (hb : Reads .u32 w (.slice ab xb.length cb) xb) (hla : Limbs xa) (hlb : Limbs xb) (fa : formedB na xa = true) (fb : formedB nb xb = true) (k : Int) (P : Int → Int → Prop)
    (hop : ∀ W, Below w.heap.size w W → Calls Tryz.prog 54 #[.agg #[.bool na, .slice aa xa.length ca], .agg #[.bool nb, .slice ab xb.length cb]] W fun e W' => Below W.heap.size W W' ∧ ∃ g x y i j, e = .returned (.tuple #[g, x, y]) ∧ IsInt W' g k ∧ IsInt W' x i ∧ IsInt W' y j ∧ P i j) :
    Calls Tryz.prog 53 #[.pointer (some ⟨B, 0, none⟩), .pointer (some ⟨B + 1, 0, none⟩), .pointer (some ⟨B + 2, 0, none⟩), .pointer (some ⟨B + 3, 0, none⟩), .pointer (some ⟨B + 4, 0, none⟩)] w fun e w' => e = .returned (.tuple #[]) ∧ Chg (fun k => k = B + 2 ∨ k = B + 3 ∨ k = B + 4) w w' ∧
      ∃ n a m c n' a' m' c' n2 a2 m2 c2, RowAt w' (B + 2) 24 [.bool n, .slice a m c] ∧ RowAt w' (B + 3) 24 [.bool n', .slice a' m' c'] ∧ RowAt w' (B + 4) 24 [.bool n2, .slice a2 m2 c2] ∧ ∃ i j, IsInt w' (.agg #[.bool n, .slice a m c]) k ∧ IsInt w' (.agg #[.bool n', .slice a' m' c']) i ∧ IsInt w' (.agg #[.bool n2, .slice a2 m2 c2]) j ∧ P i j := by
  have a0 := hra.cell 0
  have a1 := hra.cell 1
  have b0 := hrb.cell 0
  have b1 := hrb.cell 1
  simp only [List.getElem?_cons_zero, List.getElem?_cons_succ] at a0 a1 b0 b1
  have r0' := RowAt.new w 24 [.bool na, .slice aa xa.length ca, .bool nb, .slice ab xb.length cb]
  have bw := (Below.refl w.heap.size w).alloc (Nat.le_refl _) (.cells #[.bool na, .slice aa xa.length ca, .bool nb, .slice ab xb.length cb] 24)
  go_enter Tryz.func53, Tryz.ntmps53
  go_wp2_with (first | (go_at_call 24; refine (demand2_okok _ na nb aa ab ca cb xa xb _ r0' (ha.below bw) hla fa (hb.below bw) hlb fb).mono ?_; rintro e w1 ⟨hbe1, rfl⟩; have bw1 := bw.trans (hbe1.mono (by simp)); have p1 := (hra.below bw1).cell 0; have p2 := (hra.below bw1).cell 1; have p3 := (hrb.below bw1).cell 0; have p4 := (hrb.below bw1).cell 1; simp only [List.getElem?_cons_zero, List.getElem?_cons_succ] at p1 p2 p3 p4) | (go_at_call 54; refine (hop _ bw1).mono ?_; rintro e w3 ⟨hbe3, v1, v2, v3, i, j, rfl, ⟨n1, z1, x1, rfl, g1, k1, l1, m1⟩, ⟨n2, z2, x2, rfl, g2, k2, l2, m2⟩, ⟨n3, z3, x3, rfl, g3, k3, l3, m3⟩, hP⟩; have bw3 := bw1.trans (hbe3.mono bw1.size); obtain ⟨y1, c1, rfl, -, -⟩ := g1.form; obtain ⟨y2, c2, rfl, -, -⟩ := g2.form; obtain ⟨y3, c3, rfl, -, -⟩ := g3.form; have sg := hG.below bw3; have sx := hX.below bw3; have sy := hY.below bw3; have o1 := sg.cell 0; have o2 := sg.cell 1; have o3 := sx.cell 0; have o4 := sx.cell 1; have o5 := sg.frozen 0; have o6 := sg.frozen 1; have o7 := sx.frozen 0; have o8 := sx.frozen 1; have o9 := sy.cell 0; have o10 := sy.cell 1; have o11 := sy.frozen 0; have o12 := sy.frozen 1; simp only [List.getElem?_cons_zero, List.getElem?_cons_succ] at o1 o2 o3 o4 o9 o10))
  go_end0
  have sg1 := (sg.set 0 (.bool n1)).set 1 (.slice y1 x1.length c1)
  have sx1 := (sx.other (a := ⟨B + 2, 0, none⟩) (by simp) (.bool n1)).other (a := ⟨B + 2, 1, none⟩) (by simp) (.slice y1 x1.length c1)
  have sy1 := (sy.other (a := ⟨B + 2, 0, none⟩) (by simp) (.bool n1)).other (a := ⟨B + 2, 1, none⟩) (by simp) (.slice y1 x1.length c1)
  have sg2 := (sg1.other (a := ⟨B + 3, 0, none⟩) (by simp) (.bool n2)).other (a := ⟨B + 3, 1, none⟩) (by simp) (.slice y2 x2.length c2)
  have sx2 := (sx1.set 0 (.bool n2)).set 1 (.slice y2 x2.length c2)
  have sy2 := (sy1.other (a := ⟨B + 3, 0, none⟩) (by simp) (.bool n2)).other (a := ⟨B + 3, 1, none⟩) (by simp) (.slice y2 x2.length c2)
  have sg3 := (sg2.other (a := ⟨B + 4, 0, none⟩) (by simp) (.bool n3)).other (a := ⟨B + 4, 1, none⟩) (by simp) (.slice y3 x3.length c3)
  have sx3 := (sx2.other (a := ⟨B + 4, 0, none⟩) (by simp) (.bool n3)).other (a := ⟨B + 4, 1, none⟩) (by simp) (.slice y3 x3.length c3)
  have sy3 := (sy2.set 0 (.bool n3)).set 1 (.slice y3 x3.length c3)
  have hk : ∀ v xs, Reads .u32 w3 v xs → Reads .u32 ((((((w3.setCell ⟨B + 2, 0, none⟩ (.bool n1)).setCell ⟨B + 2, 1, none⟩ (.slice y1 x1.length c1)).setCell ⟨B + 3, 0, none⟩ (.bool n2)).setCell ⟨B + 3, 1, none⟩ (.slice y2 x2.length c2)).setCell ⟨B + 4, 0, none⟩ (.bool n3)).setCell ⟨B + 4, 1, none⟩ (.slice y3 x3.length c3)) v xs :=
    fun v xs h => two_kept (b := B + 4) (two_kept (b := B + 3) (two_kept (b := B + 2) h o1 o2 _ _) (sx1.cell 0) (sx1.cell 1) _ _) (sy2.cell 0) (sy2.cell 1) _ _
  exact ⟨rfl, ((((((((Chg.refl (fun k => k = B + 2 ∨ k = B + 3 ∨ k = B + 4) w).thenBelow bw3).setCell (p := ⟨B + 2, 0, none⟩) (.inl (.inl rfl)) _).setCell (p := ⟨B + 2, 1, none⟩) (.inl (.inl rfl)) _).setCell (p := ⟨B + 3, 0, none⟩) (.inl (.inr (.inl rfl))) _).setCell (p := ⟨B + 3, 1, none⟩) (.inl (.inr (.inl rfl))) _).setCell (p := ⟨B + 4, 0, none⟩) (.inl (.inr (.inr rfl))) _).setCell (p := ⟨B + 4, 1, none⟩) (.inl (.inr (.inr rfl))) _),
    n1, y1, x1.length, c1, n2, y2, x2.length, c2, n3, y3, x3.length, c3, sg3, sx3, sy3, i, j, ⟨n1, _, x1, rfl, hk _ _ g1, k1, l1, m1⟩, ⟨n2, _, x2, rfl, hk _ _ g2, k2, l2, m2⟩, ⟨n3, _, x3, rfl, hk _ _ g3, k3, l3, m3⟩, hP⟩

theorem reads_drew {k : IntKind} {W : World} {v : Value} {xs : List Nat} (h : Reads k W v xs) : Reads k W.drew v xs := h
/-- three results' variables that are stored once more -/
theorem tri_self {W : World} {b : Nat} {n1 n2 n3 : Bool} {a1 a2 a3 : Option Addr} {m1 c1 m2 c2 m3 c3 : Nat} (z1 : RowAt W b 24 [.bool n1, .slice a1 m1 c1]) (z2 : RowAt W (b + 1) 24 [.bool n2, .slice a2 m2 c2]) (z3 : RowAt W (b + 1 + 1) 24 [.bool n3, .slice a3 m3 c3]) :
    (((((((W.setCell ⟨b, 0, none⟩ (.bool n1)).setCell ⟨b, 1, none⟩ (.slice a1 m1 c1)).setCell ⟨b + 1, 0, none⟩ (.bool n2)).setCell ⟨b + 1, 1, none⟩ (.slice a2 m2 c2)).setCell ⟨b + 1 + 1, 0, none⟩ (.bool n3)).setCell ⟨b + 1 + 1, 1, none⟩ (.slice a3 m3 c3)).drew).cell? ⟨b, 0, none⟩ = some (.bool n1) ∧ (((((((W.setCell ⟨b, 0, none⟩ (.bool n1)).setCell ⟨b, 1, none⟩ (.slice a1 m1 c1)).setCell ⟨b + 1, 0, none⟩ (.bool n2)).setCell ⟨b + 1, 1, none⟩ (.slice a2 m2 c2)).setCell ⟨b + 1 + 1, 0, none⟩ (.bool n3)).setCell ⟨b + 1 + 1, 1, none⟩ (.slice a3 m3 c3)).drew).cell? ⟨b, 1, none⟩ = some (.slice a1 m1 c1) ∧ (((((((W.setCell ⟨b, 0, none⟩ (.bool n1)).setCell ⟨b, 1, none⟩ (.slice a1 m1 c1)).setCell ⟨b + 1, 0, none⟩ (.bool n2)).setCell ⟨b + 1, 1, none⟩ (.slice a2 m2 c2)).setCell ⟨b + 1 + 1, 0, none⟩ (.bool n3)).setCell ⟨b + 1 + 1, 1, none⟩ (.slice a3 m3 c3)).drew).cell? ⟨b + 1, 0, none⟩ = some (.bool n2) ∧ (((((((W.setCell ⟨b, 0, none⟩ (.bool n1)).setCell ⟨b, 1, none⟩ (.slice a1 m1 c1)).setCell ⟨b + 1, 0, none⟩ (.bool n2)).setCell ⟨b + 1, 1, none⟩ (.slice a2 m2 c2)).setCell ⟨b + 1 + 1, 0, none⟩ (.bool n3)).setCell ⟨b + 1 + 1, 1, none⟩ (.slice a3 m3 c3)).drew).cell? ⟨b + 1, 1, none⟩ = some (.slice a2 m2 c2) ∧ (((((((W.setCell ⟨b, 0, none⟩ (.bool n1)).setCell ⟨b, 1, none⟩ (.slice a1 m1 c1)).setCell ⟨b + 1, 0, none⟩ (.bool n2)).setCell ⟨b + 1, 1, none⟩ (.slice a2 m2 c2)).setCell ⟨b + 1 + 1, 0, none⟩ (.bool n3)).setCell ⟨b + 1 + 1, 1, none⟩ (.slice a3 m3 c3)).drew).cell? ⟨b + 1 + 1, 0, none⟩ = some (.bool n3) ∧ (((((((W.setCell ⟨b, 0, none⟩ (.bool n1)).setCell ⟨b, 1, none⟩ (.slice a1 m1 c1)).setCell ⟨b + 1, 0, none⟩ (.bool n2)).setCell ⟨b + 1, 1, none⟩ (.slice a2 m2 c2)).setCell ⟨b + 1 + 1, 0, none⟩ (.bool n3)).setCell ⟨b + 1 + 1, 1, none⟩ (.slice a3 m3 c3)).drew).cell? ⟨b + 1 + 1, 1, none⟩ = some (.slice a3 m3 c3) ∧
    (∀ v xs, Reads .u32 W v xs → Reads .u32 (((((((W.setCell ⟨b, 0, none⟩ (.bool n1)).setCell ⟨b, 1, none⟩ (.slice a1 m1 c1)).setCell ⟨b + 1, 0, none⟩ (.bool n2)).setCell ⟨b + 1, 1, none⟩ (.slice a2 m2 c2)).setCell ⟨b + 1 + 1, 0, none⟩ (.bool n3)).setCell ⟨b + 1 + 1, 1, none⟩ (.slice a3 m3 c3)).drew) v xs) ∧ (∀ B w, B ≤ b → Below B w W → Below B w (((((((W.setCell ⟨b, 0, none⟩ (.bool n1)).setCell ⟨b, 1, none⟩ (.slice a1 m1 c1)).setCell ⟨b + 1, 0, none⟩ (.bool n2)).setCell ⟨b + 1, 1, none⟩ (.slice a2 m2 c2)).setCell ⟨b + 1 + 1, 0, none⟩ (.bool n3)).setCell ⟨b + 1 + 1, 1, none⟩ (.slice a3 m3 c3)).drew)) := by
  have sg1 := (z1.set 0 (.bool n1)).set 1 (.slice a1 m1 c1)
  have sx1 := (z2.other (a := ⟨b, 0, none⟩) (by simp) (.bool n1)).other (a := ⟨b, 1, none⟩) (by simp) (.slice a1 m1 c1)
  have sy1 := (z3.other (a := ⟨b, 0, none⟩) (by simp; omega) (.bool n1)).other (a := ⟨b, 1, none⟩) (by simp; omega) (.slice a1 m1 c1)
  have sg2 := (sg1.other (a := ⟨b + 1, 0, none⟩) (by simp) (.bool n2)).other (a := ⟨b + 1, 1, none⟩) (by simp) (.slice a2 m2 c2)
  have sx2 := (sx1.set 0 (.bool n2)).set 1 (.slice a2 m2 c2)
  have sy2 := (sy1.other (a := ⟨b + 1, 0, none⟩) (by simp) (.bool n2)).other (a := ⟨b + 1, 1, none⟩) (by simp) (.slice a2 m2 c2)
  have sg3 := (sg2.other (a := ⟨b + 1 + 1, 0, none⟩) (by simp; omega) (.bool n3)).other (a := ⟨b + 1 + 1, 1, none⟩) (by simp; omega) (.slice a3 m3 c3)
  have sx3 := (sx2.other (a := ⟨b + 1 + 1, 0, none⟩) (by simp) (.bool n3)).other (a := ⟨b + 1 + 1, 1, none⟩) (by simp) (.slice a3 m3 c3)
  have sy3 := (sy2.set 0 (.bool n3)).set 1 (.slice a3 m3 c3)
  have ug : RowAt (((((((W.setCell ⟨b, 0, none⟩ (.bool n1)).setCell ⟨b, 1, none⟩ (.slice a1 m1 c1)).setCell ⟨b + 1, 0, none⟩ (.bool n2)).setCell ⟨b + 1, 1, none⟩ (.slice a2 m2 c2)).setCell ⟨b + 1 + 1, 0, none⟩ (.bool n3)).setCell ⟨b + 1 + 1, 1, none⟩ (.slice a3 m3 c3)).drew) b 24 [.bool n1, .slice a1 m1 c1] := sg3.drew
  have ux : RowAt (((((((W.setCell ⟨b, 0, none⟩ (.bool n1)).setCell ⟨b, 1, none⟩ (.slice a1 m1 c1)).setCell ⟨b + 1, 0, none⟩ (.bool n2)).setCell ⟨b + 1, 1, none⟩ (.slice a2 m2 c2)).setCell ⟨b + 1 + 1, 0, none⟩ (.bool n3)).setCell ⟨b + 1 + 1, 1, none⟩ (.slice a3 m3 c3)).drew) (b + 1) 24 [.bool n2, .slice a2 m2 c2] := sx3.drew
  have uy : RowAt (((((((W.setCell ⟨b, 0, none⟩ (.bool n1)).setCell ⟨b, 1, none⟩ (.slice a1 m1 c1)).setCell ⟨b + 1, 0, none⟩ (.bool n2)).setCell ⟨b + 1, 1, none⟩ (.slice a2 m2 c2)).setCell ⟨b + 1 + 1, 0, none⟩ (.bool n3)).setCell ⟨b + 1 + 1, 1, none⟩ (.slice a3 m3 c3)).drew) (b + 1 + 1) 24 [.bool n3, .slice a3 m3 c3] := sy3.drew
  refine ⟨?_, ?_, ?_, ?_, ?_, ?_, ?_, ?_⟩
  · exact ug.cell 0
  · exact ug.cell 1
  · exact ux.cell 0
  · exact ux.cell 1
  · exact uy.cell 0
  · exact uy.cell 1
  · intro v xs h
    have h1 := two_kept (b := b) h (z1.cell 0) (z1.cell 1) (.bool n1) (.slice a1 m1 c1)
    have h2 := two_kept (b := b + 1) h1 (sx1.cell 0) (sx1.cell 1) (.bool n2) (.slice a2 m2 c2)
    exact reads_drew (two_kept (b := b + 1 + 1) h2 (sy2.cell 0) (sy2.cell 1) (.bool n3) (.slice a3 m3 c3))
  · intro B w hB h
    exact ((((((h.setCell (p := ⟨b, 0, none⟩) hB _).setCell (p := ⟨b, 1, none⟩) hB _).setCell (p := ⟨b + 1, 0, none⟩) (by simp; omega) _).setCell (p := ⟨b + 1, 1, none⟩) (by simp; omega) _).setCell (p := ⟨b + 1 + 1, 0, none⟩) (by simp; omega) _).setCell (p := ⟨b + 1 + 1, 1, none⟩) (by simp; omega) _).drew

set_option maxHeartbeats 2000000 in
set_option maxRecDepth 100000 in
theorem Gcd_ok (a b : Value) (na nb : Bool) (xa xb : List Nat) (w : World) (ha : IntAt w a na xa) (hb : IntAt w b nb xb) (fa : formedB na xa = true) (fb : formedB nb xb = true) (k : Int) (P : Int → Int → Prop)
    (hop : ∀ W, Below w.heap.size w W → Calls Tryz.prog 54 #[a, b] W fun e W' => Below W.heap.size W W' ∧ ∃ g x y i j, e = .returned (.tuple #[g, x, y]) ∧ IsInt W' g k ∧ IsInt W' x i ∧ IsInt W' y j ∧ P i j) :
    Calls Tryz.prog 19 #[a, b] w fun e w' => Below w.heap.size w w' ∧ ∃ g x y i j, e = .returned (.tuple #[g, x, y, .int .i64 0]) ∧ IsInt w' g k ∧ IsInt w' x i ∧ IsInt w' y j ∧ P i j := by
  obtain ⟨va, rfl, hra, hla⟩ := ha
  obtain ⟨vb, rfl, hrb, hlb⟩ := hb
  obtain ⟨aa, ca, rfl, hca, hma⟩ := hra.form
  obtain ⟨ab, cb, rfl, hcb, hmb⟩ := hrb.form
  have hmf : ∀ (fn : Fn) (first cap : Array Value) (w : World), (Instr.makeFunc fn first cap).run Tryz.prog w = .ok (.func fn first cap) w := fun _ _ _ _ => rfl
  have q0 := (((((RowAt.new w 24 [.bool na, .slice aa xa.length ca]).alloc (.cells #[.bool nb, .slice ab xb.length cb] 24)).alloc (.cells #[.bool false, .slice none 0 0] 24)).alloc (.cells #[.bool false, .slice none 0 0] 24)).alloc (.cells #[.bool false, .slice none 0 0] 24)).alloc (.cells #[.int .i64 0] 27)
  have q1 := ((((RowAt.new (w.alloc (.cells #[.bool na, .slice aa xa.length ca] 24)) 24 [.bool nb, .slice ab xb.length cb]).alloc (.cells #[.bool false, .slice none 0 0] 24)).alloc (.cells #[.bool false, .slice none 0 0] 24)).alloc (.cells #[.bool false, .slice none 0 0] 24)).alloc (.cells #[.int .i64 0] 27)
  have q2 := (((RowAt.new ((w.alloc (.cells #[.bool na, .slice aa xa.length ca] 24)).alloc (.cells #[.bool nb, .slice ab xb.length cb] 24)) 24 [.bool false, .slice none 0 0]).alloc (.cells #[.bool false, .slice none 0 0] 24)).alloc (.cells #[.bool false, .slice none 0 0] 24)).alloc (.cells #[.int .i64 0] 27)
  have q3 := ((RowAt.new (((w.alloc (.cells #[.bool na, .slice aa xa.length ca] 24)).alloc (.cells #[.bool nb, .slice ab xb.length cb] 24)).alloc (.cells #[.bool false, .slice none 0 0] 24)) 24 [.bool false, .slice none 0 0]).alloc (.cells #[.bool false, .slice none 0 0] 24)).alloc (.cells #[.int .i64 0] 27)
  have q4 := (RowAt.new ((((w.alloc (.cells #[.bool na, .slice aa xa.length ca] 24)).alloc (.cells #[.bool nb, .slice ab xb.length cb] 24)).alloc (.cells #[.bool false, .slice none 0 0] 24)).alloc (.cells #[.bool false, .slice none 0 0] 24)) 24 [.bool false, .slice none 0 0]).alloc (.cells #[.int .i64 0] 27)
  have q5 := Boxed.new (((((w.alloc (.cells #[.bool na, .slice aa xa.length ca] 24)).alloc (.cells #[.bool nb, .slice ab xb.length cb] 24)).alloc (.cells #[.bool false, .slice none 0 0] 24)).alloc (.cells #[.bool false, .slice none 0 0] 24)).alloc (.cells #[.bool false, .slice none 0 0] 24)) 27 (.int .i64 0)
  have bw := (((((((Below.refl w.heap.size w).alloc (Nat.le_refl _) (.cells #[.bool na, .slice aa xa.length ca] 24)).alloc (by simp) (.cells #[.bool nb, .slice ab xb.length cb] 24)).alloc (by simp; omega) (.cells #[.bool false, .slice none 0 0] 24)).alloc (by simp; omega) (.cells #[.bool false, .slice none 0 0] 24)).alloc (by simp; omega) (.cells #[.bool false, .slice none 0 0] 24)).alloc (by simp; omega) (.cells #[.int .i64 0] 27))
  simp only [World.size_alloc] at q1 q2 q3 q4 q5
  generalize hW4 : ((((((w.alloc (.cells #[.bool na, .slice aa xa.length ca] 24)).alloc (.cells #[.bool nb, .slice ab xb.length cb] 24)).alloc (.cells #[.bool false, .slice none 0 0] 24)).alloc (.cells #[.bool false, .slice none 0 0] 24)).alloc (.cells #[.bool false, .slice none 0 0] 24)).alloc (.cells #[.int .i64 0] 27)) = W4 at q0 q1 q2 q3 q4 q5 bw
  have key := gcd1_ok w.heap.size na nb aa ab ca cb xa xb _ _ _ _ _ _ _ _ _ _ _ _ W4 q0 q1 q2 q3 q4 (hra.below bw) (hrb.below bw) hla hlb fa fb k P (fun W hW => hop W (bw.trans (hW.mono bw.size)))
  have att := attempt_any 53 #[.pointer (some ⟨w.heap.size, 0, none⟩), .pointer (some ⟨w.heap.size + 1, 0, none⟩), .pointer (some ⟨w.heap.size + 1 + 1, 0, none⟩), .pointer (some ⟨w.heap.size + 1 + 1 + 1, 0, none⟩), .pointer (some ⟨w.heap.size + 1 + 1 + 1 + 1, 0, none⟩)]
    (((((w.alloc (.cells #[.bool na, .slice aa xa.length ca] 24)).alloc (.cells #[.bool nb, .slice ab xb.length cb] 24)).alloc (.cells #[.bool false, .slice none 0 0] 24)).alloc (.cells #[.bool false, .slice none 0 0] 24)).alloc (.cells #[.bool false, .slice none 0 0] 24))
    (fun c W => c = 0 ∧ Chg (fun k => k = w.heap.size + 2 ∨ k = w.heap.size + 3 ∨ k = w.heap.size + 4) W4 W ∧
      ∃ n a m c n' a' m' c' n2 a2 m2 c2, RowAt W (w.heap.size + 2) 24 [.bool n, .slice a m c] ∧ RowAt W (w.heap.size + 3) 24 [.bool n', .slice a' m' c'] ∧ RowAt W (w.heap.size + 4) 24 [.bool n2, .slice a2 m2 c2] ∧ ∃ i j, IsInt W (.agg #[.bool n, .slice a m c]) k ∧ IsInt W (.agg #[.bool n', .slice a' m' c']) i ∧ IsInt W (.agg #[.bool n2, .slice a2 m2 c2]) j ∧ P i j)
    (fun W => by simp [go_sem])
    (fun c W h => by simp only [World.size_alloc]; exact h.2.1.boxed q5 (by omega))
    (by
      rw [hW4]
      refine key.mono ?_
      rintro e W ⟨rfl, h2⟩
      exact .inl ⟨rfl, rfl, h2⟩)
  clear key
  go_enter Tryz.func19, Tryz.ntmps19
  go_wp2_with (refine att.mono ?_; rintro e W' ⟨c, W, ⟨rfl, hch, n1, a1, m1, c1, n2, a2, m2, c2, n3, a3, m3, c3, hr1, hr2, hr3, i, j, hi1, hi2, hi3, hP⟩, rfl, rfl⟩; simp only [World.size_alloc]; have z1 := hr1.other (a := ⟨w.heap.size + 1 + 1 + 1 + 1 + 1, 0, none⟩) (by simp) (.int .i64 0); have z2 := hr2.other (a := ⟨w.heap.size + 1 + 1 + 1 + 1 + 1, 0, none⟩) (by simp) (.int .i64 0); have z3 := hr3.other (a := ⟨w.heap.size + 1 + 1 + 1 + 1 + 1, 0, none⟩) (by simp) (.int .i64 0); have HZ := Lib.hid (And.intro z1 (And.intro z2 z3)); clear z1 z2 z3)
  obtain ⟨z1, z2, z3⟩ := HZ.out
  have e4 := (hch.boxed q5 (by omega)).cell
  have hb9 : Below w.heap.size w W := bw.trans (hch.below (B := w.heap.size) (fun i hi => by omega) bw.size)
  have hk5 : ∀ v xs, Reads .u32 W v xs → Reads .u32 (W.setCell ⟨w.heap.size + 1 + 1 + 1 + 1 + 1, 0, none⟩ (.int .i64 0)) v xs := fun v xs h => h.setOther e4 (by simp) _
  have hb5 : Below w.heap.size w (W.setCell ⟨w.heap.size + 1 + 1 + 1 + 1 + 1, 0, none⟩ (.int .i64 0)) := hb9.setCell (by simp; omega) _
  have HI := Lib.hid (And.intro (hi1.keep hk5) (And.intro (hi2.keep hk5) (hi3.keep hk5)))
  clear att hch hr1 hr2 hr3 q0 q1 q2 q3 q4 q5 bw e4 hb9 hk5 hi1 hi2 hi3 HZ
  generalize W.setCell ⟨w.heap.size + 1 + 1 + 1 + 1 + 1, 0, none⟩ (.int .i64 0) = W5 at *
  have o1 := z1.cell 0
  have o2 := z1.cell 1
  have o3 := z2.cell 0
  have o4 := z2.cell 1
  have o5 := z3.cell 0
  have o6 := z3.cell 1
  have p1 := z1.frozen 0
  have p2 := z1.frozen 1
  have p3 := z2.frozen 0
  have p4 := z2.frozen 1
  have p5 := z3.frozen 0
  have p6 := z3.frozen 1
  simp only [List.getElem?_cons_zero, List.getElem?_cons_succ] at o1 o2 o3 o4 o5 o6
  go_wp2_with fail
  go_region
  obtain ⟨t1, t2, t3, t4, t5, t6, hk, hbl⟩ := tri_self (b := w.heap.size + 1 + 1) z1 z2 z3
  have hbe := hbl w.heap.size w (by omega) hb5
  clear hbl o1 o2 o3 o4 o5 o6 p1 p2 p3 p4 p5 p6 z1 z2 z3
  go_wp2
  exact bodyPost_ret (v := .tuple #[.agg #[.bool n1, .slice a1 m1 c1], .agg #[.bool n2, .slice a2 m2 c2], .agg #[.bool n3, .slice a3 m3 c3], .int .i64 0]) (by simp [results, Tryz.results19, go_sem, loadCellsFrom, t1, t2, t3, t4, t5, t6]) rfl
    ⟨hbe, _, _, _, i, j, rfl, HI.out.1.keep hk, HI.out.2.1.keep hk, HI.out.2.2.keep hk, hP⟩

end Go.Proofs.YtlghjfpkfdnfoaaGreatDoor
