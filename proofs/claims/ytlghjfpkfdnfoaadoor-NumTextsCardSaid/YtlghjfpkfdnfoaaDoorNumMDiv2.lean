/- num.floored -/
import Derived.Test.YtlghjfpkfdnfoaaDoorNumMDivideSmall
namespace Go.Proofs.YtlghjfpkfdnfoaaDoor
open Go Go.RowKit Go.Shelf

/-- two integers' variables, and two variables for results -/
structure Flo (w : World) (na nb : Bool) (va vb : Value) (W : World) : Prop where
  below : Below w.heap.size w W
  size : w.heap.size + 4 ≤ W.heap.size
  a : RowAt W w.heap.size 24 [.bool na, va]
  b : RowAt W (w.heap.size + 1) 24 [.bool nb, vb]
  q : ∃ n a m c, RowAt W (w.heap.size + 1 + 1) 24 [.bool n, .slice a m c]
  r : ∃ n a m c, RowAt W (w.heap.size + 1 + 1 + 1) 24 [.bool n, .slice a m c]
theorem Flo.start (w : World) (na nb : Bool) (va vb : Value) :
    Flo w na nb va vb ((((w.alloc (.cells #[.bool na, va] 24)).alloc (.cells #[.bool nb, vb] 24)).alloc (.cells #[.bool false, .slice none 0 0] 24)).alloc (.cells #[.bool false, .slice none 0 0] 24)) := by
  have q1 := RowAt.new (w.alloc (.cells #[.bool na, va] 24)) 24 [.bool nb, vb]
  have q2 := RowAt.new ((w.alloc (.cells #[.bool na, va] 24)).alloc (.cells #[.bool nb, vb] 24)) 24 [.bool false, .slice none 0 0]
  have q3 := RowAt.new (((w.alloc (.cells #[.bool na, va] 24)).alloc (.cells #[.bool nb, vb] 24)).alloc (.cells #[.bool false, .slice none 0 0] 24)) 24 [.bool false, .slice none 0 0]
  simp only [World.size_alloc] at q1 q2 q3
  exact ⟨((((Below.refl w.heap.size w).alloc (Nat.le_refl _) _).alloc (by simp) _).alloc (by simp; omega) _).alloc (by simp; omega) _, by simp,
    (((RowAt.new w 24 [.bool na, va]).alloc _).alloc _).alloc _, (q1.alloc _).alloc _, ⟨false, none, 0, 0, q2.alloc _⟩, ⟨false, none, 0, 0, q3⟩⟩
theorem Flo.step {w W W' : World} {na nb : Bool} {va vb : Value} (h : Flo w na nb va vb W) (hb : Below W.heap.size W W') : Flo w na nb va vb W' := by
  obtain ⟨n, a, m, c, hq⟩ := h.q
  obtain ⟨n', a', m', c', hr⟩ := h.r
  exact ⟨h.below.trans (hb.mono (by have := h.size; omega)), Nat.le_trans h.size hb.size, h.a.below hb, h.b.below hb, ⟨n, a, m, c, hq.below hb⟩, ⟨n', a', m', c', hr.below hb⟩⟩
theorem Flo.drew {w W : World} {na nb : Bool} {va vb : Value} (h : Flo w na nb va vb W) : Flo w na nb va vb W.drew := ⟨h.below.drew, h.size, h.a, h.b, h.q, h.r⟩
theorem Flo.cells {w W : World} {na nb : Bool} {va vb : Value} (h : Flo w na nb va vb W) : W.cell? ⟨w.heap.size, 0, none⟩ = some (.bool na) ∧ W.cell? ⟨w.heap.size, 1, none⟩ = some va ∧ W.cell? ⟨w.heap.size + 1, 0, none⟩ = some (.bool nb) ∧ W.cell? ⟨w.heap.size + 1, 1, none⟩ = some vb :=
  ⟨h.a.cell 0, h.a.cell 1, h.b.cell 0, h.b.cell 1⟩
theorem Flo.outs {w W : World} {na nb : Bool} {va vb : Value} (h : Flo w na nb va vb W) : ∃ n a m c n' a' m' c', W.cell? ⟨w.heap.size + 1 + 1, 0, none⟩ = some (.bool n) ∧ W.cell? ⟨w.heap.size + 1 + 1, 1, none⟩ = some (.slice a m c) ∧ W.cell? ⟨w.heap.size + 1 + 1 + 1, 0, none⟩ = some (.bool n') ∧ W.cell? ⟨w.heap.size + 1 + 1 + 1, 1, none⟩ = some (.slice a' m' c')
    ∧ W.frozen? ⟨w.heap.size + 1 + 1, 0, none⟩ = false ∧ W.frozen? ⟨w.heap.size + 1 + 1, 1, none⟩ = false ∧ W.frozen? ⟨w.heap.size + 1 + 1 + 1, 0, none⟩ = false ∧ W.frozen? ⟨w.heap.size + 1 + 1 + 1, 1, none⟩ = false := by
  obtain ⟨n, a, m, c, hq⟩ := h.q
  obtain ⟨n', a', m', c', hr⟩ := h.r
  exact ⟨n, a, m, c, n', a', m', c', hq.cell 0, hq.cell 1, hr.cell 0, hr.cell 1, hq.frozen 0, hq.frozen 1, hr.frozen 0, hr.frozen 1⟩
theorem Flo.storeQ {w W : World} {na nb : Bool} {va vb : Value} (h : Flo w na nb va vb W) (x : Bool) (a : Option Addr) (m c : Nat) : Flo w na nb va vb ((W.setCell ⟨w.heap.size + 1 + 1, 0, none⟩ (.bool x)).setCell ⟨w.heap.size + 1 + 1, 1, none⟩ (.slice a m c)) := by
  obtain ⟨n0, a0, m0, c0, hq⟩ := h.q
  obtain ⟨n', a', m', c', hr⟩ := h.r
  exact ⟨(h.below.setCell (by simp; omega) _).setCell (by simp; omega) _, by simpa using h.size, (h.a.other (by simp; omega) _).other (by simp; omega) _, (h.b.other (by simp) _).other (by simp) _,
    ⟨x, a, m, c, (hq.set 0 (.bool x)).set 1 (.slice a m c)⟩, ⟨n', a', m', c', (hr.other (by simp) _).other (by simp) _⟩⟩
theorem Flo.storeR {w W : World} {na nb : Bool} {va vb : Value} (h : Flo w na nb va vb W) (x : Bool) (a : Option Addr) (m c : Nat) : Flo w na nb va vb ((W.setCell ⟨w.heap.size + 1 + 1 + 1, 0, none⟩ (.bool x)).setCell ⟨w.heap.size + 1 + 1 + 1, 1, none⟩ (.slice a m c)) := by
  obtain ⟨n0, a0, m0, c0, hq⟩ := h.q
  obtain ⟨n', a', m', c', hr⟩ := h.r
  exact ⟨(h.below.setCell (by simp; omega) _).setCell (by simp; omega) _, by simpa using h.size, (h.a.other (by simp; omega) _).other (by simp; omega) _, (h.b.other (by simp) _).other (by simp) _,
    ⟨n0, a0, m0, c0, (hq.other (by simp) _).other (by simp) _⟩, ⟨x, a, m, c, (hr.set 0 (.bool x)).set 1 (.slice a m c)⟩⟩
def KeepR (W W' : World) : Prop := ∀ v xs, Reads .u32 W v xs → Reads .u32 W' v xs
@[reducible] def FloS (w w1 : World) (na nb : Bool) (va vb : Value) (W : World) : Prop := W.cell? ⟨w.heap.size, 0, none⟩ = some (.bool na) ∧ W.cell? ⟨w.heap.size, 1, none⟩ = some va ∧ W.cell? ⟨w.heap.size + 1, 0, none⟩ = some (.bool nb) ∧ W.cell? ⟨w.heap.size + 1, 1, none⟩ = some vb ∧ Flo w na nb va vb W ∧ KeepR w1 W
theorem floS_of {w w1 W : World} {na nb : Bool} {va vb : Value} (h : Flo w na nb va vb W) (hk : KeepR w1 W) : FloS w w1 na nb va vb W := ⟨h.cells.1, h.cells.2.1, h.cells.2.2.1, h.cells.2.2.2, h, hk⟩
theorem floS_step {w w1 W W' : World} {na nb : Bool} {va vb : Value} (h : Flo w na nb va vb W) (hk : KeepR w1 W) (hb : Below W.heap.size W W') : FloS w w1 na nb va vb W' := floS_of (h.step hb) fun v xs hv => (hk v xs hv).below hb
theorem floS_storeQ {w w1 W : World} {na nb : Bool} {va vb : Value} (h : Flo w na nb va vb W) (hk : KeepR w1 W) (x : Bool) (a : Option Addr) (m c : Nat) : FloS w w1 na nb va vb ((W.setCell ⟨w.heap.size + 1 + 1, 0, none⟩ (.bool x)).setCell ⟨w.heap.size + 1 + 1, 1, none⟩ (.slice a m c)) := by
  obtain ⟨n0, a0, m0, c0, n1, a1, m1, c1, o1, o2, o3, o4, -⟩ := h.outs
  exact floS_of (h.storeQ x a m c) fun v xs hv => two_kept (hk v xs hv) o1 o2 _ _
theorem floS_storeR {w w1 W : World} {na nb : Bool} {va vb : Value} (h : Flo w na nb va vb W) (hk : KeepR w1 W) (x : Bool) (a : Option Addr) (m c : Nat) : FloS w w1 na nb va vb ((W.setCell ⟨w.heap.size + 1 + 1 + 1, 0, none⟩ (.bool x)).setCell ⟨w.heap.size + 1 + 1 + 1, 1, none⟩ (.slice a m c)) := by
  obtain ⟨n0, a0, m0, c0, n1, a1, m1, c1, o1, o2, o3, o4, -⟩ := h.outs
  exact floS_of (h.storeR x a m c) fun v xs hv => two_kept (hk v xs hv) o3 o4 _ _
theorem four_reads {W : World} {b : Nat} {c0 c1 c2 c3 : Value} (o1 : W.cell? ⟨b, 0, none⟩ = some c0) (o2 : W.cell? ⟨b, 1, none⟩ = some c1) (o3 : W.cell? ⟨b + 1, 0, none⟩ = some c2) (o4 : W.cell? ⟨b + 1, 1, none⟩ = some c3) (x y x' y' : Value) :
    ((((W.setCell ⟨b, 0, none⟩ x).setCell ⟨b, 1, none⟩ y).setCell ⟨b + 1, 0, none⟩ x').setCell ⟨b + 1, 1, none⟩ y').cell? ⟨b, 0, none⟩ = some x ∧ ((((W.setCell ⟨b, 0, none⟩ x).setCell ⟨b, 1, none⟩ y).setCell ⟨b + 1, 0, none⟩ x').setCell ⟨b + 1, 1, none⟩ y').cell? ⟨b, 1, none⟩ = some y
    ∧ ((((W.setCell ⟨b, 0, none⟩ x).setCell ⟨b, 1, none⟩ y).setCell ⟨b + 1, 0, none⟩ x').setCell ⟨b + 1, 1, none⟩ y').cell? ⟨b + 1, 0, none⟩ = some x' ∧ ((((W.setCell ⟨b, 0, none⟩ x).setCell ⟨b, 1, none⟩ y).setCell ⟨b + 1, 0, none⟩ x').setCell ⟨b + 1, 1, none⟩ y').cell? ⟨b + 1, 1, none⟩ = some y' := by
  obtain ⟨s1, s2⟩ := two_reads o1 o2 x y
  have o5 : ((W.setCell ⟨b, 0, none⟩ x).setCell ⟨b, 1, none⟩ y).cell? ⟨b + 1, 0, none⟩ = some c2 := by rw [World.cell?_setCell_other _ _ _ _ (by simp), World.cell?_setCell_other _ _ _ _ (by simp)]; exact o3
  have o6 : ((W.setCell ⟨b, 0, none⟩ x).setCell ⟨b, 1, none⟩ y).cell? ⟨b + 1, 1, none⟩ = some c3 := by rw [World.cell?_setCell_other _ _ _ _ (by simp), World.cell?_setCell_other _ _ _ _ (by simp)]; exact o4
  obtain ⟨s3, s4⟩ := two_reads o5 o6 x' y'
  refine ⟨?_, ?_, s3, s4⟩
  · rw [World.cell?_setCell_other _ _ _ _ (by simp), World.cell?_setCell_other _ _ _ _ (by simp)]; exact s1
  · rw [World.cell?_setCell_other _ _ _ _ (by simp), World.cell?_setCell_other _ _ _ _ (by simp)]; exact s2

set_option maxHeartbeats 2000000 in
set_option maxRecDepth 100000 in
theorem floored_same (na : Bool) (va vb : Value) (xa xb : List Nat) (w : World) (ha : Reads .u32 w va xa) (hb : Reads .u32 w vb xb)
    (hdiv : ∀ W, Below w.heap.size w W → Calls Tryd.prog 105 #[va, vb] W fun e W' => DivRes W W' xa xb e) :
    Calls Tryd.prog 73 #[.agg #[.bool na, va], .agg #[.bool na, vb]] w fun e w' => Below w.heap.size w w' ∧ ∃ q r cs rs, e = .returned (.tuple #[.agg #[.bool false, q], .agg #[.bool (na && decide (0 < rs.length)), r]]) ∧ Reads .u32 w' q cs ∧ Reads .u32 w' r rs ∧ Canon cs ∧ Canon rs ∧ val cs = val xa / val xb ∧ val rs = val xa % val xb := by
  have f0 := Flo.start w na na va vb
  obtain ⟨aa, ca, rfl, hca, hma⟩ := ha.form
  obtain ⟨ab, cb, rfl, hcb, hmb⟩ := hb.form
  have F0 := Lib.hid f0
  clear f0
  go_enter Tryd.func73, Tryd.ntmps73
  go_wp2_with (first | (go_at_call 105; refine (hdiv _ F0.out.below).mono ?_; rintro e w1 ⟨hbe1, q, r, cs, rs, rfl, h1, h2, h3, h4, h5, h6⟩; have f1 := F0.out.step hbe1; clear hbe1; obtain ⟨aq, cq, rfl, hcq, hmq⟩ := h1.form; obtain ⟨ar, cr, rfl, hcr, hmr⟩ := h2.form; obtain ⟨p1, p2, p3, p4⟩ := f1.cells))
  go_region_held3 (fun W => W.cell? ⟨w.heap.size, 0, none⟩ = some (.bool na) ∧ W.cell? ⟨w.heap.size, 1, none⟩ = some (.slice aa xa.length ca) ∧ W.cell? ⟨w.heap.size + 1, 0, none⟩ = some (.bool na) ∧ W.cell? ⟨w.heap.size + 1, 1, none⟩ = some (.slice ab xb.length cb) ∧ Flo w na na (.slice aa xa.length ca) (.slice ab xb.length cb) W ∧ KeepR w1 W)
    (first | exact ⟨p1, p2, p3, p4, f1.drew, fun _ _ h => h⟩ | (go_split_ands; with_reducible refine floS_storeQ ?_ ?_ _ _ _ _ <;> assumption) | (go_split_ands; with_reducible refine floS_storeR ?_ ?_ _ _ _ _ <;> assumption) | (go_split_ands; exact floS_step (by assumption) (by assumption) (by assumption)))
    (first | (go_at_call 63; go_split_ands; refine (signed_any _ _ _ _ _).mono ?_; rintro e w2 ⟨hbe2, rfl⟩; obtain ⟨n0, a0, m0, c0, n9, a9, m9, c9, o1, o2, o3, o4, o5, o6, o7, o8⟩ := Flo.outs (Flo.step (by assumption) hbe2)))
  rename_i hT
  obtain ⟨s1, s2, s3, s4⟩ := four_reads (b := w.heap.size + 1 + 1) o1 o2 o3 o4 (.bool false) (.slice aq cs.length cq) (.bool (na && decide (0 < rs.length))) (.slice ar rs.length cr)
  have hlow := hT.2.2.2.2.1.below
  have hkeep := hT.2.2.2.2.2
  go_wp2
  exact bodyPost_ret (v := .tuple #[.agg #[.bool false, .slice aq cs.length cq], .agg #[.bool (na && decide (0 < rs.length)), .slice ar rs.length cr]]) (by simp [results, Tryd.results73, go_sem, loadCellsFrom, s1, s2, s3, s4]) rfl
    ⟨hlow, _, _, cs, rs, rfl, hkeep _ _ h1, hkeep _ _ h2, h3, h4, h5, h6⟩

set_option maxHeartbeats 2000000 in
set_option maxRecDepth 100000 in
theorem floored_exact (na : Bool) (va vb : Value) (xa xb : List Nat) (w : World) (ha : Reads .u32 w va xa) (hb : Reads .u32 w vb xb) (hz : val xa % val xb = 0)
    (hdiv : ∀ W, Below w.heap.size w W → Calls Tryd.prog 105 #[va, vb] W fun e W' => DivRes W W' xa xb e) :
    Calls Tryd.prog 73 #[.agg #[.bool na, va], .agg #[.bool (!na), vb]] w fun e w' => Below w.heap.size w w' ∧ ∃ q r cs rs, e = .returned (.tuple #[.agg #[.bool (decide (0 < cs.length)), q], .agg #[.bool ((!na) && decide (0 < rs.length)), r]]) ∧ Reads .u32 w' q cs ∧ Reads .u32 w' r rs ∧ Canon cs ∧ Canon rs ∧ val cs = val xa / val xb ∧ val rs = val xa % val xb := by
  have f0 := Flo.start w na (!na) va vb
  obtain ⟨aa, ca, rfl, hca, hma⟩ := ha.form
  obtain ⟨ab, cb, rfl, hcb, hmb⟩ := hb.form
  have F0 := Lib.hid f0
  clear f0
  go_enter Tryd.func73, Tryd.ntmps73
  go_wp2_with (first | (go_at_call 105; refine (hdiv _ F0.out.below).mono ?_; rintro e w1 ⟨hbe1, q, r, cs, rs, rfl, h1, h2, h3, h4, h5, h6⟩; have f1 := F0.out.step hbe1; clear hbe1; obtain ⟨aq, cq, rfl, hcq, hmq⟩ := h1.form; obtain ⟨ar, cr, rfl, hcr, hmr⟩ := h2.form; obtain ⟨p1, p2, p3, p4⟩ := f1.cells; obtain rfl : rs = [] := List.eq_nil_of_length_eq_zero (by have := canon_pos_iff h4; omega)))
  go_region_held3 (fun W => W.cell? ⟨w.heap.size, 0, none⟩ = some (.bool na) ∧ W.cell? ⟨w.heap.size, 1, none⟩ = some (.slice aa xa.length ca) ∧ W.cell? ⟨w.heap.size + 1, 0, none⟩ = some (.bool (!na)) ∧ W.cell? ⟨w.heap.size + 1, 1, none⟩ = some (.slice ab xb.length cb) ∧ Flo w na (!na) (.slice aa xa.length ca) (.slice ab xb.length cb) W ∧ KeepR w1 W)
    (first | exact ⟨p1, p2, p3, p4, f1.drew, fun _ _ h => h⟩ | (go_split_ands; with_reducible refine floS_storeQ ?_ ?_ _ _ _ _ <;> assumption) | (go_split_ands; with_reducible refine floS_storeR ?_ ?_ _ _ _ _ <;> assumption) | (go_split_ands; exact floS_step (by assumption) (by assumption) (by assumption)))
    (first | (go_at_call 63; go_split_ands; refine (signed_any _ _ _ _ _).mono ?_; rintro e w2 ⟨hbe2, rfl⟩; obtain ⟨n0, a0, m0, c0, n9, a9, m9, c9, o1, o2, o3, o4, o5, o6, o7, o8⟩ := Flo.outs (Flo.step (by assumption) hbe2)))
  rename_i hT
  obtain ⟨s1, s2, s3, s4⟩ := four_reads (b := w.heap.size + 1 + 1) o1 o2 o3 o4 (.bool (decide (0 < cs.length))) (.slice aq cs.length cq) (.bool false) (.slice ar 0 cr)
  have hlow := hT.2.2.2.2.1.below
  have hkeep := hT.2.2.2.2.2
  go_wp2
  exact bodyPost_ret (v := .tuple #[.agg #[.bool (decide (0 < cs.length)), .slice aq cs.length cq], .agg #[.bool false, .slice ar 0 cr]]) (by simp [results, Tryd.results73, go_sem, loadCellsFrom, s1, s2, s3, s4]) rfl
    ⟨hlow, _, _, cs, [], by simp, hkeep _ _ h1, hkeep _ _ h2, h3, h4, h5, h6⟩

set_option maxHeartbeats 2000000 in
set_option maxRecDepth 100000 in
theorem floored_rest (na : Bool) (va vb : Value) (xa xb : List Nat) (w : World) (ha : Reads .u32 w va xa) (hb : Reads .u32 w vb xb) (hka : Canon xa) (hkb : Canon xb) (la : xa.length ≤ 90000) (lb : xb.length ≤ 90000) (hb0 : 0 < val xb) (hz : val xa % val xb ≠ 0)
    (hdiv : ∀ W, Below w.heap.size w W → Calls Tryd.prog 105 #[va, vb] W fun e W' => DivRes W W' xa xb e) :
    Calls Tryd.prog 73 #[.agg #[.bool na, va], .agg #[.bool (!na), vb]] w fun e w' => Below w.heap.size w w' ∧ ∃ q r cs rs, e = .returned (.tuple #[.agg #[.bool (decide (0 < cs.length)), q], .agg #[.bool ((!na) && decide (0 < rs.length)), r]]) ∧ Reads .u32 w' q cs ∧ Reads .u32 w' r rs ∧ Canon cs ∧ Canon rs ∧ val cs = val xa / val xb + 1 ∧ val rs = val xb - val xa % val xb := by
  have f0 := Flo.start w na (!na) va vb
  obtain ⟨aa, ca, rfl, hca, hma⟩ := ha.form
  obtain ⟨ab, cb, rfl, hcb, hmb⟩ := hb.form
  have F0 := Lib.hid f0
  clear f0
  go_enter Tryd.func73, Tryd.ntmps73
  go_wp2_with (first | (go_at_call 105; refine (hdiv _ F0.out.below).mono ?_; rintro e w1 ⟨hbe1, q, r, cs, rs, rfl, h1, h2, h3, h4, h5, h6⟩; have f1 := F0.out.step hbe1; clear hbe1; obtain ⟨aq, cq, rfl, hcq, hmq⟩ := h1.form; obtain ⟨ar, cr, rfl, hcr, hmr⟩ := h2.form; obtain ⟨p1, p2, p3, p4⟩ := f1.cells; have hrs : 0 < rs.length := (canon_pos_iff h4).1 (by rw [h6]; exact Nat.pos_of_ne_zero hz); have hvr : val rs ≤ val xb := (by rw [h6]; exact Nat.le_of_lt (Nat.mod_lt _ hb0)); have hlr : rs.length ≤ xb.length := canon_le_length hkb h4 hvr; have hlc : cs.length ≤ 100000 := (Nat.le_trans (canon_le_length hka h3 (by rw [h5]; exact Nat.div_le_self _ _)) (by omega))) | (go_at_call 106; refine (one_any _).mono ?_; rintro e w5 ⟨hb5, v5, rfl, g5⟩; obtain ⟨a5, c5, rfl, hc5, hm5⟩ := g5.form) | (go_at_call 101; go_loud (refine (plus_any _ _ cs [1] _ (h1.below hb5) g5 h3.1 (by intro x hx; simp at hx; subst hx; decide) hlc (by simp)).mono ?_); rintro e w6 ⟨hb6, v6, cs6, rfl, g6, k6, e6⟩; obtain ⟨a6, c6, rfl, hc6, hm6⟩ := g6.form; have f6 := (f1.step hb5).step hb6; obtain ⟨p1, p2, p3, p4⟩ := f6.cells) | (go_at_call 102; go_loud (refine (minus_any _ _ xb rs _ (hb.below f6.below) (h2.below (hb5.trans (hb6.mono hb5.size))) hkb.1 h4.1 (by omega) hlr hvr).mono ?_); rintro e w7 ⟨hb7, v7, rs7, rfl, g7, k7, e7⟩; obtain ⟨a7, c7, rfl, hc7, hm7⟩ := g7.form; have f7 := f6.step hb7; obtain ⟨p1, p2, p3, p4⟩ := f7.cells; have g6' := g6.below hb7; clear hb5 hb6 hb7))
  go_region_held3 (fun W => W.cell? ⟨w.heap.size, 0, none⟩ = some (.bool na) ∧ W.cell? ⟨w.heap.size, 1, none⟩ = some (.slice aa xa.length ca) ∧ W.cell? ⟨w.heap.size + 1, 0, none⟩ = some (.bool (!na)) ∧ W.cell? ⟨w.heap.size + 1, 1, none⟩ = some (.slice ab xb.length cb) ∧ Flo w na (!na) (.slice aa xa.length ca) (.slice ab xb.length cb) W ∧ KeepR w7 W)
    (first | exact ⟨p1, p2, p3, p4, f7.drew, fun _ _ h => h⟩ | (go_split_ands; with_reducible refine floS_storeQ ?_ ?_ _ _ _ _ <;> assumption) | (go_split_ands; with_reducible refine floS_storeR ?_ ?_ _ _ _ _ <;> assumption) | (go_split_ands; exact floS_step (by assumption) (by assumption) (by assumption)))
    (first | (go_at_call 63; go_split_ands; refine (signed_any _ _ _ _ _).mono ?_; rintro e w2 ⟨hbe2, rfl⟩; obtain ⟨n0, a0, m0, c0, n9, a9, m9, c9, o1, o2, o3, o4, o5, o6, o7, o8⟩ := Flo.outs (Flo.step (by assumption) hbe2)))
  rename_i hT
  obtain ⟨s1, s2, s3, s4⟩ := four_reads (b := w.heap.size + 1 + 1) o1 o2 o3 o4 (.bool (decide (0 < cs6.length))) (.slice a6 cs6.length c6) (.bool ((!na) && decide (0 < rs7.length))) (.slice a7 rs7.length c7)
  have hlow := hT.2.2.2.2.1.below
  have hkeep := hT.2.2.2.2.2
  go_wp2
  exact bodyPost_ret (v := .tuple #[.agg #[.bool (decide (0 < cs6.length)), .slice a6 cs6.length c6], .agg #[.bool ((!na) && decide (0 < rs7.length)), .slice a7 rs7.length c7]]) (by simp [results, Tryd.results73, go_sem, loadCellsFrom, s1, s2, s3, s4]) rfl
    ⟨hlow, _, _, cs6, rs7, rfl, hkeep _ _ g6', hkeep _ _ g7, k6, k7, by rw [e6, h5]; simp [val], by rw [e7, h6]⟩

end Go.Proofs.YtlghjfpkfdnfoaaDoor

/- num.floored over integers -/
namespace Go.Proofs.YtlghjfpkfdnfoaaDoor
open Go Go.RowKit Go.Shelf

theorem fdiv_unique {i j q r : Int} (h : i = j * q + r) (hr : (0 ≤ r ∧ r < j) ∨ (j < r ∧ r ≤ 0)) : i.fdiv j = q ∧ i.fmod j = r := by
  have hq : i.fdiv j = q := by
    rcases hr with ⟨h1, h2⟩ | ⟨h1, h2⟩
    · rw [Int.fdiv_eq_ediv_of_nonneg _ (by omega)]
      exact ((Int.ediv_emod_unique (a := i) (b := j) (r := r) (q := q) (by omega)).2 ⟨by omega, h1, h2⟩).1
    · rw [← Int.neg_fdiv_neg, Int.fdiv_eq_ediv_of_nonneg _ (by omega)]
      exact ((Int.ediv_emod_unique (a := -i) (b := -j) (r := -r) (q := q) (by omega)).2 ⟨by rw [h, Int.neg_mul]; omega, by omega, by omega⟩).1
  refine ⟨hq, ?_⟩
  rw [Int.fmod_def, hq]; omega
theorem sgn_div_same (n : Bool) (A B : Nat) (hB : 0 < B) : (sgn n A).fdiv (sgn n B) = sgn false (A / B) ∧ (sgn n A).fmod (sgn n B) = sgn n (A % B) := by
  have h1 := Nat.div_add_mod A B
  have h2 := Nat.mod_lt A hB
  have h3 : (A : Int) = (B : Int) * ((A / B : Nat) : Int) + ((A % B : Nat) : Int) := by exact_mod_cast h1.symm
  generalize A / B = Q at *
  generalize A % B = R at *
  apply fdiv_unique
  · cases n <;> simp only [sgn, if_true, Bool.false_eq_true, if_false]
    · exact h3
    · rw [Int.neg_mul]; omega
  · cases n <;> simp only [sgn, if_true, Bool.false_eq_true, if_false]
    · left; omega
    · right; omega
theorem sgn_div_exact (n : Bool) (A B : Nat) (hB : 0 < B) (hz : A % B = 0) : (sgn n A).fdiv (sgn (!n) B) = sgn true (A / B) ∧ (sgn n A).fmod (sgn (!n) B) = 0 := by
  have h1 := Nat.div_add_mod A B
  have h3 : (A : Int) = (B : Int) * ((A / B : Nat) : Int) := by rw [hz] at h1; exact_mod_cast h1.symm
  generalize A / B = Q at *
  apply fdiv_unique
  · cases n <;> simp only [sgn, if_true, Bool.false_eq_true, if_false, Bool.not_true, Bool.not_false]
    · rw [Int.neg_mul_neg]; omega
    · rw [Int.mul_neg]; omega
  · cases n <;> simp only [sgn, if_true, Bool.false_eq_true, if_false, Bool.not_true, Bool.not_false]
    · right; omega
    · left; omega
theorem sgn_div_rest (n : Bool) (A B : Nat) (hB : 0 < B) (hz : A % B ≠ 0) : (sgn n A).fdiv (sgn (!n) B) = sgn true (A / B + 1) ∧ (sgn n A).fmod (sgn (!n) B) = sgn (!n) (B - A % B) := by
  have h1 := Nat.div_add_mod A B
  have h2 := Nat.mod_lt A hB
  have h3 : (A : Int) = (B : Int) * ((A / B : Nat) : Int) + ((A % B : Nat) : Int) := by exact_mod_cast h1.symm
  generalize A / B = Q at *
  generalize A % B = R at *
  have h4 : ((B - R : Nat) : Int) = B - R := by omega
  apply fdiv_unique
  · cases n <;> simp only [sgn, if_true, Bool.false_eq_true, if_false, Bool.not_true, Bool.not_false, h4, Int.natCast_add, Int.natCast_one]
    · rw [Int.neg_mul_neg, Int.mul_add]; omega
    · rw [Int.mul_neg, Int.mul_add]; omega
  · cases n <;> simp only [sgn, if_true, Bool.false_eq_true, if_false, Bool.not_true, Bool.not_false, h4]
    · right; omega
    · left; omega

theorem floored_any (a b : Value) (i j : Int) (w : World) (ha : IsInt w a i) (hb : IsInt w b j) (hi : i.natAbs < B32 ^ 90000) (hj : j.natAbs < B32 ^ 90000) (hj0 : j ≠ 0)
    (hdiv : ∀ va vb xa xb, Canon xa → Canon xb → val xa = i.natAbs → val xb = j.natAbs → Reads .u32 w va xa → Reads .u32 w vb xb → ∀ W, Below w.heap.size w W → Calls Tryd.prog 105 #[va, vb] W fun e W' => DivRes W W' xa xb e) :
    Calls Tryd.prog 73 #[a, b] w fun e w' => Below w.heap.size w w' ∧ ∃ q r, e = .returned (.tuple #[q, r]) ∧ IsInt w' q (i.fdiv j) ∧ IsInt w' r (i.fmod j) := by
  obtain ⟨na, va, xa, rfl, hra, hca, hna, rfl⟩ := ha
  obtain ⟨nb, vb, xb, rfl, hrb, hcb, hnb, rfl⟩ := hb
  rw [sgn_natAbs] at hi hj
  have la := canon_length_le hca hi
  have lb := canon_length_le hcb hj
  have hB : 0 < val xb := Nat.pos_of_ne_zero (fun e => hj0 (by rw [e]; cases nb <;> rfl))
  have hd := hdiv va vb xa xb hca hcb (sgn_natAbs _ _).symm (sgn_natAbs _ _).symm hra hrb
  by_cases hn : nb = na
  · subst hn
    obtain ⟨m1, m2⟩ := sgn_div_same nb (val xa) (val xb) hB
    refine (floored_same nb va vb xa xb w hra hrb hd).mono ?_
    rintro e w' ⟨hbe, q, r, cs, rs, rfl, h1, h2, h3, h4, h5, h6⟩
    exact ⟨hbe, _, _, rfl, ⟨false, q, cs, rfl, h1, h3, rfl, by rw [m1, h5]⟩, isInt_mk nb h2 h4 (by rw [m2, h6])⟩
  · obtain rfl : nb = !na := by cases na <;> cases nb <;> first | rfl | exact absurd rfl hn
    by_cases hz : val xa % val xb = 0
    · obtain ⟨m1, m2⟩ := sgn_div_exact na (val xa) (val xb) hB hz
      refine (floored_exact na va vb xa xb w hra hrb hz hd).mono ?_
      rintro e w' ⟨hbe, q, r, cs, rs, rfl, h1, h2, h3, h4, h5, h6⟩
      exact ⟨hbe, _, _, rfl, by simpa using isInt_mk true h1 h3 (i := _) (by rw [m1, h5]), isInt_mk (!na) h2 h4 (by rw [m2, h6, hz]; cases na <;> rfl)⟩
    · obtain ⟨m1, m2⟩ := sgn_div_rest na (val xa) (val xb) hB hz
      refine (floored_rest na va vb xa xb w hra hrb hca hcb la lb hB hz hd).mono ?_
      rintro e w' ⟨hbe, q, r, cs, rs, rfl, h1, h2, h3, h4, h5, h6⟩
      exact ⟨hbe, _, _, rfl, by simpa using isInt_mk true h1 h3 (i := _) (by rw [m1, h5]), isInt_mk (!na) h2 h4 (by rw [m2, h6])⟩

end Go.Proofs.YtlghjfpkfdnfoaaDoor

/- num.Div -/
namespace Go.Proofs.YtlghjfpkfdnfoaaDoor
open Go Go.RowKit Go.Shelf

set_option maxHeartbeats 1000000 in
set_option maxRecDepth 100000 in
theorem div1_no (B : Nat) (na nb : Bool) (aa ab : Option Addr) (ca cb : Nat) (xa xb : List Nat) (r0 : Bool) (r1 : Option Addr) (r2 r3 : Nat) (t0 : Bool) (t1 : Option Addr) (t2 t3 : Nat) (w : World) (hra : RowAt w B 24 [.bool na, .slice aa xa.length ca]) (hrb : RowAt w (B + 1) 24 [.bool nb, .slice ab xb.length cb])
    (_hQ : RowAt w (B + 2) 24 [.bool r0, .slice r1 r2 r3]) (_hR : RowAt w (B + 3) 24 [.bool t0, .slice t1 t2 t3]) (ha : Reads .u32 w (.slice aa xa.length ca) xa) (hla : Limbs xa) (fa : formedB na xa = false) :
    Calls Tryd.prog 72 #[.pointer (some ⟨B, 0, none⟩), .pointer (some ⟨B + 1, 0, none⟩), .pointer (some ⟨B + 2, 0, none⟩), .pointer (some ⟨B + 3, 0, none⟩)] w fun e w' => Below w.heap.size w w' ∧ e = .panicked [{ v := .iface 27 (.int .i64 1), recovered := false }] := by
  have a0 := hra.cell 0
  have a1 := hra.cell 1
  have b0 := hrb.cell 0
  have b1 := hrb.cell 1
  simp only [List.getElem?_cons_zero, List.getElem?_cons_succ] at a0 a1 b0 b1
  have r0' := RowAt.new w 24 [.bool na, .slice aa xa.length ca, .bool nb, .slice ab xb.length cb]
  have bw := (Below.refl w.heap.size w).alloc (Nat.le_refl _) (.cells #[.bool na, .slice aa xa.length ca, .bool nb, .slice ab xb.length cb] 24)
  go_enter Tryd.func72, Tryd.ntmps72
  go_wp2_with (go_at_call 59; refine (demand2_no _ na nb aa ab ca cb xa xb _ r0' (ha.below bw) hla fa).mono ?_; rintro e w1 ⟨hbe1, rfl⟩; have bw1 := bw.trans (hbe1.mono (by simp)))
  exact ⟨rfl, bw1, rfl⟩

set_option maxHeartbeats 1000000 in
set_option maxRecDepth 100000 in
theorem div1_okno (B : Nat) (na nb : Bool) (aa ab : Option Addr) (ca cb : Nat) (xa xb : List Nat) (r0 : Bool) (r1 : Option Addr) (r2 r3 : Nat) (t0 : Bool) (t1 : Option Addr) (t2 t3 : Nat) (w : World) (hra : RowAt w B 24 [.bool na, .slice aa xa.length ca]) (hrb : RowAt w (B + 1) 24 [.bool nb, .slice ab xb.length cb])
    (_hQ : RowAt w (B + 2) 24 [.bool r0, .slice r1 r2 r3]) (_hR : RowAt w (B + 3) 24 [.bool t0, .slice t1 t2 t3]) (ha : Reads .u32 w (.slice aa xa.length ca) xa) (hla : Limbs xa) (fa : formedB na xa = true) (hb : Reads .u32 w (.slice ab xb.length cb) xb) (hlb : Limbs xb) (fb : formedB nb xb = false) :
    Calls Tryd.prog 72 #[.pointer (some ⟨B, 0, none⟩), .pointer (some ⟨B + 1, 0, none⟩), .pointer (some ⟨B + 2, 0, none⟩), .pointer (some ⟨B + 3, 0, none⟩)] w fun e w' => Below w.heap.size w w' ∧ e = .panicked [{ v := .iface 27 (.int .i64 1), recovered := false }] := by
  have a0 := hra.cell 0
  have a1 := hra.cell 1
  have b0 := hrb.cell 0
  have b1 := hrb.cell 1
  simp only [List.getElem?_cons_zero, List.getElem?_cons_succ] at a0 a1 b0 b1
  have r0' := RowAt.new w 24 [.bool na, .slice aa xa.length ca, .bool nb, .slice ab xb.length cb]
  have bw := (Below.refl w.heap.size w).alloc (Nat.le_refl _) (.cells #[.bool na, .slice aa xa.length ca, .bool nb, .slice ab xb.length cb] 24)
  go_enter Tryd.func72, Tryd.ntmps72
  go_wp2_with (go_at_call 59; refine (demand2_okno _ na nb aa ab ca cb xa xb _ r0' (ha.below bw) hla fa (hb.below bw) hlb fb).mono ?_; rintro e w1 ⟨hbe1, rfl⟩; have bw1 := bw.trans (hbe1.mono (by simp)))
  exact ⟨rfl, bw1, rfl⟩

set_option maxHeartbeats 1000000 in
set_option maxRecDepth 100000 in
theorem div1_zero (B : Nat) (na nb : Bool) (aa ab : Option Addr) (ca cb : Nat) (xa xb : List Nat) (r0 : Bool) (r1 : Option Addr) (r2 r3 : Nat) (t0 : Bool) (t1 : Option Addr) (t2 t3 : Nat) (w : World) (hra : RowAt w B 24 [.bool na, .slice aa xa.length ca]) (hrb : RowAt w (B + 1) 24 [.bool nb, .slice ab xb.length cb])
    (_hQ : RowAt w (B + 2) 24 [.bool r0, .slice r1 r2 r3]) (_hR : RowAt w (B + 3) 24 [.bool t0, .slice t1 t2 t3]) (ha : Reads .u32 w (.slice aa xa.length ca) xa) (hb : Reads .u32 w (.slice ab xb.length cb) xb) (hla : Limbs xa) (hlb : Limbs xb) (fa : formedB na xa = true) (fb : formedB nb xb = true) (hz : xb.length = 0) :
    Calls Tryd.prog 72 #[.pointer (some ⟨B, 0, none⟩), .pointer (some ⟨B + 1, 0, none⟩), .pointer (some ⟨B + 2, 0, none⟩), .pointer (some ⟨B + 3, 0, none⟩)] w fun e w' => Below w.heap.size w w' ∧ e = .panicked [{ v := .iface 27 (.int .i64 20), recovered := false }] := by
  have a0 := hra.cell 0
  have a1 := hra.cell 1
  have b0 := hrb.cell 0
  have b1 := hrb.cell 1
  simp only [List.getElem?_cons_zero, List.getElem?_cons_succ] at a0 a1 b0 b1
  have r0' := RowAt.new w 24 [.bool na, .slice aa xa.length ca, .bool nb, .slice ab xb.length cb]
  have bw := (Below.refl w.heap.size w).alloc (Nat.le_refl _) (.cells #[.bool na, .slice aa xa.length ca, .bool nb, .slice ab xb.length cb] 24)
  have HZ := Lib.hid hz
  clear hz
  go_enter Tryd.func72, Tryd.ntmps72
  go_wp2_with (first | (go_at_call 59; refine (demand2_okok _ na nb aa ab ca cb xa xb _ r0' (ha.below bw) hla fa (hb.below bw) hlb fb).mono ?_; rintro e w1 ⟨hbe1, rfl⟩; have bw1 := bw.trans (hbe1.mono (by simp)); have p1 := (hra.below bw1).cell 0; have p2 := (hra.below bw1).cell 1; have p3 := (hrb.below bw1).cell 0; have p4 := (hrb.below bw1).cell 1; simp only [List.getElem?_cons_zero, List.getElem?_cons_succ] at p1 p2 p3 p4) | (go_at_call 60; refine (demand_no _ _ _ (by simp [HZ.out])).mono ?_; rintro e w2 ⟨rfl, rfl⟩))
  exact ⟨rfl, bw1, rfl⟩

set_option maxHeartbeats 1000000 in
set_option maxRecDepth 100000 in
theorem div1_ok (B : Nat) (na nb : Bool) (aa ab : Option Addr) (ca cb : Nat) (xa xb : List Nat) (r0 : Bool) (r1 : Option Addr) (r2 r3 : Nat) (t0 : Bool) (t1 : Option Addr) (t2 t3 : Nat) (w : World) (hra : RowAt w B 24 [.bool na, .slice aa xa.length ca]) (hrb : RowAt w (B + 1) 24 [.bool nb, .slice ab xb.length cb])
    (hQ : RowAt w (B + 2) 24 [.bool r0, .slice r1 r2 r3]) (hR : RowAt w (B + 3) 24 [.bool t0, .slice t1 t2 t3]) (ha : Reads .u32 w (.slice aa xa.length ca) xa) (hb : Reads .u32 w (.slice ab xb.length cb) xb) (hla : Limbs xa) (hlb : Limbs xb) (fa : formedB na xa = true) (fb : formedB nb xb = true) (hz : xb.length ≠ 0) (q r : Int)
    (hop : ∀ W, Below w.heap.size w W → Calls Tryd.prog 73 #[.agg #[.bool na, .slice aa xa.length ca], .agg #[.bool nb, .slice ab xb.length cb]] W fun e W' => Below W.heap.size W W' ∧ ∃ v1 v2, e = .returned (.tuple #[v1, v2]) ∧ IsInt W' v1 q ∧ IsInt W' v2 r) :
    Calls Tryd.prog 72 #[.pointer (some ⟨B, 0, none⟩), .pointer (some ⟨B + 1, 0, none⟩), .pointer (some ⟨B + 2, 0, none⟩), .pointer (some ⟨B + 3, 0, none⟩)] w fun e w' => e = .returned (.tuple #[]) ∧ Chg (fun k => k = B + 2 ∨ k = B + 3) w w' ∧ ∃ n a m c n' a' m' c', RowAt w' (B + 2) 24 [.bool n, .slice a m c] ∧ RowAt w' (B + 3) 24 [.bool n', .slice a' m' c'] ∧ IsInt w' (.agg #[.bool n, .slice a m c]) q ∧ IsInt w' (.agg #[.bool n', .slice a' m' c']) r := by
  have a0 := hra.cell 0
  have a1 := hra.cell 1
  have b0 := hrb.cell 0
  have b1 := hrb.cell 1
  simp only [List.getElem?_cons_zero, List.getElem?_cons_succ] at a0 a1 b0 b1
  have r0' := RowAt.new w 24 [.bool na, .slice aa xa.length ca, .bool nb, .slice ab xb.length cb]
  have bw := (Below.refl w.heap.size w).alloc (Nat.le_refl _) (.cells #[.bool na, .slice aa xa.length ca, .bool nb, .slice ab xb.length cb] 24)
  go_enter Tryd.func72, Tryd.ntmps72
  go_wp2_with (first | (go_at_call 59; refine (demand2_okok _ na nb aa ab ca cb xa xb _ r0' (ha.below bw) hla fa (hb.below bw) hlb fb).mono ?_; rintro e w1 ⟨hbe1, rfl⟩; have bw1 := bw.trans (hbe1.mono (by simp)); have p1 := (hra.below bw1).cell 0; have p2 := (hra.below bw1).cell 1; have p3 := (hrb.below bw1).cell 0; have p4 := (hrb.below bw1).cell 1; simp only [List.getElem?_cons_zero, List.getElem?_cons_succ] at p1 p2 p3 p4) | (go_at_call 60; refine (demand_ok _ _ _ (by simp; omega)).mono ?_; rintro e w2 ⟨rfl, rfl⟩) | (go_at_call 73; refine (hop _ bw1).mono ?_; rintro e w3 ⟨hbe3, v1, v2, rfl, ⟨n1, z1, x1, rfl, g1, k1, l1, m1⟩, ⟨n2, z2, x2, rfl, g2, k2, l2, m2⟩⟩; have bw3 := bw1.trans (hbe3.mono bw1.size); obtain ⟨y1, c1, rfl, -, -⟩ := g1.form; obtain ⟨y2, c2, rfl, -, -⟩ := g2.form; have sq := hQ.below bw3; have sr := hR.below bw3; have o1 := sq.cell 0; have o2 := sq.cell 1; have o3 := sr.cell 0; have o4 := sr.cell 1; have o5 := sq.frozen 0; have o6 := sq.frozen 1; have o7 := sr.frozen 0; have o8 := sr.frozen 1; simp only [List.getElem?_cons_zero, List.getElem?_cons_succ] at o1 o2 o3 o4))
  go_end0
  have o3' : ((w3.setCell ⟨B + 2, 0, none⟩ (.bool n1)).setCell ⟨B + 2, 1, none⟩ (.slice y1 x1.length c1)).cell? ⟨B + 3, 0, none⟩ = some (.bool t0) := by rw [World.cell?_setCell_other _ _ _ _ (by simp), World.cell?_setCell_other _ _ _ _ (by simp)]; exact o3
  have o4' : ((w3.setCell ⟨B + 2, 0, none⟩ (.bool n1)).setCell ⟨B + 2, 1, none⟩ (.slice y1 x1.length c1)).cell? ⟨B + 3, 1, none⟩ = some (.slice t1 t2 t3) := by rw [World.cell?_setCell_other _ _ _ _ (by simp), World.cell?_setCell_other _ _ _ _ (by simp)]; exact o4
  have hk : ∀ v xs, Reads .u32 w3 v xs → Reads .u32 ((((w3.setCell ⟨B + 2, 0, none⟩ (.bool n1)).setCell ⟨B + 2, 1, none⟩ (.slice y1 x1.length c1)).setCell ⟨B + 3, 0, none⟩ (.bool n2)).setCell ⟨B + 3, 1, none⟩ (.slice y2 x2.length c2)) v xs :=
    fun v xs h => two_kept (b := B + 3) (two_kept (b := B + 2) h o1 o2 _ _) o3' o4' _ _
  exact ⟨rfl, ((((((Chg.refl (fun k => k = B + 2 ∨ k = B + 3) w).thenBelow bw3).setCell (p := ⟨B + 2, 0, none⟩) (.inl (.inl rfl)) _).setCell (p := ⟨B + 2, 1, none⟩) (.inl (.inl rfl)) _).setCell (p := ⟨B + 3, 0, none⟩) (.inl (.inr rfl)) _).setCell (p := ⟨B + 3, 1, none⟩) (.inl (.inr rfl)) _),
    n1, y1, x1.length, c1, n2, y2, x2.length, c2, ((((sq.set 0 (.bool n1)).set 1 (.slice y1 x1.length c1)).other (by simp) _).other (by simp) _), ((((sr.other (by simp) _).other (by simp) _).set 0 (.bool n2)).set 1 (.slice y2 x2.length c2)),
    ⟨n1, _, x1, rfl, hk _ _ g1, k1, l1, m1⟩, ⟨n2, _, x2, rfl, hk _ _ g2, k2, l2, m2⟩⟩

end Go.Proofs.YtlghjfpkfdnfoaaDoor

/- num.Div whole -/
namespace Go.Proofs.YtlghjfpkfdnfoaaDoor
open Go Go.RowKit Go.Shelf

def DivOut (fa fb : Bool) (lb : Nat) (q r : Int) (k : Int) (W : World) (v1 v2 : Value) : Prop :=
  if (fa && fb) = true then (if lb = 0 then k = 20 ∧ v1 = zeroInt ∧ v2 = zeroInt else k = 0 ∧ IsInt W v1 q ∧ IsInt W v2 r) else k = 1 ∧ v1 = zeroInt ∧ v2 = zeroInt
theorem DivOut.keep {fa fb : Bool} {lb : Nat} {q r k : Int} {W W' : World} {v1 v2 : Value} (h : DivOut fa fb lb q r k W v1 v2) (hk : ∀ v xs, Reads .u32 W v xs → Reads .u32 W' v xs) : DivOut fa fb lb q r k W' v1 v2 := by
  unfold DivOut at *
  by_cases h1 : (fa && fb) = true
  · rw [if_pos h1] at h ⊢
    by_cases h2 : lb = 0
    · rw [if_pos h2] at h ⊢
      exact h
    · rw [if_neg h2] at h ⊢
      exact ⟨h.1, h.2.1.keep hk, h.2.2.keep hk⟩
  · rw [if_neg h1] at h ⊢
    exact h

/-- two results' variables that hold what they hold -/
structure PairS (w w1 : World) (b : Nat) (n : Bool) (a : Option Addr) (m c : Nat) (n' : Bool) (a' : Option Addr) (m' c' : Nat) (W : World) : Prop where
  low : w.heap.size ≤ b
  below : Below w.heap.size w W
  q : RowAt W b 24 [.bool n, .slice a m c]
  r : RowAt W (b + 1) 24 [.bool n', .slice a' m' c']
  keep : KeepR w1 W
@[reducible] def PairC (w w1 : World) (b : Nat) (n : Bool) (a : Option Addr) (m c : Nat) (n' : Bool) (a' : Option Addr) (m' c' : Nat) (W : World) : Prop :=
  W.cell? ⟨b, 0, none⟩ = some (.bool n) ∧ W.cell? ⟨b, 1, none⟩ = some (.slice a m c) ∧ W.cell? ⟨b + 1, 0, none⟩ = some (.bool n') ∧ W.cell? ⟨b + 1, 1, none⟩ = some (.slice a' m' c') ∧ W.frozen? ⟨b, 0, none⟩ = false ∧ W.frozen? ⟨b, 1, none⟩ = false ∧ W.frozen? ⟨b + 1, 0, none⟩ = false ∧ W.frozen? ⟨b + 1, 1, none⟩ = false ∧ PairS w w1 b n a m c n' a' m' c' W
section
variable {w w1 W : World} {b : Nat} {n : Bool} {a : Option Addr} {m c : Nat} {n' : Bool} {a' : Option Addr} {m' c' : Nat}
theorem pair_of (h : PairS w w1 b n a m c n' a' m' c' W) : PairC w w1 b n a m c n' a' m' c' W := ⟨h.q.cell 0, h.q.cell 1, h.r.cell 0, h.r.cell 1, h.q.frozen 0, h.q.frozen 1, h.r.frozen 0, h.r.frozen 1, h⟩
theorem pair_drew (h : PairS w w1 b n a m c n' a' m' c' W) : PairC w w1 b n a m c n' a' m' c' W.drew := pair_of ⟨h.low, h.below.drew, h.q, h.r, h.keep⟩
theorem pair_q (h : PairS w w1 b n a m c n' a' m' c' W) : PairC w w1 b n a m c n' a' m' c' ((W.setCell ⟨b, 0, none⟩ (.bool n)).setCell ⟨b, 1, none⟩ (.slice a m c)) :=
  pair_of ⟨h.low, (h.below.setCell h.low _).setCell h.low _, (h.q.set 0 (.bool n)).set 1 (.slice a m c), (h.r.other (by simp) _).other (by simp) _, fun v xs hv => two_kept (h.keep v xs hv) (h.q.cell 0) (h.q.cell 1) _ _⟩
theorem pair_r (h : PairS w w1 b n a m c n' a' m' c' W) : PairC w w1 b n a m c n' a' m' c' ((W.setCell ⟨b + 1, 0, none⟩ (.bool n')).setCell ⟨b + 1, 1, none⟩ (.slice a' m' c')) :=
  pair_of ⟨h.low, (h.below.setCell (by have := h.low; simp; omega) _).setCell (by have := h.low; simp; omega) _, (h.q.other (by simp) _).other (by simp) _, (h.r.set 0 (.bool n')).set 1 (.slice a' m' c'), fun v xs hv => two_kept (h.keep v xs hv) (h.r.cell 0) (h.r.cell 1) _ _⟩
theorem pair_qd (h : PairS w w1 b n a m c n' a' m' c' W.drew) : PairC w w1 b n a m c n' a' m' c' ((W.setCell ⟨b, 0, none⟩ (.bool n)).setCell ⟨b, 1, none⟩ (.slice a m c)).drew := pair_q h
theorem pair_rd (h : PairS w w1 b n a m c n' a' m' c' W.drew) : PairC w w1 b n a m c n' a' m' c' ((W.setCell ⟨b + 1, 0, none⟩ (.bool n')).setCell ⟨b + 1, 1, none⟩ (.slice a' m' c')).drew := pair_r h
end

theorem div1_any (B : Nat) (na nb : Bool) (aa ab : Option Addr) (ca cb : Nat) (xa xb : List Nat) (w : World) (hra : RowAt w B 24 [.bool na, .slice aa xa.length ca]) (hrb : RowAt w (B + 1) 24 [.bool nb, .slice ab xb.length cb])
    (hQ : RowAt w (B + 2) 24 [.bool false, .slice none 0 0]) (hR : RowAt w (B + 3) 24 [.bool false, .slice none 0 0]) (ha : Reads .u32 w (.slice aa xa.length ca) xa)
    (hb : Reads .u32 w (.slice ab xb.length cb) xb) (hla : Limbs xa) (hlb : Limbs xb) (q r : Int)
    (hop : formedB na xa = true → formedB nb xb = true → xb.length ≠ 0 → ∀ W, Below w.heap.size w W → Calls Tryd.prog 73 #[.agg #[.bool na, .slice aa xa.length ca], .agg #[.bool nb, .slice ab xb.length cb]] W fun e W' => Below W.heap.size W W' ∧ ∃ v1 v2, e = .returned (.tuple #[v1, v2]) ∧ IsInt W' v1 q ∧ IsInt W' v2 r) :
    Calls Tryd.prog 72 #[.pointer (some ⟨B, 0, none⟩), .pointer (some ⟨B + 1, 0, none⟩), .pointer (some ⟨B + 2, 0, none⟩), .pointer (some ⟨B + 3, 0, none⟩)] w fun e W =>
      ∃ k, (k = 0 ∧ e = .returned (.tuple #[]) ∨ e = .panicked [{ v := .iface 27 (.int .i64 k), recovered := false }]) ∧ Chg (fun k => k = B + 2 ∨ k = B + 3) w W ∧ ∃ n a m c n' a' m' c', RowAt W (B + 2) 24 [.bool n, .slice a m c] ∧ RowAt W (B + 3) 24 [.bool n', .slice a' m' c'] ∧ DivOut (formedB na xa) (formedB nb xb) xb.length q r k W (.agg #[.bool n, .slice a m c]) (.agg #[.bool n', .slice a' m' c']) := by
  have hchg : ∀ W, Below w.heap.size w W → Chg (fun k => k = B + 2 ∨ k = B + 3) w W := fun W h => (Chg.refl _ w).thenBelow h
  cases hfa : formedB na xa with
  | false =>
    refine (div1_no B na nb aa ab ca cb xa xb false none 0 0 false none 0 0 w hra hrb hQ hR ha hla hfa).mono ?_
    rintro e W ⟨hbe, rfl⟩
    exact ⟨1, .inr rfl, hchg _ hbe, false, none, 0, 0, false, none, 0, 0, hQ.below hbe, hR.below hbe, by simp [DivOut, zeroInt]⟩
  | true =>
    cases hfb : formedB nb xb with
    | false =>
      refine (div1_okno B na nb aa ab ca cb xa xb false none 0 0 false none 0 0 w hra hrb hQ hR ha hla hfa hb hlb hfb).mono ?_
      rintro e W ⟨hbe, rfl⟩
      exact ⟨1, .inr rfl, hchg _ hbe, false, none, 0, 0, false, none, 0, 0, hQ.below hbe, hR.below hbe, by simp [DivOut, zeroInt]⟩
    | true =>
      by_cases hz : xb.length = 0
      · refine (div1_zero B na nb aa ab ca cb xa xb false none 0 0 false none 0 0 w hra hrb hQ hR ha hb hla hlb hfa hfb hz).mono ?_
        rintro e W ⟨hbe, rfl⟩
        exact ⟨20, .inr rfl, hchg _ hbe, false, none, 0, 0, false, none, 0, 0, hQ.below hbe, hR.below hbe, by simp [DivOut, zeroInt, hz]⟩
      · refine (div1_ok B na nb aa ab ca cb xa xb false none 0 0 false none 0 0 w hra hrb hQ hR ha hb hla hlb hfa hfb hz q r (hop hfa hfb hz)).mono ?_
        rintro e W ⟨rfl, hch, n, a, m, c, n', a', m', c', h1, h2, h3, h4⟩
        exact ⟨0, .inl ⟨rfl, rfl⟩, hch, n, a, m, c, n', a', m', c', h1, h2, by simp only [DivOut, Bool.and_self, if_true, if_neg hz]; exact ⟨trivial, h3, h4⟩⟩

set_option maxHeartbeats 1000000 in
set_option maxRecDepth 100000 in
theorem Div_of (a b : Value) (na nb : Bool) (xa xb : List Nat) (w : World) (ha : IntAt w a na xa) (hb : IntAt w b nb xb) (q r : Int)
    (hop : formedB na xa = true → formedB nb xb = true → xb.length ≠ 0 → ∀ W, Below w.heap.size w W → Calls Tryd.prog 73 #[a, b] W fun e W' => Below W.heap.size W W' ∧ ∃ v1 v2, e = .returned (.tuple #[v1, v2]) ∧ IsInt W' v1 q ∧ IsInt W' v2 r) :
    Calls Tryd.prog 35 #[a, b] w fun e w' => Below w.heap.size w w' ∧ ∃ v1 v2 k, e = .returned (.tuple #[v1, v2, .int .i64 k]) ∧ DivOut (formedB na xa) (formedB nb xb) xb.length q r k w' v1 v2 := by
  obtain ⟨va, rfl, hra, hla⟩ := ha
  obtain ⟨vb, rfl, hrb, hlb⟩ := hb
  obtain ⟨aa, ca, rfl, hca, hma⟩ := hra.form
  obtain ⟨ab, cb, rfl, hcb, hmb⟩ := hrb.form
  have hmf : ∀ (fn : Fn) (first cap : Array Value) (w : World), (Instr.makeFunc fn first cap).run Tryd.prog w = .ok (.func fn first cap) w := fun _ _ _ _ => rfl
  have q0 := ((((RowAt.new w 24 [.bool na, .slice aa xa.length ca]).alloc (.cells #[.bool nb, .slice ab xb.length cb] 24)).alloc (.cells #[.bool false, .slice none 0 0] 24)).alloc (.cells #[.bool false, .slice none 0 0] 24)).alloc (.cells #[.int .i64 0] 27)
  have q1 := (((RowAt.new (w.alloc (.cells #[.bool na, .slice aa xa.length ca] 24)) 24 [.bool nb, .slice ab xb.length cb]).alloc (.cells #[.bool false, .slice none 0 0] 24)).alloc (.cells #[.bool false, .slice none 0 0] 24)).alloc (.cells #[.int .i64 0] 27)
  have q2 := ((RowAt.new ((w.alloc (.cells #[.bool na, .slice aa xa.length ca] 24)).alloc (.cells #[.bool nb, .slice ab xb.length cb] 24)) 24 [.bool false, .slice none 0 0]).alloc (.cells #[.bool false, .slice none 0 0] 24)).alloc (.cells #[.int .i64 0] 27)
  have q3 := (RowAt.new (((w.alloc (.cells #[.bool na, .slice aa xa.length ca] 24)).alloc (.cells #[.bool nb, .slice ab xb.length cb] 24)).alloc (.cells #[.bool false, .slice none 0 0] 24)) 24 [.bool false, .slice none 0 0]).alloc (.cells #[.int .i64 0] 27)
  have q4 := Boxed.new ((((w.alloc (.cells #[.bool na, .slice aa xa.length ca] 24)).alloc (.cells #[.bool nb, .slice ab xb.length cb] 24)).alloc (.cells #[.bool false, .slice none 0 0] 24)).alloc (.cells #[.bool false, .slice none 0 0] 24)) 27 (.int .i64 0)
  have bw := ((((((Below.refl w.heap.size w).alloc (Nat.le_refl _) (.cells #[.bool na, .slice aa xa.length ca] 24)).alloc (by simp) (.cells #[.bool nb, .slice ab xb.length cb] 24)).alloc (by simp; omega) (.cells #[.bool false, .slice none 0 0] 24)).alloc (by simp; omega) (.cells #[.bool false, .slice none 0 0] 24)).alloc (by simp; omega) (.cells #[.int .i64 0] 27))
  simp only [World.size_alloc] at q0 q1 q2 q3 q4
  generalize hW4 : ((((w.alloc (.cells #[.bool na, .slice aa xa.length ca] 24)).alloc (.cells #[.bool nb, .slice ab xb.length cb] 24)).alloc (.cells #[.bool false, .slice none 0 0] 24)).alloc (.cells #[.bool false, .slice none 0 0] 24)).alloc (.cells #[.int .i64 0] 27) = W4 at q0 q1 q2 q3 q4 bw
  have key := div1_any w.heap.size na nb aa ab ca cb xa xb W4 q0 q1 q2 q3 (hra.below bw) (hrb.below bw) hla hlb q r (fun h1 h2 h3 W hW => hop h1 h2 h3 W (bw.trans (hW.mono bw.size)))
  have att := attempt_any 72 #[.pointer (some ⟨w.heap.size, 0, none⟩), .pointer (some ⟨w.heap.size + 1, 0, none⟩), .pointer (some ⟨w.heap.size + 1 + 1, 0, none⟩), .pointer (some ⟨w.heap.size + 1 + 1 + 1, 0, none⟩)]
    ((((w.alloc (.cells #[.bool na, .slice aa xa.length ca] 24)).alloc (.cells #[.bool nb, .slice ab xb.length cb] 24)).alloc (.cells #[.bool false, .slice none 0 0] 24)).alloc (.cells #[.bool false, .slice none 0 0] 24))
    (fun k W => Chg (fun i => i = w.heap.size + 2 ∨ i = w.heap.size + 3) W4 W ∧ ∃ n a m c n' a' m' c', RowAt W (w.heap.size + 2) 24 [.bool n, .slice a m c] ∧ RowAt W (w.heap.size + 3) 24 [.bool n', .slice a' m' c'] ∧ DivOut (formedB na xa) (formedB nb xb) xb.length q r k W (.agg #[.bool n, .slice a m c]) (.agg #[.bool n', .slice a' m' c']))
    (fun W => by simp [go_sem])
    (fun k W h => by simp only [World.size_alloc]; exact h.1.boxed q4 (by omega))
    (by
      rw [hW4]
      refine key.mono ?_
      rintro e W ⟨k, h1, h2⟩
      rcases h1 with ⟨rfl, rfl⟩ | rfl
      · exact .inl ⟨rfl, h2⟩
      · exact .inr ⟨k, rfl, h2⟩)
  clear key
  go_enter Tryd.func35, Tryd.ntmps35
  go_wp2_with (refine att.mono ?_; rintro e W' ⟨k, W, ⟨hch, n, a, m, c, n', a', m', c', hr1, hr2, hres⟩, rfl, rfl⟩; simp only [World.size_alloc]; have z1 := hr1.other (a := ⟨w.heap.size + 1 + 1 + 1 + 1, 0, none⟩) (by simp) (.int .i64 k); have z2 := hr2.other (a := ⟨w.heap.size + 1 + 1 + 1 + 1, 0, none⟩) (by simp) (.int .i64 k); have o5 := hr1.frozen 0; have o6 := hr1.frozen 1; have o7 := hr2.frozen 0; have o8 := hr2.frozen 1; have o1 := z1.cell 0; have o2 := z1.cell 1; have o3 := z2.cell 0; have o4 := z2.cell 1; simp only [List.getElem?_cons_zero, List.getElem?_cons_succ] at o1 o2 o3 o4)
  have e4 := (hch.boxed q4 (by omega)).cell
  have hb9 : Below w.heap.size w W := bw.trans (hch.below (B := w.heap.size) (fun i hi => by omega) bw.size)
  have hP : PairS w W (w.heap.size + 1 + 1) n a m c n' a' m' c' (W.setCell ⟨w.heap.size + 1 + 1 + 1 + 1, 0, none⟩ (.int .i64 k)) := ⟨by omega, hb9.setCell (by simp; omega) _, z1, z2, fun v xs h => h.setOther e4 (by simp) _⟩
  have hD := pair_drew hP
  obtain ⟨d1, d2, d3, d4, d5, d6, d7, d8, d9⟩ := pair_of hP
  have hres' := hres
  generalize hW5 : W.setCell ⟨w.heap.size + 1 + 1 + 1 + 1, 0, none⟩ (.int .i64 k) = W5 at *
  clear att hch hr1 hr2 o1 o2 o3 o4 o5 o6 o7 o8 hb9 e4 z1 z2 q0 q1 q2 q3 q4 bw
  go_region_held3 (fun X => X.cell? ⟨w.heap.size + 1 + 1, 0, none⟩ = some (.bool n) ∧ X.cell? ⟨w.heap.size + 1 + 1, 1, none⟩ = some (.slice a m c) ∧ X.cell? ⟨w.heap.size + 1 + 1 + 1, 0, none⟩ = some (.bool n') ∧ X.cell? ⟨w.heap.size + 1 + 1 + 1, 1, none⟩ = some (.slice a' m' c') ∧ X.frozen? ⟨w.heap.size + 1 + 1, 0, none⟩ = false ∧ X.frozen? ⟨w.heap.size + 1 + 1, 1, none⟩ = false ∧ X.frozen? ⟨w.heap.size + 1 + 1 + 1, 0, none⟩ = false ∧ X.frozen? ⟨w.heap.size + 1 + 1 + 1, 1, none⟩ = false ∧ PairS w W (w.heap.size + 1 + 1) n a m c n' a' m' c' X)
    (first | exact hD | (go_split_ands; with_reducible refine pair_q ?_ <;> assumption) | (go_split_ands; with_reducible refine pair_r ?_ <;> assumption) | (go_split_ands; with_reducible refine pair_qd ?_ <;> assumption) | (go_split_ands; with_reducible refine pair_rd ?_ <;> assumption))
    (first | fail)
  rename_i hT
  obtain ⟨s1, s2, s3, s4⟩ := four_reads (b := w.heap.size + 1 + 1) d1 d2 d3 d4 (.bool n) (.slice a m c) (.bool n') (.slice a' m' c')
  obtain ⟨-, -, -, -, -, -, -, -, hPf⟩ := hT
  go_wp2
  exact bodyPost_ret (v := .tuple #[.agg #[.bool n, .slice a m c], .agg #[.bool n', .slice a' m' c'], .int .i64 k]) (by simp [results, Tryd.results35, go_sem, loadCellsFrom, s1, s2, s3, s4]) rfl ⟨hPf.below, _, _, k, rfl, hres'.keep hPf.keep⟩

end Go.Proofs.YtlghjfpkfdnfoaaDoor
