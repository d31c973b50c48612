/- zermeloref01.Divide -/
import Derived.Test.YtlghjfpkfdnfoaaDoorNumMFits
import Derived.Deep.CutRange
import Derived.Deep.LoopGhost
import Derived.Test.YtlghjfpkfdnfoaaDoorNumMOrder
import Derived.Deep.RegionHeld3
import Derived.Test.YtlghjfpkfdnfoaaDoorNumMRefMade2
import Derived.Test.YtlghjfpkfdnfoaaDoorNumMSumsCard
namespace Go.Proofs.YtlghjfpkfdnfoaaDoor
open Go Go.RowKit Go.Shelf

/-- the variables of Divide -/
structure DvS (w : World) (na : Bool) (aa : Option Addr) (ma ca : Nat) (nb : Bool) (ab : Option Addr) (mb cb : Nat) (b5 : Nat) (n5 : Bool) (a5 : Option Addr) (m5 c5 : Nat) (n6 : Bool) (a6 : Option Addr) (m6 c6 : Nat) (X : World) : Prop where
  ra : RowAt X w.heap.size 24 [.bool na, .slice aa ma ca]
  rb : RowAt X (w.heap.size + 1) 24 [.bool nb, .slice ab mb cb]
  rr : RowAt X (w.heap.size + 1 + 1) 48 [.bool false, .slice none 0 0, .bool false, .slice none 0 0]
  rx : RowAt X b5 48 [.bool n5, .slice a5 m5 c5, .bool n6, .slice a6 m6 c6]
  below : Below w.heap.size w X
  lt : w.heap.size + 1 + 1 < b5
section
variable {w X X' : World} {na nb n5 n6 : Bool} {aa ab a5 a6 : Option Addr} {ma ca mb cb b5 m5 c5 m6 c6 : Nat}
theorem DvS.step (h : DvS w na aa ma ca nb ab mb cb b5 n5 a5 m5 c5 n6 a6 m6 c6 X) (hb : Below X.heap.size X X') : DvS w na aa ma ca nb ab mb cb b5 n5 a5 m5 c5 n6 a6 m6 c6 X' := ⟨h.ra.below hb, h.rb.below hb, h.rr.below hb, h.rx.below hb, h.below.trans (hb.mono h.below.size), h.lt⟩
theorem DvS.put (h : DvS w na aa ma ca nb ab mb cb b5 n5 a5 m5 c5 n6 a6 m6 c6 X) (k : Nat) (v : Value) : RowAt (X.setCell ⟨b5, k, none⟩ v) w.heap.size 24 [.bool na, .slice aa ma ca] ∧ RowAt (X.setCell ⟨b5, k, none⟩ v) (w.heap.size + 1) 24 [.bool nb, .slice ab mb cb] ∧
    RowAt (X.setCell ⟨b5, k, none⟩ v) (w.heap.size + 1 + 1) 48 [.bool false, .slice none 0 0, .bool false, .slice none 0 0] ∧ Below w.heap.size w (X.setCell ⟨b5, k, none⟩ v) := by
  have := h.lt
  exact ⟨h.ra.other (show w.heap.size ≠ b5 by omega) _, h.rb.other (show w.heap.size + 1 ≠ b5 by omega) _, h.rr.other (show w.heap.size + 1 + 1 ≠ b5 by omega) _, h.below.setCell (show w.heap.size ≤ b5 by omega) _⟩
theorem DvS.set0 (h : DvS w na aa ma ca nb ab mb cb b5 n5 a5 m5 c5 n6 a6 m6 c6 X) (n : Bool) : DvS w na aa ma ca nb ab mb cb b5 n a5 m5 c5 n6 a6 m6 c6 (X.setCell ⟨b5, 0, none⟩ (.bool n)) := by
  obtain ⟨h1, h2, h3, h4⟩ := h.put 0 (.bool n)
  exact ⟨h1, h2, h3, h.rx.set 0 (.bool n), h4, h.lt⟩
theorem DvS.set1 (h : DvS w na aa ma ca nb ab mb cb b5 n5 a5 m5 c5 n6 a6 m6 c6 X) (a : Option Addr) (m c : Nat) : DvS w na aa ma ca nb ab mb cb b5 n5 a m c n6 a6 m6 c6 (X.setCell ⟨b5, 1, none⟩ (.slice a m c)) := by
  obtain ⟨h1, h2, h3, h4⟩ := h.put 1 (.slice a m c)
  exact ⟨h1, h2, h3, h.rx.set 1 (.slice a m c), h4, h.lt⟩
theorem DvS.set2 (h : DvS w na aa ma ca nb ab mb cb b5 n5 a5 m5 c5 n6 a6 m6 c6 X) (n : Bool) : DvS w na aa ma ca nb ab mb cb b5 n5 a5 m5 c5 n a6 m6 c6 (X.setCell ⟨b5, 2, none⟩ (.bool n)) := by
  obtain ⟨h1, h2, h3, h4⟩ := h.put 2 (.bool n)
  exact ⟨h1, h2, h3, h.rx.set 2 (.bool n), h4, h.lt⟩
theorem DvS.set3 (h : DvS w na aa ma ca nb ab mb cb b5 n5 a5 m5 c5 n6 a6 m6 c6 X) (a : Option Addr) (m c : Nat) : DvS w na aa ma ca nb ab mb cb b5 n5 a5 m5 c5 n6 a m c (X.setCell ⟨b5, 3, none⟩ (.slice a m c)) := by
  obtain ⟨h1, h2, h3, h4⟩ := h.put 3 (.slice a m c)
  exact ⟨h1, h2, h3, h.rx.set 3 (.slice a m c), h4, h.lt⟩
theorem DvS.keepB (h : DvS w na aa ma ca nb ab mb cb b5 n5 a5 m5 c5 n6 a6 m6 c6 X) (k : Nat) (hk : k = 0 ∨ k = 2) (u : Value) : ∀ v xs, Reads .u32 X v xs → Reads .u32 (X.setCell ⟨b5, k, none⟩ u) v xs := fun v xs hv => by
  rcases hk with rfl | rfl
  · exact hv.setOther (c := .bool n5) (h.rx.cell 0) (by simp) u
  · exact hv.setOther (c := .bool n6) (h.rx.cell 2) (by simp) u
theorem DvS.keepS (h : DvS w na aa ma ca nb ab mb cb b5 n5 a5 m5 c5 n6 a6 m6 c6 X) (k : Nat) (hk : k = 1 ∨ k = 3) (u : Value) : ∀ v xs, Reads .u32 X v xs → Reads .u32 (X.setCell ⟨b5, k, none⟩ u) v xs := fun v xs hv => by
  rcases hk with rfl | rfl
  · exact hv.setOther (c := .slice a5 m5 c5) (h.rx.cell 1) (by simp) u
  · exact hv.setOther (c := .slice a6 m6 c6) (h.rx.cell 3) (by simp) u
/-- the cells that a walk reads and writes -/
theorem dvs_cells (h : DvS w na aa ma ca nb ab mb cb b5 n5 a5 m5 c5 n6 a6 m6 c6 X) : X.cell? ⟨w.heap.size, 0, none⟩ = some (.bool na) ∧ X.cell? ⟨w.heap.size, 1, none⟩ = some (.slice aa ma ca) ∧ X.cell? ⟨w.heap.size + 1, 0, none⟩ = some (.bool nb) ∧ X.cell? ⟨w.heap.size + 1, 1, none⟩ = some (.slice ab mb cb) ∧
    X.cell? ⟨b5, 0, none⟩ = some (.bool n5) ∧ X.cell? ⟨b5, 1, none⟩ = some (.slice a5 m5 c5) ∧ X.cell? ⟨b5, 2, none⟩ = some (.bool n6) ∧ X.cell? ⟨b5, 3, none⟩ = some (.slice a6 m6 c6) :=
  ⟨h.ra.cell 0, h.ra.cell 1, h.rb.cell 0, h.rb.cell 1, h.rx.cell 0, h.rx.cell 1, h.rx.cell 2, h.rx.cell 3⟩
theorem dvs_frozen (h : DvS w na aa ma ca nb ab mb cb b5 n5 a5 m5 c5 n6 a6 m6 c6 X) : X.frozen? ⟨b5, 0, none⟩ = false ∧ X.frozen? ⟨b5, 1, none⟩ = false ∧ X.frozen? ⟨b5, 2, none⟩ = false ∧ X.frozen? ⟨b5, 3, none⟩ = false := ⟨h.rx.frozen 0, h.rx.frozen 1, h.rx.frozen 2, h.rx.frozen 3⟩
end

set_option maxHeartbeats 2000000 in
set_option maxRecDepth 100000 in
set_option exponentiation.threshold 200000 in
theorem rdivide_ff (va vb : Value) (xa xb : List Nat) (w : World) (ha : Reads .u32 w va xa) (hb : Reads .u32 w vb xb) (hka : Canon xa) (hkb : Canon xb) (la : xa.length ≤ 80000) (lb : xb.length ≤ 80000) (hb0 : 0 < val xb) :
    Calls Tryd.prog 74 #[.agg #[.bool false, va], .agg #[.bool false, vb]] w fun e w' => Below w.heap.size w w' ∧ PartsOut w' e ((sgn false (val xa)).fdiv (sgn false (val xb))) ((sgn false (val xa)).fmod (sgn false (val xb))) := by
  obtain ⟨aa, ca, rfl, hca, hma⟩ := ha.form
  obtain ⟨ab, cb, rfl, hcb, hmb⟩ := hb.form
  have b1 := (Below.refl w.heap.size w).alloc (Nat.le_refl _) (.cells #[.bool false, .slice aa xa.length ca] 24)
  have b2 := b1.alloc b1.size (.cells #[.bool false, .slice ab xb.length cb] 24)
  have bw := b2.alloc b2.size (.cells #[.bool false, .slice none 0 0, .bool false, .slice none 0 0] 48)
  have q1 := ((RowAt.new w 24 [.bool false, .slice aa xa.length ca]).alloc (.cells #[.bool false, .slice ab xb.length cb] 24)).alloc (.cells #[.bool false, .slice none 0 0, .bool false, .slice none 0 0] 48)
  have q2 := (RowAt.new (w.alloc (.cells #[.bool false, .slice aa xa.length ca] 24)) 24 [.bool false, .slice ab xb.length cb]).alloc (.cells #[.bool false, .slice none 0 0, .bool false, .slice none 0 0] 48)
  have q3 := RowAt.new ((w.alloc (.cells #[.bool false, .slice aa xa.length ca] 24)).alloc (.cells #[.bool false, .slice ab xb.length cb] 24)) 48 [.bool false, .slice none 0 0, .bool false, .slice none 0 0]
  simp only [World.size_alloc] at q2 q3
  have K := rsplit_any (.slice aa xa.length ca) (.slice ab xb.length cb) xa xb _ (ha.below bw) (hb.below bw) hka.1 hkb (by omega) (by omega) hb0
  unfold PartsOut at K
  have hrb := hb.below bw
  clear b1 b2
  go_enter Tryd.func74, Tryd.ntmps74
  go_upto_region 2 with (go_at_call 107; with_reducible refine K.mono ?_; rintro e w4 ⟨hb4, n5, a5, m5, c5, n6, a6, m6, c6, rfl, hI, hJ⟩)
  have hs4 := hb4.size
  simp only [World.size_alloc] at hs4
  obtain ⟨q5, hq5, kq5, vq5⟩ := isInt_list hI
  obtain ⟨r6, hr6, kr6, vr6⟩ := isInt_list hJ
  obtain ⟨a', c', e', -, -⟩ := hq5.form
  cases e'
  obtain ⟨a', c', e', -, -⟩ := hr6.form
  cases e'
  rw [Int.natAbs_natCast] at vq5 vr6
  obtain rfl : n5 = false := by rw [isInt_neg hI]; exact decide_eq_false (Int.not_lt.2 (Int.natCast_nonneg _))
  have hB5 := (Below.refl w4.heap.size w4).alloc (Nat.le_refl _) (.cells #[.bool false, .slice a5 q5.length c5, .bool n6, .slice a6 r6.length c6] 48)
  have hB := hb4.trans (hB5.mono (by simp only [World.size_alloc]; exact hs4))
  have hD : DvS w false aa xa.length ca false ab xb.length cb w4.heap.size false a5 q5.length c5 n6 a6 r6.length c6 (w4.alloc (.cells #[.bool false, .slice a5 q5.length c5, .bool n6, .slice a6 r6.length c6] 48)) := ⟨q1.below hB, q2.below hB, q3.below hB, RowAt.new w4 48 [.bool false, .slice a5 q5.length c5, .bool n6, .slice a6 r6.length c6], bw.trans (hB.mono (bw.size)), by omega⟩
  replace hq5 := hq5.below hB5
  replace hr6 := hr6.below hB5
  replace hrb := hrb.below hB
  clear hI hJ hB hB5 hb4 K q1 q2 q3 bw hs4 ha hb hca hma hcb hmb
  generalize hW5 : w4.alloc (.cells #[.bool false, .slice a5 q5.length c5, .bool n6, .slice a6 r6.length c6] 48) = w5 at *
  clear hW5
  generalize w4.heap.size = b5 at *
  obtain ⟨f6, hf6⟩ : ∃ f : Bool, decide (0 < r6.length) = f := ⟨_, rfl⟩
  have hd6 : decide ((0 : Int) < (r6.length : Int)) = f6 := by rw [← hf6]; simp
  obtain ⟨f5, hf5⟩ : ∃ f : Bool, decide (0 < q5.length) = f := ⟨_, rfl⟩
  have hd5 : decide ((0 : Int) < (q5.length : Int)) = f5 := by rw [← hf5]; simp
  have HF := Lib.hid (And.intro hf5 hf6)
  go_cut [] from 12 to 22 (fun W => DvS w false aa xa.length ca false ab xb.length cb b5 false a5 q5.length c5 false a6 r6.length c6 W ∧ Reads .u32 W (.slice a5 q5.length c5) q5 ∧ Reads .u32 W (.slice a6 r6.length c6) r6 ∧ Reads .u32 W (.slice ab xb.length cb) xb)
  case first =>
    obtain ⟨d1, d2, d3, d4, d5, d6, d7, d8⟩ := dvs_cells hD
    obtain ⟨z1, z2, z3, z4⟩ := dvs_frozen hD
    go_wp2
    go_meet
    have hk := hD.keepB 2 (.inr rfl) (.bool false)
    exact ⟨hD.set2 false, hk _ _ hq5, hk _ _ hr6, hk _ _ hrb⟩
  case rest =>
    clear hD hq5 hr6 hrb
    obtain ⟨hD, hq5, hr6, hrb⟩ := hcut
    generalize wc = w6 at *
    obtain ⟨d1, d2, d3, d4, d5, d6, d7, d8⟩ := dvs_cells hD
    have e1 := hD.rr.cell 0
    have e2 := hD.rr.cell 1
    have e3 := hD.rr.cell 2
    have e4 := hD.rr.cell 3
    have e5 := hD.rr.frozen 0
    have e6 := hD.rr.frozen 1
    have e7 := hD.rr.frozen 2
    have e8 := hD.rr.frozen 3
    simp only [List.getElem?_cons_zero, List.getElem?_cons_succ] at e1 e2 e3 e4
    go_wp2
    have q9 := (((hD.rr.set 0 (.bool false)).set 1 (.slice a5 q5.length c5)).set 2 (.bool false)).set 3 (.slice a6 r6.length c6)
    have u1 := q9.cell 0
    have u2 := q9.cell 1
    have u3 := q9.cell 2
    have u4 := q9.cell 3
    simp only [List.set_cons_zero, List.set_cons_succ, List.getElem?_cons_zero, List.getElem?_cons_succ] at u1 u2 u3 u4
    have hk := row4_keep hD.rr (.bool false) (.slice a5 q5.length c5) (.bool false) (.slice a6 r6.length c6)
    have b9 := hD.below
    refine bodyPost_ret (v := .agg #[.bool false, .slice a5 q5.length c5, .bool false, .slice a6 r6.length c6]) (by simp [results, Tryd.results74, go_sem, loadCellsFrom, u1, u2, u3, u4]) rfl ⟨(((b9.setCell (by simp; omega) _).setCell (by simp; omega) _).setCell (by simp; omega) _).setCell (by simp; omega) _, false, _, _, _, false, _, _, _, rfl, ?_, ?_⟩
    · rw [(sgn_div_same false (val xa) (val xb) hb0).1]
      exact isInt_mk false (hk _ _ hq5) kq5 (by rw [vq5])
    · rw [(sgn_div_same false (val xa) (val xb) hb0).2]
      have := isInt_mk false (hk _ _ hr6) kr6 (i := sgn false (val xa % val xb)) (by rw [vr6])
      rwa [HF.out.2] at this


set_option maxHeartbeats 2000000 in
set_option maxRecDepth 100000 in
set_option exponentiation.threshold 200000 in
theorem rdivide_tt (va vb : Value) (xa xb : List Nat) (w : World) (ha : Reads .u32 w va xa) (hb : Reads .u32 w vb xb) (hka : Canon xa) (hkb : Canon xb) (la : xa.length ≤ 80000) (lb : xb.length ≤ 80000) (hb0 : 0 < val xb) :
    Calls Tryd.prog 74 #[.agg #[.bool true, va], .agg #[.bool true, vb]] w fun e w' => Below w.heap.size w w' ∧ PartsOut w' e ((sgn true (val xa)).fdiv (sgn true (val xb))) ((sgn true (val xa)).fmod (sgn true (val xb))) := by
  obtain ⟨aa, ca, rfl, hca, hma⟩ := ha.form
  obtain ⟨ab, cb, rfl, hcb, hmb⟩ := hb.form
  have b1 := (Below.refl w.heap.size w).alloc (Nat.le_refl _) (.cells #[.bool true, .slice aa xa.length ca] 24)
  have b2 := b1.alloc b1.size (.cells #[.bool true, .slice ab xb.length cb] 24)
  have bw := b2.alloc b2.size (.cells #[.bool false, .slice none 0 0, .bool false, .slice none 0 0] 48)
  have q1 := ((RowAt.new w 24 [.bool true, .slice aa xa.length ca]).alloc (.cells #[.bool true, .slice ab xb.length cb] 24)).alloc (.cells #[.bool false, .slice none 0 0, .bool false, .slice none 0 0] 48)
  have q2 := (RowAt.new (w.alloc (.cells #[.bool true, .slice aa xa.length ca] 24)) 24 [.bool true, .slice ab xb.length cb]).alloc (.cells #[.bool false, .slice none 0 0, .bool false, .slice none 0 0] 48)
  have q3 := RowAt.new ((w.alloc (.cells #[.bool true, .slice aa xa.length ca] 24)).alloc (.cells #[.bool true, .slice ab xb.length cb] 24)) 48 [.bool false, .slice none 0 0, .bool false, .slice none 0 0]
  simp only [World.size_alloc] at q2 q3
  have K := rsplit_any (.slice aa xa.length ca) (.slice ab xb.length cb) xa xb _ (ha.below bw) (hb.below bw) hka.1 hkb (by omega) (by omega) hb0
  unfold PartsOut at K
  have hrb := hb.below bw
  clear b1 b2
  go_enter Tryd.func74, Tryd.ntmps74
  go_upto_region 2 with (go_at_call 107; with_reducible refine K.mono ?_; rintro e w4 ⟨hb4, n5, a5, m5, c5, n6, a6, m6, c6, rfl, hI, hJ⟩)
  have hs4 := hb4.size
  simp only [World.size_alloc] at hs4
  obtain ⟨q5, hq5, kq5, vq5⟩ := isInt_list hI
  obtain ⟨r6, hr6, kr6, vr6⟩ := isInt_list hJ
  obtain ⟨a', c', e', -, -⟩ := hq5.form
  cases e'
  obtain ⟨a', c', e', -, -⟩ := hr6.form
  cases e'
  rw [Int.natAbs_natCast] at vq5 vr6
  obtain rfl : n5 = false := by rw [isInt_neg hI]; exact decide_eq_false (Int.not_lt.2 (Int.natCast_nonneg _))
  have hB5 := (Below.refl w4.heap.size w4).alloc (Nat.le_refl _) (.cells #[.bool false, .slice a5 q5.length c5, .bool n6, .slice a6 r6.length c6] 48)
  have hB := hb4.trans (hB5.mono (by simp only [World.size_alloc]; exact hs4))
  have hD : DvS w true aa xa.length ca true ab xb.length cb w4.heap.size false a5 q5.length c5 n6 a6 r6.length c6 (w4.alloc (.cells #[.bool false, .slice a5 q5.length c5, .bool n6, .slice a6 r6.length c6] 48)) := ⟨q1.below hB, q2.below hB, q3.below hB, RowAt.new w4 48 [.bool false, .slice a5 q5.length c5, .bool n6, .slice a6 r6.length c6], bw.trans (hB.mono (bw.size)), by omega⟩
  replace hq5 := hq5.below hB5
  replace hr6 := hr6.below hB5
  replace hrb := hrb.below hB
  clear hI hJ hB hB5 hb4 K q1 q2 q3 bw hs4 ha hb hca hma hcb hmb
  generalize hW5 : w4.alloc (.cells #[.bool false, .slice a5 q5.length c5, .bool n6, .slice a6 r6.length c6] 48) = w5 at *
  clear hW5
  generalize w4.heap.size = b5 at *
  obtain ⟨f6, hf6⟩ : ∃ f : Bool, decide (0 < r6.length) = f := ⟨_, rfl⟩
  have hd6 : decide ((0 : Int) < (r6.length : Int)) = f6 := by rw [← hf6]; simp
  obtain ⟨f5, hf5⟩ : ∃ f : Bool, decide (0 < q5.length) = f := ⟨_, rfl⟩
  have hd5 : decide ((0 : Int) < (q5.length : Int)) = f5 := by rw [← hf5]; simp
  have HF := Lib.hid (And.intro hf5 hf6)
  go_cut [] from 12 to 22 (fun W => DvS w true aa xa.length ca true ab xb.length cb b5 false a5 q5.length c5 f6 a6 r6.length c6 W ∧ Reads .u32 W (.slice a5 q5.length c5) q5 ∧ Reads .u32 W (.slice a6 r6.length c6) r6 ∧ Reads .u32 W (.slice ab xb.length cb) xb)
  case first =>
    obtain ⟨d1, d2, d3, d4, d5, d6, d7, d8⟩ := dvs_cells hD
    obtain ⟨z1, z2, z3, z4⟩ := dvs_frozen hD
    go_wp2
    go_meet
    have hk := hD.keepB 2 (.inr rfl) (.bool f6)
    exact ⟨hD.set2 f6, hk _ _ hq5, hk _ _ hr6, hk _ _ hrb⟩
  case rest =>
    clear hD hq5 hr6 hrb
    obtain ⟨hD, hq5, hr6, hrb⟩ := hcut
    generalize wc = w6 at *
    obtain ⟨d1, d2, d3, d4, d5, d6, d7, d8⟩ := dvs_cells hD
    have e1 := hD.rr.cell 0
    have e2 := hD.rr.cell 1
    have e3 := hD.rr.cell 2
    have e4 := hD.rr.cell 3
    have e5 := hD.rr.frozen 0
    have e6 := hD.rr.frozen 1
    have e7 := hD.rr.frozen 2
    have e8 := hD.rr.frozen 3
    simp only [List.getElem?_cons_zero, List.getElem?_cons_succ] at e1 e2 e3 e4
    go_wp2
    have q9 := (((hD.rr.set 0 (.bool false)).set 1 (.slice a5 q5.length c5)).set 2 (.bool f6)).set 3 (.slice a6 r6.length c6)
    have u1 := q9.cell 0
    have u2 := q9.cell 1
    have u3 := q9.cell 2
    have u4 := q9.cell 3
    simp only [List.set_cons_zero, List.set_cons_succ, List.getElem?_cons_zero, List.getElem?_cons_succ] at u1 u2 u3 u4
    have hk := row4_keep hD.rr (.bool false) (.slice a5 q5.length c5) (.bool f6) (.slice a6 r6.length c6)
    have b9 := hD.below
    refine bodyPost_ret (v := .agg #[.bool false, .slice a5 q5.length c5, .bool f6, .slice a6 r6.length c6]) (by simp [results, Tryd.results74, go_sem, loadCellsFrom, u1, u2, u3, u4]) rfl ⟨(((b9.setCell (by simp; omega) _).setCell (by simp; omega) _).setCell (by simp; omega) _).setCell (by simp; omega) _, false, _, _, _, f6, _, _, _, rfl, ?_, ?_⟩
    · rw [(sgn_div_same true (val xa) (val xb) hb0).1]
      exact isInt_mk false (hk _ _ hq5) kq5 (by rw [vq5])
    · rw [(sgn_div_same true (val xa) (val xb) hb0).2]
      have := isInt_mk true (hk _ _ hr6) kr6 (i := sgn true (val xa % val xb)) (by rw [vr6])
      rwa [HF.out.2] at this


set_option maxHeartbeats 2000000 in
set_option maxRecDepth 100000 in
set_option exponentiation.threshold 200000 in
theorem rdivide_ft (va vb : Value) (xa xb : List Nat) (w : World) (ha : Reads .u32 w va xa) (hb : Reads .u32 w vb xb) (hka : Canon xa) (hkb : Canon xb) (la : xa.length ≤ 80000) (lb : xb.length ≤ 80000) (hb0 : 0 < val xb) :
    Calls Tryd.prog 74 #[.agg #[.bool false, va], .agg #[.bool true, vb]] w fun e w' => Below w.heap.size w w' ∧ PartsOut w' e ((sgn false (val xa)).fdiv (sgn true (val xb))) ((sgn false (val xa)).fmod (sgn true (val xb))) := by
  obtain ⟨aa, ca, rfl, hca, hma⟩ := ha.form
  obtain ⟨ab, cb, rfl, hcb, hmb⟩ := hb.form
  have b1 := (Below.refl w.heap.size w).alloc (Nat.le_refl _) (.cells #[.bool false, .slice aa xa.length ca] 24)
  have b2 := b1.alloc b1.size (.cells #[.bool true, .slice ab xb.length cb] 24)
  have bw := b2.alloc b2.size (.cells #[.bool false, .slice none 0 0, .bool false, .slice none 0 0] 48)
  have q1 := ((RowAt.new w 24 [.bool false, .slice aa xa.length ca]).alloc (.cells #[.bool true, .slice ab xb.length cb] 24)).alloc (.cells #[.bool false, .slice none 0 0, .bool false, .slice none 0 0] 48)
  have q2 := (RowAt.new (w.alloc (.cells #[.bool false, .slice aa xa.length ca] 24)) 24 [.bool true, .slice ab xb.length cb]).alloc (.cells #[.bool false, .slice none 0 0, .bool false, .slice none 0 0] 48)
  have q3 := RowAt.new ((w.alloc (.cells #[.bool false, .slice aa xa.length ca] 24)).alloc (.cells #[.bool true, .slice ab xb.length cb] 24)) 48 [.bool false, .slice none 0 0, .bool false, .slice none 0 0]
  simp only [World.size_alloc] at q2 q3
  have K := rsplit_any (.slice aa xa.length ca) (.slice ab xb.length cb) xa xb _ (ha.below bw) (hb.below bw) hka.1 hkb (by omega) (by omega) hb0
  unfold PartsOut at K
  have hrb := hb.below bw
  clear b1 b2
  go_enter Tryd.func74, Tryd.ntmps74
  go_upto_region 2 with (go_at_call 107; with_reducible refine K.mono ?_; rintro e w4 ⟨hb4, n5, a5, m5, c5, n6, a6, m6, c6, rfl, hI, hJ⟩)
  have hs4 := hb4.size
  simp only [World.size_alloc] at hs4
  obtain ⟨q5, hq5, kq5, vq5⟩ := isInt_list hI
  obtain ⟨r6, hr6, kr6, vr6⟩ := isInt_list hJ
  obtain ⟨a', c', e', -, -⟩ := hq5.form
  cases e'
  obtain ⟨a', c', e', -, -⟩ := hr6.form
  cases e'
  rw [Int.natAbs_natCast] at vq5 vr6
  obtain rfl : n5 = false := by rw [isInt_neg hI]; exact decide_eq_false (Int.not_lt.2 (Int.natCast_nonneg _))
  have hB5 := (Below.refl w4.heap.size w4).alloc (Nat.le_refl _) (.cells #[.bool false, .slice a5 q5.length c5, .bool n6, .slice a6 r6.length c6] 48)
  have hB := hb4.trans (hB5.mono (by simp only [World.size_alloc]; exact hs4))
  have hD : DvS w false aa xa.length ca true ab xb.length cb w4.heap.size false a5 q5.length c5 n6 a6 r6.length c6 (w4.alloc (.cells #[.bool false, .slice a5 q5.length c5, .bool n6, .slice a6 r6.length c6] 48)) := ⟨q1.below hB, q2.below hB, q3.below hB, RowAt.new w4 48 [.bool false, .slice a5 q5.length c5, .bool n6, .slice a6 r6.length c6], bw.trans (hB.mono (bw.size)), by omega⟩
  replace hq5 := hq5.below hB5
  replace hr6 := hr6.below hB5
  replace hrb := hrb.below hB
  clear hI hJ hB hB5 hb4 K q1 q2 q3 bw hs4 ha hb hca hma hcb hmb
  generalize hW5 : w4.alloc (.cells #[.bool false, .slice a5 q5.length c5, .bool n6, .slice a6 r6.length c6] 48) = w5 at *
  clear hW5
  generalize w4.heap.size = b5 at *
  obtain ⟨f6, hf6⟩ : ∃ f : Bool, decide (0 < r6.length) = f := ⟨_, rfl⟩
  have hd6 : decide ((0 : Int) < (r6.length : Int)) = f6 := by rw [← hf6]; simp
  obtain ⟨f5, hf5⟩ : ∃ f : Bool, decide (0 < q5.length) = f := ⟨_, rfl⟩
  have hd5 : decide ((0 : Int) < (q5.length : Int)) = f5 := by rw [← hf5]; simp
  have HF := Lib.hid (And.intro hf5 hf6)
  go_cut [] from 12 to 22 (fun W => DvS w false aa xa.length ca true ab xb.length cb b5 false a5 q5.length c5 f6 a6 r6.length c6 W ∧ Reads .u32 W (.slice a5 q5.length c5) q5 ∧ Reads .u32 W (.slice a6 r6.length c6) r6 ∧ Reads .u32 W (.slice ab xb.length cb) xb)
  case first =>
    obtain ⟨d1, d2, d3, d4, d5, d6, d7, d8⟩ := dvs_cells hD
    obtain ⟨z1, z2, z3, z4⟩ := dvs_frozen hD
    go_wp2
    go_meet
    have hk := hD.keepB 2 (.inr rfl) (.bool f6)
    exact ⟨hD.set2 f6, hk _ _ hq5, hk _ _ hr6, hk _ _ hrb⟩
  case rest =>
    clear hD hq5 hr6 hrb
    obtain ⟨hD, hq5, hr6, hrb⟩ := hcut
    generalize wc = w6 at *
    obtain ⟨d1, d2, d3, d4, d5, d6, d7, d8⟩ := dvs_cells hD
    go_upto_region 5 with (fail)
    clear d1 d2 d3 d4 d5 d6 d7 d8
    go_cut [] from 29 to 35 (fun W => DvS w false aa xa.length ca true ab xb.length cb b5 f5 a5 q5.length c5 f6 a6 r6.length c6 W ∧ Reads .u32 W (.slice a5 q5.length c5) q5 ∧ Reads .u32 W (.slice a6 r6.length c6) r6 ∧ Reads .u32 W (.slice ab xb.length cb) xb)
    case first =>
      obtain ⟨d1, d2, d3, d4, d5, d6, d7, d8⟩ := dvs_cells hD
      obtain ⟨z1, z2, z3, z4⟩ := dvs_frozen hD
      go_wp2
      go_meet
      have hk := hD.keepB 0 (.inl rfl) (.bool f5)
      exact ⟨hD.set0 f5, hk _ _ hq5, hk _ _ hr6, hk _ _ hrb⟩
    case rest =>
      clear hD hq5 hr6 hrb
      obtain ⟨hD, hq5, hr6, hrb⟩ := hcut
      generalize wc = w7 at *
      have hp := canon_pos_iff kr6
      rw [vr6] at hp
      cases f6 with
      | false =>
        have hz : val xa % val xb = 0 := by have := of_decide_eq_false HF.out.2; omega
        obtain ⟨d1, d2, d3, d4, d5, d6, d7, d8⟩ := dvs_cells hD
        have e1 := hD.rr.cell 0
        have e2 := hD.rr.cell 1
        have e3 := hD.rr.cell 2
        have e4 := hD.rr.cell 3
        have e5 := hD.rr.frozen 0
        have e6 := hD.rr.frozen 1
        have e7 := hD.rr.frozen 2
        have e8 := hD.rr.frozen 3
        simp only [List.getElem?_cons_zero, List.getElem?_cons_succ] at e1 e2 e3 e4
        go_wp2
        have q9 := (((hD.rr.set 0 (.bool f5)).set 1 (.slice a5 q5.length c5)).set 2 (.bool false)).set 3 (.slice a6 r6.length c6)
        have u1 := q9.cell 0
        have u2 := q9.cell 1
        have u3 := q9.cell 2
        have u4 := q9.cell 3
        simp only [List.set_cons_zero, List.set_cons_succ, List.getElem?_cons_zero, List.getElem?_cons_succ] at u1 u2 u3 u4
        have hk := row4_keep hD.rr (.bool f5) (.slice a5 q5.length c5) (.bool false) (.slice a6 r6.length c6)
        have b9 := hD.below
        refine bodyPost_ret (v := .agg #[.bool f5, .slice a5 q5.length c5, .bool false, .slice a6 r6.length c6]) (by simp [results, Tryd.results74, go_sem, loadCellsFrom, u1, u2, u3, u4]) rfl ⟨(((b9.setCell (by simp; omega) _).setCell (by simp; omega) _).setCell (by simp; omega) _).setCell (by simp; omega) _, f5, _, _, _, false, _, _, _, rfl, ?_, ?_⟩
        · have hsd := (sgn_div_exact false (val xa) (val xb) hb0 hz).1
          simp only [Bool.not_false] at hsd
          rw [hsd]
          have := isInt_mk true (hk _ _ hq5) kq5 (i := sgn true (val xa / val xb)) (by rw [vq5])
          rwa [HF.out.1] at this
        · have hsd := (sgn_div_exact false (val xa) (val xb) hb0 hz).2
          simp only [Bool.not_false] at hsd
          rw [hsd]
          have := isInt_mk false (hk _ _ hr6) kr6 (i := 0) (by rw [vr6, hz]; rfl)
          exact this
      | true =>
        have hz : val xa % val xb ≠ 0 := by have := of_decide_eq_true HF.out.2; omega
        obtain ⟨d1, d2, d3, d4, d5, d6, d7, d8⟩ := dvs_cells hD
        go_upto_region 7 with (fail)
        clear d1 d2 d3 d4 d5 d6 d7 d8
        have hQ0 := isInt_mk true hq5 kq5 (i := -((val xa / val xb : Nat) : Int)) (by rw [vq5]; simp [sgn])
        rw [HF.out.1, Bool.true_and] at hQ0
        have hB1 := (Below.refl w7.heap.size w7).alloc (Nat.le_refl _) (.cells #[.int .u32 1] 72)
        have h1 : IsInt (w7.alloc (.cells #[.int .u32 1] 72)) (.agg #[.bool true, .slice (some ⟨w7.heap.size, 0, none⟩) 1 1]) (-1) :=
          isInt_mk true (RowAt.reads (RowAt.new w7 72 [.int .u32 1]) 1 1 rfl (Nat.le_refl _) (by unfold maxLen; omega)) (canon_one (by decide) (by decide)) (by simp [sgn, val])
        have hqB : (val xa / val xb) < B32 ^ 80000 := Nat.lt_of_le_of_lt (Nat.div_le_self _ _) (Nat.lt_of_lt_of_le (val_lt hka.1) (Nat.pow_le_pow_right B32_pos la))
        have KS := rsum_int _ _ _ _ 80000 _ (hQ0.below hB1) h1 (by omega) (by rw [Int.natAbs_neg, Int.natAbs_natCast]; exact hqB) (Nat.one_lt_pow (show (80000 : Nat) ≠ 0 by decide) (by decide))
        clear hQ0 h1 hqB
        go_cut [] from 41 to 46 (fun W => ∃ n8 a8 m8 c8, DvS w false aa xa.length ca true ab xb.length cb b5 n8 a8 m8 c8 true a6 r6.length c6 W ∧ IsInt W (.agg #[.bool n8, .slice a8 m8 c8]) (-((val xa / val xb : Nat) : Int) + -1) ∧ Reads .u32 W (.slice a6 r6.length c6) r6 ∧ Reads .u32 W (.slice ab xb.length cb) xb)
        case first =>
          obtain ⟨d1, d2, d3, d4, d5, d6, d7, d8⟩ := dvs_cells hD
          go_wp2_with (go_at_call 44; with_reducible refine KS.mono ?_; rintro e w8 ⟨hb8, v8, rfl, h8⟩; obtain ⟨n8, a8, m8, c8, rfl⟩ := h8.shape; have g8 := hB1.trans (hb8.mono hB1.size); have hD8 := hD.step g8; obtain ⟨z1, z2, z3, z4⟩ := dvs_frozen hD8; obtain ⟨-, -, -, -, y1, y2, -, -⟩ := dvs_cells hD8)
          go_meet
          have k1 := hD8.keepB 0 (.inl rfl) (.bool n8)
          have k2 := (hD8.set0 n8).keepS 1 (.inl rfl) (.slice a8 m8 c8)
          exact ⟨n8, a8, m8, c8, (hD8.set0 n8).set1 a8 m8 c8, h8.keep fun v xs hv => k2 _ _ (k1 _ _ hv), k2 _ _ (k1 _ _ (hr6.below g8)), k2 _ _ (k1 _ _ (hrb.below g8))⟩
        case rest =>
          clear hD hq5 hr6 hrb KS hB1
          obtain ⟨n8, a8, m8, c8, hD, hQ, hr6, hrb⟩ := hcut
          generalize wc = w8 at *
          go_upto_region 8 with (fail)
          have hlt := Nat.mod_lt (val xa) hb0
          have hll : r6.length ≤ xb.length := canon_le_length hkb kr6 (by omega)
          have KL := rless_any (.slice ab xb.length cb) (.slice a6 r6.length c6) xb r6 w8 hrb hr6 hkb.1 kr6.1 (by omega) hll (by omega)
          go_cut [6] from 47 to 53 (fun v6 W => ∃ l9, BoxI W v6 ((val xb - val xa % val xb : Nat) : Int) ∧ l9 = 0 ∧ DvS w false aa xa.length ca true ab xb.length cb b5 n8 a8 m8 c8 true a6 r6.length c6 W ∧ IsInt W (.agg #[.bool n8, .slice a8 m8 c8]) (-((val xa / val xb : Nat) : Int) + -1))
          case first =>
            obtain ⟨d1, d2, d3, d4, d5, d6, d7, d8⟩ := dvs_cells hD
            go_wp2_with (first
              | (go_at_call 85; with_reducible refine KL.mono ?_; rintro e w9 ⟨hb9, v9, cs, rfl, hr9, hl9, hv9, hn9⟩; have M9 := made_any false v9 cs w9 hr9 hl9 (by omega))
              | (go_at_call 65; with_reducible refine M9.mono ?_; rintro e w10 ⟨hb10, v10, rfl, hJ⟩; obtain ⟨n10, a10, m10, c10, rfl⟩ := hJ.shape))
            go_meet
            have g10 := hb9.trans (hb10.mono hb9.size)
            have hB11 := (Below.refl w10.heap.size w10).alloc (Nat.le_refl _) (.cells #[.bool n10, .slice a10 m10 c10] 24)
            have e9 : sgn false (val cs) = ((val xb - val xa % val xb : Nat) : Int) := by rw [hv9, vr6]; rfl
            rw [e9] at hJ
            exact ⟨0, BoxI.new hJ, rfl, (hD.step g10).step hB11, (hQ.below g10).below hB11⟩
          case rest =>
            clear hD hr6 hrb KL hQ
            obtain ⟨-, hBx, -, hD, hQ⟩ := hcut
            obtain ⟨b11, n11, a11, m11, c11, rfl, r11, i11⟩ := hBx
            generalize wc = w11 at *
            obtain ⟨x9, hx9, kx9, vx9⟩ := isInt_list i11
            obtain ⟨a', c', e', -, -⟩ := hx9.form
            cases e'
            rw [Int.natAbs_natCast] at vx9
            have hx0 : 0 < x9.length := (canon_pos_iff kx9).1 (by omega)
            go_upto_region 9 with (fail)
            go_cut [] from 54 to 59 (fun W => DvS w false aa xa.length ca true ab xb.length cb b5 n8 a8 m8 c8 true a11 x9.length c11 W ∧ IsInt W (.agg #[.bool n8, .slice a8 m8 c8]) (-((val xa / val xb : Nat) : Int) + -1) ∧ Reads .u32 W (.slice a11 x9.length c11) x9)
            case first =>
              obtain ⟨d1, d2, d3, d4, d5, d6, d7, d8⟩ := dvs_cells hD
              obtain ⟨z1, z2, z3, z4⟩ := dvs_frozen hD
              have y1 := r11.cell 0
              have y2 := r11.cell 1
              simp only [List.getElem?_cons_zero, List.getElem?_cons_succ] at y1 y2
              go_wp2
              go_meet
              have k1 := hD.keepB 2 (.inr rfl) (.bool true)
              have k2 := (hD.set2 true).keepS 3 (.inr rfl) (.slice a11 x9.length c11)
              exact ⟨(hD.set2 true).set3 a11 x9.length c11, hQ.keep fun v xs hv => k2 _ _ (k1 _ _ hv), k2 _ _ (k1 _ _ hx9)⟩
            case rest =>
              clear hD hQ hx9 i11 r11
              obtain ⟨hD, hQ, hx9⟩ := hcut
              generalize wc = w12 at *
              obtain ⟨d1, d2, d3, d4, d5, d6, d7, d8⟩ := dvs_cells hD
              have e1 := hD.rr.cell 0
              have e2 := hD.rr.cell 1
              have e3 := hD.rr.cell 2
              have e4 := hD.rr.cell 3
              have e5 := hD.rr.frozen 0
              have e6 := hD.rr.frozen 1
              have e7 := hD.rr.frozen 2
              have e8 := hD.rr.frozen 3
              simp only [List.getElem?_cons_zero, List.getElem?_cons_succ] at e1 e2 e3 e4
              go_wp2
              have q9 := (((hD.rr.set 0 (.bool n8)).set 1 (.slice a8 m8 c8)).set 2 (.bool true)).set 3 (.slice a11 x9.length c11)
              have u1 := q9.cell 0
              have u2 := q9.cell 1
              have u3 := q9.cell 2
              have u4 := q9.cell 3
              simp only [List.set_cons_zero, List.set_cons_succ, List.getElem?_cons_zero, List.getElem?_cons_succ] at u1 u2 u3 u4
              have hk := row4_keep hD.rr (.bool n8) (.slice a8 m8 c8) (.bool true) (.slice a11 x9.length c11)
              have b9 := hD.below
              refine bodyPost_ret (v := .agg #[.bool n8, .slice a8 m8 c8, .bool true, .slice a11 x9.length c11]) (by simp [results, Tryd.results74, go_sem, loadCellsFrom, u1, u2, u3, u4]) rfl ⟨(((b9.setCell (by simp; omega) _).setCell (by simp; omega) _).setCell (by simp; omega) _).setCell (by simp; omega) _, n8, _, _, _, true, _, _, _, rfl, ?_, ?_⟩
              · have hsd := (sgn_div_rest false (val xa) (val xb) hb0 hz).1
                simp only [Bool.not_false] at hsd
                rw [hsd]
                have := hQ.keep hk
                rwa [show -((val xa / val xb : Nat) : Int) + -1 = sgn true (val xa / val xb + 1) by simp [sgn]; omega] at this
              · have hsd := (sgn_div_rest false (val xa) (val xb) hb0 hz).2
                simp only [Bool.not_false] at hsd
                rw [hsd]
                have := isInt_mk true (hk _ _ hx9) kx9 (i := sgn true (val xb - val xa % val xb)) (by rw [vx9])
                rwa [decide_eq_true hx0, Bool.and_true] at this


set_option maxHeartbeats 2000000 in
set_option maxRecDepth 100000 in
set_option exponentiation.threshold 200000 in
theorem rdivide_tf (va vb : Value) (xa xb : List Nat) (w : World) (ha : Reads .u32 w va xa) (hb : Reads .u32 w vb xb) (hka : Canon xa) (hkb : Canon xb) (la : xa.length ≤ 80000) (lb : xb.length ≤ 80000) (hb0 : 0 < val xb) :
    Calls Tryd.prog 74 #[.agg #[.bool true, va], .agg #[.bool false, vb]] w fun e w' => Below w.heap.size w w' ∧ PartsOut w' e ((sgn true (val xa)).fdiv (sgn false (val xb))) ((sgn true (val xa)).fmod (sgn false (val xb))) := by
  obtain ⟨aa, ca, rfl, hca, hma⟩ := ha.form
  obtain ⟨ab, cb, rfl, hcb, hmb⟩ := hb.form
  have b1 := (Below.refl w.heap.size w).alloc (Nat.le_refl _) (.cells #[.bool true, .slice aa xa.length ca] 24)
  have b2 := b1.alloc b1.size (.cells #[.bool false, .slice ab xb.length cb] 24)
  have bw := b2.alloc b2.size (.cells #[.bool false, .slice none 0 0, .bool false, .slice none 0 0] 48)
  have q1 := ((RowAt.new w 24 [.bool true, .slice aa xa.length ca]).alloc (.cells #[.bool false, .slice ab xb.length cb] 24)).alloc (.cells #[.bool false, .slice none 0 0, .bool false, .slice none 0 0] 48)
  have q2 := (RowAt.new (w.alloc (.cells #[.bool true, .slice aa xa.length ca] 24)) 24 [.bool false, .slice ab xb.length cb]).alloc (.cells #[.bool false, .slice none 0 0, .bool false, .slice none 0 0] 48)
  have q3 := RowAt.new ((w.alloc (.cells #[.bool true, .slice aa xa.length ca] 24)).alloc (.cells #[.bool false, .slice ab xb.length cb] 24)) 48 [.bool false, .slice none 0 0, .bool false, .slice none 0 0]
  simp only [World.size_alloc] at q2 q3
  have K := rsplit_any (.slice aa xa.length ca) (.slice ab xb.length cb) xa xb _ (ha.below bw) (hb.below bw) hka.1 hkb (by omega) (by omega) hb0
  unfold PartsOut at K
  have hrb := hb.below bw
  clear b1 b2
  go_enter Tryd.func74, Tryd.ntmps74
  go_upto_region 2 with (go_at_call 107; with_reducible refine K.mono ?_; rintro e w4 ⟨hb4, n5, a5, m5, c5, n6, a6, m6, c6, rfl, hI, hJ⟩)
  have hs4 := hb4.size
  simp only [World.size_alloc] at hs4
  obtain ⟨q5, hq5, kq5, vq5⟩ := isInt_list hI
  obtain ⟨r6, hr6, kr6, vr6⟩ := isInt_list hJ
  obtain ⟨a', c', e', -, -⟩ := hq5.form
  cases e'
  obtain ⟨a', c', e', -, -⟩ := hr6.form
  cases e'
  rw [Int.natAbs_natCast] at vq5 vr6
  obtain rfl : n5 = false := by rw [isInt_neg hI]; exact decide_eq_false (Int.not_lt.2 (Int.natCast_nonneg _))
  have hB5 := (Below.refl w4.heap.size w4).alloc (Nat.le_refl _) (.cells #[.bool false, .slice a5 q5.length c5, .bool n6, .slice a6 r6.length c6] 48)
  have hB := hb4.trans (hB5.mono (by simp only [World.size_alloc]; exact hs4))
  have hD : DvS w true aa xa.length ca false ab xb.length cb w4.heap.size false a5 q5.length c5 n6 a6 r6.length c6 (w4.alloc (.cells #[.bool false, .slice a5 q5.length c5, .bool n6, .slice a6 r6.length c6] 48)) := ⟨q1.below hB, q2.below hB, q3.below hB, RowAt.new w4 48 [.bool false, .slice a5 q5.length c5, .bool n6, .slice a6 r6.length c6], bw.trans (hB.mono (bw.size)), by omega⟩
  replace hq5 := hq5.below hB5
  replace hr6 := hr6.below hB5
  replace hrb := hrb.below hB
  clear hI hJ hB hB5 hb4 K q1 q2 q3 bw hs4 ha hb hca hma hcb hmb
  generalize hW5 : w4.alloc (.cells #[.bool false, .slice a5 q5.length c5, .bool n6, .slice a6 r6.length c6] 48) = w5 at *
  clear hW5
  generalize w4.heap.size = b5 at *
  obtain ⟨f6, hf6⟩ : ∃ f : Bool, decide (0 < r6.length) = f := ⟨_, rfl⟩
  have hd6 : decide ((0 : Int) < (r6.length : Int)) = f6 := by rw [← hf6]; simp
  obtain ⟨f5, hf5⟩ : ∃ f : Bool, decide (0 < q5.length) = f := ⟨_, rfl⟩
  have hd5 : decide ((0 : Int) < (q5.length : Int)) = f5 := by rw [← hf5]; simp
  have HF := Lib.hid (And.intro hf5 hf6)
  go_cut [] from 12 to 22 (fun W => DvS w true aa xa.length ca false ab xb.length cb b5 false a5 q5.length c5 false a6 r6.length c6 W ∧ Reads .u32 W (.slice a5 q5.length c5) q5 ∧ Reads .u32 W (.slice a6 r6.length c6) r6 ∧ Reads .u32 W (.slice ab xb.length cb) xb)
  case first =>
    obtain ⟨d1, d2, d3, d4, d5, d6, d7, d8⟩ := dvs_cells hD
    obtain ⟨z1, z2, z3, z4⟩ := dvs_frozen hD
    go_wp2
    go_meet
    have hk := hD.keepB 2 (.inr rfl) (.bool false)
    exact ⟨hD.set2 false, hk _ _ hq5, hk _ _ hr6, hk _ _ hrb⟩
  case rest =>
    clear hD hq5 hr6 hrb
    obtain ⟨hD, hq5, hr6, hrb⟩ := hcut
    generalize wc = w6 at *
    obtain ⟨d1, d2, d3, d4, d5, d6, d7, d8⟩ := dvs_cells hD
    go_upto_region 5 with (fail)
    clear d1 d2 d3 d4 d5 d6 d7 d8
    go_cut [] from 29 to 35 (fun W => DvS w true aa xa.length ca false ab xb.length cb b5 f5 a5 q5.length c5 false a6 r6.length c6 W ∧ Reads .u32 W (.slice a5 q5.length c5) q5 ∧ Reads .u32 W (.slice a6 r6.length c6) r6 ∧ Reads .u32 W (.slice ab xb.length cb) xb)
    case first =>
      obtain ⟨d1, d2, d3, d4, d5, d6, d7, d8⟩ := dvs_cells hD
      obtain ⟨z1, z2, z3, z4⟩ := dvs_frozen hD
      go_wp2
      go_meet
      have hk := hD.keepB 0 (.inl rfl) (.bool f5)
      exact ⟨hD.set0 f5, hk _ _ hq5, hk _ _ hr6, hk _ _ hrb⟩
    case rest =>
      clear hD hq5 hr6 hrb
      obtain ⟨hD, hq5, hr6, hrb⟩ := hcut
      generalize wc = w7 at *
      have hp := canon_pos_iff kr6
      rw [vr6] at hp
      cases f6 with
      | false =>
        have hz : val xa % val xb = 0 := by have := of_decide_eq_false HF.out.2; omega
        obtain ⟨d1, d2, d3, d4, d5, d6, d7, d8⟩ := dvs_cells hD
        have e1 := hD.rr.cell 0
        have e2 := hD.rr.cell 1
        have e3 := hD.rr.cell 2
        have e4 := hD.rr.cell 3
        have e5 := hD.rr.frozen 0
        have e6 := hD.rr.frozen 1
        have e7 := hD.rr.frozen 2
        have e8 := hD.rr.frozen 3
        simp only [List.getElem?_cons_zero, List.getElem?_cons_succ] at e1 e2 e3 e4
        go_wp2
        have q9 := (((hD.rr.set 0 (.bool f5)).set 1 (.slice a5 q5.length c5)).set 2 (.bool false)).set 3 (.slice a6 r6.length c6)
        have u1 := q9.cell 0
        have u2 := q9.cell 1
        have u3 := q9.cell 2
        have u4 := q9.cell 3
        simp only [List.set_cons_zero, List.set_cons_succ, List.getElem?_cons_zero, List.getElem?_cons_succ] at u1 u2 u3 u4
        have hk := row4_keep hD.rr (.bool f5) (.slice a5 q5.length c5) (.bool false) (.slice a6 r6.length c6)
        have b9 := hD.below
        refine bodyPost_ret (v := .agg #[.bool f5, .slice a5 q5.length c5, .bool false, .slice a6 r6.length c6]) (by simp [results, Tryd.results74, go_sem, loadCellsFrom, u1, u2, u3, u4]) rfl ⟨(((b9.setCell (by simp; omega) _).setCell (by simp; omega) _).setCell (by simp; omega) _).setCell (by simp; omega) _, f5, _, _, _, false, _, _, _, rfl, ?_, ?_⟩
        · have hsd := (sgn_div_exact true (val xa) (val xb) hb0 hz).1
          simp only [Bool.not_true] at hsd
          rw [hsd]
          have := isInt_mk true (hk _ _ hq5) kq5 (i := sgn true (val xa / val xb)) (by rw [vq5])
          rwa [HF.out.1] at this
        · have hsd := (sgn_div_exact true (val xa) (val xb) hb0 hz).2
          simp only [Bool.not_true] at hsd
          rw [hsd]
          have := isInt_mk false (hk _ _ hr6) kr6 (i := 0) (by rw [vr6, hz]; rfl)
          exact this
      | true =>
        have hz : val xa % val xb ≠ 0 := by have := of_decide_eq_true HF.out.2; omega
        obtain ⟨d1, d2, d3, d4, d5, d6, d7, d8⟩ := dvs_cells hD
        go_upto_region 7 with (fail)
        clear d1 d2 d3 d4 d5 d6 d7 d8
        have hQ0 := isInt_mk true hq5 kq5 (i := -((val xa / val xb : Nat) : Int)) (by rw [vq5]; simp [sgn])
        rw [HF.out.1, Bool.true_and] at hQ0
        have hB1 := (Below.refl w7.heap.size w7).alloc (Nat.le_refl _) (.cells #[.int .u32 1] 72)
        have h1 : IsInt (w7.alloc (.cells #[.int .u32 1] 72)) (.agg #[.bool true, .slice (some ⟨w7.heap.size, 0, none⟩) 1 1]) (-1) :=
          isInt_mk true (RowAt.reads (RowAt.new w7 72 [.int .u32 1]) 1 1 rfl (Nat.le_refl _) (by unfold maxLen; omega)) (canon_one (by decide) (by decide)) (by simp [sgn, val])
        have hqB : (val xa / val xb) < B32 ^ 80000 := Nat.lt_of_le_of_lt (Nat.div_le_self _ _) (Nat.lt_of_lt_of_le (val_lt hka.1) (Nat.pow_le_pow_right B32_pos la))
        have KS := rsum_int _ _ _ _ 80000 _ (hQ0.below hB1) h1 (by omega) (by rw [Int.natAbs_neg, Int.natAbs_natCast]; exact hqB) (Nat.one_lt_pow (show (80000 : Nat) ≠ 0 by decide) (by decide))
        clear hQ0 h1 hqB
        go_cut [] from 41 to 46 (fun W => ∃ n8 a8 m8 c8, DvS w true aa xa.length ca false ab xb.length cb b5 n8 a8 m8 c8 false a6 r6.length c6 W ∧ IsInt W (.agg #[.bool n8, .slice a8 m8 c8]) (-((val xa / val xb : Nat) : Int) + -1) ∧ Reads .u32 W (.slice a6 r6.length c6) r6 ∧ Reads .u32 W (.slice ab xb.length cb) xb)
        case first =>
          obtain ⟨d1, d2, d3, d4, d5, d6, d7, d8⟩ := dvs_cells hD
          go_wp2_with (go_at_call 44; with_reducible refine KS.mono ?_; rintro e w8 ⟨hb8, v8, rfl, h8⟩; obtain ⟨n8, a8, m8, c8, rfl⟩ := h8.shape; have g8 := hB1.trans (hb8.mono hB1.size); have hD8 := hD.step g8; obtain ⟨z1, z2, z3, z4⟩ := dvs_frozen hD8; obtain ⟨-, -, -, -, y1, y2, -, -⟩ := dvs_cells hD8)
          go_meet
          have k1 := hD8.keepB 0 (.inl rfl) (.bool n8)
          have k2 := (hD8.set0 n8).keepS 1 (.inl rfl) (.slice a8 m8 c8)
          exact ⟨n8, a8, m8, c8, (hD8.set0 n8).set1 a8 m8 c8, h8.keep fun v xs hv => k2 _ _ (k1 _ _ hv), k2 _ _ (k1 _ _ (hr6.below g8)), k2 _ _ (k1 _ _ (hrb.below g8))⟩
        case rest =>
          clear hD hq5 hr6 hrb KS hB1
          obtain ⟨n8, a8, m8, c8, hD, hQ, hr6, hrb⟩ := hcut
          generalize wc = w8 at *
          go_upto_region 8 with (fail)
          have hlt := Nat.mod_lt (val xa) hb0
          have hll : r6.length ≤ xb.length := canon_le_length hkb kr6 (by omega)
          have KL := rless_any (.slice ab xb.length cb) (.slice a6 r6.length c6) xb r6 w8 hrb hr6 hkb.1 kr6.1 (by omega) hll (by omega)
          go_cut [6] from 47 to 53 (fun v6 W => ∃ l9, BoxI W v6 ((val xb - val xa % val xb : Nat) : Int) ∧ l9 = 0 ∧ DvS w true aa xa.length ca false ab xb.length cb b5 n8 a8 m8 c8 false a6 r6.length c6 W ∧ IsInt W (.agg #[.bool n8, .slice a8 m8 c8]) (-((val xa / val xb : Nat) : Int) + -1))
          case first =>
            obtain ⟨d1, d2, d3, d4, d5, d6, d7, d8⟩ := dvs_cells hD
            go_wp2_with (first
              | (go_at_call 85; with_reducible refine KL.mono ?_; rintro e w9 ⟨hb9, v9, cs, rfl, hr9, hl9, hv9, hn9⟩; have M9 := made_any false v9 cs w9 hr9 hl9 (by omega))
              | (go_at_call 65; with_reducible refine M9.mono ?_; rintro e w10 ⟨hb10, v10, rfl, hJ⟩; obtain ⟨n10, a10, m10, c10, rfl⟩ := hJ.shape))
            go_meet
            have g10 := hb9.trans (hb10.mono hb9.size)
            have hB11 := (Below.refl w10.heap.size w10).alloc (Nat.le_refl _) (.cells #[.bool n10, .slice a10 m10 c10] 24)
            have e9 : sgn false (val cs) = ((val xb - val xa % val xb : Nat) : Int) := by rw [hv9, vr6]; rfl
            rw [e9] at hJ
            exact ⟨0, BoxI.new hJ, rfl, (hD.step g10).step hB11, (hQ.below g10).below hB11⟩
          case rest =>
            clear hD hr6 hrb KL hQ
            obtain ⟨-, hBx, -, hD, hQ⟩ := hcut
            obtain ⟨b11, n11, a11, m11, c11, rfl, r11, i11⟩ := hBx
            generalize wc = w11 at *
            obtain ⟨x9, hx9, kx9, vx9⟩ := isInt_list i11
            obtain ⟨a', c', e', -, -⟩ := hx9.form
            cases e'
            rw [Int.natAbs_natCast] at vx9
            have hx0 : 0 < x9.length := (canon_pos_iff kx9).1 (by omega)
            go_upto_region 9 with (fail)
            go_cut [] from 54 to 59 (fun W => DvS w true aa xa.length ca false ab xb.length cb b5 n8 a8 m8 c8 false a11 x9.length c11 W ∧ IsInt W (.agg #[.bool n8, .slice a8 m8 c8]) (-((val xa / val xb : Nat) : Int) + -1) ∧ Reads .u32 W (.slice a11 x9.length c11) x9)
            case first =>
              obtain ⟨d1, d2, d3, d4, d5, d6, d7, d8⟩ := dvs_cells hD
              obtain ⟨z1, z2, z3, z4⟩ := dvs_frozen hD
              have y1 := r11.cell 0
              have y2 := r11.cell 1
              simp only [List.getElem?_cons_zero, List.getElem?_cons_succ] at y1 y2
              go_wp2
              go_meet
              have k1 := hD.keepB 2 (.inr rfl) (.bool false)
              have k2 := (hD.set2 false).keepS 3 (.inr rfl) (.slice a11 x9.length c11)
              exact ⟨(hD.set2 false).set3 a11 x9.length c11, hQ.keep fun v xs hv => k2 _ _ (k1 _ _ hv), k2 _ _ (k1 _ _ hx9)⟩
            case rest =>
              clear hD hQ hx9 i11 r11
              obtain ⟨hD, hQ, hx9⟩ := hcut
              generalize wc = w12 at *
              obtain ⟨d1, d2, d3, d4, d5, d6, d7, d8⟩ := dvs_cells hD
              have e1 := hD.rr.cell 0
              have e2 := hD.rr.cell 1
              have e3 := hD.rr.cell 2
              have e4 := hD.rr.cell 3
              have e5 := hD.rr.frozen 0
              have e6 := hD.rr.frozen 1
              have e7 := hD.rr.frozen 2
              have e8 := hD.rr.frozen 3
              simp only [List.getElem?_cons_zero, List.getElem?_cons_succ] at e1 e2 e3 e4
              go_wp2
              have q9 := (((hD.rr.set 0 (.bool n8)).set 1 (.slice a8 m8 c8)).set 2 (.bool false)).set 3 (.slice a11 x9.length c11)
              have u1 := q9.cell 0
              have u2 := q9.cell 1
              have u3 := q9.cell 2
              have u4 := q9.cell 3
              simp only [List.set_cons_zero, List.set_cons_succ, List.getElem?_cons_zero, List.getElem?_cons_succ] at u1 u2 u3 u4
              have hk := row4_keep hD.rr (.bool n8) (.slice a8 m8 c8) (.bool false) (.slice a11 x9.length c11)
              have b9 := hD.below
              refine bodyPost_ret (v := .agg #[.bool n8, .slice a8 m8 c8, .bool false, .slice a11 x9.length c11]) (by simp [results, Tryd.results74, go_sem, loadCellsFrom, u1, u2, u3, u4]) rfl ⟨(((b9.setCell (by simp; omega) _).setCell (by simp; omega) _).setCell (by simp; omega) _).setCell (by simp; omega) _, n8, _, _, _, false, _, _, _, rfl, ?_, ?_⟩
              · have hsd := (sgn_div_rest true (val xa) (val xb) hb0 hz).1
                simp only [Bool.not_true] at hsd
                rw [hsd]
                have := hQ.keep hk
                rwa [show -((val xa / val xb : Nat) : Int) + -1 = sgn true (val xa / val xb + 1) by simp [sgn]; omega] at this
              · have hsd := (sgn_div_rest true (val xa) (val xb) hb0 hz).2
                simp only [Bool.not_true] at hsd
                rw [hsd]
                have := isInt_mk false (hk _ _ hx9) kx9 (i := sgn false (val xb - val xa % val xb)) (by rw [vx9])
                rwa [decide_eq_true hx0, Bool.and_true] at this


/-- the specification's Divide, at values -/
theorem rdivide_int (va vb : Value) (i j : Int) (w : World) (ha : IsInt w va i) (hb : IsInt w vb j) (hi : i.natAbs < B32 ^ 80000) (hj : j.natAbs < B32 ^ 80000) (hj0 : j ≠ 0) :
    Calls Tryd.prog 74 #[va, vb] w fun e w' => Below w.heap.size w w' ∧ PartsOut w' e (i.fdiv j) (i.fmod j) := by
  obtain ⟨na, va, xa, rfl, hra, hka, hna, rfl⟩ := ha
  obtain ⟨nb, vb, xb, rfl, hrb, hkb, hnb, rfl⟩ := hb
  rw [sgn_natAbs] at hi hj
  have la := canon_length_le hka hi
  have lb := canon_length_le hkb hj
  have hb0 : 0 < val xb := by
    rcases Nat.eq_zero_or_pos (val xb) with h | h
    · rw [h] at hj0; cases nb <;> simp [sgn] at hj0
    · exact h
  cases na <;> cases nb
  · exact rdivide_ff va vb xa xb w hra hrb hka hkb la lb hb0
  · exact rdivide_ft va vb xa xb w hra hrb hka hkb la lb hb0
  · exact rdivide_tf va vb xa xb w hra hrb hka hkb la lb hb0
  · exact rdivide_tt va vb xa xb w hra hrb hka hkb la lb hb0

end Go.Proofs.YtlghjfpkfdnfoaaDoor

/- zermeloref01.Gcd; zermelolaw01.small -/
namespace Go.Proofs.YtlghjfpkfdnfoaaDoor
open Go Go.RowKit Go.Shelf

theorem fmod_abs {i j : Int} (hj : j ≠ 0) : (i.fmod j).natAbs < j.natAbs := by
  rcases Int.lt_or_gt_of_ne hj with h | h
  · have h1 := Int.emod_nonneg (-i) (show -j ≠ 0 by omega)
    have h2 := Int.emod_lt_of_pos (-i) (show 0 < -j by omega)
    have e : i.fmod j = -((-i) % (-j)) := by
      have h3 := Int.emod_def (-i) (-j)
      rw [Int.neg_mul] at h3
      rw [Int.fmod_def, ← Int.neg_fdiv_neg, Int.fdiv_eq_ediv_of_nonneg _ (by omega)]
      omega
    omega
  · rw [Int.fmod_eq_emod_of_nonneg _ (by omega)]
    have h1 := Int.emod_nonneg i hj
    have h2 := Int.emod_lt_of_pos i h
    omega
theorem gcd_fmod (i j : Int) : Nat.gcd j.natAbs (i.fmod j).natAbs = Nat.gcd i.natAbs j.natAbs := by
  have hd : ∀ d : Nat, d ∣ j.natAbs → (d ∣ (i.fmod j).natAbs ↔ d ∣ i.natAbs) := fun d h => by
    have hj' : (d : Int) ∣ j := Int.ofNat_dvd_left.2 h
    have hq := Int.dvd_trans hj' (Int.dvd_mul_right j (i.fdiv j))
    have e : (d : Int) ∣ i.fmod j ↔ (d : Int) ∣ i := by
      rw [Int.fmod_def]
      exact ⟨fun h1 => by have := Int.dvd_add h1 hq; rwa [Int.sub_add_cancel] at this, fun h1 => Int.dvd_sub h1 hq⟩
    exact ⟨fun h1 => Int.ofNat_dvd_left.1 (e.1 (Int.ofNat_dvd_left.2 h1)), fun h1 => Int.ofNat_dvd_left.1 (e.2 (Int.ofNat_dvd_left.2 h1))⟩
  apply Nat.dvd_antisymm
  · have h1 := Nat.gcd_dvd_left j.natAbs (i.fmod j).natAbs
    have h2 := Nat.gcd_dvd_right j.natAbs (i.fmod j).natAbs
    exact Nat.dvd_gcd ((hd _ h1).1 h2) h1
  · have h1 := Nat.gcd_dvd_left i.natAbs j.natAbs
    have h2 := Nat.gcd_dvd_right i.natAbs j.natAbs
    exact Nat.dvd_gcd h2 ((hd _ h2).2 h1)

/-- the variables of Gcd -/
structure RgS (w : World) (n1 : Bool) (a1 : Option Addr) (m1 c1 : Nat) (n2 : Bool) (a2 : Option Addr) (m2 c2 : Nat) (X : World) : Prop where
  ra : RowAt X w.heap.size 24 [.bool n1, .slice a1 m1 c1]
  rb : RowAt X (w.heap.size + 1) 24 [.bool n2, .slice a2 m2 c2]
  rr : RowAt X (w.heap.size + 1 + 1) 24 [.bool false, .slice none 0 0]
  below : Below w.heap.size w X
section
variable {w X X' : World} {n1 n2 : Bool} {a1 a2 : Option Addr} {m1 c1 m2 c2 : Nat}
theorem RgS.step (h : RgS w n1 a1 m1 c1 n2 a2 m2 c2 X) (hb : Below X.heap.size X X') : RgS w n1 a1 m1 c1 n2 a2 m2 c2 X' := ⟨h.ra.below hb, h.rb.below hb, h.rr.below hb, h.below.trans (hb.mono h.below.size)⟩
theorem RgS.setA (h : RgS w n1 a1 m1 c1 n2 a2 m2 c2 X) (n : Bool) (a : Option Addr) (m c : Nat) : RgS w n a m c n2 a2 m2 c2 ((X.setCell ⟨w.heap.size, 0, none⟩ (.bool n)).setCell ⟨w.heap.size, 1, none⟩ (.slice a m c)) :=
  ⟨(h.ra.set 0 (.bool n)).set 1 (.slice a m c), (h.rb.other (show w.heap.size + 1 ≠ w.heap.size by omega) _).other (show w.heap.size + 1 ≠ w.heap.size by omega) _, (h.rr.other (show w.heap.size + 1 + 1 ≠ w.heap.size by omega) _).other (show w.heap.size + 1 + 1 ≠ w.heap.size by omega) _, (h.below.setCell (Nat.le_refl _) _).setCell (Nat.le_refl _) _⟩
theorem RgS.setB (h : RgS w n1 a1 m1 c1 n2 a2 m2 c2 X) (n : Bool) (a : Option Addr) (m c : Nat) : RgS w n1 a1 m1 c1 n a m c ((X.setCell ⟨w.heap.size + 1, 0, none⟩ (.bool n)).setCell ⟨w.heap.size + 1, 1, none⟩ (.slice a m c)) :=
  ⟨(h.ra.other (show w.heap.size ≠ w.heap.size + 1 by omega) _).other (show w.heap.size ≠ w.heap.size + 1 by omega) _, (h.rb.set 0 (.bool n)).set 1 (.slice a m c), (h.rr.other (show w.heap.size + 1 + 1 ≠ w.heap.size + 1 by omega) _).other (show w.heap.size + 1 + 1 ≠ w.heap.size + 1 by omega) _, (h.below.setCell (show w.heap.size ≤ w.heap.size + 1 by omega) _).setCell (show w.heap.size ≤ w.heap.size + 1 by omega) _⟩
end
/-- at a round's head -/
def RgR (w : World) (g k : Nat) (W : World) : Prop := ∃ i j n1 a1 m1 c1 n2 a2 m2 c2, RgS w n1 a1 m1 c1 n2 a2 m2 c2 W ∧ IsInt W (.agg #[.bool n1, .slice a1 m1 c1]) i ∧ IsInt W (.agg #[.bool n2, .slice a2 m2 c2]) j ∧ i.natAbs < B32 ^ 80000 ∧ j.natAbs < B32 ^ 80000 ∧ Nat.gcd i.natAbs j.natAbs = g ∧ j.natAbs = k

set_option maxHeartbeats 4000000 in
set_option maxRecDepth 100000 in
set_option exponentiation.threshold 100000 in
theorem rgcd_int (va vb : Value) (i j : Int) (w : World) (ha : IsInt w va i) (hb : IsInt w vb j) (hi : i.natAbs < B32 ^ 80000) (hj : j.natAbs < B32 ^ 80000) :
    Calls Tryd.prog 43 #[va, vb] w fun e w' => Below w.heap.size w w' ∧ ∃ v, e = .returned v ∧ IsInt w' v ((Nat.gcd i.natAbs j.natAbs : Nat) : Int) := by
  obtain ⟨n1, a1, m1, c1, rfl⟩ := ha.shape
  obtain ⟨n2, a2, m2, c2, rfl⟩ := hb.shape
  have b1 := (Below.refl w.heap.size w).alloc (Nat.le_refl _) (.cells #[.bool n1, .slice a1 m1 c1] 24)
  have b2 := b1.alloc b1.size (.cells #[.bool n2, .slice a2 m2 c2] 24)
  have bw := b2.alloc b2.size (.cells #[.bool false, .slice none 0 0] 24)
  have q1 := ((RowAt.new w 24 [.bool n1, .slice a1 m1 c1]).alloc (.cells #[.bool n2, .slice a2 m2 c2] 24)).alloc (.cells #[.bool false, .slice none 0 0] 24)
  have q2 := (RowAt.new (w.alloc (.cells #[.bool n1, .slice a1 m1 c1] 24)) 24 [.bool n2, .slice a2 m2 c2]).alloc (.cells #[.bool false, .slice none 0 0] 24)
  have q3 := RowAt.new ((w.alloc (.cells #[.bool n1, .slice a1 m1 c1] 24)).alloc (.cells #[.bool n2, .slice a2 m2 c2] 24)) 24 [.bool false, .slice none 0 0]
  simp only [World.size_alloc] at q2 q3
  have hR : RgR w (Nat.gcd i.natAbs j.natAbs) j.natAbs (((w.alloc (.cells #[.bool n1, .slice a1 m1 c1] 24)).alloc (.cells #[.bool n2, .slice a2 m2 c2] 24)).alloc (.cells #[.bool false, .slice none 0 0] 24)) := ⟨i, j, n1, a1, m1, c1, n2, a2, m2, c2, ⟨q1, q2, q3, bw⟩, ha.below bw, hb.below bw, hi, hj, rfl, rfl⟩
  have HR := Lib.hid hR
  clear hR b1 b2 bw q1 q2 q3 ha hb hi hj
  generalize Nat.gcd i.natAbs j.natAbs = g at *
  go_enter Tryd.func43, Tryd.ntmps43
  go_wp2_with fail
  generalize hW0 : ((w.alloc (.cells #[.bool n1, .slice a1 m1 c1] 24)).alloc (.cells #[.bool n2, .slice a2 m2 c2] 24)).alloc (.cells #[.bool false, .slice none 0 0] 24) = W0 at *
  clear hW0
  go_loopg [5] (j.natAbs) (fun k _ W => RgR w g k W)
  case atStart => exact HR.out
  case round =>
    clear HR
    obtain ⟨x, y, n1, a1, m1, c1, n2, a2, m2, c2, hS, hx, hy, bx, by_, hg, hk⟩ := hrel
    have hz := isInt_zero hy
    by_cases h0 : m2 = 0
    · obtain rfl := hz.1 h0
      subst h0
      simp at hg
      obtain ⟨l, hl, kl, vl⟩ := isInt_list hx
      obtain ⟨a', c', e', -, -⟩ := hl.form
      cases e'
      have hll := canon_length_le kl (by rw [vl]; exact bx)
      have M := made_any false (.slice a1 l.length c1) l wr hl kl.1 (by omega)
      have HG := Lib.hid (And.intro vl hg)
      have hch := hS.below
      have hrr := hS.rr
      have d1 := hS.ra.cell 1
      have d2 := hS.rb.cell 1
      simp only [List.getElem?_cons_zero, List.getElem?_cons_succ] at d1 d2
      clear hz hx hy bx by_ hg hk hS vl hll
      go_wp2_with (go_at_call 65; with_reducible refine M.mono ?_; rintro e w5 ⟨hb5, v5, rfl, hI⟩; obtain ⟨n5, a5, m5, c5, rfl⟩ := hI.shape; have hr5 := hrr.below hb5; have s1 := hr5.cell 0; have s2 := hr5.cell 1; have s3 := hr5.frozen 0; have s4 := hr5.frozen 1; simp only [List.getElem?_cons_zero, List.getElem?_cons_succ] at s1 s2)
      obtain ⟨u1, u2⟩ := two_reads (b := w.heap.size + 1 + 1) s1 s2 (.bool n5) (.slice a5 m5 c5)
      have hkp := hI.keep (fun v xs h => two_kept (b := w.heap.size + 1 + 1) h s1 s2 (.bool n5) (.slice a5 m5 c5))
      have b9 := hch.trans (hb5.mono hch.size)
      rw [HG.out.1, HG.out.2] at hkp
      exact bodyPost_ret (v := .agg #[.bool n5, .slice a5 m5 c5]) (by simp [results, Tryd.results43, go_sem, loadCellsFrom, u1, u2]) rfl ⟨(b9.setCell (by simp; omega) _).setCell (by simp; omega) _, _, rfl, hkp⟩
    · have hy0 : y ≠ 0 := fun h => h0 (hz.2 h)
      have K := rdivide_int _ _ x y wr hx hy bx by_ hy0
      unfold PartsOut at K
      have hm2 : decide ((0 : Int) < (m2 : Int)) = true := decide_eq_true (by omega)
      have hm3 : decide (0 < m2) = true := decide_eq_true (by omega)
      have HH := Lib.hid (And.intro hy0 (And.intro bx (And.intro by_ (And.intro hg hk))))
      have d1 := hS.ra.cell 0
      have d2 := hS.ra.cell 1
      have d3 := hS.rb.cell 0
      have d4 := hS.rb.cell 1
      simp only [List.getElem?_cons_zero, List.getElem?_cons_succ] at d1 d2 d3 d4
      clear hz h0 hy0 bx by_ hg hk
      go_upto_region 3 with (go_at_call 74; with_reducible refine K.mono ?_; rintro e w3 ⟨hb3, n5, a5, m5, c5, n6, a6, m6, c6, rfl, hI, hJ⟩)
      clear K d1 d2 d3 d4
      have hB := (Below.refl w3.heap.size w3).alloc (Nat.le_refl _) (.cells #[.bool n5, .slice a5 m5 c5, .bool n6, .slice a6 m6 c6] 48)
      have g3 := hb3.trans (hB.mono hb3.size)
      have rx := RowAt.new w3 48 [.bool n5, .slice a5 m5 c5, .bool n6, .slice a6 m6 c6]
      have hlt : w.heap.size + 1 + 1 < w3.heap.size := Nat.lt_of_lt_of_le hS.rr.lt hb3.size
      replace hS := hS.step g3
      replace hy := hy.below g3
      replace hJ := hJ.below hB
      clear g3 hB hb3 hI hx
      generalize w3.alloc (.cells #[.bool n5, .slice a5 m5 c5, .bool n6, .slice a6 m6 c6] 48) = w4 at *
      generalize w3.heap.size = b5 at *
      go_cut [] from 13 to 13 (fun W => RgS w n2 a2 m2 c2 n2 a2 m2 c2 W ∧ RowAt W b5 48 [.bool n5, .slice a5 m5 c5, .bool n6, .slice a6 m6 c6] ∧ IsInt W (.agg #[.bool n2, .slice a2 m2 c2]) y ∧ IsInt W (.agg #[.bool n6, .slice a6 m6 c6]) (x.fmod y))
      case first =>
        have d1 := hS.ra.cell 0
        have d2 := hS.ra.cell 1
        have d3 := hS.rb.cell 0
        have d4 := hS.rb.cell 1
        have f1 := hS.ra.frozen 0
        have f2 := hS.ra.frozen 1
        simp only [List.getElem?_cons_zero, List.getElem?_cons_succ] at d1 d2 d3 d4
        go_wp2
        go_meet
        have hkp := fun v xs h => two_kept (v := v) (xs := xs) (b := w.heap.size) h d1 d2 (.bool n2) (.slice a2 m2 c2)
        exact ⟨hS.setA n2 a2 m2 c2, (rx.other (show b5 ≠ w.heap.size by omega) _).other (show b5 ≠ w.heap.size by omega) _, hy.keep hkp, hJ.keep hkp⟩
      case rest =>
        clear hS rx hy hJ
        obtain ⟨hS, rx, hy, hJ⟩ := hcut
        generalize wc = w5 at *
        have d3 := hS.rb.cell 0
        have d4 := hS.rb.cell 1
        have f1 := hS.rb.frozen 0
        have f2 := hS.rb.frozen 1
        have y1 := rx.cell 2
        have y2 := rx.cell 3
        simp only [List.getElem?_cons_zero, List.getElem?_cons_succ] at d3 d4 y1 y2
        have hkp := fun v xs h => two_kept (v := v) (xs := xs) (b := w.heap.size + 1) h d3 d4 (.bool n6) (.slice a6 m6 c6)
        have HK := Lib.hid (show RgR w g (x.fmod y).natAbs ((w5.setCell ⟨w.heap.size + 1, 0, none⟩ (.bool n6)).setCell ⟨w.heap.size + 1, 1, none⟩ (.slice a6 m6 c6)) from by
          obtain ⟨hy0, bx, by_, hg, hk⟩ := HH.out
          exact ⟨y, x.fmod y, n2, a2, m2, c2, n6, a6, m6, c6, hS.setB n6 a6 m6 c6, hy.keep hkp, hJ.keep hkp, by_, Nat.lt_trans (fmod_abs hy0) by_, by rw [gcd_fmod]; exact hg, rfl⟩)
        clear hkp hS rx hy hJ
        go_wp2
        go_roundg ((x.fmod y).natAbs)
        case measure =>
          obtain ⟨hy0, bx, by_, hg, hk⟩ := HH.out
          have := fmod_abs (i := x) hy0
          omega
        case rel => exact HK.out
end Go.Proofs.YtlghjfpkfdnfoaaDoor

/- zermelolaw01.small -/
namespace Go.Proofs.YtlghjfpkfdnfoaaDoor
open Go Go.RowKit Go.Shelf

/-- the two variables of small -/
structure SmS (w w1 : World) (a1 : Option Addr) (m1 c1 : Nat) (a2 : Option Addr) (m2 c2 : Nat) (X : World) : Prop where
  r1 : RowAt X w.heap.size 24 [.bool false, .slice a1 m1 c1]
  r2 : RowAt X (w.heap.size + 1) 24 [.bool false, .slice a2 m2 c2]
  below : Below w.heap.size w X
  more : Below w1.heap.size w1 X
section
variable {w w1 X X' : World} {a1 a2 : Option Addr} {m1 c1 m2 c2 : Nat}
theorem sms_of (h : SmS w w1 a1 m1 c1 a2 m2 c2 X) : X.cell? ⟨w.heap.size, 0, none⟩ = some (.bool false) ∧ X.cell? ⟨w.heap.size, 1, none⟩ = some (.slice a1 m1 c1) ∧ X.cell? ⟨w.heap.size + 1, 0, none⟩ = some (.bool false) ∧ X.cell? ⟨w.heap.size + 1, 1, none⟩ = some (.slice a2 m2 c2) ∧ SmS w w1 a1 m1 c1 a2 m2 c2 X := ⟨h.r1.cell 0, h.r1.cell 1, h.r2.cell 0, h.r2.cell 1, h⟩
theorem SmS.step (h : SmS w w1 a1 m1 c1 a2 m2 c2 X) (hb : Below X.heap.size X X') : SmS w w1 a1 m1 c1 a2 m2 c2 X' := ⟨h.r1.below hb, h.r2.below hb, h.below.trans (hb.mono h.below.size), h.more.trans (hb.mono h.more.size)⟩
theorem SmS.drew (h : SmS w w1 a1 m1 c1 a2 m2 c2 X) : SmS w w1 a1 m1 c1 a2 m2 c2 X.drew := ⟨h.r1, h.r2, h.below.drew, h.more.drew⟩
end

theorem two_neg {w W : World} {n1 n2 : Bool} {a1 a2 : Option Addr} {m1 c1 m2 c2 : Nat} {i j : Int} (q1 : RowAt W w.heap.size 24 [.bool n1, .slice a1 m1 c1]) (q2 : RowAt W (w.heap.size + 1) 24 [.bool n2, .slice a2 m2 c2])
    (i1 : IsInt W (.agg #[.bool false, .slice a1 m1 c1]) i) (i2 : IsInt W (.agg #[.bool false, .slice a2 m2 c2]) j) (b : Below w.heap.size w W) :
    let X := (W.setCell ⟨w.heap.size, 0, none⟩ (.bool false)).setCell ⟨w.heap.size + 1, 0, none⟩ (.bool false)
    SmS w X a1 m1 c1 a2 m2 c2 X ∧ IsInt X (.agg #[.bool false, .slice a1 m1 c1]) i ∧ IsInt X (.agg #[.bool false, .slice a2 m2 c2]) j := by
  intro X
  have r1 := q1.set 0 (.bool false)
  have r2 := q2.other (show w.heap.size + 1 ≠ w.heap.size by omega) (a := ⟨w.heap.size, 0, none⟩) (.bool false)
  have hk : ∀ v xs, Reads .u32 W v xs → Reads .u32 X v xs := fun v xs h => (h.setOther (c := .bool n1) (q1.cell 0) (by simp) (.bool false)).setOther (c := .bool n2) (r2.cell 0) (by simp) (.bool false)
  exact ⟨⟨r1.other (show w.heap.size ≠ w.heap.size + 1 by omega) _, r2.set 0 (.bool false), (b.setCell (Nat.le_refl _) _).setCell (show w.heap.size ≤ w.heap.size + 1 by omega) _, Below.refl _ _⟩, i1.keep hk, i2.keep hk⟩

set_option maxHeartbeats 2000000 in
set_option maxRecDepth 100000 in
theorem small_any (vx vb : Value) (k j : Int) (L : Nat) (w : World) (hx : IsInt w vx k) (hb : IsInt w vb j) (hL : L ≤ 100000) (bk : k.natAbs < B32 ^ L) (bj : j.natAbs < B32 ^ L) (hle : k.natAbs ≤ max 1 j.natAbs) :
    Calls Tryd.prog 42 #[vx, vb] w fun e w' => Below w.heap.size w w' ∧ e = .returned (.bool true) := by
  obtain ⟨n1, a1, m1, c1, rfl⟩ := hx.shape
  obtain ⟨n2, a2, m2, c2, rfl⟩ := hb.shape
  have b1 := (Below.refl w.heap.size w).alloc (Nat.le_refl _) (.cells #[.bool n1, .slice a1 m1 c1] 24)
  have b2 := b1.alloc b1.size (.cells #[.bool n2, .slice a2 m2 c2] 24)
  have q1 := (RowAt.new w 24 [.bool n1, .slice a1 m1 c1]).alloc (.cells #[.bool n2, .slice a2 m2 c2] 24)
  have q2 := RowAt.new (w.alloc (.cells #[.bool n1, .slice a1 m1 c1] 24)) 24 [.bool n2, .slice a2 m2 c2]
  simp only [World.size_alloc] at q2
  have i1 := isInt_abs (hx.below b2)
  have i2 := isInt_abs (hb.below b2)
  obtain ⟨W0, hW0⟩ : ∃ W0, (w.alloc (.cells #[.bool n1, .slice a1 m1 c1] 24)).alloc (.cells #[.bool n2, .slice a2 m2 c2] 24) = W0 := ⟨_, rfl⟩
  rw [hW0] at b2 q1 q2 i1 i2
  have HW := Lib.hid hW0
  have d1 := q1.cell 0
  have d2 := q2.cell 0
  have f1 := q1.frozen 0
  have f2 := q2.frozen 0
  simp only [List.getElem?_cons_zero] at d1 d2
  clear hW0 hx hb b1
  go_enter Tryd.func42, Tryd.ntmps42
  go_upto_region 1 with (fail)
  rw [HW.out]
  have e0 := two_neg q1 q2 i1 i2 b2
  have E0 := Lib.hid e0
  clear e0 q1 q2 i1 i2 b2
  have d2' : ∀ u, (W0.setCell ⟨w.heap.size, 0, none⟩ u).cell? ⟨w.heap.size + 1, 0, none⟩ = some (.bool n2) := fun u => by
    rw [World.cell?_setCell_other _ _ _ _ (by simp)]; exact d2
  go_upto_region 3 with (fail)
  generalize (W0.setCell ⟨w.heap.size, 0, none⟩ (.bool false)).setCell ⟨w.heap.size + 1, 0, none⟩ (.bool false) = w1 at *
  obtain ⟨hS, i1, i2⟩ := E0.out
  clear d1 d2 f1 f2 d2' E0 HW
  have hD := Lib.hid (sms_of hS.drew)
  have KC := fun X (hX : SmS w w1 a1 m1 c1 a2 m2 c2 X) => rcompare_int _ _ _ _ X (i1.below hX.more) (i2.below hX.more) L hL (by rw [Int.natAbs_natCast]; exact bk) (by rw [Int.natAbs_natCast]; exact bj)
  obtain ⟨c, hc⟩ : ∃ c, cmpI (k.natAbs : Int) (j.natAbs : Int) = c := ⟨_, rfl⟩
  rw [hc] at KC
  by_cases hkj : k.natAbs ≤ j.natAbs
  · have hc0 : c ≤ 0 := by rw [← hc]; unfold cmpI; (repeat' split) <;> omega
    clear hc hkj hle bk bj hL i1 i2 hS
    refine wp_region_held_drew (S := (fun X => X.cell? ⟨w.heap.size, 0, none⟩ = some (.bool false) ∧ X.cell? ⟨w.heap.size, 1, none⟩ = some (.slice a1 m1 c1) ∧ X.cell? ⟨w.heap.size + 1, 0, none⟩ = some (.bool false) ∧ X.cell? ⟨w.heap.size + 1, 1, none⟩ = some (.slice a2 m2 c2) ∧ SmS w w1 a1 m1 c1 a2 m2 c2 X)) (by kernel_rfl) hD.out (fun hHeld => ?_)
    refine wpAnyH_take (i := 0) (oi := _) (v := .agg #[.bool false, .slice a1 m1 c1]) rfl (by kernel_rfl) (by kernel_rfl) (by kernel_rfl) (fun _ _ _ h => h) (Or.inl ⟨by rfl, fun w hSw => by dsimp only at hSw; go_simp⟩) (by assumption) ?_
    refine wpAnyH_take (i := 1) (oi := _) (v := .agg #[.bool false, .slice a2 m2 c2]) rfl (by kernel_rfl) (by kernel_rfl) (by kernel_rfl) (fun _ _ _ h => h) (Or.inl ⟨by rfl, fun w hSw => by dsimp only at hSw; go_simp⟩) (by assumption) ?_
    simp only [Act.put, List.setIfInBounds_toArray]
    refine wpAnyH_ready (rs := [2]) (by kernel_rfl) (by simp) ?_
    refine AllReadyH.cons (o := _) rfl (fun K9 hK9 => ?_) AllReadyH.nil
    rw [if_pos (by rfl)]
    obtain ⟨-, -, -, -, hP1⟩ := hHeld
    go_wp2_with (go_at_call 20; with_reducible refine (KC _ hP1).mono ?_; rintro e w9 ⟨hbe, rfl⟩)
    refine hK9.out _ _ ?_ (fun hHeld => ?_)
    · exact sms_of (hP1.step hbe)
    clear hK9 K9 KC
    refine wpAnyH_take (i := 3) (oi := _) (v := .bool true) rfl (by kernel_rfl) (by kernel_rfl) (by kernel_rfl) (fun _ _ _ h => h) (Or.inl ⟨by rfl, fun w hSw => by dsimp only at hSw; go_simp⟩) (by assumption) ?_
    refine wpAnyH_take (i := 4) (oi := _) (v := .bool true) rfl (by kernel_rfl) (by kernel_rfl) (by kernel_rfl) (fun _ _ _ h => h) (Or.inl ⟨by rfl, fun w hSw => by dsimp only at hSw; go_simp⟩) (by assumption) ?_
    refine wpAnyH_take (i := 5) (oi := _) (v := undef) rfl (by kernel_rfl) (by kernel_rfl) (by kernel_rfl) (fun _ _ _ h => h) (Or.inr ⟨by rfl, rfl⟩) (by assumption) ?_
    refine wpAnyH_take (i := 6) (oi := _) (v := undef) rfl (by kernel_rfl) (by kernel_rfl) (by kernel_rfl) (fun _ _ _ h => h) (Or.inr ⟨by rfl, rfl⟩) (by assumption) ?_
    refine wpAnyH_take (i := 7) (oi := _) (v := undef) rfl (by kernel_rfl) (by kernel_rfl) (by kernel_rfl) (fun _ _ _ h => h) (Or.inr ⟨by rfl, rfl⟩) (by assumption) ?_
    refine wpAnyH_take (i := 8) (oi := _) (v := .bool true) rfl (by kernel_rfl) (by kernel_rfl) (by kernel_rfl) (fun _ _ _ h => h) (Or.inl ⟨by rfl, fun w hSw => by dsimp only at hSw; go_simp⟩) (by assumption) ?_
    refine wpAnyH_take (i := 9) (oi := _) (v := .bool true) rfl (by kernel_rfl) (by kernel_rfl) (by kernel_rfl) (fun _ _ _ h => h) (Or.inl ⟨by rfl, fun w hSw => by dsimp only at hSw; go_simp⟩) (by assumption) ?_
    refine wpAnyH_done (by kernel_rfl) ?_ _
    obtain ⟨-, -, -, -, hP5⟩ := hHeld
    go_wp2
    go_ret
    exact ⟨hP5.below, rfl⟩
  · have hk1 : k.natAbs = 1 := by omega
    have hc1 : c = 1 := by rw [← hc]; unfold cmpI; rw [if_neg (by omega), if_pos (by omega)]
    rw [hc1] at KC
    rw [hk1] at i1
    have K1 := fun X => rof_int 1 X (by decide) (by decide)
    have KE := fun X v (hX : SmS w w1 a1 m1 c1 a2 m2 c2 X) (hv : IsInt X v 1) => rsame_eq _ v 1 X (i1.below hX.more) hv
    clear hc hc1 hkj hle bk bj hL i2
    go_region_held3 (fun X => X.cell? ⟨w.heap.size, 0, none⟩ = some (.bool false) ∧ X.cell? ⟨w.heap.size, 1, none⟩ = some (.slice a1 m1 c1) ∧ X.cell? ⟨w.heap.size + 1, 0, none⟩ = some (.bool false) ∧ X.cell? ⟨w.heap.size + 1, 1, none⟩ = some (.slice a2 m2 c2) ∧ SmS w w1 a1 m1 c1 a2 m2 c2 X)
      (first | exact hD.out | (go_split_ands; exact sms_of (SmS.step (by assumption) hbc)))
      (first
        | (go_at_call 20; go_split_ands; with_reducible refine (KC _ (by assumption)).mono ?_; rintro e wk ⟨hbc, rfl⟩)
        | (go_at_call 27; go_split_ands; with_reducible refine (K1 _).mono ?_; rintro e wk ⟨hbc, vO, rfl, hO⟩)
        | (go_at_call 25; go_split_ands; with_reducible refine (KE _ _ (by assumption) hO).mono ?_; rintro e wk ⟨hbc, rfl⟩))
    rename_i hX
    obtain ⟨-, -, -, -, hP5⟩ := hX
    go_wp2
    go_ret
    exact ⟨hP5.below, rfl⟩

end Go.Proofs.YtlghjfpkfdnfoaaDoor

/- zermelolaw01.NumGcds -/
namespace Go.Proofs.YtlghjfpkfdnfoaaDoor
open Go Go.RowKit Go.Shelf

set_option exponentiation.threshold 400 in
theorem gcd_full (va vb : Value) (i j : Int) (w : World) (ha : IsInt w va i) (hb : IsInt w vb j) (hi : i.natAbs < B32 ^ 30) (hj : j.natAbs < B32 ^ 30) :
    Calls Tryd.prog 41 #[va, vb] w fun e w' => Below w.heap.size w w' ∧ ∃ g x y k l, e = .returned (.tuple #[g, x, y, .int .i64 0]) ∧ IsInt w' g (Nat.gcd i.natAbs j.natAbs : Nat) ∧ IsInt w' x k ∧ IsInt w' y l ∧ ((Nat.gcd i.natAbs j.natAbs : Nat) : Int) = i * k + j * l ∧ k.natAbs ≤ max 1 j.natAbs ∧ l.natAbs ≤ max 1 i.natAbs := by
  obtain ⟨na, xa, hA, fa, rfl, ca, la⟩ := ha.at (abs_lt_up hi (by decide))
  obtain ⟨nb, xb, hB, fb, rfl, cb, lb⟩ := hb.at (abs_lt_up hj (by decide))
  rw [sgn_natAbs] at hi hj
  rw [sgn_natAbs, sgn_natAbs]
  refine (Gcd_ok va vb na nb xa xb w hA hB fa fb (Nat.gcd (val xa) (val xb) : Nat) (fun k l => ((Nat.gcd (val xa) (val xb) : Nat) : Int) = sgn na (val xa) * k + sgn nb (val xb) * l ∧ k.natAbs ≤ max 1 (val xb) ∧ l.natAbs ≤ max 1 (val xa)) (fun W hW => ?_)).mono ?_
  · obtain ⟨va', rfl, hra, hla⟩ := hA
    obtain ⟨vb', rfl, hrb, hlb⟩ := hB
    exact divisor_any 30 (by omega) (divUpTo_le (divUpTo_all 30) (by omega) (by omega)) (by omega) va' vb' na nb xa xb W (hra.below hW) (hrb.below hW) ca cb (canon_length_le ca hi) (canon_length_le cb hj) la lb
  · rintro e W ⟨hbe, g, x, y, k, l, rfl, h1, h2, h3, h4⟩
    exact ⟨hbe, g, x, y, k, l, rfl, h1, h2, h3, h4⟩
theorem rformed_int (v : Value) (i : Int) (w : World) (h : IsInt w v i) (hi : i.natAbs < B32 ^ 300) : Calls Tryd.prog 19 #[v] w fun e w' => Below w.heap.size w w' ∧ e = .returned (.bool true) := by
  obtain ⟨n, xs, hA, f, -, -, -⟩ := h.at hi
  have := rformed_any v n xs w hA
  rwa [f] at this
theorem boxes_three {W W' : World} {n m p : Bool} {a b d : Option Addr} {k c l e q r : Nat} {i j h : Int} (h1 : IsInt W' (.agg #[.bool n, .slice a k c]) i) (h2 : IsInt W' (.agg #[.bool m, .slice b l e]) j) (h3 : IsInt W' (.agg #[.bool p, .slice d q r]) h) (hb : Below W.heap.size W W') :
    BoxI (((W'.alloc (.cells #[.bool n, .slice a k c] 24)).alloc (.cells #[.bool m, .slice b l e] 24)).alloc (.cells #[.bool p, .slice d q r] 24)) (.pointer (some ⟨W'.heap.size, 0, none⟩)) i ∧
    BoxI (((W'.alloc (.cells #[.bool n, .slice a k c] 24)).alloc (.cells #[.bool m, .slice b l e] 24)).alloc (.cells #[.bool p, .slice d q r] 24)) (.pointer (some ⟨W'.heap.size + 1, 0, none⟩)) j ∧
    BoxI (((W'.alloc (.cells #[.bool n, .slice a k c] 24)).alloc (.cells #[.bool m, .slice b l e] 24)).alloc (.cells #[.bool p, .slice d q r] 24)) (.pointer (some ⟨W'.heap.size + 1 + 1, 0, none⟩)) h ∧
    Below W.heap.size W (((W'.alloc (.cells #[.bool n, .slice a k c] 24)).alloc (.cells #[.bool m, .slice b l e] 24)).alloc (.cells #[.bool p, .slice d q r] 24)) := by
  have e1 : Below W'.heap.size W' (W'.alloc (.cells #[.bool n, .slice a k c] 24)) := (Below.refl _ _).alloc (Nat.le_refl _) _
  have e2 := e1.alloc e1.size (.cells #[.bool m, .slice b l e] 24)
  have e3 := e2.alloc e2.size (.cells #[.bool p, .slice d q r] 24)
  have B1 := ((BoxI.new h1).alloc (.cells #[.bool m, .slice b l e] 24)).alloc (.cells #[.bool p, .slice d q r] 24)
  have B2 := (BoxI.new (h2.below e1)).alloc (.cells #[.bool p, .slice d q r] 24)
  have B3 := BoxI.new (h3.below e2)
  simp only [World.size_alloc] at B2 B3
  exact ⟨B1, B2, B3, hb.trans (e3.mono hb.size)⟩

set_option maxHeartbeats 4000000 in
set_option maxRecDepth 100000 in
set_option exponentiation.threshold 100000 in
theorem gcds_any (va vb : Value) (na nb : Bool) (xa xb : List Nat) (w : World) (ha : IntAt w va na xa) (hb : IntAt w vb nb xb) (hT : DigitsAt w) :
    Calls Tryd.prog 7 #[va, vb] w fun e w' => Below w.heap.size w w' ∧ e = .returned (.bool true) := by
  obtain ⟨sa, rfl, hra, hla⟩ := ha
  obtain ⟨sb, rfl, hrb, hlb⟩ := hb
  obtain ⟨aa, ca, rfl, hca, hma⟩ := hra.form
  obtain ⟨ab, cb, rfl, hcb, hmb⟩ := hrb.form
  go_enter Tryd.func7, Tryd.ntmps7
  go_upto_region 0 with (fail)
  go_cut [2, 3] from 0 to 1 (fun v2 v3 W => BoxF W v2 na xa ∧ BoxF W v3 nb xb ∧ Below w.heap.size w W)
  case first =>
    go_wp2
    go_meet
    have B1 : Below w.heap.size w (w.alloc (.cells #[.bool na, .slice aa xa.length ca] 24)) := (Below.refl _ _).alloc (Nat.le_refl _) _
    have B2 := B1.alloc B1.size (.cells #[.bool nb, .slice ab xb.length cb] 24)
    have C1 : BoxF _ _ na xa := ⟨_, aa, ca, rfl, RowAt.new w 24 [.bool na, .slice aa xa.length ca], hra.below B1⟩
    have C2 : BoxF _ _ nb xb := ⟨_, ab, cb, rfl, RowAt.new (w.alloc (.cells #[.bool na, .slice aa xa.length ca] 24)) 24 [.bool nb, .slice ab xb.length cb], hrb.below B2⟩
    simp only [World.size_alloc] at C2
    exact ⟨C1.below ((Below.refl _ _).alloc (Nat.le_refl _) _), C2, B2⟩
  case rest =>
    obtain ⟨q1, q2, hbe⟩ := hcut
    clear hra hrb hca hcb hma hmb
    have hT1 := hT.below hbe
    obtain ⟨b1, a1, c1, rfl, r1, j1⟩ := q1
    obtain ⟨b2, a2, c2, rfl, r2, j2⟩ := q2
    have T1 : TelL w b1 na a1 c1 xa b2 nb a2 c2 xb wc := ⟨r1, r2, ⟨_, rfl, j1, hla⟩, ⟨_, rfl, j2, hlb⟩, hbe⟩
    clear r1 r2 j1 j2 hbe hT1
    generalize wc = wX0 at *
    have few_pay : ∀ X, TelL w b1 na a1 c1 xa b2 nb a2 c2 xb X → ∀ it ∈ ([(na, .slice a1 xa.length c1, xa), (nb, .slice a2 xb.length c2, xb)] : List Item), Reads .u32 (X.alloc (.cells #[.bool na, .slice a1 xa.length c1, .bool nb, .slice a2 xb.length c2] 24)) it.2.1 it.2.2 ∧ Limbs it.2.2 := fun X hX it hit => by
      have hB : Below X.heap.size X (X.alloc (.cells #[.bool na, .slice a1 xa.length c1, .bool nb, .slice a2 xb.length c2] 24)) := (Below.refl _ _).alloc (Nat.le_refl _) _
      obtain ⟨s1, e1, p1, -⟩ := hX.ia
      obtain ⟨s2, e2, p2, -⟩ := hX.ib
      simp only [Value.agg.injEq, Array.mk.injEq, List.cons.injEq, and_true, true_and] at e1 e2
      subst e1 e2
      simp only [List.mem_cons, List.not_mem_nil, or_false] at hit
      rcases hit with rfl | rfl
      · exact ⟨p1.below hB, hla⟩
      · exact ⟨p2.below hB, hlb⟩
    have KW := fun X (hX : TelL w b1 na a1 c1 xa b2 nb a2 c2 xb X) (most : Int) => few_list [(na, .slice a1 xa.length c1, xa), (nb, .slice a2 xb.length c2, xb)] most X.heap.size (X.alloc (.cells #[.bool na, .slice a1 xa.length c1, .bool nb, .slice a2 xb.length c2] 24)) (RowAt.new X 24 [.bool na, .slice a1 xa.length c1, .bool nb, .slice a2 xb.length c2]) (by simp) (few_pay X hX)
    simp only [List.length_cons, List.length_nil, Nat.zero_add, Nat.reduceAdd] at KW
    have KG := fun X (hX : TelL w b1 na a1 c1 xa b2 nb a2 c2 xb X) => rformed_any _ na xa X hX.ia
    have KH := fun X (hX : TelL w b1 na a1 c1 xa b2 nb a2 c2 xb X) => rformed_any _ nb xb X hX.ib
    have DG := fun X (hX : TelL w b1 na a1 c1 xa b2 nb a2 c2 xb X) => hT.below hX.below
    clear few_pay
    obtain ⟨F3, hF3⟩ : ∃ b, List.all [(na, .slice a1 xa.length c1, xa), (nb, .slice a2 xb.length c2, xb)] (fewB 310) = b := ⟨_, rfl⟩
    obtain ⟨F2, hF2⟩ : ∃ b, List.all [(na, .slice a1 xa.length c1, xa), (nb, .slice a2 xb.length c2, xb)] (fewB 20) = b := ⟨_, rfl⟩
    have KA := fun X (hX : TelL w b1 na a1 c1 xa b2 nb a2 c2 xb X) => KW X hX 310
    have KB := fun X (hX : TelL w b1 na a1 c1 xa b2 nb a2 c2 xb X) => KW X hX 20
    rw [hF3] at KA
    rw [hF2] at KB
    have HF := Lib.hid hF2
    clear hF3 hF2 KW
    obtain ⟨d1, d2, d3, d4⟩ := tel_cells T1
    have hB0 : Below wX0.heap.size wX0 (wX0.alloc (.cells #[.bool na, .slice a1 xa.length c1, .bool nb, .slice a2 xb.length c2] 24)) := (Below.refl _ _).alloc (Nat.le_refl _) _
    cases F3 with
    | false =>
      clear KB HF KG KH
      go_wp2_with (first
        | (go_at_call 15; with_reducible refine (KA _ T1).mono ?_; rintro e w2 ⟨hb2, rfl⟩; have T2 := tel_step (tel_step T1 hB0) hb2)
        | (go_at_call 16; with_reducible refine (sane_any _ (DG _ T2)).mono ?_; rintro e w3 ⟨hb3, rfl⟩))
      go_ret
      exact ⟨(tel_step T2 hb3).below, rfl⟩
    | true =>
      go_upto_region 3 with (go_at_call 15; with_reducible refine (KA _ T1).mono ?_; rintro e w2 ⟨hb2, rfl⟩)
      replace T1 := tel_step (tel_step T1 hB0) hb2
      clear d1 d2 d3 d4 hB0 hb2 KA
      generalize w2 = wX1 at *
      go_cut [26] from 19 to 26 (fun v W => v = .bool (!(formedB na xa && formedB nb xb)) ∧ TelL w b1 na a1 c1 xa b2 nb a2 c2 xb W)
      case first =>
        obtain ⟨d1, d2, d3, d4⟩ := tel_cells T1
        generalize formedB na xa = fa at *
        generalize formedB nb xb = fb at *
        cases fa with
        | false =>
          go_wp2_with (go_at_call 19; with_reducible refine (KG _ T1).mono ?_; rintro e w3 ⟨hb3, rfl⟩)
          go_meet
          exact ⟨rfl, tel_step T1 hb3⟩
        | true =>
          go_wp2_with (first
            | (go_at_call 19; with_reducible refine (KG _ T1).mono ?_; rintro e w3 ⟨hb3, rfl⟩; have T2 := tel_step T1 hb3; obtain ⟨e1, e2, e3, e4⟩ := tel_cells T2)
            | (go_at_call 19; with_reducible refine (KH _ T2).mono ?_; rintro e w4 ⟨hb4, rfl⟩))
          go_meet
          exact ⟨by cases fb <;> rfl, tel_step T2 hb4⟩
      case rest =>
        clear T1 KG KH
        obtain ⟨rfl, T1⟩ := hcut
        generalize wc = wX2 at *
        cases hfo : (formedB na xa && formedB nb xb) with
        | false =>
          have KN := fun X (hX : TelL w b1 na a1 c1 xa b2 nb a2 c2 xb X) => Gcd_no _ _ na nb xa xb X hX.ia hX.ib hfo
          unfold zeroInt at KN
          clear hfo HF KB
          obtain ⟨d1, d2, d3, d4⟩ := tel_cells T1
          go_upto_region 5 with (go_at_call 41; with_reducible refine (KN _ T1).mono ?_; rintro e w3 ⟨hb3, rfl⟩)
          have Z3 : IsInt w3 (.agg #[.bool false, .slice none 0 0]) 0 := ⟨false, _, [], rfl, Reads.nil _ _, canon_nil, rfl, by simp [sgn, val]⟩
          obtain ⟨-, -, -, g3⟩ := boxes_three Z3 Z3 Z3 hb3
          replace T1 := tel_step T1 g3
          clear d1 d2 d3 d4 KN g3 Z3 hb3
          generalize ((w3.alloc (.cells #[.bool false, .slice none 0 0] 24)).alloc (.cells #[.bool false, .slice none 0 0] 24)).alloc (.cells #[.bool false, .slice none 0 0] 24) = w4 at *
          go_wp2_with (go_at_call 16; with_reducible refine (sane_any _ (DG _ T1)).mono ?_; rintro e w5 ⟨hb5, rfl⟩)
          go_ret
          exact ⟨(tel_step T1 hb5).below, rfl⟩
        | true =>
          obtain ⟨fa, fb⟩ := Bool.and_eq_true_iff.1 hfo
          clear hfo
          go_upto_region 6 with (fail)
          obtain ⟨d1, d2, d3, d4⟩ := tel_cells T1
          have hB0 : Below wX2.heap.size wX2 (wX2.alloc (.cells #[.bool na, .slice a1 xa.length c1, .bool nb, .slice a2 xb.length c2] 24)) := (Below.refl _ _).alloc (Nat.le_refl _) _
          cases F2 with
          | false =>
            clear HF
            go_wp2_with (first
              | (go_at_call 15; with_reducible refine (KB _ T1).mono ?_; rintro e w2 ⟨hb2, rfl⟩; have T2 := tel_step (tel_step T1 hB0) hb2)
              | (go_at_call 16; with_reducible refine (sane_any _ (DG _ T2)).mono ?_; rintro e w3 ⟨hb3, rfl⟩))
            go_ret
            exact ⟨(tel_step T2 hb3).below, rfl⟩
          | true =>
            obtain ⟨la, lb⟩ : xa.length ≤ 20 ∧ xb.length ≤ 20 := by
              have := HF.out
              simp only [List.all_cons, List.all_nil, fewB, Bool.and_true, Bool.and_eq_true, decide_eq_true_eq] at this
              exact ⟨by omega, by omega⟩
            go_upto_region 8 with (go_at_call 15; with_reducible refine (KB _ T1).mono ?_; rintro e w2 ⟨hb2, rfl⟩)
            replace T1 := tel_step (tel_step T1 hB0) hb2
            clear d1 d2 d3 d4 hB0 hb2 KB HF
            generalize w2 = wX3 at *
            have I1 := IntAt.isInt T1.ia fa
            have I2 := IntAt.isInt T1.ib fb
            have Bi : (sgn na (val xa)).natAbs < B32 ^ 20 := by rw [sgn_natAbs]; exact Nat.lt_of_lt_of_le (val_lt hla) (Nat.pow_le_pow_right B32_pos la)
            have Bj : (sgn nb (val xb)).natAbs < B32 ^ 20 := by rw [sgn_natAbs]; exact Nat.lt_of_lt_of_le (val_lt hlb) (Nat.pow_le_pow_right B32_pos lb)
            have R1 := T1.r1
            have R2 := T1.r2
            have hbw := T1.below
            have DT := DG _ T1
            clear fa fb la lb T1 DG
            generalize sgn na (val xa) = i at *
            generalize sgn nb (val xb) = j at *
            generalize xa.length = m1 at *
            generalize xb.length = m2 at *
            go_cut [9, 10, 11, 12] from 46 to 53 (fun v9 v10 v11 v12 W => v12 = .int .i64 0 ∧ ∃ k l, BoxI W v9 ((Nat.gcd i.natAbs j.natAbs : Nat) : Int) ∧ BoxI W v10 k ∧ BoxI W v11 l ∧ ((Nat.gcd i.natAbs j.natAbs : Nat) : Int) = i * k + j * l ∧ k.natAbs ≤ max 1 j.natAbs ∧ l.natAbs ≤ max 1 i.natAbs ∧ Below wX3.heap.size wX3 W)
            case first =>
              have K := gcd_full _ _ i j wX3 I1 I2 (abs_lt_up Bi (by decide)) (abs_lt_up Bj (by decide))
              have d1 := R1.cell 0
              have d2 := R1.cell 1
              have d3 := R2.cell 0
              have d4 := R2.cell 1
              simp only [List.getElem?_cons_zero, List.getElem?_cons_succ] at d1 d2 d3 d4
              clear I1 I2 Bi Bj
              go_wp2_with (go_at_call 41; with_reducible refine K.mono ?_; rintro e w3 ⟨hb3, vg, vx, vy, k, l, rfl, h1, h2, h3, h4, h5, h6⟩; obtain ⟨p1, o1, l1, g1, rfl⟩ := h1.shape; obtain ⟨p2, o2, l2, g2, rfl⟩ := h2.shape; obtain ⟨p3, o3, l3, g3, rfl⟩ := h3.shape)
              go_meet
              obtain ⟨z1, z2, z3, z4⟩ := boxes_three h1 h2 h3 hb3
              exact ⟨rfl, k, l, z1, z2, z3, h4, h5, h6, z4⟩
            case rest =>
              obtain ⟨rfl, k, l, q9, q10, q11, hg, hk, hl, hb4⟩ := hcut
              replace I1 := I1.below hb4
              replace I2 := I2.below hb4
              replace R1 := R1.below hb4
              replace R2 := R2.below hb4
              replace DT := DT.below hb4
              replace hbw := hbw.trans (hb4.mono hbw.size)
              clear hb4
              generalize wc = wX4 at *
              obtain ⟨b5, n5, a5, m5, c5, rfl, r5, i5⟩ := q9
              obtain ⟨b7, n7, a7, m7, c7, rfl, r7, i7⟩ := q10
              obtain ⟨b9, n9, a9, m9, c9, rfl, r9, i9⟩ := q11
              have h1B : 1 < B32 ^ 20 := Nat.one_lt_pow (by decide) (by decide)
              have Bk : k.natAbs < B32 ^ 20 := by omega
              have Bl : l.natAbs < B32 ^ 20 := by omega
              go_upto_region 9 with (fail)
              go_cut [77] from 54 to 77 (fun v W => v = .bool false ∧ Below wX4.heap.size wX4 W)
              case first =>
                have KF := fun X (hX : Below wX4.heap.size wX4 X) => rformed_int _ k X (i7.below hX) (abs_lt_up Bk (by decide))
                have KG := fun X (hX : Below wX4.heap.size wX4 X) => rformed_int _ l X (i9.below hX) (abs_lt_up Bl (by decide))
                have KS := fun X (hX : Below wX4.heap.size wX4 X) => small_any _ _ k j 20 X (i7.below hX) (I2.below hX) (by decide) Bk Bj hk
                have KT := fun X (hX : Below wX4.heap.size wX4 X) => small_any _ _ l i 20 X (i9.below hX) (I1.below hX) (by decide) Bl Bi hl
                have d1 := r7.cell 0
                have d2 := r7.cell 1
                simp only [List.getElem?_cons_zero, List.getElem?_cons_succ] at d1 d2
                clear hg hk hl Bk Bl Bi Bj h1B I1 I2 i5 i7 i9
                go_wp2_with (first
                  | (go_at_call 19; with_reducible refine (KF _ (Below.refl _ _)).mono ?_; rintro e w5 ⟨g5, rfl⟩; have e1 := (r9.below g5).cell 0; have e2 := (r9.below g5).cell 1; simp only [List.getElem?_cons_zero, List.getElem?_cons_succ] at e1 e2)
                  | (go_at_call 19; with_reducible refine (KG _ g5).mono ?_; rintro e w6 ⟨h6, rfl⟩; have g6 := g5.trans (h6.mono g5.size); clear e1 e2; have e1 := (r7.below g6).cell 0; have e2 := (r7.below g6).cell 1; have e3 := (R2.below g6).cell 0; have e4 := (R2.below g6).cell 1; simp only [List.getElem?_cons_zero, List.getElem?_cons_succ] at e1 e2 e3 e4)
                  | (go_at_call 42; with_reducible refine (KS _ g6).mono ?_; rintro e w7 ⟨h7, rfl⟩; have g7 := g6.trans (h7.mono g6.size); clear e1 e2 e3 e4; have e1 := (r9.below g7).cell 0; have e2 := (r9.below g7).cell 1; have e3 := (R1.below g7).cell 0; have e4 := (R1.below g7).cell 1; simp only [List.getElem?_cons_zero, List.getElem?_cons_succ] at e1 e2 e3 e4)
                  | (go_at_call 42; with_reducible refine (KT _ g7).mono ?_; rintro e w8 ⟨h8, rfl⟩))
                go_meet
                exact ⟨rfl, g7.trans (h8.mono g7.size)⟩
              case rest =>
                obtain ⟨rfl, hb5⟩ := hcut
                replace I1 := I1.below hb5
                replace I2 := I2.below hb5
                replace R1 := R1.below hb5
                replace R2 := R2.below hb5
                replace DT := DT.below hb5
                replace i5 := i5.below hb5
                replace i7 := i7.below hb5
                replace i9 := i9.below hb5
                replace r5 := r5.below hb5
                replace r7 := r7.below hb5
                replace r9 := r9.below hb5
                replace hbw := hbw.trans (hb5.mono hbw.size)
                clear hb5
                generalize wc = wX5 at *
                go_upto_region 11 with (fail)
                have hL : SumL w wX5 b1 na a1 m1 c1 b2 nb a2 m2 c2 b5 n5 a5 m5 c5 b7 n7 a7 m7 c7 b9 n9 a9 m9 c9 wX5 := ⟨R1, R2, r5, r7, r9, hbw, Below.refl _ _⟩
                have hD := Lib.hid (suml_drew hL)
                have e4 : B32 ^ 41 = B32 ^ 40 * B32 := Nat.pow_succ ..
                have Bx : (i * k).natAbs < B32 ^ 40 := abs_mul_lt Bi Bk
                have By : (j * l).natAbs < B32 ^ 40 := abs_mul_lt Bj Bl
                have kS := fun X (hX : SumL w wX5 b1 na a1 m1 c1 b2 nb a2 m2 c2 b5 n5 a5 m5 c5 b7 n7 a7 m7 c7 b9 n9 a9 m9 c9 X) => sane_any X (DT.below hX.more)
                have kG := fun X (hX : SumL w wX5 b1 na a1 m1 c1 b2 nb a2 m2 c2 b5 n5 a5 m5 c5 b7 n7 a7 m7 c7 b9 n9 a9 m9 c9 X) => rgcd_int _ _ i j X (I1.below hX.more) (I2.below hX.more) (abs_lt_up Bi (by decide)) (abs_lt_up Bj (by decide))
                have kE := fun X v (hX : SumL w wX5 b1 na a1 m1 c1 b2 nb a2 m2 c2 b5 n5 a5 m5 c5 b7 n7 a7 m7 c7 b9 n9 a9 m9 c9 X) (hv : IsInt X v ((Nat.gcd i.natAbs j.natAbs : Nat) : Int)) => rsame_eq _ v _ X (i5.below hX.more) hv
                have kT := fun X (hX : SumL w wX5 b1 na a1 m1 c1 b2 nb a2 m2 c2 b5 n5 a5 m5 c5 b7 n7 a7 m7 c7 b9 n9 a9 m9 c9 X) => rtimes_int _ _ i k X (I1.below hX.more) (i7.below hX.more) (abs_lt_up Bi (by decide)) (abs_lt_up Bk (by decide))
                have kU := fun X (hX : SumL w wX5 b1 na a1 m1 c1 b2 nb a2 m2 c2 b5 n5 a5 m5 c5 b7 n7 a7 m7 c7 b9 n9 a9 m9 c9 X) => rtimes_int _ _ j l X (I2.below hX.more) (i9.below hX.more) (abs_lt_up Bj (by decide)) (abs_lt_up Bl (by decide))
                have kA := fun X v1 v2 (h1 : IsInt X v1 (i * k)) (h2 : IsInt X v2 (j * l)) => rsum_int v1 v2 (i * k) (j * l) 40 X h1 h2 (by decide) Bx By
                rw [← hg] at kA
                clear hg hk hl Bi Bj Bk Bl Bx By h1B I1 I2 i5 i7 i9 e4
                generalize Nat.gcd i.natAbs j.natAbs = g at *
                go_region_held3 (fun X => X.cell? ⟨b1, 0, none⟩ = some (.bool na) ∧ X.cell? ⟨b1, 1, none⟩ = some (.slice a1 m1 c1) ∧ X.cell? ⟨b2, 0, none⟩ = some (.bool nb) ∧ X.cell? ⟨b2, 1, none⟩ = some (.slice a2 m2 c2) ∧ X.cell? ⟨b5, 0, none⟩ = some (.bool n5) ∧ X.cell? ⟨b5, 1, none⟩ = some (.slice a5 m5 c5) ∧ X.cell? ⟨b7, 0, none⟩ = some (.bool n7) ∧ X.cell? ⟨b7, 1, none⟩ = some (.slice a7 m7 c7) ∧ X.cell? ⟨b9, 0, none⟩ = some (.bool n9) ∧ X.cell? ⟨b9, 1, none⟩ = some (.slice a9 m9 c9) ∧ SumL w wX5 b1 na a1 m1 c1 b2 nb a2 m2 c2 b5 n5 a5 m5 c5 b7 n7 a7 m7 c7 b9 n9 a9 m9 c9 X)
                  (first | exact hD.out | (go_split_ands; exact suml_of (suml_step (by assumption) hbc)))
                  (first
                    | (go_at_call 16; go_split_ands; with_reducible refine (kS _ (by assumption)).mono ?_; rintro e wk ⟨hbc, rfl⟩)
                    | (go_at_call 43; go_split_ands; with_reducible refine (kG _ (by assumption)).mono ?_; rintro e wk ⟨hbc, vG, rfl, hG⟩)
                    | (go_at_call 25; go_split_ands; with_reducible refine (kE _ _ (by assumption) hG).mono ?_; rintro e wk ⟨hbc, rfl⟩)
                    | (go_at_call 45; go_split_ands; with_reducible refine (kT _ (by assumption)).mono ?_; rintro e wk ⟨hbc, vT, rfl, hT1⟩)
                    | (go_at_call 45; go_split_ands; with_reducible refine (kU _ (by assumption)).mono ?_; rintro e wk ⟨hbc, vU, rfl, hT2⟩; replace hT1 := hT1.below hbc)
                    | (go_at_call 44; go_split_ands; with_reducible refine (kA _ _ _ hT1 hT2).mono ?_; rintro e wk ⟨hbc, vA, rfl, hAA⟩)
                    | (go_at_call 25; go_split_ands; with_reducible refine (kE _ _ (by assumption) hAA).mono ?_; rintro e wk ⟨hbc, rfl⟩))
                rename_i hX
                obtain ⟨-, -, -, -, -, -, -, -, -, -, O1⟩ := hX
                go_wp2
                go_ret
                exact ⟨O1.below, rfl⟩

end Go.Proofs.YtlghjfpkfdnfoaaDoor
