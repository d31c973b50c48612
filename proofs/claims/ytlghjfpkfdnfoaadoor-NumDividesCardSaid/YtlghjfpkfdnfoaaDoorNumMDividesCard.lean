/- zermeloref01.Divide -/
import Derived.Test.YtlghjfpkfdnfoaaDoorNumMRefSplit
import Derived.Test.YtlghjfpkfdnfoaaDoorNumMFits
import Derived.Deep.CutRange
import Derived.Test.YtlghjfpkfdnfoaaDoorNumMRefRing
import Derived.Test.YtlghjfpkfdnfoaaDoorNumMSumsCard
import Derived.Test.YtlghjfpkfdnfoaaDoorNumMRefDigits
import Derived.Test.YtlghjfpkfdnfoaaDoorTie
import Derived.Test.YtlghjfpkfdnfoaaDoorCards
import Derived.SevenTiedAt
import Derived.Below
import Derived.Carry
namespace Go.Proofs.YtlghjfpkfdnfoaaDoor
open Go Go.RowKit Go.Shelf

/-- the variables of Divide -/
structure DvS (w : World) (na : Bool) (aa : Option Addr) (ma ca : Nat) (nb : Bool) (ab : Option Addr) (mb cb : Nat) (b5 : Nat) (n5 : Bool) (a5 : Option Addr) (m5 c5 : Nat) (n6 : Bool) (a6 : Option Addr) (m6 c6 : Nat) (X : World) : Prop where
  ra : RowAt X w.heap.size 24 [.bool na, .slice aa ma ca]
  rb : RowAt X (w.heap.size + 1) 24 [.bool nb, .slice ab mb cb]
  rr : RowAt X (w.heap.size + 1 + 1) 48 [.bool false, .slice none 0 0, .bool false, .slice none 0 0]
  rx : RowAt X b5 48 [.bool n5, .slice a5 m5 c5, .bool n6, .slice a6 m6 c6]
  below : Below w.heap.size w X
  lt : w.heap.size + 1 + 1 < b5
section
variable {w X X' : World} {na nb n5 n6 : Bool} {aa ab a5 a6 : Option Addr} {ma ca mb cb b5 m5 c5 m6 c6 : Nat}
theorem DvS.step (h : DvS w na aa ma ca nb ab mb cb b5 n5 a5 m5 c5 n6 a6 m6 c6 X) (hb : Below X.heap.size X X') : DvS w na aa ma ca nb ab mb cb b5 n5 a5 m5 c5 n6 a6 m6 c6 X' := ⟨h.ra.below hb, h.rb.below hb, h.rr.below hb, h.rx.below hb, h.below.trans (hb.mono h.below.size), h.lt⟩
theorem DvS.put (h : DvS w na aa ma ca nb ab mb cb b5 n5 a5 m5 c5 n6 a6 m6 c6 X) (k : Nat) (v : Value) : RowAt (X.setCell ⟨b5, k, none⟩ v) w.heap.size 24 [.bool na, .slice aa ma ca] ∧ RowAt (X.setCell ⟨b5, k, none⟩ v) (w.heap.size + 1) 24 [.bool nb, .slice ab mb cb] ∧
    RowAt (X.setCell ⟨b5, k, none⟩ v) (w.heap.size + 1 + 1) 48 [.bool false, .slice none 0 0, .bool false, .slice none 0 0] ∧ Below w.heap.size w (X.setCell ⟨b5, k, none⟩ v) := by
  have := h.lt
  exact ⟨h.ra.other (show w.heap.size ≠ b5 by omega) _, h.rb.other (show w.heap.size + 1 ≠ b5 by omega) _, h.rr.other (show w.heap.size + 1 + 1 ≠ b5 by omega) _, h.below.setCell (show w.heap.size ≤ b5 by omega) _⟩
theorem DvS.set0 (h : DvS w na aa ma ca nb ab mb cb b5 n5 a5 m5 c5 n6 a6 m6 c6 X) (n : Bool) : DvS w na aa ma ca nb ab mb cb b5 n a5 m5 c5 n6 a6 m6 c6 (X.setCell ⟨b5, 0, none⟩ (.bool n)) := by
  obtain ⟨h1, h2, h3, h4⟩ := h.put 0 (.bool n)
  exact ⟨h1, h2, h3, h.rx.set 0 (.bool n), h4, h.lt⟩
theorem DvS.set1 (h : DvS w na aa ma ca nb ab mb cb b5 n5 a5 m5 c5 n6 a6 m6 c6 X) (a : Option Addr) (m c : Nat) : DvS w na aa ma ca nb ab mb cb b5 n5 a m c n6 a6 m6 c6 (X.setCell ⟨b5, 1, none⟩ (.slice a m c)) := by
  obtain ⟨h1, h2, h3, h4⟩ := h.put 1 (.slice a m c)
  exact ⟨h1, h2, h3, h.rx.set 1 (.slice a m c), h4, h.lt⟩
theorem DvS.set2 (h : DvS w na aa ma ca nb ab mb cb b5 n5 a5 m5 c5 n6 a6 m6 c6 X) (n : Bool) : DvS w na aa ma ca nb ab mb cb b5 n5 a5 m5 c5 n a6 m6 c6 (X.setCell ⟨b5, 2, none⟩ (.bool n)) := by
  obtain ⟨h1, h2, h3, h4⟩ := h.put 2 (.bool n)
  exact ⟨h1, h2, h3, h.rx.set 2 (.bool n), h4, h.lt⟩
theorem DvS.set3 (h : DvS w na aa ma ca nb ab mb cb b5 n5 a5 m5 c5 n6 a6 m6 c6 X) (a : Option Addr) (m c : Nat) : DvS w na aa ma ca nb ab mb cb b5 n5 a5 m5 c5 n6 a m c (X.setCell ⟨b5, 3, none⟩ (.slice a m c)) := by
  obtain ⟨h1, h2, h3, h4⟩ := h.put 3 (.slice a m c)
  exact ⟨h1, h2, h3, h.rx.set 3 (.slice a m c), h4, h.lt⟩
theorem DvS.keepB (h : DvS w na aa ma ca nb ab mb cb b5 n5 a5 m5 c5 n6 a6 m6 c6 X) (k : Nat) (hk : k = 0 ∨ k = 2) (u : Value) : ∀ v xs, Reads .u32 X v xs → Reads .u32 (X.setCell ⟨b5, k, none⟩ u) v xs := fun v xs hv => by
  rcases hk with rfl | rfl
  · exact hv.setOther (c := .bool n5) (h.rx.cell 0) (by simp) u
  · exact hv.setOther (c := .bool n6) (h.rx.cell 2) (by simp) u
theorem DvS.keepS (h : DvS w na aa ma ca nb ab mb cb b5 n5 a5 m5 c5 n6 a6 m6 c6 X) (k : Nat) (hk : k = 1 ∨ k = 3) (u : Value) : ∀ v xs, Reads .u32 X v xs → Reads .u32 (X.setCell ⟨b5, k, none⟩ u) v xs := fun v xs hv => by
  rcases hk with rfl | rfl
  · exact hv.setOther (c := .slice a5 m5 c5) (h.rx.cell 1) (by simp) u
  · exact hv.setOther (c := .slice a6 m6 c6) (h.rx.cell 3) (by simp) u
/-- the cells that a walk reads and writes -/
theorem dvs_cells (h : DvS w na aa ma ca nb ab mb cb b5 n5 a5 m5 c5 n6 a6 m6 c6 X) : X.cell? ⟨w.heap.size, 0, none⟩ = some (.bool na) ∧ X.cell? ⟨w.heap.size, 1, none⟩ = some (.slice aa ma ca) ∧ X.cell? ⟨w.heap.size + 1, 0, none⟩ = some (.bool nb) ∧ X.cell? ⟨w.heap.size + 1, 1, none⟩ = some (.slice ab mb cb) ∧
    X.cell? ⟨b5, 0, none⟩ = some (.bool n5) ∧ X.cell? ⟨b5, 1, none⟩ = some (.slice a5 m5 c5) ∧ X.cell? ⟨b5, 2, none⟩ = some (.bool n6) ∧ X.cell? ⟨b5, 3, none⟩ = some (.slice a6 m6 c6) :=
  ⟨h.ra.cell 0, h.ra.cell 1, h.rb.cell 0, h.rb.cell 1, h.rx.cell 0, h.rx.cell 1, h.rx.cell 2, h.rx.cell 3⟩
theorem dvs_frozen (h : DvS w na aa ma ca nb ab mb cb b5 n5 a5 m5 c5 n6 a6 m6 c6 X) : X.frozen? ⟨b5, 0, none⟩ = false ∧ X.frozen? ⟨b5, 1, none⟩ = false ∧ X.frozen? ⟨b5, 2, none⟩ = false ∧ X.frozen? ⟨b5, 3, none⟩ = false := ⟨h.rx.frozen 0, h.rx.frozen 1, h.rx.frozen 2, h.rx.frozen 3⟩
end

set_option maxHeartbeats 2000000 in
set_option maxRecDepth 100000 in
set_option exponentiation.threshold 200000 in
theorem rdivide_ff (va vb : Value) (xa xb : List Nat) (w : World) (ha : Reads .u32 w va xa) (hb : Reads .u32 w vb xb) (hka : Canon xa) (hkb : Canon xb) (la : xa.length ≤ 80000) (lb : xb.length ≤ 80000) (hb0 : 0 < val xb) :
    Calls Tryd.prog 74 #[.agg #[.bool false, va], .agg #[.bool false, vb]] w fun e w' => Below w.heap.size w w' ∧ PartsOut w' e ((sgn false (val xa)).fdiv (sgn false (val xb))) ((sgn false (val xa)).fmod (sgn false (val xb))) := by
  obtain ⟨aa, ca, rfl, hca, hma⟩ := ha.form
  obtain ⟨ab, cb, rfl, hcb, hmb⟩ := hb.form
  have b1 := (Below.refl w.heap.size w).alloc (Nat.le_refl _) (.cells #[.bool false, .slice aa xa.length ca] 24)
  have b2 := b1.alloc b1.size (.cells #[.bool false, .slice ab xb.length cb] 24)
  have bw := b2.alloc b2.size (.cells #[.bool false, .slice none 0 0, .bool false, .slice none 0 0] 48)
  have q1 := ((RowAt.new w 24 [.bool false, .slice aa xa.length ca]).alloc (.cells #[.bool false, .slice ab xb.length cb] 24)).alloc (.cells #[.bool false, .slice none 0 0, .bool false, .slice none 0 0] 48)
  have q2 := (RowAt.new (w.alloc (.cells #[.bool false, .slice aa xa.length ca] 24)) 24 [.bool false, .slice ab xb.length cb]).alloc (.cells #[.bool false, .slice none 0 0, .bool false, .slice none 0 0] 48)
  have q3 := RowAt.new ((w.alloc (.cells #[.bool false, .slice aa xa.length ca] 24)).alloc (.cells #[.bool false, .slice ab xb.length cb] 24)) 48 [.bool false, .slice none 0 0, .bool false, .slice none 0 0]
  simp only [World.size_alloc] at q2 q3
  have K := rsplit_any (.slice aa xa.length ca) (.slice ab xb.length cb) xa xb _ (ha.below bw) (hb.below bw) hka.1 hkb (by omega) (by omega) hb0
  unfold PartsOut at K
  have hrb := hb.below bw
  clear b1 b2
  go_enter Tryd.func74, Tryd.ntmps74
  go_upto_region 2 with (go_at_call 107; with_reducible refine K.mono ?_; rintro e w4 ⟨hb4, n5, a5, m5, c5, n6, a6, m6, c6, rfl, hI, hJ⟩)
  have hs4 := hb4.size
  simp only [World.size_alloc] at hs4
  obtain ⟨q5, hq5, kq5, vq5⟩ := isInt_list hI
  obtain ⟨r6, hr6, kr6, vr6⟩ := isInt_list hJ
  obtain ⟨a', c', e', -, -⟩ := hq5.form
  cases e'
  obtain ⟨a', c', e', -, -⟩ := hr6.form
  cases e'
  rw [Int.natAbs_natCast] at vq5 vr6
  obtain rfl : n5 = false := by rw [isInt_neg hI]; exact decide_eq_false (Int.not_lt.2 (Int.natCast_nonneg _))
  have hB5 := (Below.refl w4.heap.size w4).alloc (Nat.le_refl _) (.cells #[.bool false, .slice a5 q5.length c5, .bool n6, .slice a6 r6.length c6] 48)
  have hB := hb4.trans (hB5.mono (by simp only [World.size_alloc]; exact hs4))
  have hD : DvS w false aa xa.length ca false ab xb.length cb w4.heap.size false a5 q5.length c5 n6 a6 r6.length c6 (w4.alloc (.cells #[.bool false, .slice a5 q5.length c5, .bool n6, .slice a6 r6.length c6] 48)) := ⟨q1.below hB, q2.below hB, q3.below hB, RowAt.new w4 48 [.bool false, .slice a5 q5.length c5, .bool n6, .slice a6 r6.length c6], bw.trans (hB.mono (bw.size)), by omega⟩
  replace hq5 := hq5.below hB5
  replace hr6 := hr6.below hB5
  replace hrb := hrb.below hB
  clear hI hJ hB hB5 hb4 K q1 q2 q3 bw hs4 ha hb hca hma hcb hmb
  generalize hW5 : w4.alloc (.cells #[.bool false, .slice a5 q5.length c5, .bool n6, .slice a6 r6.length c6] 48) = w5 at *
  clear hW5
  generalize w4.heap.size = b5 at *
  obtain ⟨f6, hf6⟩ : ∃ f : Bool, decide (0 < r6.length) = f := ⟨_, rfl⟩
  have hd6 : decide ((0 : Int) < (r6.length : Int)) = f6 := by rw [← hf6]; simp
  obtain ⟨f5, hf5⟩ : ∃ f : Bool, decide (0 < q5.length) = f := ⟨_, rfl⟩
  have hd5 : decide ((0 : Int) < (q5.length : Int)) = f5 := by rw [← hf5]; simp
  have HF := Lib.hid (And.intro hf5 hf6)
  go_cut [] from 12 to 22 (fun W => DvS w false aa xa.length ca false ab xb.length cb b5 false a5 q5.length c5 false a6 r6.length c6 W ∧ Reads .u32 W (.slice a5 q5.length c5) q5 ∧ Reads .u32 W (.slice a6 r6.length c6) r6 ∧ Reads .u32 W (.slice ab xb.length cb) xb)
  case first =>
    obtain ⟨d1, d2, d3, d4, d5, d6, d7, d8⟩ := dvs_cells hD
    obtain ⟨z1, z2, z3, z4⟩ := dvs_frozen hD
    go_wp2
    go_meet
    have hk := hD.keepB 2 (.inr rfl) (.bool false)
    exact ⟨hD.set2 false, hk _ _ hq5, hk _ _ hr6, hk _ _ hrb⟩
  case rest =>
    clear hD hq5 hr6 hrb
    obtain ⟨hD, hq5, hr6, hrb⟩ := hcut
    generalize wc = w6 at *
    obtain ⟨d1, d2, d3, d4, d5, d6, d7, d8⟩ := dvs_cells hD
    have e1 := hD.rr.cell 0
    have e2 := hD.rr.cell 1
    have e3 := hD.rr.cell 2
    have e4 := hD.rr.cell 3
    have e5 := hD.rr.frozen 0
    have e6 := hD.rr.frozen 1
    have e7 := hD.rr.frozen 2
    have e8 := hD.rr.frozen 3
    simp only [List.getElem?_cons_zero, List.getElem?_cons_succ] at e1 e2 e3 e4
    go_wp2
    have q9 := (((hD.rr.set 0 (.bool false)).set 1 (.slice a5 q5.length c5)).set 2 (.bool false)).set 3 (.slice a6 r6.length c6)
    have u1 := q9.cell 0
    have u2 := q9.cell 1
    have u3 := q9.cell 2
    have u4 := q9.cell 3
    simp only [List.set_cons_zero, List.set_cons_succ, List.getElem?_cons_zero, List.getElem?_cons_succ] at u1 u2 u3 u4
    have hk := row4_keep hD.rr (.bool false) (.slice a5 q5.length c5) (.bool false) (.slice a6 r6.length c6)
    have b9 := hD.below
    refine bodyPost_ret (v := .agg #[.bool false, .slice a5 q5.length c5, .bool false, .slice a6 r6.length c6]) (by simp [results, Tryd.results74, go_sem, loadCellsFrom, u1, u2, u3, u4]) rfl ⟨(((b9.setCell (by simp; omega) _).setCell (by simp; omega) _).setCell (by simp; omega) _).setCell (by simp; omega) _, false, _, _, _, false, _, _, _, rfl, ?_, ?_⟩
    · rw [(sgn_div_same false (val xa) (val xb) hb0).1]
      exact isInt_mk false (hk _ _ hq5) kq5 (by rw [vq5])
    · rw [(sgn_div_same false (val xa) (val xb) hb0).2]
      have := isInt_mk false (hk _ _ hr6) kr6 (i := sgn false (val xa % val xb)) (by rw [vr6])
      rwa [HF.out.2] at this


set_option maxHeartbeats 2000000 in
set_option maxRecDepth 100000 in
set_option exponentiation.threshold 200000 in
theorem rdivide_tt (va vb : Value) (xa xb : List Nat) (w : World) (ha : Reads .u32 w va xa) (hb : Reads .u32 w vb xb) (hka : Canon xa) (hkb : Canon xb) (la : xa.length ≤ 80000) (lb : xb.length ≤ 80000) (hb0 : 0 < val xb) :
    Calls Tryd.prog 74 #[.agg #[.bool true, va], .agg #[.bool true, vb]] w fun e w' => Below w.heap.size w w' ∧ PartsOut w' e ((sgn true (val xa)).fdiv (sgn true (val xb))) ((sgn true (val xa)).fmod (sgn true (val xb))) := by
  obtain ⟨aa, ca, rfl, hca, hma⟩ := ha.form
  obtain ⟨ab, cb, rfl, hcb, hmb⟩ := hb.form
  have b1 := (Below.refl w.heap.size w).alloc (Nat.le_refl _) (.cells #[.bool true, .slice aa xa.length ca] 24)
  have b2 := b1.alloc b1.size (.cells #[.bool true, .slice ab xb.length cb] 24)
  have bw := b2.alloc b2.size (.cells #[.bool false, .slice none 0 0, .bool false, .slice none 0 0] 48)
  have q1 := ((RowAt.new w 24 [.bool true, .slice aa xa.length ca]).alloc (.cells #[.bool true, .slice ab xb.length cb] 24)).alloc (.cells #[.bool false, .slice none 0 0, .bool false, .slice none 0 0] 48)
  have q2 := (RowAt.new (w.alloc (.cells #[.bool true, .slice aa xa.length ca] 24)) 24 [.bool true, .slice ab xb.length cb]).alloc (.cells #[.bool false, .slice none 0 0, .bool false, .slice none 0 0] 48)
  have q3 := RowAt.new ((w.alloc (.cells #[.bool true, .slice aa xa.length ca] 24)).alloc (.cells #[.bool true, .slice ab xb.length cb] 24)) 48 [.bool false, .slice none 0 0, .bool false, .slice none 0 0]
  simp only [World.size_alloc] at q2 q3
  have K := rsplit_any (.slice aa xa.length ca) (.slice ab xb.length cb) xa xb _ (ha.below bw) (hb.below bw) hka.1 hkb (by omega) (by omega) hb0
  unfold PartsOut at K
  have hrb := hb.below bw
  clear b1 b2
  go_enter Tryd.func74, Tryd.ntmps74
  go_upto_region 2 with (go_at_call 107; with_reducible refine K.mono ?_; rintro e w4 ⟨hb4, n5, a5, m5, c5, n6, a6, m6, c6, rfl, hI, hJ⟩)
  have hs4 := hb4.size
  simp only [World.size_alloc] at hs4
  obtain ⟨q5, hq5, kq5, vq5⟩ := isInt_list hI
  obtain ⟨r6, hr6, kr6, vr6⟩ := isInt_list hJ
  obtain ⟨a', c', e', -, -⟩ := hq5.form
  cases e'
  obtain ⟨a', c', e', -, -⟩ := hr6.form
  cases e'
  rw [Int.natAbs_natCast] at vq5 vr6
  obtain rfl : n5 = false := by rw [isInt_neg hI]; exact decide_eq_false (Int.not_lt.2 (Int.natCast_nonneg _))
  have hB5 := (Below.refl w4.heap.size w4).alloc (Nat.le_refl _) (.cells #[.bool false, .slice a5 q5.length c5, .bool n6, .slice a6 r6.length c6] 48)
  have hB := hb4.trans (hB5.mono (by simp only [World.size_alloc]; exact hs4))
  have hD : DvS w true aa xa.length ca true ab xb.length cb w4.heap.size false a5 q5.length c5 n6 a6 r6.length c6 (w4.alloc (.cells #[.bool false, .slice a5 q5.length c5, .bool n6, .slice a6 r6.length c6] 48)) := ⟨q1.below hB, q2.below hB, q3.below hB, RowAt.new w4 48 [.bool false, .slice a5 q5.length c5, .bool n6, .slice a6 r6.length c6], bw.trans (hB.mono (bw.size)), by omega⟩
  replace hq5 := hq5.below hB5
  replace hr6 := hr6.below hB5
  replace hrb := hrb.below hB
  clear hI hJ hB hB5 hb4 K q1 q2 q3 bw hs4 ha hb hca hma hcb hmb
  generalize hW5 : w4.alloc (.cells #[.bool false, .slice a5 q5.length c5, .bool n6, .slice a6 r6.length c6] 48) = w5 at *
  clear hW5
  generalize w4.heap.size = b5 at *
  obtain ⟨f6, hf6⟩ : ∃ f : Bool, decide (0 < r6.length) = f := ⟨_, rfl⟩
  have hd6 : decide ((0 : Int) < (r6.length : Int)) = f6 := by rw [← hf6]; simp
  obtain ⟨f5, hf5⟩ : ∃ f : Bool, decide (0 < q5.length) = f := ⟨_, rfl⟩
  have hd5 : decide ((0 : Int) < (q5.length : Int)) = f5 := by rw [← hf5]; simp
  have HF := Lib.hid (And.intro hf5 hf6)
  go_cut [] from 12 to 22 (fun W => DvS w true aa xa.length ca true ab xb.length cb b5 false a5 q5.length c5 f6 a6 r6.length c6 W ∧ Reads .u32 W (.slice a5 q5.length c5) q5 ∧ Reads .u32 W (.slice a6 r6.length c6) r6 ∧ Reads .u32 W (.slice ab xb.length cb) xb)
  case first =>
    obtain ⟨d1, d2, d3, d4, d5, d6, d7, d8⟩ := dvs_cells hD
    obtain ⟨z1, z2, z3, z4⟩ := dvs_frozen hD
    go_wp2
    go_meet
    have hk := hD.keepB 2 (.inr rfl) (.bool f6)
    exact ⟨hD.set2 f6, hk _ _ hq5, hk _ _ hr6, hk _ _ hrb⟩
  case rest =>
    clear hD hq5 hr6 hrb
    obtain ⟨hD, hq5, hr6, hrb⟩ := hcut
    generalize wc = w6 at *
    obtain ⟨d1, d2, d3, d4, d5, d6, d7, d8⟩ := dvs_cells hD
    have e1 := hD.rr.cell 0
    have e2 := hD.rr.cell 1
    have e3 := hD.rr.cell 2
    have e4 := hD.rr.cell 3
    have e5 := hD.rr.frozen 0
    have e6 := hD.rr.frozen 1
    have e7 := hD.rr.frozen 2
    have e8 := hD.rr.frozen 3
    simp only [List.getElem?_cons_zero, List.getElem?_cons_succ] at e1 e2 e3 e4
    go_wp2
    have q9 := (((hD.rr.set 0 (.bool false)).set 1 (.slice a5 q5.length c5)).set 2 (.bool f6)).set 3 (.slice a6 r6.length c6)
    have u1 := q9.cell 0
    have u2 := q9.cell 1
    have u3 := q9.cell 2
    have u4 := q9.cell 3
    simp only [List.set_cons_zero, List.set_cons_succ, List.getElem?_cons_zero, List.getElem?_cons_succ] at u1 u2 u3 u4
    have hk := row4_keep hD.rr (.bool false) (.slice a5 q5.length c5) (.bool f6) (.slice a6 r6.length c6)
    have b9 := hD.below
    refine bodyPost_ret (v := .agg #[.bool false, .slice a5 q5.length c5, .bool f6, .slice a6 r6.length c6]) (by simp [results, Tryd.results74, go_sem, loadCellsFrom, u1, u2, u3, u4]) rfl ⟨(((b9.setCell (by simp; omega) _).setCell (by simp; omega) _).setCell (by simp; omega) _).setCell (by simp; omega) _, false, _, _, _, f6, _, _, _, rfl, ?_, ?_⟩
    · rw [(sgn_div_same true (val xa) (val xb) hb0).1]
      exact isInt_mk false (hk _ _ hq5) kq5 (by rw [vq5])
    · rw [(sgn_div_same true (val xa) (val xb) hb0).2]
      have := isInt_mk true (hk _ _ hr6) kr6 (i := sgn true (val xa % val xb)) (by rw [vr6])
      rwa [HF.out.2] at this


set_option maxHeartbeats 2000000 in
set_option maxRecDepth 100000 in
set_option exponentiation.threshold 200000 in
theorem rdivide_ft (va vb : Value) (xa xb : List Nat) (w : World) (ha : Reads .u32 w va xa) (hb : Reads .u32 w vb xb) (hka : Canon xa) (hkb : Canon xb) (la : xa.length ≤ 80000) (lb : xb.length ≤ 80000) (hb0 : 0 < val xb) :
    Calls Tryd.prog 74 #[.agg #[.bool false, va], .agg #[.bool true, vb]] w fun e w' => Below w.heap.size w w' ∧ PartsOut w' e ((sgn false (val xa)).fdiv (sgn true (val xb))) ((sgn false (val xa)).fmod (sgn true (val xb))) := by
  obtain ⟨aa, ca, rfl, hca, hma⟩ := ha.form
  obtain ⟨ab, cb, rfl, hcb, hmb⟩ := hb.form
  have b1 := (Below.refl w.heap.size w).alloc (Nat.le_refl _) (.cells #[.bool false, .slice aa xa.length ca] 24)
  have b2 := b1.alloc b1.size (.cells #[.bool true, .slice ab xb.length cb] 24)
  have bw := b2.alloc b2.size (.cells #[.bool false, .slice none 0 0, .bool false, .slice none 0 0] 48)
  have q1 := ((RowAt.new w 24 [.bool false, .slice aa xa.length ca]).alloc (.cells #[.bool true, .slice ab xb.length cb] 24)).alloc (.cells #[.bool false, .slice none 0 0, .bool false, .slice none 0 0] 48)
  have q2 := (RowAt.new (w.alloc (.cells #[.bool false, .slice aa xa.length ca] 24)) 24 [.bool true, .slice ab xb.length cb]).alloc (.cells #[.bool false, .slice none 0 0, .bool false, .slice none 0 0] 48)
  have q3 := RowAt.new ((w.alloc (.cells #[.bool false, .slice aa xa.length ca] 24)).alloc (.cells #[.bool true, .slice ab xb.length cb] 24)) 48 [.bool false, .slice none 0 0, .bool false, .slice none 0 0]
  simp only [World.size_alloc] at q2 q3
  have K := rsplit_any (.slice aa xa.length ca) (.slice ab xb.length cb) xa xb _ (ha.below bw) (hb.below bw) hka.1 hkb (by omega) (by omega) hb0
  unfold PartsOut at K
  have hrb := hb.below bw
  clear b1 b2
  go_enter Tryd.func74, Tryd.ntmps74
  go_upto_region 2 with (go_at_call 107; with_reducible refine K.mono ?_; rintro e w4 ⟨hb4, n5, a5, m5, c5, n6, a6, m6, c6, rfl, hI, hJ⟩)
  have hs4 := hb4.size
  simp only [World.size_alloc] at hs4
  obtain ⟨q5, hq5, kq5, vq5⟩ := isInt_list hI
  obtain ⟨r6, hr6, kr6, vr6⟩ := isInt_list hJ
  obtain ⟨a', c', e', -, -⟩ := hq5.form
  cases e'
  obtain ⟨a', c', e', -, -⟩ := hr6.form
  cases e'
  rw [Int.natAbs_natCast] at vq5 vr6
  obtain rfl : n5 = false := by rw [isInt_neg hI]; exact decide_eq_false (Int.not_lt.2 (Int.natCast_nonneg _))
  have hB5 := (Below.refl w4.heap.size w4).alloc (Nat.le_refl _) (.cells #[.bool false, .slice a5 q5.length c5, .bool n6, .slice a6 r6.length c6] 48)
  have hB := hb4.trans (hB5.mono (by simp only [World.size_alloc]; exact hs4))
  have hD : DvS w false aa xa.length ca true ab xb.length cb w4.heap.size false a5 q5.length c5 n6 a6 r6.length c6 (w4.alloc (.cells #[.bool false, .slice a5 q5.length c5, .bool n6, .slice a6 r6.length c6] 48)) := ⟨q1.below hB, q2.below hB, q3.below hB, RowAt.new w4 48 [.bool false, .slice a5 q5.length c5, .bool n6, .slice a6 r6.length c6], bw.trans (hB.mono (bw.size)), by omega⟩
  replace hq5 := hq5.below hB5
  replace hr6 := hr6.below hB5
  replace hrb := hrb.below hB
  clear hI hJ hB hB5 hb4 K q1 q2 q3 bw hs4 ha hb hca hma hcb hmb
  generalize hW5 : w4.alloc (.cells #[.bool false, .slice a5 q5.length c5, .bool n6, .slice a6 r6.length c6] 48) = w5 at *
  clear hW5
  generalize w4.heap.size = b5 at *
  obtain ⟨f6, hf6⟩ : ∃ f : Bool, decide (0 < r6.length) = f := ⟨_, rfl⟩
  have hd6 : decide ((0 : Int) < (r6.length : Int)) = f6 := by rw [← hf6]; simp
  obtain ⟨f5, hf5⟩ : ∃ f : Bool, decide (0 < q5.length) = f := ⟨_, rfl⟩
  have hd5 : decide ((0 : Int) < (q5.length : Int)) = f5 := by rw [← hf5]; simp
  have HF := Lib.hid (And.intro hf5 hf6)
  go_cut [] from 12 to 22 (fun W => DvS w false aa xa.length ca true ab xb.length cb b5 false a5 q5.length c5 f6 a6 r6.length c6 W ∧ Reads .u32 W (.slice a5 q5.length c5) q5 ∧ Reads .u32 W (.slice a6 r6.length c6) r6 ∧ Reads .u32 W (.slice ab xb.length cb) xb)
  case first =>
    obtain ⟨d1, d2, d3, d4, d5, d6, d7, d8⟩ := dvs_cells hD
    obtain ⟨z1, z2, z3, z4⟩ := dvs_frozen hD
    go_wp2
    go_meet
    have hk := hD.keepB 2 (.inr rfl) (.bool f6)
    exact ⟨hD.set2 f6, hk _ _ hq5, hk _ _ hr6, hk _ _ hrb⟩
  case rest =>
    clear hD hq5 hr6 hrb
    obtain ⟨hD, hq5, hr6, hrb⟩ := hcut
    generalize wc = w6 at *
    obtain ⟨d1, d2, d3, d4, d5, d6, d7, d8⟩ := dvs_cells hD
    go_upto_region 5 with (fail)
    clear d1 d2 d3 d4 d5 d6 d7 d8
    go_cut [] from 29 to 35 (fun W => DvS w false aa xa.length ca true ab xb.length cb b5 f5 a5 q5.length c5 f6 a6 r6.length c6 W ∧ Reads .u32 W (.slice a5 q5.length c5) q5 ∧ Reads .u32 W (.slice a6 r6.length c6) r6 ∧ Reads .u32 W (.slice ab xb.length cb) xb)
    case first =>
      obtain ⟨d1, d2, d3, d4, d5, d6, d7, d8⟩ := dvs_cells hD
      obtain ⟨z1, z2, z3, z4⟩ := dvs_frozen hD
      go_wp2
      go_meet
      have hk := hD.keepB 0 (.inl rfl) (.bool f5)
      exact ⟨hD.set0 f5, hk _ _ hq5, hk _ _ hr6, hk _ _ hrb⟩
    case rest =>
      clear hD hq5 hr6 hrb
      obtain ⟨hD, hq5, hr6, hrb⟩ := hcut
      generalize wc = w7 at *
      have hp := canon_pos_iff kr6
      rw [vr6] at hp
      cases f6 with
      | false =>
        have hz : val xa % val xb = 0 := by have := of_decide_eq_false HF.out.2; omega
        obtain ⟨d1, d2, d3, d4, d5, d6, d7, d8⟩ := dvs_cells hD
        have e1 := hD.rr.cell 0
        have e2 := hD.rr.cell 1
        have e3 := hD.rr.cell 2
        have e4 := hD.rr.cell 3
        have e5 := hD.rr.frozen 0
        have e6 := hD.rr.frozen 1
        have e7 := hD.rr.frozen 2
        have e8 := hD.rr.frozen 3
        simp only [List.getElem?_cons_zero, List.getElem?_cons_succ] at e1 e2 e3 e4
        go_wp2
        have q9 := (((hD.rr.set 0 (.bool f5)).set 1 (.slice a5 q5.length c5)).set 2 (.bool false)).set 3 (.slice a6 r6.length c6)
        have u1 := q9.cell 0
        have u2 := q9.cell 1
        have u3 := q9.cell 2
        have u4 := q9.cell 3
        simp only [List.set_cons_zero, List.set_cons_succ, List.getElem?_cons_zero, List.getElem?_cons_succ] at u1 u2 u3 u4
        have hk := row4_keep hD.rr (.bool f5) (.slice a5 q5.length c5) (.bool false) (.slice a6 r6.length c6)
        have b9 := hD.below
        refine bodyPost_ret (v := .agg #[.bool f5, .slice a5 q5.length c5, .bool false, .slice a6 r6.length c6]) (by simp [results, Tryd.results74, go_sem, loadCellsFrom, u1, u2, u3, u4]) rfl ⟨(((b9.setCell (by simp; omega) _).setCell (by simp; omega) _).setCell (by simp; omega) _).setCell (by simp; omega) _, f5, _, _, _, false, _, _, _, rfl, ?_, ?_⟩
        · have hsd := (sgn_div_exact false (val xa) (val xb) hb0 hz).1
          simp only [Bool.not_false] at hsd
          rw [hsd]
          have := isInt_mk true (hk _ _ hq5) kq5 (i := sgn true (val xa / val xb)) (by rw [vq5])
          rwa [HF.out.1] at this
        · have hsd := (sgn_div_exact false (val xa) (val xb) hb0 hz).2
          simp only [Bool.not_false] at hsd
          rw [hsd]
          have := isInt_mk false (hk _ _ hr6) kr6 (i := 0) (by rw [vr6, hz]; rfl)
          exact this
      | true =>
        have hz : val xa % val xb ≠ 0 := by have := of_decide_eq_true HF.out.2; omega
        obtain ⟨d1, d2, d3, d4, d5, d6, d7, d8⟩ := dvs_cells hD
        go_upto_region 7 with (fail)
        clear d1 d2 d3 d4 d5 d6 d7 d8
        have hQ0 := isInt_mk true hq5 kq5 (i := -((val xa / val xb : Nat) : Int)) (by rw [vq5]; simp [sgn])
        rw [HF.out.1, Bool.true_and] at hQ0
        have hB1 := (Below.refl w7.heap.size w7).alloc (Nat.le_refl _) (.cells #[.int .u32 1] 72)
        have h1 : IsInt (w7.alloc (.cells #[.int .u32 1] 72)) (.agg #[.bool true, .slice (some ⟨w7.heap.size, 0, none⟩) 1 1]) (-1) :=
          isInt_mk true (RowAt.reads (RowAt.new w7 72 [.int .u32 1]) 1 1 rfl (Nat.le_refl _) (by unfold maxLen; omega)) (canon_one (by decide) (by decide)) (by simp [sgn, val])
        have hqB : (val xa / val xb) < B32 ^ 80000 := Nat.lt_of_le_of_lt (Nat.div_le_self _ _) (Nat.lt_of_lt_of_le (val_lt hka.1) (Nat.pow_le_pow_right B32_pos la))
        have KS := rsum_int _ _ _ _ 80000 _ (hQ0.below hB1) h1 (by omega) (by rw [Int.natAbs_neg, Int.natAbs_natCast]; exact hqB) (Nat.one_lt_pow (show (80000 : Nat) ≠ 0 by decide) (by decide))
        clear hQ0 h1 hqB
        go_cut [] from 41 to 46 (fun W => ∃ n8 a8 m8 c8, DvS w false aa xa.length ca true ab xb.length cb b5 n8 a8 m8 c8 true a6 r6.length c6 W ∧ IsInt W (.agg #[.bool n8, .slice a8 m8 c8]) (-((val xa / val xb : Nat) : Int) + -1) ∧ Reads .u32 W (.slice a6 r6.length c6) r6 ∧ Reads .u32 W (.slice ab xb.length cb) xb)
        case first =>
          obtain ⟨d1, d2, d3, d4, d5, d6, d7, d8⟩ := dvs_cells hD
          go_wp2_with (go_at_call 44; with_reducible refine KS.mono ?_; rintro e w8 ⟨hb8, v8, rfl, h8⟩; obtain ⟨n8, a8, m8, c8, rfl⟩ := h8.shape; have g8 := hB1.trans (hb8.mono hB1.size); have hD8 := hD.step g8; obtain ⟨z1, z2, z3, z4⟩ := dvs_frozen hD8; obtain ⟨-, -, -, -, y1, y2, -, -⟩ := dvs_cells hD8)
          go_meet
          have k1 := hD8.keepB 0 (.inl rfl) (.bool n8)
          have k2 := (hD8.set0 n8).keepS 1 (.inl rfl) (.slice a8 m8 c8)
          exact ⟨n8, a8, m8, c8, (hD8.set0 n8).set1 a8 m8 c8, h8.keep fun v xs hv => k2 _ _ (k1 _ _ hv), k2 _ _ (k1 _ _ (hr6.below g8)), k2 _ _ (k1 _ _ (hrb.below g8))⟩
        case rest =>
          clear hD hq5 hr6 hrb KS hB1
          obtain ⟨n8, a8, m8, c8, hD, hQ, hr6, hrb⟩ := hcut
          generalize wc = w8 at *
          go_upto_region 8 with (fail)
          have hlt := Nat.mod_lt (val xa) hb0
          have hll : r6.length ≤ xb.length := canon_le_length hkb kr6 (by omega)
          have KL := rless_any (.slice ab xb.length cb) (.slice a6 r6.length c6) xb r6 w8 hrb hr6 hkb.1 kr6.1 (by omega) hll (by omega)
          go_cut [6] from 47 to 53 (fun v6 W => ∃ l9, BoxI W v6 ((val xb - val xa % val xb : Nat) : Int) ∧ l9 = 0 ∧ DvS w false aa xa.length ca true ab xb.length cb b5 n8 a8 m8 c8 true a6 r6.length c6 W ∧ IsInt W (.agg #[.bool n8, .slice a8 m8 c8]) (-((val xa / val xb : Nat) : Int) + -1))
          case first =>
            obtain ⟨d1, d2, d3, d4, d5, d6, d7, d8⟩ := dvs_cells hD
            go_wp2_with (first
              | (go_at_call 85; with_reducible refine KL.mono ?_; rintro e w9 ⟨hb9, v9, cs, rfl, hr9, hl9, hv9, hn9⟩; have M9 := made_any false v9 cs w9 hr9 hl9 (by omega))
              | (go_at_call 65; with_reducible refine M9.mono ?_; rintro e w10 ⟨hb10, v10, rfl, hJ⟩; obtain ⟨n10, a10, m10, c10, rfl⟩ := hJ.shape))
            go_meet
            have g10 := hb9.trans (hb10.mono hb9.size)
            have hB11 := (Below.refl w10.heap.size w10).alloc (Nat.le_refl _) (.cells #[.bool n10, .slice a10 m10 c10] 24)
            have e9 : sgn false (val cs) = ((val xb - val xa % val xb : Nat) : Int) := by rw [hv9, vr6]; rfl
            rw [e9] at hJ
            exact ⟨0, BoxI.new hJ, rfl, (hD.step g10).step hB11, (hQ.below g10).below hB11⟩
          case rest =>
            clear hD hr6 hrb KL hQ
            obtain ⟨-, hBx, -, hD, hQ⟩ := hcut
            obtain ⟨b11, n11, a11, m11, c11, rfl, r11, i11⟩ := hBx
            generalize wc = w11 at *
            obtain ⟨x9, hx9, kx9, vx9⟩ := isInt_list i11
            obtain ⟨a', c', e', -, -⟩ := hx9.form
            cases e'
            rw [Int.natAbs_natCast] at vx9
            have hx0 : 0 < x9.length := (canon_pos_iff kx9).1 (by omega)
            go_upto_region 9 with (fail)
            go_cut [] from 54 to 59 (fun W => DvS w false aa xa.length ca true ab xb.length cb b5 n8 a8 m8 c8 true a11 x9.length c11 W ∧ IsInt W (.agg #[.bool n8, .slice a8 m8 c8]) (-((val xa / val xb : Nat) : Int) + -1) ∧ Reads .u32 W (.slice a11 x9.length c11) x9)
            case first =>
              obtain ⟨d1, d2, d3, d4, d5, d6, d7, d8⟩ := dvs_cells hD
              obtain ⟨z1, z2, z3, z4⟩ := dvs_frozen hD
              have y1 := r11.cell 0
              have y2 := r11.cell 1
              simp only [List.getElem?_cons_zero, List.getElem?_cons_succ] at y1 y2
              go_wp2
              go_meet
              have k1 := hD.keepB 2 (.inr rfl) (.bool true)
              have k2 := (hD.set2 true).keepS 3 (.inr rfl) (.slice a11 x9.length c11)
              exact ⟨(hD.set2 true).set3 a11 x9.length c11, hQ.keep fun v xs hv => k2 _ _ (k1 _ _ hv), k2 _ _ (k1 _ _ hx9)⟩
            case rest =>
              clear hD hQ hx9 i11 r11
              obtain ⟨hD, hQ, hx9⟩ := hcut
              generalize wc = w12 at *
              obtain ⟨d1, d2, d3, d4, d5, d6, d7, d8⟩ := dvs_cells hD
              have e1 := hD.rr.cell 0
              have e2 := hD.rr.cell 1
              have e3 := hD.rr.cell 2
              have e4 := hD.rr.cell 3
              have e5 := hD.rr.frozen 0
              have e6 := hD.rr.frozen 1
              have e7 := hD.rr.frozen 2
              have e8 := hD.rr.frozen 3
              simp only [List.getElem?_cons_zero, List.getElem?_cons_succ] at e1 e2 e3 e4
              go_wp2
              have q9 := (((hD.rr.set 0 (.bool n8)).set 1 (.slice a8 m8 c8)).set 2 (.bool true)).set 3 (.slice a11 x9.length c11)
              have u1 := q9.cell 0
              have u2 := q9.cell 1
              have u3 := q9.cell 2
              have u4 := q9.cell 3
              simp only [List.set_cons_zero, List.set_cons_succ, List.getElem?_cons_zero, List.getElem?_cons_succ] at u1 u2 u3 u4
              have hk := row4_keep hD.rr (.bool n8) (.slice a8 m8 c8) (.bool true) (.slice a11 x9.length c11)
              have b9 := hD.below
              refine bodyPost_ret (v := .agg #[.bool n8, .slice a8 m8 c8, .bool true, .slice a11 x9.length c11]) (by simp [results, Tryd.results74, go_sem, loadCellsFrom, u1, u2, u3, u4]) rfl ⟨(((b9.setCell (by simp; omega) _).setCell (by simp; omega) _).setCell (by simp; omega) _).setCell (by simp; omega) _, n8, _, _, _, true, _, _, _, rfl, ?_, ?_⟩
              · have hsd := (sgn_div_rest false (val xa) (val xb) hb0 hz).1
                simp only [Bool.not_false] at hsd
                rw [hsd]
                have := hQ.keep hk
                rwa [show -((val xa / val xb : Nat) : Int) + -1 = sgn true (val xa / val xb + 1) by simp [sgn]; omega] at this
              · have hsd := (sgn_div_rest false (val xa) (val xb) hb0 hz).2
                simp only [Bool.not_false] at hsd
                rw [hsd]
                have := isInt_mk true (hk _ _ hx9) kx9 (i := sgn true (val xb - val xa % val xb)) (by rw [vx9])
                rwa [decide_eq_true hx0, Bool.and_true] at this


set_option maxHeartbeats 2000000 in
set_option maxRecDepth 100000 in
set_option exponentiation.threshold 200000 in
theorem rdivide_tf (va vb : Value) (xa xb : List Nat) (w : World) (ha : Reads .u32 w va xa) (hb : Reads .u32 w vb xb) (hka : Canon xa) (hkb : Canon xb) (la : xa.length ≤ 80000) (lb : xb.length ≤ 80000) (hb0 : 0 < val xb) :
    Calls Tryd.prog 74 #[.agg #[.bool true, va], .agg #[.bool false, vb]] w fun e w' => Below w.heap.size w w' ∧ PartsOut w' e ((sgn true (val xa)).fdiv (sgn false (val xb))) ((sgn true (val xa)).fmod (sgn false (val xb))) := by
  obtain ⟨aa, ca, rfl, hca, hma⟩ := ha.form
  obtain ⟨ab, cb, rfl, hcb, hmb⟩ := hb.form
  have b1 := (Below.refl w.heap.size w).alloc (Nat.le_refl _) (.cells #[.bool true, .slice aa xa.length ca] 24)
  have b2 := b1.alloc b1.size (.cells #[.bool false, .slice ab xb.length cb] 24)
  have bw := b2.alloc b2.size (.cells #[.bool false, .slice none 0 0, .bool false, .slice none 0 0] 48)
  have q1 := ((RowAt.new w 24 [.bool true, .slice aa xa.length ca]).alloc (.cells #[.bool false, .slice ab xb.length cb] 24)).alloc (.cells #[.bool false, .slice none 0 0, .bool false, .slice none 0 0] 48)
  have q2 := (RowAt.new (w.alloc (.cells #[.bool true, .slice aa xa.length ca] 24)) 24 [.bool false, .slice ab xb.length cb]).alloc (.cells #[.bool false, .slice none 0 0, .bool false, .slice none 0 0] 48)
  have q3 := RowAt.new ((w.alloc (.cells #[.bool true, .slice aa xa.length ca] 24)).alloc (.cells #[.bool false, .slice ab xb.length cb] 24)) 48 [.bool false, .slice none 0 0, .bool false, .slice none 0 0]
  simp only [World.size_alloc] at q2 q3
  have K := rsplit_any (.slice aa xa.length ca) (.slice ab xb.length cb) xa xb _ (ha.below bw) (hb.below bw) hka.1 hkb (by omega) (by omega) hb0
  unfold PartsOut at K
  have hrb := hb.below bw
  clear b1 b2
  go_enter Tryd.func74, Tryd.ntmps74
  go_upto_region 2 with (go_at_call 107; with_reducible refine K.mono ?_; rintro e w4 ⟨hb4, n5, a5, m5, c5, n6, a6, m6, c6, rfl, hI, hJ⟩)
  have hs4 := hb4.size
  simp only [World.size_alloc] at hs4
  obtain ⟨q5, hq5, kq5, vq5⟩ := isInt_list hI
  obtain ⟨r6, hr6, kr6, vr6⟩ := isInt_list hJ
  obtain ⟨a', c', e', -, -⟩ := hq5.form
  cases e'
  obtain ⟨a', c', e', -, -⟩ := hr6.form
  cases e'
  rw [Int.natAbs_natCast] at vq5 vr6
  obtain rfl : n5 = false := by rw [isInt_neg hI]; exact decide_eq_false (Int.not_lt.2 (Int.natCast_nonneg _))
  have hB5 := (Below.refl w4.heap.size w4).alloc (Nat.le_refl _) (.cells #[.bool false, .slice a5 q5.length c5, .bool n6, .slice a6 r6.length c6] 48)
  have hB := hb4.trans (hB5.mono (by simp only [World.size_alloc]; exact hs4))
  have hD : DvS w true aa xa.length ca false ab xb.length cb w4.heap.size false a5 q5.length c5 n6 a6 r6.length c6 (w4.alloc (.cells #[.bool false, .slice a5 q5.length c5, .bool n6, .slice a6 r6.length c6] 48)) := ⟨q1.below hB, q2.below hB, q3.below hB, RowAt.new w4 48 [.bool false, .slice a5 q5.length c5, .bool n6, .slice a6 r6.length c6], bw.trans (hB.mono (bw.size)), by omega⟩
  replace hq5 := hq5.below hB5
  replace hr6 := hr6.below hB5
  replace hrb := hrb.below hB
  clear hI hJ hB hB5 hb4 K q1 q2 q3 bw hs4 ha hb hca hma hcb hmb
  generalize hW5 : w4.alloc (.cells #[.bool false, .slice a5 q5.length c5, .bool n6, .slice a6 r6.length c6] 48) = w5 at *
  clear hW5
  generalize w4.heap.size = b5 at *
  obtain ⟨f6, hf6⟩ : ∃ f : Bool, decide (0 < r6.length) = f := ⟨_, rfl⟩
  have hd6 : decide ((0 : Int) < (r6.length : Int)) = f6 := by rw [← hf6]; simp
  obtain ⟨f5, hf5⟩ : ∃ f : Bool, decide (0 < q5.length) = f := ⟨_, rfl⟩
  have hd5 : decide ((0 : Int) < (q5.length : Int)) = f5 := by rw [← hf5]; simp
  have HF := Lib.hid (And.intro hf5 hf6)
  go_cut [] from 12 to 22 (fun W => DvS w true aa xa.length ca false ab xb.length cb b5 false a5 q5.length c5 false a6 r6.length c6 W ∧ Reads .u32 W (.slice a5 q5.length c5) q5 ∧ Reads .u32 W (.slice a6 r6.length c6) r6 ∧ Reads .u32 W (.slice ab xb.length cb) xb)
  case first =>
    obtain ⟨d1, d2, d3, d4, d5, d6, d7, d8⟩ := dvs_cells hD
    obtain ⟨z1, z2, z3, z4⟩ := dvs_frozen hD
    go_wp2
    go_meet
    have hk := hD.keepB 2 (.inr rfl) (.bool false)
    exact ⟨hD.set2 false, hk _ _ hq5, hk _ _ hr6, hk _ _ hrb⟩
  case rest =>
    clear hD hq5 hr6 hrb
    obtain ⟨hD, hq5, hr6, hrb⟩ := hcut
    generalize wc = w6 at *
    obtain ⟨d1, d2, d3, d4, d5, d6, d7, d8⟩ := dvs_cells hD
    go_upto_region 5 with (fail)
    clear d1 d2 d3 d4 d5 d6 d7 d8
    go_cut [] from 29 to 35 (fun W => DvS w true aa xa.length ca false ab xb.length cb b5 f5 a5 q5.length c5 false a6 r6.length c6 W ∧ Reads .u32 W (.slice a5 q5.length c5) q5 ∧ Reads .u32 W (.slice a6 r6.length c6) r6 ∧ Reads .u32 W (.slice ab xb.length cb) xb)
    case first =>
      obtain ⟨d1, d2, d3, d4, d5, d6, d7, d8⟩ := dvs_cells hD
      obtain ⟨z1, z2, z3, z4⟩ := dvs_frozen hD
      go_wp2
      go_meet
      have hk := hD.keepB 0 (.inl rfl) (.bool f5)
      exact ⟨hD.set0 f5, hk _ _ hq5, hk _ _ hr6, hk _ _ hrb⟩
    case rest =>
      clear hD hq5 hr6 hrb
      obtain ⟨hD, hq5, hr6, hrb⟩ := hcut
      generalize wc = w7 at *
      have hp := canon_pos_iff kr6
      rw [vr6] at hp
      cases f6 with
      | false =>
        have hz : val xa % val xb = 0 := by have := of_decide_eq_false HF.out.2; omega
        obtain ⟨d1, d2, d3, d4, d5, d6, d7, d8⟩ := dvs_cells hD
        have e1 := hD.rr.cell 0
        have e2 := hD.rr.cell 1
        have e3 := hD.rr.cell 2
        have e4 := hD.rr.cell 3
        have e5 := hD.rr.frozen 0
        have e6 := hD.rr.frozen 1
        have e7 := hD.rr.frozen 2
        have e8 := hD.rr.frozen 3
        simp only [List.getElem?_cons_zero, List.getElem?_cons_succ] at e1 e2 e3 e4
        go_wp2
        have q9 := (((hD.rr.set 0 (.bool f5)).set 1 (.slice a5 q5.length c5)).set 2 (.bool false)).set 3 (.slice a6 r6.length c6)
        have u1 := q9.cell 0
        have u2 := q9.cell 1
        have u3 := q9.cell 2
        have u4 := q9.cell 3
        simp only [List.set_cons_zero, List.set_cons_succ, List.getElem?_cons_zero, List.getElem?_cons_succ] at u1 u2 u3 u4
        have hk := row4_keep hD.rr (.bool f5) (.slice a5 q5.length c5) (.bool false) (.slice a6 r6.length c6)
        have b9 := hD.below
        refine bodyPost_ret (v := .agg #[.bool f5, .slice a5 q5.length c5, .bool false, .slice a6 r6.length c6]) (by simp [results, Tryd.results74, go_sem, loadCellsFrom, u1, u2, u3, u4]) rfl ⟨(((b9.setCell (by simp; omega) _).setCell (by simp; omega) _).setCell (by simp; omega) _).setCell (by simp; omega) _, f5, _, _, _, false, _, _, _, rfl, ?_, ?_⟩
        · have hsd := (sgn_div_exact true (val xa) (val xb) hb0 hz).1
          simp only [Bool.not_true] at hsd
          rw [hsd]
          have := isInt_mk true (hk _ _ hq5) kq5 (i := sgn true (val xa / val xb)) (by rw [vq5])
          rwa [HF.out.1] at this
        · have hsd := (sgn_div_exact true (val xa) (val xb) hb0 hz).2
          simp only [Bool.not_true] at hsd
          rw [hsd]
          have := isInt_mk false (hk _ _ hr6) kr6 (i := 0) (by rw [vr6, hz]; rfl)
          exact this
      | true =>
        have hz : val xa % val xb ≠ 0 := by have := of_decide_eq_true HF.out.2; omega
        obtain ⟨d1, d2, d3, d4, d5, d6, d7, d8⟩ := dvs_cells hD
        go_upto_region 7 with (fail)
        clear d1 d2 d3 d4 d5 d6 d7 d8
        have hQ0 := isInt_mk true hq5 kq5 (i := -((val xa / val xb : Nat) : Int)) (by rw [vq5]; simp [sgn])
        rw [HF.out.1, Bool.true_and] at hQ0
        have hB1 := (Below.refl w7.heap.size w7).alloc (Nat.le_refl _) (.cells #[.int .u32 1] 72)
        have h1 : IsInt (w7.alloc (.cells #[.int .u32 1] 72)) (.agg #[.bool true, .slice (some ⟨w7.heap.size, 0, none⟩) 1 1]) (-1) :=
          isInt_mk true (RowAt.reads (RowAt.new w7 72 [.int .u32 1]) 1 1 rfl (Nat.le_refl _) (by unfold maxLen; omega)) (canon_one (by decide) (by decide)) (by simp [sgn, val])
        have hqB : (val xa / val xb) < B32 ^ 80000 := Nat.lt_of_le_of_lt (Nat.div_le_self _ _) (Nat.lt_of_lt_of_le (val_lt hka.1) (Nat.pow_le_pow_right B32_pos la))
        have KS := rsum_int _ _ _ _ 80000 _ (hQ0.below hB1) h1 (by omega) (by rw [Int.natAbs_neg, Int.natAbs_natCast]; exact hqB) (Nat.one_lt_pow (show (80000 : Nat) ≠ 0 by decide) (by decide))
        clear hQ0 h1 hqB
        go_cut [] from 41 to 46 (fun W => ∃ n8 a8 m8 c8, DvS w true aa xa.length ca false ab xb.length cb b5 n8 a8 m8 c8 false a6 r6.length c6 W ∧ IsInt W (.agg #[.bool n8, .slice a8 m8 c8]) (-((val xa / val xb : Nat) : Int) + -1) ∧ Reads .u32 W (.slice a6 r6.length c6) r6 ∧ Reads .u32 W (.slice ab xb.length cb) xb)
        case first =>
          obtain ⟨d1, d2, d3, d4, d5, d6, d7, d8⟩ := dvs_cells hD
          go_wp2_with (go_at_call 44; with_reducible refine KS.mono ?_; rintro e w8 ⟨hb8, v8, rfl, h8⟩; obtain ⟨n8, a8, m8, c8, rfl⟩ := h8.shape; have g8 := hB1.trans (hb8.mono hB1.size); have hD8 := hD.step g8; obtain ⟨z1, z2, z3, z4⟩ := dvs_frozen hD8; obtain ⟨-, -, -, -, y1, y2, -, -⟩ := dvs_cells hD8)
          go_meet
          have k1 := hD8.keepB 0 (.inl rfl) (.bool n8)
          have k2 := (hD8.set0 n8).keepS 1 (.inl rfl) (.slice a8 m8 c8)
          exact ⟨n8, a8, m8, c8, (hD8.set0 n8).set1 a8 m8 c8, h8.keep fun v xs hv => k2 _ _ (k1 _ _ hv), k2 _ _ (k1 _ _ (hr6.below g8)), k2 _ _ (k1 _ _ (hrb.below g8))⟩
        case rest =>
          clear hD hq5 hr6 hrb KS hB1
          obtain ⟨n8, a8, m8, c8, hD, hQ, hr6, hrb⟩ := hcut
          generalize wc = w8 at *
          go_upto_region 8 with (fail)
          have hlt := Nat.mod_lt (val xa) hb0
          have hll : r6.length ≤ xb.length := canon_le_length hkb kr6 (by omega)
          have KL := rless_any (.slice ab xb.length cb) (.slice a6 r6.length c6) xb r6 w8 hrb hr6 hkb.1 kr6.1 (by omega) hll (by omega)
          go_cut [6] from 47 to 53 (fun v6 W => ∃ l9, BoxI W v6 ((val xb - val xa % val xb : Nat) : Int) ∧ l9 = 0 ∧ DvS w true aa xa.length ca false ab xb.length cb b5 n8 a8 m8 c8 false a6 r6.length c6 W ∧ IsInt W (.agg #[.bool n8, .slice a8 m8 c8]) (-((val xa / val xb : Nat) : Int) + -1))
          case first =>
            obtain ⟨d1, d2, d3, d4, d5, d6, d7, d8⟩ := dvs_cells hD
            go_wp2_with (first
              | (go_at_call 85; with_reducible refine KL.mono ?_; rintro e w9 ⟨hb9, v9, cs, rfl, hr9, hl9, hv9, hn9⟩; have M9 := made_any false v9 cs w9 hr9 hl9 (by omega))
              | (go_at_call 65; with_reducible refine M9.mono ?_; rintro e w10 ⟨hb10, v10, rfl, hJ⟩; obtain ⟨n10, a10, m10, c10, rfl⟩ := hJ.shape))
            go_meet
            have g10 := hb9.trans (hb10.mono hb9.size)
            have hB11 := (Below.refl w10.heap.size w10).alloc (Nat.le_refl _) (.cells #[.bool n10, .slice a10 m10 c10] 24)
            have e9 : sgn false (val cs) = ((val xb - val xa % val xb : Nat) : Int) := by rw [hv9, vr6]; rfl
            rw [e9] at hJ
            exact ⟨0, BoxI.new hJ, rfl, (hD.step g10).step hB11, (hQ.below g10).below hB11⟩
          case rest =>
            clear hD hr6 hrb KL hQ
            obtain ⟨-, hBx, -, hD, hQ⟩ := hcut
            obtain ⟨b11, n11, a11, m11, c11, rfl, r11, i11⟩ := hBx
            generalize wc = w11 at *
            obtain ⟨x9, hx9, kx9, vx9⟩ := isInt_list i11
            obtain ⟨a', c', e', -, -⟩ := hx9.form
            cases e'
            rw [Int.natAbs_natCast] at vx9
            have hx0 : 0 < x9.length := (canon_pos_iff kx9).1 (by omega)
            go_upto_region 9 with (fail)
            go_cut [] from 54 to 59 (fun W => DvS w true aa xa.length ca false ab xb.length cb b5 n8 a8 m8 c8 false a11 x9.length c11 W ∧ IsInt W (.agg #[.bool n8, .slice a8 m8 c8]) (-((val xa / val xb : Nat) : Int) + -1) ∧ Reads .u32 W (.slice a11 x9.length c11) x9)
            case first =>
              obtain ⟨d1, d2, d3, d4, d5, d6, d7, d8⟩ := dvs_cells hD
              obtain ⟨z1, z2, z3, z4⟩ := dvs_frozen hD
              have y1 := r11.cell 0
              have y2 := r11.cell 1
              simp only [List.getElem?_cons_zero, List.getElem?_cons_succ] at y1 y2
              go_wp2
              go_meet
              have k1 := hD.keepB 2 (.inr rfl) (.bool false)
              have k2 := (hD.set2 false).keepS 3 (.inr rfl) (.slice a11 x9.length c11)
              exact ⟨(hD.set2 false).set3 a11 x9.length c11, hQ.keep fun v xs hv => k2 _ _ (k1 _ _ hv), k2 _ _ (k1 _ _ hx9)⟩
            case rest =>
              clear hD hQ hx9 i11 r11
              obtain ⟨hD, hQ, hx9⟩ := hcut
              generalize wc = w12 at *
              obtain ⟨d1, d2, d3, d4, d5, d6, d7, d8⟩ := dvs_cells hD
              have e1 := hD.rr.cell 0
              have e2 := hD.rr.cell 1
              have e3 := hD.rr.cell 2
              have e4 := hD.rr.cell 3
              have e5 := hD.rr.frozen 0
              have e6 := hD.rr.frozen 1
              have e7 := hD.rr.frozen 2
              have e8 := hD.rr.frozen 3
              simp only [List.getElem?_cons_zero, List.getElem?_cons_succ] at e1 e2 e3 e4
              go_wp2
              have q9 := (((hD.rr.set 0 (.bool n8)).set 1 (.slice a8 m8 c8)).set 2 (.bool false)).set 3 (.slice a11 x9.length c11)
              have u1 := q9.cell 0
              have u2 := q9.cell 1
              have u3 := q9.cell 2
              have u4 := q9.cell 3
              simp only [List.set_cons_zero, List.set_cons_succ, List.getElem?_cons_zero, List.getElem?_cons_succ] at u1 u2 u3 u4
              have hk := row4_keep hD.rr (.bool n8) (.slice a8 m8 c8) (.bool false) (.slice a11 x9.length c11)
              have b9 := hD.below
              refine bodyPost_ret (v := .agg #[.bool n8, .slice a8 m8 c8, .bool false, .slice a11 x9.length c11]) (by simp [results, Tryd.results74, go_sem, loadCellsFrom, u1, u2, u3, u4]) rfl ⟨(((b9.setCell (by simp; omega) _).setCell (by simp; omega) _).setCell (by simp; omega) _).setCell (by simp; omega) _, n8, _, _, _, false, _, _, _, rfl, ?_, ?_⟩
              · have hsd := (sgn_div_rest true (val xa) (val xb) hb0 hz).1
                simp only [Bool.not_true] at hsd
                rw [hsd]
                have := hQ.keep hk
                rwa [show -((val xa / val xb : Nat) : Int) + -1 = sgn true (val xa / val xb + 1) by simp [sgn]; omega] at this
              · have hsd := (sgn_div_rest true (val xa) (val xb) hb0 hz).2
                simp only [Bool.not_true] at hsd
                rw [hsd]
                have := isInt_mk false (hk _ _ hx9) kx9 (i := sgn false (val xb - val xa % val xb)) (by rw [vx9])
                rwa [decide_eq_true hx0, Bool.and_true] at this


/-- the specification's Divide, at values -/
theorem rdivide_int (va vb : Value) (i j : Int) (w : World) (ha : IsInt w va i) (hb : IsInt w vb j) (hi : i.natAbs < B32 ^ 80000) (hj : j.natAbs < B32 ^ 80000) (hj0 : j ≠ 0) :
    Calls Tryd.prog 74 #[va, vb] w fun e w' => Below w.heap.size w w' ∧ PartsOut w' e (i.fdiv j) (i.fmod j) := by
  obtain ⟨na, va, xa, rfl, hra, hka, hna, rfl⟩ := ha
  obtain ⟨nb, vb, xb, rfl, hrb, hkb, hnb, rfl⟩ := hb
  rw [sgn_natAbs] at hi hj
  have la := canon_length_le hka hi
  have lb := canon_length_le hkb hj
  have hb0 : 0 < val xb := by
    rcases Nat.eq_zero_or_pos (val xb) with h | h
    · rw [h] at hj0; cases nb <;> simp [sgn] at hj0
    · exact h
  cases na <;> cases nb
  · exact rdivide_ff va vb xa xb w hra hrb hka hkb la lb hb0
  · exact rdivide_ft va vb xa xb w hra hrb hka hkb la lb hb0
  · exact rdivide_tf va vb xa xb w hra hrb hka hkb la lb hb0
  · exact rdivide_tt va vb xa xb w hra hrb hka hkb la lb hb0

end Go.Proofs.YtlghjfpkfdnfoaaDoor

/- num.Div for all arguments; zermeloref01.Div -/
namespace Go.Proofs.YtlghjfpkfdnfoaaDoor
open Go Go.RowKit Go.Shelf

theorem isInt_len0 {xs : List Nat} {n : Bool} (hl : Limbs xs) (f : formedB n xs = true) (h : xs.length ≠ 0) : sgn n (val xs) ≠ 0 := by
  have hk := (formedB_canon f hl).1
  have hp := (canon_pos_iff hk).2 (by omega)
  cases n <;> simp [sgn] <;> omega

set_option exponentiation.threshold 100000 in
theorem Div_any (a b : Value) (na nb : Bool) (xa xb : List Nat) (w : World) (ha : IntAt w a na xa) (hb : IntAt w b nb xb) :
    Calls Tryd.prog 35 #[a, b] w fun e w' => Below w.heap.size w w' ∧ ∃ v1 v2 k, e = .returned (.tuple #[v1, v2, .int .i64 k]) ∧ DivOut (formedB na xa) (formedB nb xb) xb.length ((sgn na (val xa)).fdiv (sgn nb (val xb))) ((sgn na (val xa)).fmod (sgn nb (val xb))) k w' v1 v2 := by
  refine Div_of a b na nb xa xb w ha hb _ _ (fun fa fb h0 W hW => ?_)
  have hi := ha.natAbs_lt fa
  have hj := hb.natAbs_lt fb
  have hlb : Limbs xb := by obtain ⟨_, _, _, hl⟩ := hb; exact hl
  refine floored_any a b _ _ W ((ha.isInt fa).below hW) ((hb.isInt fb).below hW) (abs_lt_up hi (by decide)) (abs_lt_up hj (by decide)) (isInt_len0 hlb fb h0) (fun va vb ya yb hcy hcz hvy hvz hry hrz W' hW' => ?_)
  exact divUpTo_all 300 va vb ya yb W' (hry.below hW') (hrz.below hW') hcy hcz (canon_length_le hcy (by rw [hvy]; exact Nat.lt_of_lt_of_le hi (Nat.pow_le_pow_right B32_pos (by decide)))) (canon_length_le hcz (by rw [hvz]; exact hj)) (by rw [hvz]; have := isInt_len0 hlb fb h0; omega)

theorem fdiv_le {i j : Int} (hj : j ≠ 0) : (i.fdiv j).natAbs ≤ i.natAbs := by
  have key : ∀ (n m : Bool) (A B : Nat), 0 < B → ((sgn n A).fdiv (sgn m B)).natAbs ≤ A := fun n m A B hB => by
    have hle := Nat.div_le_self A B
    by_cases hnm : n = m
    · subst hnm
      rw [(sgn_div_same n A B hB).1, sgn_natAbs]
      exact hle
    · obtain rfl : m = !n := by cases n <;> cases m <;> first | rfl | exact absurd rfl hnm
      by_cases hz : A % B = 0
      · rw [(sgn_div_exact n A B hB hz).1, sgn_natAbs]
        exact hle
      · rw [(sgn_div_rest n A B hB hz).1, sgn_natAbs]
        have h1 := Nat.div_add_mod A B
        have h2 := Nat.mod_lt A hB
        have h3 : 2 * (A / B) ≤ B * (A / B) := Nat.mul_le_mul_right _ (by omega)
        omega
  have hi : ∀ x : Int, ∃ n, x = sgn n x.natAbs := fun x => by
    rcases Int.lt_or_le x 0 with h | h
    · exact ⟨true, by simp [sgn]; omega⟩
    · exact ⟨false, by simp [sgn]; omega⟩
  obtain ⟨n, en⟩ := hi i
  obtain ⟨m, em⟩ := hi j
  have := key n m i.natAbs j.natAbs (by omega)
  rwa [← en, ← em] at this
theorem len_300 {m : Nat} (h : m ≤ 300) : ¬ (300 : Int) < (m : Int) := by omega
theorem row5_keep {W : World} {b : Nat} {t : TypeId} {n0 n1 : Bool} {a0 a1 : Option Addr} {m0 c0 m1 c1 : Nat} {k0 : Int} (q : RowAt W b t [.bool n0, .slice a0 m0 c0, .bool n1, .slice a1 m1 c1, .int .i64 k0]) (x y z u s : Value) :
    ∀ v xs, Reads .u32 W v xs → Reads .u32 (((((W.setCell ⟨b, 0, none⟩ x).setCell ⟨b, 1, none⟩ y).setCell ⟨b, 2, none⟩ z).setCell ⟨b, 3, none⟩ u).setCell ⟨b, 4, none⟩ s) v xs := fun _ _ h =>
  ((((h.setOther (c := .bool n0) (q.cell 0) (by simp) x).setOther (c := .slice a0 m0 c0) ((q.set 0 x).cell 1) (by simp) y).setOther (c := .bool n1) (((q.set 0 x).set 1 y).cell 2) (by simp) z).setOther (c := .slice a1 m1 c1) ((((q.set 0 x).set 1 y).set 2 z).cell 3) (by simp) u).setOther (c := .int .i64 k0) (((((q.set 0 x).set 1 y).set 2 z).set 3 u).cell 4) (by simp) s

set_option maxHeartbeats 2000000 in
set_option maxRecDepth 100000 in
set_option exponentiation.threshold 100000 in
theorem rdiv_any (a b : Value) (na nb : Bool) (xa xb : List Nat) (w : World) (ha : IntAt w a na xa) (hb : IntAt w b nb xb) :
    Calls Tryd.prog 36 #[a, b] w fun e w' => Below w.heap.size w w' ∧ ∃ n1 a1 m1 c1 n2 a2 m2 c2 k, e = .returned (.agg #[.bool n1, .slice a1 m1 c1, .bool n2, .slice a2 m2 c2, .int .i64 k]) ∧
      DivOut (formedB na xa) (formedB nb xb) xb.length ((sgn na (val xa)).fdiv (sgn nb (val xb))) ((sgn na (val xa)).fmod (sgn nb (val xb))) k w' (.agg #[.bool n1, .slice a1 m1 c1]) (.agg #[.bool n2, .slice a2 m2 c2]) := by
  have KB := fun X (hX : Below w.heap.size w X) => both_any a b na nb xa xb X (ha.below hX) (hb.below hX)
  have hlb : Limbs xb := by obtain ⟨_, _, _, hl⟩ := hb; exact hl
  have KD := fun X (hX : Below w.heap.size w X) (fa : formedB na xa = true) (fb : formedB nb xb = true) (h0 : xb.length ≠ 0) => rdivide_int a b _ _ X ((ha.below hX).isInt fa) ((hb.below hX).isInt fb) (abs_lt_up (ha.natAbs_lt fa) (by decide)) (abs_lt_up (hb.natAbs_lt fb) (by decide)) (isInt_len0 hlb fb h0)
  have HQ := Lib.hid (fun (fa : formedB na xa = true) (fb : formedB nb xb = true) (h0 : xb.length ≠ 0) => Nat.lt_of_le_of_lt (fdiv_le (i := sgn na (val xa)) (isInt_len0 hlb fb h0)) (ha.natAbs_lt fa))
  unfold PartsOut at KD
  obtain ⟨sa, rfl, hra, hla⟩ := ha
  obtain ⟨sb, rfl, hrb, -⟩ := hb
  obtain ⟨aa, ca, rfl, hca, hma⟩ := hra.form
  obtain ⟨ab, cb, rfl, hcb, hmb⟩ := hrb.form
  have b1 := (Below.refl w.heap.size w).alloc (Nat.le_refl _) (.cells #[.bool na, .slice aa xa.length ca] 24)
  have b2 := b1.alloc b1.size (.cells #[.bool nb, .slice ab xb.length cb] 24)
  have bw := b2.alloc b2.size (.cells #[.bool false, .slice none 0 0, .bool false, .slice none 0 0, .int .i64 0] 50)
  have q1 := ((RowAt.new w 24 [.bool na, .slice aa xa.length ca]).alloc (.cells #[.bool nb, .slice ab xb.length cb] 24)).alloc (.cells #[.bool false, .slice none 0 0, .bool false, .slice none 0 0, .int .i64 0] 50)
  have q2 := (RowAt.new (w.alloc (.cells #[.bool na, .slice aa xa.length ca] 24)) 24 [.bool nb, .slice ab xb.length cb]).alloc (.cells #[.bool false, .slice none 0 0, .bool false, .slice none 0 0, .int .i64 0] 50)
  have q3 := RowAt.new ((w.alloc (.cells #[.bool na, .slice aa xa.length ca] 24)).alloc (.cells #[.bool nb, .slice ab xb.length cb] 24)) 50 [.bool false, .slice none 0 0, .bool false, .slice none 0 0, .int .i64 0]
  simp only [World.size_alloc] at q2 q3
  clear hra hrb hla hlb hca hma hcb hmb b1 b2
  generalize (sgn na (val xa)).fdiv (sgn nb (val xb)) = iq at *
  generalize (sgn na (val xa)).fmod (sgn nb (val xb)) = ir at *
  generalize sgn na (val xa) = i at *
  generalize sgn nb (val xb) = j at *
  generalize formedB na xa = fa at *
  generalize formedB nb xb = fb at *
  generalize xa.length = ma at *
  generalize xb.length = mb at *
  cases hf : (fa && fb) with
  | false =>
    have HF := Lib.hid hf
    rw [hf] at KB
    clear hf KD HQ
    go_enter Tryd.func36, Tryd.ntmps36
    go_wp2_with (go_at_call 70; refine (KB _ bw).mono ?_; rintro e w1 ⟨hb1, rfl⟩; have q4 := q3.below hb1; have s1 := q4.cell 0; have s2 := q4.cell 1; have s3 := q4.cell 2; have s4 := q4.cell 3; have s5 := q4.cell 4; have f1 := q4.frozen 0; have f2 := q4.frozen 1; have f3 := q4.frozen 2; have f4 := q4.frozen 3; have f5 := q4.frozen 4; simp only [List.getElem?_cons_zero, List.getElem?_cons_succ] at s1 s2 s3 s4 s5)
    have q5 := ((((q4.set 0 (.bool false)).set 1 (.slice none 0 0)).set 2 (.bool false)).set 3 (.slice none 0 0)).set 4 (.int .i64 1)
    have u1 := q5.cell 0
    have u2 := q5.cell 1
    have u3 := q5.cell 2
    have u4 := q5.cell 3
    have u5 := q5.cell 4
    simp only [List.set_cons_zero, List.set_cons_succ, List.getElem?_cons_zero, List.getElem?_cons_succ] at u1 u2 u3 u4 u5
    have b9 := bw.trans (hb1.mono bw.size)
    refine bodyPost_ret (v := .agg #[.bool false, .slice none 0 0, .bool false, .slice none 0 0, .int .i64 1]) (by simp [results, Tryd.results36, go_sem, loadCellsFrom, u1, u2, u3, u4, u5]) rfl ⟨((((b9.setCell (by simp; omega) _).setCell (by simp; omega) _).setCell (by simp; omega) _).setCell (by simp; omega) _).setCell (by simp; omega) _, false, none, 0, 0, false, none, 0, 0, 1, rfl, ?_⟩
    unfold DivOut
    rw [HF.out, if_neg (by simp)]
    exact ⟨rfl, rfl, rfl⟩
  | true =>
    rw [hf] at KB
    obtain ⟨rfl, rfl⟩ := Bool.and_eq_true_iff.1 hf
    clear hf
    by_cases h0 : mb = 0
    · subst h0
      clear KD HQ
      go_enter Tryd.func36, Tryd.ntmps36
      go_wp2_with (go_at_call 70; refine (KB _ bw).mono ?_; rintro e w1 ⟨hb1, rfl⟩; have d4 := (q2.below hb1).cell 1; have q4 := q3.below hb1; have s1 := q4.cell 0; have s2 := q4.cell 1; have s3 := q4.cell 2; have s4 := q4.cell 3; have s5 := q4.cell 4; have f1 := q4.frozen 0; have f2 := q4.frozen 1; have f3 := q4.frozen 2; have f4 := q4.frozen 3; have f5 := q4.frozen 4; simp only [List.getElem?_cons_zero, List.getElem?_cons_succ] at s1 s2 s3 s4 s5 d4)
      have q5 := ((((q4.set 0 (.bool false)).set 1 (.slice none 0 0)).set 2 (.bool false)).set 3 (.slice none 0 0)).set 4 (.int .i64 20)
      have u1 := q5.cell 0
      have u2 := q5.cell 1
      have u3 := q5.cell 2
      have u4 := q5.cell 3
      have u5 := q5.cell 4
      simp only [List.set_cons_zero, List.set_cons_succ, List.getElem?_cons_zero, List.getElem?_cons_succ] at u1 u2 u3 u4 u5
      have b9 := bw.trans (hb1.mono bw.size)
      refine bodyPost_ret (v := .agg #[.bool false, .slice none 0 0, .bool false, .slice none 0 0, .int .i64 20]) (by simp [results, Tryd.results36, go_sem, loadCellsFrom, u1, u2, u3, u4, u5]) rfl ⟨((((b9.setCell (by simp; omega) _).setCell (by simp; omega) _).setCell (by simp; omega) _).setCell (by simp; omega) _).setCell (by simp; omega) _, false, none, 0, 0, false, none, 0, 0, 20, rfl, ?_⟩
      unfold DivOut
      rw [if_pos (by rfl), if_pos rfl]
      exact ⟨rfl, rfl, rfl⟩
    · have hQ := HQ.out rfl rfl h0
      have KD2 := fun X hX => KD X hX rfl rfl h0
      have H0 := Lib.hid h0
      have hmb : ((mb : Int) == 0) = false := by simp; omega
      clear KD HQ h0
      have HQ := Lib.hid hQ
      clear hQ
      go_enter Tryd.func36, Tryd.ntmps36
      go_wp2_with (first
        | (go_at_call 70; refine (KB _ bw).mono ?_; rintro e w1 ⟨hb1, rfl⟩; have bw1 := bw.trans (hb1.mono bw.size); have d1 := (q1.below hb1).cell 0; have d2 := (q1.below hb1).cell 1; have d3 := (q2.below hb1).cell 0; have d4 := (q2.below hb1).cell 1; simp only [List.getElem?_cons_zero, List.getElem?_cons_succ] at d1 d2 d3 d4)
        | (go_at_call 74; with_reducible refine (KD2 _ bw1).mono ?_; rintro e w2 ⟨hb2, n1, a1, m1, c1, n2, a2, m2, c2, rfl, hI, hJ⟩; have hm1 := len_300 ((isInt_size hI 300).2 HQ.out); have g2 := hb1.trans (hb2.mono hb1.size); have q4 := (q3.below g2).alloc (.cells #[.bool n1, .slice a1 m1 c1, .bool n2, .slice a2 m2 c2] 48); have s1 := q4.cell 0; have s2 := q4.cell 1; have s3 := q4.cell 2; have s4 := q4.cell 3; have s5 := q4.cell 4; have f1 := q4.frozen 0; have f2 := q4.frozen 1; have f3 := q4.frozen 2; have f4 := q4.frozen 3; have f5 := q4.frozen 4; simp only [List.getElem?_cons_zero, List.getElem?_cons_succ] at s1 s2 s3 s4 s5))
      have q5 := ((((q4.set 0 (.bool n1)).set 1 (.slice a1 m1 c1)).set 2 (.bool n2)).set 3 (.slice a2 m2 c2)).set 4 (.int .i64 0)
      have u1 := q5.cell 0
      have u2 := q5.cell 1
      have u3 := q5.cell 2
      have u4 := q5.cell 3
      have u5 := q5.cell 4
      simp only [List.set_cons_zero, List.set_cons_succ, List.getElem?_cons_zero, List.getElem?_cons_succ] at u1 u2 u3 u4 u5
      have b8 := bw1.trans (hb2.mono bw1.size)
      have b9 := b8.alloc b8.size (.cells #[.bool n1, .slice a1 m1 c1, .bool n2, .slice a2 m2 c2] 48)
      have hk := row5_keep q4 (.bool n1) (.slice a1 m1 c1) (.bool n2) (.slice a2 m2 c2) (.int .i64 0)
      have hBx := (Below.refl w2.heap.size w2).alloc (Nat.le_refl _) (.cells #[.bool n1, .slice a1 m1 c1, .bool n2, .slice a2 m2 c2] 48)
      refine bodyPost_ret (v := .agg #[.bool n1, .slice a1 m1 c1, .bool n2, .slice a2 m2 c2, .int .i64 0]) (by simp [results, Tryd.results36, go_sem, loadCellsFrom, u1, u2, u3, u4, u5]) rfl ⟨((((b9.setCell (by simp; omega) _).setCell (by simp; omega) _).setCell (by simp; omega) _).setCell (by simp; omega) _).setCell (by simp; omega) _, n1, a1, m1, c1, n2, a2, m2, c2, 0, rfl, ?_⟩
      unfold DivOut
      rw [if_pos (by rfl), if_neg H0.out]
      exact ⟨rfl, (hI.below hBx).keep hk, (hJ.below hBx).keep hk⟩

end Go.Proofs.YtlghjfpkfdnfoaaDoor

/- zermelolaw01.NumDivides -/
namespace Go.Proofs.YtlghjfpkfdnfoaaDoor
open Go Go.RowKit Go.Shelf

/-- two answers of a division agree -/
theorem divOut_same {fa fb : Bool} {lb : Nat} {q r k k' : Int} {W : World} {v1 v2 v1' v2' : Value} (h : DivOut fa fb lb q r k W v1 v2) (h' : DivOut fa fb lb q r k' W v1' v2') : k = k' ∧ ∃ i j, (IsInt W v1 i ∧ IsInt W v1' i) ∧ (IsInt W v2 j ∧ IsInt W v2' j) := by
  have hz : ∀ v, v = zeroInt → IsInt W v 0 := by
    rintro v rfl
    exact ⟨false, _, [], rfl, Reads.nil _ _, canon_nil, rfl, by simp [sgn, val]⟩
  unfold DivOut at h h'
  by_cases c1 : (fa && fb) = true
  · rw [if_pos c1] at h h'
    by_cases c2 : lb = 0
    · rw [if_pos c2] at h h'
      exact ⟨h.1.trans h'.1.symm, 0, 0, ⟨hz _ h.2.1, hz _ h'.2.1⟩, hz _ h.2.2, hz _ h'.2.2⟩
    · rw [if_neg c2] at h h'
      exact ⟨h.1.trans h'.1.symm, q, r, ⟨h.2.1, h'.2.1⟩, h.2.2, h'.2.2⟩
  · rw [if_neg c1] at h h'
    exact ⟨h.1.trans h'.1.symm, 0, 0, ⟨hz _ h.2.1, hz _ h'.2.1⟩, hz _ h.2.2, hz _ h'.2.2⟩
/-- the two variables of an answer -/
def BoxD (W : World) (v v' : Value) (fa fb : Bool) (lb : Nat) (q r k : Int) : Prop := ∃ b b' n a m c n' a' m' c', v = .pointer (some ⟨b, 0, none⟩) ∧ v' = .pointer (some ⟨b', 0, none⟩) ∧ RowAt W b 24 [.bool n, .slice a m c] ∧ RowAt W b' 24 [.bool n', .slice a' m' c'] ∧ DivOut fa fb lb q r k W (.agg #[.bool n, .slice a m c]) (.agg #[.bool n', .slice a' m' c'])
theorem divOut_form {fa fb : Bool} {lb : Nat} {q r k : Int} {W : World} {v1 v2 : Value} (h : DivOut fa fb lb q r k W v1 v2) : (∃ n a m c, v1 = .agg #[.bool n, .slice a m c]) ∧ ∃ n a m c, v2 = .agg #[.bool n, .slice a m c] := by
  unfold DivOut at h
  split at h
  · split at h
    · obtain ⟨-, rfl, rfl⟩ := h
      exact ⟨⟨false, none, 0, 0, rfl⟩, false, none, 0, 0, rfl⟩
    · obtain ⟨-, h1, h2⟩ := h
      obtain ⟨n, a, m, c, rfl⟩ := h1.shape
      obtain ⟨n', a', m', c', rfl⟩ := h2.shape
      exact ⟨⟨n, a, m, c, rfl⟩, n', a', m', c', rfl⟩
  · obtain ⟨-, rfl, rfl⟩ := h
    exact ⟨⟨false, none, 0, 0, rfl⟩, false, none, 0, 0, rfl⟩

set_option maxHeartbeats 4000000 in
set_option maxRecDepth 100000 in
set_option exponentiation.threshold 400 in
theorem divides_any (va vb : Value) (na nb : Bool) (xa xb : List Nat) (w : World) (ha : IntAt w va na xa) (hb : IntAt w vb nb xb) (hT : DigitsAt w) :
    Calls Tryd.prog 5 #[va, vb] w fun e w' => Below w.heap.size w w' ∧ e = .returned (.bool true) := by
  obtain ⟨sa, rfl, hra, hla⟩ := ha
  obtain ⟨sb, rfl, hrb, hlb⟩ := hb
  obtain ⟨aa, ca, rfl, hca, hma⟩ := hra.form
  obtain ⟨ab, cb, rfl, hcb, hmb⟩ := hrb.form
  go_enter Tryd.func5, Tryd.ntmps5
  go_upto_region 0 with (fail)
  go_cut [2, 3] from 0 to 1 (fun v2 v3 W => BoxF W v2 na xa ∧ BoxF W v3 nb xb ∧ Below w.heap.size w W)
  case first =>
    go_wp2
    go_meet
    have B1 : Below w.heap.size w (w.alloc (.cells #[.bool na, .slice aa xa.length ca] 24)) := (Below.refl _ _).alloc (Nat.le_refl _) _
    have B2 := B1.alloc B1.size (.cells #[.bool nb, .slice ab xb.length cb] 24)
    have C1 : BoxF _ _ na xa := ⟨_, aa, ca, rfl, RowAt.new w 24 [.bool na, .slice aa xa.length ca], hra.below B1⟩
    have C2 : BoxF _ _ nb xb := ⟨_, ab, cb, rfl, RowAt.new (w.alloc (.cells #[.bool na, .slice aa xa.length ca] 24)) 24 [.bool nb, .slice ab xb.length cb], hrb.below B2⟩
    simp only [World.size_alloc] at C2
    exact ⟨C1.below ((Below.refl _ _).alloc (Nat.le_refl _) _), C2, B2⟩
  case rest =>
    obtain ⟨q1, q2, hbe⟩ := hcut
    clear hra hrb hca hcb hma hmb
    have hT1 := hT.below hbe
    obtain ⟨b1, a1, c1, rfl, r1, j1⟩ := q1
    obtain ⟨b2, a2, c2, rfl, r2, j2⟩ := q2
    have T1 : TelL w b1 na a1 c1 xa b2 nb a2 c2 xb wc := ⟨r1, r2, ⟨_, rfl, j1, hla⟩, ⟨_, rfl, j2, hlb⟩, hbe⟩
    clear r1 r2 j1 j2 hbe hT1
    generalize wc = wX0 at *
    have few_pay : ∀ X, TelL w b1 na a1 c1 xa b2 nb a2 c2 xb X → ∀ it ∈ ([(na, .slice a1 xa.length c1, xa), (nb, .slice a2 xb.length c2, xb)] : List Item), Reads .u32 (X.alloc (.cells #[.bool na, .slice a1 xa.length c1, .bool nb, .slice a2 xb.length c2] 24)) it.2.1 it.2.2 ∧ Limbs it.2.2 := fun X hX it hit => by
      have hB : Below X.heap.size X (X.alloc (.cells #[.bool na, .slice a1 xa.length c1, .bool nb, .slice a2 xb.length c2] 24)) := (Below.refl _ _).alloc (Nat.le_refl _) _
      obtain ⟨s1, e1, p1, -⟩ := hX.ia
      obtain ⟨s2, e2, p2, -⟩ := hX.ib
      simp only [Value.agg.injEq, Array.mk.injEq, List.cons.injEq, and_true, true_and] at e1 e2
      subst e1 e2
      simp only [List.mem_cons, List.not_mem_nil, or_false] at hit
      rcases hit with rfl | rfl
      · exact ⟨p1.below hB, hla⟩
      · exact ⟨p2.below hB, hlb⟩
    have KW := fun X (hX : TelL w b1 na a1 c1 xa b2 nb a2 c2 xb X) (most : Int) => few_list [(na, .slice a1 xa.length c1, xa), (nb, .slice a2 xb.length c2, xb)] most X.heap.size (X.alloc (.cells #[.bool na, .slice a1 xa.length c1, .bool nb, .slice a2 xb.length c2] 24)) (RowAt.new X 24 [.bool na, .slice a1 xa.length c1, .bool nb, .slice a2 xb.length c2]) (by simp) (few_pay X hX)
    simp only [List.length_cons, List.length_nil, Nat.zero_add, Nat.reduceAdd] at KW
    have KG := fun X (hX : TelL w b1 na a1 c1 xa b2 nb a2 c2 xb X) => rformed_any _ na xa X hX.ia
    have KH := fun X (hX : TelL w b1 na a1 c1 xa b2 nb a2 c2 xb X) => rformed_any _ nb xb X hX.ib
    have DG := fun X (hX : TelL w b1 na a1 c1 xa b2 nb a2 c2 xb X) => hT.below hX.below
    clear few_pay
    obtain ⟨F3, hF3⟩ : ∃ b, List.all [(na, .slice a1 xa.length c1, xa), (nb, .slice a2 xb.length c2, xb)] (fewB 310) = b := ⟨_, rfl⟩
    obtain ⟨F1, hF1⟩ : ∃ b, List.all [(na, .slice a1 xa.length c1, xa), (nb, .slice a2 xb.length c2, xb)] (fewB 100) = b := ⟨_, rfl⟩
    have KA := fun X (hX : TelL w b1 na a1 c1 xa b2 nb a2 c2 xb X) => KW X hX 310
    have KB := fun X (hX : TelL w b1 na a1 c1 xa b2 nb a2 c2 xb X) => KW X hX 100
    rw [hF3] at KA
    rw [hF1] at KB
    have HF3 := Lib.hid hF3
    clear hF3 hF1 KW
    have KD := fun X (hX : TelL w b1 na a1 c1 xa b2 nb a2 c2 xb X) => Div_any _ _ na nb xa xb X hX.ia hX.ib
    have KE := fun X (hX : TelL w b1 na a1 c1 xa b2 nb a2 c2 xb X) => rdiv_any _ _ na nb xa xb X hX.ia hX.ib
    generalize formedB na xa = fa at *
    generalize formedB nb xb = fb at *
    generalize (sgn na (val xa)).fdiv (sgn nb (val xb)) = iq at *
    generalize (sgn na (val xa)).fmod (sgn nb (val xb)) = ir at *
    go_upto_region 1 with (fail)
    go_cut [28] from 9 to 28 (fun v W => v = .bool (!F3 || (!F1 && (fa && fb))) ∧ TelL w b1 na a1 c1 xa b2 nb a2 c2 xb W)
    case first =>
      obtain ⟨d1, d2, d3, d4⟩ := tel_cells T1
      have hB0 : Below wX0.heap.size wX0 (wX0.alloc (.cells #[.bool na, .slice a1 xa.length c1, .bool nb, .slice a2 xb.length c2] 24)) := (Below.refl _ _).alloc (Nat.le_refl _) _
      cases F3 with
      | false =>
        go_wp2_with (go_at_call 15; with_reducible refine (KA _ T1).mono ?_; rintro e w2 ⟨hb2, rfl⟩)
        go_meet
        exact ⟨rfl, tel_step (tel_step T1 hB0) hb2⟩
      | true =>
        cases F1 with
        | true =>
          go_wp2_with (first
            | (go_at_call 15; with_reducible refine (KA _ T1).mono ?_; rintro e w2 ⟨hb2, rfl⟩; have T2 := tel_step (tel_step T1 hB0) hb2; obtain ⟨e1, e2, e3, e4⟩ := tel_cells T2)
            | (go_at_call 15; with_reducible refine (KB _ T2).mono ?_; rintro e w3 ⟨hb3, rfl⟩))
          go_meet
          exact ⟨rfl, tel_step (tel_step T2 ((Below.refl _ _).alloc (Nat.le_refl _) _)) hb3⟩
        | false =>
          cases fa with
          | false =>
            go_wp2_with (first
              | (go_at_call 15; with_reducible refine (KA _ T1).mono ?_; rintro e w2 ⟨hb2, rfl⟩; have T2 := tel_step (tel_step T1 hB0) hb2; obtain ⟨e1, e2, e3, e4⟩ := tel_cells T2)
              | (go_at_call 15; with_reducible refine (KB _ T2).mono ?_; rintro e w3 ⟨hb3, rfl⟩; have T3 := tel_step (tel_step T2 ((Below.refl _ _).alloc (Nat.le_refl _) _)) hb3; obtain ⟨g1, g2, g3, g4⟩ := tel_cells T3)
              | (go_at_call 19; with_reducible refine (KG _ T3).mono ?_; rintro e w4 ⟨hb4, rfl⟩))
            go_meet
            exact ⟨rfl, tel_step T3 hb4⟩
          | true =>
            go_wp2_with (first
              | (go_at_call 15; with_reducible refine (KA _ T1).mono ?_; rintro e w2 ⟨hb2, rfl⟩; have T2 := tel_step (tel_step T1 hB0) hb2; obtain ⟨e1, e2, e3, e4⟩ := tel_cells T2)
              | (go_at_call 15; with_reducible refine (KB _ T2).mono ?_; rintro e w3 ⟨hb3, rfl⟩; have T3 := tel_step (tel_step T2 ((Below.refl _ _).alloc (Nat.le_refl _) _)) hb3; obtain ⟨g1, g2, g3, g4⟩ := tel_cells T3)
              | (go_at_call 19; with_reducible refine (KG _ T3).mono ?_; rintro e w4 ⟨hb4, rfl⟩; have T4 := tel_step T3 hb4; obtain ⟨y1, y2, y3, y4⟩ := tel_cells T4)
              | (go_at_call 19; with_reducible refine (KH _ T4).mono ?_; rintro e w5 ⟨hb5, rfl⟩))
            go_meet
            exact ⟨by cases fb <;> rfl, tel_step T4 hb5⟩
    case rest =>
      clear T1
      obtain ⟨rfl, T1⟩ := hcut
      generalize wc = wX1 at *
      clear KA KB KG KH
      cases hC : (!F3 || (!F1 && (fa && fb))) with
      | true =>
        clear KD KE
        go_wp2_with (go_at_call 16; with_reducible refine (sane_any _ (DG _ T1)).mono ?_; rintro e w3 ⟨hb3, rfl⟩)
        go_ret
        exact ⟨(tel_step T1 hb3).below, rfl⟩
      | false =>
        clear hC
        go_upto_region 3 with (fail)
        go_cut [5, 6, 7] from 30 to 36 (fun v5 v6 v7 W => ∃ k, v7 = .int .i64 k ∧ BoxD W v5 v6 fa fb xb.length iq ir k ∧ TelL w b1 na a1 c1 xa b2 nb a2 c2 xb W)
        case first =>
          obtain ⟨d1, d2, d3, d4⟩ := tel_cells T1
          go_wp2_with (go_at_call 35; with_reducible refine (KD _ T1).mono ?_; rintro e w3 ⟨hb3, v1, v2, k, rfl, hr⟩; obtain ⟨⟨n, a, m, c, rfl⟩, n', a', m', c', rfl⟩ := divOut_form hr)
          go_meet
          have hB1 : Below w3.heap.size w3 (w3.alloc (.cells #[.bool n, .slice a m c] 24)) := (Below.refl _ _).alloc (Nat.le_refl _) _
          have hB2 := hB1.alloc hB1.size (.cells #[.bool n', .slice a' m' c'] 24)
          have R1 := (RowAt.new w3 24 [.bool n, .slice a m c]).alloc (.cells #[.bool n', .slice a' m' c'] 24)
          have R2 := RowAt.new (w3.alloc (.cells #[.bool n, .slice a m c] 24)) 24 [.bool n', .slice a' m' c']
          simp only [World.size_alloc] at R2
          exact ⟨k, rfl, ⟨_, _, n, a, m, c, n', a', m', c', rfl, rfl, R1, R2, hr.keep fun v xs hv => hv.below hB2⟩, tel_step (tel_step T1 hb3) hB2⟩
        case rest =>
          clear T1
          obtain ⟨k, rfl, q5, T1⟩ := hcut
          generalize wc = wX3 at *
          obtain ⟨b5, b6, n5, a5, m5, c5, n6, a6, m6, c6, rfl, rfl, r5, r6, hD⟩ := q5
          go_upto_region 4 with (fail)
          obtain ⟨d1, d2, d3, d4⟩ := tel_cells T1
          go_upto_region 5 with (go_at_call 36; with_reducible refine (KE _ T1).mono ?_; rintro e w4 ⟨hb4, p1, o1, l1, g1, p2, o2, l2, g2, k', rfl, hE⟩)
          have hB : Below w4.heap.size w4 (w4.alloc (.cells #[.bool p1, .slice o1 l1 g1, .bool p2, .slice o2 l2 g2, .int .i64 k'] 50)) := (Below.refl _ _).alloc (Nat.le_refl _) _
          have hB2 := hb4.trans (hB.mono hb4.size)
          obtain ⟨rfl, i, j, ⟨i1, i2⟩, j1, j2⟩ := divOut_same (hD.keep fun v xs hv => hv.below hB2) (hE.keep fun v xs hv => hv.below hB)
          have r8 := RowAt.new w4 50 [.bool p1, .slice o1 l1 g1, .bool p2, .slice o2 l2 g2, .int .i64 k]
          replace r5 := r5.below hB2
          replace r6 := r6.below hB2
          replace T1 := tel_step T1 hB2
          clear hD hE hB hB2 hb4 d1 d2 d3 d4 KD KE
          generalize w4.alloc (.cells #[.bool p1, .slice o1 l1 g1, .bool p2, .slice o2 l2 g2, .int .i64 k] 50) = w5 at *
          go_wp2_with (first
            | (go_at_call 16; with_reducible refine (sane_any _ (DG _ T1)).mono ?_; rintro e w6 ⟨h6, rfl⟩; have x1 := (r5.below h6).cell 0; have x2 := (r5.below h6).cell 1; have y1 := (r8.below h6).cell 0; have y2 := (r8.below h6).cell 1; have y3 := (r8.below h6).cell 4; simp only [List.getElem?_cons_zero, List.getElem?_cons_succ] at x1 x2 y1 y2 y3)
            | (go_at_call 25; with_reducible refine (rsame_eq _ _ i _ (i1.below h6) (i2.below h6)).mono ?_; rintro e w7 ⟨h7, rfl⟩; have g7 := h6.trans (h7.mono h6.size); clear x1 x2 y1 y2 y3; have x1 := (r6.below g7).cell 0; have x2 := (r6.below g7).cell 1; have y1 := (r8.below g7).cell 2; have y2 := (r8.below g7).cell 3; simp only [List.getElem?_cons_zero, List.getElem?_cons_succ] at x1 x2 y1 y2)
            | (go_at_call 25; with_reducible refine (rsame_eq _ _ j _ (j1.below g7) (j2.below g7)).mono ?_; rintro e w8 ⟨h8, rfl⟩))
          go_ret
          exact ⟨(tel_step (tel_step T1 g7) h8).below, rfl⟩

end Go.Proofs.YtlghjfpkfdnfoaaDoor

/- zermelolaw01.NumDivides: the row and its card -/
namespace Go.Proofs.YtlghjfpkfdnfoaaDoor
open Go.ChangeShapes Go.WideShapes Go.ChangeAt Go.RowKit Go.Joins

set_option maxRecDepth 100000 in
theorem divides_lifted (os : Os) (started : os.Started) (H : Type) (enc : TypeId × Value → H) :
    ReturnsInHanded {} Tryd.checked os 5 .any (fun w args => (Rows.numDividesSpec.pre enc Tryd.prog Tryd.f5 [] false w args ∧ laidMetH Tryd.prog theLaid w) ∧ sizedMet enc Tryd.prog Tryd.f5 (OpenSpec.ofChange Rows.numDividesSpec) false w args)
      (Rows.numDividesSpec.post enc Tryd.prog Tryd.f5 false true false false) := by
  refine returnsInHanded_of_change_and (C := Tryd.checked) (X := fun w _ => laidMetH Tryd.prog theLaid w) (fun _ _ _ hh h => h.of_heap hh) own started (by kernel_rfl) Tryd.func5
    (ChangeSpec.witness_shaped (enc := enc) (C := Tryd.checked) (os := os) (X := fun w _ => laidMetH Tryd.prog theLaid w) false (World.doorLaid Tryd.prog 400 os) #[.agg #[.bool false, .slice none 0 0], .agg #[.bool false, .slice none 0 0]] 8 rfl (World.shaped_of_RefB (by kernel_rfl) (by kernel_rfl)) (by kernel_rfl) (by kernel_rfl) (by kernel_rfl) (door_met os _)) ?_
  intro W base args ds gs before hval0 hW _ _ hL _
  have hval : ∀ (j : Nat) t v, Tryd.f5.params[j]? = some t → args[j]? = some v → Value.okWide Tryd.prog W .any base t v := hval0
  have hW' := hW
  obtain ⟨p, q, hA0, hV, rfl, hfz, hnd⟩ := hW
  have hA : DataW.TrodAll enc Tryd.prog W 0 (fun _ => true) true Tryd.f5.params.toList args.toList ds p := hA0
  rw [Tryd.params5] at hA hval
  obtain ⟨v0, vs0, d0, ds0, p0, q0, hargs, rfl, rfl, h0, r0⟩ := trodAll_cons hA
  obtain ⟨v1, vs1, d1, ds1, p1, q1, rfl, rfl, rfl, h1, r1⟩ := trodAll_cons r0
  obtain ⟨rfl, rfl, rfl⟩ := trodAll_nil r1
  obtain rfl : args = #[v0, v1] := by cases args; simp_all
  obtain ⟨rfl, rfl⟩ := trodVars_none hV
  have lt0 : ∀ x ∈ p0, x.block < W.heap.size := by obtain ⟨m, hm⟩ := h0; exact DataW.trod_lt m _ _ _ hm
  have lt1 : ∀ x ∈ p1, x.block < W.heap.size := by obtain ⟨m, hm⟩ := h1; exact DataW.trod_lt m _ _ _ hm
  obtain ⟨n0, x0, a0⟩ := open_Int (hval 0 24 v0 rfl rfl) h0
  obtain ⟨n1, x1, a1⟩ := open_Int (hval 1 24 v1 rfl rfl) h1
  have hT := of_laid hL
  clear hA0 hval0
  refine (divides_any v0 v1 n0 n1 x0 x1 W a0 a1 hT).mono fun e W' ⟨bel, he⟩ => ?_
  subst he
  exact ⟨_, rfl, _, _, _, [], _, [], hW', trodAll_mk1 (shut_bool Tryd.underlying4 _), (trodAll_cons_mk (Below.trod laidOut (by kernel_rfl) (of_decide_eq_true (by kernel_rfl)) h0 bel lt0) (trodAll_cons_mk (Below.trod laidOut (by kernel_rfl) (of_decide_eq_true (by kernel_rfl)) h1 bel lt1) trodAll_mk0)), rfl, bel.frame _, fun h => by cases h⟩

theorem divides_holds : Rows.NumDividesSaid :=
  OpenClaim.holds_of_wide 5 Tryd.f5 rfl rfl rfl rfl rfl rfl rfl ⟨rfl, rfl, rfl, rfl, rfl⟩ rfl rfl rfl rfl rfl (by kernel_rfl) Tryd.func5 (by kernel_rfl)
    (of_decide_eq_true (by kernel_rfl)) (by unfold Func.isWrapper; first | (rw [if_pos (by decide +kernel)]; kernel_rfl) | (rw [if_neg (by decide +kernel)]; exact ⟨rfl, rfl⟩))
    (fun os started H enc _ => divides_lifted os started H enc)

theorem divides_card : Rows.NumDividesCardSaid :=
  Claim7.holds_tied_plain_at .later [] [.data] true (true, "42a77e95b8ef9269488dac3a8c52bae1cf7a75fc7fd94978f00f86de717d5f2d") true
    divides_holds (fun _ h => by cases h) (by kernel_rfl) (fun _ h => by cases h) numDivides_row_tie rfl ⟨rfl, rfl⟩ (by kernel_rfl) rfl
    (fun f fn hf hfn => by
      obtain rfl : f = 5 := Option.some.inj ((show Tryd.prog.funcNamed "zermelo/zermelolaw01.NumDivides" = some 5 by kernel_rfl).symm.trans hf) |>.symm
      obtain rfl : fn = Tryd.f5 := (Option.some.inj (Tryd.func5.symm.trans hfn)).symm
      exact ⟨by kernel_rfl, fun j t ht => by
        rw [Tryd.params5] at ht
        have hm : t ∈ [24, 24] := by simpa using Array.mem_of_getElem? ht
        have hall : ([24, 24].all fun u => !Tryd.prog.wantsStandIn u) = true := by kernel_rfl
        exact (show Tryd.prog.wantsStandIn t = false by simpa using List.all_eq_true.1 hall t hm)⟩)
    (by kernel_rfl)
#print axioms divides_card
end Go.Proofs.YtlghjfpkfdnfoaaDoor
