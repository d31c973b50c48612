/- zermeloref01.both, fit, Add, Sub, Mul; zermelolaw01.got -/
import Derived.Test.YtlghjfpkfdnfoaaDoorNumMProduct
import Derived.Test.YtlghjfpkfdnfoaaDoorNumMRefPower
import Derived.Test.YtlghjfpkfdnfoaaDoorNumMTells
import Derived.Deep.RegionHeld3
import Derived.Test.YtlghjfpkfdnfoaaDoorNumMFloored
import Derived.Test.YtlghjfpkfdnfoaaDoorNumMRefSumInt
import Derived.Test.YtlghjfpkfdnfoaaDoorNumMRefMade
import Derived.Test.YtlghjfpkfdnfoaaDoorNumMOrder
import Derived.Deep.CutRange
namespace Go.Proofs.YtlghjfpkfdnfoaaDoor
open Go Go.RowKit Go.Shelf

theorem isInt_size {W : World} {n : Bool} {a : Option Addr} {m c : Nat} {i : Int} (h : IsInt W (.agg #[.bool n, .slice a m c]) i) (k : Nat) : m ≤ k ↔ i.natAbs < B32 ^ k := by
  obtain ⟨neg, va, xs, e, hr, hc, hn, rfl⟩ := h
  obtain ⟨a', c', rfl, -, -⟩ := hr.form
  simp only [Value.agg.injEq, Array.mk.injEq, List.cons.injEq, Value.bool.injEq, Value.slice.injEq, and_true] at e
  obtain ⟨rfl, rfl, rfl, rfl⟩ := e
  rw [sgn_natAbs]
  exact canon_length_iff hc k
theorem row3_keep {W : World} {b : Nat} {t : TypeId} {n0 : Bool} {a0 : Option Addr} {m0 c0 : Nat} {k0 : Int} (q : RowAt W b t [.bool n0, .slice a0 m0 c0, .int .i64 k0]) (x y z : Value) :
    ∀ v xs, Reads .u32 W v xs → Reads .u32 (((W.setCell ⟨b, 0, none⟩ x).setCell ⟨b, 1, none⟩ y).setCell ⟨b, 2, none⟩ z) v xs := fun _ _ h =>
  ((h.setOther (c := .bool n0) (q.cell 0) (by simp) x).setOther (c := .slice a0 m0 c0) ((q.set 0 x).cell 1) (by simp) y).setOther (c := .int .i64 k0) (((q.set 0 x).set 1 y).cell 2) (by simp) z

set_option maxHeartbeats 1000000 in
set_option maxRecDepth 100000 in
set_option exponentiation.threshold 400 in
theorem fit_any (v : Value) (i : Int) (w : World) (h : IsInt w v i) :
    Calls Tryd.prog 71 #[v] w fun e w' => Below w.heap.size w w' ∧ ∃ n a m c k, e = .returned (.agg #[.bool n, .slice a m c, .int .i64 k]) ∧ RingRes true true i k w' (.agg #[.bool n, .slice a m c]) := by
  obtain ⟨n, a, m, c, rfl⟩ := h.shape
  have hs := Lib.hid (isInt_size h 300)
  have b1 := (Below.refl w.heap.size w).alloc (Nat.le_refl _) (.cells #[.bool n, .slice a m c] 24)
  by_cases hm : m ≤ 300
  · go_enter Tryd.func71, Tryd.ntmps71
    go_wp2
    have b2 := b1.alloc b1.size (.cells #[.bool n, .slice a m c, .int .i64 0] 43)
    refine bodyPost_ret (v := .agg #[.bool n, .slice a m c, .int .i64 0]) (by simp [results, Tryd.results71, go_sem, loadCellsFrom]) rfl ⟨b2, n, a, m, c, 0, rfl, ?_⟩
    unfold RingRes
    rw [if_pos (by rfl), if_pos (hs.out.1 hm)]
    exact ⟨rfl, h.below b2⟩
  · go_enter Tryd.func71, Tryd.ntmps71
    go_wp2
    have b2 := b1.alloc b1.size (.cells #[.bool false, .slice none 0 0, .int .i64 3] 43)
    refine bodyPost_ret (v := .agg #[.bool false, .slice none 0 0, .int .i64 3]) (by simp [results, Tryd.results71, go_sem, loadCellsFrom]) rfl ⟨b2, false, none, 0, 0, 3, rfl, ?_⟩
    unfold RingRes
    rw [if_pos (by rfl), if_neg (fun h => hm (hs.out.2 h))]
    exact ⟨rfl, rfl⟩

set_option maxHeartbeats 1000000 in
set_option maxRecDepth 100000 in
theorem both_any (a b : Value) (na nb : Bool) (xa xb : List Nat) (w : World) (ha : IntAt w a na xa) (hb : IntAt w b nb xb) :
    Calls Tryd.prog 70 #[a, b] w fun e w' => Below w.heap.size w w' ∧ e = .returned (.bool (formedB na xa && formedB nb xb)) := by
  have KA := fun X (hX : Below w.heap.size w X) => rformed_any a na xa X (ha.below hX)
  have KB := fun X (hX : Below w.heap.size w X) => rformed_any b nb xb X (hb.below hX)
  obtain ⟨sa, rfl, hra, hla⟩ := ha
  obtain ⟨sb, rfl, hrb, hlb⟩ := hb
  obtain ⟨aa, ca, rfl, hca, hma⟩ := hra.form
  obtain ⟨ab, cb, rfl, hcb, hmb⟩ := hrb.form
  have b1 := (Below.refl w.heap.size w).alloc (Nat.le_refl _) (.cells #[.bool na, .slice aa xa.length ca] 24)
  have bw := b1.alloc b1.size (.cells #[.bool nb, .slice ab xb.length cb] 24)
  have q2 := RowAt.new (w.alloc (.cells #[.bool na, .slice aa xa.length ca] 24)) 24 [.bool nb, .slice ab xb.length cb]
  simp only [World.size_alloc] at q2
  clear hra hrb hla hlb hca hma hcb hmb
  generalize formedB na xa = fa at *
  generalize formedB nb xb = fb at *
  generalize xa.length = ma at *
  generalize xb.length = mb at *
  cases fa with
  | false =>
    go_enter Tryd.func70, Tryd.ntmps70
    go_wp2_with (go_at_call 19; refine (KA _ bw).mono ?_; rintro e w1 ⟨hb1, rfl⟩)
    go_ret
    exact ⟨bw.trans (hb1.mono bw.size), rfl⟩
  | true =>
    go_enter Tryd.func70, Tryd.ntmps70
    go_wp2_with (first
      | (go_at_call 19; with_reducible refine (KA _ bw).mono ?_; rintro e w1 ⟨hb1, rfl⟩; have q3 := q2.below hb1; have s1 := q3.cell 0; have s2 := q3.cell 1; simp only [List.getElem?_cons_zero, List.getElem?_cons_succ] at s1 s2)
      | (go_at_call 19; with_reducible refine (KB _ (bw.trans (hb1.mono bw.size))).mono ?_; rintro e w2 ⟨hb2, rfl⟩))
    go_ret
    have b3 := bw.trans (hb1.mono bw.size)
    exact ⟨b3.trans (hb2.mono b3.size), rfl⟩

set_option maxHeartbeats 2000000 in
set_option maxRecDepth 100000 in
set_option exponentiation.threshold 200000 in
theorem radd_any (a b : Value) (na nb : Bool) (xa xb : List Nat) (w : World) (ha : IntAt w a na xa) (hb : IntAt w b nb xb) :
    Calls Tryd.prog 32 #[a, b] w fun e w' => Below w.heap.size w w' ∧ ∃ n p m c k, e = .returned (.agg #[.bool n, .slice p m c, .int .i64 k]) ∧ RingRes (formedB na xa) (formedB nb xb) (sgn na (val xa) + sgn nb (val xb)) k w' (.agg #[.bool n, .slice p m c]) := by
  have KB := fun X (hX : Below w.heap.size w X) => both_any a b na nb xa xb X (ha.below hX) (hb.below hX)
  have KS := fun X (hX : Below w.heap.size w X) (fa : formedB na xa = true) (fb : formedB nb xb = true) => rsum_int a b _ _ 300 X ((ha.below hX).isInt fa) ((hb.below hX).isInt fb) (by omega) (ha.natAbs_lt fa) (hb.natAbs_lt fb)
  obtain ⟨sa, rfl, hra, hla⟩ := ha
  obtain ⟨sb, rfl, hrb, hlb⟩ := hb
  obtain ⟨aa, ca, rfl, hca, hma⟩ := hra.form
  obtain ⟨ab, cb, rfl, hcb, hmb⟩ := hrb.form
  have b1 := (Below.refl w.heap.size w).alloc (Nat.le_refl _) (.cells #[.bool na, .slice aa xa.length ca] 24)
  have b2 := b1.alloc b1.size (.cells #[.bool nb, .slice ab xb.length cb] 24)
  have bw := b2.alloc b2.size (.cells #[.bool false, .slice none 0 0, .int .i64 0] 43)
  have q1 := ((RowAt.new w 24 [.bool na, .slice aa xa.length ca]).alloc (.cells #[.bool nb, .slice ab xb.length cb] 24)).alloc (.cells #[.bool false, .slice none 0 0, .int .i64 0] 43)
  have q2 := (RowAt.new (w.alloc (.cells #[.bool na, .slice aa xa.length ca] 24)) 24 [.bool nb, .slice ab xb.length cb]).alloc (.cells #[.bool false, .slice none 0 0, .int .i64 0] 43)
  have q3 := RowAt.new ((w.alloc (.cells #[.bool na, .slice aa xa.length ca] 24)).alloc (.cells #[.bool nb, .slice ab xb.length cb] 24)) 43 [.bool false, .slice none 0 0, .int .i64 0]
  simp only [World.size_alloc] at q2 q3
  clear hra hrb hla hlb hca hma hcb hmb b1 b2
  generalize sgn na (val xa) = i at *
  generalize sgn nb (val xb) = j at *
  generalize formedB na xa = fa at *
  generalize formedB nb xb = fb at *
  generalize xa.length = ma at *
  generalize xb.length = mb at *
  cases hf : (fa && fb) with
  | false =>
    have HF := Lib.hid hf
    rw [hf] at KB
    clear hf KS
    go_enter Tryd.func32, Tryd.ntmps32
    go_wp2_with (go_at_call 70; refine (KB _ bw).mono ?_; rintro e w1 ⟨hb1, rfl⟩; have q4 := q3.below hb1; have s1 := q4.cell 0; have s2 := q4.cell 1; have s3 := q4.cell 2; have s4 := q4.frozen 0; have s5 := q4.frozen 1; have s6 := q4.frozen 2; simp only [List.getElem?_cons_zero, List.getElem?_cons_succ] at s1 s2 s3)
    have q5 := ((q4.set 0 (.bool false)).set 1 (.slice none 0 0)).set 2 (.int .i64 1)
    have u1 := q5.cell 0
    have u2 := q5.cell 1
    have u3 := q5.cell 2
    simp only [List.set_cons_zero, List.set_cons_succ, List.getElem?_cons_zero, List.getElem?_cons_succ] at u1 u2 u3
    have b9 := bw.trans (hb1.mono bw.size)
    refine bodyPost_ret (v := .agg #[.bool false, .slice none 0 0, .int .i64 1]) (by simp [results, Tryd.results32, go_sem, loadCellsFrom, u1, u2, u3]) rfl ⟨((b9.setCell (by simp; omega) _).setCell (by simp; omega) _).setCell (by simp; omega) _, false, none, 0, 0, 1, rfl, ?_⟩
    unfold RingRes
    rw [HF.out, if_neg (by simp)]
    exact ⟨rfl, rfl⟩
  | true =>
    rw [hf] at KB
    obtain ⟨rfl, rfl⟩ := Bool.and_eq_true_iff.1 hf
    clear hf
    have KT := fun X hX => KS X hX rfl rfl
    clear KS
    go_enter Tryd.func32, Tryd.ntmps32
    go_wp2_with (first
      | (go_at_call 70; refine (KB _ bw).mono ?_; rintro e w1 ⟨hb1, rfl⟩; have bw1 := bw.trans (hb1.mono bw.size); have d1 := (q1.below hb1).cell 0; have d2 := (q1.below hb1).cell 1; have d3 := (q2.below hb1).cell 0; have d4 := (q2.below hb1).cell 1; simp only [List.getElem?_cons_zero, List.getElem?_cons_succ] at d1 d2 d3 d4)
      | (go_at_call 44; with_reducible refine (KT _ bw1).mono ?_; rintro e w2 ⟨hb2, v2, rfl, h2⟩)
      | (go_at_call 71; refine (fit_any _ _ _ h2).mono ?_; rintro e w3 ⟨hb3, n5, a5, m5, c5, k5, rfl, hr5⟩; have g3 := (hb1.trans (hb2.mono hb1.size)).trans (hb3.mono (hb1.trans (hb2.mono hb1.size)).size); have q4 := q3.below g3; have s1 := q4.cell 0; have s2 := q4.cell 1; have s3 := q4.cell 2; have s4 := q4.frozen 0; have s5 := q4.frozen 1; have s6 := q4.frozen 2; simp only [List.getElem?_cons_zero, List.getElem?_cons_succ] at s1 s2 s3))
    have b9 := bw.trans (g3.mono bw.size)
    have q5 := ((q4.set 0 (.bool n5)).set 1 (.slice a5 m5 c5)).set 2 (.int .i64 k5)
    have u1 := q5.cell 0
    have u2 := q5.cell 1
    have u3 := q5.cell 2
    simp only [List.set_cons_zero, List.set_cons_succ, List.getElem?_cons_zero, List.getElem?_cons_succ] at u1 u2 u3
    exact bodyPost_ret (v := .agg #[.bool n5, .slice a5 m5 c5, .int .i64 k5]) (by simp [results, Tryd.results32, go_sem, loadCellsFrom, u1, u2, u3]) rfl ⟨((b9.setCell (by simp; omega) _).setCell (by simp; omega) _).setCell (by simp; omega) _, n5, a5, m5, c5, k5, rfl, hr5.keep (row3_keep q4 _ _ _)⟩

set_option maxHeartbeats 2000000 in
set_option maxRecDepth 100000 in
set_option exponentiation.threshold 200000 in
theorem rmul_any (a b : Value) (na nb : Bool) (xa xb : List Nat) (w : World) (ha : IntAt w a na xa) (hb : IntAt w b nb xb) :
    Calls Tryd.prog 34 #[a, b] w fun e w' => Below w.heap.size w w' ∧ ∃ n p m c k, e = .returned (.agg #[.bool n, .slice p m c, .int .i64 k]) ∧ RingRes (formedB na xa) (formedB nb xb) (sgn na (val xa) * sgn nb (val xb)) k w' (.agg #[.bool n, .slice p m c]) := by
  have KB := fun X (hX : Below w.heap.size w X) => both_any a b na nb xa xb X (ha.below hX) (hb.below hX)
  have KS := fun X (hX : Below w.heap.size w X) (fa : formedB na xa = true) (fb : formedB nb xb = true) => rtimes_int a b _ _ X ((ha.below hX).isInt fa) ((hb.below hX).isInt fb) (abs_lt_up (ha.natAbs_lt fa) (by decide)) (abs_lt_up (hb.natAbs_lt fb) (by decide))
  obtain ⟨sa, rfl, hra, hla⟩ := ha
  obtain ⟨sb, rfl, hrb, hlb⟩ := hb
  obtain ⟨aa, ca, rfl, hca, hma⟩ := hra.form
  obtain ⟨ab, cb, rfl, hcb, hmb⟩ := hrb.form
  have b1 := (Below.refl w.heap.size w).alloc (Nat.le_refl _) (.cells #[.bool na, .slice aa xa.length ca] 24)
  have b2 := b1.alloc b1.size (.cells #[.bool nb, .slice ab xb.length cb] 24)
  have bw := b2.alloc b2.size (.cells #[.bool false, .slice none 0 0, .int .i64 0] 43)
  have q1 := ((RowAt.new w 24 [.bool na, .slice aa xa.length ca]).alloc (.cells #[.bool nb, .slice ab xb.length cb] 24)).alloc (.cells #[.bool false, .slice none 0 0, .int .i64 0] 43)
  have q2 := (RowAt.new (w.alloc (.cells #[.bool na, .slice aa xa.length ca] 24)) 24 [.bool nb, .slice ab xb.length cb]).alloc (.cells #[.bool false, .slice none 0 0, .int .i64 0] 43)
  have q3 := RowAt.new ((w.alloc (.cells #[.bool na, .slice aa xa.length ca] 24)).alloc (.cells #[.bool nb, .slice ab xb.length cb] 24)) 43 [.bool false, .slice none 0 0, .int .i64 0]
  simp only [World.size_alloc] at q2 q3
  clear hra hrb hla hlb hca hma hcb hmb b1 b2
  generalize sgn na (val xa) = i at *
  generalize sgn nb (val xb) = j at *
  generalize formedB na xa = fa at *
  generalize formedB nb xb = fb at *
  generalize xa.length = ma at *
  generalize xb.length = mb at *
  cases hf : (fa && fb) with
  | false =>
    have HF := Lib.hid hf
    rw [hf] at KB
    clear hf KS
    go_enter Tryd.func34, Tryd.ntmps34
    go_wp2_with (go_at_call 70; refine (KB _ bw).mono ?_; rintro e w1 ⟨hb1, rfl⟩; have q4 := q3.below hb1; have s1 := q4.cell 0; have s2 := q4.cell 1; have s3 := q4.cell 2; have s4 := q4.frozen 0; have s5 := q4.frozen 1; have s6 := q4.frozen 2; simp only [List.getElem?_cons_zero, List.getElem?_cons_succ] at s1 s2 s3)
    have q5 := ((q4.set 0 (.bool false)).set 1 (.slice none 0 0)).set 2 (.int .i64 1)
    have u1 := q5.cell 0
    have u2 := q5.cell 1
    have u3 := q5.cell 2
    simp only [List.set_cons_zero, List.set_cons_succ, List.getElem?_cons_zero, List.getElem?_cons_succ] at u1 u2 u3
    have b9 := bw.trans (hb1.mono bw.size)
    refine bodyPost_ret (v := .agg #[.bool false, .slice none 0 0, .int .i64 1]) (by simp [results, Tryd.results34, go_sem, loadCellsFrom, u1, u2, u3]) rfl ⟨((b9.setCell (by simp; omega) _).setCell (by simp; omega) _).setCell (by simp; omega) _, false, none, 0, 0, 1, rfl, ?_⟩
    unfold RingRes
    rw [HF.out, if_neg (by simp)]
    exact ⟨rfl, rfl⟩
  | true =>
    rw [hf] at KB
    obtain ⟨rfl, rfl⟩ := Bool.and_eq_true_iff.1 hf
    clear hf
    have KT := fun X hX => KS X hX rfl rfl
    clear KS
    go_enter Tryd.func34, Tryd.ntmps34
    go_wp2_with (first
      | (go_at_call 70; refine (KB _ bw).mono ?_; rintro e w1 ⟨hb1, rfl⟩; have bw1 := bw.trans (hb1.mono bw.size); have d1 := (q1.below hb1).cell 0; have d2 := (q1.below hb1).cell 1; have d3 := (q2.below hb1).cell 0; have d4 := (q2.below hb1).cell 1; simp only [List.getElem?_cons_zero, List.getElem?_cons_succ] at d1 d2 d3 d4)
      | (go_at_call 45; with_reducible refine (KT _ bw1).mono ?_; rintro e w2 ⟨hb2, v2, rfl, h2⟩)
      | (go_at_call 71; refine (fit_any _ _ _ h2).mono ?_; rintro e w3 ⟨hb3, n5, a5, m5, c5, k5, rfl, hr5⟩; have g3 := (hb1.trans (hb2.mono hb1.size)).trans (hb3.mono (hb1.trans (hb2.mono hb1.size)).size); have q4 := q3.below g3; have s1 := q4.cell 0; have s2 := q4.cell 1; have s3 := q4.cell 2; have s4 := q4.frozen 0; have s5 := q4.frozen 1; have s6 := q4.frozen 2; simp only [List.getElem?_cons_zero, List.getElem?_cons_succ] at s1 s2 s3))
    have b9 := bw.trans (g3.mono bw.size)
    have q5 := ((q4.set 0 (.bool n5)).set 1 (.slice a5 m5 c5)).set 2 (.int .i64 k5)
    have u1 := q5.cell 0
    have u2 := q5.cell 1
    have u3 := q5.cell 2
    simp only [List.set_cons_zero, List.set_cons_succ, List.getElem?_cons_zero, List.getElem?_cons_succ] at u1 u2 u3
    exact bodyPost_ret (v := .agg #[.bool n5, .slice a5 m5 c5, .int .i64 k5]) (by simp [results, Tryd.results34, go_sem, loadCellsFrom, u1, u2, u3]) rfl ⟨((b9.setCell (by simp; omega) _).setCell (by simp; omega) _).setCell (by simp; omega) _, n5, a5, m5, c5, k5, rfl, hr5.keep (row3_keep q4 _ _ _)⟩

/-- the variables of Sub of the specification -/
structure SubL (w : World) (na : Bool) (aa : Option Addr) (ma ca : Nat) (nb : Bool) (ab : Option Addr) (mb cb : Nat) (X : World) : Prop where
  r1 : RowAt X w.heap.size 24 [.bool na, .slice aa ma ca]
  r2 : RowAt X (w.heap.size + 1) 24 [.bool nb, .slice ab mb cb]
  r3 : ∃ n3 a3 m3 c3 k3, RowAt X (w.heap.size + 1 + 1) 43 [.bool n3, .slice a3 m3 c3, .int .i64 k3]
  below : Below w.heap.size w X
section
variable {w X X' : World} {na nb : Bool} {aa ab : Option Addr} {ma ca mb cb : Nat}
theorem SubL.step (h : SubL w na aa ma ca nb ab mb cb X) (hb : Below X.heap.size X X') : SubL w na aa ma ca nb ab mb cb X' := by
  obtain ⟨n3, a3, m3, c3, k3, r⟩ := h.r3
  exact ⟨h.r1.below hb, h.r2.below hb, ⟨n3, a3, m3, c3, k3, r.below hb⟩, h.below.trans (hb.mono h.below.size)⟩
theorem SubL.drew (h : SubL w na aa ma ca nb ab mb cb X) : SubL w na aa ma ca nb ab mb cb X.drew := ⟨h.r1, h.r2, h.r3, h.below.drew⟩
theorem SubL.set (h : SubL w na aa ma ca nb ab mb cb X) (n : Bool) (a : Option Addr) (m c : Nat) (k : Int) : SubL w na aa ma ca nb ab mb cb (((X.setCell ⟨w.heap.size + 1 + 1, 0, none⟩ (.bool n)).setCell ⟨w.heap.size + 1 + 1, 1, none⟩ (.slice a m c)).setCell ⟨w.heap.size + 1 + 1, 2, none⟩ (.int .i64 k)) := by
  obtain ⟨n3, a3, m3, c3, k3, r⟩ := h.r3
  exact ⟨((h.r1.other (show w.heap.size ≠ w.heap.size + 1 + 1 by omega) _).other (show w.heap.size ≠ w.heap.size + 1 + 1 by omega) _).other (show w.heap.size ≠ w.heap.size + 1 + 1 by omega) _,
    ((h.r2.other (show w.heap.size + 1 ≠ w.heap.size + 1 + 1 by omega) _).other (show w.heap.size + 1 ≠ w.heap.size + 1 + 1 by omega) _).other (show w.heap.size + 1 ≠ w.heap.size + 1 + 1 by omega) _,
    ⟨n, a, m, c, k, ((r.set 0 (.bool n)).set 1 (.slice a m c)).set 2 (.int .i64 k)⟩,
    ((h.below.setCell (show w.heap.size ≤ w.heap.size + 1 + 1 by omega) _).setCell (show w.heap.size ≤ w.heap.size + 1 + 1 by omega) _).setCell (show w.heap.size ≤ w.heap.size + 1 + 1 by omega) _⟩
theorem subL_cells (h : SubL w na aa ma ca nb ab mb cb X) : X.cell? ⟨w.heap.size, 0, none⟩ = some (.bool na) ∧ X.cell? ⟨w.heap.size, 1, none⟩ = some (.slice aa ma ca) ∧ X.cell? ⟨w.heap.size + 1, 0, none⟩ = some (.bool nb) ∧ X.cell? ⟨w.heap.size + 1, 1, none⟩ = some (.slice ab mb cb) ∧ SubL w na aa ma ca nb ab mb cb X := ⟨h.r1.cell 0, h.r1.cell 1, h.r2.cell 0, h.r2.cell 1, h⟩
end

set_option maxHeartbeats 2000000 in
set_option maxRecDepth 100000 in
set_option exponentiation.threshold 200000 in
theorem rsub_any (a b : Value) (na nb : Bool) (xa xb : List Nat) (w : World) (ha : IntAt w a na xa) (hb : IntAt w b nb xb) :
    Calls Tryd.prog 33 #[a, b] w fun e w' => Below w.heap.size w w' ∧ ∃ n p m c k, e = .returned (.agg #[.bool n, .slice p m c, .int .i64 k]) ∧ RingRes (formedB na xa) (formedB nb xb) (sgn na (val xa) - sgn nb (val xb)) k w' (.agg #[.bool n, .slice p m c]) := by
  have KB := fun X (hX : Below w.heap.size w X) => both_any a b na nb xa xb X (ha.below hX) (hb.below hX)
  have KM := fun X (hX : Below w.heap.size w X) (fb : formedB nb xb = true) => rminus_int b _ X ((hb.below hX).isInt fb)
  have KS := fun X v (hX : Below w.heap.size w X) (fa : formedB na xa = true) (fb : formedB nb xb = true) (hv : IsInt X v (-sgn nb (val xb))) => rsum_int a v _ _ 300 X ((ha.below hX).isInt fa) hv (by omega) (ha.natAbs_lt fa) (by rw [Int.natAbs_neg]; exact hb.natAbs_lt fb)
  obtain ⟨sa, rfl, hra, hla⟩ := ha
  obtain ⟨sb, rfl, hrb, hlb⟩ := hb
  obtain ⟨aa, ca, rfl, hca, hma⟩ := hra.form
  obtain ⟨ab, cb, rfl, hcb, hmb⟩ := hrb.form
  have b1 := (Below.refl w.heap.size w).alloc (Nat.le_refl _) (.cells #[.bool na, .slice aa xa.length ca] 24)
  have b2 := b1.alloc b1.size (.cells #[.bool nb, .slice ab xb.length cb] 24)
  have bw := b2.alloc b2.size (.cells #[.bool false, .slice none 0 0, .int .i64 0] 43)
  have q1 := ((RowAt.new w 24 [.bool na, .slice aa xa.length ca]).alloc (.cells #[.bool nb, .slice ab xb.length cb] 24)).alloc (.cells #[.bool false, .slice none 0 0, .int .i64 0] 43)
  have q2 := (RowAt.new (w.alloc (.cells #[.bool na, .slice aa xa.length ca] 24)) 24 [.bool nb, .slice ab xb.length cb]).alloc (.cells #[.bool false, .slice none 0 0, .int .i64 0] 43)
  have q3 := RowAt.new ((w.alloc (.cells #[.bool na, .slice aa xa.length ca] 24)).alloc (.cells #[.bool nb, .slice ab xb.length cb] 24)) 43 [.bool false, .slice none 0 0, .int .i64 0]
  simp only [World.size_alloc] at q2 q3
  clear hra hrb hla hlb hca hma hcb hmb b1 b2
  generalize sgn na (val xa) = i at *
  generalize sgn nb (val xb) = j at *
  generalize formedB na xa = fa at *
  generalize formedB nb xb = fb at *
  generalize xa.length = ma at *
  generalize xb.length = mb at *
  cases hf : (fa && fb) with
  | false =>
    have HF := Lib.hid hf
    rw [hf] at KB
    clear hf KM KS
    go_enter Tryd.func33, Tryd.ntmps33
    go_wp2_with (go_at_call 70; refine (KB _ bw).mono ?_; rintro e w1 ⟨hb1, rfl⟩; have q4 := q3.below hb1; have s1 := q4.cell 0; have s2 := q4.cell 1; have s3 := q4.cell 2; have s4 := q4.frozen 0; have s5 := q4.frozen 1; have s6 := q4.frozen 2; simp only [List.getElem?_cons_zero, List.getElem?_cons_succ] at s1 s2 s3)
    have q5 := ((q4.set 0 (.bool false)).set 1 (.slice none 0 0)).set 2 (.int .i64 1)
    have u1 := q5.cell 0
    have u2 := q5.cell 1
    have u3 := q5.cell 2
    simp only [List.set_cons_zero, List.set_cons_succ, List.getElem?_cons_zero, List.getElem?_cons_succ] at u1 u2 u3
    have b9 := bw.trans (hb1.mono bw.size)
    refine bodyPost_ret (v := .agg #[.bool false, .slice none 0 0, .int .i64 1]) (by simp [results, Tryd.results33, go_sem, loadCellsFrom, u1, u2, u3]) rfl ⟨((b9.setCell (by simp; omega) _).setCell (by simp; omega) _).setCell (by simp; omega) _, false, none, 0, 0, 1, rfl, ?_⟩
    unfold RingRes
    rw [HF.out, if_neg (by simp)]
    exact ⟨rfl, rfl⟩
  | true =>
    rw [hf] at KB
    obtain ⟨rfl, rfl⟩ := Bool.and_eq_true_iff.1 hf
    clear hf
    replace KM := fun X hX => KM X hX rfl
    replace KS := fun X v hX => KS X v hX rfl rfl
    go_enter Tryd.func33, Tryd.ntmps33
    go_wp2_with (go_at_call 70; refine (KB _ bw).mono ?_; rintro e w1 ⟨hb1, rfl⟩; have bw1 := bw.trans (hb1.mono bw.size))
    have Q1 := q1.below hb1
    have Q2 := q2.below hb1
    have Q3 := q3.below hb1
    have hs1 := hb1.size
    simp at hs1
    clear q1 q2 q3 KB hb1
    have hL : SubL w na aa ma ca nb ab mb cb w1 := ⟨Q1, Q2, ⟨_, _, _, _, _, Q3⟩, bw1⟩
    have hD := Lib.hid (subL_cells (hL.drew))
    obtain ⟨d1, d2, d3, d4, -⟩ := subL_cells hL
    go_region_held3 (fun X => X.cell? ⟨w.heap.size, 0, none⟩ = some (.bool na) ∧ X.cell? ⟨w.heap.size, 1, none⟩ = some (.slice aa ma ca) ∧ X.cell? ⟨w.heap.size + 1, 0, none⟩ = some (.bool nb) ∧ X.cell? ⟨w.heap.size + 1, 1, none⟩ = some (.slice ab mb cb) ∧ SubL w na aa ma ca nb ab mb cb X)
      (first | exact hD.out | (go_split_ands; exact subL_cells (SubL.step (by assumption) hbc)) | (go_split_ands; exact subL_cells (SubL.set (by assumption) _ _ _ _ _)))
      (first
        | (go_at_call 52; go_split_ands; with_reducible refine (KM _ (SubL.below (by assumption))).mono ?_; rintro e wk ⟨hbc, v2, rfl, h2⟩)
        | (go_at_call 44; go_split_ands; with_reducible refine (KS _ _ (SubL.below (by assumption)) h2).mono ?_; rintro e wk ⟨hbc, v3, rfl, h3⟩)
        | (go_at_call 71; go_split_ands; with_reducible refine (fit_any _ _ _ h3).mono ?_; rintro e wk ⟨hbc, n5, a5, m5, c5, k5, rfl, hr5⟩; have hL5 := SubL.step (by assumption) hbc; obtain ⟨n4, a4, m4, c4, k4, q4⟩ := hL5.r3; have b9 := hL5.below; have s1 := q4.cell 0; have s2 := q4.cell 1; have s3 := q4.cell 2; have s4 := q4.frozen 0; have s5 := q4.frozen 1; have s6 := q4.frozen 2; simp only [List.getElem?_cons_zero, List.getElem?_cons_succ] at s1 s2 s3))
    go_wp2
    rw [← Int.sub_eq_add_neg] at hr5
    have q5 := ((q4.set 0 (.bool n5)).set 1 (.slice a5 m5 c5)).set 2 (.int .i64 k5)
    have u1 := q5.cell 0
    have u2 := q5.cell 1
    have u3 := q5.cell 2
    simp only [List.set_cons_zero, List.set_cons_succ, List.getElem?_cons_zero, List.getElem?_cons_succ] at u1 u2 u3
    exact bodyPost_ret (v := .agg #[.bool n5, .slice a5 m5 c5, .int .i64 k5]) (by simp [results, Tryd.results33, go_sem, loadCellsFrom, u1, u2, u3]) rfl ⟨((b9.setCell (by simp; omega) _).setCell (by simp; omega) _).setCell (by simp; omega) _, n5, a5, m5, c5, k5, rfl, hr5.keep (row3_keep q4 _ _ _)⟩

set_option maxHeartbeats 1000000 in
set_option maxRecDepth 100000 in
set_option exponentiation.threshold 400 in
/-- an answer and the specification's, of the same result -/
theorem got_ring (n : Bool) (a : Option Addr) (m c : Nat) (k : Int) (n' : Bool) (a' : Option Addr) (m' c' : Nat) (k' : Int) (fa fb : Bool) (r : Int) (w w0 : World) (hk : ∀ v xs, Reads .u32 w0 v xs → Reads .u32 w v xs) (h : RingRes fa fb r k w0 (.agg #[.bool n, .slice a m c])) (h' : RingRes fa fb r k' w (.agg #[.bool n', .slice a' m' c'])) :
    Calls Tryd.prog 31 #[.agg #[.bool n, .slice a m c], .int .i64 k, .agg #[.bool n', .slice a' m' c', .int .i64 k']] w fun e w' => Below w.heap.size w w' ∧ e = .returned (.bool true) := by
  replace h := h.keep hk
  have hz : ∀ v, v = zeroInt → IsInt w v 0 := by
    rintro v rfl
    exact ⟨false, _, [], rfl, Reads.nil _ _, canon_nil, rfl, by simp [sgn, val]⟩
  obtain ⟨i, rfl, hi, hi'⟩ : ∃ i, k = k' ∧ IsInt w (.agg #[.bool n, .slice a m c]) i ∧ IsInt w (.agg #[.bool n', .slice a' m' c']) i := by
    unfold RingRes at h h'
    by_cases c1 : (fa && fb) = true
    · rw [if_pos c1] at h h'
      by_cases c2 : r.natAbs < B32 ^ 300
      · rw [if_pos c2] at h h'
        exact ⟨r, h.1.trans h'.1.symm, h.2, h'.2⟩
      · rw [if_neg c2] at h h'
        exact ⟨0, h.1.trans h'.1.symm, hz _ h.2, hz _ h'.2⟩
    · rw [if_neg c1] at h h'
      exact ⟨0, h.1.trans h'.1.symm, hz _ h.2, hz _ h'.2⟩
  have KS := fun X (hX : Below w.heap.size w X) => rsame_eq _ _ i X (hi.below hX) (hi'.below hX)
  clear h h' hz
  have b1 := (Below.refl w.heap.size w).alloc (Nat.le_refl _) (.cells #[.bool n, .slice a m c] 24)
  have bw := b1.alloc b1.size (.cells #[.bool n', .slice a' m' c', .int .i64 k] 43)
  go_enter Tryd.func31, Tryd.ntmps31
  go_wp2_with (go_at_call 25; refine (KS _ bw).mono ?_; rintro e w1 ⟨hb1, rfl⟩)
  go_ret
  exact ⟨bw.trans (hb1.mono bw.size), rfl⟩

end Go.Proofs.YtlghjfpkfdnfoaaDoor

/- zermeloref01.short -/
namespace Go.Proofs.YtlghjfpkfdnfoaaDoor
open Go Go.RowKit Go.Shelf

/-- a quotient and a rest, as the specification returns them -/
def PartsOut (W : World) (e : Ending) (q r : Int) : Prop := ∃ n1 a1 m1 c1 n2 a2 m2 c2, e = .returned (.agg #[.bool n1, .slice a1 m1 c1, .bool n2, .slice a2 m2 c2]) ∧ IsInt W (.agg #[.bool n1, .slice a1 m1 c1]) q ∧ IsInt W (.agg #[.bool n2, .slice a2 m2 c2]) r
/-- what a walk of short keeps -/
structure RshS (w : World) (q : List Nat) (W : World) : Prop where
  r : RowAt W w.heap.size 48 [.bool false, .slice none 0 0, .bool false, .slice none 0 0]
  o : RowAt W (w.heap.size + 1) 72 (enc32 q)
  chg : Below w.heap.size w W
theorem RshS.set {w : World} {q : List Nat} {W : World} (h : RshS w q W) (i z : Nat) : RshS w (q.set i z) (W.setCell ⟨w.heap.size + 1, i, none⟩ (.int .u32 (z : Int))) :=
  ⟨h.r.other (show w.heap.size ≠ w.heap.size + 1 by omega) _, by rw [enc32_set]; exact h.o.set i _, h.chg.setCell (show w.heap.size ≤ w.heap.size + 1 by omega) _⟩
theorem row4_keep {W : World} {b : Nat} {t : TypeId} {n0 n1 : Bool} {a0 a1 : Option Addr} {m0 c0 m1 c1 : Nat} (q : RowAt W b t [.bool n0, .slice a0 m0 c0, .bool n1, .slice a1 m1 c1]) (x y z u : Value) :
    ∀ v xs, Reads .u32 W v xs → Reads .u32 ((((W.setCell ⟨b, 0, none⟩ x).setCell ⟨b, 1, none⟩ y).setCell ⟨b, 2, none⟩ z).setCell ⟨b, 3, none⟩ u) v xs := fun _ _ h =>
  (((h.setOther (c := .bool n0) (q.cell 0) (by simp) x).setOther (c := .slice a0 m0 c0) ((q.set 0 x).cell 1) (by simp) y).setOther (c := .bool n1) (((q.set 0 x).set 1 y).cell 2) (by simp) z).setOther (c := .slice a1 m1 c1) ((((q.set 0 x).set 1 y).set 2 z).cell 3) (by simp) u

set_option maxHeartbeats 2000000 in
set_option maxRecDepth 100000 in
theorem rshort_any (va : Value) (xa : List Nat) (d : Nat) (w : World) (ha : Reads .u32 w va xa) (hla : Limbs xa) (la : xa.length ≤ 100000) (hd0 : 0 < d) (hd : d < B32) :
    Calls Tryd.prog 89 #[va, .int .u32 (d : Int)] w fun e w' => Below w.heap.size w w' ∧ PartsOut w' e ((val xa / d : Nat) : Int) ((val xa % d : Nat) : Int) := by
  obtain ⟨aa, ca, rfl, hca, hma⟩ := ha.form
  have hmk : ∀ W, (Instr.makeSlice 22 (.int .i64 (xa.length : Int)) (.int .i64 (xa.length : Int))).run Tryd.prog W = .ok (.slice (some ⟨W.heap.size, 0, none⟩) xa.length xa.length) (W.alloc (.cells (zeros xa.length) 72)) := fun W => by
    simpa using make_limbs (xa.length : Int) (xa.length : Int) (by omega) (by omega) (by omega) W
  have hstart : RshS w (dlFold xa.length d (backPairs xa 0)).1 ((w.alloc (.cells #[.bool false, .slice none 0 0, .bool false, .slice none 0 0] 48)).alloc (.cells (zeros xa.length) 72)) := by
    have b1 := (Below.refl w.heap.size w).alloc (Nat.le_refl _) (.cells #[.bool false, .slice none 0 0, .bool false, .slice none 0 0] 48)
    have b2 := b1.alloc b1.size (.cells (zeros xa.length) 72)
    refine ⟨(RowAt.new w 48 [.bool false, .slice none 0 0, .bool false, .slice none 0 0]).alloc _, ?_, b2⟩
    have e : (enc32 (dlFold xa.length d (backPairs xa 0)).1).toArray = zeros xa.length := by simp [dlFold, backPairs, enc32, zeros]
    have := RowAt.new (w.alloc (.cells #[.bool false, .slice none 0 0, .bool false, .slice none 0 0] 48)) 72 (enc32 (dlFold xa.length d (backPairs xa 0)).1)
    rw [e] at this
    exact RowAt.at this (by simp)
  have HS := Lib.hid hstart
  clear hstart
  have hdz : ¬ (d : Int) = 0 := by omega
  have hdw : IntKind.u64.wrap (d : Int) = (d : Int) := by rw [IntKind.wrap_u64]; unfold B32 at hd; omega
  go_enter Tryd.func89, Tryd.ntmps89
  go_wp2_with fail
  generalize hW0 : (w.alloc (.cells #[.bool false, .slice none 0 0, .bool false, .slice none 0 0] 48)).alloc (.cells (zeros xa.length) 72) = W0 at *
  clear hW0 hmk
  go_loopw [6, 7] (fun s6 s7 W => ∃ j : Nat, j ≤ xa.length ∧ s7 = .int .i64 ((xa.length : Int) - 1 - j) ∧ s6 = .int .u64 ((dlFold xa.length d (backPairs xa j)).2 : Int) ∧ RshS w (dlFold xa.length d (backPairs xa j)).1 W) (fun _ s7 _ => (intOf s7 + 1).toNat)
  case atStart => exact ⟨0, Nat.zero_le _, by simp, by simp [dlFold, backPairs], HS.out⟩
  case round =>
    obtain ⟨j, hj, rfl, rfl, hS⟩ := hrel
    have hps : ∀ p ∈ backPairs xa j, p.2 < B32 := fun p hp => by
      obtain ⟨q, _, rfl⟩ := List.mem_map.1 hp
      exact limb_getD hla _
    obtain ⟨hq1, hr1⟩ := dlFold_limbs xa.length hd0 (backPairs xa j) hps
    have hlen := dlFold_length xa.length d (backPairs xa j)
    by_cases hlt : j < xa.length
    · obtain ⟨k, hk⟩ : ∃ k, xa.length = j + 1 + k := ⟨xa.length - (j + 1), by omega⟩
      have hki : (xa.length : Int) - 1 - (j : Int) = (k : Int) := by omega
      have hnext : dlFold xa.length d (backPairs xa (j + 1)) = dlStep d (dlFold xa.length d (backPairs xa j)) (k, xa[k]?.getD 0) := by
        rw [backPairs_succ, dlFold_snoc, show xa.length - 1 - j = k by omega]
      rw [hki]
      generalize dlFold xa.length d (backPairs xa j) = st at *
      obtain ⟨q, r⟩ := st
      dsimp only at *
      simp only [dlStep] at hnext
      have hkl : k < xa.length := by omega
      have hA := ha.below hS.chg
      have ia := fun W => hA.index und_limbs size_limb (P := Tryd.prog) k .i64 W hkl
      have ca1 := hA.cell k hkl
      have hxb := limb_getD hla k
      obtain ⟨x, hx⟩ : ∃ x, xa[k]?.getD 0 = x := ⟨_, rfl⟩
      rw [hx] at ca1 hxb hnext
      have hdb := dl_bound hr1 hxb
      have hcell : ∃ z : Value, wr.cell? ⟨w.heap.size + 1, k, none⟩ = some z := by
        rw [hS.o.cell]
        exact ⟨_, enc32_at (by omega)⟩
      obtain ⟨z, hcell⟩ := hcell
      have hfz := hS.o.frozen k
      have ir := fun W => index_win (w.heap.size + 1) 0 xa.length xa.length k (by omega) .i64 W
      simp only [Nat.zero_add] at ir
      obtain ⟨P, hP⟩ : ∃ P, r * B32 = P := ⟨_, rfl⟩
      obtain ⟨T, hT⟩ : ∃ T, P + x = T := ⟨_, rfl⟩
      rw [hP, hT] at hnext hdb
      obtain ⟨Q, hQ⟩ : ∃ Q, T / d = Q := ⟨_, rfl⟩
      obtain ⟨R, hR⟩ : ∃ R, T % d = R := ⟨_, rfl⟩
      rw [hQ, hR] at hnext
      rw [hQ] at hdb
      have hRd : R < d := by rw [← hR]; exact Nat.mod_lt _ hd0
      have hTq : (T : Int) / (d : Int) = (Q : Int) := by rw [← hQ]; exact (Int.natCast_ediv T d).symm
      have hTm : (T : Int) % (d : Int) = (R : Int) := by rw [← hR]; exact (Int.natCast_emod T d).symm
      unfold B32 at hP hxb hdb hd
      have hPB : P ≤ 4294967294 * 4294967296 := by rw [← hP]; exact Nat.mul_le_mul_right _ (by omega)
      have hmul : IntKind.u64.wrap ((r : Int) * 4294967296) = (P : Int) := by rw [← hP, IntKind.wrap_u64]; omega
      have hs1 : IntKind.u64.wrap ((P : Int) + (x : Int)) = (T : Int) := by rw [IntKind.wrap_u64]; omega
      have hw1 : IntKind.u64.wrap (x : Int) = (x : Int) := by rw [IntKind.wrap_u64]; omega
      have hw2 : IntKind.u64.wrap (Q : Int) = (Q : Int) := by rw [IntKind.wrap_u64]; omega
      have hw3 : IntKind.u32.wrap (Q : Int) = (Q : Int) := by rw [IntKind.wrap_u32']; omega
      have hw4 : IntKind.u64.wrap (R : Int) = (R : Int) := by rw [IntKind.wrap_u64]; omega
      have HN := Lib.hid (And.intro hnext (And.intro hk (And.intro hki hlen)))
      clear hnext hk hki hlen hP hT hQ hR hx hdb hps hxb hPB hd
      go_wp2_with fail
      obtain ⟨hn, hk, hki, hl⟩ := HN.out
      refine ⟨⟨j + 1, by omega, by go_num, ?_, ?_⟩, ?_⟩
      · rw [hn, hTm]
      · rw [hn]
        exact hS.set k Q
      · simp [intOf]
    · obtain rfl : j = xa.length := by omega
      obtain ⟨hv1, hv2⟩ := dlFold_end hd0 hla
      generalize dlFold xa.length d (backPairs xa xa.length) = st at *
      obtain ⟨q, r⟩ := st
      dsimp only at *
      have hneg : (xa.length : Int) - 1 - (xa.length : Int) = -1 := by omega
      rw [hneg]
      have hq6 : q.length ≤ 1000000 := by omega
      have hrd : Reads .u32 wr (.slice (some ⟨w.heap.size + 1, 0, none⟩) xa.length xa.length) q := RowAt.reads hS.o _ _ hlen.symm (Nat.le_refl _) (by unfold maxLen; omega)
      have hw1 : IntKind.u32.wrap (r : Int) = (r : Int) := by rw [IntKind.wrap_u32']; unfold B32 at hd; omega
      have hrB : r < B32 := Nat.lt_trans hr1 hd
      have HV := Lib.hid (And.intro hv1 (And.intro hv2 hrB))
      have hrr := hS.r
      have hchg := hS.chg
      clear hv1 hv2 hlen hps hS hr1 hd hrB
      have m2 := fun (X : World) => made_any false (.slice (some ⟨X.heap.size, 0, none⟩) 1 1) [r] (X.alloc (.cells #[.int .u32 (r : Int)] 72)) (RowAt.reads (RowAt.new X 72 [.int .u32 (r : Int)]) 1 1 rfl (Nat.le_refl _) (by unfold maxLen; omega)) (by simpa [Limbs] using HV.out.2.2) (by simp)
      go_wp2_with (first
        | (go_at_call 65; with_reducible refine (made_any _ _ q _ hrd hq1 hq6).mono ?_; rintro e w5 ⟨hb5, v5, rfl, hI⟩; obtain ⟨n5, a5, m5, c5, rfl⟩ := hI.shape; have hr5 := hrr.below hb5)
        | (go_at_call 65; with_reducible refine (m2 _).mono ?_; rintro e w6 ⟨hb6, v6, rfl, hJ⟩; obtain ⟨n6, a6, m6, c6, rfl⟩ := hJ.shape; have g6 := ((Below.refl _ w5).alloc (Nat.le_refl _) (.cells #[.int .u32 (r : Int)] 72)).trans (hb6.mono (by simp)); have hr6 := hr5.below g6; have q1 := hr6.cell 0; have q2 := hr6.cell 1; have q3 := hr6.cell 2; have q4 := hr6.cell 3; have f1 := hr6.frozen 0; have f2 := hr6.frozen 1; have f3 := hr6.frozen 2; have f4 := hr6.frozen 3; simp only [List.getElem?_cons_zero, List.getElem?_cons_succ] at q1 q2 q3 q4))
      have q5 := (((hr6.set 0 (.bool n5)).set 1 (.slice a5 m5 c5)).set 2 (.bool n6)).set 3 (.slice a6 m6 c6)
      have u1 := q5.cell 0
      have u2 := q5.cell 1
      have u3 := q5.cell 2
      have u4 := q5.cell 3
      simp only [List.set_cons_zero, List.set_cons_succ, List.getElem?_cons_zero, List.getElem?_cons_succ] at u1 u2 u3 u4
      have b5 := hchg.trans (hb5.mono hchg.size)
      have b9 := b5.trans (g6.mono b5.size)
      obtain ⟨hv1, hv2, -⟩ := HV.out
      have hk := row4_keep hr6 (.bool n5) (.slice a5 m5 c5) (.bool n6) (.slice a6 m6 c6)
      refine bodyPost_ret (v := .agg #[.bool n5, .slice a5 m5 c5, .bool n6, .slice a6 m6 c6]) (by simp [results, Tryd.results89, go_sem, loadCellsFrom, u1, u2, u3, u4]) rfl ⟨(((b9.setCell (Nat.le_refl _) _).setCell (Nat.le_refl _) _).setCell (Nat.le_refl _) _).setCell (Nat.le_refl _) _, n5, a5, m5, c5, n6, a6, m6, c6, rfl, ?_, ?_⟩
      · rw [← hv1]
        exact (hI.below g6).keep hk
      · rw [← hv2]
        have : sgn false (val [r]) = (r : Int) := by simp [sgn, val]
        rw [this] at hJ
        exact hJ.keep hk
end Go.Proofs.YtlghjfpkfdnfoaaDoor

/- zermeloref01.sum of lists without zeros on top -/
namespace Go.Proofs.YtlghjfpkfdnfoaaDoor
open Go Go.RowKit Go.Shelf

/-- a list fills so many places, or has a limb on top of them -/
def SumTop (m : Nat) (cs : List Nat) : Prop := cs.length ≤ m ∨ B32 ^ m ≤ val cs
/-- between two rounds -/
def RsJnv (w : World) (xa xb : List Nat) (s c i : Value) (W : World) : Prop := ∃ k : Nat, k ≤ max xa.length xb.length + 1 ∧ i = .int .i64 (k : Int) ∧ c = .int .u64 ((plusFold xa (limbPairs xb k)).2 : Int) ∧
  W.ownsRow w.heap.size 72 1 s k (enc32 (plusFold xa (limbPairs xb k)).1) ∧ (k = max xa.length xb.length + 1 → (plusFold xa (limbPairs xb k)).2 = 0 ∧ B32 ^ max xa.length xb.length ≤ val (plusFold xa (limbPairs xb k)).1) ∧ Below w.heap.size w W

set_option maxHeartbeats 4000000 in
set_option maxRecDepth 100000 in
theorem rsum2_any (va vb : Value) (xa xb : List Nat) (w : World) (ha : Reads .u32 w va xa) (hb : Reads .u32 w vb xb) (hla : Limbs xa) (hlb : Limbs xb) (na : xa.length ≤ 100000) (nb : xb.length ≤ 100000) :
    Calls Tryd.prog 84 #[va, vb] w fun e w' => Below w.heap.size w w' ∧ ∃ v cs, e = .returned v ∧ Reads .u32 w' v cs ∧ Limbs cs ∧ val cs = val xa + val xb ∧ cs.length ≤ max xa.length xb.length + 1 ∧ SumTop (max xa.length xb.length) cs := by
  obtain ⟨aa, ca, rfl, hca, hma⟩ := ha.form
  obtain ⟨ab, cb, rfl, hcb, hmb⟩ := hb.form
  obtain ⟨inf, hi, hzz⟩ := Option.map_eq_some_iff.1 info_limb
  simp only [Prod.mk.injEq] at hzz
  have HZ := Lib.hid hzz
  clear hzz
  have hpl : ∀ k, ∀ p ∈ limbPairs xb k, p.2 < B32 := fun k p hp => by
    obtain ⟨i, _, rfl⟩ := List.mem_map.1 hp
    exact limb_getD hlb i
  have hstart : RsJnv w xa xb (.slice none 0 0) (.int .u64 0) (.int .i64 0) w := ⟨0, Nat.zero_le _, rfl, by simp [plusFold, limbPairs], by simpa [plusFold, limbPairs, enc32] using World.ownsRow_nil w w.heap.size 72 1, fun h => absurd h (by omega), Below.refl _ _⟩
  have HS := Lib.hid hstart
  clear hstart
  go_enter Tryd.func84, Tryd.ntmps84
  go_wp2_with fail
  go_loopw [5, 6, 7] (fun s c i wr => RsJnv w xa xb s c i wr) (fun _ _ i _ => max xa.length xb.length + 1 - (intOf i).toNat)
  case atStart => exact HS.out
  case round =>
    obtain ⟨k, hk, rfl, rfl, hown, hlast, hbe⟩ := hrel
    obtain ⟨sa, sc, rfl⟩ := own_form hown
    obtain ⟨hr1, hc1⟩ := plusFold_limbs hla (limbPairs xb k) (hpl k)
    have hval := plusFold_val xa xb k
    have hnext := plusFold_snoc xa (limbPairs xb k) (k, xb[k]?.getD 0)
    have hlr := plusFold_length xa (limbPairs xb k)
    rw [limbPairs_length] at hlr
    rw [← limbPairs_succ] at hnext
    have hA := ha.below hbe
    have hB := hb.below hbe
    have hsz := hbe.size
    obtain ⟨st, hst⟩ : ∃ st, plusFold xa (limbPairs xb k) = st := ⟨_, rfl⟩
    rw [hst] at hown hlast hr1 hc1 hval hnext hlr ⊢
    obtain ⟨r, c⟩ := st
    simp only [plusStep] at hnext
    dsimp only at *
    have HLR := Lib.hid hlr
    clear hst hlr
    by_cases hx : k < xa.length ∨ k < xb.length ∨ c ≠ 0
    · have hkn : k < max xa.length xb.length + 1 := by
        rcases Nat.lt_or_ge k (max xa.length xb.length + 1) with h | h
        · exact h
        · have : c = 0 := (hlast (by omega)).1
          omega
      have hend : k + 1 = max xa.length xb.length + 1 → xa[k]?.getD 0 = 0 ∧ xb[k]?.getD 0 = 0 := fun h => by
        rw [List.getElem?_eq_none (show xa.length ≤ k by omega), List.getElem?_eq_none (show xb.length ≤ k by omega)]; exact ⟨rfl, rfl⟩
      have lA := limb_any (.slice aa xa.length ca) xa k wr hA hla
      have lB := limb_any (.slice ab xb.length cb) xb k wr hB hlb
      have hxB := limb_getD hla k
      have hyB := limb_getD hlb k
      generalize xa[k]?.getD 0 = x at *
      generalize xb[k]?.getD 0 = y at *
      obtain ⟨T, hT⟩ : ∃ T, c + (x + y) = T := ⟨_, rfl⟩
      rw [hT] at hnext
      unfold B32 at hxB hyB
      have hs1 : IntKind.u64.wrap ((x : Int) + (y : Int)) = (x : Int) + (y : Int) := by rw [IntKind.wrap_u64]; omega
      have hs2 : IntKind.u64.wrap ((x : Int) + (y : Int) + (c : Int)) = (T : Int) := by rw [IntKind.wrap_u64]; omega
      obtain ⟨cl, hcl⟩ : ∃ cl, T % B32 = cl := ⟨_, rfl⟩
      obtain ⟨ch, hch⟩ : ∃ ch, T / B32 = ch := ⟨_, rfl⟩
      have hmd : (T : Int) % 4294967296 = (cl : Int) := by rw [← hcl]; unfold B32; omega
      have hdv : (T : Int) / 4294967296 = (ch : Int) := by rw [← hch]; unfold B32; omega
      have hwc : IntKind.u64.wrap (ch : Int) = (ch : Int) := by rw [IntKind.wrap_u64, ← hch]; unfold B32; omega
      have hclb : cl < 4294967296 := by rw [← hcl]; exact Nat.mod_lt _ (by decide)
      have hwl : IntKind.u32.wrap (cl : Int) = (cl : Int) := by rw [IntKind.wrap_u32']; omega
      rw [hcl, hch] at hnext
      have hch0 : k + 1 = max xa.length xb.length + 1 → ch = 0 ∧ B32 ^ max xa.length xb.length ≤ val (r ++ [cl]) := fun h => by
        have hc0 : c ≠ 0 := by rcases hx with g | g | g <;> first | exact g | omega
        obtain ⟨rfl, rfl⟩ := hend h
        have e1 : cl = 1 := by rw [← hcl]; unfold B32; omega
        refine ⟨by rw [← hch]; unfold B32; omega, ?_⟩
        rw [val_snoc, HLR.out, e1, show k = max xa.length xb.length by omega]
        omega
      clear hend hcl hch hlast hval
      have HN := Lib.hid (And.intro hnext hch0)
      have HT := Lib.hid hT
      clear hnext hch0 hT
      have hxc := hx
      clear hx
      have fin : ∀ w5 v', w5.ownsRow w.heap.size 72 1 v' (k + 1) (enc32 r ++ [.int .u32 (cl : Int)]) → Below w.heap.size w w5 → RsJnv w xa xb v' (.int .u64 (ch : Int)) (.int .i64 ((k : Int) + 1)) w5 := fun w5 v' h1 h2 => by
        refine ⟨k + 1, by omega, by go_num, ?_, ?_, ?_, h2⟩
        · rw [HN.out.1]
        · rw [HN.out.1, enc32_snoc]; exact h1
        · rw [HN.out.1]; exact HN.out.2
      by_cases h1 : k < xa.length
      · have hg : decide ((k : Int) < (xa.length : Int)) = true := by simp; omega
        go_wp2_with (first
          | (go_at_call 62; (first | with_reducible refine lA.mono ?_ | with_reducible refine lB.mono ?_); rintro e w2 ⟨rfl, rfl⟩)
          | (at_builtin; refine wpList_append_own _ rfl _ _ 22 rfl w.heap.size 72 inf (.int .u32 0) 1 4 und_limbs hi HZ.out.1 HZ.out.2.1 HZ.out.2.2 rfl (by decide) _ _ _ rfl (hown.alloc _) ⟨wr.heap.size, 0, none⟩ 1 1 [.int .u32 (cl : Int)] rfl rfl (cell_new_plain _ _ _ _ rfl) (by simp [Value.oneCell']) (by unfold maxLen; omega) (by omega) (by simp; omega) ?_; intro v' w5 hown' hgrow _))
        have hbn : Below w.heap.size w w5 := hbe.trans (((Below.refl _ wr).alloc hsz _).grown hgrow (by simp; omega) (fun k e => by have := (hown.lt k e).1; omega))
        have hf := fin w5 v' hown' hbn
        refine ⟨hf, ?_⟩
        simp [intOf]
        omega
      · by_cases h2 : k < xb.length
        · go_wp2_with (first
            | (go_at_call 62; (first | with_reducible refine lA.mono ?_ | with_reducible refine lB.mono ?_); rintro e w2 ⟨rfl, rfl⟩)
            | (at_builtin; refine wpList_append_own _ rfl _ _ 22 rfl w.heap.size 72 inf (.int .u32 0) 1 4 und_limbs hi HZ.out.1 HZ.out.2.1 HZ.out.2.2 rfl (by decide) _ _ _ rfl (hown.alloc _) ⟨wr.heap.size, 0, none⟩ 1 1 [.int .u32 (cl : Int)] rfl rfl (cell_new_plain _ _ _ _ rfl) (by simp [Value.oneCell']) (by unfold maxLen; omega) (by omega) (by simp; omega) ?_; intro v' w5 hown' hgrow _))
          have hbn : Below w.heap.size w w5 := hbe.trans (((Below.refl _ wr).alloc hsz _).grown hgrow (by simp; omega) (fun k e => by have := (hown.lt k e).1; omega))
          have hf := fin w5 v' hown' hbn
          refine ⟨hf, ?_⟩
          simp [intOf]
          omega
        · have h3 : ¬ c = 0 := by omega
          go_wp2_with (first
            | (go_at_call 62; (first | with_reducible refine lA.mono ?_ | with_reducible refine lB.mono ?_); rintro e w2 ⟨rfl, rfl⟩)
            | (at_builtin; refine wpList_append_own _ rfl _ _ 22 rfl w.heap.size 72 inf (.int .u32 0) 1 4 und_limbs hi HZ.out.1 HZ.out.2.1 HZ.out.2.2 rfl (by decide) _ _ _ rfl (hown.alloc _) ⟨wr.heap.size, 0, none⟩ 1 1 [.int .u32 (cl : Int)] rfl rfl (cell_new_plain _ _ _ _ rfl) (by simp [Value.oneCell']) (by unfold maxLen; omega) (by omega) (by simp; omega) ?_; intro v' w5 hown' hgrow _))
          have hbn : Below w.heap.size w w5 := hbe.trans (((Below.refl _ wr).alloc hsz _).grown hgrow (by simp; omega) (fun k e => by have := (hown.lt k e).1; omega))
          have hf := fin w5 v' hown' hbn
          refine ⟨hf, ?_⟩
          simp [intOf]
          omega
    · have h1 : ¬ k < xa.length := fun h => hx (.inl h)
      have h2 : ¬ k < xb.length := fun h => hx (.inr (.inl h))
      obtain rfl : c = 0 := Classical.byContradiction fun h => hx (.inr (.inr h))
      have hrd : Reads .u32 wr (.slice sa k sc) r := Reads.ofOwn hown
      have hv : val r = val xa + val xb := by
        rw [List.take_of_length_le (by omega), List.take_of_length_le (by omega), Nat.mul_zero, Nat.add_zero] at hval
        exact hval
      have htop : SumTop (max xa.length xb.length) r := by
        by_cases hm : k ≤ max xa.length xb.length
        · exact .inl (by rw [HLR.out]; exact hm)
        · exact .inr (hlast (by omega)).2
      have HV := Lib.hid (And.intro hv htop)
      clear hv hval hnext hlast hx htop
      go_wp2
      go_ret
      exact ⟨hbe, _, r, rfl, hrd, hr1, HV.out.1, by rw [HLR.out]; exact hk, HV.out.2⟩

theorem canon_of_top {xs ys cs : List Nat} (hx : Canon xs) (hy : Canon ys) (hc : Limbs cs) (hv : val cs = val xs + val ys) (hl : cs.length ≤ max xs.length ys.length + 1) (ht : SumTop (max xs.length ys.length) cs) : Canon cs := by
  have hk := canon_trimmed hc
  have e := val_trimmed cs
  have hle := trimmed_length cs
  have hlt := val_lt hk.1
  rw [e] at hlt
  refine ⟨hc, ?_⟩
  have hlen : cs.length ≤ (trimmed cs).length := by
    rcases ht with ht | ht
    · rcases Nat.eq_zero_or_pos cs.length with h0 | h0
      · omega
      · have hp : B32 ^ (max xs.length ys.length - 1) ≤ val cs := by
          rcases Nat.le_total xs.length ys.length with h | h
          · rw [Nat.max_eq_right h] at ht ⊢
            have := canon_pos hy (by intro e0; rw [e0, List.length_nil] at ht; omega)
            omega
          · rw [Nat.max_eq_left h] at ht ⊢
            have := canon_pos hx (by intro e0; rw [e0, List.length_nil] at ht; omega)
            omega
        have := (Nat.pow_lt_pow_iff_right (show 1 < B32 by decide)).1 (Nat.lt_of_le_of_lt hp hlt)
        omega
    · have := (Nat.pow_lt_pow_iff_right (show 1 < B32 by decide)).1 (Nat.lt_of_le_of_lt ht hlt)
      omega
  have := trimmed_take cs
  rw [List.take_of_length_le hlen] at this
  exact this.symm
theorem rsum_canon (va vb : Value) (xa xb : List Nat) (w : World) (ha : Reads .u32 w va xa) (hb : Reads .u32 w vb xb) (hka : Canon xa) (hkb : Canon xb) (na : xa.length ≤ 100000) (nb : xb.length ≤ 100000) :
    Calls Tryd.prog 84 #[va, vb] w fun e w' => Below w.heap.size w w' ∧ ∃ v cs, e = .returned v ∧ Reads .u32 w' v cs ∧ Canon cs ∧ val cs = val xa + val xb := by
  refine (rsum2_any va vb xa xb w ha hb hka.1 hkb.1 na nb).mono ?_
  rintro e w' ⟨h1, v, cs, rfl, h2, h3, h4, h5, h6⟩
  exact ⟨h1, v, cs, rfl, h2, canon_of_top hka hkb h3 h4 h5 h6, h4⟩

end Go.Proofs.YtlghjfpkfdnfoaaDoor

/- zermeloref01.made: its limbs are new -/
namespace Go.Proofs.YtlghjfpkfdnfoaaDoor
open Go Go.RowKit Go.Shelf

/-- an integer whose limbs lie in memory that was not there -/
def FreshV (w : World) (v : Value) : Prop := ∀ n a m c, v = .agg #[.bool n, .slice (some a) m c] → w.heap.size ≤ a.block
theorem fresh_mk {w : World} {n : Bool} {g m c : Nat} (h : w.heap.size ≤ g) : FreshV w (.agg #[.bool n, .slice (some ⟨g, 0, none⟩) m c]) := by
  intro n' a m' c' e
  simp only [Value.agg.injEq, Array.mk.injEq, List.cons.injEq, Value.bool.injEq, Value.slice.injEq, Option.some.injEq, and_true] at e
  obtain ⟨-, rfl, -, -⟩ := e
  exact h

set_option maxHeartbeats 2000000 in
set_option maxRecDepth 100000 in
theorem made_fresh (neg : Bool) (v : Value) (xs : List Nat) (w : World) (h : Reads .u32 w v xs) (hl : Limbs xs) (hn : xs.length ≤ 1000000) :
    Calls Tryd.prog 65 #[.bool neg, v] w fun e w' => Below w.heap.size w w' ∧ ∃ v', e = .returned v' ∧ IsInt w' v' (sgn neg (val xs)) ∧ FreshV w v' := by
  obtain ⟨a, c, rfl, hc, hm⟩ := h.form
  unfold maxLen at hm
  obtain ⟨inf, hi, hzz⟩ := Option.map_eq_some_iff.1 info_limb
  simp only [Prod.mk.injEq] at hzz
  obtain ⟨hz0, hz1, hz2⟩ := hzz
  have HZ := Lib.hid (And.intro hz0 (And.intro hz1 hz2))
  clear hz0 hz1 hz2
  have b0 := (Below.refl w.heap.size w).alloc (Nat.le_refl _) (.cells #[.bool false, .slice none 0 0] 24)
  have r0 := RowAt.new w 24 [.bool false, .slice none 0 0]
  have h0 := h.below b0
  obtain ⟨W0, hW0⟩ : ∃ W0, w.alloc (.cells #[.bool false, .slice none 0 0] 24) = W0 := ⟨_, rfl⟩
  have hs0 : W0.heap.size = w.heap.size + 1 := by rw [← hW0]; simp
  rw [hW0] at b0 r0 h0
  have HW := Lib.hid (And.intro hW0 hs0)
  have hst : ∀ (x : Addr) (W : World), (storeCells x []).run Tryd.prog W = .ok () W := fun x W => by simp [storeCells]
  have hrun0 : ∀ (x : Addr) (W : World), (loadCellsFrom x 0 0 #[]).run Tryd.prog W = .ok #[] W := fun x W => by simp [loadCellsFrom]
  clear hW0 hs0
  go_enter Tryd.func65, Tryd.ntmps65
  go_wp2
  rw [HW.out.1]
  go_loop [5] (fun i => ∃ k : Nat, i = .int .i64 k ∧ k ≤ xs.length ∧ trimmed (xs.take k) = trimmed xs) (fun i => (intOf i).toNat)
  case atStart => exact ⟨xs.length, rfl, Nat.le_refl _, by simp⟩
  case round =>
    obtain ⟨k, rfl, hk, htk⟩ := hrel
    by_cases hk0 : k = 0
    · subst hk0
      have ht : trimmed xs = [] := by rw [← htk]; rfl
      have hs1 := HW.out.2
      have HT := Lib.hid (And.intro ht hs1)
      have rr := r0.alloc (.cells #[] 72)
      have o1 := rr.cell 0
      have o2 := rr.cell 1
      have o3 := rr.frozen 0
      have o4 := rr.frozen 1
      simp only [List.getElem?_cons_zero, List.getElem?_cons_succ] at o1 o2
      have hng : (neg && decide ((0 : Int) < 0)) = false := by simp
      clear ht hs1 htk
      cases a
      all_goals cases neg
      all_goals go_wp2
      all_goals
        obtain ⟨s1, s2⟩ := two_reads (b := w.heap.size) o1 o2 (.bool false) (.slice (some ⟨W0.heap.size, 0, none⟩) 0 0)
        refine bodyPost_ret (v := .agg #[.bool false, .slice (some ⟨W0.heap.size, 0, none⟩) 0 0]) (by simp [results, Tryd.results65, go_sem, loadCellsFrom, s1, s2]) rfl ⟨?_, _, rfl, ⟨false, _, [], rfl, ⟨_, 0, rfl, by simp, by simp [maxLen], fun j hj => by simp at hj⟩, canon_nil, rfl, ?_⟩, fresh_mk (by have := HW.out.2; omega)⟩
        · exact ((b0.alloc (by have := HW.out.2; omega) _).setCell (Nat.le_refl _) _).setCell (Nat.le_refl _) _
        · rw [← val_trimmed, HT.out.1]; first | done | rfl
    · have HA := Lib.hid h0
      have hlast := h0.cell (k - 1) (by omega)
      have hix := fun W => h0.index und_limbs size_limb (P := Tryd.prog) (k - 1) .i64 W (by omega)
      rw [show ((k - 1 : Nat) : Int) = (k : Int) - 1 by omega] at hix
      obtain ⟨top, hT⟩ : ∃ top, xs[k - 1]?.getD 0 = top := ⟨_, rfl⟩
      rw [hT] at hlast
      have hkd : ((0 : Int) < (k : Int)) := by omega
      have htk1 : trimmed (xs.take k) = if top = 0 then trimmed (xs.take (k - 1)) else xs.take k := by
        have e := take_succ_getD xs (k - 1) (by omega)
        rw [show k - 1 + 1 = k by omega, hT] at e
        rw [e]
        by_cases ht0 : top = 0
        · subst ht0; rw [if_pos rfl, trimmed_snoc_zero]
        · rw [if_neg ht0, trimmed_snoc _ _ ht0]
      by_cases ht0 : top = 0
      · subst ht0
        rw [if_pos rfl] at htk1
        have HK := Lib.hid (And.intro htk htk1)
        clear htk htk1 hT
        go_wp2
        exact ⟨⟨k - 1, by congr 1; omega, by omega, by rw [← HK.out.2]; exact HK.out.1⟩, by simp [intOf]; omega⟩
      · rw [if_neg ht0] at htk1
        have hne : (((top : Nat) : Int) == 0) = false := by simp; omega
        have HK := Lib.hid (And.intro htk htk1)
        clear htk htk1 hT
        obtain ⟨b, off, rfl⟩ : ∃ b off, a = some ⟨b, off, none⟩ := by
          obtain ⟨a', cap', he, _, _, hr⟩ := h0
          cases he
          exact (hr 0 (by omega)).1
        have hw0 : W0.heap.size = w.heap.size + 1 := HW.out.2
        have hlen : (xs.take k).length = k := by simp; omega
        have hnews : ∀ j u, (enc32 (xs.take k))[j]? = some u → (W0.alloc (.cells #[] 72)).cell? ((⟨b, off, none⟩ : Addr).add j) = some u := by
          intro j u hu
          have hj : j < k := by
            have := (List.getElem?_eq_some_iff.1 hu).1
            rw [enc32_length, hlen] at this
            exact this
          have h1 := (h0.below ((Below.refl _ W0).alloc (Nat.le_refl _) (.cells #[] 72))).cell j (by omega)
          rw [lookAt_some] at h1
          rw [Addr.add_lit, h1]
          simp only [enc32, List.getElem?_map, List.getElem?_take, hj, if_true] at hu
          simp [List.getElem?_eq_getElem (show j < xs.length by omega)] at hu ⊢
          exact hu
        have hnl : (enc32 (xs.take k)).length = k * 1 := by rw [enc32_length, hlen]; omega
        have hone : ∀ u ∈ enc32 (xs.take k), u.oneCell' = true := fun u hu => by
          obtain ⟨x, _, rfl⟩ := List.mem_map.1 hu
          rfl
        have hown0 := World.ownsRow_made (e := 72) (size := 1) (base := W0.heap.size) W0 #[] 0 (Nat.le_refl _) (by simp [maxLen]) rfl
        have HN := Lib.hid (And.intro hnews (And.intro hnl hone))
        have HS := Lib.hid (And.intro hw0 (And.intro hlen hown0))
        have hk0' : decide ((0 : Int) < (k : Int)) = true := by simp; omega
        clear hnews hnl hone hlen hown0 hw0
        cases neg
        · go_wp2_with (at_builtin; go_loud (refine wpList_append_own _ rfl _ _ 22 rfl W0.heap.size 72 inf (.int .u32 0) 1 4 und_limbs hi HZ.out.1 HZ.out.2.1 HZ.out.2.2 rfl (by decide) _ _ _ rfl HS.out.2.2 ⟨b, off, none⟩ k c (enc32 (xs.take k)) rfl HN.out.2.1 HN.out.1 HN.out.2.2 (by unfold maxLen; omega) (by omega) (by simp) ?_); intro v' w1 hown' hgrow _; obtain ⟨g, c1, rfl, hc1, hm1⟩ := own_form_pos hown' (by omega); have hb1 : Below W0.heap.size W0 w1 := ((Below.refl _ W0).alloc (Nat.le_refl _) _).grown hgrow (by simp) (fun k e => by cases e; exact Nat.le_refl _); have rr := r0.below hb1; have o1 := rr.cell 0; have o2 := rr.cell 1; have o3 := rr.frozen 0; have o4 := rr.frozen 1; simp only [List.getElem?_cons_zero, List.getElem?_cons_succ] at o1 o2)
          obtain ⟨s1, s2⟩ := two_reads (b := w.heap.size) o1 o2 (.bool false) (.slice (some ⟨g, 0, none⟩) k c1)
          have hrd0 : Reads .u32 w1 (.slice (some ⟨g, 0, none⟩) (0 + k) c1) (xs.take k) := Reads.ofOwn (by simpa [enc32] using hown')
          rw [Nat.zero_add] at hrd0
          have hrd := two_kept (b := w.heap.size) hrd0 o1 o2 (.bool false) (.slice (some ⟨g, 0, none⟩) k c1)
          have hcan : Canon (xs.take k) := ⟨limbs_take hl k, HK.out.2⟩
          have hval : val (xs.take k) = val xs := by rw [← HK.out.2, HK.out.1, val_trimmed]
          refine bodyPost_ret (v := .agg #[.bool false, .slice (some ⟨g, 0, none⟩) k c1]) (by simp [results, Tryd.results65, go_sem, loadCellsFrom, s1, s2]) rfl ⟨?_, _, rfl, ⟨false, _, xs.take k, rfl, hrd, hcan, by simp [HS.out.2.1]; try omega, by rw [hval]⟩, fresh_mk (by have := (hown'.lt g rfl).1; have := HS.out.1; omega)⟩
          exact (((b0.trans (hb1.mono b0.size))).setCell (Nat.le_refl _) _).setCell (Nat.le_refl _) _
        · go_wp2_with (at_builtin; go_loud (refine wpList_append_own _ rfl _ _ 22 rfl W0.heap.size 72 inf (.int .u32 0) 1 4 und_limbs hi HZ.out.1 HZ.out.2.1 HZ.out.2.2 rfl (by decide) _ _ _ rfl HS.out.2.2 ⟨b, off, none⟩ k c (enc32 (xs.take k)) rfl HN.out.2.1 HN.out.1 HN.out.2.2 (by unfold maxLen; omega) (by omega) (by simp) ?_); intro v' w1 hown' hgrow _; obtain ⟨g, c1, rfl, hc1, hm1⟩ := own_form_pos hown' (by omega); have hb1 : Below W0.heap.size W0 w1 := ((Below.refl _ W0).alloc (Nat.le_refl _) _).grown hgrow (by simp) (fun k e => by cases e; exact Nat.le_refl _); have rr := r0.below hb1; have o1 := rr.cell 0; have o2 := rr.cell 1; have o3 := rr.frozen 0; have o4 := rr.frozen 1; simp only [List.getElem?_cons_zero, List.getElem?_cons_succ] at o1 o2)
          obtain ⟨s1, s2⟩ := two_reads (b := w.heap.size) o1 o2 (.bool true) (.slice (some ⟨g, 0, none⟩) k c1)
          have hrd0 : Reads .u32 w1 (.slice (some ⟨g, 0, none⟩) (0 + k) c1) (xs.take k) := Reads.ofOwn (by simpa [enc32] using hown')
          rw [Nat.zero_add] at hrd0
          have hrd := two_kept (b := w.heap.size) hrd0 o1 o2 (.bool true) (.slice (some ⟨g, 0, none⟩) k c1)
          have hcan : Canon (xs.take k) := ⟨limbs_take hl k, HK.out.2⟩
          have hval : val (xs.take k) = val xs := by rw [← HK.out.2, HK.out.1, val_trimmed]
          refine bodyPost_ret (v := .agg #[.bool true, .slice (some ⟨g, 0, none⟩) k c1]) (by simp [results, Tryd.results65, go_sem, loadCellsFrom, s1, s2]) rfl ⟨?_, _, rfl, ⟨true, _, xs.take k, rfl, hrd, hcan, by simp [HS.out.2.1]; try omega, by rw [hval]⟩, fresh_mk (by have := (hown'.lt g rfl).1; have := HS.out.1; omega)⟩
          exact (((b0.trans (hb1.mono b0.size))).setCell (Nat.le_refl _) _).setCell (Nat.le_refl _) _


end Go.Proofs.YtlghjfpkfdnfoaaDoor

/- zermeloref01.split: division, digit by binary digit -/
namespace Go.Proofs.YtlghjfpkfdnfoaaDoor
open Go Go.RowKit Go.Shelf

/-- what a walk of split keeps -/
structure RspS (w : World) (q : List Nat) (W : World) : Prop where
  r : RowAt W w.heap.size 48 [.bool false, .slice none 0 0, .bool false, .slice none 0 0]
  o : RowAt W (w.heap.size + 1) 72 (enc32 q)
  chg : Below w.heap.size w W
theorem RspS.step {w : World} {q : List Nat} {W W' : World} (h : RspS w q W) (hb : Below W.heap.size W W') : RspS w q W' := ⟨h.r.below hb, h.o.below hb, h.chg.trans (hb.mono h.chg.size)⟩
theorem RspS.drewN {w : World} {q : List Nat} {W : World} (h : RspS w q W) (n : Nat) : RspS w q (W.drewN n) := ⟨row_drewN h.r n, row_drewN h.o n, below_drewN h.chg n⟩
theorem RspS.set {w : World} {q : List Nat} {W : World} (h : RspS w q W) (i z : Nat) : RspS w (q.set i z) (W.setCell ⟨w.heap.size + 1, i, none⟩ (.int .u32 (z : Int))) :=
  ⟨h.r.other (show w.heap.size ≠ w.heap.size + 1 by omega) _, by rw [enc32_set]; exact h.o.set i _, h.chg.setCell (show w.heap.size ≤ w.heap.size + 1 by omega) _⟩
/-- ahead of a round: so many digits are still to come -/
def RspM (A B n m : Nat) (rs q : List Nat) : Prop := Canon rs ∧ Limbs q ∧ q.length = n ∧ ∃ Q, val q = Q * 2 ^ m ∧ A / 2 ^ m = Q * B + val rs ∧ val rs < B

theorem isInt_list {W : World} {n : Bool} {a : Option Addr} {m c : Nat} {i : Int} (h : IsInt W (.agg #[.bool n, .slice a m c]) i) : ∃ xs, Reads .u32 W (.slice a m c) xs ∧ Canon xs ∧ val xs = i.natAbs := by
  obtain ⟨neg, va, xs, e, hr, hc, hn, rfl⟩ := h
  simp only [Value.agg.injEq, Array.mk.injEq, List.cons.injEq, Value.bool.injEq, and_true] at e
  obtain ⟨rfl, rfl⟩ := e
  exact ⟨xs, hr, hc, (sgn_natAbs _ _).symm⟩
/-- at a round's head -/
def RspRel (w : World) (A B n : Nat) (s6 s7 : Value) (W : World) : Prop := ∃ (m : Nat) (rs q : List Nat), m ≤ 32 * n ∧ s7 = .int .i64 ((m : Int) - 1) ∧ Reads .u32 W s6 rs ∧ RspS w q W ∧ RspM A B n m rs q

theorem pow_cast (s : Nat) : ((2 : Int) ^ s) = ((2 ^ s : Nat) : Int) := by simp
theorem reads_beyond {W : World} {v : Value} {xs : List Nat} {b L : Nat} (u : Value) (h : Reads .u32 W v xs) (hb : ∀ a n c, v = .slice (some a) n c → b < a.block) : Reads .u32 (W.setCell ⟨b, L, none⟩ u) v xs :=
  ((Chg.refl (fun k => k = b) W).setCell (p := ⟨b, L, none⟩) (.inl rfl) u).reads h (fun a n c e _ hS => by have := hb a n c e; omega)

theorem rspM_start {xa : List Nat} {B : Nat} (ha : Limbs xa) (hB : 0 < B) : RspM (val xa) B xa.length (32 * xa.length) [] (List.replicate xa.length 0) := by
  refine ⟨canon_nil, limbs_zeros _, by simp, 0, by rw [val_zeros]; simp, ?_, by simpa [val] using hB⟩
  have := val_lt ha
  rw [B32_pow] at this
  simp [val, Nat.div_eq_of_lt this]
theorem rspM_end {A B n : Nat} {rs q : List Nat} (h : RspM A B n 0 rs q) : val q = A / B ∧ val rs = A % B := by
  obtain ⟨-, -, -, Q, h1, h2, h3⟩ := h
  rw [Nat.pow_zero, Nat.mul_one] at h1
  rw [Nat.pow_zero, Nat.div_one] at h2
  have e1 : A / B = Q := by rw [h2, Nat.mul_comm, Nat.mul_add_div (by omega), Nat.div_eq_of_lt h3, Nat.add_zero]
  have e2 : A % B = val rs := by rw [h2, Nat.mul_comm, Nat.mul_add_mod, Nat.mod_eq_of_lt h3]
  exact ⟨h1.trans e1.symm, e2.symm⟩
theorem div_two_pow (A i : Nat) : A / 2 ^ i = 2 * (A / 2 ^ (i + 1)) + A / 2 ^ i % 2 := by
  have e : A / 2 ^ (i + 1) = A / 2 ^ i / 2 := by rw [Nat.pow_succ, Nat.div_div_eq_div_mul]
  rw [e]; omega
/-- a binary digit of a number -/
theorem val_bit {xa : List Nat} (ha : Limbs xa) {i L s : Nat} (hi : i = 32 * L + s) (hs : s < 32) (hL : L < xa.length) : xa[L]?.getD 0 / 2 ^ s % 2 = val xa / 2 ^ i % 2 := by
  rw [val_split xa L hL, hi, Nat.pow_add, ← B32_pow, ← Nat.div_div_eq_div_mul, Nat.add_mul_div_left _ _ (Nat.pow_pos B32_pos), Nat.div_eq_of_lt (take_lt ha L (by omega)), Nat.zero_add]
  obtain ⟨t, ht⟩ : ∃ t, 32 = s + 1 + t := ⟨31 - s, by omega⟩
  have e : B32 * val (xa.drop (L + 1)) = 2 ^ s * (2 * (2 ^ t * val (xa.drop (L + 1)))) := by
    rw [show B32 = 2 ^ s * (2 * 2 ^ t) by rw [← Nat.mul_assoc, ← Nat.pow_succ, ← Nat.pow_add, ← ht]; rfl, Nat.mul_assoc, Nat.mul_assoc]
  rw [e, Nat.add_mul_div_left _ _ (Nat.pow_pos (by decide)), Nat.add_mul_mod_self_left]
/-- the digit's place in the quotient is free -/
theorem rsp_free {q : List Nat} (hq : Limbs q) {i L s Q : Nat} (hi : i = 32 * L + s) (hs : s < 32) (hL : L < q.length) (hv : val q = Q * 2 ^ (i + 1)) : q[L]?.getD 0 + 2 ^ s < B32 ∧ val (q.set L (q[L]?.getD 0 + 2 ^ s)) = (2 * Q + 1) * 2 ^ i := by
  have h1 := val_set q L (q[L]?.getD 0 + 2 ^ s) hL
  rw [Nat.mul_add] at h1
  have e0 : B32 ^ L * 2 ^ s = 2 ^ i := by rw [B32_pow, ← Nat.pow_add, hi]
  refine ⟨?_, ?_⟩
  · obtain ⟨t, ht⟩ : ∃ t, 32 = s + 1 + t := ⟨31 - s, by omega⟩
    have hB : B32 = 2 ^ (s + 1) * 2 ^ t := by rw [← Nat.pow_add, ← ht]; rfl
    have h2 := val_split q L hL
    have h3 : 2 ^ (i + 1) = B32 ^ L * 2 ^ (s + 1) := by rw [B32_pow, ← Nat.pow_add, hi, Nat.add_assoc]
    have h4 := take_lt hq L (by omega)
    have h5 : val q = B32 ^ L * (Q * 2 ^ (s + 1)) := by rw [hv, h3, Nat.mul_left_comm]
    have h6 : q[L]?.getD 0 + B32 * val (q.drop (L + 1)) = Q * 2 ^ (s + 1) := by
      have h7 : val q / B32 ^ L = Q * 2 ^ (s + 1) := by rw [h5, Nat.mul_div_cancel_left _ (Nat.pow_pos B32_pos)]
      rw [h2, Nat.add_mul_div_left _ _ (Nat.pow_pos B32_pos), Nat.div_eq_of_lt h4, Nat.zero_add] at h7
      exact h7
    have h8 := limb_getD hq L
    have h9 : q[L]?.getD 0 % 2 ^ (s + 1) = 0 := by
      have : (q[L]?.getD 0 + B32 * val (q.drop (L + 1))) % 2 ^ (s + 1) = 0 := by rw [h6, Nat.mul_mod_left]
      rwa [hB, Nat.mul_assoc, Nat.add_mul_mod_self_left] at this
    generalize q[L]?.getD 0 = z at *
    obtain ⟨y, rfl⟩ := Nat.dvd_of_mod_eq_zero h9
    rw [hB] at h8 ⊢
    have h10 : y < 2 ^ t := Nat.lt_of_mul_lt_mul_left h8
    have h11 : 2 ^ (s + 1) * (y + 1) ≤ 2 ^ (s + 1) * 2 ^ t := Nat.mul_le_mul_left _ h10
    have h12 : 2 ^ s < 2 ^ (s + 1) := Nat.pow_lt_pow_right (by decide) (by omega)
    rw [Nat.mul_add, Nat.mul_one] at h11
    omega
  · rw [e0, hv] at h1
    have e1 : Q * 2 ^ (i + 1) = 2 * Q * 2 ^ i := by rw [Nat.pow_succ, Nat.mul_comm (2 ^ i) 2, ← Nat.mul_assoc, Nat.mul_comm Q 2]
    rw [e1] at h1
    rw [Nat.add_mul, Nat.one_mul]
    omega
/-- a digit is 0 -/
theorem rspM_no {A B n i : Nat} {rs r2 q : List Nat} (h : RspM A B n (i + 1) rs q) (hk : Canon r2) (hv : val r2 = 2 * val rs + A / 2 ^ i % 2) (hlt : val r2 < B) : RspM A B n i r2 q := by
  obtain ⟨-, h1, h2, Q, h3, h4, h5⟩ := h
  refine ⟨hk, h1, h2, 2 * Q, ?_, ?_, hlt⟩
  · rw [h3, Nat.pow_succ, Nat.mul_comm (2 ^ i) 2, ← Nat.mul_assoc, Nat.mul_comm Q 2]
  · rw [div_two_pow, h4, hv, Nat.mul_add, ← Nat.mul_assoc, Nat.add_assoc]
/-- a digit is 1 -/
theorem rspM_yes {A B n i L s : Nat} {rs r2 r3 q : List Nat} (h : RspM A B n (i + 1) rs q) (hk : Canon r3) (hv : val r2 = 2 * val rs + A / 2 ^ i % 2) (hge : B ≤ val r2) (h3' : val r3 = val r2 - B) (hi : i = 32 * L + s) (hs : s < 32) (hL : L < n) :
    q[L]?.getD 0 + 2 ^ s < B32 ∧ RspM A B n i r3 (q.set L (q[L]?.getD 0 + 2 ^ s)) := by
  obtain ⟨-, h1, h2, Q, h3, h4, h5⟩ := h
  obtain ⟨f1, f2⟩ := rsp_free h1 hi hs (by omega) h3
  refine ⟨f1, hk, limbs_set h1 _ f1, by simpa using h2, 2 * Q + 1, f2, ?_, by have := Nat.mod_lt (A / 2 ^ i) (show 0 < 2 by decide); omega⟩
  rw [div_two_pow, h4, Nat.mul_add, ← Nat.mul_assoc, Nat.add_mul, Nat.one_mul]
  omega

set_option maxHeartbeats 4000000 in
set_option maxRecDepth 100000 in
theorem rsplit_long (va vb : Value) (xa xb : List Nat) (w : World) (ha : Reads .u32 w va xa) (hb : Reads .u32 w vb xb) (hla : Limbs xa) (hkb : Canon xb) (la : xa.length ≤ 90000) (lb : xb.length ≤ 90000) (h1 : xb.length ≠ 1) (hb0 : 0 < val xb) :
    Calls Tryd.prog 107 #[va, vb] w fun e w' => Below w.heap.size w w' ∧ PartsOut w' e ((val xa / val xb : Nat) : Int) ((val xa % val xb : Nat) : Int) := by
  obtain ⟨aa, ca, rfl, hca, hma⟩ := ha.form
  obtain ⟨ab, cb, rfl, hcb, hmb⟩ := hb.form
  have hmk : ∀ W, (Instr.makeSlice 22 (.int .i64 (xa.length : Int)) (.int .i64 (xa.length : Int))).run Tryd.prog W = .ok (.slice (some ⟨W.heap.size, 0, none⟩) xa.length xa.length) (W.alloc (.cells (zeros xa.length) 72)) := fun W => by
    simpa using make_limbs (xa.length : Int) (xa.length : Int) (by omega) (by omega) (by omega) W
  have hstart : RspS w (List.replicate xa.length 0) ((w.alloc (.cells #[.bool false, .slice none 0 0, .bool false, .slice none 0 0] 48)).alloc (.cells (zeros xa.length) 72)) := by
    have b1 := (Below.refl w.heap.size w).alloc (Nat.le_refl _) (.cells #[.bool false, .slice none 0 0, .bool false, .slice none 0 0] 48)
    have b2 := b1.alloc b1.size (.cells (zeros xa.length) 72)
    refine ⟨(RowAt.new w 48 [.bool false, .slice none 0 0, .bool false, .slice none 0 0]).alloc _, ?_, b2⟩
    have e : (enc32 (List.replicate xa.length 0)).toArray = zeros xa.length := by simp [enc32, zeros]
    have := RowAt.new (w.alloc (.cells #[.bool false, .slice none 0 0, .bool false, .slice none 0 0] 48)) 72 (enc32 (List.replicate xa.length 0))
    rw [e] at this
    exact RowAt.at this (by simp)
  have HS := Lib.hid hstart
  clear hstart
  have hl1 : ((xb.length : Int) == 1) = false := by simp; omega
  have hw32 : IntKind.i64.wrap (32 * (xa.length : Int)) = 32 * (xa.length : Int) := by rw [IntKind.wrap_i64]; omega
  clear h1
  go_enter Tryd.func107, Tryd.ntmps107
  go_wp2_with fail
  generalize hW0 : (w.alloc (.cells #[.bool false, .slice none 0 0, .bool false, .slice none 0 0] 48)).alloc (.cells (zeros xa.length) 72) = W0 at *
  clear hW0 hmk
  go_loopw [6, 7] (fun s6 s7 W => RspRel w (val xa) (val xb) xa.length s6 s7 W) (fun _ s7 _ => (intOf s7 + 1).toNat)
  case atStart => exact ⟨32 * xa.length, [], _, Nat.le_refl _, by simp, Reads.nil _ _, HS.out, rspM_start hla hb0⟩
  case round =>
    clear HS hw32
    obtain ⟨m, rs, q, hm, rfl, hr, hS, hM⟩ := hrel
    obtain ⟨ar, cr, rfl, -, -⟩ := hr.form
    cases m with
    | zero =>
      obtain ⟨e1, e2⟩ := rspM_end hM
      obtain ⟨hkr, hlq, hql, -⟩ := hM
      have hrd : Reads .u32 wr (.slice (some ⟨w.heap.size + 1, 0, none⟩) xa.length xa.length) q := RowAt.reads hS.o _ _ hql.symm (Nat.le_refl _) (by unfold maxLen; omega)
      have hrl : rs.length ≤ 1000000 := by
        have := canon_le_length hkb hkr (by rw [e2]; exact Nat.le_of_lt (Nat.mod_lt _ hb0))
        omega
      have HV := Lib.hid (And.intro e1 e2)
      have hneg : (((0 : Nat) : Int) - 1) = -1 := rfl
      rw [hneg]
      have hrr := hS.r
      have hchg := hS.chg
      have M1 := made_any false _ q wr hrd hlq (by omega)
      have M2 := fun X (hX : Below wr.heap.size wr X) => made_any false (.slice ar rs.length cr) rs X (hr.below hX) hkr.1 hrl
      clear e1 e2 hql hS hneg
      go_wp2_with (first
        | (go_at_call 65; with_reducible refine M1.mono ?_; rintro e w5 ⟨hb5, v5, rfl, hI⟩; obtain ⟨n5, a5, m5, c5, rfl⟩ := hI.shape; have hr5 := hrr.below hb5; clear M1)
        | (go_at_call 65; with_reducible refine (M2 _ hb5).mono ?_; rintro e w6 ⟨hb6, v6, rfl, hJ⟩; obtain ⟨n6, a6, m6, c6, rfl⟩ := hJ.shape; have hr6 := hr5.below hb6; have q1 := hr6.cell 0; have q2 := hr6.cell 1; have q3 := hr6.cell 2; have q4 := hr6.cell 3; have f1 := hr6.frozen 0; have f2 := hr6.frozen 1; have f3 := hr6.frozen 2; have f4 := hr6.frozen 3; simp only [List.getElem?_cons_zero, List.getElem?_cons_succ] at q1 q2 q3 q4))
      have q5 := (((hr6.set 0 (.bool n5)).set 1 (.slice a5 m5 c5)).set 2 (.bool n6)).set 3 (.slice a6 m6 c6)
      have u1 := q5.cell 0
      have u2 := q5.cell 1
      have u3 := q5.cell 2
      have u4 := q5.cell 3
      simp only [List.set_cons_zero, List.set_cons_succ, List.getElem?_cons_zero, List.getElem?_cons_succ] at u1 u2 u3 u4
      have b5 := hchg.trans (hb5.mono hchg.size)
      have b9 := b5.trans (hb6.mono b5.size)
      have hk := row4_keep hr6 (.bool n5) (.slice a5 m5 c5) (.bool n6) (.slice a6 m6 c6)
      refine bodyPost_ret (v := .agg #[.bool n5, .slice a5 m5 c5, .bool n6, .slice a6 m6 c6]) (by simp [results, Tryd.results107, go_sem, loadCellsFrom, u1, u2, u3, u4]) rfl ⟨(((b9.setCell (Nat.le_refl _) _).setCell (Nat.le_refl _) _).setCell (Nat.le_refl _) _).setCell (Nat.le_refl _) _, n5, a5, m5, c5, n6, a6, m6, c6, rfl, ?_, ?_⟩
      · rw [← HV.out.1]
        exact (hI.below hb6).keep hk
      · rw [← HV.out.2]
        exact hJ.keep hk
    | succ i =>
      have hi : ((i + 1 : Nat) : Int) - 1 = (i : Int) := by omega
      rw [hi]
      clear hi
      obtain ⟨L, hLe⟩ : ∃ L, i / 32 = L := ⟨_, rfl⟩
      obtain ⟨s, hse⟩ : ∃ s, i % 32 = s := ⟨_, rfl⟩
      have his : i = 32 * L + s := by omega
      have hs : s < 32 := by omega
      have hL : L < xa.length := by omega
      have hbit := val_bit hla his hs hL
      have hrl : rs.length ≤ xb.length := by
        obtain ⟨hk, -, -, Q, -, -, h⟩ := hM
        exact canon_le_length hkb hk (by omega)
      have K1 := rsum_canon _ _ rs rs wr hr hr hM.1 hM.1 (by omega) (by omega)
      have K2 := fun X (hX : Below wr.heap.size wr X) => bit_any (.slice aa xa.length ca) xa L s (i : Int) (by omega) (by omega) (by omega) (by omega) hs hL X ((ha.below hS.chg).below hX) hla
      rw [hbit] at K2
      obtain ⟨D, hD⟩ : ∃ D, val xa / 2 ^ i % 2 = D := ⟨_, rfl⟩
      rw [hD] at K2
      have hD2 : D = 0 ∨ D = 1 := by omega
      have HH := Lib.hid (And.intro hM (And.intro hD (And.intro his (And.intro hs (And.intro hL hm)))))
      clear hM hbit hD his hs hL hm hse hLe
      go_upto_if 36 with (first
        | (go_at_call 84; with_reducible refine K1.mono ?_; rintro e w2 ⟨hb2, v2, r2, rfl, hr2, hk2, hv2⟩; clear K1)
        | (go_at_call 97; with_reducible refine (K2 _ hb2).mono ?_; rintro e w3 ⟨⟨nq, rfl⟩, rfl⟩))
      clear K2
      replace hr2 := reads_drewN hr2 nq
      replace hS := (hS.step hb2).drewN nq
      generalize w2.drewN nq = w3 at *
      clear hb2 hr
      go_cut [6] from 37 to 39 (fun v6 W => ∃ r3, Reads .u32 W v6 r3 ∧ Canon r3 ∧ val r3 = 2 * val rs + D ∧ RspS w q W)
      case first =>
        rcases hD2 with rfl | rfl
        · go_wp2
          go_meet
          exact ⟨r2, hr2, hk2, by omega, hS⟩
        · have hl2 : r2.length ≤ 100000 := by
            have := canon_len_add hk2 HH.out.1.1.1 HH.out.1.1.1 (by omega)
            omega
          have hb1 := (Below.refl w3.heap.size w3).alloc (Nat.le_refl _) (.cells #[.int .u32 1] 72)
          have K3 := rsum_canon v2 (.slice (some ⟨w3.heap.size, 0, none⟩) 1 1) r2 [1] (w3.alloc (.cells #[.int .u32 1] 72)) (hr2.below hb1) (RowAt.reads (RowAt.new w3 72 [.int .u32 1]) 1 1 rfl (Nat.le_refl _) (by unfold maxLen; omega)) hk2 (canon_one (by decide) (by decide)) hl2 (by simp)
          go_wp2_with (go_at_call 84; with_reducible refine K3.mono ?_; rintro e w4 ⟨hb4, v4, r4, rfl, hr4, hk4, hv4⟩)
          go_meet
          exact ⟨r4, hr4, hk4, by rw [hv4, hv2]; simp [val]; omega, (hS.step hb1).step hb4⟩
      case rest =>
        clear hS hr2 hk2 hv2
        obtain ⟨r2, hr2, hk2, hv2, hS⟩ := hcut
        obtain ⟨hM, hD, his, hs, hL, hm⟩ := HH.out
        rw [← hD] at hv2
        clear hD2 hD HH
        obtain ⟨a2, c2, rfl, -, -⟩ := hr2.form
        generalize wc = w4 at *
        have hrl2 : r2.length ≤ xb.length + 1 := by
          apply canon_length_le hk2
          obtain ⟨-, -, -, Q, -, -, h⟩ := hM
          have e1 := val_lt hkb.1
          have e2 : B32 ^ xb.length * 2 ≤ B32 ^ xb.length * B32 := Nat.mul_le_mul_left _ (by decide)
          rw [Nat.pow_succ]
          have := Nat.mod_lt (val xa / 2 ^ i) (show 0 < 2 by decide)
          omega
        have KL := larger_any (.slice a2 r2.length c2) (.slice ab xb.length cb) r2 xb w4 hr2 (hb.below hS.chg) hk2 hkb (by omega)
        by_cases hlt : val r2 < val xb
        · rw [show cmpI (val r2 : Int) (val xb : Int) = -1 by unfold cmpI; rw [if_pos (by omega)]] at KL
          have hM2 := rspM_no hM hk2 hv2 hlt
          have HM := Lib.hid (And.intro hM2 hm)
          clear hM hv2 hm his hM2 hlt
          go_wp2_with (go_at_call 54; with_reducible refine KL.mono ?_; rintro e w5 ⟨hb5, rfl⟩)
          have hw64 : wrap64 ((i : Int) - 1) = (i : Int) - 1 := by have := HM.out.2; unfold wrap64; omega
          go_roundw
          case rel =>
            rw [hw64]
            exact ⟨i, r2, q, by have := HM.out.2; omega, rfl, hr2.below hb5, hS.step hb5, HM.out.1⟩
          case measure => simp [intOf]; omega
        · obtain ⟨c, hc⟩ : ∃ c, cmpI (val r2 : Int) (val xb : Int) = c := ⟨_, rfl⟩
          have hc0 : 0 ≤ c := by rw [← hc]; unfold cmpI; (repeat' split) <;> omega
          rw [hc] at KL
          have hge : val xb ≤ val r2 := by omega
          have K4 := fun X (hX : Below w4.heap.size w4 X) => rless_any (.slice a2 r2.length c2) (.slice ab xb.length cb) r2 xb X (hr2.below hX) ((hb.below hS.chg).below hX) hk2.1 hkb.1 (by omega) (canon_le_length hk2 hkb hge) hge
          have HM := Lib.hid (And.intro hM (And.intro hv2 (And.intro his (And.intro hm hge))))
          clear hM hv2 hm his hlt hc hge
          go_wp2_with (first
            | (go_at_call 54; with_reducible refine KL.mono ?_; rintro e w5 ⟨hb5, rfl⟩; clear KL)
            | (go_at_call 85; with_reducible refine (K4 _ hb5).mono ?_; rintro e w6 ⟨hb6, v6, cs, rfl, hr6, hl6, hv6, hn6⟩; clear K4; have M6 := made_fresh false v6 cs w6 hr6 hl6 (by omega))
            | (go_at_call 65; with_reducible refine M6.mono ?_; rintro e w7 ⟨hb7, v7, rfl, hJ, hfr⟩; obtain ⟨n7, a7, m7, c7, rfl⟩ := hJ.shape; clear M6))
          have hfr2 : ∀ a n c, Value.slice a7 m7 c7 = .slice (some a) n c → w.heap.size + 1 < a.block := fun a n c e => by
            simp only [Value.slice.injEq] at e
            obtain ⟨rfl, -, -⟩ := e
            have h1 := hfr n7 a m7 c7 rfl
            have h2 := hS.o.lt
            have h3 := hb5.size
            have h4 := hb6.size
            omega
          clear hfr
          obtain ⟨r3, hr3, hk3, hv3⟩ := isInt_list hJ
          have hB8 := (Below.refl w7.heap.size w7).alloc (Nat.le_refl _) (.cells #[.bool n7, .slice a7 m7 c7] 24)
          have hS8 := (((hS.step hb5).step hb6).step hb7).step hB8
          have hr8 := hr3.below hB8
          generalize w7.alloc (.cells #[.bool n7, .slice a7 m7 c7] 24) = w8 at *
          clear hB8 hb5 hb6 hb7 hr6 hl6 hn6 hJ hr3 hS hr2
          obtain ⟨hM, hv2, his, hm, hge⟩ := HM.out
          have hv4 : val r3 = val r2 - val xb := by rw [← hv6]; simp [sgn] at hv3; omega
          obtain ⟨f1, hM2⟩ := rspM_yes hM hk3 hv2 hge hv4 his hs hL
          have hql : q.length = xa.length := hM.2.2.1
          have hqb := limb_getD hM.2.1 L
          have hcell : w8.cell? ⟨w.heap.size + 1, L, none⟩ = some (.int .u32 ((q[L]?.getD 0 : Nat) : Int)) := by rw [hS8.o.cell, enc32_at (by omega)]
          have hfz := hS8.o.frozen L
          have ir := fun W => index_win (w.heap.size + 1) 0 xa.length xa.length L (by omega) .i64 W
          simp only [Nat.zero_add] at ir
          have hset := fun z => hS8.set L z
          generalize q[L]?.getD 0 = z at *
          have t1 : (i : Int) / 32 = (L : Int) := by omega
          have t5 : IntKind.i64.wrap (L : Int) = (L : Int) := by rw [IntKind.wrap_i64]; omega
          have t6 : wrap64 (L : Int) = (L : Int) := by unfold wrap64; omega
          have t2 : (i : Int) % 32 = (s : Int) := by omega
          have hPl : 2 ^ s < 2 ^ 32 := Nat.pow_lt_pow_right (by decide) hs
          have hP2 := pow_cast s
          generalize 2 ^ s = P at *
          obtain ⟨T, hT⟩ : ∃ T, z + P = T := ⟨_, rfl⟩
          rw [hT] at f1 hM2
          unfold B32 at f1
          have t4 : ((z : Int) + 2 ^ s) % 4294967296 = (T : Int) := by rw [hP2]; omega
          have hr9 := reads_beyond (L := L) (.int .u32 (T : Int)) hr8 hfr2
          have HM3 := Lib.hid (And.intro hM2 (And.intro hm (And.intro (hset T) hr9)))
          have HT := Lib.hid t4
          have HW := Lib.hid (show wrap64 ((i : Int) - 1) = (i : Int) - 1 by unfold wrap64; omega)
          clear hM2 hM hv2 his hm hge hT f1 hset hqb hql HM hv3 hv4 hv6 hP2 t4 hr8 hr9 hfr2 hS8 hk3 hc0 hrl2 hs hL hk2 hrl hcb hmb hb ha hca hma hb0 lb la hkb hla
          go_region
          rw [HT.out]
          go_wp2
          go_roundw
          case rel =>
            rw [HW.out]
            exact ⟨i, r3, q.set L T, by have := HM3.out.2.1; omega, rfl, reads_drew HM3.out.2.2.2, ⟨HM3.out.2.2.1.r, HM3.out.2.2.1.o, HM3.out.2.2.1.chg.drew⟩, HM3.out.1⟩
          case measure =>
            have := HW.out
            simp [intOf]
            omega

set_option maxHeartbeats 1000000 in
set_option maxRecDepth 100000 in
theorem rsplit_one (va vb : Value) (xa : List Nat) (d : Nat) (w : World) (ha : Reads .u32 w va xa) (hb : Reads .u32 w vb [d]) (hla : Limbs xa) (hkb : Canon [d]) (la : xa.length ≤ 90000) :
    Calls Tryd.prog 107 #[va, vb] w fun e w' => Below w.heap.size w w' ∧ PartsOut w' e ((val xa / d : Nat) : Int) ((val xa % d : Nat) : Int) := by
  have hd0 : 0 < d := by
    have := canon_last hkb (by simp)
    simp at this
    omega
  have hdB : d < B32 := hkb.1 d (by simp)
  obtain ⟨aa, ca, rfl, hca, hma⟩ := ha.form
  obtain ⟨ab, cb, rfl, hcb, hmb⟩ := hb.form
  have ib := fun W => hb.index und_limbs size_limb (P := Tryd.prog) 0 .i64 W (by simp)
  have cb1 := hb.cell 0 (by simp)
  simp only [List.getElem?_cons_zero, Option.getD_some] at cb1
  have b1 := (Below.refl w.heap.size w).alloc (Nat.le_refl _) (.cells #[.bool false, .slice none 0 0, .bool false, .slice none 0 0] 48)
  have cb2 := ((hb.below b1).cell 0 (by simp))
  simp only [List.getElem?_cons_zero, Option.getD_some] at cb2
  have r1 := RowAt.new w 48 [.bool false, .slice none 0 0, .bool false, .slice none 0 0]
  have K := rshort_any (.slice aa xa.length ca) xa d _ (ha.below b1) hla (by omega) hd0 hdB
  unfold PartsOut at K
  simp only [List.length_cons, List.length_nil, Nat.reduceAdd, Int.natCast_zero] at ib hb
  go_enter Tryd.func107, Tryd.ntmps107
  go_wp2_with (go_at_call 89; with_reducible refine K.mono ?_; rintro e w6 ⟨hb6, n5, a5, m5, c5, n6, a6, m6, c6, rfl, hI, hJ⟩; have hr6 := r1.below hb6; have q1 := hr6.cell 0; have q2 := hr6.cell 1; have q3 := hr6.cell 2; have q4 := hr6.cell 3; have f1 := hr6.frozen 0; have f2 := hr6.frozen 1; have f3 := hr6.frozen 2; have f4 := hr6.frozen 3; simp only [List.getElem?_cons_zero, List.getElem?_cons_succ] at q1 q2 q3 q4)
  have q5 := (((hr6.set 0 (.bool n5)).set 1 (.slice a5 m5 c5)).set 2 (.bool n6)).set 3 (.slice a6 m6 c6)
  have u1 := q5.cell 0
  have u2 := q5.cell 1
  have u3 := q5.cell 2
  have u4 := q5.cell 3
  simp only [List.set_cons_zero, List.set_cons_succ, List.getElem?_cons_zero, List.getElem?_cons_succ] at u1 u2 u3 u4
  have b9 := b1.trans (hb6.mono b1.size)
  have hk := row4_keep hr6 (.bool n5) (.slice a5 m5 c5) (.bool n6) (.slice a6 m6 c6)
  exact bodyPost_ret (v := .agg #[.bool n5, .slice a5 m5 c5, .bool n6, .slice a6 m6 c6]) (by simp [results, Tryd.results107, go_sem, loadCellsFrom, u1, u2, u3, u4]) rfl ⟨(((b9.setCell (Nat.le_refl _) _).setCell (Nat.le_refl _) _).setCell (Nat.le_refl _) _).setCell (Nat.le_refl _) _, n5, a5, m5, c5, n6, a6, m6, c6, rfl, hI.keep hk, hJ.keep hk⟩

/-- the specification's split, for every divisor -/
theorem rsplit_any (va vb : Value) (xa xb : List Nat) (w : World) (ha : Reads .u32 w va xa) (hb : Reads .u32 w vb xb) (hla : Limbs xa) (hkb : Canon xb) (la : xa.length ≤ 90000) (lb : xb.length ≤ 90000) (hb0 : 0 < val xb) :
    Calls Tryd.prog 107 #[va, vb] w fun e w' => Below w.heap.size w w' ∧ PartsOut w' e ((val xa / val xb : Nat) : Int) ((val xa % val xb : Nat) : Int) := by
  by_cases h1 : xb.length = 1
  · obtain ⟨d, rfl⟩ := List.length_eq_one_iff.1 h1
    have := rsplit_one va vb xa d w ha hb hla hkb la
    simpa [val] using this
  · exact rsplit_long va vb xa xb w ha hb hla hkb la lb h1 hb0
end Go.Proofs.YtlghjfpkfdnfoaaDoor
