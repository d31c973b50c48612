/- num.Add, num.Sub, num.Mul (with few limbs) -/
import Derived.Test.YtlghjfpkfdnfoaaGreatDoorNumMRing2
import Derived.Test.YtlghjfpkfdnfoaaGreatDoorNumMTimesSmall
import Derived.Test.YtlghjfpkfdnfoaaGreatDoorNumMDifference
namespace Go.Proofs.YtlghjfpkfdnfoaaGreatDoor
open Go Go.RowKit Go.Shelf

theorem RingRes.form {fa fb : Bool} {r k : Int} {W : World} {v : Value} (h : RingRes fa fb r k W v) : ∃ n a m c, v = .agg #[.bool n, .slice a m c] := by
  unfold RingRes at h
  by_cases h1 : (fa && fb) = true
  · rw [if_pos h1] at h
    rcases Classical.em (r.natAbs < B32 ^ 300) with h2 | h2
    · rw [if_pos h2] at h
      obtain ⟨neg, va, xs, rfl, hr, -⟩ := h.2
      obtain ⟨a, c, rfl, -⟩ := hr.form
      exact ⟨neg, a, _, c, rfl⟩
    · rw [if_neg h2] at h
      exact ⟨false, none, 0, 0, h.2⟩
  · rw [if_neg h1] at h
    exact ⟨false, none, 0, 0, h.2⟩
theorem formedB_canon {neg : Bool} {xs : List Nat} (h : formedB neg xs = true) (hl : Limbs xs) : Canon xs ∧ xs.length ≤ 300 ∧ (neg && decide (0 < xs.length)) = neg := by
  simp only [formedB, Bool.and_eq_true, decide_eq_true_eq, Bool.not_eq_true', Bool.and_eq_false_iff, decide_eq_false_iff_not] at h
  obtain ⟨⟨h1, h2⟩, h3⟩ := h
  refine ⟨⟨hl, h2⟩, h1, ?_⟩
  rcases h3 with h | h
  · subst h; rfl
  · have : 0 < xs.length := by omega
    simp [this]
theorem IntAt.below {w w2 : World} {v : Value} {neg : Bool} {xs : List Nat} (h : IntAt w v neg xs) (hb : Below w.heap.size w w2) : IntAt w2 v neg xs := by
  obtain ⟨va, e, hr, hl⟩ := h
  exact ⟨va, e, hr.below hb, hl⟩
theorem IntAt.isInt {w : World} {v : Value} {neg : Bool} {xs : List Nat} (h : IntAt w v neg xs) (hf : formedB neg xs = true) : IsInt w v (sgn neg (val xs)) := by
  obtain ⟨va, rfl, hr, hl⟩ := h
  obtain ⟨h1, h2, h3⟩ := formedB_canon hf hl
  exact ⟨neg, va, xs, rfl, hr, h1, h3, rfl⟩
theorem IntAt.natAbs_lt {w : World} {v : Value} {neg : Bool} {xs : List Nat} (h : IntAt w v neg xs) (hf : formedB neg xs = true) : (sgn neg (val xs)).natAbs < B32 ^ 300 := by
  obtain ⟨va, rfl, hr, hl⟩ := h
  obtain ⟨h1, h2, h3⟩ := formedB_canon hf hl
  rw [sgn_natAbs]
  exact (canon_length_iff h1 300).1 h2

end Go.Proofs.YtlghjfpkfdnfoaaGreatDoor

/- num.Compare -/
namespace Go.Proofs.YtlghjfpkfdnfoaaGreatDoor
open Go Go.RowKit Go.Shelf

set_option maxHeartbeats 1000000 in
set_option maxRecDepth 100000 in
theorem Compare_no (a b : Value) (na nb : Bool) (xa xb : List Nat) (w : World) (ha : IntAt w a na xa) (hb : IntAt w b nb xb) (fa : formedB na xa = false) :
    Calls Tryz.prog 10 #[a, b] w fun e w' => Below w.heap.size w w' ∧ e = .returned (.int .i64 0) := by
  have key := fun w2 (hb2 : Below w.heap.size w w2) => check_no a na xa w2 (ha.below hb2) fa
  obtain ⟨va, rfl, hra, hla⟩ := ha
  obtain ⟨vb, rfl, hrb, hlb⟩ := hb
  obtain ⟨aa, ca, rfl, hca, hma⟩ := hra.form
  obtain ⟨ab, cb, rfl, hcb, hmb⟩ := hrb.form
  have bw := ((Below.refl w.heap.size w).alloc (Nat.le_refl _) (.cells #[.bool na, .slice aa xa.length ca] 24)).alloc (by simp) (.cells #[.bool nb, .slice ab xb.length cb] 24)
  go_enter Tryz.func10, Tryz.ntmps10
  go_wp2_with (refine (key _ bw).mono ?_; rintro e w1 ⟨hbe1, rfl⟩)
  exact bodyPost_ret (v := .int .i64 0) (by simp [results, Tryz.results10, go_sem]) rfl ⟨bw.trans (hbe1.mono bw.size), rfl⟩

set_option maxHeartbeats 1000000 in
set_option maxRecDepth 100000 in
theorem Compare_okno (a b : Value) (na nb : Bool) (xa xb : List Nat) (w : World) (ha : IntAt w a na xa) (hb : IntAt w b nb xb) (fa : formedB na xa = true) (fb : formedB nb xb = false) :
    Calls Tryz.prog 10 #[a, b] w fun e w' => Below w.heap.size w w' ∧ e = .returned (.int .i64 0) := by
  have key1 := fun w2 (hb2 : Below w.heap.size w w2) => check_ok a na xa w2 (ha.below hb2) fa
  have key2 := fun w2 (hb2 : Below w.heap.size w w2) => check_no b nb xb w2 (hb.below hb2) fb
  obtain ⟨va, rfl, hra, hla⟩ := ha
  obtain ⟨vb, rfl, hrb, hlb⟩ := hb
  obtain ⟨aa, ca, rfl, hca, hma⟩ := hra.form
  obtain ⟨ab, cb, rfl, hcb, hmb⟩ := hrb.form
  have bw := ((Below.refl w.heap.size w).alloc (Nat.le_refl _) (.cells #[.bool na, .slice aa xa.length ca] 24)).alloc (by simp) (.cells #[.bool nb, .slice ab xb.length cb] 24)
  have qa := (RowAt.new w 24 [.bool na, .slice aa xa.length ca]).alloc (.cells #[.bool nb, .slice ab xb.length cb] 24)
  have qb := RowAt.new (w.alloc (.cells #[.bool na, .slice aa xa.length ca] 24)) 24 [.bool nb, .slice ab xb.length cb]
  simp only [World.size_alloc] at qb
  go_enter Tryz.func10, Tryz.ntmps10
  go_wp2_with (first | (refine (key2 _ bw1).mono ?_; rintro e w2 ⟨hbe2, rfl⟩; have bw2 := bw1.trans (hbe2.mono bw1.size)) | (refine (key1 _ bw).mono ?_; rintro e w1 ⟨hbe1, rfl⟩; have bw1 := bw.trans (hbe1.mono bw.size); have za := qa.below (hbe1); have zb := qb.below (hbe1); have p1 := za.cell 0; have p2 := za.cell 1; have p3 := zb.cell 0; have p4 := zb.cell 1; simp only [List.getElem?_cons_zero, List.getElem?_cons_succ] at p1 p2 p3 p4))
  exact bodyPost_ret (v := .int .i64 0) (by simp [results, Tryz.results10, go_sem]) rfl ⟨bw2, rfl⟩

set_option maxHeartbeats 1000000 in
set_option maxRecDepth 100000 in
theorem Compare_nn (a b : Value) (xa xb : List Nat) (w : World) (ha : IntAt w a true xa) (hb : IntAt w b true xb) (fa : formedB true xa = true) (fb : formedB true xb = true) :
    Calls Tryz.prog 10 #[a, b] w fun e w' => Below w.heap.size w w' ∧ e = .returned (.int .i64 (cmpI (val xb : Int) (val xa : Int))) := by
  have key1 := fun w2 (hb2 : Below w.heap.size w w2) => check_ok a _ xa w2 (ha.below hb2) fa
  have key2 := fun w2 (hb2 : Below w.heap.size w w2) => check_ok b _ xb w2 (hb.below hb2) fb
  obtain ⟨va, rfl, hra, hla⟩ := ha
  obtain ⟨vb, rfl, hrb, hlb⟩ := hb
  obtain ⟨aa, ca, rfl, hca, hma⟩ := hra.form
  obtain ⟨ab, cb, rfl, hcb, hmb⟩ := hrb.form
  have bw := ((Below.refl w.heap.size w).alloc (Nat.le_refl _) (.cells #[.bool true, .slice aa xa.length ca] 24)).alloc (by simp) (.cells #[.bool true, .slice ab xb.length cb] 24)
  have qa := (RowAt.new w 24 [.bool true, .slice aa xa.length ca]).alloc (.cells #[.bool true, .slice ab xb.length cb] 24)
  have qb := RowAt.new (w.alloc (.cells #[.bool true, .slice aa xa.length ca] 24)) 24 [.bool true, .slice ab xb.length cb]
  simp only [World.size_alloc] at qb
  obtain ⟨hka, hl1, -⟩ := formedB_canon fa hla
  obtain ⟨hkb, hl2, -⟩ := formedB_canon fb hlb
  go_enter Tryz.func10, Tryz.ntmps10
  go_wp2_with (first | (go_at_call 31; refine (compare_any _ _ xb xa _ (hrb.below bw2) (hra.below bw2) hkb hka (by omega)).mono ?_; rintro e w3 ⟨hbe3, rfl⟩) | (refine (key2 _ bw1).mono ?_; rintro e w2 ⟨hbe2, rfl⟩; have bw2 := bw1.trans (hbe2.mono bw1.size); have za := qa.below (hbe1.trans (hbe2.mono hbe1.size)); have zb := qb.below (hbe1.trans (hbe2.mono hbe1.size)); have p1 := za.cell 0; have p2 := za.cell 1; have p3 := zb.cell 0; have p4 := zb.cell 1; simp only [List.getElem?_cons_zero, List.getElem?_cons_succ] at p1 p2 p3 p4) | (refine (key1 _ bw).mono ?_; rintro e w1 ⟨hbe1, rfl⟩; have bw1 := bw.trans (hbe1.mono bw.size); have za := qa.below (hbe1); have zb := qb.below (hbe1); have p1 := za.cell 0; have p2 := za.cell 1; have p3 := zb.cell 0; have p4 := zb.cell 1; simp only [List.getElem?_cons_zero, List.getElem?_cons_succ] at p1 p2 p3 p4))
  exact bodyPost_ret (v := .int .i64 (cmpI (val xb : Int) (val xa : Int))) (by simp [results, Tryz.results10, go_sem]) rfl ⟨bw2.trans (hbe3.mono bw2.size), rfl⟩

set_option maxHeartbeats 1000000 in
set_option maxRecDepth 100000 in
theorem Compare_np (a b : Value) (xa xb : List Nat) (w : World) (ha : IntAt w a true xa) (hb : IntAt w b false xb) (fa : formedB true xa = true) (fb : formedB false xb = true) :
    Calls Tryz.prog 10 #[a, b] w fun e w' => Below w.heap.size w w' ∧ e = .returned (.int .i64 (-1)) := by
  have key1 := fun w2 (hb2 : Below w.heap.size w w2) => check_ok a _ xa w2 (ha.below hb2) fa
  have key2 := fun w2 (hb2 : Below w.heap.size w w2) => check_ok b _ xb w2 (hb.below hb2) fb
  obtain ⟨va, rfl, hra, hla⟩ := ha
  obtain ⟨vb, rfl, hrb, hlb⟩ := hb
  obtain ⟨aa, ca, rfl, hca, hma⟩ := hra.form
  obtain ⟨ab, cb, rfl, hcb, hmb⟩ := hrb.form
  have bw := ((Below.refl w.heap.size w).alloc (Nat.le_refl _) (.cells #[.bool true, .slice aa xa.length ca] 24)).alloc (by simp) (.cells #[.bool false, .slice ab xb.length cb] 24)
  have qa := (RowAt.new w 24 [.bool true, .slice aa xa.length ca]).alloc (.cells #[.bool false, .slice ab xb.length cb] 24)
  have qb := RowAt.new (w.alloc (.cells #[.bool true, .slice aa xa.length ca] 24)) 24 [.bool false, .slice ab xb.length cb]
  simp only [World.size_alloc] at qb
  go_enter Tryz.func10, Tryz.ntmps10
  go_wp2_with (first | (refine (key2 _ bw1).mono ?_; rintro e w2 ⟨hbe2, rfl⟩; have bw2 := bw1.trans (hbe2.mono bw1.size); have za := qa.below (hbe1.trans (hbe2.mono hbe1.size)); have zb := qb.below (hbe1.trans (hbe2.mono hbe1.size)); have p1 := za.cell 0; have p2 := za.cell 1; have p3 := zb.cell 0; have p4 := zb.cell 1; simp only [List.getElem?_cons_zero, List.getElem?_cons_succ] at p1 p2 p3 p4) | (refine (key1 _ bw).mono ?_; rintro e w1 ⟨hbe1, rfl⟩; have bw1 := bw.trans (hbe1.mono bw.size); have za := qa.below (hbe1); have zb := qb.below (hbe1); have p1 := za.cell 0; have p2 := za.cell 1; have p3 := zb.cell 0; have p4 := zb.cell 1; simp only [List.getElem?_cons_zero, List.getElem?_cons_succ] at p1 p2 p3 p4))
  exact bodyPost_ret (v := .int .i64 (-1)) (by simp [results, Tryz.results10, go_sem]) rfl ⟨bw2, rfl⟩

set_option maxHeartbeats 1000000 in
set_option maxRecDepth 100000 in
theorem Compare_pn (a b : Value) (xa xb : List Nat) (w : World) (ha : IntAt w a false xa) (hb : IntAt w b true xb) (fa : formedB false xa = true) (fb : formedB true xb = true) :
    Calls Tryz.prog 10 #[a, b] w fun e w' => Below w.heap.size w w' ∧ e = .returned (.int .i64 (1)) := by
  have key1 := fun w2 (hb2 : Below w.heap.size w w2) => check_ok a _ xa w2 (ha.below hb2) fa
  have key2 := fun w2 (hb2 : Below w.heap.size w w2) => check_ok b _ xb w2 (hb.below hb2) fb
  obtain ⟨va, rfl, hra, hla⟩ := ha
  obtain ⟨vb, rfl, hrb, hlb⟩ := hb
  obtain ⟨aa, ca, rfl, hca, hma⟩ := hra.form
  obtain ⟨ab, cb, rfl, hcb, hmb⟩ := hrb.form
  have bw := ((Below.refl w.heap.size w).alloc (Nat.le_refl _) (.cells #[.bool false, .slice aa xa.length ca] 24)).alloc (by simp) (.cells #[.bool true, .slice ab xb.length cb] 24)
  have qa := (RowAt.new w 24 [.bool false, .slice aa xa.length ca]).alloc (.cells #[.bool true, .slice ab xb.length cb] 24)
  have qb := RowAt.new (w.alloc (.cells #[.bool false, .slice aa xa.length ca] 24)) 24 [.bool true, .slice ab xb.length cb]
  simp only [World.size_alloc] at qb
  go_enter Tryz.func10, Tryz.ntmps10
  go_wp2_with (first | (refine (key2 _ bw1).mono ?_; rintro e w2 ⟨hbe2, rfl⟩; have bw2 := bw1.trans (hbe2.mono bw1.size); have za := qa.below (hbe1.trans (hbe2.mono hbe1.size)); have zb := qb.below (hbe1.trans (hbe2.mono hbe1.size)); have p1 := za.cell 0; have p2 := za.cell 1; have p3 := zb.cell 0; have p4 := zb.cell 1; simp only [List.getElem?_cons_zero, List.getElem?_cons_succ] at p1 p2 p3 p4) | (refine (key1 _ bw).mono ?_; rintro e w1 ⟨hbe1, rfl⟩; have bw1 := bw.trans (hbe1.mono bw.size); have za := qa.below (hbe1); have zb := qb.below (hbe1); have p1 := za.cell 0; have p2 := za.cell 1; have p3 := zb.cell 0; have p4 := zb.cell 1; simp only [List.getElem?_cons_zero, List.getElem?_cons_succ] at p1 p2 p3 p4))
  exact bodyPost_ret (v := .int .i64 (1)) (by simp [results, Tryz.results10, go_sem]) rfl ⟨bw2, rfl⟩

set_option maxHeartbeats 1000000 in
set_option maxRecDepth 100000 in
theorem Compare_pp (a b : Value) (xa xb : List Nat) (w : World) (ha : IntAt w a false xa) (hb : IntAt w b false xb) (fa : formedB false xa = true) (fb : formedB false xb = true) :
    Calls Tryz.prog 10 #[a, b] w fun e w' => Below w.heap.size w w' ∧ e = .returned (.int .i64 (cmpI (val xa : Int) (val xb : Int))) := by
  have key1 := fun w2 (hb2 : Below w.heap.size w w2) => check_ok a _ xa w2 (ha.below hb2) fa
  have key2 := fun w2 (hb2 : Below w.heap.size w w2) => check_ok b _ xb w2 (hb.below hb2) fb
  obtain ⟨va, rfl, hra, hla⟩ := ha
  obtain ⟨vb, rfl, hrb, hlb⟩ := hb
  obtain ⟨aa, ca, rfl, hca, hma⟩ := hra.form
  obtain ⟨ab, cb, rfl, hcb, hmb⟩ := hrb.form
  have bw := ((Below.refl w.heap.size w).alloc (Nat.le_refl _) (.cells #[.bool false, .slice aa xa.length ca] 24)).alloc (by simp) (.cells #[.bool false, .slice ab xb.length cb] 24)
  have qa := (RowAt.new w 24 [.bool false, .slice aa xa.length ca]).alloc (.cells #[.bool false, .slice ab xb.length cb] 24)
  have qb := RowAt.new (w.alloc (.cells #[.bool false, .slice aa xa.length ca] 24)) 24 [.bool false, .slice ab xb.length cb]
  simp only [World.size_alloc] at qb
  obtain ⟨hka, hl1, -⟩ := formedB_canon fa hla
  obtain ⟨hkb, hl2, -⟩ := formedB_canon fb hlb
  go_enter Tryz.func10, Tryz.ntmps10
  go_wp2_with (first | (go_at_call 31; refine (compare_any _ _ xa xb _ (hra.below bw2) (hrb.below bw2) hka hkb (by omega)).mono ?_; rintro e w3 ⟨hbe3, rfl⟩) | (refine (key2 _ bw1).mono ?_; rintro e w2 ⟨hbe2, rfl⟩; have bw2 := bw1.trans (hbe2.mono bw1.size); have za := qa.below (hbe1.trans (hbe2.mono hbe1.size)); have zb := qb.below (hbe1.trans (hbe2.mono hbe1.size)); have p1 := za.cell 0; have p2 := za.cell 1; have p3 := zb.cell 0; have p4 := zb.cell 1; simp only [List.getElem?_cons_zero, List.getElem?_cons_succ] at p1 p2 p3 p4) | (refine (key1 _ bw).mono ?_; rintro e w1 ⟨hbe1, rfl⟩; have bw1 := bw.trans (hbe1.mono bw.size); have za := qa.below (hbe1); have zb := qb.below (hbe1); have p1 := za.cell 0; have p2 := za.cell 1; have p3 := zb.cell 0; have p4 := zb.cell 1; simp only [List.getElem?_cons_zero, List.getElem?_cons_succ] at p1 p2 p3 p4))
  exact bodyPost_ret (v := .int .i64 (cmpI (val xa : Int) (val xb : Int))) (by simp [results, Tryz.results10, go_sem]) rfl ⟨bw2.trans (hbe3.mono bw2.size), rfl⟩

theorem Compare_any (a b : Value) (na nb : Bool) (xa xb : List Nat) (w : World) (ha : IntAt w a na xa) (hb : IntAt w b nb xb) :
    Calls Tryz.prog 10 #[a, b] w fun e w' => Below w.heap.size w w' ∧ e = .returned (.int .i64 (if (formedB na xa && formedB nb xb) = true then cmpI (sgn na (val xa)) (sgn nb (val xb)) else 0)) := by
  cases hfa : formedB na xa with
  | false => simpa using Compare_no a b na nb xa xb w ha hb hfa
  | true =>
    cases hfb : formedB nb xb with
    | false => simpa using Compare_okno a b na nb xa xb w ha hb hfa hfb
    | true =>
      obtain ⟨va, -, -, hla⟩ := id ha
      obtain ⟨vb, -, -, hlb⟩ := id hb
      obtain ⟨hka, -, h1⟩ := formedB_canon hfa hla
      obtain ⟨hkb, -, h2⟩ := formedB_canon hfb hlb
      have pa := canon_pos_iff hka
      have pb := canon_pos_iff hkb
      cases na <;> cases nb
      · refine (Compare_pp a b xa xb w ha hb hfa hfb).mono ?_
        rintro e w' ⟨hbe, rfl⟩
        exact ⟨hbe, by simp [sgn]⟩
      · refine (Compare_pn a b xa xb w ha hb hfa hfb).mono ?_
        rintro e w' ⟨hbe, rfl⟩
        refine ⟨hbe, ?_⟩
        have hb0 : 0 < val xb := pb.2 (by simpa using h2)
        have : cmpI (sgn false (val xa)) (sgn true (val xb)) = 1 := by simp only [sgn, cmpI]; (repeat' split) <;> simp_all <;> omega
        simp [this]
      · refine (Compare_np a b xa xb w ha hb hfa hfb).mono ?_
        rintro e w' ⟨hbe, rfl⟩
        refine ⟨hbe, ?_⟩
        have ha0 : 0 < val xa := pa.2 (by simpa using h1)
        have : cmpI (sgn true (val xa)) (sgn false (val xb)) = -1 := by simp only [sgn, cmpI]; (repeat' split) <;> simp_all <;> omega
        simp [this]
      · refine (Compare_nn a b xa xb w ha hb hfa hfb).mono ?_
        rintro e w' ⟨hbe, rfl⟩
        refine ⟨hbe, ?_⟩
        have : cmpI (sgn true (val xa)) (sgn true (val xb)) = cmpI (val xb : Int) (val xa : Int) := by simp only [sgn, cmpI, if_true]; (repeat' split) <;> omega
        simp [this]

end Go.Proofs.YtlghjfpkfdnfoaaGreatDoor

/- num.divideLimb -/
namespace Go.Proofs.YtlghjfpkfdnfoaaGreatDoor
open Go Go.RowKit Go.Shelf
attribute [local go_sem] Oper.semAt_some

/-- the block of a slice has the mark of uint32 -/
def Tagged (W : World) (v : Value) : Prop := ∀ a n c, v = .slice (some a) n c → ∃ cs fz, W.heap[a.block]? = some (.cells cs 52 fz)

set_option maxHeartbeats 2000000 in
set_option maxRecDepth 100000 in
theorem divideLimb_tag (va : Value) (xa : List Nat) (d : Nat) (w : World) (ha : Reads .u32 w va xa) (hla : Limbs xa) (na : xa.length ≤ 100000) (hd0 : 0 < d) (hdb : d < B32) :
    Calls Tryz.prog 60 #[va, .int .u32 (d : Int)] w fun e w' => Below w.heap.size w w' ∧ ∃ v cs, e = .returned (.tuple #[v, .int .u32 ((val xa % d : Nat) : Int)]) ∧ Reads .u32 w' v cs ∧ Canon cs ∧ val cs = val xa / d ∧ Tagged w' v := by
  obtain ⟨aa, ca, rfl, hca, hma⟩ := ha.form
  unfold maxLen at hma
  have hd2 := hdb
  unfold B32 at hd2
  refine (callsIn_wide (n := 9)).1 ?_
  refine callsIn_of_wp_marks Tryz.func60 rfl trivial ?_ rfl
  simp only [Tryz.ntmps60, List.size_toArray, List.length_cons, List.length_nil, Nat.reduceAdd, Nat.reduceSub, Array.replicate_succ, Array.replicate_zero, List.push_toArray, List.append_toArray, List.nil_append, List.cons_append]
  have hmk : ∀ w, (Instr.makeSlice 22 (.int .i64 (xa.length : Int)) (.int .i64 (xa.length : Int))).run Tryz.prog w = .ok (.slice (some ⟨w.heap.size, 0, none⟩) xa.length xa.length) (w.alloc (.cells (zeros xa.length) 52)) := fun w => by
    simpa using make_limbs (xa.length : Int) (xa.length : Int) (by omega) (by omega) (by omega) w
  gi_wp2_with (refine ⟨trivial, ?_⟩; gi_at_call 67; refine (callsIn_wide.2 (back_any _ _ ⟨_, _, _, rfl⟩)).mono ?_; rintro e w' ⟨rfl, rfl⟩)
  clear hmk
  have b0 : Below w.heap.size w w := Below.refl _ _
  refine range_back 8 9 (w.heap.size + 4) w.heap.size (.slice aa xa.length ca) xa (by exact rfl) hla (by omega) (by simp) (by simp; omega) ?m2 (ha.below ?m3) ha.lt
    (fun pre W => Boxed W (w.heap.size + 2) 22 (.slice (some ⟨w.heap.size + 1, 0, none⟩) xa.length xa.length) ∧ RowAt W (w.heap.size + 1) 52 (enc32 (dlFold xa.length d (pre.map (·.1))).1) ∧ Boxed W (w.heap.size + 3) 77 (.int .u64 ((dlFold xa.length d (pre.map (·.1))).2 : Int)) ∧
      Boxed W (w.heap.size + 4) 22 (.slice aa xa.length ca) ∧ Boxed W w.heap.size 52 (.int .u32 (d : Int)) ∧ Below w.heap.size w W)
    (fun _ _ _ => False)
    ((ownFrom_boxed _ _ _).and ((ownFrom_rowAt _ _ _).and ((ownFrom_boxed _ _ _).and ((ownFrom_boxed _ _ _).and ((ownFrom_boxed _ _ _).and (ownFrom_below (Nat.le_refl _) ?mB))))))
    (fun _ _ _ _ _ h _ _ => h.elim) ?start ?assign ?body ?done ?stop
  case mB => simp; omega
  case m2 => go_simp
  case m3 => exact ((((b0.alloc (Nat.le_refl _) _).alloc (by simp) _).alloc (by simp; omega) _).alloc (by simp; omega) _).alloc (by simp; omega) _
  case start =>
    refine ⟨?_, ?_, ?_, ?_, ?_, ?_⟩
    · exact Boxed.at (((Boxed.new _ _ _).alloc _).alloc _) (by simp)
    · have e : enc32 (dlFold xa.length d (([] : List (IdxLimb xa.length)).map (·.1))).1 = (zeros xa.length).toList := by simp [dlFold, enc32, zeros]
      rw [e]
      exact RowAt.at ((((RowAt.new _ _ _).alloc _).alloc _).alloc _) (by simp)
    · exact Boxed.at ((Boxed.new _ _ _).alloc _) (by simp)
    · exact Boxed.at (Boxed.new _ _ _) (by simp)
    · exact ((((Boxed.new _ _ _).alloc _).alloc _).alloc _).alloc _
    · exact ((((b0.alloc (Nat.le_refl _) _).alloc (by simp) _).alloc (by simp; omega) _).alloc (by simp; omega) _).alloc (by simp; omega) _
  case assign =>
    intro l x W K hK
    gi_wp2
    exact hK
  case body =>
    rintro l pre x W ⟨bv, rv, bc, bs, bl, bw⟩ hlt
    have hbB := bw.size
    obtain ⟨⟨i, y⟩, hi1, hi2⟩ := x
    have hps : ∀ p ∈ pre.map (·.1), p.2 < B32 := fun p hp => by
      obtain ⟨q, _, rfl⟩ := List.mem_map.1 hp
      exact q.2.2
    have hcle := (dlFold_limbs xa.length hd0 (pre.map (·.1)) hps).2
    have hlen := dlFold_length xa.length d (pre.map (·.1))
    have hnext := dlFold_snoc xa.length d (pre.map (·.1)) (i, y)
    have hmap : (pre ++ [(⟨(i, y), hi1, hi2⟩ : IdxLimb xa.length)]).map (·.1) = pre.map (·.1) ++ [(i, y)] := by simp
    generalize hst : dlFold xa.length d (pre.map (·.1)) = st at *
    obtain ⟨r, c⟩ := st
    simp only [dlStep] at hnext
    dsimp only at *
    clear hst hps
    have HN := Lib.hid hnext
    have HM := Lib.hid hmap
    have HL := Lib.hid hlen
    clear hnext hmap hlen
    unfold B32 at hi2
    have hc2 : c < 4294967296 := by omega
    have hbc := bc.cell
    have hfc := bc.frozen
    have hbv := bv.cell
    have hfv := bv.frozen
    have hcf := bl.cell
    obtain ⟨T, hT⟩ : ∃ T, c * B32 + y = T := ⟨_, rfl⟩
    have hor : bits BinOp.or IntKind.u64 ((c : Int) * 4294967296) (y : Int) = (T : Int) := by
      have e1 : (c : Int) * 4294967296 = ((c * 4294967296 : Nat) : Int) := by omega
      rw [e1, bits_or_u64_nat _ _ (by omega) (by omega), show c * 4294967296 = c <<< 32 by rw [Nat.shiftLeft_eq], ← Nat.shiftLeft_add_eq_or_of_lt (by omega), Nat.shiftLeft_eq, ← hT]
      rfl
    have hTb := dl_bound hcle (show y < B32 from hi2)
    rw [hT] at HN hTb
    clear hT
    obtain ⟨Q, hQ⟩ : ∃ Q, T / d = Q := ⟨_, rfl⟩
    obtain ⟨R, hR⟩ : ∃ R, T % d = R := ⟨_, rfl⟩
    have hq : (T : Int) / (d : Int) = (Q : Int) := by rw [← hQ]; rfl
    have hr : (T : Int) % (d : Int) = (R : Int) := by rw [← hR]; rfl
    rw [hQ, hR] at HN
    rw [hQ] at hTb
    clear hQ hR
    unfold B32 at hTb
    have hci : W.cell? ⟨w.heap.size + 1, i, none⟩ = some (.int .u32 ((r[i]?.getD 0 : Nat) : Int)) := by
      rw [rv.cell]
      have := HL.out
      simp [enc32, List.getElem?_eq_getElem (show i < r.length by omega)]
    have hcz := rv.frozen i
    have hwd : IntKind.u64.wrap (d : Int) = (d : Int) := by rw [IntKind.wrap_u64]; omega
    have hwq : IntKind.u64.wrap (Q : Int) = (Q : Int) := by rw [IntKind.wrap_u64]; omega
    have hdz : ¬ d = 0 := by omega
    simp only [boundFrame]
    gi_wp2_with fail
    refine region_tail (.inr ⟨_, rfl⟩) 8 (by kernel_rfl) (by kernel_rfl) ?_
    simp only [List.take_succ_cons, List.take_zero, List.drop_succ_cons, List.drop_zero]
    repeat still_step
    refine wpStill_nil ?_
    change wpListIn _ _ _ _ _ _ _ (W.setCell _ _).drew
    gi_wp2_with fail
    have hF : Chg (fun k => k = w.heap.size + 1 ∨ k = w.heap.size + 3) W _ := ((((Chg.refl _ W).setCell (p := ⟨w.heap.size + 3, 0, none⟩) (.inl (.inr rfl)) (.int .u64 (T : Int))).setCell (p := ⟨w.heap.size + 1, i, none⟩) (.inl (.inl rfl)) (.int .u32 (Q : Int))).setCell (p := ⟨w.heap.size + 3, 0, none⟩) (.inl (.inr rfl)) (.int .u64 (R : Int))).drew
    have hbel := hF.below (B := w.heap.size) (by rintro k (e | e) <;> omega) hbB
    have f4 := hF.boxed bs (by omega)
    refine ⟨hF.keepsFrom _ ?_, Kp0.boxed hbel bs f4, hF.boxed bv (by omega), ?_, ?_, f4, hF.boxed bl (by omega), bw.trans hbel⟩
    · rintro k (rfl | rfl)
      · exact rv.isCells
      · exact Boxed.isCells bc
    · rw [HM.out, HN.out]
      have e : enc32 (r.set i Q) = (enc32 r).set i (.int .u32 (Q : Int)) := by simp [enc32, List.map_set]
      rw [e]
      exact RowAt.drew (RowAt.other (RowAt.set (rv.other (by simp) _) i _) (by simp) _)
    · rw [HM.out, HN.out]
      exact Boxed.drew (Boxed.set _ (Boxed.otherAt (Boxed.set _ bc) (by simp) _))
  case done =>
    rintro D ys W hD hys ⟨bv, rv, bc, bs, bl, bw⟩ hK
    have hlim := dlFold_limbs xa.length hd0 (backPairs xa xa.length) (fun p hp => by
      obtain ⟨q, _, rfl⟩ := List.mem_map.1 (hys ▸ hp)
      exact q.2.2)
    have hval := dlFold_end hd0 hla
    have hlen := dlFold_length xa.length d (backPairs xa xa.length)
    rw [hys] at rv bc
    clear hys
    generalize dlFold xa.length d (backPairs xa xa.length) = st at *
    obtain ⟨r, c⟩ := st
    dsimp only at *
    have hc2 : c < 4294967296 := by omega
    have HV := Lib.hid hval
    have hrd : Reads .u32 W (.slice (some ⟨w.heap.size + 1, 0, none⟩) xa.length xa.length) r := RowAt.reads rv _ _ hlen.symm (Nat.le_refl _) (by unfold maxLen; omega)
    have HL := Lib.hid hlen
    clear hval hlen
    have hbv := bv.cell
    have hbc := bc.cell
    have hwc : IntKind.u64.wrap (c : Int) = (c : Int) := by rw [IntKind.wrap_u64]; omega
    have hwd : IntKind.u32.wrap (c : Int) = (c : Int) := by rw [IntKind.wrap_u32']; omega
    gi_wp2_with fail
    refine region_round (.inl rfl) (by kernel_rfl) (by kernel_rfl) ?_
    repeat (go_big_quiet_step (exact (trim_eq _ _ _ r _ (hrd.drewN _)).mono (fun e w' ⟨h1, h2⟩ => ⟨h2, _, h1.symm⟩)))
    refine wpQuiet_nil ?_
    rintro _ ⟨nq, rfl⟩
    gi_wp2_with fail
    have hK1 : (W.drewN nq).heap[D]? = some (.deferred (some [])) := hK
    have bq : Below w.heap.size w (W.drewN nq) := ⟨bw.os, bw.tape, bw.output, bw.size, bw.block⟩
    refine ⟨by simp, .inl ⟨_, _, rfl, run_takeDeferred hK1, ?_⟩⟩
    refine ⟨_, results_tmp2 rfl _ _ _, bq.trans (belowK_b (w := w) (Nat.le_refl _) (W.drewN nq) D _ _ (by simp at hD; omega) hK1 rfl rfl), _, trimmed r, ?_, ((trim_reads hrd).drewN nq).putObj hK1 rfl _, canon_trimmed hlim.1, ?_, ?_⟩
    · rw [← HV.out.2]
      rfl
    · rw [val_trimmed, HV.out.1]
    · intro a n c he
      simp only [Value.slice.injEq, Option.some.injEq] at he
      obtain ⟨rfl, -, -⟩ := he
      exact ⟨_, _, (World.putObj_heap_other (by simp at hD; show w.heap.size + 1 ≠ D; omega)).trans rv⟩
  case stop =>
    rintro D c pre W _ _ h _
    exact h.elim

theorem divideLimb_any (va : Value) (xa : List Nat) (d : Nat) (w : World) (ha : Reads .u32 w va xa) (hla : Limbs xa) (na : xa.length ≤ 100000) (hd0 : 0 < d) (hdb : d < B32) :
    Calls Tryz.prog 60 #[va, .int .u32 (d : Int)] w fun e w' => Below w.heap.size w w' ∧ ∃ v cs, e = .returned (.tuple #[v, .int .u32 ((val xa % d : Nat) : Int)]) ∧ Reads .u32 w' v cs ∧ Canon cs ∧ val cs = val xa / d :=
  (divideLimb_tag va xa d w ha hla na hd0 hdb).mono fun _ _ ⟨h1, v, cs, h2, h3, h4, h5, _⟩ => ⟨h1, v, cs, h2, h3, h4, h5⟩

end Go.Proofs.YtlghjfpkfdnfoaaGreatDoor

/- num.divide where the divisor is larger or has one limb -/
namespace Go.Proofs.YtlghjfpkfdnfoaaGreatDoor
open Go Go.RowKit Go.Shelf

set_option maxHeartbeats 1000000 in
set_option maxRecDepth 100000 in
theorem divide_lt (va vb : Value) (xa xb : List Nat) (w : World) (ha : Reads .u32 w va xa) (hb : Reads .u32 w vb xb) (hka : Canon xa) (hkb : Canon xb) (la : xa.length ≤ 100000) (hlt : val xa < val xb) :
    Calls Tryz.prog 78 #[va, vb] w fun e w' => Below w.heap.size w w' ∧ ∃ r, e = .returned (.tuple #[.slice none 0 0, r]) ∧ Reads .u32 w' r xa := by
  have hcv : cmpI (val xa : Int) (val xb : Int) = -1 := by unfold cmpI; split <;> omega
  obtain ⟨aa, ca, rfl, hca, hma⟩ := ha.form
  obtain ⟨ab, cb, rfl, hcb, hmb⟩ := hb.form
  have HC := Lib.hid hcv
  clear hcv hlt
  go_enter Tryz.func78, Tryz.ntmps78
  go_wp2_with (first | (go_at_call 31; refine (compare_any _ _ xa xb _ ha hb hka hkb (by omega)).mono ?_; rintro e w1 ⟨hbe1, rfl⟩; rw [HC.out]) | (go_at_call 87; refine (clone_any _ xa _ (ha.below hbe1) (by omega)).mono ?_; rintro e w2 ⟨hbe2, v, rfl, h2⟩))
  exact bodyPost_ret (v := .tuple #[.slice none 0 0, v]) (by simp [results, Tryz.results78, go_sem]) rfl ⟨hbe1.trans (hbe2.mono hbe1.size), v, rfl, h2⟩

set_option maxHeartbeats 1000000 in
set_option maxRecDepth 100000 in
theorem divide_limb (va vb : Value) (xa : List Nat) (d : Nat) (w : World) (ha : Reads .u32 w va xa) (hb : Reads .u32 w vb [d]) (hka : Canon xa) (hkb : Canon [d]) (la : xa.length ≤ 100000) (hle : d ≤ val xa) :
    Calls Tryz.prog 78 #[va, vb] w fun e w' => Below w.heap.size w w' ∧ ∃ q r cs rs, e = .returned (.tuple #[q, r]) ∧ Reads .u32 w' q cs ∧ Reads .u32 w' r rs ∧ Canon cs ∧ Canon rs ∧ val cs = val xa / d ∧ val rs = val xa % d := by
  have hcv : (0 : Int) ≤ cmpI (val xa : Int) (val [d] : Int) := by
    have : val [d] = d := by simp [val]
    rw [this]; unfold cmpI; (repeat' split) <;> omega
  have hd : d ≠ 0 := by have := canon_last hkb (by simp); simpa using this
  obtain ⟨aa, ca, rfl, hca, hma⟩ := ha.form
  obtain ⟨ab, cb, rfl, hcb, hmb⟩ := hb.form
  have hix : ∀ W, (Instr.indexAt 22 (.slice ab 1 cb) (.int .i64 0)).run Tryz.prog W = .ok (.pointer (some (lookAt ab 0))) W := fun W => hb.index und_limbs size_limb 0 .i64 W (by simp)
  have hdB : d < B32 := hkb.1 d (by simp)
  generalize hcvv : cmpI (val xa : Int) (val [d] : Int) = cv at hcv
  have dl := fun W hbe => divideLimb_any (.slice aa xa.length ca) xa d W (ha.below hbe) hka.1 (by omega) (by omega) hdB
  obtain ⟨r, hr⟩ : ∃ r, val xa % d = r := ⟨_, rfl⟩
  rw [hr] at dl
  have hrB : r < B32 := by rw [← hr]; exact Nat.lt_trans (Nat.mod_lt _ (by omega)) hdB
  have hrl : Limbs [r] := by intro x hx; simp at hx; omega
  have HC := Lib.hid hcvv
  clear hcvv
  go_enter Tryz.func78, Tryz.ntmps78
  go_wp2_with (first | (go_at_call 31; refine (compare_any _ _ xa [d] _ ha hb hka hkb (by omega)).mono ?_; rintro e w1 ⟨hbe1, rfl⟩; rw [HC.out]; have hcell : w1.cell? (lookAt ab 0) = some (.int .u32 (d : Int)) := by simpa using (hb.below hbe1).cell 0 (by simp)) | (go_at_call 60; refine (dl _ hbe1).mono ?_; rintro e w2 ⟨hbe2, v, cs, rfl, h2, h3, h4⟩) | (go_at_call 57; refine (trim_any _ [r] _ (RowAt.reads (xs := [r]) (RowAt.new w2 52 [.int .u32 r]) 1 1 rfl (by simp) (by simp [maxLen]))).mono ?_; rintro e w3 ⟨rfl, v3, rfl, h5⟩))
  have b2 := hbe1.trans (hbe2.mono hbe1.size)
  refine bodyPost_ret (v := .tuple #[v, v3]) (by simp [results, Tryz.results78, go_sem]) rfl ⟨b2.alloc b2.size _, v, v3, cs, trimmed [r], rfl, h2.below ((Below.refl _ _).alloc (Nat.le_refl _) _), h5, h3, canon_trimmed hrl, h4, ?_⟩
  rw [val_trimmed, hr]; simp [val]

/-- what divide returns, at a divisor -/
def DivRes (W W' : World) (xa xb : List Nat) (e : Ending) : Prop := Below W.heap.size W W' ∧ ∃ q r cs rs, e = .returned (.tuple #[q, r]) ∧ Reads .u32 W' q cs ∧ Reads .u32 W' r rs ∧ Canon cs ∧ Canon rs ∧ val cs = val xa / val xb ∧ val rs = val xa % val xb

theorem divide_small (va vb : Value) (xa : List Nat) (d : Nat) (w : World) (ha : Reads .u32 w va xa) (hb : Reads .u32 w vb [d]) (hka : Canon xa) (hkb : Canon [d]) (la : xa.length ≤ 100000) :
    Calls Tryz.prog 78 #[va, vb] w fun e w' => DivRes w w' xa [d] e := by
  have hv : val [d] = d := by simp [val]
  rcases Nat.lt_or_ge (val xa) d with hlt | hge
  · refine (divide_lt va vb xa [d] w ha hb hka hkb la (by rw [hv]; exact hlt)).mono ?_
    rintro e w' ⟨hbe, r, rfl, h1⟩
    exact ⟨hbe, _, r, [], xa, rfl, Reads.nil _ _, h1, canon_nil, hka, by rw [hv, Nat.div_eq_of_lt hlt]; rfl, by rw [hv, Nat.mod_eq_of_lt hlt]⟩
  · refine (divide_limb va vb xa d w ha hb hka hkb la hge).mono ?_
    rintro e w' ⟨hbe, q, r, cs, rs, rfl, h1, h2, h3, h4, h5, h6⟩
    exact ⟨hbe, q, r, cs, rs, rfl, h1, h2, h3, h4, by rw [hv, h5], by rw [hv, h6]⟩

end Go.Proofs.YtlghjfpkfdnfoaaGreatDoor

/- num.floored -/
namespace Go.Proofs.YtlghjfpkfdnfoaaGreatDoor
open Go Go.RowKit Go.Shelf

/-- two integers' variables, and two variables for results -/
structure Flo (w : World) (na nb : Bool) (va vb : Value) (W : World) : Prop where
  below : Below w.heap.size w W
  size : w.heap.size + 4 ≤ W.heap.size
  a : RowAt W w.heap.size 24 [.bool na, va]
  b : RowAt W (w.heap.size + 1) 24 [.bool nb, vb]
  q : ∃ n a m c, RowAt W (w.heap.size + 1 + 1) 24 [.bool n, .slice a m c]
  r : ∃ n a m c, RowAt W (w.heap.size + 1 + 1 + 1) 24 [.bool n, .slice a m c]
theorem Flo.start (w : World) (na nb : Bool) (va vb : Value) :
    Flo w na nb va vb ((((w.alloc (.cells #[.bool na, va] 24)).alloc (.cells #[.bool nb, vb] 24)).alloc (.cells #[.bool false, .slice none 0 0] 24)).alloc (.cells #[.bool false, .slice none 0 0] 24)) := by
  have q1 := RowAt.new (w.alloc (.cells #[.bool na, va] 24)) 24 [.bool nb, vb]
  have q2 := RowAt.new ((w.alloc (.cells #[.bool na, va] 24)).alloc (.cells #[.bool nb, vb] 24)) 24 [.bool false, .slice none 0 0]
  have q3 := RowAt.new (((w.alloc (.cells #[.bool na, va] 24)).alloc (.cells #[.bool nb, vb] 24)).alloc (.cells #[.bool false, .slice none 0 0] 24)) 24 [.bool false, .slice none 0 0]
  simp only [World.size_alloc] at q1 q2 q3
  exact ⟨((((Below.refl w.heap.size w).alloc (Nat.le_refl _) _).alloc (by simp) _).alloc (by simp; omega) _).alloc (by simp; omega) _, by simp,
    (((RowAt.new w 24 [.bool na, va]).alloc _).alloc _).alloc _, (q1.alloc _).alloc _, ⟨false, none, 0, 0, q2.alloc _⟩, ⟨false, none, 0, 0, q3⟩⟩
theorem Flo.step {w W W' : World} {na nb : Bool} {va vb : Value} (h : Flo w na nb va vb W) (hb : Below W.heap.size W W') : Flo w na nb va vb W' := by
  obtain ⟨n, a, m, c, hq⟩ := h.q
  obtain ⟨n', a', m', c', hr⟩ := h.r
  exact ⟨h.below.trans (hb.mono (by have := h.size; omega)), Nat.le_trans h.size hb.size, h.a.below hb, h.b.below hb, ⟨n, a, m, c, hq.below hb⟩, ⟨n', a', m', c', hr.below hb⟩⟩
theorem Flo.drew {w W : World} {na nb : Bool} {va vb : Value} (h : Flo w na nb va vb W) : Flo w na nb va vb W.drew := ⟨h.below.drew, h.size, h.a, h.b, h.q, h.r⟩
theorem Flo.cells {w W : World} {na nb : Bool} {va vb : Value} (h : Flo w na nb va vb W) : W.cell? ⟨w.heap.size, 0, none⟩ = some (.bool na) ∧ W.cell? ⟨w.heap.size, 1, none⟩ = some va ∧ W.cell? ⟨w.heap.size + 1, 0, none⟩ = some (.bool nb) ∧ W.cell? ⟨w.heap.size + 1, 1, none⟩ = some vb :=
  ⟨h.a.cell 0, h.a.cell 1, h.b.cell 0, h.b.cell 1⟩
theorem Flo.outs {w W : World} {na nb : Bool} {va vb : Value} (h : Flo w na nb va vb W) : ∃ n a m c n' a' m' c', W.cell? ⟨w.heap.size + 1 + 1, 0, none⟩ = some (.bool n) ∧ W.cell? ⟨w.heap.size + 1 + 1, 1, none⟩ = some (.slice a m c) ∧ W.cell? ⟨w.heap.size + 1 + 1 + 1, 0, none⟩ = some (.bool n') ∧ W.cell? ⟨w.heap.size + 1 + 1 + 1, 1, none⟩ = some (.slice a' m' c')
    ∧ W.frozen? ⟨w.heap.size + 1 + 1, 0, none⟩ = false ∧ W.frozen? ⟨w.heap.size + 1 + 1, 1, none⟩ = false ∧ W.frozen? ⟨w.heap.size + 1 + 1 + 1, 0, none⟩ = false ∧ W.frozen? ⟨w.heap.size + 1 + 1 + 1, 1, none⟩ = false := by
  obtain ⟨n, a, m, c, hq⟩ := h.q
  obtain ⟨n', a', m', c', hr⟩ := h.r
  exact ⟨n, a, m, c, n', a', m', c', hq.cell 0, hq.cell 1, hr.cell 0, hr.cell 1, hq.frozen 0, hq.frozen 1, hr.frozen 0, hr.frozen 1⟩
theorem Flo.storeQ {w W : World} {na nb : Bool} {va vb : Value} (h : Flo w na nb va vb W) (x : Bool) (a : Option Addr) (m c : Nat) : Flo w na nb va vb ((W.setCell ⟨w.heap.size + 1 + 1, 0, none⟩ (.bool x)).setCell ⟨w.heap.size + 1 + 1, 1, none⟩ (.slice a m c)) := by
  obtain ⟨n0, a0, m0, c0, hq⟩ := h.q
  obtain ⟨n', a', m', c', hr⟩ := h.r
  exact ⟨(h.below.setCell (by simp; omega) _).setCell (by simp; omega) _, by simpa using h.size, (h.a.other (by simp; omega) _).other (by simp; omega) _, (h.b.other (by simp) _).other (by simp) _,
    ⟨x, a, m, c, (hq.set 0 (.bool x)).set 1 (.slice a m c)⟩, ⟨n', a', m', c', (hr.other (by simp) _).other (by simp) _⟩⟩
theorem Flo.storeR {w W : World} {na nb : Bool} {va vb : Value} (h : Flo w na nb va vb W) (x : Bool) (a : Option Addr) (m c : Nat) : Flo w na nb va vb ((W.setCell ⟨w.heap.size + 1 + 1 + 1, 0, none⟩ (.bool x)).setCell ⟨w.heap.size + 1 + 1 + 1, 1, none⟩ (.slice a m c)) := by
  obtain ⟨n0, a0, m0, c0, hq⟩ := h.q
  obtain ⟨n', a', m', c', hr⟩ := h.r
  exact ⟨(h.below.setCell (by simp; omega) _).setCell (by simp; omega) _, by simpa using h.size, (h.a.other (by simp; omega) _).other (by simp; omega) _, (h.b.other (by simp) _).other (by simp) _,
    ⟨n0, a0, m0, c0, (hq.other (by simp) _).other (by simp) _⟩, ⟨x, a, m, c, (hr.set 0 (.bool x)).set 1 (.slice a m c)⟩⟩
def KeepR (W W' : World) : Prop := ∀ v xs, Reads .u32 W v xs → Reads .u32 W' v xs
@[reducible] def FloS (w w1 : World) (na nb : Bool) (va vb : Value) (W : World) : Prop := W.cell? ⟨w.heap.size, 0, none⟩ = some (.bool na) ∧ W.cell? ⟨w.heap.size, 1, none⟩ = some va ∧ W.cell? ⟨w.heap.size + 1, 0, none⟩ = some (.bool nb) ∧ W.cell? ⟨w.heap.size + 1, 1, none⟩ = some vb ∧ Flo w na nb va vb W ∧ KeepR w1 W
theorem floS_of {w w1 W : World} {na nb : Bool} {va vb : Value} (h : Flo w na nb va vb W) (hk : KeepR w1 W) : FloS w w1 na nb va vb W := ⟨h.cells.1, h.cells.2.1, h.cells.2.2.1, h.cells.2.2.2, h, hk⟩
theorem floS_step {w w1 W W' : World} {na nb : Bool} {va vb : Value} (h : Flo w na nb va vb W) (hk : KeepR w1 W) (hb : Below W.heap.size W W') : FloS w w1 na nb va vb W' := floS_of (h.step hb) fun v xs hv => (hk v xs hv).below hb
theorem floS_storeQ {w w1 W : World} {na nb : Bool} {va vb : Value} (h : Flo w na nb va vb W) (hk : KeepR w1 W) (x : Bool) (a : Option Addr) (m c : Nat) : FloS w w1 na nb va vb ((W.setCell ⟨w.heap.size + 1 + 1, 0, none⟩ (.bool x)).setCell ⟨w.heap.size + 1 + 1, 1, none⟩ (.slice a m c)) := by
  obtain ⟨n0, a0, m0, c0, n1, a1, m1, c1, o1, o2, o3, o4, -⟩ := h.outs
  exact floS_of (h.storeQ x a m c) fun v xs hv => two_kept (hk v xs hv) o1 o2 _ _
theorem floS_storeR {w w1 W : World} {na nb : Bool} {va vb : Value} (h : Flo w na nb va vb W) (hk : KeepR w1 W) (x : Bool) (a : Option Addr) (m c : Nat) : FloS w w1 na nb va vb ((W.setCell ⟨w.heap.size + 1 + 1 + 1, 0, none⟩ (.bool x)).setCell ⟨w.heap.size + 1 + 1 + 1, 1, none⟩ (.slice a m c)) := by
  obtain ⟨n0, a0, m0, c0, n1, a1, m1, c1, o1, o2, o3, o4, -⟩ := h.outs
  exact floS_of (h.storeR x a m c) fun v xs hv => two_kept (hk v xs hv) o3 o4 _ _
theorem four_reads {W : World} {b : Nat} {c0 c1 c2 c3 : Value} (o1 : W.cell? ⟨b, 0, none⟩ = some c0) (o2 : W.cell? ⟨b, 1, none⟩ = some c1) (o3 : W.cell? ⟨b + 1, 0, none⟩ = some c2) (o4 : W.cell? ⟨b + 1, 1, none⟩ = some c3) (x y x' y' : Value) :
    ((((W.setCell ⟨b, 0, none⟩ x).setCell ⟨b, 1, none⟩ y).setCell ⟨b + 1, 0, none⟩ x').setCell ⟨b + 1, 1, none⟩ y').cell? ⟨b, 0, none⟩ = some x ∧ ((((W.setCell ⟨b, 0, none⟩ x).setCell ⟨b, 1, none⟩ y).setCell ⟨b + 1, 0, none⟩ x').setCell ⟨b + 1, 1, none⟩ y').cell? ⟨b, 1, none⟩ = some y
    ∧ ((((W.setCell ⟨b, 0, none⟩ x).setCell ⟨b, 1, none⟩ y).setCell ⟨b + 1, 0, none⟩ x').setCell ⟨b + 1, 1, none⟩ y').cell? ⟨b + 1, 0, none⟩ = some x' ∧ ((((W.setCell ⟨b, 0, none⟩ x).setCell ⟨b, 1, none⟩ y).setCell ⟨b + 1, 0, none⟩ x').setCell ⟨b + 1, 1, none⟩ y').cell? ⟨b + 1, 1, none⟩ = some y' := by
  obtain ⟨s1, s2⟩ := two_reads o1 o2 x y
  have o5 : ((W.setCell ⟨b, 0, none⟩ x).setCell ⟨b, 1, none⟩ y).cell? ⟨b + 1, 0, none⟩ = some c2 := by rw [World.cell?_setCell_other _ _ _ _ (by simp), World.cell?_setCell_other _ _ _ _ (by simp)]; exact o3
  have o6 : ((W.setCell ⟨b, 0, none⟩ x).setCell ⟨b, 1, none⟩ y).cell? ⟨b + 1, 1, none⟩ = some c3 := by rw [World.cell?_setCell_other _ _ _ _ (by simp), World.cell?_setCell_other _ _ _ _ (by simp)]; exact o4
  obtain ⟨s3, s4⟩ := two_reads o5 o6 x' y'
  refine ⟨?_, ?_, s3, s4⟩
  · rw [World.cell?_setCell_other _ _ _ _ (by simp), World.cell?_setCell_other _ _ _ _ (by simp)]; exact s1
  · rw [World.cell?_setCell_other _ _ _ _ (by simp), World.cell?_setCell_other _ _ _ _ (by simp)]; exact s2

set_option maxHeartbeats 2000000 in
set_option maxRecDepth 100000 in
theorem floored_same (na : Bool) (va vb : Value) (xa xb : List Nat) (w : World) (ha : Reads .u32 w va xa) (hb : Reads .u32 w vb xb)
    (hdiv : ∀ W, Below w.heap.size w W → Calls Tryz.prog 78 #[va, vb] W fun e W' => DivRes W W' xa xb e) :
    Calls Tryz.prog 46 #[.agg #[.bool na, va], .agg #[.bool na, vb]] w fun e w' => Below w.heap.size w w' ∧ ∃ q r cs rs, e = .returned (.tuple #[.agg #[.bool false, q], .agg #[.bool (na && decide (0 < rs.length)), r]]) ∧ Reads .u32 w' q cs ∧ Reads .u32 w' r rs ∧ Canon cs ∧ Canon rs ∧ val cs = val xa / val xb ∧ val rs = val xa % val xb := by
  have f0 := Flo.start w na na va vb
  obtain ⟨aa, ca, rfl, hca, hma⟩ := ha.form
  obtain ⟨ab, cb, rfl, hcb, hmb⟩ := hb.form
  have F0 := Lib.hid f0
  clear f0
  go_enter Tryz.func46, Tryz.ntmps46
  go_wp2_with (first | (go_at_call 78; refine (hdiv _ F0.out.below).mono ?_; rintro e w1 ⟨hbe1, q, r, cs, rs, rfl, h1, h2, h3, h4, h5, h6⟩; have f1 := F0.out.step hbe1; clear hbe1; obtain ⟨aq, cq, rfl, hcq, hmq⟩ := h1.form; obtain ⟨ar, cr, rfl, hcr, hmr⟩ := h2.form; obtain ⟨p1, p2, p3, p4⟩ := f1.cells))
  go_region_held3 (fun W => W.cell? ⟨w.heap.size, 0, none⟩ = some (.bool na) ∧ W.cell? ⟨w.heap.size, 1, none⟩ = some (.slice aa xa.length ca) ∧ W.cell? ⟨w.heap.size + 1, 0, none⟩ = some (.bool na) ∧ W.cell? ⟨w.heap.size + 1, 1, none⟩ = some (.slice ab xb.length cb) ∧ Flo w na na (.slice aa xa.length ca) (.slice ab xb.length cb) W ∧ KeepR w1 W)
    (first | exact ⟨p1, p2, p3, p4, f1.drew, fun _ _ h => h⟩ | (go_split_ands; with_reducible refine floS_storeQ ?_ ?_ _ _ _ _ <;> assumption) | (go_split_ands; with_reducible refine floS_storeR ?_ ?_ _ _ _ _ <;> assumption) | (go_split_ands; exact floS_step (by assumption) (by assumption) (by assumption)))
    (first | (go_at_call 51; go_split_ands; refine (signed_any _ _ _ _ _).mono ?_; rintro e w2 ⟨hbe2, rfl⟩; obtain ⟨n0, a0, m0, c0, n9, a9, m9, c9, o1, o2, o3, o4, o5, o6, o7, o8⟩ := Flo.outs (Flo.step (by assumption) hbe2)))
  rename_i hT
  obtain ⟨s1, s2, s3, s4⟩ := four_reads (b := w.heap.size + 1 + 1) o1 o2 o3 o4 (.bool false) (.slice aq cs.length cq) (.bool (na && decide (0 < rs.length))) (.slice ar rs.length cr)
  have hlow := hT.2.2.2.2.1.below
  have hkeep := hT.2.2.2.2.2
  go_wp2
  exact bodyPost_ret (v := .tuple #[.agg #[.bool false, .slice aq cs.length cq], .agg #[.bool (na && decide (0 < rs.length)), .slice ar rs.length cr]]) (by simp [results, Tryz.results46, go_sem, loadCellsFrom, s1, s2, s3, s4]) rfl
    ⟨hlow, _, _, cs, rs, rfl, hkeep _ _ h1, hkeep _ _ h2, h3, h4, h5, h6⟩

set_option maxHeartbeats 2000000 in
set_option maxRecDepth 100000 in
theorem floored_exact (na : Bool) (va vb : Value) (xa xb : List Nat) (w : World) (ha : Reads .u32 w va xa) (hb : Reads .u32 w vb xb) (hz : val xa % val xb = 0)
    (hdiv : ∀ W, Below w.heap.size w W → Calls Tryz.prog 78 #[va, vb] W fun e W' => DivRes W W' xa xb e) :
    Calls Tryz.prog 46 #[.agg #[.bool na, va], .agg #[.bool (!na), vb]] w fun e w' => Below w.heap.size w w' ∧ ∃ q r cs rs, e = .returned (.tuple #[.agg #[.bool (decide (0 < cs.length)), q], .agg #[.bool ((!na) && decide (0 < rs.length)), r]]) ∧ Reads .u32 w' q cs ∧ Reads .u32 w' r rs ∧ Canon cs ∧ Canon rs ∧ val cs = val xa / val xb ∧ val rs = val xa % val xb := by
  have f0 := Flo.start w na (!na) va vb
  obtain ⟨aa, ca, rfl, hca, hma⟩ := ha.form
  obtain ⟨ab, cb, rfl, hcb, hmb⟩ := hb.form
  have F0 := Lib.hid f0
  clear f0
  go_enter Tryz.func46, Tryz.ntmps46
  go_wp2_with (first | (go_at_call 78; refine (hdiv _ F0.out.below).mono ?_; rintro e w1 ⟨hbe1, q, r, cs, rs, rfl, h1, h2, h3, h4, h5, h6⟩; have f1 := F0.out.step hbe1; clear hbe1; obtain ⟨aq, cq, rfl, hcq, hmq⟩ := h1.form; obtain ⟨ar, cr, rfl, hcr, hmr⟩ := h2.form; obtain ⟨p1, p2, p3, p4⟩ := f1.cells; obtain rfl : rs = [] := List.eq_nil_of_length_eq_zero (by have := canon_pos_iff h4; omega)))
  go_region_held3 (fun W => W.cell? ⟨w.heap.size, 0, none⟩ = some (.bool na) ∧ W.cell? ⟨w.heap.size, 1, none⟩ = some (.slice aa xa.length ca) ∧ W.cell? ⟨w.heap.size + 1, 0, none⟩ = some (.bool (!na)) ∧ W.cell? ⟨w.heap.size + 1, 1, none⟩ = some (.slice ab xb.length cb) ∧ Flo w na (!na) (.slice aa xa.length ca) (.slice ab xb.length cb) W ∧ KeepR w1 W)
    (first | exact ⟨p1, p2, p3, p4, f1.drew, fun _ _ h => h⟩ | (go_split_ands; with_reducible refine floS_storeQ ?_ ?_ _ _ _ _ <;> assumption) | (go_split_ands; with_reducible refine floS_storeR ?_ ?_ _ _ _ _ <;> assumption) | (go_split_ands; exact floS_step (by assumption) (by assumption) (by assumption)))
    (first | (go_at_call 51; go_split_ands; refine (signed_any _ _ _ _ _).mono ?_; rintro e w2 ⟨hbe2, rfl⟩; obtain ⟨n0, a0, m0, c0, n9, a9, m9, c9, o1, o2, o3, o4, o5, o6, o7, o8⟩ := Flo.outs (Flo.step (by assumption) hbe2)))
  rename_i hT
  obtain ⟨s1, s2, s3, s4⟩ := four_reads (b := w.heap.size + 1 + 1) o1 o2 o3 o4 (.bool (decide (0 < cs.length))) (.slice aq cs.length cq) (.bool false) (.slice ar 0 cr)
  have hlow := hT.2.2.2.2.1.below
  have hkeep := hT.2.2.2.2.2
  go_wp2
  exact bodyPost_ret (v := .tuple #[.agg #[.bool (decide (0 < cs.length)), .slice aq cs.length cq], .agg #[.bool false, .slice ar 0 cr]]) (by simp [results, Tryz.results46, go_sem, loadCellsFrom, s1, s2, s3, s4]) rfl
    ⟨hlow, _, _, cs, [], by simp, hkeep _ _ h1, hkeep _ _ h2, h3, h4, h5, h6⟩

set_option maxHeartbeats 2000000 in
set_option maxRecDepth 100000 in
theorem floored_rest (na : Bool) (va vb : Value) (xa xb : List Nat) (w : World) (ha : Reads .u32 w va xa) (hb : Reads .u32 w vb xb) (hka : Canon xa) (hkb : Canon xb) (la : xa.length ≤ 90000) (lb : xb.length ≤ 90000) (hb0 : 0 < val xb) (hz : val xa % val xb ≠ 0)
    (hdiv : ∀ W, Below w.heap.size w W → Calls Tryz.prog 78 #[va, vb] W fun e W' => DivRes W W' xa xb e) :
    Calls Tryz.prog 46 #[.agg #[.bool na, va], .agg #[.bool (!na), vb]] w fun e w' => Below w.heap.size w w' ∧ ∃ q r cs rs, e = .returned (.tuple #[.agg #[.bool (decide (0 < cs.length)), q], .agg #[.bool ((!na) && decide (0 < rs.length)), r]]) ∧ Reads .u32 w' q cs ∧ Reads .u32 w' r rs ∧ Canon cs ∧ Canon rs ∧ val cs = val xa / val xb + 1 ∧ val rs = val xb - val xa % val xb := by
  have f0 := Flo.start w na (!na) va vb
  obtain ⟨aa, ca, rfl, hca, hma⟩ := ha.form
  obtain ⟨ab, cb, rfl, hcb, hmb⟩ := hb.form
  have F0 := Lib.hid f0
  clear f0
  go_enter Tryz.func46, Tryz.ntmps46
  go_wp2_with (first | (go_at_call 78; refine (hdiv _ F0.out.below).mono ?_; rintro e w1 ⟨hbe1, q, r, cs, rs, rfl, h1, h2, h3, h4, h5, h6⟩; have f1 := F0.out.step hbe1; clear hbe1; obtain ⟨aq, cq, rfl, hcq, hmq⟩ := h1.form; obtain ⟨ar, cr, rfl, hcr, hmr⟩ := h2.form; obtain ⟨p1, p2, p3, p4⟩ := f1.cells; have hrs : 0 < rs.length := (canon_pos_iff h4).1 (by rw [h6]; exact Nat.pos_of_ne_zero hz); have hvr : val rs ≤ val xb := (by rw [h6]; exact Nat.le_of_lt (Nat.mod_lt _ hb0)); have hlr : rs.length ≤ xb.length := canon_le_length hkb h4 hvr; have hlc : cs.length ≤ 100000 := (Nat.le_trans (canon_le_length hka h3 (by rw [h5]; exact Nat.div_le_self _ _)) (by omega))) | (go_at_call 80; refine (one_any _).mono ?_; rintro e w5 ⟨hb5, v5, rfl, g5⟩; obtain ⟨a5, c5, rfl, hc5, hm5⟩ := g5.form) | (go_at_call 79; go_loud (refine (plus_any _ _ cs [1] _ (h1.below hb5) g5 h3.1 (by intro x hx; simp at hx; subst hx; decide) hlc (by simp)).mono ?_); rintro e w6 ⟨hb6, v6, cs6, rfl, g6, k6, e6⟩; obtain ⟨a6, c6, rfl, hc6, hm6⟩ := g6.form; have f6 := (f1.step hb5).step hb6; obtain ⟨p1, p2, p3, p4⟩ := f6.cells) | (go_at_call 81; go_loud (refine (minus_any _ _ xb rs _ (hb.below f6.below) (h2.below (hb5.trans (hb6.mono hb5.size))) hkb.1 h4.1 (by omega) hlr hvr).mono ?_); rintro e w7 ⟨hb7, v7, rs7, rfl, g7, k7, e7⟩; obtain ⟨a7, c7, rfl, hc7, hm7⟩ := g7.form; have f7 := f6.step hb7; obtain ⟨p1, p2, p3, p4⟩ := f7.cells; have g6' := g6.below hb7; clear hb5 hb6 hb7))
  go_region_held3 (fun W => W.cell? ⟨w.heap.size, 0, none⟩ = some (.bool na) ∧ W.cell? ⟨w.heap.size, 1, none⟩ = some (.slice aa xa.length ca) ∧ W.cell? ⟨w.heap.size + 1, 0, none⟩ = some (.bool (!na)) ∧ W.cell? ⟨w.heap.size + 1, 1, none⟩ = some (.slice ab xb.length cb) ∧ Flo w na (!na) (.slice aa xa.length ca) (.slice ab xb.length cb) W ∧ KeepR w7 W)
    (first | exact ⟨p1, p2, p3, p4, f7.drew, fun _ _ h => h⟩ | (go_split_ands; with_reducible refine floS_storeQ ?_ ?_ _ _ _ _ <;> assumption) | (go_split_ands; with_reducible refine floS_storeR ?_ ?_ _ _ _ _ <;> assumption) | (go_split_ands; exact floS_step (by assumption) (by assumption) (by assumption)))
    (first | (go_at_call 51; go_split_ands; refine (signed_any _ _ _ _ _).mono ?_; rintro e w2 ⟨hbe2, rfl⟩; obtain ⟨n0, a0, m0, c0, n9, a9, m9, c9, o1, o2, o3, o4, o5, o6, o7, o8⟩ := Flo.outs (Flo.step (by assumption) hbe2)))
  rename_i hT
  obtain ⟨s1, s2, s3, s4⟩ := four_reads (b := w.heap.size + 1 + 1) o1 o2 o3 o4 (.bool (decide (0 < cs6.length))) (.slice a6 cs6.length c6) (.bool ((!na) && decide (0 < rs7.length))) (.slice a7 rs7.length c7)
  have hlow := hT.2.2.2.2.1.below
  have hkeep := hT.2.2.2.2.2
  go_wp2
  exact bodyPost_ret (v := .tuple #[.agg #[.bool (decide (0 < cs6.length)), .slice a6 cs6.length c6], .agg #[.bool ((!na) && decide (0 < rs7.length)), .slice a7 rs7.length c7]]) (by simp [results, Tryz.results46, go_sem, loadCellsFrom, s1, s2, s3, s4]) rfl
    ⟨hlow, _, _, cs6, rs7, rfl, hkeep _ _ g6', hkeep _ _ g7, k6, k7, by rw [e6, h5]; simp [val], by rw [e7, h6]⟩

end Go.Proofs.YtlghjfpkfdnfoaaGreatDoor
