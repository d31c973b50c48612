/- num.Mul where one factor has fewer than 80 limbs -/
import Derived.Test.YtlghjfpkfdnfoaaDoorNumMDivideSmall
import Derived.Test.YtlghjfpkfdnfoaaDoorNumMSub
import Derived.Test.YtlghjfpkfdnfoaaDoorNumMRangeSt
import Derived.Deep.RegionHeld3
import Derived.Test.YtlghjfpkfdnfoaaDoorNumMRefDigits
import Derived.Test.YtlghjfpkfdnfoaaDoorNumMCheck
namespace Go.Proofs.YtlghjfpkfdnfoaaDoor
open Go Go.RowKit Go.Shelf

set_option maxHeartbeats 1000000 in
set_option maxRecDepth 100000 in
theorem Mul_any (k : Nat) (hk : k < 80) (a b : Value) (na nb : Bool) (xa xb : List Nat) (w : World) (ha : IntAt w a na xa) (hb : IntAt w b nb xb) (hs : (sgn na (val xa)).natAbs < B32 ^ k ∨ (sgn nb (val xb)).natAbs < B32 ^ k) :
    Calls Tryd.prog 30 #[a, b] w fun e w' => Below w.heap.size w w' ∧ ∃ v k, e = .returned (.tuple #[v, .int .i64 k]) ∧ RingRes (formedB na xa) (formedB nb xb) (sgn na (val xa) * sgn nb (val xb)) k w' v := by
  have key := fun w2 (hb2 : Below w.heap.size w w2) => ring_any 69 a b na nb xa xb w2 (ha.below hb2) (hb.below hb2) (sgn na (val xa) * sgn nb (val xb)) (fun W args => by simp [go_sem])
    (fun fa fb W hW => product_le a b _ _ k 300 W (((ha.below hb2).isInt fa).below hW) (((hb.below hb2).isInt fb).below hW) hk (by omega) (ha.natAbs_lt fa) (hb.natAbs_lt fb) hs)
  obtain ⟨va, rfl, hra, hla⟩ := ha
  obtain ⟨vb, rfl, hrb, hlb⟩ := hb
  obtain ⟨aa, ca, rfl, hca, hma⟩ := hra.form
  obtain ⟨ab, cb, rfl, hcb, hmb⟩ := hrb.form
  have bw := ((((Below.refl w.heap.size w).alloc (Nat.le_refl _) (.cells #[.bool na, .slice aa xa.length ca] 24)).alloc (by simp) (.cells #[.bool nb, .slice ab xb.length cb] 24)).alloc (by simp; omega) (.cells #[.bool false, .slice none 0 0] 24))
  have q3 := RowAt.new ((w.alloc (.cells #[.bool na, .slice aa xa.length ca] 24)).alloc (.cells #[.bool nb, .slice ab xb.length cb] 24)) 24 [.bool false, .slice none 0 0]
  simp only [World.size_alloc] at q3
  go_enter Tryd.func30, Tryd.ntmps30
  go_wp2_with (refine (key _ bw).mono ?_; rintro e w1 ⟨hbe1, v, k, rfl, hres⟩; obtain ⟨n, a, m, c, rfl⟩ := hres.form; have q4 := q3.below hbe1; have s1 := q4.cell 0; have s2 := q4.cell 1; have s3 := q4.frozen 0; have s4 := q4.frozen 1; simp only [List.getElem?_cons_zero, List.getElem?_cons_succ] at s1 s2)
  obtain ⟨u1, u2⟩ := two_reads (b := w.heap.size + 1 + 1) s1 s2 (.bool n) (.slice a m c)
  have hkeep : ∀ v xs, Reads .u32 w1 v xs → Reads .u32 ((w1.setCell ⟨w.heap.size + 1 + 1, 0, none⟩ (.bool n)).setCell ⟨w.heap.size + 1 + 1, 1, none⟩ (.slice a m c)) v xs :=
    fun v xs h => two_kept (b := w.heap.size + 1 + 1) h s1 s2 _ _
  refine bodyPost_ret (v := .tuple #[.agg #[.bool n, .slice a m c], .int .i64 k]) (by simp [results, Tryd.results30, go_sem, loadCellsFrom, u1, u2]) rfl ⟨?_, _, k, rfl, hres.keep hkeep⟩
  have hb9 : Below w.heap.size w w1 := bw.trans (hbe1.mono bw.size)
  exact (hb9.setCell (by simp; omega) _).setCell (by simp; omega) _

set_option exponentiation.threshold 400 in
/-- the three operations of the ring, at values -/
theorem ring_value {fa fb : Bool} {r k : Int} {W : World} {v : Value} (h : RingRes fa fb r k W v) (ha : fa = true) (hb : fb = true) (hr : r.natAbs < B32 ^ 300) : k = 0 ∧ IsInt W v r := by
  unfold RingRes at h
  rw [ha, hb, if_pos (by rfl), if_pos hr] at h
  exact h
set_option exponentiation.threshold 400 in
theorem sub_int (va vb : Value) (i j : Int) (w : World) (ha : IsInt w va i) (hb : IsInt w vb j) (hi : i.natAbs < B32 ^ 300) (hj : j.natAbs < B32 ^ 300) (hr : (i - j).natAbs < B32 ^ 300) :
    Calls Tryd.prog 29 #[va, vb] w fun e w' => Below w.heap.size w w' ∧ ∃ v, e = .returned (.tuple #[v, .int .i64 0]) ∧ IsInt w' v (i - j) := by
  obtain ⟨na, xa, hA, fa, rfl, -, -⟩ := ha.at hi
  obtain ⟨nb, xb, hB, fb, rfl, -, -⟩ := hb.at hj
  refine (Sub_any va vb na nb xa xb w hA hB).mono ?_
  rintro e w2 ⟨h1, v, k, rfl, h2⟩
  obtain ⟨rfl, h3⟩ := ring_value h2 fa fb hr
  exact ⟨h1, v, rfl, h3⟩
set_option exponentiation.threshold 400 in
theorem sum_int (va vb : Value) (i j : Int) (w : World) (ha : IsInt w va i) (hb : IsInt w vb j) (hi : i.natAbs < B32 ^ 300) (hj : j.natAbs < B32 ^ 300) (hr : (i + j).natAbs < B32 ^ 300) :
    Calls Tryd.prog 28 #[va, vb] w fun e w' => Below w.heap.size w w' ∧ ∃ v, e = .returned (.tuple #[v, .int .i64 0]) ∧ IsInt w' v (i + j) := by
  obtain ⟨na, xa, hA, fa, rfl, -, -⟩ := ha.at hi
  obtain ⟨nb, xb, hB, fb, rfl, -, -⟩ := hb.at hj
  refine (Add_any va vb na nb xa xb w hA hB).mono ?_
  rintro e w2 ⟨h1, v, k, rfl, h2⟩
  obtain ⟨rfl, h3⟩ := ring_value h2 fa fb hr
  exact ⟨h1, v, rfl, h3⟩
set_option exponentiation.threshold 400 in
theorem mul_int (m : Nat) (hm : m < 80) (va vb : Value) (i j : Int) (w : World) (ha : IsInt w va i) (hb : IsInt w vb j) (hi : i.natAbs < B32 ^ 300) (hj : j.natAbs < B32 ^ 300) (hs : i.natAbs < B32 ^ m ∨ j.natAbs < B32 ^ m) (hr : (i * j).natAbs < B32 ^ 300) :
    Calls Tryd.prog 30 #[va, vb] w fun e w' => Below w.heap.size w w' ∧ ∃ v, e = .returned (.tuple #[v, .int .i64 0]) ∧ IsInt w' v (i * j) := by
  obtain ⟨na, xa, hA, fa, rfl, -, -⟩ := ha.at hi
  obtain ⟨nb, xb, hB, fb, rfl, -, -⟩ := hb.at hj
  refine (Mul_any m hm va vb na nb xa xb w hA hB hs).mono ?_
  rintro e w2 ⟨h1, v, k, rfl, h2⟩
  obtain ⟨rfl, h3⟩ := ring_value h2 fa fb hr
  exact ⟨h1, v, rfl, h3⟩

end Go.Proofs.YtlghjfpkfdnfoaaDoor

/- num.product and num.Mul at every length -/
namespace Go.Proofs.YtlghjfpkfdnfoaaDoor
open Go Go.RowKit Go.Shelf

set_option maxHeartbeats 1000000 in
set_option maxRecDepth 100000 in
theorem product_any (na nb : Bool) (va vb : Value) (xa xb : List Nat) (w : World) (ha : Reads .u32 w va xa) (hb : Reads .u32 w vb xb) (hla : Limbs xa) (hlb : Limbs xb) (la : xa.length ≤ 40000) (lb : xb.length ≤ 40000) :
    Calls Tryd.prog 69 #[.agg #[.bool na, va], .agg #[.bool nb, vb]] w fun e w' => Below w.heap.size w w' ∧ ∃ v cs, e = .returned (.agg #[.bool ((na != nb) && decide (0 < cs.length)), v]) ∧ Reads .u32 w' v cs ∧ Canon cs ∧ val cs = val xa * val xb := by
  have h0 := twoInts_start (na := na) (nb := nb) ha hb
  obtain ⟨aa, ca, rfl, hca, hma⟩ := ha.form
  obtain ⟨ab, cb, rfl, hcb, hmb⟩ := hb.form
  have H0 := Lib.hid h0
  clear h0
  go_enter Tryd.func69, Tryd.ntmps69
  go_wp2_with fail
  go_region_held3 (fun W => W.cell? ⟨w.heap.size, 0, none⟩ = some (.bool na) ∧ W.cell? ⟨w.heap.size, 1, none⟩ = some (.slice aa xa.length ca) ∧ W.cell? ⟨w.heap.size + 1, 0, none⟩ = some (.bool nb) ∧ W.cell? ⟨w.heap.size + 1, 1, none⟩ = some (.slice ab xb.length cb) ∧ TwoRest w (.slice aa xa.length ca) (.slice ab xb.length cb) xa xb W)
    (first | exact ⟨H0.out.1, H0.out.2.1, H0.out.2.2.1, H0.out.2.2.2.1, H0.out.2.2.2.2.drew⟩ | (go_split_ands; exact twoInts_step (by assumption) (by assumption) (by assumption) (by assumption) (by assumption) (by assumption)) | (go_split_ands; exact twoInts_store (by assumption) (by assumption) (by assumption) (by assumption) (by assumption) _ _ _ _))
    (first | (go_at_call 104; go_split_ands; refine (times_any _ _ xa xb _ (TwoRest.ra (by assumption)) (TwoRest.rb (by assumption)) hla hlb la lb).mono ?_; rintro e w' ⟨hbe, v, cs, rfl, h1, h2, h3⟩; obtain ⟨a3, c3, rfl, hc3, hm3⟩ := h1.form) | (go_at_call 63; go_split_ands; refine (signed_any _ _ _ _ _).mono ?_; rintro e w'' ⟨hbe2, rfl⟩; obtain ⟨u0, u1, u2, u3, q1, q2, q3, q4⟩ := TwoRest.cells (TwoRest.step (by assumption) hbe2)))
  obtain ⟨s1, s2⟩ := two_reads (b := w.heap.size + 1 + 1) q1 q2 (.bool (!na == nb && decide (0 < cs.length))) (.slice a3 cs.length c3)
  have hk := two_kept (b := w.heap.size + 1 + 1) (h1.below hbe2) q1 q2 (.bool (!na == nb && decide (0 < cs.length))) (.slice a3 cs.length c3)
  rename_i hT
  replace hT := hT.2.2.2.2.below
  go_wp2
  refine bodyPost_ret (v := .agg #[.bool (!na == nb && decide (0 < cs.length)), .slice a3 cs.length c3]) (by simp [results, Tryd.results69, go_sem, loadCellsFrom, s1, s2]) rfl ⟨hT, _, cs, ?_, hk, h2, h3⟩
  cases na <;> cases nb <;> rfl

theorem product_all (a b : Value) (i j : Int) (L : Nat) (w : World) (ha : IsInt w a i) (hb : IsInt w b j) (hL : L ≤ 40000) (hi : i.natAbs < B32 ^ L) (hj : j.natAbs < B32 ^ L) :
    Calls Tryd.prog 69 #[a, b] w fun e w' => Below w.heap.size w w' ∧ ∃ v, e = .returned v ∧ IsInt w' v (i * j) := by
  obtain ⟨na, va, xa, rfl, hra, hca, hna, rfl⟩ := ha
  obtain ⟨nb, vb, xb, rfl, hrb, hcb, hnb, rfl⟩ := hb
  rw [sgn_natAbs] at hi hj
  have la := canon_length_le hca hi
  have lb := canon_length_le hcb hj
  refine (product_any na nb va vb xa xb w hra hrb hca.1 hcb.1 (by omega) (by omega)).mono ?_
  rintro e w' ⟨hbe, v, cs, rfl, h1, h2, h3⟩
  exact ⟨hbe, _, rfl, isInt_mk _ h1 h2 (by rw [h3]; cases na <;> cases nb <;> simp [sgn, Int.neg_mul, Int.mul_neg])⟩

set_option maxHeartbeats 1000000 in
set_option maxRecDepth 100000 in
theorem Mul_all (a b : Value) (na nb : Bool) (xa xb : List Nat) (w : World) (ha : IntAt w a na xa) (hb : IntAt w b nb xb) :
    Calls Tryd.prog 30 #[a, b] w fun e w' => Below w.heap.size w w' ∧ ∃ v k, e = .returned (.tuple #[v, .int .i64 k]) ∧ RingRes (formedB na xa) (formedB nb xb) (sgn na (val xa) * sgn nb (val xb)) k w' v := by
  have key := fun w2 (hb2 : Below w.heap.size w w2) => ring_any 69 a b na nb xa xb w2 (ha.below hb2) (hb.below hb2) (sgn na (val xa) * sgn nb (val xb)) (fun W args => by simp [go_sem])
    (fun fa fb W hW => product_all a b _ _ 300 W (((ha.below hb2).isInt fa).below hW) (((hb.below hb2).isInt fb).below hW) (by omega) (ha.natAbs_lt fa) (hb.natAbs_lt fb))
  obtain ⟨va, rfl, hra, hla⟩ := ha
  obtain ⟨vb, rfl, hrb, hlb⟩ := hb
  obtain ⟨aa, ca, rfl, hca, hma⟩ := hra.form
  obtain ⟨ab, cb, rfl, hcb, hmb⟩ := hrb.form
  have bw := ((((Below.refl w.heap.size w).alloc (Nat.le_refl _) (.cells #[.bool na, .slice aa xa.length ca] 24)).alloc (by simp) (.cells #[.bool nb, .slice ab xb.length cb] 24)).alloc (by simp; omega) (.cells #[.bool false, .slice none 0 0] 24))
  have q3 := RowAt.new ((w.alloc (.cells #[.bool na, .slice aa xa.length ca] 24)).alloc (.cells #[.bool nb, .slice ab xb.length cb] 24)) 24 [.bool false, .slice none 0 0]
  simp only [World.size_alloc] at q3
  go_enter Tryd.func30, Tryd.ntmps30
  go_wp2_with (refine (key _ bw).mono ?_; rintro e w1 ⟨hbe1, v, k, rfl, hres⟩; obtain ⟨n, a, m, c, rfl⟩ := hres.form; have q4 := q3.below hbe1; have s1 := q4.cell 0; have s2 := q4.cell 1; have s3 := q4.frozen 0; have s4 := q4.frozen 1; simp only [List.getElem?_cons_zero, List.getElem?_cons_succ] at s1 s2)
  obtain ⟨u1, u2⟩ := two_reads (b := w.heap.size + 1 + 1) s1 s2 (.bool n) (.slice a m c)
  have hkeep : ∀ v xs, Reads .u32 w1 v xs → Reads .u32 ((w1.setCell ⟨w.heap.size + 1 + 1, 0, none⟩ (.bool n)).setCell ⟨w.heap.size + 1 + 1, 1, none⟩ (.slice a m c)) v xs :=
    fun v xs h => two_kept (b := w.heap.size + 1 + 1) h s1 s2 _ _
  refine bodyPost_ret (v := .tuple #[.agg #[.bool n, .slice a m c], .int .i64 k]) (by simp [results, Tryd.results30, go_sem, loadCellsFrom, u1, u2]) rfl ⟨?_, _, k, rfl, hres.keep hkeep⟩
  have hb9 : Below w.heap.size w w1 := bw.trans (hbe1.mono bw.size)
  exact (hb9.setCell (by simp; omega) _).setCell (by simp; omega) _

set_option exponentiation.threshold 400 in
theorem mul_all (va vb : Value) (i j : Int) (w : World) (ha : IsInt w va i) (hb : IsInt w vb j) (hi : i.natAbs < B32 ^ 300) (hj : j.natAbs < B32 ^ 300) (hr : (i * j).natAbs < B32 ^ 300) :
    Calls Tryd.prog 30 #[va, vb] w fun e w' => Below w.heap.size w w' ∧ ∃ v, e = .returned (.tuple #[v, .int .i64 0]) ∧ IsInt w' v (i * j) := by
  obtain ⟨na, xa, hA, fa, rfl, -, -⟩ := ha.at hi
  obtain ⟨nb, xb, hB, fb, rfl, -, -⟩ := hb.at hj
  refine (Mul_all va vb na nb xa xb w hA hB).mono ?_
  rintro e w2 ⟨h1, v, k, rfl, h2⟩
  obtain ⟨rfl, h3⟩ := ring_value h2 fa fb hr
  exact ⟨h1, v, rfl, h3⟩

end Go.Proofs.YtlghjfpkfdnfoaaDoor

/- num.Bits, zermeloref01.Bits -/
namespace Go.Proofs.YtlghjfpkfdnfoaaDoor
open Go Go.RowKit Go.Shelf

set_option maxHeartbeats 1000000 in
set_option maxRecDepth 100000 in
theorem Bits_any (va : Value) (na : Bool) (xs : List Nat) (w : World) (ha : IntAt w va na xs) (hn : xs.length ≤ 100000) :
    Calls Tryd.prog 21 #[va] w fun e w' => Below w.heap.size w w' ∧ e = .returned (.tuple #[.int .i64 (if formedB na xs = true then (bitsOf xs : Int) else 0), .int .i64 (if formedB na xs = true then 0 else 1)]) := by
  have k1 := fun w2 (hb2 : Below w.heap.size w w2) (f : formedB na xs = true) => check_ok va na xs w2 (ha.below hb2) f
  have k2 := fun w2 (hb2 : Below w.heap.size w w2) (f : formedB na xs = false) => check_no va na xs w2 (ha.below hb2) f
  obtain ⟨sa, rfl, hra, hla⟩ := ha
  obtain ⟨aa, ca, rfl, hlca, hma⟩ := hra.form
  have b0 := (Below.refl w.heap.size w).alloc (Nat.le_refl _) (.cells #[.bool na, .slice aa xs.length ca] 24)
  have rr := RowAt.new w 24 [.bool na, .slice aa xs.length ca]
  cases f : formedB na xs with
  | true =>
    have key := k1 _ b0 f
    have bl := fun w2 (hb2 : Below w.heap.size w w2) => bitLen_any (.slice aa xs.length ca) xs w2 (hra.below hb2) hla hn
    clear k1 k2
    go_enter Tryd.func21, Tryd.ntmps21
    go_wp2_with (first
      | (go_at_call 17; refine key.mono ?_; rintro e w2 ⟨hbe, rfl⟩; have bw := b0.trans (hbe.mono b0.size); have c2 := (rr.below hbe).cell 1; simp only [List.getElem?_cons_zero, List.getElem?_cons_succ] at c2; have bl2 := bl _ bw)
      | (go_at_call 55; refine bl2.mono ?_; rintro e w3 ⟨rfl, rfl⟩))
    go_ret2
    exact ⟨bw, rfl⟩
  | false =>
    have key := k2 _ b0 f
    clear k1 k2
    go_enter Tryd.func21, Tryd.ntmps21
    go_wp2_with (first
      | (go_at_call 17; refine key.mono ?_; rintro e w2 ⟨hbe, rfl⟩; have bw := b0.trans (hbe.mono b0.size)))
    go_ret2
    exact ⟨bw, rfl⟩

end Go.Proofs.YtlghjfpkfdnfoaaDoor

/- zermeloref01.Bits, limb, To -/
namespace Go.Proofs.YtlghjfpkfdnfoaaDoor
open Go Go.RowKit Go.Shelf

set_option maxHeartbeats 1000000 in
set_option maxRecDepth 100000 in
theorem rbits_any (va : Value) (na : Bool) (xs : List Nat) (w : World) (ha : IntAt w va na xs) (hn : xs.length ≤ 100000) :
    Calls Tryd.prog 22 #[va] w fun e w' => Below w.heap.size w w' ∧ e = .returned (.agg #[.int .i64 (if formedB na xs = true then (bitsOf xs : Int) else 0), .int .i64 (if formedB na xs = true then 0 else 1)]) := by
  have k1 := fun w2 (hb2 : Below w.heap.size w w2) => rformed_any va na xs w2 (ha.below hb2)
  have k2 := fun w2 (hb2 : Below w.heap.size w w2) (f : formedB na xs = true) => digits_any va na xs w2 (ha.below hb2) (by obtain ⟨sa, -, -, hla⟩ := ha; exact (formedB_canon f hla).1) hn
  obtain ⟨sa, rfl, hra, hla⟩ := ha
  obtain ⟨aa, ca, rfl, hlca, hma⟩ := hra.form
  have b0 := ((Below.refl w.heap.size w).alloc (Nat.le_refl _) (.cells #[.bool na, .slice aa xs.length ca] 24)).alloc (by simp) (.cells #[.int .i64 0, .int .i64 0] 34)
  have rr := RowAt.new (w.alloc (.cells #[.bool na, .slice aa xs.length ca] 24)) 34 [.int .i64 0, .int .i64 0]
  have ra := (RowAt.new w 24 [.bool na, .slice aa xs.length ca]).alloc (.cells #[.int .i64 0, .int .i64 0] 34)
  simp only [World.size_alloc] at rr
  have key := k1 _ b0
  cases f : formedB na xs with
  | true =>
    rw [f] at key
    have k3 := fun w2 (hb2 : Below w.heap.size w w2) => k2 w2 hb2 f
    clear k1 k2
    go_enter Tryd.func22, Tryd.ntmps22
    go_wp2_with (first
      | (go_at_call 19; refine key.mono ?_; rintro e w2 ⟨hbe, rfl⟩; have bw := b0.trans (hbe.mono b0.size); have c1 := (ra.below hbe).cell 0; have c2 := (ra.below hbe).cell 1; simp only [List.getElem?_cons_zero, List.getElem?_cons_succ] at c1 c2; have k4 := k3 _ bw; have rr2 := rr.below hbe)
      | (go_at_call 56; refine k4.mono ?_; rintro e w3 ⟨hbe3, rfl⟩; have bw3 := bw.trans (hbe3.mono bw.size); have q := rr2.below hbe3; have s1 := q.cell 0; have s2 := q.cell 1; have s3 := q.frozen 0; have s4 := q.frozen 1; simp only [List.getElem?_cons_zero, List.getElem?_cons_succ] at s1 s2))
    obtain ⟨u1, u2⟩ := two_reads (b := w.heap.size + 1) s1 s2 (.int .i64 (bitsOf xs)) (.int .i64 0)
    refine bodyPost_ret (v := .agg #[.int .i64 (bitsOf xs), .int .i64 0]) (by simp [results, Tryd.results22, go_sem, loadCellsFrom, u1, u2]) rfl ⟨?_, rfl⟩
    exact (bw3.setCell (by simp) _).setCell (by simp) _
  | false =>
    rw [f] at key
    clear k1 k2
    go_enter Tryd.func22, Tryd.ntmps22
    go_wp2_with (first
      | (go_at_call 19; refine key.mono ?_; rintro e w2 ⟨hbe, rfl⟩; have bw := b0.trans (hbe.mono b0.size); have q := rr.below hbe; have s1 := q.cell 0; have s2 := q.cell 1; have s3 := q.frozen 0; have s4 := q.frozen 1; simp only [List.getElem?_cons_zero, List.getElem?_cons_succ] at s1 s2))
    obtain ⟨u1, u2⟩ := two_reads (b := w.heap.size + 1) s1 s2 (.int .i64 0) (.int .i64 1)
    refine bodyPost_ret (v := .agg #[.int .i64 0, .int .i64 1]) (by simp [results, Tryd.results22, go_sem, loadCellsFrom, u1, u2]) rfl ⟨?_, rfl⟩
    exact (bw.setCell (by simp) _).setCell (by simp) _

set_option maxHeartbeats 1000000 in
set_option maxRecDepth 100000 in
theorem limb_any (va : Value) (xs : List Nat) (i : Nat) (w : World) (ha : Reads .u32 w va xs) (hl : Limbs xs) :
    Calls Tryd.prog 62 #[va, .int .i64 i] w fun e w' => w = w' ∧ e = .returned (.int .u64 ((xs[i]?.getD 0 : Nat) : Int)) := by
  obtain ⟨aa, ca, rfl, hlca, hma⟩ := ha.form
  by_cases h : i < xs.length
  · have hd : decide ((i : Int) < (xs.length : Int)) = true := by simp <;> omega
    have i1 := fun W => ha.index und_limbs size_limb (P := Tryd.prog) i .i64 W h
    have d1 := ha.cell i h
    have hx := limb_getD hl i
    generalize xs[i]?.getD 0 = x at *
    have hw : IntKind.u64.wrap (x : Int) = x := by
      unfold B32 at hx
      simp [IntKind.wrap, IntKind.bits, IntKind.signed]
      omega
    clear hx
    go_enter Tryd.func62, Tryd.ntmps62
    go_wp2
    go_ret
    exact ⟨rfl, rfl⟩
  · have hd : decide ((i : Int) < (xs.length : Int)) = false := by simp <;> omega
    rw [List.getElem?_eq_none (by omega)]
    go_enter Tryd.func62, Tryd.ntmps62
    go_wp2
    go_ret
    exact ⟨rfl, rfl⟩

/-- what To tells: the number and the error -/
def toRes (na : Bool) (xs : List Nat) : Int × Int :=
  if formedB na xs = true then
    if xs.length ≤ 2 then
      if na = true then (if val xs ≤ 9223372036854775808 then (-(val xs : Int), 0) else (0, 3))
      else (if val xs < 9223372036854775808 then ((val xs : Int), 0) else (0, 3))
    else (0, 3)
  else (0, 1)
theorem val_pair {xs : List Nat} (h : xs.length ≤ 2) : (val xs : Int) = ((xs[1]?.getD 0 : Nat) : Int) * 4294967296 + ((xs[0]?.getD 0 : Nat) : Int) := by
  match xs, h with
  | [], _ => simp [val]
  | [x], _ => simp [val]
  | [x, y], _ => simp [val, B32]; omega

theorem row_drewN {W : World} {b : Nat} {t : TypeId} {cs : List Value} (h : RowAt W b t cs) (n : Nat) : RowAt (W.drewN n) b t cs := h.below (below_drewN (Below.refl _ _) n)

set_option maxHeartbeats 1000000 in
set_option maxRecDepth 100000 in
theorem rto_small (na : Bool) (aa : Option Addr) (ca : Nat) (xs : List Nat) (w : World) (hra : Reads .u32 w (.slice aa xs.length ca) xs) (hla : Limbs xs) (f : formedB na xs = true) (h2 : xs.length ≤ 2) :
    Calls Tryd.prog 24 #[.agg #[.bool na, .slice aa xs.length ca]] w fun e w' => Below w.heap.size w w' ∧ e = .returned (.agg #[.int .i64 (toRes na xs).1, .int .i64 (toRes na xs).2]) := by
  have b0 := ((Below.refl w.heap.size w).alloc (Nat.le_refl _) (.cells #[.bool na, .slice aa xs.length ca] 24)).alloc (by simp) (.cells #[.int .i64 0, .int .i64 0] 34)
  have rr := RowAt.new (w.alloc (.cells #[.bool na, .slice aa xs.length ca] 24)) 34 [.int .i64 0, .int .i64 0]
  have ra := (RowAt.new w 24 [.bool na, .slice aa xs.length ca]).alloc (.cells #[.int .i64 0, .int .i64 0] 34)
  simp only [World.size_alloc] at rr
  have key := rformed_any (.agg #[.bool na, .slice aa xs.length ca]) na xs _ ⟨_, rfl, hra.below b0, hla⟩
  rw [f] at key
  have L0 : ∀ W, Reads .u32 W (.slice aa xs.length ca) xs → Calls Tryd.prog 62 #[.slice aa xs.length ca, .int .i64 0] W fun e w' => W = w' ∧ e = .returned (.int .u64 ((xs[0]?.getD 0 : Nat) : Int)) := fun W h => limb_any (.slice aa xs.length ca) xs 0 W h hla
  have L1 : ∀ W, Reads .u32 W (.slice aa xs.length ca) xs → Calls Tryd.prog 62 #[.slice aa xs.length ca, .int .i64 1] W fun e w' => W = w' ∧ e = .returned (.int .u64 ((xs[1]?.getD 0 : Nat) : Int)) := fun W h => limb_any (.slice aa xs.length ca) xs 1 W h hla
  have hv := val_pair h2
  have hl0 := limb_getD hla 0
  have hl1 := limb_getD hla 1
  unfold B32 at hl0 hl1
  have hd : decide ((2 : Int) < (xs.length : Int)) = false := by simp <;> omega
  generalize xs[0]?.getD 0 = x0 at *
  generalize xs[1]?.getD 0 = x1 at *
  have hT : toRes na xs = if na = true then (if val xs ≤ 9223372036854775808 then (-(val xs : Int), 0) else (0, 3)) else (if val xs < 9223372036854775808 then ((val xs : Int), 0) else (0, 3)) := by
    rw [toRes, if_pos f, if_pos h2]
  generalize toRes na xs = R at *
  generalize val xs = u at *
  have HR := Lib.hid hT
  obtain ⟨m, hm⟩ : ∃ m : Int, (x1 : Int) * 4294967296 = m := ⟨_, rfl⟩
  have t1 : IntKind.u64.wrap ((x1 : Int) * 4294967296) = m := by
    rw [hm]
    simp [IntKind.wrap, IntKind.bits, IntKind.signed]
    omega
  have t2 : IntKind.u64.wrap (m + (x0 : Int)) = (u : Int) := by
    simp [IntKind.wrap, IntKind.bits, IntKind.signed]
    omega
  have HV := Lib.hid (And.intro hv (And.intro hl0 (And.intro hl1 hm)))
  clear hT hv hl0 hl1 hm
  go_enter Tryd.func24, Tryd.ntmps24
  go_wp2_with (first
      | (go_at_call 19; refine key.mono ?_; rintro e w2 ⟨hbe, rfl⟩; have bw := b0.trans (hbe.mono b0.size); have c1 := (ra.below hbe).cell 0; have c2 := (ra.below hbe).cell 1; have q := rr.below hbe; have s1 := q.cell 0; have s2 := q.cell 1; have s3 := q.frozen 0; have s4 := q.frozen 1; simp only [List.getElem?_cons_zero, List.getElem?_cons_succ] at c1 c2 s1 s2; have hr2 := hra.below bw))
  go_quiet (first
      | (go_at_call 62; with_reducible refine (L0 _ (hr2.drewN _)).mono ?_; exact fun e w' h => ⟨h.2, _, h.1.symm⟩)
      | (go_at_call 62; with_reducible refine (L1 _ (hr2.drewN _)).mono ?_; exact fun e w' h => ⟨h.2, _, h.1.symm⟩))
  have q3 := row_drewN q nq
  have ra3 := row_drewN (ra.below hbe) nq
  have bw3 := below_drewN bw nq
  generalize w2.drewN nq = W3 at *
  clear key L0 L1 hr2 c1 c2 s1 s2 s3 s4 q hbe bw t1 t2
  have c1 := ra3.cell 0
  have s1 := q3.cell 0
  have s2 := q3.cell 1
  have s3 := q3.frozen 0
  have s4 := q3.frozen 1
  simp only [List.getElem?_cons_zero, List.getElem?_cons_succ] at c1 s1 s2
  have fin := fun x y => two_reads (b := w.heap.size + 1) s1 s2 x y
  cases na with
  | true =>
    by_cases hu : u ≤ 9223372036854775808
    · have hd1 : decide ((u : Int) ≤ 9223372036854775808) = true := by simp <;> omega
      obtain ⟨y, hy⟩ : ∃ y, IntKind.u64.wrap (-(u : Int)) = y := ⟨_, rfl⟩
      have hz : IntKind.i64.wrap y = -(u : Int) := by
        rw [← hy]
        simp [IntKind.wrap, IntKind.bits, IntKind.signed]
        omega
      go_wp2
      obtain ⟨u1, u2⟩ := fin (.int .i64 (-(u : Int))) (.int .i64 0)
      refine bodyPost_ret (v := .agg #[.int .i64 (-(u : Int)), .int .i64 0]) (by simp [results, Tryd.results24, go_sem, loadCellsFrom, u1, u2]) rfl ⟨?_, by rw [HR.out]; simp [hu]⟩
      exact (bw3.setCell (by simp) _).setCell (by simp) _
    · have hd1 : decide ((u : Int) ≤ 9223372036854775808) = false := by simp <;> omega
      go_wp2
      obtain ⟨u1, u2⟩ := fin (.int .i64 0) (.int .i64 3)
      refine bodyPost_ret (v := .agg #[.int .i64 0, .int .i64 3]) (by simp [results, Tryd.results24, go_sem, loadCellsFrom, u1, u2]) rfl ⟨?_, by rw [HR.out]; simp [hu]⟩
      exact (bw3.setCell (by simp) _).setCell (by simp) _
  | false =>
    by_cases hu : u < 9223372036854775808
    · have hd1 : decide ((9223372036854775808 : Int) ≤ (u : Int)) = false := by simp <;> omega
      have hz : IntKind.i64.wrap (u : Int) = u := by
        simp [IntKind.wrap, IntKind.bits, IntKind.signed]
        omega
      go_wp2
      obtain ⟨u1, u2⟩ := fin (.int .i64 u) (.int .i64 0)
      refine bodyPost_ret (v := .agg #[.int .i64 u, .int .i64 0]) (by simp [results, Tryd.results24, go_sem, loadCellsFrom, u1, u2]) rfl ⟨?_, by rw [HR.out]; simp [hu]⟩
      exact (bw3.setCell (by simp) _).setCell (by simp) _
    · have hd1 : decide ((9223372036854775808 : Int) ≤ (u : Int)) = true := by simp <;> omega
      go_wp2
      obtain ⟨u1, u2⟩ := fin (.int .i64 0) (.int .i64 3)
      refine bodyPost_ret (v := .agg #[.int .i64 0, .int .i64 3]) (by simp [results, Tryd.results24, go_sem, loadCellsFrom, u1, u2]) rfl ⟨?_, by rw [HR.out]; simp [hu]⟩
      exact (bw3.setCell (by simp) _).setCell (by simp) _

set_option maxHeartbeats 1000000 in
set_option maxRecDepth 100000 in
theorem rto_any (va : Value) (na : Bool) (xs : List Nat) (w : World) (ha : IntAt w va na xs) :
    Calls Tryd.prog 24 #[va] w fun e w' => Below w.heap.size w w' ∧ e = .returned (.agg #[.int .i64 (toRes na xs).1, .int .i64 (toRes na xs).2]) := by
  have k1 := fun w2 (hb2 : Below w.heap.size w w2) => rformed_any va na xs w2 (ha.below hb2)
  obtain ⟨sa, rfl, hra, hla⟩ := ha
  obtain ⟨aa, ca, rfl, hlca, hma⟩ := hra.form
  cases f : formedB na xs with
  | true =>
    by_cases h2 : xs.length ≤ 2
    · exact rto_small na aa ca xs w hra hla f h2
    · have hT : toRes na xs = (0, 3) := by rw [toRes, if_pos f, if_neg h2]
      rw [hT]
      have b0 := ((Below.refl w.heap.size w).alloc (Nat.le_refl _) (.cells #[.bool na, .slice aa xs.length ca] 24)).alloc (by simp) (.cells #[.int .i64 0, .int .i64 0] 34)
      have rr := RowAt.new (w.alloc (.cells #[.bool na, .slice aa xs.length ca] 24)) 34 [.int .i64 0, .int .i64 0]
      have ra := (RowAt.new w 24 [.bool na, .slice aa xs.length ca]).alloc (.cells #[.int .i64 0, .int .i64 0] 34)
      simp only [World.size_alloc] at rr
      have key := k1 _ b0
      rw [f] at key
      clear k1 hT
      have hd : decide ((2 : Int) < (xs.length : Int)) = true := by simp <;> omega
      go_enter Tryd.func24, Tryd.ntmps24
      go_wp2_with (first
        | (go_at_call 19; refine key.mono ?_; rintro e w2 ⟨hbe, rfl⟩; have bw := b0.trans (hbe.mono b0.size); have c1 := (ra.below hbe).cell 0; have c2 := (ra.below hbe).cell 1; have q := rr.below hbe; have s1 := q.cell 0; have s2 := q.cell 1; have s3 := q.frozen 0; have s4 := q.frozen 1; simp only [List.getElem?_cons_zero, List.getElem?_cons_succ] at c1 c2 s1 s2))
      obtain ⟨u1, u2⟩ := two_reads (b := w.heap.size + 1) s1 s2 (.int .i64 0) (.int .i64 3)
      refine bodyPost_ret (v := .agg #[.int .i64 0, .int .i64 3]) (by simp [results, Tryd.results24, go_sem, loadCellsFrom, u1, u2]) rfl ⟨?_, rfl⟩
      exact (bw.setCell (by simp) _).setCell (by simp) _
  | false =>
    have hT : toRes na xs = (0, 1) := by rw [toRes, f]; rfl
    rw [hT]
    have b0 := ((Below.refl w.heap.size w).alloc (Nat.le_refl _) (.cells #[.bool na, .slice aa xs.length ca] 24)).alloc (by simp) (.cells #[.int .i64 0, .int .i64 0] 34)
    have rr := RowAt.new (w.alloc (.cells #[.bool na, .slice aa xs.length ca] 24)) 34 [.int .i64 0, .int .i64 0]
    simp only [World.size_alloc] at rr
    have key := k1 _ b0
    rw [f] at key
    clear k1 hT
    go_enter Tryd.func24, Tryd.ntmps24
    go_wp2_with (first
      | (go_at_call 19; refine key.mono ?_; rintro e w2 ⟨hbe, rfl⟩; have bw := b0.trans (hbe.mono b0.size); have q := rr.below hbe; have s1 := q.cell 0; have s2 := q.cell 1; have s3 := q.frozen 0; have s4 := q.frozen 1; simp only [List.getElem?_cons_zero, List.getElem?_cons_succ] at s1 s2))
    obtain ⟨u1, u2⟩ := two_reads (b := w.heap.size + 1) s1 s2 (.int .i64 0) (.int .i64 1)
    refine bodyPost_ret (v := .agg #[.int .i64 0, .int .i64 1]) (by simp [results, Tryd.results24, go_sem, loadCellsFrom, u1, u2]) rfl ⟨?_, rfl⟩
    exact (bw.setCell (by simp) _).setCell (by simp) _

end Go.Proofs.YtlghjfpkfdnfoaaDoor
