/- zermeloref01.Sum, Minus -/
import Derived.Test.YtlghjfpkfdnfoaaDoorNumMVals2
import Derived.Test.YtlghjfpkfdnfoaaDoorNumMOrder
import Derived.Test.YtlghjfpkfdnfoaaDoorNumMTextApi
namespace Go.Proofs.YtlghjfpkfdnfoaaDoor
open Go Go.RowKit Go.Shelf

set_option maxHeartbeats 1000000 in
set_option maxRecDepth 100000 in
theorem RSum_same (na : Bool) (va vb : Value) (xa xb : List Nat) (w : World) (ha : Reads .u32 w va xa) (hb : Reads .u32 w vb xb) (hla : Limbs xa) (hlb : Limbs xb) (la : xa.length ≤ 100000) (lb : xb.length ≤ 100000) :
    Calls Tryd.prog 44 #[.agg #[.bool na, va], .agg #[.bool na, vb]] w fun e w' => Below w.heap.size w w' ∧ ∃ v, e = .returned v ∧ IsInt w' v (sgn na (val xa + val xb)) := by
  have h0 := twoInts_start (na := na) (nb := na) ha hb
  obtain ⟨aa, ca, rfl, hca, hma⟩ := ha.form
  obtain ⟨ab, cb, rfl, hcb, hmb⟩ := hb.form
  have H0 := Lib.hid h0
  clear h0
  go_enter Tryd.func44, Tryd.ntmps44
  go_wp2_with fail
  go_region_held3 (fun W => W.cell? ⟨w.heap.size, 0, none⟩ = some (.bool na) ∧ W.cell? ⟨w.heap.size, 1, none⟩ = some (.slice aa xa.length ca) ∧ W.cell? ⟨w.heap.size + 1, 0, none⟩ = some (.bool na) ∧ W.cell? ⟨w.heap.size + 1, 1, none⟩ = some (.slice ab xb.length cb) ∧ TwoRest w (.slice aa xa.length ca) (.slice ab xb.length cb) xa xb W)
    (first | exact ⟨H0.out.1, H0.out.2.1, H0.out.2.2.1, H0.out.2.2.2.1, H0.out.2.2.2.2.drew⟩ | (go_split_ands; exact twoInts_step (by assumption) (by assumption) (by assumption) (by assumption) (by assumption) (by assumption)) | (go_split_ands; exact twoInts_store (by assumption) (by assumption) (by assumption) (by assumption) (by assumption) _ _ _ _))
    (first | (go_at_call 84; go_split_ands; refine (rsum_any _ _ xa xb _ (TwoRest.ra (by assumption)) (TwoRest.rb (by assumption)) hla hlb la lb).mono ?_; rintro e w' ⟨hbe, v, cs, rfl, h1, h2, h3, h4⟩; obtain ⟨a3, c3, rfl, hc3, hm3⟩ := h1.form) | (go_at_call 65; go_split_ands; refine (made_any _ _ cs _ h1 h2 (by omega)).mono ?_; rintro e w'' ⟨hbe2, v5, rfl, hI⟩; obtain ⟨n5, a5, m5, c5, rfl⟩ := hI.shape; obtain ⟨u0, u1, u2, u3, q1, q2, q3, q4⟩ := TwoRest.cells (TwoRest.step (by assumption) hbe2)))
  obtain ⟨s1, s2⟩ := two_reads (b := w.heap.size + 1 + 1) q1 q2 (.bool n5) (.slice a5 m5 c5)
  have hk := hI.keep (fun v xs h => two_kept (b := w.heap.size + 1 + 1) h q1 q2 (.bool n5) (.slice a5 m5 c5))
  rename_i hT
  replace hT := hT.2.2.2.2.below
  go_wp2
  exact bodyPost_ret (v := .agg #[.bool n5, .slice a5 m5 c5]) (by simp [results, Tryd.results44, go_sem, loadCellsFrom, s1, s2]) rfl ⟨hT, _, rfl, by rw [h3] at hk; exact hk⟩

set_option maxHeartbeats 1000000 in
set_option maxRecDepth 100000 in
theorem RSum_ge (na nb : Bool) (va vb : Value) (xa xb : List Nat) (w : World) (ha : Reads .u32 w va xa) (hb : Reads .u32 w vb xb) (hla : Limbs xa) (hlb : Limbs xb) (la : xa.length ≤ 100000) (_lb : xb.length ≤ 100000) (hka : Canon xa) (hkb : Canon xb) (hn : na ≠ nb) (hle : val xb ≤ val xa) :
    Calls Tryd.prog 44 #[.agg #[.bool na, va], .agg #[.bool nb, vb]] w fun e w' => Below w.heap.size w w' ∧ ∃ v, e = .returned v ∧ IsInt w' v (sgn na (val xa - val xb)) := by
  have h0 := twoInts_start (na := na) (nb := nb) ha hb
  obtain ⟨aa, ca, rfl, hca, hma⟩ := ha.form
  obtain ⟨ab, cb, rfl, hcb, hmb⟩ := hb.form
  have H0 := Lib.hid h0
  clear h0
  have hl := canon_le_length hka hkb hle
  have hi : (0 : Int) ≤ cmpI (val xa) (val xb) := by unfold cmpI; split <;> (try split) <;> omega
  obtain rfl : nb = !na := by cases na <;> cases nb <;> first | rfl | exact absurd rfl hn
  generalize hcv : cmpI (val xa) (val xb) = cv at hi
  go_enter Tryd.func44, Tryd.ntmps44
  go_wp2_with (go_at_call 54; go_loud (refine (larger_any _ _ xa xb _ H0.out.2.2.2.2.ra H0.out.2.2.2.2.rb hka hkb (by omega)).mono ?_; rintro e w1 ⟨hbe1, rfl⟩; rw [hcv]; have H1 := Lib.hid (twoInts_step H0.out.1 H0.out.2.1 H0.out.2.2.1 H0.out.2.2.2.1 H0.out.2.2.2.2 hbe1)))
  go_region_held3 (fun W => W.cell? ⟨w.heap.size, 0, none⟩ = some (.bool na) ∧ W.cell? ⟨w.heap.size, 1, none⟩ = some (.slice aa xa.length ca) ∧ W.cell? ⟨w.heap.size + 1, 0, none⟩ = some (.bool !na) ∧ W.cell? ⟨w.heap.size + 1, 1, none⟩ = some (.slice ab xb.length cb) ∧ TwoRest w (.slice aa xa.length ca) (.slice ab xb.length cb) xa xb W)
    (first | exact ⟨H1.out.1, H1.out.2.1, H1.out.2.2.1, H1.out.2.2.2.1, H1.out.2.2.2.2.drew⟩ | (go_split_ands; exact twoInts_step (by assumption) (by assumption) (by assumption) (by assumption) (by assumption) (by assumption)) | (go_split_ands; exact twoInts_store (by assumption) (by assumption) (by assumption) (by assumption) (by assumption) _ _ _ _))
    (first | (go_at_call 85; go_split_ands; refine (rless_any _ _ xa xb _ (TwoRest.ra (by assumption)) (TwoRest.rb (by assumption)) hla hlb la hl hle).mono ?_; rintro e w' ⟨hbe, v, cs, rfl, h1, h2, h3, h4⟩; obtain ⟨a3, c3, rfl, hc3, hm3⟩ := h1.form) | (go_at_call 65; go_split_ands; refine (made_any _ _ cs _ h1 h2 (by omega)).mono ?_; rintro e w'' ⟨hbe2, v5, rfl, hI⟩; obtain ⟨n5, a5, m5, c5, rfl⟩ := hI.shape; obtain ⟨u0, u1, u2, u3, q1, q2, q3, q4⟩ := TwoRest.cells (TwoRest.step (by assumption) hbe2)))
  obtain ⟨s1, s2⟩ := two_reads (b := w.heap.size + 1 + 1) q1 q2 (.bool n5) (.slice a5 m5 c5)
  have hk := hI.keep (fun v xs h => two_kept (b := w.heap.size + 1 + 1) h q1 q2 (.bool n5) (.slice a5 m5 c5))
  rename_i hT
  replace hT := hT.2.2.2.2.below
  go_wp2
  exact bodyPost_ret (v := .agg #[.bool n5, .slice a5 m5 c5]) (by simp [results, Tryd.results44, go_sem, loadCellsFrom, s1, s2]) rfl ⟨hT, _, rfl, by rw [h3] at hk; exact hk⟩

set_option maxHeartbeats 1000000 in
set_option maxRecDepth 100000 in
theorem RSum_lt (na nb : Bool) (va vb : Value) (xa xb : List Nat) (w : World) (ha : Reads .u32 w va xa) (hb : Reads .u32 w vb xb) (hla : Limbs xa) (hlb : Limbs xb) (la : xa.length ≤ 100000) (lb : xb.length ≤ 100000) (hka : Canon xa) (hkb : Canon xb) (hn : na ≠ nb) (hlt : val xa < val xb) :
    Calls Tryd.prog 44 #[.agg #[.bool na, va], .agg #[.bool nb, vb]] w fun e w' => Below w.heap.size w w' ∧ ∃ v, e = .returned v ∧ IsInt w' v (sgn nb (val xb - val xa)) := by
  have h0 := twoInts_start (na := na) (nb := nb) ha hb
  obtain ⟨aa, ca, rfl, hca, hma⟩ := ha.form
  obtain ⟨ab, cb, rfl, hcb, hmb⟩ := hb.form
  have H0 := Lib.hid h0
  clear h0
  have hle : val xa ≤ val xb := Nat.le_of_lt hlt
  have hl := canon_le_length hkb hka hle
  have hi : cmpI (val xa) (val xb) < (0 : Int) := by unfold cmpI; split <;> (try split) <;> omega
  obtain rfl : nb = !na := by cases na <;> cases nb <;> first | rfl | exact absurd rfl hn
  generalize hcv : cmpI (val xa) (val xb) = cv at hi
  go_enter Tryd.func44, Tryd.ntmps44
  go_wp2_with (go_at_call 54; refine (larger_any _ _ xa xb _ H0.out.2.2.2.2.ra H0.out.2.2.2.2.rb hka hkb (by omega)).mono ?_; rintro e w1 ⟨hbe1, rfl⟩; rw [hcv]; have H1 := Lib.hid (twoInts_step H0.out.1 H0.out.2.1 H0.out.2.2.1 H0.out.2.2.2.1 H0.out.2.2.2.2 hbe1))
  go_region_held3 (fun W => W.cell? ⟨w.heap.size, 0, none⟩ = some (.bool na) ∧ W.cell? ⟨w.heap.size, 1, none⟩ = some (.slice aa xa.length ca) ∧ W.cell? ⟨w.heap.size + 1, 0, none⟩ = some (.bool !na) ∧ W.cell? ⟨w.heap.size + 1, 1, none⟩ = some (.slice ab xb.length cb) ∧ TwoRest w (.slice aa xa.length ca) (.slice ab xb.length cb) xa xb W)
    (first | exact ⟨H1.out.1, H1.out.2.1, H1.out.2.2.1, H1.out.2.2.2.1, H1.out.2.2.2.2.drew⟩ | (go_split_ands; exact twoInts_step (by assumption) (by assumption) (by assumption) (by assumption) (by assumption) (by assumption)) | (go_split_ands; exact twoInts_store (by assumption) (by assumption) (by assumption) (by assumption) (by assumption) _ _ _ _))
    (first | (go_at_call 85; go_split_ands; refine (rless_any _ _ xb xa _ (TwoRest.rb (by assumption)) (TwoRest.ra (by assumption)) hlb hla lb hl hle).mono ?_; rintro e w' ⟨hbe, v, cs, rfl, h1, h2, h3, h4⟩; obtain ⟨a3, c3, rfl, hc3, hm3⟩ := h1.form) | (go_at_call 65; go_split_ands; refine (made_any _ _ cs _ h1 h2 (by omega)).mono ?_; rintro e w'' ⟨hbe2, v5, rfl, hI⟩; obtain ⟨n5, a5, m5, c5, rfl⟩ := hI.shape; obtain ⟨u0, u1, u2, u3, q1, q2, q3, q4⟩ := TwoRest.cells (TwoRest.step (by assumption) hbe2)))
  obtain ⟨s1, s2⟩ := two_reads (b := w.heap.size + 1 + 1) q1 q2 (.bool n5) (.slice a5 m5 c5)
  have hk := hI.keep (fun v xs h => two_kept (b := w.heap.size + 1 + 1) h q1 q2 (.bool n5) (.slice a5 m5 c5))
  rename_i hT
  replace hT := hT.2.2.2.2.below
  go_wp2
  exact bodyPost_ret (v := .agg #[.bool n5, .slice a5 m5 c5]) (by simp [results, Tryd.results44, go_sem, loadCellsFrom, s1, s2]) rfl ⟨hT, _, rfl, by rw [h3] at hk; exact hk⟩


theorem rsum_int (a b : Value) (i j : Int) (k : Nat) (w : World) (ha : IsInt w a i) (hb : IsInt w b j) (hk : k ≤ 90000) (hi : i.natAbs < B32 ^ k) (hj : j.natAbs < B32 ^ k) :
    Calls Tryd.prog 44 #[a, b] w fun e w' => Below w.heap.size w w' ∧ ∃ v, e = .returned v ∧ IsInt w' v (i + j) := by
  obtain ⟨na, va, xa, rfl, hra, hca, hna, rfl⟩ := ha
  obtain ⟨nb, vb, xb, rfl, hrb, hcb, hnb, rfl⟩ := hb
  rw [sgn_natAbs] at hi hj
  have la := canon_length_le hca hi
  have lb := canon_length_le hcb hj
  by_cases hn : na = nb
  · subst hn
    refine (RSum_same na va vb xa xb w hra hrb hca.1 hcb.1 (by omega) (by omega)).mono ?_
    rintro e w' ⟨hbe, v, rfl, h1⟩
    refine ⟨hbe, _, rfl, ?_⟩
    rwa [show sgn na (val xa) + sgn na (val xb) = sgn na (val xa + val xb) by cases na <;> simp [sgn] <;> omega]
  · rcases Nat.lt_or_ge (val xa) (val xb) with hlt | hle
    · refine (RSum_lt na nb va vb xa xb w hra hrb hca.1 hcb.1 (by omega) (by omega) hca hcb hn hlt).mono ?_
      rintro e w' ⟨hbe, v, rfl, h1⟩
      refine ⟨hbe, _, rfl, ?_⟩
      rwa [show sgn na (val xa) + sgn nb (val xb) = sgn nb (val xb - val xa) by cases na <;> cases nb <;> first | exact absurd rfl hn | (simp [sgn]; omega)]
    · refine (RSum_ge na nb va vb xa xb w hra hrb hca.1 hcb.1 (by omega) (by omega) hca hcb hn hle).mono ?_
      rintro e w' ⟨hbe, v, rfl, h1⟩
      refine ⟨hbe, _, rfl, ?_⟩
      rwa [show sgn na (val xa) + sgn nb (val xb) = sgn na (val xa - val xb) by cases na <;> cases nb <;> first | exact absurd rfl hn | (simp [sgn]; omega)]

set_option maxHeartbeats 1000000 in
set_option maxRecDepth 100000 in
theorem rminus_int (a : Value) (i : Int) (w : World) (ha : IsInt w a i) :
    Calls Tryd.prog 52 #[a] w fun e w' => Below w.heap.size w w' ∧ ∃ v, e = .returned v ∧ IsInt w' v (-i) := by
  obtain ⟨na, va, xa, rfl, hra, hca, hna, rfl⟩ := ha
  obtain ⟨aa, ca, rfl, hlca, hma⟩ := hra.form
  have b1 := (Below.refl w.heap.size w).alloc (Nat.le_refl _) (.cells #[.bool na, .slice aa xa.length ca] 24)
  have fin : ∀ n : Bool, n = (!na && decide (0 < xa.length)) → IsInt w (.agg #[.bool n, .slice aa xa.length ca]) (-(sgn na (val xa))) := fun n hn => by
    subst hn
    have hp := canon_pos_iff hca
    refine ⟨_, _, xa, rfl, hra, hca, by simp, ?_⟩
    by_cases h0 : 0 < xa.length
    · cases na <;> simp [sgn, h0]
    · have : val xa = 0 := by omega
      cases na <;> simp [sgn, h0, this]
  have HF := Lib.hid fin
  clear fin hna
  cases na with
  | true =>
    have hI := HF.out false (by simp)
    go_enter Tryd.func52, Tryd.ntmps52
    go_wp2
    exact bodyPost_ret (v := .agg #[.bool false, .slice aa xa.length ca]) (by simp [results, Tryd.results52, go_sem, loadCellsFrom]) rfl ⟨b1.alloc b1.size _, _, rfl, hI.below ((Below.refl _ _).trans (b1.alloc b1.size _))⟩
  | false =>
    by_cases h0 : 0 < xa.length
    · have hI := HF.out true (by simp [h0])
      have hd : decide ((0 : Int) < (xa.length : Int)) = true := decide_eq_true (by omega)
      go_enter Tryd.func52, Tryd.ntmps52
      go_wp2
      exact bodyPost_ret (v := .agg #[.bool true, .slice aa xa.length ca]) (by simp [results, Tryd.results52, go_sem, loadCellsFrom]) rfl ⟨b1.alloc b1.size _, _, rfl, hI.below ((Below.refl _ _).trans (b1.alloc b1.size _))⟩
    · have hI := HF.out false (by simp [h0])
      have hd : decide ((0 : Int) < (xa.length : Int)) = false := decide_eq_false (by omega)
      go_enter Tryd.func52, Tryd.ntmps52
      go_wp2
      exact bodyPost_ret (v := .agg #[.bool false, .slice aa xa.length ca]) (by simp [results, Tryd.results52, go_sem, loadCellsFrom]) rfl ⟨b1.alloc b1.size _, _, rfl, hI.below ((Below.refl _ _).trans (b1.alloc b1.size _))⟩

end Go.Proofs.YtlghjfpkfdnfoaaDoor

/- zermeloref01.Times -/
namespace Go.Proofs.YtlghjfpkfdnfoaaDoor
open Go Go.RowKit Go.Shelf

/-- what a walk of Times keeps: its two arguments' variables, its row -/
structure RtS (w : World) (na nb : Bool) (va vb : Value) (xa xb : List Nat) (q : List Nat) (W : World) : Prop where
  a : RowAt W w.heap.size 24 [.bool na, va]
  b : RowAt W (w.heap.size + 1) 24 [.bool nb, vb]
  r : RowAt W (w.heap.size + 1 + 1) 24 [.bool false, .slice none 0 0]
  o : RowAt W (w.heap.size + 1 + 1 + 1) 72 (enc32 q)
  chg : Below w.heap.size w W
theorem RtS.drewN {w : World} {na nb : Bool} {va vb : Value} {xa xb q : List Nat} {W : World} (h : RtS w na nb va vb xa xb q W) (n : Nat) : RtS w na nb va vb xa xb q (W.drewN n) := ⟨row_drewN h.a n, row_drewN h.b n, row_drewN h.r n, row_drewN h.o n, below_drewN h.chg n⟩
theorem RtS.set {w : World} {na nb : Bool} {va vb : Value} {xa xb q : List Nat} {W : World} (h : RtS w na nb va vb xa xb q W) (i z : Nat) : RtS w na nb va vb xa xb (q.set i z) (W.setCell ⟨w.heap.size + 1 + 1 + 1, i, none⟩ (.int .u32 (z : Int))) :=
  ⟨h.a.other (show w.heap.size ≠ w.heap.size + 1 + 1 + 1 by omega) _, h.b.other (show w.heap.size + 1 ≠ w.heap.size + 1 + 1 + 1 by omega) _, h.r.other (show w.heap.size + 1 + 1 ≠ w.heap.size + 1 + 1 + 1 by omega) _, by rw [enc32_set]; exact h.o.set i _, h.chg.setCell (show w.heap.size ≤ w.heap.size + 1 + 1 + 1 by omega) _⟩

set_option maxHeartbeats 4000000 in
set_option maxRecDepth 100000 in
theorem rtimes_any (na nb : Bool) (va vb : Value) (xa xb : List Nat) (w : World) (ha : Reads .u32 w va xa) (hb : Reads .u32 w vb xb) (hla : Limbs xa) (hlb : Limbs xb) (la : xa.length ≤ 100000) (lb : xb.length ≤ 100000) :
    Calls Tryd.prog 45 #[.agg #[.bool na, va], .agg #[.bool nb, vb]] w fun e w' => Below w.heap.size w w' ∧ ∃ v, e = .returned v ∧ IsInt w' v (sgn (na != nb) (val xa * val xb)) := by
  obtain ⟨aa, ca, rfl, hca, hma⟩ := ha.form
  obtain ⟨ab, cb, rfl, hcb, hmb⟩ := hb.form
  have hmk : ∀ W, (Instr.makeSlice 22 (.int .i64 ((xa.length : Int) + (xb.length : Int))) (.int .i64 ((xa.length : Int) + (xb.length : Int)))).run Tryd.prog W = .ok (.slice (some ⟨W.heap.size, 0, none⟩) (xa.length + xb.length) (xa.length + xb.length)) (W.alloc (.cells (zeros (xa.length + xb.length)) 72)) := fun W => by
    rw [make_limbs _ _ (by omega) (by omega) (by omega) W, show ((xa.length : Int) + (xb.length : Int)).toNat = xa.length + xb.length by omega]
  have hstart : RtS w na nb (.slice aa xa.length ca) (.slice ab xb.length cb) xa xb (tlFold (xa.length + xb.length) xb (limbPairs xa 0)) ((((w.alloc (.cells #[.bool na, .slice aa xa.length ca] 24)).alloc (.cells #[.bool nb, .slice ab xb.length cb] 24)).alloc (.cells #[.bool false, .slice none 0 0] 24)).alloc (.cells (zeros (xa.length + xb.length)) 72)) := by
    have b1 := (Below.refl w.heap.size w).alloc (Nat.le_refl _) (.cells #[.bool na, .slice aa xa.length ca] 24)
    have b2 := b1.alloc b1.size (.cells #[.bool nb, .slice ab xb.length cb] 24)
    have b3 := b2.alloc b2.size (.cells #[.bool false, .slice none 0 0] 24)
    have b4 := b3.alloc b3.size (.cells (zeros (xa.length + xb.length)) 72)
    refine ⟨?_, ?_, ?_, ?_, b4⟩
    · exact (((RowAt.new w 24 [.bool na, .slice aa xa.length ca]).alloc _).alloc _).alloc _
    · exact RowAt.at (((RowAt.new (w.alloc (.cells #[.bool na, .slice aa xa.length ca] 24)) 24 [.bool nb, .slice ab xb.length cb]).alloc _).alloc _) (by simp)
    · exact RowAt.at ((RowAt.new ((w.alloc (.cells #[.bool na, .slice aa xa.length ca] 24)).alloc (.cells #[.bool nb, .slice ab xb.length cb] 24)) 24 [.bool false, .slice none 0 0]).alloc _) (by simp)
    · have e : (enc32 (tlFold (xa.length + xb.length) xb (limbPairs xa 0))).toArray = zeros (xa.length + xb.length) := by simp [tlFold, limbPairs, enc32, zeros]
      have := RowAt.new (((w.alloc (.cells #[.bool na, .slice aa xa.length ca] 24)).alloc (.cells #[.bool nb, .slice ab xb.length cb] 24)).alloc (.cells #[.bool false, .slice none 0 0] 24)) 72 (enc32 (tlFold (xa.length + xb.length) xb (limbPairs xa 0)))
      rw [e] at this
      exact RowAt.at this (by simp)
  have HS := Lib.hid hstart
  clear hstart
  go_enter Tryd.func45, Tryd.ntmps45
  go_wp2_with fail
  generalize hW0 : (((w.alloc (.cells #[.bool na, .slice aa xa.length ca] 24)).alloc (.cells #[.bool nb, .slice ab xb.length cb] 24)).alloc (.cells #[.bool false, .slice none 0 0] 24)).alloc (.cells (zeros (xa.length + xb.length)) 72) = W0 at *
  clear hW0 hmk
  go_loopw [6] (fun s W => ∃ i : Nat, i ≤ xa.length ∧ s = .int .i64 (i : Int) ∧ RtS w na nb (.slice aa xa.length ca) (.slice ab xb.length cb) xa xb (tlFold (xa.length + xb.length) xb (limbPairs xa i)) W) (fun s _ => xa.length - (intOf s).toNat)
  case atStart => exact ⟨0, Nat.zero_le _, rfl, HS.out⟩
  case round =>
    obtain ⟨i, hi, rfl, hS⟩ := hrel
    have hps : ∀ p ∈ limbPairs xa i, p.2 < B32 := fun p hp => by
      obtain ⟨q, _, rfl⟩ := List.mem_map.1 hp
      exact limb_getD hla q
    have hlr := tlFold_limbs (xa.length + xb.length) hlb (limbPairs xa i) hps
    have hlen := tlFold_length (xa.length + xb.length) xb (limbPairs xa i)
    by_cases hlt : i < xa.length
    · have hnext := tlFold_snoc (xa.length + xb.length) xb (limbPairs xa i) (i, xa[i]?.getD 0)
      rw [← limbPairs_succ] at hnext
      obtain ⟨q, hq⟩ : ∃ q, tlFold (xa.length + xb.length) xb (limbPairs xa i) = q := ⟨_, rfl⟩
      rw [hq] at hS hlr hlen hnext
      simp only [tlStep] at hnext
      obtain ⟨y, hy⟩ : ∃ y, xa[i]?.getD 0 = y := ⟨_, rfl⟩
      have hyB := limb_getD hla i
      rw [hy] at hyB hnext
      have HN := Lib.hid hnext
      have HL := Lib.hid hlen
      have HY := Lib.hid hy
      clear hnext hlen hq hy hps
      have a1 := hS.a.cell 1
      simp only [List.getElem?_cons_succ, List.getElem?_cons_zero] at a1
      go_wp2_with fail
      go_loopw [7, 8] (fun s7 s8 W => ∃ j : Nat, j ≤ xb.length ∧ s8 = .int .i64 (j : Int) ∧ s7 = .int .u64 ((tlInner y i xb q j).2 : Int) ∧ RtS w na nb (.slice aa xa.length ca) (.slice ab xb.length cb) xa xb (tlInner y i xb q j).1 W) (fun _ s8 _ => xb.length - (intOf s8).toNat)
      case atStart => exact ⟨0, Nat.zero_le _, rfl, rfl, hS⟩
      case round =>
        obtain ⟨j, hj, rfl, rfl, hS⟩ := hrel
        obtain ⟨hq1, hc1⟩ := tlInner_limbs hyB i hlb hlr j
        have hql := tlInner_length y i xb q j
        rw [HL.out] at hql
        have hstep : tlInner y i xb q (j + 1) = ((tlInner y i xb q j).1.set (i + j) (((tlInner y i xb q j).2 + (y * xb[j]?.getD 0 + (tlInner y i xb q j).1[i + j]?.getD 0)) % B32), ((tlInner y i xb q j).2 + (y * xb[j]?.getD 0 + (tlInner y i xb q j).1[i + j]?.getD 0)) / B32) := rfl
        have HS2 := Lib.hid hstep
        clear hstep
        generalize hst : tlInner y i xb q j = st at *
        obtain ⟨r, c⟩ := st
        have HT := Lib.hid hst
        clear hst
        dsimp only at *
        have a1 := hS.a.cell 1
        have b1 := hS.b.cell 1
        simp only [List.getElem?_cons_succ, List.getElem?_cons_zero] at a1 b1
        by_cases hjl : j < xb.length
        · have hA := ha.below hS.chg
          have hB := hb.below hS.chg
          have ia := fun W => hA.index und_limbs size_limb (P := Tryd.prog) i .i64 W hlt
          have ib := fun W => hB.index und_limbs size_limb (P := Tryd.prog) j .i64 W hjl
          have ca1 := hA.cell i hlt
          rw [HY.out] at ca1
          have cb1 := hB.cell j hjl
          have hbb := limb_getD hlb j
          obtain ⟨b, hbe⟩ : ∃ b, xb[j]?.getD 0 = b := ⟨_, rfl⟩
          obtain ⟨z, hze⟩ : ∃ z, r[i + j]?.getD 0 = z := ⟨_, rfl⟩
          have hzb := limb_getD hq1 (i + j)
          have hcell : wr.cell? ⟨w.heap.size + 1 + 1 + 1, i + j, none⟩ = some (.int .u32 (z : Int)) := by rw [hS.o.cell, enc32_at (by omega), hze]
          have hfz := hS.o.frozen (i + j)
          have ir := fun W => index_win (w.heap.size + 1 + 1 + 1) 0 (xa.length + xb.length) (xa.length + xb.length) (i + j) (by omega) .i64 W
          simp only [Nat.zero_add, Int.natCast_add] at ir
          rw [hze] at hzb HS2
          rw [hbe] at cb1 hbb HS2
          have hbd := tl_bound hc1 hyB hbb hzb
          obtain ⟨P, hP⟩ : ∃ P, y * b = P := ⟨_, rfl⟩
          rw [hP] at hbd HS2
          obtain ⟨T, hT⟩ : ∃ T, c + (P + z) = T := ⟨_, rfl⟩
          rw [hT] at HS2 hbd
          unfold B32 at hbd hbb hzb hc1
          have hyB2 := hyB
          unfold B32 at hyB2
          have hmul : IntKind.u64.wrap ((y : Int) * (b : Int)) = (P : Int) := by rw [← Int.natCast_mul, hP, IntKind.wrap_u64]; omega
          have hs1 : IntKind.u64.wrap ((P : Int) + (z : Int)) = (P : Int) + (z : Int) := by rw [IntKind.wrap_u64]; omega
          have hs2 : IntKind.u64.wrap ((P : Int) + (z : Int) + (c : Int)) = (T : Int) := by rw [IntKind.wrap_u64]; omega
          have hw1 : IntKind.u64.wrap (y : Int) = (y : Int) := by rw [IntKind.wrap_u64]; omega
          have hw2 : IntKind.u64.wrap (b : Int) = (b : Int) := by rw [IntKind.wrap_u64]; omega
          have hw3 : IntKind.u64.wrap (z : Int) = (z : Int) := by rw [IntKind.wrap_u64]; omega
          have hw4 : IntKind.i64.wrap ((i : Int) + (j : Int)) = (i : Int) + (j : Int) := by rw [IntKind.wrap_i64]; omega
          obtain ⟨cl, hcl⟩ : ∃ cl, T % B32 = cl := ⟨_, rfl⟩
          obtain ⟨ch, hch⟩ : ∃ ch, T / B32 = ch := ⟨_, rfl⟩
          have hmd : (T : Int) % 4294967296 = (cl : Int) := by rw [← hcl]; unfold B32; omega
          have hdv : (T : Int) / 4294967296 = (ch : Int) := by rw [← hch]; unfold B32; omega
          have hwl : IntKind.u32.wrap (cl : Int) = (cl : Int) := by rw [IntKind.wrap_u32', ← hcl]; unfold B32; omega
          have hwc : IntKind.u64.wrap (ch : Int) = (ch : Int) := by rw [IntKind.wrap_u64, ← hch]; unfold B32; omega
          rw [hcl, hch] at HS2
          have hil : i + j < xa.length + xb.length := by omega
          clear hP hT hbe hze hbd hcl hch
          have HQ := Lib.hid hql
          clear hql hA hB
          go_wp2_with fail
          go_quiet (fail)
          go_wp2_with fail
          refine ⟨⟨j + 1, by omega, by go_num, ?_, ?_⟩, ?_⟩
          · rw [HS2.out]
          · rw [HS2.out]
            exact (hS.drewN _).set (i + j) cl
          · simp [intOf]; omega
        · obtain rfl : j = xb.length := by omega
          have hcell : ∃ z : Value, wr.cell? ⟨w.heap.size + 1 + 1 + 1, i + xb.length, none⟩ = some z := by
            rw [hS.o.cell]
            exact ⟨_, enc32_at (by omega)⟩
          obtain ⟨z, hcell⟩ := hcell
          have hfz := hS.o.frozen (i + xb.length)
          have ir := fun W => index_win (w.heap.size + 1 + 1 + 1) 0 (xa.length + xb.length) (xa.length + xb.length) (i + xb.length) (by omega) .i64 W
          simp only [Nat.zero_add, Int.natCast_add] at ir
          have hwc : IntKind.u32.wrap (c : Int) = (c : Int) := by rw [IntKind.wrap_u32']; unfold B32 at hc1; omega
          have hw4 : IntKind.i64.wrap ((i : Int) + (xb.length : Int)) = (i : Int) + (xb.length : Int) := by rw [IntKind.wrap_i64]; omega
          have HQ := Lib.hid hql
          clear hql
          go_wp2_with fail
          refine ⟨⟨i + 1, by omega, by go_num, ?_⟩, ?_⟩
          · rw [HN.out, HT.out]
            exact hS.set (i + xb.length) c
          · simp [intOf]; omega
    · obtain rfl : i = xa.length := by omega
      have hval := (tlFold_val xa xb xa.length (Nat.le_refl _)).1
      rw [List.take_of_length_le (Nat.le_refl _)] at hval
      obtain ⟨q, hq⟩ : ∃ q, tlFold (xa.length + xb.length) xb (limbPairs xa xa.length) = q := ⟨_, rfl⟩
      rw [hq] at hS hlr hlen hval
      have hrd : Reads .u32 wr (.slice (some ⟨w.heap.size + 1 + 1 + 1, 0, none⟩) (xa.length + xb.length) (xa.length + xb.length)) q := RowAt.reads hS.o _ _ hlen.symm (Nat.le_refl _) (by unfold maxLen; omega)
      have hq6 : q.length ≤ 1000000 := by omega
      have HV := Lib.hid hval
      have a0 := hS.a.cell 0
      have a1 := hS.a.cell 1
      have b0 := hS.b.cell 0
      simp only [List.getElem?_cons_succ, List.getElem?_cons_zero] at a0 a1 b0
      have hchg := hS.chg
      have hrr := hS.r
      clear hval hq hlen hps hS
      go_wp2_with (go_at_call 65; refine (made_any _ _ q _ hrd hlr hq6).mono ?_; rintro e w5 ⟨hb5, v5, rfl, hI⟩; obtain ⟨n5, a5, m5, c5, rfl⟩ := hI.shape; have hr5 := hrr.below hb5; have q1 := hr5.cell 0; have q2 := hr5.cell 1; have q3 := hr5.frozen 0; have q4 := hr5.frozen 1; simp only [List.getElem?_cons_succ, List.getElem?_cons_zero] at q1 q2)
      obtain ⟨s1, s2⟩ := two_reads (b := w.heap.size + 1 + 1) q1 q2 (.bool n5) (.slice a5 m5 c5)
      have hk := hI.keep (fun v xs h => two_kept (b := w.heap.size + 1 + 1) h q1 q2 (.bool n5) (.slice a5 m5 c5))
      have hb9 : Below w.heap.size w w5 := hchg.trans (hb5.mono hchg.size)
      rw [HV.out] at hk
      exact bodyPost_ret (v := .agg #[.bool n5, .slice a5 m5 c5]) (by simp [results, Tryd.results45, go_sem, loadCellsFrom, s1, s2]) rfl ⟨(hb9.setCell (by simp; omega) _).setCell (by simp; omega) _, _, rfl, hk⟩

set_option exponentiation.threshold 400 in
theorem rtimes_int (a b : Value) (i j : Int) (w : World) (ha : IsInt w a i) (hb : IsInt w b j) (hi : i.natAbs < B32 ^ 90000) (hj : j.natAbs < B32 ^ 90000) :
    Calls Tryd.prog 45 #[a, b] w fun e w' => Below w.heap.size w w' ∧ ∃ v, e = .returned v ∧ IsInt w' v (i * j) := by
  obtain ⟨na, va, xa, rfl, hra, hca, hna, rfl⟩ := ha
  obtain ⟨nb, vb, xb, rfl, hrb, hcb, hnb, rfl⟩ := hb
  rw [sgn_natAbs] at hi hj
  have la := canon_length_le hca hi
  have lb := canon_length_le hcb hj
  refine (rtimes_any na nb va vb xa xb w hra hrb hca.1 hcb.1 (by omega) (by omega)).mono ?_
  rintro e w' ⟨hbe, v, rfl, h1⟩
  refine ⟨hbe, _, rfl, ?_⟩
  rwa [show sgn na (val xa) * sgn nb (val xb) = sgn (na != nb) (val xa * val xb) by cases na <;> cases nb <;> simp [sgn, Int.neg_mul, Int.mul_neg]]

end Go.Proofs.YtlghjfpkfdnfoaaDoor

/- zermelolaw01.few -/
namespace Go.Proofs.YtlghjfpkfdnfoaaDoor
open Go Go.RowKit Go.Shelf

/-- what few asks of each -/
def fewB (most : Int) (it : Item) : Bool := decide ((it.2.2.length : Int) ≤ most)

set_option maxHeartbeats 2000000 in
set_option maxRecDepth 100000 in
theorem few_list (l : List Item) (most : Int) (b : Nat) (w : World) (hrow : RowAt w b 24 (rowCells l)) (hl : l.length ≤ 1000) (hr : ∀ it ∈ l, Reads .u32 w it.2.1 it.2.2 ∧ Limbs it.2.2) :
    Calls Tryd.prog 15 #[.int .i64 most, .slice (some ⟨b, 0, none⟩) l.length l.length] w fun e w' => Below w.heap.size w w' ∧ e = .returned (.bool (l.all (fewB most))) := by
  obtain ⟨n, hn⟩ : ∃ n, l.length = n := ⟨_, rfl⟩
  rw [hn] at hl ⊢
  have HN := Lib.hid hn
  clear hn
  go_enter Tryd.func15, Tryd.ntmps15
  go_wp2
  go_loopw [5] (fun i W => ∃ k : Nat, k ≤ n ∧ i = .int .i64 k ∧ (l.take k).all (fewB most) = true ∧ Below w.heap.size w W) (fun i _ => n - (intOf i).toNat)
  case atStart => exact ⟨0, Nat.zero_le _, rfl, rfl, Below.refl _ _⟩
  case round =>
    obtain ⟨k, hk, rfl, hall, hbe⟩ := hrel
    by_cases hlt : k < n
    · have hkl : k < l.length := by have := HN.out; omega
      obtain ⟨it, hit⟩ : ∃ it, l[k]? = some it := ⟨_, List.getElem?_eq_getElem hkl⟩
      have hmem : it ∈ l := List.mem_of_getElem? hit
      obtain ⟨hrd, hlm⟩ := hr it hmem
      obtain ⟨neg, v, xs⟩ := it
      change Reads .u32 w v xs at hrd
      change Limbs xs at hlm
      obtain ⟨a, c, rfl, hc, hm⟩ := hrd.form
      unfold maxLen at hm
      obtain ⟨g1, g2⟩ := rowCells_at l k _ hit
      have hrw := hrow.below hbe
      have c1 := hrw.cell (k * 2)
      have c2 := hrw.cell (k * 2 + 1)
      rw [g1] at c1
      rw [g2] at c2
      have hix := fun W => index_ints b n k hlt W
      have htk : l.take (k + 1) = l.take k ++ [(neg, Value.slice a xs.length c, xs)] := by
        rw [List.take_succ_eq_append_getElem hkl]
        rw [List.getElem?_eq_getElem hkl] at hit
        rw [Option.some.inj hit]
      have hsz := hbe.size
      have hd0 : decide ((k : Int) < (n : Int)) = true := by simp <;> omega
      have HL := Lib.hid (And.intro hall (And.intro htk hit))
      clear hall htk hit g1 g2
      by_cases hmo : (xs.length : Int) ≤ most
      · have hd : decide (most < (xs.length : Int)) = false := by simp <;> omega
        go_wp2
        refine ⟨⟨k + 1, by omega, by go_num, ?_, hbe⟩, by simp [intOf] <;> omega⟩
        rw [HL.out.2.1, List.all_append, HL.out.1]
        simp [fewB, hmo]
      · have hd : decide (most < (xs.length : Int)) = true := by simp <;> omega
        have hfalse : l.all (fewB most) = false := by
          rw [List.all_eq_false]
          exact ⟨_, hmem, by simp [fewB, hmo]⟩
        have HF := Lib.hid hfalse
        clear hfalse
        go_wp2
        go_ret
        exact ⟨hbe, by rw [HF.out]; rfl⟩
    · have htk : l.take k = l := List.take_of_length_le (by have := HN.out; omega)
      rw [htk] at hall
      have HA := Lib.hid hall
      clear hall
      have hd0 : decide ((k : Int) < (n : Int)) = false := by simp <;> omega
      go_wp2
      go_ret
      exact ⟨hbe, by rw [HA.out]; rfl⟩

end Go.Proofs.YtlghjfpkfdnfoaaDoor

/- num: To around guard.Attempt -/
namespace Go.Proofs.YtlghjfpkfdnfoaaDoor
open Go Go.RowKit Go.Shelf

set_option maxHeartbeats 1000000 in
set_option maxRecDepth 100000 in
theorem To_of (va : Value) (na : Bool) (xa : List Nat) (w : World) (ha : IntAt w va na xa) (Post : Int → World → Value → Prop) (hpk : ∀ k W W' u0, Post k W u0 → (∀ v xs, Reads .u32 W v xs → Reads .u32 W' v xs) → Post k W' u0)
    (hcl : ∀ (B : Nat) (aa : Option Addr) (ca : Nat) (W4 : World), Below w.heap.size w W4 → RowAt W4 B 24 [.bool na, .slice aa xa.length ca] → RowAt W4 (B + 1) 3 [.int .i64 0] → Reads .u32 W4 (.slice aa xa.length ca) xa → va = .agg #[.bool na, .slice aa xa.length ca] → Calls Tryd.prog 58 #[.pointer (some ⟨B, 0, none⟩), .pointer (some ⟨B + 1, 0, none⟩)] W4 fun e W => ∃ k, (k = 0 ∧ e = .returned (.tuple #[]) ∨ e = .panicked [{ v := .iface 27 (.int .i64 k), recovered := false }]) ∧ Chg (fun i => i = B + 1) W4 W ∧ (∃ i0, RowAt W (B + 1) 3 [.int .i64 i0] ∧ Post k W (.int .i64 i0))) :
    Calls Tryd.prog 23 #[va] w fun e w' => Below w.heap.size w w' ∧ ∃ r0 k, e = .returned (.tuple #[r0, .int .i64 k]) ∧ Post k w' r0 := by
  obtain ⟨sa, rfl, hra, hla⟩ := ha
  obtain ⟨aa, ca, rfl, hca, hma⟩ := hra.form
  have hmf : ∀ (fn : Fn) (first cap : Array Value) (w : World), (Instr.makeFunc fn first cap).run Tryd.prog w = .ok (.func fn first cap) w := fun _ _ _ _ => rfl
  have q0 := ((RowAt.new w 24 [.bool na, .slice aa xa.length ca]).alloc (.cells #[.int .i64 0] 3)).alloc (.cells #[.int .i64 0] 27)
  have q1 := (RowAt.new (w.alloc (.cells #[.bool na, .slice aa xa.length ca] 24)) 3 [.int .i64 0]).alloc (.cells #[.int .i64 0] 27)
  have q2 := Boxed.new ((w.alloc (.cells #[.bool na, .slice aa xa.length ca] 24)).alloc (.cells #[.int .i64 0] 3)) 27 (.int .i64 0)
  have bw := ((((Below.refl w.heap.size w).alloc (Nat.le_refl _) (.cells #[.bool na, .slice aa xa.length ca] 24)).alloc (by simp) (.cells #[.int .i64 0] 3)).alloc (by simp; omega) (.cells #[.int .i64 0] 27))
  simp only [World.size_alloc] at q1 q2
  generalize hW4 : (((w.alloc (.cells #[.bool na, .slice aa xa.length ca] 24)).alloc (.cells #[.int .i64 0] 3)).alloc (.cells #[.int .i64 0] 27)) = W4 at q0 q1 q2 bw
  have key := hcl w.heap.size aa ca W4 bw q0 q1 (hra.below bw) rfl
  have att := attempt_any 58 #[.pointer (some ⟨w.heap.size, 0, none⟩), .pointer (some ⟨w.heap.size + 1, 0, none⟩)]
    ((w.alloc (.cells #[.bool na, .slice aa xa.length ca] 24)).alloc (.cells #[.int .i64 0] 3))
    (fun k W => Chg (fun i => i = w.heap.size + 1) W4 W ∧ (∃ i0, RowAt W (w.heap.size + 1) 3 [.int .i64 i0] ∧ Post k W (.int .i64 i0)))
    (fun W => by simp [go_sem])
    (fun k W h => by simp only [World.size_alloc]; exact h.1.boxed q2 (by omega))
    (by
      rw [hW4]
      refine key.mono ?_
      rintro e W ⟨k, h1, h2⟩
      rcases h1 with ⟨rfl, rfl⟩ | rfl
      · exact .inl ⟨rfl, h2⟩
      · exact .inr ⟨k, rfl, h2⟩)
  clear key
  go_enter Tryd.func23, Tryd.ntmps23
  go_wp2_with (refine att.mono ?_; rintro e W' ⟨k, W, ⟨hch, z, hr, hres⟩, rfl, rfl⟩; simp only [World.size_alloc]; have hr9 := hr.other (a := ⟨w.heap.size + 1 + 1, 0, none⟩) (by simp) (.int .i64 k); have s3 := hr.frozen 0; have s1 := hr9.cell 0; simp only [List.getElem?_cons_zero] at s1)
  have u1 := World.cell?_setCell_same _ _ (.int .i64 z) s1
  have e4 := (hch.boxed q2 (by omega)).cell
  have hkeep : ∀ v xs, Reads .u32 W v xs → Reads .u32 ((W.setCell ⟨w.heap.size + 1 + 1, 0, none⟩ (.int .i64 k)).setCell ⟨w.heap.size + 1, 0, none⟩ (.int .i64 z)) v xs :=
    fun v xs h => (h.setOther e4 (by simp) _).setOther s1 (by simp) _
  refine bodyPost_ret (v := .tuple #[.int .i64 z, .int .i64 k]) (by simp [results, Tryd.results23, go_sem, loadCellsFrom, u1]) rfl ⟨?_, _, k, rfl, hpk _ _ _ _ hres hkeep⟩
  have hb9 : Below w.heap.size w W := bw.trans (hch.below (B := w.heap.size) (fun i hi => by omega) bw.size)
  exact (hb9.setCell (by simp; omega) _).setCell (by simp) _

end Go.Proofs.YtlghjfpkfdnfoaaDoor
