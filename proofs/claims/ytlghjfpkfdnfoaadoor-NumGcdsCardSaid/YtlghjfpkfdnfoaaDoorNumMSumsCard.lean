/- zermelolaw01.NumSums -/
import Derived.Test.YtlghjfpkfdnfoaaDoorNumMRefRing
import Derived.Test.YtlghjfpkfdnfoaaDoorNumMOrder
import Derived.Deep.CutRange
import Derived.Deep.RegionHeld3
import Derived.Test.YtlghjfpkfdnfoaaDoorNumMRefDigits
import Derived.Test.YtlghjfpkfdnfoaaDoorTie
import Derived.Test.YtlghjfpkfdnfoaaDoorCards
import Derived.SevenTiedAt
import Derived.Below
import Derived.Carry
namespace Go.Proofs.YtlghjfpkfdnfoaaDoor
open Go Go.RowKit Go.Shelf

/-- a variable that holds an answer -/
def BoxR (W : World) (v : Value) (fa fb : Bool) (r k : Int) : Prop := ∃ b n a m c, v = .pointer (some ⟨b, 0, none⟩) ∧ RowAt W b 24 [.bool n, .slice a m c] ∧ RingRes fa fb r k W (.agg #[.bool n, .slice a m c])
theorem RingRes.below {fa fb : Bool} {r k : Int} {W W' : World} {v : Value} (h : RingRes fa fb r k W v) (hb : Below W.heap.size W W') : RingRes fa fb r k W' v := h.keep fun _ _ hr => hr.below hb
theorem BoxR.below {W W' : World} {v : Value} {fa fb : Bool} {r k : Int} (h : BoxR W v fa fb r k) (hb : Below W.heap.size W W') : BoxR W' v fa fb r k := by
  obtain ⟨b, n, a, m, c, rfl, hr, hi⟩ := h
  exact ⟨b, n, a, m, c, rfl, hr.below hb, hi.below hb⟩
theorem BoxR.new {W : World} {n : Bool} {a : Option Addr} {m c : Nat} {fa fb : Bool} {r k : Int} (h : RingRes fa fb r k W (.agg #[.bool n, .slice a m c])) : BoxR (W.alloc (.cells #[.bool n, .slice a m c] 24)) (.pointer (some ⟨W.heap.size, 0, none⟩)) fa fb r k :=
  ⟨_, n, a, m, c, rfl, RowAt.new W 24 [.bool n, .slice a m c], h.below ((Below.refl _ _).alloc (Nat.le_refl _) _)⟩
/-- the five variables of the law -/
structure SumL (w w1 : World) (b1 : Nat) (n1 : Bool) (a1 : Option Addr) (m1 c1 : Nat) (b2 : Nat) (n2 : Bool) (a2 : Option Addr) (m2 c2 : Nat) (b5 : Nat) (n5 : Bool) (a5 : Option Addr) (m5 c5 : Nat) (b7 : Nat) (n7 : Bool) (a7 : Option Addr) (m7 c7 : Nat) (b9 : Nat) (n9 : Bool) (a9 : Option Addr) (m9 c9 : Nat) (X : World) : Prop where
  r1 : RowAt X b1 24 [.bool n1, .slice a1 m1 c1]
  r2 : RowAt X b2 24 [.bool n2, .slice a2 m2 c2]
  r5 : RowAt X b5 24 [.bool n5, .slice a5 m5 c5]
  r7 : RowAt X b7 24 [.bool n7, .slice a7 m7 c7]
  r9 : RowAt X b9 24 [.bool n9, .slice a9 m9 c9]
  below : Below w.heap.size w X
  more : Below w1.heap.size w1 X
section
variable {w w1 X X' : World} {b1 : Nat} {n1 : Bool} {a1 : Option Addr} {m1 c1 : Nat} {b2 : Nat} {n2 : Bool} {a2 : Option Addr} {m2 c2 : Nat} {b5 : Nat} {n5 : Bool} {a5 : Option Addr} {m5 c5 : Nat} {b7 : Nat} {n7 : Bool} {a7 : Option Addr} {m7 c7 : Nat} {b9 : Nat} {n9 : Bool} {a9 : Option Addr} {m9 c9 : Nat}
theorem suml_of (h : SumL w w1 b1 n1 a1 m1 c1 b2 n2 a2 m2 c2 b5 n5 a5 m5 c5 b7 n7 a7 m7 c7 b9 n9 a9 m9 c9 X) : X.cell? ⟨b1, 0, none⟩ = some (.bool n1) ∧ X.cell? ⟨b1, 1, none⟩ = some (.slice a1 m1 c1) ∧ X.cell? ⟨b2, 0, none⟩ = some (.bool n2) ∧ X.cell? ⟨b2, 1, none⟩ = some (.slice a2 m2 c2) ∧ X.cell? ⟨b5, 0, none⟩ = some (.bool n5) ∧ X.cell? ⟨b5, 1, none⟩ = some (.slice a5 m5 c5) ∧ X.cell? ⟨b7, 0, none⟩ = some (.bool n7) ∧ X.cell? ⟨b7, 1, none⟩ = some (.slice a7 m7 c7) ∧ X.cell? ⟨b9, 0, none⟩ = some (.bool n9) ∧ X.cell? ⟨b9, 1, none⟩ = some (.slice a9 m9 c9) ∧ SumL w w1 b1 n1 a1 m1 c1 b2 n2 a2 m2 c2 b5 n5 a5 m5 c5 b7 n7 a7 m7 c7 b9 n9 a9 m9 c9 X := ⟨h.r1.cell 0, h.r1.cell 1, h.r2.cell 0, h.r2.cell 1, h.r5.cell 0, h.r5.cell 1, h.r7.cell 0, h.r7.cell 1, h.r9.cell 0, h.r9.cell 1, h⟩
theorem suml_step (h : SumL w w1 b1 n1 a1 m1 c1 b2 n2 a2 m2 c2 b5 n5 a5 m5 c5 b7 n7 a7 m7 c7 b9 n9 a9 m9 c9 X) (hb : Below X.heap.size X X') : SumL w w1 b1 n1 a1 m1 c1 b2 n2 a2 m2 c2 b5 n5 a5 m5 c5 b7 n7 a7 m7 c7 b9 n9 a9 m9 c9 X' := ⟨h.r1.below hb, h.r2.below hb, h.r5.below hb, h.r7.below hb, h.r9.below hb, h.below.trans (hb.mono h.below.size), h.more.trans (hb.mono h.more.size)⟩
theorem suml_drew (h : SumL w w1 b1 n1 a1 m1 c1 b2 n2 a2 m2 c2 b5 n5 a5 m5 c5 b7 n7 a7 m7 c7 b9 n9 a9 m9 c9 X) : X.drew.cell? ⟨b1, 0, none⟩ = some (.bool n1) ∧ X.drew.cell? ⟨b1, 1, none⟩ = some (.slice a1 m1 c1) ∧ X.drew.cell? ⟨b2, 0, none⟩ = some (.bool n2) ∧ X.drew.cell? ⟨b2, 1, none⟩ = some (.slice a2 m2 c2) ∧ X.drew.cell? ⟨b5, 0, none⟩ = some (.bool n5) ∧ X.drew.cell? ⟨b5, 1, none⟩ = some (.slice a5 m5 c5) ∧ X.drew.cell? ⟨b7, 0, none⟩ = some (.bool n7) ∧ X.drew.cell? ⟨b7, 1, none⟩ = some (.slice a7 m7 c7) ∧ X.drew.cell? ⟨b9, 0, none⟩ = some (.bool n9) ∧ X.drew.cell? ⟨b9, 1, none⟩ = some (.slice a9 m9 c9) ∧ SumL w w1 b1 n1 a1 m1 c1 b2 n2 a2 m2 c2 b5 n5 a5 m5 c5 b7 n7 a7 m7 c7 b9 n9 a9 m9 c9 X.drew := suml_of ⟨h.r1, h.r2, h.r5, h.r7, h.r9, h.below.drew, h.more.drew⟩
end

set_option maxHeartbeats 4000000 in
set_option maxRecDepth 100000 in
set_option exponentiation.threshold 400 in
theorem sums_any (va vb : Value) (na nb : Bool) (xa xb : List Nat) (w : World) (ha : IntAt w va na xa) (hb : IntAt w vb nb xb) (hT : DigitsAt w) :
    Calls Tryd.prog 4 #[va, vb] w fun e w' => Below w.heap.size w w' ∧ e = .returned (.bool true) := by
  obtain ⟨sa, rfl, hra, hla⟩ := ha
  obtain ⟨sb, rfl, hrb, hlb⟩ := hb
  obtain ⟨aa, ca, rfl, hca, hma⟩ := hra.form
  obtain ⟨ab, cb, rfl, hcb, hmb⟩ := hrb.form
  go_enter Tryd.func4, Tryd.ntmps4
  go_upto_region 0 with (fail)
  go_cut [2, 3] from 0 to 1 (fun v2 v3 W => BoxF W v2 na xa ∧ BoxF W v3 nb xb ∧ Below w.heap.size w W)
  case first =>
    go_wp2
    go_meet
    have B1 : Below w.heap.size w (w.alloc (.cells #[.bool na, .slice aa xa.length ca] 24)) := (Below.refl _ _).alloc (Nat.le_refl _) _
    have B2 := B1.alloc B1.size (.cells #[.bool nb, .slice ab xb.length cb] 24)
    have C1 : BoxF _ _ na xa := ⟨_, aa, ca, rfl, RowAt.new w 24 [.bool na, .slice aa xa.length ca], hra.below B1⟩
    have C2 : BoxF _ _ nb xb := ⟨_, ab, cb, rfl, RowAt.new (w.alloc (.cells #[.bool na, .slice aa xa.length ca] 24)) 24 [.bool nb, .slice ab xb.length cb], hrb.below B2⟩
    simp only [World.size_alloc] at C2
    exact ⟨C1.below ((Below.refl _ _).alloc (Nat.le_refl _) _), C2, B2⟩
  case rest =>
    obtain ⟨q1, q2, hbe⟩ := hcut
    clear hra hrb hca hcb hma hmb
    have hT1 := hT.below hbe
    obtain ⟨b1, a1, c1, rfl, r1, j1⟩ := q1
    obtain ⟨b2, a2, c2, rfl, r2, j2⟩ := q2
    have d11 := r1.cell 0
    have d12 := r1.cell 1
    have d21 := r2.cell 0
    have d22 := r2.cell 1
    simp only [List.getElem?_cons_zero, List.getElem?_cons_succ] at d11 d12 d21 d22
    have hnew := RowAt.new wc 24 [.bool na, .slice a1 xa.length c1, .bool nb, .slice a2 xb.length c2]
    have hB : Below wc.heap.size wc (wc.alloc (.cells #[.bool na, .slice a1 xa.length c1, .bool nb, .slice a2 xb.length c2] 24)) := (Below.refl _ _).alloc (Nat.le_refl _) _
    have hf := few_list [(na, .slice a1 xa.length c1, xa), (nb, .slice a2 xb.length c2, xb)] 310 wc.heap.size _ hnew (by simp) (by
      intro it hit
      simp only [List.mem_cons, List.not_mem_nil, or_false] at hit
      rcases hit with rfl | rfl
      · exact ⟨j1.below hB, hla⟩
      · exact ⟨j2.below hB, hlb⟩)
    simp only [List.length_cons, List.length_nil] at hf
    have hsz := hbe.size
    cases hall : List.all [(na, Value.slice a1 xa.length c1, xa), (nb, Value.slice a2 xb.length c2, xb)] (fewB 310) with
    | false =>
      rw [hall] at hf
      clear hnew hall
      go_wp2_with (first
        | (go_at_call 15; refine hf.mono ?_; rintro e w2 ⟨hb2, rfl⟩)
        | (go_at_call 16; refine (sane_any _ ((hT1.below hB).below hb2)).mono ?_; rintro e w3 ⟨hb3, rfl⟩))
      go_ret
      have e1 := hB.trans (hb2.mono hB.size)
      have e2 := e1.trans (hb3.mono e1.size)
      exact ⟨hbe.trans (e2.mono hsz), rfl⟩
    | true =>
      rw [hall] at hf
      have hA := Lib.hid hall
      clear hnew hall
      go_upto_region 3 with (go_at_call 15; refine hf.mono ?_; rintro e w2 ⟨hb2, rfl⟩)
      have e1 := hB.trans (hb2.mono hB.size)
      obtain ⟨l1, l2⟩ : xa.length ≤ 310 ∧ xb.length ≤ 310 := by
        have := hA.out
        simp only [List.all_cons, List.all_nil, fewB, Bool.and_true, Bool.and_eq_true, decide_eq_true_eq] at this
        exact ⟨by omega, by omega⟩
      have T1 : TelL w b1 na a1 c1 xa b2 nb a2 c2 xb w2 := ⟨r1.below e1, r2.below e1, ⟨_, rfl, j1.below e1, hla⟩, ⟨_, rfl, j2.below e1, hlb⟩, hbe.trans (e1.mono hsz)⟩
      clear hA hf d11 d12 d21 d22 hb2 hB e1 r1 r2 j1 j2 hbe hsz hT1
      generalize w2 = wX2 at *
      have KA := fun X (hX : TelL w b1 na a1 c1 xa b2 nb a2 c2 xb X) => Add_any _ _ na nb xa xb X hX.ia hX.ib
      have KD := fun X (hX : TelL w b1 na a1 c1 xa b2 nb a2 c2 xb X) => Sub_any _ _ na nb xa xb X hX.ia hX.ib
      have KM := fun X (hX : TelL w b1 na a1 c1 xa b2 nb a2 c2 xb X) => Mul_all _ _ na nb xa xb X hX.ia hX.ib
      have RA := fun X (hX : TelL w b1 na a1 c1 xa b2 nb a2 c2 xb X) => radd_any _ _ na nb xa xb X hX.ia hX.ib
      have RD := fun X (hX : TelL w b1 na a1 c1 xa b2 nb a2 c2 xb X) => rsub_any _ _ na nb xa xb X hX.ia hX.ib
      have RM := fun X (hX : TelL w b1 na a1 c1 xa b2 nb a2 c2 xb X) => rmul_any _ _ na nb xa xb X hX.ia hX.ib
      generalize formedB na xa = fa at *
      generalize formedB nb xb = fb at *
      generalize hI : sgn na (val xa) + sgn nb (val xb) = iA at *
      generalize hJ : sgn na (val xa) - sgn nb (val xb) = iD at *
      generalize hK : sgn na (val xa) * sgn nb (val xb) = iM at *
      clear hI hJ hK
      go_cut [5, 6] from 17 to 22 (fun v1 v2 W => ∃ k, v2 = .int .i64 k ∧ BoxR W v1 fa fb iA k ∧ TelL w b1 na a1 c1 xa b2 nb a2 c2 xb W)
      case first =>
        obtain ⟨d1, d2, d3, d4⟩ := tel_cells T1
        go_wp2_with (go_at_call 28; with_reducible refine (KA _ T1).mono ?_; rintro e w3 ⟨hb3, v, k, rfl, hr⟩; obtain ⟨n, a, m, c, rfl⟩ := hr.form)
        go_meet
        exact ⟨k, rfl, BoxR.new hr, tel_step (tel_step T1 hb3) ((Below.refl _ _).alloc (Nat.le_refl _) _)⟩
      case rest =>
        clear T1
        obtain ⟨k1, rfl, q5, T1⟩ := hcut
        generalize wc = wX3 at *
        go_upto_region 4 with (fail)
        go_cut [7, 8] from 23 to 28 (fun v1 v2 W => ∃ k, v2 = .int .i64 k ∧ BoxR W v1 fa fb iD k ∧ BoxR W u5 fa fb iA k1 ∧ TelL w b1 na a1 c1 xa b2 nb a2 c2 xb W)
        case first =>
          obtain ⟨d1, d2, d3, d4⟩ := tel_cells T1
          go_wp2_with (go_at_call 29; with_reducible refine (KD _ T1).mono ?_; rintro e w3 ⟨hb3, v, k, rfl, hr⟩; obtain ⟨n, a, m, c, rfl⟩ := hr.form)
          go_meet
          exact ⟨k, rfl, BoxR.new hr, (q5.below hb3).below ((Below.refl _ _).alloc (Nat.le_refl _) _), tel_step (tel_step T1 hb3) ((Below.refl _ _).alloc (Nat.le_refl _) _)⟩
        case rest =>
          clear T1 q5
          obtain ⟨k2, rfl, q7, q5, T1⟩ := hcut
          generalize wc = wX4 at *
          go_upto_region 5 with (fail)
          go_cut [9, 10] from 29 to 34 (fun v1 v2 W => ∃ k, v2 = .int .i64 k ∧ BoxR W v1 fa fb iM k ∧ BoxR W u7 fa fb iD k2 ∧ BoxR W u5 fa fb iA k1 ∧ TelL w b1 na a1 c1 xa b2 nb a2 c2 xb W)
          case first =>
            obtain ⟨d1, d2, d3, d4⟩ := tel_cells T1
            go_wp2_with (go_at_call 30; with_reducible refine (KM _ T1).mono ?_; rintro e w3 ⟨hb3, v, k, rfl, hr⟩; obtain ⟨n, a, m, c, rfl⟩ := hr.form)
            go_meet
            exact ⟨k, rfl, BoxR.new hr, (q7.below hb3).below ((Below.refl _ _).alloc (Nat.le_refl _) _), (q5.below hb3).below ((Below.refl _ _).alloc (Nat.le_refl _) _), tel_step (tel_step T1 hb3) ((Below.refl _ _).alloc (Nat.le_refl _) _)⟩
          case rest =>
            clear T1 q5 q7
            obtain ⟨k3, rfl, q9, q7, q5, T1⟩ := hcut
            generalize wc = wX5 at *
            clear KA KD KM
            go_upto_region 6 with (fail)
            obtain ⟨b5, n5, a5, m5, c5, rfl, r5, i5⟩ := q5
            obtain ⟨b7, n7, a7, m7, c7, rfl, r7, i7⟩ := q7
            obtain ⟨b9, n9, a9, m9, c9, rfl, r9, i9⟩ := q9
            have DG := hT.below T1.below
            have hL : SumL w wX5 b1 na a1 xa.length c1 b2 nb a2 xb.length c2 b5 n5 a5 m5 c5 b7 n7 a7 m7 c7 b9 n9 a9 m9 c9 wX5 := ⟨T1.r1, T1.r2, r5, r7, r9, T1.below, Below.refl _ _⟩
            have hD := Lib.hid (suml_drew hL)
            have kS := fun X (hX : SumL w wX5 b1 na a1 xa.length c1 b2 nb a2 xb.length c2 b5 n5 a5 m5 c5 b7 n7 a7 m7 c7 b9 n9 a9 m9 c9 X) => sane_any X (DG.below hX.more)
            have kA := fun X (hX : SumL w wX5 b1 na a1 xa.length c1 b2 nb a2 xb.length c2 b5 n5 a5 m5 c5 b7 n7 a7 m7 c7 b9 n9 a9 m9 c9 X) => RA X (tel_step T1 hX.more)
            have kD := fun X (hX : SumL w wX5 b1 na a1 xa.length c1 b2 nb a2 xb.length c2 b5 n5 a5 m5 c5 b7 n7 a7 m7 c7 b9 n9 a9 m9 c9 X) => RD X (tel_step T1 hX.more)
            have kM := fun X (hX : SumL w wX5 b1 na a1 xa.length c1 b2 nb a2 xb.length c2 b5 n5 a5 m5 c5 b7 n7 a7 m7 c7 b9 n9 a9 m9 c9 X) => RM X (tel_step T1 hX.more)
            have gA := fun X n p m c k (hX : SumL w wX5 b1 na a1 xa.length c1 b2 nb a2 xb.length c2 b5 n5 a5 m5 c5 b7 n7 a7 m7 c7 b9 n9 a9 m9 c9 X) (h : RingRes fa fb iA k X (.agg #[.bool n, .slice p m c])) => got_ring n5 a5 m5 c5 k1 n p m c k fa fb iA X wX5 (fun v xs hr => hr.below hX.more) i5 h
            have gD := fun X n p m c k (hX : SumL w wX5 b1 na a1 xa.length c1 b2 nb a2 xb.length c2 b5 n5 a5 m5 c5 b7 n7 a7 m7 c7 b9 n9 a9 m9 c9 X) (h : RingRes fa fb iD k X (.agg #[.bool n, .slice p m c])) => got_ring n7 a7 m7 c7 k2 n p m c k fa fb iD X wX5 (fun v xs hr => hr.below hX.more) i7 h
            have gM := fun X n p m c k (hX : SumL w wX5 b1 na a1 xa.length c1 b2 nb a2 xb.length c2 b5 n5 a5 m5 c5 b7 n7 a7 m7 c7 b9 n9 a9 m9 c9 X) (h : RingRes fa fb iM k X (.agg #[.bool n, .slice p m c])) => got_ring n9 a9 m9 c9 k3 n p m c k fa fb iM X wX5 (fun v xs hr => hr.below hX.more) i9 h
            clear RA RD RM r5 r7 r9
            generalize xa.length = m1 at *
            generalize xb.length = m2 at *
            go_region_held3 (fun X => X.cell? ⟨b1, 0, none⟩ = some (.bool na) ∧ X.cell? ⟨b1, 1, none⟩ = some (.slice a1 m1 c1) ∧ X.cell? ⟨b2, 0, none⟩ = some (.bool nb) ∧ X.cell? ⟨b2, 1, none⟩ = some (.slice a2 m2 c2) ∧ X.cell? ⟨b5, 0, none⟩ = some (.bool n5) ∧ X.cell? ⟨b5, 1, none⟩ = some (.slice a5 m5 c5) ∧ X.cell? ⟨b7, 0, none⟩ = some (.bool n7) ∧ X.cell? ⟨b7, 1, none⟩ = some (.slice a7 m7 c7) ∧ X.cell? ⟨b9, 0, none⟩ = some (.bool n9) ∧ X.cell? ⟨b9, 1, none⟩ = some (.slice a9 m9 c9) ∧ SumL w wX5 b1 na a1 m1 c1 b2 nb a2 m2 c2 b5 n5 a5 m5 c5 b7 n7 a7 m7 c7 b9 n9 a9 m9 c9 X)
              (first | exact hD.out | (go_split_ands; exact suml_of (suml_step (by assumption) hbc)))
              (first
                | (go_at_call 16; go_split_ands; with_reducible refine (kS _ (by assumption)).mono ?_; rintro e wk ⟨hbc, rfl⟩)
                | (go_at_call 32; go_split_ands; with_reducible refine (kA _ (by assumption)).mono ?_; rintro e wk ⟨hbc, nA, pA, mA, cA, kkA, rfl, hA⟩)
                | (go_at_call 31; go_split_ands; with_reducible refine (gA _ _ _ _ _ _ (by assumption) hA).mono ?_; rintro e wk ⟨hbc, rfl⟩)
                | (go_at_call 33; go_split_ands; with_reducible refine (kD _ (by assumption)).mono ?_; rintro e wk ⟨hbc, nD, pD, mD, cD, kkD, rfl, hDD⟩)
                | (go_at_call 31; go_split_ands; with_reducible refine (gD _ _ _ _ _ _ (by assumption) hDD).mono ?_; rintro e wk ⟨hbc, rfl⟩)
                | (go_at_call 34; go_split_ands; with_reducible refine (kM _ (by assumption)).mono ?_; rintro e wk ⟨hbc, nM, pM, mM, cM, kkM, rfl, hM⟩)
                | (go_at_call 31; go_split_ands; with_reducible refine (gM _ _ _ _ _ _ (by assumption) hM).mono ?_; rintro e wk ⟨hbc, rfl⟩))
            rename_i hX
            obtain ⟨-, -, -, -, -, -, -, -, -, -, O1⟩ := hX
            go_wp2
            go_ret
            exact ⟨O1.below, rfl⟩

end Go.Proofs.YtlghjfpkfdnfoaaDoor

/- zermelolaw01.NumSums: the row and its card -/
namespace Go.Proofs.YtlghjfpkfdnfoaaDoor
open Go.ChangeShapes Go.WideShapes Go.ChangeAt Go.RowKit Go.Joins

set_option maxRecDepth 100000 in
theorem sums_lifted (os : Os) (started : os.Started) (H : Type) (enc : TypeId × Value → H) :
    ReturnsInHanded {} Tryd.checked os 4 .any (fun w args => (Rows.numSumsSpec.pre enc Tryd.prog Tryd.f4 [] false w args ∧ laidMetH Tryd.prog theLaid w) ∧ sizedMet enc Tryd.prog Tryd.f4 (OpenSpec.ofChange Rows.numSumsSpec) false w args)
      (Rows.numSumsSpec.post enc Tryd.prog Tryd.f4 false true false false) := by
  refine returnsInHanded_of_change_and (C := Tryd.checked) (X := fun w _ => laidMetH Tryd.prog theLaid w) (fun _ _ _ hh h => h.of_heap hh) own started (by kernel_rfl) Tryd.func4
    (ChangeSpec.witness_shaped (enc := enc) (C := Tryd.checked) (os := os) (X := fun w _ => laidMetH Tryd.prog theLaid w) false (World.doorLaid Tryd.prog 400 os) #[.agg #[.bool false, .slice none 0 0], .agg #[.bool false, .slice none 0 0]] 8 rfl (World.shaped_of_RefB (by kernel_rfl) (by kernel_rfl)) (by kernel_rfl) (by kernel_rfl) (by kernel_rfl) (door_met os _)) ?_
  intro W base args ds gs before hval0 hW _ _ hL _
  have hval : ∀ (j : Nat) t v, Tryd.f4.params[j]? = some t → args[j]? = some v → Value.okWide Tryd.prog W .any base t v := hval0
  have hW' := hW
  obtain ⟨p, q, hA0, hV, rfl, hfz, hnd⟩ := hW
  have hA : DataW.TrodAll enc Tryd.prog W 0 (fun _ => true) true Tryd.f4.params.toList args.toList ds p := hA0
  rw [Tryd.params4] at hA hval
  obtain ⟨v0, vs0, d0, ds0, p0, q0, hargs, rfl, rfl, h0, r0⟩ := trodAll_cons hA
  obtain ⟨v1, vs1, d1, ds1, p1, q1, rfl, rfl, rfl, h1, r1⟩ := trodAll_cons r0
  obtain ⟨rfl, rfl, rfl⟩ := trodAll_nil r1
  obtain rfl : args = #[v0, v1] := by cases args; simp_all
  obtain ⟨rfl, rfl⟩ := trodVars_none hV
  have lt0 : ∀ x ∈ p0, x.block < W.heap.size := by obtain ⟨m, hm⟩ := h0; exact DataW.trod_lt m _ _ _ hm
  have lt1 : ∀ x ∈ p1, x.block < W.heap.size := by obtain ⟨m, hm⟩ := h1; exact DataW.trod_lt m _ _ _ hm
  obtain ⟨n0, x0, a0⟩ := open_Int (hval 0 24 v0 rfl rfl) h0
  obtain ⟨n1, x1, a1⟩ := open_Int (hval 1 24 v1 rfl rfl) h1
  have hT := of_laid hL
  clear hA0 hval0
  refine (sums_any v0 v1 n0 n1 x0 x1 W a0 a1 hT).mono fun e W' ⟨bel, he⟩ => ?_
  subst he
  exact ⟨_, rfl, _, _, _, [], _, [], hW', trodAll_mk1 (shut_bool Tryd.underlying4 _), (trodAll_cons_mk (Below.trod laidOut (by kernel_rfl) (of_decide_eq_true (by kernel_rfl)) h0 bel lt0) (trodAll_cons_mk (Below.trod laidOut (by kernel_rfl) (of_decide_eq_true (by kernel_rfl)) h1 bel lt1) trodAll_mk0)), rfl, bel.frame _, fun h => by cases h⟩

theorem sums_holds : Rows.NumSumsSaid :=
  OpenClaim.holds_of_wide 4 Tryd.f4 rfl rfl rfl rfl rfl rfl rfl ⟨rfl, rfl, rfl, rfl, rfl⟩ rfl rfl rfl rfl rfl (by kernel_rfl) Tryd.func4 (by kernel_rfl)
    (of_decide_eq_true (by kernel_rfl)) (by unfold Func.isWrapper; first | (rw [if_pos (by decide +kernel)]; kernel_rfl) | (rw [if_neg (by decide +kernel)]; exact ⟨rfl, rfl⟩))
    (fun os started H enc _ => sums_lifted os started H enc)

theorem sums_card : Rows.NumSumsCardSaid :=
  Claim7.holds_tied_plain_at .later [] [.data] true (true, "42a77e95b8ef9269488dac3a8c52bae1cf7a75fc7fd94978f00f86de717d5f2d") true
    sums_holds (fun _ h => by cases h) (by kernel_rfl) (fun _ h => by cases h) numSums_row_tie rfl ⟨rfl, rfl⟩ (by kernel_rfl) rfl
    (fun f fn hf hfn => by
      obtain rfl : f = 4 := Option.some.inj ((show Tryd.prog.funcNamed "zermelo/zermelolaw01.NumSums" = some 4 by kernel_rfl).symm.trans hf) |>.symm
      obtain rfl : fn = Tryd.f4 := (Option.some.inj (Tryd.func4.symm.trans hfn)).symm
      exact ⟨by kernel_rfl, fun j t ht => by
        rw [Tryd.params4] at ht
        have hm : t ∈ [24, 24] := by simpa using Array.mem_of_getElem? ht
        have hall : ([24, 24].all fun u => !Tryd.prog.wantsStandIn u) = true := by kernel_rfl
        exact (show Tryd.prog.wantsStandIn t = false by simpa using List.all_eq_true.1 hall t hm)⟩)
    (by kernel_rfl)
#print axioms sums_card
end Go.Proofs.YtlghjfpkfdnfoaaDoor
