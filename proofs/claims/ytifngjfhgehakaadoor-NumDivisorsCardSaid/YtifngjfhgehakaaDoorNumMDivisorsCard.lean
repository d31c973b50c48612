/- zermelolaw01.NumDivisors -/
import Derived.Test.YtifngjfhgehakaaDoorNumMShiftsCard
import Derived.Test.YtifngjfhgehakaaDoorNumMAddAt
import Derived.Test.YtifngjfhgehakaaDoorTie
import Derived.Test.YtifngjfhgehakaaDoorCards
import Derived.SevenTiedAt
import Derived.Below
import Derived.Carry
namespace Go.Proofs.YtifngjfhgehakaaDoor
open Go Go.RowKit Go.Shelf

theorem isInt_abs {w : World} {n : Bool} {v : Value} {i : Int} (h : IsInt w (.agg #[.bool n, v]) i) : IsInt w (.agg #[.bool false, v]) (i.natAbs : Int) := by
  obtain ⟨neg, va, xs, e, hr, hc, hn, rfl⟩ := h
  simp only [Value.agg.injEq, Array.mk.injEq, List.cons.injEq, Value.bool.injEq, and_true] at e
  obtain ⟨rfl, rfl⟩ := e
  exact ⟨false, _, xs, rfl, hr, hc, rfl, by rw [sgn_natAbs]; rfl⟩

set_option exponentiation.threshold 400 in
theorem gcd_int (va vb : Value) (i j : Int) (w : World) (ha : IsInt w va i) (hb : IsInt w vb j) (hi : i.natAbs < B32 ^ 30) (hj : j.natAbs < B32 ^ 30) :
    Calls Tryd.prog 41 #[va, vb] w fun e w' => Below w.heap.size w w' ∧ ∃ g x y k l, e = .returned (.tuple #[g, x, y, .int .i64 0]) ∧ IsInt w' g (Nat.gcd i.natAbs j.natAbs : Nat) ∧ IsInt w' x k ∧ IsInt w' y l := by
  obtain ⟨na, xa, hA, fa, rfl, ca, la⟩ := ha.at (abs_lt_up hi (by decide))
  obtain ⟨nb, xb, hB, fb, rfl, cb, lb⟩ := hb.at (abs_lt_up hj (by decide))
  rw [sgn_natAbs] at hi hj
  rw [sgn_natAbs, sgn_natAbs]
  refine (Gcd_ok va vb na nb xa xb w hA hB fa fb (Nat.gcd (val xa) (val xb) : Nat) (fun _ _ => True) (fun W hW => ?_)).mono ?_
  · obtain ⟨va', rfl, hra, hla⟩ := hA
    obtain ⟨vb', rfl, hrb, hlb⟩ := hB
    refine (divisor_any 30 (by omega) (divUpTo_le (divUpTo_all 30) (by omega) (by omega)) (by omega) va' vb' na nb xa xb W (hra.below hW) (hrb.below hW) ca cb (canon_length_le ca hi) (canon_length_le cb hj) la lb).mono ?_
    rintro e W' ⟨hbe, g, x, y, k, l, rfl, h1, h2, h3, -⟩
    exact ⟨hbe, g, x, y, k, l, rfl, h1, h2, h3, trivial⟩
  · rintro e W ⟨hbe, g, x, y, k, l, rfl, h1, h2, h3, -⟩
    exact ⟨hbe, g, x, y, k, l, rfl, h1, h2, h3⟩

theorem box_first {W W' : World} {n m p : Bool} {a b d : Option Addr} {k c l e q r : Nat} {i : Int} (h1 : IsInt W' (.agg #[.bool n, .slice a k c]) i) (hb : Below W.heap.size W W') :
    BoxI (((W'.alloc (.cells #[.bool n, .slice a k c] 24)).alloc (.cells #[.bool m, .slice b l e] 24)).alloc (.cells #[.bool p, .slice d q r] 24)) (.pointer (some ⟨W'.heap.size, 0, none⟩)) i ∧
    Below W.heap.size W (((W'.alloc (.cells #[.bool n, .slice a k c] 24)).alloc (.cells #[.bool m, .slice b l e] 24)).alloc (.cells #[.bool p, .slice d q r] 24)) := by
  have b1 := hb.alloc hb.size (.cells #[.bool n, .slice a k c] 24)
  have b2 := b1.alloc b1.size (.cells #[.bool m, .slice b l e] 24)
  exact ⟨((BoxI.new h1).alloc _).alloc _, b2.alloc b2.size _⟩

set_option maxHeartbeats 4000000 in
set_option maxRecDepth 100000 in
set_option exponentiation.threshold 400 in
theorem divisors_any (va vb vc : Value) (na nb nc : Bool) (xa xb xc : List Nat) (w : World) (ha : IntAt w va na xa) (hb : IntAt w vb nb xb) (hc : IntAt w vc nc xc) (hT : DigitsAt w) :
    Calls Tryd.prog 12 #[va, vb, vc] w fun e w' => Below w.heap.size w w' ∧ e = .returned (.bool true) := by
  obtain ⟨sa, rfl, hra, hla⟩ := ha
  obtain ⟨sb, rfl, hrb, hlb⟩ := hb
  obtain ⟨sc, rfl, hrc, hlc⟩ := hc
  obtain ⟨aa, ca, rfl, hca, hma⟩ := hra.form
  obtain ⟨ab, cb, rfl, hcb, hmb⟩ := hrb.form
  obtain ⟨ac, cc, rfl, hcc, hmc⟩ := hrc.form
  go_enter Tryd.func12, Tryd.ntmps12
  go_upto_region 0 with (fail)
  go_cut [3, 4, 5] from 0 to 2 (fun v3 v4 v5 W => BoxF W v3 na xa ∧ BoxF W v4 nb xb ∧ BoxF W v5 nc xc ∧ Below w.heap.size w W)
  case first =>
    go_wp2
    go_meet
    have B1 : Below w.heap.size w (w.alloc (.cells #[.bool na, .slice aa xa.length ca] 24)) := (Below.refl _ _).alloc (Nat.le_refl _) _
    have B2 := B1.alloc B1.size (.cells #[.bool nb, .slice ab xb.length cb] 24)
    have B3 := B2.alloc B2.size (.cells #[.bool nc, .slice ac xc.length cc] 24)
    have C1 : BoxF _ _ na xa := ⟨_, aa, ca, rfl, RowAt.new w 24 [.bool na, .slice aa xa.length ca], hra.below B1⟩
    have C2 : BoxF _ _ nb xb := ⟨_, ab, cb, rfl, RowAt.new (w.alloc (.cells #[.bool na, .slice aa xa.length ca] 24)) 24 [.bool nb, .slice ab xb.length cb], hrb.below B2⟩
    have C3 : BoxF _ _ nc xc := ⟨_, ac, cc, rfl, RowAt.new ((w.alloc (.cells #[.bool na, .slice aa xa.length ca] 24)).alloc (.cells #[.bool nb, .slice ab xb.length cb] 24)) 24 [.bool nc, .slice ac xc.length cc], hrc.below B3⟩
    simp only [World.size_alloc] at C2 C3
    exact ⟨(C1.below ((Below.refl _ _).alloc (Nat.le_refl _) _)).below ((Below.refl _ _).alloc (Nat.le_refl _) _), C2.below ((Below.refl _ _).alloc (Nat.le_refl _) _), C3, B3⟩
  case rest =>
    obtain ⟨q1, q2, q3, hbe⟩ := hcut
    clear hra hrb hrc hca hcb hcc hma hmb hmc
    have hT1 := hT.below hbe
    obtain ⟨b1, a1, c1, rfl, r1, j1⟩ := q1
    obtain ⟨b2, a2, c2, rfl, r2, j2⟩ := q2
    obtain ⟨b3, a3, c3, rfl, r3, j3⟩ := q3
    have d11 := r1.cell 0
    have d12 := r1.cell 1
    have d21 := r2.cell 0
    have d22 := r2.cell 1
    have d31 := r3.cell 0
    have d32 := r3.cell 1
    simp only [List.getElem?_cons_zero, List.getElem?_cons_succ] at d11 d12 d21 d22 d31 d32
    have hnew := RowAt.new wc 24 [.bool na, .slice a1 xa.length c1, .bool nb, .slice a2 xb.length c2, .bool nc, .slice a3 xc.length c3]
    have hB : Below wc.heap.size wc (wc.alloc (.cells #[.bool na, .slice a1 xa.length c1, .bool nb, .slice a2 xb.length c2, .bool nc, .slice a3 xc.length c3] 24)) := (Below.refl _ _).alloc (Nat.le_refl _) _
    have hf := formed_list [(na, .slice a1 xa.length c1, xa), (nb, .slice a2 xb.length c2, xb), (nc, .slice a3 xc.length c3, xc)] 8 wc.heap.size _ hnew (by simp) (by
      intro it hit
      simp only [List.mem_cons, List.not_mem_nil, or_false] at hit
      rcases hit with rfl | rfl | rfl
      · exact ⟨j1.below hB, hla⟩
      · exact ⟨j2.below hB, hlb⟩
      · exact ⟨j3.below hB, hlc⟩)
    simp only [List.length_cons, List.length_nil] at hf
    have hsz := hbe.size
    cases hall : List.all [(na, Value.slice a1 xa.length c1, xa), (nb, Value.slice a2 xb.length c2, xb), (nc, Value.slice a3 xc.length c3, xc)] (fitB 8) with
    | false =>
      rw [hall] at hf
      clear hnew hall
      go_wp2_with (first
        | (go_at_call 50; refine hf.mono ?_; rintro e w2 ⟨hb2, rfl⟩)
        | (go_at_call 16; refine (sane_any _ ((hT1.below hB).below hb2)).mono ?_; rintro e w3 ⟨hb3, rfl⟩))
      go_ret
      have e1 := hB.trans (hb2.mono hB.size)
      have e2 := e1.trans (hb3.mono e1.size)
      exact ⟨hbe.trans (e2.mono hsz), rfl⟩
    | true =>
      rw [hall] at hf
      have hA := Lib.hid hall
      clear hnew hall
      go_upto_region 3 with (go_at_call 50; refine hf.mono ?_; rintro e w2 ⟨hb2, rfl⟩)
      have e1 := hB.trans (hb2.mono hB.size)
      obtain ⟨⟨f1, l1⟩, ⟨f2, l2⟩, ⟨f3, l3⟩⟩ : (formedB na xa = true ∧ xa.length ≤ 8) ∧ (formedB nb xb = true ∧ xb.length ≤ 8) ∧ (formedB nc xc = true ∧ xc.length ≤ 8) := by
        have := hA.out
        simp only [List.all_cons, List.all_nil, fitB, Bool.and_true, Bool.and_eq_true, decide_eq_true_eq] at this
        exact ⟨⟨this.1.1, by omega⟩, ⟨this.2.1.1, by omega⟩, ⟨this.2.2.1, by omega⟩⟩
      have k1 := (IntAt.isInt ⟨_, rfl, j1.below e1, hla⟩ f1 : IsInt w2 (.agg #[.bool na, .slice a1 xa.length c1]) (sgn na (val xa)))
      have k2 := (IntAt.isInt ⟨_, rfl, j2.below e1, hlb⟩ f2 : IsInt w2 (.agg #[.bool nb, .slice a2 xb.length c2]) (sgn nb (val xb)))
      have k3 := (IntAt.isInt ⟨_, rfl, j3.below e1, hlc⟩ f3 : IsInt w2 (.agg #[.bool nc, .slice a3 xc.length c3]) (sgn nc (val xc)))
      have n1 : (sgn na (val xa)).natAbs < B32 ^ 8 := by rw [sgn_natAbs]; exact (canon_length_iff (formedB_bounds hla f1).1 8).1 l1
      have n2 : (sgn nb (val xb)).natAbs < B32 ^ 8 := by rw [sgn_natAbs]; exact (canon_length_iff (formedB_bounds hlb f2).1 8).1 l2
      have n3 : (sgn nc (val xc)).natAbs < B32 ^ 8 := by rw [sgn_natAbs]; exact (canon_length_iff (formedB_bounds hlc f3).1 8).1 l3
      have q3 : BoxI w2 (.pointer (some ⟨b1, 0, none⟩)) (sgn na (val xa)) := ⟨b1, na, a1, xa.length, c1, rfl, r1.below e1, k1⟩
      have q4 : BoxI w2 (.pointer (some ⟨b2, 0, none⟩)) (sgn nb (val xb)) := ⟨b2, nb, a2, xb.length, c2, rfl, r2.below e1, k2⟩
      have q5 : BoxI w2 (.pointer (some ⟨b3, 0, none⟩)) (sgn nc (val xc)) := ⟨b3, nc, a3, xc.length, c3, rfl, r3.below e1, k3⟩
      replace hbe := hbe.trans (e1.mono hsz)
      clear hA hf l1 l2 l3 f1 f2 f3 d11 d12 d21 d22 d31 d32 hb2 hB e1 r1 r2 r3 j1 j2 j3 hsz hT1 hla hlb hlc k1 k2 k3
      generalize sgn na (val xa) = i at *
      generalize sgn nb (val xb) = j at *
      generalize sgn nc (val xc) = k at *
      obtain ⟨G, hG⟩ : ∃ G, Nat.gcd i.natAbs j.natAbs = G := ⟨_, rfl⟩
      have gi : (G : Int) ∣ i := by rw [← hG]; exact Int.ofNat_dvd_left.2 (Nat.gcd_dvd_left _ _)
      have gj : (G : Int) ∣ j := by rw [← hG]; exact Int.ofNat_dvd_left.2 (Nat.gcd_dvd_right _ _)
      have hGb : ((G : Nat) : Int).natAbs < B32 ^ 8 := by
        rw [Int.natAbs_natCast, ← hG]
        rcases Nat.eq_zero_or_pos i.natAbs with h0 | h0
        · rw [h0, Nat.gcd_zero_left]; exact n2
        · exact Nat.lt_of_le_of_lt (Nat.gcd_le_left _ h0) n1
      have hGk : Nat.gcd (i * k).natAbs (j * k).natAbs = G * k.natAbs := by rw [Int.natAbs_mul, Int.natAbs_mul, Nat.gcd_mul_right, hG]
      have hGk2 : ((G : Nat) : Int) * (k.natAbs : Int) = ((G * k.natAbs : Nat) : Int) := by simp
      have cX : (i * k).natAbs < B32 ^ 16 := abs_mul_lt n1 n3
      have cY : (j * k).natAbs < B32 ^ 16 := abs_mul_lt n2 n3
      have nK : ((k.natAbs : Nat) : Int).natAbs < B32 ^ 8 := by rw [Int.natAbs_natCast]; exact n3
      have cW : (((G : Nat) : Int) * (k.natAbs : Int)).natAbs < B32 ^ 16 := abs_mul_lt hGb nK
      have Bi := b32_up n1 (by decide)
      have Bj := b32_up n2 (by decide)
      have Bk := b32_up n3 (by decide)
      have BG := b32_up hGb (by decide)
      have BK := b32_up nK (by decide)
      have BX := b32_up cX (by decide)
      have BY := b32_up cY (by decide)
      have BW := b32_up cW (by decide)
      have i30 := abs_lt_up n1 (show 8 ≤ 30 by decide)
      have j30 := abs_lt_up n2 (show 8 ≤ 30 by decide)
      have x30 := abs_lt_up cX (show 16 ≤ 30 by decide)
      have y30 := abs_lt_up cY (show 16 ≤ 30 by decide)
      have HE := Lib.hid (And.intro hG (And.intro hGk (And.intro hGk2 (And.intro gi gj))))
      have N1 := n1
      have N3 := n3
      clear hG hGk hGk2 gi gj cX cY cW nK n1 n2 n3
      generalize w2 = wX2 at *
      go_upto_region 3 with (fail)
      go_cut [7, 8, 9, 10] from 33 to 40 (fun v1 v2 v3 v4 W => BoxI W v1 (G : Int) ∧ v4 = .int .i64 0 ∧ Below wX2.heap.size wX2 W)
      case first =>
        obtain ⟨n1, a1, m1, c1, r1, i1⟩ := q3.at
        have x1 := r1.cell 0
        have y1 := r1.cell 1
        simp only [List.getElem?_cons_zero, List.getElem?_cons_succ] at x1 y1
        obtain ⟨n2, a2, m2, c2, r2, i2⟩ := q4.at
        have x2 := r2.cell 0
        have y2 := r2.cell 1
        simp only [List.getElem?_cons_zero, List.getElem?_cons_succ] at x2 y2
        have C := gcd_int _ _ _ _ _ i1 i2 i30 j30
        go_wp2_with (go_at_call 41; with_reducible refine C.mono ?_; rintro e w3 ⟨hb3, v3, v4, v5, k4, k5, rfl, hi3, hi4, hi5⟩; obtain ⟨n3, s3, m3, q3, rfl⟩ := hi3.shape; obtain ⟨n4, s4, m4, q4, rfl⟩ := hi4.shape; obtain ⟨n5, s5, m5, q5, rfl⟩ := hi5.shape)
        go_meet
        rw [HE.out.1] at hi3
        obtain ⟨z1, z2⟩ := box_first hi3 hb3
        exact ⟨z1, rfl, z2⟩
      case rest =>
        obtain ⟨q7, rfl, hbn⟩ := hcut
        replace q3 := q3.below hbn
        replace q4 := q4.below hbn
        replace q5 := q5.below hbn
        replace hbe := hbe.trans (hbn.mono hbe.size)
        clear hbn
        generalize wc = wX3 at *
        go_upto_region 4 with (fail)
        go_cut [11, 12] from 41 to 46 (fun v1 v2 W => BoxI W v1 (i * k) ∧ v2 = .int .i64 0 ∧ Below wX3.heap.size wX3 W)
        case first =>
          obtain ⟨n1, a1, m1, c1, r1, i1⟩ := q3.at
          have x1 := r1.cell 0
          have y1 := r1.cell 1
          simp only [List.getElem?_cons_zero, List.getElem?_cons_succ] at x1 y1
          obtain ⟨n2, a2, m2, c2, r2, i2⟩ := q5.at
          have x2 := r2.cell 0
          have y2 := r2.cell 1
          simp only [List.getElem?_cons_zero, List.getElem?_cons_succ] at x2 y2
          have C := mul_int 8 (by decide) _ _ _ _ _ i1 i2 Bi Bk (.inl N1) BX
          go_wp2_with (go_at_call 30; with_reducible refine C.mono ?_; rintro e w3 ⟨hb3, v3, rfl, hi3⟩; obtain ⟨n3, s3, m3, q3, rfl⟩ := hi3.shape)
          go_meet
          exact ⟨BoxI.new hi3, rfl, hb3.alloc hb3.size _⟩
        case rest =>
          obtain ⟨q11, rfl, hbn⟩ := hcut
          replace q3 := q3.below hbn
          replace q4 := q4.below hbn
          replace q5 := q5.below hbn
          replace q7 := q7.below hbn
          replace hbe := hbe.trans (hbn.mono hbe.size)
          clear hbn
          generalize wc = wX4 at *
          go_upto_region 5 with (fail)
          go_cut [13, 14] from 47 to 52 (fun v1 v2 W => BoxI W v1 (j * k) ∧ v2 = .int .i64 0 ∧ Below wX4.heap.size wX4 W)
          case first =>
            obtain ⟨n1, a1, m1, c1, r1, i1⟩ := q4.at
            have x1 := r1.cell 0
            have y1 := r1.cell 1
            simp only [List.getElem?_cons_zero, List.getElem?_cons_succ] at x1 y1
            obtain ⟨n2, a2, m2, c2, r2, i2⟩ := q5.at
            have x2 := r2.cell 0
            have y2 := r2.cell 1
            simp only [List.getElem?_cons_zero, List.getElem?_cons_succ] at x2 y2
            have C := mul_int 8 (by decide) _ _ _ _ _ i1 i2 Bj Bk (.inr N3) BY
            go_wp2_with (go_at_call 30; with_reducible refine C.mono ?_; rintro e w3 ⟨hb3, v3, rfl, hi3⟩; obtain ⟨n3, s3, m3, q3, rfl⟩ := hi3.shape)
            go_meet
            exact ⟨BoxI.new hi3, rfl, hb3.alloc hb3.size _⟩
          case rest =>
            obtain ⟨q13, rfl, hbn⟩ := hcut
            replace q3 := q3.below hbn
            replace q4 := q4.below hbn
            replace q5 := q5.below hbn
            replace q7 := q7.below hbn
            replace q11 := q11.below hbn
            replace hbe := hbe.trans (hbn.mono hbe.size)
            clear hbn
            generalize wc = wX5 at *
            go_upto_region 6 with (fail)
            go_cut [15, 16, 17, 18] from 53 to 60 (fun v1 v2 v3 v4 W => BoxI W v1 ((G * k.natAbs : Nat) : Int) ∧ v4 = .int .i64 0 ∧ Below wX5.heap.size wX5 W)
            case first =>
              obtain ⟨b1, n1, a1, m1, c1, rfl, r1, i1⟩ := q11
              have x1 := r1.cell 0
              have y1 := r1.cell 1
              simp only [List.getElem?_cons_zero, List.getElem?_cons_succ] at x1 y1
              obtain ⟨b2, n2, a2, m2, c2, rfl, r2, i2⟩ := q13
              have x2 := r2.cell 0
              have y2 := r2.cell 1
              simp only [List.getElem?_cons_zero, List.getElem?_cons_succ] at x2 y2
              have C := gcd_int _ _ _ _ _ i1 i2 x30 y30
              go_wp2_with (go_at_call 41; with_reducible refine C.mono ?_; rintro e w3 ⟨hb3, v3, v4, v5, k4, k5, rfl, hi3, hi4, hi5⟩; obtain ⟨n3, s3, m3, q3, rfl⟩ := hi3.shape; obtain ⟨n4, s4, m4, q4, rfl⟩ := hi4.shape; obtain ⟨n5, s5, m5, q5, rfl⟩ := hi5.shape)
              go_meet
              rw [HE.out.2.1] at hi3
              obtain ⟨z1, z2⟩ := box_first hi3 hb3
              exact ⟨z1, rfl, z2⟩
            case rest =>
              obtain ⟨q15, rfl, hbn⟩ := hcut
              replace q3 := q3.below hbn
              replace q4 := q4.below hbn
              replace q5 := q5.below hbn
              replace q7 := q7.below hbn
              replace q11 := q11.below hbn
              replace q13 := q13.below hbn
              replace hbe := hbe.trans (hbn.mono hbe.size)
              clear hbn
              generalize wc = wX6 at *
              obtain ⟨n1, a1, m1, c1, r1, i1⟩ := q5.at
              have x1 := r1.cell 0
              have y1 := r1.cell 1
              simp only [List.getElem?_cons_zero, List.getElem?_cons_succ] at x1 y1
              go_upto_region 9 with (fail)
              clear x1 y1
              have q19 := BoxI.new (isInt_abs i1)
              have hbn := (Below.refl wX6.heap.size wX6).alloc (Nat.le_refl _) (.cells #[.bool false, .slice a1 m1 c1] 24)
              clear r1 i1
              replace q3 := q3.below hbn
              replace q4 := q4.below hbn
              replace q5 := q5.below hbn
              replace q7 := q7.below hbn
              replace q11 := q11.below hbn
              replace q13 := q13.below hbn
              replace q15 := q15.below hbn
              replace hbe := hbe.trans (hbn.mono hbe.size)
              clear hbn
              generalize wX6.alloc (.cells #[.bool false, .slice a1 m1 c1] 24) = wX7 at *
              go_cut [20, 21] from 63 to 68 (fun v1 v2 W => BoxI W v1 ((G * k.natAbs : Nat) : Int) ∧ v2 = .int .i64 0 ∧ Below wX7.heap.size wX7 W)
              case first =>
                obtain ⟨b1, n1, a1, m1, c1, rfl, r1, i1⟩ := q7
                have x1 := r1.cell 0
                have y1 := r1.cell 1
                simp only [List.getElem?_cons_zero, List.getElem?_cons_succ] at x1 y1
                obtain ⟨n2, a2, m2, c2, r2, i2⟩ := q19.at
                have x2 := r2.cell 0
                have y2 := r2.cell 1
                simp only [List.getElem?_cons_zero, List.getElem?_cons_succ] at x2 y2
                have C := mul_int 8 (by decide) _ _ _ _ _ i1 i2 BG BK (.inl hGb) BW
                go_wp2_with (go_at_call 30; with_reducible refine C.mono ?_; rintro e w3 ⟨hb3, v3, rfl, hi3⟩; obtain ⟨n3, s3, m3, q3, rfl⟩ := hi3.shape)
                go_meet
                rw [HE.out.2.2.1] at hi3
                exact ⟨BoxI.new hi3, rfl, hb3.alloc hb3.size _⟩
              case rest =>
                obtain ⟨q20, rfl, hbn⟩ := hcut
                replace q3 := q3.below hbn
                replace q4 := q4.below hbn
                replace q5 := q5.below hbn
                replace q7 := q7.below hbn
                replace q11 := q11.below hbn
                replace q13 := q13.below hbn
                replace q15 := q15.below hbn
                replace q19 := q19.below hbn
                replace hbe := hbe.trans (hbn.mono hbe.size)
                clear hbn
                generalize wc = wX9 at *
                clear q5 q11 q13 q19 BX BY BW BK Bk i30 j30 x30 y30 N1 N3
                obtain ⟨b1, n1, a1, m1, c1, rfl, r1, i1⟩ := q15
                have x1 := r1.cell 0
                have y1 := r1.cell 1
                simp only [List.getElem?_cons_zero, List.getElem?_cons_succ] at x1 y1
                obtain ⟨b2, n2, a2, m2, c2, rfl, r2, i2⟩ := q20
                have x2 := r2.cell 0
                have y2 := r2.cell 1
                simp only [List.getElem?_cons_zero, List.getElem?_cons_succ] at x2 y2
                have C := rsame_eq _ _ _ _ i1 i2
                clear i1 i2 r1 r2
                go_upto_region 12 with (go_at_call 25; with_reducible refine C.mono ?_; rintro e wY ⟨hbn, rfl⟩)
                clear C x1 y1 x2 y2
                replace q3 := q3.below hbn
                replace q4 := q4.below hbn
                replace q7 := q7.below hbn
                replace hbe := hbe.trans (hbn.mono hbe.size)
                clear hbn
                obtain ⟨b7, n7, a7, m7, c7, rfl, r7, i7⟩ := q7
                have hz := isInt_zero i7
                have y7 := r7.cell 1
                simp only [List.getElem?_cons_zero, List.getElem?_cons_succ] at y7
                by_cases hm : m7 = 0
                · subst hm
                  clear hz i7 r7 q3 q4
                  go_wp2_with (go_at_call 16; refine (sane_any _ (hT.below hbe)).mono ?_; rintro e w3 ⟨hb3, rfl⟩)
                  go_ret
                  exact ⟨hbe.trans (hb3.mono hbe.size), rfl⟩
                · have hG0 : (G : Int) ≠ 0 := fun h => hm (hz.2 h)
                  have e1 : i.fmod (G : Int) = 0 := Int.fmod_eq_zero_of_dvd HE.out.2.2.2.1
                  have e2 : j.fmod (G : Int) = 0 := Int.fmod_eq_zero_of_dvd HE.out.2.2.2.2
                  have q7 : BoxI wY (.pointer (some ⟨b7, 0, none⟩)) (G : Int) := ⟨b7, n7, a7, m7, c7, rfl, r7, i7⟩
                  have HZ := Lib.hid (And.intro e1 e2)
                  clear hz e1 e2 i7 r7
                  go_upto_region 14 with (fail)
                  clear y7
                  go_cut [10, 22, 23] from 93 to 104 (fun v1 v2 v3 W => v1 = .int .i64 0 ∧ BoxI W v3 0 ∧ Below wY.heap.size wY W)
                  case first =>
                    obtain ⟨n1, a1, m1, c1, r1, i1⟩ := q3.at
                    have x1 := r1.cell 0
                    have y1 := r1.cell 1
                    simp only [List.getElem?_cons_zero, List.getElem?_cons_succ] at x1 y1
                    obtain ⟨n2, a2, m2, c2, r2, i2⟩ := q7.at
                    have x2 := r2.cell 0
                    have y2 := r2.cell 1
                    simp only [List.getElem?_cons_zero, List.getElem?_cons_succ] at x2 y2
                    have C := div_int _ _ _ _ _ i1 i2 Bi BG hG0
                    go_wp2_with (go_at_call 35; with_reducible refine C.mono ?_; rintro e w3 ⟨hb3, v3, v4, rfl, hi3, hi4⟩; obtain ⟨n3, s3, m3, q3, rfl⟩ := hi3.shape; obtain ⟨n4, s4, m4, q4, rfl⟩ := hi4.shape)
                    go_meet
                    rw [HZ.out.1] at hi4
                    obtain ⟨z1, z2, -, z4⟩ := boxes_two hi3 hi4 hb3
                    exact ⟨rfl, z2, z4⟩
                  case rest =>
                    obtain ⟨rfl, q23, hbn⟩ := hcut
                    replace q3 := q3.below hbn
                    replace q4 := q4.below hbn
                    replace q7 := q7.below hbn
                    replace hbe := hbe.trans (hbn.mono hbe.size)
                    clear hbn
                    generalize wc = wX14 at *
                    go_upto_region 15 with (fail)
                    go_cut [12, 24, 25] from 105 to 111 (fun v1 v2 v3 W => v1 = .int .i64 0 ∧ BoxI W v3 0 ∧ Below wX14.heap.size wX14 W)
                    case first =>
                      obtain ⟨n1, a1, m1, c1, r1, i1⟩ := q4.at
                      have x1 := r1.cell 0
                      have y1 := r1.cell 1
                      simp only [List.getElem?_cons_zero, List.getElem?_cons_succ] at x1 y1
                      obtain ⟨n2, a2, m2, c2, r2, i2⟩ := q7.at
                      have x2 := r2.cell 0
                      have y2 := r2.cell 1
                      simp only [List.getElem?_cons_zero, List.getElem?_cons_succ] at x2 y2
                      have C := div_int _ _ _ _ _ i1 i2 Bj BG hG0
                      go_wp2_with (go_at_call 35; with_reducible refine C.mono ?_; rintro e w3 ⟨hb3, v3, v4, rfl, hi3, hi4⟩; obtain ⟨n3, s3, m3, q3, rfl⟩ := hi3.shape; obtain ⟨n4, s4, m4, q4, rfl⟩ := hi4.shape)
                      go_meet
                      rw [HZ.out.2] at hi4
                      obtain ⟨z1, z2, -, z4⟩ := boxes_two hi3 hi4 hb3
                      exact ⟨rfl, z2, z4⟩
                    case rest =>
                      obtain ⟨rfl, q25, hbn⟩ := hcut
                      replace q3 := q3.below hbn
                      replace q4 := q4.below hbn
                      replace q7 := q7.below hbn
                      replace q23 := q23.below hbn
                      replace hbe := hbe.trans (hbn.mono hbe.size)
                      clear hbn
                      generalize wc = wX15 at *
                      obtain ⟨b23, n23, a23, m23, c23, rfl, r23, i23⟩ := q23
                      obtain ⟨b25, n25, a25, m25, c25, rfl, r25, i25⟩ := q25
                      obtain rfl : m23 = 0 := (isInt_zero i23).2 rfl
                      obtain rfl : m25 = 0 := (isInt_zero i25).2 rfl
                      clear q3 q4 q7 i23 i25
                      go_wp2_with (go_at_call 16; refine (sane_any _ (hT.below hbe)).mono ?_; rintro e w3 ⟨hb3, rfl⟩; have y23 := (r23.below hb3).cell 1; have y25 := (r25.below hb3).cell 1; simp only [List.getElem?_cons_zero, List.getElem?_cons_succ] at y23 y25)
                      go_ret
                      exact ⟨hbe.trans (hb3.mono hbe.size), rfl⟩

end Go.Proofs.YtifngjfhgehakaaDoor

/- zermelolaw01.NumDivisors: the row and its card -/
namespace Go.Proofs.YtifngjfhgehakaaDoor
open Go.ChangeShapes Go.WideShapes Go.ChangeAt Go.RowKit Go.Joins

set_option maxRecDepth 100000 in
theorem divisors_lifted (os : Os) (started : os.Started) (H : Type) (enc : TypeId × Value → H) :
    ReturnsInHanded {} Tryd.checked os 12 .any (fun w args => (Rows.numDivisorsSpec.pre enc Tryd.prog Tryd.f12 [] false w args ∧ laidMetH Tryd.prog theLaid w) ∧ sizedMet enc Tryd.prog Tryd.f12 (OpenSpec.ofChange Rows.numDivisorsSpec) false w args)
      (Rows.numDivisorsSpec.post enc Tryd.prog Tryd.f12 false true false false) := by
  refine returnsInHanded_of_change_and (C := Tryd.checked) (X := fun w _ => laidMetH Tryd.prog theLaid w) (fun _ _ _ hh h => h.of_heap hh) own started (by kernel_rfl) Tryd.func12
    (ChangeSpec.witness_shaped (enc := enc) (C := Tryd.checked) (os := os) (X := fun w _ => laidMetH Tryd.prog theLaid w) false (World.doorLaid Tryd.prog 400 os) #[.agg #[.bool false, .slice none 0 0], .agg #[.bool false, .slice none 0 0], .agg #[.bool false, .slice none 0 0]] 8 rfl (World.shaped_of_RefB (by kernel_rfl) (by kernel_rfl)) (by kernel_rfl) (by kernel_rfl) (by kernel_rfl) (door_met os _)) ?_
  intro W base args ds gs before hval0 hW _ _ hL _
  have hval : ∀ (j : Nat) t v, Tryd.f12.params[j]? = some t → args[j]? = some v → Value.okWide Tryd.prog W .any base t v := hval0
  have hW' := hW
  obtain ⟨p, q, hA0, hV, rfl, hfz, hnd⟩ := hW
  have hA : DataW.TrodAll enc Tryd.prog W 0 (fun _ => true) true Tryd.f12.params.toList args.toList ds p := hA0
  rw [Tryd.params12] at hA hval
  obtain ⟨v0, vs0, d0, ds0, p0, q0, hargs, rfl, rfl, h0, r0⟩ := trodAll_cons hA
  obtain ⟨v1, vs1, d1, ds1, p1, q1, rfl, rfl, rfl, h1, r1⟩ := trodAll_cons r0
  obtain ⟨v2, vs2, d2, ds2, p2, q2, rfl, rfl, rfl, h2, r2⟩ := trodAll_cons r1
  obtain ⟨rfl, rfl, rfl⟩ := trodAll_nil r2
  obtain rfl : args = #[v0, v1, v2] := by cases args; simp_all
  obtain ⟨rfl, rfl⟩ := trodVars_none hV
  have lt0 : ∀ x ∈ p0, x.block < W.heap.size := by obtain ⟨m, hm⟩ := h0; exact DataW.trod_lt m _ _ _ hm
  have lt1 : ∀ x ∈ p1, x.block < W.heap.size := by obtain ⟨m, hm⟩ := h1; exact DataW.trod_lt m _ _ _ hm
  have lt2 : ∀ x ∈ p2, x.block < W.heap.size := by obtain ⟨m, hm⟩ := h2; exact DataW.trod_lt m _ _ _ hm
  obtain ⟨na, xa, ha⟩ := open_Int (hval 0 24 v0 rfl rfl) h0
  obtain ⟨nb, xb, hb⟩ := open_Int (hval 1 24 v1 rfl rfl) h1
  obtain ⟨nc, xc, hc⟩ := open_Int (hval 2 24 v2 rfl rfl) h2
  have hT := of_laid hL
  clear hA0 hval0
  refine (divisors_any v0 v1 v2 na nb nc xa xb xc W ha hb hc hT).mono fun e W' ⟨bel, he⟩ => ?_
  subst he
  exact ⟨_, rfl, _, _, _, [], _, [], hW', trodAll_mk1 (shut_bool Tryd.underlying4 _), (trodAll_cons_mk (Below.trod laidOut (by kernel_rfl) (of_decide_eq_true (by kernel_rfl)) h0 bel lt0) (trodAll_cons_mk (Below.trod laidOut (by kernel_rfl) (of_decide_eq_true (by kernel_rfl)) h1 bel lt1) (trodAll_cons_mk (Below.trod laidOut (by kernel_rfl) (of_decide_eq_true (by kernel_rfl)) h2 bel lt2) trodAll_mk0))), rfl, bel.frame _, fun h => by cases h⟩

theorem divisors_holds : Rows.NumDivisorsSaid :=
  OpenClaim.holds_of_wide 12 Tryd.f12 rfl rfl rfl rfl rfl rfl rfl ⟨rfl, rfl, rfl, rfl, rfl⟩ rfl rfl rfl rfl rfl (by kernel_rfl) Tryd.func12 (by kernel_rfl)
    (of_decide_eq_true (by kernel_rfl)) (by unfold Func.isWrapper; first | (rw [if_pos (by decide +kernel)]; kernel_rfl) | (rw [if_neg (by decide +kernel)]; exact ⟨rfl, rfl⟩))
    (fun os started H enc _ => divisors_lifted os started H enc)

theorem divisors_card : Rows.NumDivisorsCardSaid :=
  Claim7.holds_tied_plain_at .later [] [.data] true (true, "42a77e95b8ef9269488dac3a8c52bae1cf7a75fc7fd94978f00f86de717d5f2d") true
    divisors_holds (fun _ h => by cases h) (by kernel_rfl) (fun _ h => by cases h) numDivisors_row_tie rfl ⟨rfl, rfl⟩ (by kernel_rfl) rfl
    (fun f fn hf hfn => by
      obtain rfl : f = 12 := Option.some.inj ((show Tryd.prog.funcNamed "zermelo/zermelolaw01.NumDivisors" = some 12 by kernel_rfl).symm.trans hf) |>.symm
      obtain rfl : fn = Tryd.f12 := (Option.some.inj (Tryd.func12.symm.trans hfn)).symm
      exact ⟨by kernel_rfl, fun j t ht => by
        rw [Tryd.params12] at ht
        have hm : t ∈ [24, 24, 24] := by simpa using Array.mem_of_getElem? ht
        have hall : ([24, 24, 24].all fun u => !Tryd.prog.wantsStandIn u) = true := by kernel_rfl
        exact (show Tryd.prog.wantsStandIn t = false by simpa using List.all_eq_true.1 hall t hm)⟩)
    (by kernel_rfl)
#print axioms divisors_card
end Go.Proofs.YtifngjfhgehakaaDoor
