/- zermelolaw01.NumShifts -/
import Derived.Test.YtlghjfpkfdnfoaaDoorNumMVals2
import Derived.Test.YtlghjfpkfdnfoaaDoorNumMTo
import Derived.RegionTactic
import Derived.BigRegion
namespace Go.Proofs.YtlghjfpkfdnfoaaDoor
open Go Go.RowKit Go.Shelf

theorem boxes_two {W W' : World} {n m : Bool} {a b : Option Addr} {k c l d : Nat} {i j : Int} (h1 : IsInt W' (.agg #[.bool n, .slice a k c]) i) (h2 : IsInt W' (.agg #[.bool m, .slice b l d]) j) (hb : Below W.heap.size W W') :
    BoxI ((W'.alloc (.cells #[.bool n, .slice a k c] 24)).alloc (.cells #[.bool m, .slice b l d] 24)) (.pointer (some ⟨W'.heap.size, 0, none⟩)) i ∧ BoxI ((W'.alloc (.cells #[.bool n, .slice a k c] 24)).alloc (.cells #[.bool m, .slice b l d] 24)) (.pointer (some ⟨W'.heap.size + 1, 0, none⟩)) j ∧ Value.int .i64 0 = Value.int .i64 0 ∧
    Below W.heap.size W ((W'.alloc (.cells #[.bool n, .slice a k c] 24)).alloc (.cells #[.bool m, .slice b l d] 24)) := by
  have b1 := hb.alloc hb.size (.cells #[.bool n, .slice a k c] 24)
  have q := BoxI.new (n := m) (a := b) (m := l) (c := d) (h2.below ((Below.refl W'.heap.size W').alloc (Nat.le_refl _) (.cells #[.bool n, .slice a k c] 24)))
  rw [World.size_alloc] at q
  exact ⟨(BoxI.new h1).alloc _, q, rfl, b1.alloc b1.size _⟩

set_option maxHeartbeats 4000000 in
set_option maxRecDepth 100000 in
set_option exponentiation.threshold 400 in
theorem shifts_any (va : Value) (na : Bool) (xa : List Nat) (n : Nat) (hn : n ≤ 255) (w : World) (ha : IntAt w va na xa) (hT : DigitsAt w) :
    Calls Tryd.prog 11 #[va, .int .u8 (n : Int)] w fun e w' => Below w.heap.size w w' ∧ e = .returned (.bool true) := by
  obtain ⟨sa, rfl, hra, hla⟩ := ha
  obtain ⟨aa, ca, rfl, hca, hma⟩ := hra.form
  go_enter Tryd.func11, Tryd.ntmps11
  go_upto_region 0 with (fail)
  go_cut [2] from 0 to 0 (fun v2 W => BoxF W v2 na xa ∧ Below w.heap.size w W)
  case first =>
    go_wp2
    go_meet
    have B1 : Below w.heap.size w (w.alloc (.cells #[.bool na, .slice aa xa.length ca] 24)) := (Below.refl _ _).alloc (Nat.le_refl _) _
    exact ⟨⟨_, aa, ca, rfl, RowAt.new w 24 [.bool na, .slice aa xa.length ca], hra.below B1⟩, B1⟩
  case rest =>
    obtain ⟨q1, hbe⟩ := hcut
    clear hra hca hma
    have hT1 := hT.below hbe
    obtain ⟨b1, a1, c1, rfl, r1, j1⟩ := q1
    have d11 := r1.cell 0
    have d12 := r1.cell 1
    simp only [List.getElem?_cons_zero, List.getElem?_cons_succ] at d11 d12
    have hnew := RowAt.new wc 24 [.bool na, .slice a1 xa.length c1]
    have hB : Below wc.heap.size wc (wc.alloc (.cells #[.bool na, .slice a1 xa.length c1] 24)) := (Below.refl _ _).alloc (Nat.le_refl _) _
    have hf := formed_list [(na, .slice a1 xa.length c1, xa)] 60 wc.heap.size _ hnew (by simp) (by
      intro it hit
      simp only [List.mem_cons, List.not_mem_nil, or_false] at hit
      subst hit
      exact ⟨j1.below hB, hla⟩)
    simp only [List.length_cons, List.length_nil] at hf
    have hsz := hbe.size
    cases hall : List.all [(na, Value.slice a1 xa.length c1, xa)] (fitB 60) with
    | false =>
      rw [hall] at hf
      clear hnew hall
      go_wp2_with (first
        | (go_at_call 50; refine hf.mono ?_; rintro e w2 ⟨hb2, rfl⟩)
        | (go_at_call 16; refine (sane_any _ ((hT1.below hB).below hb2)).mono ?_; rintro e w3 ⟨hb3, rfl⟩))
      go_ret
      have e1 := hB.trans (hb2.mono hB.size)
      have e2 := e1.trans (hb3.mono e1.size)
      exact ⟨hbe.trans (e2.mono hsz), rfl⟩
    | true =>
      rw [hall] at hf
      have hA := Lib.hid hall
      clear hnew hall
      cases na with
      | true =>
        go_wp2_with (first
          | (go_at_call 50; refine hf.mono ?_; rintro e w2 ⟨hb2, rfl⟩; have e1 := hB.trans (hb2.mono hB.size); have g1 := (r1.below e1).cell 0; simp only [List.getElem?_cons_zero] at g1)
          | (go_at_call 16; refine (sane_any _ ((hT1.below hB).below hb2)).mono ?_; rintro e w3 ⟨hb3, rfl⟩))
        go_ret
        have e2 := e1.trans (hb3.mono e1.size)
        exact ⟨hbe.trans (e2.mono hsz), rfl⟩
      | false =>
        go_upto_region 3 with (go_at_call 50; refine hf.mono ?_; rintro e w2 ⟨hb2, rfl⟩; have e1 := hB.trans (hb2.mono hB.size); have g1 := (r1.below e1).cell 0; simp only [List.getElem?_cons_zero] at g1)
        obtain ⟨f1, l1⟩ : formedB false xa = true ∧ xa.length ≤ 60 := by
          have := hA.out
          simp only [List.all_cons, List.all_nil, fitB, Bool.and_true, Bool.and_eq_true, decide_eq_true_eq] at this
          exact ⟨this.1, by omega⟩
        have k1 := (IntAt.isInt ⟨_, rfl, j1.below e1, hla⟩ f1 : IsInt w2 (.agg #[.bool false, .slice a1 xa.length c1]) (sgn false (val xa)))
        have n1 : (sgn false (val xa)).natAbs < B32 ^ 60 := by rw [sgn_natAbs]; exact (canon_length_iff (formedB_bounds hla f1).1 60).1 l1
        have q2 : BoxI w2 (.pointer (some ⟨b1, 0, none⟩)) ((val xa : Nat) : Int) := ⟨b1, false, a1, xa.length, c1, rfl, r1.below e1, k1⟩
        replace hbe := hbe.trans (e1.mono hsz)
        have n2 : ((val xa : Nat) : Int).natAbs < B32 ^ 60 := n1
        clear hA hf l1 f1 d11 d12 hb2 hB e1 r1 j1 hsz hT1 hla k1 n1 g1
        generalize val xa = N at *
        obtain ⟨T, hTT⟩ : ∃ T : Nat, 2 ^ n = T := ⟨_, rfl⟩
        have hT0 : 0 < T := by rw [← hTT]; exact Nat.pow_pos (by omega)
        have hTb : ((T : Nat) : Int).natAbs < B32 ^ 8 := by rw [Int.natAbs_natCast, ← hTT, B32_pow]; exact Nat.pow_lt_pow_right (by omega) (by omega)
        have hpT : (2 : Int) ^ n = (T : Int) := by rw [← hTT]; simp
        have BN := b32_up n2 (by decide)
        have n60 := n2
        have BT := b32_up hTb (by decide)
        have cU : ((N : Int) * (T : Int)).natAbs < B32 ^ 68 := abs_mul_lt n2 hTb
        have BU := b32_up cU (by decide)
        have hTz : (T : Int) ≠ 0 := by omega
        have BQ : ((N / T : Nat) : Int).natAbs < B32 ^ 300 := by
          rw [Int.natAbs_natCast] at BN ⊢
          exact Nat.lt_of_le_of_lt (Nat.div_le_self _ _) BN
        have eU : (N : Int) * (T : Int) = ((N * T : Nat) : Int) := by simp
        have eD1 : ((N : Int) * (T : Int)).fdiv (T : Int) = (N : Int) := Int.mul_fdiv_cancel _ hTz
        have eD2 : ((N : Int) * (T : Int)).fmod (T : Int) = 0 := by rw [Int.fmod_def, eD1, Int.mul_comm]; omega
        have eQ : (N : Int).fdiv (T : Int) = ((N / T : Nat) : Int) := by rw [Int.fdiv_eq_ediv_of_nonneg _ (by omega)]; rfl
        have HE := Lib.hid (And.intro eU (And.intro eD1 (And.intro eD2 (And.intro eQ (And.intro hpT (And.intro hTT hT0))))))
        clear eU eD1 eD2 eQ hpT hTT cU hTb n2
        generalize w2 = wX2 at *
        go_upto_region 3 with (fail)
        go_cut [5, 6] from 29 to 35 (fun v1 v2 W => BoxI W v1 (T : Int) ∧ v2 = .int .i64 0 ∧ Below wX2.heap.size wX2 W)
        case first =>
          have hwn : IntKind.i64.wrap (n : Int) = (n : Int) := by rw [IntKind.wrap_i64]; omega
          have hpT := HE.out.2.2.2.2.1
          have HP := Lib.hid hpT
          clear hpT
          have C1 := rof_int 2 wX2 (by omega) (by omega)
          go_wp2_with (first
            | (go_at_call 27; refine C1.mono ?_; rintro e w3 ⟨hb3, v3, rfl, hi3⟩)
            | (go_at_call 37; refine (pow_two _ n _ hi3 hn).mono ?_; rintro e w4 ⟨hb4, v4, rfl, hi4⟩; obtain ⟨n4, s4, m4, q4, rfl⟩ := hi4.shape))
          go_meet
          rw [HP.out] at hi4
          have hb5 := hb3.trans (hb4.mono hb3.size)
          exact ⟨BoxI.new hi4, rfl, hb5.alloc hb5.size _⟩
        case rest =>
          obtain ⟨q5, rfl, hbn⟩ := hcut
          replace q2 := q2.below hbn
          replace hbe := hbe.trans (hbn.mono hbe.size)
          clear hbn
          generalize wc = wX3 at *
          go_upto_region 6 with (fail)
          go_cut [6, 7] from 38 to 43 (fun v1 v2 W => v1 = .int .i64 0 ∧ BoxI W v2 ((N : Int) * (T : Int)) ∧ Below wX3.heap.size wX3 W)
          case first =>
            obtain ⟨nx, ax, mx, cx, rx, ix⟩ := q2.at
            have xx := rx.cell 0
            have yx := rx.cell 1
            simp only [List.getElem?_cons_zero, List.getElem?_cons_succ] at xx yx
            obtain ⟨bz, ny, ay, my, cy, rfl, ry, iy⟩ := q5
            have xy := ry.cell 0
            have yy := ry.cell 1
            simp only [List.getElem?_cons_zero, List.getElem?_cons_succ] at xy yy
            have C := mul_int 60 (by decide) _ _ _ _ _ ix iy BN BT (.inl n60) BU
            go_wp2_with (go_at_call 30; with_reducible refine C.mono ?_; rintro e w3 ⟨hb3, v3, rfl, hi3⟩; obtain ⟨n3, s3, m3, q3, rfl⟩ := hi3.shape)
            go_meet
            exact ⟨rfl, BoxI.new hi3, hb3.alloc hb3.size _⟩
          case rest =>
            obtain ⟨rfl, q7, hbn⟩ := hcut
            replace q2 := q2.below hbn
            replace q5 := q5.below hbn
            replace hbe := hbe.trans (hbn.mono hbe.size)
            clear hbn
            generalize wc = wX6 at *
            go_upto_region 7 with (fail)
            go_cut [8, 9, 10] from 44 to 50 (fun v1 v2 v3 W => BoxI W v1 (N : Int) ∧ BoxI W v2 0 ∧ v3 = .int .i64 0 ∧ Below wX6.heap.size wX6 W)
            case first =>
              obtain ⟨bx, nx, ax, mx, cx, rfl, rx, ix⟩ := q7
              have xx := rx.cell 0
              have yx := rx.cell 1
              simp only [List.getElem?_cons_zero, List.getElem?_cons_succ] at xx yx
              obtain ⟨bz, ny, ay, my, cy, rfl, ry, iy⟩ := q5
              have xy := ry.cell 0
              have yy := ry.cell 1
              simp only [List.getElem?_cons_zero, List.getElem?_cons_succ] at xy yy
              have C := div_int _ _ _ _ _ ix iy BU BT hTz
              go_wp2_with (go_at_call 35; with_reducible refine C.mono ?_; rintro e w3 ⟨hb3, v3, v4, rfl, hi3, hi4⟩; obtain ⟨n3, s3, m3, q3, rfl⟩ := hi3.shape; obtain ⟨n4, s4, m4, q4, rfl⟩ := hi4.shape)
              go_meet
              rw [HE.out.2.1] at hi3
              rw [HE.out.2.2.1] at hi4
              exact boxes_two hi3 hi4 hb3
            case rest =>
              obtain ⟨q8, q9, rfl, hbn⟩ := hcut
              replace q2 := q2.below hbn
              replace q5 := q5.below hbn
              replace q7 := q7.below hbn
              replace hbe := hbe.trans (hbn.mono hbe.size)
              clear hbn
              generalize wc = wX7 at *
              go_upto_region 8 with (fail)
              go_cut [11, 12, 13] from 51 to 57 (fun v1 v2 v3 W => BoxI W v1 ((N / T : Nat) : Int) ∧ BoxI W v2 ((N : Int).fmod (T : Int)) ∧ v3 = .int .i64 0 ∧ Below wX7.heap.size wX7 W)
              case first =>
                obtain ⟨nx, ax, mx, cx, rx, ix⟩ := q2.at
                have xx := rx.cell 0
                have yx := rx.cell 1
                simp only [List.getElem?_cons_zero, List.getElem?_cons_succ] at xx yx
                obtain ⟨bz, ny, ay, my, cy, rfl, ry, iy⟩ := q5
                have xy := ry.cell 0
                have yy := ry.cell 1
                simp only [List.getElem?_cons_zero, List.getElem?_cons_succ] at xy yy
                have C := div_int _ _ _ _ _ ix iy BN BT hTz
                go_wp2_with (go_at_call 35; with_reducible refine C.mono ?_; rintro e w3 ⟨hb3, v3, v4, rfl, hi3, hi4⟩; obtain ⟨n3, s3, m3, q3, rfl⟩ := hi3.shape; obtain ⟨n4, s4, m4, q4, rfl⟩ := hi4.shape)
                go_meet
                rw [HE.out.2.2.2.1] at hi3
                exact boxes_two hi3 hi4 hb3
              case rest =>
                obtain ⟨q11, q12, rfl, hbn⟩ := hcut
                clear q12
                replace q2 := q2.below hbn
                replace q5 := q5.below hbn
                replace q7 := q7.below hbn
                replace q8 := q8.below hbn
                replace q9 := q9.below hbn
                replace hbe := hbe.trans (hbn.mono hbe.size)
                clear hbn
                generalize wc = wX8 at *
                go_upto_region 9 with (fail)
                go_cut [14, 15] from 58 to 62 (fun v1 v2 W => (∃ k : Nat, v1 = .int .i64 (k : Int) ∧ BitsIs k N ∧ k ≤ 9600) ∧ v2 = .int .i64 0 ∧ Below wX8.heap.size wX8 W)
                case first =>
                  obtain ⟨nx, ax, mx, cx, rx, ix⟩ := q2.at
                  have xx := rx.cell 0
                  have yx := rx.cell 1
                  simp only [List.getElem?_cons_zero, List.getElem?_cons_succ] at xx yx
                  have C := bits_int _ _ _ ix BN
                  go_wp2_with (go_at_call 21; with_reducible refine C.mono ?_; rintro e w3 ⟨hb3, k, rfl, hk, hkl⟩)
                  go_meet
                  have hk2 : BitsIs k N := hk
                  exact ⟨⟨k, rfl, hk2, hkl⟩, rfl, hb3⟩
                case rest =>
                  obtain ⟨⟨had, rfl, hhad, lhad⟩, rfl, hbn⟩ := hcut
                  replace q2 := q2.below hbn
                  replace q5 := q5.below hbn
                  replace q7 := q7.below hbn
                  replace q8 := q8.below hbn
                  replace q9 := q9.below hbn
                  replace q11 := q11.below hbn
                  replace hbe := hbe.trans (hbn.mono hbe.size)
                  clear hbn
                  generalize wc = wX9 at *
                  go_upto_region 10 with (fail)
                  go_cut [16, 17] from 63 to 67 (fun v1 v2 W => (∃ k : Nat, v1 = .int .i64 (k : Int) ∧ BitsIs k (N * T) ∧ k ≤ 9600) ∧ v2 = .int .i64 0 ∧ Below wX9.heap.size wX9 W)
                  case first =>
                    obtain ⟨bx, nx, ax, mx, cx, rfl, rx, ix⟩ := q7
                    have xx := rx.cell 0
                    have yx := rx.cell 1
                    simp only [List.getElem?_cons_zero, List.getElem?_cons_succ] at xx yx
                    have C := bits_int _ _ _ ix BU
                    go_wp2_with (go_at_call 21; with_reducible refine C.mono ?_; rintro e w3 ⟨hb3, k, rfl, hk, hkl⟩)
                    go_meet
                    have hk2 : BitsIs k (N * T) := by rw [HE.out.1] at hk; exact hk
                    exact ⟨⟨k, rfl, hk2, hkl⟩, rfl, hb3⟩
                  case rest =>
                    obtain ⟨⟨more, rfl, hmore, lmore⟩, rfl, hbn⟩ := hcut
                    replace q2 := q2.below hbn
                    replace q5 := q5.below hbn
                    replace q7 := q7.below hbn
                    replace q8 := q8.below hbn
                    replace q9 := q9.below hbn
                    replace q11 := q11.below hbn
                    replace hbe := hbe.trans (hbn.mono hbe.size)
                    clear hbn
                    generalize wc = wX10 at *
                    go_upto_region 11 with (fail)
                    go_cut [18, 19] from 68 to 72 (fun v1 v2 W => (∃ k : Nat, v1 = .int .i64 (k : Int) ∧ BitsIs k (N / T) ∧ k ≤ 9600) ∧ v2 = .int .i64 0 ∧ Below wX10.heap.size wX10 W)
                    case first =>
                      obtain ⟨bx, nx, ax, mx, cx, rfl, rx, ix⟩ := q11
                      have xx := rx.cell 0
                      have yx := rx.cell 1
                      simp only [List.getElem?_cons_zero, List.getElem?_cons_succ] at xx yx
                      have C := bits_int _ _ _ ix BQ
                      go_wp2_with (go_at_call 21; with_reducible refine C.mono ?_; rintro e w3 ⟨hb3, k, rfl, hk, hkl⟩)
                      go_meet
                      have hk2 : BitsIs k (N / T) := hk
                      exact ⟨⟨k, rfl, hk2, hkl⟩, rfl, hb3⟩
                    case rest =>
                      obtain ⟨⟨left, rfl, hleft, lleft⟩, rfl, hbn⟩ := hcut
                      replace q2 := q2.below hbn
                      replace q5 := q5.below hbn
                      replace q7 := q7.below hbn
                      replace q8 := q8.below hbn
                      replace q9 := q9.below hbn
                      replace q11 := q11.below hbn
                      replace hbe := hbe.trans (hbn.mono hbe.size)
                      clear hbn
                      generalize wc = wX11 at *
                      have hmul := fun h => bitsIs_mul (s := n) hhad (by rw [HE.out.2.2.2.2.2.1]; exact hmore) h
                      have hdiv := bitsIs_div (s := n) hhad (by rw [HE.out.2.2.2.2.2.1]; exact hleft)
                      clear hhad hmore hleft BN BT BU BQ n60
                      have BI : (had : Int) ≤ 9600 := by omega
                      have hmx : max (0 : Int) ((had : Int) - (n : Int)) = (left : Int) := by omega
                      have hwn : IntKind.i64.wrap (n : Int) = (n : Int) := by rw [IntKind.wrap_i64]; omega
                      obtain ⟨n2, a2, m2, c2, r2, i2⟩ := q2.at
                      obtain ⟨b8, n8, a8, m8, c8, rfl, r8, i8⟩ := q8
                      obtain ⟨b9, n9, a9, m9, c9, rfl, r9, i9⟩ := q9
                      obtain rfl : m9 = 0 := (isInt_zero i9).2 rfl
                      have hz2 := isInt_zero i2
                      clear q5 q7 q11 i9 hdiv HE hTz hT0
                      by_cases hN : N = 0
                      · obtain rfl : m2 = 0 := hz2.2 (by omega)
                        clear hmul hz2 lmore
                        go_wp2_with (first
                          | (go_at_call 16; with_reducible refine (sane_any _ (hT.below hbe)).mono ?_; rintro e w0 ⟨H0, rfl⟩; have x8 := (r8.below H0).cell 0; have y8 := (r8.below H0).cell 1; have x2 := (r2.below H0).cell 0; have y2 := (r2.below H0).cell 1; simp only [List.getElem?_cons_zero, List.getElem?_cons_succ] at x8 y8 x2 y2)
                          | (go_at_call 25; with_reducible refine (rsame_eq _ _ _ _ (i8.below H0) (i2.below H0)).mono ?_; rintro e w1 ⟨hs0, rfl⟩; have H1 := H0.trans (hs0.mono H0.size); have y9 := (r9.below H1).cell 1; have z2 := (r2.below H1).cell 1; simp only [List.getElem?_cons_zero, List.getElem?_cons_succ] at y9 z2))
                        go_ret
                        exact ⟨hbe.trans (H1.mono hbe.size), rfl⟩
                      · have hm2 : ¬ m2 = 0 := fun h => hN (by have := hz2.1 h; omega)
                        obtain rfl : more = had + n := hmul hN
                        clear hmul hz2 lmore
                        go_wp2_with (first
                          | (go_at_call 16; with_reducible refine (sane_any _ (hT.below hbe)).mono ?_; rintro e w0 ⟨H0, rfl⟩; have x8 := (r8.below H0).cell 0; have y8 := (r8.below H0).cell 1; have x2 := (r2.below H0).cell 0; have y2 := (r2.below H0).cell 1; simp only [List.getElem?_cons_zero, List.getElem?_cons_succ] at x8 y8 x2 y2)
                          | (go_at_call 25; with_reducible refine (rsame_eq _ _ _ _ (i8.below H0) (i2.below H0)).mono ?_; rintro e w1 ⟨hs0, rfl⟩; have H1 := H0.trans (hs0.mono H0.size); have y9 := (r9.below H1).cell 1; have z2 := (r2.below H1).cell 1; simp only [List.getElem?_cons_zero, List.getElem?_cons_succ] at y9 z2))
                        go_ret
                        exact ⟨hbe.trans (H1.mono hbe.size), rfl⟩

end Go.Proofs.YtlghjfpkfdnfoaaDoor

/- zermelolaw01.NumDivisors -/
namespace Go.Proofs.YtlghjfpkfdnfoaaDoor
open Go Go.RowKit Go.Shelf

theorem isInt_abs {w : World} {n : Bool} {v : Value} {i : Int} (h : IsInt w (.agg #[.bool n, v]) i) : IsInt w (.agg #[.bool false, v]) (i.natAbs : Int) := by
  obtain ⟨neg, va, xs, e, hr, hc, hn, rfl⟩ := h
  simp only [Value.agg.injEq, Array.mk.injEq, List.cons.injEq, Value.bool.injEq, and_true] at e
  obtain ⟨rfl, rfl⟩ := e
  exact ⟨false, _, xs, rfl, hr, hc, rfl, by rw [sgn_natAbs]; rfl⟩

set_option exponentiation.threshold 400 in
theorem gcd_int (va vb : Value) (i j : Int) (w : World) (ha : IsInt w va i) (hb : IsInt w vb j) (hi : i.natAbs < B32 ^ 30) (hj : j.natAbs < B32 ^ 30) :
    Calls Tryd.prog 41 #[va, vb] w fun e w' => Below w.heap.size w w' ∧ ∃ g x y k l, e = .returned (.tuple #[g, x, y, .int .i64 0]) ∧ IsInt w' g (Nat.gcd i.natAbs j.natAbs : Nat) ∧ IsInt w' x k ∧ IsInt w' y l := by
  obtain ⟨na, xa, hA, fa, rfl, ca, la⟩ := ha.at (abs_lt_up hi (by decide))
  obtain ⟨nb, xb, hB, fb, rfl, cb, lb⟩ := hb.at (abs_lt_up hj (by decide))
  rw [sgn_natAbs] at hi hj
  rw [sgn_natAbs, sgn_natAbs]
  refine (Gcd_ok va vb na nb xa xb w hA hB fa fb (Nat.gcd (val xa) (val xb) : Nat) (fun _ _ => True) (fun W hW => ?_)).mono ?_
  · obtain ⟨va', rfl, hra, hla⟩ := hA
    obtain ⟨vb', rfl, hrb, hlb⟩ := hB
    refine (divisor_any 30 (by omega) (divUpTo_le (divUpTo_all 30) (by omega) (by omega)) (by omega) va' vb' na nb xa xb W (hra.below hW) (hrb.below hW) ca cb (canon_length_le ca hi) (canon_length_le cb hj) la lb).mono ?_
    rintro e W' ⟨hbe, g, x, y, k, l, rfl, h1, h2, h3, -⟩
    exact ⟨hbe, g, x, y, k, l, rfl, h1, h2, h3, trivial⟩
  · rintro e W ⟨hbe, g, x, y, k, l, rfl, h1, h2, h3, -⟩
    exact ⟨hbe, g, x, y, k, l, rfl, h1, h2, h3⟩

theorem box_first {W W' : World} {n m p : Bool} {a b d : Option Addr} {k c l e q r : Nat} {i : Int} (h1 : IsInt W' (.agg #[.bool n, .slice a k c]) i) (hb : Below W.heap.size W W') :
    BoxI (((W'.alloc (.cells #[.bool n, .slice a k c] 24)).alloc (.cells #[.bool m, .slice b l e] 24)).alloc (.cells #[.bool p, .slice d q r] 24)) (.pointer (some ⟨W'.heap.size, 0, none⟩)) i ∧
    Below W.heap.size W (((W'.alloc (.cells #[.bool n, .slice a k c] 24)).alloc (.cells #[.bool m, .slice b l e] 24)).alloc (.cells #[.bool p, .slice d q r] 24)) := by
  have b1 := hb.alloc hb.size (.cells #[.bool n, .slice a k c] 24)
  have b2 := b1.alloc b1.size (.cells #[.bool m, .slice b l e] 24)
  exact ⟨((BoxI.new h1).alloc _).alloc _, b2.alloc b2.size _⟩

set_option maxHeartbeats 4000000 in
set_option maxRecDepth 100000 in
set_option exponentiation.threshold 400 in
theorem divisors_any (va vb vc : Value) (na nb nc : Bool) (xa xb xc : List Nat) (w : World) (ha : IntAt w va na xa) (hb : IntAt w vb nb xb) (hc : IntAt w vc nc xc) (hT : DigitsAt w) :
    Calls Tryd.prog 12 #[va, vb, vc] w fun e w' => Below w.heap.size w w' ∧ e = .returned (.bool true) := by
  obtain ⟨sa, rfl, hra, hla⟩ := ha
  obtain ⟨sb, rfl, hrb, hlb⟩ := hb
  obtain ⟨sc, rfl, hrc, hlc⟩ := hc
  obtain ⟨aa, ca, rfl, hca, hma⟩ := hra.form
  obtain ⟨ab, cb, rfl, hcb, hmb⟩ := hrb.form
  obtain ⟨ac, cc, rfl, hcc, hmc⟩ := hrc.form
  go_enter Tryd.func12, Tryd.ntmps12
  go_upto_region 0 with (fail)
  go_cut [3, 4, 5] from 0 to 2 (fun v3 v4 v5 W => BoxF W v3 na xa ∧ BoxF W v4 nb xb ∧ BoxF W v5 nc xc ∧ Below w.heap.size w W)
  case first =>
    go_wp2
    go_meet
    have B1 : Below w.heap.size w (w.alloc (.cells #[.bool na, .slice aa xa.length ca] 24)) := (Below.refl _ _).alloc (Nat.le_refl _) _
    have B2 := B1.alloc B1.size (.cells #[.bool nb, .slice ab xb.length cb] 24)
    have B3 := B2.alloc B2.size (.cells #[.bool nc, .slice ac xc.length cc] 24)
    have C1 : BoxF _ _ na xa := ⟨_, aa, ca, rfl, RowAt.new w 24 [.bool na, .slice aa xa.length ca], hra.below B1⟩
    have C2 : BoxF _ _ nb xb := ⟨_, ab, cb, rfl, RowAt.new (w.alloc (.cells #[.bool na, .slice aa xa.length ca] 24)) 24 [.bool nb, .slice ab xb.length cb], hrb.below B2⟩
    have C3 : BoxF _ _ nc xc := ⟨_, ac, cc, rfl, RowAt.new ((w.alloc (.cells #[.bool na, .slice aa xa.length ca] 24)).alloc (.cells #[.bool nb, .slice ab xb.length cb] 24)) 24 [.bool nc, .slice ac xc.length cc], hrc.below B3⟩
    simp only [World.size_alloc] at C2 C3
    exact ⟨(C1.below ((Below.refl _ _).alloc (Nat.le_refl _) _)).below ((Below.refl _ _).alloc (Nat.le_refl _) _), C2.below ((Below.refl _ _).alloc (Nat.le_refl _) _), C3, B3⟩
  case rest =>
    obtain ⟨q1, q2, q3, hbe⟩ := hcut
    clear hra hrb hrc hca hcb hcc hma hmb hmc
    have hT1 := hT.below hbe
    obtain ⟨b1, a1, c1, rfl, r1, j1⟩ := q1
    obtain ⟨b2, a2, c2, rfl, r2, j2⟩ := q2
    obtain ⟨b3, a3, c3, rfl, r3, j3⟩ := q3
    have d11 := r1.cell 0
    have d12 := r1.cell 1
    have d21 := r2.cell 0
    have d22 := r2.cell 1
    have d31 := r3.cell 0
    have d32 := r3.cell 1
    simp only [List.getElem?_cons_zero, List.getElem?_cons_succ] at d11 d12 d21 d22 d31 d32
    have hnew := RowAt.new wc 24 [.bool na, .slice a1 xa.length c1, .bool nb, .slice a2 xb.length c2, .bool nc, .slice a3 xc.length c3]
    have hB : Below wc.heap.size wc (wc.alloc (.cells #[.bool na, .slice a1 xa.length c1, .bool nb, .slice a2 xb.length c2, .bool nc, .slice a3 xc.length c3] 24)) := (Below.refl _ _).alloc (Nat.le_refl _) _
    have hf := formed_list [(na, .slice a1 xa.length c1, xa), (nb, .slice a2 xb.length c2, xb), (nc, .slice a3 xc.length c3, xc)] 8 wc.heap.size _ hnew (by simp) (by
      intro it hit
      simp only [List.mem_cons, List.not_mem_nil, or_false] at hit
      rcases hit with rfl | rfl | rfl
      · exact ⟨j1.below hB, hla⟩
      · exact ⟨j2.below hB, hlb⟩
      · exact ⟨j3.below hB, hlc⟩)
    simp only [List.length_cons, List.length_nil] at hf
    have hsz := hbe.size
    cases hall : List.all [(na, Value.slice a1 xa.length c1, xa), (nb, Value.slice a2 xb.length c2, xb), (nc, Value.slice a3 xc.length c3, xc)] (fitB 8) with
    | false =>
      rw [hall] at hf
      clear hnew hall
      go_wp2_with (first
        | (go_at_call 50; refine hf.mono ?_; rintro e w2 ⟨hb2, rfl⟩)
        | (go_at_call 16; refine (sane_any _ ((hT1.below hB).below hb2)).mono ?_; rintro e w3 ⟨hb3, rfl⟩))
      go_ret
      have e1 := hB.trans (hb2.mono hB.size)
      have e2 := e1.trans (hb3.mono e1.size)
      exact ⟨hbe.trans (e2.mono hsz), rfl⟩
    | true =>
      rw [hall] at hf
      have hA := Lib.hid hall
      clear hnew hall
      go_upto_region 3 with (go_at_call 50; refine hf.mono ?_; rintro e w2 ⟨hb2, rfl⟩)
      have e1 := hB.trans (hb2.mono hB.size)
      obtain ⟨⟨f1, l1⟩, ⟨f2, l2⟩, ⟨f3, l3⟩⟩ : (formedB na xa = true ∧ xa.length ≤ 8) ∧ (formedB nb xb = true ∧ xb.length ≤ 8) ∧ (formedB nc xc = true ∧ xc.length ≤ 8) := by
        have := hA.out
        simp only [List.all_cons, List.all_nil, fitB, Bool.and_true, Bool.and_eq_true, decide_eq_true_eq] at this
        exact ⟨⟨this.1.1, by omega⟩, ⟨this.2.1.1, by omega⟩, ⟨this.2.2.1, by omega⟩⟩
      have k1 := (IntAt.isInt ⟨_, rfl, j1.below e1, hla⟩ f1 : IsInt w2 (.agg #[.bool na, .slice a1 xa.length c1]) (sgn na (val xa)))
      have k2 := (IntAt.isInt ⟨_, rfl, j2.below e1, hlb⟩ f2 : IsInt w2 (.agg #[.bool nb, .slice a2 xb.length c2]) (sgn nb (val xb)))
      have k3 := (IntAt.isInt ⟨_, rfl, j3.below e1, hlc⟩ f3 : IsInt w2 (.agg #[.bool nc, .slice a3 xc.length c3]) (sgn nc (val xc)))
      have n1 : (sgn na (val xa)).natAbs < B32 ^ 8 := by rw [sgn_natAbs]; exact (canon_length_iff (formedB_bounds hla f1).1 8).1 l1
      have n2 : (sgn nb (val xb)).natAbs < B32 ^ 8 := by rw [sgn_natAbs]; exact (canon_length_iff (formedB_bounds hlb f2).1 8).1 l2
      have n3 : (sgn nc (val xc)).natAbs < B32 ^ 8 := by rw [sgn_natAbs]; exact (canon_length_iff (formedB_bounds hlc f3).1 8).1 l3
      have q3 : BoxI w2 (.pointer (some ⟨b1, 0, none⟩)) (sgn na (val xa)) := ⟨b1, na, a1, xa.length, c1, rfl, r1.below e1, k1⟩
      have q4 : BoxI w2 (.pointer (some ⟨b2, 0, none⟩)) (sgn nb (val xb)) := ⟨b2, nb, a2, xb.length, c2, rfl, r2.below e1, k2⟩
      have q5 : BoxI w2 (.pointer (some ⟨b3, 0, none⟩)) (sgn nc (val xc)) := ⟨b3, nc, a3, xc.length, c3, rfl, r3.below e1, k3⟩
      replace hbe := hbe.trans (e1.mono hsz)
      clear hA hf l1 l2 l3 f1 f2 f3 d11 d12 d21 d22 d31 d32 hb2 hB e1 r1 r2 r3 j1 j2 j3 hsz hT1 hla hlb hlc k1 k2 k3
      generalize sgn na (val xa) = i at *
      generalize sgn nb (val xb) = j at *
      generalize sgn nc (val xc) = k at *
      obtain ⟨G, hG⟩ : ∃ G, Nat.gcd i.natAbs j.natAbs = G := ⟨_, rfl⟩
      have gi : (G : Int) ∣ i := by rw [← hG]; exact Int.ofNat_dvd_left.2 (Nat.gcd_dvd_left _ _)
      have gj : (G : Int) ∣ j := by rw [← hG]; exact Int.ofNat_dvd_left.2 (Nat.gcd_dvd_right _ _)
      have hGb : ((G : Nat) : Int).natAbs < B32 ^ 8 := by
        rw [Int.natAbs_natCast, ← hG]
        rcases Nat.eq_zero_or_pos i.natAbs with h0 | h0
        · rw [h0, Nat.gcd_zero_left]; exact n2
        · exact Nat.lt_of_le_of_lt (Nat.gcd_le_left _ h0) n1
      have hGk : Nat.gcd (i * k).natAbs (j * k).natAbs = G * k.natAbs := by rw [Int.natAbs_mul, Int.natAbs_mul, Nat.gcd_mul_right, hG]
      have hGk2 : ((G : Nat) : Int) * (k.natAbs : Int) = ((G * k.natAbs : Nat) : Int) := by simp
      have cX : (i * k).natAbs < B32 ^ 16 := abs_mul_lt n1 n3
      have cY : (j * k).natAbs < B32 ^ 16 := abs_mul_lt n2 n3
      have nK : ((k.natAbs : Nat) : Int).natAbs < B32 ^ 8 := by rw [Int.natAbs_natCast]; exact n3
      have cW : (((G : Nat) : Int) * (k.natAbs : Int)).natAbs < B32 ^ 16 := abs_mul_lt hGb nK
      have Bi := b32_up n1 (by decide)
      have Bj := b32_up n2 (by decide)
      have Bk := b32_up n3 (by decide)
      have BG := b32_up hGb (by decide)
      have BK := b32_up nK (by decide)
      have BX := b32_up cX (by decide)
      have BY := b32_up cY (by decide)
      have BW := b32_up cW (by decide)
      have i30 := abs_lt_up n1 (show 8 ≤ 30 by decide)
      have j30 := abs_lt_up n2 (show 8 ≤ 30 by decide)
      have x30 := abs_lt_up cX (show 16 ≤ 30 by decide)
      have y30 := abs_lt_up cY (show 16 ≤ 30 by decide)
      have HE := Lib.hid (And.intro hG (And.intro hGk (And.intro hGk2 (And.intro gi gj))))
      have N1 := n1
      have N3 := n3
      clear hG hGk hGk2 gi gj cX cY cW nK n1 n2 n3
      generalize w2 = wX2 at *
      go_upto_region 3 with (fail)
      go_cut [7, 8, 9, 10] from 33 to 40 (fun v1 v2 v3 v4 W => BoxI W v1 (G : Int) ∧ v4 = .int .i64 0 ∧ Below wX2.heap.size wX2 W)
      case first =>
        obtain ⟨n1, a1, m1, c1, r1, i1⟩ := q3.at
        have x1 := r1.cell 0
        have y1 := r1.cell 1
        simp only [List.getElem?_cons_zero, List.getElem?_cons_succ] at x1 y1
        obtain ⟨n2, a2, m2, c2, r2, i2⟩ := q4.at
        have x2 := r2.cell 0
        have y2 := r2.cell 1
        simp only [List.getElem?_cons_zero, List.getElem?_cons_succ] at x2 y2
        have C := gcd_int _ _ _ _ _ i1 i2 i30 j30
        go_wp2_with (go_at_call 41; with_reducible refine C.mono ?_; rintro e w3 ⟨hb3, v3, v4, v5, k4, k5, rfl, hi3, hi4, hi5⟩; obtain ⟨n3, s3, m3, q3, rfl⟩ := hi3.shape; obtain ⟨n4, s4, m4, q4, rfl⟩ := hi4.shape; obtain ⟨n5, s5, m5, q5, rfl⟩ := hi5.shape)
        go_meet
        rw [HE.out.1] at hi3
        obtain ⟨z1, z2⟩ := box_first hi3 hb3
        exact ⟨z1, rfl, z2⟩
      case rest =>
        obtain ⟨q7, rfl, hbn⟩ := hcut
        replace q3 := q3.below hbn
        replace q4 := q4.below hbn
        replace q5 := q5.below hbn
        replace hbe := hbe.trans (hbn.mono hbe.size)
        clear hbn
        generalize wc = wX3 at *
        go_upto_region 4 with (fail)
        go_cut [11, 12] from 41 to 46 (fun v1 v2 W => BoxI W v1 (i * k) ∧ v2 = .int .i64 0 ∧ Below wX3.heap.size wX3 W)
        case first =>
          obtain ⟨n1, a1, m1, c1, r1, i1⟩ := q3.at
          have x1 := r1.cell 0
          have y1 := r1.cell 1
          simp only [List.getElem?_cons_zero, List.getElem?_cons_succ] at x1 y1
          obtain ⟨n2, a2, m2, c2, r2, i2⟩ := q5.at
          have x2 := r2.cell 0
          have y2 := r2.cell 1
          simp only [List.getElem?_cons_zero, List.getElem?_cons_succ] at x2 y2
          have C := mul_int 8 (by decide) _ _ _ _ _ i1 i2 Bi Bk (.inl N1) BX
          go_wp2_with (go_at_call 30; with_reducible refine C.mono ?_; rintro e w3 ⟨hb3, v3, rfl, hi3⟩; obtain ⟨n3, s3, m3, q3, rfl⟩ := hi3.shape)
          go_meet
          exact ⟨BoxI.new hi3, rfl, hb3.alloc hb3.size _⟩
        case rest =>
          obtain ⟨q11, rfl, hbn⟩ := hcut
          replace q3 := q3.below hbn
          replace q4 := q4.below hbn
          replace q5 := q5.below hbn
          replace q7 := q7.below hbn
          replace hbe := hbe.trans (hbn.mono hbe.size)
          clear hbn
          generalize wc = wX4 at *
          go_upto_region 5 with (fail)
          go_cut [13, 14] from 47 to 52 (fun v1 v2 W => BoxI W v1 (j * k) ∧ v2 = .int .i64 0 ∧ Below wX4.heap.size wX4 W)
          case first =>
            obtain ⟨n1, a1, m1, c1, r1, i1⟩ := q4.at
            have x1 := r1.cell 0
            have y1 := r1.cell 1
            simp only [List.getElem?_cons_zero, List.getElem?_cons_succ] at x1 y1
            obtain ⟨n2, a2, m2, c2, r2, i2⟩ := q5.at
            have x2 := r2.cell 0
            have y2 := r2.cell 1
            simp only [List.getElem?_cons_zero, List.getElem?_cons_succ] at x2 y2
            have C := mul_int 8 (by decide) _ _ _ _ _ i1 i2 Bj Bk (.inr N3) BY
            go_wp2_with (go_at_call 30; with_reducible refine C.mono ?_; rintro e w3 ⟨hb3, v3, rfl, hi3⟩; obtain ⟨n3, s3, m3, q3, rfl⟩ := hi3.shape)
            go_meet
            exact ⟨BoxI.new hi3, rfl, hb3.alloc hb3.size _⟩
          case rest =>
            obtain ⟨q13, rfl, hbn⟩ := hcut
            replace q3 := q3.below hbn
            replace q4 := q4.below hbn
            replace q5 := q5.below hbn
            replace q7 := q7.below hbn
            replace q11 := q11.below hbn
            replace hbe := hbe.trans (hbn.mono hbe.size)
            clear hbn
            generalize wc = wX5 at *
            go_upto_region 6 with (fail)
            go_cut [15, 16, 17, 18] from 53 to 60 (fun v1 v2 v3 v4 W => BoxI W v1 ((G * k.natAbs : Nat) : Int) ∧ v4 = .int .i64 0 ∧ Below wX5.heap.size wX5 W)
            case first =>
              obtain ⟨b1, n1, a1, m1, c1, rfl, r1, i1⟩ := q11
              have x1 := r1.cell 0
              have y1 := r1.cell 1
              simp only [List.getElem?_cons_zero, List.getElem?_cons_succ] at x1 y1
              obtain ⟨b2, n2, a2, m2, c2, rfl, r2, i2⟩ := q13
              have x2 := r2.cell 0
              have y2 := r2.cell 1
              simp only [List.getElem?_cons_zero, List.getElem?_cons_succ] at x2 y2
              have C := gcd_int _ _ _ _ _ i1 i2 x30 y30
              go_wp2_with (go_at_call 41; with_reducible refine C.mono ?_; rintro e w3 ⟨hb3, v3, v4, v5, k4, k5, rfl, hi3, hi4, hi5⟩; obtain ⟨n3, s3, m3, q3, rfl⟩ := hi3.shape; obtain ⟨n4, s4, m4, q4, rfl⟩ := hi4.shape; obtain ⟨n5, s5, m5, q5, rfl⟩ := hi5.shape)
              go_meet
              rw [HE.out.2.1] at hi3
              obtain ⟨z1, z2⟩ := box_first hi3 hb3
              exact ⟨z1, rfl, z2⟩
            case rest =>
              obtain ⟨q15, rfl, hbn⟩ := hcut
              replace q3 := q3.below hbn
              replace q4 := q4.below hbn
              replace q5 := q5.below hbn
              replace q7 := q7.below hbn
              replace q11 := q11.below hbn
              replace q13 := q13.below hbn
              replace hbe := hbe.trans (hbn.mono hbe.size)
              clear hbn
              generalize wc = wX6 at *
              obtain ⟨n1, a1, m1, c1, r1, i1⟩ := q5.at
              have x1 := r1.cell 0
              have y1 := r1.cell 1
              simp only [List.getElem?_cons_zero, List.getElem?_cons_succ] at x1 y1
              go_upto_region 9 with (fail)
              clear x1 y1
              have q19 := BoxI.new (isInt_abs i1)
              have hbn := (Below.refl wX6.heap.size wX6).alloc (Nat.le_refl _) (.cells #[.bool false, .slice a1 m1 c1] 24)
              clear r1 i1
              replace q3 := q3.below hbn
              replace q4 := q4.below hbn
              replace q5 := q5.below hbn
              replace q7 := q7.below hbn
              replace q11 := q11.below hbn
              replace q13 := q13.below hbn
              replace q15 := q15.below hbn
              replace hbe := hbe.trans (hbn.mono hbe.size)
              clear hbn
              generalize wX6.alloc (.cells #[.bool false, .slice a1 m1 c1] 24) = wX7 at *
              go_cut [20, 21] from 63 to 68 (fun v1 v2 W => BoxI W v1 ((G * k.natAbs : Nat) : Int) ∧ v2 = .int .i64 0 ∧ Below wX7.heap.size wX7 W)
              case first =>
                obtain ⟨b1, n1, a1, m1, c1, rfl, r1, i1⟩ := q7
                have x1 := r1.cell 0
                have y1 := r1.cell 1
                simp only [List.getElem?_cons_zero, List.getElem?_cons_succ] at x1 y1
                obtain ⟨n2, a2, m2, c2, r2, i2⟩ := q19.at
                have x2 := r2.cell 0
                have y2 := r2.cell 1
                simp only [List.getElem?_cons_zero, List.getElem?_cons_succ] at x2 y2
                have C := mul_int 8 (by decide) _ _ _ _ _ i1 i2 BG BK (.inl hGb) BW
                go_wp2_with (go_at_call 30; with_reducible refine C.mono ?_; rintro e w3 ⟨hb3, v3, rfl, hi3⟩; obtain ⟨n3, s3, m3, q3, rfl⟩ := hi3.shape)
                go_meet
                rw [HE.out.2.2.1] at hi3
                exact ⟨BoxI.new hi3, rfl, hb3.alloc hb3.size _⟩
              case rest =>
                obtain ⟨q20, rfl, hbn⟩ := hcut
                replace q3 := q3.below hbn
                replace q4 := q4.below hbn
                replace q5 := q5.below hbn
                replace q7 := q7.below hbn
                replace q11 := q11.below hbn
                replace q13 := q13.below hbn
                replace q15 := q15.below hbn
                replace q19 := q19.below hbn
                replace hbe := hbe.trans (hbn.mono hbe.size)
                clear hbn
                generalize wc = wX9 at *
                clear q5 q11 q13 q19 BX BY BW BK Bk i30 j30 x30 y30 N1 N3
                obtain ⟨b1, n1, a1, m1, c1, rfl, r1, i1⟩ := q15
                have x1 := r1.cell 0
                have y1 := r1.cell 1
                simp only [List.getElem?_cons_zero, List.getElem?_cons_succ] at x1 y1
                obtain ⟨b2, n2, a2, m2, c2, rfl, r2, i2⟩ := q20
                have x2 := r2.cell 0
                have y2 := r2.cell 1
                simp only [List.getElem?_cons_zero, List.getElem?_cons_succ] at x2 y2
                have C := rsame_eq _ _ _ _ i1 i2
                clear i1 i2 r1 r2
                go_upto_region 12 with (go_at_call 25; with_reducible refine C.mono ?_; rintro e wY ⟨hbn, rfl⟩)
                clear C x1 y1 x2 y2
                replace q3 := q3.below hbn
                replace q4 := q4.below hbn
                replace q7 := q7.below hbn
                replace hbe := hbe.trans (hbn.mono hbe.size)
                clear hbn
                obtain ⟨b7, n7, a7, m7, c7, rfl, r7, i7⟩ := q7
                have hz := isInt_zero i7
                have y7 := r7.cell 1
                simp only [List.getElem?_cons_zero, List.getElem?_cons_succ] at y7
                by_cases hm : m7 = 0
                · subst hm
                  clear hz i7 r7 q3 q4
                  go_wp2_with (go_at_call 16; refine (sane_any _ (hT.below hbe)).mono ?_; rintro e w3 ⟨hb3, rfl⟩)
                  go_ret
                  exact ⟨hbe.trans (hb3.mono hbe.size), rfl⟩
                · have hG0 : (G : Int) ≠ 0 := fun h => hm (hz.2 h)
                  have e1 : i.fmod (G : Int) = 0 := Int.fmod_eq_zero_of_dvd HE.out.2.2.2.1
                  have e2 : j.fmod (G : Int) = 0 := Int.fmod_eq_zero_of_dvd HE.out.2.2.2.2
                  have q7 : BoxI wY (.pointer (some ⟨b7, 0, none⟩)) (G : Int) := ⟨b7, n7, a7, m7, c7, rfl, r7, i7⟩
                  have HZ := Lib.hid (And.intro e1 e2)
                  clear hz e1 e2 i7 r7
                  go_upto_region 14 with (fail)
                  clear y7
                  go_cut [10, 22, 23] from 93 to 104 (fun v1 v2 v3 W => v1 = .int .i64 0 ∧ BoxI W v3 0 ∧ Below wY.heap.size wY W)
                  case first =>
                    obtain ⟨n1, a1, m1, c1, r1, i1⟩ := q3.at
                    have x1 := r1.cell 0
                    have y1 := r1.cell 1
                    simp only [List.getElem?_cons_zero, List.getElem?_cons_succ] at x1 y1
                    obtain ⟨n2, a2, m2, c2, r2, i2⟩ := q7.at
                    have x2 := r2.cell 0
                    have y2 := r2.cell 1
                    simp only [List.getElem?_cons_zero, List.getElem?_cons_succ] at x2 y2
                    have C := div_int _ _ _ _ _ i1 i2 Bi BG hG0
                    go_wp2_with (go_at_call 35; with_reducible refine C.mono ?_; rintro e w3 ⟨hb3, v3, v4, rfl, hi3, hi4⟩; obtain ⟨n3, s3, m3, q3, rfl⟩ := hi3.shape; obtain ⟨n4, s4, m4, q4, rfl⟩ := hi4.shape)
                    go_meet
                    rw [HZ.out.1] at hi4
                    obtain ⟨z1, z2, -, z4⟩ := boxes_two hi3 hi4 hb3
                    exact ⟨rfl, z2, z4⟩
                  case rest =>
                    obtain ⟨rfl, q23, hbn⟩ := hcut
                    replace q3 := q3.below hbn
                    replace q4 := q4.below hbn
                    replace q7 := q7.below hbn
                    replace hbe := hbe.trans (hbn.mono hbe.size)
                    clear hbn
                    generalize wc = wX14 at *
                    go_upto_region 15 with (fail)
                    go_cut [12, 24, 25] from 105 to 111 (fun v1 v2 v3 W => v1 = .int .i64 0 ∧ BoxI W v3 0 ∧ Below wX14.heap.size wX14 W)
                    case first =>
                      obtain ⟨n1, a1, m1, c1, r1, i1⟩ := q4.at
                      have x1 := r1.cell 0
                      have y1 := r1.cell 1
                      simp only [List.getElem?_cons_zero, List.getElem?_cons_succ] at x1 y1
                      obtain ⟨n2, a2, m2, c2, r2, i2⟩ := q7.at
                      have x2 := r2.cell 0
                      have y2 := r2.cell 1
                      simp only [List.getElem?_cons_zero, List.getElem?_cons_succ] at x2 y2
                      have C := div_int _ _ _ _ _ i1 i2 Bj BG hG0
                      go_wp2_with (go_at_call 35; with_reducible refine C.mono ?_; rintro e w3 ⟨hb3, v3, v4, rfl, hi3, hi4⟩; obtain ⟨n3, s3, m3, q3, rfl⟩ := hi3.shape; obtain ⟨n4, s4, m4, q4, rfl⟩ := hi4.shape)
                      go_meet
                      rw [HZ.out.2] at hi4
                      obtain ⟨z1, z2, -, z4⟩ := boxes_two hi3 hi4 hb3
                      exact ⟨rfl, z2, z4⟩
                    case rest =>
                      obtain ⟨rfl, q25, hbn⟩ := hcut
                      replace q3 := q3.below hbn
                      replace q4 := q4.below hbn
                      replace q7 := q7.below hbn
                      replace q23 := q23.below hbn
                      replace hbe := hbe.trans (hbn.mono hbe.size)
                      clear hbn
                      generalize wc = wX15 at *
                      obtain ⟨b23, n23, a23, m23, c23, rfl, r23, i23⟩ := q23
                      obtain ⟨b25, n25, a25, m25, c25, rfl, r25, i25⟩ := q25
                      obtain rfl : m23 = 0 := (isInt_zero i23).2 rfl
                      obtain rfl : m25 = 0 := (isInt_zero i25).2 rfl
                      clear q3 q4 q7 i23 i25
                      go_wp2_with (go_at_call 16; refine (sane_any _ (hT.below hbe)).mono ?_; rintro e w3 ⟨hb3, rfl⟩; have y23 := (r23.below hb3).cell 1; have y25 := (r25.below hb3).cell 1; simp only [List.getElem?_cons_zero, List.getElem?_cons_succ] at y23 y25)
                      go_ret
                      exact ⟨hbe.trans (hb3.mono hbe.size), rfl⟩

end Go.Proofs.YtlghjfpkfdnfoaaDoor

/- zermelolaw01.NumDivision$1: is a rest one that a division leaves? -/
namespace Go.Proofs.YtlghjfpkfdnfoaaDoor
open Go Go.RowKit Go.Shelf

/-- a rest fits a divisor -/
def fitsB (k j : Int) : Bool := decide (k.natAbs < j.natAbs) && (decide (k = 0) || (decide (k < 0) == decide (j < 0)))

theorem isInt_neg {w : World} {n : Bool} {v : Value} {i : Int} (h : IsInt w (.agg #[.bool n, v]) i) : n = decide (i < 0) := by
  obtain ⟨neg, va, xs, e, hr, hc, hn, rfl⟩ := h
  simp only [Value.agg.injEq, Array.mk.injEq, List.cons.injEq, Value.bool.injEq, and_true] at e
  obtain ⟨rfl, rfl⟩ := e
  have hp := canon_pos_iff hc
  cases n with
  | false => simp [sgn]
  | true =>
    simp only [Bool.true_and, decide_eq_true_eq] at hn
    have := hp.2 hn
    simp [sgn]; omega

theorem two_new (W : World) (A B : List Value) (t : TypeId) : RowAt ((W.alloc (.cells A.toArray t)).alloc (.cells B.toArray t)).drew W.heap.size t A ∧ RowAt ((W.alloc (.cells A.toArray t)).alloc (.cells B.toArray t)).drew (W.heap.size + 1) t B ∧ Below W.heap.size W ((W.alloc (.cells A.toArray t)).alloc (.cells B.toArray t)).drew := by
  have b1 := (Below.refl W.heap.size W).alloc (Nat.le_refl _) (.cells A.toArray t)
  have r2 := RowAt.new (W.alloc (.cells A.toArray t)) t B
  rw [World.size_alloc] at r2
  exact ⟨((RowAt.new W t A).alloc _).drew, r2.drew, (b1.alloc b1.size _).drew⟩
theorem cmpI_neg_iff {x y : Int} : cmpI x y < 0 ↔ x < y := by unfold cmpI; (repeat' split) <;> omega

set_option maxHeartbeats 4000000 in
set_option maxRecDepth 100000 in
theorem fits_any (vq : Value) (k j i : Int) (n2 : Bool) (a2 : Option Addr) (m2 c2 : Nat) (n1 : Bool) (a1 : Option Addr) (m1 c1 b4 L : Nat) (w : World) (hq : IsInt w vq i) (hk : IsInt w (.agg #[.bool n1, .slice a1 m1 c1]) k) (hj : IsInt w (.agg #[.bool n2, .slice a2 m2 c2]) j) (hrow : RowAt w b4 24 [.bool n2, .slice a2 m2 c2]) (hL : L ≤ 100000) (bk : k.natAbs < B32 ^ L) (bj : j.natAbs < B32 ^ L) :
    Calls Tryd.prog 51 #[vq, .agg #[.bool n1, .slice a1 m1 c1], .pointer (some ⟨b4, 0, none⟩)] w fun e w' => Below w.heap.size w w' ∧ e = .returned (.bool (fitsB k j)) := by
  obtain ⟨n3, a3, m3, c3, rfl⟩ := hq.shape
  have x1 := hrow.cell 0
  have x2 := hrow.cell 1
  simp only [List.getElem?_cons_succ, List.getElem?_cons_zero] at x1 x2
  go_enter Tryd.func51, Tryd.ntmps51
  go_wp2_with fail
  have b1 := (Below.refl w.heap.size w).alloc (Nat.le_refl _) (.cells #[.bool n3, .slice a3 m3 c3] 24)
  have b2 := b1.alloc b1.size (.cells #[.bool n1, .slice a1 m1 c1] 24)
  have r1 := RowAt.new (w.alloc (.cells #[.bool n3, .slice a3 m3 c3] 24)) 24 [.bool n1, .slice a1 m1 c1]
  have r2 := hrow.below b2
  rw [World.size_alloc] at r1
  have hk2 := hk.below b2
  have hj2 := hj.below b2
  clear x1 x2 hrow
  generalize hW0 : (w.alloc (.cells #[.bool n3, .slice a3 m3 c3] 24)).alloc (.cells #[.bool n1, .slice a1 m1 c1] 24) = W0 at *
  have hr1 := r1
  clear hW0 r1
  have x1 := hr1.cell 0
  have x2 := hr1.cell 1
  have x3 := r2.cell 0
  have x4 := r2.cell 1
  simp only [List.getElem?_cons_succ, List.getElem?_cons_zero] at x1 x2 x3 x4
  have y1 : ∀ o, (W0.alloc o).cell? ⟨w.heap.size + 1, 0, none⟩ = some (.bool n1) := fun o => by simpa using (hr1.alloc o).cell 0
  have y2 : ∀ o, (W0.alloc o).cell? ⟨w.heap.size + 1, 1, none⟩ = some (.slice a1 m1 c1) := fun o => by simpa using (hr1.alloc o).cell 1
  have y3 : ∀ o, (W0.alloc o).cell? ⟨b4, 0, none⟩ = some (.bool n2) := fun o => by simpa using (r2.alloc o).cell 0
  have y4 : ∀ o, (W0.alloc o).cell? ⟨b4, 1, none⟩ = some (.slice a2 m2 c2) := fun o => by simpa using (r2.alloc o).cell 1
  have z1 : ∀ o p, ((W0.alloc o).alloc p).cell? ⟨w.heap.size + 1, 0, none⟩ = some (.bool n1) := fun o p => by simpa using ((hr1.alloc o).alloc p).cell 0
  have z2 : ∀ o p, ((W0.alloc o).alloc p).cell? ⟨w.heap.size + 1, 1, none⟩ = some (.slice a1 m1 c1) := fun o p => by simpa using ((hr1.alloc o).alloc p).cell 1
  have z3 : ∀ o p, ((W0.alloc o).alloc p).cell? ⟨b4, 0, none⟩ = some (.bool n2) := fun o p => by simpa using ((r2.alloc o).alloc p).cell 0
  have z4 : ∀ o p, ((W0.alloc o).alloc p).cell? ⟨b4, 1, none⟩ = some (.slice a2 m2 c2) := fun o p => by simpa using ((r2.alloc o).alloc p).cell 1
  go_cut [6, 7] from 8 to 9 (fun v6 v7 W => ∃ p q, v6 = .pointer (some ⟨p, 0, none⟩) ∧ v7 = .pointer (some ⟨q, 0, none⟩) ∧ p ≠ q ∧ W0.heap.size ≤ p ∧ W0.heap.size ≤ q ∧ RowAt W p 24 [.bool n1, .slice a1 m1 c1] ∧ RowAt W q 24 [.bool n2, .slice a2 m2 c2] ∧ Below W0.heap.size W0 W)
  case first =>
    go_region
    all_goals (go_wp2; go_meet)
    · obtain ⟨u1, u2, u3⟩ := two_new W0 [.bool n1, .slice a1 m1 c1] [.bool n2, .slice a2 m2 c2] 24
      exact ⟨_, _, rfl, rfl, by omega, Nat.le_refl _, by omega, u1, u2, u3⟩
    · obtain ⟨u1, u2, u3⟩ := two_new W0 [.bool n2, .slice a2 m2 c2] [.bool n1, .slice a1 m1 c1] 24
      exact ⟨_, _, rfl, rfl, by omega, by omega, Nat.le_refl _, u2, u1, u3⟩
  case rest =>
    obtain ⟨p, q, rfl, rfl, hpq, hp, hq2, rp, rq, hbn⟩ := hcut
    have f1 := rp.cell 0
    have f2 := rp.frozen 0
    have f3 := rq.cell 0
    have f4 := rq.frozen 0
    simp only [List.getElem?_cons_zero] at f1 f3
    clear x1 x2 x3 x4 y1 y2 y3 y4 z1 z2 z3 z4
    have e1 : Below W0.heap.size wc ((wc.setCell ⟨p, 0, none⟩ (.bool false)).setCell ⟨q, 0, none⟩ (.bool false)) := ((Below.refl _ wc).setCell (p := ⟨p, 0, none⟩) hp _).setCell (p := ⟨q, 0, none⟩) hq2 _
    have e2 : Below W0.heap.size W0 ((wc.setCell ⟨p, 0, none⟩ (.bool false)).setCell ⟨q, 0, none⟩ (.bool false)) := hbn.trans e1
    have rpd : RowAt ((wc.setCell ⟨p, 0, none⟩ (.bool false)).setCell ⟨q, 0, none⟩ (.bool false)) p 24 [.bool false, .slice a1 m1 c1] := RowAt.other (rp.set 0 (.bool false)) hpq _
    have rqd : RowAt ((wc.setCell ⟨p, 0, none⟩ (.bool false)).setCell ⟨q, 0, none⟩ (.bool false)) q 24 [.bool false, .slice a2 m2 c2] := RowAt.set (RowAt.other rq (Ne.symm hpq) _) 0 (.bool false)
    have bw := b2.trans (e2.mono b2.size)
    have hk3 := hk2.below e2
    have hj3 := hj2.below e2
    have hr3 := hr1.below e2
    have r3 := r2.below e2
    have E := Lib.hid (And.intro bw (And.intro hk3 (And.intro hj3 (And.intro hr3 (And.intro r3 (And.intro rpd rqd))))))
    clear e1 e2 bw hk3 hj3 hr3 r3 rpd rqd hk2 hj2 hr1 r2 b1 b2 rp rq hbn
    go_upto_region 3 with (fail)
    generalize (wc.setCell ⟨p, 0, none⟩ (.bool false)).setCell ⟨q, 0, none⟩ (.bool false) = wd at *
    obtain ⟨bw, hk3, hj3, hr3, r3, rpd, rqd⟩ := E.out
    clear f1 f2 f3 f4 E hp hq2
    have x1 := rpd.cell 0
    have x2 := rpd.cell 1
    have x3 := rqd.cell 0
    have x4 := rqd.cell 1
    simp only [List.getElem?_cons_succ, List.getElem?_cons_zero] at x1 x2 x3 x4
    have C := rcompare_int _ _ _ _ _ (isInt_abs hk3) (isInt_abs hj3) L hL (by rw [Int.natAbs_natCast]; exact bk) (by rw [Int.natAbs_natCast]; exact bj)
    have hz := isInt_zero hk3
    have hn1 := isInt_neg hk3
    have hn2 := isInt_neg hj3
    obtain ⟨cv, hcv⟩ : ∃ cv, cmpI (k.natAbs : Int) (j.natAbs : Int) = cv := ⟨_, rfl⟩
    rw [hcv] at C
    have hiff : cv < 0 ↔ k.natAbs < j.natAbs := by rw [← hcv, cmpI_neg_iff]; omega
    by_cases hlt : k.natAbs < j.natAbs
    · have hcn : cv < 0 := hiff.2 hlt
      by_cases hm : m1 = 0
      · have hF := Lib.hid (show fitsB k j = true by unfold fitsB; rw [decide_eq_true hlt, decide_eq_true (hz.1 hm)]; rfl)
        clear hiff hcv hlt hz hn1 hn2 rpd rqd hk3 hj3
        subst hm
        go_wp2_with (go_at_call 20; with_reducible refine C.mono ?_; rintro e w5 ⟨hb5, rfl⟩; have y1 := (hr3.below hb5).cell 1; simp only [List.getElem?_cons_succ, List.getElem?_cons_zero] at y1)
        go_ret
        exact ⟨bw.trans (hb5.mono bw.size), by rw [hF.out]; rfl⟩
      · have hF0 : fitsB k j = (n1 == n2) := by
          have hk0 : ¬ k = 0 := fun h => hm (hz.2 h)
          simp only [fitsB, hlt, hk0, decide_true, decide_false, Bool.true_and, Bool.false_or, ← hn1, ← hn2]
        have hF := Lib.hid hF0
        clear hF0 hiff hcv hlt hz hn1 hn2 rpd rqd hk3 hj3
        go_wp2_with (go_at_call 20; with_reducible refine C.mono ?_; rintro e w5 ⟨hb5, rfl⟩; have y0 := (hr3.below hb5).cell 0; have y1 := (hr3.below hb5).cell 1; have y2 := (r3.below hb5).cell 0; simp only [List.getElem?_cons_succ, List.getElem?_cons_zero] at y0 y1 y2)
        go_ret
        have hme : ((m1 : Int) == 0) = false := by simpa using hm
        exact ⟨bw.trans (hb5.mono bw.size), (show Ending.returned (.bool (((m1 : Int) == 0) || (n1 == n2))) = Ending.returned (.bool (fitsB k j)) by rw [hF.out, hme]; rfl)⟩
    · have hcn : ¬ cv < 0 := fun h => hlt (hiff.1 h)
      have hF := Lib.hid (show fitsB k j = false by simp [fitsB, hlt])
      clear hiff hcv hlt hz hn1 hn2 rpd rqd hk3 hj3
      go_wp2_with (go_at_call 20; with_reducible refine C.mono ?_; rintro e w5 ⟨hb5, rfl⟩)
      go_ret
      exact ⟨bw.trans (hb5.mono bw.size), by rw [hF.out]; rfl⟩

end Go.Proofs.YtlghjfpkfdnfoaaDoor
