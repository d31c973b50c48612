/- zermelolaw01.NumShifts -/
import Derived.Test.YtlghjfpkfdnfoaaDoorNumMProduct
import Derived.Test.YtlghjfpkfdnfoaaDoorNumMTextApi
import Derived.Test.YtlghjfpkfdnfoaaDoorNumMRing2
import Derived.Test.YtlghjfpkfdnfoaaDoorNumMFloored
namespace Go.Proofs.YtlghjfpkfdnfoaaDoor
open Go Go.RowKit Go.Shelf

theorem boxes_two {W W' : World} {n m : Bool} {a b : Option Addr} {k c l d : Nat} {i j : Int} (h1 : IsInt W' (.agg #[.bool n, .slice a k c]) i) (h2 : IsInt W' (.agg #[.bool m, .slice b l d]) j) (hb : Below W.heap.size W W') :
    BoxI ((W'.alloc (.cells #[.bool n, .slice a k c] 24)).alloc (.cells #[.bool m, .slice b l d] 24)) (.pointer (some ⟨W'.heap.size, 0, none⟩)) i ∧ BoxI ((W'.alloc (.cells #[.bool n, .slice a k c] 24)).alloc (.cells #[.bool m, .slice b l d] 24)) (.pointer (some ⟨W'.heap.size + 1, 0, none⟩)) j ∧ Value.int .i64 0 = Value.int .i64 0 ∧
    Below W.heap.size W ((W'.alloc (.cells #[.bool n, .slice a k c] 24)).alloc (.cells #[.bool m, .slice b l d] 24)) := by
  have b1 := hb.alloc hb.size (.cells #[.bool n, .slice a k c] 24)
  have q := BoxI.new (n := m) (a := b) (m := l) (c := d) (h2.below ((Below.refl W'.heap.size W').alloc (Nat.le_refl _) (.cells #[.bool n, .slice a k c] 24)))
  rw [World.size_alloc] at q
  exact ⟨(BoxI.new h1).alloc _, q, rfl, b1.alloc b1.size _⟩

set_option maxHeartbeats 4000000 in
set_option maxRecDepth 100000 in
set_option exponentiation.threshold 400 in
theorem shifts_any (va : Value) (na : Bool) (xa : List Nat) (n : Nat) (hn : n ≤ 255) (w : World) (ha : IntAt w va na xa) (hT : DigitsAt w) :
    Calls Tryd.prog 11 #[va, .int .u8 (n : Int)] w fun e w' => Below w.heap.size w w' ∧ e = .returned (.bool true) := by
  obtain ⟨sa, rfl, hra, hla⟩ := ha
  obtain ⟨aa, ca, rfl, hca, hma⟩ := hra.form
  go_enter Tryd.func11, Tryd.ntmps11
  go_upto_region 0 with (fail)
  go_cut [2] from 0 to 0 (fun v2 W => BoxF W v2 na xa ∧ Below w.heap.size w W)
  case first =>
    go_wp2
    go_meet
    have B1 : Below w.heap.size w (w.alloc (.cells #[.bool na, .slice aa xa.length ca] 24)) := (Below.refl _ _).alloc (Nat.le_refl _) _
    exact ⟨⟨_, aa, ca, rfl, RowAt.new w 24 [.bool na, .slice aa xa.length ca], hra.below B1⟩, B1⟩
  case rest =>
    obtain ⟨q1, hbe⟩ := hcut
    clear hra hca hma
    have hT1 := hT.below hbe
    obtain ⟨b1, a1, c1, rfl, r1, j1⟩ := q1
    have d11 := r1.cell 0
    have d12 := r1.cell 1
    simp only [List.getElem?_cons_zero, List.getElem?_cons_succ] at d11 d12
    have hnew := RowAt.new wc 24 [.bool na, .slice a1 xa.length c1]
    have hB : Below wc.heap.size wc (wc.alloc (.cells #[.bool na, .slice a1 xa.length c1] 24)) := (Below.refl _ _).alloc (Nat.le_refl _) _
    have hf := formed_list [(na, .slice a1 xa.length c1, xa)] 60 wc.heap.size _ hnew (by simp) (by
      intro it hit
      simp only [List.mem_cons, List.not_mem_nil, or_false] at hit
      subst hit
      exact ⟨j1.below hB, hla⟩)
    simp only [List.length_cons, List.length_nil] at hf
    have hsz := hbe.size
    cases hall : List.all [(na, Value.slice a1 xa.length c1, xa)] (fitB 60) with
    | false =>
      rw [hall] at hf
      clear hnew hall
      go_wp2_with (first
        | (go_at_call 50; refine hf.mono ?_; rintro e w2 ⟨hb2, rfl⟩)
        | (go_at_call 16; refine (sane_any _ ((hT1.below hB).below hb2)).mono ?_; rintro e w3 ⟨hb3, rfl⟩))
      go_ret
      have e1 := hB.trans (hb2.mono hB.size)
      have e2 := e1.trans (hb3.mono e1.size)
      exact ⟨hbe.trans (e2.mono hsz), rfl⟩
    | true =>
      rw [hall] at hf
      have hA := Lib.hid hall
      clear hnew hall
      cases na with
      | true =>
        go_wp2_with (first
          | (go_at_call 50; refine hf.mono ?_; rintro e w2 ⟨hb2, rfl⟩; have e1 := hB.trans (hb2.mono hB.size); have g1 := (r1.below e1).cell 0; simp only [List.getElem?_cons_zero] at g1)
          | (go_at_call 16; refine (sane_any _ ((hT1.below hB).below hb2)).mono ?_; rintro e w3 ⟨hb3, rfl⟩))
        go_ret
        have e2 := e1.trans (hb3.mono e1.size)
        exact ⟨hbe.trans (e2.mono hsz), rfl⟩
      | false =>
        go_upto_region 3 with (go_at_call 50; refine hf.mono ?_; rintro e w2 ⟨hb2, rfl⟩; have e1 := hB.trans (hb2.mono hB.size); have g1 := (r1.below e1).cell 0; simp only [List.getElem?_cons_zero] at g1)
        obtain ⟨f1, l1⟩ : formedB false xa = true ∧ xa.length ≤ 60 := by
          have := hA.out
          simp only [List.all_cons, List.all_nil, fitB, Bool.and_true, Bool.and_eq_true, decide_eq_true_eq] at this
          exact ⟨this.1, by omega⟩
        have k1 := (IntAt.isInt ⟨_, rfl, j1.below e1, hla⟩ f1 : IsInt w2 (.agg #[.bool false, .slice a1 xa.length c1]) (sgn false (val xa)))
        have n1 : (sgn false (val xa)).natAbs < B32 ^ 60 := by rw [sgn_natAbs]; exact (canon_length_iff (formedB_bounds hla f1).1 60).1 l1
        have q2 : BoxI w2 (.pointer (some ⟨b1, 0, none⟩)) ((val xa : Nat) : Int) := ⟨b1, false, a1, xa.length, c1, rfl, r1.below e1, k1⟩
        replace hbe := hbe.trans (e1.mono hsz)
        have n2 : ((val xa : Nat) : Int).natAbs < B32 ^ 60 := n1
        clear hA hf l1 f1 d11 d12 hb2 hB e1 r1 j1 hsz hT1 hla k1 n1 g1
        generalize val xa = N at *
        obtain ⟨T, hTT⟩ : ∃ T : Nat, 2 ^ n = T := ⟨_, rfl⟩
        have hT0 : 0 < T := by rw [← hTT]; exact Nat.pow_pos (by omega)
        have hTb : ((T : Nat) : Int).natAbs < B32 ^ 8 := by rw [Int.natAbs_natCast, ← hTT, B32_pow]; exact Nat.pow_lt_pow_right (by omega) (by omega)
        have hpT : (2 : Int) ^ n = (T : Int) := by rw [← hTT]; simp
        have BN := b32_up n2 (by decide)
        have n60 := n2
        have BT := b32_up hTb (by decide)
        have cU : ((N : Int) * (T : Int)).natAbs < B32 ^ 68 := abs_mul_lt n2 hTb
        have BU := b32_up cU (by decide)
        have hTz : (T : Int) ≠ 0 := by omega
        have BQ : ((N / T : Nat) : Int).natAbs < B32 ^ 300 := by
          rw [Int.natAbs_natCast] at BN ⊢
          exact Nat.lt_of_le_of_lt (Nat.div_le_self _ _) BN
        have eU : (N : Int) * (T : Int) = ((N * T : Nat) : Int) := by simp
        have eD1 : ((N : Int) * (T : Int)).fdiv (T : Int) = (N : Int) := Int.mul_fdiv_cancel _ hTz
        have eD2 : ((N : Int) * (T : Int)).fmod (T : Int) = 0 := by rw [Int.fmod_def, eD1, Int.mul_comm]; omega
        have eQ : (N : Int).fdiv (T : Int) = ((N / T : Nat) : Int) := by rw [Int.fdiv_eq_ediv_of_nonneg _ (by omega)]; rfl
        have HE := Lib.hid (And.intro eU (And.intro eD1 (And.intro eD2 (And.intro eQ (And.intro hpT (And.intro hTT hT0))))))
        clear eU eD1 eD2 eQ hpT hTT cU hTb n2
        generalize w2 = wX2 at *
        go_upto_region 3 with (fail)
        go_cut [5, 6] from 29 to 35 (fun v1 v2 W => BoxI W v1 (T : Int) ∧ v2 = .int .i64 0 ∧ Below wX2.heap.size wX2 W)
        case first =>
          have hwn : IntKind.i64.wrap (n : Int) = (n : Int) := by rw [IntKind.wrap_i64]; omega
          have hpT := HE.out.2.2.2.2.1
          have HP := Lib.hid hpT
          clear hpT
          have C1 := rof_int 2 wX2 (by omega) (by omega)
          go_wp2_with (first
            | (go_at_call 27; refine C1.mono ?_; rintro e w3 ⟨hb3, v3, rfl, hi3⟩)
            | (go_at_call 37; refine (pow_two _ n _ hi3 hn).mono ?_; rintro e w4 ⟨hb4, v4, rfl, hi4⟩; obtain ⟨n4, s4, m4, q4, rfl⟩ := hi4.shape))
          go_meet
          rw [HP.out] at hi4
          have hb5 := hb3.trans (hb4.mono hb3.size)
          exact ⟨BoxI.new hi4, rfl, hb5.alloc hb5.size _⟩
        case rest =>
          obtain ⟨q5, rfl, hbn⟩ := hcut
          replace q2 := q2.below hbn
          replace hbe := hbe.trans (hbn.mono hbe.size)
          clear hbn
          generalize wc = wX3 at *
          go_upto_region 6 with (fail)
          go_cut [6, 7] from 38 to 43 (fun v1 v2 W => v1 = .int .i64 0 ∧ BoxI W v2 ((N : Int) * (T : Int)) ∧ Below wX3.heap.size wX3 W)
          case first =>
            obtain ⟨nx, ax, mx, cx, rx, ix⟩ := q2.at
            have xx := rx.cell 0
            have yx := rx.cell 1
            simp only [List.getElem?_cons_zero, List.getElem?_cons_succ] at xx yx
            obtain ⟨bz, ny, ay, my, cy, rfl, ry, iy⟩ := q5
            have xy := ry.cell 0
            have yy := ry.cell 1
            simp only [List.getElem?_cons_zero, List.getElem?_cons_succ] at xy yy
            have C := mul_int 60 (by decide) _ _ _ _ _ ix iy BN BT (.inl n60) BU
            go_wp2_with (go_at_call 30; with_reducible refine C.mono ?_; rintro e w3 ⟨hb3, v3, rfl, hi3⟩; obtain ⟨n3, s3, m3, q3, rfl⟩ := hi3.shape)
            go_meet
            exact ⟨rfl, BoxI.new hi3, hb3.alloc hb3.size _⟩
          case rest =>
            obtain ⟨rfl, q7, hbn⟩ := hcut
            replace q2 := q2.below hbn
            replace q5 := q5.below hbn
            replace hbe := hbe.trans (hbn.mono hbe.size)
            clear hbn
            generalize wc = wX6 at *
            go_upto_region 7 with (fail)
            go_cut [8, 9, 10] from 44 to 50 (fun v1 v2 v3 W => BoxI W v1 (N : Int) ∧ BoxI W v2 0 ∧ v3 = .int .i64 0 ∧ Below wX6.heap.size wX6 W)
            case first =>
              obtain ⟨bx, nx, ax, mx, cx, rfl, rx, ix⟩ := q7
              have xx := rx.cell 0
              have yx := rx.cell 1
              simp only [List.getElem?_cons_zero, List.getElem?_cons_succ] at xx yx
              obtain ⟨bz, ny, ay, my, cy, rfl, ry, iy⟩ := q5
              have xy := ry.cell 0
              have yy := ry.cell 1
              simp only [List.getElem?_cons_zero, List.getElem?_cons_succ] at xy yy
              have C := div_int _ _ _ _ _ ix iy BU BT hTz
              go_wp2_with (go_at_call 35; with_reducible refine C.mono ?_; rintro e w3 ⟨hb3, v3, v4, rfl, hi3, hi4⟩; obtain ⟨n3, s3, m3, q3, rfl⟩ := hi3.shape; obtain ⟨n4, s4, m4, q4, rfl⟩ := hi4.shape)
              go_meet
              rw [HE.out.2.1] at hi3
              rw [HE.out.2.2.1] at hi4
              exact boxes_two hi3 hi4 hb3
            case rest =>
              obtain ⟨q8, q9, rfl, hbn⟩ := hcut
              replace q2 := q2.below hbn
              replace q5 := q5.below hbn
              replace q7 := q7.below hbn
              replace hbe := hbe.trans (hbn.mono hbe.size)
              clear hbn
              generalize wc = wX7 at *
              go_upto_region 8 with (fail)
              go_cut [11, 12, 13] from 51 to 57 (fun v1 v2 v3 W => BoxI W v1 ((N / T : Nat) : Int) ∧ BoxI W v2 ((N : Int).fmod (T : Int)) ∧ v3 = .int .i64 0 ∧ Below wX7.heap.size wX7 W)
              case first =>
                obtain ⟨nx, ax, mx, cx, rx, ix⟩ := q2.at
                have xx := rx.cell 0
                have yx := rx.cell 1
                simp only [List.getElem?_cons_zero, List.getElem?_cons_succ] at xx yx
                obtain ⟨bz, ny, ay, my, cy, rfl, ry, iy⟩ := q5
                have xy := ry.cell 0
                have yy := ry.cell 1
                simp only [List.getElem?_cons_zero, List.getElem?_cons_succ] at xy yy
                have C := div_int _ _ _ _ _ ix iy BN BT hTz
                go_wp2_with (go_at_call 35; with_reducible refine C.mono ?_; rintro e w3 ⟨hb3, v3, v4, rfl, hi3, hi4⟩; obtain ⟨n3, s3, m3, q3, rfl⟩ := hi3.shape; obtain ⟨n4, s4, m4, q4, rfl⟩ := hi4.shape)
                go_meet
                rw [HE.out.2.2.2.1] at hi3
                exact boxes_two hi3 hi4 hb3
              case rest =>
                obtain ⟨q11, q12, rfl, hbn⟩ := hcut
                clear q12
                replace q2 := q2.below hbn
                replace q5 := q5.below hbn
                replace q7 := q7.below hbn
                replace q8 := q8.below hbn
                replace q9 := q9.below hbn
                replace hbe := hbe.trans (hbn.mono hbe.size)
                clear hbn
                generalize wc = wX8 at *
                go_upto_region 9 with (fail)
                go_cut [14, 15] from 58 to 62 (fun v1 v2 W => (∃ k : Nat, v1 = .int .i64 (k : Int) ∧ BitsIs k N ∧ k ≤ 9600) ∧ v2 = .int .i64 0 ∧ Below wX8.heap.size wX8 W)
                case first =>
                  obtain ⟨nx, ax, mx, cx, rx, ix⟩ := q2.at
                  have xx := rx.cell 0
                  have yx := rx.cell 1
                  simp only [List.getElem?_cons_zero, List.getElem?_cons_succ] at xx yx
                  have C := bits_int _ _ _ ix BN
                  go_wp2_with (go_at_call 21; with_reducible refine C.mono ?_; rintro e w3 ⟨hb3, k, rfl, hk, hkl⟩)
                  go_meet
                  have hk2 : BitsIs k N := hk
                  exact ⟨⟨k, rfl, hk2, hkl⟩, rfl, hb3⟩
                case rest =>
                  obtain ⟨⟨had, rfl, hhad, lhad⟩, rfl, hbn⟩ := hcut
                  replace q2 := q2.below hbn
                  replace q5 := q5.below hbn
                  replace q7 := q7.below hbn
                  replace q8 := q8.below hbn
                  replace q9 := q9.below hbn
                  replace q11 := q11.below hbn
                  replace hbe := hbe.trans (hbn.mono hbe.size)
                  clear hbn
                  generalize wc = wX9 at *
                  go_upto_region 10 with (fail)
                  go_cut [16, 17] from 63 to 67 (fun v1 v2 W => (∃ k : Nat, v1 = .int .i64 (k : Int) ∧ BitsIs k (N * T) ∧ k ≤ 9600) ∧ v2 = .int .i64 0 ∧ Below wX9.heap.size wX9 W)
                  case first =>
                    obtain ⟨bx, nx, ax, mx, cx, rfl, rx, ix⟩ := q7
                    have xx := rx.cell 0
                    have yx := rx.cell 1
                    simp only [List.getElem?_cons_zero, List.getElem?_cons_succ] at xx yx
                    have C := bits_int _ _ _ ix BU
                    go_wp2_with (go_at_call 21; with_reducible refine C.mono ?_; rintro e w3 ⟨hb3, k, rfl, hk, hkl⟩)
                    go_meet
                    have hk2 : BitsIs k (N * T) := by rw [HE.out.1] at hk; exact hk
                    exact ⟨⟨k, rfl, hk2, hkl⟩, rfl, hb3⟩
                  case rest =>
                    obtain ⟨⟨more, rfl, hmore, lmore⟩, rfl, hbn⟩ := hcut
                    replace q2 := q2.below hbn
                    replace q5 := q5.below hbn
                    replace q7 := q7.below hbn
                    replace q8 := q8.below hbn
                    replace q9 := q9.below hbn
                    replace q11 := q11.below hbn
                    replace hbe := hbe.trans (hbn.mono hbe.size)
                    clear hbn
                    generalize wc = wX10 at *
                    go_upto_region 11 with (fail)
                    go_cut [18, 19] from 68 to 72 (fun v1 v2 W => (∃ k : Nat, v1 = .int .i64 (k : Int) ∧ BitsIs k (N / T) ∧ k ≤ 9600) ∧ v2 = .int .i64 0 ∧ Below wX10.heap.size wX10 W)
                    case first =>
                      obtain ⟨bx, nx, ax, mx, cx, rfl, rx, ix⟩ := q11
                      have xx := rx.cell 0
                      have yx := rx.cell 1
                      simp only [List.getElem?_cons_zero, List.getElem?_cons_succ] at xx yx
                      have C := bits_int _ _ _ ix BQ
                      go_wp2_with (go_at_call 21; with_reducible refine C.mono ?_; rintro e w3 ⟨hb3, k, rfl, hk, hkl⟩)
                      go_meet
                      have hk2 : BitsIs k (N / T) := hk
                      exact ⟨⟨k, rfl, hk2, hkl⟩, rfl, hb3⟩
                    case rest =>
                      obtain ⟨⟨left, rfl, hleft, lleft⟩, rfl, hbn⟩ := hcut
                      replace q2 := q2.below hbn
                      replace q5 := q5.below hbn
                      replace q7 := q7.below hbn
                      replace q8 := q8.below hbn
                      replace q9 := q9.below hbn
                      replace q11 := q11.below hbn
                      replace hbe := hbe.trans (hbn.mono hbe.size)
                      clear hbn
                      generalize wc = wX11 at *
                      have hmul := fun h => bitsIs_mul (s := n) hhad (by rw [HE.out.2.2.2.2.2.1]; exact hmore) h
                      have hdiv := bitsIs_div (s := n) hhad (by rw [HE.out.2.2.2.2.2.1]; exact hleft)
                      clear hhad hmore hleft BN BT BU BQ n60
                      have BI : (had : Int) ≤ 9600 := by omega
                      have hmx : max (0 : Int) ((had : Int) - (n : Int)) = (left : Int) := by omega
                      have hwn : IntKind.i64.wrap (n : Int) = (n : Int) := by rw [IntKind.wrap_i64]; omega
                      obtain ⟨n2, a2, m2, c2, r2, i2⟩ := q2.at
                      obtain ⟨b8, n8, a8, m8, c8, rfl, r8, i8⟩ := q8
                      obtain ⟨b9, n9, a9, m9, c9, rfl, r9, i9⟩ := q9
                      obtain rfl : m9 = 0 := (isInt_zero i9).2 rfl
                      have hz2 := isInt_zero i2
                      clear q5 q7 q11 i9 hdiv HE hTz hT0
                      by_cases hN : N = 0
                      · obtain rfl : m2 = 0 := hz2.2 (by omega)
                        clear hmul hz2 lmore
                        go_wp2_with (first
                          | (go_at_call 16; with_reducible refine (sane_any _ (hT.below hbe)).mono ?_; rintro e w0 ⟨H0, rfl⟩; have x8 := (r8.below H0).cell 0; have y8 := (r8.below H0).cell 1; have x2 := (r2.below H0).cell 0; have y2 := (r2.below H0).cell 1; simp only [List.getElem?_cons_zero, List.getElem?_cons_succ] at x8 y8 x2 y2)
                          | (go_at_call 25; with_reducible refine (rsame_eq _ _ _ _ (i8.below H0) (i2.below H0)).mono ?_; rintro e w1 ⟨hs0, rfl⟩; have H1 := H0.trans (hs0.mono H0.size); have y9 := (r9.below H1).cell 1; have z2 := (r2.below H1).cell 1; simp only [List.getElem?_cons_zero, List.getElem?_cons_succ] at y9 z2))
                        go_ret
                        exact ⟨hbe.trans (H1.mono hbe.size), rfl⟩
                      · have hm2 : ¬ m2 = 0 := fun h => hN (by have := hz2.1 h; omega)
                        obtain rfl : more = had + n := hmul hN
                        clear hmul hz2 lmore
                        go_wp2_with (first
                          | (go_at_call 16; with_reducible refine (sane_any _ (hT.below hbe)).mono ?_; rintro e w0 ⟨H0, rfl⟩; have x8 := (r8.below H0).cell 0; have y8 := (r8.below H0).cell 1; have x2 := (r2.below H0).cell 0; have y2 := (r2.below H0).cell 1; simp only [List.getElem?_cons_zero, List.getElem?_cons_succ] at x8 y8 x2 y2)
                          | (go_at_call 25; with_reducible refine (rsame_eq _ _ _ _ (i8.below H0) (i2.below H0)).mono ?_; rintro e w1 ⟨hs0, rfl⟩; have H1 := H0.trans (hs0.mono H0.size); have y9 := (r9.below H1).cell 1; have z2 := (r2.below H1).cell 1; simp only [List.getElem?_cons_zero, List.getElem?_cons_succ] at y9 z2))
                        go_ret
                        exact ⟨hbe.trans (H1.mono hbe.size), rfl⟩

end Go.Proofs.YtlghjfpkfdnfoaaDoor

/- zermelolaw01.NumDivisors -/
namespace Go.Proofs.YtlghjfpkfdnfoaaDoor
open Go Go.RowKit Go.Shelf

theorem isInt_abs {w : World} {n : Bool} {v : Value} {i : Int} (h : IsInt w (.agg #[.bool n, v]) i) : IsInt w (.agg #[.bool false, v]) (i.natAbs : Int) := by
  obtain ⟨neg, va, xs, e, hr, hc, hn, rfl⟩ := h
  simp only [Value.agg.injEq, Array.mk.injEq, List.cons.injEq, Value.bool.injEq, and_true] at e
  obtain ⟨rfl, rfl⟩ := e
  exact ⟨false, _, xs, rfl, hr, hc, rfl, by rw [sgn_natAbs]; rfl⟩

set_option exponentiation.threshold 400 in
theorem gcd_int (va vb : Value) (i j : Int) (w : World) (ha : IsInt w va i) (hb : IsInt w vb j) (hi : i.natAbs < B32 ^ 30) (hj : j.natAbs < B32 ^ 30) :
    Calls Tryd.prog 41 #[va, vb] w fun e w' => Below w.heap.size w w' ∧ ∃ g x y k l, e = .returned (.tuple #[g, x, y, .int .i64 0]) ∧ IsInt w' g (Nat.gcd i.natAbs j.natAbs : Nat) ∧ IsInt w' x k ∧ IsInt w' y l := by
  obtain ⟨na, xa, hA, fa, rfl, ca, la⟩ := ha.at (abs_lt_up hi (by decide))
  obtain ⟨nb, xb, hB, fb, rfl, cb, lb⟩ := hb.at (abs_lt_up hj (by decide))
  rw [sgn_natAbs] at hi hj
  rw [sgn_natAbs, sgn_natAbs]
  refine (Gcd_ok va vb na nb xa xb w hA hB fa fb (Nat.gcd (val xa) (val xb) : Nat) (fun _ _ => True) (fun W hW => ?_)).mono ?_
  · obtain ⟨va', rfl, hra, hla⟩ := hA
    obtain ⟨vb', rfl, hrb, hlb⟩ := hB
    refine (divisor_any 30 (by omega) (divUpTo_le (divUpTo_all 30) (by omega) (by omega)) (by omega) va' vb' na nb xa xb W (hra.below hW) (hrb.below hW) ca cb (canon_length_le ca hi) (canon_length_le cb hj) la lb).mono ?_
    rintro e W' ⟨hbe, g, x, y, k, l, rfl, h1, h2, h3, -⟩
    exact ⟨hbe, g, x, y, k, l, rfl, h1, h2, h3, trivial⟩
  · rintro e W ⟨hbe, g, x, y, k, l, rfl, h1, h2, h3, -⟩
    exact ⟨hbe, g, x, y, k, l, rfl, h1, h2, h3⟩

theorem box_first {W W' : World} {n m p : Bool} {a b d : Option Addr} {k c l e q r : Nat} {i : Int} (h1 : IsInt W' (.agg #[.bool n, .slice a k c]) i) (hb : Below W.heap.size W W') :
    BoxI (((W'.alloc (.cells #[.bool n, .slice a k c] 24)).alloc (.cells #[.bool m, .slice b l e] 24)).alloc (.cells #[.bool p, .slice d q r] 24)) (.pointer (some ⟨W'.heap.size, 0, none⟩)) i ∧
    Below W.heap.size W (((W'.alloc (.cells #[.bool n, .slice a k c] 24)).alloc (.cells #[.bool m, .slice b l e] 24)).alloc (.cells #[.bool p, .slice d q r] 24)) := by
  have b1 := hb.alloc hb.size (.cells #[.bool n, .slice a k c] 24)
  have b2 := b1.alloc b1.size (.cells #[.bool m, .slice b l e] 24)
  exact ⟨((BoxI.new h1).alloc _).alloc _, b2.alloc b2.size _⟩

set_option maxHeartbeats 4000000 in
set_option maxRecDepth 100000 in
set_option exponentiation.threshold 400 in
theorem divisors_any (va vb vc : Value) (na nb nc : Bool) (xa xb xc : List Nat) (w : World) (ha : IntAt w va na xa) (hb : IntAt w vb nb xb) (hc : IntAt w vc nc xc) (hT : DigitsAt w) :
    Calls Tryd.prog 12 #[va, vb, vc] w fun e w' => Below w.heap.size w w' ∧ e = .returned (.bool true) := by
  obtain ⟨sa, rfl, hra, hla⟩ := ha
  obtain ⟨sb, rfl, hrb, hlb⟩ := hb
  obtain ⟨sc, rfl, hrc, hlc⟩ := hc
  obtain ⟨aa, ca, rfl, hca, hma⟩ := hra.form
  obtain ⟨ab, cb, rfl, hcb, hmb⟩ := hrb.form
  obtain ⟨ac, cc, rfl, hcc, hmc⟩ := hrc.form
  go_enter Tryd.func12, Tryd.ntmps12
  go_upto_region 0 with (fail)
  go_cut [3, 4, 5] from 0 to 2 (fun v3 v4 v5 W => BoxF W v3 na xa ∧ BoxF W v4 nb xb ∧ BoxF W v5 nc xc ∧ Below w.heap.size w W)
  case first =>
    go_wp2
    go_meet
    have B1 : Below w.heap.size w (w.alloc (.cells #[.bool na, .slice aa xa.length ca] 24)) := (Below.refl _ _).alloc (Nat.le_refl _) _
    have B2 := B1.alloc B1.size (.cells #[.bool nb, .slice ab xb.length cb] 24)
    have B3 := B2.alloc B2.size (.cells #[.bool nc, .slice ac xc.length cc] 24)
    have C1 : BoxF _ _ na xa := ⟨_, aa, ca, rfl, RowAt.new w 24 [.bool na, .slice aa xa.length ca], hra.below B1⟩
    have C2 : BoxF _ _ nb xb := ⟨_, ab, cb, rfl, RowAt.new (w.alloc (.cells #[.bool na, .slice aa xa.length ca] 24)) 24 [.bool nb, .slice ab xb.length cb], hrb.below B2⟩
    have C3 : BoxF _ _ nc xc := ⟨_, ac, cc, rfl, RowAt.new ((w.alloc (.cells #[.bool na, .slice aa xa.length ca] 24)).alloc (.cells #[.bool nb, .slice ab xb.length cb] 24)) 24 [.bool nc, .slice ac xc.length cc], hrc.below B3⟩
    simp only [World.size_alloc] at C2 C3
    exact ⟨(C1.below ((Below.refl _ _).alloc (Nat.le_refl _) _)).below ((Below.refl _ _).alloc (Nat.le_refl _) _), C2.below ((Below.refl _ _).alloc (Nat.le_refl _) _), C3, B3⟩
  case rest =>
    obtain ⟨q1, q2, q3, hbe⟩ := hcut
    clear hra hrb hrc hca hcb hcc hma hmb hmc
    have hT1 := hT.below hbe
    obtain ⟨b1, a1, c1, rfl, r1, j1⟩ := q1
    obtain ⟨b2, a2, c2, rfl, r2, j2⟩ := q2
    obtain ⟨b3, a3, c3, rfl, r3, j3⟩ := q3
    have d11 := r1.cell 0
    have d12 := r1.cell 1
    have d21 := r2.cell 0
    have d22 := r2.cell 1
    have d31 := r3.cell 0
    have d32 := r3.cell 1
    simp only [List.getElem?_cons_zero, List.getElem?_cons_succ] at d11 d12 d21 d22 d31 d32
    have hnew := RowAt.new wc 24 [.bool na, .slice a1 xa.length c1, .bool nb, .slice a2 xb.length c2, .bool nc, .slice a3 xc.length c3]
    have hB : Below wc.heap.size wc (wc.alloc (.cells #[.bool na, .slice a1 xa.length c1, .bool nb, .slice a2 xb.length c2, .bool nc, .slice a3 xc.length c3] 24)) := (Below.refl _ _).alloc (Nat.le_refl _) _
    have hf := formed_list [(na, .slice a1 xa.length c1, xa), (nb, .slice a2 xb.length c2, xb), (nc, .slice a3 xc.length c3, xc)] 8 wc.heap.size _ hnew (by simp) (by
      intro it hit
      simp only [List.mem_cons, List.not_mem_nil, or_false] at hit
      rcases hit with rfl | rfl | rfl
      · exact ⟨j1.below hB, hla⟩
      · exact ⟨j2.below hB, hlb⟩
      · exact ⟨j3.below hB, hlc⟩)
    simp only [List.length_cons, List.length_nil] at hf
    have hsz := hbe.size
    cases hall : List.all [(na, Value.slice a1 xa.length c1, xa), (nb, Value.slice a2 xb.length c2, xb), (nc, Value.slice a3 xc.length c3, xc)] (fitB 8) with
    | false =>
      rw [hall] at hf
      clear hnew hall
      go_wp2_with (first
        | (go_at_call 50; refine hf.mono ?_; rintro e w2 ⟨hb2, rfl⟩)
        | (go_at_call 16; refine (sane_any _ ((hT1.below hB).below hb2)).mono ?_; rintro e w3 ⟨hb3, rfl⟩))
      go_ret
      have e1 := hB.trans (hb2.mono hB.size)
      have e2 := e1.trans (hb3.mono e1.size)
      exact ⟨hbe.trans (e2.mono hsz), rfl⟩
    | true =>
      rw [hall] at hf
      have hA := Lib.hid hall
      clear hnew hall
      go_upto_region 3 with (go_at_call 50; refine hf.mono ?_; rintro e w2 ⟨hb2, rfl⟩)
      have e1 := hB.trans (hb2.mono hB.size)
      obtain ⟨⟨f1, l1⟩, ⟨f2, l2⟩, ⟨f3, l3⟩⟩ : (formedB na xa = true ∧ xa.length ≤ 8) ∧ (formedB nb xb = true ∧ xb.length ≤ 8) ∧ (formedB nc xc = true ∧ xc.length ≤ 8) := by
        have := hA.out
        simp only [List.all_cons, List.all_nil, fitB, Bool.and_true, Bool.and_eq_true, decide_eq_true_eq] at this
        exact ⟨⟨this.1.1, by omega⟩, ⟨this.2.1.1, by omega⟩, ⟨this.2.2.1, by omega⟩⟩
      have k1 := (IntAt.isInt ⟨_, rfl, j1.below e1, hla⟩ f1 : IsInt w2 (.agg #[.bool na, .slice a1 xa.length c1]) (sgn na (val xa)))
      have k2 := (IntAt.isInt ⟨_, rfl, j2.below e1, hlb⟩ f2 : IsInt w2 (.agg #[.bool nb, .slice a2 xb.length c2]) (sgn nb (val xb)))
      have k3 := (IntAt.isInt ⟨_, rfl, j3.below e1, hlc⟩ f3 : IsInt w2 (.agg #[.bool nc, .slice a3 xc.length c3]) (sgn nc (val xc)))
      have n1 : (sgn na (val xa)).natAbs < B32 ^ 8 := by rw [sgn_natAbs]; exact (canon_length_iff (formedB_bounds hla f1).1 8).1 l1
      have n2 : (sgn nb (val xb)).natAbs < B32 ^ 8 := by rw [sgn_natAbs]; exact (canon_length_iff (formedB_bounds hlb f2).1 8).1 l2
      have n3 : (sgn nc (val xc)).natAbs < B32 ^ 8 := by rw [sgn_natAbs]; exact (canon_length_iff (formedB_bounds hlc f3).1 8).1 l3
      have q3 : BoxI w2 (.pointer (some ⟨b1, 0, none⟩)) (sgn na (val xa)) := ⟨b1, na, a1, xa.length, c1, rfl, r1.below e1, k1⟩
      have q4 : BoxI w2 (.pointer (some ⟨b2, 0, none⟩)) (sgn nb (val xb)) := ⟨b2, nb, a2, xb.length, c2, rfl, r2.below e1, k2⟩
      have q5 : BoxI w2 (.pointer (some ⟨b3, 0, none⟩)) (sgn nc (val xc)) := ⟨b3, nc, a3, xc.length, c3, rfl, r3.below e1, k3⟩
      replace hbe := hbe.trans (e1.mono hsz)
      clear hA hf l1 l2 l3 f1 f2 f3 d11 d12 d21 d22 d31 d32 hb2 hB e1 r1 r2 r3 j1 j2 j3 hsz hT1 hla hlb hlc k1 k2 k3
      generalize sgn na (val xa) = i at *
      generalize sgn nb (val xb) = j at *
      generalize sgn nc (val xc) = k at *
      obtain ⟨G, hG⟩ : ∃ G, Nat.gcd i.natAbs j.natAbs = G := ⟨_, rfl⟩
      have gi : (G : Int) ∣ i := by rw [← hG]; exact Int.ofNat_dvd_left.2 (Nat.gcd_dvd_left _ _)
      have gj : (G : Int) ∣ j := by rw [← hG]; exact Int.ofNat_dvd_left.2 (Nat.gcd_dvd_right _ _)
      have hGb : ((G : Nat) : Int).natAbs < B32 ^ 8 := by
        rw [Int.natAbs_natCast, ← hG]
        rcases Nat.eq_zero_or_pos i.natAbs with h0 | h0
        · rw [h0, Nat.gcd_zero_left]; exact n2
        · exact Nat.lt_of_le_of_lt (Nat.gcd_le_left _ h0) n1
      have hGk : Nat.gcd (i * k).natAbs (j * k).natAbs = G * k.natAbs := by rw [Int.natAbs_mul, Int.natAbs_mul, Nat.gcd_mul_right, hG]
      have hGk2 : ((G : Nat) : Int) * (k.natAbs : Int) = ((G * k.natAbs : Nat) : Int) := by simp
      have cX : (i * k).natAbs < B32 ^ 16 := abs_mul_lt n1 n3
      have cY : (j * k).natAbs < B32 ^ 16 := abs_mul_lt n2 n3
      have nK : ((k.natAbs : Nat) : Int).natAbs < B32 ^ 8 := by rw [Int.natAbs_natCast]; exact n3
      have cW : (((G : Nat) : Int) * (k.natAbs : Int)).natAbs < B32 ^ 16 := abs_mul_lt hGb nK
      have Bi := b32_up n1 (by decide)
      have Bj := b32_up n2 (by decide)
      have Bk := b32_up n3 (by decide)
      have BG := b32_up hGb (by decide)
      have BK := b32_up nK (by decide)
      have BX := b32_up cX (by decide)
      have BY := b32_up cY (by decide)
      have BW := b32_up cW (by decide)
      have i30 := abs_lt_up n1 (show 8 ≤ 30 by decide)
      have j30 := abs_lt_up n2 (show 8 ≤ 30 by decide)
      have x30 := abs_lt_up cX (show 16 ≤ 30 by decide)
      have y30 := abs_lt_up cY (show 16 ≤ 30 by decide)
      have HE := Lib.hid (And.intro hG (And.intro hGk (And.intro hGk2 (And.intro gi gj))))
      have N1 := n1
      have N3 := n3
      clear hG hGk hGk2 gi gj cX cY cW nK n1 n2 n3
      generalize w2 = wX2 at *
      go_upto_region 3 with (fail)
      go_cut [7, 8, 9, 10] from 33 to 40 (fun v1 v2 v3 v4 W => BoxI W v1 (G : Int) ∧ v4 = .int .i64 0 ∧ Below wX2.heap.size wX2 W)
      case first =>
        obtain ⟨n1, a1, m1, c1, r1, i1⟩ := q3.at
        have x1 := r1.cell 0
        have y1 := r1.cell 1
        simp only [List.getElem?_cons_zero, List.getElem?_cons_succ] at x1 y1
        obtain ⟨n2, a2, m2, c2, r2, i2⟩ := q4.at
        have x2 := r2.cell 0
        have y2 := r2.cell 1
        simp only [List.getElem?_cons_zero, List.getElem?_cons_succ] at x2 y2
        have C := gcd_int _ _ _ _ _ i1 i2 i30 j30
        go_wp2_with (go_at_call 41; with_reducible refine C.mono ?_; rintro e w3 ⟨hb3, v3, v4, v5, k4, k5, rfl, hi3, hi4, hi5⟩; obtain ⟨n3, s3, m3, q3, rfl⟩ := hi3.shape; obtain ⟨n4, s4, m4, q4, rfl⟩ := hi4.shape; obtain ⟨n5, s5, m5, q5, rfl⟩ := hi5.shape)
        go_meet
        rw [HE.out.1] at hi3
        obtain ⟨z1, z2⟩ := box_first hi3 hb3
        exact ⟨z1, rfl, z2⟩
      case rest =>
        obtain ⟨q7, rfl, hbn⟩ := hcut
        replace q3 := q3.below hbn
        replace q4 := q4.below hbn
        replace q5 := q5.below hbn
        replace hbe := hbe.trans (hbn.mono hbe.size)
        clear hbn
        generalize wc = wX3 at *
        go_upto_region 4 with (fail)
        go_cut [11, 12] from 41 to 46 (fun v1 v2 W => BoxI W v1 (i * k) ∧ v2 = .int .i64 0 ∧ Below wX3.heap.size wX3 W)
        case first =>
          obtain ⟨n1, a1, m1, c1, r1, i1⟩ := q3.at
          have x1 := r1.cell 0
          have y1 := r1.cell 1
          simp only [List.getElem?_cons_zero, List.getElem?_cons_succ] at x1 y1
          obtain ⟨n2, a2, m2, c2, r2, i2⟩ := q5.at
          have x2 := r2.cell 0
          have y2 := r2.cell 1
          simp only [List.getElem?_cons_zero, List.getElem?_cons_succ] at x2 y2
          have C := mul_int 8 (by decide) _ _ _ _ _ i1 i2 Bi Bk (.inl N1) BX
          go_wp2_with (go_at_call 30; with_reducible refine C.mono ?_; rintro e w3 ⟨hb3, v3, rfl, hi3⟩; obtain ⟨n3, s3, m3, q3, rfl⟩ := hi3.shape)
          go_meet
          exact ⟨BoxI.new hi3, rfl, hb3.alloc hb3.size _⟩
        case rest =>
          obtain ⟨q11, rfl, hbn⟩ := hcut
          replace q3 := q3.below hbn
          replace q4 := q4.below hbn
          replace q5 := q5.below hbn
          replace q7 := q7.below hbn
          replace hbe := hbe.trans (hbn.mono hbe.size)
          clear hbn
          generalize wc = wX4 at *
          go_upto_region 5 with (fail)
          go_cut [13, 14] from 47 to 52 (fun v1 v2 W => BoxI W v1 (j * k) ∧ v2 = .int .i64 0 ∧ Below wX4.heap.size wX4 W)
          case first =>
            obtain ⟨n1, a1, m1, c1, r1, i1⟩ := q4.at
            have x1 := r1.cell 0
            have y1 := r1.cell 1
            simp only [List.getElem?_cons_zero, List.getElem?_cons_succ] at x1 y1
            obtain ⟨n2, a2, m2, c2, r2, i2⟩ := q5.at
            have x2 := r2.cell 0
            have y2 := r2.cell 1
            simp only [List.getElem?_cons_zero, List.getElem?_cons_succ] at x2 y2
            have C := mul_int 8 (by decide) _ _ _ _ _ i1 i2 Bj Bk (.inr N3) BY
            go_wp2_with (go_at_call 30; with_reducible refine C.mono ?_; rintro e w3 ⟨hb3, v3, rfl, hi3⟩; obtain ⟨n3, s3, m3, q3, rfl⟩ := hi3.shape)
            go_meet
            exact ⟨BoxI.new hi3, rfl, hb3.alloc hb3.size _⟩
          case rest =>
            obtain ⟨q13, rfl, hbn⟩ := hcut
            replace q3 := q3.below hbn
            replace q4 := q4.below hbn
            replace q5 := q5.below hbn
            replace q7 := q7.below hbn
            replace q11 := q11.below hbn
            replace hbe := hbe.trans (hbn.mono hbe.size)
            clear hbn
            generalize wc = wX5 at *
            go_upto_region 6 with (fail)
            go_cut [15, 16, 17, 18] from 53 to 60 (fun v1 v2 v3 v4 W => BoxI W v1 ((G * k.natAbs : Nat) : Int) ∧ v4 = .int .i64 0 ∧ Below wX5.heap.size wX5 W)
            case first =>
              obtain ⟨b1, n1, a1, m1, c1, rfl, r1, i1⟩ := q11
              have x1 := r1.cell 0
              have y1 := r1.cell 1
              simp only [List.getElem?_cons_zero, List.getElem?_cons_succ] at x1 y1
              obtain ⟨b2, n2, a2, m2, c2, rfl, r2, i2⟩ := q13
              have x2 := r2.cell 0
              have y2 := r2.cell 1
              simp only [List.getElem?_cons_zero, List.getElem?_cons_succ] at x2 y2
              have C := gcd_int _ _ _ _ _ i1 i2 x30 y30
              go_wp2_with (go_at_call 41; with_reducible refine C.mono ?_; rintro e w3 ⟨hb3, v3, v4, v5, k4, k5, rfl, hi3, hi4, hi5⟩; obtain ⟨n3, s3, m3, q3, rfl⟩ := hi3.shape; obtain ⟨n4, s4, m4, q4, rfl⟩ := hi4.shape; obtain ⟨n5, s5, m5, q5, rfl⟩ := hi5.shape)
              go_meet
              rw [HE.out.2.1] at hi3
              obtain ⟨z1, z2⟩ := box_first hi3 hb3
              exact ⟨z1, rfl, z2⟩
            case rest =>
              obtain ⟨q15, rfl, hbn⟩ := hcut
              replace q3 := q3.below hbn
              replace q4 := q4.below hbn
              replace q5 := q5.below hbn
              replace q7 := q7.below hbn
              replace q11 := q11.below hbn
              replace q13 := q13.below hbn
              replace hbe := hbe.trans (hbn.mono hbe.size)
              clear hbn
              generalize wc = wX6 at *
              obtain ⟨n1, a1, m1, c1, r1, i1⟩ := q5.at
              have x1 := r1.cell 0
              have y1 := r1.cell 1
              simp only [List.getElem?_cons_zero, List.getElem?_cons_succ] at x1 y1
              go_upto_region 9 with (fail)
              clear x1 y1
              have q19 := BoxI.new (isInt_abs i1)
              have hbn := (Below.refl wX6.heap.size wX6).alloc (Nat.le_refl _) (.cells #[.bool false, .slice a1 m1 c1] 24)
              clear r1 i1
              replace q3 := q3.below hbn
              replace q4 := q4.below hbn
              replace q5 := q5.below hbn
              replace q7 := q7.below hbn
              replace q11 := q11.below hbn
              replace q13 := q13.below hbn
              replace q15 := q15.below hbn
              replace hbe := hbe.trans (hbn.mono hbe.size)
              clear hbn
              generalize wX6.alloc (.cells #[.bool false, .slice a1 m1 c1] 24) = wX7 at *
              go_cut [20, 21] from 63 to 68 (fun v1 v2 W => BoxI W v1 ((G * k.natAbs : Nat) : Int) ∧ v2 = .int .i64 0 ∧ Below wX7.heap.size wX7 W)
              case first =>
                obtain ⟨b1, n1, a1, m1, c1, rfl, r1, i1⟩ := q7
                have x1 := r1.cell 0
                have y1 := r1.cell 1
                simp only [List.getElem?_cons_zero, List.getElem?_cons_succ] at x1 y1
                obtain ⟨n2, a2, m2, c2, r2, i2⟩ := q19.at
                have x2 := r2.cell 0
                have y2 := r2.cell 1
                simp only [List.getElem?_cons_zero, List.getElem?_cons_succ] at x2 y2
                have C := mul_int 8 (by decide) _ _ _ _ _ i1 i2 BG BK (.inl hGb) BW
                go_wp2_with (go_at_call 30; with_reducible refine C.mono ?_; rintro e w3 ⟨hb3, v3, rfl, hi3⟩; obtain ⟨n3, s3, m3, q3, rfl⟩ := hi3.shape)
                go_meet
                rw [HE.out.2.2.1] at hi3
                exact ⟨BoxI.new hi3, rfl, hb3.alloc hb3.size _⟩
              case rest =>
                obtain ⟨q20, rfl, hbn⟩ := hcut
                replace q3 := q3.below hbn
                replace q4 := q4.below hbn
                replace q5 := q5.below hbn
                replace q7 := q7.below hbn
                replace q11 := q11.below hbn
                replace q13 := q13.below hbn
                replace q15 := q15.below hbn
                replace q19 := q19.below hbn
                replace hbe := hbe.trans (hbn.mono hbe.size)
                clear hbn
                generalize wc = wX9 at *
                clear q5 q11 q13 q19 BX BY BW BK Bk i30 j30 x30 y30 N1 N3
                obtain ⟨b1, n1, a1, m1, c1, rfl, r1, i1⟩ := q15
                have x1 := r1.cell 0
                have y1 := r1.cell 1
                simp only [List.getElem?_cons_zero, List.getElem?_cons_succ] at x1 y1
                obtain ⟨b2, n2, a2, m2, c2, rfl, r2, i2⟩ := q20
                have x2 := r2.cell 0
                have y2 := r2.cell 1
                simp only [List.getElem?_cons_zero, List.getElem?_cons_succ] at x2 y2
                have C := rsame_eq _ _ _ _ i1 i2
                clear i1 i2 r1 r2
                go_upto_region 12 with (go_at_call 25; with_reducible refine C.mono ?_; rintro e wY ⟨hbn, rfl⟩)
                clear C x1 y1 x2 y2
                replace q3 := q3.below hbn
                replace q4 := q4.below hbn
                replace q7 := q7.below hbn
                replace hbe := hbe.trans (hbn.mono hbe.size)
                clear hbn
                obtain ⟨b7, n7, a7, m7, c7, rfl, r7, i7⟩ := q7
                have hz := isInt_zero i7
                have y7 := r7.cell 1
                simp only [List.getElem?_cons_zero, List.getElem?_cons_succ] at y7
                by_cases hm : m7 = 0
                · subst hm
                  clear hz i7 r7 q3 q4
                  go_wp2_with (go_at_call 16; refine (sane_any _ (hT.below hbe)).mono ?_; rintro e w3 ⟨hb3, rfl⟩)
                  go_ret
                  exact ⟨hbe.trans (hb3.mono hbe.size), rfl⟩
                · have hG0 : (G : Int) ≠ 0 := fun h => hm (hz.2 h)
                  have e1 : i.fmod (G : Int) = 0 := Int.fmod_eq_zero_of_dvd HE.out.2.2.2.1
                  have e2 : j.fmod (G : Int) = 0 := Int.fmod_eq_zero_of_dvd HE.out.2.2.2.2
                  have q7 : BoxI wY (.pointer (some ⟨b7, 0, none⟩)) (G : Int) := ⟨b7, n7, a7, m7, c7, rfl, r7, i7⟩
                  have HZ := Lib.hid (And.intro e1 e2)
                  clear hz e1 e2 i7 r7
                  go_upto_region 14 with (fail)
                  clear y7
                  go_cut [10, 22, 23] from 93 to 104 (fun v1 v2 v3 W => v1 = .int .i64 0 ∧ BoxI W v3 0 ∧ Below wY.heap.size wY W)
                  case first =>
                    obtain ⟨n1, a1, m1, c1, r1, i1⟩ := q3.at
                    have x1 := r1.cell 0
                    have y1 := r1.cell 1
                    simp only [List.getElem?_cons_zero, List.getElem?_cons_succ] at x1 y1
                    obtain ⟨n2, a2, m2, c2, r2, i2⟩ := q7.at
                    have x2 := r2.cell 0
                    have y2 := r2.cell 1
                    simp only [List.getElem?_cons_zero, List.getElem?_cons_succ] at x2 y2
                    have C := div_int _ _ _ _ _ i1 i2 Bi BG hG0
                    go_wp2_with (go_at_call 35; with_reducible refine C.mono ?_; rintro e w3 ⟨hb3, v3, v4, rfl, hi3, hi4⟩; obtain ⟨n3, s3, m3, q3, rfl⟩ := hi3.shape; obtain ⟨n4, s4, m4, q4, rfl⟩ := hi4.shape)
                    go_meet
                    rw [HZ.out.1] at hi4
                    obtain ⟨z1, z2, -, z4⟩ := boxes_two hi3 hi4 hb3
                    exact ⟨rfl, z2, z4⟩
                  case rest =>
                    obtain ⟨rfl, q23, hbn⟩ := hcut
                    replace q3 := q3.below hbn
                    replace q4 := q4.below hbn
                    replace q7 := q7.below hbn
                    replace hbe := hbe.trans (hbn.mono hbe.size)
                    clear hbn
                    generalize wc = wX14 at *
                    go_upto_region 15 with (fail)
                    go_cut [12, 24, 25] from 105 to 111 (fun v1 v2 v3 W => v1 = .int .i64 0 ∧ BoxI W v3 0 ∧ Below wX14.heap.size wX14 W)
                    case first =>
                      obtain ⟨n1, a1, m1, c1, r1, i1⟩ := q4.at
                      have x1 := r1.cell 0
                      have y1 := r1.cell 1
                      simp only [List.getElem?_cons_zero, List.getElem?_cons_succ] at x1 y1
                      obtain ⟨n2, a2, m2, c2, r2, i2⟩ := q7.at
                      have x2 := r2.cell 0
                      have y2 := r2.cell 1
                      simp only [List.getElem?_cons_zero, List.getElem?_cons_succ] at x2 y2
                      have C := div_int _ _ _ _ _ i1 i2 Bj BG hG0
                      go_wp2_with (go_at_call 35; with_reducible refine C.mono ?_; rintro e w3 ⟨hb3, v3, v4, rfl, hi3, hi4⟩; obtain ⟨n3, s3, m3, q3, rfl⟩ := hi3.shape; obtain ⟨n4, s4, m4, q4, rfl⟩ := hi4.shape)
                      go_meet
                      rw [HZ.out.2] at hi4
                      obtain ⟨z1, z2, -, z4⟩ := boxes_two hi3 hi4 hb3
                      exact ⟨rfl, z2, z4⟩
                    case rest =>
                      obtain ⟨rfl, q25, hbn⟩ := hcut
                      replace q3 := q3.below hbn
                      replace q4 := q4.below hbn
                      replace q7 := q7.below hbn
                      replace q23 := q23.below hbn
                      replace hbe := hbe.trans (hbn.mono hbe.size)
                      clear hbn
                      generalize wc = wX15 at *
                      obtain ⟨b23, n23, a23, m23, c23, rfl, r23, i23⟩ := q23
                      obtain ⟨b25, n25, a25, m25, c25, rfl, r25, i25⟩ := q25
                      obtain rfl : m23 = 0 := (isInt_zero i23).2 rfl
                      obtain rfl : m25 = 0 := (isInt_zero i25).2 rfl
                      clear q3 q4 q7 i23 i25
                      go_wp2_with (go_at_call 16; refine (sane_any _ (hT.below hbe)).mono ?_; rintro e w3 ⟨hb3, rfl⟩; have y23 := (r23.below hb3).cell 1; have y25 := (r25.below hb3).cell 1; simp only [List.getElem?_cons_zero, List.getElem?_cons_succ] at y23 y25)
                      go_ret
                      exact ⟨hbe.trans (hb3.mono hbe.size), rfl⟩

end Go.Proofs.YtlghjfpkfdnfoaaDoor

/- zermeloref01.sum, zermeloref01.less -/
namespace Go.Proofs.YtlghjfpkfdnfoaaDoor
open Go Go.RowKit Go.Shelf

/-- between two rounds -/
def RsInv (w : World) (xa xb : List Nat) (s c i : Value) (W : World) : Prop := ∃ k : Nat, k ≤ max xa.length xb.length + 1 ∧ i = .int .i64 (k : Int) ∧ c = .int .u64 ((plusFold xa (limbPairs xb k)).2 : Int) ∧
  W.ownsRow w.heap.size 72 1 s k (enc32 (plusFold xa (limbPairs xb k)).1) ∧ (k = max xa.length xb.length + 1 → (plusFold xa (limbPairs xb k)).2 = 0) ∧ Below w.heap.size w W

set_option maxHeartbeats 4000000 in
set_option maxRecDepth 100000 in
theorem rsum_any (va vb : Value) (xa xb : List Nat) (w : World) (ha : Reads .u32 w va xa) (hb : Reads .u32 w vb xb) (hla : Limbs xa) (hlb : Limbs xb) (na : xa.length ≤ 100000) (nb : xb.length ≤ 100000) :
    Calls Tryd.prog 84 #[va, vb] w fun e w' => Below w.heap.size w w' ∧ ∃ v cs, e = .returned v ∧ Reads .u32 w' v cs ∧ Limbs cs ∧ val cs = val xa + val xb ∧ cs.length ≤ max xa.length xb.length + 1 := by
  obtain ⟨aa, ca, rfl, hca, hma⟩ := ha.form
  obtain ⟨ab, cb, rfl, hcb, hmb⟩ := hb.form
  obtain ⟨inf, hi, hzz⟩ := Option.map_eq_some_iff.1 info_limb
  simp only [Prod.mk.injEq] at hzz
  have HZ := Lib.hid hzz
  clear hzz
  have hpl : ∀ k, ∀ p ∈ limbPairs xb k, p.2 < B32 := fun k p hp => by
    obtain ⟨i, _, rfl⟩ := List.mem_map.1 hp
    exact limb_getD hlb i
  have hstart : RsInv w xa xb (.slice none 0 0) (.int .u64 0) (.int .i64 0) w := ⟨0, Nat.zero_le _, rfl, by simp [plusFold, limbPairs], by simpa [plusFold, limbPairs, enc32] using World.ownsRow_nil w w.heap.size 72 1, fun h => by omega, Below.refl _ _⟩
  have HS := Lib.hid hstart
  clear hstart
  go_enter Tryd.func84, Tryd.ntmps84
  go_wp2_with fail
  go_loopw [5, 6, 7] (fun s c i wr => RsInv w xa xb s c i wr) (fun _ _ i _ => max xa.length xb.length + 1 - (intOf i).toNat)
  case atStart => exact HS.out
  case round =>
    obtain ⟨k, hk, rfl, rfl, hown, hlast, hbe⟩ := hrel
    obtain ⟨sa, sc, rfl⟩ := own_form hown
    obtain ⟨hr1, hc1⟩ := plusFold_limbs hla (limbPairs xb k) (hpl k)
    have hval := plusFold_val xa xb k
    have hnext := plusFold_snoc xa (limbPairs xb k) (k, xb[k]?.getD 0)
    have hlr := plusFold_length xa (limbPairs xb k)
    rw [limbPairs_length] at hlr
    rw [← limbPairs_succ] at hnext
    have hA := ha.below hbe
    have hB := hb.below hbe
    have hsz := hbe.size
    obtain ⟨st, hst⟩ : ∃ st, plusFold xa (limbPairs xb k) = st := ⟨_, rfl⟩
    rw [hst] at hown hlast hr1 hc1 hval hnext hlr ⊢
    obtain ⟨r, c⟩ := st
    simp only [plusStep] at hnext
    dsimp only at *
    have HLR := Lib.hid hlr
    clear hst hlr
    by_cases hx : k < xa.length ∨ k < xb.length ∨ c ≠ 0
    · have hkn : k < max xa.length xb.length + 1 := by
        rcases Nat.lt_or_ge k (max xa.length xb.length + 1) with h | h
        · exact h
        · have : c = 0 := hlast (by omega)
          omega
      have hend : k + 1 = max xa.length xb.length + 1 → xa[k]?.getD 0 = 0 ∧ xb[k]?.getD 0 = 0 := fun h => by
        rw [List.getElem?_eq_none (show xa.length ≤ k by omega), List.getElem?_eq_none (show xb.length ≤ k by omega)]; exact ⟨rfl, rfl⟩
      have lA := limb_any (.slice aa xa.length ca) xa k wr hA hla
      have lB := limb_any (.slice ab xb.length cb) xb k wr hB hlb
      have hxB := limb_getD hla k
      have hyB := limb_getD hlb k
      generalize xa[k]?.getD 0 = x at *
      generalize xb[k]?.getD 0 = y at *
      obtain ⟨T, hT⟩ : ∃ T, c + (x + y) = T := ⟨_, rfl⟩
      rw [hT] at hnext
      unfold B32 at hxB hyB
      have hs1 : IntKind.u64.wrap ((x : Int) + (y : Int)) = (x : Int) + (y : Int) := by rw [IntKind.wrap_u64]; omega
      have hs2 : IntKind.u64.wrap ((x : Int) + (y : Int) + (c : Int)) = (T : Int) := by rw [IntKind.wrap_u64]; omega
      obtain ⟨cl, hcl⟩ : ∃ cl, T % B32 = cl := ⟨_, rfl⟩
      obtain ⟨ch, hch⟩ : ∃ ch, T / B32 = ch := ⟨_, rfl⟩
      have hmd : (T : Int) % 4294967296 = (cl : Int) := by rw [← hcl]; unfold B32; omega
      have hdv : (T : Int) / 4294967296 = (ch : Int) := by rw [← hch]; unfold B32; omega
      have hwc : IntKind.u64.wrap (ch : Int) = (ch : Int) := by rw [IntKind.wrap_u64, ← hch]; unfold B32; omega
      have hclb : cl < 4294967296 := by rw [← hcl]; exact Nat.mod_lt _ (by decide)
      have hwl : IntKind.u32.wrap (cl : Int) = (cl : Int) := by rw [IntKind.wrap_u32']; omega
      rw [hcl, hch] at hnext
      have hch0 : k + 1 = max xa.length xb.length + 1 → ch = 0 := fun h => by
        obtain ⟨rfl, rfl⟩ := hend h
        rw [← hch]; unfold B32; omega
      clear hend hcl hch hlast hval
      have HN := Lib.hid (And.intro hnext hch0)
      have HT := Lib.hid hT
      clear hnext hch0 hT
      have hxc := hx
      clear hx
      have fin : ∀ w5 v', w5.ownsRow w.heap.size 72 1 v' (k + 1) (enc32 r ++ [.int .u32 (cl : Int)]) → Below w.heap.size w w5 → RsInv w xa xb v' (.int .u64 (ch : Int)) (.int .i64 ((k : Int) + 1)) w5 := fun w5 v' h1 h2 => by
        refine ⟨k + 1, by omega, by go_num, ?_, ?_, ?_, h2⟩
        · rw [HN.out.1]
        · rw [HN.out.1, enc32_snoc]; exact h1
        · rw [HN.out.1]; exact HN.out.2
      by_cases h1 : k < xa.length
      · have hg : decide ((k : Int) < (xa.length : Int)) = true := by simp; omega
        go_wp2_with (first
          | (go_at_call 62; (first | with_reducible refine lA.mono ?_ | with_reducible refine lB.mono ?_); rintro e w2 ⟨rfl, rfl⟩)
          | (at_builtin; refine wpList_append_own _ rfl _ _ 22 rfl w.heap.size 72 inf (.int .u32 0) 1 4 und_limbs hi HZ.out.1 HZ.out.2.1 HZ.out.2.2 rfl (by decide) _ _ _ rfl (hown.alloc _) ⟨wr.heap.size, 0, none⟩ 1 1 [.int .u32 (cl : Int)] rfl rfl (cell_new_plain _ _ _ _ rfl) (by simp [Value.oneCell']) (by unfold maxLen; omega) (by omega) (by simp; omega) ?_; intro v' w5 hown' hgrow _))
        have hbn : Below w.heap.size w w5 := hbe.trans (((Below.refl _ wr).alloc hsz _).grown hgrow (by simp; omega) (fun k e => by have := (hown.lt k e).1; omega))
        have hf := fin w5 v' hown' hbn
        refine ⟨hf, ?_⟩
        simp [intOf]
        omega
      · by_cases h2 : k < xb.length
        · go_wp2_with (first
            | (go_at_call 62; (first | with_reducible refine lA.mono ?_ | with_reducible refine lB.mono ?_); rintro e w2 ⟨rfl, rfl⟩)
            | (at_builtin; refine wpList_append_own _ rfl _ _ 22 rfl w.heap.size 72 inf (.int .u32 0) 1 4 und_limbs hi HZ.out.1 HZ.out.2.1 HZ.out.2.2 rfl (by decide) _ _ _ rfl (hown.alloc _) ⟨wr.heap.size, 0, none⟩ 1 1 [.int .u32 (cl : Int)] rfl rfl (cell_new_plain _ _ _ _ rfl) (by simp [Value.oneCell']) (by unfold maxLen; omega) (by omega) (by simp; omega) ?_; intro v' w5 hown' hgrow _))
          have hbn : Below w.heap.size w w5 := hbe.trans (((Below.refl _ wr).alloc hsz _).grown hgrow (by simp; omega) (fun k e => by have := (hown.lt k e).1; omega))
          have hf := fin w5 v' hown' hbn
          refine ⟨hf, ?_⟩
          simp [intOf]
          omega
        · have h3 : ¬ c = 0 := by omega
          go_wp2_with (first
            | (go_at_call 62; (first | with_reducible refine lA.mono ?_ | with_reducible refine lB.mono ?_); rintro e w2 ⟨rfl, rfl⟩)
            | (at_builtin; refine wpList_append_own _ rfl _ _ 22 rfl w.heap.size 72 inf (.int .u32 0) 1 4 und_limbs hi HZ.out.1 HZ.out.2.1 HZ.out.2.2 rfl (by decide) _ _ _ rfl (hown.alloc _) ⟨wr.heap.size, 0, none⟩ 1 1 [.int .u32 (cl : Int)] rfl rfl (cell_new_plain _ _ _ _ rfl) (by simp [Value.oneCell']) (by unfold maxLen; omega) (by omega) (by simp; omega) ?_; intro v' w5 hown' hgrow _))
          have hbn : Below w.heap.size w w5 := hbe.trans (((Below.refl _ wr).alloc hsz _).grown hgrow (by simp; omega) (fun k e => by have := (hown.lt k e).1; omega))
          have hf := fin w5 v' hown' hbn
          refine ⟨hf, ?_⟩
          simp [intOf]
          omega
    · have h1 : ¬ k < xa.length := fun h => hx (.inl h)
      have h2 : ¬ k < xb.length := fun h => hx (.inr (.inl h))
      obtain rfl : c = 0 := Classical.byContradiction fun h => hx (.inr (.inr h))
      have hrd : Reads .u32 wr (.slice sa k sc) r := Reads.ofOwn hown
      have hv : val r = val xa + val xb := by
        rw [List.take_of_length_le (by omega), List.take_of_length_le (by omega), Nat.mul_zero, Nat.add_zero] at hval
        exact hval
      have HV := Lib.hid hv
      clear hv hval hnext hlast hx
      go_wp2
      go_ret
      exact ⟨hbe, _, r, rfl, hrd, hr1, HV.out, by rw [HLR.out]; exact hk⟩

/-- between two rounds -/
def RlInv (w : World) (xa xb : List Nat) (s c i : Value) (W : World) : Prop := ∃ k : Nat, k ≤ xa.length ∧ i = .int .i64 (k : Int) ∧ c = .int .u64 ((minusFold xa (limbPairs xb k)).2 : Int) ∧
  W.ownsRow w.heap.size 72 1 s k (enc32 (minusFold xa (limbPairs xb k)).1) ∧ Below w.heap.size w W

set_option maxHeartbeats 4000000 in
set_option maxRecDepth 100000 in
theorem rless_any (va vb : Value) (xa xb : List Nat) (w : World) (ha : Reads .u32 w va xa) (hb : Reads .u32 w vb xb) (hla : Limbs xa) (hlb : Limbs xb) (na : xa.length ≤ 100000) (hll : xb.length ≤ xa.length) (hle : val xb ≤ val xa) :
    Calls Tryd.prog 85 #[va, vb] w fun e w' => Below w.heap.size w w' ∧ ∃ v cs, e = .returned v ∧ Reads .u32 w' v cs ∧ Limbs cs ∧ val cs = val xa - val xb ∧ cs.length ≤ xa.length := by
  have hend := minusFold_end hla hlb hle hll
  have hlim := (minusFold_limbs xa (limbPairs xb xa.length)).1
  have hlen := minusFold_length xa (limbPairs xb xa.length)
  rw [limbPairs_length] at hlen
  have HE := Lib.hid (And.intro hlim (And.intro hend hlen))
  clear hend hle hlim hlen hll
  obtain ⟨aa, ca, rfl, hca, hma⟩ := ha.form
  obtain ⟨ab, cb, rfl, hcb, hmb⟩ := hb.form
  obtain ⟨inf, hi, hzz⟩ := Option.map_eq_some_iff.1 info_limb
  simp only [Prod.mk.injEq] at hzz
  have HZ := Lib.hid hzz
  clear hzz
  have hstart : RlInv w xa xb (.slice none 0 0) (.int .u64 0) (.int .i64 0) w := ⟨0, Nat.zero_le _, rfl, by simp [minusFold, limbPairs], by simpa [minusFold, limbPairs, enc32] using World.ownsRow_nil w w.heap.size 72 1, Below.refl _ _⟩
  have HS := Lib.hid hstart
  clear hstart
  go_enter Tryd.func85, Tryd.ntmps85
  go_wp2_with fail
  go_loopw [5, 6, 7] (fun s c i wr => RlInv w xa xb s c i wr) (fun _ _ i _ => xa.length - (intOf i).toNat)
  case atStart => exact HS.out
  case round =>
    obtain ⟨k, hk, rfl, rfl, hown, hbe⟩ := hrel
    obtain ⟨sa, sc, rfl⟩ := own_form hown
    obtain ⟨hr1, hc1⟩ := minusFold_limbs xa (limbPairs xb k)
    have hnext := minusFold_snoc xa (limbPairs xb k) (k, xb[k]?.getD 0)
    rw [← limbPairs_succ] at hnext
    have hA := ha.below hbe
    have hB := hb.below hbe
    have hsz := hbe.size
    by_cases hx : k < xa.length
    · obtain ⟨st, hst⟩ : ∃ st, minusFold xa (limbPairs xb k) = st := ⟨_, rfl⟩
      rw [hst] at hown hr1 hc1 hnext ⊢
      obtain ⟨r, c⟩ := st
      simp only [minusStep] at hnext
      dsimp only at *
      clear hst
      have lA := limb_any (.slice aa xa.length ca) xa k wr hA hla
      have lB := limb_any (.slice ab xb.length cb) xb k wr hB hlb
      have hxB := limb_getD hla k
      have hyB := limb_getD hlb k
      generalize xa[k]?.getD 0 = x at *
      generalize xb[k]?.getD 0 = y at *
      obtain ⟨T, hT⟩ : ∃ T, x + B32 - (y + c) = T := ⟨_, rfl⟩
      rw [hT] at hnext
      unfold B32 at hxB hyB hT
      have hs1 : IntKind.u64.wrap ((4294967296 : Int) + (x : Int)) = 4294967296 + (x : Int) := by rw [IntKind.wrap_u64]; omega
      have hs2 : IntKind.u64.wrap ((4294967296 : Int) + (x : Int) - (y : Int)) = 4294967296 + (x : Int) - (y : Int) := by rw [IntKind.wrap_u64]; omega
      have hs3 : IntKind.u64.wrap ((4294967296 : Int) + (x : Int) - (y : Int) - (c : Int)) = (T : Int) := by rw [IntKind.wrap_u64]; omega
      obtain ⟨cl, hcl⟩ : ∃ cl, T % B32 = cl := ⟨_, rfl⟩
      obtain ⟨ch, hch⟩ : ∃ ch, T / B32 = ch := ⟨_, rfl⟩
      have hmd : (T : Int) % 4294967296 = (cl : Int) := by rw [← hcl]; unfold B32; omega
      have hdv : (T : Int) / 4294967296 = (ch : Int) := by rw [← hch]; unfold B32; omega
      have hch1 : ch ≤ 1 := by rw [← hch]; unfold B32; omega
      have hclb : cl < 4294967296 := by rw [← hcl]; exact Nat.mod_lt _ (by decide)
      have hwl : IntKind.u32.wrap (cl : Int) = (cl : Int) := by rw [IntKind.wrap_u32']; omega
      have hwc : IntKind.u64.wrap (ch : Int) = (ch : Int) := by rw [IntKind.wrap_u64]; omega
      obtain ⟨bo, hbo⟩ : ∃ bo, 1 - ch = bo := ⟨_, rfl⟩
      have hwb : IntKind.u64.wrap (1 - (ch : Int)) = (bo : Int) := by rw [IntKind.wrap_u64]; omega
      rw [hcl, hch, hbo] at hnext
      clear hcl hch hbo hT
      have HN := Lib.hid hnext
      clear hnext
      have fin : ∀ w5 v', w5.ownsRow w.heap.size 72 1 v' (k + 1) (enc32 r ++ [.int .u32 (cl : Int)]) → Below w.heap.size w w5 → RlInv w xa xb v' (.int .u64 (bo : Int)) (.int .i64 ((k : Int) + 1)) w5 := fun w5 v' h1 h2 => by
        refine ⟨k + 1, by omega, by go_num, ?_, ?_, h2⟩
        · rw [HN.out]
        · rw [HN.out, enc32_snoc]; exact h1
      go_wp2_with (first
        | (go_at_call 62; (first | with_reducible refine lA.mono ?_ | with_reducible refine lB.mono ?_); rintro e w2 ⟨rfl, rfl⟩)
        | (at_builtin; refine wpList_append_own _ rfl _ _ 22 rfl w.heap.size 72 inf (.int .u32 0) 1 4 und_limbs hi HZ.out.1 HZ.out.2.1 HZ.out.2.2 rfl (by decide) _ _ _ rfl (hown.alloc _) ⟨wr.heap.size, 0, none⟩ 1 1 [.int .u32 (cl : Int)] rfl rfl (cell_new_plain _ _ _ _ rfl) (by simp [Value.oneCell']) (by unfold maxLen; omega) (by omega) (by simp; omega) ?_; intro v' w5 hown' hgrow _))
      have hbn : Below w.heap.size w w5 := hbe.trans (((Below.refl _ wr).alloc hsz _).grown hgrow (by simp; omega) (fun k e => by have := (hown.lt k e).1; omega))
      have hf := fin w5 v' hown' hbn
      refine ⟨hf, ?_⟩
      simp [intOf]
      omega
    · obtain rfl : k = xa.length := by omega
      have hrd : Reads .u32 wr (.slice sa xa.length sc) (minusFold xa (limbPairs xb xa.length)).1 := Reads.ofOwn hown
      clear hnext hx
      go_wp2
      go_ret
      exact ⟨hbe, _, _, rfl, hrd, HE.out.1, HE.out.2.1, Nat.le_of_eq HE.out.2.2⟩

end Go.Proofs.YtlghjfpkfdnfoaaDoor

/- zermeloref01.larger, Compare -/
namespace Go.Proofs.YtlghjfpkfdnfoaaDoor
open Go Go.RowKit Go.Shelf

set_option maxHeartbeats 1000000 in
set_option maxRecDepth 100000 in
theorem larger_any (va vb : Value) (xa xb : List Nat) (w : World) (ha : Reads .u32 w va xa) (hb : Reads .u32 w vb xb) (hca : Canon xa) (hcb : Canon xb) (na : xa.length ≤ 1000000) :
    Calls Tryd.prog 54 #[va, vb] w fun e w' => Below w.heap.size w w' ∧ e = .returned (.int .i64 (cmpI (val xa : Int) (val xb : Int))) := by
  obtain ⟨aa, ca, rfl, hlca, hma⟩ := ha.form
  obtain ⟨ab, cb, rfl, hlcb, hmb⟩ := hb.form
  unfold maxLen at hma hmb
  by_cases hl : xa.length = xb.length
  · have HL := Lib.hid hl
    have hl1 : (((xa.length : Nat) : Int) != (xb.length : Int)) = false := by rw [hl]; simp
    clear hl
    go_enter Tryd.func54, Tryd.ntmps54
    go_wp2
    go_loopw [5] (fun i W => ∃ k : Nat, k ≤ xa.length ∧ i = .int .i64 ((k : Int) - 1) ∧ (∀ q, k ≤ q → q < xa.length → xa[q]?.getD 0 = xb[q]?.getD 0) ∧ ∃ nq, W = w.drewN nq) (fun i _ => (intOf i + 1).toNat)
    case atStart => exact ⟨xa.length, Nat.le_refl _, by go_num, fun q h1 h2 => absurd h2 (by omega), 0, rfl⟩
    case round =>
      obtain ⟨k, hk, rfl, hup, nq, rfl⟩ := hrel
      cases k with
      | zero =>
        have hval : cmpI (val xa : Int) (val xb : Int) = 0 := by
          have : xa = xb := by
            apply List.ext_getElem HL.out
            intro i h1 h2
            have := hup i (Nat.zero_le _) h1
            simpa [List.getElem?_eq_getElem h1, List.getElem?_eq_getElem h2] using this
          rw [this, cmpI_self]
        have HV := Lib.hid hval
        clear hval hup
        go_wp2
        go_ret
        exact ⟨below_drewN (Below.refl _ _) _, by rw [HV.out]; rfl⟩
      | succ k =>
        have hk1 : ((k + 1 : Nat) : Int) - 1 = (k : Int) := by omega
        rw [hk1]
        have hlt : k < xa.length := by omega
        have i1 := fun W => ha.index und_limbs size_limb (P := Tryd.prog) k .i64 W hlt
        have i2 := fun W => hb.index und_limbs size_limb (P := Tryd.prog) k .i64 W (by have := HL.out; omega)
        have d1 := ha.cell k hlt
        have d2 := hb.cell k (by have := HL.out; omega)
        have hat := fun hne => cmp_at hca.1 hcb.1 HL.out k hlt (fun i h1 h2 => hup i (by omega) h2) hne
        obtain ⟨x, hx⟩ : ∃ x, xa[k]?.getD 0 = x := ⟨_, rfl⟩
        obtain ⟨y, hy⟩ : ∃ y, xb[k]?.getD 0 = y := ⟨_, rfl⟩
        rw [hx] at d1
        rw [hy] at d2
        rw [hx, hy] at hat
        have HX := Lib.hid (And.intro hx (And.intro hy hup))
        have HAT := Lib.hid hat
        clear hx hy hup hat hk1
        rcases Nat.lt_trichotomy x y with hxy | hxy | hxy
        · have he : decide ((x : Int) < (y : Int)) = true := by simp <;> omega
          have hval := HAT.out (by omega)
          have hc1 : cmpI (x : Int) (y : Int) = -1 := by unfold cmpI; rw [if_pos (by omega)]
          rw [hc1] at hval
          have HV := Lib.hid hval
          clear hval hc1
          go_wp2_with fail
          go_quiet (fail)
          go_wp2
          go_ret
          exact ⟨below_drewN (below_drewN (Below.refl _ _) _) _, by rw [HV.out]; rfl⟩
        · subst hxy
          have he : decide ((x : Int) < (x : Int)) = false := by simp
          go_wp2_with fail
          go_quiet (fail)
          go_wp2
          go_quiet (fail)
          go_wp2
          refine ⟨⟨k, by omega, by go_num, ?_, _, rfl⟩, by simp [intOf] <;> omega⟩
          intro q h1 h2
          rcases Nat.lt_or_ge k q with h | h
          · exact HX.out.2.2 q (by omega) h2
          · obtain rfl : q = k := by omega
            rw [HX.out.1, HX.out.2.1]
        · have he : decide ((x : Int) < (y : Int)) = false := by simp <;> omega
          have he2 : decide ((y : Int) < (x : Int)) = true := by simp <;> omega
          have hval := HAT.out (by omega)
          have hc1 : cmpI (x : Int) (y : Int) = 1 := by unfold cmpI; rw [if_neg (by omega), if_pos (by omega)]
          rw [hc1] at hval
          have HV := Lib.hid hval
          clear hval hc1
          go_wp2_with fail
          go_quiet (fail)
          go_wp2
          go_quiet (fail)
          go_wp2
          go_ret
          exact ⟨below_drewN (below_drewN (below_drewN (Below.refl _ _) _) _) _, by rw [HV.out]; rfl⟩
  · have hl1 : (((xa.length : Nat) : Int) != (xb.length : Int)) = true := by simp <;> omega
    have hval := cmp_len hca hcb hl
    rw [hval]
    clear hval
    go_enter Tryd.func54, Tryd.ntmps54
    rcases Nat.lt_or_gt_of_ne hl with h | h
    · have hd : decide ((xa.length : Int) < (xb.length : Int)) = true := by simp <;> omega
      have hc1 : cmpI (xa.length : Int) (xb.length : Int) = -1 := by unfold cmpI; rw [if_pos (by omega)]
      rw [hc1]
      go_wp2
      go_ret
      exact ⟨Below.refl _ _, rfl⟩
    · have hd : decide ((xa.length : Int) < (xb.length : Int)) = false := by simp <;> omega
      have hc1 : cmpI (xa.length : Int) (xb.length : Int) = 1 := by unfold cmpI; rw [if_neg (by omega), if_pos (by omega)]
      rw [hc1]
      go_wp2
      go_ret
      exact ⟨Below.refl _ _, rfl⟩

set_option maxHeartbeats 1000000 in
set_option maxRecDepth 100000 in
theorem rcompare_int (va vb : Value) (i j : Int) (w : World) (ha : IsInt w va i) (hb : IsInt w vb j) (L : Nat) (hL : L ≤ 100000) (hi : i.natAbs < B32 ^ L) (hj : j.natAbs < B32 ^ L) :
    Calls Tryd.prog 20 #[va, vb] w fun e w' => Below w.heap.size w w' ∧ e = .returned (.int .i64 (cmpI i j)) := by
  obtain ⟨na, sa, xa, rfl, hra, hca, hna, rfl⟩ := ha
  obtain ⟨nb, sb, xb, rfl, hrb, hcb, hnb, rfl⟩ := hb
  rw [sgn_natAbs] at hi hj
  have la := canon_length_le hca hi
  have lb := canon_length_le hcb hj
  clear hi hj
  obtain ⟨aa, ca, rfl, hlca, hma⟩ := hra.form
  obtain ⟨ab, cb, rfl, hlcb, hmb⟩ := hrb.form
  have b0 := ((Below.refl w.heap.size w).alloc (Nat.le_refl _) (.cells #[.bool na, .slice aa xa.length ca] 24)).alloc (by simp) (.cells #[.bool nb, .slice ab xb.length cb] 24)
  have k1 := larger_any _ _ xa xb _ (hra.below b0) (hrb.below b0) hca hcb (by omega)
  have k2 := larger_any _ _ xb xa _ (hrb.below b0) (hra.below b0) hcb hca (by omega)
  have pa := canon_pos_iff hca
  have pb := canon_pos_iff hcb
  cases na <;> cases nb
  · have e : cmpI (sgn false (val xa)) (sgn false (val xb)) = cmpI (val xa : Int) (val xb : Int) := by simp [sgn]
    rw [e]
    clear e k2
    go_enter Tryd.func20, Tryd.ntmps20
    go_wp2_with (go_at_call 54; refine k1.mono ?_; rintro e w2 ⟨hbe, rfl⟩)
    go_ret
    exact ⟨b0.trans (hbe.mono b0.size), rfl⟩
  · have e : cmpI (sgn false (val xa)) (sgn true (val xb)) = 1 := by
      have : 0 < xb.length := by simpa using hnb
      unfold cmpI sgn
      rw [if_neg (by simp <;> omega), if_pos (by simp <;> omega)]
    rw [e]
    clear e k1 k2
    go_enter Tryd.func20, Tryd.ntmps20
    go_wp2
    go_ret
    exact ⟨b0, rfl⟩
  · have e : cmpI (sgn true (val xa)) (sgn false (val xb)) = -1 := by
      have : 0 < xa.length := by simpa using hna
      unfold cmpI sgn
      rw [if_pos (by simp <;> omega)]
    rw [e]
    clear e k1 k2
    go_enter Tryd.func20, Tryd.ntmps20
    go_wp2
    go_ret
    exact ⟨b0, rfl⟩
  · have e : cmpI (sgn true (val xa)) (sgn true (val xb)) = cmpI (val xb : Int) (val xa : Int) := cmpI_congr (by simp [sgn] <;> omega) (by simp [sgn] <;> omega)
    rw [e]
    clear e k1
    go_enter Tryd.func20, Tryd.ntmps20
    go_wp2_with (go_at_call 54; refine k2.mono ?_; rintro e w2 ⟨hbe, rfl⟩)
    go_ret
    exact ⟨b0.trans (hbe.mono b0.size), rfl⟩

end Go.Proofs.YtlghjfpkfdnfoaaDoor

/- zermeloref01.Sum, Minus -/
namespace Go.Proofs.YtlghjfpkfdnfoaaDoor
open Go Go.RowKit Go.Shelf

set_option maxHeartbeats 1000000 in
set_option maxRecDepth 100000 in
theorem RSum_same (na : Bool) (va vb : Value) (xa xb : List Nat) (w : World) (ha : Reads .u32 w va xa) (hb : Reads .u32 w vb xb) (hla : Limbs xa) (hlb : Limbs xb) (la : xa.length ≤ 100000) (lb : xb.length ≤ 100000) :
    Calls Tryd.prog 44 #[.agg #[.bool na, va], .agg #[.bool na, vb]] w fun e w' => Below w.heap.size w w' ∧ ∃ v, e = .returned v ∧ IsInt w' v (sgn na (val xa + val xb)) := by
  have h0 := twoInts_start (na := na) (nb := na) ha hb
  obtain ⟨aa, ca, rfl, hca, hma⟩ := ha.form
  obtain ⟨ab, cb, rfl, hcb, hmb⟩ := hb.form
  have H0 := Lib.hid h0
  clear h0
  go_enter Tryd.func44, Tryd.ntmps44
  go_wp2_with fail
  go_region_held3 (fun W => W.cell? ⟨w.heap.size, 0, none⟩ = some (.bool na) ∧ W.cell? ⟨w.heap.size, 1, none⟩ = some (.slice aa xa.length ca) ∧ W.cell? ⟨w.heap.size + 1, 0, none⟩ = some (.bool na) ∧ W.cell? ⟨w.heap.size + 1, 1, none⟩ = some (.slice ab xb.length cb) ∧ TwoRest w (.slice aa xa.length ca) (.slice ab xb.length cb) xa xb W)
    (first | exact ⟨H0.out.1, H0.out.2.1, H0.out.2.2.1, H0.out.2.2.2.1, H0.out.2.2.2.2.drew⟩ | (go_split_ands; exact twoInts_step (by assumption) (by assumption) (by assumption) (by assumption) (by assumption) (by assumption)) | (go_split_ands; exact twoInts_store (by assumption) (by assumption) (by assumption) (by assumption) (by assumption) _ _ _ _))
    (first | (go_at_call 84; go_split_ands; refine (rsum_any _ _ xa xb _ (TwoRest.ra (by assumption)) (TwoRest.rb (by assumption)) hla hlb la lb).mono ?_; rintro e w' ⟨hbe, v, cs, rfl, h1, h2, h3, h4⟩; obtain ⟨a3, c3, rfl, hc3, hm3⟩ := h1.form) | (go_at_call 65; go_split_ands; refine (made_any _ _ cs _ h1 h2 (by omega)).mono ?_; rintro e w'' ⟨hbe2, v5, rfl, hI⟩; obtain ⟨n5, a5, m5, c5, rfl⟩ := hI.shape; obtain ⟨u0, u1, u2, u3, q1, q2, q3, q4⟩ := TwoRest.cells (TwoRest.step (by assumption) hbe2)))
  obtain ⟨s1, s2⟩ := two_reads (b := w.heap.size + 1 + 1) q1 q2 (.bool n5) (.slice a5 m5 c5)
  have hk := hI.keep (fun v xs h => two_kept (b := w.heap.size + 1 + 1) h q1 q2 (.bool n5) (.slice a5 m5 c5))
  rename_i hT
  replace hT := hT.2.2.2.2.below
  go_wp2
  exact bodyPost_ret (v := .agg #[.bool n5, .slice a5 m5 c5]) (by simp [results, Tryd.results44, go_sem, loadCellsFrom, s1, s2]) rfl ⟨hT, _, rfl, by rw [h3] at hk; exact hk⟩

set_option maxHeartbeats 1000000 in
set_option maxRecDepth 100000 in
theorem RSum_ge (na nb : Bool) (va vb : Value) (xa xb : List Nat) (w : World) (ha : Reads .u32 w va xa) (hb : Reads .u32 w vb xb) (hla : Limbs xa) (hlb : Limbs xb) (la : xa.length ≤ 100000) (_lb : xb.length ≤ 100000) (hka : Canon xa) (hkb : Canon xb) (hn : na ≠ nb) (hle : val xb ≤ val xa) :
    Calls Tryd.prog 44 #[.agg #[.bool na, va], .agg #[.bool nb, vb]] w fun e w' => Below w.heap.size w w' ∧ ∃ v, e = .returned v ∧ IsInt w' v (sgn na (val xa - val xb)) := by
  have h0 := twoInts_start (na := na) (nb := nb) ha hb
  obtain ⟨aa, ca, rfl, hca, hma⟩ := ha.form
  obtain ⟨ab, cb, rfl, hcb, hmb⟩ := hb.form
  have H0 := Lib.hid h0
  clear h0
  have hl := canon_le_length hka hkb hle
  have hi : (0 : Int) ≤ cmpI (val xa) (val xb) := by unfold cmpI; split <;> (try split) <;> omega
  obtain rfl : nb = !na := by cases na <;> cases nb <;> first | rfl | exact absurd rfl hn
  generalize hcv : cmpI (val xa) (val xb) = cv at hi
  go_enter Tryd.func44, Tryd.ntmps44
  go_wp2_with (go_at_call 54; go_loud (refine (larger_any _ _ xa xb _ H0.out.2.2.2.2.ra H0.out.2.2.2.2.rb hka hkb (by omega)).mono ?_; rintro e w1 ⟨hbe1, rfl⟩; rw [hcv]; have H1 := Lib.hid (twoInts_step H0.out.1 H0.out.2.1 H0.out.2.2.1 H0.out.2.2.2.1 H0.out.2.2.2.2 hbe1)))
  go_region_held3 (fun W => W.cell? ⟨w.heap.size, 0, none⟩ = some (.bool na) ∧ W.cell? ⟨w.heap.size, 1, none⟩ = some (.slice aa xa.length ca) ∧ W.cell? ⟨w.heap.size + 1, 0, none⟩ = some (.bool !na) ∧ W.cell? ⟨w.heap.size + 1, 1, none⟩ = some (.slice ab xb.length cb) ∧ TwoRest w (.slice aa xa.length ca) (.slice ab xb.length cb) xa xb W)
    (first | exact ⟨H1.out.1, H1.out.2.1, H1.out.2.2.1, H1.out.2.2.2.1, H1.out.2.2.2.2.drew⟩ | (go_split_ands; exact twoInts_step (by assumption) (by assumption) (by assumption) (by assumption) (by assumption) (by assumption)) | (go_split_ands; exact twoInts_store (by assumption) (by assumption) (by assumption) (by assumption) (by assumption) _ _ _ _))
    (first | (go_at_call 85; go_split_ands; refine (rless_any _ _ xa xb _ (TwoRest.ra (by assumption)) (TwoRest.rb (by assumption)) hla hlb la hl hle).mono ?_; rintro e w' ⟨hbe, v, cs, rfl, h1, h2, h3, h4⟩; obtain ⟨a3, c3, rfl, hc3, hm3⟩ := h1.form) | (go_at_call 65; go_split_ands; refine (made_any _ _ cs _ h1 h2 (by omega)).mono ?_; rintro e w'' ⟨hbe2, v5, rfl, hI⟩; obtain ⟨n5, a5, m5, c5, rfl⟩ := hI.shape; obtain ⟨u0, u1, u2, u3, q1, q2, q3, q4⟩ := TwoRest.cells (TwoRest.step (by assumption) hbe2)))
  obtain ⟨s1, s2⟩ := two_reads (b := w.heap.size + 1 + 1) q1 q2 (.bool n5) (.slice a5 m5 c5)
  have hk := hI.keep (fun v xs h => two_kept (b := w.heap.size + 1 + 1) h q1 q2 (.bool n5) (.slice a5 m5 c5))
  rename_i hT
  replace hT := hT.2.2.2.2.below
  go_wp2
  exact bodyPost_ret (v := .agg #[.bool n5, .slice a5 m5 c5]) (by simp [results, Tryd.results44, go_sem, loadCellsFrom, s1, s2]) rfl ⟨hT, _, rfl, by rw [h3] at hk; exact hk⟩

set_option maxHeartbeats 1000000 in
set_option maxRecDepth 100000 in
theorem RSum_lt (na nb : Bool) (va vb : Value) (xa xb : List Nat) (w : World) (ha : Reads .u32 w va xa) (hb : Reads .u32 w vb xb) (hla : Limbs xa) (hlb : Limbs xb) (la : xa.length ≤ 100000) (lb : xb.length ≤ 100000) (hka : Canon xa) (hkb : Canon xb) (hn : na ≠ nb) (hlt : val xa < val xb) :
    Calls Tryd.prog 44 #[.agg #[.bool na, va], .agg #[.bool nb, vb]] w fun e w' => Below w.heap.size w w' ∧ ∃ v, e = .returned v ∧ IsInt w' v (sgn nb (val xb - val xa)) := by
  have h0 := twoInts_start (na := na) (nb := nb) ha hb
  obtain ⟨aa, ca, rfl, hca, hma⟩ := ha.form
  obtain ⟨ab, cb, rfl, hcb, hmb⟩ := hb.form
  have H0 := Lib.hid h0
  clear h0
  have hle : val xa ≤ val xb := Nat.le_of_lt hlt
  have hl := canon_le_length hkb hka hle
  have hi : cmpI (val xa) (val xb) < (0 : Int) := by unfold cmpI; split <;> (try split) <;> omega
  obtain rfl : nb = !na := by cases na <;> cases nb <;> first | rfl | exact absurd rfl hn
  generalize hcv : cmpI (val xa) (val xb) = cv at hi
  go_enter Tryd.func44, Tryd.ntmps44
  go_wp2_with (go_at_call 54; refine (larger_any _ _ xa xb _ H0.out.2.2.2.2.ra H0.out.2.2.2.2.rb hka hkb (by omega)).mono ?_; rintro e w1 ⟨hbe1, rfl⟩; rw [hcv]; have H1 := Lib.hid (twoInts_step H0.out.1 H0.out.2.1 H0.out.2.2.1 H0.out.2.2.2.1 H0.out.2.2.2.2 hbe1))
  go_region_held3 (fun W => W.cell? ⟨w.heap.size, 0, none⟩ = some (.bool na) ∧ W.cell? ⟨w.heap.size, 1, none⟩ = some (.slice aa xa.length ca) ∧ W.cell? ⟨w.heap.size + 1, 0, none⟩ = some (.bool !na) ∧ W.cell? ⟨w.heap.size + 1, 1, none⟩ = some (.slice ab xb.length cb) ∧ TwoRest w (.slice aa xa.length ca) (.slice ab xb.length cb) xa xb W)
    (first | exact ⟨H1.out.1, H1.out.2.1, H1.out.2.2.1, H1.out.2.2.2.1, H1.out.2.2.2.2.drew⟩ | (go_split_ands; exact twoInts_step (by assumption) (by assumption) (by assumption) (by assumption) (by assumption) (by assumption)) | (go_split_ands; exact twoInts_store (by assumption) (by assumption) (by assumption) (by assumption) (by assumption) _ _ _ _))
    (first | (go_at_call 85; go_split_ands; refine (rless_any _ _ xb xa _ (TwoRest.rb (by assumption)) (TwoRest.ra (by assumption)) hlb hla lb hl hle).mono ?_; rintro e w' ⟨hbe, v, cs, rfl, h1, h2, h3, h4⟩; obtain ⟨a3, c3, rfl, hc3, hm3⟩ := h1.form) | (go_at_call 65; go_split_ands; refine (made_any _ _ cs _ h1 h2 (by omega)).mono ?_; rintro e w'' ⟨hbe2, v5, rfl, hI⟩; obtain ⟨n5, a5, m5, c5, rfl⟩ := hI.shape; obtain ⟨u0, u1, u2, u3, q1, q2, q3, q4⟩ := TwoRest.cells (TwoRest.step (by assumption) hbe2)))
  obtain ⟨s1, s2⟩ := two_reads (b := w.heap.size + 1 + 1) q1 q2 (.bool n5) (.slice a5 m5 c5)
  have hk := hI.keep (fun v xs h => two_kept (b := w.heap.size + 1 + 1) h q1 q2 (.bool n5) (.slice a5 m5 c5))
  rename_i hT
  replace hT := hT.2.2.2.2.below
  go_wp2
  exact bodyPost_ret (v := .agg #[.bool n5, .slice a5 m5 c5]) (by simp [results, Tryd.results44, go_sem, loadCellsFrom, s1, s2]) rfl ⟨hT, _, rfl, by rw [h3] at hk; exact hk⟩


theorem rsum_int (a b : Value) (i j : Int) (k : Nat) (w : World) (ha : IsInt w a i) (hb : IsInt w b j) (hk : k ≤ 90000) (hi : i.natAbs < B32 ^ k) (hj : j.natAbs < B32 ^ k) :
    Calls Tryd.prog 44 #[a, b] w fun e w' => Below w.heap.size w w' ∧ ∃ v, e = .returned v ∧ IsInt w' v (i + j) := by
  obtain ⟨na, va, xa, rfl, hra, hca, hna, rfl⟩ := ha
  obtain ⟨nb, vb, xb, rfl, hrb, hcb, hnb, rfl⟩ := hb
  rw [sgn_natAbs] at hi hj
  have la := canon_length_le hca hi
  have lb := canon_length_le hcb hj
  by_cases hn : na = nb
  · subst hn
    refine (RSum_same na va vb xa xb w hra hrb hca.1 hcb.1 (by omega) (by omega)).mono ?_
    rintro e w' ⟨hbe, v, rfl, h1⟩
    refine ⟨hbe, _, rfl, ?_⟩
    rwa [show sgn na (val xa) + sgn na (val xb) = sgn na (val xa + val xb) by cases na <;> simp [sgn] <;> omega]
  · rcases Nat.lt_or_ge (val xa) (val xb) with hlt | hle
    · refine (RSum_lt na nb va vb xa xb w hra hrb hca.1 hcb.1 (by omega) (by omega) hca hcb hn hlt).mono ?_
      rintro e w' ⟨hbe, v, rfl, h1⟩
      refine ⟨hbe, _, rfl, ?_⟩
      rwa [show sgn na (val xa) + sgn nb (val xb) = sgn nb (val xb - val xa) by cases na <;> cases nb <;> first | exact absurd rfl hn | (simp [sgn]; omega)]
    · refine (RSum_ge na nb va vb xa xb w hra hrb hca.1 hcb.1 (by omega) (by omega) hca hcb hn hle).mono ?_
      rintro e w' ⟨hbe, v, rfl, h1⟩
      refine ⟨hbe, _, rfl, ?_⟩
      rwa [show sgn na (val xa) + sgn nb (val xb) = sgn na (val xa - val xb) by cases na <;> cases nb <;> first | exact absurd rfl hn | (simp [sgn]; omega)]

set_option maxHeartbeats 1000000 in
set_option maxRecDepth 100000 in
theorem rminus_int (a : Value) (i : Int) (w : World) (ha : IsInt w a i) :
    Calls Tryd.prog 52 #[a] w fun e w' => Below w.heap.size w w' ∧ ∃ v, e = .returned v ∧ IsInt w' v (-i) := by
  obtain ⟨na, va, xa, rfl, hra, hca, hna, rfl⟩ := ha
  obtain ⟨aa, ca, rfl, hlca, hma⟩ := hra.form
  have b1 := (Below.refl w.heap.size w).alloc (Nat.le_refl _) (.cells #[.bool na, .slice aa xa.length ca] 24)
  have fin : ∀ n : Bool, n = (!na && decide (0 < xa.length)) → IsInt w (.agg #[.bool n, .slice aa xa.length ca]) (-(sgn na (val xa))) := fun n hn => by
    subst hn
    have hp := canon_pos_iff hca
    refine ⟨_, _, xa, rfl, hra, hca, by simp, ?_⟩
    by_cases h0 : 0 < xa.length
    · cases na <;> simp [sgn, h0]
    · have : val xa = 0 := by omega
      cases na <;> simp [sgn, h0, this]
  have HF := Lib.hid fin
  clear fin hna
  cases na with
  | true =>
    have hI := HF.out false (by simp)
    go_enter Tryd.func52, Tryd.ntmps52
    go_wp2
    exact bodyPost_ret (v := .agg #[.bool false, .slice aa xa.length ca]) (by simp [results, Tryd.results52, go_sem, loadCellsFrom]) rfl ⟨b1.alloc b1.size _, _, rfl, hI.below ((Below.refl _ _).trans (b1.alloc b1.size _))⟩
  | false =>
    by_cases h0 : 0 < xa.length
    · have hI := HF.out true (by simp [h0])
      have hd : decide ((0 : Int) < (xa.length : Int)) = true := decide_eq_true (by omega)
      go_enter Tryd.func52, Tryd.ntmps52
      go_wp2
      exact bodyPost_ret (v := .agg #[.bool true, .slice aa xa.length ca]) (by simp [results, Tryd.results52, go_sem, loadCellsFrom]) rfl ⟨b1.alloc b1.size _, _, rfl, hI.below ((Below.refl _ _).trans (b1.alloc b1.size _))⟩
    · have hI := HF.out false (by simp [h0])
      have hd : decide ((0 : Int) < (xa.length : Int)) = false := decide_eq_false (by omega)
      go_enter Tryd.func52, Tryd.ntmps52
      go_wp2
      exact bodyPost_ret (v := .agg #[.bool false, .slice aa xa.length ca]) (by simp [results, Tryd.results52, go_sem, loadCellsFrom]) rfl ⟨b1.alloc b1.size _, _, rfl, hI.below ((Below.refl _ _).trans (b1.alloc b1.size _))⟩

end Go.Proofs.YtlghjfpkfdnfoaaDoor
