/- Div, Gcd, Bits and powers of 2 at values -/
import Derived.Test.YtifngjfhgehakaaDoorNumMSub
import Derived.Test.YtifngjfhgehakaaDoorNumMBits
import Derived.Test.YtifngjfhgehakaaDoorNumMAddAt
import Derived.Test.YtifngjfhgehakaaDoorTie
import Derived.Test.YtifngjfhgehakaaDoorCards
import Derived.SevenTiedAt
import Derived.Below
import Derived.Carry
namespace Go.Proofs.YtifngjfhgehakaaDoor
open Go Go.RowKit Go.Shelf

theorem divUpTo_all (K : Nat) : DivUpTo 90000 K := fun va vb xa xb w ha hb hka hkb la _ h0 => divide_any va vb xa xb w ha hb hka hkb la (by rintro rfl; simp [val] at h0)

set_option exponentiation.threshold 400 in
theorem div_int (va vb : Value) (i j : Int) (w : World) (ha : IsInt w va i) (hb : IsInt w vb j) (hi : i.natAbs < B32 ^ 300) (hj : j.natAbs < B32 ^ 300) (hj0 : j ≠ 0) :
    Calls Tryd.prog 35 #[va, vb] w fun e w' => Below w.heap.size w w' ∧ ∃ q r, e = .returned (.tuple #[q, r, .int .i64 0]) ∧ IsInt w' q (i.fdiv j) ∧ IsInt w' r (i.fmod j) :=
  Div_ok va vb i j 300 300 (divUpTo_le (divUpTo_all 300) (by omega) (by omega)) w ha hb hi hj hi hj hj0

/-- so many binary digits -/
def BitsIs (k n : Nat) : Prop := (n = 0 ∧ k = 0) ∨ (1 ≤ k ∧ 2 ^ (k - 1) ≤ n ∧ n < 2 ^ k)
theorem bitsIs_of {xs : List Nat} (h : Canon xs) : BitsIs (bitsOf xs) (val xs) := by
  by_cases hx : xs = []
  · subst hx; exact .inl ⟨rfl, rfl⟩
  · exact .inr (bitsOf_bounds h hx)
theorem bitsIs_unique {k m n : Nat} (h : BitsIs k n) (h' : BitsIs m n) : k = m := by
  have key : ∀ {k m : Nat}, 1 ≤ k → 2 ^ (k - 1) ≤ n → n < 2 ^ m → k ≤ m := fun {k m} h1 h2 h3 => by
    have := (Nat.pow_lt_pow_iff_right (show 1 < 2 by omega)).1 (Nat.lt_of_le_of_lt h2 h3)
    omega
  rcases h with ⟨h1, h2⟩ | ⟨h1, h2, h3⟩ <;> rcases h' with ⟨h4, h5⟩ | ⟨h4, h5, h6⟩
  · omega
  · subst h1; have : 0 < 2 ^ (m - 1) := Nat.pow_pos (by omega); omega
  · subst h4; have : 0 < 2 ^ (k - 1) := Nat.pow_pos (by omega); omega
  · have a := key h1 h2 h6
    have b := key h4 h5 h3
    omega
theorem bitsIs_mul {k m n s : Nat} (h : BitsIs k n) (h' : BitsIs m (n * 2 ^ s)) (hn : n ≠ 0) : m = k + s := by
  rcases h with ⟨h1, h2⟩ | ⟨h1, h2, h3⟩
  · exact absurd h1 hn
  · refine bitsIs_unique h' (.inr ⟨by omega, ?_, ?_⟩)
    · rw [show k + s - 1 = (k - 1) + s by omega, Nat.pow_add]; exact Nat.mul_le_mul_right _ h2
    · rw [Nat.pow_add]; exact Nat.mul_lt_mul_of_pos_right h3 (Nat.pow_pos (by omega))
theorem bitsIs_div {k m n s : Nat} (h : BitsIs k n) (h' : BitsIs m (n / 2 ^ s)) : m = k - s := by
  have hs : 0 < 2 ^ s := Nat.pow_pos (by omega)
  rcases h with ⟨h1, h2⟩ | ⟨h1, h2, h3⟩
  · subst h1
    refine bitsIs_unique h' (.inl ⟨by simp, by omega⟩)
  · rcases Nat.lt_or_ge s k with hlt | hge
    · refine bitsIs_unique h' (.inr ⟨by omega, ?_, ?_⟩)
      · rw [Nat.le_div_iff_mul_le hs, ← Nat.pow_add, show k - s - 1 + s = k - 1 by omega]; exact h2
      · rw [Nat.div_lt_iff_lt_mul hs, ← Nat.pow_add, show k - s + s = k by omega]; exact h3
    · have h4 : 2 ^ k ≤ 2 ^ s := Nat.pow_le_pow_right (by omega) hge
      refine bitsIs_unique h' (.inl ⟨Nat.div_eq_of_lt (by omega), by omega⟩)

set_option exponentiation.threshold 400 in
theorem bits_int (va : Value) (i : Int) (w : World) (ha : IsInt w va i) (hi : i.natAbs < B32 ^ 300) :
    Calls Tryd.prog 21 #[va] w fun e w' => Below w.heap.size w w' ∧ ∃ k : Nat, e = .returned (.tuple #[.int .i64 (k : Int), .int .i64 0]) ∧ BitsIs k i.natAbs ∧ k ≤ 9600 := by
  obtain ⟨na, xa, hA, fa, rfl, ca, -⟩ := ha.at hi
  rw [sgn_natAbs] at hi
  have hl := canon_length_le ca hi
  refine (Bits_any va na xa w hA (by omega)).mono ?_
  rintro e w' ⟨h1, rfl⟩
  refine ⟨h1, bitsOf xa, by rw [fa]; rfl, by rw [sgn_natAbs]; exact bitsIs_of ca, ?_⟩
  by_cases hx : xa = []
  · subst hx; simp [bitsOf]
  · have hb := bitsOf_bounds ca hx
    rw [B32_pow] at hi
    have := (Nat.pow_lt_pow_iff_right (show 1 < 2 by omega)).1 (Nat.lt_of_le_of_lt hb.2.1 hi)
    omega

set_option exponentiation.threshold 400 in
theorem pow_two (a : Value) (n : Nat) (w : World) (ha : IsInt w a 2) (hn : n ≤ 255) :
    Calls Tryd.prog 37 #[a, .int .i64 (n : Int)] w fun e w' => Below w.heap.size w w' ∧ ∃ v, e = .returned (.tuple #[v, .int .i64 0]) ∧ IsInt w' v ((2 : Int) ^ n) := by
  obtain ⟨hA, fA⟩ := IsInt.limb (neg := false) (x := 2) ha (by decide) (by decide)
  have hb : bitsOf [2] = 2 := by decide +kernel
  have hp : ∀ K, 8 ≤ K → val [2] ^ n < B32 ^ K := fun K hK => by rw [val_one, B32_pow]; exact Nat.pow_lt_pow_right (by omega) (by omega)
  refine (Pow_ok a [2] n 79 times_79 (by omega) w hA fA (by omega) (by rw [hb]; omega) (by rw [hb]; decide) (hp _ (by omega)) (hp _ (by omega))).mono ?_
  rintro e w' ⟨h1, v, rfl, h2⟩
  refine ⟨h1, v, rfl, ?_⟩
  rw [val_one] at h2
  exact h2

/-- an integer is 0 just without limbs -/
theorem isInt_zero {w : World} {n : Bool} {a : Option Addr} {m c : Nat} {i : Int} (h : IsInt w (.agg #[.bool n, .slice a m c]) i) : m = 0 ↔ i = 0 := by
  obtain ⟨neg, va, xs, e, hr, hc, hn, rfl⟩ := h
  simp only [Value.agg.injEq, Array.mk.injEq, List.cons.injEq, Value.bool.injEq, and_true] at e
  obtain ⟨rfl, rfl⟩ := e
  obtain ⟨a', c', e, -, -⟩ := hr.form
  simp only [Value.slice.injEq] at e
  obtain ⟨-, rfl, -⟩ := e
  have h1 := canon_pos_iff hc
  constructor
  · intro h
    have : val xs = 0 := by omega
    rw [this]; cases n <;> rfl
  · intro h
    have : val xs = 0 := by
      have := congrArg Int.natAbs h
      rwa [sgn_natAbs] at this
    omega

end Go.Proofs.YtifngjfhgehakaaDoor

/- zermelolaw01.NumShifts -/
namespace Go.Proofs.YtifngjfhgehakaaDoor
open Go Go.RowKit Go.Shelf

theorem boxes_two {W W' : World} {n m : Bool} {a b : Option Addr} {k c l d : Nat} {i j : Int} (h1 : IsInt W' (.agg #[.bool n, .slice a k c]) i) (h2 : IsInt W' (.agg #[.bool m, .slice b l d]) j) (hb : Below W.heap.size W W') :
    BoxI ((W'.alloc (.cells #[.bool n, .slice a k c] 24)).alloc (.cells #[.bool m, .slice b l d] 24)) (.pointer (some ⟨W'.heap.size, 0, none⟩)) i ∧ BoxI ((W'.alloc (.cells #[.bool n, .slice a k c] 24)).alloc (.cells #[.bool m, .slice b l d] 24)) (.pointer (some ⟨W'.heap.size + 1, 0, none⟩)) j ∧ Value.int .i64 0 = Value.int .i64 0 ∧
    Below W.heap.size W ((W'.alloc (.cells #[.bool n, .slice a k c] 24)).alloc (.cells #[.bool m, .slice b l d] 24)) := by
  have b1 := hb.alloc hb.size (.cells #[.bool n, .slice a k c] 24)
  have q := BoxI.new (n := m) (a := b) (m := l) (c := d) (h2.below ((Below.refl W'.heap.size W').alloc (Nat.le_refl _) (.cells #[.bool n, .slice a k c] 24)))
  rw [World.size_alloc] at q
  exact ⟨(BoxI.new h1).alloc _, q, rfl, b1.alloc b1.size _⟩

set_option maxHeartbeats 4000000 in
set_option maxRecDepth 100000 in
set_option exponentiation.threshold 400 in
theorem shifts_any (va : Value) (na : Bool) (xa : List Nat) (n : Nat) (hn : n ≤ 255) (w : World) (ha : IntAt w va na xa) (hT : DigitsAt w) :
    Calls Tryd.prog 11 #[va, .int .u8 (n : Int)] w fun e w' => Below w.heap.size w w' ∧ e = .returned (.bool true) := by
  obtain ⟨sa, rfl, hra, hla⟩ := ha
  obtain ⟨aa, ca, rfl, hca, hma⟩ := hra.form
  go_enter Tryd.func11, Tryd.ntmps11
  go_upto_region 0 with (fail)
  go_cut [2] from 0 to 0 (fun v2 W => BoxF W v2 na xa ∧ Below w.heap.size w W)
  case first =>
    go_wp2
    go_meet
    have B1 : Below w.heap.size w (w.alloc (.cells #[.bool na, .slice aa xa.length ca] 24)) := (Below.refl _ _).alloc (Nat.le_refl _) _
    exact ⟨⟨_, aa, ca, rfl, RowAt.new w 24 [.bool na, .slice aa xa.length ca], hra.below B1⟩, B1⟩
  case rest =>
    obtain ⟨q1, hbe⟩ := hcut
    clear hra hca hma
    have hT1 := hT.below hbe
    obtain ⟨b1, a1, c1, rfl, r1, j1⟩ := q1
    have d11 := r1.cell 0
    have d12 := r1.cell 1
    simp only [List.getElem?_cons_zero, List.getElem?_cons_succ] at d11 d12
    have hnew := RowAt.new wc 24 [.bool na, .slice a1 xa.length c1]
    have hB : Below wc.heap.size wc (wc.alloc (.cells #[.bool na, .slice a1 xa.length c1] 24)) := (Below.refl _ _).alloc (Nat.le_refl _) _
    have hf := formed_list [(na, .slice a1 xa.length c1, xa)] 60 wc.heap.size _ hnew (by simp) (by
      intro it hit
      simp only [List.mem_cons, List.not_mem_nil, or_false] at hit
      subst hit
      exact ⟨j1.below hB, hla⟩)
    simp only [List.length_cons, List.length_nil] at hf
    have hsz := hbe.size
    cases hall : List.all [(na, Value.slice a1 xa.length c1, xa)] (fitB 60) with
    | false =>
      rw [hall] at hf
      clear hnew hall
      go_wp2_with (first
        | (go_at_call 50; refine hf.mono ?_; rintro e w2 ⟨hb2, rfl⟩)
        | (go_at_call 16; refine (sane_any _ ((hT1.below hB).below hb2)).mono ?_; rintro e w3 ⟨hb3, rfl⟩))
      go_ret
      have e1 := hB.trans (hb2.mono hB.size)
      have e2 := e1.trans (hb3.mono e1.size)
      exact ⟨hbe.trans (e2.mono hsz), rfl⟩
    | true =>
      rw [hall] at hf
      have hA := Lib.hid hall
      clear hnew hall
      cases na with
      | true =>
        go_wp2_with (first
          | (go_at_call 50; refine hf.mono ?_; rintro e w2 ⟨hb2, rfl⟩; have e1 := hB.trans (hb2.mono hB.size); have g1 := (r1.below e1).cell 0; simp only [List.getElem?_cons_zero] at g1)
          | (go_at_call 16; refine (sane_any _ ((hT1.below hB).below hb2)).mono ?_; rintro e w3 ⟨hb3, rfl⟩))
        go_ret
        have e2 := e1.trans (hb3.mono e1.size)
        exact ⟨hbe.trans (e2.mono hsz), rfl⟩
      | false =>
        go_upto_region 3 with (go_at_call 50; refine hf.mono ?_; rintro e w2 ⟨hb2, rfl⟩; have e1 := hB.trans (hb2.mono hB.size); have g1 := (r1.below e1).cell 0; simp only [List.getElem?_cons_zero] at g1)
        obtain ⟨f1, l1⟩ : formedB false xa = true ∧ xa.length ≤ 60 := by
          have := hA.out
          simp only [List.all_cons, List.all_nil, fitB, Bool.and_true, Bool.and_eq_true, decide_eq_true_eq] at this
          exact ⟨this.1, by omega⟩
        have k1 := (IntAt.isInt ⟨_, rfl, j1.below e1, hla⟩ f1 : IsInt w2 (.agg #[.bool false, .slice a1 xa.length c1]) (sgn false (val xa)))
        have n1 : (sgn false (val xa)).natAbs < B32 ^ 60 := by rw [sgn_natAbs]; exact (canon_length_iff (formedB_bounds hla f1).1 60).1 l1
        have q2 : BoxI w2 (.pointer (some ⟨b1, 0, none⟩)) ((val xa : Nat) : Int) := ⟨b1, false, a1, xa.length, c1, rfl, r1.below e1, k1⟩
        replace hbe := hbe.trans (e1.mono hsz)
        have n2 : ((val xa : Nat) : Int).natAbs < B32 ^ 60 := n1
        clear hA hf l1 f1 d11 d12 hb2 hB e1 r1 j1 hsz hT1 hla k1 n1 g1
        generalize val xa = N at *
        obtain ⟨T, hTT⟩ : ∃ T : Nat, 2 ^ n = T := ⟨_, rfl⟩
        have hT0 : 0 < T := by rw [← hTT]; exact Nat.pow_pos (by omega)
        have hTb : ((T : Nat) : Int).natAbs < B32 ^ 8 := by rw [Int.natAbs_natCast, ← hTT, B32_pow]; exact Nat.pow_lt_pow_right (by omega) (by omega)
        have hpT : (2 : Int) ^ n = (T : Int) := by rw [← hTT]; simp
        have BN := b32_up n2 (by decide)
        have n60 := n2
        have BT := b32_up hTb (by decide)
        have cU : ((N : Int) * (T : Int)).natAbs < B32 ^ 68 := abs_mul_lt n2 hTb
        have BU := b32_up cU (by decide)
        have hTz : (T : Int) ≠ 0 := by omega
        have BQ : ((N / T : Nat) : Int).natAbs < B32 ^ 300 := by
          rw [Int.natAbs_natCast] at BN ⊢
          exact Nat.lt_of_le_of_lt (Nat.div_le_self _ _) BN
        have eU : (N : Int) * (T : Int) = ((N * T : Nat) : Int) := by simp
        have eD1 : ((N : Int) * (T : Int)).fdiv (T : Int) = (N : Int) := Int.mul_fdiv_cancel _ hTz
        have eD2 : ((N : Int) * (T : Int)).fmod (T : Int) = 0 := by rw [Int.fmod_def, eD1, Int.mul_comm]; omega
        have eQ : (N : Int).fdiv (T : Int) = ((N / T : Nat) : Int) := by rw [Int.fdiv_eq_ediv_of_nonneg _ (by omega)]; rfl
        have HE := Lib.hid (And.intro eU (And.intro eD1 (And.intro eD2 (And.intro eQ (And.intro hpT (And.intro hTT hT0))))))
        clear eU eD1 eD2 eQ hpT hTT cU hTb n2
        generalize w2 = wX2 at *
        go_upto_region 3 with (fail)
        go_cut [5, 6] from 29 to 35 (fun v1 v2 W => BoxI W v1 (T : Int) ∧ v2 = .int .i64 0 ∧ Below wX2.heap.size wX2 W)
        case first =>
          have hwn : IntKind.i64.wrap (n : Int) = (n : Int) := by rw [IntKind.wrap_i64]; omega
          have hpT := HE.out.2.2.2.2.1
          have HP := Lib.hid hpT
          clear hpT
          have C1 := rof_int 2 wX2 (by omega) (by omega)
          go_wp2_with (first
            | (go_at_call 27; refine C1.mono ?_; rintro e w3 ⟨hb3, v3, rfl, hi3⟩)
            | (go_at_call 37; refine (pow_two _ n _ hi3 hn).mono ?_; rintro e w4 ⟨hb4, v4, rfl, hi4⟩; obtain ⟨n4, s4, m4, q4, rfl⟩ := hi4.shape))
          go_meet
          rw [HP.out] at hi4
          have hb5 := hb3.trans (hb4.mono hb3.size)
          exact ⟨BoxI.new hi4, rfl, hb5.alloc hb5.size _⟩
        case rest =>
          obtain ⟨q5, rfl, hbn⟩ := hcut
          replace q2 := q2.below hbn
          replace hbe := hbe.trans (hbn.mono hbe.size)
          clear hbn
          generalize wc = wX3 at *
          go_upto_region 6 with (fail)
          go_cut [6, 7] from 38 to 43 (fun v1 v2 W => v1 = .int .i64 0 ∧ BoxI W v2 ((N : Int) * (T : Int)) ∧ Below wX3.heap.size wX3 W)
          case first =>
            obtain ⟨nx, ax, mx, cx, rx, ix⟩ := q2.at
            have xx := rx.cell 0
            have yx := rx.cell 1
            simp only [List.getElem?_cons_zero, List.getElem?_cons_succ] at xx yx
            obtain ⟨bz, ny, ay, my, cy, rfl, ry, iy⟩ := q5
            have xy := ry.cell 0
            have yy := ry.cell 1
            simp only [List.getElem?_cons_zero, List.getElem?_cons_succ] at xy yy
            have C := mul_int 60 (by decide) _ _ _ _ _ ix iy BN BT (.inl n60) BU
            go_wp2_with (go_at_call 30; with_reducible refine C.mono ?_; rintro e w3 ⟨hb3, v3, rfl, hi3⟩; obtain ⟨n3, s3, m3, q3, rfl⟩ := hi3.shape)
            go_meet
            exact ⟨rfl, BoxI.new hi3, hb3.alloc hb3.size _⟩
          case rest =>
            obtain ⟨rfl, q7, hbn⟩ := hcut
            replace q2 := q2.below hbn
            replace q5 := q5.below hbn
            replace hbe := hbe.trans (hbn.mono hbe.size)
            clear hbn
            generalize wc = wX6 at *
            go_upto_region 7 with (fail)
            go_cut [8, 9, 10] from 44 to 50 (fun v1 v2 v3 W => BoxI W v1 (N : Int) ∧ BoxI W v2 0 ∧ v3 = .int .i64 0 ∧ Below wX6.heap.size wX6 W)
            case first =>
              obtain ⟨bx, nx, ax, mx, cx, rfl, rx, ix⟩ := q7
              have xx := rx.cell 0
              have yx := rx.cell 1
              simp only [List.getElem?_cons_zero, List.getElem?_cons_succ] at xx yx
              obtain ⟨bz, ny, ay, my, cy, rfl, ry, iy⟩ := q5
              have xy := ry.cell 0
              have yy := ry.cell 1
              simp only [List.getElem?_cons_zero, List.getElem?_cons_succ] at xy yy
              have C := div_int _ _ _ _ _ ix iy BU BT hTz
              go_wp2_with (go_at_call 35; with_reducible refine C.mono ?_; rintro e w3 ⟨hb3, v3, v4, rfl, hi3, hi4⟩; obtain ⟨n3, s3, m3, q3, rfl⟩ := hi3.shape; obtain ⟨n4, s4, m4, q4, rfl⟩ := hi4.shape)
              go_meet
              rw [HE.out.2.1] at hi3
              rw [HE.out.2.2.1] at hi4
              exact boxes_two hi3 hi4 hb3
            case rest =>
              obtain ⟨q8, q9, rfl, hbn⟩ := hcut
              replace q2 := q2.below hbn
              replace q5 := q5.below hbn
              replace q7 := q7.below hbn
              replace hbe := hbe.trans (hbn.mono hbe.size)
              clear hbn
              generalize wc = wX7 at *
              go_upto_region 8 with (fail)
              go_cut [11, 12, 13] from 51 to 57 (fun v1 v2 v3 W => BoxI W v1 ((N / T : Nat) : Int) ∧ BoxI W v2 ((N : Int).fmod (T : Int)) ∧ v3 = .int .i64 0 ∧ Below wX7.heap.size wX7 W)
              case first =>
                obtain ⟨nx, ax, mx, cx, rx, ix⟩ := q2.at
                have xx := rx.cell 0
                have yx := rx.cell 1
                simp only [List.getElem?_cons_zero, List.getElem?_cons_succ] at xx yx
                obtain ⟨bz, ny, ay, my, cy, rfl, ry, iy⟩ := q5
                have xy := ry.cell 0
                have yy := ry.cell 1
                simp only [List.getElem?_cons_zero, List.getElem?_cons_succ] at xy yy
                have C := div_int _ _ _ _ _ ix iy BN BT hTz
                go_wp2_with (go_at_call 35; with_reducible refine C.mono ?_; rintro e w3 ⟨hb3, v3, v4, rfl, hi3, hi4⟩; obtain ⟨n3, s3, m3, q3, rfl⟩ := hi3.shape; obtain ⟨n4, s4, m4, q4, rfl⟩ := hi4.shape)
                go_meet
                rw [HE.out.2.2.2.1] at hi3
                exact boxes_two hi3 hi4 hb3
              case rest =>
                obtain ⟨q11, q12, rfl, hbn⟩ := hcut
                clear q12
                replace q2 := q2.below hbn
                replace q5 := q5.below hbn
                replace q7 := q7.below hbn
                replace q8 := q8.below hbn
                replace q9 := q9.below hbn
                replace hbe := hbe.trans (hbn.mono hbe.size)
                clear hbn
                generalize wc = wX8 at *
                go_upto_region 9 with (fail)
                go_cut [14, 15] from 58 to 62 (fun v1 v2 W => (∃ k : Nat, v1 = .int .i64 (k : Int) ∧ BitsIs k N ∧ k ≤ 9600) ∧ v2 = .int .i64 0 ∧ Below wX8.heap.size wX8 W)
                case first =>
                  obtain ⟨nx, ax, mx, cx, rx, ix⟩ := q2.at
                  have xx := rx.cell 0
                  have yx := rx.cell 1
                  simp only [List.getElem?_cons_zero, List.getElem?_cons_succ] at xx yx
                  have C := bits_int _ _ _ ix BN
                  go_wp2_with (go_at_call 21; with_reducible refine C.mono ?_; rintro e w3 ⟨hb3, k, rfl, hk, hkl⟩)
                  go_meet
                  have hk2 : BitsIs k N := hk
                  exact ⟨⟨k, rfl, hk2, hkl⟩, rfl, hb3⟩
                case rest =>
                  obtain ⟨⟨had, rfl, hhad, lhad⟩, rfl, hbn⟩ := hcut
                  replace q2 := q2.below hbn
                  replace q5 := q5.below hbn
                  replace q7 := q7.below hbn
                  replace q8 := q8.below hbn
                  replace q9 := q9.below hbn
                  replace q11 := q11.below hbn
                  replace hbe := hbe.trans (hbn.mono hbe.size)
                  clear hbn
                  generalize wc = wX9 at *
                  go_upto_region 10 with (fail)
                  go_cut [16, 17] from 63 to 67 (fun v1 v2 W => (∃ k : Nat, v1 = .int .i64 (k : Int) ∧ BitsIs k (N * T) ∧ k ≤ 9600) ∧ v2 = .int .i64 0 ∧ Below wX9.heap.size wX9 W)
                  case first =>
                    obtain ⟨bx, nx, ax, mx, cx, rfl, rx, ix⟩ := q7
                    have xx := rx.cell 0
                    have yx := rx.cell 1
                    simp only [List.getElem?_cons_zero, List.getElem?_cons_succ] at xx yx
                    have C := bits_int _ _ _ ix BU
                    go_wp2_with (go_at_call 21; with_reducible refine C.mono ?_; rintro e w3 ⟨hb3, k, rfl, hk, hkl⟩)
                    go_meet
                    have hk2 : BitsIs k (N * T) := by rw [HE.out.1] at hk; exact hk
                    exact ⟨⟨k, rfl, hk2, hkl⟩, rfl, hb3⟩
                  case rest =>
                    obtain ⟨⟨more, rfl, hmore, lmore⟩, rfl, hbn⟩ := hcut
                    replace q2 := q2.below hbn
                    replace q5 := q5.below hbn
                    replace q7 := q7.below hbn
                    replace q8 := q8.below hbn
                    replace q9 := q9.below hbn
                    replace q11 := q11.below hbn
                    replace hbe := hbe.trans (hbn.mono hbe.size)
                    clear hbn
                    generalize wc = wX10 at *
                    go_upto_region 11 with (fail)
                    go_cut [18, 19] from 68 to 72 (fun v1 v2 W => (∃ k : Nat, v1 = .int .i64 (k : Int) ∧ BitsIs k (N / T) ∧ k ≤ 9600) ∧ v2 = .int .i64 0 ∧ Below wX10.heap.size wX10 W)
                    case first =>
                      obtain ⟨bx, nx, ax, mx, cx, rfl, rx, ix⟩ := q11
                      have xx := rx.cell 0
                      have yx := rx.cell 1
                      simp only [List.getElem?_cons_zero, List.getElem?_cons_succ] at xx yx
                      have C := bits_int _ _ _ ix BQ
                      go_wp2_with (go_at_call 21; with_reducible refine C.mono ?_; rintro e w3 ⟨hb3, k, rfl, hk, hkl⟩)
                      go_meet
                      have hk2 : BitsIs k (N / T) := hk
                      exact ⟨⟨k, rfl, hk2, hkl⟩, rfl, hb3⟩
                    case rest =>
                      obtain ⟨⟨left, rfl, hleft, lleft⟩, rfl, hbn⟩ := hcut
                      replace q2 := q2.below hbn
                      replace q5 := q5.below hbn
                      replace q7 := q7.below hbn
                      replace q8 := q8.below hbn
                      replace q9 := q9.below hbn
                      replace q11 := q11.below hbn
                      replace hbe := hbe.trans (hbn.mono hbe.size)
                      clear hbn
                      generalize wc = wX11 at *
                      have hmul := fun h => bitsIs_mul (s := n) hhad (by rw [HE.out.2.2.2.2.2.1]; exact hmore) h
                      have hdiv := bitsIs_div (s := n) hhad (by rw [HE.out.2.2.2.2.2.1]; exact hleft)
                      clear hhad hmore hleft BN BT BU BQ n60
                      have BI : (had : Int) ≤ 9600 := by omega
                      have hmx : max (0 : Int) ((had : Int) - (n : Int)) = (left : Int) := by omega
                      have hwn : IntKind.i64.wrap (n : Int) = (n : Int) := by rw [IntKind.wrap_i64]; omega
                      obtain ⟨n2, a2, m2, c2, r2, i2⟩ := q2.at
                      obtain ⟨b8, n8, a8, m8, c8, rfl, r8, i8⟩ := q8
                      obtain ⟨b9, n9, a9, m9, c9, rfl, r9, i9⟩ := q9
                      obtain rfl : m9 = 0 := (isInt_zero i9).2 rfl
                      have hz2 := isInt_zero i2
                      clear q5 q7 q11 i9 hdiv HE hTz hT0
                      by_cases hN : N = 0
                      · obtain rfl : m2 = 0 := hz2.2 (by omega)
                        clear hmul hz2 lmore
                        go_wp2_with (first
                          | (go_at_call 16; with_reducible refine (sane_any _ (hT.below hbe)).mono ?_; rintro e w0 ⟨H0, rfl⟩; have x8 := (r8.below H0).cell 0; have y8 := (r8.below H0).cell 1; have x2 := (r2.below H0).cell 0; have y2 := (r2.below H0).cell 1; simp only [List.getElem?_cons_zero, List.getElem?_cons_succ] at x8 y8 x2 y2)
                          | (go_at_call 25; with_reducible refine (rsame_eq _ _ _ _ (i8.below H0) (i2.below H0)).mono ?_; rintro e w1 ⟨hs0, rfl⟩; have H1 := H0.trans (hs0.mono H0.size); have y9 := (r9.below H1).cell 1; have z2 := (r2.below H1).cell 1; simp only [List.getElem?_cons_zero, List.getElem?_cons_succ] at y9 z2))
                        go_ret
                        exact ⟨hbe.trans (H1.mono hbe.size), rfl⟩
                      · have hm2 : ¬ m2 = 0 := fun h => hN (by have := hz2.1 h; omega)
                        obtain rfl : more = had + n := hmul hN
                        clear hmul hz2 lmore
                        go_wp2_with (first
                          | (go_at_call 16; with_reducible refine (sane_any _ (hT.below hbe)).mono ?_; rintro e w0 ⟨H0, rfl⟩; have x8 := (r8.below H0).cell 0; have y8 := (r8.below H0).cell 1; have x2 := (r2.below H0).cell 0; have y2 := (r2.below H0).cell 1; simp only [List.getElem?_cons_zero, List.getElem?_cons_succ] at x8 y8 x2 y2)
                          | (go_at_call 25; with_reducible refine (rsame_eq _ _ _ _ (i8.below H0) (i2.below H0)).mono ?_; rintro e w1 ⟨hs0, rfl⟩; have H1 := H0.trans (hs0.mono H0.size); have y9 := (r9.below H1).cell 1; have z2 := (r2.below H1).cell 1; simp only [List.getElem?_cons_zero, List.getElem?_cons_succ] at y9 z2))
                        go_ret
                        exact ⟨hbe.trans (H1.mono hbe.size), rfl⟩

end Go.Proofs.YtifngjfhgehakaaDoor

/- zermelolaw01.NumShifts: the row and its card -/
namespace Go.Proofs.YtifngjfhgehakaaDoor
open Go.ChangeShapes Go.WideShapes Go.ChangeAt Go.RowKit Go.Joins

set_option maxRecDepth 100000 in
theorem shifts_lifted (os : Os) (started : os.Started) (H : Type) (enc : TypeId × Value → H) :
    ReturnsInHanded {} Tryd.checked os 11 .any (fun w args => (Rows.numShiftsSpec.pre enc Tryd.prog Tryd.f11 [] false w args ∧ laidMetH Tryd.prog theLaid w) ∧ sizedMet enc Tryd.prog Tryd.f11 (OpenSpec.ofChange Rows.numShiftsSpec) false w args)
      (Rows.numShiftsSpec.post enc Tryd.prog Tryd.f11 false true false false) := by
  refine returnsInHanded_of_change_and (C := Tryd.checked) (X := fun w _ => laidMetH Tryd.prog theLaid w) (fun _ _ _ hh h => h.of_heap hh) own started (by kernel_rfl) Tryd.func11
    (ChangeSpec.witness_shaped (enc := enc) (C := Tryd.checked) (os := os) (X := fun w _ => laidMetH Tryd.prog theLaid w) false (World.doorLaid Tryd.prog 400 os) #[.agg #[.bool false, .slice none 0 0], .int .u8 0] 8 rfl (World.shaped_of_RefB (by kernel_rfl) (by kernel_rfl)) (by kernel_rfl) (by kernel_rfl) (by kernel_rfl) (door_met os _)) ?_
  intro W base args ds gs before hval0 hW _ _ hL _
  have hval : ∀ (j : Nat) t v, Tryd.f11.params[j]? = some t → args[j]? = some v → Value.okWide Tryd.prog W .any base t v := hval0
  have hW' := hW
  obtain ⟨p, q, hA0, hV, rfl, hfz, hnd⟩ := hW
  have hA : DataW.TrodAll enc Tryd.prog W 0 (fun _ => true) true Tryd.f11.params.toList args.toList ds p := hA0
  rw [Tryd.params11] at hA hval
  obtain ⟨v0, vs0, d0, ds0, p0, q0, hargs, rfl, rfl, h0, r0⟩ := trodAll_cons hA
  obtain ⟨v1, vs1, d1, ds1, p1, q1, rfl, rfl, rfl, h1, r1⟩ := trodAll_cons r0
  obtain ⟨rfl, rfl, rfl⟩ := trodAll_nil r1
  obtain rfl : args = #[v0, v1] := by cases args; simp_all
  obtain ⟨rfl, rfl⟩ := trodVars_none hV
  have lt0 : ∀ x ∈ p0, x.block < W.heap.size := by obtain ⟨m, hm⟩ := h0; exact DataW.trod_lt m _ _ _ hm
  obtain ⟨na, xa, ha⟩ := open_Int (hval 0 24 v0 rfl rfl) h0
  obtain ⟨n0, rfl, rfl, rfl, wn⟩ := open_int Tryd.underlying5 (hval 1 5 v1 rfl rfl) h1
  obtain ⟨hn1, hn2⟩ : 0 ≤ n0 ∧ n0 ≤ 255 := by
    have := wn
    simp only [Lit.wf, Bool.and_eq_true, decide_eq_true_eq] at this
    exact this
  obtain ⟨n, rfl⟩ := Int.eq_ofNat_of_zero_le hn1
  have hT := of_laid hL
  clear hA0 hval0
  refine (shifts_any v0 na xa n (by omega) W ha hT).mono fun e W' ⟨bel, he⟩ => ?_
  subst he
  exact ⟨_, rfl, _, _, _, [], _, [], hW', trodAll_mk1 (shut_bool Tryd.underlying4 _), (trodAll_cons_mk (Below.trod laidOut (by kernel_rfl) (of_decide_eq_true (by kernel_rfl)) h0 bel lt0) (trodAll_cons_mk (shut_int Tryd.underlying5 wn) trodAll_mk0)), rfl, bel.frame _, fun h => by cases h⟩

theorem shifts_holds : Rows.NumShiftsSaid :=
  OpenClaim.holds_of_wide 11 Tryd.f11 rfl rfl rfl rfl rfl rfl rfl ⟨rfl, rfl, rfl, rfl, rfl⟩ rfl rfl rfl rfl rfl (by kernel_rfl) Tryd.func11 (by kernel_rfl)
    (of_decide_eq_true (by kernel_rfl)) (by unfold Func.isWrapper; first | (rw [if_pos (by decide +kernel)]; kernel_rfl) | (rw [if_neg (by decide +kernel)]; exact ⟨rfl, rfl⟩))
    (fun os started H enc _ => shifts_lifted os started H enc)

theorem shifts_card : Rows.NumShiftsCardSaid :=
  Claim7.holds_tied_plain_at .later [] [.data] true (true, "42a77e95b8ef9269488dac3a8c52bae1cf7a75fc7fd94978f00f86de717d5f2d") true
    shifts_holds (fun _ h => by cases h) (by kernel_rfl) (fun _ h => by cases h) numShifts_row_tie rfl ⟨rfl, rfl⟩ (by kernel_rfl) rfl
    (fun f fn hf hfn => by
      obtain rfl : f = 11 := Option.some.inj ((show Tryd.prog.funcNamed "zermelo/zermelolaw01.NumShifts" = some 11 by kernel_rfl).symm.trans hf) |>.symm
      obtain rfl : fn = Tryd.f11 := (Option.some.inj (Tryd.func11.symm.trans hfn)).symm
      exact ⟨by kernel_rfl, fun j t ht => by
        rw [Tryd.params11] at ht
        have hm : t ∈ [24, 5] := by simpa using Array.mem_of_getElem? ht
        have hall : ([24, 5].all fun u => !Tryd.prog.wantsStandIn u) = true := by kernel_rfl
        exact (show Tryd.prog.wantsStandIn t = false by simpa using List.all_eq_true.1 hall t hm)⟩)
    (by kernel_rfl)
#print axioms shifts_card
end Go.Proofs.YtifngjfhgehakaaDoor
