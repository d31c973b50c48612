/- the examples of the chapter, call by call -/
import Derived.Test.YtlghjfpkfdnfoaaDoorNumMParseApi
import Derived.Deep.CutRange
import Derived.Test.YtlghjfpkfdnfoaaDoorNumMRing2
import Derived.Test.YtlghjfpkfdnfoaaDoorNumMAttempt
import Derived.Test.YtlghjfpkfdnfoaaDoorNumMFloored
namespace Go.Proofs.YtlghjfpkfdnfoaaDoor
open Go Go.RowKit Go.Shelf

theorem canon_one {x : Nat} (h0 : 0 < x) (hx : x < B32) : Canon [x] := by
  refine ⟨fun y hy => ?_, ?_⟩
  · simp only [List.mem_singleton] at hy
    subst hy
    exact hx
  · have := trimmed_snoc [] x (by omega)
    simpa using this
theorem val_one (x : Nat) : val [x] = x := by simp [val]
theorem IsInt.limb {w : World} {v : Value} {neg : Bool} {x : Nat} (h : IsInt w v (sgn neg x)) (h0 : 0 < x) (hx : x < B32) : IntAt w v neg [x] ∧ formedB neg [x] = true := by
  have hc := canon_one h0 hx
  obtain ⟨n, va, xs, rfl, hr, hcx, hn, hi⟩ := h
  rw [← val_one x] at hi
  obtain ⟨rfl, rfl⟩ := (sgn_inj hc hcx (by simp) hn).1 hi
  refine ⟨⟨va, rfl, hr, hc.1⟩, ?_⟩
  simp [formedB, hc.2]

theorem pow_at (a : Value) (w : World) (ha : IsInt w a 2) :
    Calls Tryd.prog 37 #[a, .int .i64 32] w fun e w' => Below w.heap.size w w' ∧ ∃ v, e = .returned (.tuple #[v, .int .i64 0]) ∧ IsInt w' v 4294967296 := by
  obtain ⟨hA, fA⟩ := IsInt.limb (neg := false) (x := 2) ha (by decide) (by decide)
  have hb : bitsOf [2] = 2 := by decide +kernel
  exact Pow_ok a [2] 32 79 times_79 (by omega) w hA fA (by omega) (by rw [hb]; decide) (by rw [hb]; decide) (by rw [val_one]; decide +kernel) (by rw [val_one]; decide +kernel)

theorem gcd_at (a b : Value) (w : World) (ha : IsInt w a 12) (hb : IsInt w b (-18)) :
    Calls Tryd.prog 41 #[a, b] w fun e w' => Below w.heap.size w w' ∧ ∃ g x y i j, e = .returned (.tuple #[g, x, y, .int .i64 0]) ∧ IsInt w' g 6 ∧ IsInt w' x i ∧ IsInt w' y j := by
  obtain ⟨hA, fA⟩ := IsInt.limb (neg := false) (x := 12) ha (by decide) (by decide)
  obtain ⟨hB, fB⟩ := IsInt.limb (neg := true) (x := 18) hb (by decide) (by decide)
  refine (Gcd_ok a b false true [12] [18] w hA hB fA fB 6 (fun _ _ => True) (fun W hW => ?_)).mono ?_
  · obtain ⟨va, rfl, hra, hla⟩ := hA
    obtain ⟨vb, rfl, hrb, hlb⟩ := hB
    refine (divisor_any 1 (by omega) (divUpTo_le divUpTo_one (by omega) (by omega)) (by omega) va vb false true [12] [18] W (hra.below hW) (hrb.below hW) (canon_one (by decide) (by decide)) (canon_one (by decide) (by decide)) (by simp) (by simp) rfl rfl).mono ?_
    rintro e W' ⟨hbe, g, x, y, i, j, rfl, h1, h2, h3, -⟩
    exact ⟨hbe, g, x, y, i, j, rfl, h1, h2, h3, trivial⟩
  · rintro e W ⟨hbe, g, x, y, i, j, rfl, h1, h2, h3, -⟩
    exact ⟨hbe, g, x, y, i, j, rfl, h1, h2, h3⟩

theorem text_at (a : Value) (w : World) (ha : IsInt w a 255) (hT : DigitsAt w) :
    Calls Tryd.prog 46 #[a, .int .i64 16] w fun e w' => Below w.heap.size w w' ∧ e = .returned (.tuple #[.string ⟨#[102, 102]⟩, .int .i64 0]) := by
  obtain ⟨hA, fA⟩ := IsInt.limb (neg := false) (x := 255) ha (by decide) (by decide)
  refine (Text_ok a false [255] 16 w hA fA (by omega) (by omega) hT).mono ?_
  rintro e W ⟨hbe, s, rfl, hs⟩
  refine ⟨hbe, ?_⟩
  have h1 : textOf false 16 (val [255]) = [102, 102] := by
    rw [val_one, textOf, if_neg (by decide), ← digits_eq (N := 2) (by decide) (by decide)]
    decide +kernel
  rw [h1] at hs
  have h2 : s = ⟨#[102, 102]⟩ := by
    apply bytes_ext
    generalize s.data.toList = l at hs
    obtain ⟨x, y, rfl⟩ : ∃ x y, l = [x, y] := by
      have hl := congrArg List.length hs
      rcases l with _ | ⟨x, _ | ⟨y, _ | ⟨z, t⟩⟩⟩
      · simp at hl
      · simp at hl
      · exact ⟨x, y, rfl⟩
      · simp at hl
    simp only [List.map_cons, List.map_nil, List.cons.injEq, and_true] at hs
    obtain ⟨hx, hy⟩ := hs
    obtain rfl : x = 102 := UInt8.toNat_inj.1 hx
    obtain rfl : y = 102 := UInt8.toNat_inj.1 hy
    rfl
  rw [h2]

theorem parse_at (w : World) :
    Calls Tryd.prog 48 #[.string ⟨#[45, 48, 65]⟩, .int .i64 16] w fun e w' => Below w.heap.size w w' ∧ ∃ v, e = .returned (.tuple #[v, .int .i64 0]) ∧ IsInt w' v (-10) :=
  Parse_ok ⟨#[45, 48, 65]⟩ 16 w (by omega) (by omega) true [48, 65] rfl (by simp) (by simp) (by decide) (by decide +kernel)

theorem root_at (a : Value) (w : World) (ha : IsInt w a (-27)) :
    Calls Tryd.prog 38 #[a, .int .i64 3] w fun e w' => Below w.heap.size w w' ∧ ∃ v, e = .returned (.tuple #[v, .int .i64 0]) ∧ IsInt w' v (-3) := by
  obtain ⟨hA, fA⟩ := IsInt.limb (neg := true) (x := 27) ha (by decide) (by decide)
  refine Root_ok a true [27] 2 w hA fA (by omega) (.inr (by decide)) (-3) (fun W hW => ?_)
  obtain ⟨va, rfl, hra, hla⟩ := hA
  exact floorRoot_exact 1 1 2 (timesUpTo_le times_79 (by omega)) (divUpTo_le divUpTo_one (by omega) (by omega)) (by omega) (by omega) (by omega) (by omega) va [27] 3 W (hra.below hW) (canon_one (by decide) (by decide)) (by simp) (by rw [val_one]; decide) (by rw [val_one])

theorem root_none_at (a : Value) (w : World) (ha : IsInt w a (-1)) :
    Calls Tryd.prog 38 #[a, .int .i64 2] w fun e w' => Below w.heap.size w w' ∧ e = .returned (.tuple #[zeroInt, .int .i64 5]) := by
  obtain ⟨hA, fA⟩ := IsInt.limb (neg := true) (x := 1) ha (by decide) (by decide)
  exact Root_none a [1] 2 w hA fA (by omega) (by omega) (by decide)

theorem div_at (a b : Value) (w : World) (ha : IsInt w a (-7)) (hb : IsInt w b 2) :
    Calls Tryd.prog 35 #[a, b] w fun e w' => Below w.heap.size w w' ∧ ∃ q r, e = .returned (.tuple #[q, r, .int .i64 0]) ∧ IsInt w' q (-4) ∧ IsInt w' r 1 :=
  Div_ok a b (-7) 2 1 1 (divUpTo_le divUpTo_one (by omega) (by omega)) w ha hb (by decide +kernel) (by decide +kernel) (by decide) (by decide) (by decide)

end Go.Proofs.YtlghjfpkfdnfoaaDoor

/- zermelolaw01.sane -/
namespace Go.Proofs.YtlghjfpkfdnfoaaDoor
open Go Go.RowKit Go.Shelf

/-- a variable that holds an integer -/
def BoxI (W : World) (v : Value) (i : Int) : Prop := ∃ b n a m c, v = .pointer (some ⟨b, 0, none⟩) ∧ RowAt W b 24 [.bool n, .slice a m c] ∧ IsInt W (.agg #[.bool n, .slice a m c]) i
theorem BoxI.below {W W' : World} {v : Value} {i : Int} (h : BoxI W v i) (hb : Below W.heap.size W W') : BoxI W' v i := by
  obtain ⟨b, n, a, m, c, rfl, hr, hi⟩ := h
  exact ⟨b, n, a, m, c, rfl, hr.below hb, hi.below hb⟩
theorem BoxI.new {W : World} {n : Bool} {a : Option Addr} {m c : Nat} {i : Int} (h : IsInt W (.agg #[.bool n, .slice a m c]) i) : BoxI (W.alloc (.cells #[.bool n, .slice a m c] 24)) (.pointer (some ⟨W.heap.size, 0, none⟩)) i :=
  ⟨_, n, a, m, c, rfl, RowAt.new W 24 [.bool n, .slice a m c], h.below ((Below.refl _ _).alloc (Nat.le_refl _) _)⟩
theorem BoxI.alloc {W : World} {v : Value} {i : Int} (h : BoxI W v i) (o : Obj) : BoxI (W.alloc o) v i := h.below ((Below.refl _ _).alloc (Nat.le_refl _) _)

theorem rsame_eq (va vb : Value) (i : Int) (w : World) (ha : IsInt w va i) (hb : IsInt w vb i) :
    Calls Tryd.prog 25 #[va, vb] w fun e w' => Below w.heap.size w w' ∧ e = .returned (.bool true) :=
  (rsame_int va vb i i w ha hb).mono fun _ _ ⟨h1, h2⟩ => ⟨h1, by rw [h2]; simp⟩
/-- the variables of sane that hold integers -/
structure SaneL (w w1 : World) (b1 : Nat) (n1 : Bool) (a1 : Option Addr) (m1 c1 : Nat) (b2 : Nat) (n2 : Bool) (a2 : Option Addr) (m2 c2 : Nat) (b4 : Nat) (n4 : Bool) (a4 : Option Addr) (m4 c4 : Nat) (b6 : Nat) (n6 : Bool) (a6 : Option Addr) (m6 c6 : Nat) (b12 : Nat) (n12 : Bool) (a12 : Option Addr) (m12 c12 : Nat) (b14 : Nat) (n14 : Bool) (a14 : Option Addr) (m14 c14 : Nat) (X : World) : Prop where
  r1 : RowAt X b1 24 [.bool n1, .slice a1 m1 c1]
  r2 : RowAt X b2 24 [.bool n2, .slice a2 m2 c2]
  r4 : RowAt X b4 24 [.bool n4, .slice a4 m4 c4]
  r6 : RowAt X b6 24 [.bool n6, .slice a6 m6 c6]
  r12 : RowAt X b12 24 [.bool n12, .slice a12 m12 c12]
  r14 : RowAt X b14 24 [.bool n14, .slice a14 m14 c14]
  below : Below w.heap.size w X
  keep : ∀ v xs, Reads .u32 w1 v xs → Reads .u32 X v xs
@[reducible] def SaneC (w w1 : World) (b1 : Nat) (n1 : Bool) (a1 : Option Addr) (m1 c1 : Nat) (b2 : Nat) (n2 : Bool) (a2 : Option Addr) (m2 c2 : Nat) (b4 : Nat) (n4 : Bool) (a4 : Option Addr) (m4 c4 : Nat) (b6 : Nat) (n6 : Bool) (a6 : Option Addr) (m6 c6 : Nat) (b12 : Nat) (n12 : Bool) (a12 : Option Addr) (m12 c12 : Nat) (b14 : Nat) (n14 : Bool) (a14 : Option Addr) (m14 c14 : Nat) (X : World) : Prop :=
  X.cell? ⟨b1, 0, none⟩ = some (.bool n1) ∧ X.cell? ⟨b1, 1, none⟩ = some (.slice a1 m1 c1) ∧ X.cell? ⟨b2, 0, none⟩ = some (.bool n2) ∧ X.cell? ⟨b2, 1, none⟩ = some (.slice a2 m2 c2) ∧ X.cell? ⟨b4, 0, none⟩ = some (.bool n4) ∧ X.cell? ⟨b4, 1, none⟩ = some (.slice a4 m4 c4) ∧ X.cell? ⟨b6, 0, none⟩ = some (.bool n6) ∧ X.cell? ⟨b6, 1, none⟩ = some (.slice a6 m6 c6) ∧ X.cell? ⟨b12, 0, none⟩ = some (.bool n12) ∧ X.cell? ⟨b12, 1, none⟩ = some (.slice a12 m12 c12) ∧ X.cell? ⟨b14, 0, none⟩ = some (.bool n14) ∧ X.cell? ⟨b14, 1, none⟩ = some (.slice a14 m14 c14) ∧ SaneL w w1 b1 n1 a1 m1 c1 b2 n2 a2 m2 c2 b4 n4 a4 m4 c4 b6 n6 a6 m6 c6 b12 n12 a12 m12 c12 b14 n14 a14 m14 c14 X
section
variable {w w1 X : World} {b1 : Nat} {n1 : Bool} {a1 : Option Addr} {m1 c1 : Nat} {b2 : Nat} {n2 : Bool} {a2 : Option Addr} {m2 c2 : Nat} {b4 : Nat} {n4 : Bool} {a4 : Option Addr} {m4 c4 : Nat} {b6 : Nat} {n6 : Bool} {a6 : Option Addr} {m6 c6 : Nat} {b12 : Nat} {n12 : Bool} {a12 : Option Addr} {m12 c12 : Nat} {b14 : Nat} {n14 : Bool} {a14 : Option Addr} {m14 c14 : Nat}
theorem sl_of (h : SaneL w w1 b1 n1 a1 m1 c1 b2 n2 a2 m2 c2 b4 n4 a4 m4 c4 b6 n6 a6 m6 c6 b12 n12 a12 m12 c12 b14 n14 a14 m14 c14 X) : SaneC w w1 b1 n1 a1 m1 c1 b2 n2 a2 m2 c2 b4 n4 a4 m4 c4 b6 n6 a6 m6 c6 b12 n12 a12 m12 c12 b14 n14 a14 m14 c14 X := ⟨h.r1.cell 0, h.r1.cell 1, h.r2.cell 0, h.r2.cell 1, h.r4.cell 0, h.r4.cell 1, h.r6.cell 0, h.r6.cell 1, h.r12.cell 0, h.r12.cell 1, h.r14.cell 0, h.r14.cell 1, h⟩
theorem sl_step {X' : World} (h : SaneL w w1 b1 n1 a1 m1 c1 b2 n2 a2 m2 c2 b4 n4 a4 m4 c4 b6 n6 a6 m6 c6 b12 n12 a12 m12 c12 b14 n14 a14 m14 c14 X) (hb : Below X.heap.size X X') : SaneL w w1 b1 n1 a1 m1 c1 b2 n2 a2 m2 c2 b4 n4 a4 m4 c4 b6 n6 a6 m6 c6 b12 n12 a12 m12 c12 b14 n14 a14 m14 c14 X' := ⟨h.r1.below hb, h.r2.below hb, h.r4.below hb, h.r6.below hb, h.r12.below hb, h.r14.below hb, h.below.trans (hb.mono h.below.size), fun v xs hv => (h.keep v xs hv).below hb⟩
theorem sl_drew (h : SaneL w w1 b1 n1 a1 m1 c1 b2 n2 a2 m2 c2 b4 n4 a4 m4 c4 b6 n6 a6 m6 c6 b12 n12 a12 m12 c12 b14 n14 a14 m14 c14 X) : SaneC w w1 b1 n1 a1 m1 c1 b2 n2 a2 m2 c2 b4 n4 a4 m4 c4 b6 n6 a6 m6 c6 b12 n12 a12 m12 c12 b14 n14 a14 m14 c14 X.drew := sl_of ⟨h.r1, h.r2, h.r4, h.r6, h.r12, h.r14, h.below.drew, h.keep⟩
end

set_option maxHeartbeats 4000000 in
set_option maxRecDepth 100000 in
theorem sane_any (w : World) (hT : DigitsAt w) :
    Calls Tryd.prog 16 #[] w fun e w' => Below w.heap.size w w' ∧ e = .returned (.bool true) := by
  have tok1 : True := trivial
  have tok2 : True := trivial
  go_enter Tryd.func16, Tryd.ntmps16
  go_upto_region 1 with (fail)
  go_cut [1, 2, 3] from 18 to 24 (fun v1 v2 v3 W => BoxI W v1 (-4) ∧ BoxI W v2 1 ∧ v3 = .int .i64 0 ∧ Below w.heap.size w W)
  case first =>
    go_wp2_with (first
      | (go_at_call 27; have _t := tok1; refine (rof_int (-7) _ (by decide) (by decide)).mono ?_; rintro e w1 ⟨hb1, u1, rfl, h1⟩; clear tok1 _t)
      | (go_at_call 27; refine (rof_int 2 _ (by decide) (by decide)).mono ?_; rintro e w2 ⟨hb2, u2, rfl, h2⟩)
      | (go_at_call 35; refine (div_at _ _ _ (h1.below hb2) h2).mono ?_; rintro e w3 ⟨hb3, u3, u4, rfl, h3, h4⟩; obtain ⟨n3, s3, m3, c3, rfl⟩ := h3.shape; obtain ⟨n4, s4, m4, c4, rfl⟩ := h4.shape))
    go_meet
    exact ⟨(BoxI.new h3).alloc _, by have hx := BoxI.new (h4.below ((Below.refl w3.heap.size w3).alloc (Nat.le_refl _) (.cells #[.bool n3, .slice s3 m3 c3] 24))); simpa only [World.size_alloc] using hx, rfl, (((hb1.trans (hb2.mono hb1.size)).trans (hb3.mono (hb1.trans (hb2.mono hb1.size)).size)).alloc (by have := hb1.size; have := hb2.size; have := hb3.size; omega) _).alloc (by have := hb1.size; have := hb2.size; have := hb3.size; simp; omega) _⟩
  case rest =>
    obtain ⟨q1, q2, rfl, hbe⟩ := hcut
    clear tok1
    generalize wc = wX2 at *
    have hTc : DigitsAt wX2 := hT.below hbe
    go_upto_region 2 with (fail)
    go_cut [4, 5] from 25 to 29 (fun v4 v5 W => BoxI W v4 4294967296 ∧ v5 = .int .i64 0 ∧ Below wX2.heap.size wX2 W)
    case first =>
      go_wp2_with (first
        | (go_at_call 27; refine (rof_int (2) _ (by decide) (by decide)).mono ?_; rintro e w1 ⟨hb1, u1, rfl, h1⟩)
        | (go_at_call 37; refine (pow_at _ _ h1).mono ?_; rintro e w3 ⟨hb3, u3, rfl, h3⟩; obtain ⟨n3, s3, m3, c3, rfl⟩ := h3.shape))
      go_meet
      exact ⟨BoxI.new h3, rfl, ((hb1.trans (hb3.mono hb1.size))).alloc (by have := hb1.size; have := hb3.size; omega) _⟩
    case rest =>
      obtain ⟨q4, rfl, hbn⟩ := hcut
      replace q1 := q1.below hbn
      replace q2 := q2.below hbn
      replace hbe := hbe.trans (hbn.mono hbe.size)
      clear hbn hTc
      generalize wc = wX3 at *
      have hTc : DigitsAt wX3 := hT.below hbe
      go_upto_region 3 with (fail)
      go_cut [6, 9] from 30 to 37 (fun v6 v9 W => BoxI W v6 6 ∧ v9 = .int .i64 0 ∧ Below wX3.heap.size wX3 W)
      case first =>
        go_wp2_with (first
          | (go_at_call 27; have _t := tok2; refine (rof_int (12) _ (by decide) (by decide)).mono ?_; rintro e w1 ⟨hb1, u1, rfl, h1⟩; clear tok2 _t)
          | (go_at_call 27; refine (rof_int (-18) _ (by decide) (by decide)).mono ?_; rintro e w2 ⟨hb2, u2, rfl, h2⟩)
          | (go_at_call 41; refine (gcd_at _ _ _ (h1.below hb2) h2).mono ?_; rintro e w3 ⟨hb3, u3, u4, u5, i, j, rfl, h3, h4, h5⟩; obtain ⟨n3, s3, m3, c3, rfl⟩ := h3.shape; obtain ⟨n4, s4, m4, c4, rfl⟩ := h4.shape; obtain ⟨n5, s5, m5, c5, rfl⟩ := h5.shape))
        go_meet
        exact ⟨((BoxI.new h3).alloc _).alloc _, rfl, (((((hb1.trans (hb2.mono hb1.size)).trans (hb3.mono (hb1.trans (hb2.mono hb1.size)).size))).alloc (by have := hb1.size; have := hb2.size; have := hb3.size; omega) _).alloc (by have := hb1.size; have := hb2.size; have := hb3.size; simp; omega) _).alloc (by have := hb1.size; have := hb2.size; have := hb3.size; simp; omega) _⟩
      case rest =>
        obtain ⟨q6, rfl, hbn⟩ := hcut
        replace q1 := q1.below hbn
        replace q2 := q2.below hbn
        replace q4 := q4.below hbn
        replace hbe := hbe.trans (hbn.mono hbe.size)
        clear hbn hTc tok2
        generalize wc = wX4 at *
        have hTc : DigitsAt wX4 := hT.below hbe
        go_upto_region 4 with (fail)
        go_cut [10, 11] from 38 to 42 (fun v10 v11 W => v10 = .string ⟨#[102, 102]⟩ ∧ v11 = .int .i64 0 ∧ Below wX4.heap.size wX4 W)
        case first =>
          go_wp2_with (first
            | (go_at_call 27; refine (rof_int (255) _ (by decide) (by decide)).mono ?_; rintro e w1 ⟨hb1, u1, rfl, h1⟩)
            | (go_at_call 46; refine (text_at _ _ h1 (hTc.below hb1)).mono ?_; rintro e w3 ⟨hb3, rfl⟩))
          go_meet
          exact ⟨rfl, rfl, (hb1.trans (hb3.mono hb1.size))⟩
        case rest =>
          obtain ⟨rfl, rfl, hbn⟩ := hcut
          replace q1 := q1.below hbn
          replace q2 := q2.below hbn
          replace q4 := q4.below hbn
          replace q6 := q6.below hbn
          replace hbe := hbe.trans (hbn.mono hbe.size)
          clear hbn hTc
          generalize wc = wX5 at *
          have hTc : DigitsAt wX5 := hT.below hbe
          go_upto_region 5 with (fail)
          go_cut [12, 13] from 43 to 46 (fun v12 v13 W => BoxI W v12 (-10) ∧ v13 = .int .i64 0 ∧ Below wX5.heap.size wX5 W)
          case first =>
            go_wp2_with (first
              | (go_at_call 48; refine (parse_at _).mono ?_; rintro e w3 ⟨hb3, u3, rfl, h3⟩; obtain ⟨n3, s3, m3, c3, rfl⟩ := h3.shape))
            go_meet
            exact ⟨BoxI.new h3, rfl, hb3.alloc hb3.size _⟩
          case rest =>
            obtain ⟨q12, rfl, hbn⟩ := hcut
            replace q1 := q1.below hbn
            replace q2 := q2.below hbn
            replace q4 := q4.below hbn
            replace q6 := q6.below hbn
            replace hbe := hbe.trans (hbn.mono hbe.size)
            clear hbn hTc
            generalize wc = wX6 at *
            have hTc : DigitsAt wX6 := hT.below hbe
            go_upto_region 6 with (fail)
            go_cut [14, 15] from 47 to 51 (fun v14 v15 W => BoxI W v14 (-3) ∧ v15 = .int .i64 0 ∧ Below wX6.heap.size wX6 W)
            case first =>
              go_wp2_with (first
                | (go_at_call 27; refine (rof_int (-27) _ (by decide) (by decide)).mono ?_; rintro e w1 ⟨hb1, u1, rfl, h1⟩)
                | (go_at_call 38; refine (root_at _ _ h1).mono ?_; rintro e w3 ⟨hb3, u3, rfl, h3⟩; obtain ⟨n3, s3, m3, c3, rfl⟩ := h3.shape))
              go_meet
              exact ⟨BoxI.new h3, rfl, ((hb1.trans (hb3.mono hb1.size))).alloc (by have := hb1.size; have := hb3.size; omega) _⟩
            case rest =>
              obtain ⟨q14, rfl, hbn⟩ := hcut
              replace q1 := q1.below hbn
              replace q2 := q2.below hbn
              replace q4 := q4.below hbn
              replace q6 := q6.below hbn
              replace q12 := q12.below hbn
              replace hbe := hbe.trans (hbn.mono hbe.size)
              clear hbn hTc
              generalize wc = wX7 at *
              have hTc : DigitsAt wX7 := hT.below hbe
              go_upto_region 7 with (fail)
              go_cut [17] from 52 to 56 (fun v17 W => v17 = .int .i64 5 ∧ Below wX7.heap.size wX7 W)
              case first =>
                go_wp2_with (first
                  | (go_at_call 27; refine (rof_int (-1) _ (by decide) (by decide)).mono ?_; rintro e w1 ⟨hb1, u1, rfl, h1⟩)
                  | (go_at_call 38; refine (root_none_at _ _ h1).mono ?_; unfold zeroInt; rintro e w3 ⟨hb3, rfl⟩))
                go_meet
                exact ⟨rfl, ((hb1.trans (hb3.mono hb1.size))).alloc (by have := hb1.size; have := hb3.size; omega) _⟩
              case rest =>
                obtain ⟨rfl, hbn⟩ := hcut
                replace q1 := q1.below hbn
                replace q2 := q2.below hbn
                replace q4 := q4.below hbn
                replace q6 := q6.below hbn
                replace q12 := q12.below hbn
                replace q14 := q14.below hbn
                replace hbe := hbe.trans (hbn.mono hbe.size)
                clear hbn hTc
                go_upto_region 10 with (fail)
                obtain ⟨b1, n1, a1, m1, c1, rfl, r1, j1⟩ := q1
                obtain ⟨b2, n2, a2, m2, c2, rfl, r2, j2⟩ := q2
                obtain ⟨b4, n4, a4, m4, c4, rfl, r4, j4⟩ := q4
                obtain ⟨b6, n6, a6, m6, c6, rfl, r6, j6⟩ := q6
                obtain ⟨b12, n12, a12, m12, c12, rfl, r12, j12⟩ := q12
                obtain ⟨b14, n14, a14, m14, c14, rfl, r14, j14⟩ := q14
                have hL : SaneL w wc b1 n1 a1 m1 c1 b2 n2 a2 m2 c2 b4 n4 a4 m4 c4 b6 n6 a6 m6 c6 b12 n12 a12 m12 c12 b14 n14 a14 m14 c14 wc := ⟨r1, r2, r4, r6, r12, r14, hbe, fun _ _ h => h⟩
                have hD := Lib.hid (sl_drew hL)
                obtain ⟨d1, d2, d3, d4, d5, d6, d7, d8, d9, d10, d11, d12, -⟩ := sl_of hL
                have k1 : True := trivial
                have k2 : True := trivial
                have k3 : True := trivial
                have k4 : True := trivial
                have k5 : True := trivial
                have k6 : True := trivial
                clear hL r1 r2 r4 r6 r12 r14
                go_region_held3 (fun X => X.cell? ⟨b1, 0, none⟩ = some (.bool n1) ∧ X.cell? ⟨b1, 1, none⟩ = some (.slice a1 m1 c1) ∧ X.cell? ⟨b2, 0, none⟩ = some (.bool n2) ∧ X.cell? ⟨b2, 1, none⟩ = some (.slice a2 m2 c2) ∧ X.cell? ⟨b4, 0, none⟩ = some (.bool n4) ∧ X.cell? ⟨b4, 1, none⟩ = some (.slice a4 m4 c4) ∧ X.cell? ⟨b6, 0, none⟩ = some (.bool n6) ∧ X.cell? ⟨b6, 1, none⟩ = some (.slice a6 m6 c6) ∧ X.cell? ⟨b12, 0, none⟩ = some (.bool n12) ∧ X.cell? ⟨b12, 1, none⟩ = some (.slice a12 m12 c12) ∧ X.cell? ⟨b14, 0, none⟩ = some (.bool n14) ∧ X.cell? ⟨b14, 1, none⟩ = some (.slice a14 m14 c14) ∧ SaneL w wc b1 n1 a1 m1 c1 b2 n2 a2 m2 c2 b4 n4 a4 m4 c4 b6 n6 a6 m6 c6 b12 n12 a12 m12 c12 b14 n14 a14 m14 c14 X)
                  (first | exact hD.out | (go_split_ands; exact sl_of (sl_step (by assumption) hbc)))
                  (first
                    | (go_at_call 27; go_split_ands; refine (rof_int _ _ (by decide) (by decide)).mono ?_; rintro e wk ⟨hbc, uk, rfl, hof⟩; obtain ⟨nk, sk, mk, ck, rfl⟩ := hof.shape)
                    | (go_at_call 26; go_split_ands; refine (of_int _ _ (by decide) (by decide)).mono ?_; rintro e wl ⟨hbc, ul, rfl, hno⟩; obtain ⟨nl, sl, ml, cl, rfl⟩ := hno.shape)
                    | (go_at_call 25; have _t := k1; go_split_ands; refine (rsame_eq _ _ _ _ (j1.keep (SaneL.keep (by assumption))) hof).mono ?_; rintro e wk ⟨hbc, rfl⟩; clear k1 _t hof)
                    | (go_at_call 25; have _t := k2; go_split_ands; refine (rsame_eq _ _ _ _ (j2.keep (SaneL.keep (by assumption))) hof).mono ?_; rintro e wk ⟨hbc, rfl⟩; clear k2 _t hof)
                    | (go_at_call 25; have _t := k3; go_split_ands; refine (rsame_eq _ _ _ _ (j4.keep (SaneL.keep (by assumption))) hof).mono ?_; rintro e wk ⟨hbc, rfl⟩; clear k3 _t hof)
                    | (go_at_call 25; have _t := k4; go_split_ands; refine (rsame_eq _ _ _ _ (j6.keep (SaneL.keep (by assumption))) hof).mono ?_; rintro e wk ⟨hbc, rfl⟩; clear k4 _t hof)
                    | (go_at_call 25; have _t := k5; go_split_ands; refine (rsame_eq _ _ _ _ (j12.keep (SaneL.keep (by assumption))) hof).mono ?_; rintro e wk ⟨hbc, rfl⟩; clear k5 _t hof)
                    | (go_at_call 25; have _t := k6; go_split_ands; refine (rsame_eq _ _ _ _ (j14.keep (SaneL.keep (by assumption))) hof).mono ?_; rintro e wk ⟨hbc, rfl⟩; clear k6 _t hof)
                    | (go_at_call 25; go_split_ands; refine (rsame_eq _ _ (-5) _ (by first | with_reducible exact hno | with_reducible exact hno.below hbc) (by first | with_reducible exact hof | with_reducible exact hof.below hbc)).mono ?_; rintro e wk ⟨hbc, rfl⟩))
                rename_i hTT
                obtain ⟨-, -, -, -, -, -, -, -, -, -, -, -, hTf⟩ := hTT
                go_wp2
                go_ret
                exact ⟨hTf.below, rfl⟩

end Go.Proofs.YtlghjfpkfdnfoaaDoor

/- zermelolaw01.formed -/
namespace Go.Proofs.YtlghjfpkfdnfoaaDoor
open Go Go.RowKit Go.Shelf

/-- integers in a row: sign, slice, limbs -/
abbrev Item := Bool × Value × List Nat
def rowCells (l : List Item) : List Value := l.flatMap fun it => [.bool it.1, it.2.1]
theorem rowCells_at (l : List Item) (k : Nat) (it : Item) (h : l[k]? = some it) : (rowCells l)[k * 2]? = some (.bool it.1) ∧ (rowCells l)[k * 2 + 1]? = some it.2.1 := by
  induction l generalizing k with
  | nil => simp at h
  | cons x l ih =>
    cases k with
    | zero =>
      simp at h
      subst h
      simp [rowCells]
    | succ k =>
      have := ih k (by simpa using h)
      simp only [rowCells, List.flatMap_cons] at this ⊢
      rw [show (k + 1) * 2 = k * 2 + 1 + 1 by omega]
      simpa using this
/-- what the law asks of each -/
def fitB (most : Int) (it : Item) : Bool := formedB it.1 it.2.2 && decide ((it.2.2.length : Int) ≤ most)

set_option maxHeartbeats 2000000 in
set_option maxRecDepth 100000 in
theorem formed_list (l : List Item) (most : Int) (b : Nat) (w : World) (hrow : RowAt w b 24 (rowCells l)) (hl : l.length ≤ 1000) (hr : ∀ it ∈ l, Reads .u32 w it.2.1 it.2.2 ∧ Limbs it.2.2) :
    Calls Tryd.prog 50 #[.int .i64 most, .slice (some ⟨b, 0, none⟩) l.length l.length] w fun e w' => Below w.heap.size w w' ∧ e = .returned (.bool (l.all (fitB most))) := by
  obtain ⟨n, hn⟩ : ∃ n, l.length = n := ⟨_, rfl⟩
  rw [hn] at hl ⊢
  have HN := Lib.hid hn
  clear hn
  go_enter Tryd.func50, Tryd.ntmps50
  go_wp2
  go_loopw [9] (fun i W => ∃ k : Nat, k ≤ n ∧ i = .int .i64 k ∧ (l.take k).all (fitB most) = true ∧ Below w.heap.size w W) (fun i _ => n - (intOf i).toNat)
  case atStart => exact ⟨0, Nat.zero_le _, rfl, rfl, Below.refl _ _⟩
  case round =>
    obtain ⟨k, hk, rfl, hall, hbe⟩ := hrel
    by_cases hlt : k < n
    · have hkl : k < l.length := by have := HN.out; omega
      obtain ⟨it, hit⟩ : ∃ it, l[k]? = some it := ⟨_, List.getElem?_eq_getElem hkl⟩
      have hmem : it ∈ l := List.mem_of_getElem? hit
      obtain ⟨hrd, hlm⟩ := hr it hmem
      obtain ⟨neg, v, xs⟩ := it
      change Reads .u32 w v xs at hrd
      change Limbs xs at hlm
      obtain ⟨a, c, rfl, hc, hm⟩ := hrd.form
      unfold maxLen at hm
      obtain ⟨g1, g2⟩ := rowCells_at l k _ hit
      have hrw := hrow.below hbe
      have c1 := hrw.cell (k * 2)
      have c2 := hrw.cell (k * 2 + 1)
      rw [g1] at c1
      rw [g2] at c2
      have hix := fun W => index_ints b n k hlt W
      have htk : l.take (k + 1) = l.take k ++ [(neg, Value.slice a xs.length c, xs)] := by
        rw [List.take_succ_eq_append_getElem hkl]
        rw [List.getElem?_eq_getElem hkl] at hit
        rw [Option.some.inj hit]
      have hsz := hbe.size
      have hb1 : Below w.heap.size w (wr.alloc (.cells #[.bool neg, .slice a xs.length c] 24)) := hbe.alloc hsz _
      have hrf := rformed_any (.agg #[.bool neg, .slice a xs.length c]) neg xs (wr.alloc (.cells #[.bool neg, .slice a xs.length c] 24)) ⟨_, rfl, hrd.below hb1, hlm⟩
      have rr := RowAt.new wr 24 [.bool neg, .slice a xs.length c]
      have HL := Lib.hid (And.intro hall (And.intro htk hit))
      clear hall htk hit g1 g2
      cases hfb : formedB neg xs with
      | false =>
        rw [hfb] at hrf
        have hfalse : l.all (fitB most) = false := by
          rw [List.all_eq_false]
          exact ⟨_, hmem, by simp [fitB, hfb]⟩
        have HF := Lib.hid hfalse
        clear hfalse
        go_wp2_with (go_at_call 19; refine hrf.mono ?_; rintro e w2 ⟨hbe2, rfl⟩)
        go_ret
        exact ⟨hb1.trans (hbe2.mono hb1.size), by rw [HF.out]; rfl⟩
      | true =>
        rw [hfb] at hrf
        by_cases hmo : (xs.length : Int) ≤ most
        · have hd : decide (most < (xs.length : Int)) = false := by simp; omega
          go_wp2_with (go_at_call 19; refine hrf.mono ?_; rintro e w2 ⟨hbe2, rfl⟩; have rr2 := rr.below hbe2; have q2 := rr2.cell 1; simp only [List.getElem?_cons_zero, List.getElem?_cons_succ] at q2)
          refine ⟨⟨k + 1, by omega, by go_num, ?_, hb1.trans (hbe2.mono hb1.size)⟩, by simp [intOf]; omega⟩
          rw [HL.out.2.1, List.all_append, HL.out.1]
          simp [fitB, hfb, hmo]
        · have hd : decide (most < (xs.length : Int)) = true := by simp; omega
          have hfalse : l.all (fitB most) = false := by
            rw [List.all_eq_false]
            exact ⟨_, hmem, by simp [fitB, hmo]⟩
          have HF := Lib.hid hfalse
          clear hfalse
          go_wp2_with (go_at_call 19; refine hrf.mono ?_; rintro e w2 ⟨hbe2, rfl⟩; have rr2 := rr.below hbe2; have q2 := rr2.cell 1; simp only [List.getElem?_cons_zero, List.getElem?_cons_succ] at q2)
          go_ret
          exact ⟨hb1.trans (hbe2.mono hb1.size), by rw [HF.out]; rfl⟩
    · have htk : l.take k = l := List.take_of_length_le (by have := HN.out; omega)
      rw [htk] at hall
      have HA := Lib.hid hall
      clear hall
      go_wp2
      go_ret
      exact ⟨hbe, by rw [HA.out]; rfl⟩

end Go.Proofs.YtlghjfpkfdnfoaaDoor

/- what NumOrder calls, at values -/
namespace Go.Proofs.YtlghjfpkfdnfoaaDoor
open Go Go.RowKit Go.Shelf

set_option exponentiation.threshold 400 in
theorem compare_int (va vb : Value) (i j : Int) (w : World) (ha : IsInt w va i) (hb : IsInt w vb j) (hi : i.natAbs < B32 ^ 300) (hj : j.natAbs < B32 ^ 300) :
    Calls Tryd.prog 18 #[va, vb] w fun e w' => Below w.heap.size w w' ∧ e = .returned (.int .i64 (cmpI i j)) := by
  obtain ⟨na, xa, hA, fa, rfl, -, -⟩ := ha.at hi
  obtain ⟨nb, xb, hB, fb, rfl, -, -⟩ := hb.at hj
  have := Compare_any va vb na nb xa xb w hA hB
  rw [fa, fb] at this
  simpa using this

set_option exponentiation.threshold 400 in
theorem b32_up {n k : Nat} (h : n < B32 ^ k) (hk : k ≤ 300) : n < B32 ^ 300 := Nat.lt_of_lt_of_le h (Nat.pow_le_pow_right (by decide) hk)
theorem b32_add {i j : Int} (hi : i.natAbs < B32 ^ 100) (hj : j.natAbs < B32 ^ 100) : (i + j).natAbs < B32 ^ 101 := by
  have h1 : B32 ^ 101 = B32 ^ 100 * B32 := Nat.pow_succ ..
  have h2 : (2 : Nat) ≤ B32 := by decide
  have h3 : B32 ^ 100 * 2 ≤ B32 ^ 100 * B32 := Nat.mul_le_mul_left _ h2
  generalize B32 ^ 100 = P at *
  omega

theorem add_int (va vb : Value) (i j : Int) (w : World) (ha : IsInt w va i) (hb : IsInt w vb j) (hi : i.natAbs < B32 ^ 100) (hj : j.natAbs < B32 ^ 100) :
    Calls Tryd.prog 28 #[va, vb] w fun e w' => Below w.heap.size w w' ∧ ∃ v, e = .returned (.tuple #[v, .int .i64 0]) ∧ IsInt w' v (i + j) := by
  have hs := b32_up (b32_add hi hj) (by decide)
  obtain ⟨na, xa, hA, fa, rfl, -, -⟩ := ha.at (b32_up hi (by decide))
  obtain ⟨nb, xb, hB, fb, rfl, -, -⟩ := hb.at (b32_up hj (by decide))
  refine (Add_any va vb na nb xa xb w hA hB).mono ?_
  rintro e w2 ⟨h1, v, k, rfl, h2⟩
  unfold RingRes at h2
  rw [fa, fb, if_pos (by rfl), if_pos hs] at h2
  obtain ⟨rfl, h3⟩ := h2
  exact ⟨h1, v, rfl, h3⟩

/-- orders of three integers -/
theorem cmpI_cases (i j : Int) : (i < j ∧ cmpI i j = -1 ∧ cmpI j i = 1) ∨ (i = j ∧ cmpI i j = 0 ∧ cmpI j i = 0) ∨ (j < i ∧ cmpI i j = 1 ∧ cmpI j i = -1) := by
  unfold cmpI
  rcases Int.lt_trichotomy i j with h | h | h
  · have : ¬ j < i := by omega
    exact .inl ⟨h, by simp [h], by simp [h, this]⟩
  · subst h
    exact .inr (.inl ⟨rfl, by simp, by simp⟩)
  · have : ¬ i < j := by omega
    exact .inr (.inr ⟨h, by simp [h, this], by simp [h]⟩)
theorem cmpI_add (i j k : Int) : cmpI (i + k) (j + k) = cmpI i j := cmpI_congr (by omega) (by omega)

/-- the three variables of the law -/
structure OrdL (w w1 : World) (b1 : Nat) (n1 : Bool) (a1 : Option Addr) (m1 c1 : Nat) (b2 : Nat) (n2 : Bool) (a2 : Option Addr) (m2 c2 : Nat) (b3 : Nat) (n3 : Bool) (a3 : Option Addr) (m3 c3 : Nat) (X : World) : Prop where
  r1 : RowAt X b1 24 [.bool n1, .slice a1 m1 c1]
  r2 : RowAt X b2 24 [.bool n2, .slice a2 m2 c2]
  r3 : RowAt X b3 24 [.bool n3, .slice a3 m3 c3]
  below : Below w.heap.size w X
  keep : ∀ v xs, Reads .u32 w1 v xs → Reads .u32 X v xs
@[reducible] def OrdC (w w1 : World) (b1 : Nat) (n1 : Bool) (a1 : Option Addr) (m1 c1 : Nat) (b2 : Nat) (n2 : Bool) (a2 : Option Addr) (m2 c2 : Nat) (b3 : Nat) (n3 : Bool) (a3 : Option Addr) (m3 c3 : Nat) (X : World) : Prop :=
  X.cell? ⟨b1, 0, none⟩ = some (.bool n1) ∧ X.cell? ⟨b1, 1, none⟩ = some (.slice a1 m1 c1) ∧ X.cell? ⟨b2, 0, none⟩ = some (.bool n2) ∧ X.cell? ⟨b2, 1, none⟩ = some (.slice a2 m2 c2) ∧ X.cell? ⟨b3, 0, none⟩ = some (.bool n3) ∧ X.cell? ⟨b3, 1, none⟩ = some (.slice a3 m3 c3) ∧ OrdL w w1 b1 n1 a1 m1 c1 b2 n2 a2 m2 c2 b3 n3 a3 m3 c3 X
section
variable {w w1 X : World} {b1 : Nat} {n1 : Bool} {a1 : Option Addr} {m1 c1 : Nat} {b2 : Nat} {n2 : Bool} {a2 : Option Addr} {m2 c2 : Nat} {b3 : Nat} {n3 : Bool} {a3 : Option Addr} {m3 c3 : Nat}
theorem ol_of (h : OrdL w w1 b1 n1 a1 m1 c1 b2 n2 a2 m2 c2 b3 n3 a3 m3 c3 X) : OrdC w w1 b1 n1 a1 m1 c1 b2 n2 a2 m2 c2 b3 n3 a3 m3 c3 X := ⟨h.r1.cell 0, h.r1.cell 1, h.r2.cell 0, h.r2.cell 1, h.r3.cell 0, h.r3.cell 1, h⟩
theorem ol_step {X' : World} (h : OrdL w w1 b1 n1 a1 m1 c1 b2 n2 a2 m2 c2 b3 n3 a3 m3 c3 X) (hb : Below X.heap.size X X') : OrdL w w1 b1 n1 a1 m1 c1 b2 n2 a2 m2 c2 b3 n3 a3 m3 c3 X' := ⟨h.r1.below hb, h.r2.below hb, h.r3.below hb, h.below.trans (hb.mono h.below.size), fun v xs hv => (h.keep v xs hv).below hb⟩
theorem ol_drew (h : OrdL w w1 b1 n1 a1 m1 c1 b2 n2 a2 m2 c2 b3 n3 a3 m3 c3 X) : OrdC w w1 b1 n1 a1 m1 c1 b2 n2 a2 m2 c2 b3 n3 a3 m3 c3 X.drew := ol_of ⟨h.r1, h.r2, h.r3, h.below.drew, h.keep⟩
end
end Go.Proofs.YtlghjfpkfdnfoaaDoor

/- zermelolaw01.NumOrder -/
namespace Go.Proofs.YtlghjfpkfdnfoaaDoor
open Go Go.RowKit Go.Shelf

/-- a variable that holds an integer as given -/
def BoxF (W : World) (v : Value) (neg : Bool) (xs : List Nat) : Prop := ∃ b a c, v = .pointer (some ⟨b, 0, none⟩) ∧ RowAt W b 24 [.bool neg, .slice a xs.length c] ∧ Reads .u32 W (.slice a xs.length c) xs
theorem BoxF.below {W W' : World} {v : Value} {neg : Bool} {xs : List Nat} (h : BoxF W v neg xs) (hb : Below W.heap.size W W') : BoxF W' v neg xs := by
  obtain ⟨b, a, c, rfl, hr, hi⟩ := h
  exact ⟨b, a, c, rfl, hr.below hb, hi.below hb⟩
theorem BoxF.boxI {W : World} {v : Value} {neg : Bool} {xs : List Nat} (h : BoxF W v neg xs) (hf : formedB neg xs = true) (hl : Limbs xs) : BoxI W v (sgn neg (val xs)) := by
  obtain ⟨b, a, c, rfl, hr, hi⟩ := h
  exact ⟨b, neg, a, xs.length, c, rfl, hr, IntAt.isInt ⟨_, rfl, hi, hl⟩ hf⟩

/-- how three comparisons, one turned around, and one for equality may come out -/
def orders : List (Int × Int × Int × Int × Bool) := [(-1, -1, -1, 1, false), (-1, 0, -1, 1, false), (-1, 1, -1, 1, false), (-1, 1, 0, 1, false), (-1, 1, 1, 1, false), (0, -1, -1, 0, true), (0, 0, 0, 0, true), (0, 1, 1, 0, true), (1, -1, -1, -1, false), (1, -1, 0, -1, false), (1, -1, 1, -1, false), (1, 0, 1, -1, false), (1, 1, 1, -1, false)]
theorem orders_mem (i j k : Int) : (cmpI i j, cmpI j k, cmpI i k, cmpI j i, decide (i = j)) ∈ orders := by
  rcases cmpI_cases i j with ⟨h1, x1, y1⟩ | ⟨h1, x1, y1⟩ | ⟨h1, x1, y1⟩ <;> rcases cmpI_cases j k with ⟨h2, x2, -⟩ | ⟨h2, x2, -⟩ | ⟨h2, x2, -⟩ <;> rcases cmpI_cases i k with ⟨h3, x3, -⟩ | ⟨h3, x3, -⟩ | ⟨h3, x3, -⟩ <;> first
    | (exfalso; omega)
    | (rw [x1, x2, x3, y1, show decide (i = j) = true by simp; omega]; decide)
    | (rw [x1, x2, x3, y1, show decide (i = j) = false by simp; omega]; decide)

set_option maxHeartbeats 4000000 in
set_option maxRecDepth 100000 in
theorem order_any (va vb vc : Value) (na nb nc : Bool) (xa xb xc : List Nat) (w : World) (ha : IntAt w va na xa) (hb : IntAt w vb nb xb) (hc : IntAt w vc nc xc) (hT : DigitsAt w) :
    Calls Tryd.prog 14 #[va, vb, vc] w fun e w' => Below w.heap.size w w' ∧ e = .returned (.bool true) := by
  obtain ⟨sa, rfl, hra, hla⟩ := ha
  obtain ⟨sb, rfl, hrb, hlb⟩ := hb
  obtain ⟨sc, rfl, hrc, hlc⟩ := hc
  obtain ⟨aa, ca, rfl, hca, hma⟩ := hra.form
  obtain ⟨ab, cb, rfl, hcb, hmb⟩ := hrb.form
  obtain ⟨ac, cc, rfl, hcc, hmc⟩ := hrc.form
  go_enter Tryd.func14, Tryd.ntmps14
  go_upto_region 0 with (fail)
  go_cut [3, 4, 5] from 0 to 2 (fun v3 v4 v5 W => BoxF W v3 na xa ∧ BoxF W v4 nb xb ∧ BoxF W v5 nc xc ∧ Below w.heap.size w W)
  case first =>
    go_wp2
    go_meet
    have B1 : Below w.heap.size w (w.alloc (.cells #[.bool na, .slice aa xa.length ca] 24)) := (Below.refl _ _).alloc (Nat.le_refl _) _
    have B2 := B1.alloc B1.size (.cells #[.bool nb, .slice ab xb.length cb] 24)
    have B3 := B2.alloc B2.size (.cells #[.bool nc, .slice ac xc.length cc] 24)
    have C1 : BoxF _ _ na xa := ⟨_, aa, ca, rfl, RowAt.new w 24 [.bool na, .slice aa xa.length ca], hra.below B1⟩
    have C2 : BoxF _ _ nb xb := ⟨_, ab, cb, rfl, RowAt.new (w.alloc (.cells #[.bool na, .slice aa xa.length ca] 24)) 24 [.bool nb, .slice ab xb.length cb], hrb.below B2⟩
    have C3 : BoxF _ _ nc xc := ⟨_, ac, cc, rfl, RowAt.new ((w.alloc (.cells #[.bool na, .slice aa xa.length ca] 24)).alloc (.cells #[.bool nb, .slice ab xb.length cb] 24)) 24 [.bool nc, .slice ac xc.length cc], hrc.below B3⟩
    simp only [World.size_alloc] at C2 C3
    exact ⟨(C1.below ((Below.refl _ _).alloc (Nat.le_refl _) _)).below ((Below.refl _ _).alloc (Nat.le_refl _) _), C2.below ((Below.refl _ _).alloc (Nat.le_refl _) _), C3, B3⟩
  case rest =>
    obtain ⟨q1, q2, q3, hbe⟩ := hcut
    clear hra hrb hrc hca hcb hcc hma hmb hmc
    have hT1 := hT.below hbe
    obtain ⟨b1, a1, c1, rfl, r1, j1⟩ := q1
    obtain ⟨b2, a2, c2, rfl, r2, j2⟩ := q2
    obtain ⟨b3, a3, c3, rfl, r3, j3⟩ := q3
    have d11 := r1.cell 0
    have d12 := r1.cell 1
    have d21 := r2.cell 0
    have d22 := r2.cell 1
    have d31 := r3.cell 0
    have d32 := r3.cell 1
    simp only [List.getElem?_cons_zero, List.getElem?_cons_succ] at d11 d12 d21 d22 d31 d32
    have hnew := RowAt.new wc 24 [.bool na, .slice a1 xa.length c1, .bool nb, .slice a2 xb.length c2, .bool nc, .slice a3 xc.length c3]
    have hB : Below wc.heap.size wc (wc.alloc (.cells #[.bool na, .slice a1 xa.length c1, .bool nb, .slice a2 xb.length c2, .bool nc, .slice a3 xc.length c3] 24)) := (Below.refl _ _).alloc (Nat.le_refl _) _
    have hf := formed_list [(na, .slice a1 xa.length c1, xa), (nb, .slice a2 xb.length c2, xb), (nc, .slice a3 xc.length c3, xc)] 100 wc.heap.size _ hnew (by simp) (by
      intro it hit
      simp only [List.mem_cons, List.not_mem_nil, or_false] at hit
      rcases hit with rfl | rfl | rfl
      · exact ⟨j1.below hB, hla⟩
      · exact ⟨j2.below hB, hlb⟩
      · exact ⟨j3.below hB, hlc⟩)
    simp only [List.length_cons, List.length_nil] at hf
    have hsz := hbe.size
    cases hall : List.all [(na, Value.slice a1 xa.length c1, xa), (nb, Value.slice a2 xb.length c2, xb), (nc, Value.slice a3 xc.length c3, xc)] (fitB 100) with
    | false =>
      rw [hall] at hf
      clear hnew hall
      go_wp2_with (first
        | (go_at_call 50; refine hf.mono ?_; rintro e w2 ⟨hb2, rfl⟩)
        | (go_at_call 16; refine (sane_any _ ((hT1.below hB).below hb2)).mono ?_; rintro e w3 ⟨hb3, rfl⟩))
      go_ret
      have e1 := hB.trans (hb2.mono hB.size)
      have e2 := e1.trans (hb3.mono e1.size)
      exact ⟨hbe.trans (e2.mono hsz), rfl⟩
    | true =>
      rw [hall] at hf
      have hA := Lib.hid hall
      clear hnew hall
      go_upto_region 3 with (go_at_call 50; refine hf.mono ?_; rintro e w2 ⟨hb2, rfl⟩)
      have e1 := hB.trans (hb2.mono hB.size)
      obtain ⟨⟨f1, l1⟩, ⟨f2, l2⟩, ⟨f3, l3⟩⟩ : (formedB na xa = true ∧ xa.length ≤ 100) ∧ (formedB nb xb = true ∧ xb.length ≤ 100) ∧ (formedB nc xc = true ∧ xc.length ≤ 100) := by
        have := hA.out
        simp only [List.all_cons, List.all_nil, fitB, Bool.and_true, Bool.and_eq_true, decide_eq_true_eq] at this
        exact ⟨⟨this.1.1, by omega⟩, ⟨this.2.1.1, by omega⟩, ⟨this.2.2.1, by omega⟩⟩
      have k1 := (IntAt.isInt ⟨_, rfl, j1.below e1, hla⟩ f1 : IsInt w2 (.agg #[.bool na, .slice a1 xa.length c1]) (sgn na (val xa)))
      have k2 := (IntAt.isInt ⟨_, rfl, j2.below e1, hlb⟩ f2 : IsInt w2 (.agg #[.bool nb, .slice a2 xb.length c2]) (sgn nb (val xb)))
      have k3 := (IntAt.isInt ⟨_, rfl, j3.below e1, hlc⟩ f3 : IsInt w2 (.agg #[.bool nc, .slice a3 xc.length c3]) (sgn nc (val xc)))
      have n1 : (sgn na (val xa)).natAbs < B32 ^ 100 := by rw [sgn_natAbs]; exact (canon_length_iff (formedB_bounds hla f1).1 100).1 l1
      have n2 : (sgn nb (val xb)).natAbs < B32 ^ 100 := by rw [sgn_natAbs]; exact (canon_length_iff (formedB_bounds hlb f2).1 100).1 l2
      have n3 : (sgn nc (val xc)).natAbs < B32 ^ 100 := by rw [sgn_natAbs]; exact (canon_length_iff (formedB_bounds hlc f3).1 100).1 l3
      have s1 := r1.below e1
      have s2 := r2.below e1
      have s3 := r3.below e1
      have hbe2 := hbe.trans (e1.mono hsz)
      clear hA hf l1 l2 l3 f1 f2 f3 d11 d12 d21 d22 d31 d32 hb2 hB e1 r1 r2 r3 j1 j2 j3 hbe hsz hT1 hla hlb hlc
      generalize sgn na (val xa) = i at *
      generalize sgn nb (val xb) = j at *
      generalize sgn nc (val xc) = k at *
      have hL : OrdL w w2 b1 na a1 xa.length c1 b2 nb a2 xb.length c2 b3 nc a3 xc.length c3 w2 := ⟨s1, s2, s3, hbe2, fun _ _ h => h⟩
      have hD := Lib.hid (ol_drew hL)
      obtain ⟨d1, d2, d3, d4, d5, d6, -⟩ := ol_of hL
      have h1 := b32_up n1 (by decide)
      have h2 := b32_up n2 (by decide)
      have h3 := b32_up n3 (by decide)
      have key1 := fun X (hX : OrdL w w2 b1 na a1 xa.length c1 b2 nb a2 xb.length c2 b3 nc a3 xc.length c3 X) => compare_int _ _ i j X (k1.keep hX.keep) (k2.keep hX.keep) h1 h2
      have key2 := fun X (hX : OrdL w w2 b1 na a1 xa.length c1 b2 nb a2 xb.length c2 b3 nc a3 xc.length c3 X) => compare_int _ _ j k X (k2.keep hX.keep) (k3.keep hX.keep) h2 h3
      have key3 := fun X (hX : OrdL w w2 b1 na a1 xa.length c1 b2 nb a2 xb.length c2 b3 nc a3 xc.length c3 X) => compare_int _ _ i k X (k1.keep hX.keep) (k3.keep hX.keep) h1 h3
      clear h1 h2 h3
      go_region_held3 (fun X => X.cell? ⟨b1, 0, none⟩ = some (.bool na) ∧ X.cell? ⟨b1, 1, none⟩ = some (.slice a1 xa.length c1) ∧ X.cell? ⟨b2, 0, none⟩ = some (.bool nb) ∧ X.cell? ⟨b2, 1, none⟩ = some (.slice a2 xb.length c2) ∧ X.cell? ⟨b3, 0, none⟩ = some (.bool nc) ∧ X.cell? ⟨b3, 1, none⟩ = some (.slice a3 xc.length c3) ∧ OrdL w w2 b1 na a1 xa.length c1 b2 nb a2 xb.length c2 b3 nc a3 xc.length c3 X)
        (first | exact hD.out | (go_split_ands; exact ol_of (ol_step (by assumption) hbc)))
        (first
          | (go_at_call 18; go_split_ands; with_reducible refine (key1 _ (by assumption)).mono ?_; rintro e wk ⟨hbc, rfl⟩)
          | (go_at_call 18; go_split_ands; with_reducible refine (key2 _ (by assumption)).mono ?_; rintro e wk ⟨hbc, rfl⟩)
          | (go_at_call 18; go_split_ands; with_reducible refine (key3 _ (by assumption)).mono ?_; rintro e wk ⟨hbc, rfl⟩))
      rename_i hX
      clear d1 d2 d3 d4 d5 d6 hL hD hbe2
      clear s1 s2 s3
      obtain ⟨-, -, -, -, -, -, O1⟩ := hX
      have A1 := fun X (hX : OrdL w w2 b1 na a1 xa.length c1 b2 nb a2 xb.length c2 b3 nc a3 xc.length c3 X) => add_int _ _ i k X (k1.keep hX.keep) (k3.keep hX.keep) n1 n3
      have A2 := fun X (hX : OrdL w w2 b1 na a1 xa.length c1 b2 nb a2 xb.length c2 b3 nc a3 xc.length c3 X) => add_int _ _ j k X (k2.keep hX.keep) (k3.keep hX.keep) n2 n3
      have BP := b32_up (b32_add n1 n3) (by decide)
      have BQ := b32_up (b32_add n2 n3) (by decide)
      have SM := fun X (hX : OrdL w w2 b1 na a1 xa.length c1 b2 nb a2 xb.length c2 b3 nc a3 xc.length c3 X) => rsame_int _ _ i j X (k1.keep hX.keep) (k2.keep hX.keep)
      have CM := fun X (hX : OrdL w w2 b1 na a1 xa.length c1 b2 nb a2 xb.length c2 b3 nc a3 xc.length c3 X) => compare_int _ _ j i X (k2.keep hX.keep) (k1.keep hX.keep) (b32_up n2 (by decide)) (b32_up n1 (by decide))
      have DG := fun X (hX : OrdL w w2 b1 na a1 xa.length c1 b2 nb a2 xb.length c2 b3 nc a3 xc.length c3 X) => hT.below hX.below
      clear key1 key2 key3 k1 k2 k3 n1 n2 n3
      go_upto_region 4 with (fail)
      go_cut [10, 11] from 30 to 35 (fun v10 v11 W => BoxI W v10 (i + k) ∧ v11 = .int .i64 0 ∧ OrdL w w2 b1 na a1 xa.length c1 b2 nb a2 xb.length c2 b3 nc a3 xc.length c3 W)
      case first =>
        obtain ⟨d1, d2, d3, d4, d5, d6, -⟩ := ol_of O1
        go_wp2_with (go_at_call 28; with_reducible refine (A1 _ O1).mono ?_; rintro e w3 ⟨hb3, v3, rfl, hi3⟩; obtain ⟨n3, s3, m3, q3, rfl⟩ := hi3.shape)
        go_meet
        exact ⟨BoxI.new hi3, rfl, ol_step (ol_step O1 hb3) ((Below.refl _ _).alloc (Nat.le_refl _) _)⟩
      case rest =>
        clear O1
        obtain ⟨q10, rfl, O1⟩ := hcut
        generalize wc = wX2 at *
        go_upto_region 5 with (fail)
        go_cut [12, 13] from 36 to 41 (fun v12 v13 W => BoxI W v12 (j + k) ∧ v13 = .int .i64 0 ∧ BoxI W u10 (i + k) ∧ OrdL w w2 b1 na a1 xa.length c1 b2 nb a2 xb.length c2 b3 nc a3 xc.length c3 W)
        case first =>
          obtain ⟨d1, d2, d3, d4, d5, d6, -⟩ := ol_of O1
          go_wp2_with (go_at_call 28; with_reducible refine (A2 _ O1).mono ?_; rintro e w3 ⟨hb3, v3, rfl, hi3⟩; obtain ⟨n3, s3, m3, q3, rfl⟩ := hi3.shape)
          go_meet
          exact ⟨BoxI.new hi3, rfl, (q10.below hb3).alloc _, ol_step (ol_step O1 hb3) ((Below.refl _ _).alloc (Nat.le_refl _) _)⟩
        case rest =>
          clear O1 q10
          obtain ⟨q12, rfl, q10, O1⟩ := hcut
          generalize wc = wX3 at *
          obtain ⟨bp, np, ap, mp, cp, rfl, rp, ip⟩ := q10
          obtain ⟨bq, nq, aq, mq, cq, rfl, rq, iq⟩ := q12
          have CP := compare_int _ _ _ _ _ ip iq BP BQ
          rw [cmpI_add] at CP
          have p1 := rp.cell 0
          have p2 := rp.cell 1
          have p3 := rq.cell 0
          have p4 := rq.cell 1
          simp only [List.getElem?_cons_zero, List.getElem?_cons_succ] at p1 p2 p3 p4
          go_upto_region 8 with (go_at_call 18; with_reducible refine CP.mono ?_; rintro e w3 ⟨hb3, rfl⟩)
          replace O1 := ol_step O1 hb3
          clear p1 p2 p3 p4 CP hb3 rp rq ip iq
          clear A1 A2 BP BQ
          have fin : (cmpI i j, cmpI j k, cmpI i k, cmpI j i, decide (i = j)) ∈ orders := orders_mem i j k
          generalize cmpI i j = x at *
          generalize cmpI j k = y at *
          generalize cmpI i k = z at *
          generalize cmpI j i = x' at *
          generalize decide (i = j) = s at *
          simp only [orders, List.mem_cons, List.not_mem_nil, or_false, Prod.mk.injEq] at fin
          rcases fin with ⟨rfl, rfl, rfl, rfl, rfl⟩ | ⟨rfl, rfl, rfl, rfl, rfl⟩ | ⟨rfl, rfl, rfl, rfl, rfl⟩ | ⟨rfl, rfl, rfl, rfl, rfl⟩ | ⟨rfl, rfl, rfl, rfl, rfl⟩ | ⟨rfl, rfl, rfl, rfl, rfl⟩ | ⟨rfl, rfl, rfl, rfl, rfl⟩ | ⟨rfl, rfl, rfl, rfl, rfl⟩ | ⟨rfl, rfl, rfl, rfl, rfl⟩ | ⟨rfl, rfl, rfl, rfl, rfl⟩ | ⟨rfl, rfl, rfl, rfl, rfl⟩ | ⟨rfl, rfl, rfl, rfl, rfl⟩ | ⟨rfl, rfl, rfl, rfl, rfl⟩
          all_goals
            go_wp2_with (first
              | (go_at_call 16; with_reducible refine (sane_any _ (DG _ O1)).mono ?_; rintro e w4 ⟨hb4, rfl⟩; have O4 := ol_step O1 hb4; obtain ⟨d1, d2, d3, d4, d5, d6, -⟩ := ol_of O4)
              | (go_at_call 18; with_reducible refine (CM _ O4).mono ?_; rintro e w5 ⟨hb5, rfl⟩; have O5 := ol_step O4 hb5; obtain ⟨e1, e2, e3, e4, e5, e6, -⟩ := ol_of O5)
              | (go_at_call 25; with_reducible refine (SM _ O5).mono ?_; rintro e w6 ⟨hb6, rfl⟩; have O6 := ol_step O5 hb6))
            go_ret
            exact ⟨O6.below, rfl⟩

end Go.Proofs.YtlghjfpkfdnfoaaDoor
