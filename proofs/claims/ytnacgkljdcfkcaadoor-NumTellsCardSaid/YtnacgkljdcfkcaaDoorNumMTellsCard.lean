/- zermelolaw01.NumTells -/
import Derived.Test.YtnacgkljdcfkcaaDoorNumMOrder
import Derived.Test.YtnacgkljdcfkcaaDoorNumMBits
import Derived.Test.YtnacgkljdcfkcaaDoorNumMRefCompare
import Derived.Deep.CutRange
import Derived.Test.YtnacgkljdcfkcaaDoorNumMOrderCard
import Derived.Test.YtnacgkljdcfkcaaDoorTie
import Derived.Test.YtnacgkljdcfkcaaDoorCards
import Derived.SevenTiedAt
import Derived.Below
import Derived.Carry
namespace Go.Proofs.YtnacgkljdcfkcaaDoor
open Go Go.RowKit Go.Shelf

/-- the two variables of the law -/
structure TelL (w : World) (b1 : Nat) (na : Bool) (a1 : Option Addr) (c1 : Nat) (xa : List Nat) (b2 : Nat) (nb : Bool) (a2 : Option Addr) (c2 : Nat) (xb : List Nat) (X : World) : Prop where
  r1 : RowAt X b1 24 [.bool na, .slice a1 xa.length c1]
  r2 : RowAt X b2 24 [.bool nb, .slice a2 xb.length c2]
  ia : IntAt X (.agg #[.bool na, .slice a1 xa.length c1]) na xa
  ib : IntAt X (.agg #[.bool nb, .slice a2 xb.length c2]) nb xb
  below : Below w.heap.size w X
section
variable {w X X' : World} {b1 : Nat} {na : Bool} {a1 : Option Addr} {c1 : Nat} {xa : List Nat} {b2 : Nat} {nb : Bool} {a2 : Option Addr} {c2 : Nat} {xb : List Nat}
theorem tel_step (h : TelL w b1 na a1 c1 xa b2 nb a2 c2 xb X) (hb : Below X.heap.size X X') : TelL w b1 na a1 c1 xa b2 nb a2 c2 xb X' := ⟨h.r1.below hb, h.r2.below hb, h.ia.below hb, h.ib.below hb, h.below.trans (hb.mono h.below.size)⟩
theorem tel_cells (h : TelL w b1 na a1 c1 xa b2 nb a2 c2 xb X) : X.cell? ⟨b1, 0, none⟩ = some (.bool na) ∧ X.cell? ⟨b1, 1, none⟩ = some (.slice a1 xa.length c1) ∧ X.cell? ⟨b2, 0, none⟩ = some (.bool nb) ∧ X.cell? ⟨b2, 1, none⟩ = some (.slice a2 xb.length c2) := ⟨h.r1.cell 0, h.r1.cell 1, h.r2.cell 0, h.r2.cell 1⟩
end
/-- a variable that holds a number and an error -/
def BoxS (W : World) (v : Value) (n e : Int) : Prop := ∃ b, v = .pointer (some ⟨b, 0, none⟩) ∧ RowAt W b 34 [.int .i64 n, .int .i64 e]
theorem BoxS.below {W W' : World} {v : Value} {n e : Int} (h : BoxS W v n e) (hb : Below W.heap.size W W') : BoxS W' v n e := by
  obtain ⟨b, rfl, hr⟩ := h
  exact ⟨b, rfl, hr.below hb⟩
theorem BoxS.new {W : World} {n e : Int} : BoxS (W.alloc (.cells #[.int .i64 n, .int .i64 e] 34)) (.pointer (some ⟨W.heap.size, 0, none⟩)) n e := ⟨_, rfl, RowAt.new W 34 [.int .i64 n, .int .i64 e]⟩

theorem check_any (v : Value) (neg : Bool) (xs : List Nat) (w : World) (h : IntAt w v neg xs) :
    Calls Tryd.prog 17 #[v] w fun e w' => Below w.heap.size w w' ∧ e = .returned (.int .i64 (if formedB neg xs = true then 0 else 1)) := by
  cases f : formedB neg xs with
  | true => exact check_ok v neg xs w h f
  | false => exact check_no v neg xs w h f

set_option maxHeartbeats 4000000 in
set_option maxRecDepth 100000 in
theorem tells_any (va vb : Value) (na nb : Bool) (xa xb : List Nat) (n : Int) (hn1 : -9223372036854775808 ≤ n) (hn2 : n ≤ 9223372036854775807) (w : World) (ha : IntAt w va na xa) (hb : IntAt w vb nb xb) (hT : DigitsAt w) :
    Calls Tryd.prog 3 #[va, vb, .int .i64 n] w fun e w' => Below w.heap.size w w' ∧ e = .returned (.bool true) := by
  obtain ⟨sa, rfl, hra, hla⟩ := ha
  obtain ⟨sb, rfl, hrb, hlb⟩ := hb
  obtain ⟨aa, ca, rfl, hca, hma⟩ := hra.form
  obtain ⟨ab, cb, rfl, hcb, hmb⟩ := hrb.form
  go_enter Tryd.func3, Tryd.ntmps3
  go_upto_region 0 with (fail)
  go_cut [3, 4] from 0 to 1 (fun v3 v4 W => BoxF W v3 na xa ∧ BoxF W v4 nb xb ∧ Below w.heap.size w W)
  case first =>
    go_wp2
    go_meet
    have B1 : Below w.heap.size w (w.alloc (.cells #[.bool na, .slice aa xa.length ca] 24)) := (Below.refl _ _).alloc (Nat.le_refl _) _
    have B2 := B1.alloc B1.size (.cells #[.bool nb, .slice ab xb.length cb] 24)
    have C1 : BoxF _ _ na xa := ⟨_, aa, ca, rfl, RowAt.new w 24 [.bool na, .slice aa xa.length ca], hra.below B1⟩
    have C2 : BoxF _ _ nb xb := ⟨_, ab, cb, rfl, RowAt.new (w.alloc (.cells #[.bool na, .slice aa xa.length ca] 24)) 24 [.bool nb, .slice ab xb.length cb], hrb.below B2⟩
    simp only [World.size_alloc] at C2
    exact ⟨C1.below ((Below.refl _ _).alloc (Nat.le_refl _) _), C2, B2⟩
  case rest =>
    obtain ⟨q1, q2, hbe⟩ := hcut
    clear hra hrb hca hcb hma hmb
    have hT1 := hT.below hbe
    obtain ⟨b1, a1, c1, rfl, r1, j1⟩ := q1
    obtain ⟨b2, a2, c2, rfl, r2, j2⟩ := q2
    have d11 := r1.cell 0
    have d12 := r1.cell 1
    have d21 := r2.cell 0
    have d22 := r2.cell 1
    simp only [List.getElem?_cons_zero, List.getElem?_cons_succ] at d11 d12 d21 d22
    have hnew := RowAt.new wc 24 [.bool na, .slice a1 xa.length c1, .bool nb, .slice a2 xb.length c2]
    have hB : Below wc.heap.size wc (wc.alloc (.cells #[.bool na, .slice a1 xa.length c1, .bool nb, .slice a2 xb.length c2] 24)) := (Below.refl _ _).alloc (Nat.le_refl _) _
    have hf := few_list [(na, .slice a1 xa.length c1, xa), (nb, .slice a2 xb.length c2, xb)] 400 wc.heap.size _ hnew (by simp) (by
      intro it hit
      simp only [List.mem_cons, List.not_mem_nil, or_false] at hit
      rcases hit with rfl | rfl
      · exact ⟨j1.below hB, hla⟩
      · exact ⟨j2.below hB, hlb⟩)
    simp only [List.length_cons, List.length_nil] at hf
    have hsz := hbe.size
    cases hall : List.all [(na, Value.slice a1 xa.length c1, xa), (nb, Value.slice a2 xb.length c2, xb)] (fewB 400) with
    | false =>
      rw [hall] at hf
      clear hnew hall
      go_wp2_with (first
        | (go_at_call 15; refine hf.mono ?_; rintro e w2 ⟨hb2, rfl⟩)
        | (go_at_call 16; refine (sane_any _ ((hT1.below hB).below hb2)).mono ?_; rintro e w3 ⟨hb3, rfl⟩))
      go_ret
      have e1 := hB.trans (hb2.mono hB.size)
      have e2 := e1.trans (hb3.mono e1.size)
      exact ⟨hbe.trans (e2.mono hsz), rfl⟩
    | true =>
      rw [hall] at hf
      have hA := Lib.hid hall
      clear hnew hall
      go_upto_region 3 with (go_at_call 15; refine hf.mono ?_; rintro e w2 ⟨hb2, rfl⟩)
      have e1 := hB.trans (hb2.mono hB.size)
      obtain ⟨l1, l2⟩ : xa.length ≤ 400 ∧ xb.length ≤ 400 := by
        have := hA.out
        simp only [List.all_cons, List.all_nil, fewB, Bool.and_true, Bool.and_eq_true, decide_eq_true_eq] at this
        exact ⟨by omega, by omega⟩
      have T1 : TelL w b1 na a1 c1 xa b2 nb a2 c2 xb w2 := ⟨r1.below e1, r2.below e1, ⟨_, rfl, j1.below e1, hla⟩, ⟨_, rfl, j2.below e1, hlb⟩, hbe.trans (e1.mono hsz)⟩
      clear hA hf d11 d12 d21 d22 hb2 hB e1 r1 r2 j1 j2 hbe hsz hT1
      generalize w2 = wX2 at *
      have KC := fun X (hX : TelL w b1 na a1 c1 xa b2 nb a2 c2 xb X) => check_any _ na xa X hX.ia
      have KM := fun X (hX : TelL w b1 na a1 c1 xa b2 nb a2 c2 xb X) => Compare_any _ _ na nb xa xb X hX.ia hX.ib
      have KF := fun X (hX : TelL w b1 na a1 c1 xa b2 nb a2 c2 xb X) => rformed_any _ na xa X hX.ia
      have KG := fun X (hX : TelL w b1 na a1 c1 xa b2 nb a2 c2 xb X) => rformed_any _ nb xb X hX.ib
      have KR := fun X (hX : TelL w b1 na a1 c1 xa b2 nb a2 c2 xb X) (f : formedB na xa = true) (g : formedB nb xb = true) => rcompare_int _ _ _ _ X (IntAt.isInt hX.ia f) (IntAt.isInt hX.ib g) 300 (by decide) (IntAt.natAbs_lt hX.ia f) (IntAt.natAbs_lt hX.ib g)
      have KB := fun X (hX : TelL w b1 na a1 c1 xa b2 nb a2 c2 xb X) => Bits_any _ na xa X hX.ia (by omega)
      have KS := fun X (hX : TelL w b1 na a1 c1 xa b2 nb a2 c2 xb X) => rbits_any _ na xa X hX.ia (by omega)
      have KT := fun X (hX : TelL w b1 na a1 c1 xa b2 nb a2 c2 xb X) => To_any _ na xa X hX.ia
      have KU := fun X (hX : TelL w b1 na a1 c1 xa b2 nb a2 c2 xb X) => rto_any _ na xa X hX.ia
      have DG := fun X (hX : TelL w b1 na a1 c1 xa b2 nb a2 c2 xb X) => hT.below hX.below
      have KV := fun X (hX : TelL w b1 na a1 c1 xa b2 nb a2 c2 xb X) (f : formedB na xa = true) (g : formedB nb xb = true) => by
        have := KR X hX f g
        rw [show cmpI (sgn na (val xa)) (sgn nb (val xb)) = (if (formedB na xa && formedB nb xb) = true then cmpI (sgn na (val xa)) (sgn nb (val xb)) else 0) by rw [f, g]; rfl] at this
        exact this
      have C0 : (formedB na xa && formedB nb xb) = false → (if (formedB na xa && formedB nb xb) = true then cmpI (sgn na (val xa)) (sgn nb (val xb)) else 0) = 0 := fun h => by rw [h]; rfl
      have HC0 := Lib.hid C0
      clear KR C0
      generalize (if (formedB na xa && formedB nb xb) = true then cmpI (sgn na (val xa)) (sgn nb (val xb)) else 0) = C at *
      generalize (if formedB na xa = true then (bitsOf xa : Int) else 0) = N at *
      generalize (toRes na xa).1 = M at *
      generalize (toRes na xa).2 = F at *
      obtain ⟨E, hE⟩ : ∃ E : Int, (if formedB na xa = true then (0 : Int) else 1) = E := ⟨_, rfl⟩
      rw [hE] at KB KS KC
      have HE := Lib.hid hE
      clear hE
      generalize formedB na xa = fa at *
      generalize formedB nb xb = fb at *
      go_cut [7] from 22 to 24 (fun v W => v = .bool fa ∧ TelL w b1 na a1 c1 xa b2 nb a2 c2 xb W)
      case first =>
        obtain ⟨d1, d2, d3, d4⟩ := tel_cells T1
        have hd : (E == (0 : Int)) = fa := by rw [← HE.out]; cases fa <;> rfl
        go_wp2_with (go_at_call 17; with_reducible refine (KC _ T1).mono ?_; rintro e w3 ⟨hb3, rfl⟩)
        go_meet
        exact ⟨rfl, tel_step T1 hb3⟩
      case rest =>
        clear T1
        obtain ⟨rfl, T1⟩ := hcut
        generalize wc = wX3 at *
        go_upto_region 4 with (fail)
        go_cut [8] from 25 to 27 (fun v W => v = .int .i64 C ∧ TelL w b1 na a1 c1 xa b2 nb a2 c2 xb W)
        case first =>
          obtain ⟨d1, d2, d3, d4⟩ := tel_cells T1
          go_wp2_with (go_at_call 18; with_reducible refine (KM _ T1).mono ?_; rintro e w3 ⟨hb3, rfl⟩)
          go_meet
          exact ⟨rfl, tel_step T1 hb3⟩
        case rest =>
          clear T1
          obtain ⟨rfl, T1⟩ := hcut
          generalize wc = wX4 at *
          go_upto_region 6 with (fail)
          go_cut [33] from 28 to 32 (fun v W => v = .bool (fa && fb) ∧ TelL w b1 na a1 c1 xa b2 nb a2 c2 xb W)
          case first =>
            obtain ⟨d1, d2, d3, d4⟩ := tel_cells T1
            cases fa with
            | false =>
              go_wp2_with (go_at_call 19; with_reducible refine (KF _ T1).mono ?_; rintro e w3 ⟨hb3, rfl⟩)
              go_meet
              exact ⟨rfl, tel_step T1 hb3⟩
            | true =>
              go_wp2_with (first
                | (go_at_call 19; with_reducible refine (KF _ T1).mono ?_; rintro e w3 ⟨hb3, rfl⟩; have T2 := tel_step T1 hb3; obtain ⟨e1, e2, e3, e4⟩ := tel_cells T2)
                | (go_at_call 19; with_reducible refine (KG _ T2).mono ?_; rintro e w4 ⟨hb4, rfl⟩))
              go_meet
              exact ⟨rfl, tel_step T2 hb4⟩
          case rest =>
            clear T1
            obtain ⟨rfl, T1⟩ := hcut
            generalize wc = wX5 at *
            obtain ⟨g, hg⟩ : ∃ g, (fa && fb) = g := ⟨_, rfl⟩
            rw [hg]
            have HG := Lib.hid hg
            clear hg
            go_upto_if 33 with (fail)
            go_cut [9] from 34 to 36 (fun v W => v = .int .i64 C ∧ TelL w b1 na a1 c1 xa b2 nb a2 c2 xb W)
            case first =>
              obtain ⟨d1, d2, d3, d4⟩ := tel_cells T1
              cases g with
              | false =>
                go_wp2
                go_meet
                exact ⟨by rw [HC0.out HG.out], T1⟩
              | true =>
                have key := KV _ T1 (Bool.and_eq_true_iff.1 HG.out).1 (Bool.and_eq_true_iff.1 HG.out).2
                go_wp2_with (go_at_call 20; with_reducible refine key.mono ?_; rintro e w3 ⟨hb3, rfl⟩)
                go_meet
                exact ⟨rfl, tel_step T1 hb3⟩
            case rest =>
              clear T1
              obtain ⟨rfl, T1⟩ := hcut
              generalize wc = wX6 at *
              clear KM KG KV HC0 HG
              go_upto_region 8 with (fail)
              go_cut [10, 11] from 37 to 41 (fun v1 v2 W => v1 = .int .i64 N ∧ v2 = .int .i64 E ∧ TelL w b1 na a1 c1 xa b2 nb a2 c2 xb W)
              case first =>
                obtain ⟨d1, d2, d3, d4⟩ := tel_cells T1
                go_wp2_with (go_at_call 21; with_reducible refine (KB _ T1).mono ?_; rintro e w3 ⟨hb3, rfl⟩)
                go_meet
                exact ⟨rfl, rfl, tel_step T1 hb3⟩
              case rest =>
                clear T1
                obtain ⟨rfl, rfl, T1⟩ := hcut
                generalize wc = wX7 at *
                go_upto_region 9 with (fail)
                go_cut [12] from 42 to 43 (fun v1 W => BoxS W v1 N E ∧ TelL w b1 na a1 c1 xa b2 nb a2 c2 xb W)
                case first =>
                  obtain ⟨d1, d2, d3, d4⟩ := tel_cells T1
                  go_wp2_with (go_at_call 22; with_reducible refine (KS _ T1).mono ?_; rintro e w3 ⟨hb3, rfl⟩)
                  go_meet
                  exact ⟨BoxS.new, tel_step (tel_step T1 hb3) ((Below.refl _ _).alloc (Nat.le_refl _) _)⟩
                case rest =>
                  clear T1
                  obtain ⟨q12, T1⟩ := hcut
                  generalize wc = wX8 at *
                  go_upto_region 10 with (fail)
                  go_cut [13, 14] from 44 to 48 (fun v1 v2 W => v1 = .int .i64 M ∧ v2 = .int .i64 F ∧ BoxS W u12 N E ∧ TelL w b1 na a1 c1 xa b2 nb a2 c2 xb W)
                  case first =>
                    obtain ⟨d1, d2, d3, d4⟩ := tel_cells T1
                    go_wp2_with (go_at_call 23; with_reducible refine (KT _ T1).mono ?_; rintro e w3 ⟨hb3, rfl⟩)
                    go_meet
                    exact ⟨rfl, rfl, q12.below hb3, tel_step T1 hb3⟩
                  case rest =>
                    clear T1 q12
                    obtain ⟨rfl, rfl, q12, T1⟩ := hcut
                    generalize wc = wX9 at *
                    go_upto_region 11 with (fail)
                    go_cut [15] from 49 to 50 (fun v1 W => BoxS W v1 M F ∧ BoxS W u12 N E ∧ TelL w b1 na a1 c1 xa b2 nb a2 c2 xb W)
                    case first =>
                      obtain ⟨d1, d2, d3, d4⟩ := tel_cells T1
                      go_wp2_with (go_at_call 24; with_reducible refine (KU _ T1).mono ?_; rintro e w3 ⟨hb3, rfl⟩)
                      go_meet
                      exact ⟨BoxS.new, (q12.below hb3).below ((Below.refl _ _).alloc (Nat.le_refl _) _), tel_step (tel_step T1 hb3) ((Below.refl _ _).alloc (Nat.le_refl _) _)⟩
                    case rest =>
                      clear T1 q12
                      obtain ⟨q15, q12, T1⟩ := hcut
                      generalize wc = wX10 at *
                      clear KB KS KT KU
                      obtain ⟨b12, rfl, r12⟩ := q12
                      obtain ⟨b15, rfl, r15⟩ := q15
                      cases fa with
                      | true =>
                        clear KC
                        go_wp2_with (first
                          | (go_at_call 16; with_reducible refine (sane_any _ (DG _ T1)).mono ?_; rintro e w3 ⟨h3, rfl⟩; have T2 := tel_step T1 h3; obtain ⟨d1, d2, d3, d4⟩ := tel_cells T2)
                          | (go_at_call 19; with_reducible refine (KF _ T2).mono ?_; rintro e w4 ⟨h4, rfl⟩; have T3 := tel_step T2 h4; have g3 := h3.trans (h4.mono h3.size); have x1 := (r12.below g3).cell 0; have x2 := (r12.below g3).cell 1; have x3 := (r15.below g3).cell 0; have x4 := (r15.below g3).cell 1; simp only [List.getElem?_cons_zero, List.getElem?_cons_succ] at x1 x2 x3 x4)
                          | (go_at_call 26; refine (of_int n _ hn1 hn2).mono ?_; rintro e w5 ⟨h5, v5, rfl, i5⟩; have T4 := tel_step T3 h5)
                          | (go_at_call 27; refine (rof_int n _ hn1 hn2).mono ?_; rintro e w6 ⟨h6, v6, rfl, i6⟩; have T5 := tel_step T4 h6)
                          | (go_at_call 25; refine (rsame_eq _ _ n _ (i5.below h6) i6).mono ?_; rintro e w7 ⟨h7, rfl⟩; have T6 := tel_step T5 h7))
                        go_ret
                        exact ⟨T6.below, rfl⟩
                      | false =>
                        have hE1 : E = 1 := by rw [← HE.out]; rfl
                        go_wp2_with (first
                          | (go_at_call 16; with_reducible refine (sane_any _ (DG _ T1)).mono ?_; rintro e w3 ⟨h3, rfl⟩; have T2 := tel_step T1 h3; obtain ⟨d1, d2, d3, d4⟩ := tel_cells T2)
                          | (go_at_call 19; with_reducible refine (KF _ T2).mono ?_; rintro e w4 ⟨h4, rfl⟩; have T3 := tel_step T2 h4; obtain ⟨e1, e2, e3, e4⟩ := tel_cells T3)
                          | (go_at_call 17; with_reducible refine (KC _ T3).mono ?_; rintro e w8 ⟨h8, rfl⟩; have T3' := tel_step T3 h8; have g3 := (h3.trans (h4.mono h3.size)).trans (h8.mono (h3.trans (h4.mono h3.size)).size); have x1 := (r12.below g3).cell 0; have x2 := (r12.below g3).cell 1; have x3 := (r15.below g3).cell 0; have x4 := (r15.below g3).cell 1; simp only [List.getElem?_cons_zero, List.getElem?_cons_succ] at x1 x2 x3 x4)
                          | (go_at_call 26; refine (of_int n _ hn1 hn2).mono ?_; rintro e w5 ⟨h5, v5, rfl, i5⟩; have T4 := tel_step T3' h5)
                          | (go_at_call 27; refine (rof_int n _ hn1 hn2).mono ?_; rintro e w6 ⟨h6, v6, rfl, i6⟩; have T5 := tel_step T4 h6)
                          | (go_at_call 25; refine (rsame_eq _ _ n _ (i5.below h6) i6).mono ?_; rintro e w7 ⟨h7, rfl⟩; have T6 := tel_step T5 h7))
                        go_ret
                        exact ⟨T6.below, rfl⟩

end Go.Proofs.YtnacgkljdcfkcaaDoor

/- zermelolaw01.NumTells: the row and its card -/
namespace Go.Proofs.YtnacgkljdcfkcaaDoor
open Go.ChangeShapes Go.WideShapes Go.ChangeAt Go.RowKit Go.Joins

set_option maxRecDepth 100000 in
theorem tells_lifted (os : Os) (started : os.Started) (H : Type) (enc : TypeId × Value → H) :
    ReturnsInHanded {} Tryd.checked os 3 .any (fun w args => (Rows.numTellsSpec.pre enc Tryd.prog Tryd.f3 [] false w args ∧ laidMetH Tryd.prog theLaid w) ∧ sizedMet enc Tryd.prog Tryd.f3 (OpenSpec.ofChange Rows.numTellsSpec) false w args)
      (Rows.numTellsSpec.post enc Tryd.prog Tryd.f3 false true false false) := by
  refine returnsInHanded_of_change_and (C := Tryd.checked) (X := fun w _ => laidMetH Tryd.prog theLaid w) (fun _ _ _ hh h => h.of_heap hh) own started (by kernel_rfl) Tryd.func3
    (ChangeSpec.witness_shaped (enc := enc) (C := Tryd.checked) (os := os) (X := fun w _ => laidMetH Tryd.prog theLaid w) false (World.doorLaid Tryd.prog 400 os) #[.agg #[.bool false, .slice none 0 0], .agg #[.bool false, .slice none 0 0], .int .i64 0] 8 rfl (World.shaped_of_RefB (by kernel_rfl) (by kernel_rfl)) (by kernel_rfl) (by kernel_rfl) (by kernel_rfl) (door_met os _)) ?_
  intro W base args ds gs before hval0 hW _ _ hL _
  have hval : ∀ (j : Nat) t v, Tryd.f3.params[j]? = some t → args[j]? = some v → Value.okWide Tryd.prog W .any base t v := hval0
  have hW' := hW
  obtain ⟨p, q, hA0, hV, rfl, hfz, hnd⟩ := hW
  have hA : DataW.TrodAll enc Tryd.prog W 0 (fun _ => true) true Tryd.f3.params.toList args.toList ds p := hA0
  rw [Tryd.params3] at hA hval
  obtain ⟨v0, vs0, d0, ds0, p0, q0, hargs, rfl, rfl, h0, r0⟩ := trodAll_cons hA
  obtain ⟨v1, vs1, d1, ds1, p1, q1, rfl, rfl, rfl, h1, r1⟩ := trodAll_cons r0
  obtain ⟨v2, vs2, d2, ds2, p2, q2, rfl, rfl, rfl, h2, r2⟩ := trodAll_cons r1
  obtain ⟨rfl, rfl, rfl⟩ := trodAll_nil r2
  obtain rfl : args = #[v0, v1, v2] := by cases args; simp_all
  obtain ⟨rfl, rfl⟩ := trodVars_none hV
  have lt0 : ∀ x ∈ p0, x.block < W.heap.size := by obtain ⟨m, hm⟩ := h0; exact DataW.trod_lt m _ _ _ hm
  have lt1 : ∀ x ∈ p1, x.block < W.heap.size := by obtain ⟨m, hm⟩ := h1; exact DataW.trod_lt m _ _ _ hm
  obtain ⟨na, xa, ha⟩ := open_Int (hval 0 24 v0 rfl rfl) h0
  obtain ⟨nb, xb, hb⟩ := open_Int (hval 1 24 v1 rfl rfl) h1
  obtain ⟨n, rfl, rfl, rfl, wn⟩ := open_int Tryd.underlying3 (hval 2 3 v2 rfl rfl) h2
  obtain ⟨hn1, hn2⟩ : -9223372036854775808 ≤ n ∧ n ≤ 9223372036854775807 := by
    have := wn
    simp only [Lit.wf, Bool.and_eq_true, decide_eq_true_eq] at this
    exact this
  have hT := of_laid hL
  clear hA0 hval0
  refine (tells_any v0 v1 na nb xa xb n hn1 hn2 W ha hb hT).mono fun e W' ⟨bel, he⟩ => ?_
  subst he
  exact ⟨_, rfl, _, _, _, [], _, [], hW', trodAll_mk1 (shut_bool Tryd.underlying4 _), (trodAll_cons_mk (Below.trod laidOut (by kernel_rfl) (of_decide_eq_true (by kernel_rfl)) h0 bel lt0) (trodAll_cons_mk (Below.trod laidOut (by kernel_rfl) (of_decide_eq_true (by kernel_rfl)) h1 bel lt1) (trodAll_cons_mk (shut_int Tryd.underlying3 wn) trodAll_mk0))), rfl, bel.frame _, fun h => by cases h⟩

theorem tells_holds : Rows.NumTellsSaid :=
  OpenClaim.holds_of_wide 3 Tryd.f3 rfl rfl rfl rfl rfl rfl rfl ⟨rfl, rfl, rfl, rfl, rfl⟩ rfl rfl rfl rfl rfl (by kernel_rfl) Tryd.func3 (by kernel_rfl)
    (of_decide_eq_true (by kernel_rfl)) (by unfold Func.isWrapper; first | (rw [if_pos (by decide +kernel)]; kernel_rfl) | (rw [if_neg (by decide +kernel)]; exact ⟨rfl, rfl⟩))
    (fun os started H enc _ => tells_lifted os started H enc)

theorem tells_card : Rows.NumTellsCardSaid :=
  Claim7.holds_tied_plain_at .later [] [.data] true (true, "42a77e95b8ef9269488dac3a8c52bae1cf7a75fc7fd94978f00f86de717d5f2d") true
    tells_holds (fun _ h => by cases h) (by kernel_rfl) (fun _ h => by cases h) numTells_row_tie rfl ⟨rfl, rfl⟩ (by kernel_rfl) rfl
    (fun f fn hf hfn => by
      obtain rfl : f = 3 := Option.some.inj ((show Tryd.prog.funcNamed "zermelo/zermelolaw01.NumTells" = some 3 by kernel_rfl).symm.trans hf) |>.symm
      obtain rfl : fn = Tryd.f3 := (Option.some.inj (Tryd.func3.symm.trans hfn)).symm
      exact ⟨by kernel_rfl, fun j t ht => by
        rw [Tryd.params3] at ht
        have hm : t ∈ [24, 24, 3] := by simpa using Array.mem_of_getElem? ht
        have hall : ([24, 24, 3].all fun u => !Tryd.prog.wantsStandIn u) = true := by kernel_rfl
        exact (show Tryd.prog.wantsStandIn t = false by simpa using List.all_eq_true.1 hall t hm)⟩)
    (by kernel_rfl)
#print axioms tells_card
end Go.Proofs.YtnacgkljdcfkcaaDoor
