/- zermelolaw01.NumTextsBack -/
import Derived.Test.YtlghjfpkfdnfoaaGreatDoorNumMOrderParts
import Derived.Deep.RegionHeld3
import Derived.Deep.CutRange
import Derived.Test.YtlghjfpkfdnfoaaGreatDoorRows
import Derived.Lay
import Derived.ProofKit
import Derived.LaidMore
import Derived.OpenShut
import Derived.LaidHandle
import Derived.MakeChecks
import Derived.Lib.SmallJoins
import Derived.Test.YtlghjfpkfdnfoaaGreatDoorTie
import Derived.Test.YtlghjfpkfdnfoaaGreatDoorCards
import Derived.SevenTiedAt
import Derived.Below
import Derived.Carry
namespace Go.Proofs.YtlghjfpkfdnfoaaGreatDoor
open Go Go.RowKit Go.Shelf

/-- the integers of NumTextsBack -/
structure TbL (w w1 : World) (na : Bool) (aa : Option Addr) (ma ca : Nat) (nb : Bool) (ab : Option Addr) (mb cb : Nat) (X : World) : Prop where
  ra : RowAt X w.heap.size 24 [.bool na, .slice aa ma ca]
  rb : RowAt X (w.heap.size + 1) 24 [.bool nb, .slice ab mb cb]
  below : Below w.heap.size w X
  more : Below w1.heap.size w1 X
section
variable {w w1 X X' : World} {na nb : Bool} {aa ab : Option Addr} {ma ca mb cb : Nat}
theorem tbl_of (h : TbL w w1 na aa ma ca nb ab mb cb X) : X.cell? ⟨w.heap.size, 0, none⟩ = some (.bool na) ∧ X.cell? ⟨w.heap.size, 1, none⟩ = some (.slice aa ma ca) ∧ X.cell? ⟨w.heap.size + 1, 0, none⟩ = some (.bool nb) ∧ X.cell? ⟨w.heap.size + 1, 1, none⟩ = some (.slice ab mb cb) ∧ TbL w w1 na aa ma ca nb ab mb cb X := ⟨h.ra.cell 0, h.ra.cell 1, h.rb.cell 0, h.rb.cell 1, h⟩
theorem tbl_step (h : TbL w w1 na aa ma ca nb ab mb cb X) (hb : Below X.heap.size X X') : TbL w w1 na aa ma ca nb ab mb cb X' := ⟨h.ra.below hb, h.rb.below hb, h.below.trans (hb.mono h.below.size), h.more.trans (hb.mono h.more.size)⟩
theorem tbl_drew (h : TbL w w1 na aa ma ca nb ab mb cb X) : TbL w w1 na aa ma ca nb ab mb cb X.drew := ⟨h.ra, h.rb, h.below.drew, h.more.drew⟩
theorem tbl_new (h : TbL w w1 na aa ma ca nb ab mb cb X) : TbL w X na aa ma ca nb ab mb cb X := ⟨h.ra, h.rb, h.below, Below.refl _ _⟩
end
theorem bytes_map_ext2 {s t : ByteArray} (h : s.data.toList.map (·.toNat) = t.data.toList.map (·.toNat)) : s = t :=
  bytes_ext ((List.map_inj_right (f := fun (x : UInt8) => x.toNat) (fun _ _ e => UInt8.toNat_inj.1 e)).1 h)
theorem sign_prefix (neg : Bool) (l : List UInt8) (h : neg = false → ∀ c, l.head? = some c → c.toNat ≠ 45) : Lib.hasPrefix ((if neg then [45] else []) ++ l) [45] = neg ∧ Lib.trimPrefix ((if neg then [45] else []) ++ l) [45] = l := by
  unfold Lib.trimPrefix Lib.hasPrefix
  cases neg with
  | true => simp
  | false =>
    cases l with
    | nil => simp
    | cons c t =>
      have h1 := h rfl c rfl
      have h2 : ¬ (45 : UInt8) = c := fun e => h1 (by rw [← e]; rfl)
      simp [List.isPrefixOf, h2]
theorem isEmpty_no {s : ByteArray} (h : ¬ s = ⟨#[]⟩) : s.toList.isEmpty = false := by
  rw [Lib.toList_data]
  cases hh : s.data.toList with
  | nil => exact absurd (bytes_ext (by rw [hh])) h
  | cons => rfl
theorem bytes_mk {s : ByteArray} {l : List UInt8} (h : s.data.toList = l) : (⟨l.toArray⟩ : ByteArray) = s := by
  subst h
  rfl
set_option exponentiation.threshold 100000 in
theorem text_bound {b A : Nat} (hb : 2 ≤ b) (h : A < B32 ^ 60) : A < b ^ 1920 := by
  rw [B32_pow] at h
  exact Nat.lt_of_lt_of_le h (Nat.pow_le_pow_left hb _)
theorem cmpI_range (i j : Int) : cmpI i j = -1 ∨ cmpI i j = 0 ∨ cmpI i j = 1 := by
  unfold cmpI
  (repeat' split) <;> simp

set_option maxHeartbeats 4000000 in
set_option maxRecDepth 100000 in
set_option exponentiation.threshold 100000 in
theorem textsback_any (va vb : Value) (na nb : Bool) (xa xb : List Nat) (base : Nat) (hbase : base ≤ 255) (s : ByteArray) (w : World) (ha : IntAt w va na xa) (hb : IntAt w vb nb xb) (hT : DigitsAt w) :
    Calls Tryz.prog 3 #[va, vb, .int .u8 (base : Int), .string s] w fun e w' => Below w.heap.size w w' ∧ e = .returned (.bool true) := by
  have HA := fun X (hX : Below w.heap.size w X) => ha.below hX
  have HB := fun X (hX : Below w.heap.size w X) => hb.below hX
  obtain ⟨sa, rfl, hra, hla⟩ := ha
  obtain ⟨sb, rfl, hrb, hlb⟩ := hb
  obtain ⟨aa, ca, rfl, hca, hma⟩ := hra.form
  obtain ⟨ab, cb, rfl, hcb, hmb⟩ := hrb.form
  have b1 := (Below.refl w.heap.size w).alloc (Nat.le_refl _) (.cells #[.bool na, .slice aa xa.length ca] 24)
  have hbe := b1.alloc b1.size (.cells #[.bool nb, .slice ab xb.length cb] 24)
  have r1 := (RowAt.new w 24 [.bool na, .slice aa xa.length ca]).alloc (.cells #[.bool nb, .slice ab xb.length cb] 24)
  have r2 := RowAt.new (w.alloc (.cells #[.bool na, .slice aa xa.length ca] 24)) 24 [.bool nb, .slice ab xb.length cb]
  simp only [World.size_alloc] at r2
  generalize hw1 : (w.alloc (.cells #[.bool na, .slice aa xa.length ca] 24)).alloc (.cells #[.bool nb, .slice ab xb.length cb] 24) = wc at *
  have HW := Lib.hid hw1
  have hL0 : TbL w wc na aa xa.length ca nb ab xb.length cb wc := ⟨r1, r2, hbe, Below.refl _ _⟩
  have d1 := r1.cell 0
  have d2 := r1.cell 1
  have d3 := r2.cell 0
  have d4 := r2.cell 1
  simp only [List.getElem?_cons_zero, List.getElem?_cons_succ] at d1 d2 d3 d4
  have hnew := RowAt.new wc 24 [.bool na, .slice aa xa.length ca, .bool nb, .slice ab xb.length cb]
  have hB : Below wc.heap.size wc (wc.alloc (.cells #[.bool na, .slice aa xa.length ca, .bool nb, .slice ab xb.length cb] 24)) := (Below.refl _ _).alloc (Nat.le_refl _) _
  have hf := formed_list [(na, .slice aa xa.length ca, xa), (nb, .slice ab xb.length cb, xb)] 60 wc.heap.size _ hnew (by simp) (by
    intro it hit
    simp only [List.mem_cons, List.not_mem_nil, or_false] at hit
    rcases hit with rfl | rfl
    · exact ⟨(hra.below hbe).below hB, hla⟩
    · exact ⟨(hrb.below hbe).below hB, hlb⟩)
  simp only [List.length_cons, List.length_nil] at hf
  have DT := fun X (hX : Below w.heap.size w X) => hT.below hX
  obtain ⟨q, hq⟩ : ∃ q, base % 35 = q := ⟨_, rfl⟩
  have hq2 : (base : Int) % 35 = (q : Int) := by omega
  have hqb : q ≤ 34 := by omega
  obtain ⟨B, hBq⟩ : ∃ B, 2 + q = B := ⟨_, rfl⟩
  have hBi : 2 + (q : Int) = (B : Int) := by omega
  have hB2 : 2 ≤ B := by omega
  have hB36 : B ≤ 36 := by omega
  obtain ⟨neg, l, hin⟩ := parseIn_ex s
  clear hra hrb hca hma hcb hmb hnew hw1 r1 r2 b1 hq hBq hT
  go_enter Tryz.func3, Tryz.ntmps3
  go_upto_region 1 with (fail)
  rw [HW.out]
  go_upto_region 2 with (fail)
  clear hq2 hbase
  by_cases hgo : List.all [(na, Value.slice aa xa.length ca, xa), (nb, Value.slice ab xb.length cb, xb)] (fitB 60) = true ∧ s.size ≤ 300
  · obtain ⟨hall, hs4⟩ := hgo
    rw [hall] at hf
    have hs5 : decide ((300 : Int) < (s.size : Int)) = false := decide_eq_false (by omega)
    have hs6 : decide (300 < s.size) = false := decide_eq_false (by omega)
    have hlen : l.length ≤ 300 := by
      have := size_toList s
      rw [hin.bytes] at this
      simp at this
      omega
    obtain ⟨⟨fa, la⟩, fb, lb⟩ : (formedB na xa = true ∧ xa.length ≤ 60) ∧ formedB nb xb = true ∧ xb.length ≤ 60 := by
      have := hall
      simp only [List.all_cons, List.all_nil, fitB, Bool.and_true, Bool.and_eq_true, decide_eq_true_eq] at this
      exact ⟨⟨this.1.1, by omega⟩, this.2.1, by omega⟩
    clear hall
    go_upto_region 4 with (go_at_call 4; refine hf.mono ?_; rintro e w2 ⟨hb2, rfl⟩)
    have hL2 := tbl_new (tbl_step hL0 (hB.trans (hb2.mono hB.size)))
    have za : val xa = 0 → na = false := fun h0 => by
      cases na with
      | false => rfl
      | true =>
        have h3 := canon_pos_iff (formedB_bounds hla fa).1
        have h4 : xa.length ≠ 0 := by
          intro h0
          simp [formedB, h0] at fa
        omega
    have zb : val xb = 0 → nb = false := fun h0 => by
      cases nb with
      | false => rfl
      | true =>
        have h3 := canon_pos_iff (formedB_bounds hlb fb).1
        have h4 : xb.length ≠ 0 := by
          intro h0
          simp [formedB, h0] at fb
        omega
    have va60 := (canon_length_iff (formedB_bounds hla fa).1 60).1 la
    have vb60 := (canon_length_iff (formedB_bounds hlb fb).1 60).1 lb
    have IA := fun X (hX : Below w.heap.size w X) => (HA X hX).isInt fa
    have IB := fun X (hX : Below w.heap.size w X) => (HB X hX).isInt fb
    have kT := fun X (hX : Below w.heap.size w X) => Text_ok _ na xa B X (HA X hX) fa hB2 hB36 (DT X hX)
    have kU := fun X (hX : Below w.heap.size w X) => Text_ok _ nb xb B X (HB X hX) fb hB2 hB36 (DT X hX)
    have e1 := hL2.ra.cell 0
    have e2 := hL2.ra.cell 1
    simp only [List.getElem?_cons_zero, List.getElem?_cons_succ] at e1 e2
    have HX := Lib.hid (And.intro za (And.intro zb (And.intro va60 (And.intro vb60 (And.intro IA IB)))))
    clear hL0 hB hb2 hf hbe d1 d2 d3 d4 hs5 hs6 HW la lb fa fb za zb va60 vb60 IA IB hla hlb HA HB
    go_upto_region 5 with (go_at_call 6; with_reducible refine (kT _ hL2.below).mono ?_; rintro e w3 ⟨hb3, t, rfl, ht⟩)
    have hL3 := tbl_new (tbl_step hL2 hb3)
    clear hL2 e1 e2 hb3
    obtain ⟨lt, ht1, ht2⟩ := text_in hB2 hB36 HX.out.1 ht
    have kP := fun X => Parse_ok t B X hB2 hB36 na lt ht1 ht2.ne (Nat.le_trans (ht2.len 1920 (by decide) (text_bound hB2 HX.out.2.2.1)) (by decide)) ht2.dig (by rw [ht2.num]; exact Nat.lt_of_lt_of_le HX.out.2.2.1 (Nat.pow_le_pow_right B32_pos (by decide)))
    rw [ht2.num] at kP
    go_upto_region 6 with (go_at_call 7; with_reducible refine (kP _).mono ?_; rintro e w4 ⟨hb4, v4, rfl, hI4⟩; obtain ⟨n4, a4, m4, c4, rfl⟩ := hI4.shape)
    have hal4 := (Below.refl w4.heap.size w4).alloc (Nat.le_refl _) (.cells #[.bool n4, .slice a4 m4 c4] 24)
    have hL4 := tbl_new (tbl_step hL3 (hb4.trans (hal4.mono hb4.size)))
    have R4 := RowAt.new w4 24 [.bool n4, .slice a4 m4 c4]
    replace hI4 := hI4.below hal4
    clear hal4 hb4 hL3 kP kT
    generalize w4.alloc (.cells #[.bool n4, .slice a4 m4 c4] 24) = w5 at *
    generalize w4.heap.size = b12 at *
    have e1 := hL4.rb.cell 0
    have e2 := hL4.rb.cell 1
    simp only [List.getElem?_cons_zero, List.getElem?_cons_succ] at e1 e2
    go_upto_region 7 with (go_at_call 6; with_reducible refine (kU _ hL4.below).mono ?_; rintro e w6 ⟨hb6, u, rfl, hu⟩)
    have hL6 := tbl_new (tbl_step hL4 hb6)
    replace R4 := R4.below hb6
    replace hI4 := hI4.below hb6
    clear hL4 hb6 kU e1 e2
    obtain ⟨lu, hu1, hu2⟩ := text_in hB2 hB36 HX.out.2.1 hu
    have e1 := hL6.ra.cell 0
    have e2 := hL6.ra.cell 1
    have e3 := R4.cell 0
    have e4 := R4.cell 1
    simp only [List.getElem?_cons_zero, List.getElem?_cons_succ] at e1 e2 e3 e4
    have kS := rsame_eq _ _ _ w6 hI4 (HX.out.2.2.2.2.1 w6 hL6.below)
    go_upto_region 9 with (go_at_call 8; with_reducible refine kS.mono ?_; rintro e w7 ⟨hb7, rfl⟩)
    have hL7 := tbl_new (tbl_step hL6 hb7)
    clear hL6 hb7 e1 e2 e3 e4 kS R4 hI4
    go_cut [91] from 68 to 91 (fun v W => v = .bool false ∧ TbL w w7 na aa xa.length ca nb ab xb.length cb W)
    case first =>
      have e1 := hL7.ra.cell 0
      have e3 := hL7.rb.cell 0
      simp only [List.getElem?_cons_zero] at e1 e3
      cases na with
      | true =>
        go_wp2_with fail
        go_quiet (fail)
        go_wp2
        go_meet
        exact ⟨rfl, tbl_step hL7 (below_drewN (Below.refl _ _) nq)⟩
      | false =>
        cases nb with
        | true =>
          go_wp2_with fail
          go_quiet (fail)
          go_wp2
          go_meet
          exact ⟨rfl, tbl_step hL7 (below_drewN (Below.refl _ _) nq)⟩
        | false =>
          by_cases hl : t.size = u.size
          · have e5 : ((t.size : Int) == (u.size : Int)) = true := by simp [hl]
            have hcmp : Lib.compareBytes t.data.toList u.data.toList = cmpI (val xa : Int) (val xb : Int) := by
              rw [ht1, hu1]
              simp only [Bool.false_eq_true, if_false, List.nil_append]
              rw [compare_texts hB36 lt lu ?_ (fun c hc => ⟨ht2.dig c hc, ht2.char c hc⟩) (fun c hc => ⟨hu2.dig c hc, hu2.char c hc⟩), ht2.num, hu2.num]
              have := hl
              rw [← size_toList, ← size_toList, ht1, hu1] at this
              simpa using this
            have kC := fun X => (Tryz.strings_Compare t u X).mono (R' := fun e w' => Below X.heap.size X w' ∧ e = .returned (.int .i64 (cmpI (val xa : Int) (val xb : Int)))) (fun e w' ⟨h1, h2⟩ => ⟨h2 ▸ Below.refl _ _, by rw [h1, hcmp]⟩)
            have kD := fun X (hX : TbL w w7 false aa xa.length ca false ab xb.length cb X) => compare_int _ _ _ _ X (HX.out.2.2.2.2.1 X hX.below) (HX.out.2.2.2.2.2 X hX.below) (by rw [sgn_natAbs]; exact Nat.lt_of_lt_of_le HX.out.2.2.1 (Nat.pow_le_pow_right B32_pos (by decide))) (by rw [sgn_natAbs]; exact Nat.lt_of_lt_of_le HX.out.2.2.2.1 (Nat.pow_le_pow_right B32_pos (by decide)))
            rw [show sgn false (val xa) = (val xa : Int) from rfl, show sgn false (val xb) = (val xb : Int) from rfl] at kD
            obtain ⟨c, hc⟩ : ∃ c, cmpI (val xa : Int) (val xb : Int) = c := ⟨_, rfl⟩
            rw [hc] at kC kD
            have hD := Lib.hid (tbl_of (tbl_drew hL7))
            clear hcmp hc
            go_wp2_with fail
            go_region_held3 (fun X => X.cell? ⟨w.heap.size, 0, none⟩ = some (.bool false) ∧ X.cell? ⟨w.heap.size, 1, none⟩ = some (.slice aa xa.length ca) ∧ X.cell? ⟨w.heap.size + 1, 0, none⟩ = some (.bool false) ∧ X.cell? ⟨w.heap.size + 1, 1, none⟩ = some (.slice ab xb.length cb) ∧ TbL w w7 false aa xa.length ca false ab xb.length cb X)
              (first | exact hD.out | (go_split_ands; exact tbl_of (tbl_step (by assumption) hbc)))
              (first
                | (go_at_call 9; go_split_ands; with_reducible refine (kC _).mono ?_; rintro e wk ⟨hbc, rfl⟩)
                | (go_at_call 10; go_split_ands; with_reducible refine (kD _ (by assumption)).mono ?_; rintro e wk ⟨hbc, rfl⟩))
            rename_i hX
            obtain ⟨-, -, -, -, O1⟩ := hX
            go_wp2
            go_meet
            exact ⟨by simp, O1⟩
          · have e5 : ((t.size : Int) == (u.size : Int)) = false := by simp; omega
            go_wp2_with fail
            go_quiet (fail)
            go_wp2
            go_meet
            exact ⟨rfl, tbl_step hL7 (below_drewN (Below.refl _ _) nq)⟩
    case rest =>
      obtain ⟨rfl, hL8⟩ := hcut
      generalize wc = w8 at *
      replace hL8 := tbl_new hL8
      clear hL7 ht ht1 ht2 hu hu1 hu2
      have kQ := fun X => Parse_any s (B : Int) neg l X hin (Nat.le_trans hlen (by decide))
      go_upto_region 12 with (go_at_call 7; with_reducible refine (kQ _).mono ?_; rintro e w9 ⟨hb9, n5, a5, m5, c5, k5, rfl, hP⟩)
      have hal9 := (Below.refl w9.heap.size w9).alloc (Nat.le_refl _) (.cells #[.bool n5, .slice a5 m5 c5] 24)
      have B9 := hL8.below.trans ((hb9.trans (hal9.mono hb9.size)).mono hL8.below.size)
      have R9 := RowAt.new w9 24 [.bool n5, .slice a5 m5 c5]
      clear hL8 hb9 kQ
      unfold ParseOut at hP
      rw [if_pos (show (2 : Int) ≤ (B : Int) ∧ (B : Int) ≤ 36 by omega), Int.toNat_natCast] at hP
      by_cases hbad : l = [] ∨ ¬ ∀ c ∈ l, digitVal c.toNat < B
      · rw [if_pos hbad] at hP
        obtain ⟨rfl, hz⟩ := hP
        simp only [zeroInt, Value.agg.injEq, Array.mk.injEq, List.cons.injEq, Value.bool.injEq, Value.slice.injEq, and_true] at hz
        obtain ⟨rfl, rfl, rfl, rfl⟩ := hz
        clear hbad
        generalize w9.alloc (.cells #[.bool false, .slice none 0 0] 24) = w10 at *
        generalize w9.heap.size = b16 at *
        have kA := sane_any _ (DT _ B9)
        go_wp2_with (go_at_call 5; with_reducible refine kA.mono ?_; rintro e w11 ⟨hb11, rfl⟩; have R11 := R9.below hb11; have e1 := R11.cell 0; have e2 := R11.cell 1; simp only [List.getElem?_cons_zero, List.getElem?_cons_succ] at e1 e2)
        go_ret
        exact ⟨B9.trans (hb11.mono B9.size), rfl⟩
      · rw [if_neg hbad] at hP
        obtain ⟨rfl, hI⟩ := hP
        have hl0 : l ≠ [] := fun h => hbad (.inl h)
        have hdg : ∀ c ∈ l, digitVal c.toNat < B := Classical.byContradiction fun h => hbad (.inr h)
        have hI9 := hI.below hal9
        have hNb : numBE B l < B32 ^ 300 := numBE_bound hB36 l hdg (Nat.le_trans hlen (by decide))
        have hst := strip_eq hB2 hB36 hin hdg
        clear hbad hI
        generalize w9.alloc (.cells #[.bool n5, .slice a5 m5 c5] 24) = w10 at *
        generalize w9.heap.size = b16 at *
        obtain ⟨n6, x6, hA6, f6, hs6, hk6, hn6⟩ := hI9.at (by rw [sgn_natAbs]; exact hNb)
        have hv6 : val x6 = numBE B l := by
          have h1 := congrArg Int.natAbs hs6
          rw [sgn_natAbs, sgn_natAbs] at h1
          exact h1.symm
        have kT := Text_ok _ n6 x6 B w10 hA6 f6 hB2 hB36 (DT _ B9)
        have e1 := R9.cell 0
        have e2 := R9.cell 1
        simp only [List.getElem?_cons_zero, List.getElem?_cons_succ] at e1 e2
        have hn66 : numBE B l ≠ 0 → n6 = neg := fun h0 => by
          have h1 : ∀ p q : Bool, sgn p (numBE B l) = sgn q (numBE B l) → p = q := fun p q e => by
            cases p <;> cases q <;> simp [sgn] at e ⊢ <;> omega
          rw [hv6] at hs6
          exact (h1 _ _ hs6).symm
        have HY := Lib.hid (And.intro hl0 (And.intro hdg (And.intro hst (And.intro hv6 (And.intro hn66 hin)))))
        clear hl0 hdg hst hv6 hn66 hA6 f6 hs6 hk6 hn6 hI9 hNb
        go_upto_region 15 with (go_at_call 6; with_reducible refine kT.mono ?_; rintro e w11 ⟨hb11, g, rfl, hg⟩)
        have B11 := B9.trans (hb11.mono B9.size)
        clear e1 e2 R9 B9 kT hb11 hal9
        have hasc : ∀ (j : Nat) (b : UInt8), s.data.toList[j]? = some b → b.toNat < 128 := by
          intro j b hj
          have hmem := List.mem_of_getElem? hj
          rw [HY.out.2.2.2.2.2.bytes] at hmem
          rcases List.mem_append.1 hmem with h | h
          · cases neg with
            | true =>
              obtain rfl := List.mem_singleton.1 h
              decide
            | false => simp at h
          · exact (lower_digit b (Nat.lt_of_lt_of_le (HY.out.2.1 b h) hB36)).2.1
        obtain ⟨s1, hs1⟩ : ∃ s1 : ByteArray, (⟨(Lib.toLowerA s.data.toList).toArray⟩ : ByteArray) = s1 := ⟨_, rfl⟩
        obtain ⟨s2, hs2⟩ : ∃ s2 : ByteArray, (⟨(Lib.trimPrefix s1.data.toList [45]).toArray⟩ : ByteArray) = s2 := ⟨_, rfl⟩
        obtain ⟨s3, hs3⟩ : ∃ s3 : ByteArray, (⟨(Lib.trimLeftB s2.data.toList 48).toArray⟩ : ByteArray) = s3 := ⟨_, rfl⟩
        have k1 := fun X => (Tryz.strings_ToLower_ascii s X (by omega) hasc).mono (R' := fun e w' => Below X.heap.size X w' ∧ e = .returned (.string s1)) (fun e w' ⟨h1, h2⟩ => ⟨h2, by rw [h1, hs1]⟩)
        have k2 := fun X => (Tryz.strings_TrimPrefix s1 ⟨#[45]⟩ X).mono (R' := fun e w' => Below X.heap.size X w' ∧ e = .returned (.string s2)) (fun e w' ⟨h1, h2⟩ => ⟨h2 ▸ Below.refl _ _, by rw [h1, ← hs2]⟩)
        have k3 := fun X => (Tryz.strings_TrimLeft_one s2 48 (by decide) X).mono (R' := fun e w' => Below X.heap.size X w' ∧ e = .returned (.string s3)) (fun e w' ⟨h1, h2⟩ => ⟨h2 ▸ Below.refl _ _, by rw [h1, hs3]⟩)
        have hstrip : s3.data.toList = strip s.data.toList := by rw [← hs3, ← hs2, ← hs1]; rfl
        clear hs1 hs2 hs3 hasc
        go_upto_region 16 with (first
          | (go_at_call 13; with_reducible refine (k1 _).mono ?_; rintro e w12 ⟨hb12, rfl⟩; have B12 := B11.trans (hb12.mono B11.size))
          | (go_at_call 12; refine (k2 _).mono ?_; rintro e w13 ⟨hb13, rfl⟩; have B13 := B12.trans (hb13.mono B12.size))
          | (go_at_call 11; refine (k3 _).mono ?_; rintro e w14 ⟨hb14, rfl⟩; have B14 := B13.trans (hb14.mono B13.size)))
        have HZ := Lib.hid hstrip
        clear k1 k2 k3 hb12 hb13 hb14 hs4 hlen hin hstrip
        by_cases h0 : numBE B l = 0
        · obtain rfl : s3 = ⟨#[]⟩ := by
            have h1 := HY.out.2.2.1
            rw [h0, digits_zero] at h1
            have h2 : s3.data.toList = [] := by rw [HZ.out]; simpa using h1
            exact bytes_ext (by rw [h2])
          obtain rfl : g = ⟨#[48]⟩ := by
            rw [HY.out.2.2.2.1, h0] at hg
            have h2 : textOf n6 B 0 = [48] := by simp [textOf]
            rw [h2] at hg
            exact bytes_map_ext2 (by rw [hg]; rfl)
          clear HY HZ HX
          have kA := fun X hX => sane_any X (DT X hX)
          go_wp2_with (go_at_call 5; with_reducible refine (kA _ B14).mono ?_; rintro e w15 ⟨hb15, rfl⟩)
          go_ret
          exact ⟨B14.trans (hb15.mono B14.size), rfl⟩
        · have hst : s3.data.toList.map (·.toNat) = textOf false B (numBE B l) := by
            rw [HZ.out, HY.out.2.2.1]
            simp [textOf, h0]
          have hit := isText_of hB2 hB36 hst
          have hg3 : g.data.toList = (if neg then [45] else []) ++ s3.data.toList := by
            rw [HY.out.2.2.2.1, HY.out.2.2.2.2.1 h0] at hg
            have h2 : textOf neg B (numBE B l) = ((if neg then [(45 : UInt8)] else []) ++ s3.data.toList).map (·.toNat) := by
              rw [List.map_append, hst]
              cases neg <;> simp [textOf, h0]
            rw [h2] at hg
            exact (List.map_inj_right (f := fun (x : UInt8) => x.toNat) (fun _ _ e => UInt8.toNat_inj.1 e)).1 hg
          have hfst : ∀ c, s3.data.toList.head? = some c → c.toNat ≠ 45 := by
            intro c hc
            have h1 := hit.char c (List.mem_of_head? hc)
            have h2 := digChar_ge (digitVal c.toNat)
            omega
          obtain ⟨p1, p2⟩ := sign_prefix neg s3.data.toList (fun _ => hfst)
          obtain ⟨p3, -⟩ := sign_prefix neg l HY.out.2.2.2.2.2.first
          have q1 : ¬ s3 = ⟨#[]⟩ := fun e => hit.ne (by rw [e])
          have q2 := isEmpty_no q1
          have k4 := fun X => (Tryz.strings_TrimPrefix g ⟨#[45]⟩ X).mono (R' := fun e w' => Below X.heap.size X w' ∧ e = .returned (.string s3)) (fun e w' ⟨h1, h2⟩ => ⟨h2 ▸ Below.refl _ _, by rw [h1, show (⟨#[45]⟩ : ByteArray).data.toList = [45] from rfl, hg3, p2]⟩)
          have k5 := fun X => (Tryz.strings_HasPrefix g ⟨#[45]⟩ X).mono (R' := fun e w' => Below X.heap.size X w' ∧ e = .returned (.bool neg)) (fun e w' ⟨h1, h2⟩ => ⟨h2 ▸ Below.refl _ _, by rw [h1, show (⟨#[45]⟩ : ByteArray).data.toList = [45] from rfl, hg3, p1]⟩)
          have k6 := fun X => (Tryz.strings_HasPrefix s ⟨#[45]⟩ X).mono (R' := fun e w' => Below X.heap.size X w' ∧ e = .returned (.bool neg)) (fun e w' ⟨h1, h2⟩ => ⟨h2 ▸ Below.refl _ _, by rw [h1, show (⟨#[45]⟩ : ByteArray).data.toList = [45] from rfl, HY.out.2.2.2.2.2.bytes, p3]⟩)
          have kA := fun X hX => sane_any X (DT X hX)
          clear hst hit hg3 hfst p1 p2 p3 q1 hg HY HZ HX
          go_wp2_with (first
            | (go_at_call 5; with_reducible refine (kA _ B14).mono ?_; rintro e w15 ⟨hb15, rfl⟩; have B15 := B14.trans (hb15.mono B14.size))
            | (go_at_call 12; refine (k4 _).mono ?_; rintro e w16 ⟨hb16, rfl⟩; have B16 := B15.trans (hb16.mono B15.size))
            | (go_at_call 14; with_reducible refine (k5 _).mono ?_; rintro e w17 ⟨hb17, rfl⟩; have B17 := B16.trans (hb17.mono B16.size))
            | (go_at_call 14; with_reducible refine (k6 _).mono ?_; rintro e w18 ⟨hb18, rfl⟩; have B18 := B17.trans (hb18.mono B17.size)))
          go_ret
          exact ⟨B18, rfl⟩
  · cases hall : List.all [(na, Value.slice aa xa.length ca, xa), (nb, Value.slice ab xb.length cb, xb)] (fitB 60) with
    | false =>
      rw [hall] at hf
      clear hall hgo hin
      go_wp2_with (first
        | (go_at_call 4; refine hf.mono ?_; rintro e w2 ⟨hb2, rfl⟩; have B3 := hL0.below.trans ((hB.trans (hb2.mono hB.size)).mono hL0.below.size))
        | (go_at_call 5; refine (sane_any _ (DT _ B3)).mono ?_; rintro e w3 ⟨hb3, rfl⟩))
      go_ret
      exact ⟨B3.trans (hb3.mono B3.size), rfl⟩
    | true =>
      rw [hall] at hf hgo
      have hs4 : 300 < s.size := by
        apply Classical.byContradiction
        intro h
        exact hgo ⟨rfl, by omega⟩
      have hs5 : decide ((300 : Int) < (s.size : Int)) = true := decide_eq_true (by omega)
      have hs6 : decide (300 < s.size) = true := decide_eq_true hs4
      clear hall hgo hs4 hin
      go_wp2_with (first
        | (go_at_call 4; refine hf.mono ?_; rintro e w2 ⟨hb2, rfl⟩; have B3 := hL0.below.trans ((hB.trans (hb2.mono hB.size)).mono hL0.below.size))
        | (go_at_call 5; refine (sane_any _ (DT _ B3)).mono ?_; rintro e w3 ⟨hb3, rfl⟩))
      go_ret
      exact ⟨B3.trans (hb3.mono B3.size), rfl⟩
end Go.Proofs.YtlghjfpkfdnfoaaGreatDoor

/- (the great seat: four listed variables) from the rows' conditions to what the walks ask: the table of digits, an argument api.Int -/
namespace Go.Proofs.YtlghjfpkfdnfoaaGreatDoor
open Go.ChangeShapes Go.WideShapes Go.ChangeAt Go.RowKit Go.Joins

theorem own : ownKnob Tryz.prog.godebug = none := by kernel_rfl
theorem laidOut : laidOutB Tryz.prog = true := by kernel_rfl
theorem cells_int : Tryz.prog.cellsOf 24 = 2 := by kernel_rfl
theorem gDigits : Tryz.prog.globalNamed "zermelo/num.digits" = some 0 := by kernel_rfl
theorem tDigits : (Tryz.prog.globals[0]?).map (·.type) = some 91 := by kernel_rfl
theorem cells_byte : Tryz.prog.cellsOf 5 = 1 := by kernel_rfl
theorem cells_u32 : Tryz.prog.cellsOf 52 = 1 := by kernel_rfl
theorem tTable : Tryz.prog.underlying 91 = some (.array 36 5) := by kernel_rfl
theorem tByte : Tryz.prog.underlying 5 = some (.int .u8) := by kernel_rfl

theorem laid_digits {H : Type} : (Rows.laid_zermelo_num_digits : DataW H) = .agg ((List.range 36).map fun i => .lit (.int .u8 ((digChar i : Nat) : Int))) := by rfl

abbrev theLaid : List (String × DataW Unit) := [("unicode/utf8.acceptRanges", Rows.laid_unicode_utf8_acceptRanges), ("zermelo/num.digits", Rows.laid_zermelo_num_digits), ("unicode.CaseRanges", Rows.laid_unicode_CaseRanges), ("unicode/utf8.first", Rows.laid_unicode_utf8_first)]

/-- What the condition gives the walks. -/
theorem of_laid {W : World} (h : laidMetH Tryz.prog theLaid W) : DigitsAt W := by
  rw [MakeChecks.laidMetH_plain _ _ _ (by kernel_rfl)] at h
  obtain ⟨ps, ⟨_, _, _, _, _, _, _, _, _, _, ⟨g0, t0, cs0, f0, p0, q0, hg0, ht0, hv0, hd0, _⟩, _⟩, _⟩ := h
  obtain rfl := Option.some.inj (gDigits.symm.trans hg0)
  obtain rfl := Option.some.inj (tDigits.symm.trans ht0)
  obtain ⟨xs, m, rfl, hx, hlen, hn, hel⟩ := DataW.trod_array tTable hd0
  intro i hi
  have h1 := hel i hi
  rw [cells_byte, Nat.mul_one] at h1
  simp only [Prod.mk.injEq] at hx
  have h2 := hx.1
  rw [laid_digits, DataW.agg.injEq] at h2
  have h3 : (xs.map (·.1))[i]? = some (.lit (.int .u8 ((digChar i : Nat) : Int))) := by
    rw [← h2]
    simp [hi]
  rw [List.getElem?_map] at h3
  cases hxi : xs[i]? with
  | none => rw [hxi] at h3; simp at h3
  | some y =>
    rw [hxi] at h1 h3
    simp only [Option.map_some, Option.some.injEq] at h3
    obtain ⟨k, e1, e2, _⟩ := DataW.trod_int tByte h1
    rw [e2] at h3
    simp only [DataW.lit.injEq, Lit.int.injEq, true_and] at h3
    subst h3
    have hc := World.var?_cell hg0 hv0 i
    rw [hc]
    have : (cs0.toList.drop i)[0]? = some (.int .u8 ((digChar i : Nat) : Int)) := by
      have := congrArg (·[0]?) e1
      simpa using this
    simpa using this
set_option maxRecDepth 100000 in
/-- An argument api.Int, opened. -/
theorem open_Int {H : Type} {enc : TypeId × Value → H} {W : World} {base : Nat} {v : Value} {d : DataW H} {p : List MemPlace} (hv : Value.okWide Tryz.prog W .any base 24 v) (h : DataW.Trod enc Tryz.prog W 0 (fun _ => true) true 24 v d p) : ∃ neg xs, IntAt W v neg xs := by
  obtain ⟨c0, c1, y0, y1, m, rfl, rfl, rfl, hy0, hy1⟩ := open_agg2 Tryz.underlying24 (by kernel_rfl) cells_int hv h
  obtain ⟨neg, e0, -⟩ := DataW.trod_bool Tryz.underlying4 hy0
  simp only [List.cons.injEq, and_true] at e0
  subst e0
  refine ⟨neg, ?_⟩
  rcases open_ints Tryz.underlying22 Tryz.underlying52 cells_u32 hy1 with ⟨hcs, -⟩ | ⟨x, l, c, zs, hcs, _, hl, hm, hz, _, hcell, hwz⟩
  · simp only [List.cons.injEq, and_true] at hcs
    subst hcs
    exact ⟨[], _, rfl, ⟨none, 0, rfl, Nat.le_refl _, Nat.zero_le _, fun j hj => absurd hj (Nat.not_lt_zero _)⟩, fun x hx => absurd hx (List.not_mem_nil)⟩
  · simp only [List.cons.injEq, and_true] at hcs
    subst hcs
    simp only [if_pos] at hz
    have hget : ∀ j, j < l → ∃ n : Nat, zs.getD j 0 = (n : Int) ∧ n < B32 := by
      intro j hj
      have hj' : j < zs.length := by omega
      have hw := hwz (zs.getD j 0) (by rw [List.getD_eq_getElem?_getD, List.getElem?_eq_getElem hj', Option.getD_some]; exact List.getElem_mem hj')
      simp only [Lit.wf, Bool.and_eq_true, decide_eq_true_eq] at hw
      have h1 : (0 : Int) ≤ zs.getD j 0 := hw.1
      have h2 : zs.getD j 0 ≤ (4294967295 : Int) := hw.2
      obtain ⟨n, hn⟩ := Int.eq_ofNat_of_zero_le h1
      refine ⟨n, hn, ?_⟩
      rw [hn] at h2
      show n < 4294967296
      omega
    have hlen : ((zs.take l).map Int.toNat).length = l := by simp; omega
    have hgl : ∀ j, j < l → ((zs.take l).map Int.toNat)[j]? = some (zs.getD j 0).toNat := by
      intro j hj
      have hj' : j < zs.length := by omega
      simp [hj, List.getElem?_eq_getElem hj']
    refine ⟨(zs.take l).map Int.toNat, .slice (some x) l c, rfl, ⟨some x, c, by rw [hlen], by rw [hlen]; exact hl, hm, fun j hj => ?_⟩, ?_⟩
    · rw [hlen] at hj
      obtain ⟨n, h1, -⟩ := hget j hj
      have h2 := hcell j (by omega)
      obtain ⟨b, off, spot⟩ := x
      have h0 := hcell 0 (by omega)
      have hspot : spot = none := by simpa [Addr.add] using World.cell?_spot h0
      subst hspot
      refine ⟨⟨b, off, rfl⟩, ?_⟩
      rw [hgl j hj, lookAt_some]
      rw [h1] at h2 ⊢
      simp only [Option.getD_some, Int.toNat_natCast]
      rw [← h2]
      congr 1
      unfold Addr.add
      split
      · rename_i e; subst e; rfl
      · rfl
    · intro y hy
      obtain ⟨j, hj, rfl⟩ := List.mem_iff_getElem.1 hy
      rw [hlen] at hj
      obtain ⟨n, h1, h2⟩ := hget j hj
      have h3 := hgl j hj
      rw [List.getElem?_eq_getElem (by rw [hlen]; exact hj)] at h3
      rw [Option.some.inj h3, h1]
      simpa using h2
end Go.Proofs.YtlghjfpkfdnfoaaGreatDoor

/- zermelolaw01.NumTextsBack: the row and its card -/
namespace Go.Proofs.YtlghjfpkfdnfoaaGreatDoor
open Go.ChangeShapes Go.WideShapes Go.ChangeAt Go.RowKit Go.Joins

set_option maxRecDepth 100000 in
theorem textsback_lifted (os : Os) (started : os.Started) (H : Type) (enc : TypeId × Value → H) :
    ReturnsInHanded {} Tryz.checked os 3 .any (fun w args => (Rows.numTextsBackSpec.pre enc Tryz.prog Tryz.f3 [] false w args ∧ laidMetH Tryz.prog theLaid w) ∧ sizedMet enc Tryz.prog Tryz.f3 (OpenSpec.ofChange Rows.numTextsBackSpec) false w args)
      (Rows.numTextsBackSpec.post enc Tryz.prog Tryz.f3 false true false false) := by
  refine returnsInHanded_of_change_and (C := Tryz.checked) (X := fun w _ => laidMetH Tryz.prog theLaid w) (fun _ _ _ hh h => h.of_heap hh) own started (by kernel_rfl) Tryz.func3
    (ChangeSpec.witness_shaped (enc := enc) (C := Tryz.checked) (os := os) (X := fun w _ => laidMetH Tryz.prog theLaid w) false (World.laidAll Tryz.prog os theLaid) #[.agg #[.bool false, .slice none 0 0], .agg #[.bool false, .slice none 0 0], .int .u8 0, .string ByteArray.empty] 8 (World.laidAll_os _ _ _) (World.shaped_of_ZipB (by kernel_rfl) (by kernel_rfl)) (by kernel_rfl) (by kernel_rfl) (by kernel_rfl) (by rw [MakeChecks.laidMetH_plain _ _ _ (by kernel_rfl)]; exact laidMet_laidAll _ (by kernel_rfl) (by kernel_rfl))) ?_
  intro W base args ds gs before hval0 hW _ _ hL _
  have hval : ∀ (j : Nat) t v, Tryz.f3.params[j]? = some t → args[j]? = some v → Value.okWide Tryz.prog W .any base t v := hval0
  have hW' := hW
  obtain ⟨p, q, hA0, hV, rfl, hfz, hnd⟩ := hW
  have hA : DataW.TrodAll enc Tryz.prog W 0 (fun _ => true) true Tryz.f3.params.toList args.toList ds p := hA0
  rw [Tryz.params3] at hA hval
  obtain ⟨v0, vs0, d0, ds0, p0, q0, hargs, rfl, rfl, h0, r0⟩ := trodAll_cons hA
  obtain ⟨v1, vs1, d1, ds1, p1, q1, rfl, rfl, rfl, h1, r1⟩ := trodAll_cons r0
  obtain ⟨v2, vs2, d2, ds2, p2, q2, rfl, rfl, rfl, h2, r2⟩ := trodAll_cons r1
  obtain ⟨v3, vs3, d3, ds3, p3, q3, rfl, rfl, rfl, h3, r3⟩ := trodAll_cons r2
  obtain ⟨rfl, rfl, rfl⟩ := trodAll_nil r3
  obtain rfl : args = #[v0, v1, v2, v3] := by cases args; simp_all
  obtain ⟨rfl, rfl⟩ := trodVars_none hV
  have lt0 : ∀ x ∈ p0, x.block < W.heap.size := by obtain ⟨m, hm⟩ := h0; exact DataW.trod_lt m _ _ _ hm
  have lt1 : ∀ x ∈ p1, x.block < W.heap.size := by obtain ⟨m, hm⟩ := h1; exact DataW.trod_lt m _ _ _ hm
  obtain ⟨n0, x0, a0⟩ := open_Int (hval 0 24 v0 rfl rfl) h0
  obtain ⟨n1, x1, a1⟩ := open_Int (hval 1 24 v1 rfl rfl) h1
  obtain ⟨i2, rfl, rfl, rfl, wn2⟩ := open_int Tryz.underlying5 (hval 2 5 v2 rfl rfl) h2
  obtain ⟨lo2, hi2⟩ : 0 ≤ i2 ∧ i2 ≤ 255 := by
    have := wn2
    simp only [Lit.wf, Bool.and_eq_true, decide_eq_true_eq] at this
    exact this
  obtain ⟨m2, rfl⟩ := Int.eq_ofNat_of_zero_le lo2
  obtain ⟨s3, rfl, rfl, rfl, hs3⟩ := Go.ChangeMaps.open_string Tryz.underlying9 (hval 3 9 v3 rfl rfl) h3
  have hT := of_laid hL
  clear hA0 hval0
  refine (textsback_any v0 v1 n0 n1 x0 x1 m2 (by omega) s3 W a0 a1 hT).mono fun e W' ⟨bel, he⟩ => ?_
  subst he
  exact ⟨_, rfl, _, _, _, [], _, [], hW', trodAll_mk1 (shut_bool Tryz.underlying4 _), (trodAll_cons_mk (Below.trod laidOut (by kernel_rfl) (of_decide_eq_true (by kernel_rfl)) h0 bel lt0) (trodAll_cons_mk (Below.trod laidOut (by kernel_rfl) (of_decide_eq_true (by kernel_rfl)) h1 bel lt1) (trodAll_cons_mk (shut_int Tryz.underlying5 wn2) (trodAll_cons_mk (Go.ChangeMaps.shut_string Tryz.underlying9 hs3) trodAll_mk0)))), rfl, bel.frame _, fun h => by cases h⟩

theorem textsback_holds : Rows.NumTextsBackSaid :=
  OpenClaim.holds_of_wide 3 Tryz.f3 rfl rfl rfl rfl rfl rfl rfl ⟨rfl, rfl, rfl, rfl, rfl⟩ rfl rfl rfl rfl rfl (by kernel_rfl) Tryz.func3 (by kernel_rfl)
    (of_decide_eq_true (by kernel_rfl)) (by unfold Func.isWrapper; first | (rw [if_pos (by decide +kernel)]; kernel_rfl) | (rw [if_neg (by decide +kernel)]; exact ⟨rfl, rfl⟩))
    (fun os started H enc _ => textsback_lifted os started H enc)

theorem textsback_card : Rows.NumTextsBackCardSaid :=
  Claim7.holds_tied_plain_at .later [] [.data, .data, .pinned, .pinned] true (true, "90403c41e4aaf4689ed31cbc24285a46ae8a181e7f75410a110245dd2ca62049") true
    textsback_holds (fun _ h => by cases h) (by kernel_rfl) (fun _ h => by cases h) numTextsBack_row_tie rfl ⟨rfl, rfl⟩ (by kernel_rfl) rfl
    (fun f fn hf hfn => by
      obtain rfl : f = 3 := Option.some.inj ((show Tryz.prog.funcNamed "zermelo/zermelolaw01.NumTextsBack" = some 3 by kernel_rfl).symm.trans hf) |>.symm
      obtain rfl : fn = Tryz.f3 := (Option.some.inj (Tryz.func3.symm.trans hfn)).symm
      exact ⟨by kernel_rfl, fun j t ht => by
        rw [Tryz.params3] at ht
        have hm : t ∈ [24, 24, 5, 9] := by simpa using Array.mem_of_getElem? ht
        have hall : ([24, 24, 5, 9].all fun u => !Tryz.prog.wantsStandIn u) = true := by kernel_rfl
        exact (show Tryz.prog.wantsStandIn t = false by simpa using List.all_eq_true.1 hall t hm)⟩)
    (by kernel_rfl)
#print axioms textsback_card
end Go.Proofs.YtlghjfpkfdnfoaaGreatDoor
