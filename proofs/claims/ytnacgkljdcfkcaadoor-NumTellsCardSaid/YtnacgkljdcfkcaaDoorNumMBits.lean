/- zermelolaw01.few -/
import Derived.Test.YtnacgkljdcfkcaaDoorNumMOrder
import Derived.Test.YtnacgkljdcfkcaaDoorNumMTextApi
import Derived.Test.YtnacgkljdcfkcaaDoorNumMRing2
import Derived.Test.YtnacgkljdcfkcaaDoorNumMTextMath
import Derived.Test.YtnacgkljdcfkcaaDoorNumMShiftRight
import Derived.Test.YtnacgkljdcfkcaaDoorNumMCheck
import Derived.Test.YtnacgkljdcfkcaaDoorNumMDivideSmall
namespace Go.Proofs.YtnacgkljdcfkcaaDoor
open Go Go.RowKit Go.Shelf

/-- what few asks of each -/
def fewB (most : Int) (it : Item) : Bool := decide ((it.2.2.length : Int) ≤ most)

set_option maxHeartbeats 2000000 in
set_option maxRecDepth 100000 in
theorem few_list (l : List Item) (most : Int) (b : Nat) (w : World) (hrow : RowAt w b 24 (rowCells l)) (hl : l.length ≤ 1000) (hr : ∀ it ∈ l, Reads .u32 w it.2.1 it.2.2 ∧ Limbs it.2.2) :
    Calls Tryd.prog 15 #[.int .i64 most, .slice (some ⟨b, 0, none⟩) l.length l.length] w fun e w' => Below w.heap.size w w' ∧ e = .returned (.bool (l.all (fewB most))) := by
  obtain ⟨n, hn⟩ : ∃ n, l.length = n := ⟨_, rfl⟩
  rw [hn] at hl ⊢
  have HN := Lib.hid hn
  clear hn
  go_enter Tryd.func15, Tryd.ntmps15
  go_wp2
  go_loopw [5] (fun i W => ∃ k : Nat, k ≤ n ∧ i = .int .i64 k ∧ (l.take k).all (fewB most) = true ∧ Below w.heap.size w W) (fun i _ => n - (intOf i).toNat)
  case atStart => exact ⟨0, Nat.zero_le _, rfl, rfl, Below.refl _ _⟩
  case round =>
    obtain ⟨k, hk, rfl, hall, hbe⟩ := hrel
    by_cases hlt : k < n
    · have hkl : k < l.length := by have := HN.out; omega
      obtain ⟨it, hit⟩ : ∃ it, l[k]? = some it := ⟨_, List.getElem?_eq_getElem hkl⟩
      have hmem : it ∈ l := List.mem_of_getElem? hit
      obtain ⟨hrd, hlm⟩ := hr it hmem
      obtain ⟨neg, v, xs⟩ := it
      change Reads .u32 w v xs at hrd
      change Limbs xs at hlm
      obtain ⟨a, c, rfl, hc, hm⟩ := hrd.form
      unfold maxLen at hm
      obtain ⟨g1, g2⟩ := rowCells_at l k _ hit
      have hrw := hrow.below hbe
      have c1 := hrw.cell (k * 2)
      have c2 := hrw.cell (k * 2 + 1)
      rw [g1] at c1
      rw [g2] at c2
      have hix := fun W => index_ints b n k hlt W
      have htk : l.take (k + 1) = l.take k ++ [(neg, Value.slice a xs.length c, xs)] := by
        rw [List.take_succ_eq_append_getElem hkl]
        rw [List.getElem?_eq_getElem hkl] at hit
        rw [Option.some.inj hit]
      have hsz := hbe.size
      have hd0 : decide ((k : Int) < (n : Int)) = true := by simp <;> omega
      have HL := Lib.hid (And.intro hall (And.intro htk hit))
      clear hall htk hit g1 g2
      by_cases hmo : (xs.length : Int) ≤ most
      · have hd : decide (most < (xs.length : Int)) = false := by simp <;> omega
        go_wp2
        refine ⟨⟨k + 1, by omega, by go_num, ?_, hbe⟩, by simp [intOf] <;> omega⟩
        rw [HL.out.2.1, List.all_append, HL.out.1]
        simp [fewB, hmo]
      · have hd : decide (most < (xs.length : Int)) = true := by simp <;> omega
        have hfalse : l.all (fewB most) = false := by
          rw [List.all_eq_false]
          exact ⟨_, hmem, by simp [fewB, hmo]⟩
        have HF := Lib.hid hfalse
        clear hfalse
        go_wp2
        go_ret
        exact ⟨hbe, by rw [HF.out]; rfl⟩
    · have htk : l.take k = l := List.take_of_length_le (by have := HN.out; omega)
      rw [htk] at hall
      have HA := Lib.hid hall
      clear hall
      have hd0 : decide ((k : Int) < (n : Int)) = false := by simp <;> omega
      go_wp2
      go_ret
      exact ⟨hbe, by rw [HA.out]; rfl⟩

end Go.Proofs.YtnacgkljdcfkcaaDoor

/- num: To around guard.Attempt -/
namespace Go.Proofs.YtnacgkljdcfkcaaDoor
open Go Go.RowKit Go.Shelf

set_option maxHeartbeats 1000000 in
set_option maxRecDepth 100000 in
theorem To_of (va : Value) (na : Bool) (xa : List Nat) (w : World) (ha : IntAt w va na xa) (Post : Int → World → Value → Prop) (hpk : ∀ k W W' u0, Post k W u0 → (∀ v xs, Reads .u32 W v xs → Reads .u32 W' v xs) → Post k W' u0)
    (hcl : ∀ (B : Nat) (aa : Option Addr) (ca : Nat) (W4 : World), Below w.heap.size w W4 → RowAt W4 B 24 [.bool na, .slice aa xa.length ca] → RowAt W4 (B + 1) 3 [.int .i64 0] → Reads .u32 W4 (.slice aa xa.length ca) xa → va = .agg #[.bool na, .slice aa xa.length ca] → Calls Tryd.prog 58 #[.pointer (some ⟨B, 0, none⟩), .pointer (some ⟨B + 1, 0, none⟩)] W4 fun e W => ∃ k, (k = 0 ∧ e = .returned (.tuple #[]) ∨ e = .panicked [{ v := .iface 27 (.int .i64 k), recovered := false }]) ∧ Chg (fun i => i = B + 1) W4 W ∧ (∃ i0, RowAt W (B + 1) 3 [.int .i64 i0] ∧ Post k W (.int .i64 i0))) :
    Calls Tryd.prog 23 #[va] w fun e w' => Below w.heap.size w w' ∧ ∃ r0 k, e = .returned (.tuple #[r0, .int .i64 k]) ∧ Post k w' r0 := by
  obtain ⟨sa, rfl, hra, hla⟩ := ha
  obtain ⟨aa, ca, rfl, hca, hma⟩ := hra.form
  have hmf : ∀ (fn : Fn) (first cap : Array Value) (w : World), (Instr.makeFunc fn first cap).run Tryd.prog w = .ok (.func fn first cap) w := fun _ _ _ _ => rfl
  have q0 := ((RowAt.new w 24 [.bool na, .slice aa xa.length ca]).alloc (.cells #[.int .i64 0] 3)).alloc (.cells #[.int .i64 0] 27)
  have q1 := (RowAt.new (w.alloc (.cells #[.bool na, .slice aa xa.length ca] 24)) 3 [.int .i64 0]).alloc (.cells #[.int .i64 0] 27)
  have q2 := Boxed.new ((w.alloc (.cells #[.bool na, .slice aa xa.length ca] 24)).alloc (.cells #[.int .i64 0] 3)) 27 (.int .i64 0)
  have bw := ((((Below.refl w.heap.size w).alloc (Nat.le_refl _) (.cells #[.bool na, .slice aa xa.length ca] 24)).alloc (by simp) (.cells #[.int .i64 0] 3)).alloc (by simp; omega) (.cells #[.int .i64 0] 27))
  simp only [World.size_alloc] at q1 q2
  generalize hW4 : (((w.alloc (.cells #[.bool na, .slice aa xa.length ca] 24)).alloc (.cells #[.int .i64 0] 3)).alloc (.cells #[.int .i64 0] 27)) = W4 at q0 q1 q2 bw
  have key := hcl w.heap.size aa ca W4 bw q0 q1 (hra.below bw) rfl
  have att := attempt_any 58 #[.pointer (some ⟨w.heap.size, 0, none⟩), .pointer (some ⟨w.heap.size + 1, 0, none⟩)]
    ((w.alloc (.cells #[.bool na, .slice aa xa.length ca] 24)).alloc (.cells #[.int .i64 0] 3))
    (fun k W => Chg (fun i => i = w.heap.size + 1) W4 W ∧ (∃ i0, RowAt W (w.heap.size + 1) 3 [.int .i64 i0] ∧ Post k W (.int .i64 i0)))
    (fun W => by simp [go_sem])
    (fun k W h => by simp only [World.size_alloc]; exact h.1.boxed q2 (by omega))
    (by
      rw [hW4]
      refine key.mono ?_
      rintro e W ⟨k, h1, h2⟩
      rcases h1 with ⟨rfl, rfl⟩ | rfl
      · exact .inl ⟨rfl, h2⟩
      · exact .inr ⟨k, rfl, h2⟩)
  clear key
  go_enter Tryd.func23, Tryd.ntmps23
  go_wp2_with (refine att.mono ?_; rintro e W' ⟨k, W, ⟨hch, z, hr, hres⟩, rfl, rfl⟩; simp only [World.size_alloc]; have hr9 := hr.other (a := ⟨w.heap.size + 1 + 1, 0, none⟩) (by simp) (.int .i64 k); have s3 := hr.frozen 0; have s1 := hr9.cell 0; simp only [List.getElem?_cons_zero] at s1)
  have u1 := World.cell?_setCell_same _ _ (.int .i64 z) s1
  have e4 := (hch.boxed q2 (by omega)).cell
  have hkeep : ∀ v xs, Reads .u32 W v xs → Reads .u32 ((W.setCell ⟨w.heap.size + 1 + 1, 0, none⟩ (.int .i64 k)).setCell ⟨w.heap.size + 1, 0, none⟩ (.int .i64 z)) v xs :=
    fun v xs h => (h.setOther e4 (by simp) _).setOther s1 (by simp) _
  refine bodyPost_ret (v := .tuple #[.int .i64 z, .int .i64 k]) (by simp [results, Tryd.results23, go_sem, loadCellsFrom, u1]) rfl ⟨?_, _, k, rfl, hpk _ _ _ _ hres hkeep⟩
  have hb9 : Below w.heap.size w W := bw.trans (hch.below (B := w.heap.size) (fun i hi => by omega) bw.size)
  exact (hb9.setCell (by simp; omega) _).setCell (by simp) _

end Go.Proofs.YtnacgkljdcfkcaaDoor

/- zermeloref01.bit, Digits -/
namespace Go.Proofs.YtnacgkljdcfkcaaDoor
open Go Go.RowKit Go.Shelf

set_option maxHeartbeats 1000000 in
set_option maxRecDepth 100000 in
theorem bit_any (va : Value) (xs : List Nat) (i s : Nat) (n : Int) (e1 : n / 32 = (i : Int)) (e2 : n % 32 = (s : Int)) (hn0 : 0 ≤ n) (hn : n < 3200000) (hs : s < 32) (hi : i < xs.length) (w : World) (ha : Reads .u32 w va xs) (hl : Limbs xs) :
    Calls Tryd.prog 97 #[va, .int .i64 n] w fun e w' => (∃ nq, w' = w.drewN nq) ∧ e = .returned (.int .u32 ((xs[i]?.getD 0 / 2 ^ s % 2 : Nat) : Int)) := by
  obtain ⟨aa, ca, rfl, hlca, hma⟩ := ha.form
  have i1 := fun W => ha.index und_limbs size_limb (P := Tryd.prog) i .i64 W hi
  have d1 := ha.cell i hi
  have hx : xs[i]?.getD 0 < 4294967296 := by
    rw [List.getElem?_eq_getElem hi]
    exact hl _ (by simp)
  generalize xs[i]?.getD 0 = x at *
  have t1 : IntKind.i64.wrap (n.tdiv 32) = (i : Int) := by
    rw [Int.tdiv_eq_ediv_of_nonneg hn0, e1]
    have : (i : Int) < 3200000 := by omega
    simp [IntKind.wrap, IntKind.bits, IntKind.signed]
    omega
  have t2 : n.tmod 32 = (s : Int) := by rw [Int.tmod_eq_emod_of_nonneg hn0, e2]
  have hPl : 2 ^ s < 2 ^ 32 := Nat.pow_lt_pow_right (by decide) hs
  have hP0 : 0 < 2 ^ s := Nat.pow_pos (by decide)
  have hPc : ((2 : Int) ^ s) = ((2 ^ s : Nat) : Int) := by simp
  have t3 : IntKind.u32.wrap ((2 : Int) ^ s) = ((2 ^ s : Nat) : Int) := by
    rw [hPc]
    generalize 2 ^ s = P at *
    simp [IntKind.wrap, IntKind.bits, IntKind.signed]
    omega
  clear hPc
  generalize 2 ^ s = P at *
  have hPn : ¬ ((P : Int) = 0) := by omega
  have hPb : ((P : Int) == 0) = false := by simp; omega
  have hdx : x / P ≤ x := Nat.div_le_self _ _
  have t4 : IntKind.u32.wrap ((x : Int).tdiv (P : Int)) = ((x / P : Nat) : Int) := by
    rw [Int.tdiv_eq_ediv_of_nonneg (by omega), ← Int.natCast_ediv]
    generalize x / P = d at *
    simp [IntKind.wrap, IntKind.bits, IntKind.signed]
    omega
  have t6 : (x : Int) / (P : Int) % 4294967296 % 2 = ((x / P % 2 : Nat) : Int) := by
    rw [← Int.natCast_ediv]
    generalize x / P = d at *
    omega
  have H6 := Lib.hid t6
  clear t6
  generalize x / P = d at *
  have t5 : (d : Int).tmod 2 = ((d % 2 : Nat) : Int) := by rw [Int.tmod_eq_emod_of_nonneg (by omega)]; omega
  generalize d % 2 = r at *
  have HZ := Lib.hid (And.intro hdx (And.intro hPl hP0))
  clear hdx hPl hP0
  have HX := Lib.hid hx
  clear hx
  go_enter Tryd.func97, Tryd.ntmps97
  go_wp2_with fail
  go_quiet (fail)
  go_wp2
  go_ret
  exact ⟨⟨nq, rfl⟩, by rw [← H6.out]; rfl⟩

theorem reads_drewN {W : World} {v : Value} {xs : List Nat} (h : Reads .u32 W v xs) (n : Nat) : Reads .u32 (W.drewN n) v xs := h.below (below_drewN (Below.refl _ _) n)

/-- the topmost digits -/
theorem bit_top {xs : List Nat} (hk : Canon xs) (k : Nat) (h1 : bitsOf xs ≤ k) (h2 : k ≤ 32 * xs.length) (h0 : 0 < k) : (k - 1) / 32 < xs.length ∧ xs[(k - 1) / 32]?.getD 0 / 2 ^ ((k - 1) % 32) % 2 = if k = bitsOf xs then 1 else 0 := by
  have hl : 0 < xs.length := by omega
  have hx : xs ≠ [] := List.length_pos_iff.1 hl
  have htop := canon_last hk hx
  have htb := limb_getD hk.1 (xs.length - 1)
  obtain ⟨b1, b2, b3, b4⟩ := bitLen_bounds htop htb
  have hb : bitsOf xs = 32 * (xs.length - 1) + Lib.bitLen (xs[xs.length - 1]?.getD 0) := by rw [bitsOf, if_neg (by omega)]
  have hq : (k - 1) / 32 = xs.length - 1 := by omega
  refine ⟨by omega, ?_⟩
  rw [hq]
  rw [hb] at h1 ⊢
  generalize Lib.bitLen (xs[xs.length - 1]?.getD 0) = L at *
  generalize xs[xs.length - 1]?.getD 0 = t at *
  by_cases hkL : k = 32 * (xs.length - 1) + L
  · rw [if_pos hkL, show (k - 1) % 32 = L - 1 by omega]
    have h3 : 2 ^ L = 2 ^ (L - 1) * 2 := by rw [← Nat.pow_succ]; congr 1; omega
    have h4 : t / 2 ^ (L - 1) = 1 := by
      apply Nat.div_eq_of_lt_le <;> omega
    rw [h4]
  · rw [if_neg hkL]
    have h3 : 2 ^ L ≤ 2 ^ ((k - 1) % 32) := Nat.pow_le_pow_right (by decide) (by omega)
    rw [Nat.div_eq_of_lt (by omega)]

set_option maxHeartbeats 1000000 in
set_option maxRecDepth 100000 in
theorem digits_any (va : Value) (na : Bool) (xs : List Nat) (w : World) (ha : IntAt w va na xs) (hk : Canon xs) (hn : xs.length ≤ 100000) :
    Calls Tryd.prog 56 #[va] w fun e w' => Below w.heap.size w w' ∧ e = .returned (.int .i64 (bitsOf xs)) := by
  obtain ⟨sa, rfl, hra, hla⟩ := ha
  obtain ⟨aa, ca, rfl, hlca, hma⟩ := hra.form
  obtain ⟨n, hN⟩ : ∃ n, bitsOf xs = n := ⟨_, rfl⟩
  have HN := Lib.hid hN
  rw [hN]
  have hle : bitsOf xs ≤ 32 * xs.length := by
    by_cases hx : xs = []
    · subst hx; simp [bitsOf]
    · have hl : 0 < xs.length := List.length_pos_iff.2 hx
      obtain ⟨b1, b2, -, -⟩ := bitLen_bounds (canon_last hk hx) (limb_getD hk.1 (xs.length - 1))
      rw [bitsOf, if_neg (by omega)]
      omega
  rw [hN] at hle
  clear hN
  have b0 := (Below.refl w.heap.size w).alloc (Nat.le_refl _) (.cells #[.bool na, .slice aa xs.length ca] 24)
  have rr := RowAt.new w 24 [.bool na, .slice aa xs.length ca]
  have hra0 := hra.below b0
  obtain ⟨W0, hW0⟩ : ∃ W0, w.alloc (.cells #[.bool na, .slice aa xs.length ca] 24) = W0 := ⟨_, rfl⟩
  rw [hW0] at rr hra0 b0
  have HW := Lib.hid hW0
  clear hW0
  go_enter Tryd.func56, Tryd.ntmps56
  go_wp2
  go_loopw [3] (fun i W => ∃ k : Nat, n ≤ k ∧ k ≤ 32 * xs.length ∧ i = .int .i64 k ∧ ∃ nq, W = W0.drewN nq) (fun i _ => (intOf i).toNat)
  case atStart => exact ⟨32 * xs.length, hle, Nat.le_refl _, by go_num, 0, by rw [HW.out]; rfl⟩
  case round =>
    obtain ⟨k, hk1, hk2, rfl, nq, rfl⟩ := hrel
    have c2 : (W0.drewN nq).cell? ⟨w.heap.size, 1, none⟩ = some (.slice aa xs.length ca) := by
      have := rr.cell 1
      simp only [List.getElem?_cons_zero, List.getElem?_cons_succ] at this
      exact this
    by_cases h0 : 0 < k
    · have hd0 : decide ((0 : Int) < (k : Int)) = true := by simp <;> omega
      obtain ⟨hi, hbit⟩ := bit_top hk k (by rw [HN.out]; exact hk1) hk2 h0
      have key := bit_any (.slice aa xs.length ca) xs ((k - 1) / 32) ((k - 1) % 32) ((k : Int) - 1) (by omega) (by omega) (by omega) (by omega) (by omega) hi (W0.drewN nq) (reads_drewN hra0 nq) hla
      rw [hbit, HN.out] at key
      clear hbit hi
      by_cases hkn : k = n
      · rw [if_pos hkn] at key
        subst hkn
        go_wp2_with (go_at_call 97; with_reducible refine key.mono ?_; rintro e w2 ⟨⟨nq2, rfl⟩, rfl⟩)
        go_ret
        exact ⟨below_drewN b0 _, rfl⟩
      · rw [if_neg hkn] at key
        go_wp2_with (go_at_call 97; with_reducible refine key.mono ?_; rintro e w2 ⟨⟨nq2, rfl⟩, rfl⟩)
        exact ⟨⟨k - 1, by omega, by omega, by go_num, nq + nq2, rfl⟩, by simp [intOf] <;> omega⟩
    · obtain rfl : k = 0 := by omega
      obtain rfl : n = 0 := by omega
      go_wp2
      go_ret
      exact ⟨below_drewN b0 _, rfl⟩

end Go.Proofs.YtnacgkljdcfkcaaDoor

/- num.Bits, zermeloref01.Bits -/
namespace Go.Proofs.YtnacgkljdcfkcaaDoor
open Go Go.RowKit Go.Shelf

set_option maxHeartbeats 1000000 in
set_option maxRecDepth 100000 in
theorem Bits_any (va : Value) (na : Bool) (xs : List Nat) (w : World) (ha : IntAt w va na xs) (hn : xs.length ≤ 100000) :
    Calls Tryd.prog 21 #[va] w fun e w' => Below w.heap.size w w' ∧ e = .returned (.tuple #[.int .i64 (if formedB na xs = true then (bitsOf xs : Int) else 0), .int .i64 (if formedB na xs = true then 0 else 1)]) := by
  have k1 := fun w2 (hb2 : Below w.heap.size w w2) (f : formedB na xs = true) => check_ok va na xs w2 (ha.below hb2) f
  have k2 := fun w2 (hb2 : Below w.heap.size w w2) (f : formedB na xs = false) => check_no va na xs w2 (ha.below hb2) f
  obtain ⟨sa, rfl, hra, hla⟩ := ha
  obtain ⟨aa, ca, rfl, hlca, hma⟩ := hra.form
  have b0 := (Below.refl w.heap.size w).alloc (Nat.le_refl _) (.cells #[.bool na, .slice aa xs.length ca] 24)
  have rr := RowAt.new w 24 [.bool na, .slice aa xs.length ca]
  cases f : formedB na xs with
  | true =>
    have key := k1 _ b0 f
    have bl := fun w2 (hb2 : Below w.heap.size w w2) => bitLen_any (.slice aa xs.length ca) xs w2 (hra.below hb2) hla hn
    clear k1 k2
    go_enter Tryd.func21, Tryd.ntmps21
    go_wp2_with (first
      | (go_at_call 17; refine key.mono ?_; rintro e w2 ⟨hbe, rfl⟩; have bw := b0.trans (hbe.mono b0.size); have c2 := (rr.below hbe).cell 1; simp only [List.getElem?_cons_zero, List.getElem?_cons_succ] at c2; have bl2 := bl _ bw)
      | (go_at_call 55; refine bl2.mono ?_; rintro e w3 ⟨rfl, rfl⟩))
    go_ret2
    exact ⟨bw, rfl⟩
  | false =>
    have key := k2 _ b0 f
    clear k1 k2
    go_enter Tryd.func21, Tryd.ntmps21
    go_wp2_with (first
      | (go_at_call 17; refine key.mono ?_; rintro e w2 ⟨hbe, rfl⟩; have bw := b0.trans (hbe.mono b0.size)))
    go_ret2
    exact ⟨bw, rfl⟩

end Go.Proofs.YtnacgkljdcfkcaaDoor
