/- Products by halves: the arithmetic, without the program. -/
import Derived.Test.YtlghjfpkfdnfoaaGreatDoorNumMKnuth
import Derived.Test.YtlghjfpkfdnfoaaGreatDoorNumMDifference
import Derived.Test.YtlghjfpkfdnfoaaGreatDoorNumMRing2
import Derived.Test.YtlghjfpkfdnfoaaGreatDoorNumMBitLen
import Derived.Test.YtlghjfpkfdnfoaaGreatDoorNumMShiftRight
import Derived.Test.YtlghjfpkfdnfoaaGreatDoorNumMTimesSmall
import Derived.BigQuiet
namespace Go.Proofs.YtlghjfpkfdnfoaaGreatDoor

theorem limbs_drop {xs : List Nat} (h : Limbs xs) (m : Nat) : Limbs (xs.drop m) := fun x hx => h x (List.mem_of_mem_drop hx)
theorem val_parts (xs : List Nat) (m : Nat) (h : m ≤ xs.length) : val xs = val (xs.take m) + B32 ^ m * val (xs.drop m) := by
  conv => lhs; rw [← List.take_append_drop m xs]
  rw [val_append, List.length_take, Nat.min_eq_left h]

/-- a list is laid over a row, and nothing is carried out -/
theorem adFold_fits {o n : Nat} {xs ys : List Nat} (hx : Limbs xs) (hy : Canon ys) (hn : o + n = xs.length) (hv : val xs + B32 ^ o * val ys < B32 ^ xs.length) :
    (adFold o xs (limbPairs ys n)).1.length = xs.length ∧ Limbs (adFold o xs (limbPairs ys n)).1 ∧ val (adFold o xs (limbPairs ys n)).1 = val xs + B32 ^ o * val ys := by
  have h1 : val ys < B32 ^ n := by
    rw [← hn, Nat.pow_add] at hv
    exact Nat.lt_of_mul_lt_mul_left (Nat.lt_of_le_of_lt (Nat.le_add_left _ _) hv)
  have h2 := canon_length_le hy h1
  have h3 := adFold_val (o := o) (xs := xs) (ys := ys) n (by omega)
  rw [List.take_of_length_le h2, hn] at h3
  refine ⟨adFold_length _ _ _, (adFold_limbs hx _ fun p hp => ?_).1, ?_⟩
  · simp only [limbPairs, List.mem_map] at hp
    obtain ⟨i, -, rfl⟩ := hp
    exact limb_getD hy.1 i
  · rcases Nat.eq_zero_or_pos (adFold o xs (limbPairs ys n)).2 with hc | hc
    · rw [hc] at h3; omega
    · exfalso
      have := Nat.mul_le_mul_left (B32 ^ xs.length) hc
      omega

/-- the product of two numbers with two halves each -/
theorem halves_mul (A0 A1 B0 B1 H : Nat) : (A0 + H * A1) * (B0 + H * B1) = A0 * B0 + H * ((A0 + A1) * (B0 + B1) - A0 * B0 - A1 * B1) + H * H * (A1 * B1) := by
  have e : (A0 + A1) * (B0 + B1) - A0 * B0 - A1 * B1 = A0 * B1 + A1 * B0 := by
    have : (A0 + A1) * (B0 + B1) = A0 * B0 + A0 * B1 + (A1 * B0 + A1 * B1) := by rw [Nat.add_mul, Nat.mul_add, Nat.mul_add]
    omega
  rw [e]
  simp only [Nat.add_mul, Nat.mul_add]
  have e1 : H * A1 * B0 = H * (A1 * B0) := Nat.mul_assoc ..
  have e2 : A0 * (H * B1) = H * (A0 * B1) := Nat.mul_left_comm ..
  have e3 : H * A1 * (H * B1) = H * H * (A1 * B1) := Nat.mul_mul_mul_comm ..
  omega
theorem halves_le1 (A0 A1 B0 B1 : Nat) : A0 * B0 ≤ (A0 + A1) * (B0 + B1) := Nat.mul_le_mul (Nat.le_add_right _ _) (Nat.le_add_right _ _)
theorem halves_le2 (A0 A1 B0 B1 : Nat) : A1 * B1 ≤ (A0 + A1) * (B0 + B1) - A0 * B0 := by
  have : (A0 + A1) * (B0 + B1) = A0 * B0 + A0 * B1 + (A1 * B0 + A1 * B1) := by rw [Nat.add_mul, Nat.mul_add, Nat.mul_add]
  omega

/-- the three products over a row of zeros -/
theorem halves_end {xa xb low mid high : List Nat} {h n A0 A1 B0 B1 : Nat} (ha : Limbs xa) (hb : Limbs xb) (hA : val xa = A0 + B32 ^ h * A1) (hB : val xb = B0 + B32 ^ h * B1)
    (kl : Canon low) (km : Canon mid) (kh : Canon high) (el : val low = A0 * B0) (em : val mid = (A0 + A1) * (B0 + B1) - A0 * B0 - A1 * B1) (eh : val high = A1 * B1) (hn : n = xa.length + xb.length) (hh : 2 * h ≤ n) :
    ∃ r1 r2 r3, r1 = (adFold 0 (List.replicate n 0) (limbPairs low n)).1 ∧ r2 = (adFold h r1 (limbPairs mid (n - h))).1 ∧ r3 = (adFold (2 * h) r2 (limbPairs high (n - 2 * h))).1 ∧
      Limbs r1 ∧ r1.length = n ∧ Limbs r2 ∧ r2.length = n ∧ Limbs r3 ∧ r3.length = n ∧ val r3 = val xa * val xb := by
  have hm := halves_mul A0 A1 B0 B1 (B32 ^ h)
  rw [← hA, ← hB, ← em, ← el, ← eh, ← Nat.pow_add, show h + h = 2 * h by omega] at hm
  have hlt : val xa * val xb < B32 ^ n := by
    rw [hn, Nat.pow_add]
    exact Nat.mul_lt_mul'' (val_lt ha) (val_lt hb)
  have z1 : (List.replicate n 0).length = n := List.length_replicate
  obtain ⟨a1, a2, a3⟩ := adFold_fits (o := 0) (n := n) (limbs_zeros n) kl (by simp) (by rw [val_zeros, z1, Nat.pow_zero]; omega)
  rw [val_zeros, Nat.pow_zero, z1] at *
  obtain ⟨b1, b2, b3⟩ := adFold_fits (o := h) (n := n - h) a2 km (by omega) (by rw [a1, a3]; omega)
  obtain ⟨c1, c2, c3⟩ := adFold_fits (o := 2 * h) (n := n - 2 * h) b2 kh (by omega) (by rw [b1, b3, a1, a3]; omega)
  exact ⟨_, _, _, rfl, rfl, rfl, a2, a1, b2, b1.trans a1, c2, c1.trans (b1.trans a1), by rw [c3, b3, a3]; omega⟩

end Go.Proofs.YtlghjfpkfdnfoaaGreatDoor

/- zermeloref01: Formed, Same -/
namespace Go.Proofs.YtlghjfpkfdnfoaaGreatDoor
open Go Go.RowKit Go.Shelf

set_option maxHeartbeats 1000000 in
set_option maxRecDepth 100000 in
theorem rformed_any (v : Value) (neg : Bool) (xs : List Nat) (w : World) (h : IntAt w v neg xs) :
    Calls Tryz.prog 15 #[v] w fun e w' => Below w.heap.size w w' ∧ e = .returned (.bool (formedB neg xs)) := by
  obtain ⟨va, rfl, hr, hl⟩ := h
  obtain ⟨a, c, rfl, hc, hm⟩ := hr.form
  unfold maxLen at hm
  by_cases hx : xs.length = 0
  · have hB : formedB neg xs = !neg := by
      have : xs = [] := List.eq_nil_of_length_eq_zero hx
      subst this
      cases neg <;> rfl
    rw [hB]
    have hx' : (((xs.length : Nat) : Int) == 0) = true := by simp [hx]
    clear hB
    go_enter Tryz.func15, Tryz.ntmps15
    go_wp2
    go_ret
    exact ⟨(Below.refl _ _).alloc (Nat.le_refl _) _, rfl⟩
  · have hx' : (((xs.length : Nat) : Int) == 0) = false := beq_eq_false_iff_ne.2 (by omega)
    by_cases h1 : 300 < xs.length
    · have hB : formedB neg xs = false := by simp [formedB, show ¬ xs.length ≤ 300 by omega]
      rw [hB]
      have hd : decide ((xs.length : Int) ≤ 300) = false := by simp; omega
      clear hB
      go_enter Tryz.func15, Tryz.ntmps15
      go_wp2
      go_ret
      exact ⟨(Below.refl _ _).alloc (Nat.le_refl _) _, rfl⟩
    · have hd : decide ((xs.length : Int) ≤ 300) = true := by simp; omega
      have he : ((xs.length - 1 : Nat) : Int) = (xs.length : Int) - 1 := by omega
      have b0 := (Below.refl w.heap.size w).alloc (Nat.le_refl _) (.cells #[.bool neg, .slice a xs.length c] 24)
      have hcell := (hr.below b0).cell (xs.length - 1) (by omega)
      have hix := fun W => hr.index und_limbs size_limb (P := Tryz.prog) (xs.length - 1) .i64 W (by omega)
      rw [he] at hix
      have hbx : ¬ (xs.length : Int) ≤ 0 := by omega
      by_cases ht : xs[xs.length - 1]?.getD 0 = 0
      · have hB : formedB neg xs = false := by
          have h2 : trimmed xs ≠ xs := fun e => canon_last (xs := xs) ⟨hl, e⟩ (by intro e; subst e; simp at hx) ht
          simp [formedB, h2]
        rw [hB]
        rw [ht] at hcell
        clear hB ht
        generalize xs.length - 1 = k at *
        go_enter Tryz.func15, Tryz.ntmps15
        go_wp2
        go_ret
        exact ⟨(Below.refl _ _).alloc (Nat.le_refl _) _, rfl⟩
      · have hB : formedB neg xs = true := by
          have h2 : trimmed xs = xs := trimmed_of_last ht
          simp [formedB, h2, show xs.length ≤ 300 by omega]
          exact .inr (by intro e; simp [e] at hx)
        rw [hB]
        obtain ⟨top, hT⟩ : ∃ top, xs[xs.length - 1]?.getD 0 = top := ⟨_, rfl⟩
        rw [hT] at hcell ht
        have hne : (((top : Nat) : Int) != 0) = true := by simp; omega
        clear hB hT ht
        generalize xs.length - 1 = k at *
        go_enter Tryz.func15, Tryz.ntmps15
        go_wp2
        go_ret
        exact ⟨(Below.refl _ _).alloc (Nat.le_refl _) _, rfl⟩

theorem below_drewN {B : Nat} {w W : World} (h : Below B w W) (n : Nat) : Below B w (W.drewN n) := ⟨h.os, h.tape, h.output, h.size, h.block⟩
/-- whether two integers of the API are the same -/
def sameB (na nb : Bool) (xa xb : List Nat) : Bool := decide (na = nb) && decide (xa = xb)

set_option maxHeartbeats 1000000 in
set_option maxRecDepth 100000 in
theorem rsame_any (va vb : Value) (na nb : Bool) (xa xb : List Nat) (w : World) (ha : IntAt w va na xa) (hb : IntAt w vb nb xb) :
    Calls Tryz.prog 8 #[va, vb] w fun e w' => Below w.heap.size w w' ∧ e = .returned (.bool (sameB na nb xa xb)) := by
  obtain ⟨sa, rfl, hra, hla⟩ := ha
  obtain ⟨sb, rfl, hrb, hlb⟩ := hb
  obtain ⟨aa, ca, rfl, hca, hma⟩ := hra.form
  obtain ⟨ab, cb, rfl, hcb, hmb⟩ := hrb.form
  unfold maxLen at hma hmb
  have b0 := ((Below.refl w.heap.size w).alloc (Nat.le_refl _) (.cells #[.bool na, .slice aa xa.length ca] 24)).alloc (by simp) (.cells #[.bool nb, .slice ab xb.length cb] 24)
  by_cases hn : na = nb
  · subst hn
    have hn1 : (na != na) = false := by simp
    by_cases hl : xa.length = xb.length
    · have hl1 : (((xa.length : Nat) : Int) != (xb.length : Int)) = false := by rw [hl]; simp
      have hB : sameB na na xa xb = decide (xa = xb) := by simp [sameB]
      rw [hB]
      have HL := Lib.hid hl
      have hra0 := hra.below b0
      have hrb0 := hrb.below b0
      clear hl hB
      have HN1 := Lib.hid hn1
      obtain ⟨W0, hW0⟩ : ∃ W0, (w.alloc (.cells #[.bool na, .slice aa xa.length ca] 24)).alloc (.cells #[.bool na, .slice ab xb.length cb] 24) = W0 := ⟨_, rfl⟩
      have ra := (RowAt.new w 24 [.bool na, .slice aa xa.length ca]).alloc (.cells #[.bool na, .slice ab xb.length cb] 24)
      have rb := RowAt.new (w.alloc (.cells #[.bool na, .slice aa xa.length ca] 24)) 24 [.bool na, .slice ab xb.length cb]
      simp only [World.size_alloc] at rb
      rw [hW0] at ra rb hra0 hrb0 b0
      have HW := Lib.hid hW0
      clear hW0
      go_enter Tryz.func8, Tryz.ntmps8
      go_wp2
      go_loopw [5] (fun i W => ∃ k : Nat, k ≤ xa.length ∧ i = .int .i64 k ∧ xa.take k = xb.take k ∧ ∃ nq, W = W0.drewN nq) (fun i _ => xa.length - (intOf i).toNat)
      case atStart => exact ⟨0, Nat.zero_le _, rfl, rfl, 0, by rw [HW.out]; rfl⟩
      case round =>
        obtain ⟨k, hk, rfl, htk, nq, rfl⟩ := hrel
        have c1 := (ra.below (Below.refl _ _)).cell 1
        have c2 := rb.cell 1
        simp only [List.getElem?_cons_zero, List.getElem?_cons_succ] at c1 c2
        have c1' : (W0.drewN nq).cell? ⟨w.heap.size, 1, none⟩ = some (.slice aa xa.length ca) := c1
        have c2' : (W0.drewN nq).cell? ⟨w.heap.size + 1, 1, none⟩ = some (.slice ab xb.length cb) := c2
        by_cases hlt : k < xa.length
        · have i1 := fun W => hra.index und_limbs size_limb (P := Tryz.prog) k .i64 W hlt
          have i2 := fun W => hrb.index und_limbs size_limb (P := Tryz.prog) k .i64 W (by have := HL.out; omega)
          have d1 := hra0.cell k hlt
          have d2 := hrb0.cell k (by have := HL.out; omega)
          obtain ⟨x, hx⟩ : ∃ x, xa[k]?.getD 0 = x := ⟨_, rfl⟩
          obtain ⟨y, hy⟩ : ∃ y, xb[k]?.getD 0 = y := ⟨_, rfl⟩
          rw [hx] at d1
          rw [hy] at d2
          have HX := Lib.hid (And.intro hx (And.intro hy htk))
          clear hx hy htk
          by_cases hxy : x = y
          · subst hxy
            have he : (((x : Nat) : Int) != (x : Int)) = false := by simp
            go_wp2_with fail
            go_quiet (fail)
            go_wp2
            have hk1 : xa.take (k + 1) = xb.take (k + 1) := by
              rw [take_succ_getD xa k hlt, take_succ_getD xb k (by have := HL.out; omega), HX.out.1, HX.out.2.1, HX.out.2.2]
            exact ⟨⟨k + 1, by omega, by go_num, hk1, _, rfl⟩, by simp [intOf]; omega⟩
          · have he : (((x : Nat) : Int) != (y : Int)) = true := by simp; omega
            have hB : decide (xa = xb) = false := by
              simp only [decide_eq_false_iff_not]
              intro e
              subst e
              exact hxy (HX.out.1.symm.trans HX.out.2.1)
            have HB := Lib.hid hB
            clear hB
            go_wp2_with fail
            go_quiet (fail)
            go_wp2
            go_ret
            exact ⟨below_drewN (below_drewN b0 _) _, by rw [HB.out]; rfl⟩
        · have hB : decide (xa = xb) = true := by
            simp only [decide_eq_true_eq]
            have h1 := htk
            rw [List.take_of_length_le (by omega), List.take_of_length_le (by have := HL.out; omega)] at h1
            exact h1
          have HB := Lib.hid hB
          have hd : decide ((k : Int) < (xa.length : Int)) = false := by simp; omega
          clear hB htk
          go_wp2
          go_ret
          exact ⟨below_drewN b0 _, by rw [HB.out]; rfl⟩
    · have hl1 : (((xa.length : Nat) : Int) != (xb.length : Int)) = true := by simp; omega
      have hB : sameB na na xa xb = false := by
        simp only [sameB, decide_true, Bool.true_and, decide_eq_false_iff_not]
        intro e
        exact hl (by rw [e])
      rw [hB]
      clear hB hl
      go_enter Tryz.func8, Tryz.ntmps8
      go_wp2
      go_ret
      exact ⟨b0, rfl⟩
  · have hB : sameB na nb xa xb = false := by simp [sameB, hn]
    rw [hB]
    clear hB
    cases na <;> cases nb
    · exact absurd rfl hn
    · clear hn
      go_enter Tryz.func8, Tryz.ntmps8
      go_wp2
      go_ret
      exact ⟨b0, rfl⟩
    · clear hn
      go_enter Tryz.func8, Tryz.ntmps8
      go_wp2
      go_ret
      exact ⟨b0, rfl⟩
    · exact absurd rfl hn

end Go.Proofs.YtlghjfpkfdnfoaaGreatDoor

/- zermeloref01.bit, Digits -/
namespace Go.Proofs.YtlghjfpkfdnfoaaGreatDoor
open Go Go.RowKit Go.Shelf

theorem reads_drewN {W : World} {v : Value} {xs : List Nat} (h : Reads .u32 W v xs) (n : Nat) : Reads .u32 (W.drewN n) v xs := h.below (below_drewN (Below.refl _ _) n)

/-- the topmost digits -/
theorem bit_top {xs : List Nat} (hk : Canon xs) (k : Nat) (h1 : bitsOf xs ≤ k) (h2 : k ≤ 32 * xs.length) (h0 : 0 < k) : (k - 1) / 32 < xs.length ∧ xs[(k - 1) / 32]?.getD 0 / 2 ^ ((k - 1) % 32) % 2 = if k = bitsOf xs then 1 else 0 := by
  have hl : 0 < xs.length := by omega
  have hx : xs ≠ [] := List.length_pos_iff.1 hl
  have htop := canon_last hk hx
  have htb := limb_getD hk.1 (xs.length - 1)
  obtain ⟨b1, b2, b3, b4⟩ := bitLen_bounds htop htb
  have hb : bitsOf xs = 32 * (xs.length - 1) + Lib.bitLen (xs[xs.length - 1]?.getD 0) := by rw [bitsOf, if_neg (by omega)]
  have hq : (k - 1) / 32 = xs.length - 1 := by omega
  refine ⟨by omega, ?_⟩
  rw [hq]
  rw [hb] at h1 ⊢
  generalize Lib.bitLen (xs[xs.length - 1]?.getD 0) = L at *
  generalize xs[xs.length - 1]?.getD 0 = t at *
  by_cases hkL : k = 32 * (xs.length - 1) + L
  · rw [if_pos hkL, show (k - 1) % 32 = L - 1 by omega]
    have h3 : 2 ^ L = 2 ^ (L - 1) * 2 := by rw [← Nat.pow_succ]; congr 1; omega
    have h4 : t / 2 ^ (L - 1) = 1 := by
      apply Nat.div_eq_of_lt_le <;> omega
    rw [h4]
  · rw [if_neg hkL]
    have h3 : 2 ^ L ≤ 2 ^ ((k - 1) % 32) := Nat.pow_le_pow_right (by decide) (by omega)
    rw [Nat.div_eq_of_lt (by omega)]

end Go.Proofs.YtlghjfpkfdnfoaaGreatDoor

/- num.split -/
namespace Go.Proofs.YtlghjfpkfdnfoaaGreatDoor
open Go Go.RowKit Go.Shelf

theorem slice_lo (a : Option Addr) (n c : Nat) (m : Nat) (hm : m ≤ n) (hn : n ≤ c) (W : World) : (Instr.slice 22 (.slice a n c) none (some (.int .i64 (m : Int))) none).run Tryz.prog W = .ok (.slice a m c) W := by
  go_simp
  intro h
  omega
theorem slice_hi (a : Option Addr) (n c : Nat) (m : Nat) (hm : m ≤ n) (_hn : n ≤ c) (W : World) : (Instr.slice 22 (.slice a n c) (some (.int .i64 (m : Int))) none none).run Tryz.prog W = .ok (sliced a m n c 1) W := by
  go_simp
theorem trim_still (a : Option Addr) (n c : Nat) (xs : List Nat) (w : World) (h : Reads .u32 w (.slice a n c) xs) (k : Nat) : Calls Tryz.prog 57 #[.slice a n c] (w.drewN k) fun e w' => e = .returned (.slice a (trimmed xs).length c) ∧ ∃ m, w' = w.drewN m :=
  (trim_eq a n c xs (w.drewN k) h).mono fun _ _ ⟨h1, h2⟩ => ⟨h2, k, h1.symm⟩

set_option maxHeartbeats 1000000 in
set_option maxRecDepth 100000 in
theorem split_any (va : Value) (xa : List Nat) (h m : Nat) (hm : min h xa.length = m) (w : World) (ha : Reads .u32 w va xa) :
    Calls Tryz.prog 109 #[va, .int .i64 (h : Int)] w fun e w' => Below w.heap.size w w' ∧ ∃ v1 v2, e = .returned (.tuple #[v1, v2]) ∧ Reads .u32 w' v1 (trimmed (xa.take m)) ∧ Reads .u32 w' v2 (xa.drop m) := by
  obtain ⟨aa, ca, rfl, hca, hma⟩ := ha.form
  unfold maxLen at hma
  have hm1 : m ≤ xa.length := by omega
  have p2 := ha.part m xa.length hm1 (Nat.le_refl _)
  rw [List.take_of_length_le (Nat.le_refl _)] at p2
  have s1 := slice_lo aa xa.length ca m hm1 hca
  have s2 := slice_hi aa xa.length ca m hm1 hca
  have ht := trim_still aa m ca (xa.take m) w (ha.toLen m hm1)
  have p1 := trim_reads (ha.toLen m hm1)
  obtain ⟨a2, c2, e2, -, -⟩ := p2.form
  rw [e2] at p2
  simp only [e2] at s2
  clear e2
  generalize trimmed (xa.take m) = t0 at *
  generalize xa.drop m = d0 at *
  generalize t0.length = n0 at *
  generalize d0.length = n2 at *
  have hmin : min (h : Int) (xa.length : Int) = (m : Int) := by omega
  clear hm
  go_enter Tryz.func109, Tryz.ntmps109
  go_wp2_with fail
  go_quiet (first | (go_at_call 57; exact ht _))
  go_wp2
  exact bodyPost_ret (v := .tuple #[.slice aa n0 ca, .slice a2 n2 c2]) (by simp [results, Tryz.results109, go_sem]) rfl ⟨below_drewN (Below.refl _ _) nq, _, _, rfl, reads_drewN p1 nq, reads_drewN p2 nq⟩
end Go.Proofs.YtlghjfpkfdnfoaaGreatDoor

/- num.takeTimes -/
namespace Go.Proofs.YtlghjfpkfdnfoaaGreatDoor
open Go Go.RowKit Go.Shelf
attribute [local go_sem] Oper.semAt_some

theorem Chg.narrow {S : Nat → Prop} {A W : World} (h : Chg (fun k => S k ∨ A.heap.size ≤ k) A W) : Chg S A W := ⟨h.os, h.tape, h.output, h.size, fun k hk hs => h.block k hk (by rintro (e | e); exact hs e; omega)⟩
theorem Chg.step {S S2 : Nat → Prop} {A W W' : World} (h : Chg S A W) (k : Chg S2 W W') (hs : ∀ b, S2 b → S b ∨ A.heap.size ≤ b) : Chg S A W' := Chg.narrow ((h.mono fun _ e => .inl e).trans (k.mono hs))
theorem ownFrom_chg {β : Type} {B : Nat} {S : Nat → Prop} {w : World} (hB : w.heap.size ≤ B) : OwnFrom B (fun (_ : β) W => Chg S w W) := fun _ _ _ _ h hg hr => Chg.grown h hg (fun k e => .inr (Nat.le_trans hB (hr k e).1))
theorem index_win (b o n cap i : Nat) (hi : i < n) (ki : IntKind) (W : World) : (Instr.indexAt 22 (.slice (some ⟨b, o, none⟩) n cap) (.int ki (i : Int))).run Tryz.prog W = .ok (.pointer (some ⟨b, o + i, none⟩)) W := index_lookAt _ _ und_limbs size_limb _ _ _ _ hi ⟨_, _, rfl⟩ _ _
theorem enc32_set (xs : List Nat) (i x : Nat) : enc32 (xs.set i x) = (enc32 xs).set i (.int .u32 (x : Int)) := by simp [enc32, List.map_set]
theorem enc32_at {xs : List Nat} {i : Nat} (h : i < xs.length) : (enc32 xs)[i]? = some (.int .u32 ((xs[i]?.getD 0 : Nat) : Int)) := by simp [enc32, List.getElem?_eq_getElem h]

set_option maxHeartbeats 2000000 in
set_option maxRecDepth 100000 in
theorem takeTimes_any (vb : Value) (bs L : List Nat) (g n o B0 cap : Nat) (w : World) (hrow : RowAt w B0 52 (enc32 L)) (hL : Limbs L) (hb : Reads .u32 w vb bs) (hlb : Limbs bs) (hn : o + n ≤ L.length) (hn2 : n ≤ 200000)
    (hbB : ∀ a m c, vb = .slice (some a) m c → bs ≠ [] → a.block < B0) (hg : g < B32) :
    Calls Tryz.prog 103 #[.slice (some ⟨B0, o, none⟩) n cap, vb, .int .u32 (g : Int)] w fun e w' => Chg (fun k => k = B0) w w' ∧ RowAt w' B0 52 (enc32 (ttFold o g L (limbPairs bs n)).1) ∧ e = .returned (.bool (decide (0 < (ttFold o g L (limbPairs bs n)).2.2))) := by
  have hB0 := hrow.lt
  obtain ⟨ab, cb, rfl, hcb, hmb⟩ := hb.form
  unfold maxLen at hmb
  have hg2 := hg
  unfold B32 at hg2
  refine (callsIn_wide (n := 9)).1 ?_
  refine callsIn_of_wp_marks Tryz.func103 rfl trivial ?_ rfl
  simp only [Tryz.ntmps103, List.size_toArray, List.length_cons, List.length_nil, Nat.reduceAdd, Nat.reduceSub, Array.replicate_succ, Array.replicate_zero, List.push_toArray, List.append_toArray, List.nil_append, List.cons_append]
  gi_wp2_with (refine ⟨trivial, ?_⟩; gi_at_call 90; refine (callsIn_wide.2 (limbs_any _ _ _ ⟨_, _, _, rfl⟩)).mono ?_; rintro e w' ⟨rfl, rfl⟩)
  have b0 : Below w.heap.size w w := Below.refl _ _
  have b6 := (((((b0.alloc (Nat.le_refl _) (.cells #[.slice (some ⟨B0, o, none⟩) n cap] 22)).alloc (by simp) (.cells #[.int .u32 (g : Int)] 52)).alloc (by simp; omega) (.cells #[.int .u64 0] 77)).alloc (by simp; omega) (.cells #[.int .u64 0] 77)).alloc (by simp; omega) (.cells #[.slice ab bs.length cb] 22)).alloc (by simp; omega) (.cells #[.int .i64 (n : Int)] 3)
  refine range_limbs 9 10 (w.heap.size + 5) (w.heap.size + 4) B0 n (.slice ab bs.length cb) bs (by exact rfl) hlb (by omega) (by simp) (by simp) (by simp; omega) ?m1 ?m2 (hb.below b6) hbB
    (fun pre W => RowAt W B0 52 (enc32 (ttFold o g L (pre.map (·.1))).1) ∧ Boxed W (w.heap.size + 2) 77 (.int .u64 ((ttFold o g L (pre.map (·.1))).2.1 : Int)) ∧ Boxed W (w.heap.size + 3) 77 (.int .u64 ((ttFold o g L (pre.map (·.1))).2.2 : Int)) ∧
      Boxed W (w.heap.size + 4) 22 (.slice ab bs.length cb) ∧ Boxed W w.heap.size 22 (.slice (some ⟨B0, o, none⟩) n cap) ∧ Boxed W (w.heap.size + 1) 52 (.int .u32 (g : Int)) ∧ Chg (fun k => k = B0) w W)
    (fun _ _ _ => False)
    ((ownFrom_rowAt _ _ _).and ((ownFrom_boxed _ _ _).and ((ownFrom_boxed _ _ _).and ((ownFrom_boxed _ _ _).and ((ownFrom_boxed _ _ _).and ((ownFrom_boxed _ _ _).and (ownFrom_chg ?mB)))))))
    (fun _ _ _ _ _ h _ _ => h.elim) ?start ?assign ?body ?done ?stop
  case mB => simp; omega
  case m1 => go_simp
  case m2 => go_simp
  case start =>
    refine ⟨?_, ?_, ?_, ?_, ?_, ?_, ?_⟩
    · exact (b6.block B0 hB0).trans hrow
    · exact Boxed.at ((((Boxed.new _ _ _).alloc _).alloc _).alloc _) (by simp)
    · exact Boxed.at (((Boxed.new _ _ _).alloc _).alloc _) (by simp)
    · exact Boxed.at ((Boxed.new _ _ _).alloc _) (by simp)
    · exact (((((Boxed.new _ _ _).alloc _).alloc _).alloc _).alloc _).alloc _
    · exact Boxed.at (((((Boxed.new _ _ _).alloc _).alloc _).alloc _).alloc _) (by simp)
    · exact (Chg.ofBelow b6).mono (fun k hk => hk) |> fun h => Chg.narrow (h.mono fun k hk => .inr hk)
  case assign =>
    intro l x W K hK
    gi_wp2
    exact hK
  case body =>
    rintro l pre x W ⟨rv, bc, bd, bs1, bl, bg, bw⟩ hlt
    have hwB := bw.size
    obtain ⟨⟨i, y⟩, hi1, hi2⟩ := x
    have hps : ∀ p ∈ pre.map (·.1), p.2 < B32 := fun p hp => by
      obtain ⟨q, _, rfl⟩ := List.mem_map.1 hp
      exact q.2.2
    obtain ⟨hr1, hc1, hd1⟩ := ttFold_limbs (o := o) hg hL (pre.map (·.1)) hps
    have hlen := ttFold_length o g L (pre.map (·.1))
    have hnext := ttFold_snoc o g L (pre.map (·.1)) (i, y)
    have hmap : (pre ++ [(⟨(i, y), hi1, hi2⟩ : IdxLimb n)]).map (·.1) = pre.map (·.1) ++ [(i, y)] := by simp
    generalize hst : ttFold o g L (pre.map (·.1)) = st at *
    obtain ⟨r, c, d⟩ := st
    simp only [ttStep] at hnext
    dsimp only at *
    clear hst hps
    obtain ⟨x, hx⟩ : ∃ x, r[o + i]?.getD 0 = x := ⟨_, rfl⟩
    have hxB := limb_getD hr1 (o + i)
    rw [hx] at hnext hxB
    have hcell : W.cell? ⟨B0, o + i, none⟩ = some (.int .u32 (x : Int)) := by
      rw [rv.cell, enc32_at (by omega), hx]
    have hfz := rv.frozen (o + i)
    obtain ⟨P, hP⟩ : ∃ P, g * y = P := ⟨_, rfl⟩
    obtain ⟨T, hT⟩ : ∃ T, c + P = T := ⟨_, rfl⟩
    have hTb : T < B32 * B32 := by rw [← hT, ← hP]; exact mul_limb_lt hc1 hg hi2
    rw [hP, hT] at hnext
    have hmul : IntKind.u64.wrap ((g : Int) * (y : Int)) = (P : Int) := by
      rw [← Int.natCast_mul, hP, IntKind.wrap_u64]; unfold B32 at *; omega
    have hs1 : IntKind.u64.wrap ((c : Int) + (P : Int)) = (T : Int) := by rw [IntKind.wrap_u64]; unfold B32 at *; omega
    clear hP hT hx
    obtain ⟨cl, hcl⟩ : ∃ cl, T % B32 = cl := ⟨_, rfl⟩
    obtain ⟨ch, hch⟩ : ∃ ch, T / B32 = ch := ⟨_, rfl⟩
    have hand : bits BinOp.and IntKind.u64 (T : Int) 4294967295 = (cl : Int) := by
      rw [show (4294967295 : Int) = ((2 ^ 32 - 1 : Nat) : Int) by decide, bits_and_u64_nat _ _ (by unfold B32 at *; omega) (by omega), Nat.and_two_pow_sub_one_eq_mod, ← hcl]; rfl
    have hdv : (T : Int) / 4294967296 = (ch : Int) := by rw [← hch]; unfold B32; omega
    have hclb : cl < 4294967296 := by rw [← hcl]; exact Nat.mod_lt _ (by decide)
    have hchb : ch < 4294967296 := by rw [← hch]; unfold B32 at *; omega
    rw [hcl, hch] at hnext
    clear hcl hch
    unfold B32 at hi2 hxB hc1 hTb
    obtain ⟨U, hU⟩ : ∃ U, IntKind.u64.wrap (IntKind.u64.wrap (IntKind.u64.wrap (x : Int) - IntKind.u64.wrap (cl : Int)) - (d : Int)) = U := ⟨_, rfl⟩
    obtain ⟨hw1, hw2⟩ := minus_word hxB hclb hd1 hU
    have hwx : IntKind.u64.wrap (x : Int) = (x : Int) := by rw [IntKind.wrap_u64]; omega
    have hwc : IntKind.u64.wrap (cl : Int) = (cl : Int) := by rw [IntKind.wrap_u64]; omega
    have hwg : IntKind.u64.wrap (g : Int) = (g : Int) := by rw [IntKind.wrap_u64]; omega
    have hwy : IntKind.u64.wrap (y : Int) = (y : Int) := by rw [IntKind.wrap_u64]; omega
    rw [hwx, hwc] at hU
    have HN := Lib.hid hnext
    have HM := Lib.hid hmap
    have HL := Lib.hid hlen
    have HW := Lib.hid (And.intro hw1 hw2)
    clear hnext hmap hlen hw1 hw2
    have hix := index_win B0 o n cap i hi1 .i64
    have hbc := bc.cell
    have hfc := bc.frozen
    have hbd := bd.cell
    have hfd := bd.frozen
    have hbl := bl.cell
    have hbg := bg.cell
    simp only [boundFrame]
    gi_wp2_with fail
    refine region_tail (.inr ⟨_, rfl⟩) 10 (by kernel_rfl) (by kernel_rfl) ?_
    simp only [List.take_succ_cons, List.take_zero, List.drop_succ_cons, List.drop_zero]
    repeat still_step
    refine wpStill_nil ?_
    change wpListIn _ _ _ _ _ _ _ (W.setCell _ _).drew
    gi_wp2_with fail
    have hF : Chg (fun k => k = B0 ∨ k = w.heap.size + 2 ∨ k = w.heap.size + 3) W _ := (((((Chg.refl _ W).setCell (p := ⟨w.heap.size + 2, 0, none⟩) (.inl (.inr (.inl rfl))) (.int .u64 (T : Int))).drew).setCell (p := ⟨B0, o + i, none⟩) (.inl (.inl rfl)) (.int .u32 (IntKind.u32.wrap U))).setCell (p := ⟨w.heap.size + 3, 0, none⟩) (.inl (.inr (.inr rfl))) (.int .u64 (U / 9223372036854775808))).setCell (p := ⟨w.heap.size + 2, 0, none⟩) (.inl (.inr (.inl rfl))) (.int .u64 (ch : Int))
    have hbel := hF.below (B := B0) (by rintro k (e | e | e) <;> omega) (by omega)
    have f4 := hF.boxed bs1 (by omega)
    refine ⟨hF.keepsFrom _ ?_, Kp0.boxed hbel bs1 f4, ?_, ?_, ?_, f4, hF.boxed bl (by omega), hF.boxed bg (by omega), bw.step hF (by rintro b (e | e | e) <;> omega)⟩
    · rintro k (rfl | rfl | rfl)
      · exact rv.isCells
      · exact Boxed.isCells bc
      · exact Boxed.isCells bd
    · rw [HM.out, HN.out, enc32_set, HW.out.1]
      exact RowAt.other (RowAt.other (RowAt.set (RowAt.drew (rv.other (by simp; omega) _)) (o + i) _) (by simp; omega) _) (by simp; omega) _
    · rw [HM.out, HN.out]
      exact Boxed.set _ (Boxed.otherAt (Boxed.otherAt (Boxed.drew (Boxed.set _ bc)) (by simp; omega) _) (by simp) _)
    · rw [HM.out, HN.out, HW.out.2]
      exact Boxed.otherAt (Boxed.set _ (Boxed.otherAt (Boxed.drew (Boxed.otherAt bd (by simp) _)) (by simp; omega) _)) (by simp) _
  case done =>
    rintro D ys W hD hys ⟨rv, bc, bd, bs1, bl, bg, bw⟩ hK
    rw [hys] at rv bd
    have hlim := (ttFold_limbs (o := o) hg hL (limbPairs bs n) (fun p hp => by
      obtain ⟨q, _, rfl⟩ := List.mem_map.1 (hys ▸ hp)
      exact q.2.2)).2.2
    clear hys bc
    obtain ⟨st, hst⟩ : ∃ st, ttFold o g L (limbPairs bs n) = st := ⟨_, rfl⟩
    rw [hst] at rv bd hlim
    have HS := Lib.hid hst
    clear hst
    obtain ⟨r, c, d⟩ := st
    dsimp only at *
    have hbd := bd.cell
    gi_wp2_with fail
    refine ⟨by simp, .inl ⟨_, _, rfl, run_takeDeferred hK, ?_⟩⟩
    have hD2 : w.heap.size + 6 ≤ D := by simpa using hD
    have hbk := belowK_b (w := w) (Nat.le_refl _) W D _ (.deferred none) (by omega) hK rfl rfl
    refine ⟨_, results_tmp rfl _ _ _, bw.step (Chg.ofBelow hbk) (fun b hb => .inr hb), ?_, ?_⟩
    · rw [HS.out]
      exact (World.putObj_heap_other (by omega)).trans rv
    · rw [HS.out]
      simp
  case stop =>
    rintro D c pre W _ _ h _
    exact h.elim

end Go.Proofs.YtlghjfpkfdnfoaaGreatDoor
