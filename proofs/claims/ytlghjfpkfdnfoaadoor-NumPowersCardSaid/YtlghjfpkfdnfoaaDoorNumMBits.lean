/- num.times at every length: by halves -/
import Derived.Test.YtlghjfpkfdnfoaaDoorNumMSplit
import Derived.Test.YtlghjfpkfdnfoaaDoorNumMDivLong
import Derived.Test.YtlghjfpkfdnfoaaDoorNumMDivisor
import Derived.Test.YtlghjfpkfdnfoaaDoorNumMFloored
import Derived.Test.YtlghjfpkfdnfoaaDoorNumMParseApi
import Derived.Test.YtlghjfpkfdnfoaaDoorNumMOrder
import Derived.Deep.CutRange
import Derived.Test.YtlghjfpkfdnfoaaDoorNumMRing2
namespace Go.Proofs.YtlghjfpkfdnfoaaDoor
open Go Go.RowKit Go.Shelf

/-- the closure that multiplies, in its variable -/
def HvF (b : Nat) (X : World) : Prop := X.cell? ⟨b, 0, none⟩ = some (Value.func (.func 121) #[] #[.pointer (some ⟨b, 0, none⟩)])
/-- the closure is right for so many limbs -/
def HvUp (b n : Nat) : Prop := ∀ (va vb : Value) (xa xb : List Nat) (w : World), HvF b w → Reads .u32 w va xa → Reads .u32 w vb xb → Limbs xa → Limbs xb → xa.length ≤ n → xb.length ≤ n →
  Calls Tryd.prog 121 #[va, vb, .pointer (some ⟨b, 0, none⟩)] w fun e w' => Below w.heap.size w w' ∧ ∃ v cs, e = .returned v ∧ Reads .u32 w' v cs ∧ Canon cs ∧ val cs = val xa * val xb
theorem hvF_below {b : Nat} {X X' : World} (h : HvF b X) (hb : Below X.heap.size X X') : HvF b X' := (World.cell?_of_block (hb.block _ (World.block_lt_of_cell? _ _ h))).trans h

/-- the halves of a list -/
theorem halves_of {xs : List Nat} (hx : Limbs xs) (h m : Nat) (hm : min h xs.length = m) (hh : xs.length ≤ 2 * h) :
    val xs = val (trimmed (xs.take m)) + B32 ^ h * val (xs.drop m) ∧ Canon (trimmed (xs.take m)) ∧ Limbs (xs.drop m) ∧ (trimmed (xs.take m)).length ≤ h ∧ (xs.drop m).length ≤ h := by
  refine ⟨?_, canon_trimmed (limbs_take hx m), limbs_drop hx m, ?_, ?_⟩
  · rw [val_trimmed]
    by_cases hc : h ≤ xs.length
    · obtain rfl : h = m := by omega
      exact val_parts xs h hc
    · obtain rfl : xs.length = m := by omega
      rw [List.take_of_length_le (Nat.le_refl _), List.drop_of_length_le (Nat.le_refl _)]
      simp [val]
  · have := trimmed_length (xs.take m)
    rw [List.length_take] at this
    omega
  · rw [List.length_drop]; omega

set_option maxHeartbeats 4000000 in
set_option maxRecDepth 100000 in
theorem halves_step (b n : Nat) (IH : HvUp b n) (va vb : Value) (xa xb : List Nat) (w : World) (hF : HvF b w) (ha : Reads .u32 w va xa) (hb : Reads .u32 w vb xb) (hla : Limbs xa) (hlb : Limbs xb) (la : xa.length ≤ n + 1) (lb : xb.length ≤ n + 1) (hn : n ≤ 40000) (hs : 80 ≤ min xa.length xb.length) :
    Calls Tryd.prog 121 #[va, vb, .pointer (some ⟨b, 0, none⟩)] w fun e w' => Below w.heap.size w w' ∧ ∃ v cs, e = .returned v ∧ Reads .u32 w' v cs ∧ Canon cs ∧ val cs = val xa * val xb := by
  obtain ⟨h, hh⟩ : ∃ h, (max xa.length xb.length + 1) / 2 = h := ⟨_, rfl⟩
  obtain ⟨ma, hma⟩ : ∃ m, min h xa.length = m := ⟨_, rfl⟩
  obtain ⟨mb, hmb⟩ : ∃ m, min h xb.length = m := ⟨_, rfl⟩
  obtain ⟨ea, ka0, ka1, na0, na1⟩ := halves_of hla h ma hma (by omega)
  obtain ⟨eb, kb0, kb1, nb0, nb1⟩ := halves_of hlb h mb hmb (by omega)
  have sa := fun W (hW : Below w.heap.size w W) => split_any va xa h ma hma W (ha.below hW)
  have sb := fun W (hW : Below w.heap.size w W) => split_any vb xb h mb hmb W (hb.below hW)
  generalize trimmed (xa.take ma) = a0 at *
  generalize xa.drop ma = a1 at *
  generalize trimmed (xb.take mb) = b0 at *
  generalize xb.drop mb = b1 at *
  have hmk : ∀ W, (Instr.makeSlice 22 (.int .i64 ((xa.length : Int) + (xb.length : Int))) (.int .i64 ((xa.length : Int) + (xb.length : Int)))).run Tryd.prog W = .ok (.slice (some ⟨W.heap.size, 0, none⟩) (xa.length + xb.length) (xa.length + xb.length)) (W.alloc (.cells (zeros (xa.length + xb.length)) 72)) := fun W => by
    rw [make_limbs _ _ (by omega) (by omega) (by omega) W, show ((xa.length : Int) + (xb.length : Int)).toNat = xa.length + xb.length by omega]
  have HE := Lib.hid (fun low mid high (kl : Canon low) (km : Canon mid) (kh : Canon high) e1 e2 e3 => halves_end (low := low) (mid := mid) (high := high) hla hlb ea eb kl km kh e1 e2 e3 rfl (by omega))
  have l80 : ¬ min (xa.length : Int) (xb.length : Int) < 80 := by omega
  obtain ⟨aa, ca, rfl, hca, hmaa⟩ := ha.form
  obtain ⟨ab, cb, rfl, hcb, hmbb⟩ := hb.form
  have hd : (max (xa.length : Int) (xb.length : Int) + 1) / 2 = (h : Int) := by omega
  have hlen1 : 80 ≤ xa.length := by omega
  have hlen2 : 80 ≤ xb.length := by omega
  have hhn : h + 1 ≤ n := by omega
  have hhm : 2 * h ≤ xa.length + xb.length := by omega
  clear ea eb hma hmb hs hh
  go_enter Tryd.func121, Tryd.ntmps121
  go_wp2_with (first
    | (go_at_call 123; with_reducible refine (sa _ (Below.refl _ _)).mono ?_; rintro e w1 ⟨hb1, v1, v2, rfl, r1, r2⟩)
    | (go_at_call 123; with_reducible refine (sb _ hb1).mono ?_; rintro e w2 ⟨hb2, v3, v4, rfl, r3, r4⟩))
  clear sa sb
  replace r1 := r1.below hb2
  replace r2 := r2.below hb2
  have hbe := hb1.trans (hb2.mono hb1.size)
  replace hF := hvF_below hF hbe
  clear hb1 hb2
  have kl := fun (X : World) (hX : X.cell? ⟨b, 0, none⟩ = some (Value.func (.func 121) #[] #[.pointer (some ⟨b, 0, none⟩)])) (hB : Below w2.heap.size w2 X) => IH v1 v3 a0 b0 X hX (r1.below hB) (r3.below hB) ka0.1 kb0.1 (by omega) (by omega)
  have kh := fun (X : World) (hX : X.cell? ⟨b, 0, none⟩ = some (Value.func (.func 121) #[] #[.pointer (some ⟨b, 0, none⟩)])) (hB : Below w2.heap.size w2 X) => IH v2 v4 a1 b1 X hX (r2.below hB) (r4.below hB) ka1 kb1 (by omega) (by omega)
  have HF := Lib.hid hF
  unfold HvF at hF

  go_region_held3 (fun X => X.cell? ⟨b, 0, none⟩ = some (Value.func (.func 121) #[] #[.pointer (some ⟨b, 0, none⟩)]) ∧ Below w2.heap.size w2 X)
    (first | exact ⟨HF.out, (Below.refl _ _).drew⟩ | (go_split_ands; exact ⟨hvF_below (by assumption) hbc, Below.trans (by assumption) (hbc.mono (Below.size (by assumption)))⟩))
    (first
      | (go_at_call 121; go_split_ands; with_reducible refine (kl _ (by assumption) (by assumption)).mono ?_; rintro e wk ⟨hbc, vl, low, rfl, rl, cl, el⟩)
      | (go_at_call 121; go_split_ands; with_reducible refine (kh _ (by assumption) (by assumption)).mono ?_; rintro e wk ⟨hbc, vh, high, rfl, rh, ch, eh⟩; replace rl := rl.below hbc))
  rename_i hX
  obtain ⟨hF6, hB6⟩ := hX
  replace hbe := hbe.trans (hB6.mono hbe.size)
  replace r1 := r1.below hB6
  replace r2 := r2.below hB6
  replace r3 := r3.below hB6
  replace r4 := r4.below hB6
  clear kl kh hF HF hB6
  generalize wk = w6 at *
  have kp := fun X (hB : Below w6.heap.size w6 X) => plus_any v1 v2 a0 a1 X (r1.below hB) (r2.below hB) ka0.1 ka1 (by omega) (by omega)
  have kq := fun X (hB : Below w6.heap.size w6 X) => plus_any v3 v4 b0 b1 X (r3.below hB) (r4.below hB) kb0.1 kb1 (by omega) (by omega)
  have ks := fun (X : World) (hX : X.cell? ⟨b, 0, none⟩ = some (Value.func (.func 121) #[] #[.pointer (some ⟨b, 0, none⟩)])) (vs vt : Value) (sA tB : List Nat) (rs : Reads .u32 X vs sA) (rt : Reads .u32 X vt tB) (cs : Canon sA) (ct : Canon tB) (es : val sA = val a0 + val a1) (et : val tB = val b0 + val b1) =>
    IH vs vt sA tB X hX rs rt cs.1 ct.1 (by have := canon_len_add cs ka0.1 ka1 es; omega) (by have := canon_len_add ct kb0.1 kb1 et; omega)
  have HF := Lib.hid hF6
  go_wp2_with fail
  go_region_held3 (fun X => X.cell? ⟨b, 0, none⟩ = some (Value.func (.func 121) #[] #[.pointer (some ⟨b, 0, none⟩)]) ∧ Below w6.heap.size w6 X)
    (first | exact ⟨HF.out, (Below.refl _ _).drew⟩ | (go_split_ands; exact ⟨hvF_below (by assumption) hbc, Below.trans (by assumption) (hbc.mono (Below.size (by assumption)))⟩))
    (first
      | (go_at_call 101; go_split_ands; with_reducible refine (kp _ (by assumption)).mono ?_; rintro e wk ⟨hbc, vs, sA, rfl, rs, cs, es⟩)
      | (go_at_call 101; go_split_ands; with_reducible refine (kq _ (by assumption)).mono ?_; rintro e wk ⟨hbc, vt, tB, rfl, rt, ct, et⟩; replace rs := rs.below hbc)
      | (go_at_call 121; go_split_ands; with_reducible refine (ks _ (by assumption) vs vt sA tB rs rt cs ct es et).mono ?_; rintro e wk ⟨hbc, vw, AL, rfl, rw_, cw, ew⟩))
  rename_i hX
  obtain ⟨-, hB7⟩ := hX
  have nAL : AL.length ≤ sA.length + tB.length := canon_length_le cw (by rw [ew, Nat.pow_add]; exact Nat.mul_lt_mul'' (val_lt cs.1) (val_lt ct.1))
  have nS := canon_len_add cs ka0.1 ka1 es
  have nT := canon_len_add ct kb0.1 kb1 et
  rw [es, et] at ew
  replace hbe := hbe.trans (hB7.mono hbe.size)
  replace rl := rl.below hB7
  replace rh := rh.below hB7
  clear kp kq ks HF hF6 hB7 r1 r2 r3 r4 rs rt IH
  generalize wk = w7 at *
  have g1 : val low ≤ val AL := by rw [el, ew]; exact halves_le1 _ _ _ _
  have m1 := minus_any vw vl AL low w7 rw_ rl cw.1 cl.1 (by omega) (canon_le_length cw cl g1) g1
  have m2 := fun X vm M1 (hB : Below w7.heap.size w7 X) (rm : Reads .u32 X vm M1) (cm : Canon M1) (em : val M1 = val AL - val low) => by
    have g2 : val high ≤ val M1 := by rw [em, el, ew, eh]; exact halves_le2 _ _ _ _
    have g3 : M1.length ≤ AL.length := canon_le_length cw cm (by omega)
    exact minus_any vm vh M1 high X rm (rh.below hB) cm.1 ch.1 (by omega) (canon_le_length cm ch g2) g2
  go_wp2_with (first
    | (go_at_call 102; with_reducible refine m1.mono ?_; rintro e w8 ⟨hb8, vm, M1, rfl, rm, cm, em⟩)
    | (go_at_call 102; with_reducible refine (m2 _ vm M1 hb8 rm cm em).mono ?_; rintro e w9 ⟨hb9, vd, M2, rfl, rd, cd, ed⟩))
  clear m1 m2 hmk rm rw_ nS nT nAL g1
  have rl9 := (rl.below hb8).below hb9
  have rh9 := (rh.below hb8).below hb9
  obtain ⟨q1, q2, q3, e1, e2, e3, lq1, nq1, lq2, nq2, lq3, nq3, vq⟩ := HE.out low M2 high cl cd ch el (by rw [ed, em, ew, el, eh]) eh
  clear HE rl rh ed em ew el eh es et
  have hbe9 := (hbe.trans (hb8.mono hbe.size)).trans (hb9.mono (Nat.le_trans hbe.size hb8.size))
  clear hb8 hb9 hbe
  obtain ⟨N, hN⟩ : ∃ N, xa.length + xb.length = N := ⟨_, rfl⟩
  rw [hN] at nq1 nq2 nq3 e1 e2 e3 hhm
  rw [hN]
  have hN2 : N ≤ 90000 := by omega
  have row9 := RowAt.new w9 72 (enc32 (List.replicate N 0))
  rw [show (enc32 (List.replicate N 0)).toArray = zeros N by simp [enc32, zeros]] at row9
  have hB9 := (Below.refl w9.heap.size w9).alloc (Nat.le_refl _) (.cells (zeros N) 72)
  have lt1 := rl9.lt
  have lt2 := rd.lt
  have lt3 := rh9.lt
  replace rl9 := rl9.below hB9
  replace rd := rd.below hB9
  replace rh9 := rh9.below hB9
  have hbeA := hbe9.trans (hB9.mono hbe9.size)
  have hB0 := hbe9.size
  generalize w9.alloc (.cells (zeros N) 72) = W9 at *
  generalize w9.heap.size = B0 at *
  have A1 := addAt_any vl low (List.replicate N 0) N 0 N 0 B0 N W9 row9 (limbs_zeros N) rl9 cl.1 (by omega) (by simp) (by omega) lt1
  rw [show ((0 : Nat) : Int) = 0 from rfl, Nat.add_zero, ← e1] at A1
  refine A1.mono ?_
  rintro e W10 ⟨hc10, row10, x10, rfl⟩
  replace rd := chg_reads hc10 rd lt2 (fun k hk => by omega)
  replace rh9 := chg_reads hc10 rh9 lt3 (fun k hk => by omega)
  replace hbeA := hbeA.trans (hc10.below (B := w.heap.size) (by rintro k rfl; omega) hbeA.size)
  clear A1 hc10 row9 rl9
  have A2 := addAt_any vd M2 q1 N h (N - h) 0 B0 N W10 row10 lq1 rd cd.1 (by omega) (by omega) (by omega) lt2
  rw [Nat.zero_add, ← e2] at A2
  go_wp2_with (first | (go_at_call 124; with_reducible refine A2.mono ?_; rintro e W11 ⟨hc11, row11, x11, rfl⟩))
  replace rh9 := chg_reads hc11 rh9 lt3 (fun k hk => by omega)
  replace hbeA := hbeA.trans (hc11.below (B := w.heap.size) (by rintro k rfl; omega) hbeA.size)
  clear A2 hc11 row10 rd
  have A3 := addAt_any vh high q2 N (2 * h) (N - 2 * h) 0 B0 N W11 row11 lq2 rh9 ch.1 (by omega) (by omega) (by omega) lt3
  rw [Nat.zero_add, ← e3, Int.natCast_mul] at A3
  refine A3.mono ?_
  rintro e W12 ⟨hc12, row12, x12, rfl⟩
  replace hbeA := hbeA.trans (hc12.below (B := w.heap.size) (by rintro k rfl; omega) hbeA.size)
  have rq : Reads .u32 W12 (.slice (some ⟨B0, 0, none⟩) N N) q3 := RowAt.reads row12 N N nq3.symm (Nat.le_refl _) (by unfold maxLen; omega)
  clear A3 hc12 row11 rh9
  go_wp2_with (first | (go_at_call 64; with_reducible refine (trim_any _ _ _ rq).mono ?_; rintro e W13 ⟨rfl, v13, rfl, hr⟩))
  go_ret
  exact ⟨hbeA, v13, trimmed q3, rfl, hr, canon_trimmed lq3, by rw [val_trimmed, vq]⟩

theorem halves_any (b : Nat) : ∀ n, n ≤ 40000 → HvUp b n := by
  intro n
  induction n with
  | zero => exact fun _ va vb xa xb w _ ha hb hla hlb la lb => byHalves_small va vb _ xa xb w ha hb hla hlb (by omega) (by omega) (by omega)
  | succ n ih =>
    intro hn va vb xa xb w hF ha hb hla hlb la lb
    by_cases hs : min xa.length xb.length < 80
    · exact byHalves_small va vb _ xa xb w ha hb hla hlb (by omega) (by omega) hs
    · exact halves_step b n (ih (by omega)) va vb xa xb w hF ha hb hla hlb la lb (by omega) (by omega)

set_option maxHeartbeats 1000000 in
set_option maxRecDepth 100000 in
/-- num.times for all factors of at most 40000 limbs -/
theorem times_any : TimesUpTo 40000 := by
  intro va vb xa xb w ha hb hla hlb na nb
  obtain ⟨aa, ca, rfl, hca, hma⟩ := ha.form
  obtain ⟨ab, cb, rfl, hcb, hmb⟩ := hb.form
  go_enter Tryd.func104, Tryd.ntmps104
  have b0 := (Below.refl w.heap.size w).alloc (Nat.le_refl _) (.cells #[Value.func (.func 121) #[] #[.pointer (some ⟨w.heap.size, 0, none⟩)]] 94)
  have hF : HvF w.heap.size (w.alloc (.cells #[Value.func (.func 121) #[] #[.pointer (some ⟨w.heap.size, 0, none⟩)]] 94)) := by unfold HvF; go_simp
  have key := halves_any w.heap.size 40000 (Nat.le_refl _) (.slice aa xa.length ca) (.slice ab xb.length cb) xa xb _ hF (ha.below b0) (hb.below b0) hla hlb na nb
  go_wp2_with (go_at_call 121; with_reducible refine key.mono ?_; rintro e w' ⟨hbe, v, cs, rfl, h1, h2, h3⟩)
  go_ret
  exact ⟨b0.trans (hbe.mono (by simp)), v, cs, rfl, h1, h2, h3⟩

end Go.Proofs.YtlghjfpkfdnfoaaDoor

/- num.Sub -/
namespace Go.Proofs.YtlghjfpkfdnfoaaDoor
open Go Go.RowKit Go.Shelf

set_option maxHeartbeats 1000000 in
set_option maxRecDepth 100000 in
theorem Sub_any (a b : Value) (na nb : Bool) (xa xb : List Nat) (w : World) (ha : IntAt w a na xa) (hb : IntAt w b nb xb) :
    Calls Tryd.prog 29 #[a, b] w fun e w' => Below w.heap.size w w' ∧ ∃ v k, e = .returned (.tuple #[v, .int .i64 k]) ∧ RingRes (formedB na xa) (formedB nb xb) (sgn na (val xa) - sgn nb (val xb)) k w' v := by
  have key := fun w2 (hb2 : Below w.heap.size w w2) => ring_any 68 a b na nb xa xb w2 (ha.below hb2) (hb.below hb2) (sgn na (val xa) - sgn nb (val xb)) (fun W args => by simp [go_sem])
    (fun fa fb W hW => difference_any a b _ _ 300 W (((ha.below hb2).isInt fa).below hW) (((hb.below hb2).isInt fb).below hW) (by omega) (ha.natAbs_lt fa) (hb.natAbs_lt fb))
  obtain ⟨va, rfl, hra, hla⟩ := ha
  obtain ⟨vb, rfl, hrb, hlb⟩ := hb
  obtain ⟨aa, ca, rfl, hca, hma⟩ := hra.form
  obtain ⟨ab, cb, rfl, hcb, hmb⟩ := hrb.form
  have bw := ((((Below.refl w.heap.size w).alloc (Nat.le_refl _) (.cells #[.bool na, .slice aa xa.length ca] 24)).alloc (by simp) (.cells #[.bool nb, .slice ab xb.length cb] 24)).alloc (by simp; omega) (.cells #[.bool false, .slice none 0 0] 24))
  have q3 := RowAt.new ((w.alloc (.cells #[.bool na, .slice aa xa.length ca] 24)).alloc (.cells #[.bool nb, .slice ab xb.length cb] 24)) 24 [.bool false, .slice none 0 0]
  simp only [World.size_alloc] at q3
  go_enter Tryd.func29, Tryd.ntmps29
  go_wp2_with (refine (key _ bw).mono ?_; rintro e w1 ⟨hbe1, v, k, rfl, hres⟩; obtain ⟨n, a, m, c, rfl⟩ := hres.form; have q4 := q3.below hbe1; have s1 := q4.cell 0; have s2 := q4.cell 1; have s3 := q4.frozen 0; have s4 := q4.frozen 1; simp only [List.getElem?_cons_zero, List.getElem?_cons_succ] at s1 s2)
  obtain ⟨u1, u2⟩ := two_reads (b := w.heap.size + 1 + 1) s1 s2 (.bool n) (.slice a m c)
  have hkeep : ∀ v xs, Reads .u32 w1 v xs → Reads .u32 ((w1.setCell ⟨w.heap.size + 1 + 1, 0, none⟩ (.bool n)).setCell ⟨w.heap.size + 1 + 1, 1, none⟩ (.slice a m c)) v xs :=
    fun v xs h => two_kept (b := w.heap.size + 1 + 1) h s1 s2 _ _
  refine bodyPost_ret (v := .tuple #[.agg #[.bool n, .slice a m c], .int .i64 k]) (by simp [results, Tryd.results29, go_sem, loadCellsFrom, u1, u2]) rfl ⟨?_, _, k, rfl, hres.keep hkeep⟩
  have hb9 : Below w.heap.size w w1 := bw.trans (hbe1.mono bw.size)
  exact (hb9.setCell (by simp; omega) _).setCell (by simp; omega) _

end Go.Proofs.YtlghjfpkfdnfoaaDoor

/- num.Mul where one factor has fewer than 80 limbs -/
namespace Go.Proofs.YtlghjfpkfdnfoaaDoor
open Go Go.RowKit Go.Shelf

set_option maxHeartbeats 1000000 in
set_option maxRecDepth 100000 in
theorem Mul_any (k : Nat) (hk : k < 80) (a b : Value) (na nb : Bool) (xa xb : List Nat) (w : World) (ha : IntAt w a na xa) (hb : IntAt w b nb xb) (hs : (sgn na (val xa)).natAbs < B32 ^ k ∨ (sgn nb (val xb)).natAbs < B32 ^ k) :
    Calls Tryd.prog 30 #[a, b] w fun e w' => Below w.heap.size w w' ∧ ∃ v k, e = .returned (.tuple #[v, .int .i64 k]) ∧ RingRes (formedB na xa) (formedB nb xb) (sgn na (val xa) * sgn nb (val xb)) k w' v := by
  have key := fun w2 (hb2 : Below w.heap.size w w2) => ring_any 69 a b na nb xa xb w2 (ha.below hb2) (hb.below hb2) (sgn na (val xa) * sgn nb (val xb)) (fun W args => by simp [go_sem])
    (fun fa fb W hW => product_le a b _ _ k 300 W (((ha.below hb2).isInt fa).below hW) (((hb.below hb2).isInt fb).below hW) hk (by omega) (ha.natAbs_lt fa) (hb.natAbs_lt fb) hs)
  obtain ⟨va, rfl, hra, hla⟩ := ha
  obtain ⟨vb, rfl, hrb, hlb⟩ := hb
  obtain ⟨aa, ca, rfl, hca, hma⟩ := hra.form
  obtain ⟨ab, cb, rfl, hcb, hmb⟩ := hrb.form
  have bw := ((((Below.refl w.heap.size w).alloc (Nat.le_refl _) (.cells #[.bool na, .slice aa xa.length ca] 24)).alloc (by simp) (.cells #[.bool nb, .slice ab xb.length cb] 24)).alloc (by simp; omega) (.cells #[.bool false, .slice none 0 0] 24))
  have q3 := RowAt.new ((w.alloc (.cells #[.bool na, .slice aa xa.length ca] 24)).alloc (.cells #[.bool nb, .slice ab xb.length cb] 24)) 24 [.bool false, .slice none 0 0]
  simp only [World.size_alloc] at q3
  go_enter Tryd.func30, Tryd.ntmps30
  go_wp2_with (refine (key _ bw).mono ?_; rintro e w1 ⟨hbe1, v, k, rfl, hres⟩; obtain ⟨n, a, m, c, rfl⟩ := hres.form; have q4 := q3.below hbe1; have s1 := q4.cell 0; have s2 := q4.cell 1; have s3 := q4.frozen 0; have s4 := q4.frozen 1; simp only [List.getElem?_cons_zero, List.getElem?_cons_succ] at s1 s2)
  obtain ⟨u1, u2⟩ := two_reads (b := w.heap.size + 1 + 1) s1 s2 (.bool n) (.slice a m c)
  have hkeep : ∀ v xs, Reads .u32 w1 v xs → Reads .u32 ((w1.setCell ⟨w.heap.size + 1 + 1, 0, none⟩ (.bool n)).setCell ⟨w.heap.size + 1 + 1, 1, none⟩ (.slice a m c)) v xs :=
    fun v xs h => two_kept (b := w.heap.size + 1 + 1) h s1 s2 _ _
  refine bodyPost_ret (v := .tuple #[.agg #[.bool n, .slice a m c], .int .i64 k]) (by simp [results, Tryd.results30, go_sem, loadCellsFrom, u1, u2]) rfl ⟨?_, _, k, rfl, hres.keep hkeep⟩
  have hb9 : Below w.heap.size w w1 := bw.trans (hbe1.mono bw.size)
  exact (hb9.setCell (by simp; omega) _).setCell (by simp; omega) _

set_option exponentiation.threshold 400 in
/-- the three operations of the ring, at values -/
theorem ring_value {fa fb : Bool} {r k : Int} {W : World} {v : Value} (h : RingRes fa fb r k W v) (ha : fa = true) (hb : fb = true) (hr : r.natAbs < B32 ^ 300) : k = 0 ∧ IsInt W v r := by
  unfold RingRes at h
  rw [ha, hb, if_pos (by rfl), if_pos hr] at h
  exact h
set_option exponentiation.threshold 400 in
theorem sub_int (va vb : Value) (i j : Int) (w : World) (ha : IsInt w va i) (hb : IsInt w vb j) (hi : i.natAbs < B32 ^ 300) (hj : j.natAbs < B32 ^ 300) (hr : (i - j).natAbs < B32 ^ 300) :
    Calls Tryd.prog 29 #[va, vb] w fun e w' => Below w.heap.size w w' ∧ ∃ v, e = .returned (.tuple #[v, .int .i64 0]) ∧ IsInt w' v (i - j) := by
  obtain ⟨na, xa, hA, fa, rfl, -, -⟩ := ha.at hi
  obtain ⟨nb, xb, hB, fb, rfl, -, -⟩ := hb.at hj
  refine (Sub_any va vb na nb xa xb w hA hB).mono ?_
  rintro e w2 ⟨h1, v, k, rfl, h2⟩
  obtain ⟨rfl, h3⟩ := ring_value h2 fa fb hr
  exact ⟨h1, v, rfl, h3⟩
set_option exponentiation.threshold 400 in
theorem sum_int (va vb : Value) (i j : Int) (w : World) (ha : IsInt w va i) (hb : IsInt w vb j) (hi : i.natAbs < B32 ^ 300) (hj : j.natAbs < B32 ^ 300) (hr : (i + j).natAbs < B32 ^ 300) :
    Calls Tryd.prog 28 #[va, vb] w fun e w' => Below w.heap.size w w' ∧ ∃ v, e = .returned (.tuple #[v, .int .i64 0]) ∧ IsInt w' v (i + j) := by
  obtain ⟨na, xa, hA, fa, rfl, -, -⟩ := ha.at hi
  obtain ⟨nb, xb, hB, fb, rfl, -, -⟩ := hb.at hj
  refine (Add_any va vb na nb xa xb w hA hB).mono ?_
  rintro e w2 ⟨h1, v, k, rfl, h2⟩
  obtain ⟨rfl, h3⟩ := ring_value h2 fa fb hr
  exact ⟨h1, v, rfl, h3⟩
set_option exponentiation.threshold 400 in
theorem mul_int (m : Nat) (hm : m < 80) (va vb : Value) (i j : Int) (w : World) (ha : IsInt w va i) (hb : IsInt w vb j) (hi : i.natAbs < B32 ^ 300) (hj : j.natAbs < B32 ^ 300) (hs : i.natAbs < B32 ^ m ∨ j.natAbs < B32 ^ m) (hr : (i * j).natAbs < B32 ^ 300) :
    Calls Tryd.prog 30 #[va, vb] w fun e w' => Below w.heap.size w w' ∧ ∃ v, e = .returned (.tuple #[v, .int .i64 0]) ∧ IsInt w' v (i * j) := by
  obtain ⟨na, xa, hA, fa, rfl, -, -⟩ := ha.at hi
  obtain ⟨nb, xb, hB, fb, rfl, -, -⟩ := hb.at hj
  refine (Mul_any m hm va vb na nb xa xb w hA hB hs).mono ?_
  rintro e w2 ⟨h1, v, k, rfl, h2⟩
  obtain ⟨rfl, h3⟩ := ring_value h2 fa fb hr
  exact ⟨h1, v, rfl, h3⟩

end Go.Proofs.YtlghjfpkfdnfoaaDoor

/- zermelolaw01.NumRings -/
namespace Go.Proofs.YtlghjfpkfdnfoaaDoor
open Go Go.RowKit Go.Shelf

theorem abs_mul_lt {x y : Int} {m n : Nat} (hx : x.natAbs < B32 ^ m) (hy : y.natAbs < B32 ^ n) : (x * y).natAbs < B32 ^ (m + n) := by
  rw [Int.natAbs_mul, Nat.pow_add]
  exact Nat.mul_lt_mul_of_lt_of_lt hx hy
theorem abs_add_lt {x y : Int} {m : Nat} (hx : x.natAbs < B32 ^ m) (hy : y.natAbs < B32 ^ m) : (x + y).natAbs < B32 ^ (m + 1) := by
  have h1 : B32 ^ (m + 1) = B32 ^ m * B32 := Nat.pow_succ ..
  have h2 : (2 : Nat) ≤ B32 := by decide
  have h3 : B32 ^ m * 2 ≤ B32 ^ m * B32 := Nat.mul_le_mul_left _ h2
  generalize B32 ^ m = P at *
  omega
theorem BoxI.at {W : World} {b : Nat} {i : Int} (h : BoxI W (.pointer (some ⟨b, 0, none⟩)) i) : ∃ n a m c, RowAt W b 24 [.bool n, .slice a m c] ∧ IsInt W (.agg #[.bool n, .slice a m c]) i := by
  obtain ⟨b', n, a, m, c, e, hr, hi⟩ := h
  simp only [Value.pointer.injEq, Option.some.injEq, Addr.mk.injEq, and_true] at e
  subst e
  exact ⟨n, a, m, c, hr, hi⟩
theorem zeros14 (q : Nat) (hq : q < 14) : ([.int .i64 0, .int .i64 0, .int .i64 0, .int .i64 0, .int .i64 0, .int .i64 0, .int .i64 0, .int .i64 0, .int .i64 0, .int .i64 0, .int .i64 0, .int .i64 0, .int .i64 0, .int .i64 0] : List Value)[q]? = some (.int .i64 0) := by
  have : ([.int .i64 0, .int .i64 0, .int .i64 0, .int .i64 0, .int .i64 0, .int .i64 0, .int .i64 0, .int .i64 0, .int .i64 0, .int .i64 0, .int .i64 0, .int .i64 0, .int .i64 0, .int .i64 0] : List Value) = List.replicate 14 (.int .i64 0) := rfl
  rw [this, List.getElem?_replicate, if_pos hq]
theorem abs_lt_up {x : Int} {m n : Nat} (hx : x.natAbs < B32 ^ m) (h : m ≤ n) : x.natAbs < B32 ^ n := Nat.lt_of_lt_of_le hx (Nat.pow_le_pow_right (by decide) h)

set_option maxHeartbeats 4000000 in
set_option maxRecDepth 100000 in
set_option exponentiation.threshold 400 in
theorem rings_any (va vb vc : Value) (na nb nc : Bool) (xa xb xc : List Nat) (w : World) (ha : IntAt w va na xa) (hb : IntAt w vb nb xb) (hc : IntAt w vc nc xc) (hT : DigitsAt w) :
    Calls Tryd.prog 9 #[va, vb, vc] w fun e w' => Below w.heap.size w w' ∧ e = .returned (.bool true) := by
  obtain ⟨sa, rfl, hra, hla⟩ := ha
  obtain ⟨sb, rfl, hrb, hlb⟩ := hb
  obtain ⟨sc, rfl, hrc, hlc⟩ := hc
  obtain ⟨aa, ca, rfl, hca, hma⟩ := hra.form
  obtain ⟨ab, cb, rfl, hcb, hmb⟩ := hrb.form
  obtain ⟨ac, cc, rfl, hcc, hmc⟩ := hrc.form
  go_enter Tryd.func9, Tryd.ntmps9
  go_upto_region 0 with (fail)
  go_cut [3, 4, 5] from 0 to 2 (fun v3 v4 v5 W => BoxF W v3 na xa ∧ BoxF W v4 nb xb ∧ BoxF W v5 nc xc ∧ Below w.heap.size w W)
  case first =>
    go_wp2
    go_meet
    have B1 : Below w.heap.size w (w.alloc (.cells #[.bool na, .slice aa xa.length ca] 24)) := (Below.refl _ _).alloc (Nat.le_refl _) _
    have B2 := B1.alloc B1.size (.cells #[.bool nb, .slice ab xb.length cb] 24)
    have B3 := B2.alloc B2.size (.cells #[.bool nc, .slice ac xc.length cc] 24)
    have C1 : BoxF _ _ na xa := ⟨_, aa, ca, rfl, RowAt.new w 24 [.bool na, .slice aa xa.length ca], hra.below B1⟩
    have C2 : BoxF _ _ nb xb := ⟨_, ab, cb, rfl, RowAt.new (w.alloc (.cells #[.bool na, .slice aa xa.length ca] 24)) 24 [.bool nb, .slice ab xb.length cb], hrb.below B2⟩
    have C3 : BoxF _ _ nc xc := ⟨_, ac, cc, rfl, RowAt.new ((w.alloc (.cells #[.bool na, .slice aa xa.length ca] 24)).alloc (.cells #[.bool nb, .slice ab xb.length cb] 24)) 24 [.bool nc, .slice ac xc.length cc], hrc.below B3⟩
    simp only [World.size_alloc] at C2 C3
    exact ⟨(C1.below ((Below.refl _ _).alloc (Nat.le_refl _) _)).below ((Below.refl _ _).alloc (Nat.le_refl _) _), C2.below ((Below.refl _ _).alloc (Nat.le_refl _) _), C3, B3⟩
  case rest =>
    obtain ⟨q1, q2, q3, hbe⟩ := hcut
    clear hra hrb hrc hca hcb hcc hma hmb hmc
    have hT1 := hT.below hbe
    obtain ⟨b1, a1, c1, rfl, r1, j1⟩ := q1
    obtain ⟨b2, a2, c2, rfl, r2, j2⟩ := q2
    obtain ⟨b3, a3, c3, rfl, r3, j3⟩ := q3
    have d11 := r1.cell 0
    have d12 := r1.cell 1
    have d21 := r2.cell 0
    have d22 := r2.cell 1
    have d31 := r3.cell 0
    have d32 := r3.cell 1
    simp only [List.getElem?_cons_zero, List.getElem?_cons_succ] at d11 d12 d21 d22 d31 d32
    have hnew := RowAt.new wc 24 [.bool na, .slice a1 xa.length c1, .bool nb, .slice a2 xb.length c2, .bool nc, .slice a3 xc.length c3]
    have hB : Below wc.heap.size wc (wc.alloc (.cells #[.bool na, .slice a1 xa.length c1, .bool nb, .slice a2 xb.length c2, .bool nc, .slice a3 xc.length c3] 24)) := (Below.refl _ _).alloc (Nat.le_refl _) _
    have hf := formed_list [(na, .slice a1 xa.length c1, xa), (nb, .slice a2 xb.length c2, xb), (nc, .slice a3 xc.length c3, xc)] 60 wc.heap.size _ hnew (by simp) (by
      intro it hit
      simp only [List.mem_cons, List.not_mem_nil, or_false] at hit
      rcases hit with rfl | rfl | rfl
      · exact ⟨j1.below hB, hla⟩
      · exact ⟨j2.below hB, hlb⟩
      · exact ⟨j3.below hB, hlc⟩)
    simp only [List.length_cons, List.length_nil] at hf
    have hsz := hbe.size
    cases hall : List.all [(na, Value.slice a1 xa.length c1, xa), (nb, Value.slice a2 xb.length c2, xb), (nc, Value.slice a3 xc.length c3, xc)] (fitB 60) with
    | false =>
      rw [hall] at hf
      clear hnew hall
      go_wp2_with (first
        | (go_at_call 50; refine hf.mono ?_; rintro e w2 ⟨hb2, rfl⟩)
        | (go_at_call 16; refine (sane_any _ ((hT1.below hB).below hb2)).mono ?_; rintro e w3 ⟨hb3, rfl⟩))
      go_ret
      have e1 := hB.trans (hb2.mono hB.size)
      have e2 := e1.trans (hb3.mono e1.size)
      exact ⟨hbe.trans (e2.mono hsz), rfl⟩
    | true =>
      rw [hall] at hf
      have hA := Lib.hid hall
      clear hnew hall
      go_upto_region 3 with (go_at_call 50; refine hf.mono ?_; rintro e w2 ⟨hb2, rfl⟩)
      have e1 := hB.trans (hb2.mono hB.size)
      obtain ⟨⟨f1, l1⟩, ⟨f2, l2⟩, ⟨f3, l3⟩⟩ : (formedB na xa = true ∧ xa.length ≤ 60) ∧ (formedB nb xb = true ∧ xb.length ≤ 60) ∧ (formedB nc xc = true ∧ xc.length ≤ 60) := by
        have := hA.out
        simp only [List.all_cons, List.all_nil, fitB, Bool.and_true, Bool.and_eq_true, decide_eq_true_eq] at this
        exact ⟨⟨this.1.1, by omega⟩, ⟨this.2.1.1, by omega⟩, ⟨this.2.2.1, by omega⟩⟩
      have k1 := (IntAt.isInt ⟨_, rfl, j1.below e1, hla⟩ f1 : IsInt w2 (.agg #[.bool na, .slice a1 xa.length c1]) (sgn na (val xa)))
      have k2 := (IntAt.isInt ⟨_, rfl, j2.below e1, hlb⟩ f2 : IsInt w2 (.agg #[.bool nb, .slice a2 xb.length c2]) (sgn nb (val xb)))
      have k3 := (IntAt.isInt ⟨_, rfl, j3.below e1, hlc⟩ f3 : IsInt w2 (.agg #[.bool nc, .slice a3 xc.length c3]) (sgn nc (val xc)))
      have n1 : (sgn na (val xa)).natAbs < B32 ^ 60 := by rw [sgn_natAbs]; exact (canon_length_iff (formedB_bounds hla f1).1 60).1 l1
      have n2 : (sgn nb (val xb)).natAbs < B32 ^ 60 := by rw [sgn_natAbs]; exact (canon_length_iff (formedB_bounds hlb f2).1 60).1 l2
      have n3 : (sgn nc (val xc)).natAbs < B32 ^ 60 := by rw [sgn_natAbs]; exact (canon_length_iff (formedB_bounds hlc f3).1 60).1 l3
      have q3 : BoxI w2 (.pointer (some ⟨b1, 0, none⟩)) (sgn na (val xa)) := ⟨b1, na, a1, xa.length, c1, rfl, r1.below e1, k1⟩
      have q4 : BoxI w2 (.pointer (some ⟨b2, 0, none⟩)) (sgn nb (val xb)) := ⟨b2, nb, a2, xb.length, c2, rfl, r2.below e1, k2⟩
      have q5 : BoxI w2 (.pointer (some ⟨b3, 0, none⟩)) (sgn nc (val xc)) := ⟨b3, nc, a3, xc.length, c3, rfl, r3.below e1, k3⟩
      replace hbe := hbe.trans (e1.mono hsz)
      clear hA hf l1 l2 l3 f1 f2 f3 d11 d12 d21 d22 d31 d32 hb2 hB e1 r1 r2 r3 j1 j2 j3 hsz hT1 hla hlb hlc k1 k2 k3
      generalize sgn na (val xa) = i at *
      generalize sgn nb (val xb) = j at *
      generalize sgn nc (val xc) = k at *
      have b13 : (j + k).natAbs < B32 ^ 61 := abs_add_lt n2 n3
      have bi := abs_lt_up n1 (show 60 ≤ 61 by decide)
      have bj := abs_lt_up n2 (show 60 ≤ 61 by decide)
      have bk := abs_lt_up n3 (show 60 ≤ 61 by decide)
      have c7 : (i + j).natAbs < B32 ^ 61 := abs_add_lt n1 n2
      have c11 : (i + j + k).natAbs < B32 ^ 62 := abs_add_lt c7 bk
      have c19 : (i * j).natAbs < B32 ^ 120 := abs_mul_lt n1 n2
      have c31 : (i * k).natAbs < B32 ^ 120 := abs_mul_lt n1 n3
      have c33 : (i * j + i * k).natAbs < B32 ^ 121 := abs_add_lt c19 c31
      have c23 : (i * j * k).natAbs < B32 ^ 180 := abs_mul_lt c19 n3
      have c25 : (j * k).natAbs < B32 ^ 120 := abs_mul_lt n2 n3
      have c29 : (i * (j + k)).natAbs < B32 ^ 121 := abs_mul_lt n1 b13
      have Bi := b32_up bi (by decide)
      have Bj := b32_up bj (by decide)
      have Bk := b32_up bk (by decide)
      have B7 := b32_up c7 (by decide)
      have B9 : (j + i).natAbs < B32 ^ 300 := by rw [Int.add_comm]; exact B7
      have B11 := b32_up c11 (by decide)
      have B13 := b32_up b13 (by decide)
      have B15 : (i + (j + k)).natAbs < B32 ^ 300 := by rw [← Int.add_assoc]; exact B11
      have B17 : (i + j - j).natAbs < B32 ^ 300 := by rw [Int.add_sub_cancel]; exact Bi
      have B19 := b32_up c19 (by decide)
      have B21 : (j * i).natAbs < B32 ^ 300 := by rw [Int.mul_comm]; exact B19
      have B23 := b32_up c23 (by decide)
      have B25 := b32_up c25 (by decide)
      have B27 : (i * (j * k)).natAbs < B32 ^ 300 := by rw [← Int.mul_assoc]; exact B23
      have B29 := b32_up c29 (by decide)
      have B31 := b32_up c31 (by decide)
      have B33 := b32_up c33 (by decide)
      clear c7 c11 c19 c31 c33 c23 c25 c29 n1 n2 n3
      generalize w2 = wX2 at *
      go_upto_region 3 with (fail)
      go_cut [7, 8] from 44 to 49 (fun v1 v2 W => BoxI W v1 (i + j) ∧ v2 = .int .i64 0 ∧ Below wX2.heap.size wX2 W)
      case first =>
        obtain ⟨nx, ax, mx, cx, rx, ix⟩ := q3.at
        obtain ⟨ny, ay, my, cy, ry, iy⟩ := q4.at
        have x1 := rx.cell 0
        have x2 := rx.cell 1
        have x3 := ry.cell 0
        have x4 := ry.cell 1
        simp only [List.getElem?_cons_zero, List.getElem?_cons_succ] at x1 x2 x3 x4
        have C := sum_int _ _ _ _ _ ix iy Bi Bj B7
        go_wp2_with (go_at_call 28; with_reducible refine C.mono ?_; rintro e w3 ⟨hb3, v3, rfl, hi3⟩; obtain ⟨n3, s3, m3, q3, rfl⟩ := hi3.shape)
        go_meet
        exact ⟨BoxI.new hi3, rfl, hb3.alloc hb3.size _⟩
      case rest =>
        obtain ⟨q7, rfl, hbn⟩ := hcut
        replace q3 := q3.below hbn
        replace q4 := q4.below hbn
        replace q5 := q5.below hbn
        replace hbe := hbe.trans (hbn.mono hbe.size)
        clear hbn
        generalize wc = wX3 at *
        go_upto_region 4 with (fail)
        go_cut [9, 10] from 50 to 55 (fun v1 v2 W => BoxI W v1 (j + i) ∧ v2 = .int .i64 0 ∧ Below wX3.heap.size wX3 W)
        case first =>
          obtain ⟨nx, ax, mx, cx, rx, ix⟩ := q4.at
          obtain ⟨ny, ay, my, cy, ry, iy⟩ := q3.at
          have x1 := rx.cell 0
          have x2 := rx.cell 1
          have x3 := ry.cell 0
          have x4 := ry.cell 1
          simp only [List.getElem?_cons_zero, List.getElem?_cons_succ] at x1 x2 x3 x4
          have C := sum_int _ _ _ _ _ ix iy Bj Bi B9
          go_wp2_with (go_at_call 28; with_reducible refine C.mono ?_; rintro e w3 ⟨hb3, v3, rfl, hi3⟩; obtain ⟨n3, s3, m3, q3, rfl⟩ := hi3.shape)
          go_meet
          exact ⟨BoxI.new hi3, rfl, hb3.alloc hb3.size _⟩
        case rest =>
          obtain ⟨q9, rfl, hbn⟩ := hcut
          replace q3 := q3.below hbn
          replace q4 := q4.below hbn
          replace q5 := q5.below hbn
          replace q7 := q7.below hbn
          replace hbe := hbe.trans (hbn.mono hbe.size)
          clear hbn
          generalize wc = wX4 at *
          go_upto_region 5 with (fail)
          go_cut [11, 12] from 56 to 61 (fun v1 v2 W => BoxI W v1 (i + j + k) ∧ v2 = .int .i64 0 ∧ Below wX4.heap.size wX4 W)
          case first =>
            obtain ⟨bx, nx, ax, mx, cx, rfl, rx, ix⟩ := q7
            obtain ⟨ny, ay, my, cy, ry, iy⟩ := q5.at
            have x1 := rx.cell 0
            have x2 := rx.cell 1
            have x3 := ry.cell 0
            have x4 := ry.cell 1
            simp only [List.getElem?_cons_zero, List.getElem?_cons_succ] at x1 x2 x3 x4
            have C := sum_int _ _ _ _ _ ix iy B7 Bk B11
            go_wp2_with (go_at_call 28; with_reducible refine C.mono ?_; rintro e w3 ⟨hb3, v3, rfl, hi3⟩; obtain ⟨n3, s3, m3, q3, rfl⟩ := hi3.shape)
            go_meet
            exact ⟨BoxI.new hi3, rfl, hb3.alloc hb3.size _⟩
          case rest =>
            obtain ⟨q11, rfl, hbn⟩ := hcut
            replace q3 := q3.below hbn
            replace q4 := q4.below hbn
            replace q5 := q5.below hbn
            replace q7 := q7.below hbn
            replace q9 := q9.below hbn
            replace hbe := hbe.trans (hbn.mono hbe.size)
            clear hbn
            generalize wc = wX5 at *
            go_upto_region 6 with (fail)
            go_cut [13, 14] from 62 to 67 (fun v1 v2 W => BoxI W v1 (j + k) ∧ v2 = .int .i64 0 ∧ Below wX5.heap.size wX5 W)
            case first =>
              obtain ⟨nx, ax, mx, cx, rx, ix⟩ := q4.at
              obtain ⟨ny, ay, my, cy, ry, iy⟩ := q5.at
              have x1 := rx.cell 0
              have x2 := rx.cell 1
              have x3 := ry.cell 0
              have x4 := ry.cell 1
              simp only [List.getElem?_cons_zero, List.getElem?_cons_succ] at x1 x2 x3 x4
              have C := sum_int _ _ _ _ _ ix iy Bj Bk B13
              go_wp2_with (go_at_call 28; with_reducible refine C.mono ?_; rintro e w3 ⟨hb3, v3, rfl, hi3⟩; obtain ⟨n3, s3, m3, q3, rfl⟩ := hi3.shape)
              go_meet
              exact ⟨BoxI.new hi3, rfl, hb3.alloc hb3.size _⟩
            case rest =>
              obtain ⟨q13, rfl, hbn⟩ := hcut
              replace q3 := q3.below hbn
              replace q4 := q4.below hbn
              replace q5 := q5.below hbn
              replace q7 := q7.below hbn
              replace q9 := q9.below hbn
              replace q11 := q11.below hbn
              replace hbe := hbe.trans (hbn.mono hbe.size)
              clear hbn
              generalize wc = wX6 at *
              go_upto_region 7 with (fail)
              go_cut [15, 16] from 68 to 73 (fun v1 v2 W => BoxI W v1 (i + (j + k)) ∧ v2 = .int .i64 0 ∧ Below wX6.heap.size wX6 W)
              case first =>
                obtain ⟨nx, ax, mx, cx, rx, ix⟩ := q3.at
                obtain ⟨by1, ny, ay, my, cy, rfl, ry, iy⟩ := q13
                have x1 := rx.cell 0
                have x2 := rx.cell 1
                have x3 := ry.cell 0
                have x4 := ry.cell 1
                simp only [List.getElem?_cons_zero, List.getElem?_cons_succ] at x1 x2 x3 x4
                have C := sum_int _ _ _ _ _ ix iy Bi B13 B15
                go_wp2_with (go_at_call 28; with_reducible refine C.mono ?_; rintro e w3 ⟨hb3, v3, rfl, hi3⟩; obtain ⟨n3, s3, m3, q3, rfl⟩ := hi3.shape)
                go_meet
                exact ⟨BoxI.new hi3, rfl, hb3.alloc hb3.size _⟩
              case rest =>
                obtain ⟨q15, rfl, hbn⟩ := hcut
                replace q3 := q3.below hbn
                replace q4 := q4.below hbn
                replace q5 := q5.below hbn
                replace q7 := q7.below hbn
                replace q9 := q9.below hbn
                replace q11 := q11.below hbn
                replace q13 := q13.below hbn
                replace hbe := hbe.trans (hbn.mono hbe.size)
                clear hbn
                generalize wc = wX7 at *
                go_upto_region 8 with (fail)
                go_cut [17, 18] from 74 to 79 (fun v1 v2 W => BoxI W v1 (i + j - j) ∧ v2 = .int .i64 0 ∧ Below wX7.heap.size wX7 W)
                case first =>
                  obtain ⟨bx, nx, ax, mx, cx, rfl, rx, ix⟩ := q7
                  obtain ⟨ny, ay, my, cy, ry, iy⟩ := q4.at
                  have x1 := rx.cell 0
                  have x2 := rx.cell 1
                  have x3 := ry.cell 0
                  have x4 := ry.cell 1
                  simp only [List.getElem?_cons_zero, List.getElem?_cons_succ] at x1 x2 x3 x4
                  have C := sub_int _ _ _ _ _ ix iy B7 Bj B17
                  go_wp2_with (go_at_call 29; with_reducible refine C.mono ?_; rintro e w3 ⟨hb3, v3, rfl, hi3⟩; obtain ⟨n3, s3, m3, q3, rfl⟩ := hi3.shape)
                  go_meet
                  exact ⟨BoxI.new hi3, rfl, hb3.alloc hb3.size _⟩
                case rest =>
                  obtain ⟨q17, rfl, hbn⟩ := hcut
                  replace q3 := q3.below hbn
                  replace q4 := q4.below hbn
                  replace q5 := q5.below hbn
                  replace q7 := q7.below hbn
                  replace q9 := q9.below hbn
                  replace q11 := q11.below hbn
                  replace q13 := q13.below hbn
                  replace q15 := q15.below hbn
                  replace hbe := hbe.trans (hbn.mono hbe.size)
                  clear hbn
                  generalize wc = wX8 at *
                  go_upto_region 9 with (fail)
                  go_cut [19, 20] from 80 to 85 (fun v1 v2 W => BoxI W v1 (i * j) ∧ v2 = .int .i64 0 ∧ Below wX8.heap.size wX8 W)
                  case first =>
                    obtain ⟨nx, ax, mx, cx, rx, ix⟩ := q3.at
                    obtain ⟨ny, ay, my, cy, ry, iy⟩ := q4.at
                    have x1 := rx.cell 0
                    have x2 := rx.cell 1
                    have x3 := ry.cell 0
                    have x4 := ry.cell 1
                    simp only [List.getElem?_cons_zero, List.getElem?_cons_succ] at x1 x2 x3 x4
                    have C := mul_int 61 (by decide) _ _ _ _ _ ix iy Bi Bj (.inl bi) B19
                    go_wp2_with (go_at_call 30; with_reducible refine C.mono ?_; rintro e w3 ⟨hb3, v3, rfl, hi3⟩; obtain ⟨n3, s3, m3, q3, rfl⟩ := hi3.shape)
                    go_meet
                    exact ⟨BoxI.new hi3, rfl, hb3.alloc hb3.size _⟩
                  case rest =>
                    obtain ⟨q19, rfl, hbn⟩ := hcut
                    replace q3 := q3.below hbn
                    replace q4 := q4.below hbn
                    replace q5 := q5.below hbn
                    replace q7 := q7.below hbn
                    replace q9 := q9.below hbn
                    replace q11 := q11.below hbn
                    replace q13 := q13.below hbn
                    replace q15 := q15.below hbn
                    replace q17 := q17.below hbn
                    replace hbe := hbe.trans (hbn.mono hbe.size)
                    clear hbn
                    generalize wc = wX9 at *
                    go_upto_region 10 with (fail)
                    go_cut [21, 22] from 86 to 91 (fun v1 v2 W => BoxI W v1 (j * i) ∧ v2 = .int .i64 0 ∧ Below wX9.heap.size wX9 W)
                    case first =>
                      obtain ⟨nx, ax, mx, cx, rx, ix⟩ := q4.at
                      obtain ⟨ny, ay, my, cy, ry, iy⟩ := q3.at
                      have x1 := rx.cell 0
                      have x2 := rx.cell 1
                      have x3 := ry.cell 0
                      have x4 := ry.cell 1
                      simp only [List.getElem?_cons_zero, List.getElem?_cons_succ] at x1 x2 x3 x4
                      have C := mul_int 61 (by decide) _ _ _ _ _ ix iy Bj Bi (.inl bj) B21
                      go_wp2_with (go_at_call 30; with_reducible refine C.mono ?_; rintro e w3 ⟨hb3, v3, rfl, hi3⟩; obtain ⟨n3, s3, m3, q3, rfl⟩ := hi3.shape)
                      go_meet
                      exact ⟨BoxI.new hi3, rfl, hb3.alloc hb3.size _⟩
                    case rest =>
                      obtain ⟨q21, rfl, hbn⟩ := hcut
                      replace q3 := q3.below hbn
                      replace q4 := q4.below hbn
                      replace q5 := q5.below hbn
                      replace q7 := q7.below hbn
                      replace q9 := q9.below hbn
                      replace q11 := q11.below hbn
                      replace q13 := q13.below hbn
                      replace q15 := q15.below hbn
                      replace q17 := q17.below hbn
                      replace q19 := q19.below hbn
                      replace hbe := hbe.trans (hbn.mono hbe.size)
                      clear hbn
                      generalize wc = wX10 at *
                      go_upto_region 11 with (fail)
                      go_cut [23, 24] from 92 to 97 (fun v1 v2 W => BoxI W v1 (i * j * k) ∧ v2 = .int .i64 0 ∧ Below wX10.heap.size wX10 W)
                      case first =>
                        obtain ⟨bx, nx, ax, mx, cx, rfl, rx, ix⟩ := q19
                        obtain ⟨ny, ay, my, cy, ry, iy⟩ := q5.at
                        have x1 := rx.cell 0
                        have x2 := rx.cell 1
                        have x3 := ry.cell 0
                        have x4 := ry.cell 1
                        simp only [List.getElem?_cons_zero, List.getElem?_cons_succ] at x1 x2 x3 x4
                        have C := mul_int 61 (by decide) _ _ _ _ _ ix iy B19 Bk (.inr bk) B23
                        go_wp2_with (go_at_call 30; with_reducible refine C.mono ?_; rintro e w3 ⟨hb3, v3, rfl, hi3⟩; obtain ⟨n3, s3, m3, q3, rfl⟩ := hi3.shape)
                        go_meet
                        exact ⟨BoxI.new hi3, rfl, hb3.alloc hb3.size _⟩
                      case rest =>
                        obtain ⟨q23, rfl, hbn⟩ := hcut
                        replace q3 := q3.below hbn
                        replace q4 := q4.below hbn
                        replace q5 := q5.below hbn
                        replace q7 := q7.below hbn
                        replace q9 := q9.below hbn
                        replace q11 := q11.below hbn
                        replace q13 := q13.below hbn
                        replace q15 := q15.below hbn
                        replace q17 := q17.below hbn
                        replace q19 := q19.below hbn
                        replace q21 := q21.below hbn
                        replace hbe := hbe.trans (hbn.mono hbe.size)
                        clear hbn
                        generalize wc = wX11 at *
                        go_upto_region 12 with (fail)
                        go_cut [25, 26] from 98 to 103 (fun v1 v2 W => BoxI W v1 (j * k) ∧ v2 = .int .i64 0 ∧ Below wX11.heap.size wX11 W)
                        case first =>
                          obtain ⟨nx, ax, mx, cx, rx, ix⟩ := q4.at
                          obtain ⟨ny, ay, my, cy, ry, iy⟩ := q5.at
                          have x1 := rx.cell 0
                          have x2 := rx.cell 1
                          have x3 := ry.cell 0
                          have x4 := ry.cell 1
                          simp only [List.getElem?_cons_zero, List.getElem?_cons_succ] at x1 x2 x3 x4
                          have C := mul_int 61 (by decide) _ _ _ _ _ ix iy Bj Bk (.inl bj) B25
                          go_wp2_with (go_at_call 30; with_reducible refine C.mono ?_; rintro e w3 ⟨hb3, v3, rfl, hi3⟩; obtain ⟨n3, s3, m3, q3, rfl⟩ := hi3.shape)
                          go_meet
                          exact ⟨BoxI.new hi3, rfl, hb3.alloc hb3.size _⟩
                        case rest =>
                          obtain ⟨q25, rfl, hbn⟩ := hcut
                          replace q3 := q3.below hbn
                          replace q4 := q4.below hbn
                          replace q5 := q5.below hbn
                          replace q7 := q7.below hbn
                          replace q9 := q9.below hbn
                          replace q11 := q11.below hbn
                          replace q13 := q13.below hbn
                          replace q15 := q15.below hbn
                          replace q17 := q17.below hbn
                          replace q19 := q19.below hbn
                          replace q21 := q21.below hbn
                          replace q23 := q23.below hbn
                          replace hbe := hbe.trans (hbn.mono hbe.size)
                          clear hbn
                          generalize wc = wX12 at *
                          go_upto_region 13 with (fail)
                          go_cut [27, 28] from 104 to 109 (fun v1 v2 W => BoxI W v1 (i * (j * k)) ∧ v2 = .int .i64 0 ∧ Below wX12.heap.size wX12 W)
                          case first =>
                            obtain ⟨nx, ax, mx, cx, rx, ix⟩ := q3.at
                            obtain ⟨by1, ny, ay, my, cy, rfl, ry, iy⟩ := q25
                            have x1 := rx.cell 0
                            have x2 := rx.cell 1
                            have x3 := ry.cell 0
                            have x4 := ry.cell 1
                            simp only [List.getElem?_cons_zero, List.getElem?_cons_succ] at x1 x2 x3 x4
                            have C := mul_int 61 (by decide) _ _ _ _ _ ix iy Bi B25 (.inl bi) B27
                            go_wp2_with (go_at_call 30; with_reducible refine C.mono ?_; rintro e w3 ⟨hb3, v3, rfl, hi3⟩; obtain ⟨n3, s3, m3, q3, rfl⟩ := hi3.shape)
                            go_meet
                            exact ⟨BoxI.new hi3, rfl, hb3.alloc hb3.size _⟩
                          case rest =>
                            obtain ⟨q27, rfl, hbn⟩ := hcut
                            replace q3 := q3.below hbn
                            replace q4 := q4.below hbn
                            replace q5 := q5.below hbn
                            replace q7 := q7.below hbn
                            replace q9 := q9.below hbn
                            replace q11 := q11.below hbn
                            replace q13 := q13.below hbn
                            replace q15 := q15.below hbn
                            replace q17 := q17.below hbn
                            replace q19 := q19.below hbn
                            replace q21 := q21.below hbn
                            replace q23 := q23.below hbn
                            replace q25 := q25.below hbn
                            replace hbe := hbe.trans (hbn.mono hbe.size)
                            clear hbn
                            generalize wc = wX13 at *
                            go_upto_region 14 with (fail)
                            go_cut [29, 30] from 110 to 115 (fun v1 v2 W => BoxI W v1 (i * (j + k)) ∧ v2 = .int .i64 0 ∧ Below wX13.heap.size wX13 W)
                            case first =>
                              obtain ⟨nx, ax, mx, cx, rx, ix⟩ := q3.at
                              obtain ⟨by1, ny, ay, my, cy, rfl, ry, iy⟩ := q13
                              have x1 := rx.cell 0
                              have x2 := rx.cell 1
                              have x3 := ry.cell 0
                              have x4 := ry.cell 1
                              simp only [List.getElem?_cons_zero, List.getElem?_cons_succ] at x1 x2 x3 x4
                              have C := mul_int 61 (by decide) _ _ _ _ _ ix iy Bi B13 (.inl bi) B29
                              go_wp2_with (go_at_call 30; with_reducible refine C.mono ?_; rintro e w3 ⟨hb3, v3, rfl, hi3⟩; obtain ⟨n3, s3, m3, q3, rfl⟩ := hi3.shape)
                              go_meet
                              exact ⟨BoxI.new hi3, rfl, hb3.alloc hb3.size _⟩
                            case rest =>
                              obtain ⟨q29, rfl, hbn⟩ := hcut
                              replace q3 := q3.below hbn
                              replace q4 := q4.below hbn
                              replace q5 := q5.below hbn
                              replace q7 := q7.below hbn
                              replace q9 := q9.below hbn
                              replace q11 := q11.below hbn
                              replace q13 := q13.below hbn
                              replace q15 := q15.below hbn
                              replace q17 := q17.below hbn
                              replace q19 := q19.below hbn
                              replace q21 := q21.below hbn
                              replace q23 := q23.below hbn
                              replace q25 := q25.below hbn
                              replace q27 := q27.below hbn
                              replace hbe := hbe.trans (hbn.mono hbe.size)
                              clear hbn
                              generalize wc = wX14 at *
                              go_upto_region 15 with (fail)
                              go_cut [31, 32] from 116 to 121 (fun v1 v2 W => BoxI W v1 (i * k) ∧ v2 = .int .i64 0 ∧ Below wX14.heap.size wX14 W)
                              case first =>
                                obtain ⟨nx, ax, mx, cx, rx, ix⟩ := q3.at
                                obtain ⟨ny, ay, my, cy, ry, iy⟩ := q5.at
                                have x1 := rx.cell 0
                                have x2 := rx.cell 1
                                have x3 := ry.cell 0
                                have x4 := ry.cell 1
                                simp only [List.getElem?_cons_zero, List.getElem?_cons_succ] at x1 x2 x3 x4
                                have C := mul_int 61 (by decide) _ _ _ _ _ ix iy Bi Bk (.inl bi) B31
                                go_wp2_with (go_at_call 30; with_reducible refine C.mono ?_; rintro e w3 ⟨hb3, v3, rfl, hi3⟩; obtain ⟨n3, s3, m3, q3, rfl⟩ := hi3.shape)
                                go_meet
                                exact ⟨BoxI.new hi3, rfl, hb3.alloc hb3.size _⟩
                              case rest =>
                                obtain ⟨q31, rfl, hbn⟩ := hcut
                                replace q3 := q3.below hbn
                                replace q4 := q4.below hbn
                                replace q5 := q5.below hbn
                                replace q7 := q7.below hbn
                                replace q9 := q9.below hbn
                                replace q11 := q11.below hbn
                                replace q13 := q13.below hbn
                                replace q15 := q15.below hbn
                                replace q17 := q17.below hbn
                                replace q19 := q19.below hbn
                                replace q21 := q21.below hbn
                                replace q23 := q23.below hbn
                                replace q25 := q25.below hbn
                                replace q27 := q27.below hbn
                                replace q29 := q29.below hbn
                                replace hbe := hbe.trans (hbn.mono hbe.size)
                                clear hbn
                                generalize wc = wX15 at *
                                go_upto_region 16 with (fail)
                                go_cut [33, 34] from 122 to 127 (fun v1 v2 W => BoxI W v1 (i * j + i * k) ∧ v2 = .int .i64 0 ∧ Below wX15.heap.size wX15 W)
                                case first =>
                                  obtain ⟨bx, nx, ax, mx, cx, rfl, rx, ix⟩ := q19
                                  obtain ⟨by1, ny, ay, my, cy, rfl, ry, iy⟩ := q31
                                  have x1 := rx.cell 0
                                  have x2 := rx.cell 1
                                  have x3 := ry.cell 0
                                  have x4 := ry.cell 1
                                  simp only [List.getElem?_cons_zero, List.getElem?_cons_succ] at x1 x2 x3 x4
                                  have C := sum_int _ _ _ _ _ ix iy B19 B31 B33
                                  go_wp2_with (go_at_call 28; with_reducible refine C.mono ?_; rintro e w3 ⟨hb3, v3, rfl, hi3⟩; obtain ⟨n3, s3, m3, q3, rfl⟩ := hi3.shape)
                                  go_meet
                                  exact ⟨BoxI.new hi3, rfl, hb3.alloc hb3.size _⟩
                                case rest =>
                                  obtain ⟨q33, rfl, hbn⟩ := hcut
                                  replace q3 := q3.below hbn
                                  replace q4 := q4.below hbn
                                  replace q5 := q5.below hbn
                                  replace q7 := q7.below hbn
                                  replace q9 := q9.below hbn
                                  replace q11 := q11.below hbn
                                  replace q13 := q13.below hbn
                                  replace q15 := q15.below hbn
                                  replace q17 := q17.below hbn
                                  replace q19 := q19.below hbn
                                  replace q21 := q21.below hbn
                                  replace q23 := q23.below hbn
                                  replace q25 := q25.below hbn
                                  replace q27 := q27.below hbn
                                  replace q29 := q29.below hbn
                                  replace q31 := q31.below hbn
                                  replace hbe := hbe.trans (hbn.mono hbe.size)
                                  clear hbn
                                  generalize wc = wX16 at *
                                  clear B11 B13 B15 B17 B19 B21 B23 B25 B27 B29 B31 B33 B7 B9 Bi Bj Bk b13 bi bj bk
                                  rw [Int.add_comm j i] at q9
                                  rw [← Int.add_assoc] at q15
                                  rw [Int.add_sub_cancel] at q17
                                  rw [Int.mul_comm j i] at q21
                                  rw [← Int.mul_assoc] at q27
                                  rw [Int.mul_add] at q29
                                  clear q4 q5 q13 q25 q31
                                  go_upto_region 17 with (fail)
                                  go_cut [142, 143, 144] from 128 to 141 (fun v1 v2 v3 W => (∃ b, v1 = .slice (some ⟨b, 0, none⟩) 14 14 ∧ ∀ q : Nat, q < 14 → W.cell? ⟨b, q, none⟩ = some (.int .i64 0)) ∧ v2 = .int .i64 14 ∧ v3 = .int .i64 0 ∧ Below wX16.heap.size wX16 W)
                                  case first =>
                                    go_wp2
                                    go_meet
                                    have h := RowAt.new wX16 27 [.int .i64 0, .int .i64 0, .int .i64 0, .int .i64 0, .int .i64 0, .int .i64 0, .int .i64 0, .int .i64 0, .int .i64 0, .int .i64 0, .int .i64 0, .int .i64 0, .int .i64 0, .int .i64 0]
                                    exact ⟨⟨_, rfl, fun q hq => (h.cell q).trans (zeros14 q hq)⟩, rfl, rfl, (Below.refl _ _).alloc (Nat.le_refl _) _⟩
                                  case rest =>
                                    obtain ⟨⟨bE, rfl, hE⟩, rfl, rfl, hbn⟩ := hcut
                                    replace q3 := q3.below hbn
                                    replace q7 := q7.below hbn
                                    replace q9 := q9.below hbn
                                    replace q11 := q11.below hbn
                                    replace q15 := q15.below hbn
                                    replace q17 := q17.below hbn
                                    replace q19 := q19.below hbn
                                    replace q21 := q21.below hbn
                                    replace q23 := q23.below hbn
                                    replace q27 := q27.below hbn
                                    replace q29 := q29.below hbn
                                    replace q33 := q33.below hbn
                                    replace hbe := hbe.trans (hbn.mono hbe.size)
                                    clear hbn
                                    generalize wc = wX17 at *
                                    go_wp2
                                    go_loopw [144] (fun i W => ∃ k : Nat, k ≤ 14 ∧ i = .int .i64 k ∧ W = wX17) (fun i _ => 14 - (intOf i).toNat)
                                    case atStart => exact ⟨0, Nat.zero_le _, rfl, rfl⟩
                                    case round =>
                                      obtain ⟨k, hk, rfl, rfl⟩ := hrel
                                      by_cases hlt : k < 14
                                      · have hc := hE k hlt
                                        clear q3 q7 q9 q11 q15 q17 q19 q21 q23 q27 q29 q33
                                        go_wp2
                                        exact ⟨⟨k + 1, by omega, by go_num, trivial⟩, by simp [intOf]; omega⟩
                                      · clear hE
                                        obtain rfl : k = 14 := by omega
                                        obtain ⟨n3, a3, m3, c3, r3, h3⟩ := q3.at
                                        obtain ⟨b7, n7, a7, m7, c7, rfl, r7, h7⟩ := q7
                                        obtain ⟨b9, n9, a9, m9, c9, rfl, r9, h9⟩ := q9
                                        obtain ⟨b11, n11, a11, m11, c11, rfl, r11, h11⟩ := q11
                                        obtain ⟨b15, n15, a15, m15, c15, rfl, r15, h15⟩ := q15
                                        obtain ⟨b17, n17, a17, m17, c17, rfl, r17, h17⟩ := q17
                                        obtain ⟨b19, n19, a19, m19, c19, rfl, r19, h19⟩ := q19
                                        obtain ⟨b21, n21, a21, m21, c21, rfl, r21, h21⟩ := q21
                                        obtain ⟨b23, n23, a23, m23, c23, rfl, r23, h23⟩ := q23
                                        obtain ⟨b27, n27, a27, m27, c27, rfl, r27, h27⟩ := q27
                                        obtain ⟨b29, n29, a29, m29, c29, rfl, r29, h29⟩ := q29
                                        obtain ⟨b33, n33, a33, m33, c33, rfl, r33, h33⟩ := q33
                                        go_wp2_with (first
                                          | (go_at_call 16; with_reducible refine (sane_any _ (hT.below hbe)).mono ?_; rintro e w0 ⟨H0, rfl⟩; have x7 := (r7.below H0).cell 0; have y7 := (r7.below H0).cell 1; simp only [List.getElem?_cons_zero, List.getElem?_cons_succ] at x7 y7; have x9 := (r9.below H0).cell 0; have y9 := (r9.below H0).cell 1; simp only [List.getElem?_cons_zero, List.getElem?_cons_succ] at x9 y9)
                                          | (go_at_call 25; with_reducible refine (rsame_eq _ _ _ _ (h7.below H0) (h9.below H0)).mono ?_; rintro e w1 ⟨hs0, rfl⟩; have H1 := H0.trans (hs0.mono H0.size); have x11 := (r11.below H1).cell 0; have y11 := (r11.below H1).cell 1; simp only [List.getElem?_cons_zero, List.getElem?_cons_succ] at x11 y11; have x15 := (r15.below H1).cell 0; have y15 := (r15.below H1).cell 1; simp only [List.getElem?_cons_zero, List.getElem?_cons_succ] at x15 y15)
                                          | (go_at_call 25; with_reducible refine (rsame_eq _ _ _ _ (h11.below H1) (h15.below H1)).mono ?_; rintro e w2 ⟨hs1, rfl⟩; have H2 := H1.trans (hs1.mono H1.size); have x17 := (r17.below H2).cell 0; have y17 := (r17.below H2).cell 1; simp only [List.getElem?_cons_zero, List.getElem?_cons_succ] at x17 y17; have x3 := (r3.below H2).cell 0; have y3 := (r3.below H2).cell 1; simp only [List.getElem?_cons_zero, List.getElem?_cons_succ] at x3 y3)
                                          | (go_at_call 25; with_reducible refine (rsame_eq _ _ _ _ (h17.below H2) (h3.below H2)).mono ?_; rintro e w3 ⟨hs2, rfl⟩; have H3 := H2.trans (hs2.mono H2.size); have x19 := (r19.below H3).cell 0; have y19 := (r19.below H3).cell 1; simp only [List.getElem?_cons_zero, List.getElem?_cons_succ] at x19 y19; have x21 := (r21.below H3).cell 0; have y21 := (r21.below H3).cell 1; simp only [List.getElem?_cons_zero, List.getElem?_cons_succ] at x21 y21)
                                          | (go_at_call 25; with_reducible refine (rsame_eq _ _ _ _ (h19.below H3) (h21.below H3)).mono ?_; rintro e w4 ⟨hs3, rfl⟩; have H4 := H3.trans (hs3.mono H3.size); have x23 := (r23.below H4).cell 0; have y23 := (r23.below H4).cell 1; simp only [List.getElem?_cons_zero, List.getElem?_cons_succ] at x23 y23; have x27 := (r27.below H4).cell 0; have y27 := (r27.below H4).cell 1; simp only [List.getElem?_cons_zero, List.getElem?_cons_succ] at x27 y27)
                                          | (go_at_call 25; with_reducible refine (rsame_eq _ _ _ _ (h23.below H4) (h27.below H4)).mono ?_; rintro e w5 ⟨hs4, rfl⟩; have H5 := H4.trans (hs4.mono H4.size); have x29 := (r29.below H5).cell 0; have y29 := (r29.below H5).cell 1; simp only [List.getElem?_cons_zero, List.getElem?_cons_succ] at x29 y29; have x33 := (r33.below H5).cell 0; have y33 := (r33.below H5).cell 1; simp only [List.getElem?_cons_zero, List.getElem?_cons_succ] at x33 y33)
                                          | (go_at_call 25; with_reducible refine (rsame_eq _ _ _ _ (h29.below H5) (h33.below H5)).mono ?_; rintro e w6 ⟨hs5, rfl⟩; have H6 := H5.trans (hs5.mono H5.size)))
                                        go_ret
                                        exact ⟨hbe.trans (H6.mono hbe.size), rfl⟩

end Go.Proofs.YtlghjfpkfdnfoaaDoor

/- num.Bits, zermeloref01.Bits -/
namespace Go.Proofs.YtlghjfpkfdnfoaaDoor
open Go Go.RowKit Go.Shelf

set_option maxHeartbeats 1000000 in
set_option maxRecDepth 100000 in
theorem Bits_any (va : Value) (na : Bool) (xs : List Nat) (w : World) (ha : IntAt w va na xs) (hn : xs.length ≤ 100000) :
    Calls Tryd.prog 21 #[va] w fun e w' => Below w.heap.size w w' ∧ e = .returned (.tuple #[.int .i64 (if formedB na xs = true then (bitsOf xs : Int) else 0), .int .i64 (if formedB na xs = true then 0 else 1)]) := by
  have k1 := fun w2 (hb2 : Below w.heap.size w w2) (f : formedB na xs = true) => check_ok va na xs w2 (ha.below hb2) f
  have k2 := fun w2 (hb2 : Below w.heap.size w w2) (f : formedB na xs = false) => check_no va na xs w2 (ha.below hb2) f
  obtain ⟨sa, rfl, hra, hla⟩ := ha
  obtain ⟨aa, ca, rfl, hlca, hma⟩ := hra.form
  have b0 := (Below.refl w.heap.size w).alloc (Nat.le_refl _) (.cells #[.bool na, .slice aa xs.length ca] 24)
  have rr := RowAt.new w 24 [.bool na, .slice aa xs.length ca]
  cases f : formedB na xs with
  | true =>
    have key := k1 _ b0 f
    have bl := fun w2 (hb2 : Below w.heap.size w w2) => bitLen_any (.slice aa xs.length ca) xs w2 (hra.below hb2) hla hn
    clear k1 k2
    go_enter Tryd.func21, Tryd.ntmps21
    go_wp2_with (first
      | (go_at_call 17; refine key.mono ?_; rintro e w2 ⟨hbe, rfl⟩; have bw := b0.trans (hbe.mono b0.size); have c2 := (rr.below hbe).cell 1; simp only [List.getElem?_cons_zero, List.getElem?_cons_succ] at c2; have bl2 := bl _ bw)
      | (go_at_call 55; refine bl2.mono ?_; rintro e w3 ⟨rfl, rfl⟩))
    go_ret2
    exact ⟨bw, rfl⟩
  | false =>
    have key := k2 _ b0 f
    clear k1 k2
    go_enter Tryd.func21, Tryd.ntmps21
    go_wp2_with (first
      | (go_at_call 17; refine key.mono ?_; rintro e w2 ⟨hbe, rfl⟩; have bw := b0.trans (hbe.mono b0.size)))
    go_ret2
    exact ⟨bw, rfl⟩

end Go.Proofs.YtlghjfpkfdnfoaaDoor
