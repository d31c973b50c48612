/- zermeloref01.Of -/
import Derived.Test.YtlghjfpkfdnfoaaDoorNumMRefMade
import Derived.Test.YtlghjfpkfdnfoaaDoorNumMFloored
import Derived.Test.YtlghjfpkfdnfoaaDoorNumMAttempt
import Derived.Deep.DeepFit
namespace Go.Proofs.YtlghjfpkfdnfoaaDoor
open Go Go.RowKit Go.Shelf

theorem two_made (neg : Bool) (m : Nat) (h : m < 18446744073709551616) (w : World) : Calls Tryd.prog 65 #[.bool neg, .slice (some ⟨w.heap.size, 0, none⟩) 2 2] (w.alloc (.cells #[.int .u32 ((m : Int) % 4294967296), .int .u32 ((m : Int) / 4294967296)] 72)) fun e w' => Below w.heap.size w w' ∧ ∃ v, e = .returned v ∧ IsInt w' v (sgn neg m) := by
  obtain ⟨hv, hl⟩ := two_limbs m h
  have r := RowAt.reads (xs := [m % 4294967296, m / 4294967296]) (RowAt.new w 72 [.int .u32 ((m % 4294967296 : Nat) : Int), .int .u32 ((m / 4294967296 : Nat) : Int)]) 2 2 rfl (by simp) (by simp [maxLen])
  have e1 : ((m % 4294967296 : Nat) : Int) = (m : Int) % 4294967296 := by omega
  have e2 : ((m / 4294967296 : Nat) : Int) = (m : Int) / 4294967296 := by omega
  rw [e1, e2] at r
  refine (made_any neg _ _ _ r hl (by simp)).mono ?_
  rintro e w' ⟨hbe, v, rfl, h1⟩
  rw [hv] at h1
  exact ⟨((Below.refl _ _).alloc (Nat.le_refl _) _).trans (hbe.mono (by simp)), v, rfl, h1⟩

set_option maxHeartbeats 1000000 in
set_option maxRecDepth 100000 in
theorem rof_nonneg (n : Nat) (w : World) (hn : n < 9223372036854775808) :
    Calls Tryd.prog 27 #[.int .i64 n] w fun e w' => Below w.heap.size w w' ∧ ∃ v, e = .returned v ∧ IsInt w' v n := by
  have tr := two_made false n (by omega) (w.alloc (.cells #[.bool false, .slice none 0 0] 24))
  have r0 := RowAt.new w 24 [.bool false, .slice none 0 0]
  have bw := (Below.refl w.heap.size w).alloc (Nat.le_refl _) (.cells #[.bool false, .slice none 0 0] 24)
  simp only [World.size_alloc] at tr
  go_enter Tryd.func27, Tryd.ntmps27
  go_wp2_with (go_at_call 65; refine tr.mono ?_; rintro e w2 ⟨hbe2, v, rfl, n9, v9, x9, rfl, h1, h2, h3, h4⟩; clear tr; obtain ⟨a2, c2, rfl, hc2, hm2⟩ := h1.form; have bw2 := bw.trans (hbe2.mono (by omega)); have r2 : RowAt w2 w.heap.size 24 [.bool false, .slice none 0 0] := (hbe2.block _ (by omega)).trans r0; have q1 := r2.cell 0; have q2 := r2.cell 1; have q3 := r2.frozen 0; have q4 := r2.frozen 1; simp only [List.getElem?_cons_zero, List.getElem?_cons_succ] at q1 q2)
  obtain ⟨s1, s2⟩ := two_reads (b := w.heap.size) q1 q2 (.bool n9) (.slice a2 x9.length c2)
  have hk := two_kept (b := w.heap.size) h1 q1 q2 (.bool n9) (.slice a2 x9.length c2)
  have hlow := (bw2.setCell (p := ⟨w.heap.size, 0, none⟩) (Nat.le_refl _) (.bool n9)).setCell (p := ⟨w.heap.size, 1, none⟩) (Nat.le_refl _) (.slice a2 x9.length c2)
  exact bodyPost_ret (v := .agg #[.bool n9, .slice a2 x9.length c2]) (by simp [results, Tryd.results27, go_sem, loadCellsFrom, s1, s2]) rfl ⟨hlow, _, rfl, n9, _, x9, rfl, hk, h2, h3, by rw [← h4]; rfl⟩
set_option maxHeartbeats 1000000 in
set_option maxRecDepth 100000 in
theorem rof_neg (n : Nat) (w : World) (h0 : 0 < n) (hn : n ≤ 9223372036854775808) :
    Calls Tryd.prog 27 #[.int .i64 (-(n : Int))] w fun e w' => Below w.heap.size w w' ∧ ∃ v, e = .returned v ∧ IsInt w' v (-(n : Int)) := by
  have tr := two_made true n (by omega) (w.alloc (.cells #[.bool false, .slice none 0 0] 24))
  have r0 := RowAt.new w 24 [.bool false, .slice none 0 0]
  have bw := (Below.refl w.heap.size w).alloc (Nat.le_refl _) (.cells #[.bool false, .slice none 0 0] 24)
  simp only [World.size_alloc] at tr
  have hw : IntKind.u64.wrap (-IntKind.u64.wrap (-(n : Int))) = n := by simp only [IntKind.wrap_u64]; omega
  have hw2 : IntKind.u64.wrap (0 - IntKind.u64.wrap (-(n : Int))) = n := by simp only [IntKind.wrap_u64]; omega
  have hq : (n : Int) / 4294967296 % 4294967296 = (n : Int) / 4294967296 := by omega
  go_enter Tryd.func27, Tryd.ntmps27
  go_wp2_with (go_at_call 65; refine tr.mono ?_; rintro e w2 ⟨hbe2, v, rfl, n9, v9, x9, rfl, h1, h2, h3, h4⟩; clear tr; obtain ⟨a2, c2, rfl, hc2, hm2⟩ := h1.form; have bw2 := bw.trans (hbe2.mono (by omega)); have r2 : RowAt w2 w.heap.size 24 [.bool false, .slice none 0 0] := (hbe2.block _ (by omega)).trans r0; have q1 := r2.cell 0; have q2 := r2.cell 1; have q3 := r2.frozen 0; have q4 := r2.frozen 1; simp only [List.getElem?_cons_zero, List.getElem?_cons_succ] at q1 q2)
  obtain ⟨s1, s2⟩ := two_reads (b := w.heap.size) q1 q2 (.bool n9) (.slice a2 x9.length c2)
  have hk := two_kept (b := w.heap.size) h1 q1 q2 (.bool n9) (.slice a2 x9.length c2)
  have hlow := (bw2.setCell (p := ⟨w.heap.size, 0, none⟩) (Nat.le_refl _) (.bool n9)).setCell (p := ⟨w.heap.size, 1, none⟩) (Nat.le_refl _) (.slice a2 x9.length c2)
  exact bodyPost_ret (v := .agg #[.bool n9, .slice a2 x9.length c2]) (by simp [results, Tryd.results27, go_sem, loadCellsFrom, s1, s2]) rfl ⟨hlow, _, rfl, n9, _, x9, rfl, hk, h2, h3, by rw [← h4]; rfl⟩

end Go.Proofs.YtlghjfpkfdnfoaaDoor

/- num.text -/
namespace Go.Proofs.YtlghjfpkfdnfoaaDoor
open Go Go.RowKit Go.Shelf

/-- the table of the digits lies in memory -/
def DigitsAt (W : World) : Prop := ∀ i, i < 36 → W.cell? ⟨0, i, none⟩ = some (.int .u8 ((digChar i : Nat) : Int))
theorem DigitsAt.below {W W' : World} (h : DigitsAt W) (hb : Below W.heap.size W W') : DigitsAt W' := fun i hi =>
  (hb.cell (World.block_lt_of_cell? W _ (h i hi))).trans (h i hi)
theorem DigitsAt.belowS {W W' : World} (h : DigitsAt W) (hb : Below W.heap.size W W') : DigitsAt W' := h.below hb

/-- no cell of the slice lies in a row of bytes of the call's own -/
def ApartB (B : Nat) (W : World) (v : Value) : Prop := ∀ a n c, v = .slice (some a) n c → a.block < B ∨ ∃ cs fz, W.heap[a.block]? = some (.cells cs 72 fz)
theorem ownsRow_keep {W W1 : World} {B n : Nat} {s v : Value} {ys : List Value} {xs : List Nat} {o : Obj} (hs : W.ownsRow B 5 1 s n ys) (hg : (W.alloc o).grownBy W1 s.ownBlock) 
    (hr : Reads .u32 W v xs) (ha : ApartB B W v) : Reads .u32 W1 v xs ∧ ApartB B W1 v := by
  have hne : ∀ a n c, v = .slice (some a) n c → a.block < W.heap.size → some a.block ≠ s.ownBlock := fun a n c e hlt hc => by
    rcases ha a n c e with h | ⟨cs, fz, h⟩
    · have := (hs.lt a.block hc.symm).1
      omega
    · rcases hs.2 with ⟨rfl, -⟩ | ⟨g', cap', cur, rfl, _, hg', _⟩
      · simp [Value.ownBlock] at hc
      · simp only [Value.ownBlock, Option.some.injEq] at hc
        rw [hc] at h
        rw [h] at hg'
        simp at hg'
  have hkeep : ∀ k, k < W.heap.size → some k ≠ s.ownBlock → W1.heap[k]? = W.heap[k]? := fun k hk hn => (hg.block k (by simp; omega) hn).trans (Below.heap_alloc W o k hk)
  constructor
  · obtain ⟨a, cap, rfl, hc, hm, hcell⟩ := hr
    refine ⟨a, cap, rfl, hc, hm, fun j hj => ⟨(hcell j hj).1, ?_⟩⟩
    obtain ⟨⟨b, off, rfl⟩, h2⟩ := hcell j hj
    have hlt := World.block_lt_of_cell? W _ h2
    have h3 := hkeep b hlt (hne ⟨b, off, none⟩ _ _ rfl hlt)
    rw [← h2]
    exact World.cell?_of_block h3
  · intro a n c e
    rcases ha a n c e with h | ⟨cs, fz, h⟩
    · exact .inl h
    · have hlt : a.block < W.heap.size := (Array.getElem?_eq_some_iff.1 h).1
      exact .inr ⟨cs, fz, (hkeep _ hlt (hne a n c e hlt)).trans h⟩
theorem ownsRow_below1 {B : Nat} {e : TypeId} {k : Nat} {v : Value} {n : Nat} {xs : List Value} {w w' : World} (h : w.ownsRow B e k v n xs) (hb : Below w.heap.size w w') : w'.ownsRow B e k v n xs :=
  h.kept (row := none) ⟨hb.os, hb.tape, hb.output, hb.size, fun j hj _ => hb.block j hj⟩ (by cases v.ownBlock <;> simp)

/-- the bytes of the digits so far -/
def digBytes (b N A : Nat) : List Nat := (digs b N A).map digChar
theorem digBytes_length (b N A : Nat) : (digBytes b N A).length = N := by simp [digBytes, digs_length]
theorem digBytes_snoc (b N A : Nat) : digBytes b (N + 1) A = digBytes b N A ++ [digChar (A / b ^ N % b)] := by simp [digBytes, digs_snoc]
theorem pow_lt_of_dvd {b N A L : Nat} (hb : 2 ≤ b) (h : 0 < A / b ^ N) (hA : A < B32 ^ L) : N < 32 * L := by
  have h1 : b ^ N ≤ A := by
    apply Classical.byContradiction
    intro hc
    rw [Nat.div_eq_of_lt (by omega)] at h
    omega
  have h2 : 2 ^ N ≤ b ^ N := Nat.pow_le_pow_left hb N
  have h3 : 2 ^ N < 2 ^ (32 * L) := by rw [← B32_pow]; omega
  exact (Nat.pow_lt_pow_iff_right (by decide)).1 h3

/-- bytes as a string -/
def bytesOf (bs : List Nat) : ByteArray := strOfNums (bs.map fun (x : Nat) => (x : Int))
theorem bytesOf_toNat {bs : List Nat} (h : ∀ x ∈ bs, x < 256) : (bytesOf bs).data.toList.map (·.toNat) = bs := by
  rw [bytesOf, strOfNums_data, List.map_map, List.map_map]
  conv => rhs; rw [← List.map_id bs]
  refine List.map_congr_left fun x hx => ?_
  have := h x hx
  simp [Function.comp]
  omega
theorem conv_bytes {W : World} {base g cap n : Nat} {bs : List Nat} (hn : bs.length = n) (h : W.ownsRow base 5 1 (.slice (some ⟨g, 0, none⟩) n cap) n (enc8 bs)) :
    (convert 97 9 (.slice (some ⟨g, 0, none⟩) n cap)).run Tryd.prog W = .ok (.string (bytesOf bs)) W :=
  run_convert_bytes_arg W 97 5 und_bytes und_byte g 0 n cap (bs.map fun (x : Nat) => (x : Int)) (by simpa using hn) (fun i hi => by
    rw [Nat.zero_add, h.cellAt i (by omega)]
    simp [enc8, List.getElem?_eq_getElem (show i < bs.length by omega)]) 9 und_string
def lenSlice : Value → Nat
  | .slice _ n _ => n
  | _ => 0
theorem digit_at {A b N m k : Nat} (hk : k < m) : A / b ^ N % b ^ m / b ^ k % b = A / b ^ (N + k) % b := by
  obtain ⟨j, rfl⟩ : ∃ j, m = k + 1 + j := ⟨m - k - 1, by omega⟩
  generalize hX : A / b ^ N = X
  have h1 : X % b ^ (k + 1 + j) / b ^ k = X / b ^ k % b ^ (1 + j) := by
    rw [show k + 1 + j = k + (1 + j) by omega, Nat.pow_add]
    exact Nat.mod_mul_right_div_self X (b ^ k) (b ^ (1 + j))
  rw [h1, Nat.mod_mod_of_dvd _ ⟨b ^ j, by rw [Nat.pow_add]; simp⟩, ← hX, Nat.div_div_eq_div_mul, Nat.pow_add]

set_option exponentiation.threshold 400 in
set_option maxHeartbeats 2000000 in
set_option maxRecDepth 100000 in
theorem text_any (neg : Bool) (va : Value) (xa : List Nat) (b : Nat) (w : World) (ha : Reads .u32 w va xa) (hka : Canon xa) (na : xa.length ≤ 300) (h2 : 2 ≤ b) (h36 : b ≤ 36) (hT : DigitsAt w) :
    Calls Tryd.prog 88 #[.agg #[.bool neg, va], .int .i64 b] w fun e w' => Below w.heap.size w w' ∧ ∃ s : ByteArray, e = .returned (.string s) ∧ s.data.toList.map (·.toNat) = textOf neg b (val xa) := by
  obtain ⟨aa, ca, rfl, hca, hma⟩ := ha.form
  unfold maxLen at hma
  obtain ⟨A, hA⟩ : ∃ A, val xa = A := ⟨_, rfl⟩
  have hAb : A < B32 ^ 300 := by rw [← hA]; exact Nat.lt_of_lt_of_le (val_lt hka.1) (Nat.pow_le_pow_right B32_pos na)
  have hw : IntKind.u32.wrap (b : Int) = b := by simp only [IntKind.wrap_u32]; omega
  obtain ⟨inf, hi, hzz⟩ := Option.map_eq_some_iff.1 info_byte
  simp only [Prod.mk.injEq] at hzz
  obtain ⟨hz0, hz1, hz2⟩ := hzz
  have b0 := (Below.refl w.heap.size w).alloc (Nat.le_refl _) (.cells #[.bool neg, .slice aa xa.length ca] 24)
  have ha0 := ha.below b0
  have hap : ApartB (w.heap.size + 1) (w.alloc (.cells #[.bool neg, .slice aa xa.length ca] 24)) (.slice aa xa.length ca) ∨ xa = [] := by
    by_cases hx : xa = []
    · exact .inr hx
    · exact .inl fun a n c e => .inl (Nat.lt_succ_of_lt (ha.lt a n c e hx))
  have r0 := RowAt.new w 24 [.bool neg, .slice aa xa.length ca]
  have hT0 : DigitsAt (w.alloc (.cells #[.bool neg, .slice aa xa.length ca] 24)) := hT.below b0
  obtain ⟨W0, hW0⟩ : ∃ W0, (w.alloc (.cells #[.bool neg, .slice aa xa.length ca] 24)) = W0 := ⟨_, rfl⟩
  have hz0 : W0.heap.size = w.heap.size + 1 := by rw [← hW0]; simp
  rw [hW0] at ha0 hap r0 b0 hT0
  rw [← hz0] at hap
  have HW := Lib.hid (And.intro hW0 hz0)
  clear hW0 hz0 hT
  have HZ := Lib.hid (And.intro hz0 (And.intro hz1 hz2))
  have HA := Lib.hid (And.intro hA hAb)
  clear hz0 hz1 hz2 hA hAb
  go_enter Tryd.func88, Tryd.ntmps88
  go_wp2_with (go_at_call 111; refine (chunk_any b _ h2 h36).mono ?_; rintro e w1 ⟨rfl, m, he, hm1, hm31, hmb⟩; obtain ⟨U, hU⟩ : ∃ U, b ^ m = U := ⟨_, rfl⟩; rw [hU] at he hmb; have HU := Lib.hid (And.intro hU hmb); clear hU hmb; subst he)
  go_loopw [7, 8] (fun s left W => ∃ N xs, W.ownsRow W0.heap.size 5 1 s N (enc8 (digBytes b N A)) ∧ Reads .u32 W left xs ∧ Canon xs ∧ val xs = A / b ^ N ∧ (ApartB W0.heap.size W left ∨ xs = []) ∧ Below W0.heap.size W0 W ∧ N ≤ 10000) (fun s _ _ => 20000 - lenSlice s)
  case atStart => exact ⟨0, xa, World.ownsRow_nil _ _ _ _, by rw [HW.out.1]; exact ha0, hka, by simp [HA.out.1], by rw [HW.out.1]; exact hap, by rw [HW.out.1]; exact Below.refl _ _, by omega⟩
  case round =>
    obtain ⟨N, xs, hown, hrd, hkx, hvx, hapx, hbe, hN⟩ := hrel
    obtain ⟨sa, sc, rfl⟩ := own_form hown
    obtain ⟨la, lc, rfl, hlc, hlm⟩ := hrd.form
    unfold maxLen at hlm
    by_cases hz : xs.length = 0
    · have hx0 : xs = [] := List.eq_nil_of_length_eq_zero hz
      subst hx0
      have hdg := digits_eq h2 (show A / b ^ N = 0 from hvx.symm)
      have hl36 : ∀ d ∈ digs b N A, d < 36 := fun d hd => Nat.lt_of_lt_of_le (digs_lt (by omega) N A d hd) h36
      have hlN := digs_length b N A
      rw [digBytes] at hown
      generalize digs b N A = ys at *
      have HL := Lib.hid (And.intro hdg (And.intro hl36 hlN))
      clear hdg hl36 hlN hvx hapx hz hkx hrd hlc hlm
      have HO := Lib.hid hown
      clear hown
      go_wp2
      go_loop [7] (fun s => ∃ zs, trimmed zs = digits b A ∧ (∀ d ∈ zs, d < 36) ∧ zs.length ≤ 10000 ∧ wr.ownsRow W0.heap.size 5 1 s zs.length (enc8 (zs.map digChar))) (fun s => lenSlice s)
      case atStart => exact ⟨ys, HL.out.1, HL.out.2.1, by rw [HL.out.2.2]; exact hN, by rw [HL.out.2.2]; exact HO.out⟩
      case round =>
        obtain ⟨zs, htz, hz36, hzl, hown⟩ := hrel
        clear HO HL
        have hs0 := hbe.size
        rcases List.eq_nil_or_concat zs with rfl | ⟨ys', d, hzs⟩
        · obtain ⟨sa, sc, rfl⟩ := own_form hown
          have hA0 : A = 0 := (digits_nil_iff h2).1 (by rw [← htz]; rfl)
          have hT1 : textOf neg b (val xa) = [48] := by rw [HA.out.1, hA0]; rfl
          have HT := Lib.hid hT1
          clear hT1
          go_wp2_with (first | (at_builtin; refine wpList_append_own _ rfl _ _ 97 rfl W0.heap.size 5 inf (.int .u8 0) 1 1 und_bytes hi HZ.out.1 HZ.out.2.1 HZ.out.2.2 rfl (by decide) _ _ _ rfl (hown.alloc _) ⟨wr.heap.size, 0, none⟩ 1 1 [.int .u8 48] rfl rfl (cell_new_plain _ _ _ _ rfl) (by simp [Value.oneCell']) (by unfold maxLen; omega) (by omega) (by simp; omega) ?_; intro v' w5 hown' hgrow _))
          have hown1 : w5.ownsRow W0.heap.size 5 1 v' 1 (enc8 [48]) := hown'
          obtain ⟨g, sc5, rfl, hsc5, hscm5⟩ := own_form_pos hown1 (by omega)
          have hg := (hown1.lt g rfl).1
          have hb5 : Below W0.heap.size W0 w5 := hbe.trans (((Below.refl _ wr).alloc hs0 _).grown hgrow (by simp; omega) (fun k e => by have := (hown.lt k e).1; omega))
          clear hown' hgrow
          refine (reverse_any W0.heap.size g sc5 [48] w5 (by simp) hown1).mono ?_
          rintro e w6 ⟨rfl, hch6, hr6⟩
          have hcv := conv_bytes (n := 1) (bs := [48].reverse) rfl hr6
          have hb6 := hch6.below (B := W0.heap.size) (fun i hi => by omega) hb5.size
          go_wp2
          go_ret
          exact ⟨b0.trans ((hb5.trans hb6).mono b0.size), _, rfl, by rw [HT.out]; exact bytesOf_toNat (by simp)⟩
        · rw [List.concat_eq_append] at hzs
          subst hzs
          have hl1 : (ys' ++ [d]).length = ys'.length + 1 := by simp
          rw [hl1] at hown hzl
          obtain ⟨g, sc, rfl, hsc, hscm⟩ := own_form_pos hown (by omega)
          unfold maxLen at hscm
          have hd36 : d < 36 := hz36 d (by simp)
          have hc := hown.cellAt ys'.length (by omega)
          have hce : (enc8 ((ys' ++ [d]).map digChar))[ys'.length]? = some (.int .u8 ((digChar d : Nat) : Int)) := by simp [enc8]
          rw [hce] at hc
          have hix : ∀ W, (Instr.indexAt 97 (.slice (some ⟨g, 0, none⟩) (ys'.length + 1) sc) (.int .i64 (ys'.length : Int))).run Tryd.prog W = .ok (.pointer (some ⟨g, ys'.length, none⟩)) W := fun W => by
            have := index_lookAt (P := Tryd.prog) 97 5 und_bytes size_byte (some ⟨g, 0, none⟩) (ys'.length + 1) sc ys'.length (by omega) ⟨_, _, rfl⟩ .i64 W
            simpa [lookAt] using this
          have HOW := Lib.hid hown
          clear hce hown hl1
          by_cases hd0 : d = 0
          · subst hd0
            have hd48 : (((digChar 0 : Nat) : Int) == 48) = true := rfl
            have hls : ∀ a n c, lenSlice (.slice a n c) = n := fun _ _ _ => rfl
            go_wp2
            refine ⟨⟨ys', by rw [← htz, trimmed_snoc_zero], fun d hd => hz36 d (by simp [hd]), by omega, ?_⟩, by rw [hls, hls]; omega⟩
            have h1 := HOW.out
            rw [List.map_append, List.map_cons, List.map_nil, enc8_snoc] at h1
            exact ownsRow_pop (by simp [enc8]) h1
          · have hdd : trimmed (ys' ++ [d]) = ys' ++ [d] := trimmed_snoc ys' d hd0
            rw [hdd] at htz
            have hA0 : A ≠ 0 := fun h => by
              rw [h, digits_zero] at htz
              simp at htz
            have hT1 : textOf neg b (val xa) = (if neg then [45] else []) ++ ((ys' ++ [d]).map digChar).reverse := by
              rw [HA.out.1, textOf, if_neg hA0, htz]
            have hd48 : (((digChar d : Nat) : Int) == 48) = false := by
              have := digChar_zero hd36
              simp
              omega
            have h256 : ∀ x ∈ (ys' ++ [d]).map digChar, x < 256 := fun x hx => by
              obtain ⟨y, hy, rfl⟩ := List.mem_map.1 hx
              exact digChar_lt (hz36 y hy)
            obtain ⟨bs, hbs⟩ : ∃ bs, (ys' ++ [d]).map digChar = bs := ⟨_, rfl⟩
            have hbl : bs.length = ys'.length + 1 := by rw [← hbs]; simp
            rw [hbs] at hT1 h256 HOW
            have HT := Lib.hid (And.intro hT1 (And.intro h256 hbl))
            have hg := (HOW.out.lt g rfl).1
            clear hT1 h256 hbl hbs htz hdd hz36
            cases neg
            · have cn := (r0.below hbe).cell 0
              simp only [List.getElem?_cons_zero] at cn
              go_wp2_with fail
              have hrv := reverse_any W0.heap.size g sc bs wr (by rw [HT.out.2.2]; omega) (by rw [HT.out.2.2]; exact HOW.out)
              rw [HT.out.2.2] at hrv
              refine hrv.mono ?_
              rintro e w6 ⟨rfl, hch6, hr6⟩
              have hcv := conv_bytes (n := ys'.length + 1) (bs := bs.reverse) (by rw [List.length_reverse]; exact HT.out.2.2) hr6
              have hb6 := hch6.below (B := W0.heap.size) (fun i hi => by omega) hs0
              clear hrv
              go_wp2
              go_ret
              exact ⟨b0.trans ((hbe.trans hb6).mono b0.size), _, rfl, by rw [HT.out.1]; exact bytesOf_toNat (fun x hx => HT.out.2.1 x (by simpa using hx))⟩
            · have cn := (r0.below hbe).cell 0
              simp only [List.getElem?_cons_zero] at cn
              have hown := HOW.out
              go_wp2_with (first | (at_builtin; refine wpList_append_own _ rfl _ _ 97 rfl W0.heap.size 5 inf (.int .u8 0) 1 1 und_bytes hi HZ.out.1 HZ.out.2.1 HZ.out.2.2 rfl (by decide) _ _ _ rfl (hown.alloc _) ⟨wr.heap.size, 0, none⟩ 1 1 [.int .u8 45] rfl rfl (cell_new_plain _ _ _ _ rfl) (by simp [Value.oneCell']) (by unfold maxLen; omega) (by omega) (by simp; omega) ?_; intro v' w5 hown' hgrow _))
              have hown1 : w5.ownsRow W0.heap.size 5 1 v' (ys'.length + 2) (enc8 (bs ++ [45])) := by
                rw [enc8_snoc]
                exact hown'
              obtain ⟨g5, sc5, rfl, hsc5, hscm5⟩ := own_form_pos hown1 (by omega)
              have hg5 := (hown1.lt g5 rfl).1
              have hb5 : Below W0.heap.size W0 w5 := hbe.trans (((Below.refl _ wr).alloc hs0 _).grown hgrow (by simp; omega) (fun k e => by have := (hown.lt k e).1; omega))
              clear hown' hgrow
              have hbl5 : (bs ++ [45]).length = ys'.length + 2 := by simp [HT.out.2.2]
              have hrv := reverse_any W0.heap.size g5 sc5 (bs ++ [45]) w5 (by rw [hbl5]; omega) (by rw [hbl5]; exact hown1)
              rw [hbl5] at hrv
              refine hrv.mono ?_
              rintro e w6 ⟨rfl, hch6, hr6⟩
              have hcv := conv_bytes (n := ys'.length + 2) (bs := (bs ++ [45]).reverse) (by rw [List.length_reverse]; exact hbl5) hr6
              have hb6 := hch6.below (B := W0.heap.size) (fun i hi => by omega) hb5.size
              have HB := Lib.hid hbl5
              clear hrv hbl5
              go_wp2
              go_ret
              refine ⟨b0.trans ((hb5.trans hb6).mono b0.size), _, rfl, ?_⟩
              rw [HT.out.1, bytesOf_toNat]
              · simp
              · intro x hx
                simp only [List.mem_cons, List.mem_reverse] at hx
                rcases hx with rfl | hx
                · omega
                · exact HT.out.2.1 x hx
    · have hpos : 0 < val xs := (canon_pos_iff hkx).2 (by omega)
      have hN2 : N < 32 * 300 := pow_lt_of_dvd (A := A) h2 (by rw [← hvx]; exact hpos) HA.out.2
      have hxl : xs.length ≤ 300 := canon_length_le hkx (by rw [hvx]; exact Nat.lt_of_le_of_lt (Nat.div_le_self _ _) HA.out.2)
      have hapx' : ApartB W0.heap.size wr (.slice la xs.length lc) := hapx.resolve_right (by intro e; simp [e] at hz)
      have hU0 : 0 < U := by rw [← HU.out.1]; exact Nat.pow_pos (by omega)
      have HV := Lib.hid hvx
      have hdv := divideLimb_tag (.slice la xs.length lc) xs U wr hrd hkx.1 (by omega) hU0 HU.out.2
      obtain ⟨R, hR⟩ : ∃ R, val xs % U = R := ⟨_, rfl⟩
      rw [hR] at hdv
      have hRe : R = A / b ^ N % b ^ m := by rw [← hR, HV.out, HU.out.1]
      have hRb : R < B32 := by rw [← hR]; exact Nat.lt_of_lt_of_le (Nat.mod_lt _ hU0) (Nat.le_of_lt HU.out.2)
      have HR := Lib.hid (And.intro hRe hRb)
      have HD := Lib.hid hdv
      clear hR hRe hRb
      have hz' : decide ((0 : Int) < (xs.length : Int)) = true := by simp; omega
      clear hvx hapx hpos hdv
      go_wp2_with (go_at_call 112; refine HD.out.mono ?_; rintro e w4 ⟨hbe4, v4, qs, rfl, h4, k4, e4, t4⟩)
      have hown4 := ownsRow_below1 hown hbe4
      have hap4 : ApartB W0.heap.size w4 v4 := fun a n c e => .inr (t4 a n c e)
      have hb4 : Below W0.heap.size W0 w4 := hbe.trans (hbe4.mono hbe.size)
      obtain ⟨a4, c4, rfl, hc4, hm4⟩ := h4.form
      have H4 := Lib.hid e4
      clear e4 t4 hown hrd hbe HD hapx'
      unfold maxLen at hm4
      go_loopw [7, 10, 28] (fun s l i W => ∃ k : Nat, k ≤ m ∧ i = .int .i64 k ∧ l = .int .u32 ((R / b ^ k : Nat) : Int) ∧ W.ownsRow W0.heap.size 5 1 s (N + k) (enc8 (digBytes b (N + k) A)) ∧ Reads .u32 W (.slice a4 qs.length c4) qs ∧ ApartB W0.heap.size W (.slice a4 qs.length c4) ∧ Below W0.heap.size W0 W)
        (fun _ _ i _ => m - (intOf i).toNat)
      case atStart => exact ⟨0, Nat.zero_le _, rfl, by simp, by simpa using hown4, h4, hap4, hb4⟩
      case round =>
        obtain ⟨k, hk, rfl, rfl, hown, hrq, hapq, hbq⟩ := hrel
        obtain ⟨sa, sc, rfl⟩ := own_form hown
        by_cases hkm : k < m
        · have hd := digit_at (A := A) (b := b) (N := N) hkm
          rw [← HR.out.1] at hd
          have hq1 : R / b ^ (k + 1) = R / b ^ k / b := by rw [Nat.pow_succ, Nat.div_div_eq_div_mul]
          obtain ⟨Q, hQ⟩ : ∃ Q, R / b ^ k = Q := ⟨_, rfl⟩
          have hQb : Q < 4294967296 := by rw [← hQ]; exact Nat.lt_of_le_of_lt (Nat.div_le_self _ _) HR.out.2
          rw [hQ] at hd hq1 ⊢
          obtain ⟨d, hdd⟩ : ∃ d, Q % b = d := ⟨_, rfl⟩
          have hd36 : d < 36 := by rw [← hdd]; exact Nat.lt_of_lt_of_le (Nat.mod_lt _ (by omega)) h36
          obtain ⟨Q2, hQ2⟩ : ∃ Q2, Q / b = Q2 := ⟨_, rfl⟩
          have hrem : (Q : Int) % (b : Int) = (d : Int) := by rw [← hdd]; rfl
          have hquo : (Q : Int) / (b : Int) = (Q2 : Int) := by rw [← hQ2]; rfl
          have hcell := (hT0.below hbq) d hd36
          rw [hdd] at hd
          rw [hQ2] at hq1
          have hQ2b : Q2 < 4294967296 := by rw [← hQ2]; exact Nat.lt_of_le_of_lt (Nat.div_le_self _ _) hQb
          have HQ := Lib.hid hQ2b
          have HD := Lib.hid hd
          have HQ1 := Lib.hid hq1
          clear hQ hdd hQ2 hQb hd hq1 hQ2b
          have hsz := hbq.size
          go_wp2_with (at_builtin; refine wpList_append_own _ rfl _ _ 97 rfl W0.heap.size 5 inf (.int .u8 0) 1 1 und_bytes hi HZ.out.1 HZ.out.2.1 HZ.out.2.2 rfl (by decide) _ _ _ rfl (hown.alloc _) ⟨wr.heap.size, 0, none⟩ 1 1 [.int .u8 ((digChar d : Nat) : Int)] rfl rfl (cell_new_plain _ _ _ _ rfl) (by simp [Value.oneCell']) (by unfold maxLen; omega) (by omega) (by simp; omega) ?_; intro v' w5 hown' hgrow _)
          have hkp := ownsRow_keep hown hgrow hrq hapq
          have hbn : Below W0.heap.size W0 w5 := hbq.trans (((Below.refl _ wr).alloc hsz _).grown hgrow (by simp; omega) (fun k e => by have := (hown.lt k e).1; omega))
          refine ⟨⟨k + 1, by omega, by go_num, ?_, ?_, hkp.1, hkp.2, hbn⟩, by simp [intOf]; omega⟩
          · rw [HQ1.out]
            have := HQ.out
            congr 1
            omega
          · rw [show N + (k + 1) = N + k + 1 by omega, digBytes_snoc, enc8_snoc, ← HD.out]
            exact hown'
        · obtain rfl : k = m := by omega
          have hlq : lenSlice (.slice sa (N + k) sc) = N + k := rfl
          have hln : ∀ a c, lenSlice (.slice a N c) = N := fun _ _ => rfl
          go_wp2
          refine ⟨⟨N + k, qs, hown, hrq, k4, ?_, .inl hapq, hbq, by omega⟩, by rw [hlq, hln]; omega⟩
          rw [H4.out, HV.out, ← HU.out.1, Nat.div_div_eq_div_mul, Nat.pow_add]

end Go.Proofs.YtlghjfpkfdnfoaaDoor

/- num.digitOf, num.demandBase, num.chunk -/
namespace Go.Proofs.YtlghjfpkfdnfoaaDoor
open Go Go.RowKit Go.Shelf

/-- the value of a digit -/
def digitVal (c : Nat) : Nat := if 48 ≤ c ∧ c ≤ 57 then c - 48 else if 97 ≤ c ∧ c ≤ 122 then c - 87 else if 65 ≤ c ∧ c ≤ 90 then c - 55 else 36

set_option maxHeartbeats 1000000 in
set_option maxRecDepth 100000 in
theorem digitOf_any (c : Nat) (w : World) (hc : c < 256) :
    Calls Tryd.prog 114 #[.int .u8 c] w fun e w' => w = w' ∧ e = .returned (.int .i64 (digitVal c)) := by
  have cases4 : (48 ≤ c ∧ c ≤ 57 ∧ digitVal c = c - 48) ∨ (97 ≤ c ∧ c ≤ 122 ∧ digitVal c = c - 87) ∨ (65 ≤ c ∧ c ≤ 90 ∧ digitVal c = c - 55) ∨ ((c < 48 ∨ 57 < c) ∧ (c < 97 ∨ 122 < c) ∧ (c < 65 ∨ 90 < c) ∧ digitVal c = 36) := by
    unfold digitVal; (repeat' split) <;> omega
  rcases cases4 with ⟨h1, h2, h3⟩ | ⟨h1, h2, h3⟩ | ⟨h1, h2, h3⟩ | ⟨h1, h2, h4, h3⟩
  · have hd : ((digitVal c : Nat) : Int) = (c : Int) - 48 := by omega
    rw [hd]
    clear h3 hd
    go_enter Tryd.func114, Tryd.ntmps114
    go_wp2
    all_goals exact bodyPost_ret (v := .int .i64 ((c : Int) - 48)) (by simp [results, Tryd.results114, go_sem]) rfl ⟨rfl, rfl⟩
  · have hd : ((digitVal c : Nat) : Int) = (c : Int) - 97 + 10 := by omega
    rw [hd]
    clear h3 hd
    go_enter Tryd.func114, Tryd.ntmps114
    go_wp2
    all_goals exact bodyPost_ret (v := .int .i64 ((c : Int) - 97 + 10)) (by simp [results, Tryd.results114, go_sem]) rfl ⟨rfl, rfl⟩
  · have hd : ((digitVal c : Nat) : Int) = (c : Int) - 65 + 10 := by omega
    rw [hd]
    clear h3 hd
    go_enter Tryd.func114, Tryd.ntmps114
    go_wp2
    all_goals exact bodyPost_ret (v := .int .i64 ((c : Int) - 65 + 10)) (by simp [results, Tryd.results114, go_sem]) rfl ⟨rfl, rfl⟩
  · have hd : ((digitVal c : Nat) : Int) = 36 := by omega
    rw [hd]
    clear h3 hd
    go_enter Tryd.func114, Tryd.ntmps114
    go_wp2
    all_goals exact bodyPost_ret (v := .int .i64 (36)) (by simp [results, Tryd.results114, go_sem]) rfl ⟨rfl, rfl⟩

set_option maxHeartbeats 1000000 in
set_option maxRecDepth 100000 in
theorem demandBase_ok (b : Nat) (w : World) (h2 : 2 ≤ b) (h36 : b ≤ 36) :
    Calls Tryd.prog 87 #[.int .i64 b] w fun e w' => w = w' ∧ e = .returned (.tuple #[]) := by
  go_enter Tryd.func87, Tryd.ntmps87
  go_wp2_with (go_at_call 60; refine (demand_ok _ _ _ (by simp; try omega)).mono ?_; rintro e w' ⟨rfl, rfl⟩)
  go_end0
  exact ⟨rfl, rfl⟩

end Go.Proofs.YtlghjfpkfdnfoaaDoor

/- num: Pow,Root,Text,Parse around guard.Attempt -/
namespace Go.Proofs.YtlghjfpkfdnfoaaDoor
open Go Go.RowKit Go.Shelf

set_option maxHeartbeats 1000000 in
set_option maxRecDepth 100000 in
theorem Pow_of (va : Value) (na : Bool) (xa : List Nat) (n : Int) (w : World) (ha : IntAt w va na xa) (Post : Int → World → Value → Prop) (hpk : ∀ k W W' u0, Post k W u0 → (∀ v xs, Reads .u32 W v xs → Reads .u32 W' v xs) → Post k W' u0)
    (hcl : ∀ (B : Nat) (aa : Option Addr) (ca : Nat) (W4 : World), Below w.heap.size w W4 → RowAt W4 B 24 [.bool na, .slice aa xa.length ca] → RowAt W4 (B + 1) 3 [.int .i64 n] → RowAt W4 (B + 2) 24 [.bool false, .slice none 0 0] → Reads .u32 W4 (.slice aa xa.length ca) xa → va = .agg #[.bool na, .slice aa xa.length ca] → Calls Tryd.prog 75 #[.pointer (some ⟨B, 0, none⟩), .pointer (some ⟨B + 1, 0, none⟩), .pointer (some ⟨B + 2, 0, none⟩)] W4 fun e W => ∃ k, (k = 0 ∧ e = .returned (.tuple #[]) ∨ e = .panicked [{ v := .iface 27 (.int .i64 k), recovered := false }]) ∧ Chg (fun i => i = B + 2) W4 W ∧ (∃ n0 a0 m0 c0, RowAt W (B + 2) 24 [.bool n0, .slice a0 m0 c0] ∧ Post k W (.agg #[.bool n0, .slice a0 m0 c0]))) :
    Calls Tryd.prog 37 #[va, .int .i64 n] w fun e w' => Below w.heap.size w w' ∧ ∃ r0 k, e = .returned (.tuple #[r0, .int .i64 k]) ∧ Post k w' r0 := by
  obtain ⟨sa, rfl, hra, hla⟩ := ha
  obtain ⟨aa, ca, rfl, hca, hma⟩ := hra.form
  have hmf : ∀ (fn : Fn) (first cap : Array Value) (w : World), (Instr.makeFunc fn first cap).run Tryd.prog w = .ok (.func fn first cap) w := fun _ _ _ _ => rfl
  have q0 := (((RowAt.new w 24 [.bool na, .slice aa xa.length ca]).alloc (.cells #[.int .i64 n] 3)).alloc (.cells #[.bool false, .slice none 0 0] 24)).alloc (.cells #[.int .i64 0] 27)
  have q1 := ((RowAt.new (w.alloc (.cells #[.bool na, .slice aa xa.length ca] 24)) 3 [.int .i64 n]).alloc (.cells #[.bool false, .slice none 0 0] 24)).alloc (.cells #[.int .i64 0] 27)
  have q2 := (RowAt.new ((w.alloc (.cells #[.bool na, .slice aa xa.length ca] 24)).alloc (.cells #[.int .i64 n] 3)) 24 [.bool false, .slice none 0 0]).alloc (.cells #[.int .i64 0] 27)
  have q3 := Boxed.new (((w.alloc (.cells #[.bool na, .slice aa xa.length ca] 24)).alloc (.cells #[.int .i64 n] 3)).alloc (.cells #[.bool false, .slice none 0 0] 24)) 27 (.int .i64 0)
  have bw := (((((Below.refl w.heap.size w).alloc (Nat.le_refl _) (.cells #[.bool na, .slice aa xa.length ca] 24)).alloc (by simp) (.cells #[.int .i64 n] 3)).alloc (by simp; omega) (.cells #[.bool false, .slice none 0 0] 24)).alloc (by simp; omega) (.cells #[.int .i64 0] 27))
  simp only [World.size_alloc] at q1 q2 q3
  generalize hW4 : ((((w.alloc (.cells #[.bool na, .slice aa xa.length ca] 24)).alloc (.cells #[.int .i64 n] 3)).alloc (.cells #[.bool false, .slice none 0 0] 24)).alloc (.cells #[.int .i64 0] 27)) = W4 at q0 q1 q2 q3 bw
  have key := hcl w.heap.size aa ca W4 bw q0 q1 q2 (hra.below bw) rfl
  have att := attempt_any 75 #[.pointer (some ⟨w.heap.size, 0, none⟩), .pointer (some ⟨w.heap.size + 1, 0, none⟩), .pointer (some ⟨w.heap.size + 1 + 1, 0, none⟩)]
    (((w.alloc (.cells #[.bool na, .slice aa xa.length ca] 24)).alloc (.cells #[.int .i64 n] 3)).alloc (.cells #[.bool false, .slice none 0 0] 24))
    (fun k W => Chg (fun i => i = w.heap.size + 2) W4 W ∧ (∃ n0 a0 m0 c0, RowAt W (w.heap.size + 2) 24 [.bool n0, .slice a0 m0 c0] ∧ Post k W (.agg #[.bool n0, .slice a0 m0 c0])))
    (fun W => by simp [go_sem])
    (fun k W h => by simp only [World.size_alloc]; exact h.1.boxed q3 (by omega))
    (by
      rw [hW4]
      refine key.mono ?_
      rintro e W ⟨k, h1, h2⟩
      rcases h1 with ⟨rfl, rfl⟩ | rfl
      · exact .inl ⟨rfl, h2⟩
      · exact .inr ⟨k, rfl, h2⟩)
  clear key
  go_enter Tryd.func37, Tryd.ntmps37
  go_wp2_with (refine att.mono ?_; rintro e W' ⟨k, W, ⟨hch, n, a, m, c, hr, hres⟩, rfl, rfl⟩; simp only [World.size_alloc]; have hr9 := hr.other (a := ⟨w.heap.size + 1 + 1 + 1, 0, none⟩) (by simp) (.int .i64 k); have s3 := hr.frozen 0; have s4 := hr.frozen 1; have s1 := hr9.cell 0; have s2 := hr9.cell 1; simp only [List.getElem?_cons_zero, List.getElem?_cons_succ] at s1 s2)
  obtain ⟨u1, u2⟩ := two_reads (b := w.heap.size + 1 + 1) s1 s2 (.bool n) (.slice a m c)
  have e4 := (hch.boxed q3 (by omega)).cell
  have hkeep : ∀ v xs, Reads .u32 W v xs → Reads .u32 (((W.setCell ⟨w.heap.size + 1 + 1 + 1, 0, none⟩ (.int .i64 k)).setCell ⟨w.heap.size + 1 + 1, 0, none⟩ (.bool n)).setCell ⟨w.heap.size + 1 + 1, 1, none⟩ (.slice a m c)) v xs :=
    fun v xs h => two_kept (b := w.heap.size + 1 + 1) (h.setOther e4 (by simp) _) s1 s2 _ _
  refine bodyPost_ret (v := .tuple #[.agg #[.bool n, .slice a m c], .int .i64 k]) (by simp [results, Tryd.results37, go_sem, loadCellsFrom, u1, u2]) rfl ⟨?_, _, k, rfl, hpk _ _ _ _ hres hkeep⟩
  have hb9 : Below w.heap.size w W := bw.trans (hch.below (B := w.heap.size) (fun i hi => by omega) bw.size)
  exact ((hb9.setCell (by simp; omega) _).setCell (by simp; omega) _).setCell (by simp; omega) _

set_option maxHeartbeats 1000000 in
set_option maxRecDepth 100000 in
theorem Root_of (va : Value) (na : Bool) (xa : List Nat) (n : Int) (w : World) (ha : IntAt w va na xa) (Post : Int → World → Value → Prop) (hpk : ∀ k W W' u0, Post k W u0 → (∀ v xs, Reads .u32 W v xs → Reads .u32 W' v xs) → Post k W' u0)
    (hcl : ∀ (B : Nat) (aa : Option Addr) (ca : Nat) (W4 : World), Below w.heap.size w W4 → RowAt W4 B 24 [.bool na, .slice aa xa.length ca] → RowAt W4 (B + 1) 3 [.int .i64 n] → RowAt W4 (B + 2) 24 [.bool false, .slice none 0 0] → Reads .u32 W4 (.slice aa xa.length ca) xa → va = .agg #[.bool na, .slice aa xa.length ca] → Calls Tryd.prog 78 #[.pointer (some ⟨B, 0, none⟩), .pointer (some ⟨B + 1, 0, none⟩), .pointer (some ⟨B + 2, 0, none⟩)] W4 fun e W => ∃ k, (k = 0 ∧ e = .returned (.tuple #[]) ∨ e = .panicked [{ v := .iface 27 (.int .i64 k), recovered := false }]) ∧ Chg (fun i => i = B + 2) W4 W ∧ (∃ n0 a0 m0 c0, RowAt W (B + 2) 24 [.bool n0, .slice a0 m0 c0] ∧ Post k W (.agg #[.bool n0, .slice a0 m0 c0]))) :
    Calls Tryd.prog 38 #[va, .int .i64 n] w fun e w' => Below w.heap.size w w' ∧ ∃ r0 k, e = .returned (.tuple #[r0, .int .i64 k]) ∧ Post k w' r0 := by
  obtain ⟨sa, rfl, hra, hla⟩ := ha
  obtain ⟨aa, ca, rfl, hca, hma⟩ := hra.form
  have hmf : ∀ (fn : Fn) (first cap : Array Value) (w : World), (Instr.makeFunc fn first cap).run Tryd.prog w = .ok (.func fn first cap) w := fun _ _ _ _ => rfl
  have q0 := (((RowAt.new w 24 [.bool na, .slice aa xa.length ca]).alloc (.cells #[.int .i64 n] 3)).alloc (.cells #[.bool false, .slice none 0 0] 24)).alloc (.cells #[.int .i64 0] 27)
  have q1 := ((RowAt.new (w.alloc (.cells #[.bool na, .slice aa xa.length ca] 24)) 3 [.int .i64 n]).alloc (.cells #[.bool false, .slice none 0 0] 24)).alloc (.cells #[.int .i64 0] 27)
  have q2 := (RowAt.new ((w.alloc (.cells #[.bool na, .slice aa xa.length ca] 24)).alloc (.cells #[.int .i64 n] 3)) 24 [.bool false, .slice none 0 0]).alloc (.cells #[.int .i64 0] 27)
  have q3 := Boxed.new (((w.alloc (.cells #[.bool na, .slice aa xa.length ca] 24)).alloc (.cells #[.int .i64 n] 3)).alloc (.cells #[.bool false, .slice none 0 0] 24)) 27 (.int .i64 0)
  have bw := (((((Below.refl w.heap.size w).alloc (Nat.le_refl _) (.cells #[.bool na, .slice aa xa.length ca] 24)).alloc (by simp) (.cells #[.int .i64 n] 3)).alloc (by simp; omega) (.cells #[.bool false, .slice none 0 0] 24)).alloc (by simp; omega) (.cells #[.int .i64 0] 27))
  simp only [World.size_alloc] at q1 q2 q3
  generalize hW4 : ((((w.alloc (.cells #[.bool na, .slice aa xa.length ca] 24)).alloc (.cells #[.int .i64 n] 3)).alloc (.cells #[.bool false, .slice none 0 0] 24)).alloc (.cells #[.int .i64 0] 27)) = W4 at q0 q1 q2 q3 bw
  have key := hcl w.heap.size aa ca W4 bw q0 q1 q2 (hra.below bw) rfl
  have att := attempt_any 78 #[.pointer (some ⟨w.heap.size, 0, none⟩), .pointer (some ⟨w.heap.size + 1, 0, none⟩), .pointer (some ⟨w.heap.size + 1 + 1, 0, none⟩)]
    (((w.alloc (.cells #[.bool na, .slice aa xa.length ca] 24)).alloc (.cells #[.int .i64 n] 3)).alloc (.cells #[.bool false, .slice none 0 0] 24))
    (fun k W => Chg (fun i => i = w.heap.size + 2) W4 W ∧ (∃ n0 a0 m0 c0, RowAt W (w.heap.size + 2) 24 [.bool n0, .slice a0 m0 c0] ∧ Post k W (.agg #[.bool n0, .slice a0 m0 c0])))
    (fun W => by simp [go_sem])
    (fun k W h => by simp only [World.size_alloc]; exact h.1.boxed q3 (by omega))
    (by
      rw [hW4]
      refine key.mono ?_
      rintro e W ⟨k, h1, h2⟩
      rcases h1 with ⟨rfl, rfl⟩ | rfl
      · exact .inl ⟨rfl, h2⟩
      · exact .inr ⟨k, rfl, h2⟩)
  clear key
  go_enter Tryd.func38, Tryd.ntmps38
  go_wp2_with (refine att.mono ?_; rintro e W' ⟨k, W, ⟨hch, n, a, m, c, hr, hres⟩, rfl, rfl⟩; simp only [World.size_alloc]; have hr9 := hr.other (a := ⟨w.heap.size + 1 + 1 + 1, 0, none⟩) (by simp) (.int .i64 k); have s3 := hr.frozen 0; have s4 := hr.frozen 1; have s1 := hr9.cell 0; have s2 := hr9.cell 1; simp only [List.getElem?_cons_zero, List.getElem?_cons_succ] at s1 s2)
  obtain ⟨u1, u2⟩ := two_reads (b := w.heap.size + 1 + 1) s1 s2 (.bool n) (.slice a m c)
  have e4 := (hch.boxed q3 (by omega)).cell
  have hkeep : ∀ v xs, Reads .u32 W v xs → Reads .u32 (((W.setCell ⟨w.heap.size + 1 + 1 + 1, 0, none⟩ (.int .i64 k)).setCell ⟨w.heap.size + 1 + 1, 0, none⟩ (.bool n)).setCell ⟨w.heap.size + 1 + 1, 1, none⟩ (.slice a m c)) v xs :=
    fun v xs h => two_kept (b := w.heap.size + 1 + 1) (h.setOther e4 (by simp) _) s1 s2 _ _
  refine bodyPost_ret (v := .tuple #[.agg #[.bool n, .slice a m c], .int .i64 k]) (by simp [results, Tryd.results38, go_sem, loadCellsFrom, u1, u2]) rfl ⟨?_, _, k, rfl, hpk _ _ _ _ hres hkeep⟩
  have hb9 : Below w.heap.size w W := bw.trans (hch.below (B := w.heap.size) (fun i hi => by omega) bw.size)
  exact ((hb9.setCell (by simp; omega) _).setCell (by simp; omega) _).setCell (by simp; omega) _

set_option maxHeartbeats 1000000 in
set_option maxRecDepth 100000 in
theorem Text_of (va : Value) (na : Bool) (xa : List Nat) (base : Int) (w : World) (ha : IntAt w va na xa) (Post : Int → World → Value → Prop) (hpk : ∀ k W W' u0, Post k W u0 → (∀ v xs, Reads .u32 W v xs → Reads .u32 W' v xs) → Post k W' u0)
    (hcl : ∀ (B : Nat) (aa : Option Addr) (ca : Nat) (W4 : World), Below w.heap.size w W4 → RowAt W4 B 24 [.bool na, .slice aa xa.length ca] → RowAt W4 (B + 1) 3 [.int .i64 base] → RowAt W4 (B + 2) 9 [.string ByteArray.empty] → Reads .u32 W4 (.slice aa xa.length ca) xa → va = .agg #[.bool na, .slice aa xa.length ca] → Calls Tryd.prog 86 #[.pointer (some ⟨B, 0, none⟩), .pointer (some ⟨B + 1, 0, none⟩), .pointer (some ⟨B + 2, 0, none⟩)] W4 fun e W => ∃ k, (k = 0 ∧ e = .returned (.tuple #[]) ∨ e = .panicked [{ v := .iface 27 (.int .i64 k), recovered := false }]) ∧ Chg (fun i => i = B + 2) W4 W ∧ (∃ s0, RowAt W (B + 2) 9 [.string s0] ∧ Post k W (.string s0))) :
    Calls Tryd.prog 46 #[va, .int .i64 base] w fun e w' => Below w.heap.size w w' ∧ ∃ r0 k, e = .returned (.tuple #[r0, .int .i64 k]) ∧ Post k w' r0 := by
  obtain ⟨sa, rfl, hra, hla⟩ := ha
  obtain ⟨aa, ca, rfl, hca, hma⟩ := hra.form
  have hmf : ∀ (fn : Fn) (first cap : Array Value) (w : World), (Instr.makeFunc fn first cap).run Tryd.prog w = .ok (.func fn first cap) w := fun _ _ _ _ => rfl
  have q0 := (((RowAt.new w 24 [.bool na, .slice aa xa.length ca]).alloc (.cells #[.int .i64 base] 3)).alloc (.cells #[.string ByteArray.empty] 9)).alloc (.cells #[.int .i64 0] 27)
  have q1 := ((RowAt.new (w.alloc (.cells #[.bool na, .slice aa xa.length ca] 24)) 3 [.int .i64 base]).alloc (.cells #[.string ByteArray.empty] 9)).alloc (.cells #[.int .i64 0] 27)
  have q2 := (RowAt.new ((w.alloc (.cells #[.bool na, .slice aa xa.length ca] 24)).alloc (.cells #[.int .i64 base] 3)) 9 [.string ByteArray.empty]).alloc (.cells #[.int .i64 0] 27)
  have q3 := Boxed.new (((w.alloc (.cells #[.bool na, .slice aa xa.length ca] 24)).alloc (.cells #[.int .i64 base] 3)).alloc (.cells #[.string ByteArray.empty] 9)) 27 (.int .i64 0)
  have bw := (((((Below.refl w.heap.size w).alloc (Nat.le_refl _) (.cells #[.bool na, .slice aa xa.length ca] 24)).alloc (by simp) (.cells #[.int .i64 base] 3)).alloc (by simp; omega) (.cells #[.string ByteArray.empty] 9)).alloc (by simp; omega) (.cells #[.int .i64 0] 27))
  simp only [World.size_alloc] at q1 q2 q3
  generalize hW4 : ((((w.alloc (.cells #[.bool na, .slice aa xa.length ca] 24)).alloc (.cells #[.int .i64 base] 3)).alloc (.cells #[.string ByteArray.empty] 9)).alloc (.cells #[.int .i64 0] 27)) = W4 at q0 q1 q2 q3 bw
  have key := hcl w.heap.size aa ca W4 bw q0 q1 q2 (hra.below bw) rfl
  have att := attempt_any 86 #[.pointer (some ⟨w.heap.size, 0, none⟩), .pointer (some ⟨w.heap.size + 1, 0, none⟩), .pointer (some ⟨w.heap.size + 1 + 1, 0, none⟩)]
    (((w.alloc (.cells #[.bool na, .slice aa xa.length ca] 24)).alloc (.cells #[.int .i64 base] 3)).alloc (.cells #[.string ByteArray.empty] 9))
    (fun k W => Chg (fun i => i = w.heap.size + 2) W4 W ∧ (∃ s0, RowAt W (w.heap.size + 2) 9 [.string s0] ∧ Post k W (.string s0)))
    (fun W => by simp [go_sem])
    (fun k W h => by simp only [World.size_alloc]; exact h.1.boxed q3 (by omega))
    (by
      rw [hW4]
      refine key.mono ?_
      rintro e W ⟨k, h1, h2⟩
      rcases h1 with ⟨rfl, rfl⟩ | rfl
      · exact .inl ⟨rfl, h2⟩
      · exact .inr ⟨k, rfl, h2⟩)
  clear key
  go_enter Tryd.func46, Tryd.ntmps46
  go_wp2_with (refine att.mono ?_; rintro e W' ⟨k, W, ⟨hch, z, hr, hres⟩, rfl, rfl⟩; simp only [World.size_alloc]; have hr9 := hr.other (a := ⟨w.heap.size + 1 + 1 + 1, 0, none⟩) (by simp) (.int .i64 k); have s3 := hr.frozen 0; have s1 := hr9.cell 0; simp only [List.getElem?_cons_zero] at s1)
  have u1 := World.cell?_setCell_same _ _ (.string z) s1
  have e4 := (hch.boxed q3 (by omega)).cell
  have hkeep : ∀ v xs, Reads .u32 W v xs → Reads .u32 ((W.setCell ⟨w.heap.size + 1 + 1 + 1, 0, none⟩ (.int .i64 k)).setCell ⟨w.heap.size + 1 + 1, 0, none⟩ (.string z)) v xs :=
    fun v xs h => (h.setOther e4 (by simp) _).setOther s1 (by simp) _
  refine bodyPost_ret (v := .tuple #[.string z, .int .i64 k]) (by simp [results, Tryd.results46, go_sem, loadCellsFrom, u1]) rfl ⟨?_, _, k, rfl, hpk _ _ _ _ hres hkeep⟩
  have hb9 : Below w.heap.size w W := bw.trans (hch.below (B := w.heap.size) (fun i hi => by omega) bw.size)
  exact (hb9.setCell (by simp; omega) _).setCell (by simp; omega) _

set_option maxHeartbeats 1000000 in
set_option maxRecDepth 100000 in
theorem Parse_of (s : ByteArray) (base : Int) (w : World)  (Post : Int → World → Value → Prop) (hpk : ∀ k W W' u0, Post k W u0 → (∀ v xs, Reads .u32 W v xs → Reads .u32 W' v xs) → Post k W' u0)
    (hcl : ∀ (B : Nat)  (W4 : World), Below w.heap.size w W4 → RowAt W4 B 9 [.string s] → RowAt W4 (B + 1) 3 [.int .i64 base] → RowAt W4 (B + 2) 24 [.bool false, .slice none 0 0] → Calls Tryd.prog 90 #[.pointer (some ⟨B + 1, 0, none⟩), .pointer (some ⟨B, 0, none⟩), .pointer (some ⟨B + 2, 0, none⟩)] W4 fun e W => ∃ k, (k = 0 ∧ e = .returned (.tuple #[]) ∨ e = .panicked [{ v := .iface 27 (.int .i64 k), recovered := false }]) ∧ Chg (fun i => i = B + 2) W4 W ∧ (∃ n0 a0 m0 c0, RowAt W (B + 2) 24 [.bool n0, .slice a0 m0 c0] ∧ Post k W (.agg #[.bool n0, .slice a0 m0 c0]))) :
    Calls Tryd.prog 48 #[.string s, .int .i64 base] w fun e w' => Below w.heap.size w w' ∧ ∃ r0 k, e = .returned (.tuple #[r0, .int .i64 k]) ∧ Post k w' r0 := by
  have hmf : ∀ (fn : Fn) (first cap : Array Value) (w : World), (Instr.makeFunc fn first cap).run Tryd.prog w = .ok (.func fn first cap) w := fun _ _ _ _ => rfl
  have q0 := (((RowAt.new w 9 [.string s]).alloc (.cells #[.int .i64 base] 3)).alloc (.cells #[.bool false, .slice none 0 0] 24)).alloc (.cells #[.int .i64 0] 27)
  have q1 := ((RowAt.new (w.alloc (.cells #[.string s] 9)) 3 [.int .i64 base]).alloc (.cells #[.bool false, .slice none 0 0] 24)).alloc (.cells #[.int .i64 0] 27)
  have q2 := (RowAt.new ((w.alloc (.cells #[.string s] 9)).alloc (.cells #[.int .i64 base] 3)) 24 [.bool false, .slice none 0 0]).alloc (.cells #[.int .i64 0] 27)
  have q3 := Boxed.new (((w.alloc (.cells #[.string s] 9)).alloc (.cells #[.int .i64 base] 3)).alloc (.cells #[.bool false, .slice none 0 0] 24)) 27 (.int .i64 0)
  have bw := (((((Below.refl w.heap.size w).alloc (Nat.le_refl _) (.cells #[.string s] 9)).alloc (by simp) (.cells #[.int .i64 base] 3)).alloc (by simp; omega) (.cells #[.bool false, .slice none 0 0] 24)).alloc (by simp; omega) (.cells #[.int .i64 0] 27))
  simp only [World.size_alloc] at q1 q2 q3
  generalize hW4 : ((((w.alloc (.cells #[.string s] 9)).alloc (.cells #[.int .i64 base] 3)).alloc (.cells #[.bool false, .slice none 0 0] 24)).alloc (.cells #[.int .i64 0] 27)) = W4 at q0 q1 q2 q3 bw
  have key := hcl w.heap.size  W4 bw q0 q1 q2  
  have att := attempt_any 90 #[.pointer (some ⟨w.heap.size + 1, 0, none⟩), .pointer (some ⟨w.heap.size, 0, none⟩), .pointer (some ⟨w.heap.size + 1 + 1, 0, none⟩)]
    (((w.alloc (.cells #[.string s] 9)).alloc (.cells #[.int .i64 base] 3)).alloc (.cells #[.bool false, .slice none 0 0] 24))
    (fun k W => Chg (fun i => i = w.heap.size + 2) W4 W ∧ (∃ n0 a0 m0 c0, RowAt W (w.heap.size + 2) 24 [.bool n0, .slice a0 m0 c0] ∧ Post k W (.agg #[.bool n0, .slice a0 m0 c0])))
    (fun W => by simp [go_sem])
    (fun k W h => by simp only [World.size_alloc]; exact h.1.boxed q3 (by omega))
    (by
      rw [hW4]
      refine key.mono ?_
      rintro e W ⟨k, h1, h2⟩
      rcases h1 with ⟨rfl, rfl⟩ | rfl
      · exact .inl ⟨rfl, h2⟩
      · exact .inr ⟨k, rfl, h2⟩)
  clear key
  go_enter Tryd.func48, Tryd.ntmps48
  go_wp2_with (refine att.mono ?_; rintro e W' ⟨k, W, ⟨hch, n, a, m, c, hr, hres⟩, rfl, rfl⟩; simp only [World.size_alloc]; have hr9 := hr.other (a := ⟨w.heap.size + 1 + 1 + 1, 0, none⟩) (by simp) (.int .i64 k); have s3 := hr.frozen 0; have s4 := hr.frozen 1; have s1 := hr9.cell 0; have s2 := hr9.cell 1; simp only [List.getElem?_cons_zero, List.getElem?_cons_succ] at s1 s2)
  obtain ⟨u1, u2⟩ := two_reads (b := w.heap.size + 1 + 1) s1 s2 (.bool n) (.slice a m c)
  have e4 := (hch.boxed q3 (by omega)).cell
  have hkeep : ∀ v xs, Reads .u32 W v xs → Reads .u32 (((W.setCell ⟨w.heap.size + 1 + 1 + 1, 0, none⟩ (.int .i64 k)).setCell ⟨w.heap.size + 1 + 1, 0, none⟩ (.bool n)).setCell ⟨w.heap.size + 1 + 1, 1, none⟩ (.slice a m c)) v xs :=
    fun v xs h => two_kept (b := w.heap.size + 1 + 1) (h.setOther e4 (by simp) _) s1 s2 _ _
  refine bodyPost_ret (v := .tuple #[.agg #[.bool n, .slice a m c], .int .i64 k]) (by simp [results, Tryd.results48, go_sem, loadCellsFrom, u1, u2]) rfl ⟨?_, _, k, rfl, hpk _ _ _ _ hres hkeep⟩
  have hb9 : Below w.heap.size w W := bw.trans (hch.below (B := w.heap.size) (fun i hi => by omega) bw.size)
  exact ((hb9.setCell (by simp; omega) _).setCell (by simp; omega) _).setCell (by simp; omega) _

end Go.Proofs.YtlghjfpkfdnfoaaDoor

/- num.Text -/
namespace Go.Proofs.YtlghjfpkfdnfoaaDoor
open Go Go.RowKit Go.Shelf

set_option maxHeartbeats 1000000 in
set_option maxRecDepth 100000 in
theorem demandBase_no (b : Int) (w : World) (h : b < 2 ∨ 36 < b) :
    Calls Tryd.prog 87 #[.int .i64 b] w fun e w' => w = w' ∧ e = .panicked [{ v := .iface 27 (.int .i64 1), recovered := false }] := by
  by_cases h2 : b < 2
  · have hd : decide (2 ≤ b) = false := by simp; omega
    go_enter Tryd.func87, Tryd.ntmps87
    go_wp2_with (go_at_call 60; refine (demand_no _ _ _ (by simp; try omega)).mono ?_; rintro e w' ⟨rfl, rfl⟩)
    exact ⟨rfl, rfl, rfl⟩
  · have h36 : 36 < b := h.resolve_left h2
    have hd : decide (2 ≤ b) = true := by simp; omega
    have hd2 : decide (b ≤ 36) = false := by simp; omega
    go_enter Tryd.func87, Tryd.ntmps87
    go_wp2_with (go_at_call 60; refine (demand_no _ _ _ (by simp; try omega)).mono ?_; rintro e w' ⟨rfl, rfl⟩)
    exact ⟨rfl, rfl, rfl⟩

set_option maxHeartbeats 1000000 in
set_option maxRecDepth 100000 in
theorem text1_ok (B : Nat) (na : Bool) (aa : Option Addr) (ca : Nat) (xa : List Nat) (b : Nat) (s0 : ByteArray) (w : World) (hra : RowAt w B 24 [.bool na, .slice aa xa.length ca]) (hrn : RowAt w (B + 1) 3 [.int .i64 (b : Int)]) (hrr : RowAt w (B + 2) 9 [.string s0])
    (ha : Reads .u32 w (.slice aa xa.length ca) xa) (hla : Limbs xa) (fa : formedB na xa = true) (h2 : 2 ≤ b) (h36 : b ≤ 36) (hT : DigitsAt w) :
    Calls Tryd.prog 86 #[.pointer (some ⟨B, 0, none⟩), .pointer (some ⟨B + 1, 0, none⟩), .pointer (some ⟨B + 2, 0, none⟩)] w fun e w' => e = .returned (.tuple #[]) ∧ Chg (fun k => k = B + 2) w w' ∧ ∃ s : ByteArray, RowAt w' (B + 2) 9 [.string s] ∧ s.data.toList.map (·.toNat) = textOf na b (val xa) := by
  have a0 := hra.cell 0
  have a1 := hra.cell 1
  have n0 := hrn.cell 0
  simp only [List.getElem?_cons_zero, List.getElem?_cons_succ] at a0 a1 n0
  have r0' := RowAt.new w 24 [.bool na, .slice aa xa.length ca]
  have bw := (Below.refl w.heap.size w).alloc (Nat.le_refl _) (.cells #[.bool na, .slice aa xa.length ca] 24)
  obtain ⟨hkx, hxl⟩ : Canon xa ∧ xa.length ≤ 300 := by
    simp only [formedB, Bool.and_eq_true, decide_eq_true_eq] at fa
    exact ⟨⟨hla, fa.1.2⟩, fa.1.1⟩
  go_enter Tryd.func86, Tryd.ntmps86
  go_wp2_with (first
    | (go_at_call 59; refine (demand1_ok _ _ aa ca xa _ r0' (ha.below bw) hla fa).mono ?_; rintro e w1 ⟨hbe1, rfl⟩; have bw1 := bw.trans (hbe1.mono (by simp)); have p0 := (hra.below bw1).cell 0; have p2 := (hra.below bw1).cell 1; have p1 := (hrn.below bw1).cell 0; simp only [List.getElem?_cons_zero, List.getElem?_cons_succ] at p0 p1 p2)
    | (go_at_call 87; refine (demandBase_ok _ _ h2 h36).mono ?_; rintro e w2 ⟨rfl, rfl⟩)
    | (go_at_call 88; refine (text_any na _ xa b _ (ha.below bw1) hkx hxl h2 h36 (hT.below bw1)).mono ?_; rintro e w3 ⟨hbe3, s, rfl, hs⟩; have bw3 := bw1.trans (hbe3.mono bw1.size); have sr := hrr.below bw3; have o1 := sr.cell 0; have o5 := sr.frozen 0; simp only [List.getElem?_cons_zero] at o1))
  go_end0
  exact ⟨rfl, ((Chg.refl (fun k => k = B + 2) w).thenBelow bw3).setCell (p := ⟨B + 2, 0, none⟩) (.inl rfl) _, s, sr.set 0 (.string s), hs⟩

end Go.Proofs.YtlghjfpkfdnfoaaDoor
