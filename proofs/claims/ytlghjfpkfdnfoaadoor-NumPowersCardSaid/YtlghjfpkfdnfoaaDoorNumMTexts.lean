/- zermeloref01.Text of a number that is not 0 -/
import Derived.Test.YtlghjfpkfdnfoaaDoorNumMRefText
import Derived.Test.YtlghjfpkfdnfoaaDoorNumMRefSplit
import Derived.Test.YtlghjfpkfdnfoaaDoorNumMParseApi
import Derived.Deep.CutRange
import Derived.Test.YtlghjfpkfdnfoaaDoorNumMBits
import Derived.Test.YtlghjfpkfdnfoaaDoorNumMRefPower
import Derived.Test.YtlghjfpkfdnfoaaDoorNumMDivisor
import Derived.Deep.RegionHeld3
import Derived.Test.YtlghjfpkfdnfoaaDoorNumMTells
import Derived.Test.YtlghjfpkfdnfoaaDoorNumMOrder
namespace Go.Proofs.YtlghjfpkfdnfoaaDoor
open Go Go.RowKit Go.Shelf

theorem rowAt_grown {W W' : World} {b : Nat} {t : TypeId} {cs : List Value} {row : Option Nat} (h : RowAt W b t cs) (hg : W.grownBy W' row) (hne : some b ≠ row) : RowAt W' b t cs := (hg.block b h.lt hne).trans h
theorem isInt_grown {W W' : World} {n : Bool} {a : Option Addr} {m c : Nat} {i : Int} {row : Option Nat} (h : IsInt W (.agg #[.bool n, .slice a m c]) i) (hg : W.grownBy W' row) (hne : ∀ r, row = some r → ∀ ad, a = some ad → ad.block ≠ r) : IsInt W' (.agg #[.bool n, .slice a m c]) i := by
  obtain ⟨neg, va, xs, e, hr, hc, hn, hi⟩ := h
  have e' := e
  simp only [Value.agg.injEq, Array.mk.injEq, List.cons.injEq, Value.bool.injEq, and_true] at e'
  obtain ⟨-, rfl⟩ := e'
  exact ⟨neg, _, xs, e, reads_grown hr hg (fun r er => .inl (fun a' n' c' e2 _ => by
    simp only [Value.slice.injEq] at e2
    exact hne r er a' e2.1)), hc, hn, hi⟩
theorem ownsRow_other {B : Nat} {e : TypeId} {k : Nat} {v : Value} {n : Nat} {xs : List Value} {W : World} (h : W.ownsRow B e k v n xs) {a : Addr} (hb : a.block < B) (u : Value) : (W.setCell a u).ownsRow B e k v n xs := by
  refine ⟨h.1, ?_⟩
  rcases h.2 with h0 | ⟨g, cap, cur, hv, hg, hh, rest⟩
  · exact .inl h0
  · exact .inr ⟨g, cap, cur, hv, hg, (Below.heap_setCell W a u g (by omega)).trans hh, rest⟩
theorem first_limb {ys : List Nat} {r : Nat} (hl : Limbs ys) (hv : val ys = r) (hr : r < B32) : ys[0]?.getD 0 = r := by
  cases ys with
  | nil => simpa [val] using hv
  | cons y t =>
    have h1 : y < B32 := hl y (by simp)
    have h2 : y + B32 * val t = r := by simpa [val] using hv
    have h3 : y = r := by
      have := congrArg (· % B32) h2
      simp only [Nat.add_mul_mod_self_left] at this
      rwa [Nat.mod_eq_of_lt h1, Nat.mod_eq_of_lt hr] at this
    simpa using h3
theorem digs_exact {b N A : Nat} (hb : 2 ≤ b) (h0 : A / b ^ N = 0) (hl : N = 0 ∨ A / b ^ (N - 1) ≠ 0) : digs b N A = digits b A := by
  rw [← digits_eq hb h0]
  cases N with
  | zero => rfl
  | succ k =>
    have h1 : A / b ^ k ≠ 0 := by simpa using hl
    have h2 : A / b ^ k % b ≠ 0 := by
      rw [Nat.pow_succ, ← Nat.div_div_eq_div_mul] at h0
      have h3 : A / b ^ k < b := by
        rcases Nat.div_eq_zero_iff.1 h0 with h | h
        · omega
        · exact h
      rwa [Nat.mod_eq_of_lt h3]
    rw [digs_snoc, trimmed_snoc _ _ h2]
theorem table_at {r : Nat} (hr : r < 36) (W : World) : (Instr.index 9 (.string { data := #[48, 49, 50, 51, 52, 53, 54, 55, 56, 57, 97, 98, 99, 100, 101, 102, 103, 104, 105, 106, 107, 108, 109, 110, 111, 112, 113, 114, 115, 116, 117, 118, 119, 120, 121, 122] }) (.int .u64 (r : Int))).run Tryd.prog W = .ok (.int .u8 ((digChar r : Nat) : Int)) W := by
  have key : ∀ r : Fin 36, (({ data := #[48, 49, 50, 51, 52, 53, 54, 55, 56, 57, 97, 98, 99, 100, 101, 102, 103, 104, 105, 106, 107, 108, 109, 110, 111, 112, 113, 114, 115, 116, 117, 118, 119, 120, 121, 122] } : ByteArray).data[r.val]?.getD 0).toNat = digChar r.val := by decide
  have h1 := key ⟨r, hr⟩
  have hs : r < ({ data := #[48, 49, 50, 51, 52, 53, 54, 55, 56, 57, 97, 98, 99, 100, 101, 102, 103, 104, 105, 106, 107, 108, 109, 110, 111, 112, 113, 114, 115, 116, 117, 118, 119, 120, 121, 122] } : ByteArray).size := hr
  generalize ({ data := #[48, 49, 50, 51, 52, 53, 54, 55, 56, 57, 97, 98, 99, 100, 101, 102, 103, 104, 105, 106, 107, 108, 109, 110, 111, 112, 113, 114, 115, 116, 117, 118, 119, 120, 121, 122] } : ByteArray) = t at *
  have e : (t[r]'hs).toNat = digChar r := by
    rw [← h1]
    have : t.data[r]? = some (t[r]'hs) := Array.getElem?_eq_some_iff.2 ⟨hs, rfl⟩
    rw [this]
    rfl
  simp [go_sem, hs, e]

/-- ahead of a round of the digits -/
def TxR (W0 : World) (b A : Nat) (s : Value) (W : World) : Prop := ∃ N n a m c, N ≤ 9700 ∧ (N = 0 ∨ A / b ^ (N - 1) ≠ 0) ∧ W.ownsRow (W0.heap.size + 1) 5 1 s N (enc8 (digBytes b N A)) ∧ RowAt W W0.heap.size 24 [.bool n, .slice a m c] ∧ IsInt W (.agg #[.bool n, .slice a m c]) ((A / b ^ N : Nat) : Int) ∧ Below W0.heap.size W0 W ∧ W0.heap.size + 1 ≤ W.heap.size

set_option exponentiation.threshold 400 in
set_option maxHeartbeats 4000000 in
set_option maxRecDepth 100000 in
theorem rtext_pos (v : Value) (neg : Bool) (xs : List Nat) (b : Nat) (w : World) (h : IntAt w v neg xs) (hf : formedB neg xs = true) (hx : xs ≠ []) (h2 : 2 ≤ b) (h36 : b ≤ 36) :
    Calls Tryd.prog 47 #[v, .int .i64 (b : Int)] w fun e w' => Below w.heap.size w w' ∧ ∃ s : ByteArray, e = .returned (.agg #[.string s, .int .i64 0]) ∧ s.data.toList.map (·.toNat) = textOf neg b (val xs) := by
  have KF := fun X (hX : Below w.heap.size w X) => rformed_any v neg xs X (h.below hX)
  rw [hf] at KF
  obtain ⟨va, rfl, hr, hl⟩ := h
  obtain ⟨hcan, hlen⟩ := formedB_bounds hl hf
  obtain ⟨a, c, rfl, hc, hm⟩ := hr.form
  have hlp : 0 < xs.length := List.length_pos_iff.2 hx
  obtain ⟨A, hA⟩ : ∃ A, val xs = A := ⟨_, rfl⟩
  have hA0 : 0 < A := by rw [← hA]; exact (canon_pos_iff hcan).2 hlp
  have hAb : A < B32 ^ 300 := by rw [← hA]; exact Nat.lt_of_lt_of_le (val_lt hl) (Nat.pow_le_pow_right B32_pos hlen)
  have b1 := (Below.refl w.heap.size w).alloc (Nat.le_refl _) (.cells #[.bool neg, .slice a xs.length c] 24)
  have b2 := b1.alloc b1.size (.cells #[.string ByteArray.empty, .int .i64 0] 61)
  have q1 := (RowAt.new w 24 [.bool neg, .slice a xs.length c]).alloc (.cells #[.string ByteArray.empty, .int .i64 0] 61)
  have q2 := RowAt.new (w.alloc (.cells #[.bool neg, .slice a xs.length c] 24)) 61 [.string ByteArray.empty, .int .i64 0]
  simp only [World.size_alloc] at q2
  have h1 : decide ((b : Int) < 2) = false := decide_eq_false (by omega)
  have h3 : decide (36 < (b : Int)) = false := decide_eq_false (by omega)
  have h4 : ((xs.length : Int) == 0) = false := by simp; omega
  have KM := fun X (hX : Below w.heap.size w X) => made_any false (.slice a xs.length c) xs X (hr.below hX) hl (by omega)
  rw [hA] at KM ⊢
  have HX := Lib.hid (And.intro hA0 hAb)
  clear hr hl hc hm hf hcan hlen hlp hA hA0 hAb hx
  generalize xs.length = m0 at *
  go_enter Tryd.func47, Tryd.ntmps47
  go_wp2_with (first
    | (go_at_call 19; refine (KF _ b2).mono ?_; rintro e w1 ⟨hb1, rfl⟩; have q3 := q1.below hb1; have q4 := q2.below hb1; have s6 := q3.cell 1; simp only [List.getElem?_cons_zero, List.getElem?_cons_succ] at s6)
    | (go_at_call 65; refine (KM _ (b2.trans (hb1.mono b2.size))).mono ?_; rintro e w6 ⟨hb6, v6, rfl, hI6⟩; obtain ⟨n6, a6, m6, c6, rfl⟩ := hI6.shape))
  have R1 := q3.below hb6
  have R2 := q4.below hb6
  have B6 := (b2.trans (hb1.mono b2.size)).trans (hb6.mono (b2.trans (hb1.mono b2.size)).size)
  have hal := (Below.refl _ w6).alloc (Nat.le_refl _) (.cells #[.bool n6, .slice a6 m6 c6] 24)
  have hst : TxR w6 b A (.slice none 0 0) (w6.alloc (.cells #[.bool n6, .slice a6 m6 c6] 24)) := ⟨0, n6, a6, m6, c6, by omega, .inl rfl, World.ownsRow_nil _ _ _ _, RowAt.new w6 24 [.bool n6, .slice a6 m6 c6], by rw [Nat.pow_zero, Nat.div_one]; exact hI6.below hal, hal, by simp⟩
  have HS := Lib.hid hst
  clear hst hal hI6 q1 q2 q3 q4 b1 b2 hb1 hb6 KF KM s6 h1 h3 h4
  go_loopw [5] (fun s W => TxR w6 b A s W) (fun s _ => 20000 - lenSlice s)
  case atStart => exact HS.out
  case round =>
    clear HS
    obtain ⟨N, n, a9, m, c9, hN, hlast, hown, hrow, hI, hbe, hsz⟩ := hrel
    obtain ⟨sa, sc, rfl⟩ := own_form hown
    have hz := isInt_zero hI
    have x1 := hrow.cell 0
    have x2 := hrow.cell 1
    have x3 := hrow.frozen 0
    have x4 := hrow.frozen 1
    simp only [List.getElem?_cons_zero, List.getElem?_cons_succ] at x1 x2
    by_cases hm0 : m = 0
    · have hq0 : A / b ^ N = 0 := by have := hz.1 hm0; omega
      have hdg := digs_exact h2 hq0 hlast
      have hN0 : 0 < N := by
        rcases Nat.eq_zero_or_pos N with h | h
        · subst h
          rw [Nat.pow_zero, Nat.div_one] at hq0
          have := HX.out.1
          omega
        · exact h
      obtain ⟨bs, hbs⟩ : ∃ bs, digBytes b N A = bs := ⟨_, rfl⟩
      have hbl : bs.length = N := by rw [← hbs]; exact digBytes_length b N A
      have hb256 : ∀ x ∈ bs, x < 256 := fun x hx => by
        rw [← hbs] at hx
        obtain ⟨y, hy, rfl⟩ := List.mem_map.1 hx
        exact digChar_lt (Nat.lt_of_lt_of_le (digs_lt (by omega) N A y hy) h36)
      have htx : textOf neg b A = (if neg then [45] else []) ++ bs.reverse := by
        have := HX.out.1
        rw [textOf, if_neg (by omega), ← hbs, digBytes, hdg]
      rw [hbs] at hown
      subst hm0
      have HT := Lib.hid (And.intro htx (And.intro hb256 (And.intro hbl (And.intro hN hN0))))
      have cn := (R1.below hbe).cell 0
      simp only [List.getElem?_cons_zero] at cn
      have hd2 : decide (0 < 0) = false := rfl
      have R9 := R2.below hbe
      have hB9 := B6.trans (hbe.mono B6.size)
      have hNb : N < 32 * 400 := by omega
      clear hdg hq0 hlast hI hz hrow hbs htx hb256 hbl hN hN0 hd2
      go_upto_if 50 with (fail)
      obtain ⟨inf, hi, hzz⟩ := Option.map_eq_some_iff.1 info_byte
      simp only [Prod.mk.injEq] at hzz
      obtain ⟨hz0, hz1, hz2⟩ := hzz
      have HZ := Lib.hid (And.intro hz0 (And.intro hz1 hz2))
      clear hz0 hz1 hz2 x1 x2 x3 x4 R1 R2 B6 hbe
      go_cut [8] from 51 to 53 (fun v W => ∃ p : List Nat, p = (if neg then [45] else []) ∧ W.ownsRow wr.heap.size 5 1 v p.length (enc8 p) ∧ Below wr.heap.size wr W)
      case first =>
        clear hown R9 hB9 HT cn
        cases neg
        · go_wp2
          go_meet
          exact ⟨[], rfl, World.ownsRow_nil _ _ _ _, Below.refl _ _⟩
        · have hown0 : wr.ownsRow wr.heap.size 5 1 (.slice none 0 0) 0 [] := World.ownsRow_nil _ _ _ _
          go_wp2_with (at_builtin; refine wpList_append_own _ rfl _ _ 97 rfl wr.heap.size 5 inf (.int .u8 0) 1 1 und_bytes hi HZ.out.1 HZ.out.2.1 HZ.out.2.2 rfl (by decide) _ _ _ rfl (hown0.alloc _) ⟨wr.heap.size, 0, none⟩ 1 1 [.int .u8 45] rfl rfl (cell_new_plain _ _ _ _ rfl) (by simp [Value.oneCell']) (by unfold maxLen; omega) (by omega) (by simp) ?_; intro v' w5 hown' hgrow _)
          go_meet
          exact ⟨[45], rfl, hown', ((Below.refl _ wr).alloc (Nat.le_refl _) _).grown hgrow (by simp) (fun k e => absurd (show (Value.slice none 0 0).ownBlock = some k from e) (by simp [Value.ownBlock]))⟩
      case rest =>
        obtain ⟨p, hp, hownp, hbp⟩ := hcut
        have hpl : p.length ≤ 1 := by rw [hp]; cases neg <;> simp
        have hw1 : wrap64 ((N : Int) - 1) = (N : Int) - 1 := by unfold wrap64; omega
        obtain ⟨g, sc', esc, hsc1, hsc2⟩ := own_form_pos hown HT.out.2.2.2.2
        cases esc
        unfold maxLen at hsc2
        have HP := Lib.hid (And.intro hp hpl)
        have HO := Lib.hid hownp
        have hszw := hB9.size
        generalize wr = W2 at *
        have hcells : ∀ W, Below W2.heap.size W2 W → W.ownsRow (w6.heap.size + 1) 5 1 (.slice (some ⟨g, 0, none⟩) N sc) N (enc8 bs) := fun W hW => ownsRow_below1 hown hW
        clear hp hpl hownp cn hown
        go_wp2_with fail
        clear hw1
        go_loopw [8, 9] (fun v8 v9 W => ∃ j : Nat, j ≤ N ∧ v9 = .int .i64 ((j : Int) - 1) ∧ Below W2.heap.size W2 W ∧ W.ownsRow W2.heap.size 5 1 v8 (p ++ (bs.drop j).reverse).length (enc8 (p ++ (bs.drop j).reverse))) (fun _ v9 _ => (intOf v9 + 1).toNat)
        case atStart =>
          refine ⟨N, Nat.le_refl _, rfl, hbp, ?_⟩
          rw [List.drop_of_length_le (by rw [HT.out.2.2.1]; exact Nat.le_refl _), List.reverse_nil, List.append_nil]
          exact HO.out
        case round =>
          clear HO hbp
          obtain ⟨j, hj, rfl, hbW, hownq⟩ := hrel
          cases j with
          | zero =>
            rw [List.drop_zero] at hownq
            obtain ⟨h5, h6, h7, h8, h9⟩ := HT.out
            obtain ⟨L, hL⟩ : ∃ L, p ++ bs.reverse = L := ⟨_, rfl⟩
            have hLl : 0 < L.length := by rw [← hL]; simp; omega
            have hLt : L = textOf neg b A := by rw [h5, ← HP.out.1, hL]
            have hL256 : ∀ x ∈ L, x < 256 := fun x hx => by
              rw [← hL] at hx
              rcases List.mem_append.1 hx with hx | hx
              · rw [HP.out.1] at hx
                cases neg <;> simp at hx
                omega
              · exact h6 x (by simpa using hx)
            rw [hL] at hownq
            obtain ⟨g8, c8, rfl, -, -⟩ := own_form_pos hownq hLl
            have hcv := conv_bytes (n := L.length) (bs := L) rfl hownq
            have R10 := R9.below hbW
            have s1 := R10.cell 0
            have s2 := R10.cell 1
            have s4 := R10.frozen 0
            have s5 := R10.frozen 1
            simp only [List.getElem?_cons_zero, List.getElem?_cons_succ] at s1 s2
            have b9 := hB9.trans (hbW.mono hB9.size)
            have HL := Lib.hid (And.intro hLt hL256)
            have hm1 : (((0 : Nat) : Int) - 1) = -1 := rfl
            rw [hm1]
            clear hL hLl hLt hL256 h5 h6 h7 h8 h9 hownq hcells hj R9 hB9 hbW
            go_wp2_with fail
            have q5 := (R10.set 0 (.string (bytesOf L))).set 1 (.int .i64 0)
            have u1 := q5.cell 0
            have u2 := q5.cell 1
            simp only [List.set_cons_zero, List.set_cons_succ, List.getElem?_cons_zero, List.getElem?_cons_succ] at u1 u2
            exact bodyPost_ret (v := .agg #[.string (bytesOf L), .int .i64 0]) (by simp [results, Tryd.results47, go_sem, loadCellsFrom, u1, u2]) rfl ⟨(b9.setCell (by simp) _).setCell (by simp) _, _, rfl, by rw [← HL.out.1]; exact bytesOf_toNat HL.out.2⟩
          | succ k =>
            obtain ⟨h5, h6, h7, h8, h9⟩ := HT.out
            have hkb : k < bs.length := by omega
            obtain ⟨x, hx⟩ : ∃ x, bs[k]'hkb = x := ⟨_, rfl⟩
            have hdk : p ++ (bs.drop k).reverse = p ++ (bs.drop (k + 1)).reverse ++ [x] := by
              rw [List.drop_eq_getElem_cons hkb, hx, List.reverse_cons, List.append_assoc]
            have hc := (hcells wr hbW).cellAt k (by omega)
            have hce : (enc8 bs)[k]? = some (.int .u8 (x : Int)) := by simp [enc8, List.getElem?_eq_getElem hkb, hx]
            rw [hce] at hc
            have hix : ∀ W, (Instr.indexAt 97 (.slice (some ⟨g, 0, none⟩) N sc) (.int .i64 (k : Int))).run Tryd.prog W = .ok (.pointer (some ⟨g, k, none⟩)) W := fun W => by
              have := index_lookAt (P := Tryd.prog) 97 5 und_bytes size_byte (some ⟨g, 0, none⟩) N sc k (by omega) ⟨_, _, rfl⟩ .i64 W
              simpa [lookAt] using this
            obtain ⟨L, hL⟩ : ∃ L, p ++ (bs.drop (k + 1)).reverse = L := ⟨_, rfl⟩
            have hLl : L.length ≤ 20000 := by rw [← hL]; have := HP.out.2; simp; omega
            rw [hL] at hownq hdk
            rw [show ((k + 1 : Nat) : Int) - 1 = (k : Int) by omega]
            have hbs2 := hbW.size
            have HK := Lib.hid (And.intro hdk hj)
            obtain ⟨la, lc, rfl⟩ := own_form hownq
            clear hkb hx hdk hce hL hj h5 h6 h7 h8 h9 R9 hB9 hcells
            go_wp2_with (at_builtin; refine wpList_append_own _ rfl _ _ 97 rfl W2.heap.size 5 inf (.int .u8 0) 1 1 und_bytes hi HZ.out.1 HZ.out.2.1 HZ.out.2.2 rfl (by decide) _ _ _ rfl (hownq.alloc _) ⟨wr.heap.size, 0, none⟩ 1 1 [.int .u8 (x : Int)] rfl rfl (cell_new_plain _ _ _ _ rfl) (by simp [Value.oneCell']) (by unfold maxLen; omega) (by omega) (by simp; omega) ?_; intro v' w5 hown' hgrow _)
            have hw9 : wrap64 ((k : Int) - 1) = (k : Int) - 1 := by have := HK.out.2; unfold wrap64; omega
            go_roundw
            case rel =>
              obtain ⟨hdk, hj⟩ := HK.out
              refine ⟨k, by omega, by rw [hw9], (hbW.alloc hbs2 _).grown hgrow (by simp; omega) (fun k e => (hownq.lt k e).1), ?_⟩
              rw [hdk, enc8_snoc, List.length_append]
              exact hown'
            case measure =>
              rw [hw9]
              simp only [intOf]
              omega
    · have hpos : 0 < A / b ^ N := Nat.pos_of_ne_zero (fun h => hm0 (hz.2 (by rw [h]; rfl)))
      have hN2 : N < 32 * 300 := pow_lt_of_dvd h2 hpos HX.out.2
      obtain ⟨ys, hy, hky, hvy⟩ := isInt_list hI
      obtain ⟨a', c', e', -, -⟩ := hy.form
      cases e'
      rw [Int.natAbs_natCast] at hvy
      have hyl : ys.length ≤ 300 := canon_length_le hky (by rw [hvy]; exact Nat.lt_of_le_of_lt (Nat.div_le_self _ _) HX.out.2)
      have K := rshort_fresh (.slice a9 ys.length c9) ys b wr hy hky.1 (by omega) (by omega) (by unfold B32; omega)
      rw [hvy, Nat.div_div_eq_div_mul, ← Nat.pow_succ] at K
      obtain ⟨r, hr⟩ : ∃ r, A / b ^ N % b = r := ⟨_, rfl⟩
      have hr36 : r < 36 := by rw [← hr]; exact Nat.lt_of_lt_of_le (Nat.mod_lt _ (by omega)) h36
      rw [hr] at K
      have hw : IntKind.u32.wrap (b : Int) = (b : Int) := by rw [IntKind.wrap_u32']; omega
      have hd1 : decide ((0 : Int) < (ys.length : Int)) = true := decide_eq_true (by omega)
      have hd2 : decide (0 < ys.length) = true := decide_eq_true (by omega)
      have HN := Lib.hid (And.intro hN2 (And.intro hpos hr))
      clear hz hm0 hpos hlast hI hy hky hvy hyl hr hN2 hN
      go_upto_region 9 with (go_at_call 89; with_reducible refine K.mono ?_; rintro e wk ⟨hbk, n1, a1, m1, c1, n2, a2, m2, c2, rfl, hQ, hR, hF⟩)
      clear K hw hd1 hd2 x1 x2 x3 x4
      obtain ⟨zs, hzs, hkz, hvz⟩ := isInt_list hR
      obtain ⟨a', c', e', -, -⟩ := hzs.form
      cases e'
      rw [Int.natAbs_natCast] at hvz
      have hfl := first_limb hkz.1 hvz (by unfold B32; omega)
      have hallp := (Below.refl wk.heap.size wk).alloc (Nat.le_refl _) (.cells #[.bool n1, .slice a1 m1 c1, .bool n2, .slice a2 zs.length c2] 48)
      have KL := limb_any (.slice a2 zs.length c2) zs 0 _ (hzs.below hallp) hkz.1
      rw [hfl, Int.natCast_zero] at KL
      have KT := table_at hr36
      have rp := RowAt.new wk 48 [.bool n1, .slice a1 m1 c1, .bool n2, .slice a2 zs.length c2]
      have hsk := hbk.size
      have hown2 := (ownsRow_below1 hown hbk).alloc (.cells #[.bool n1, .slice a1 m1 c1, .bool n2, .slice a2 zs.length c2] 48)
      have hrow2 := (hrow.below hbk).alloc (.cells #[.bool n1, .slice a1 m1 c1, .bool n2, .slice a2 zs.length c2] 48)
      replace hQ := hQ.below hallp
      have hbe2 := (hbe.trans (hbk.mono hbe.size)).trans (hallp.mono (hbe.trans (hbk.mono hbe.size)).size)
      have hol : ∀ k, (Value.slice sa N sc).ownBlock = some k → k < wr.heap.size := fun k hk => (hown.lt k hk).2
      have y1 := rp.cell 3
      simp only [List.getElem?_cons_zero, List.getElem?_cons_succ] at y1
      have hsX : (wk.alloc (.cells #[.bool n1, .slice a1 m1 c1, .bool n2, .slice a2 zs.length c2] 48)).heap.size = wk.heap.size + 1 := by simp
      clear hzs hkz hvz hfl hallp hown hrow hR hbk hbe
      generalize wk.alloc (.cells #[.bool n1, .slice a1 m1 c1, .bool n2, .slice a2 zs.length c2] 48) = X at *
      generalize wk.heap.size = bk at *
      obtain ⟨inf, hi, hzz⟩ := Option.map_eq_some_iff.1 info_byte
      simp only [Prod.mk.injEq] at hzz
      obtain ⟨hz0, hz1, hz2⟩ := hzz
      have HZ := Lib.hid (And.intro hz0 (And.intro hz1 hz2))
      have hbX : w6.heap.size + 1 ≤ X.heap.size := by omega
      have HB := Lib.hid (And.intro hsX (And.intro hsk (And.intro hsz (And.intro hol hF))))
      clear hz0 hz1 hz2 hsX hsk hsz hol hF
      have hnl := HN.out.1
      go_wp2_with (first
        | (go_at_call 62; with_reducible refine KL.mono ?_; rintro e wz ⟨rfl, rfl⟩)
        | (at_builtin; refine wpList_append_own _ rfl _ _ 97 rfl (w6.heap.size + 1) 5 inf (.int .u8 0) 1 1 und_bytes hi HZ.out.1 HZ.out.2.1 HZ.out.2.2 rfl (by decide) _ _ _ rfl (hown2.alloc _) ⟨X.heap.size, 0, none⟩ 1 1 [.int .u8 ((digChar r : Nat) : Int)] rfl rfl (cell_new_plain _ _ _ _ rfl) (by simp [Value.oneCell']) (by unfold maxLen; omega) (by omega) (by simp; omega) ?_; intro v' w5 hown' hgrow _; have hne : ∀ k, (Value.slice sa N sc).ownBlock = some k → w6.heap.size + 1 ≤ k ∧ k < bk := fun k hk => ⟨(hown2.lt k hk).1, Nat.lt_of_lt_of_le (HB.out.2.2.2.1 k hk) HB.out.2.1⟩; have rp5 := rowAt_grown (rp.alloc _) hgrow (fun e => by have := hne _ e.symm; omega); have rr5 := rowAt_grown (hrow2.alloc _) hgrow (fun e => by have := hne _ e.symm; omega); have z1 := rp5.cell 0; have z2 := rp5.cell 1; have z3 := rr5.cell 0; have z4 := rr5.cell 1; have z5 := rr5.frozen 0; have z6 := rr5.frozen 1; simp only [List.getElem?_cons_zero, List.getElem?_cons_succ] at z1 z2 z3 z4))
      obtain ⟨ga, gc, rfl⟩ := own_form hown'
      have hF := HB.out.2.2.2.2
      have hQ5 := isInt_grown (hQ.below ((Below.refl X.heap.size X).alloc (Nat.le_refl _) (.cells #[.int .u8 ((digChar r : Nat) : Int)] 5))) hgrow (fun k hk ad had e => by
        have h1 := HB.out.2.2.2.1 k hk
        have h2 := hF ad had
        omega)
      have hb5 := (hbe2.alloc (show w6.heap.size ≤ X.heap.size by omega) (.cells #[.int .u8 ((digChar r : Nat) : Int)] 5)).grown hgrow (by simp; omega) (fun k e => by have := (hne k e).1; omega)
      have hs5 : w6.heap.size + 1 ≤ w5.heap.size := by
        have h1 := hgrow.size
        simp at h1
        omega
      obtain ⟨hN1, hN3, hN4⟩ := HN.out
      go_roundw
      case rel =>
        refine ⟨N + 1, n1, a1, m1, c1, by omega, .inr (by simpa using Nat.ne_of_gt hN3), ?_, (rr5.set 0 (.bool n1)).set 1 (.slice a1 m1 c1), hQ5.keep (fun _ _ hv => two_kept hv z3 z4 _ _), (hb5.setCell (Nat.le_refl _) _).setCell (Nat.le_refl _) _, by simpa using hs5⟩
        rw [digBytes_snoc, enc8_snoc, hN4]
        exact ownsRow_other (ownsRow_other hown' (by simp) _) (by simp) _
      case measure =>
        simp only [lenSlice]
        omega
theorem rtext_any (v : Value) (neg : Bool) (xs : List Nat) (base : Int) (w : World) (h : IntAt w v neg xs) :
    Calls Tryd.prog 47 #[v, .int .i64 base] w fun e w' => Below w.heap.size w w' ∧ ∃ s k, e = .returned (.agg #[.string s, .int .i64 k]) ∧ TextOut (formedB neg xs) neg base (val xs) k (.string s) := by
  by_cases hc : formedB neg xs = true ∧ 2 ≤ base ∧ base ≤ 36
  · obtain ⟨hf, h2, h36⟩ := hc
    obtain ⟨b, rfl⟩ := Int.eq_ofNat_of_zero_le (show 0 ≤ base by omega)
    by_cases hx : xs = []
    · subst hx
      refine (rtext_zero v neg b w h hf (by omega) (by omega)).mono ?_
      rintro e w' ⟨h1, rfl⟩
      refine ⟨h1, _, 0, rfl, ?_⟩
      unfold TextOut
      rw [if_pos ⟨hf, h2, h36⟩]
      exact ⟨rfl, _, rfl, rfl⟩
    · refine (rtext_pos v neg xs b w h hf hx (by omega) (by omega)).mono ?_
      rintro e w' ⟨h1, s, rfl, hs⟩
      refine ⟨h1, s, 0, rfl, ?_⟩
      unfold TextOut
      rw [if_pos ⟨hf, h2, h36⟩, Int.toNat_natCast]
      exact ⟨rfl, s, rfl, hs⟩
  · refine (rtext_no v neg xs base w h hc).mono ?_
    rintro e w' ⟨h1, rfl⟩
    refine ⟨h1, _, 1, rfl, ?_⟩
    unfold TextOut
    rw [if_neg hc]
    exact ⟨rfl, rfl⟩

end Go.Proofs.YtlghjfpkfdnfoaaDoor

/- zermeloref01.digit -/
namespace Go.Proofs.YtlghjfpkfdnfoaaDoor
open Go Go.RowKit Go.Shelf

/-- the value of a digit; 99 of any other byte -/
def rdig (c : Nat) : Nat := if 48 ≤ c ∧ c ≤ 57 then c - 48 else if 97 ≤ c ∧ c ≤ 122 then c - 87 else if 65 ≤ c ∧ c ≤ 90 then c - 55 else 99
theorem rdig_lt {c b : Nat} (hb : b ≤ 36) : rdig c < b ↔ digitVal c < b := by
  unfold rdig digitVal
  (repeat' split) <;> omega
theorem rdig_eq {c b : Nat} (hb : b ≤ 36) (h : digitVal c < b) : rdig c = digitVal c := by
  revert h
  unfold rdig digitVal
  (repeat' split) <;> omega

set_option maxHeartbeats 1000000 in
set_option maxRecDepth 100000 in
theorem rdigit_any (c : Nat) (w : World) (hc : c < 256) :
    Calls Tryd.prog 92 #[.int .u8 c] w fun e w' => w = w' ∧ e = .returned (.int .i64 (rdig c)) := by
  have cases4 : (48 ≤ c ∧ c ≤ 57 ∧ rdig c = c - 48) ∨ (97 ≤ c ∧ c ≤ 122 ∧ rdig c = c - 87) ∨ (65 ≤ c ∧ c ≤ 90 ∧ rdig c = c - 55) ∨ ((c < 48 ∨ 57 < c) ∧ (c < 97 ∨ 122 < c) ∧ (c < 65 ∨ 90 < c) ∧ rdig c = 99) := by
    unfold rdig; (repeat' split) <;> omega
  rcases cases4 with ⟨h1, h2, h3⟩ | ⟨h1, h2, h3⟩ | ⟨h1, h2, h3⟩ | ⟨h1, h2, h4, h3⟩
  · have hd : ((rdig c : Nat) : Int) = (c : Int) - 48 := by omega
    rw [hd]
    clear h3 hd
    go_enter Tryd.func92, Tryd.ntmps92
    go_wp2
    all_goals exact bodyPost_ret (v := .int .i64 ((c : Int) - 48)) (by simp [results, Tryd.results92, go_sem]) rfl ⟨rfl, rfl⟩
  · have hd : ((rdig c : Nat) : Int) = (c : Int) - 97 + 10 := by omega
    rw [hd]
    clear h3 hd
    go_enter Tryd.func92, Tryd.ntmps92
    go_wp2
    all_goals exact bodyPost_ret (v := .int .i64 ((c : Int) - 97 + 10)) (by simp [results, Tryd.results92, go_sem]) rfl ⟨rfl, rfl⟩
  · have hd : ((rdig c : Nat) : Int) = (c : Int) - 65 + 10 := by omega
    rw [hd]
    clear h3 hd
    go_enter Tryd.func92, Tryd.ntmps92
    go_wp2
    all_goals exact bodyPost_ret (v := .int .i64 ((c : Int) - 65 + 10)) (by simp [results, Tryd.results92, go_sem]) rfl ⟨rfl, rfl⟩
  · have hd : ((rdig c : Nat) : Int) = 99 := by omega
    rw [hd]
    clear h3 hd
    go_enter Tryd.func92, Tryd.ntmps92
    go_wp2
    all_goals exact bodyPost_ret (v := .int .i64 (99)) (by simp [results, Tryd.results92, go_sem]) rfl ⟨rfl, rfl⟩

end Go.Proofs.YtlghjfpkfdnfoaaDoor

/- zermeloref01.Parse of what is no number -/
namespace Go.Proofs.YtlghjfpkfdnfoaaDoor
open Go Go.RowKit Go.Shelf

/-- where a number's digits begin -/
structure StrIn (s : ByteArray) (neg : Bool) (o : Nat) (l : List UInt8) : Prop where
  off : o = if neg then 1 else 0
  size : s.size = o + l.length
  at0 : 0 < s.size → ∀ W : World, (Instr.index 9 (.string s) (.int .i64 0)).run Tryd.prog W = .ok (.int .u8 (if neg then 45 else (((l[0]?.getD 0).toNat : Nat) : Int))) W
  idx : ∀ j (hj : j < l.length) (W : World), (Instr.index 9 (.string s) (.int .i64 ((o + j : Nat) : Int))).run Tryd.prog W = .ok (.int .u8 (((l[j]'hj).toNat : Nat) : Int)) W
  sign : ((if neg then 45 else (((l[0]?.getD 0).toNat : Nat) : Int)) == 45) = neg
theorem strIn_of {s : ByteArray} {neg : Bool} {l : List UInt8} (hin : ParseIn s neg l) : ∃ o, o ≤ 1 ∧ StrIn s neg o l := by
  obtain ⟨hs, hf⟩ := hin
  have hsz : s.size = (if neg then 1 else 0) + l.length := by
    rw [← size_toList, hs]
    cases neg <;> simp [Nat.add_comm]
  refine ⟨if neg then 1 else 0, by split <;> omega, rfl, hsz, ?_, ?_, ?_⟩
  · intro h W
    have := index_string s 0 _ hs (by cases neg <;> simp at hsz ⊢ <;> omega) W
    rw [Int.ofNat_zero] at this
    rw [this]
    cases neg
    · have hl : 0 < l.length := by simp at hsz; omega
      simp [List.getElem?_eq_getElem hl]
    · rfl
  · intro j hj W
    have := index_string s ((if neg then 1 else 0) + j) _ hs (by cases neg <;> simp <;> omega) W
    rw [this]
    cases neg
    · simp
    · simp [Nat.add_comm 1 j]
  · cases neg
    · cases l with
      | nil => rfl
      | cons c t =>
        have := hf rfl c rfl
        simp
        omega
    · rfl

set_option maxHeartbeats 1000000 in
set_option maxRecDepth 100000 in
theorem rparse_base (s : ByteArray) (base : Int) (w : World) (hb : base < 2 ∨ 36 < base) :
    Calls Tryd.prog 49 #[.string s, .int .i64 base] w fun e w' => Below w.heap.size w w' ∧ e = .returned (.agg #[.bool false, .slice none 0 0, .int .i64 1]) := by
  have b1 := (Below.refl w.heap.size w).alloc (Nat.le_refl _) (.cells #[.bool false, .slice none 0 0, .int .i64 1] 43)
  rcases Int.lt_or_le base 2 with h | h
  · have h1 : decide (base < 2) = true := decide_eq_true h
    clear hb h
    go_enter Tryd.func49, Tryd.ntmps49
    go_wp2_with fail
    exact bodyPost_ret (v := .agg #[.bool false, .slice none 0 0, .int .i64 1]) (by simp [results, Tryd.results49, go_sem, loadCellsFrom]) rfl ⟨b1, rfl⟩
  · have h1 : decide (base < 2) = false := decide_eq_false (by omega)
    have h2 : decide (36 < base) = true := decide_eq_true (by omega)
    clear hb h
    go_enter Tryd.func49, Tryd.ntmps49
    go_wp2_with fail
    exact bodyPost_ret (v := .agg #[.bool false, .slice none 0 0, .int .i64 1]) (by simp [results, Tryd.results49, go_sem, loadCellsFrom]) rfl ⟨b1, rfl⟩

set_option maxHeartbeats 2000000 in
set_option maxRecDepth 100000 in
theorem rparse_bad (s : ByteArray) (b : Nat) (neg : Bool) (o : Nat) (l : List UInt8) (w : World) (hS : StrIn s neg o l) (ho : o ≤ 1) (h2 : 2 ≤ b) (h36 : b ≤ 36) (hlen : l.length ≤ 400) (hbad : l = [] ∨ ¬ ∀ c ∈ l, digitVal c.toNat < b) :
    Calls Tryd.prog 49 #[.string s, .int .i64 (b : Int)] w fun e w' => Below w.heap.size w w' ∧ e = .returned (.agg #[.bool false, .slice none 0 0, .int .i64 2]) := by
  have b1 := (Below.refl w.heap.size w).alloc (Nat.le_refl _) (.cells #[.bool false, .slice none 0 0, .int .i64 2] 43)
  have b0 := (Below.refl w.heap.size w).alloc (Nat.le_refl _) (.cells #[.bool false, .slice none 0 0, .int .i64 0] 43)
  have r0 := RowAt.new w 43 [.bool false, .slice none 0 0, .int .i64 0]
  have h1 : decide ((b : Int) < 2) = false := decide_eq_false (by omega)
  have h3 : decide (36 < (b : Int)) = false := decide_eq_false (by omega)
  obtain ⟨z, hz⟩ : ∃ z, s.size = z := ⟨_, rfl⟩
  have HS := Lib.hid hS
  have hzl : z = o + l.length := by rw [← hz, hS.size]
  have hpz : (decide ((0 : Int) < (z : Int))) = decide (0 < z) := by simp
  have hcut0 : ∀ W, 0 < z → (Instr.index 9 (.string s) (.int .i64 0)).run Tryd.prog W = .ok (.int .u8 (if neg then 45 else (((l[0]?.getD 0).toNat : Nat) : Int))) W := fun W h => hS.at0 (by omega) W
  have hsg := hS.sign
  generalize (if neg then 45 else (((l[0]?.getD 0).toNat : Nat) : Int)) = c0 at *
  clear hS
  have hoz : o = if neg then 1 else 0 := HS.out.off
  have HB := Lib.hid hbad
  clear hbad
  go_enter Tryd.func49, Tryd.ntmps49
  go_upto_region 4 with (fail)
  go_cut [23] from 16 to 22 (fun v W => v = .bool neg ∧ W = w.alloc (.cells #[.bool false, .slice none 0 0, .int .i64 0] 43))
  case first =>
    have HZ := Lib.hid hzl
    have HO := Lib.hid hoz
    clear hzl HS hoz
    by_cases h0 : 0 < z
    · have hp0 : decide ((0 : Int) < (z : Int)) = true := decide_eq_true (by omega)
      have hp1 : decide (0 < z) = true := decide_eq_true h0
      have hi := fun W => hcut0 W h0
      clear hcut0 hpz h0
      go_wp2
      go_meet
      exact ⟨rfl, rfl⟩
    · have hp0 : decide ((0 : Int) < (z : Int)) = false := decide_eq_false (by omega)
      have hp1 : decide (0 < z) = false := decide_eq_false h0
      have hn : neg = false := by
        have hZ := HZ.out
        have hO := HO.out
        cases neg
        · rfl
        · simp at hO; omega
      subst hn
      clear hcut0 hpz h0
      go_wp2
      go_meet
      exact ⟨rfl, rfl⟩
  case rest =>
    obtain ⟨rfl, rfl⟩ := hcut
    have HZ := Lib.hid hzl
    have HO := Lib.hid hoz
    clear hzl hcut0 hpz hsg hoz
    go_upto_if 23 with (fail)
    go_cut [5] from 24 to 24 (fun v W => v = .int .i64 (o : Int) ∧ W = w.alloc (.cells #[.bool false, .slice none 0 0, .int .i64 0] 43))
    case first =>
      cases neg
      · obtain rfl : o = 0 := HO.out
        go_wp2
        go_meet
        exact ⟨rfl, rfl⟩
      · obtain rfl : o = 1 := HO.out
        go_wp2
        go_meet
        exact ⟨rfl, rfl⟩
    case rest =>
    obtain ⟨rfl, rfl⟩ := hcut
    by_cases hl0 : l = []
    · have hzo : z = o := by have := HZ.out; subst hl0; simpa using this
      subst hzo
      have hq : ((z : Int) == (z : Int)) = true := by simp
      have HL := Lib.hid hl0
      clear hl0
      go_wp2_with fail
      exact bodyPost_ret (v := .agg #[.bool false, .slice none 0 0, .int .i64 2]) (by simp [results, Tryd.results49, go_sem, loadCellsFrom]) rfl ⟨b1, rfl⟩
    · obtain ⟨p, hp, hp1, hp2⟩ := bad_first b l (HB.out.resolve_left hl0)
      have hoz : ((o : Int) == (z : Int)) = false := by have := HZ.out; simp; omega
      have HP := Lib.hid (And.intro hp1 hp2)
      clear hp1 hp2 hl0 HB
      go_wp2_with fail
      generalize hW0 : w.alloc (.cells #[.bool false, .slice none 0 0, .int .i64 0] 43) = W0 at *
      have HW := Lib.hid hW0
      clear hW0
      go_loop [6] (fun i => ∃ j : Nat, j ≤ p ∧ i = .int .i64 ((o + j : Nat) : Int)) (fun i => z - (intOf i).toNat)
      case atStart => exact ⟨0, Nat.zero_le _, rfl⟩
      case round =>
        obtain ⟨j, hj, rfl⟩ := hrel
        have hjl : j < l.length := by omega
        have hzb : z < 500 := by have := HZ.out; omega
        have hix := fun W => HS.out.idx j hjl W
        obtain ⟨c, hc⟩ : ∃ c, (l[j]'hjl).toNat = c := ⟨_, rfl⟩
        have hc256 : c < 256 := by rw [← hc]; exact (l[j]'hjl).toNat_lt
        rw [hc] at hix
        have hjz : decide (((o + j : Nat) : Int) < (z : Int)) = true := decide_eq_true (by have := HZ.out; omega)
        obtain ⟨q, hq⟩ : ∃ q, o + j = q := ⟨_, rfl⟩
        rw [hq] at hix hjz ⊢
        have hjy : decide (q < z) = true := decide_eq_true (by have := HZ.out; omega)
        by_cases hjp : j = p
        · have hcd : ¬ digitVal c < b := by subst hjp; rw [← hc]; exact HP.out.1
          have hdd : decide ((b : Int) ≤ ((rdig c : Nat) : Int)) = true := decide_eq_true (by have := rdig_lt (c := c) h36; omega)
          have hde : decide (b ≤ rdig c) = true := decide_eq_true (by have := rdig_lt (c := c) h36; omega)
          have HJ := Lib.hid (And.intro hjp hq)
          have k0 := r0.cell 0
          have k1 := r0.cell 1
          have k2 := r0.cell 2
          have k3 := r0.frozen 0
          have k4 := r0.frozen 1
          have k5 := r0.frozen 2
          simp only [List.getElem?_cons_zero, List.getElem?_cons_succ] at k0 k1 k2
          clear hc hjp hq hzb HW HO HP HS HZ hoz ho hp hj hjl h1 h3 b1 h2 hlen hcd
          go_wp2_with (go_at_call 92; refine (rdigit_any c _ hc256).mono ?_; rintro e w2 ⟨rfl, rfl⟩)
          have q5 := ((r0.set 0 (.bool false)).set 1 (.slice none 0 0)).set 2 (.int .i64 2)
          have u1 := q5.cell 0
          have u2 := q5.cell 1
          have u3 := q5.cell 2
          simp only [List.set_cons_zero, List.set_cons_succ, List.getElem?_cons_zero, List.getElem?_cons_succ] at u1 u2 u3
          exact bodyPost_ret (v := .agg #[.bool false, .slice none 0 0, .int .i64 2]) (by simp [results, Tryd.results49, go_sem, loadCellsFrom, u1, u2, u3]) rfl ⟨((b0.setCell (by simp) _).setCell (by simp) _).setCell (by simp) _, rfl⟩
        · have hcd : digitVal c < b := by rw [← hc]; exact HP.out.2 j (by omega)
          have hdd : decide ((b : Int) ≤ ((rdig c : Nat) : Int)) = false := decide_eq_false (by have := rdig_lt (c := c) h36; omega)
          have hde : decide (b ≤ rdig c) = false := decide_eq_false (by have := rdig_lt (c := c) h36; omega)
          have hzq : q < z := by have := HZ.out; omega
          have HJ := Lib.hid (And.intro hq (And.intro hjp (And.intro hzq (And.intro hj hzb))))
          clear hc hq hjp hzq hzb HW HO HP HS HZ hoz ho hp hj hjl h1 h3 b1 h2 hlen hcd b0 r0
          go_wp2_with (go_at_call 92; refine (rdigit_any c _ hc256).mono ?_; rintro e w2 ⟨rfl, rfl⟩)
          obtain ⟨h5, h6, h7, h8, h9⟩ := HJ.out
          have hw : wrap64 ((q : Int) + 1) = ((q + 1 : Nat) : Int) := by unfold wrap64; omega
          rw [hw]
          refine ⟨⟨j + 1, ?_, ?_⟩, ?_⟩
          · omega
          · rw [← h5]; rfl
          · simp only [intOf, Int.toNat_natCast]; omega
end Go.Proofs.YtlghjfpkfdnfoaaDoor

/- zermeloref01.Parse of a number -/
namespace Go.Proofs.YtlghjfpkfdnfoaaDoor
open Go Go.RowKit Go.Shelf

/-- the variables of Parse -/
structure RpS (w : World) (n : Bool) (a : Option Addr) (m c : Nat) (X : World) : Prop where
  r4 : RowAt X w.heap.size 43 [.bool false, .slice none 0 0, .int .i64 0]
  r7 : RowAt X (w.heap.size + 1) 24 [.bool n, .slice a m c]
  below : Below w.heap.size w X
/-- while the number grows -/
structure RpE (w : World) (X : World) : Prop where
  r4 : RowAt X w.heap.size 43 [.bool false, .slice none 0 0, .int .i64 0]
  r7 : ∃ n a m c, RowAt X (w.heap.size + 1) 24 [.bool n, .slice a m c]
  below : Below w.heap.size w X
/-- while the answer is made -/
structure RpT (w : World) (n : Bool) (a : Option Addr) (m c : Nat) (X : World) : Prop where
  r4 : ∃ n0 a0 m0 c0 k0, RowAt X w.heap.size 43 [.bool n0, .slice a0 m0 c0, .int .i64 k0]
  r7 : RowAt X (w.heap.size + 1) 24 [.bool n, .slice a m c]
  below : Below w.heap.size w X
section
variable {w X X' : World} {n : Bool} {a : Option Addr} {m c : Nat}
theorem rpE_step (h : RpE w X) (hb : Below X.heap.size X X') : RpE w X' := ⟨h.r4.below hb, h.r7.elim fun n h => h.elim fun a h => h.elim fun m h => h.elim fun c h => ⟨n, a, m, c, h.below hb⟩, h.below.trans (hb.mono h.below.size)⟩
theorem rpE_drew (h : RpE w X) : RpE w X.drew := ⟨h.r4, h.r7, h.below.drew⟩
theorem rpE_set (h : RpE w X) (n : Bool) (a : Option Addr) (m c : Nat) : RpE w ((X.setCell ⟨w.heap.size + 1, 0, none⟩ (.bool n)).setCell ⟨w.heap.size + 1, 1, none⟩ (.slice a m c)) := by
  obtain ⟨h1, ⟨n0, a0, m0, c0, h2⟩, h3⟩ := h
  exact ⟨(h1.other (show w.heap.size ≠ w.heap.size + 1 by omega) _).other (show w.heap.size ≠ w.heap.size + 1 by omega) _, ⟨n, a, m, c, (h2.set 0 (.bool n)).set 1 (.slice a m c)⟩, (h3.setCell (show w.heap.size ≤ w.heap.size + 1 by omega) _).setCell (show w.heap.size ≤ w.heap.size + 1 by omega) _⟩
theorem rpT_step (h : RpT w n a m c X) (hb : Below X.heap.size X X') : RpT w n a m c X' := ⟨h.r4.elim fun n h => h.elim fun a h => h.elim fun m h => h.elim fun c h => h.elim fun k h => ⟨n, a, m, c, k, h.below hb⟩, h.r7.below hb, h.below.trans (hb.mono h.below.size)⟩
theorem rpT_drew (h : RpT w n a m c X) : RpT w n a m c X.drew := ⟨h.r4, h.r7, h.below.drew⟩
theorem rpT_set (h : RpT w n a m c X) (n' : Bool) (a' : Option Addr) (m' c' : Nat) (k' : Int) : RpT w n a m c (((X.setCell ⟨w.heap.size, 0, none⟩ (.bool n')).setCell ⟨w.heap.size, 1, none⟩ (.slice a' m' c')).setCell ⟨w.heap.size, 2, none⟩ (.int .i64 k')) := by
  obtain ⟨⟨n0, a0, m0, c0, k0, h1⟩, h2, h3⟩ := h
  exact ⟨⟨n', a', m', c', k', ((h1.set 0 (.bool n')).set 1 (.slice a' m' c')).set 2 (.int .i64 k')⟩, ((h2.other (show w.heap.size + 1 ≠ w.heap.size by omega) _).other (show w.heap.size + 1 ≠ w.heap.size by omega) _).other (show w.heap.size + 1 ≠ w.heap.size by omega) _, ((h3.setCell (Nat.le_refl _) _).setCell (Nat.le_refl _) _).setCell (Nat.le_refl _) _⟩
theorem rpT_cells (h : RpT w n a m c X) : X.cell? ⟨w.heap.size + 1, 1, none⟩ = some (.slice a m c) ∧ RpT w n a m c X := ⟨h.r7.cell 1, h⟩
end
/-- ahead of a round -/
def RpRel (w : World) (b o : Nat) (l : List UInt8) (v : Value) (W : World) : Prop := ∃ k n a m c, k ≤ l.length ∧ v = .int .i64 ((o + k : Nat) : Int) ∧ RpS w n a m c W ∧ IsInt W (.agg #[.bool n, .slice a m c]) ((numBE b (l.take k) : Nat) : Int)
theorem numBE_take_succ (b : Nat) (l : List UInt8) (k : Nat) (h : k < l.length) : numBE b (l.take (k + 1)) = numBE b (l.take k) * b + digitVal (l[k]'h).toNat := by
  rw [List.take_succ_eq_append_getElem h, numBE_snoc]

set_option maxHeartbeats 4000000 in
set_option exponentiation.threshold 100000 in
set_option maxRecDepth 100000 in
theorem rparse_good (s : ByteArray) (b : Nat) (neg : Bool) (o : Nat) (l : List UInt8) (w : World) (hS : StrIn s neg o l) (ho : o ≤ 1) (h2 : 2 ≤ b) (h36 : b ≤ 36) (hlen : l.length ≤ 400) (hl0 : l ≠ []) (hdig : ∀ c ∈ l, digitVal c.toNat < b) :
    Calls Tryd.prog 49 #[.string s, .int .i64 (b : Int)] w fun e w' => Below w.heap.size w w' ∧ ∃ n a m c, e = .returned (.agg #[.bool n, .slice a m c, .int .i64 0]) ∧ IsInt w' (.agg #[.bool n, .slice a m c]) (sgn neg (numBE b l)) := by
  have b0 := (Below.refl w.heap.size w).alloc (Nat.le_refl _) (.cells #[.bool false, .slice none 0 0, .int .i64 0] 43)
  have r0 := RowAt.new w 43 [.bool false, .slice none 0 0, .int .i64 0]
  have h1 : decide ((b : Int) < 2) = false := decide_eq_false (by omega)
  have h3 : decide (36 < (b : Int)) = false := decide_eq_false (by omega)
  obtain ⟨z, hz⟩ : ∃ z, s.size = z := ⟨_, rfl⟩
  have HS := Lib.hid hS
  have hzl : z = o + l.length := by rw [← hz, hS.size]
  have hpz : (decide ((0 : Int) < (z : Int))) = decide (0 < z) := by simp
  have hcut0 : ∀ W, 0 < z → (Instr.index 9 (.string s) (.int .i64 0)).run Tryd.prog W = .ok (.int .u8 (if neg then 45 else (((l[0]?.getD 0).toNat : Nat) : Int))) W := fun W h => hS.at0 (by omega) W
  have hsg := hS.sign
  generalize (if neg then 45 else (((l[0]?.getD 0).toNat : Nat) : Int)) = c0 at *
  clear hS
  have hoz : o = if neg then 1 else 0 := HS.out.off
  have HB := Lib.hid (And.intro hdig (And.intro hl0 (And.intro hpz hcut0)))
  clear hdig hl0
  go_enter Tryd.func49, Tryd.ntmps49
  go_upto_region 4 with (fail)
  go_cut [23] from 16 to 22 (fun v W => v = .bool neg ∧ W = w.alloc (.cells #[.bool false, .slice none 0 0, .int .i64 0] 43))
  case first =>
    have HZ := Lib.hid hzl
    have HO := Lib.hid hoz
    clear hzl HS hoz
    by_cases h0 : 0 < z
    · have hp0 : decide ((0 : Int) < (z : Int)) = true := decide_eq_true (by omega)
      have hp1 : decide (0 < z) = true := decide_eq_true h0
      have hi := fun W => hcut0 W h0
      clear hcut0 hpz h0
      go_wp2
      go_meet
      exact ⟨rfl, rfl⟩
    · have hp0 : decide ((0 : Int) < (z : Int)) = false := decide_eq_false (by omega)
      have hp1 : decide (0 < z) = false := decide_eq_false h0
      have hn : neg = false := by
        have hZ := HZ.out
        have hO := HO.out
        cases neg
        · rfl
        · simp at hO; omega
      subst hn
      clear hcut0 hpz h0
      go_wp2
      go_meet
      exact ⟨rfl, rfl⟩
  case rest =>
    obtain ⟨rfl, rfl⟩ := hcut
    have HZ := Lib.hid hzl
    have HO := Lib.hid hoz
    have HG := Lib.hid hsg
    clear hzl hcut0 hpz hsg hoz
    go_upto_if 23 with (fail)
    go_cut [5] from 24 to 24 (fun v W => v = .int .i64 (o : Int) ∧ W = w.alloc (.cells #[.bool false, .slice none 0 0, .int .i64 0] 43))
    case first =>
      cases neg
      · obtain rfl : o = 0 := HO.out
        go_wp2
        go_meet
        exact ⟨rfl, rfl⟩
      · obtain rfl : o = 1 := HO.out
        go_wp2
        go_meet
        exact ⟨rfl, rfl⟩
    case rest =>
    obtain ⟨rfl, rfl⟩ := hcut
    have hlp : 0 < l.length := List.length_pos_iff.2 HB.out.2.1
    have hoz : ((o : Int) == (z : Int)) = false := by have := HZ.out; simp; omega
    go_wp2_with fail
    generalize hW0 : w.alloc (.cells #[.bool false, .slice none 0 0, .int .i64 0] 43) = W0 at *
    have HW := Lib.hid hW0
    clear hW0 h1 h3 hoz
    go_loop [6] (fun i => ∃ j : Nat, j ≤ l.length ∧ i = .int .i64 ((o + j : Nat) : Int)) (fun i => z - (intOf i).toNat)
    case atStart => exact ⟨0, Nat.zero_le _, rfl⟩
    case round =>
      obtain ⟨j, hj, rfl⟩ := hrel
      by_cases hjl : j < l.length
      · have hix := fun W => HS.out.idx j hjl W
        obtain ⟨c, hc⟩ : ∃ c, (l[j]'hjl).toNat = c := ⟨_, rfl⟩
        have hc256 : c < 256 := by rw [← hc]; exact (l[j]'hjl).toNat_lt
        rw [hc] at hix
        have hcd : digitVal c < b := by rw [← hc]; exact HB.out.1 _ (List.getElem_mem _)
        have hzb : z < 500 := by have := HZ.out; omega
        have hjz : decide (((o + j : Nat) : Int) < (z : Int)) = true := decide_eq_true (by have := HZ.out; omega)
        obtain ⟨q, hq⟩ : ∃ q, o + j = q := ⟨_, rfl⟩
        rw [hq] at hix hjz ⊢
        have hzq : q < z := by have := HZ.out; omega
        have hjy : decide (q < z) = true := decide_eq_true hzq
        have hdd : decide ((b : Int) ≤ ((rdig c : Nat) : Int)) = false := decide_eq_false (by have := rdig_lt (c := c) h36; omega)
        have hde : decide (b ≤ rdig c) = false := decide_eq_false (by have := rdig_lt (c := c) h36; omega)
        have HJ := Lib.hid (And.intro hq (And.intro hjl (And.intro hzq (And.intro hj hzb))))
        clear hc hq hjl hzq hzb HW HO HB HG HS HZ ho hj h2 hlen hcd b0 r0 hlp
        go_wp2_with (go_at_call 92; refine (rdigit_any c _ hc256).mono ?_; rintro e w2 ⟨rfl, rfl⟩)
        obtain ⟨h5, h6, h7, h8, h9⟩ := HJ.out
        have hw : wrap64 ((q : Int) + 1) = ((q + 1 : Nat) : Int) := by unfold wrap64; omega
        rw [hw]
        refine ⟨⟨j + 1, ?_, ?_⟩, ?_⟩
        · omega
        · rw [← h5]; rfl
        · simp only [intOf, Int.toNat_natCast]; omega
      · obtain rfl : j = l.length := by omega
        have hzz : o + l.length = z := HZ.out.symm
        have hjz : decide ((z : Int) < (z : Int)) = false := decide_eq_false (by omega)
        have hjy : decide (z < z) = false := decide_eq_false (by omega)
        rw [hzz]
        clear hzz hj hjl
        go_wp2_with fail
        go_loop [5] (fun i => ∃ k : Nat, k ≤ l.length ∧ i = .int .i64 ((o + k : Nat) : Int) ∧ numBE b (l.take k) = 0) (fun i => z - (intOf i).toNat)
        case atStart => exact ⟨0, Nat.zero_le _, rfl, rfl⟩
        case round =>
          obtain ⟨k, hk, rfl, hk0⟩ := hrel
          obtain ⟨q, hq⟩ : ∃ q, o + k = q := ⟨_, rfl⟩
          rw [hq]
          clear hjz hjy
          obtain ⟨t, ht⟩ : ∃ t : Bool, t = (decide (k < l.length) && decide ((l[k]?.getD 0).toNat = 48)) := ⟨_, rfl⟩
          go_upto_region 13 with (fail)
          go_cut [52] from 43 to 51 (fun v W => v = .bool t ∧ W = W0)
          case first =>
            by_cases hkl : k < l.length
            · have hix := fun W => HS.out.idx k hkl W
              rw [hq] at hix
              have hjz : decide ((q : Int) < (z : Int)) = true := decide_eq_true (by have := HZ.out; omega)
              have hjy : decide (q < z) = true := decide_eq_true (by have := HZ.out; omega)
              have he : l[k]?.getD 0 = l[k]'hkl := by rw [List.getElem?_eq_getElem hkl]; rfl
              rw [he, decide_eq_true hkl, Bool.true_and] at ht
              obtain ⟨c, hc⟩ : ∃ c, (l[k]'hkl).toNat = c := ⟨_, rfl⟩
              rw [hc] at hix ht
              have hce : ((c : Int) == 48) = t := by rw [ht]; by_cases h : c = 48 <;> simp [h] <;> omega
              clear hc he hkl ht hk hk0 hq HB HS HZ HO HG HW b0 r0 hlp ho h2 hlen
              go_wp2
              go_meet
              exact ⟨rfl, rfl⟩
            · have hjz : decide ((q : Int) < (z : Int)) = false := decide_eq_false (by have := HZ.out; omega)
              have hjy : decide (q < z) = false := decide_eq_false (by have := HZ.out; omega)
              rw [decide_eq_false hkl, Bool.false_and] at ht
              subst ht
              clear hkl hk hk0 hq HB HS HZ HO HG HW b0 r0 hlp ho h2 hlen
              go_wp2
              go_meet
              exact ⟨rfl, rfl⟩
          case rest =>
            obtain ⟨rfl, hwc⟩ := hcut
            replace hwc := hwc.symm
            subst hwc
            cases t with
            | true =>
              obtain ⟨hkl, h48⟩ : k < l.length ∧ (l[k]?.getD 0).toNat = 48 := by simpa using ht.symm
              have HJ := Lib.hid (And.intro hq (And.intro hkl (And.intro h48 (And.intro hk0 (And.intro HZ.out (And.intro hlen ho))))))
              clear ht hkl h48 hk hk0 hq HB HS HZ HO HG HW b0 r0 hlp ho h2 hlen
              go_wp2_with fail
              obtain ⟨h5, h6, h7, h8, h9, h10, h11⟩ := HJ.out
              have hw : wrap64 ((q : Int) + 1) = ((q + 1 : Nat) : Int) := by unfold wrap64; omega
              rw [hw]
              refine ⟨⟨k + 1, ?_, ?_, ?_⟩, ?_⟩
              · omega
              · rw [← h5]; rfl
              · rw [numBE_take_succ b l k h6, h8]
                rw [List.getElem?_eq_getElem h6] at h7
                simp only [Option.getD_some] at h7
                rw [h7]
                simp [digitVal]
              · simp only [intOf, Int.toNat_natCast]; omega
            | false =>
              have b7 := b0.alloc b0.size (.cells #[.bool false, .slice none 0 0] 24)
              have r4 := r0.alloc (.cells #[.bool false, .slice none 0 0] 24)
              have hsz : W0.heap.size = w.heap.size + 1 := by rw [← HW.out]; simp
              have r7 := RowAt.new W0 24 [.bool false, .slice none 0 0]
              rw [hsz] at r7
              have hst : RpRel w b o l (.int .i64 (q : Int)) (W0.alloc (.cells #[.bool false, .slice none 0 0] 24)) := ⟨k, false, none, 0, 0, hk, by rw [hq], ⟨r4, r7, b7⟩, ⟨false, _, [], rfl, Reads.nil _ _, canon_nil, rfl, by rw [hk0]; rfl⟩⟩
              have HT := Lib.hid hst
              clear ht hk hk0 hq hst r4 r7 b7 b0 r0
              go_wp2_with fail
              clear hsz HW
              generalize W0.alloc (.cells #[.bool false, .slice none 0 0] 24) = W1 at *
              go_loopw [8] (fun v W => RpRel w b o l v W) (fun v _ => z - (intOf v).toNat)
              case atStart => exact HT.out
              case round =>
                clear HT
                obtain ⟨k, n, a, m, c, hk, rfl, hR, hI⟩ := hrel
                have hNl : numBE b l < B32 ^ 300 := numBE_bound h36 l HB.out.1 hlen
                have hNk : numBE b (l.take k) < B32 ^ 300 := Nat.lt_of_le_of_lt (numBE_take_le b (by omega) k l) hNl
                by_cases hkl : k < l.length
                · have hix := fun W => HS.out.idx k hkl W
                  have hN1 := numBE_take_succ b l k hkl
                  have hNk1 : numBE b (l.take (k + 1)) < B32 ^ 300 := Nat.lt_of_le_of_lt (numBE_take_le b (by omega) (k + 1) l) hNl
                  obtain ⟨d, hd⟩ : ∃ d, (l[k]'hkl).toNat = d := ⟨_, rfl⟩
                  have hd256 : d < 256 := by rw [← hd]; exact (l[k]'hkl).toNat_lt
                  have hcd : digitVal d < b := by rw [← hd]; exact HB.out.1 _ (List.getElem_mem _)
                  have hrd : rdig d = digitVal d := rdig_eq h36 hcd
                  rw [hd] at hix hN1
                  have hjz : decide (((o + k : Nat) : Int) < (z : Int)) = true := decide_eq_true (by have := HZ.out; omega)
                  have hzq : o + k < z := by have := HZ.out; omega
                  have hjy : decide (o + k < z) = true := decide_eq_true hzq
                  obtain ⟨q, hq⟩ : ∃ q, o + k = q := ⟨_, rfl⟩
                  rw [hq] at hix hjz hjy hzq ⊢
                  have kD : ∀ X, Calls Tryd.prog 92 #[.int .u8 d] X fun e w' => Below X.heap.size X w' ∧ e = .returned (.int .i64 (digitVal d)) := fun X => by
                    refine (rdigit_any d X hd256).mono ?_
                    rintro e w' ⟨rfl, rfl⟩
                    exact ⟨Below.refl _ _, by rw [hrd]⟩
                  generalize digitVal d = dv at *
                  have kB := fun X => rof_int (b : Int) X (by omega) (by omega)
                  have kO := fun X => rof_int (dv : Int) X (by omega) (by omega)
                  generalize hN : numBE b (l.take k) = N at *
                  have bN : (N : Int).natAbs < B32 ^ 90000 := abs_lt_up (by rw [Int.natAbs_natCast]; exact hNk) (show 300 ≤ 90000 by decide)
                  have bb := abs_lt_up (show (b : Int).natAbs < B32 ^ 1 by rw [Int.natAbs_natCast, Nat.pow_one]; unfold B32; omega) (show 1 ≤ 90000 by decide)
                  have kT := fun X v v' (hv : IsInt X v (N : Int)) (hv' : IsInt X v' (b : Int)) => rtimes_int v v' (N : Int) (b : Int) X hv hv' bN bb
                  have bs1 : ((N : Int) * (b : Int)).natAbs < B32 ^ 300 := by
                    rw [← Int.natCast_mul, Int.natAbs_natCast]
                    omega
                  have bs2 : (dv : Int).natAbs < B32 ^ 300 := by
                    rw [Int.natAbs_natCast]
                    omega
                  have kS := fun X v v' (hv : IsInt X v ((N : Int) * (b : Int))) (hv' : IsInt X v' (dv : Int)) => rsum_int v v' ((N : Int) * (b : Int)) (dv : Int) 300 X hv hv' (by omega) bs1 bs2
                  have hE : (N : Int) * (b : Int) + (dv : Int) = ((N * b + dv : Nat) : Int) := by rw [Int.natCast_add, Int.natCast_mul]
                  rw [hE] at kS
                  have HJ := Lib.hid (And.intro hq (And.intro hkl (And.intro hzq (And.intro hN1 (And.intro hlen (And.intro ho HZ.out))))))
                  have h3 : (N * b + dv) < B32 ^ 300 := by omega
                  have HB3 := Lib.hid h3
                  clear hq hkl hzq hN1 hN hNl hNk hNk1 hcd hrd hd bN bb bs1 bs2 hE h3 hk HB HS HZ HO HG hlp ho h2 h36 hlen hd256
                  go_upto_region 19 with (fail)
                  go_cut [] from 63 to 72 (fun W => ∃ n a m c, RpS w n a m c W ∧ IsInt W (.agg #[.bool n, .slice a m c]) ((N * b + dv : Nat) : Int))
                  case first =>
                    have hD : RpE w wr.drew := ⟨hR.r4, ⟨n, a, m, c, hR.r7⟩, hR.below.drew⟩
                    have hr : RowAt wr.drew (w.heap.size + 1) 24 [.bool n, .slice a m c] := hR.r7
                    have z1 := hR.r7.cell 0
                    have z2 := hR.r7.cell 1
                    have z3 := hR.r7.frozen 0
                    have z4 := hR.r7.frozen 1
                    simp only [List.getElem?_cons_zero, List.getElem?_cons_succ] at z1 z2
                    replace hI := hI.keep (fun v xs h => reads_drew h)
                    clear HJ HB3 hR
                    go_region_with
                      (first
                        | (go_at_call 27; with_reducible refine (kB _).mono ?_; rintro e wk ⟨hbc, vB, rfl, hIB⟩; replace hr := hr.below hbc; replace hD := rpE_step hD hbc; clear z1 z2 z3 z4; have z1 := hr.cell 0; have z2 := hr.cell 1; have z3 := hr.frozen 0; have z4 := hr.frozen 1; simp only [List.getElem?_cons_zero, List.getElem?_cons_succ] at z1 z2; replace hI := hI.below hbc; first | (replace hIO := hIO.below hbc) | skip; first | (replace hIT := hIT.below hbc) | skip)
                        | (go_at_call 27; with_reducible refine (kO _).mono ?_; rintro e wk ⟨hbc, vO, rfl, hIO⟩; replace hr := hr.below hbc; replace hD := rpE_step hD hbc; clear z1 z2 z3 z4; have z1 := hr.cell 0; have z2 := hr.cell 1; have z3 := hr.frozen 0; have z4 := hr.frozen 1; simp only [List.getElem?_cons_zero, List.getElem?_cons_succ] at z1 z2; replace hI := hI.below hbc; first | (replace hIB := hIB.below hbc) | skip; first | (replace hIT := hIT.below hbc) | skip)
                        | (go_at_call 92; with_reducible refine (kD _).mono ?_; rintro e wk ⟨hbc, rfl⟩; replace hr := hr.below hbc; replace hD := rpE_step hD hbc; clear z1 z2 z3 z4; have z1 := hr.cell 0; have z2 := hr.cell 1; have z3 := hr.frozen 0; have z4 := hr.frozen 1; simp only [List.getElem?_cons_zero, List.getElem?_cons_succ] at z1 z2; replace hI := hI.below hbc; first | (replace hIB := hIB.below hbc) | skip; first | (replace hIT := hIT.below hbc) | skip)
                        | (go_at_call 45; with_reducible refine (kT _ _ _ hI hIB).mono ?_; rintro e wk ⟨hbc, vT, rfl, hIT⟩; replace hr := hr.below hbc; replace hD := rpE_step hD hbc; clear z1 z2 z3 z4; have z1 := hr.cell 0; have z2 := hr.cell 1; have z3 := hr.frozen 0; have z4 := hr.frozen 1; simp only [List.getElem?_cons_zero, List.getElem?_cons_succ] at z1 z2; replace hI := hI.below hbc; first | (replace hIO := hIO.below hbc) | skip)
                        | (go_at_call 44; with_reducible refine (kS _ _ _ hIT hIO).mono ?_; rintro e wk ⟨hbc, vS, rfl, hIS⟩; obtain ⟨n9, a9, m9, c9, rfl⟩ := hIS.shape; replace hr := hr.below hbc; replace hD := rpE_step hD hbc; clear z1 z2 z3 z4; have z1 := hr.cell 0; have z2 := hr.cell 1; have z3 := hr.frozen 0; have z4 := hr.frozen 1; simp only [List.getElem?_cons_zero, List.getElem?_cons_succ] at z1 z2; replace hI := hI.below hbc))
                    all_goals
                      have hX := rpE_set hD n9 a9 m9 c9
                      go_wp2
                      go_meet
                      exact ⟨n9, a9, m9, c9, ⟨hX.r4, (hr.set 0 (.bool n9)).set 1 (.slice a9 m9 c9), hX.below⟩, hIS.keep fun _ _ hv => two_kept hv z1 z2 _ _⟩
                  case rest =>
                    clear hI hR
                    obtain ⟨n, a, m, c, hR, hI⟩ := hcut
                    have hm := (isInt_size hI 300).2 (by rw [Int.natAbs_natCast]; exact HB3.out)
                    have hm1 : decide ((300 : Int) < (m : Int)) = false := decide_eq_false (by omega)
                    have hm2 : decide (300 < m) = false := decide_eq_false (by omega)
                    have x1 := hR.r7.cell 0
                    have x2 := hR.r7.cell 1
                    simp only [List.getElem?_cons_zero, List.getElem?_cons_succ] at x1 x2
                    have HW := Lib.hid (And.intro hR hI)
                    clear hm hR hI kD kB kO kT kS HB3 hix hjy hjz
                    go_wp2_with fail
                    go_roundw
                    case rel =>
                      obtain ⟨h5, h6, h7, h8, h9, h10, h11⟩ := HJ.out
                      refine ⟨k + 1, n, a, m, c, h6, ?_, HW.out.1, by rw [h8]; exact HW.out.2⟩
                      rw [← h5]
                      have hw : wrap64 (((o + k : Nat) : Int) + 1) = ((o + (k + 1) : Nat) : Int) := by unfold wrap64; omega
                      rw [hw]
                    case measure =>
                      obtain ⟨h5, h6, h7, h8, h9, h10, h11⟩ := HJ.out
                      have hw : wrap64 ((q : Int) + 1) = ((q + 1 : Nat) : Int) := by unfold wrap64; omega
                      rw [hw]
                      simp only [intOf, Int.toNat_natCast]
                      omega
                · obtain rfl : k = l.length := by omega
                  have hzz : o + l.length = z := HZ.out.symm
                  have hjz : decide ((z : Int) < (z : Int)) = false := decide_eq_false (by omega)
                  have hjy : decide (z < z) = false := decide_eq_false (by omega)
                  rw [hzz]
                  rw [List.take_length] at hI
                  have hz0 : 0 < z := by omega
                  have hi0 := fun W => HB.out.2.2.2 W hz0
                  have hsg := HG.out
                  obtain ⟨xs, hx, hkx, hvx⟩ := isInt_list hI
                  obtain ⟨a', c', e', -, -⟩ := hx.form
                  cases e'
                  rw [Int.natAbs_natCast] at hvx
                  have hll := canon_length_le hkx (by rw [hvx]; exact hNl)
                  have kM := made_any neg (.slice a xs.length c) xs wr.drew (reads_drew hx) hkx.1 (by omega)
                  rw [hvx] at kM
                  clear hzz hkl hk hNl hNk HB HS HZ HO HG hlp ho h2 h36 hlen hI hx hkx hvx hll
                  go_upto_region 22 with (fail)
                  have hT : RpT w n a xs.length c wr := ⟨⟨_, _, _, _, _, hR.r4⟩, hR.r7, hR.below⟩
                  have hD := Lib.hid (rpT_cells (rpT_drew hT))
                  have hr4 : RowAt wr.drew w.heap.size 43 [.bool false, .slice none 0 0, .int .i64 0] := hR.r4
                  have hbw : Below w.heap.size w wr.drew := hR.below.drew
                  have z2 := hR.r7.cell 1
                  simp only [List.getElem?_cons_zero, List.getElem?_cons_succ] at z2
                  clear hR hT
                  go_region_held3 (fun X => X.cell? ⟨w.heap.size + 1, 1, none⟩ = some (.slice a xs.length c) ∧ RpT w n a xs.length c X)
                    (first | assumption | exact hD.out | (go_split_ands; exact rpT_cells (rpT_step (by assumption) hbc)) | (go_split_ands; exact rpT_cells (rpT_set (by assumption) _ _ _ _ _)))
                    (first
                      | (go_at_call 65; with_reducible refine kM.mono ?_; rintro e wk ⟨hbc, vM, rfl, hIM⟩; obtain ⟨n5, a5, m5, c5, rfl⟩ := hIM.shape; have q4 := hr4.below hbc; have b9 := hbw.trans (hbc.mono hbw.size); have s1 := q4.cell 0; have s2 := q4.cell 1; have s3 := q4.cell 2; have s4 := q4.frozen 0; have s5 := q4.frozen 1; have s6 := q4.frozen 2; simp only [List.getElem?_cons_zero, List.getElem?_cons_succ] at s1 s2 s3))
                  go_wp2
                  have q5 := ((q4.set 0 (.bool n5)).set 1 (.slice a5 m5 c5)).set 2 (.int .i64 0)
                  have u1 := q5.cell 0
                  have u2 := q5.cell 1
                  have u3 := q5.cell 2
                  simp only [List.set_cons_zero, List.set_cons_succ, List.getElem?_cons_zero, List.getElem?_cons_succ] at u1 u2 u3
                  exact bodyPost_ret (v := .agg #[.bool n5, .slice a5 m5 c5, .int .i64 0]) (by simp [results, Tryd.results49, go_sem, loadCellsFrom, u1, u2, u3]) rfl ⟨((b9.setCell (Nat.le_refl _) _).setCell (Nat.le_refl _) _).setCell (Nat.le_refl _) _, n5, a5, m5, c5, rfl, hIM.keep (row3_keep q4 _ _ _)⟩
theorem rparse_any (s : ByteArray) (base : Int) (neg : Bool) (l : List UInt8) (w : World) (hin : ParseIn s neg l) (hlen : l.length ≤ 400) :
    Calls Tryd.prog 49 #[.string s, .int .i64 base] w fun e w' => Below w.heap.size w w' ∧ ∃ n a m c k, e = .returned (.agg #[.bool n, .slice a m c, .int .i64 k]) ∧ ParseOut base neg l k w' (.agg #[.bool n, .slice a m c]) := by
  by_cases hb : 2 ≤ base ∧ base ≤ 36
  · obtain ⟨b, rfl⟩ := Int.eq_ofNat_of_zero_le (show 0 ≤ base by omega)
    obtain ⟨o, ho, hS⟩ := strIn_of hin
    by_cases hbad : l = [] ∨ ¬ ∀ c ∈ l, digitVal c.toNat < b
    · refine (rparse_bad s b neg o l w hS ho (by omega) (by omega) hlen hbad).mono ?_
      rintro e w' ⟨h1, rfl⟩
      refine ⟨h1, false, none, 0, 0, 2, rfl, ?_⟩
      unfold ParseOut
      rw [if_pos hb, Int.toNat_natCast, if_pos hbad]
      exact ⟨rfl, rfl⟩
    · have h1 : l ≠ [] := fun h => hbad (.inl h)
      have h2 : ∀ c ∈ l, digitVal c.toNat < b := Classical.byContradiction fun h => hbad (.inr h)
      refine (rparse_good s b neg o l w hS ho (by omega) (by omega) hlen h1 h2).mono ?_
      rintro e w' ⟨g1, n, a, m, c, rfl, hI⟩
      refine ⟨g1, n, a, m, c, 0, rfl, ?_⟩
      unfold ParseOut
      rw [if_pos hb, Int.toNat_natCast, if_neg hbad]
      exact ⟨rfl, hI⟩
  · refine (rparse_base s base w (by omega)).mono ?_
    rintro e w' ⟨h1, rfl⟩
    refine ⟨h1, false, none, 0, 0, 1, rfl, ?_⟩
    unfold ParseOut
    rw [if_neg hb]
    exact ⟨rfl, rfl⟩

end Go.Proofs.YtlghjfpkfdnfoaaDoor

/- zermelolaw01.NumTexts -/
namespace Go.Proofs.YtlghjfpkfdnfoaaDoor
open Go Go.RowKit Go.Shelf

theorem bytes_map_ext {s t : ByteArray} (h : s.data.toList.map (·.toNat) = t.data.toList.map (·.toNat)) : s = t :=
  bytes_ext ((List.map_inj_right (f := fun (x : UInt8) => x.toNat) (fun _ _ e => UInt8.toNat_inj.1 e)).1 h)
theorem textOut_eq {f n : Bool} {b k k' : Int} {A : Nat} {s s' : ByteArray} (h : TextOut f n b A k (.string s)) (h' : TextOut f n b A k' (.string s')) : k = k' ∧ s = s' := by
  unfold TextOut at h h'
  by_cases hc : f = true ∧ 2 ≤ b ∧ b ≤ 36
  · rw [if_pos hc] at h h'
    obtain ⟨rfl, t, e, ht⟩ := h
    obtain ⟨rfl, t', e', ht'⟩ := h'
    cases e
    cases e'
    exact ⟨rfl, bytes_map_ext (ht.trans ht'.symm)⟩
  · rw [if_neg hc] at h h'
    obtain ⟨rfl, e⟩ := h
    obtain ⟨rfl, e'⟩ := h'
    cases e
    cases e'
    exact ⟨rfl, rfl⟩

set_option maxHeartbeats 1000000 in
set_option maxRecDepth 100000 in
/-- an answer of Parse and the specification's -/
theorem got_parse (n : Bool) (a : Option Addr) (m c : Nat) (k : Int) (n' : Bool) (a' : Option Addr) (m' c' : Nat) (k' : Int) (base : Int) (neg : Bool) (l : List UInt8) (w w0 : World) (hk : ∀ v xs, Reads .u32 w0 v xs → Reads .u32 w v xs) (h : ParseOut base neg l k w0 (.agg #[.bool n, .slice a m c])) (h' : ParseOut base neg l k' w (.agg #[.bool n', .slice a' m' c'])) :
    Calls Tryd.prog 31 #[.agg #[.bool n, .slice a m c], .int .i64 k, .agg #[.bool n', .slice a' m' c', .int .i64 k']] w fun e w' => Below w.heap.size w w' ∧ e = .returned (.bool true) := by
  have hz : ∀ v, v = zeroInt → IsInt w v 0 := by
    rintro v rfl
    exact ⟨false, _, [], rfl, Reads.nil _ _, canon_nil, rfl, by simp [sgn, val]⟩
  obtain ⟨i, rfl, hi, hi'⟩ : ∃ i, k = k' ∧ IsInt w (.agg #[.bool n, .slice a m c]) i ∧ IsInt w (.agg #[.bool n', .slice a' m' c']) i := by
    unfold ParseOut at h h'
    by_cases c1 : 2 ≤ base ∧ base ≤ 36
    · rw [if_pos c1] at h h'
      by_cases c2 : l = [] ∨ ¬ ∀ c ∈ l, digitVal c.toNat < base.toNat
      · rw [if_pos c2] at h h'
        exact ⟨0, h.1.trans h'.1.symm, hz _ h.2, hz _ h'.2⟩
      · rw [if_neg c2] at h h'
        exact ⟨_, h.1.trans h'.1.symm, h.2.keep hk, h'.2⟩
    · rw [if_neg c1] at h h'
      exact ⟨0, h.1.trans h'.1.symm, hz _ h.2, hz _ h'.2⟩
  have KS := fun X (hX : Below w.heap.size w X) => rsame_eq _ _ i X (hi.below hX) (hi'.below hX)
  clear h h' hz
  have b1 := (Below.refl w.heap.size w).alloc (Nat.le_refl _) (.cells #[.bool n, .slice a m c] 24)
  have bw := b1.alloc b1.size (.cells #[.bool n', .slice a' m' c', .int .i64 k] 43)
  go_enter Tryd.func31, Tryd.ntmps31
  go_wp2_with (go_at_call 25; refine (KS _ bw).mono ?_; rintro e w1 ⟨hb1, rfl⟩)
  go_ret
  exact ⟨bw.trans (hb1.mono bw.size), rfl⟩

/-- the variables of NumTexts -/
structure TtL (w w1 : World) (b9 : Nat) (s : ByteArray) (k : Int) (b10 : Nat) (n : Bool) (a : Option Addr) (m c : Nat) (X : World) : Prop where
  r9 : RowAt X b9 61 [.string s, .int .i64 k]
  r10 : RowAt X b10 24 [.bool n, .slice a m c]
  below : Below w.heap.size w X
  more : Below w1.heap.size w1 X
section
variable {w w1 X X' : World} {b9 b10 : Nat} {s : ByteArray} {k : Int} {n : Bool} {a : Option Addr} {m c : Nat}
theorem ttl_of (h : TtL w w1 b9 s k b10 n a m c X) : X.cell? ⟨b9, 0, none⟩ = some (.string s) ∧ X.cell? ⟨b9, 1, none⟩ = some (.int .i64 k) ∧ X.cell? ⟨b10, 0, none⟩ = some (.bool n) ∧ X.cell? ⟨b10, 1, none⟩ = some (.slice a m c) ∧ TtL w w1 b9 s k b10 n a m c X := ⟨h.r9.cell 0, h.r9.cell 1, h.r10.cell 0, h.r10.cell 1, h⟩
theorem ttl_step (h : TtL w w1 b9 s k b10 n a m c X) (hb : Below X.heap.size X X') : TtL w w1 b9 s k b10 n a m c X' := ⟨h.r9.below hb, h.r10.below hb, h.below.trans (hb.mono h.below.size), h.more.trans (hb.mono h.more.size)⟩
theorem ttl_drew (h : TtL w w1 b9 s k b10 n a m c X) : TtL w w1 b9 s k b10 n a m c X.drew := ⟨h.r9, h.r10, h.below.drew, h.more.drew⟩
end

set_option maxHeartbeats 4000000 in
set_option maxRecDepth 100000 in
theorem texts_any (va : Value) (na : Bool) (xa : List Nat) (base : Int) (s : ByteArray) (w : World) (ha : IntAt w va na xa) (hT : DigitsAt w) :
    Calls Tryd.prog 8 #[va, .int .i64 base, .string s] w fun e w' => Below w.heap.size w w' ∧ e = .returned (.bool true) := by
  have HA := fun X (hX : Below w.heap.size w X) => ha.below hX
  obtain ⟨sa, rfl, hra, hla⟩ := ha
  obtain ⟨aa, ca, rfl, hca, hma⟩ := hra.form
  obtain ⟨neg, l, hin⟩ := parseIn_ex s
  have hbe := (Below.refl w.heap.size w).alloc (Nat.le_refl _) (.cells #[.bool na, .slice aa xa.length ca] 24)
  have r1 := RowAt.new w 24 [.bool na, .slice aa xa.length ca]
  generalize hw1 : w.alloc (.cells #[.bool na, .slice aa xa.length ca] 24) = wc at *
  have HW := Lib.hid hw1
  have d1 := r1.cell 0
  have d2 := r1.cell 1
  simp only [List.getElem?_cons_zero, List.getElem?_cons_succ] at d1 d2
  have hnew := RowAt.new wc 24 [.bool na, .slice aa xa.length ca]
  have hB : Below wc.heap.size wc (wc.alloc (.cells #[.bool na, .slice aa xa.length ca] 24)) := (Below.refl _ _).alloc (Nat.le_refl _) _
  have hf := few_list [(na, .slice aa xa.length ca, xa)] 60 wc.heap.size _ hnew (by simp) (by
    intro it hit
    simp only [List.mem_cons, List.not_mem_nil, or_false] at hit
    subst hit
    exact ⟨(hra.below hbe).below hB, hla⟩)
  simp only [List.length_cons, List.length_nil] at hf
  have hsz := hbe.size
  have hB2 := hbe.trans (hB.mono hsz)
  have DT := fun X (hX : Below w.heap.size w X) => hT.below hX
  clear hra hla hca hma hnew hw1
  go_enter Tryd.func8, Tryd.ntmps8
  go_upto_region 1 with (fail)
  rw [HW.out]
  by_cases hgo : List.all [(na, Value.slice aa xa.length ca, xa)] (fewB 60) = true ∧ s.size ≤ 400
  · obtain ⟨hall, hs4⟩ := hgo
    rw [hall] at hf
    have hs5 : decide ((400 : Int) < (s.size : Int)) = false := decide_eq_false (by omega)
    have hs6 : decide (400 < s.size) = false := decide_eq_false (by omega)
    have hlen : l.length ≤ 400 := by
      have := size_toList s
      rw [hin.bytes] at this
      simp at this
      omega
    have kP := fun X => Parse_any s base neg l X hin hlen
    have kR := fun X => rparse_any s base neg l X hin hlen
    clear hall hin hlen hs4
    go_upto_region 3 with (go_at_call 15; refine hf.mono ?_; rintro e w2 ⟨hb2, rfl⟩)
    have B3 := hB2.trans (hb2.mono hB2.size)
    have R3 := r1.below (hB.trans (hb2.mono hB.size))
    have e1 := R3.cell 0
    have e2 := R3.cell 1
    simp only [List.getElem?_cons_zero, List.getElem?_cons_succ] at e1 e2
    have kT := Text_any _ na xa base w2 (HA w2 B3) (DT w2 B3)
    have kU := fun X (hX : Below w.heap.size w X) => rtext_any _ na xa base X (HA X hX)
    clear hf hs5 hs6 d1 d2 r1 hB hb2 hB2 hbe HW hsz HA hT
    go_upto_region 5 with (first
      | (go_at_call 46; with_reducible refine kT.mono ?_; rintro e w3 ⟨hb3, s1, k1, rfl, ht1⟩; have B4 := B3.trans (hb3.mono B3.size); have R4 := R3.below hb3; have e3 := R4.cell 0; have e4 := R4.cell 1; simp only [List.getElem?_cons_zero, List.getElem?_cons_succ] at e3 e4)
      | (go_at_call 47; with_reducible refine (kU _ B4).mono ?_; rintro e w4 ⟨hb4, s2, k2, rfl, ht2⟩))
    obtain ⟨rfl, rfl⟩ := textOut_eq ht1 ht2
    have B5 := B4.trans (hb4.mono B4.size)
    have hal9 := (Below.refl w4.heap.size w4).alloc (Nat.le_refl _) (.cells #[.string s1, .int .i64 k1] 61)
    have B6 := B5.trans (hal9.mono B5.size)
    have R9 := RowAt.new w4 61 [.string s1, .int .i64 k1]
    clear kT kU e1 e2 e3 e4 R3 R4 hb3 hb4 B3 B4 B5 hal9 ht1 ht2
    generalize w4.alloc (.cells #[.string s1, .int .i64 k1] 61) = w5 at *
    generalize w4.heap.size = b9 at *
    go_upto_region 6 with (go_at_call 48; with_reducible refine (kP _).mono ?_; rintro e w6 ⟨hb6, n5, a5, m5, c5, k5, rfl, hP⟩)
    have hal10 := (Below.refl w6.heap.size w6).alloc (Nat.le_refl _) (.cells #[.bool n5, .slice a5 m5 c5] 24)
    have B7 := (B6.trans (hb6.mono B6.size)).trans (hal10.mono (B6.trans (hb6.mono B6.size)).size)
    have R10 := RowAt.new w6 24 [.bool n5, .slice a5 m5 c5]
    have R99 := (R9.below hb6).below hal10
    have hPk : ∀ v xs, Reads .u32 w6 v xs → Reads .u32 (w6.alloc (.cells #[.bool n5, .slice a5 m5 c5] 24)) v xs := fun _ _ h => h.below hal10
    have DG := DT _ B7
    clear R9 B6 hb6 hal10 DT kP
    generalize w6.alloc (.cells #[.bool n5, .slice a5 m5 c5] 24) = w7 at *
    have hL : TtL w w7 b9 s1 k1 w6.heap.size n5 a5 m5 c5 w7 := ⟨R99, R10, B7, Below.refl _ _⟩
    have hD := Lib.hid (ttl_of (ttl_drew hL))
    have kS := fun X (hX : TtL w w7 b9 s1 k1 w6.heap.size n5 a5 m5 c5 X) => sane_any X (DG.below hX.more)
    have kG := fun X n p m c k (hX : TtL w w7 b9 s1 k1 w6.heap.size n5 a5 m5 c5 X) (h : ParseOut base neg l k X (.agg #[.bool n, .slice p m c])) => got_parse n5 a5 m5 c5 k5 n p m c k base neg l X w6 (fun v xs hr => (hPk v xs hr).below hX.more) hP h
    clear R99 R10 B7 hPk DG hL hP
    generalize w6.heap.size = b10 at *
    go_region_held3 (fun X => X.cell? ⟨b9, 0, none⟩ = some (.string s1) ∧ X.cell? ⟨b9, 1, none⟩ = some (.int .i64 k1) ∧ X.cell? ⟨b10, 0, none⟩ = some (.bool n5) ∧ X.cell? ⟨b10, 1, none⟩ = some (.slice a5 m5 c5) ∧ TtL w w7 b9 s1 k1 b10 n5 a5 m5 c5 X)
      (first | exact hD.out | (go_split_ands; exact ttl_of (ttl_step (by assumption) hbc)))
      (first
        | (go_at_call 16; go_split_ands; with_reducible refine (kS _ (by assumption)).mono ?_; rintro e wk ⟨hbc, rfl⟩)
        | (go_at_call 49; go_split_ands; with_reducible refine (kR _).mono ?_; rintro e wk ⟨hbc, nA, pA, mA, cA, kkA, rfl, hA⟩)
        | (go_at_call 31; go_split_ands; with_reducible refine (kG _ _ _ _ _ _ (by assumption) hA).mono ?_; rintro e wk ⟨hbc, rfl⟩))
    rename_i hX
    obtain ⟨-, -, -, -, O1⟩ := hX
    go_wp2
    go_ret
    exact ⟨O1.below, rfl⟩
  · clear hin l neg HA
    cases hall : List.all [(na, Value.slice aa xa.length ca, xa)] (fewB 60) with
    | false =>
      rw [hall] at hf
      clear hall hgo
      go_wp2_with (first
        | (go_at_call 15; refine hf.mono ?_; rintro e w2 ⟨hb2, rfl⟩; have B3 := hB2.trans (hb2.mono hB2.size))
        | (go_at_call 16; refine (sane_any _ (DT _ B3)).mono ?_; rintro e w3 ⟨hb3, rfl⟩))
      go_ret
      exact ⟨B3.trans (hb3.mono B3.size), rfl⟩
    | true =>
      rw [hall] at hf hgo
      have hs4 : 400 < s.size := by
        apply Classical.byContradiction
        intro h
        exact hgo ⟨rfl, by omega⟩
      have hs5 : decide ((400 : Int) < (s.size : Int)) = true := decide_eq_true (by omega)
      have hs6 : decide (400 < s.size) = true := decide_eq_true hs4
      clear hall hgo hs4
      go_wp2_with (first
        | (go_at_call 15; refine hf.mono ?_; rintro e w2 ⟨hb2, rfl⟩; have B3 := hB2.trans (hb2.mono hB2.size))
        | (go_at_call 16; refine (sane_any _ (DT _ B3)).mono ?_; rintro e w3 ⟨hb3, rfl⟩))
      go_ret
      exact ⟨B3.trans (hb3.mono B3.size), rfl⟩
end Go.Proofs.YtlghjfpkfdnfoaaDoor
