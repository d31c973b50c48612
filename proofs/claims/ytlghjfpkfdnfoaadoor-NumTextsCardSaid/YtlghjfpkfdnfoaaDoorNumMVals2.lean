/- zermeloref01.sum, zermeloref01.less -/
import Derived.Test.YtlghjfpkfdnfoaaDoorNumMRefBits
import Derived.Test.YtlghjfpkfdnfoaaDoorNumMTextApi
import Derived.Test.YtlghjfpkfdnfoaaDoorNumMRing2
import Derived.Test.YtlghjfpkfdnfoaaDoorNumMDivideSmall
import Derived.Test.YtlghjfpkfdnfoaaDoorNumMOrder
import Derived.Deep.CutRange
import Derived.Test.YtlghjfpkfdnfoaaDoorNumMSub
namespace Go.Proofs.YtlghjfpkfdnfoaaDoor
open Go Go.RowKit Go.Shelf

/-- between two rounds -/
def RsInv (w : World) (xa xb : List Nat) (s c i : Value) (W : World) : Prop := ∃ k : Nat, k ≤ max xa.length xb.length + 1 ∧ i = .int .i64 (k : Int) ∧ c = .int .u64 ((plusFold xa (limbPairs xb k)).2 : Int) ∧
  W.ownsRow w.heap.size 72 1 s k (enc32 (plusFold xa (limbPairs xb k)).1) ∧ (k = max xa.length xb.length + 1 → (plusFold xa (limbPairs xb k)).2 = 0) ∧ Below w.heap.size w W

set_option maxHeartbeats 4000000 in
set_option maxRecDepth 100000 in
theorem rsum_any (va vb : Value) (xa xb : List Nat) (w : World) (ha : Reads .u32 w va xa) (hb : Reads .u32 w vb xb) (hla : Limbs xa) (hlb : Limbs xb) (na : xa.length ≤ 100000) (nb : xb.length ≤ 100000) :
    Calls Tryd.prog 84 #[va, vb] w fun e w' => Below w.heap.size w w' ∧ ∃ v cs, e = .returned v ∧ Reads .u32 w' v cs ∧ Limbs cs ∧ val cs = val xa + val xb ∧ cs.length ≤ max xa.length xb.length + 1 := by
  obtain ⟨aa, ca, rfl, hca, hma⟩ := ha.form
  obtain ⟨ab, cb, rfl, hcb, hmb⟩ := hb.form
  obtain ⟨inf, hi, hzz⟩ := Option.map_eq_some_iff.1 info_limb
  simp only [Prod.mk.injEq] at hzz
  have HZ := Lib.hid hzz
  clear hzz
  have hpl : ∀ k, ∀ p ∈ limbPairs xb k, p.2 < B32 := fun k p hp => by
    obtain ⟨i, _, rfl⟩ := List.mem_map.1 hp
    exact limb_getD hlb i
  have hstart : RsInv w xa xb (.slice none 0 0) (.int .u64 0) (.int .i64 0) w := ⟨0, Nat.zero_le _, rfl, by simp [plusFold, limbPairs], by simpa [plusFold, limbPairs, enc32] using World.ownsRow_nil w w.heap.size 72 1, fun h => by omega, Below.refl _ _⟩
  have HS := Lib.hid hstart
  clear hstart
  go_enter Tryd.func84, Tryd.ntmps84
  go_wp2_with fail
  go_loopw [5, 6, 7] (fun s c i wr => RsInv w xa xb s c i wr) (fun _ _ i _ => max xa.length xb.length + 1 - (intOf i).toNat)
  case atStart => exact HS.out
  case round =>
    obtain ⟨k, hk, rfl, rfl, hown, hlast, hbe⟩ := hrel
    obtain ⟨sa, sc, rfl⟩ := own_form hown
    obtain ⟨hr1, hc1⟩ := plusFold_limbs hla (limbPairs xb k) (hpl k)
    have hval := plusFold_val xa xb k
    have hnext := plusFold_snoc xa (limbPairs xb k) (k, xb[k]?.getD 0)
    have hlr := plusFold_length xa (limbPairs xb k)
    rw [limbPairs_length] at hlr
    rw [← limbPairs_succ] at hnext
    have hA := ha.below hbe
    have hB := hb.below hbe
    have hsz := hbe.size
    obtain ⟨st, hst⟩ : ∃ st, plusFold xa (limbPairs xb k) = st := ⟨_, rfl⟩
    rw [hst] at hown hlast hr1 hc1 hval hnext hlr ⊢
    obtain ⟨r, c⟩ := st
    simp only [plusStep] at hnext
    dsimp only at *
    have HLR := Lib.hid hlr
    clear hst hlr
    by_cases hx : k < xa.length ∨ k < xb.length ∨ c ≠ 0
    · have hkn : k < max xa.length xb.length + 1 := by
        rcases Nat.lt_or_ge k (max xa.length xb.length + 1) with h | h
        · exact h
        · have : c = 0 := hlast (by omega)
          omega
      have hend : k + 1 = max xa.length xb.length + 1 → xa[k]?.getD 0 = 0 ∧ xb[k]?.getD 0 = 0 := fun h => by
        rw [List.getElem?_eq_none (show xa.length ≤ k by omega), List.getElem?_eq_none (show xb.length ≤ k by omega)]; exact ⟨rfl, rfl⟩
      have lA := limb_any (.slice aa xa.length ca) xa k wr hA hla
      have lB := limb_any (.slice ab xb.length cb) xb k wr hB hlb
      have hxB := limb_getD hla k
      have hyB := limb_getD hlb k
      generalize xa[k]?.getD 0 = x at *
      generalize xb[k]?.getD 0 = y at *
      obtain ⟨T, hT⟩ : ∃ T, c + (x + y) = T := ⟨_, rfl⟩
      rw [hT] at hnext
      unfold B32 at hxB hyB
      have hs1 : IntKind.u64.wrap ((x : Int) + (y : Int)) = (x : Int) + (y : Int) := by rw [IntKind.wrap_u64]; omega
      have hs2 : IntKind.u64.wrap ((x : Int) + (y : Int) + (c : Int)) = (T : Int) := by rw [IntKind.wrap_u64]; omega
      obtain ⟨cl, hcl⟩ : ∃ cl, T % B32 = cl := ⟨_, rfl⟩
      obtain ⟨ch, hch⟩ : ∃ ch, T / B32 = ch := ⟨_, rfl⟩
      have hmd : (T : Int) % 4294967296 = (cl : Int) := by rw [← hcl]; unfold B32; omega
      have hdv : (T : Int) / 4294967296 = (ch : Int) := by rw [← hch]; unfold B32; omega
      have hwc : IntKind.u64.wrap (ch : Int) = (ch : Int) := by rw [IntKind.wrap_u64, ← hch]; unfold B32; omega
      have hclb : cl < 4294967296 := by rw [← hcl]; exact Nat.mod_lt _ (by decide)
      have hwl : IntKind.u32.wrap (cl : Int) = (cl : Int) := by rw [IntKind.wrap_u32']; omega
      rw [hcl, hch] at hnext
      have hch0 : k + 1 = max xa.length xb.length + 1 → ch = 0 := fun h => by
        obtain ⟨rfl, rfl⟩ := hend h
        rw [← hch]; unfold B32; omega
      clear hend hcl hch hlast hval
      have HN := Lib.hid (And.intro hnext hch0)
      have HT := Lib.hid hT
      clear hnext hch0 hT
      have hxc := hx
      clear hx
      have fin : ∀ w5 v', w5.ownsRow w.heap.size 72 1 v' (k + 1) (enc32 r ++ [.int .u32 (cl : Int)]) → Below w.heap.size w w5 → RsInv w xa xb v' (.int .u64 (ch : Int)) (.int .i64 ((k : Int) + 1)) w5 := fun w5 v' h1 h2 => by
        refine ⟨k + 1, by omega, by go_num, ?_, ?_, ?_, h2⟩
        · rw [HN.out.1]
        · rw [HN.out.1, enc32_snoc]; exact h1
        · rw [HN.out.1]; exact HN.out.2
      by_cases h1 : k < xa.length
      · have hg : decide ((k : Int) < (xa.length : Int)) = true := by simp; omega
        go_wp2_with (first
          | (go_at_call 62; (first | with_reducible refine lA.mono ?_ | with_reducible refine lB.mono ?_); rintro e w2 ⟨rfl, rfl⟩)
          | (at_builtin; refine wpList_append_own _ rfl _ _ 22 rfl w.heap.size 72 inf (.int .u32 0) 1 4 und_limbs hi HZ.out.1 HZ.out.2.1 HZ.out.2.2 rfl (by decide) _ _ _ rfl (hown.alloc _) ⟨wr.heap.size, 0, none⟩ 1 1 [.int .u32 (cl : Int)] rfl rfl (cell_new_plain _ _ _ _ rfl) (by simp [Value.oneCell']) (by unfold maxLen; omega) (by omega) (by simp; omega) ?_; intro v' w5 hown' hgrow _))
        have hbn : Below w.heap.size w w5 := hbe.trans (((Below.refl _ wr).alloc hsz _).grown hgrow (by simp; omega) (fun k e => by have := (hown.lt k e).1; omega))
        have hf := fin w5 v' hown' hbn
        refine ⟨hf, ?_⟩
        simp [intOf]
        omega
      · by_cases h2 : k < xb.length
        · go_wp2_with (first
            | (go_at_call 62; (first | with_reducible refine lA.mono ?_ | with_reducible refine lB.mono ?_); rintro e w2 ⟨rfl, rfl⟩)
            | (at_builtin; refine wpList_append_own _ rfl _ _ 22 rfl w.heap.size 72 inf (.int .u32 0) 1 4 und_limbs hi HZ.out.1 HZ.out.2.1 HZ.out.2.2 rfl (by decide) _ _ _ rfl (hown.alloc _) ⟨wr.heap.size, 0, none⟩ 1 1 [.int .u32 (cl : Int)] rfl rfl (cell_new_plain _ _ _ _ rfl) (by simp [Value.oneCell']) (by unfold maxLen; omega) (by omega) (by simp; omega) ?_; intro v' w5 hown' hgrow _))
          have hbn : Below w.heap.size w w5 := hbe.trans (((Below.refl _ wr).alloc hsz _).grown hgrow (by simp; omega) (fun k e => by have := (hown.lt k e).1; omega))
          have hf := fin w5 v' hown' hbn
          refine ⟨hf, ?_⟩
          simp [intOf]
          omega
        · have h3 : ¬ c = 0 := by omega
          go_wp2_with (first
            | (go_at_call 62; (first | with_reducible refine lA.mono ?_ | with_reducible refine lB.mono ?_); rintro e w2 ⟨rfl, rfl⟩)
            | (at_builtin; refine wpList_append_own _ rfl _ _ 22 rfl w.heap.size 72 inf (.int .u32 0) 1 4 und_limbs hi HZ.out.1 HZ.out.2.1 HZ.out.2.2 rfl (by decide) _ _ _ rfl (hown.alloc _) ⟨wr.heap.size, 0, none⟩ 1 1 [.int .u32 (cl : Int)] rfl rfl (cell_new_plain _ _ _ _ rfl) (by simp [Value.oneCell']) (by unfold maxLen; omega) (by omega) (by simp; omega) ?_; intro v' w5 hown' hgrow _))
          have hbn : Below w.heap.size w w5 := hbe.trans (((Below.refl _ wr).alloc hsz _).grown hgrow (by simp; omega) (fun k e => by have := (hown.lt k e).1; omega))
          have hf := fin w5 v' hown' hbn
          refine ⟨hf, ?_⟩
          simp [intOf]
          omega
    · have h1 : ¬ k < xa.length := fun h => hx (.inl h)
      have h2 : ¬ k < xb.length := fun h => hx (.inr (.inl h))
      obtain rfl : c = 0 := Classical.byContradiction fun h => hx (.inr (.inr h))
      have hrd : Reads .u32 wr (.slice sa k sc) r := Reads.ofOwn hown
      have hv : val r = val xa + val xb := by
        rw [List.take_of_length_le (by omega), List.take_of_length_le (by omega), Nat.mul_zero, Nat.add_zero] at hval
        exact hval
      have HV := Lib.hid hv
      clear hv hval hnext hlast hx
      go_wp2
      go_ret
      exact ⟨hbe, _, r, rfl, hrd, hr1, HV.out, by rw [HLR.out]; exact hk⟩

/-- between two rounds -/
def RlInv (w : World) (xa xb : List Nat) (s c i : Value) (W : World) : Prop := ∃ k : Nat, k ≤ xa.length ∧ i = .int .i64 (k : Int) ∧ c = .int .u64 ((minusFold xa (limbPairs xb k)).2 : Int) ∧
  W.ownsRow w.heap.size 72 1 s k (enc32 (minusFold xa (limbPairs xb k)).1) ∧ Below w.heap.size w W

set_option maxHeartbeats 4000000 in
set_option maxRecDepth 100000 in
theorem rless_any (va vb : Value) (xa xb : List Nat) (w : World) (ha : Reads .u32 w va xa) (hb : Reads .u32 w vb xb) (hla : Limbs xa) (hlb : Limbs xb) (na : xa.length ≤ 100000) (hll : xb.length ≤ xa.length) (hle : val xb ≤ val xa) :
    Calls Tryd.prog 85 #[va, vb] w fun e w' => Below w.heap.size w w' ∧ ∃ v cs, e = .returned v ∧ Reads .u32 w' v cs ∧ Limbs cs ∧ val cs = val xa - val xb ∧ cs.length ≤ xa.length := by
  have hend := minusFold_end hla hlb hle hll
  have hlim := (minusFold_limbs xa (limbPairs xb xa.length)).1
  have hlen := minusFold_length xa (limbPairs xb xa.length)
  rw [limbPairs_length] at hlen
  have HE := Lib.hid (And.intro hlim (And.intro hend hlen))
  clear hend hle hlim hlen hll
  obtain ⟨aa, ca, rfl, hca, hma⟩ := ha.form
  obtain ⟨ab, cb, rfl, hcb, hmb⟩ := hb.form
  obtain ⟨inf, hi, hzz⟩ := Option.map_eq_some_iff.1 info_limb
  simp only [Prod.mk.injEq] at hzz
  have HZ := Lib.hid hzz
  clear hzz
  have hstart : RlInv w xa xb (.slice none 0 0) (.int .u64 0) (.int .i64 0) w := ⟨0, Nat.zero_le _, rfl, by simp [minusFold, limbPairs], by simpa [minusFold, limbPairs, enc32] using World.ownsRow_nil w w.heap.size 72 1, Below.refl _ _⟩
  have HS := Lib.hid hstart
  clear hstart
  go_enter Tryd.func85, Tryd.ntmps85
  go_wp2_with fail
  go_loopw [5, 6, 7] (fun s c i wr => RlInv w xa xb s c i wr) (fun _ _ i _ => xa.length - (intOf i).toNat)
  case atStart => exact HS.out
  case round =>
    obtain ⟨k, hk, rfl, rfl, hown, hbe⟩ := hrel
    obtain ⟨sa, sc, rfl⟩ := own_form hown
    obtain ⟨hr1, hc1⟩ := minusFold_limbs xa (limbPairs xb k)
    have hnext := minusFold_snoc xa (limbPairs xb k) (k, xb[k]?.getD 0)
    rw [← limbPairs_succ] at hnext
    have hA := ha.below hbe
    have hB := hb.below hbe
    have hsz := hbe.size
    by_cases hx : k < xa.length
    · obtain ⟨st, hst⟩ : ∃ st, minusFold xa (limbPairs xb k) = st := ⟨_, rfl⟩
      rw [hst] at hown hr1 hc1 hnext ⊢
      obtain ⟨r, c⟩ := st
      simp only [minusStep] at hnext
      dsimp only at *
      clear hst
      have lA := limb_any (.slice aa xa.length ca) xa k wr hA hla
      have lB := limb_any (.slice ab xb.length cb) xb k wr hB hlb
      have hxB := limb_getD hla k
      have hyB := limb_getD hlb k
      generalize xa[k]?.getD 0 = x at *
      generalize xb[k]?.getD 0 = y at *
      obtain ⟨T, hT⟩ : ∃ T, x + B32 - (y + c) = T := ⟨_, rfl⟩
      rw [hT] at hnext
      unfold B32 at hxB hyB hT
      have hs1 : IntKind.u64.wrap ((4294967296 : Int) + (x : Int)) = 4294967296 + (x : Int) := by rw [IntKind.wrap_u64]; omega
      have hs2 : IntKind.u64.wrap ((4294967296 : Int) + (x : Int) - (y : Int)) = 4294967296 + (x : Int) - (y : Int) := by rw [IntKind.wrap_u64]; omega
      have hs3 : IntKind.u64.wrap ((4294967296 : Int) + (x : Int) - (y : Int) - (c : Int)) = (T : Int) := by rw [IntKind.wrap_u64]; omega
      obtain ⟨cl, hcl⟩ : ∃ cl, T % B32 = cl := ⟨_, rfl⟩
      obtain ⟨ch, hch⟩ : ∃ ch, T / B32 = ch := ⟨_, rfl⟩
      have hmd : (T : Int) % 4294967296 = (cl : Int) := by rw [← hcl]; unfold B32; omega
      have hdv : (T : Int) / 4294967296 = (ch : Int) := by rw [← hch]; unfold B32; omega
      have hch1 : ch ≤ 1 := by rw [← hch]; unfold B32; omega
      have hclb : cl < 4294967296 := by rw [← hcl]; exact Nat.mod_lt _ (by decide)
      have hwl : IntKind.u32.wrap (cl : Int) = (cl : Int) := by rw [IntKind.wrap_u32']; omega
      have hwc : IntKind.u64.wrap (ch : Int) = (ch : Int) := by rw [IntKind.wrap_u64]; omega
      obtain ⟨bo, hbo⟩ : ∃ bo, 1 - ch = bo := ⟨_, rfl⟩
      have hwb : IntKind.u64.wrap (1 - (ch : Int)) = (bo : Int) := by rw [IntKind.wrap_u64]; omega
      rw [hcl, hch, hbo] at hnext
      clear hcl hch hbo hT
      have HN := Lib.hid hnext
      clear hnext
      have fin : ∀ w5 v', w5.ownsRow w.heap.size 72 1 v' (k + 1) (enc32 r ++ [.int .u32 (cl : Int)]) → Below w.heap.size w w5 → RlInv w xa xb v' (.int .u64 (bo : Int)) (.int .i64 ((k : Int) + 1)) w5 := fun w5 v' h1 h2 => by
        refine ⟨k + 1, by omega, by go_num, ?_, ?_, h2⟩
        · rw [HN.out]
        · rw [HN.out, enc32_snoc]; exact h1
      go_wp2_with (first
        | (go_at_call 62; (first | with_reducible refine lA.mono ?_ | with_reducible refine lB.mono ?_); rintro e w2 ⟨rfl, rfl⟩)
        | (at_builtin; refine wpList_append_own _ rfl _ _ 22 rfl w.heap.size 72 inf (.int .u32 0) 1 4 und_limbs hi HZ.out.1 HZ.out.2.1 HZ.out.2.2 rfl (by decide) _ _ _ rfl (hown.alloc _) ⟨wr.heap.size, 0, none⟩ 1 1 [.int .u32 (cl : Int)] rfl rfl (cell_new_plain _ _ _ _ rfl) (by simp [Value.oneCell']) (by unfold maxLen; omega) (by omega) (by simp; omega) ?_; intro v' w5 hown' hgrow _))
      have hbn : Below w.heap.size w w5 := hbe.trans (((Below.refl _ wr).alloc hsz _).grown hgrow (by simp; omega) (fun k e => by have := (hown.lt k e).1; omega))
      have hf := fin w5 v' hown' hbn
      refine ⟨hf, ?_⟩
      simp [intOf]
      omega
    · obtain rfl : k = xa.length := by omega
      have hrd : Reads .u32 wr (.slice sa xa.length sc) (minusFold xa (limbPairs xb xa.length)).1 := Reads.ofOwn hown
      clear hnext hx
      go_wp2
      go_ret
      exact ⟨hbe, _, _, rfl, hrd, HE.out.1, HE.out.2.1, Nat.le_of_eq HE.out.2.2⟩

end Go.Proofs.YtlghjfpkfdnfoaaDoor

/- zermeloref01.larger, Compare -/
namespace Go.Proofs.YtlghjfpkfdnfoaaDoor
open Go Go.RowKit Go.Shelf

set_option maxHeartbeats 1000000 in
set_option maxRecDepth 100000 in
theorem larger_any (va vb : Value) (xa xb : List Nat) (w : World) (ha : Reads .u32 w va xa) (hb : Reads .u32 w vb xb) (hca : Canon xa) (hcb : Canon xb) (na : xa.length ≤ 1000000) :
    Calls Tryd.prog 54 #[va, vb] w fun e w' => Below w.heap.size w w' ∧ e = .returned (.int .i64 (cmpI (val xa : Int) (val xb : Int))) := by
  obtain ⟨aa, ca, rfl, hlca, hma⟩ := ha.form
  obtain ⟨ab, cb, rfl, hlcb, hmb⟩ := hb.form
  unfold maxLen at hma hmb
  by_cases hl : xa.length = xb.length
  · have HL := Lib.hid hl
    have hl1 : (((xa.length : Nat) : Int) != (xb.length : Int)) = false := by rw [hl]; simp
    clear hl
    go_enter Tryd.func54, Tryd.ntmps54
    go_wp2
    go_loopw [5] (fun i W => ∃ k : Nat, k ≤ xa.length ∧ i = .int .i64 ((k : Int) - 1) ∧ (∀ q, k ≤ q → q < xa.length → xa[q]?.getD 0 = xb[q]?.getD 0) ∧ ∃ nq, W = w.drewN nq) (fun i _ => (intOf i + 1).toNat)
    case atStart => exact ⟨xa.length, Nat.le_refl _, by go_num, fun q h1 h2 => absurd h2 (by omega), 0, rfl⟩
    case round =>
      obtain ⟨k, hk, rfl, hup, nq, rfl⟩ := hrel
      cases k with
      | zero =>
        have hval : cmpI (val xa : Int) (val xb : Int) = 0 := by
          have : xa = xb := by
            apply List.ext_getElem HL.out
            intro i h1 h2
            have := hup i (Nat.zero_le _) h1
            simpa [List.getElem?_eq_getElem h1, List.getElem?_eq_getElem h2] using this
          rw [this, cmpI_self]
        have HV := Lib.hid hval
        clear hval hup
        go_wp2
        go_ret
        exact ⟨below_drewN (Below.refl _ _) _, by rw [HV.out]; rfl⟩
      | succ k =>
        have hk1 : ((k + 1 : Nat) : Int) - 1 = (k : Int) := by omega
        rw [hk1]
        have hlt : k < xa.length := by omega
        have i1 := fun W => ha.index und_limbs size_limb (P := Tryd.prog) k .i64 W hlt
        have i2 := fun W => hb.index und_limbs size_limb (P := Tryd.prog) k .i64 W (by have := HL.out; omega)
        have d1 := ha.cell k hlt
        have d2 := hb.cell k (by have := HL.out; omega)
        have hat := fun hne => cmp_at hca.1 hcb.1 HL.out k hlt (fun i h1 h2 => hup i (by omega) h2) hne
        obtain ⟨x, hx⟩ : ∃ x, xa[k]?.getD 0 = x := ⟨_, rfl⟩
        obtain ⟨y, hy⟩ : ∃ y, xb[k]?.getD 0 = y := ⟨_, rfl⟩
        rw [hx] at d1
        rw [hy] at d2
        rw [hx, hy] at hat
        have HX := Lib.hid (And.intro hx (And.intro hy hup))
        have HAT := Lib.hid hat
        clear hx hy hup hat hk1
        rcases Nat.lt_trichotomy x y with hxy | hxy | hxy
        · have he : decide ((x : Int) < (y : Int)) = true := by simp <;> omega
          have hval := HAT.out (by omega)
          have hc1 : cmpI (x : Int) (y : Int) = -1 := by unfold cmpI; rw [if_pos (by omega)]
          rw [hc1] at hval
          have HV := Lib.hid hval
          clear hval hc1
          go_wp2_with fail
          go_quiet (fail)
          go_wp2
          go_ret
          exact ⟨below_drewN (below_drewN (Below.refl _ _) _) _, by rw [HV.out]; rfl⟩
        · subst hxy
          have he : decide ((x : Int) < (x : Int)) = false := by simp
          go_wp2_with fail
          go_quiet (fail)
          go_wp2
          go_quiet (fail)
          go_wp2
          refine ⟨⟨k, by omega, by go_num, ?_, _, rfl⟩, by simp [intOf] <;> omega⟩
          intro q h1 h2
          rcases Nat.lt_or_ge k q with h | h
          · exact HX.out.2.2 q (by omega) h2
          · obtain rfl : q = k := by omega
            rw [HX.out.1, HX.out.2.1]
        · have he : decide ((x : Int) < (y : Int)) = false := by simp <;> omega
          have he2 : decide ((y : Int) < (x : Int)) = true := by simp <;> omega
          have hval := HAT.out (by omega)
          have hc1 : cmpI (x : Int) (y : Int) = 1 := by unfold cmpI; rw [if_neg (by omega), if_pos (by omega)]
          rw [hc1] at hval
          have HV := Lib.hid hval
          clear hval hc1
          go_wp2_with fail
          go_quiet (fail)
          go_wp2
          go_quiet (fail)
          go_wp2
          go_ret
          exact ⟨below_drewN (below_drewN (below_drewN (Below.refl _ _) _) _) _, by rw [HV.out]; rfl⟩
  · have hl1 : (((xa.length : Nat) : Int) != (xb.length : Int)) = true := by simp <;> omega
    have hval := cmp_len hca hcb hl
    rw [hval]
    clear hval
    go_enter Tryd.func54, Tryd.ntmps54
    rcases Nat.lt_or_gt_of_ne hl with h | h
    · have hd : decide ((xa.length : Int) < (xb.length : Int)) = true := by simp <;> omega
      have hc1 : cmpI (xa.length : Int) (xb.length : Int) = -1 := by unfold cmpI; rw [if_pos (by omega)]
      rw [hc1]
      go_wp2
      go_ret
      exact ⟨Below.refl _ _, rfl⟩
    · have hd : decide ((xa.length : Int) < (xb.length : Int)) = false := by simp <;> omega
      have hc1 : cmpI (xa.length : Int) (xb.length : Int) = 1 := by unfold cmpI; rw [if_neg (by omega), if_pos (by omega)]
      rw [hc1]
      go_wp2
      go_ret
      exact ⟨Below.refl _ _, rfl⟩

set_option maxHeartbeats 1000000 in
set_option maxRecDepth 100000 in
theorem rcompare_int (va vb : Value) (i j : Int) (w : World) (ha : IsInt w va i) (hb : IsInt w vb j) (L : Nat) (hL : L ≤ 100000) (hi : i.natAbs < B32 ^ L) (hj : j.natAbs < B32 ^ L) :
    Calls Tryd.prog 20 #[va, vb] w fun e w' => Below w.heap.size w w' ∧ e = .returned (.int .i64 (cmpI i j)) := by
  obtain ⟨na, sa, xa, rfl, hra, hca, hna, rfl⟩ := ha
  obtain ⟨nb, sb, xb, rfl, hrb, hcb, hnb, rfl⟩ := hb
  rw [sgn_natAbs] at hi hj
  have la := canon_length_le hca hi
  have lb := canon_length_le hcb hj
  clear hi hj
  obtain ⟨aa, ca, rfl, hlca, hma⟩ := hra.form
  obtain ⟨ab, cb, rfl, hlcb, hmb⟩ := hrb.form
  have b0 := ((Below.refl w.heap.size w).alloc (Nat.le_refl _) (.cells #[.bool na, .slice aa xa.length ca] 24)).alloc (by simp) (.cells #[.bool nb, .slice ab xb.length cb] 24)
  have k1 := larger_any _ _ xa xb _ (hra.below b0) (hrb.below b0) hca hcb (by omega)
  have k2 := larger_any _ _ xb xa _ (hrb.below b0) (hra.below b0) hcb hca (by omega)
  have pa := canon_pos_iff hca
  have pb := canon_pos_iff hcb
  cases na <;> cases nb
  · have e : cmpI (sgn false (val xa)) (sgn false (val xb)) = cmpI (val xa : Int) (val xb : Int) := by simp [sgn]
    rw [e]
    clear e k2
    go_enter Tryd.func20, Tryd.ntmps20
    go_wp2_with (go_at_call 54; refine k1.mono ?_; rintro e w2 ⟨hbe, rfl⟩)
    go_ret
    exact ⟨b0.trans (hbe.mono b0.size), rfl⟩
  · have e : cmpI (sgn false (val xa)) (sgn true (val xb)) = 1 := by
      have : 0 < xb.length := by simpa using hnb
      unfold cmpI sgn
      rw [if_neg (by simp <;> omega), if_pos (by simp <;> omega)]
    rw [e]
    clear e k1 k2
    go_enter Tryd.func20, Tryd.ntmps20
    go_wp2
    go_ret
    exact ⟨b0, rfl⟩
  · have e : cmpI (sgn true (val xa)) (sgn false (val xb)) = -1 := by
      have : 0 < xa.length := by simpa using hna
      unfold cmpI sgn
      rw [if_pos (by simp <;> omega)]
    rw [e]
    clear e k1 k2
    go_enter Tryd.func20, Tryd.ntmps20
    go_wp2
    go_ret
    exact ⟨b0, rfl⟩
  · have e : cmpI (sgn true (val xa)) (sgn true (val xb)) = cmpI (val xb : Int) (val xa : Int) := cmpI_congr (by simp [sgn] <;> omega) (by simp [sgn] <;> omega)
    rw [e]
    clear e k1
    go_enter Tryd.func20, Tryd.ntmps20
    go_wp2_with (go_at_call 54; refine k2.mono ?_; rintro e w2 ⟨hbe, rfl⟩)
    go_ret
    exact ⟨b0.trans (hbe.mono b0.size), rfl⟩

end Go.Proofs.YtlghjfpkfdnfoaaDoor

/- zermelolaw01.NumRings -/
namespace Go.Proofs.YtlghjfpkfdnfoaaDoor
open Go Go.RowKit Go.Shelf

theorem abs_mul_lt {x y : Int} {m n : Nat} (hx : x.natAbs < B32 ^ m) (hy : y.natAbs < B32 ^ n) : (x * y).natAbs < B32 ^ (m + n) := by
  rw [Int.natAbs_mul, Nat.pow_add]
  exact Nat.mul_lt_mul_of_lt_of_lt hx hy
theorem abs_add_lt {x y : Int} {m : Nat} (hx : x.natAbs < B32 ^ m) (hy : y.natAbs < B32 ^ m) : (x + y).natAbs < B32 ^ (m + 1) := by
  have h1 : B32 ^ (m + 1) = B32 ^ m * B32 := Nat.pow_succ ..
  have h2 : (2 : Nat) ≤ B32 := by decide
  have h3 : B32 ^ m * 2 ≤ B32 ^ m * B32 := Nat.mul_le_mul_left _ h2
  generalize B32 ^ m = P at *
  omega
theorem BoxI.at {W : World} {b : Nat} {i : Int} (h : BoxI W (.pointer (some ⟨b, 0, none⟩)) i) : ∃ n a m c, RowAt W b 24 [.bool n, .slice a m c] ∧ IsInt W (.agg #[.bool n, .slice a m c]) i := by
  obtain ⟨b', n, a, m, c, e, hr, hi⟩ := h
  simp only [Value.pointer.injEq, Option.some.injEq, Addr.mk.injEq, and_true] at e
  subst e
  exact ⟨n, a, m, c, hr, hi⟩
theorem zeros14 (q : Nat) (hq : q < 14) : ([.int .i64 0, .int .i64 0, .int .i64 0, .int .i64 0, .int .i64 0, .int .i64 0, .int .i64 0, .int .i64 0, .int .i64 0, .int .i64 0, .int .i64 0, .int .i64 0, .int .i64 0, .int .i64 0] : List Value)[q]? = some (.int .i64 0) := by
  have : ([.int .i64 0, .int .i64 0, .int .i64 0, .int .i64 0, .int .i64 0, .int .i64 0, .int .i64 0, .int .i64 0, .int .i64 0, .int .i64 0, .int .i64 0, .int .i64 0, .int .i64 0, .int .i64 0] : List Value) = List.replicate 14 (.int .i64 0) := rfl
  rw [this, List.getElem?_replicate, if_pos hq]
theorem abs_lt_up {x : Int} {m n : Nat} (hx : x.natAbs < B32 ^ m) (h : m ≤ n) : x.natAbs < B32 ^ n := Nat.lt_of_lt_of_le hx (Nat.pow_le_pow_right (by decide) h)

set_option maxHeartbeats 4000000 in
set_option maxRecDepth 100000 in
set_option exponentiation.threshold 400 in
theorem rings_any (va vb vc : Value) (na nb nc : Bool) (xa xb xc : List Nat) (w : World) (ha : IntAt w va na xa) (hb : IntAt w vb nb xb) (hc : IntAt w vc nc xc) (hT : DigitsAt w) :
    Calls Tryd.prog 9 #[va, vb, vc] w fun e w' => Below w.heap.size w w' ∧ e = .returned (.bool true) := by
  obtain ⟨sa, rfl, hra, hla⟩ := ha
  obtain ⟨sb, rfl, hrb, hlb⟩ := hb
  obtain ⟨sc, rfl, hrc, hlc⟩ := hc
  obtain ⟨aa, ca, rfl, hca, hma⟩ := hra.form
  obtain ⟨ab, cb, rfl, hcb, hmb⟩ := hrb.form
  obtain ⟨ac, cc, rfl, hcc, hmc⟩ := hrc.form
  go_enter Tryd.func9, Tryd.ntmps9
  go_upto_region 0 with (fail)
  go_cut [3, 4, 5] from 0 to 2 (fun v3 v4 v5 W => BoxF W v3 na xa ∧ BoxF W v4 nb xb ∧ BoxF W v5 nc xc ∧ Below w.heap.size w W)
  case first =>
    go_wp2
    go_meet
    have B1 : Below w.heap.size w (w.alloc (.cells #[.bool na, .slice aa xa.length ca] 24)) := (Below.refl _ _).alloc (Nat.le_refl _) _
    have B2 := B1.alloc B1.size (.cells #[.bool nb, .slice ab xb.length cb] 24)
    have B3 := B2.alloc B2.size (.cells #[.bool nc, .slice ac xc.length cc] 24)
    have C1 : BoxF _ _ na xa := ⟨_, aa, ca, rfl, RowAt.new w 24 [.bool na, .slice aa xa.length ca], hra.below B1⟩
    have C2 : BoxF _ _ nb xb := ⟨_, ab, cb, rfl, RowAt.new (w.alloc (.cells #[.bool na, .slice aa xa.length ca] 24)) 24 [.bool nb, .slice ab xb.length cb], hrb.below B2⟩
    have C3 : BoxF _ _ nc xc := ⟨_, ac, cc, rfl, RowAt.new ((w.alloc (.cells #[.bool na, .slice aa xa.length ca] 24)).alloc (.cells #[.bool nb, .slice ab xb.length cb] 24)) 24 [.bool nc, .slice ac xc.length cc], hrc.below B3⟩
    simp only [World.size_alloc] at C2 C3
    exact ⟨(C1.below ((Below.refl _ _).alloc (Nat.le_refl _) _)).below ((Below.refl _ _).alloc (Nat.le_refl _) _), C2.below ((Below.refl _ _).alloc (Nat.le_refl _) _), C3, B3⟩
  case rest =>
    obtain ⟨q1, q2, q3, hbe⟩ := hcut
    clear hra hrb hrc hca hcb hcc hma hmb hmc
    have hT1 := hT.below hbe
    obtain ⟨b1, a1, c1, rfl, r1, j1⟩ := q1
    obtain ⟨b2, a2, c2, rfl, r2, j2⟩ := q2
    obtain ⟨b3, a3, c3, rfl, r3, j3⟩ := q3
    have d11 := r1.cell 0
    have d12 := r1.cell 1
    have d21 := r2.cell 0
    have d22 := r2.cell 1
    have d31 := r3.cell 0
    have d32 := r3.cell 1
    simp only [List.getElem?_cons_zero, List.getElem?_cons_succ] at d11 d12 d21 d22 d31 d32
    have hnew := RowAt.new wc 24 [.bool na, .slice a1 xa.length c1, .bool nb, .slice a2 xb.length c2, .bool nc, .slice a3 xc.length c3]
    have hB : Below wc.heap.size wc (wc.alloc (.cells #[.bool na, .slice a1 xa.length c1, .bool nb, .slice a2 xb.length c2, .bool nc, .slice a3 xc.length c3] 24)) := (Below.refl _ _).alloc (Nat.le_refl _) _
    have hf := formed_list [(na, .slice a1 xa.length c1, xa), (nb, .slice a2 xb.length c2, xb), (nc, .slice a3 xc.length c3, xc)] 60 wc.heap.size _ hnew (by simp) (by
      intro it hit
      simp only [List.mem_cons, List.not_mem_nil, or_false] at hit
      rcases hit with rfl | rfl | rfl
      · exact ⟨j1.below hB, hla⟩
      · exact ⟨j2.below hB, hlb⟩
      · exact ⟨j3.below hB, hlc⟩)
    simp only [List.length_cons, List.length_nil] at hf
    have hsz := hbe.size
    cases hall : List.all [(na, Value.slice a1 xa.length c1, xa), (nb, Value.slice a2 xb.length c2, xb), (nc, Value.slice a3 xc.length c3, xc)] (fitB 60) with
    | false =>
      rw [hall] at hf
      clear hnew hall
      go_wp2_with (first
        | (go_at_call 50; refine hf.mono ?_; rintro e w2 ⟨hb2, rfl⟩)
        | (go_at_call 16; refine (sane_any _ ((hT1.below hB).below hb2)).mono ?_; rintro e w3 ⟨hb3, rfl⟩))
      go_ret
      have e1 := hB.trans (hb2.mono hB.size)
      have e2 := e1.trans (hb3.mono e1.size)
      exact ⟨hbe.trans (e2.mono hsz), rfl⟩
    | true =>
      rw [hall] at hf
      have hA := Lib.hid hall
      clear hnew hall
      go_upto_region 3 with (go_at_call 50; refine hf.mono ?_; rintro e w2 ⟨hb2, rfl⟩)
      have e1 := hB.trans (hb2.mono hB.size)
      obtain ⟨⟨f1, l1⟩, ⟨f2, l2⟩, ⟨f3, l3⟩⟩ : (formedB na xa = true ∧ xa.length ≤ 60) ∧ (formedB nb xb = true ∧ xb.length ≤ 60) ∧ (formedB nc xc = true ∧ xc.length ≤ 60) := by
        have := hA.out
        simp only [List.all_cons, List.all_nil, fitB, Bool.and_true, Bool.and_eq_true, decide_eq_true_eq] at this
        exact ⟨⟨this.1.1, by omega⟩, ⟨this.2.1.1, by omega⟩, ⟨this.2.2.1, by omega⟩⟩
      have k1 := (IntAt.isInt ⟨_, rfl, j1.below e1, hla⟩ f1 : IsInt w2 (.agg #[.bool na, .slice a1 xa.length c1]) (sgn na (val xa)))
      have k2 := (IntAt.isInt ⟨_, rfl, j2.below e1, hlb⟩ f2 : IsInt w2 (.agg #[.bool nb, .slice a2 xb.length c2]) (sgn nb (val xb)))
      have k3 := (IntAt.isInt ⟨_, rfl, j3.below e1, hlc⟩ f3 : IsInt w2 (.agg #[.bool nc, .slice a3 xc.length c3]) (sgn nc (val xc)))
      have n1 : (sgn na (val xa)).natAbs < B32 ^ 60 := by rw [sgn_natAbs]; exact (canon_length_iff (formedB_bounds hla f1).1 60).1 l1
      have n2 : (sgn nb (val xb)).natAbs < B32 ^ 60 := by rw [sgn_natAbs]; exact (canon_length_iff (formedB_bounds hlb f2).1 60).1 l2
      have n3 : (sgn nc (val xc)).natAbs < B32 ^ 60 := by rw [sgn_natAbs]; exact (canon_length_iff (formedB_bounds hlc f3).1 60).1 l3
      have q3 : BoxI w2 (.pointer (some ⟨b1, 0, none⟩)) (sgn na (val xa)) := ⟨b1, na, a1, xa.length, c1, rfl, r1.below e1, k1⟩
      have q4 : BoxI w2 (.pointer (some ⟨b2, 0, none⟩)) (sgn nb (val xb)) := ⟨b2, nb, a2, xb.length, c2, rfl, r2.below e1, k2⟩
      have q5 : BoxI w2 (.pointer (some ⟨b3, 0, none⟩)) (sgn nc (val xc)) := ⟨b3, nc, a3, xc.length, c3, rfl, r3.below e1, k3⟩
      replace hbe := hbe.trans (e1.mono hsz)
      clear hA hf l1 l2 l3 f1 f2 f3 d11 d12 d21 d22 d31 d32 hb2 hB e1 r1 r2 r3 j1 j2 j3 hsz hT1 hla hlb hlc k1 k2 k3
      generalize sgn na (val xa) = i at *
      generalize sgn nb (val xb) = j at *
      generalize sgn nc (val xc) = k at *
      have b13 : (j + k).natAbs < B32 ^ 61 := abs_add_lt n2 n3
      have bi := abs_lt_up n1 (show 60 ≤ 61 by decide)
      have bj := abs_lt_up n2 (show 60 ≤ 61 by decide)
      have bk := abs_lt_up n3 (show 60 ≤ 61 by decide)
      have c7 : (i + j).natAbs < B32 ^ 61 := abs_add_lt n1 n2
      have c11 : (i + j + k).natAbs < B32 ^ 62 := abs_add_lt c7 bk
      have c19 : (i * j).natAbs < B32 ^ 120 := abs_mul_lt n1 n2
      have c31 : (i * k).natAbs < B32 ^ 120 := abs_mul_lt n1 n3
      have c33 : (i * j + i * k).natAbs < B32 ^ 121 := abs_add_lt c19 c31
      have c23 : (i * j * k).natAbs < B32 ^ 180 := abs_mul_lt c19 n3
      have c25 : (j * k).natAbs < B32 ^ 120 := abs_mul_lt n2 n3
      have c29 : (i * (j + k)).natAbs < B32 ^ 121 := abs_mul_lt n1 b13
      have Bi := b32_up bi (by decide)
      have Bj := b32_up bj (by decide)
      have Bk := b32_up bk (by decide)
      have B7 := b32_up c7 (by decide)
      have B9 : (j + i).natAbs < B32 ^ 300 := by rw [Int.add_comm]; exact B7
      have B11 := b32_up c11 (by decide)
      have B13 := b32_up b13 (by decide)
      have B15 : (i + (j + k)).natAbs < B32 ^ 300 := by rw [← Int.add_assoc]; exact B11
      have B17 : (i + j - j).natAbs < B32 ^ 300 := by rw [Int.add_sub_cancel]; exact Bi
      have B19 := b32_up c19 (by decide)
      have B21 : (j * i).natAbs < B32 ^ 300 := by rw [Int.mul_comm]; exact B19
      have B23 := b32_up c23 (by decide)
      have B25 := b32_up c25 (by decide)
      have B27 : (i * (j * k)).natAbs < B32 ^ 300 := by rw [← Int.mul_assoc]; exact B23
      have B29 := b32_up c29 (by decide)
      have B31 := b32_up c31 (by decide)
      have B33 := b32_up c33 (by decide)
      clear c7 c11 c19 c31 c33 c23 c25 c29 n1 n2 n3
      generalize w2 = wX2 at *
      go_upto_region 3 with (fail)
      go_cut [7, 8] from 44 to 49 (fun v1 v2 W => BoxI W v1 (i + j) ∧ v2 = .int .i64 0 ∧ Below wX2.heap.size wX2 W)
      case first =>
        obtain ⟨nx, ax, mx, cx, rx, ix⟩ := q3.at
        obtain ⟨ny, ay, my, cy, ry, iy⟩ := q4.at
        have x1 := rx.cell 0
        have x2 := rx.cell 1
        have x3 := ry.cell 0
        have x4 := ry.cell 1
        simp only [List.getElem?_cons_zero, List.getElem?_cons_succ] at x1 x2 x3 x4
        have C := sum_int _ _ _ _ _ ix iy Bi Bj B7
        go_wp2_with (go_at_call 28; with_reducible refine C.mono ?_; rintro e w3 ⟨hb3, v3, rfl, hi3⟩; obtain ⟨n3, s3, m3, q3, rfl⟩ := hi3.shape)
        go_meet
        exact ⟨BoxI.new hi3, rfl, hb3.alloc hb3.size _⟩
      case rest =>
        obtain ⟨q7, rfl, hbn⟩ := hcut
        replace q3 := q3.below hbn
        replace q4 := q4.below hbn
        replace q5 := q5.below hbn
        replace hbe := hbe.trans (hbn.mono hbe.size)
        clear hbn
        generalize wc = wX3 at *
        go_upto_region 4 with (fail)
        go_cut [9, 10] from 50 to 55 (fun v1 v2 W => BoxI W v1 (j + i) ∧ v2 = .int .i64 0 ∧ Below wX3.heap.size wX3 W)
        case first =>
          obtain ⟨nx, ax, mx, cx, rx, ix⟩ := q4.at
          obtain ⟨ny, ay, my, cy, ry, iy⟩ := q3.at
          have x1 := rx.cell 0
          have x2 := rx.cell 1
          have x3 := ry.cell 0
          have x4 := ry.cell 1
          simp only [List.getElem?_cons_zero, List.getElem?_cons_succ] at x1 x2 x3 x4
          have C := sum_int _ _ _ _ _ ix iy Bj Bi B9
          go_wp2_with (go_at_call 28; with_reducible refine C.mono ?_; rintro e w3 ⟨hb3, v3, rfl, hi3⟩; obtain ⟨n3, s3, m3, q3, rfl⟩ := hi3.shape)
          go_meet
          exact ⟨BoxI.new hi3, rfl, hb3.alloc hb3.size _⟩
        case rest =>
          obtain ⟨q9, rfl, hbn⟩ := hcut
          replace q3 := q3.below hbn
          replace q4 := q4.below hbn
          replace q5 := q5.below hbn
          replace q7 := q7.below hbn
          replace hbe := hbe.trans (hbn.mono hbe.size)
          clear hbn
          generalize wc = wX4 at *
          go_upto_region 5 with (fail)
          go_cut [11, 12] from 56 to 61 (fun v1 v2 W => BoxI W v1 (i + j + k) ∧ v2 = .int .i64 0 ∧ Below wX4.heap.size wX4 W)
          case first =>
            obtain ⟨bx, nx, ax, mx, cx, rfl, rx, ix⟩ := q7
            obtain ⟨ny, ay, my, cy, ry, iy⟩ := q5.at
            have x1 := rx.cell 0
            have x2 := rx.cell 1
            have x3 := ry.cell 0
            have x4 := ry.cell 1
            simp only [List.getElem?_cons_zero, List.getElem?_cons_succ] at x1 x2 x3 x4
            have C := sum_int _ _ _ _ _ ix iy B7 Bk B11
            go_wp2_with (go_at_call 28; with_reducible refine C.mono ?_; rintro e w3 ⟨hb3, v3, rfl, hi3⟩; obtain ⟨n3, s3, m3, q3, rfl⟩ := hi3.shape)
            go_meet
            exact ⟨BoxI.new hi3, rfl, hb3.alloc hb3.size _⟩
          case rest =>
            obtain ⟨q11, rfl, hbn⟩ := hcut
            replace q3 := q3.below hbn
            replace q4 := q4.below hbn
            replace q5 := q5.below hbn
            replace q7 := q7.below hbn
            replace q9 := q9.below hbn
            replace hbe := hbe.trans (hbn.mono hbe.size)
            clear hbn
            generalize wc = wX5 at *
            go_upto_region 6 with (fail)
            go_cut [13, 14] from 62 to 67 (fun v1 v2 W => BoxI W v1 (j + k) ∧ v2 = .int .i64 0 ∧ Below wX5.heap.size wX5 W)
            case first =>
              obtain ⟨nx, ax, mx, cx, rx, ix⟩ := q4.at
              obtain ⟨ny, ay, my, cy, ry, iy⟩ := q5.at
              have x1 := rx.cell 0
              have x2 := rx.cell 1
              have x3 := ry.cell 0
              have x4 := ry.cell 1
              simp only [List.getElem?_cons_zero, List.getElem?_cons_succ] at x1 x2 x3 x4
              have C := sum_int _ _ _ _ _ ix iy Bj Bk B13
              go_wp2_with (go_at_call 28; with_reducible refine C.mono ?_; rintro e w3 ⟨hb3, v3, rfl, hi3⟩; obtain ⟨n3, s3, m3, q3, rfl⟩ := hi3.shape)
              go_meet
              exact ⟨BoxI.new hi3, rfl, hb3.alloc hb3.size _⟩
            case rest =>
              obtain ⟨q13, rfl, hbn⟩ := hcut
              replace q3 := q3.below hbn
              replace q4 := q4.below hbn
              replace q5 := q5.below hbn
              replace q7 := q7.below hbn
              replace q9 := q9.below hbn
              replace q11 := q11.below hbn
              replace hbe := hbe.trans (hbn.mono hbe.size)
              clear hbn
              generalize wc = wX6 at *
              go_upto_region 7 with (fail)
              go_cut [15, 16] from 68 to 73 (fun v1 v2 W => BoxI W v1 (i + (j + k)) ∧ v2 = .int .i64 0 ∧ Below wX6.heap.size wX6 W)
              case first =>
                obtain ⟨nx, ax, mx, cx, rx, ix⟩ := q3.at
                obtain ⟨by1, ny, ay, my, cy, rfl, ry, iy⟩ := q13
                have x1 := rx.cell 0
                have x2 := rx.cell 1
                have x3 := ry.cell 0
                have x4 := ry.cell 1
                simp only [List.getElem?_cons_zero, List.getElem?_cons_succ] at x1 x2 x3 x4
                have C := sum_int _ _ _ _ _ ix iy Bi B13 B15
                go_wp2_with (go_at_call 28; with_reducible refine C.mono ?_; rintro e w3 ⟨hb3, v3, rfl, hi3⟩; obtain ⟨n3, s3, m3, q3, rfl⟩ := hi3.shape)
                go_meet
                exact ⟨BoxI.new hi3, rfl, hb3.alloc hb3.size _⟩
              case rest =>
                obtain ⟨q15, rfl, hbn⟩ := hcut
                replace q3 := q3.below hbn
                replace q4 := q4.below hbn
                replace q5 := q5.below hbn
                replace q7 := q7.below hbn
                replace q9 := q9.below hbn
                replace q11 := q11.below hbn
                replace q13 := q13.below hbn
                replace hbe := hbe.trans (hbn.mono hbe.size)
                clear hbn
                generalize wc = wX7 at *
                go_upto_region 8 with (fail)
                go_cut [17, 18] from 74 to 79 (fun v1 v2 W => BoxI W v1 (i + j - j) ∧ v2 = .int .i64 0 ∧ Below wX7.heap.size wX7 W)
                case first =>
                  obtain ⟨bx, nx, ax, mx, cx, rfl, rx, ix⟩ := q7
                  obtain ⟨ny, ay, my, cy, ry, iy⟩ := q4.at
                  have x1 := rx.cell 0
                  have x2 := rx.cell 1
                  have x3 := ry.cell 0
                  have x4 := ry.cell 1
                  simp only [List.getElem?_cons_zero, List.getElem?_cons_succ] at x1 x2 x3 x4
                  have C := sub_int _ _ _ _ _ ix iy B7 Bj B17
                  go_wp2_with (go_at_call 29; with_reducible refine C.mono ?_; rintro e w3 ⟨hb3, v3, rfl, hi3⟩; obtain ⟨n3, s3, m3, q3, rfl⟩ := hi3.shape)
                  go_meet
                  exact ⟨BoxI.new hi3, rfl, hb3.alloc hb3.size _⟩
                case rest =>
                  obtain ⟨q17, rfl, hbn⟩ := hcut
                  replace q3 := q3.below hbn
                  replace q4 := q4.below hbn
                  replace q5 := q5.below hbn
                  replace q7 := q7.below hbn
                  replace q9 := q9.below hbn
                  replace q11 := q11.below hbn
                  replace q13 := q13.below hbn
                  replace q15 := q15.below hbn
                  replace hbe := hbe.trans (hbn.mono hbe.size)
                  clear hbn
                  generalize wc = wX8 at *
                  go_upto_region 9 with (fail)
                  go_cut [19, 20] from 80 to 85 (fun v1 v2 W => BoxI W v1 (i * j) ∧ v2 = .int .i64 0 ∧ Below wX8.heap.size wX8 W)
                  case first =>
                    obtain ⟨nx, ax, mx, cx, rx, ix⟩ := q3.at
                    obtain ⟨ny, ay, my, cy, ry, iy⟩ := q4.at
                    have x1 := rx.cell 0
                    have x2 := rx.cell 1
                    have x3 := ry.cell 0
                    have x4 := ry.cell 1
                    simp only [List.getElem?_cons_zero, List.getElem?_cons_succ] at x1 x2 x3 x4
                    have C := mul_int 61 (by decide) _ _ _ _ _ ix iy Bi Bj (.inl bi) B19
                    go_wp2_with (go_at_call 30; with_reducible refine C.mono ?_; rintro e w3 ⟨hb3, v3, rfl, hi3⟩; obtain ⟨n3, s3, m3, q3, rfl⟩ := hi3.shape)
                    go_meet
                    exact ⟨BoxI.new hi3, rfl, hb3.alloc hb3.size _⟩
                  case rest =>
                    obtain ⟨q19, rfl, hbn⟩ := hcut
                    replace q3 := q3.below hbn
                    replace q4 := q4.below hbn
                    replace q5 := q5.below hbn
                    replace q7 := q7.below hbn
                    replace q9 := q9.below hbn
                    replace q11 := q11.below hbn
                    replace q13 := q13.below hbn
                    replace q15 := q15.below hbn
                    replace q17 := q17.below hbn
                    replace hbe := hbe.trans (hbn.mono hbe.size)
                    clear hbn
                    generalize wc = wX9 at *
                    go_upto_region 10 with (fail)
                    go_cut [21, 22] from 86 to 91 (fun v1 v2 W => BoxI W v1 (j * i) ∧ v2 = .int .i64 0 ∧ Below wX9.heap.size wX9 W)
                    case first =>
                      obtain ⟨nx, ax, mx, cx, rx, ix⟩ := q4.at
                      obtain ⟨ny, ay, my, cy, ry, iy⟩ := q3.at
                      have x1 := rx.cell 0
                      have x2 := rx.cell 1
                      have x3 := ry.cell 0
                      have x4 := ry.cell 1
                      simp only [List.getElem?_cons_zero, List.getElem?_cons_succ] at x1 x2 x3 x4
                      have C := mul_int 61 (by decide) _ _ _ _ _ ix iy Bj Bi (.inl bj) B21
                      go_wp2_with (go_at_call 30; with_reducible refine C.mono ?_; rintro e w3 ⟨hb3, v3, rfl, hi3⟩; obtain ⟨n3, s3, m3, q3, rfl⟩ := hi3.shape)
                      go_meet
                      exact ⟨BoxI.new hi3, rfl, hb3.alloc hb3.size _⟩
                    case rest =>
                      obtain ⟨q21, rfl, hbn⟩ := hcut
                      replace q3 := q3.below hbn
                      replace q4 := q4.below hbn
                      replace q5 := q5.below hbn
                      replace q7 := q7.below hbn
                      replace q9 := q9.below hbn
                      replace q11 := q11.below hbn
                      replace q13 := q13.below hbn
                      replace q15 := q15.below hbn
                      replace q17 := q17.below hbn
                      replace q19 := q19.below hbn
                      replace hbe := hbe.trans (hbn.mono hbe.size)
                      clear hbn
                      generalize wc = wX10 at *
                      go_upto_region 11 with (fail)
                      go_cut [23, 24] from 92 to 97 (fun v1 v2 W => BoxI W v1 (i * j * k) ∧ v2 = .int .i64 0 ∧ Below wX10.heap.size wX10 W)
                      case first =>
                        obtain ⟨bx, nx, ax, mx, cx, rfl, rx, ix⟩ := q19
                        obtain ⟨ny, ay, my, cy, ry, iy⟩ := q5.at
                        have x1 := rx.cell 0
                        have x2 := rx.cell 1
                        have x3 := ry.cell 0
                        have x4 := ry.cell 1
                        simp only [List.getElem?_cons_zero, List.getElem?_cons_succ] at x1 x2 x3 x4
                        have C := mul_int 61 (by decide) _ _ _ _ _ ix iy B19 Bk (.inr bk) B23
                        go_wp2_with (go_at_call 30; with_reducible refine C.mono ?_; rintro e w3 ⟨hb3, v3, rfl, hi3⟩; obtain ⟨n3, s3, m3, q3, rfl⟩ := hi3.shape)
                        go_meet
                        exact ⟨BoxI.new hi3, rfl, hb3.alloc hb3.size _⟩
                      case rest =>
                        obtain ⟨q23, rfl, hbn⟩ := hcut
                        replace q3 := q3.below hbn
                        replace q4 := q4.below hbn
                        replace q5 := q5.below hbn
                        replace q7 := q7.below hbn
                        replace q9 := q9.below hbn
                        replace q11 := q11.below hbn
                        replace q13 := q13.below hbn
                        replace q15 := q15.below hbn
                        replace q17 := q17.below hbn
                        replace q19 := q19.below hbn
                        replace q21 := q21.below hbn
                        replace hbe := hbe.trans (hbn.mono hbe.size)
                        clear hbn
                        generalize wc = wX11 at *
                        go_upto_region 12 with (fail)
                        go_cut [25, 26] from 98 to 103 (fun v1 v2 W => BoxI W v1 (j * k) ∧ v2 = .int .i64 0 ∧ Below wX11.heap.size wX11 W)
                        case first =>
                          obtain ⟨nx, ax, mx, cx, rx, ix⟩ := q4.at
                          obtain ⟨ny, ay, my, cy, ry, iy⟩ := q5.at
                          have x1 := rx.cell 0
                          have x2 := rx.cell 1
                          have x3 := ry.cell 0
                          have x4 := ry.cell 1
                          simp only [List.getElem?_cons_zero, List.getElem?_cons_succ] at x1 x2 x3 x4
                          have C := mul_int 61 (by decide) _ _ _ _ _ ix iy Bj Bk (.inl bj) B25
                          go_wp2_with (go_at_call 30; with_reducible refine C.mono ?_; rintro e w3 ⟨hb3, v3, rfl, hi3⟩; obtain ⟨n3, s3, m3, q3, rfl⟩ := hi3.shape)
                          go_meet
                          exact ⟨BoxI.new hi3, rfl, hb3.alloc hb3.size _⟩
                        case rest =>
                          obtain ⟨q25, rfl, hbn⟩ := hcut
                          replace q3 := q3.below hbn
                          replace q4 := q4.below hbn
                          replace q5 := q5.below hbn
                          replace q7 := q7.below hbn
                          replace q9 := q9.below hbn
                          replace q11 := q11.below hbn
                          replace q13 := q13.below hbn
                          replace q15 := q15.below hbn
                          replace q17 := q17.below hbn
                          replace q19 := q19.below hbn
                          replace q21 := q21.below hbn
                          replace q23 := q23.below hbn
                          replace hbe := hbe.trans (hbn.mono hbe.size)
                          clear hbn
                          generalize wc = wX12 at *
                          go_upto_region 13 with (fail)
                          go_cut [27, 28] from 104 to 109 (fun v1 v2 W => BoxI W v1 (i * (j * k)) ∧ v2 = .int .i64 0 ∧ Below wX12.heap.size wX12 W)
                          case first =>
                            obtain ⟨nx, ax, mx, cx, rx, ix⟩ := q3.at
                            obtain ⟨by1, ny, ay, my, cy, rfl, ry, iy⟩ := q25
                            have x1 := rx.cell 0
                            have x2 := rx.cell 1
                            have x3 := ry.cell 0
                            have x4 := ry.cell 1
                            simp only [List.getElem?_cons_zero, List.getElem?_cons_succ] at x1 x2 x3 x4
                            have C := mul_int 61 (by decide) _ _ _ _ _ ix iy Bi B25 (.inl bi) B27
                            go_wp2_with (go_at_call 30; with_reducible refine C.mono ?_; rintro e w3 ⟨hb3, v3, rfl, hi3⟩; obtain ⟨n3, s3, m3, q3, rfl⟩ := hi3.shape)
                            go_meet
                            exact ⟨BoxI.new hi3, rfl, hb3.alloc hb3.size _⟩
                          case rest =>
                            obtain ⟨q27, rfl, hbn⟩ := hcut
                            replace q3 := q3.below hbn
                            replace q4 := q4.below hbn
                            replace q5 := q5.below hbn
                            replace q7 := q7.below hbn
                            replace q9 := q9.below hbn
                            replace q11 := q11.below hbn
                            replace q13 := q13.below hbn
                            replace q15 := q15.below hbn
                            replace q17 := q17.below hbn
                            replace q19 := q19.below hbn
                            replace q21 := q21.below hbn
                            replace q23 := q23.below hbn
                            replace q25 := q25.below hbn
                            replace hbe := hbe.trans (hbn.mono hbe.size)
                            clear hbn
                            generalize wc = wX13 at *
                            go_upto_region 14 with (fail)
                            go_cut [29, 30] from 110 to 115 (fun v1 v2 W => BoxI W v1 (i * (j + k)) ∧ v2 = .int .i64 0 ∧ Below wX13.heap.size wX13 W)
                            case first =>
                              obtain ⟨nx, ax, mx, cx, rx, ix⟩ := q3.at
                              obtain ⟨by1, ny, ay, my, cy, rfl, ry, iy⟩ := q13
                              have x1 := rx.cell 0
                              have x2 := rx.cell 1
                              have x3 := ry.cell 0
                              have x4 := ry.cell 1
                              simp only [List.getElem?_cons_zero, List.getElem?_cons_succ] at x1 x2 x3 x4
                              have C := mul_int 61 (by decide) _ _ _ _ _ ix iy Bi B13 (.inl bi) B29
                              go_wp2_with (go_at_call 30; with_reducible refine C.mono ?_; rintro e w3 ⟨hb3, v3, rfl, hi3⟩; obtain ⟨n3, s3, m3, q3, rfl⟩ := hi3.shape)
                              go_meet
                              exact ⟨BoxI.new hi3, rfl, hb3.alloc hb3.size _⟩
                            case rest =>
                              obtain ⟨q29, rfl, hbn⟩ := hcut
                              replace q3 := q3.below hbn
                              replace q4 := q4.below hbn
                              replace q5 := q5.below hbn
                              replace q7 := q7.below hbn
                              replace q9 := q9.below hbn
                              replace q11 := q11.below hbn
                              replace q13 := q13.below hbn
                              replace q15 := q15.below hbn
                              replace q17 := q17.below hbn
                              replace q19 := q19.below hbn
                              replace q21 := q21.below hbn
                              replace q23 := q23.below hbn
                              replace q25 := q25.below hbn
                              replace q27 := q27.below hbn
                              replace hbe := hbe.trans (hbn.mono hbe.size)
                              clear hbn
                              generalize wc = wX14 at *
                              go_upto_region 15 with (fail)
                              go_cut [31, 32] from 116 to 121 (fun v1 v2 W => BoxI W v1 (i * k) ∧ v2 = .int .i64 0 ∧ Below wX14.heap.size wX14 W)
                              case first =>
                                obtain ⟨nx, ax, mx, cx, rx, ix⟩ := q3.at
                                obtain ⟨ny, ay, my, cy, ry, iy⟩ := q5.at
                                have x1 := rx.cell 0
                                have x2 := rx.cell 1
                                have x3 := ry.cell 0
                                have x4 := ry.cell 1
                                simp only [List.getElem?_cons_zero, List.getElem?_cons_succ] at x1 x2 x3 x4
                                have C := mul_int 61 (by decide) _ _ _ _ _ ix iy Bi Bk (.inl bi) B31
                                go_wp2_with (go_at_call 30; with_reducible refine C.mono ?_; rintro e w3 ⟨hb3, v3, rfl, hi3⟩; obtain ⟨n3, s3, m3, q3, rfl⟩ := hi3.shape)
                                go_meet
                                exact ⟨BoxI.new hi3, rfl, hb3.alloc hb3.size _⟩
                              case rest =>
                                obtain ⟨q31, rfl, hbn⟩ := hcut
                                replace q3 := q3.below hbn
                                replace q4 := q4.below hbn
                                replace q5 := q5.below hbn
                                replace q7 := q7.below hbn
                                replace q9 := q9.below hbn
                                replace q11 := q11.below hbn
                                replace q13 := q13.below hbn
                                replace q15 := q15.below hbn
                                replace q17 := q17.below hbn
                                replace q19 := q19.below hbn
                                replace q21 := q21.below hbn
                                replace q23 := q23.below hbn
                                replace q25 := q25.below hbn
                                replace q27 := q27.below hbn
                                replace q29 := q29.below hbn
                                replace hbe := hbe.trans (hbn.mono hbe.size)
                                clear hbn
                                generalize wc = wX15 at *
                                go_upto_region 16 with (fail)
                                go_cut [33, 34] from 122 to 127 (fun v1 v2 W => BoxI W v1 (i * j + i * k) ∧ v2 = .int .i64 0 ∧ Below wX15.heap.size wX15 W)
                                case first =>
                                  obtain ⟨bx, nx, ax, mx, cx, rfl, rx, ix⟩ := q19
                                  obtain ⟨by1, ny, ay, my, cy, rfl, ry, iy⟩ := q31
                                  have x1 := rx.cell 0
                                  have x2 := rx.cell 1
                                  have x3 := ry.cell 0
                                  have x4 := ry.cell 1
                                  simp only [List.getElem?_cons_zero, List.getElem?_cons_succ] at x1 x2 x3 x4
                                  have C := sum_int _ _ _ _ _ ix iy B19 B31 B33
                                  go_wp2_with (go_at_call 28; with_reducible refine C.mono ?_; rintro e w3 ⟨hb3, v3, rfl, hi3⟩; obtain ⟨n3, s3, m3, q3, rfl⟩ := hi3.shape)
                                  go_meet
                                  exact ⟨BoxI.new hi3, rfl, hb3.alloc hb3.size _⟩
                                case rest =>
                                  obtain ⟨q33, rfl, hbn⟩ := hcut
                                  replace q3 := q3.below hbn
                                  replace q4 := q4.below hbn
                                  replace q5 := q5.below hbn
                                  replace q7 := q7.below hbn
                                  replace q9 := q9.below hbn
                                  replace q11 := q11.below hbn
                                  replace q13 := q13.below hbn
                                  replace q15 := q15.below hbn
                                  replace q17 := q17.below hbn
                                  replace q19 := q19.below hbn
                                  replace q21 := q21.below hbn
                                  replace q23 := q23.below hbn
                                  replace q25 := q25.below hbn
                                  replace q27 := q27.below hbn
                                  replace q29 := q29.below hbn
                                  replace q31 := q31.below hbn
                                  replace hbe := hbe.trans (hbn.mono hbe.size)
                                  clear hbn
                                  generalize wc = wX16 at *
                                  clear B11 B13 B15 B17 B19 B21 B23 B25 B27 B29 B31 B33 B7 B9 Bi Bj Bk b13 bi bj bk
                                  rw [Int.add_comm j i] at q9
                                  rw [← Int.add_assoc] at q15
                                  rw [Int.add_sub_cancel] at q17
                                  rw [Int.mul_comm j i] at q21
                                  rw [← Int.mul_assoc] at q27
                                  rw [Int.mul_add] at q29
                                  clear q4 q5 q13 q25 q31
                                  go_upto_region 17 with (fail)
                                  go_cut [142, 143, 144] from 128 to 141 (fun v1 v2 v3 W => (∃ b, v1 = .slice (some ⟨b, 0, none⟩) 14 14 ∧ ∀ q : Nat, q < 14 → W.cell? ⟨b, q, none⟩ = some (.int .i64 0)) ∧ v2 = .int .i64 14 ∧ v3 = .int .i64 0 ∧ Below wX16.heap.size wX16 W)
                                  case first =>
                                    go_wp2
                                    go_meet
                                    have h := RowAt.new wX16 27 [.int .i64 0, .int .i64 0, .int .i64 0, .int .i64 0, .int .i64 0, .int .i64 0, .int .i64 0, .int .i64 0, .int .i64 0, .int .i64 0, .int .i64 0, .int .i64 0, .int .i64 0, .int .i64 0]
                                    exact ⟨⟨_, rfl, fun q hq => (h.cell q).trans (zeros14 q hq)⟩, rfl, rfl, (Below.refl _ _).alloc (Nat.le_refl _) _⟩
                                  case rest =>
                                    obtain ⟨⟨bE, rfl, hE⟩, rfl, rfl, hbn⟩ := hcut
                                    replace q3 := q3.below hbn
                                    replace q7 := q7.below hbn
                                    replace q9 := q9.below hbn
                                    replace q11 := q11.below hbn
                                    replace q15 := q15.below hbn
                                    replace q17 := q17.below hbn
                                    replace q19 := q19.below hbn
                                    replace q21 := q21.below hbn
                                    replace q23 := q23.below hbn
                                    replace q27 := q27.below hbn
                                    replace q29 := q29.below hbn
                                    replace q33 := q33.below hbn
                                    replace hbe := hbe.trans (hbn.mono hbe.size)
                                    clear hbn
                                    generalize wc = wX17 at *
                                    go_wp2
                                    go_loopw [144] (fun i W => ∃ k : Nat, k ≤ 14 ∧ i = .int .i64 k ∧ W = wX17) (fun i _ => 14 - (intOf i).toNat)
                                    case atStart => exact ⟨0, Nat.zero_le _, rfl, rfl⟩
                                    case round =>
                                      obtain ⟨k, hk, rfl, rfl⟩ := hrel
                                      by_cases hlt : k < 14
                                      · have hc := hE k hlt
                                        clear q3 q7 q9 q11 q15 q17 q19 q21 q23 q27 q29 q33
                                        go_wp2
                                        exact ⟨⟨k + 1, by omega, by go_num, trivial⟩, by simp [intOf]; omega⟩
                                      · clear hE
                                        obtain rfl : k = 14 := by omega
                                        obtain ⟨n3, a3, m3, c3, r3, h3⟩ := q3.at
                                        obtain ⟨b7, n7, a7, m7, c7, rfl, r7, h7⟩ := q7
                                        obtain ⟨b9, n9, a9, m9, c9, rfl, r9, h9⟩ := q9
                                        obtain ⟨b11, n11, a11, m11, c11, rfl, r11, h11⟩ := q11
                                        obtain ⟨b15, n15, a15, m15, c15, rfl, r15, h15⟩ := q15
                                        obtain ⟨b17, n17, a17, m17, c17, rfl, r17, h17⟩ := q17
                                        obtain ⟨b19, n19, a19, m19, c19, rfl, r19, h19⟩ := q19
                                        obtain ⟨b21, n21, a21, m21, c21, rfl, r21, h21⟩ := q21
                                        obtain ⟨b23, n23, a23, m23, c23, rfl, r23, h23⟩ := q23
                                        obtain ⟨b27, n27, a27, m27, c27, rfl, r27, h27⟩ := q27
                                        obtain ⟨b29, n29, a29, m29, c29, rfl, r29, h29⟩ := q29
                                        obtain ⟨b33, n33, a33, m33, c33, rfl, r33, h33⟩ := q33
                                        go_wp2_with (first
                                          | (go_at_call 16; with_reducible refine (sane_any _ (hT.below hbe)).mono ?_; rintro e w0 ⟨H0, rfl⟩; have x7 := (r7.below H0).cell 0; have y7 := (r7.below H0).cell 1; simp only [List.getElem?_cons_zero, List.getElem?_cons_succ] at x7 y7; have x9 := (r9.below H0).cell 0; have y9 := (r9.below H0).cell 1; simp only [List.getElem?_cons_zero, List.getElem?_cons_succ] at x9 y9)
                                          | (go_at_call 25; with_reducible refine (rsame_eq _ _ _ _ (h7.below H0) (h9.below H0)).mono ?_; rintro e w1 ⟨hs0, rfl⟩; have H1 := H0.trans (hs0.mono H0.size); have x11 := (r11.below H1).cell 0; have y11 := (r11.below H1).cell 1; simp only [List.getElem?_cons_zero, List.getElem?_cons_succ] at x11 y11; have x15 := (r15.below H1).cell 0; have y15 := (r15.below H1).cell 1; simp only [List.getElem?_cons_zero, List.getElem?_cons_succ] at x15 y15)
                                          | (go_at_call 25; with_reducible refine (rsame_eq _ _ _ _ (h11.below H1) (h15.below H1)).mono ?_; rintro e w2 ⟨hs1, rfl⟩; have H2 := H1.trans (hs1.mono H1.size); have x17 := (r17.below H2).cell 0; have y17 := (r17.below H2).cell 1; simp only [List.getElem?_cons_zero, List.getElem?_cons_succ] at x17 y17; have x3 := (r3.below H2).cell 0; have y3 := (r3.below H2).cell 1; simp only [List.getElem?_cons_zero, List.getElem?_cons_succ] at x3 y3)
                                          | (go_at_call 25; with_reducible refine (rsame_eq _ _ _ _ (h17.below H2) (h3.below H2)).mono ?_; rintro e w3 ⟨hs2, rfl⟩; have H3 := H2.trans (hs2.mono H2.size); have x19 := (r19.below H3).cell 0; have y19 := (r19.below H3).cell 1; simp only [List.getElem?_cons_zero, List.getElem?_cons_succ] at x19 y19; have x21 := (r21.below H3).cell 0; have y21 := (r21.below H3).cell 1; simp only [List.getElem?_cons_zero, List.getElem?_cons_succ] at x21 y21)
                                          | (go_at_call 25; with_reducible refine (rsame_eq _ _ _ _ (h19.below H3) (h21.below H3)).mono ?_; rintro e w4 ⟨hs3, rfl⟩; have H4 := H3.trans (hs3.mono H3.size); have x23 := (r23.below H4).cell 0; have y23 := (r23.below H4).cell 1; simp only [List.getElem?_cons_zero, List.getElem?_cons_succ] at x23 y23; have x27 := (r27.below H4).cell 0; have y27 := (r27.below H4).cell 1; simp only [List.getElem?_cons_zero, List.getElem?_cons_succ] at x27 y27)
                                          | (go_at_call 25; with_reducible refine (rsame_eq _ _ _ _ (h23.below H4) (h27.below H4)).mono ?_; rintro e w5 ⟨hs4, rfl⟩; have H5 := H4.trans (hs4.mono H4.size); have x29 := (r29.below H5).cell 0; have y29 := (r29.below H5).cell 1; simp only [List.getElem?_cons_zero, List.getElem?_cons_succ] at x29 y29; have x33 := (r33.below H5).cell 0; have y33 := (r33.below H5).cell 1; simp only [List.getElem?_cons_zero, List.getElem?_cons_succ] at x33 y33)
                                          | (go_at_call 25; with_reducible refine (rsame_eq _ _ _ _ (h29.below H5) (h33.below H5)).mono ?_; rintro e w6 ⟨hs5, rfl⟩; have H6 := H5.trans (hs5.mono H5.size)))
                                        go_ret
                                        exact ⟨hbe.trans (H6.mono hbe.size), rfl⟩

end Go.Proofs.YtlghjfpkfdnfoaaDoor

/- Div, Gcd, Bits and powers of 2 at values -/
namespace Go.Proofs.YtlghjfpkfdnfoaaDoor
open Go Go.RowKit Go.Shelf

theorem divUpTo_all (K : Nat) : DivUpTo 90000 K := fun va vb xa xb w ha hb hka hkb la _ h0 => divide_any va vb xa xb w ha hb hka hkb la (by rintro rfl; simp [val] at h0)

set_option exponentiation.threshold 400 in
theorem div_int (va vb : Value) (i j : Int) (w : World) (ha : IsInt w va i) (hb : IsInt w vb j) (hi : i.natAbs < B32 ^ 300) (hj : j.natAbs < B32 ^ 300) (hj0 : j ≠ 0) :
    Calls Tryd.prog 35 #[va, vb] w fun e w' => Below w.heap.size w w' ∧ ∃ q r, e = .returned (.tuple #[q, r, .int .i64 0]) ∧ IsInt w' q (i.fdiv j) ∧ IsInt w' r (i.fmod j) :=
  Div_ok va vb i j 300 300 (divUpTo_le (divUpTo_all 300) (by omega) (by omega)) w ha hb hi hj hi hj hj0

/-- so many binary digits -/
def BitsIs (k n : Nat) : Prop := (n = 0 ∧ k = 0) ∨ (1 ≤ k ∧ 2 ^ (k - 1) ≤ n ∧ n < 2 ^ k)
theorem bitsIs_of {xs : List Nat} (h : Canon xs) : BitsIs (bitsOf xs) (val xs) := by
  by_cases hx : xs = []
  · subst hx; exact .inl ⟨rfl, rfl⟩
  · exact .inr (bitsOf_bounds h hx)
theorem bitsIs_unique {k m n : Nat} (h : BitsIs k n) (h' : BitsIs m n) : k = m := by
  have key : ∀ {k m : Nat}, 1 ≤ k → 2 ^ (k - 1) ≤ n → n < 2 ^ m → k ≤ m := fun {k m} h1 h2 h3 => by
    have := (Nat.pow_lt_pow_iff_right (show 1 < 2 by omega)).1 (Nat.lt_of_le_of_lt h2 h3)
    omega
  rcases h with ⟨h1, h2⟩ | ⟨h1, h2, h3⟩ <;> rcases h' with ⟨h4, h5⟩ | ⟨h4, h5, h6⟩
  · omega
  · subst h1; have : 0 < 2 ^ (m - 1) := Nat.pow_pos (by omega); omega
  · subst h4; have : 0 < 2 ^ (k - 1) := Nat.pow_pos (by omega); omega
  · have a := key h1 h2 h6
    have b := key h4 h5 h3
    omega
theorem bitsIs_mul {k m n s : Nat} (h : BitsIs k n) (h' : BitsIs m (n * 2 ^ s)) (hn : n ≠ 0) : m = k + s := by
  rcases h with ⟨h1, h2⟩ | ⟨h1, h2, h3⟩
  · exact absurd h1 hn
  · refine bitsIs_unique h' (.inr ⟨by omega, ?_, ?_⟩)
    · rw [show k + s - 1 = (k - 1) + s by omega, Nat.pow_add]; exact Nat.mul_le_mul_right _ h2
    · rw [Nat.pow_add]; exact Nat.mul_lt_mul_of_pos_right h3 (Nat.pow_pos (by omega))
theorem bitsIs_div {k m n s : Nat} (h : BitsIs k n) (h' : BitsIs m (n / 2 ^ s)) : m = k - s := by
  have hs : 0 < 2 ^ s := Nat.pow_pos (by omega)
  rcases h with ⟨h1, h2⟩ | ⟨h1, h2, h3⟩
  · subst h1
    refine bitsIs_unique h' (.inl ⟨by simp, by omega⟩)
  · rcases Nat.lt_or_ge s k with hlt | hge
    · refine bitsIs_unique h' (.inr ⟨by omega, ?_, ?_⟩)
      · rw [Nat.le_div_iff_mul_le hs, ← Nat.pow_add, show k - s - 1 + s = k - 1 by omega]; exact h2
      · rw [Nat.div_lt_iff_lt_mul hs, ← Nat.pow_add, show k - s + s = k by omega]; exact h3
    · have h4 : 2 ^ k ≤ 2 ^ s := Nat.pow_le_pow_right (by omega) hge
      refine bitsIs_unique h' (.inl ⟨Nat.div_eq_of_lt (by omega), by omega⟩)

set_option exponentiation.threshold 400 in
theorem bits_int (va : Value) (i : Int) (w : World) (ha : IsInt w va i) (hi : i.natAbs < B32 ^ 300) :
    Calls Tryd.prog 21 #[va] w fun e w' => Below w.heap.size w w' ∧ ∃ k : Nat, e = .returned (.tuple #[.int .i64 (k : Int), .int .i64 0]) ∧ BitsIs k i.natAbs ∧ k ≤ 9600 := by
  obtain ⟨na, xa, hA, fa, rfl, ca, -⟩ := ha.at hi
  rw [sgn_natAbs] at hi
  have hl := canon_length_le ca hi
  refine (Bits_any va na xa w hA (by omega)).mono ?_
  rintro e w' ⟨h1, rfl⟩
  refine ⟨h1, bitsOf xa, by rw [fa]; rfl, by rw [sgn_natAbs]; exact bitsIs_of ca, ?_⟩
  by_cases hx : xa = []
  · subst hx; simp [bitsOf]
  · have hb := bitsOf_bounds ca hx
    rw [B32_pow] at hi
    have := (Nat.pow_lt_pow_iff_right (show 1 < 2 by omega)).1 (Nat.lt_of_le_of_lt hb.2.1 hi)
    omega

set_option exponentiation.threshold 400 in
theorem pow_two (a : Value) (n : Nat) (w : World) (ha : IsInt w a 2) (hn : n ≤ 255) :
    Calls Tryd.prog 37 #[a, .int .i64 (n : Int)] w fun e w' => Below w.heap.size w w' ∧ ∃ v, e = .returned (.tuple #[v, .int .i64 0]) ∧ IsInt w' v ((2 : Int) ^ n) := by
  obtain ⟨hA, fA⟩ := IsInt.limb (neg := false) (x := 2) ha (by decide) (by decide)
  have hb : bitsOf [2] = 2 := by decide +kernel
  have hp : ∀ K, 8 ≤ K → val [2] ^ n < B32 ^ K := fun K hK => by rw [val_one, B32_pow]; exact Nat.pow_lt_pow_right (by omega) (by omega)
  refine (Pow_ok a [2] n 79 times_79 (by omega) w hA fA (by omega) (by rw [hb]; omega) (by rw [hb]; decide) (hp _ (by omega)) (hp _ (by omega))).mono ?_
  rintro e w' ⟨h1, v, rfl, h2⟩
  refine ⟨h1, v, rfl, ?_⟩
  rw [val_one] at h2
  exact h2

/-- an integer is 0 just without limbs -/
theorem isInt_zero {w : World} {n : Bool} {a : Option Addr} {m c : Nat} {i : Int} (h : IsInt w (.agg #[.bool n, .slice a m c]) i) : m = 0 ↔ i = 0 := by
  obtain ⟨neg, va, xs, e, hr, hc, hn, rfl⟩ := h
  simp only [Value.agg.injEq, Array.mk.injEq, List.cons.injEq, Value.bool.injEq, and_true] at e
  obtain ⟨rfl, rfl⟩ := e
  obtain ⟨a', c', e, -, -⟩ := hr.form
  simp only [Value.slice.injEq] at e
  obtain ⟨-, rfl, -⟩ := e
  have h1 := canon_pos_iff hc
  constructor
  · intro h
    have : val xs = 0 := by omega
    rw [this]; cases n <;> rfl
  · intro h
    have : val xs = 0 := by
      have := congrArg Int.natAbs h
      rwa [sgn_natAbs] at this
    omega

end Go.Proofs.YtlghjfpkfdnfoaaDoor
