/- integers by their values: Of, Same, Formed, Div, Pow, Gcd -/
import Derived.Test.YtlghjfpkfdnfoaaDoorNumMTextApi
import Derived.Test.YtlghjfpkfdnfoaaDoorNumMDivisor
import Derived.RangeFuncNested
import Derived.Test.YtlghjfpkfdnfoaaDoorNumMChg
import Derived.Test.YtlghjfpkfdnfoaaDoorNumMRefMade
import Derived.Lib.IndexBytes
import Derived.Test.YtlghjfpkfdnfoaaDoorNumMTimesPlus
import Derived.Test.YtlghjfpkfdnfoaaDoorNumMAttempt
namespace Go.Proofs.YtlghjfpkfdnfoaaDoor
open Go Go.RowKit Go.Shelf

theorem rof_int (i : Int) (w : World) (h1 : -9223372036854775808 ≤ i) (h2 : i ≤ 9223372036854775807) :
    Calls Tryd.prog 27 #[.int .i64 i] w fun e w' => Below w.heap.size w w' ∧ ∃ v, e = .returned v ∧ IsInt w' v i := by
  by_cases h : 0 ≤ i
  · obtain ⟨n, rfl⟩ := Int.eq_ofNat_of_zero_le h
    exact rof_nonneg n w (by omega)
  · obtain ⟨n, hn⟩ := Int.eq_ofNat_of_zero_le (show 0 ≤ -i by omega)
    obtain rfl : i = -(n : Int) := by omega
    exact rof_neg n w (by omega) (by omega)
theorem of_int (i : Int) (w : World) (h1 : -9223372036854775808 ≤ i) (h2 : i ≤ 9223372036854775807) :
    Calls Tryd.prog 26 #[.int .i64 i] w fun e w' => Below w.heap.size w w' ∧ ∃ v, e = .returned v ∧ IsInt w' v i := by
  by_cases h : 0 ≤ i
  · obtain ⟨n, rfl⟩ := Int.eq_ofNat_of_zero_le h
    exact Of_nonneg n w (by omega)
  · obtain ⟨n, hn⟩ := Int.eq_ofNat_of_zero_le (show 0 ≤ -i by omega)
    obtain rfl : i = -(n : Int) := by omega
    exact Of_neg n w (by omega) (by omega)

/-- the sign and the limbs of a value are its own -/
theorem sgn_inj {na nb : Bool} {xa xb : List Nat} (ca : Canon xa) (cb : Canon xb) (ha : (na && decide (0 < xa.length)) = na) (hb : (nb && decide (0 < xb.length)) = nb) : sgn na (val xa) = sgn nb (val xb) ↔ na = nb ∧ xa = xb := by
  constructor
  · intro h
    have pa := canon_pos_iff ca
    have pb := canon_pos_iff cb
    have hv : val xa = val xb := by rw [← sgn_natAbs na (val xa), h, sgn_natAbs]
    have hx := canon_inj ca cb hv
    subst hx
    refine ⟨?_, rfl⟩
    cases na <;> cases nb <;> simp_all [sgn]
    all_goals omega
  · rintro ⟨rfl, rfl⟩; rfl
theorem IsInt.at {w : World} {v : Value} {i : Int} (h : IsInt w v i) (hi : i.natAbs < B32 ^ 300) : ∃ neg xs, IntAt w v neg xs ∧ formedB neg xs = true ∧ i = sgn neg (val xs) ∧ Canon xs ∧ (neg && decide (0 < xs.length)) = neg := by
  obtain ⟨neg, va, xs, rfl, hr, hc, hn, rfl⟩ := h
  rw [sgn_natAbs] at hi
  refine ⟨neg, xs, ⟨va, rfl, hr, hc.1⟩, ?_, rfl, hc, hn⟩
  have hl := canon_length_le hc hi
  simp only [formedB, hl, hc.2, decide_true, Bool.true_and]
  cases neg with
  | false => rfl
  | true =>
    simp only [Bool.true_and, decide_eq_true_eq] at hn
    simp only [Bool.true_and, Bool.not_eq_true', decide_eq_false_iff_not]
    omega
theorem IsInt.intAt {w : World} {v : Value} {i : Int} (h : IsInt w v i) : ∃ neg xs, IntAt w v neg xs ∧ i = sgn neg (val xs) ∧ Canon xs ∧ (neg && decide (0 < xs.length)) = neg := by
  obtain ⟨neg, va, xs, rfl, hr, hc, hn, rfl⟩ := h
  exact ⟨neg, xs, ⟨va, rfl, hr, hc.1⟩, rfl, hc, hn⟩

theorem rsame_int (va vb : Value) (i j : Int) (w : World) (ha : IsInt w va i) (hb : IsInt w vb j) :
    Calls Tryd.prog 25 #[va, vb] w fun e w' => Below w.heap.size w w' ∧ e = .returned (.bool (decide (i = j))) := by
  obtain ⟨na, xa, hA, rfl, ca, la⟩ := ha.intAt
  obtain ⟨nb, xb, hB, rfl, cb, lb⟩ := hb.intAt
  refine (rsame_any va vb na nb xa xb w hA hB).mono ?_
  rintro e w' ⟨hbe, rfl⟩
  refine ⟨hbe, ?_⟩
  have h : sameB na nb xa xb = decide (sgn na (val xa) = sgn nb (val xb)) := by
    rw [Bool.eq_iff_iff]
    simp only [sameB, Bool.and_eq_true, decide_eq_true_eq]
    exact (sgn_inj ca cb la lb).symm
  rw [h]

set_option exponentiation.threshold 200000 in
theorem Div_ok (a b : Value) (i j : Int) (Ka Kb : Nat) (hD : DivUpTo Ka Kb) (w : World) (ha : IsInt w a i) (hb : IsInt w b j) (hi : i.natAbs < B32 ^ 300) (hj : j.natAbs < B32 ^ 300) (hiK : i.natAbs < B32 ^ Ka) (hjK : j.natAbs < B32 ^ Kb) (hj0 : j ≠ 0) :
    Calls Tryd.prog 35 #[a, b] w fun e w' => Below w.heap.size w w' ∧ ∃ q r, e = .returned (.tuple #[q, r, .int .i64 0]) ∧ IsInt w' q (i.fdiv j) ∧ IsInt w' r (i.fmod j) := by
  have ha0 := ha
  have hb0 := hb
  obtain ⟨na, xa, haA, fa, ei, ca, la⟩ := ha.at hi
  obtain ⟨nb, xb, hbA, fb, ej, cb, lb⟩ := hb.at hj
  have hxb : xb.length ≠ 0 := by
    intro h
    have : xb = [] := List.eq_nil_of_length_eq_zero h
    subst this
    apply hj0
    rw [ej]
    cases nb <;> rfl
  refine (Div_of a b na nb xa xb w haA hbA (i.fdiv j) (i.fmod j) (fun _ _ _ W hW => ?_)).mono ?_
  · refine floored_any a b i j W (ha0.below hW) (hb0.below hW) (Nat.lt_of_lt_of_le hi (Nat.pow_le_pow_right B32_pos (by omega))) (Nat.lt_of_lt_of_le hj (Nat.pow_le_pow_right B32_pos (by omega))) hj0 (fun va vb ya yb hcy hcz hvy hvz hry hrz W' hW' => ?_)
    exact hD va vb ya yb W' (hry.below hW') (hrz.below hW') hcy hcz (canon_length_le hcy (by rw [hvy]; exact hiK)) (canon_length_le hcz (by rw [hvz]; exact hjK)) (by rw [hvz]; omega)
  · rintro e W ⟨hbe, v1, v2, k, rfl, hd⟩
    simp only [DivOut, fa, fb, Bool.and_self, if_true, if_neg hxb] at hd
    obtain ⟨rfl, h1, h2⟩ := hd
    exact ⟨hbe, v1, v2, rfl, h1, h2⟩

theorem timesUpTo_le {K L : Nat} (h : TimesUpTo L) (hKL : K ≤ L) : TimesUpTo K := by
  intro va vb xa xb w ha hb hla hlb la lb
  exact h va vb xa xb w ha hb hla hlb (by omega) (by omega)
theorem divUpTo_le {Ka Kb La Lb : Nat} (h : DivUpTo La Lb) (h1 : Ka ≤ La) (h2 : Kb ≤ Lb) : DivUpTo Ka Kb := fun va vb xa xb w ha hb hka hkb la lb h0 => h va vb xa xb w ha hb hka hkb (by omega) (by omega) h0

end Go.Proofs.YtlghjfpkfdnfoaaDoor

/- A loop over an iterator that keeps its state in one box of its own. -/
namespace Go.Proofs.YtlghjfpkfdnfoaaDoor
open Go Go.RowKit

/-- an iterator over values x that keeps its state T in the box Bs, and never stops early -/
def SeqSt {α : Type} (F : Fence) (n : Nat) (P : Program) (g : Nat) (lb : Array Value) (encs : α → Array Value) (Kp : World → World → Prop) (S Sp : List α → Prop) (N Bs : Nat) (t : TypeId) (T : List α → Value) (w : World) : Prop :=
  ∀ (l : Nat) (J : List α → World → Prop) (W : World), Below w.heap.size w W → (∀ s A A', J s A → A.grownBy A' (some Bs) → J s A') →
    (∀ pre x A, J pre A → Boxed A Bs t (T (pre ++ [x])) → pre.length < N → Sp (pre ++ [x]) → YieldAt F (n - 1) P l (encs x) A fun e A' => e = .returned (.bool true) ∧ J (pre ++ [x]) A' ∧ Kp A A') →
    J [] W → CallsIn F n P g (#[.func (.yield l) #[] #[]] ++ lb) W fun e W' => (∃ v, e = .returned v) ∧ ∃ xs, S xs ∧ J xs W'

/-- how a round of it is left -/
def stPost {α : Type} (B : Nat) (Kp : World → World → Prop) (I : List α → World → Prop) (xs : List α) (W : World) : Exit → Act → World → Prop
  | .normal, _, W' => KeepsFrom B W W' ∧ Kp W W' ∧ I xs W'
  | _, _, _ => False

variable {F : Fence} {n : Nat} {P : Program} {w : World}

theorem wpIn_rangeFunc_st {α : Type} {g : Operand} {ps : Array Tmp} {assign body : Code} {Q : Exit → Act → World → Prop} {a : Act}
    (hro : F.round = none) (h1 : 1 ≤ n) {gf : Nat} {lb : Array Value} (hg : a.eval g = .func (.func gf) #[] lb) (hFg : F.fn gf) (eg : ∀ args w, (callFunc gf args).run P w = .ok (.enter gf args) w)
    {encs : α → Array Value} {Kp : World → World → Prop} {S Sp : List α → Prop} {N Bs : Nat} {t : TypeId} {T : List α → Value} {w0 : World} (hseq : SeqSt F (n - 1) P gf lb encs Kp S Sp N Bs t T w0)
    (hKt : ∀ {A B C : World}, Kp A B → Kp B C → Kp A C) (hKb : ∀ (W : World) (l : Nat) (o o' : Obj), w.heap.size ≤ l → W.heap[l]? = some o → o.isCells = false → o.isWalk = false → Kp W (W.putObj l o')) (hb0 : Below w0.heap.size w0 w) (hps : ∀ x, (encs x).size = ps.size)
    (hBs : Bs < w.heap.size) (I : List α → World → Prop) (hI : ∀ s A A' row, I s A → A.grownBy A' row → (∀ r, row = some r → r = Bs ∨ (w.heap.size ≤ r ∧ ∃ o : Obj, A.heap[r]? = some o ∧ o.isCells = false)) → I s A') (h0 : I [] w) (a₁ : α → Act)
    (hassign : ∀ (l : Nat) (x : α) (W : World) (K : Act → World → Prop), K (a₁ x) W →
      assign.wpIn (F.inRound l) (n - 1 - 1) P (Exit.then K (fun _ _ _ => False)) { tmps := (ps.zip (encs x)).foldl (fun t (p, v) => t.setIfInBounds p v) a.tmps, defers := [] } W)
    (hbody : ∀ (l : Nat) (pre : List α) (x : α) (W : World), I pre W → Boxed W Bs t (T (pre ++ [x])) → pre.length < N → Sp (pre ++ [x]) → body.wpIn (F.inRound l) (n - 1 - 1) P (stPost w.heap.size Kp I (pre ++ [x]) W) (a₁ x) W)
    (hdone : ∀ (D : Nat) (xs : List α) (W : World), w.heap.size ≤ D → S xs → I xs W → W.heap[D]? = some (.deferred (some [])) → Q .normal { a with defers := { target := .collected D, args := #[] } :: a.defers } W) :
    (Code.rangeFunc g ps assign body).wpIn F n P Q a w := by
  apply wpIn_rangeFunc
  intro fn hfn
  rw [hro]
  let rec' : LoopState → Option Code → Loop := fun st pe => { state := st, pending := pe, fn, tmps := a.tmps, params := ps, assign, body, defers := w.heap.size }
  have hsD : (w.alloc (.deferred (some []))).heap.size = w.heap.size + 1 := World.size_alloc _ _
  generalize hW1 : (w.alloc (.deferred (some []))).alloc (.loop (rec' .ready none)) = W1
  have hL1 : W1.heap[w.heap.size + 1]? = some (.loop (rec' .ready none)) := by
    rw [← hW1, ← hsD]
    exact World.alloc_heap_new _ _
  have hK1 : W1.heap[w.heap.size]? = some (.deferred (some [])) := by
    rw [← hW1]
    exact (Below.heap_alloc _ _ _ (by omega)).trans (World.alloc_heap_new w _)
  have hI1 : I [] W1 := by
    rw [← hW1]
    exact hI _ _ _ none (hI _ _ _ none h0 (World.grownBy_alloc w _ none) (fun r e => by cases e)) (World.grownBy_alloc _ _ none) (fun r e => by cases e)
  have hb1 : Below w0.heap.size w0 W1 := by
    rw [← hW1]
    exact hb0.trans ((((Below.refl _ w).alloc (Nat.le_refl _) _).alloc (by omega) _).mono hb0.size)
  refine ⟨w.heap.size + 1, [{ target := .collected w.heap.size, args := #[] }], W1, { target := .fn (.func gf) lb, args := #[.func (.yield (w.heap.size + 1)) #[] #[]] }, W1, gf,
    #[.func (.yield (w.heap.size + 1)) #[] #[]] ++ lb, W1, ?_, ?_, ?_, ?_, fun _ => h1, ?_⟩
  · rw [← hW1]
    exact run_enterLoop_outer _ _ _ _ _
  · simp only [resolve, hg]
    simp [go_sem]
  · intro f' hf'
    simp only [Target.leads, Option.some.injEq] at hf'
    subst hf'
    exact hFg
  · simp [invoke, go_sem, eg]
  have hne : w.heap.size + 1 ≠ Bs ∧ w.heap.size ≠ Bs := ⟨by omega, by omega⟩
  refine (hseq (w.heap.size + 1) (fun pre W => I pre W ∧ W.heap[w.heap.size + 1]? = some (.loop (rec' .ready none)) ∧ W.heap[w.heap.size]? = some (.deferred (some []))) W1 hb1 ?_ ?_ ⟨hI1, hL1, hK1⟩).mono ?_
  · rintro s A A' ⟨ha, hl, hk⟩ hgr
    refine ⟨hI s A A' (some Bs) ha hgr (fun r e => by cases e; exact .inl rfl), ?_, ?_⟩
    · rw [hgr.block _ (Array.getElem?_eq_some_iff.1 hl).1 (by simp; omega)]; exact hl
    · rw [hgr.block _ (Array.getElem?_eq_some_iff.1 hk).1 (by simp; omega)]; exact hk
  · rintro pre x W ⟨hi, hl, hk⟩ hbox hlen hsp
    have hlt : w.heap.size + 1 < W.heap.size := (Array.getElem?_eq_some_iff.1 hl).1
    have hput : ∀ (A : World) (s : List α) (l : Nat) (o o' : Obj), I s A → w.heap.size ≤ l → A.heap[l]? = some o → o.isCells = false → I s (A.putObj l o') := fun A s l o o' hs hB hl ho =>
      hI s A _ (some l) hs (grownBy_putObj' A l o') (fun r e => by cases e; exact .inr ⟨hB, o, hl, ho⟩)
    refine ⟨fn, _, assign, body, run_yield hl (hps x), roundIn_of_wpIn hfn (hassign _ x W _ ⟨_, run_beginRound hl rfl, ?_⟩)⟩
    generalize hW2 : W.putObj (w.heap.size + 1) (.loop { rec' .ready none with state := .busy }) = W2
    have hl2 : W2.heap[w.heap.size + 1]? = some (.loop { rec' .ready none with state := .busy }) := by rw [← hW2]; exact World.putObj_heap_same hlt
    have hk2 : W2.heap[w.heap.size]? = some (.deferred (some [])) := by rw [← hW2]; exact (World.putObj_heap_other (by omega)).trans hk
    have hb2 : Boxed W2 Bs t (T (pre ++ [x])) := by rw [← hW2]; exact (World.putObj_heap_other (by omega)).trans hbox
    have hi2 : I pre W2 := by rw [← hW2]; exact hput _ _ _ _ _ hi (by omega) hl rfl
    have hw2 : Kp W W2 := by rw [← hW2]; exact hKb _ _ _ _ (by omega) hl rfl rfl
    refine wpIn_mono (hbody _ pre x W2 hi2 hb2 hlen hsp) ?_
    rintro e a3 W3 hp
    cases e with
    | normal =>
      obtain ⟨hk3, hkp3, hi3⟩ := hp
      have hl3 := hk3.same _ _ (by omega) hl2 rfl
      have hd3 := hk3.same _ _ (Nat.le_refl _) hk2 rfl
      exact ⟨_, _, run_endRound none hl3, rfl, ⟨hput _ _ _ _ _ hi3 (by omega) hl3 rfl, World.putObj_heap_same (Array.getElem?_eq_some_iff.1 hl3).1, (World.putObj_heap_other (by omega)).trans hd3⟩, hKt (hKt hw2 hkp3) (hKb _ _ _ _ (by omega) hl3 rfl rfl)⟩
    | ret => exact hp.elim
    | exit id => exact hp.elim
    | goto t => exact hp.elim
    | panic ch => exact hp.elim
    | outgrown => exact hp.elim
  · rintro e W2 ⟨⟨v, rfl⟩, xs, hS, hi, hl, hk⟩
    refine ⟨none, _, run_endLoop hl (by simp [rec']), hdone _ xs _ (Nat.le_refl _) hS ?_ ((World.putObj_heap_other (by omega)).trans hk)⟩
    exact hI _ _ _ (some (w.heap.size + 1)) hi (grownBy_putObj' _ _ _) (fun r e => by cases e; exact .inr ⟨by omega, _, hl, rfl⟩)

end Go.Proofs.YtlghjfpkfdnfoaaDoor

/- num.chunks, what it gives -/
namespace Go.Proofs.YtlghjfpkfdnfoaaDoor
open Go Go.RowKit Go.Shelf
attribute [local go_sem] Oper.semAt_some

/-- the number of a text to a base -/
def numBE (b : Nat) (l : List UInt8) : Nat := l.foldl (fun v c => v * b + digitVal c.toNat) 0
theorem foldBE (b : Nat) (l : List UInt8) (z : Nat) : l.foldl (fun v c => v * b + digitVal c.toNat) z = z * b ^ l.length + numBE b l := by
  unfold numBE
  induction l generalizing z with
  | nil => simp
  | cons c l ih =>
    simp only [List.foldl_cons, List.length_cons]
    rw [ih, ih (0 * b + digitVal c.toNat), Nat.pow_succ]
    simp only [Nat.zero_mul, Nat.zero_add, Nat.add_mul]
    rw [Nat.mul_assoc z b, Nat.mul_comm b, Nat.add_assoc]
theorem numBE_append (b : Nat) (xs ys : List UInt8) : numBE b (xs ++ ys) = numBE b xs * b ^ ys.length + numBE b ys := by
  rw [numBE, List.foldl_append]
  exact foldBE b ys _
theorem numBE_snoc (b : Nat) (xs : List UInt8) (c : UInt8) : numBE b (xs ++ [c]) = numBE b xs * b + digitVal c.toNat := by
  rw [numBE_append]
  simp [numBE]
theorem numBE_lt {b : Nat} (l : List UInt8) (h : ∀ c ∈ l, digitVal c.toNat < b) : numBE b l < b ^ l.length := by
  induction l using snoc_ind with
  | h0 => simp [numBE]
  | h1 l c ih =>
    have h1 := ih (fun x hx => h x (by simp [hx]))
    have h2 := h c (by simp)
    rw [numBE_snoc, List.length_append, List.length_singleton, Nat.pow_succ]
    calc numBE b l * b + digitVal c.toNat < numBE b l * b + b := by omega
      _ = (numBE b l + 1) * b := by rw [Nat.add_mul, Nat.one_mul]
      _ ≤ b ^ l.length * b := Nat.mul_le_mul_right _ h1
/-- the piece k of a text, m digits long -/
def pieceAt (m : Nat) (l : List UInt8) (k : Nat) : List UInt8 := (l.drop (m * k)).take m
theorem take_piece (m : Nat) (l : List UInt8) (k : Nat) : l.take (m * (k + 1)) = l.take (m * k) ++ pieceAt m l k := by
  rw [pieceAt, Nat.mul_succ, List.take_add]
theorem piece_length (m : Nat) (l : List UInt8) (k : Nat) : (pieceAt m l k).length = min m (l.length - m * k) := by simp [pieceAt]

/-- a chunk: the base to the power of its length, its value -/
abbrev IdxChunk := { p : Nat × Nat // p.1 < B32 ∧ p.2 < B32 }
def encChunk (p : IdxChunk) : Array Value := #[.int .u32 (p.1.1 : Int), .int .u32 (p.1.2 : Int)]
def chunkAt (b m : Nat) (l : List UInt8) (k : Nat) : Nat × Nat := (b ^ (pieceAt m l k).length, numBE b (pieceAt m l k))
def strLen : Option Value → Nat
  | some (.string s) => s.size
  | _ => 0
/-- what is left behind so many chunks -/
def restAt (m : Nat) (l : List UInt8) (k : Nat) : ByteArray := ⟨(l.drop (m * k)).toArray⟩
theorem restAt_size (m : Nat) (l : List UInt8) (k : Nat) : (restAt m l k).size = l.length - m * k := by simp [restAt, ByteArray.size]
theorem restAt_toList (m : Nat) (l : List UInt8) (k : Nat) : (restAt m l k).data.toList = l.drop (m * k) := by simp [restAt]
theorem bytes_ext {s t : ByteArray} (h : s.data.toList = t.data.toList) : s = t := by
  obtain ⟨⟨a⟩⟩ := s
  obtain ⟨⟨c⟩⟩ := t
  simp at h
  rw [h]
theorem restAt_next (m : Nat) (l : List UInt8) (k : Nat) : (restAt m l k).extract (min m (l.length - m * k)) (l.length - m * k) = restAt m l (k + 1) := by
  apply bytes_ext
  have h := Lib.extract_to_end (restAt m l k) (min m (l.length - m * k))
  rw [restAt_size] at h
  rw [h, restAt_toList, restAt_toList, List.drop_drop, Nat.mul_succ]
  by_cases hc : m ≤ l.length - m * k
  · rw [Nat.min_eq_left hc]
  · rw [Nat.min_eq_right (by omega), List.drop_eq_nil_of_le (by omega), List.drop_eq_nil_of_le (by omega)]

set_option maxRecDepth 100000 in
set_option maxHeartbeats 4000000 in
theorem chunks1_in (b m : Nat) (l : List UInt8) (h2 : 2 ≤ b) (h36 : b ≤ 36) (hm1 : 1 ≤ m) (hM : b ^ m < B32) (hM1 : B32 ≤ b ^ (m + 1)) (hl : l.length ≤ 1000000) (hdig : ∀ c ∈ l, digitVal c.toNat < b) (y Bb Bs : Nat)
    (J : List IdxChunk → World → Prop) (hJ : ∀ s A A', J s A → A.grownBy A' (some Bs) → J s A')
    (hY : ∀ pre x A, J pre A → Boxed A Bs 9 (.string (restAt m l (pre ++ [x]).length)) → pre.length < 1000000 → ((pre ++ [x]).map (·.1) = (List.range (pre ++ [x]).length).map (chunkAt b m l)) → YieldAt Fence.wide (8 - 1) Tryd.prog y (encChunk x) A fun e A' => e = .returned (.bool true) ∧ J (pre ++ [x]) A' ∧ A'.heap[Bb]? = A.heap[Bb]? ∧ A'.heap[Bs]? = A.heap[Bs]?)
    (W : World) (hb : Boxed W Bb 3 (.int .i64 (b : Int))) (hs : Boxed W Bs 9 (.string (restAt m l 0))) (hne : Bb ≠ Bs) (h0 : J [] W) :
    CallsIn Fence.wide 8 Tryd.prog 131 #[.func (.yield y) #[] #[], .pointer (some ⟨Bb, 0, none⟩), .pointer (some ⟨Bs, 0, none⟩)] W fun e W' => (∃ v, e = .returned v) ∧
      ∃ xs : List IdxChunk, (xs.map (·.1) = (List.range xs.length).map (chunkAt b m l) ∧ l.length ≤ m * xs.length) ∧ J xs W' := by
  have hbc := hb.cell
  refine callsIn_of_wp Tryd.func131 rfl trivial ?_ rfl
  simp only [Tryd.ntmps131, List.size_toArray, List.length_cons, List.length_nil, Nat.reduceAdd, Nat.reduceSub, Array.replicate_succ, Array.replicate_zero, List.push_toArray, List.append_toArray, List.nil_append, List.cons_append]
  have HM := Lib.hid (And.intro hM hM1)
  obtain ⟨U, hU⟩ : ∃ U, b ^ m = U := ⟨_, rfl⟩
  have hch := chunk_at b m W h2 h36 hM hM1
  rw [hU] at hch
  have HC := Lib.hid hch
  clear hch hM hM1 hU
  gi_wp2_with (refine ⟨trivial, ?_⟩; gi_at_call 111; refine (callsIn_wide.2 HC.out).mono ?_; rintro e w' ⟨rfl, rfl⟩)
  gi_loopw [6] (fun _ wr => ∃ pre : List IdxChunk, pre.map (·.1) = (List.range pre.length).map (chunkAt b m l) ∧ pre.length ≤ l.length ∧ J pre wr ∧ Boxed wr Bb 3 (.int .i64 (b : Int)) ∧ Boxed wr Bs 9 (.string (restAt m l pre.length))) (fun _ W => strLen (W.cell? ⟨Bs, 0, none⟩))
  case atStart => exact ⟨[], rfl, by simp, h0, hb, hs⟩
  case round =>
    obtain ⟨pre, hpre, hpl, hJ1, hb1, hs1⟩ := hrel
    obtain ⟨k, hk⟩ : ∃ k, pre.length = k := ⟨_, rfl⟩
    rw [hk] at hs1 hpl
    obtain ⟨L, hL⟩ : ∃ L, l.length - m * k = L := ⟨_, rfl⟩
    have hsz : (restAt m l k).size = L := by rw [restAt_size, hL]
    have hrl := restAt_toList m l k
    have hnx := restAt_next m l k
    rw [hL] at hnx
    have hpl2 := piece_length m l k
    rw [hL] at hpl2
    have hc1 := hs1.cell
    have hf1 := hs1.frozen
    have hc2 := hb1.cell
    by_cases hlt : 0 < L
    · have HP := Lib.hid (And.intro hpre (And.intro hk (And.intro hL (And.intro hnx (And.intro hpl2 hrl)))))
      have HS := Lib.hid hsz
      clear hpre hk hL hnx hpl2 hrl
      obtain ⟨r, hr⟩ : ∃ r, restAt m l k = r := ⟨_, rfl⟩
      rw [hr] at hc1 hsz
      have HR := Lib.hid hr
      have hrL : r.size = L := hsz
      clear hr hsz
      have hLb : L ≤ 1000000 := by have := HP.out.2.2.1; omega
      have hmnB : min m L ≤ 1000000 := by omega
      gi_wp2
      rw [show min (m : Int) (L : Int) = ((min m L : Nat) : Int) by omega]
      obtain ⟨mn, hmn⟩ : ∃ mn, min m L = mn := ⟨_, rfl⟩
      rw [hmn] at hmnB ⊢
      have hmnL : mn ≤ L := by omega
      have HMN := Lib.hid hmn
      obtain ⟨pc, hpc⟩ : ∃ pc, pieceAt m l k = pc := ⟨_, rfl⟩
      have hpcl : pc.length = mn := by rw [← hpc, HP.out.2.2.2.2.1, hmn]
      have hpcd : ∀ c ∈ pc, digitVal c.toNat < b := fun c hc => hdig c (by rw [← hpc, pieceAt] at hc; exact List.mem_of_mem_drop (List.mem_of_mem_take hc))
      have hpcr : ∀ j, j < mn → ∃ hj : j < r.size, r[j] = pc[j]! := fun j hj => by
        refine ⟨by omega, ?_⟩
        have e1 : r.data.toList = l.drop (m * k) := by rw [← HR.out]; exact HP.out.2.2.2.2.2
        have e2 : r.data.toList[j]? = some (r[j]'(by omega)) := by
          have hs : j < r.data.size := by have : r.data.size = r.size := rfl; omega
          rw [Array.getElem?_toList, Array.getElem?_eq_getElem hs]
          rfl
        have e4 : (pieceAt m l k)[j]? = r.data.toList[j]? := by
          rw [pieceAt, List.getElem?_take, if_pos (by omega), ← e1]
        have e3 : pc[j]? = some (r[j]'(by omega)) := by
          rw [hpc] at e4
          exact e4.trans e2
        have hjp : j < pc.length := by rw [hpcl]; exact hj
        rw [getElem!_pos pc j hjp]
        rw [List.getElem?_eq_getElem hjp] at e3
        exact (Option.some.inj e3).symm
      have HPC := Lib.hid (And.intro hpc (And.intro hpcl (And.intro hpcd hpcr)))
      clear hmn hpc hpcl hpcd hpcr
      gi_loopw [6, 7, 21] (fun u v i W => ∃ j : Nat, j ≤ mn ∧ i = .int .i64 j ∧ u = .int .u64 ((b ^ j : Nat) : Int) ∧ v = .int .u64 ((numBE b (pc.take j) : Nat) : Int) ∧ ∃ nq, W = wr.drewN nq) (fun _ _ i _ => mn - (intOf i).toNat)
      case atStart => exact ⟨0, Nat.zero_le _, rfl, by simp, by simp [numBE], 0, rfl⟩
      case round =>
        obtain ⟨j, hj, rfl, rfl, rfl, nq, rfl⟩ := hrel
        have c1 : (wr.drewN nq).cell? ⟨Bs, 0, none⟩ = some (.string r) := hc1
        have c2 : (wr.drewN nq).cell? ⟨Bb, 0, none⟩ = some (.int .i64 (b : Int)) := hc2
        by_cases hjm : j < mn
        · obtain ⟨hjr, hjc⟩ := HPC.out.2.2.2 j hjm
          obtain ⟨P1, hP1⟩ : ∃ P1, b ^ j = P1 := ⟨_, rfl⟩
          obtain ⟨V1, hV1⟩ : ∃ V1, numBE b (pc.take j) = V1 := ⟨_, rfl⟩
          rw [hP1, hV1]
          have hmnm : mn ≤ m := by have := HMN.out; omega
          have hPlt : b ^ (j + 1) < B32 := Nat.lt_of_le_of_lt (Nat.pow_le_pow_right (by omega) (by omega)) HM.out.1
          have hcm : pc[j]! ∈ pc := by
            have := HPC.out.2.1
            rw [getElem!_pos pc j (by omega)]
            exact List.getElem_mem _
          have hdlt := HPC.out.2.2.1 _ hcm
          have htk : pc.take (j + 1) = pc.take j ++ [pc[j]!] := by
            have := HPC.out.2.1
            rw [List.take_succ_eq_append_getElem (by omega), getElem!_pos pc j (by omega)]
          have hVn : numBE b (pc.take (j + 1)) = V1 * b + digitVal r[j].toNat := by rw [htk, numBE_snoc, hV1, hjc]
          have hVlt : numBE b (pc.take (j + 1)) < B32 := by
            refine Nat.lt_of_lt_of_le (numBE_lt _ (fun c hc => HPC.out.2.2.1 c (List.mem_of_mem_take hc))) (Nat.le_of_lt (Nat.lt_of_le_of_lt (Nat.pow_le_pow_right (by omega) ?_) hPlt))
            have := List.length_take_le (j + 1) pc
            omega
          rw [← hjc] at hdlt
          have hP2 : b ^ (j + 1) = P1 * b := by rw [← hP1, Nat.pow_succ]
          have hix : ∀ W, (Instr.index 9 (.string r) (.int .i64 (j : Int))).run Tryd.prog W = .ok (.int .u8 ((r[j].toNat : Nat) : Int)) W := fun W => by
            simp [go_sem, hjr]
          obtain ⟨c, hc⟩ : ∃ c, r[j].toNat = c := ⟨_, rfl⟩
          have hc256 : c < 256 := by rw [← hc]; exact r[j].toNat_lt
          rw [hc] at hix hVn hdlt
          obtain ⟨d, hdd⟩ : ∃ d, digitVal c = d := ⟨_, rfl⟩
          rw [hdd] at hVn hdlt
          obtain ⟨P2, hP2'⟩ : ∃ P2, P1 * b = P2 := ⟨_, rfl⟩
          obtain ⟨V2, hV2⟩ : ∃ V2, V1 * b = V2 := ⟨_, rfl⟩
          rw [hP2'] at hP2
          rw [hV2] at hVn
          have w1 : IntKind.u64.wrap ((P1 : Int) * (b : Int)) = (P2 : Int) := by rw [← Int.natCast_mul, hP2', IntKind.wrap_u64]; unfold B32 at hPlt; omega
          have w2 : IntKind.u64.wrap ((V1 : Int) * (b : Int)) = (V2 : Int) := by rw [← Int.natCast_mul, hV2, IntKind.wrap_u64]; unfold B32 at hVlt; omega
          have w3 : IntKind.u64.wrap (d : Int) = (d : Int) := by rw [IntKind.wrap_u64]; omega
          have w4 : IntKind.u64.wrap ((V2 : Int) + (d : Int)) = ((V2 + d : Nat) : Int) := by rw [IntKind.wrap_u64]; unfold B32 at hVlt; omega
          have hdg := fun W => digitOf_any c W hc256
          rw [hdd] at hdg
          have HDG := Lib.hid hdg
          have HPV := Lib.hid (And.intro hP2 hVn)
          clear hjc hmnm hPlt hcm hdlt htk hVn hVlt hP2 hc hc256 hdd hP2' hV2 hdg hP1 hV1 hjr
          gi_wp2_with fail
          refine region_round (.inl rfl) (by kernel_rfl) (by kernel_rfl) ?_
          repeat (go_big_quiet_step (exact (HDG.out _).mono (fun e w' ⟨h1, h2⟩ => ⟨h2, _, h1.symm⟩)))
          refine wpQuiet_nil ?_
          rintro _ ⟨nq2, rfl⟩
          gi_wp2
          exact ⟨⟨j + 1, by omega, by go_num, by rw [HPV.out.1], by rw [HPV.out.2, Int.natCast_add], _, rfl⟩, by simp [intOf]; omega⟩
        · obtain rfl : j = mn := by omega
          have hml := HMN.out
          have hx1 : b ^ j < B32 := Nat.lt_of_le_of_lt (Nat.pow_le_pow_right (by omega) (by omega)) HM.out.1
          have htk : pc.take j = pc := List.take_of_length_le (by rw [HPC.out.2.1]; exact Nat.le_refl _)
          have hx2 : numBE b pc < B32 := Nat.lt_trans (numBE_lt _ HPC.out.2.2.1) (by rw [HPC.out.2.1]; exact hx1)
          have hck : chunkAt b m l k = (b ^ j, numBE b pc) := by rw [chunkAt, HPC.out.1, HPC.out.2.1]
          have hrx : r.extract j L = restAt m l (k + 1) := by rw [← HR.out, ← HP.out.2.2.2.1, HMN.out]
          have hpk := HP.out.2.1
          have hkl := HP.out.2.2.1
          rw [htk]
          obtain ⟨P1, hP1⟩ : ∃ P1, b ^ j = P1 := ⟨_, rfl⟩
          obtain ⟨V1, hV1⟩ : ∃ V1, numBE b pc = V1 := ⟨_, rfl⟩
          rw [hP1] at hx1 hck ⊢
          rw [hV1] at hx2 hck ⊢
          have hJ2 : J pre ((wr.drewN nq).setCell ⟨Bs, 0, none⟩ (.string (restAt m l (k + 1)))) := hJ _ (wr.drewN nq) _ (hJ _ wr (wr.drewN nq) hJ1 ⟨rfl, rfl, rfl, Nat.le_refl _, fun _ _ _ => rfl⟩) (grownBy_setCell' _ _ _)
          have hB2 : Boxed ((wr.drewN nq).setCell ⟨Bs, 0, none⟩ (.string (restAt m l (k + 1)))) Bs 9 (.string (restAt m l (pre ++ [(⟨(P1, V1), hx1, hx2⟩ : IdxChunk)]).length)) := by
            rw [List.length_append, List.length_singleton, hpk]
            exact Boxed.set _ (show Boxed (wr.drewN nq) Bs _ _ from hs1)
          have hkm : k ≤ m * k := Nat.le_mul_of_pos_left k hm1
          have hmap : (pre ++ [(⟨(P1, V1), hx1, hx2⟩ : IdxChunk)]).map (·.1) = (List.range (pre ++ [(⟨(P1, V1), hx1, hx2⟩ : IdxChunk)]).length).map (chunkAt b m l) := by
            rw [List.map_append, HP.out.1, List.length_append, List.length_singleton, List.range_succ, List.map_append, hpk]
            simp only [List.map_cons, List.map_nil]
            rw [hck]
          obtain ⟨fn, tmps, assign, body, hy, hRo⟩ := hY pre ⟨(P1, V1), hx1, hx2⟩ _ hJ2 hB2 (by rw [hpk]; omega) hmap
          have HMAP := Lib.hid hmap
          clear hmap
          simp only [encChunk] at hy
          have w1 : IntKind.u32.wrap (P1 : Int) = (P1 : Int) := by rw [IntKind.wrap_u32']; unfold B32 at hx1; omega
          have w2 : IntKind.u32.wrap (V1 : Int) = (V1 : Int) := by rw [IntKind.wrap_u32']; unfold B32 at hx2; omega
          have hfB : (wr.drewN nq).frozen? ⟨Bs, 0, none⟩ = false := hf1 
          have hmin : min (m : Int) (L : Int) = (j : Int) := by omega
          have HX := Lib.hid (And.intro hml (And.intro htk (And.intro hck (And.intro hpk (And.intro hkl (And.intro hP1 hV1))))))
          have HR2 := Lib.hid hRo
          clear hml htk hck hpk hkl hP1 hV1 hkm hB2 hJ2 hRo HPC HMN HR
          gi_wp2_with fail
          refine HR2.out.mono ?_
          rintro e W3 ⟨rfl, hJ3, hbe3, hs3⟩
          have hB3 : Boxed W3 Bs 9 (.string (restAt m l (k + 1))) := hs3.trans (Boxed.set _ (show Boxed (wr.drewN nq) Bs _ _ from hs1))
          have hb3 : Boxed W3 Bb 3 (.int .i64 (b : Int)) := hbe3.trans (Boxed.other (show Boxed (wr.drewN nq) Bb _ _ from hb1) hne _)
          have hc3 := hB3.cell
          have hms : strLen (W3.cell? ⟨Bs, 0, none⟩) < strLen (wr.cell? ⟨Bs, 0, none⟩) := by
            rw [hc3, hc1]
            show (restAt m l (k + 1)).size < r.size
            have := HX.out.2.2.2.2.1
            rw [restAt_size, hrL, ← this, Nat.mul_succ]
            omega
          clear hc3 hs3
          gi_wp2_with fail
          have hpk := HX.out.2.2.2.1
          refine ⟨⟨pre ++ [_], ?_, ?_, hJ3, hb3, ?_⟩, hms⟩
          · exact HMAP.out
          · rw [List.length_append, List.length_singleton, hpk]
            have hkm : k ≤ m * k := Nat.le_mul_of_pos_left k hm1
            have := HX.out.2.2.2.2.1
            omega
          · rw [List.length_append, List.length_singleton, hpk]
            exact hB3
    · have hL0 : L = 0 := by omega
      have hr0 : (restAt m l k).size = 0 := by rw [hsz, hL0]
      have HP := Lib.hid (And.intro hpre (And.intro hk hL))
      clear hpre hk hL hsz hrl hnx hpl2
      obtain ⟨r, hr⟩ : ∃ r, restAt m l k = r := ⟨_, rfl⟩
      rw [hr] at hc1 hr0
      clear hr
      gi_wp2
      go_end0
      exact ⟨⟨_, rfl⟩, pre, ⟨HP.out.1, by have h1 := HP.out.2.2; have h2 := HP.out.2.1; rw [h2]; omega⟩, hJ1⟩

/-- what a round keeps: the two boxes of the iterator -/
def KpC (Bb Bs : Nat) (A A' : World) : Prop := A'.heap[Bb]? = A.heap[Bb]? ∧ A'.heap[Bs]? = A.heap[Bs]?
theorem KpC.trans {Bb Bs : Nat} {A B C : World} (h : KpC Bb Bs A B) (k : KpC Bb Bs B C) : KpC Bb Bs A C := ⟨k.1.trans h.1, k.2.trans h.2⟩

theorem chunks_any (s : ByteArray) (b : Int) (w : World) :
    Calls Tryd.prog 115 #[.string s, .int .i64 b] w fun e w' =>
      e = .returned (.func (.func 131) #[] #[.pointer (some ⟨w.heap.size + 1, 0, none⟩), .pointer (some ⟨w.heap.size, 0, none⟩)]) ∧
      (w.alloc (.cells #[.string s] 9)).alloc (.cells #[.int .i64 b] 3) = w' := by
  go_enter Tryd.func115, Tryd.ntmps115
  go_wp2
  go_ret
  exact ⟨rfl, rfl⟩

theorem chunks_stops (b m : Nat) (l : List UInt8) (h2 : 2 ≤ b) (h36 : b ≤ 36) (hm1 : 1 ≤ m) (hM : b ^ m < B32) (hM1 : B32 ≤ b ^ (m + 1)) (hl : l.length ≤ 1000000) (hdig : ∀ c ∈ l, digitVal c.toNat < b) (Bb Bs : Nat) (w : World)
    (hb : Boxed w Bb 3 (.int .i64 (b : Int))) (hs : Boxed w Bs 9 (.string (restAt m l 0))) (hne : Bb ≠ Bs) :
    SeqSt Fence.wide (9 - 1) Tryd.prog 131 #[.pointer (some ⟨Bb, 0, none⟩), .pointer (some ⟨Bs, 0, none⟩)] encChunk (KpC Bb Bs)
      (fun xs => xs.map (·.1) = (List.range xs.length).map (chunkAt b m l) ∧ l.length ≤ m * xs.length) (fun ys => ys.map (·.1) = (List.range ys.length).map (chunkAt b m l)) 1000000 Bs 9 (fun ys => .string (restAt m l ys.length)) w :=
  fun y J W hW hJ hY h0 => chunks1_in b m l h2 h36 hm1 hM hM1 hl hdig y Bb Bs J hJ hY W (hb.kept (row := none) ⟨hW.os, hW.tape, hW.output, hW.size, fun j hj _ => hW.block j hj⟩ (by simp)) (hs.kept (row := none) ⟨hW.os, hW.tape, hW.output, hW.size, fun j hj _ => hW.block j hj⟩ (by simp)) hne h0

/-- a loop over chunks, at the wide fence -/
theorem range_chunks {g : Operand} {p1 p2 : Tmp} {assign body : Code} {Q : Exit → Act → World → Prop} {a : Act} {w : World} (d1 d2 : Nat) (b m : Nat) (l : List UInt8) (h2 : 2 ≤ b) (h36 : b ≤ 36) (hm1 : 1 ≤ m) (hM : b ^ m < B32) (hM1 : B32 ≤ b ^ (m + 1)) (hl : l.length ≤ 1000000) (hdig : ∀ c ∈ l, digitVal c.toNat < b) (Bb Bs : Nat)
    (hg : a.eval g = .func (.func 131) #[] #[.pointer (some ⟨Bb, 0, none⟩), .pointer (some ⟨Bs, 0, none⟩)])
    (hb : Boxed w Bb 3 (.int .i64 (b : Int))) (hs : Boxed w Bs 9 (.string (restAt m l 0))) (hne : Bb ≠ Bs)
    (I : List IdxChunk → World → Prop) (hI : ∀ s A A' row, I s A → A.grownBy A' row → (∀ r, row = some r → r = Bs ∨ (w.heap.size ≤ r ∧ ∃ o : Obj, A.heap[r]? = some o ∧ o.isCells = false)) → I s A') (h0 : I [] w)
    (hassign : ∀ (l : Nat) (x : IdxChunk) (W : World) (K : Act → World → Prop), K (boundFrame a p1 p2 d1 d2 (.int .u32 (x.1.1 : Int)) (.int .u32 (x.1.2 : Int))) W →
      assign.wpIn (Fence.wide.inRound l) 7 Tryd.prog (Exit.then K (fun _ _ _ => False)) { tmps := (a.tmps.setIfInBounds p1 (.int .u32 (x.1.1 : Int))).setIfInBounds p2 (.int .u32 (x.1.2 : Int)), defers := [] } W)
    (hbody : ∀ (y : Nat) (pre : List IdxChunk) (x : IdxChunk) (W : World), I pre W → Boxed W Bs 9 (.string (restAt m l (pre ++ [x]).length)) → pre.length < 1000000 → (pre ++ [x]).map (·.1) = (List.range (pre ++ [x]).length).map (chunkAt b m l) →
      body.wpIn (Fence.wide.inRound y) 7 Tryd.prog (stPost w.heap.size (KpC Bb Bs) I (pre ++ [x]) W) (boundFrame a p1 p2 d1 d2 (.int .u32 (x.1.1 : Int)) (.int .u32 (x.1.2 : Int))) W)
    (hdone : ∀ (D : Nat) (xs : List IdxChunk) (W : World), w.heap.size ≤ D → (xs.map (·.1) = (List.range xs.length).map (chunkAt b m l) ∧ l.length ≤ m * xs.length) → I xs W → W.heap[D]? = some (.deferred (some [])) → Q .normal { a with defers := { target := .collected D, args := #[] } :: a.defers } W) :
    (Code.rangeFunc g #[p1, p2] assign body).wpIn Fence.wide 9 Tryd.prog Q a w :=
  wpIn_rangeFunc_st (n := 9) (F := Fence.wide) rfl (by omega) (gf := 131) (lb := #[.pointer (some ⟨Bb, 0, none⟩), .pointer (some ⟨Bs, 0, none⟩)]) hg trivial (enters_of Tryd.func131 (by kernel_rfl) rfl)
    (chunks_stops b m l h2 h36 hm1 hM hM1 hl hdig Bb Bs w hb hs hne) KpC.trans (fun W l o o' hB h hc hw => ⟨World.putObj_heap_other (by have := hb.lt; omega), World.putObj_heap_other (by have := hs.lt; omega)⟩) (Below.refl _ _) (fun _ => rfl) hs.lt I hI h0
    (fun x => boundFrame a p1 p2 d1 d2 (.int .u32 (x.1.1 : Int)) (.int .u32 (x.1.2 : Int))) (fun l x W K hK => by simpa [encChunk] using hassign l x W K hK) hbody hdone

end Go.Proofs.YtlghjfpkfdnfoaaDoor

/- num.parse where it answers -/
namespace Go.Proofs.YtlghjfpkfdnfoaaDoor
open Go Go.RowKit Go.Shelf
attribute [local go_sem] Oper.semAt_some

theorem size_toList (s : ByteArray) : s.data.toList.length = s.size := by
  rw [Array.length_toList]
  rfl
theorem index_string (r : ByteArray) (j : Nat) (l : List UInt8) (hl : r.data.toList = l) (hj : j < l.length) (W : World) :
    (Instr.index 9 (.string r) (.int .i64 (j : Int))).run Tryd.prog W = .ok (.int .u8 (((l[j]'hj).toNat : Nat) : Int)) W := by
  subst hl
  have hs : j < r.size := by have := size_toList r; omega
  have e : r[j] = r.data.toList[j] := by
    rw [Array.getElem_toList]
    rfl
  simp [go_sem, hs, e]

theorem numBE_zero (b : Nat) (c : UInt8) (l : List UInt8) (h : c.toNat = 48) : numBE b (c :: l) = numBE b l := by
  have h0 : 0 * b + digitVal 48 = 0 := by simp [digitVal]
  rw [numBE, List.foldl_cons, h, h0]
  rfl
theorem numBE_take_le (b : Nat) (hb : 0 < b) (n : Nat) (l : List UInt8) : numBE b (l.take n) ≤ numBE b l := by
  conv => rhs; rw [← List.take_append_drop n l, numBE_append]
  exact Nat.le_trans (Nat.le_mul_of_pos_right _ (Nat.pow_pos hb)) (Nat.le_add_right _ _)
/-- no limb lies in the box B -/
def OffB (B : Nat) (v : Value) (xs : List Nat) : Prop := ∀ a n c, v = .slice (some a) n c → xs ≠ [] → a.block ≠ B
theorem offB_of {W : World} {B : Nat} {t : TypeId} {s : ByteArray} {v : Value} {xs : List Nat} (hr : Reads .u32 W v xs) (hb : Boxed W B t (.string s)) : OffB B v xs := by
  obtain ⟨a, cap, rfl, hc, hm, hcell⟩ := hr
  intro a' n c e hx he
  simp only [Value.slice.injEq] at e
  obtain ⟨rfl, -, -⟩ := e
  obtain ⟨⟨b, off, hab⟩, h2⟩ := hcell 0 (List.length_pos_iff.2 hx)
  simp only [Option.some.injEq] at hab
  subst hab
  simp only at he
  subst he
  rw [lookAt_some] at h2
  simp only [World.cell?, show W.heap[b]? = _ from hb] at h2
  cases off with
  | zero => simp at h2
  | succ k => simp at h2
theorem reads_grown {W W' : World} {v : Value} {xs : List Nat} {row : Option Nat} (hr : Reads .u32 W v xs) (hg : W.grownBy W' row) (hrow : ∀ r, row = some r → (∀ a n c, v = .slice (some a) n c → xs ≠ [] → a.block ≠ r) ∨ ∃ o : Obj, W.heap[r]? = some o ∧ o.isCells = false) : Reads .u32 W' v xs := by
  obtain ⟨a, cap, rfl, hc, hm, hcell⟩ := hr
  refine ⟨a, cap, rfl, hc, hm, fun j hj => ⟨(hcell j hj).1, ?_⟩⟩
  obtain ⟨⟨b, off, rfl⟩, h2⟩ := hcell j hj
  have hlt := World.block_lt_of_cell? W _ h2
  have hx : xs ≠ [] := by intro e; simp [e] at hj
  have h3 : W'.heap[b]? = W.heap[b]? := hg.block b hlt (fun e => by
    rcases hrow b e.symm with h | ⟨o, ho, hoc⟩
    · exact h ⟨b, off, none⟩ _ _ rfl hx rfl
    · rw [lookAt_some] at h2
      cases o <;> simp_all [World.cell?, Obj.isCells])
  rw [← h2]
  exact World.cell?_of_block h3

/-- what a loop over chunks keeps -/
def ParI (W0 : World) (b m : Nat) (lx : List UInt8) (pre : List IdxChunk) (W : World) : Prop :=
  ∃ v xs, Boxed W W0.heap.size 22 v ∧ Reads .u32 W v xs ∧ OffB (W0.heap.size + 1) v xs ∧ Canon xs ∧ val xs = numBE b (lx.take (m * pre.length)) ∧ Below W0.heap.size W0 W ∧ W0.heap.size + 3 ≤ W.heap.size
theorem ParI.own {W0 : World} {b m n : Nat} {lx : List UInt8} (hn : W0.heap.size + 1 ≤ n) : ∀ (s : List IdxChunk) (A A' : World) (row : Option Nat), ParI W0 b m lx s A → A.grownBy A' row → (∀ r, row = some r → r = W0.heap.size + 1 ∨ (n ≤ r ∧ ∃ o : Obj, A.heap[r]? = some o ∧ o.isCells = false)) → ParI W0 b m lx s A' := by
  rintro s A A' row ⟨v, xs, hb, hr, ho, hc, hv, hbe, hsz⟩ hg hrow
  refine ⟨v, xs, hb.kept hg (fun e => ?_), reads_grown hr hg (fun r e => ?_), ho, hc, hv, hbe.grown hg hbe.size (fun r e => ?_), Nat.le_trans hsz hg.size⟩
  · rcases hrow _ e.symm with h | ⟨_, o, h, hoc⟩
    · omega
    · rw [show A.heap[W0.heap.size]? = _ from hb] at h
      cases h
      simp [Obj.isCells] at hoc
  · rcases hrow r e with h | ⟨_, h⟩
    · subst h; exact .inl ho
    · exact .inr h
  · rcases hrow r e with h | ⟨h, _⟩ <;> omega
theorem ParI.start {W0 : World} (b m : Nat) (lx : List UInt8) (o1 o2 : Obj) : ParI W0 b m lx [] (((W0.alloc (.cells #[.slice none 0 0] 22)).alloc o1).alloc o2) :=
  ⟨.slice none 0 0, [], ((Boxed.new W0 _ _).alloc _).alloc _, Reads.nil _ _, fun a n c e => by simp at e, canon_nil, by simp [val, numBE], (((Below.refl _ W0).alloc (Nat.le_refl _) _).alloc (by simp) _).alloc (by simp; omega) _, by simp⟩
theorem ParI.next {b m k : Nat} {lx : List UInt8} {ps : List (Nat × Nat)} {q : Nat × Nat} (hps : ps.length = k) (h : ps ++ [q] = (List.range (k + 1)).map (chunkAt b m lx)) (V : Nat) (hV : V = numBE b (lx.take (m * k)) * q.1 + q.2) : V = numBE b (lx.take (m * (k + 1))) := by
  have h1 := congrArg (fun z : List (Nat × Nat) => z[k]?) h
  rw [List.getElem?_append_right (by omega), hps, Nat.sub_self] at h1
  simp at h1
  rw [hV, h1, take_piece, numBE_append]
  rfl

set_option exponentiation.threshold 400 in
set_option maxHeartbeats 8000000 in
set_option maxRecDepth 100000 in
theorem parse_ok (s : ByteArray) (b : Nat) (w : World) (h2 : 2 ≤ b) (h36 : b ≤ 36) (neg : Bool) (l : List UInt8) (hs : s.data.toList = (if neg then [45] else []) ++ l) (hl0 : l ≠ []) (hlen : l.length ≤ 100000) (hdig : ∀ c ∈ l, digitVal c.toNat < b) (hfit : numBE b l < B32 ^ 300) :
    Calls Tryd.prog 91 #[.string s, .int .i64 (b : Int)] w fun e w' => Below w.heap.size w w' ∧ ∃ v, e = .returned v ∧ IsInt w' v (sgn neg (numBE b l)) := by
  have hlp : 0 < l.length := List.length_pos_iff.2 hl0
  obtain ⟨t, ht⟩ : ∃ t : ByteArray, t.data.toList = l := ⟨⟨l.toArray⟩, by simp⟩
  have htz : t.size = l.length := by rw [← ht, size_toList]
  have hcut : neg = true → s.extract 1 s.size = t := fun hn => by
    subst hn
    apply bytes_ext
    rw [Lib.extract_to_end, hs, ht]
    rfl
  have hsame : neg = false → s = t := fun hn => by
    subst hn
    apply bytes_ext
    rw [hs, ht]
    rfl
  have hsz : s.size = (if neg then 1 else 0) + l.length := by
    rw [← size_toList, hs]
    cases neg <;> simp [Nat.add_comm]
  have hi0 : ∀ W, (Instr.index 9 (.string s) (.int .i64 0)).run Tryd.prog W = .ok (.int .u8 (if neg then 45 else (((l[0]'hlp).toNat : Nat) : Int))) W := fun W => by
    have h0 : 0 < ((if neg then [45] else []) ++ l).length := by cases neg <;> simp <;> omega
    have := index_string s 0 _ hs h0 W
    rw [Int.ofNat_zero] at this
    rw [this]
    cases neg <;> rfl
  have hn45 : neg = false → ((((l[0]'hlp).toNat : Nat) : Int) == 45) = false := fun _ => by
    have h1 := hdig (l[0]'hlp) (List.getElem_mem _)
    refine beq_eq_false_iff_ne.2 fun e => ?_
    have e' : (l[0]'hlp).toNat = 45 := by omega
    rw [e'] at h1
    simp [digitVal] at h1
    omega
  have hspos : 0 < s.size := by rw [hsz]; omega
  obtain ⟨m, hm1, hM, hM1⟩ := chunk_exists b h2 h36
  have HL := Lib.hid (And.intro ht (And.intro htz (And.intro hs hsz)))
  refine (callsIn_wide (n := 9)).1 ?_
  refine callsIn_of_wp_marks Tryd.func91 rfl trivial ?_ rfl
  simp only [Tryd.ntmps91, List.size_toArray, List.length_cons, List.length_nil, Nat.reduceAdd, Nat.reduceSub, Array.replicate_succ, Array.replicate_zero, List.push_toArray, List.append_toArray, List.nil_append, List.cons_append]
  have hlm : l.length ≤ 9223372036854775807 := by omega
  have HFIT := Lib.hid hfit
  clear ht htz hs hsz hl0 hfit
  have b0 := (Below.refl w.heap.size w).alloc (Nat.le_refl _) (.cells #[.bool false, .slice none 0 0] 24)
  have r0 := RowAt.new w 24 [.bool false, .slice none 0 0]
  obtain ⟨W0, hW0⟩ : ∃ W0, w.alloc (.cells #[.bool false, .slice none 0 0] 24) = W0 := ⟨_, rfl⟩
  rw [hW0] at b0 r0
  have HW := Lib.hid hW0
  clear hW0
  have htz := HL.out.2.1
  have hd0 : decide ((0 : Int) < (l.length : Int)) = true := by simp; omega
  have hzz : s.size = s.size := rfl
  cases neg
  · have e0 := hsame rfl
    have h45 := hn45 rfl
    simp only [Bool.false_eq_true, if_false] at hi0
    clear hsame hcut hn45
    subst e0
    gi_wp2_with (refine ⟨trivial, ?_⟩; gi_at_call 60; refine (callsIn_wide.2 (demand_ok _ _ _ (by first | rfl | (simp; omega)))).mono ?_; rintro e w2 ⟨rfl, rfl⟩)
    generalize s = t at *
    clear hi0 h45 hspos hzz
    rw [HW.out]
    gi_loop [27] (fun i => ∃ j : Nat, j ≤ l.length ∧ i = .int .i64 j) (fun i => l.length - (intOf i).toNat)
    case atStart => exact ⟨0, Nat.zero_le _, rfl⟩
    case round =>
      obtain ⟨j, hj, rfl⟩ := hrel
      by_cases hjl : j < l.length
      · have hix := fun W => index_string t j l HL.out.1 hjl W
        have hcd := hdig (l[j]'hjl) (List.getElem_mem _)
        obtain ⟨c, hc⟩ : ∃ c, (l[j]'hjl).toNat = c := ⟨_, rfl⟩
        have hc256 : c < 256 := by rw [← hc]; exact (l[j]'hjl).toNat_lt
        rw [hc] at hix hcd
        have hdd : decide (((digitVal c : Nat) : Int) < (b : Int)) = true := by simp; omega
        clear hc
        gi_wp2_with (first
          | (refine ⟨trivial, ?_⟩; gi_at_call 114; refine (callsIn_wide.2 (digitOf_any c _ hc256)).mono ?_; rintro e w2 ⟨rfl, rfl⟩)
          | (refine ⟨trivial, ?_⟩; gi_at_call 60; refine (callsIn_wide.2 (demand_ok _ _ _ (by first | rfl | (simp; omega)))).mono ?_; rintro e w2 ⟨rfl, rfl⟩))
        exact ⟨⟨j + 1, by omega, by go_num⟩, by simp [intOf]; omega⟩
      · have hjd : decide ((j : Int) < (l.length : Int)) = false := by simp; omega
        have HLx := Lib.hid (And.intro htz hd0)
        clear htz hd0
        gi_wp2_with fail
        gi_loop [0] (fun v => ∃ (u : ByteArray) (l' : List UInt8), v = .string u ∧ u.data.toList = l' ∧ numBE b l' = numBE b l ∧ (∀ c ∈ l', digitVal c.toNat < b) ∧ l'.length ≤ 100000) (fun v => strLen (some v))
        case atStart => exact ⟨t, l, rfl, HL.out.1, rfl, hdig, hlen⟩
        case round =>
          obtain ⟨u, l', rfl, hu, hnum, hdig', hlen'⟩ := hrel
          have hus : u.size = l'.length := by rw [← hu, size_toList]
          have hguard : (l' = []) ∨ (∃ c l'', l' = c :: l'' ∧ c.toNat = 48) ∨ (∃ c l'', l' = c :: l'' ∧ c.toNat ≠ 48) := by
            cases l' with
            | nil => exact .inl rfl
            | cons c l'' =>
              by_cases h : c.toNat = 48
              · exact .inr (.inl ⟨c, l'', rfl, h⟩)
              · exact .inr (.inr ⟨c, l'', rfl, h⟩)
          have HU := Lib.hid (And.intro hu (And.intro hnum (And.intro hdig' hlen')))
          have hub : u.size ≤ 100000 := by omega
          clear hu hnum hdig' hlen'
          rcases hguard with hg | ⟨c, l'', hg, hc48⟩ | ⟨c, l'', hg, hc48⟩
          · subst hg
            simp only [List.length_nil] at hus
            gi_wp2_with (refine ⟨trivial, ?_⟩; gi_at_call 115; refine (callsIn_wide.2 (chunks_any _ _ _)).mono ?_; rintro e w' ⟨rfl, rfl⟩)
            refine range_chunks 8 9 b m [] h2 h36 hm1 hM hM1 (by have := HU.out.2.2.2; omega) HU.out.2.2.1 (W0.heap.size + 2) (W0.heap.size + 1) (by exact rfl) ?bb ?bs (by omega)
              (ParI W0 b m []) (ParI.own (by simp)) (ParI.start b m [] _ _) ?assign ?body ?done
            case bb => exact Boxed.at (Boxed.new _ _ _) (by simp)
            case bs =>
              have hu0 : restAt m [] 0 = u := bytes_ext (by rw [restAt_toList, Nat.mul_zero, List.drop_zero]; exact HU.out.1.symm)
              rw [hu0]
              exact Boxed.at ((Boxed.new _ _ _).alloc _) (by simp)
            case assign =>
              intro y x W K hK
              gi_wp2
              exact hK
            case body =>
              rintro y pre x W ⟨v, xs, hb, hr, ho, hc, hv, hbe, hsz⟩ hbs hlt hsp
              obtain ⟨⟨P1, V1⟩, hx1, hx2⟩ := x
              obtain ⟨va, vc, rfl, hvc, hvm⟩ := hr.form
              have hbc := hb.cell
              have hfc := hb.frozen
              have hle := numBE_take_le b (by omega) (m * (pre.length + 1)) []
              have hlx : xs.length ≤ 300 := canon_length_le hc (by rw [hv]; exact Nat.lt_of_le_of_lt (numBE_take_le b (by omega) _ _) (by rw [HU.out.2.1]; exact HFIT.out))
              have htp := timesPlus_any (.slice va xs.length vc) xs P1 V1 W hr hc.1 (by omega) hx1 hx2
              have HTP := Lib.hid htp
              have HH := Lib.hid (And.intro hv (And.intro hle hsp))
              clear hv hle hsp htp
              simp only [boundFrame]
              gi_wp2_with (first
                | (refine ⟨trivial, ?_⟩; gi_at_call 116; refine (callsIn_wide.2 HTP.out).mono ?_; rintro e w5 ⟨hbe5, v5, cs, rfl, h5, k5, e5⟩; obtain ⟨a5, c5, rfl, hc5, hm5⟩ := h5.form; have hb5 : Boxed w5 W0.heap.size 22 (.slice va xs.length vc) := (hbe5.block _ hb.lt).trans hb; have hbs5 : Boxed w5 (W0.heap.size + 1) 9 _ := (hbe5.block _ hbs.lt).trans hbs; have q1 := hb5.cell; have q2 := hb5.frozen;
                    have hvn : val cs = numBE b (([] : List UInt8).take (m * (pre.length + 1))) := ParI.next (ps := pre.map (·.1)) (q := (P1, V1)) (by simp) (by simpa using HH.out.2.2) _ (by rw [e5, HH.out.1]); have hcl : cs.length ≤ 300 := canon_length_le k5 (by rw [hvn]; exact Nat.lt_of_le_of_lt HH.out.2.1 (by rw [HU.out.2.1]; exact HFIT.out)); have hdl : decide ((cs.length : Int) ≤ 300) = true := (by simp; omega); have HV := Lib.hid hvn; clear hvn e5)
                | (refine ⟨trivial, ?_⟩; gi_at_call 60; refine (callsIn_wide.2 (demand_ok _ _ _ (by first | rfl | (simp; omega)))).mono ?_; rintro e w2 ⟨rfl, rfl⟩))
              have hF : Chg (fun k => k = W0.heap.size) W (w5.setCell ⟨W0.heap.size, 0, none⟩ (.slice a5 cs.length c5)) := ((Chg.refl (fun k => k = W0.heap.size) W).thenBelow hbe5).setCell (p := ⟨W0.heap.size, 0, none⟩) (.inl rfl) _
              refine ⟨hF.keepsFrom _ (by rintro k rfl; exact Boxed.isCells hb), ⟨hF.block _ (by omega) (by omega), hF.block _ (by omega) (by omega)⟩, _, cs, Boxed.set _ hb5, h5.setOther q1 (by simp) _, offB_of h5 hbs5, k5, ?_, hbe.trans (hF.below (fun k hk => by omega) hbe.size), ?_⟩
              · rw [List.length_append, List.length_singleton]
                exact HV.out
              · exact Nat.le_trans hsz hF.size
            case done =>
              rintro D ys W hD ⟨hys, hyl⟩ ⟨v, xs, hb, hr, ho, hc, hv, hbe, hsz⟩ hK
              obtain ⟨va, vc, rfl, hvc, hvm⟩ := hr.form
              have hbc := hb.cell
              have hval : val xs = numBE b l := by rw [hv, List.take_of_length_le hyl]; exact HU.out.2.1
              have HV := Lib.hid hval
              have hrr := r0.below hbe
              clear hv hval hys
              gi_wp2_with (refine ⟨trivial, ?_⟩; gi_at_call 63; refine (callsIn_wide.2 (signed_any _ _ _ _ _)).mono ?_; rintro e w6 ⟨hbe6, rfl⟩; have rr := hrr.below hbe6; have o1 := rr.cell 0; have o2 := rr.cell 1; have o3 := rr.frozen 0; have o4 := rr.frozen 1; simp only [List.getElem?_cons_zero, List.getElem?_cons_succ] at o1 o2)
              obtain ⟨s1, s2⟩ := two_reads (b := w.heap.size) o1 o2 (.bool (false && decide (0 < xs.length))) (.slice va xs.length vc)
              have hkp := two_kept (b := w.heap.size) (hr.below hbe6) o1 o2 (.bool (false && decide (0 < xs.length))) (.slice va xs.length vc)
              have hb8 : Below w.heap.size w ((w6.setCell ⟨w.heap.size, 0, none⟩ (.bool (false && decide (0 < xs.length)))).setCell ⟨w.heap.size, 1, none⟩ (.slice va xs.length vc)) := (((b0.trans (hbe.mono b0.size)).trans (hbe6.mono (b0.trans (hbe.mono b0.size)).size)).setCell (p := ⟨w.heap.size, 0, none⟩) (Nat.le_refl _) _).setCell (p := ⟨w.heap.size, 1, none⟩) (Nat.le_refl _) _
              have hDlt : D < W.heap.size := (Array.getElem?_eq_some_iff.1 hK).1
              have hDw : w.heap.size < D := by
                have h1 := b0.size
                have h2 := r0.lt
                simp only [World.size_alloc] at hD
                omega
              have hK8 : ((w6.setCell ⟨w.heap.size, 0, none⟩ (.bool (false && decide (0 < xs.length)))).setCell ⟨w.heap.size, 1, none⟩ (.slice va xs.length vc)).heap[D]? = some (.deferred (some [])) := by
                exact (Below.heap_setCell _ _ _ _ (by simp; omega)).trans ((Below.heap_setCell _ _ _ _ (by simp; omega)).trans ((hbe6.block D hDlt).trans hK))
              simp only [Bool.false_and] at s1 s2 hkp hb8 hK8
              generalize ((w6.setCell ⟨w.heap.size, 0, none⟩ (.bool false)).setCell ⟨w.heap.size, 1, none⟩ (.slice va xs.length vc)) = W8 at *
              have s1' : (W8.putObj D (.deferred none)).cell? ⟨w.heap.size, 0, none⟩ = some (.bool false) := (World.cell?_of_block (World.putObj_heap_other (by simp; omega))).trans s1
              have s2' : (W8.putObj D (.deferred none)).cell? ⟨w.heap.size, 1, none⟩ = some (.slice va xs.length vc) := (World.cell?_of_block (World.putObj_heap_other (by simp; omega))).trans s2
              refine ⟨by simp, .inl ⟨_, _, rfl, run_takeDeferred hK8, ?_⟩⟩
              refine ⟨.agg #[.bool false, .slice va xs.length vc], by simp [results, Tryd.results91, go_sem, loadCellsFrom, s1', s2'], ?_, _, rfl, ?_⟩
              · exact hb8.trans (belowK_b (w := w) (Nat.le_refl _) W8 D _ _ (by omega) hK8 rfl rfl)
              · have h9 := isInt_mk false (hkp.putObj hK8 rfl (.deferred none)) hc (i := sgn false (numBE b l)) (by rw [HV.out])
                simpa using h9
          · subst hg
            have h0' : 0 < (c :: l'').length := by simp
            have hix := fun W => index_string u 0 (c :: l'') HU.out.1 h0' W
            simp only [Int.ofNat_zero, List.getElem_cons_zero, hc48] at hix
            have hus1 : 0 < u.size := by rw [hus]; simp
            have hcut2 : ∃ u2 : ByteArray, u.extract 1 u.size = u2 ∧ u2.data.toList = l'' := ⟨_, rfl, by rw [Lib.extract_to_end, HU.out.1]; rfl⟩
            obtain ⟨u2, hu2, hu2l⟩ := hcut2
            have hsz2 : u2.size < u.size := by rw [hus, ← size_toList u2, hu2l]; simp
            have hst : strLen (some (.string u2)) < strLen (some (.string u)) := hsz2
            have H2 := Lib.hid hu2l
            have HC48 := Lib.hid hc48
            clear hus hu2l hsz2 hc48
            gi_wp2_with fail
            refine ⟨⟨u2, l'', rfl, H2.out, ?_, fun x hx => HU.out.2.2.1 x (by simp [hx]), by have := HU.out.2.2.2; simp at this; omega⟩, hst⟩
            rw [← HU.out.2.1, numBE_zero b c l'' HC48.out]
          · subst hg
            have h0' : 0 < (c :: l'').length := by simp
            have hix := fun W => index_string u 0 (c :: l'') HU.out.1 h0' W
            simp only [Int.ofNat_zero, List.getElem_cons_zero] at hix
            have hne48 : (((c.toNat : Nat) : Int) == 48) = false := beq_eq_false_iff_ne.2 (by omega)
            have hus1 : 0 < u.size := by rw [hus]; simp
            clear hus hc48
            gi_wp2_with (refine ⟨trivial, ?_⟩; gi_at_call 115; refine (callsIn_wide.2 (chunks_any _ _ _)).mono ?_; rintro e w' ⟨rfl, rfl⟩)
            refine range_chunks 8 9 b m (c :: l'') h2 h36 hm1 hM hM1 (by have := HU.out.2.2.2; omega) HU.out.2.2.1 (W0.heap.size + 2) (W0.heap.size + 1) (by exact rfl) ?bb ?bs (by omega)
              (ParI W0 b m (c :: l'')) (ParI.own (by simp)) (ParI.start b m (c :: l'') _ _) ?assign ?body ?done
            case bb => exact Boxed.at (Boxed.new _ _ _) (by simp)
            case bs =>
              have hu0 : restAt m (c :: l'') 0 = u := bytes_ext (by rw [restAt_toList, Nat.mul_zero, List.drop_zero]; exact HU.out.1.symm)
              rw [hu0]
              exact Boxed.at ((Boxed.new _ _ _).alloc _) (by simp)
            case assign =>
              intro y x W K hK
              gi_wp2
              exact hK
            case body =>
              rintro y pre x W ⟨v, xs, hb, hr, ho, hc, hv, hbe, hsz⟩ hbs hlt hsp
              obtain ⟨⟨P1, V1⟩, hx1, hx2⟩ := x
              obtain ⟨va, vc, rfl, hvc, hvm⟩ := hr.form
              have hbc := hb.cell
              have hfc := hb.frozen
              have hle := numBE_take_le b (by omega) (m * (pre.length + 1)) (c :: l'')
              have hlx : xs.length ≤ 300 := canon_length_le hc (by rw [hv]; exact Nat.lt_of_le_of_lt (numBE_take_le b (by omega) _ _) (by rw [HU.out.2.1]; exact HFIT.out))
              have htp := timesPlus_any (.slice va xs.length vc) xs P1 V1 W hr hc.1 (by omega) hx1 hx2
              have HTP := Lib.hid htp
              have HH := Lib.hid (And.intro hv (And.intro hle hsp))
              clear hv hle hsp htp
              simp only [boundFrame]
              gi_wp2_with (first
                | (refine ⟨trivial, ?_⟩; gi_at_call 116; refine (callsIn_wide.2 HTP.out).mono ?_; rintro e w5 ⟨hbe5, v5, cs, rfl, h5, k5, e5⟩; obtain ⟨a5, c5, rfl, hc5, hm5⟩ := h5.form; have hb5 : Boxed w5 W0.heap.size 22 (.slice va xs.length vc) := (hbe5.block _ hb.lt).trans hb; have hbs5 : Boxed w5 (W0.heap.size + 1) 9 _ := (hbe5.block _ hbs.lt).trans hbs; have q1 := hb5.cell; have q2 := hb5.frozen;
                    have hvn : val cs = numBE b ((c :: l'' : List UInt8).take (m * (pre.length + 1))) := ParI.next (ps := pre.map (·.1)) (q := (P1, V1)) (by simp) (by simpa using HH.out.2.2) _ (by rw [e5, HH.out.1]); have hcl : cs.length ≤ 300 := canon_length_le k5 (by rw [hvn]; exact Nat.lt_of_le_of_lt HH.out.2.1 (by rw [HU.out.2.1]; exact HFIT.out)); have hdl : decide ((cs.length : Int) ≤ 300) = true := (by simp; omega); have HV := Lib.hid hvn; clear hvn e5)
                | (refine ⟨trivial, ?_⟩; gi_at_call 60; refine (callsIn_wide.2 (demand_ok _ _ _ (by first | rfl | (simp; omega)))).mono ?_; rintro e w2 ⟨rfl, rfl⟩))
              have hF : Chg (fun k => k = W0.heap.size) W (w5.setCell ⟨W0.heap.size, 0, none⟩ (.slice a5 cs.length c5)) := ((Chg.refl (fun k => k = W0.heap.size) W).thenBelow hbe5).setCell (p := ⟨W0.heap.size, 0, none⟩) (.inl rfl) _
              refine ⟨hF.keepsFrom _ (by rintro k rfl; exact Boxed.isCells hb), ⟨hF.block _ (by omega) (by omega), hF.block _ (by omega) (by omega)⟩, _, cs, Boxed.set _ hb5, h5.setOther q1 (by simp) _, offB_of h5 hbs5, k5, ?_, hbe.trans (hF.below (fun k hk => by omega) hbe.size), ?_⟩
              · rw [List.length_append, List.length_singleton]
                exact HV.out
              · exact Nat.le_trans hsz hF.size
            case done =>
              rintro D ys W hD ⟨hys, hyl⟩ ⟨v, xs, hb, hr, ho, hc, hv, hbe, hsz⟩ hK
              obtain ⟨va, vc, rfl, hvc, hvm⟩ := hr.form
              have hbc := hb.cell
              have hval : val xs = numBE b l := by rw [hv, List.take_of_length_le hyl]; exact HU.out.2.1
              have HV := Lib.hid hval
              have hrr := r0.below hbe
              clear hv hval hys
              gi_wp2_with (refine ⟨trivial, ?_⟩; gi_at_call 63; refine (callsIn_wide.2 (signed_any _ _ _ _ _)).mono ?_; rintro e w6 ⟨hbe6, rfl⟩; have rr := hrr.below hbe6; have o1 := rr.cell 0; have o2 := rr.cell 1; have o3 := rr.frozen 0; have o4 := rr.frozen 1; simp only [List.getElem?_cons_zero, List.getElem?_cons_succ] at o1 o2)
              obtain ⟨s1, s2⟩ := two_reads (b := w.heap.size) o1 o2 (.bool (false && decide (0 < xs.length))) (.slice va xs.length vc)
              have hkp := two_kept (b := w.heap.size) (hr.below hbe6) o1 o2 (.bool (false && decide (0 < xs.length))) (.slice va xs.length vc)
              have hb8 : Below w.heap.size w ((w6.setCell ⟨w.heap.size, 0, none⟩ (.bool (false && decide (0 < xs.length)))).setCell ⟨w.heap.size, 1, none⟩ (.slice va xs.length vc)) := (((b0.trans (hbe.mono b0.size)).trans (hbe6.mono (b0.trans (hbe.mono b0.size)).size)).setCell (p := ⟨w.heap.size, 0, none⟩) (Nat.le_refl _) _).setCell (p := ⟨w.heap.size, 1, none⟩) (Nat.le_refl _) _
              have hDlt : D < W.heap.size := (Array.getElem?_eq_some_iff.1 hK).1
              have hDw : w.heap.size < D := by
                have h1 := b0.size
                have h2 := r0.lt
                simp only [World.size_alloc] at hD
                omega
              have hK8 : ((w6.setCell ⟨w.heap.size, 0, none⟩ (.bool (false && decide (0 < xs.length)))).setCell ⟨w.heap.size, 1, none⟩ (.slice va xs.length vc)).heap[D]? = some (.deferred (some [])) := by
                exact (Below.heap_setCell _ _ _ _ (by simp; omega)).trans ((Below.heap_setCell _ _ _ _ (by simp; omega)).trans ((hbe6.block D hDlt).trans hK))
              simp only [Bool.false_and] at s1 s2 hkp hb8 hK8
              generalize ((w6.setCell ⟨w.heap.size, 0, none⟩ (.bool false)).setCell ⟨w.heap.size, 1, none⟩ (.slice va xs.length vc)) = W8 at *
              have s1' : (W8.putObj D (.deferred none)).cell? ⟨w.heap.size, 0, none⟩ = some (.bool false) := (World.cell?_of_block (World.putObj_heap_other (by simp; omega))).trans s1
              have s2' : (W8.putObj D (.deferred none)).cell? ⟨w.heap.size, 1, none⟩ = some (.slice va xs.length vc) := (World.cell?_of_block (World.putObj_heap_other (by simp; omega))).trans s2
              refine ⟨by simp, .inl ⟨_, _, rfl, run_takeDeferred hK8, ?_⟩⟩
              refine ⟨.agg #[.bool false, .slice va xs.length vc], by simp [results, Tryd.results91, go_sem, loadCellsFrom, s1', s2'], ?_, _, rfl, ?_⟩
              · exact hb8.trans (belowK_b (w := w) (Nat.le_refl _) W8 D _ _ (by omega) hK8 rfl rfl)
              · have h9 := isInt_mk false (hkp.putObj hK8 rfl (.deferred none)) hc (i := sgn false (numBE b l)) (by rw [HV.out])
                simpa using h9
  · have e0 := hcut rfl
    simp only [if_true] at hi0
    clear hsame hcut hn45
    gi_wp2_with (refine ⟨trivial, ?_⟩; gi_at_call 60; refine (callsIn_wide.2 (demand_ok _ _ _ (by first | rfl | (simp; omega)))).mono ?_; rintro e w2 ⟨rfl, rfl⟩)
    clear hi0 e0 hspos hzz
    rw [HW.out]
    gi_loop [27] (fun i => ∃ j : Nat, j ≤ l.length ∧ i = .int .i64 j) (fun i => l.length - (intOf i).toNat)
    case atStart => exact ⟨0, Nat.zero_le _, rfl⟩
    case round =>
      obtain ⟨j, hj, rfl⟩ := hrel
      by_cases hjl : j < l.length
      · have hix := fun W => index_string t j l HL.out.1 hjl W
        have hcd := hdig (l[j]'hjl) (List.getElem_mem _)
        obtain ⟨c, hc⟩ : ∃ c, (l[j]'hjl).toNat = c := ⟨_, rfl⟩
        have hc256 : c < 256 := by rw [← hc]; exact (l[j]'hjl).toNat_lt
        rw [hc] at hix hcd
        have hdd : decide (((digitVal c : Nat) : Int) < (b : Int)) = true := by simp; omega
        clear hc
        gi_wp2_with (first
          | (refine ⟨trivial, ?_⟩; gi_at_call 114; refine (callsIn_wide.2 (digitOf_any c _ hc256)).mono ?_; rintro e w2 ⟨rfl, rfl⟩)
          | (refine ⟨trivial, ?_⟩; gi_at_call 60; refine (callsIn_wide.2 (demand_ok _ _ _ (by first | rfl | (simp; omega)))).mono ?_; rintro e w2 ⟨rfl, rfl⟩))
        exact ⟨⟨j + 1, by omega, by go_num⟩, by simp [intOf]; omega⟩
      · have hjd : decide ((j : Int) < (l.length : Int)) = false := by simp; omega
        have HLx := Lib.hid (And.intro htz hd0)
        clear htz hd0
        gi_wp2_with fail
        gi_loop [0] (fun v => ∃ (u : ByteArray) (l' : List UInt8), v = .string u ∧ u.data.toList = l' ∧ numBE b l' = numBE b l ∧ (∀ c ∈ l', digitVal c.toNat < b) ∧ l'.length ≤ 100000) (fun v => strLen (some v))
        case atStart => exact ⟨t, l, rfl, HL.out.1, rfl, hdig, hlen⟩
        case round =>
          obtain ⟨u, l', rfl, hu, hnum, hdig', hlen'⟩ := hrel
          have hus : u.size = l'.length := by rw [← hu, size_toList]
          have hguard : (l' = []) ∨ (∃ c l'', l' = c :: l'' ∧ c.toNat = 48) ∨ (∃ c l'', l' = c :: l'' ∧ c.toNat ≠ 48) := by
            cases l' with
            | nil => exact .inl rfl
            | cons c l'' =>
              by_cases h : c.toNat = 48
              · exact .inr (.inl ⟨c, l'', rfl, h⟩)
              · exact .inr (.inr ⟨c, l'', rfl, h⟩)
          have HU := Lib.hid (And.intro hu (And.intro hnum (And.intro hdig' hlen')))
          have hub : u.size ≤ 100000 := by omega
          clear hu hnum hdig' hlen'
          rcases hguard with hg | ⟨c, l'', hg, hc48⟩ | ⟨c, l'', hg, hc48⟩
          · subst hg
            simp only [List.length_nil] at hus
            gi_wp2_with (refine ⟨trivial, ?_⟩; gi_at_call 115; refine (callsIn_wide.2 (chunks_any _ _ _)).mono ?_; rintro e w' ⟨rfl, rfl⟩)
            refine range_chunks 8 9 b m [] h2 h36 hm1 hM hM1 (by have := HU.out.2.2.2; omega) HU.out.2.2.1 (W0.heap.size + 2) (W0.heap.size + 1) (by exact rfl) ?bb ?bs (by omega)
              (ParI W0 b m []) (ParI.own (by simp)) (ParI.start b m [] _ _) ?assign ?body ?done
            case bb => exact Boxed.at (Boxed.new _ _ _) (by simp)
            case bs =>
              have hu0 : restAt m [] 0 = u := bytes_ext (by rw [restAt_toList, Nat.mul_zero, List.drop_zero]; exact HU.out.1.symm)
              rw [hu0]
              exact Boxed.at ((Boxed.new _ _ _).alloc _) (by simp)
            case assign =>
              intro y x W K hK
              gi_wp2
              exact hK
            case body =>
              rintro y pre x W ⟨v, xs, hb, hr, ho, hc, hv, hbe, hsz⟩ hbs hlt hsp
              obtain ⟨⟨P1, V1⟩, hx1, hx2⟩ := x
              obtain ⟨va, vc, rfl, hvc, hvm⟩ := hr.form
              have hbc := hb.cell
              have hfc := hb.frozen
              have hle := numBE_take_le b (by omega) (m * (pre.length + 1)) []
              have hlx : xs.length ≤ 300 := canon_length_le hc (by rw [hv]; exact Nat.lt_of_le_of_lt (numBE_take_le b (by omega) _ _) (by rw [HU.out.2.1]; exact HFIT.out))
              have htp := timesPlus_any (.slice va xs.length vc) xs P1 V1 W hr hc.1 (by omega) hx1 hx2
              have HTP := Lib.hid htp
              have HH := Lib.hid (And.intro hv (And.intro hle hsp))
              clear hv hle hsp htp
              simp only [boundFrame]
              gi_wp2_with (first
                | (refine ⟨trivial, ?_⟩; gi_at_call 116; refine (callsIn_wide.2 HTP.out).mono ?_; rintro e w5 ⟨hbe5, v5, cs, rfl, h5, k5, e5⟩; obtain ⟨a5, c5, rfl, hc5, hm5⟩ := h5.form; have hb5 : Boxed w5 W0.heap.size 22 (.slice va xs.length vc) := (hbe5.block _ hb.lt).trans hb; have hbs5 : Boxed w5 (W0.heap.size + 1) 9 _ := (hbe5.block _ hbs.lt).trans hbs; have q1 := hb5.cell; have q2 := hb5.frozen;
                    have hvn : val cs = numBE b (([] : List UInt8).take (m * (pre.length + 1))) := ParI.next (ps := pre.map (·.1)) (q := (P1, V1)) (by simp) (by simpa using HH.out.2.2) _ (by rw [e5, HH.out.1]); have hcl : cs.length ≤ 300 := canon_length_le k5 (by rw [hvn]; exact Nat.lt_of_le_of_lt HH.out.2.1 (by rw [HU.out.2.1]; exact HFIT.out)); have hdl : decide ((cs.length : Int) ≤ 300) = true := (by simp; omega); have HV := Lib.hid hvn; clear hvn e5)
                | (refine ⟨trivial, ?_⟩; gi_at_call 60; refine (callsIn_wide.2 (demand_ok _ _ _ (by first | rfl | (simp; omega)))).mono ?_; rintro e w2 ⟨rfl, rfl⟩))
              have hF : Chg (fun k => k = W0.heap.size) W (w5.setCell ⟨W0.heap.size, 0, none⟩ (.slice a5 cs.length c5)) := ((Chg.refl (fun k => k = W0.heap.size) W).thenBelow hbe5).setCell (p := ⟨W0.heap.size, 0, none⟩) (.inl rfl) _
              refine ⟨hF.keepsFrom _ (by rintro k rfl; exact Boxed.isCells hb), ⟨hF.block _ (by omega) (by omega), hF.block _ (by omega) (by omega)⟩, _, cs, Boxed.set _ hb5, h5.setOther q1 (by simp) _, offB_of h5 hbs5, k5, ?_, hbe.trans (hF.below (fun k hk => by omega) hbe.size), ?_⟩
              · rw [List.length_append, List.length_singleton]
                exact HV.out
              · exact Nat.le_trans hsz hF.size
            case done =>
              rintro D ys W hD ⟨hys, hyl⟩ ⟨v, xs, hb, hr, ho, hc, hv, hbe, hsz⟩ hK
              obtain ⟨va, vc, rfl, hvc, hvm⟩ := hr.form
              have hbc := hb.cell
              have hval : val xs = numBE b l := by rw [hv, List.take_of_length_le hyl]; exact HU.out.2.1
              have HV := Lib.hid hval
              have hrr := r0.below hbe
              clear hv hval hys
              gi_wp2_with (refine ⟨trivial, ?_⟩; gi_at_call 63; refine (callsIn_wide.2 (signed_any _ _ _ _ _)).mono ?_; rintro e w6 ⟨hbe6, rfl⟩; have rr := hrr.below hbe6; have o1 := rr.cell 0; have o2 := rr.cell 1; have o3 := rr.frozen 0; have o4 := rr.frozen 1; simp only [List.getElem?_cons_zero, List.getElem?_cons_succ] at o1 o2)
              obtain ⟨s1, s2⟩ := two_reads (b := w.heap.size) o1 o2 (.bool (true && decide (0 < xs.length))) (.slice va xs.length vc)
              have hkp := two_kept (b := w.heap.size) (hr.below hbe6) o1 o2 (.bool (true && decide (0 < xs.length))) (.slice va xs.length vc)
              have hb8 : Below w.heap.size w ((w6.setCell ⟨w.heap.size, 0, none⟩ (.bool (true && decide (0 < xs.length)))).setCell ⟨w.heap.size, 1, none⟩ (.slice va xs.length vc)) := (((b0.trans (hbe.mono b0.size)).trans (hbe6.mono (b0.trans (hbe.mono b0.size)).size)).setCell (p := ⟨w.heap.size, 0, none⟩) (Nat.le_refl _) _).setCell (p := ⟨w.heap.size, 1, none⟩) (Nat.le_refl _) _
              have hDlt : D < W.heap.size := (Array.getElem?_eq_some_iff.1 hK).1
              have hDw : w.heap.size < D := by
                have h1 := b0.size
                have h2 := r0.lt
                simp only [World.size_alloc] at hD
                omega
              have hK8 : ((w6.setCell ⟨w.heap.size, 0, none⟩ (.bool (true && decide (0 < xs.length)))).setCell ⟨w.heap.size, 1, none⟩ (.slice va xs.length vc)).heap[D]? = some (.deferred (some [])) := by
                exact (Below.heap_setCell _ _ _ _ (by simp; omega)).trans ((Below.heap_setCell _ _ _ _ (by simp; omega)).trans ((hbe6.block D hDlt).trans hK))
              simp only [Bool.true_and] at s1 s2 hkp hb8 hK8
              generalize ((w6.setCell ⟨w.heap.size, 0, none⟩ (.bool (decide (0 < xs.length)))).setCell ⟨w.heap.size, 1, none⟩ (.slice va xs.length vc)) = W8 at *
              have s1' : (W8.putObj D (.deferred none)).cell? ⟨w.heap.size, 0, none⟩ = some (.bool (decide (0 < xs.length))) := (World.cell?_of_block (World.putObj_heap_other (by simp; omega))).trans s1
              have s2' : (W8.putObj D (.deferred none)).cell? ⟨w.heap.size, 1, none⟩ = some (.slice va xs.length vc) := (World.cell?_of_block (World.putObj_heap_other (by simp; omega))).trans s2
              refine ⟨by simp, .inl ⟨_, _, rfl, run_takeDeferred hK8, ?_⟩⟩
              refine ⟨.agg #[.bool (decide (0 < xs.length)), .slice va xs.length vc], by simp [results, Tryd.results91, go_sem, loadCellsFrom, s1', s2'], ?_, _, rfl, ?_⟩
              · exact hb8.trans (belowK_b (w := w) (Nat.le_refl _) W8 D _ _ (by omega) hK8 rfl rfl)
              · have h9 := isInt_mk true (hkp.putObj hK8 rfl (.deferred none)) hc (i := sgn true (numBE b l)) (by rw [HV.out])
                simpa using h9
          · subst hg
            have h0' : 0 < (c :: l'').length := by simp
            have hix := fun W => index_string u 0 (c :: l'') HU.out.1 h0' W
            simp only [Int.ofNat_zero, List.getElem_cons_zero, hc48] at hix
            have hus1 : 0 < u.size := by rw [hus]; simp
            have hcut2 : ∃ u2 : ByteArray, u.extract 1 u.size = u2 ∧ u2.data.toList = l'' := ⟨_, rfl, by rw [Lib.extract_to_end, HU.out.1]; rfl⟩
            obtain ⟨u2, hu2, hu2l⟩ := hcut2
            have hsz2 : u2.size < u.size := by rw [hus, ← size_toList u2, hu2l]; simp
            have hst : strLen (some (.string u2)) < strLen (some (.string u)) := hsz2
            have H2 := Lib.hid hu2l
            have HC48 := Lib.hid hc48
            clear hus hu2l hsz2 hc48
            gi_wp2_with fail
            refine ⟨⟨u2, l'', rfl, H2.out, ?_, fun x hx => HU.out.2.2.1 x (by simp [hx]), by have := HU.out.2.2.2; simp at this; omega⟩, hst⟩
            rw [← HU.out.2.1, numBE_zero b c l'' HC48.out]
          · subst hg
            have h0' : 0 < (c :: l'').length := by simp
            have hix := fun W => index_string u 0 (c :: l'') HU.out.1 h0' W
            simp only [Int.ofNat_zero, List.getElem_cons_zero] at hix
            have hne48 : (((c.toNat : Nat) : Int) == 48) = false := beq_eq_false_iff_ne.2 (by omega)
            have hus1 : 0 < u.size := by rw [hus]; simp
            clear hus hc48
            gi_wp2_with (refine ⟨trivial, ?_⟩; gi_at_call 115; refine (callsIn_wide.2 (chunks_any _ _ _)).mono ?_; rintro e w' ⟨rfl, rfl⟩)
            refine range_chunks 8 9 b m (c :: l'') h2 h36 hm1 hM hM1 (by have := HU.out.2.2.2; omega) HU.out.2.2.1 (W0.heap.size + 2) (W0.heap.size + 1) (by exact rfl) ?bb ?bs (by omega)
              (ParI W0 b m (c :: l'')) (ParI.own (by simp)) (ParI.start b m (c :: l'') _ _) ?assign ?body ?done
            case bb => exact Boxed.at (Boxed.new _ _ _) (by simp)
            case bs =>
              have hu0 : restAt m (c :: l'') 0 = u := bytes_ext (by rw [restAt_toList, Nat.mul_zero, List.drop_zero]; exact HU.out.1.symm)
              rw [hu0]
              exact Boxed.at ((Boxed.new _ _ _).alloc _) (by simp)
            case assign =>
              intro y x W K hK
              gi_wp2
              exact hK
            case body =>
              rintro y pre x W ⟨v, xs, hb, hr, ho, hc, hv, hbe, hsz⟩ hbs hlt hsp
              obtain ⟨⟨P1, V1⟩, hx1, hx2⟩ := x
              obtain ⟨va, vc, rfl, hvc, hvm⟩ := hr.form
              have hbc := hb.cell
              have hfc := hb.frozen
              have hle := numBE_take_le b (by omega) (m * (pre.length + 1)) (c :: l'')
              have hlx : xs.length ≤ 300 := canon_length_le hc (by rw [hv]; exact Nat.lt_of_le_of_lt (numBE_take_le b (by omega) _ _) (by rw [HU.out.2.1]; exact HFIT.out))
              have htp := timesPlus_any (.slice va xs.length vc) xs P1 V1 W hr hc.1 (by omega) hx1 hx2
              have HTP := Lib.hid htp
              have HH := Lib.hid (And.intro hv (And.intro hle hsp))
              clear hv hle hsp htp
              simp only [boundFrame]
              gi_wp2_with (first
                | (refine ⟨trivial, ?_⟩; gi_at_call 116; refine (callsIn_wide.2 HTP.out).mono ?_; rintro e w5 ⟨hbe5, v5, cs, rfl, h5, k5, e5⟩; obtain ⟨a5, c5, rfl, hc5, hm5⟩ := h5.form; have hb5 : Boxed w5 W0.heap.size 22 (.slice va xs.length vc) := (hbe5.block _ hb.lt).trans hb; have hbs5 : Boxed w5 (W0.heap.size + 1) 9 _ := (hbe5.block _ hbs.lt).trans hbs; have q1 := hb5.cell; have q2 := hb5.frozen;
                    have hvn : val cs = numBE b ((c :: l'' : List UInt8).take (m * (pre.length + 1))) := ParI.next (ps := pre.map (·.1)) (q := (P1, V1)) (by simp) (by simpa using HH.out.2.2) _ (by rw [e5, HH.out.1]); have hcl : cs.length ≤ 300 := canon_length_le k5 (by rw [hvn]; exact Nat.lt_of_le_of_lt HH.out.2.1 (by rw [HU.out.2.1]; exact HFIT.out)); have hdl : decide ((cs.length : Int) ≤ 300) = true := (by simp; omega); have HV := Lib.hid hvn; clear hvn e5)
                | (refine ⟨trivial, ?_⟩; gi_at_call 60; refine (callsIn_wide.2 (demand_ok _ _ _ (by first | rfl | (simp; omega)))).mono ?_; rintro e w2 ⟨rfl, rfl⟩))
              have hF : Chg (fun k => k = W0.heap.size) W (w5.setCell ⟨W0.heap.size, 0, none⟩ (.slice a5 cs.length c5)) := ((Chg.refl (fun k => k = W0.heap.size) W).thenBelow hbe5).setCell (p := ⟨W0.heap.size, 0, none⟩) (.inl rfl) _
              refine ⟨hF.keepsFrom _ (by rintro k rfl; exact Boxed.isCells hb), ⟨hF.block _ (by omega) (by omega), hF.block _ (by omega) (by omega)⟩, _, cs, Boxed.set _ hb5, h5.setOther q1 (by simp) _, offB_of h5 hbs5, k5, ?_, hbe.trans (hF.below (fun k hk => by omega) hbe.size), ?_⟩
              · rw [List.length_append, List.length_singleton]
                exact HV.out
              · exact Nat.le_trans hsz hF.size
            case done =>
              rintro D ys W hD ⟨hys, hyl⟩ ⟨v, xs, hb, hr, ho, hc, hv, hbe, hsz⟩ hK
              obtain ⟨va, vc, rfl, hvc, hvm⟩ := hr.form
              have hbc := hb.cell
              have hval : val xs = numBE b l := by rw [hv, List.take_of_length_le hyl]; exact HU.out.2.1
              have HV := Lib.hid hval
              have hrr := r0.below hbe
              clear hv hval hys
              gi_wp2_with (refine ⟨trivial, ?_⟩; gi_at_call 63; refine (callsIn_wide.2 (signed_any _ _ _ _ _)).mono ?_; rintro e w6 ⟨hbe6, rfl⟩; have rr := hrr.below hbe6; have o1 := rr.cell 0; have o2 := rr.cell 1; have o3 := rr.frozen 0; have o4 := rr.frozen 1; simp only [List.getElem?_cons_zero, List.getElem?_cons_succ] at o1 o2)
              obtain ⟨s1, s2⟩ := two_reads (b := w.heap.size) o1 o2 (.bool (true && decide (0 < xs.length))) (.slice va xs.length vc)
              have hkp := two_kept (b := w.heap.size) (hr.below hbe6) o1 o2 (.bool (true && decide (0 < xs.length))) (.slice va xs.length vc)
              have hb8 : Below w.heap.size w ((w6.setCell ⟨w.heap.size, 0, none⟩ (.bool (true && decide (0 < xs.length)))).setCell ⟨w.heap.size, 1, none⟩ (.slice va xs.length vc)) := (((b0.trans (hbe.mono b0.size)).trans (hbe6.mono (b0.trans (hbe.mono b0.size)).size)).setCell (p := ⟨w.heap.size, 0, none⟩) (Nat.le_refl _) _).setCell (p := ⟨w.heap.size, 1, none⟩) (Nat.le_refl _) _
              have hDlt : D < W.heap.size := (Array.getElem?_eq_some_iff.1 hK).1
              have hDw : w.heap.size < D := by
                have h1 := b0.size
                have h2 := r0.lt
                simp only [World.size_alloc] at hD
                omega
              have hK8 : ((w6.setCell ⟨w.heap.size, 0, none⟩ (.bool (true && decide (0 < xs.length)))).setCell ⟨w.heap.size, 1, none⟩ (.slice va xs.length vc)).heap[D]? = some (.deferred (some [])) := by
                exact (Below.heap_setCell _ _ _ _ (by simp; omega)).trans ((Below.heap_setCell _ _ _ _ (by simp; omega)).trans ((hbe6.block D hDlt).trans hK))
              simp only [Bool.true_and] at s1 s2 hkp hb8 hK8
              generalize ((w6.setCell ⟨w.heap.size, 0, none⟩ (.bool (decide (0 < xs.length)))).setCell ⟨w.heap.size, 1, none⟩ (.slice va xs.length vc)) = W8 at *
              have s1' : (W8.putObj D (.deferred none)).cell? ⟨w.heap.size, 0, none⟩ = some (.bool (decide (0 < xs.length))) := (World.cell?_of_block (World.putObj_heap_other (by simp; omega))).trans s1
              have s2' : (W8.putObj D (.deferred none)).cell? ⟨w.heap.size, 1, none⟩ = some (.slice va xs.length vc) := (World.cell?_of_block (World.putObj_heap_other (by simp; omega))).trans s2
              refine ⟨by simp, .inl ⟨_, _, rfl, run_takeDeferred hK8, ?_⟩⟩
              refine ⟨.agg #[.bool (decide (0 < xs.length)), .slice va xs.length vc], by simp [results, Tryd.results91, go_sem, loadCellsFrom, s1', s2'], ?_, _, rfl, ?_⟩
              · exact hb8.trans (belowK_b (w := w) (Nat.le_refl _) W8 D _ _ (by omega) hK8 rfl rfl)
              · have h9 := isInt_mk true (hkp.putObj hK8 rfl (.deferred none)) hc (i := sgn true (numBE b l)) (by rw [HV.out])
                simpa using h9

end Go.Proofs.YtlghjfpkfdnfoaaDoor

/- num.Parse where it answers a number -/
namespace Go.Proofs.YtlghjfpkfdnfoaaDoor
open Go Go.RowKit Go.Shelf

set_option exponentiation.threshold 400 in
set_option maxHeartbeats 1000000 in
set_option maxRecDepth 100000 in
theorem Parse_ok (s : ByteArray) (b : Nat) (w : World) (h2 : 2 ≤ b) (h36 : b ≤ 36) (neg : Bool) (l : List UInt8) (hs : s.data.toList = (if neg then [45] else []) ++ l) (hl0 : l ≠ []) (hlen : l.length ≤ 100000) (hdig : ∀ c ∈ l, digitVal c.toNat < b) (hfit : numBE b l < B32 ^ 300) :
    Calls Tryd.prog 48 #[.string s, .int .i64 (b : Int)] w fun e w' => Below w.heap.size w w' ∧ ∃ v, e = .returned (.tuple #[v, .int .i64 0]) ∧ IsInt w' v (sgn neg (numBE b l)) := by
  refine (Parse_of s (b : Int) w (fun k W v => k = 0 ∧ IsInt W v (sgn neg (numBE b l))) (fun _ _ _ _ h hk => ⟨h.1, h.2.keep hk⟩) ?_).mono ?_
  · intro B W4 hb4 hrs hrn hrr
    have hpa := fun W => parse_ok s b W h2 h36 neg l hs hl0 hlen hdig hfit
    have HP := Lib.hid hpa
    have s0 := hrs.cell 0
    have n0 := hrn.cell 0
    simp only [List.getElem?_cons_zero] at s0 n0
    clear hpa hs hfit
    go_enter Tryd.func90, Tryd.ntmps90
    go_wp2_with (first
      | (go_at_call 87; refine (demandBase_ok _ _ h2 h36).mono ?_; rintro e w2 ⟨rfl, rfl⟩)
      | (go_at_call 91; refine (HP.out _).mono ?_; rintro e w3 ⟨hbe3, v, rfl, n9, v9, x9, rfl, g1, k1, l1, m1⟩; obtain ⟨y1, c1, rfl, -, -⟩ := g1.form; have sr := hrr.below hbe3; have o1 := sr.cell 0; have o2 := sr.cell 1; have o5 := sr.frozen 0; have o6 := sr.frozen 1; simp only [List.getElem?_cons_zero, List.getElem?_cons_succ] at o1 o2))
    have hk := two_kept (b := B + 2) g1 o1 o2 (.bool n9) (.slice y1 x9.length c1)
    go_end0
    refine ⟨0, .inl ⟨rfl, rfl⟩, (((Chg.refl (fun k => k = B + 2) W4).thenBelow hbe3).setCell (p := ⟨B + 2, 0, none⟩) (.inl rfl) _).setCell (p := ⟨B + 2, 1, none⟩) (.inl rfl) _, n9, y1, x9.length, c1, (sr.set 0 (.bool n9)).set 1 (.slice y1 x9.length c1), rfl, n9, _, x9, rfl, hk, k1, l1, m1⟩
  · rintro e W ⟨hbe, r0, k, rfl, rfl, hi⟩
    exact ⟨hbe, _, rfl, hi⟩

end Go.Proofs.YtlghjfpkfdnfoaaDoor
