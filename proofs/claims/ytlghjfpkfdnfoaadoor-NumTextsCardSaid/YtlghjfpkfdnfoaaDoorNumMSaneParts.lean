/- num.chunks, what it gives -/
import Derived.Test.YtlghjfpkfdnfoaaDoorNumMRangeSt
import Derived.Test.YtlghjfpkfdnfoaaDoorNumMTextApi
import Derived.Test.YtlghjfpkfdnfoaaDoorNumMQuiet
import Derived.Test.YtlghjfpkfdnfoaaDoorNumMRefOf
import Derived.Lib.IndexBytes
import Derived.Test.YtlghjfpkfdnfoaaDoorNumMApiOk
import Derived.Test.YtlghjfpkfdnfoaaDoorNumMCheck
namespace Go.Proofs.YtlghjfpkfdnfoaaDoor
open Go Go.RowKit Go.Shelf
attribute [local go_sem] Oper.semAt_some

/-- the number of a text to a base -/
def numBE (b : Nat) (l : List UInt8) : Nat := l.foldl (fun v c => v * b + digitVal c.toNat) 0
theorem foldBE (b : Nat) (l : List UInt8) (z : Nat) : l.foldl (fun v c => v * b + digitVal c.toNat) z = z * b ^ l.length + numBE b l := by
  unfold numBE
  induction l generalizing z with
  | nil => simp
  | cons c l ih =>
    simp only [List.foldl_cons, List.length_cons]
    rw [ih, ih (0 * b + digitVal c.toNat), Nat.pow_succ]
    simp only [Nat.zero_mul, Nat.zero_add, Nat.add_mul]
    rw [Nat.mul_assoc z b, Nat.mul_comm b, Nat.add_assoc]
theorem numBE_append (b : Nat) (xs ys : List UInt8) : numBE b (xs ++ ys) = numBE b xs * b ^ ys.length + numBE b ys := by
  rw [numBE, List.foldl_append]
  exact foldBE b ys _
theorem numBE_snoc (b : Nat) (xs : List UInt8) (c : UInt8) : numBE b (xs ++ [c]) = numBE b xs * b + digitVal c.toNat := by
  rw [numBE_append]
  simp [numBE]
theorem numBE_lt {b : Nat} (l : List UInt8) (h : ∀ c ∈ l, digitVal c.toNat < b) : numBE b l < b ^ l.length := by
  induction l using snoc_ind with
  | h0 => simp [numBE]
  | h1 l c ih =>
    have h1 := ih (fun x hx => h x (by simp [hx]))
    have h2 := h c (by simp)
    rw [numBE_snoc, List.length_append, List.length_singleton, Nat.pow_succ]
    calc numBE b l * b + digitVal c.toNat < numBE b l * b + b := by omega
      _ = (numBE b l + 1) * b := by rw [Nat.add_mul, Nat.one_mul]
      _ ≤ b ^ l.length * b := Nat.mul_le_mul_right _ h1
/-- the piece k of a text, m digits long -/
def pieceAt (m : Nat) (l : List UInt8) (k : Nat) : List UInt8 := (l.drop (m * k)).take m
theorem take_piece (m : Nat) (l : List UInt8) (k : Nat) : l.take (m * (k + 1)) = l.take (m * k) ++ pieceAt m l k := by
  rw [pieceAt, Nat.mul_succ, List.take_add]
theorem piece_length (m : Nat) (l : List UInt8) (k : Nat) : (pieceAt m l k).length = min m (l.length - m * k) := by simp [pieceAt]

/-- a chunk: the base to the power of its length, its value -/
abbrev IdxChunk := { p : Nat × Nat // p.1 < B32 ∧ p.2 < B32 }
def encChunk (p : IdxChunk) : Array Value := #[.int .u32 (p.1.1 : Int), .int .u32 (p.1.2 : Int)]
def chunkAt (b m : Nat) (l : List UInt8) (k : Nat) : Nat × Nat := (b ^ (pieceAt m l k).length, numBE b (pieceAt m l k))
def strLen : Option Value → Nat
  | some (.string s) => s.size
  | _ => 0
/-- what is left behind so many chunks -/
def restAt (m : Nat) (l : List UInt8) (k : Nat) : ByteArray := ⟨(l.drop (m * k)).toArray⟩
theorem restAt_size (m : Nat) (l : List UInt8) (k : Nat) : (restAt m l k).size = l.length - m * k := by simp [restAt, ByteArray.size]
theorem restAt_toList (m : Nat) (l : List UInt8) (k : Nat) : (restAt m l k).data.toList = l.drop (m * k) := by simp [restAt]
theorem bytes_ext {s t : ByteArray} (h : s.data.toList = t.data.toList) : s = t := by
  obtain ⟨⟨a⟩⟩ := s
  obtain ⟨⟨c⟩⟩ := t
  simp at h
  rw [h]
theorem restAt_next (m : Nat) (l : List UInt8) (k : Nat) : (restAt m l k).extract (min m (l.length - m * k)) (l.length - m * k) = restAt m l (k + 1) := by
  apply bytes_ext
  have h := Lib.extract_to_end (restAt m l k) (min m (l.length - m * k))
  rw [restAt_size] at h
  rw [h, restAt_toList, restAt_toList, List.drop_drop, Nat.mul_succ]
  by_cases hc : m ≤ l.length - m * k
  · rw [Nat.min_eq_left hc]
  · rw [Nat.min_eq_right (by omega), List.drop_eq_nil_of_le (by omega), List.drop_eq_nil_of_le (by omega)]

set_option maxRecDepth 100000 in
set_option maxHeartbeats 4000000 in
theorem chunks1_in (b m : Nat) (l : List UInt8) (h2 : 2 ≤ b) (h36 : b ≤ 36) (hm1 : 1 ≤ m) (hM : b ^ m < B32) (hM1 : B32 ≤ b ^ (m + 1)) (hl : l.length ≤ 1000000) (hdig : ∀ c ∈ l, digitVal c.toNat < b) (y Bb Bs : Nat)
    (J : List IdxChunk → World → Prop) (hJ : ∀ s A A', J s A → A.grownBy A' (some Bs) → J s A')
    (hY : ∀ pre x A, J pre A → Boxed A Bs 9 (.string (restAt m l (pre ++ [x]).length)) → pre.length < 1000000 → ((pre ++ [x]).map (·.1) = (List.range (pre ++ [x]).length).map (chunkAt b m l)) → YieldAt Fence.wide (8 - 1) Tryd.prog y (encChunk x) A fun e A' => e = .returned (.bool true) ∧ J (pre ++ [x]) A' ∧ A'.heap[Bb]? = A.heap[Bb]? ∧ A'.heap[Bs]? = A.heap[Bs]?)
    (W : World) (hb : Boxed W Bb 3 (.int .i64 (b : Int))) (hs : Boxed W Bs 9 (.string (restAt m l 0))) (hne : Bb ≠ Bs) (h0 : J [] W) :
    CallsIn Fence.wide 8 Tryd.prog 131 #[.func (.yield y) #[] #[], .pointer (some ⟨Bb, 0, none⟩), .pointer (some ⟨Bs, 0, none⟩)] W fun e W' => (∃ v, e = .returned v) ∧
      ∃ xs : List IdxChunk, (xs.map (·.1) = (List.range xs.length).map (chunkAt b m l) ∧ l.length ≤ m * xs.length) ∧ J xs W' := by
  have hbc := hb.cell
  refine callsIn_of_wp Tryd.func131 rfl trivial ?_ rfl
  simp only [Tryd.ntmps131, List.size_toArray, List.length_cons, List.length_nil, Nat.reduceAdd, Nat.reduceSub, Array.replicate_succ, Array.replicate_zero, List.push_toArray, List.append_toArray, List.nil_append, List.cons_append]
  have HM := Lib.hid (And.intro hM hM1)
  obtain ⟨U, hU⟩ : ∃ U, b ^ m = U := ⟨_, rfl⟩
  have hch := chunk_at b m W h2 h36 hM hM1
  rw [hU] at hch
  have HC := Lib.hid hch
  clear hch hM hM1 hU
  gi_wp2_with (refine ⟨trivial, ?_⟩; gi_at_call 111; refine (callsIn_wide.2 HC.out).mono ?_; rintro e w' ⟨rfl, rfl⟩)
  gi_loopw [6] (fun _ wr => ∃ pre : List IdxChunk, pre.map (·.1) = (List.range pre.length).map (chunkAt b m l) ∧ pre.length ≤ l.length ∧ J pre wr ∧ Boxed wr Bb 3 (.int .i64 (b : Int)) ∧ Boxed wr Bs 9 (.string (restAt m l pre.length))) (fun _ W => strLen (W.cell? ⟨Bs, 0, none⟩))
  case atStart => exact ⟨[], rfl, by simp, h0, hb, hs⟩
  case round =>
    obtain ⟨pre, hpre, hpl, hJ1, hb1, hs1⟩ := hrel
    obtain ⟨k, hk⟩ : ∃ k, pre.length = k := ⟨_, rfl⟩
    rw [hk] at hs1 hpl
    obtain ⟨L, hL⟩ : ∃ L, l.length - m * k = L := ⟨_, rfl⟩
    have hsz : (restAt m l k).size = L := by rw [restAt_size, hL]
    have hrl := restAt_toList m l k
    have hnx := restAt_next m l k
    rw [hL] at hnx
    have hpl2 := piece_length m l k
    rw [hL] at hpl2
    have hc1 := hs1.cell
    have hf1 := hs1.frozen
    have hc2 := hb1.cell
    by_cases hlt : 0 < L
    · have HP := Lib.hid (And.intro hpre (And.intro hk (And.intro hL (And.intro hnx (And.intro hpl2 hrl)))))
      have HS := Lib.hid hsz
      clear hpre hk hL hnx hpl2 hrl
      obtain ⟨r, hr⟩ : ∃ r, restAt m l k = r := ⟨_, rfl⟩
      rw [hr] at hc1 hsz
      have HR := Lib.hid hr
      have hrL : r.size = L := hsz
      clear hr hsz
      have hLb : L ≤ 1000000 := by have := HP.out.2.2.1; omega
      have hmnB : min m L ≤ 1000000 := by omega
      gi_wp2
      rw [show min (m : Int) (L : Int) = ((min m L : Nat) : Int) by omega]
      obtain ⟨mn, hmn⟩ : ∃ mn, min m L = mn := ⟨_, rfl⟩
      rw [hmn] at hmnB ⊢
      have hmnL : mn ≤ L := by omega
      have HMN := Lib.hid hmn
      obtain ⟨pc, hpc⟩ : ∃ pc, pieceAt m l k = pc := ⟨_, rfl⟩
      have hpcl : pc.length = mn := by rw [← hpc, HP.out.2.2.2.2.1, hmn]
      have hpcd : ∀ c ∈ pc, digitVal c.toNat < b := fun c hc => hdig c (by rw [← hpc, pieceAt] at hc; exact List.mem_of_mem_drop (List.mem_of_mem_take hc))
      have hpcr : ∀ j, j < mn → ∃ hj : j < r.size, r[j] = pc[j]! := fun j hj => by
        refine ⟨by omega, ?_⟩
        have e1 : r.data.toList = l.drop (m * k) := by rw [← HR.out]; exact HP.out.2.2.2.2.2
        have e2 : r.data.toList[j]? = some (r[j]'(by omega)) := by
          have hs : j < r.data.size := by have : r.data.size = r.size := rfl; omega
          rw [Array.getElem?_toList, Array.getElem?_eq_getElem hs]
          rfl
        have e4 : (pieceAt m l k)[j]? = r.data.toList[j]? := by
          rw [pieceAt, List.getElem?_take, if_pos (by omega), ← e1]
        have e3 : pc[j]? = some (r[j]'(by omega)) := by
          rw [hpc] at e4
          exact e4.trans e2
        have hjp : j < pc.length := by rw [hpcl]; exact hj
        rw [getElem!_pos pc j hjp]
        rw [List.getElem?_eq_getElem hjp] at e3
        exact (Option.some.inj e3).symm
      have HPC := Lib.hid (And.intro hpc (And.intro hpcl (And.intro hpcd hpcr)))
      clear hmn hpc hpcl hpcd hpcr
      gi_loopw [6, 7, 21] (fun u v i W => ∃ j : Nat, j ≤ mn ∧ i = .int .i64 j ∧ u = .int .u64 ((b ^ j : Nat) : Int) ∧ v = .int .u64 ((numBE b (pc.take j) : Nat) : Int) ∧ ∃ nq, W = wr.drewN nq) (fun _ _ i _ => mn - (intOf i).toNat)
      case atStart => exact ⟨0, Nat.zero_le _, rfl, by simp, by simp [numBE], 0, rfl⟩
      case round =>
        obtain ⟨j, hj, rfl, rfl, rfl, nq, rfl⟩ := hrel
        have c1 : (wr.drewN nq).cell? ⟨Bs, 0, none⟩ = some (.string r) := hc1
        have c2 : (wr.drewN nq).cell? ⟨Bb, 0, none⟩ = some (.int .i64 (b : Int)) := hc2
        by_cases hjm : j < mn
        · obtain ⟨hjr, hjc⟩ := HPC.out.2.2.2 j hjm
          obtain ⟨P1, hP1⟩ : ∃ P1, b ^ j = P1 := ⟨_, rfl⟩
          obtain ⟨V1, hV1⟩ : ∃ V1, numBE b (pc.take j) = V1 := ⟨_, rfl⟩
          rw [hP1, hV1]
          have hmnm : mn ≤ m := by have := HMN.out; omega
          have hPlt : b ^ (j + 1) < B32 := Nat.lt_of_le_of_lt (Nat.pow_le_pow_right (by omega) (by omega)) HM.out.1
          have hcm : pc[j]! ∈ pc := by
            have := HPC.out.2.1
            rw [getElem!_pos pc j (by omega)]
            exact List.getElem_mem _
          have hdlt := HPC.out.2.2.1 _ hcm
          have htk : pc.take (j + 1) = pc.take j ++ [pc[j]!] := by
            have := HPC.out.2.1
            rw [List.take_succ_eq_append_getElem (by omega), getElem!_pos pc j (by omega)]
          have hVn : numBE b (pc.take (j + 1)) = V1 * b + digitVal r[j].toNat := by rw [htk, numBE_snoc, hV1, hjc]
          have hVlt : numBE b (pc.take (j + 1)) < B32 := by
            refine Nat.lt_of_lt_of_le (numBE_lt _ (fun c hc => HPC.out.2.2.1 c (List.mem_of_mem_take hc))) (Nat.le_of_lt (Nat.lt_of_le_of_lt (Nat.pow_le_pow_right (by omega) ?_) hPlt))
            have := List.length_take_le (j + 1) pc
            omega
          rw [← hjc] at hdlt
          have hP2 : b ^ (j + 1) = P1 * b := by rw [← hP1, Nat.pow_succ]
          have hix : ∀ W, (Instr.index 9 (.string r) (.int .i64 (j : Int))).run Tryd.prog W = .ok (.int .u8 ((r[j].toNat : Nat) : Int)) W := fun W => by
            simp [go_sem, hjr]
          obtain ⟨c, hc⟩ : ∃ c, r[j].toNat = c := ⟨_, rfl⟩
          have hc256 : c < 256 := by rw [← hc]; exact r[j].toNat_lt
          rw [hc] at hix hVn hdlt
          obtain ⟨d, hdd⟩ : ∃ d, digitVal c = d := ⟨_, rfl⟩
          rw [hdd] at hVn hdlt
          obtain ⟨P2, hP2'⟩ : ∃ P2, P1 * b = P2 := ⟨_, rfl⟩
          obtain ⟨V2, hV2⟩ : ∃ V2, V1 * b = V2 := ⟨_, rfl⟩
          rw [hP2'] at hP2
          rw [hV2] at hVn
          have w1 : IntKind.u64.wrap ((P1 : Int) * (b : Int)) = (P2 : Int) := by rw [← Int.natCast_mul, hP2', IntKind.wrap_u64]; unfold B32 at hPlt; omega
          have w2 : IntKind.u64.wrap ((V1 : Int) * (b : Int)) = (V2 : Int) := by rw [← Int.natCast_mul, hV2, IntKind.wrap_u64]; unfold B32 at hVlt; omega
          have w3 : IntKind.u64.wrap (d : Int) = (d : Int) := by rw [IntKind.wrap_u64]; omega
          have w4 : IntKind.u64.wrap ((V2 : Int) + (d : Int)) = ((V2 + d : Nat) : Int) := by rw [IntKind.wrap_u64]; unfold B32 at hVlt; omega
          have hdg := fun W => digitOf_any c W hc256
          rw [hdd] at hdg
          have HDG := Lib.hid hdg
          have HPV := Lib.hid (And.intro hP2 hVn)
          clear hjc hmnm hPlt hcm hdlt htk hVn hVlt hP2 hc hc256 hdd hP2' hV2 hdg hP1 hV1 hjr
          gi_wp2_with fail
          refine region_round (.inl rfl) (by kernel_rfl) (by kernel_rfl) ?_
          repeat (go_big_quiet_step (exact (HDG.out _).mono (fun e w' ⟨h1, h2⟩ => ⟨h2, _, h1.symm⟩)))
          refine wpQuiet_nil ?_
          rintro _ ⟨nq2, rfl⟩
          gi_wp2
          exact ⟨⟨j + 1, by omega, by go_num, by rw [HPV.out.1], by rw [HPV.out.2, Int.natCast_add], _, rfl⟩, by simp [intOf]; omega⟩
        · obtain rfl : j = mn := by omega
          have hml := HMN.out
          have hx1 : b ^ j < B32 := Nat.lt_of_le_of_lt (Nat.pow_le_pow_right (by omega) (by omega)) HM.out.1
          have htk : pc.take j = pc := List.take_of_length_le (by rw [HPC.out.2.1]; exact Nat.le_refl _)
          have hx2 : numBE b pc < B32 := Nat.lt_trans (numBE_lt _ HPC.out.2.2.1) (by rw [HPC.out.2.1]; exact hx1)
          have hck : chunkAt b m l k = (b ^ j, numBE b pc) := by rw [chunkAt, HPC.out.1, HPC.out.2.1]
          have hrx : r.extract j L = restAt m l (k + 1) := by rw [← HR.out, ← HP.out.2.2.2.1, HMN.out]
          have hpk := HP.out.2.1
          have hkl := HP.out.2.2.1
          rw [htk]
          obtain ⟨P1, hP1⟩ : ∃ P1, b ^ j = P1 := ⟨_, rfl⟩
          obtain ⟨V1, hV1⟩ : ∃ V1, numBE b pc = V1 := ⟨_, rfl⟩
          rw [hP1] at hx1 hck ⊢
          rw [hV1] at hx2 hck ⊢
          have hJ2 : J pre ((wr.drewN nq).setCell ⟨Bs, 0, none⟩ (.string (restAt m l (k + 1)))) := hJ _ (wr.drewN nq) _ (hJ _ wr (wr.drewN nq) hJ1 ⟨rfl, rfl, rfl, Nat.le_refl _, fun _ _ _ => rfl⟩) (grownBy_setCell' _ _ _)
          have hB2 : Boxed ((wr.drewN nq).setCell ⟨Bs, 0, none⟩ (.string (restAt m l (k + 1)))) Bs 9 (.string (restAt m l (pre ++ [(⟨(P1, V1), hx1, hx2⟩ : IdxChunk)]).length)) := by
            rw [List.length_append, List.length_singleton, hpk]
            exact Boxed.set _ (show Boxed (wr.drewN nq) Bs _ _ from hs1)
          have hkm : k ≤ m * k := Nat.le_mul_of_pos_left k hm1
          have hmap : (pre ++ [(⟨(P1, V1), hx1, hx2⟩ : IdxChunk)]).map (·.1) = (List.range (pre ++ [(⟨(P1, V1), hx1, hx2⟩ : IdxChunk)]).length).map (chunkAt b m l) := by
            rw [List.map_append, HP.out.1, List.length_append, List.length_singleton, List.range_succ, List.map_append, hpk]
            simp only [List.map_cons, List.map_nil]
            rw [hck]
          obtain ⟨fn, tmps, assign, body, hy, hRo⟩ := hY pre ⟨(P1, V1), hx1, hx2⟩ _ hJ2 hB2 (by rw [hpk]; omega) hmap
          have HMAP := Lib.hid hmap
          clear hmap
          simp only [encChunk] at hy
          have w1 : IntKind.u32.wrap (P1 : Int) = (P1 : Int) := by rw [IntKind.wrap_u32']; unfold B32 at hx1; omega
          have w2 : IntKind.u32.wrap (V1 : Int) = (V1 : Int) := by rw [IntKind.wrap_u32']; unfold B32 at hx2; omega
          have hfB : (wr.drewN nq).frozen? ⟨Bs, 0, none⟩ = false := hf1 
          have hmin : min (m : Int) (L : Int) = (j : Int) := by omega
          have HX := Lib.hid (And.intro hml (And.intro htk (And.intro hck (And.intro hpk (And.intro hkl (And.intro hP1 hV1))))))
          have HR2 := Lib.hid hRo
          clear hml htk hck hpk hkl hP1 hV1 hkm hB2 hJ2 hRo HPC HMN HR
          gi_wp2_with fail
          refine HR2.out.mono ?_
          rintro e W3 ⟨rfl, hJ3, hbe3, hs3⟩
          have hB3 : Boxed W3 Bs 9 (.string (restAt m l (k + 1))) := hs3.trans (Boxed.set _ (show Boxed (wr.drewN nq) Bs _ _ from hs1))
          have hb3 : Boxed W3 Bb 3 (.int .i64 (b : Int)) := hbe3.trans (Boxed.other (show Boxed (wr.drewN nq) Bb _ _ from hb1) hne _)
          have hc3 := hB3.cell
          have hms : strLen (W3.cell? ⟨Bs, 0, none⟩) < strLen (wr.cell? ⟨Bs, 0, none⟩) := by
            rw [hc3, hc1]
            show (restAt m l (k + 1)).size < r.size
            have := HX.out.2.2.2.2.1
            rw [restAt_size, hrL, ← this, Nat.mul_succ]
            omega
          clear hc3 hs3
          gi_wp2_with fail
          have hpk := HX.out.2.2.2.1
          refine ⟨⟨pre ++ [_], ?_, ?_, hJ3, hb3, ?_⟩, hms⟩
          · exact HMAP.out
          · rw [List.length_append, List.length_singleton, hpk]
            have hkm : k ≤ m * k := Nat.le_mul_of_pos_left k hm1
            have := HX.out.2.2.2.2.1
            omega
          · rw [List.length_append, List.length_singleton, hpk]
            exact hB3
    · have hL0 : L = 0 := by omega
      have hr0 : (restAt m l k).size = 0 := by rw [hsz, hL0]
      have HP := Lib.hid (And.intro hpre (And.intro hk hL))
      clear hpre hk hL hsz hrl hnx hpl2
      obtain ⟨r, hr⟩ : ∃ r, restAt m l k = r := ⟨_, rfl⟩
      rw [hr] at hc1 hr0
      clear hr
      gi_wp2
      go_end0
      exact ⟨⟨_, rfl⟩, pre, ⟨HP.out.1, by have h1 := HP.out.2.2; have h2 := HP.out.2.1; rw [h2]; omega⟩, hJ1⟩

/-- what a round keeps: the two boxes of the iterator -/
def KpC (Bb Bs : Nat) (A A' : World) : Prop := A'.heap[Bb]? = A.heap[Bb]? ∧ A'.heap[Bs]? = A.heap[Bs]?
theorem KpC.trans {Bb Bs : Nat} {A B C : World} (h : KpC Bb Bs A B) (k : KpC Bb Bs B C) : KpC Bb Bs A C := ⟨k.1.trans h.1, k.2.trans h.2⟩

theorem chunks_any (s : ByteArray) (b : Int) (w : World) :
    Calls Tryd.prog 115 #[.string s, .int .i64 b] w fun e w' =>
      e = .returned (.func (.func 131) #[] #[.pointer (some ⟨w.heap.size + 1, 0, none⟩), .pointer (some ⟨w.heap.size, 0, none⟩)]) ∧
      (w.alloc (.cells #[.string s] 9)).alloc (.cells #[.int .i64 b] 3) = w' := by
  go_enter Tryd.func115, Tryd.ntmps115
  go_wp2
  go_ret
  exact ⟨rfl, rfl⟩

theorem chunks_stops (b m : Nat) (l : List UInt8) (h2 : 2 ≤ b) (h36 : b ≤ 36) (hm1 : 1 ≤ m) (hM : b ^ m < B32) (hM1 : B32 ≤ b ^ (m + 1)) (hl : l.length ≤ 1000000) (hdig : ∀ c ∈ l, digitVal c.toNat < b) (Bb Bs : Nat) (w : World)
    (hb : Boxed w Bb 3 (.int .i64 (b : Int))) (hs : Boxed w Bs 9 (.string (restAt m l 0))) (hne : Bb ≠ Bs) :
    SeqSt Fence.wide (9 - 1) Tryd.prog 131 #[.pointer (some ⟨Bb, 0, none⟩), .pointer (some ⟨Bs, 0, none⟩)] encChunk (KpC Bb Bs)
      (fun xs => xs.map (·.1) = (List.range xs.length).map (chunkAt b m l) ∧ l.length ≤ m * xs.length) (fun ys => ys.map (·.1) = (List.range ys.length).map (chunkAt b m l)) 1000000 Bs 9 (fun ys => .string (restAt m l ys.length)) w :=
  fun y J W hW hJ hY h0 => chunks1_in b m l h2 h36 hm1 hM hM1 hl hdig y Bb Bs J hJ hY W (hb.kept (row := none) ⟨hW.os, hW.tape, hW.output, hW.size, fun j hj _ => hW.block j hj⟩ (by simp)) (hs.kept (row := none) ⟨hW.os, hW.tape, hW.output, hW.size, fun j hj _ => hW.block j hj⟩ (by simp)) hne h0

/-- a loop over chunks, at the wide fence -/
theorem range_chunks {g : Operand} {p1 p2 : Tmp} {assign body : Code} {Q : Exit → Act → World → Prop} {a : Act} {w : World} (d1 d2 : Nat) (b m : Nat) (l : List UInt8) (h2 : 2 ≤ b) (h36 : b ≤ 36) (hm1 : 1 ≤ m) (hM : b ^ m < B32) (hM1 : B32 ≤ b ^ (m + 1)) (hl : l.length ≤ 1000000) (hdig : ∀ c ∈ l, digitVal c.toNat < b) (Bb Bs : Nat)
    (hg : a.eval g = .func (.func 131) #[] #[.pointer (some ⟨Bb, 0, none⟩), .pointer (some ⟨Bs, 0, none⟩)])
    (hb : Boxed w Bb 3 (.int .i64 (b : Int))) (hs : Boxed w Bs 9 (.string (restAt m l 0))) (hne : Bb ≠ Bs)
    (I : List IdxChunk → World → Prop) (hI : ∀ s A A' row, I s A → A.grownBy A' row → (∀ r, row = some r → r = Bs ∨ (w.heap.size ≤ r ∧ ∃ o : Obj, A.heap[r]? = some o ∧ o.isCells = false)) → I s A') (h0 : I [] w)
    (hassign : ∀ (l : Nat) (x : IdxChunk) (W : World) (K : Act → World → Prop), K (boundFrame a p1 p2 d1 d2 (.int .u32 (x.1.1 : Int)) (.int .u32 (x.1.2 : Int))) W →
      assign.wpIn (Fence.wide.inRound l) 7 Tryd.prog (Exit.then K (fun _ _ _ => False)) { tmps := (a.tmps.setIfInBounds p1 (.int .u32 (x.1.1 : Int))).setIfInBounds p2 (.int .u32 (x.1.2 : Int)), defers := [] } W)
    (hbody : ∀ (y : Nat) (pre : List IdxChunk) (x : IdxChunk) (W : World), I pre W → Boxed W Bs 9 (.string (restAt m l (pre ++ [x]).length)) → pre.length < 1000000 → (pre ++ [x]).map (·.1) = (List.range (pre ++ [x]).length).map (chunkAt b m l) →
      body.wpIn (Fence.wide.inRound y) 7 Tryd.prog (stPost w.heap.size (KpC Bb Bs) I (pre ++ [x]) W) (boundFrame a p1 p2 d1 d2 (.int .u32 (x.1.1 : Int)) (.int .u32 (x.1.2 : Int))) W)
    (hdone : ∀ (D : Nat) (xs : List IdxChunk) (W : World), w.heap.size ≤ D → (xs.map (·.1) = (List.range xs.length).map (chunkAt b m l) ∧ l.length ≤ m * xs.length) → I xs W → W.heap[D]? = some (.deferred (some [])) → Q .normal { a with defers := { target := .collected D, args := #[] } :: a.defers } W) :
    (Code.rangeFunc g #[p1, p2] assign body).wpIn Fence.wide 9 Tryd.prog Q a w :=
  wpIn_rangeFunc_st (n := 9) (F := Fence.wide) rfl (by omega) (gf := 131) (lb := #[.pointer (some ⟨Bb, 0, none⟩), .pointer (some ⟨Bs, 0, none⟩)]) hg trivial (enters_of Tryd.func131 (by kernel_rfl) rfl)
    (chunks_stops b m l h2 h36 hm1 hM hM1 hl hdig Bb Bs w hb hs hne) KpC.trans (fun W l o o' hB h hc hw => ⟨World.putObj_heap_other (by have := hb.lt; omega), World.putObj_heap_other (by have := hs.lt; omega)⟩) (Below.refl _ _) (fun _ => rfl) hs.lt I hI h0
    (fun x => boundFrame a p1 p2 d1 d2 (.int .u32 (x.1.1 : Int)) (.int .u32 (x.1.2 : Int))) (fun l x W K hK => by simpa [encChunk] using hassign l x W K hK) hbody hdone

end Go.Proofs.YtlghjfpkfdnfoaaDoor

/- num.parse where it answers -/
namespace Go.Proofs.YtlghjfpkfdnfoaaDoor
open Go Go.RowKit Go.Shelf
attribute [local go_sem] Oper.semAt_some

theorem size_toList (s : ByteArray) : s.data.toList.length = s.size := by
  rw [Array.length_toList]
  rfl
theorem index_string (r : ByteArray) (j : Nat) (l : List UInt8) (hl : r.data.toList = l) (hj : j < l.length) (W : World) :
    (Instr.index 9 (.string r) (.int .i64 (j : Int))).run Tryd.prog W = .ok (.int .u8 (((l[j]'hj).toNat : Nat) : Int)) W := by
  subst hl
  have hs : j < r.size := by have := size_toList r; omega
  have e : r[j] = r.data.toList[j] := by
    rw [Array.getElem_toList]
    rfl
  simp [go_sem, hs, e]

theorem numBE_zero (b : Nat) (c : UInt8) (l : List UInt8) (h : c.toNat = 48) : numBE b (c :: l) = numBE b l := by
  have h0 : 0 * b + digitVal 48 = 0 := by simp [digitVal]
  rw [numBE, List.foldl_cons, h, h0]
  rfl
theorem numBE_take_le (b : Nat) (hb : 0 < b) (n : Nat) (l : List UInt8) : numBE b (l.take n) ≤ numBE b l := by
  conv => rhs; rw [← List.take_append_drop n l, numBE_append]
  exact Nat.le_trans (Nat.le_mul_of_pos_right _ (Nat.pow_pos hb)) (Nat.le_add_right _ _)
/-- no limb lies in the box B -/
def OffB (B : Nat) (v : Value) (xs : List Nat) : Prop := ∀ a n c, v = .slice (some a) n c → xs ≠ [] → a.block ≠ B
theorem offB_of {W : World} {B : Nat} {t : TypeId} {s : ByteArray} {v : Value} {xs : List Nat} (hr : Reads .u32 W v xs) (hb : Boxed W B t (.string s)) : OffB B v xs := by
  obtain ⟨a, cap, rfl, hc, hm, hcell⟩ := hr
  intro a' n c e hx he
  simp only [Value.slice.injEq] at e
  obtain ⟨rfl, -, -⟩ := e
  obtain ⟨⟨b, off, hab⟩, h2⟩ := hcell 0 (List.length_pos_iff.2 hx)
  simp only [Option.some.injEq] at hab
  subst hab
  simp only at he
  subst he
  rw [lookAt_some] at h2
  simp only [World.cell?, show W.heap[b]? = _ from hb] at h2
  cases off with
  | zero => simp at h2
  | succ k => simp at h2
theorem reads_grown {W W' : World} {v : Value} {xs : List Nat} {row : Option Nat} (hr : Reads .u32 W v xs) (hg : W.grownBy W' row) (hrow : ∀ r, row = some r → (∀ a n c, v = .slice (some a) n c → xs ≠ [] → a.block ≠ r) ∨ ∃ o : Obj, W.heap[r]? = some o ∧ o.isCells = false) : Reads .u32 W' v xs := by
  obtain ⟨a, cap, rfl, hc, hm, hcell⟩ := hr
  refine ⟨a, cap, rfl, hc, hm, fun j hj => ⟨(hcell j hj).1, ?_⟩⟩
  obtain ⟨⟨b, off, rfl⟩, h2⟩ := hcell j hj
  have hlt := World.block_lt_of_cell? W _ h2
  have hx : xs ≠ [] := by intro e; simp [e] at hj
  have h3 : W'.heap[b]? = W.heap[b]? := hg.block b hlt (fun e => by
    rcases hrow b e.symm with h | ⟨o, ho, hoc⟩
    · exact h ⟨b, off, none⟩ _ _ rfl hx rfl
    · rw [lookAt_some] at h2
      cases o <;> simp_all [World.cell?, Obj.isCells])
  rw [← h2]
  exact World.cell?_of_block h3

/-- what a loop over chunks keeps -/
def ParI (W0 : World) (b m : Nat) (lx : List UInt8) (pre : List IdxChunk) (W : World) : Prop :=
  ∃ v xs, Boxed W W0.heap.size 22 v ∧ Reads .u32 W v xs ∧ OffB (W0.heap.size + 1) v xs ∧ Canon xs ∧ val xs = numBE b (lx.take (m * pre.length)) ∧ Below W0.heap.size W0 W ∧ W0.heap.size + 3 ≤ W.heap.size
theorem ParI.own {W0 : World} {b m n : Nat} {lx : List UInt8} (hn : W0.heap.size + 1 ≤ n) : ∀ (s : List IdxChunk) (A A' : World) (row : Option Nat), ParI W0 b m lx s A → A.grownBy A' row → (∀ r, row = some r → r = W0.heap.size + 1 ∨ (n ≤ r ∧ ∃ o : Obj, A.heap[r]? = some o ∧ o.isCells = false)) → ParI W0 b m lx s A' := by
  rintro s A A' row ⟨v, xs, hb, hr, ho, hc, hv, hbe, hsz⟩ hg hrow
  refine ⟨v, xs, hb.kept hg (fun e => ?_), reads_grown hr hg (fun r e => ?_), ho, hc, hv, hbe.grown hg hbe.size (fun r e => ?_), Nat.le_trans hsz hg.size⟩
  · rcases hrow _ e.symm with h | ⟨_, o, h, hoc⟩
    · omega
    · rw [show A.heap[W0.heap.size]? = _ from hb] at h
      cases h
      simp [Obj.isCells] at hoc
  · rcases hrow r e with h | ⟨_, h⟩
    · subst h; exact .inl ho
    · exact .inr h
  · rcases hrow r e with h | ⟨h, _⟩ <;> omega
theorem ParI.start {W0 : World} (b m : Nat) (lx : List UInt8) (o1 o2 : Obj) : ParI W0 b m lx [] (((W0.alloc (.cells #[.slice none 0 0] 22)).alloc o1).alloc o2) :=
  ⟨.slice none 0 0, [], ((Boxed.new W0 _ _).alloc _).alloc _, Reads.nil _ _, fun a n c e => by simp at e, canon_nil, by simp [val, numBE], (((Below.refl _ W0).alloc (Nat.le_refl _) _).alloc (by simp) _).alloc (by simp; omega) _, by simp⟩
theorem ParI.next {b m k : Nat} {lx : List UInt8} {ps : List (Nat × Nat)} {q : Nat × Nat} (hps : ps.length = k) (h : ps ++ [q] = (List.range (k + 1)).map (chunkAt b m lx)) (V : Nat) (hV : V = numBE b (lx.take (m * k)) * q.1 + q.2) : V = numBE b (lx.take (m * (k + 1))) := by
  have h1 := congrArg (fun z : List (Nat × Nat) => z[k]?) h
  rw [List.getElem?_append_right (by omega), hps, Nat.sub_self] at h1
  simp at h1
  rw [hV, h1, take_piece, numBE_append]
  rfl

set_option exponentiation.threshold 400 in
set_option maxHeartbeats 8000000 in
set_option maxRecDepth 100000 in
theorem parse_ok (s : ByteArray) (b : Nat) (w : World) (h2 : 2 ≤ b) (h36 : b ≤ 36) (neg : Bool) (l : List UInt8) (hs : s.data.toList = (if neg then [45] else []) ++ l) (hl0 : l ≠ []) (hlen : l.length ≤ 100000) (hdig : ∀ c ∈ l, digitVal c.toNat < b) (hfit : numBE b l < B32 ^ 300) :
    Calls Tryd.prog 91 #[.string s, .int .i64 (b : Int)] w fun e w' => Below w.heap.size w w' ∧ ∃ v, e = .returned v ∧ IsInt w' v (sgn neg (numBE b l)) := by
  have hlp : 0 < l.length := List.length_pos_iff.2 hl0
  obtain ⟨t, ht⟩ : ∃ t : ByteArray, t.data.toList = l := ⟨⟨l.toArray⟩, by simp⟩
  have htz : t.size = l.length := by rw [← ht, size_toList]
  have hcut : neg = true → s.extract 1 s.size = t := fun hn => by
    subst hn
    apply bytes_ext
    rw [Lib.extract_to_end, hs, ht]
    rfl
  have hsame : neg = false → s = t := fun hn => by
    subst hn
    apply bytes_ext
    rw [hs, ht]
    rfl
  have hsz : s.size = (if neg then 1 else 0) + l.length := by
    rw [← size_toList, hs]
    cases neg <;> simp [Nat.add_comm]
  have hi0 : ∀ W, (Instr.index 9 (.string s) (.int .i64 0)).run Tryd.prog W = .ok (.int .u8 (if neg then 45 else (((l[0]'hlp).toNat : Nat) : Int))) W := fun W => by
    have h0 : 0 < ((if neg then [45] else []) ++ l).length := by cases neg <;> simp <;> omega
    have := index_string s 0 _ hs h0 W
    rw [Int.ofNat_zero] at this
    rw [this]
    cases neg <;> rfl
  have hn45 : neg = false → ((((l[0]'hlp).toNat : Nat) : Int) == 45) = false := fun _ => by
    have h1 := hdig (l[0]'hlp) (List.getElem_mem _)
    refine beq_eq_false_iff_ne.2 fun e => ?_
    have e' : (l[0]'hlp).toNat = 45 := by omega
    rw [e'] at h1
    simp [digitVal] at h1
    omega
  have hspos : 0 < s.size := by rw [hsz]; omega
  obtain ⟨m, hm1, hM, hM1⟩ := chunk_exists b h2 h36
  have HL := Lib.hid (And.intro ht (And.intro htz (And.intro hs hsz)))
  refine (callsIn_wide (n := 9)).1 ?_
  refine callsIn_of_wp_marks Tryd.func91 rfl trivial ?_ rfl
  simp only [Tryd.ntmps91, List.size_toArray, List.length_cons, List.length_nil, Nat.reduceAdd, Nat.reduceSub, Array.replicate_succ, Array.replicate_zero, List.push_toArray, List.append_toArray, List.nil_append, List.cons_append]
  have hlm : l.length ≤ 9223372036854775807 := by omega
  have HFIT := Lib.hid hfit
  clear ht htz hs hsz hl0 hfit
  have b0 := (Below.refl w.heap.size w).alloc (Nat.le_refl _) (.cells #[.bool false, .slice none 0 0] 24)
  have r0 := RowAt.new w 24 [.bool false, .slice none 0 0]
  obtain ⟨W0, hW0⟩ : ∃ W0, w.alloc (.cells #[.bool false, .slice none 0 0] 24) = W0 := ⟨_, rfl⟩
  rw [hW0] at b0 r0
  have HW := Lib.hid hW0
  clear hW0
  have htz := HL.out.2.1
  have hd0 : decide ((0 : Int) < (l.length : Int)) = true := by simp; omega
  have hzz : s.size = s.size := rfl
  cases neg
  · have e0 := hsame rfl
    have h45 := hn45 rfl
    simp only [Bool.false_eq_true, if_false] at hi0
    clear hsame hcut hn45
    subst e0
    gi_wp2_with (refine ⟨trivial, ?_⟩; gi_at_call 60; refine (callsIn_wide.2 (demand_ok _ _ _ (by first | rfl | (simp; omega)))).mono ?_; rintro e w2 ⟨rfl, rfl⟩)
    generalize s = t at *
    clear hi0 h45 hspos hzz
    rw [HW.out]
    gi_loop [27] (fun i => ∃ j : Nat, j ≤ l.length ∧ i = .int .i64 j) (fun i => l.length - (intOf i).toNat)
    case atStart => exact ⟨0, Nat.zero_le _, rfl⟩
    case round =>
      obtain ⟨j, hj, rfl⟩ := hrel
      by_cases hjl : j < l.length
      · have hix := fun W => index_string t j l HL.out.1 hjl W
        have hcd := hdig (l[j]'hjl) (List.getElem_mem _)
        obtain ⟨c, hc⟩ : ∃ c, (l[j]'hjl).toNat = c := ⟨_, rfl⟩
        have hc256 : c < 256 := by rw [← hc]; exact (l[j]'hjl).toNat_lt
        rw [hc] at hix hcd
        have hdd : decide (((digitVal c : Nat) : Int) < (b : Int)) = true := by simp; omega
        clear hc
        gi_wp2_with (first
          | (refine ⟨trivial, ?_⟩; gi_at_call 114; refine (callsIn_wide.2 (digitOf_any c _ hc256)).mono ?_; rintro e w2 ⟨rfl, rfl⟩)
          | (refine ⟨trivial, ?_⟩; gi_at_call 60; refine (callsIn_wide.2 (demand_ok _ _ _ (by first | rfl | (simp; omega)))).mono ?_; rintro e w2 ⟨rfl, rfl⟩))
        exact ⟨⟨j + 1, by omega, by go_num⟩, by simp [intOf]; omega⟩
      · have hjd : decide ((j : Int) < (l.length : Int)) = false := by simp; omega
        have HLx := Lib.hid (And.intro htz hd0)
        clear htz hd0
        gi_wp2_with fail
        gi_loop [0] (fun v => ∃ (u : ByteArray) (l' : List UInt8), v = .string u ∧ u.data.toList = l' ∧ numBE b l' = numBE b l ∧ (∀ c ∈ l', digitVal c.toNat < b) ∧ l'.length ≤ 100000) (fun v => strLen (some v))
        case atStart => exact ⟨t, l, rfl, HL.out.1, rfl, hdig, hlen⟩
        case round =>
          obtain ⟨u, l', rfl, hu, hnum, hdig', hlen'⟩ := hrel
          have hus : u.size = l'.length := by rw [← hu, size_toList]
          have hguard : (l' = []) ∨ (∃ c l'', l' = c :: l'' ∧ c.toNat = 48) ∨ (∃ c l'', l' = c :: l'' ∧ c.toNat ≠ 48) := by
            cases l' with
            | nil => exact .inl rfl
            | cons c l'' =>
              by_cases h : c.toNat = 48
              · exact .inr (.inl ⟨c, l'', rfl, h⟩)
              · exact .inr (.inr ⟨c, l'', rfl, h⟩)
          have HU := Lib.hid (And.intro hu (And.intro hnum (And.intro hdig' hlen')))
          have hub : u.size ≤ 100000 := by omega
          clear hu hnum hdig' hlen'
          rcases hguard with hg | ⟨c, l'', hg, hc48⟩ | ⟨c, l'', hg, hc48⟩
          · subst hg
            simp only [List.length_nil] at hus
            gi_wp2_with (refine ⟨trivial, ?_⟩; gi_at_call 115; refine (callsIn_wide.2 (chunks_any _ _ _)).mono ?_; rintro e w' ⟨rfl, rfl⟩)
            refine range_chunks 8 9 b m [] h2 h36 hm1 hM hM1 (by have := HU.out.2.2.2; omega) HU.out.2.2.1 (W0.heap.size + 2) (W0.heap.size + 1) (by exact rfl) ?bb ?bs (by omega)
              (ParI W0 b m []) (ParI.own (by simp)) (ParI.start b m [] _ _) ?assign ?body ?done
            case bb => exact Boxed.at (Boxed.new _ _ _) (by simp)
            case bs =>
              have hu0 : restAt m [] 0 = u := bytes_ext (by rw [restAt_toList, Nat.mul_zero, List.drop_zero]; exact HU.out.1.symm)
              rw [hu0]
              exact Boxed.at ((Boxed.new _ _ _).alloc _) (by simp)
            case assign =>
              intro y x W K hK
              gi_wp2
              exact hK
            case body =>
              rintro y pre x W ⟨v, xs, hb, hr, ho, hc, hv, hbe, hsz⟩ hbs hlt hsp
              obtain ⟨⟨P1, V1⟩, hx1, hx2⟩ := x
              obtain ⟨va, vc, rfl, hvc, hvm⟩ := hr.form
              have hbc := hb.cell
              have hfc := hb.frozen
              have hle := numBE_take_le b (by omega) (m * (pre.length + 1)) []
              have hlx : xs.length ≤ 300 := canon_length_le hc (by rw [hv]; exact Nat.lt_of_le_of_lt (numBE_take_le b (by omega) _ _) (by rw [HU.out.2.1]; exact HFIT.out))
              have htp := timesPlus_any (.slice va xs.length vc) xs P1 V1 W hr hc.1 (by omega) hx1 hx2
              have HTP := Lib.hid htp
              have HH := Lib.hid (And.intro hv (And.intro hle hsp))
              clear hv hle hsp htp
              simp only [boundFrame]
              gi_wp2_with (first
                | (refine ⟨trivial, ?_⟩; gi_at_call 116; refine (callsIn_wide.2 HTP.out).mono ?_; rintro e w5 ⟨hbe5, v5, cs, rfl, h5, k5, e5⟩; obtain ⟨a5, c5, rfl, hc5, hm5⟩ := h5.form; have hb5 : Boxed w5 W0.heap.size 22 (.slice va xs.length vc) := (hbe5.block _ hb.lt).trans hb; have hbs5 : Boxed w5 (W0.heap.size + 1) 9 _ := (hbe5.block _ hbs.lt).trans hbs; have q1 := hb5.cell; have q2 := hb5.frozen;
                    have hvn : val cs = numBE b (([] : List UInt8).take (m * (pre.length + 1))) := ParI.next (ps := pre.map (·.1)) (q := (P1, V1)) (by simp) (by simpa using HH.out.2.2) _ (by rw [e5, HH.out.1]); have hcl : cs.length ≤ 300 := canon_length_le k5 (by rw [hvn]; exact Nat.lt_of_le_of_lt HH.out.2.1 (by rw [HU.out.2.1]; exact HFIT.out)); have hdl : decide ((cs.length : Int) ≤ 300) = true := (by simp; omega); have HV := Lib.hid hvn; clear hvn e5)
                | (refine ⟨trivial, ?_⟩; gi_at_call 60; refine (callsIn_wide.2 (demand_ok _ _ _ (by first | rfl | (simp; omega)))).mono ?_; rintro e w2 ⟨rfl, rfl⟩))
              have hF : Chg (fun k => k = W0.heap.size) W (w5.setCell ⟨W0.heap.size, 0, none⟩ (.slice a5 cs.length c5)) := ((Chg.refl (fun k => k = W0.heap.size) W).thenBelow hbe5).setCell (p := ⟨W0.heap.size, 0, none⟩) (.inl rfl) _
              refine ⟨hF.keepsFrom _ (by rintro k rfl; exact Boxed.isCells hb), ⟨hF.block _ (by omega) (by omega), hF.block _ (by omega) (by omega)⟩, _, cs, Boxed.set _ hb5, h5.setOther q1 (by simp) _, offB_of h5 hbs5, k5, ?_, hbe.trans (hF.below (fun k hk => by omega) hbe.size), ?_⟩
              · rw [List.length_append, List.length_singleton]
                exact HV.out
              · exact Nat.le_trans hsz hF.size
            case done =>
              rintro D ys W hD ⟨hys, hyl⟩ ⟨v, xs, hb, hr, ho, hc, hv, hbe, hsz⟩ hK
              obtain ⟨va, vc, rfl, hvc, hvm⟩ := hr.form
              have hbc := hb.cell
              have hval : val xs = numBE b l := by rw [hv, List.take_of_length_le hyl]; exact HU.out.2.1
              have HV := Lib.hid hval
              have hrr := r0.below hbe
              clear hv hval hys
              gi_wp2_with (refine ⟨trivial, ?_⟩; gi_at_call 63; refine (callsIn_wide.2 (signed_any _ _ _ _ _)).mono ?_; rintro e w6 ⟨hbe6, rfl⟩; have rr := hrr.below hbe6; have o1 := rr.cell 0; have o2 := rr.cell 1; have o3 := rr.frozen 0; have o4 := rr.frozen 1; simp only [List.getElem?_cons_zero, List.getElem?_cons_succ] at o1 o2)
              obtain ⟨s1, s2⟩ := two_reads (b := w.heap.size) o1 o2 (.bool (false && decide (0 < xs.length))) (.slice va xs.length vc)
              have hkp := two_kept (b := w.heap.size) (hr.below hbe6) o1 o2 (.bool (false && decide (0 < xs.length))) (.slice va xs.length vc)
              have hb8 : Below w.heap.size w ((w6.setCell ⟨w.heap.size, 0, none⟩ (.bool (false && decide (0 < xs.length)))).setCell ⟨w.heap.size, 1, none⟩ (.slice va xs.length vc)) := (((b0.trans (hbe.mono b0.size)).trans (hbe6.mono (b0.trans (hbe.mono b0.size)).size)).setCell (p := ⟨w.heap.size, 0, none⟩) (Nat.le_refl _) _).setCell (p := ⟨w.heap.size, 1, none⟩) (Nat.le_refl _) _
              have hDlt : D < W.heap.size := (Array.getElem?_eq_some_iff.1 hK).1
              have hDw : w.heap.size < D := by
                have h1 := b0.size
                have h2 := r0.lt
                simp only [World.size_alloc] at hD
                omega
              have hK8 : ((w6.setCell ⟨w.heap.size, 0, none⟩ (.bool (false && decide (0 < xs.length)))).setCell ⟨w.heap.size, 1, none⟩ (.slice va xs.length vc)).heap[D]? = some (.deferred (some [])) := by
                exact (Below.heap_setCell _ _ _ _ (by simp; omega)).trans ((Below.heap_setCell _ _ _ _ (by simp; omega)).trans ((hbe6.block D hDlt).trans hK))
              simp only [Bool.false_and] at s1 s2 hkp hb8 hK8
              generalize ((w6.setCell ⟨w.heap.size, 0, none⟩ (.bool false)).setCell ⟨w.heap.size, 1, none⟩ (.slice va xs.length vc)) = W8 at *
              have s1' : (W8.putObj D (.deferred none)).cell? ⟨w.heap.size, 0, none⟩ = some (.bool false) := (World.cell?_of_block (World.putObj_heap_other (by simp; omega))).trans s1
              have s2' : (W8.putObj D (.deferred none)).cell? ⟨w.heap.size, 1, none⟩ = some (.slice va xs.length vc) := (World.cell?_of_block (World.putObj_heap_other (by simp; omega))).trans s2
              refine ⟨by simp, .inl ⟨_, _, rfl, run_takeDeferred hK8, ?_⟩⟩
              refine ⟨.agg #[.bool false, .slice va xs.length vc], by simp [results, Tryd.results91, go_sem, loadCellsFrom, s1', s2'], ?_, _, rfl, ?_⟩
              · exact hb8.trans (belowK_b (w := w) (Nat.le_refl _) W8 D _ _ (by omega) hK8 rfl rfl)
              · have h9 := isInt_mk false (hkp.putObj hK8 rfl (.deferred none)) hc (i := sgn false (numBE b l)) (by rw [HV.out])
                simpa using h9
          · subst hg
            have h0' : 0 < (c :: l'').length := by simp
            have hix := fun W => index_string u 0 (c :: l'') HU.out.1 h0' W
            simp only [Int.ofNat_zero, List.getElem_cons_zero, hc48] at hix
            have hus1 : 0 < u.size := by rw [hus]; simp
            have hcut2 : ∃ u2 : ByteArray, u.extract 1 u.size = u2 ∧ u2.data.toList = l'' := ⟨_, rfl, by rw [Lib.extract_to_end, HU.out.1]; rfl⟩
            obtain ⟨u2, hu2, hu2l⟩ := hcut2
            have hsz2 : u2.size < u.size := by rw [hus, ← size_toList u2, hu2l]; simp
            have hst : strLen (some (.string u2)) < strLen (some (.string u)) := hsz2
            have H2 := Lib.hid hu2l
            have HC48 := Lib.hid hc48
            clear hus hu2l hsz2 hc48
            gi_wp2_with fail
            refine ⟨⟨u2, l'', rfl, H2.out, ?_, fun x hx => HU.out.2.2.1 x (by simp [hx]), by have := HU.out.2.2.2; simp at this; omega⟩, hst⟩
            rw [← HU.out.2.1, numBE_zero b c l'' HC48.out]
          · subst hg
            have h0' : 0 < (c :: l'').length := by simp
            have hix := fun W => index_string u 0 (c :: l'') HU.out.1 h0' W
            simp only [Int.ofNat_zero, List.getElem_cons_zero] at hix
            have hne48 : (((c.toNat : Nat) : Int) == 48) = false := beq_eq_false_iff_ne.2 (by omega)
            have hus1 : 0 < u.size := by rw [hus]; simp
            clear hus hc48
            gi_wp2_with (refine ⟨trivial, ?_⟩; gi_at_call 115; refine (callsIn_wide.2 (chunks_any _ _ _)).mono ?_; rintro e w' ⟨rfl, rfl⟩)
            refine range_chunks 8 9 b m (c :: l'') h2 h36 hm1 hM hM1 (by have := HU.out.2.2.2; omega) HU.out.2.2.1 (W0.heap.size + 2) (W0.heap.size + 1) (by exact rfl) ?bb ?bs (by omega)
              (ParI W0 b m (c :: l'')) (ParI.own (by simp)) (ParI.start b m (c :: l'') _ _) ?assign ?body ?done
            case bb => exact Boxed.at (Boxed.new _ _ _) (by simp)
            case bs =>
              have hu0 : restAt m (c :: l'') 0 = u := bytes_ext (by rw [restAt_toList, Nat.mul_zero, List.drop_zero]; exact HU.out.1.symm)
              rw [hu0]
              exact Boxed.at ((Boxed.new _ _ _).alloc _) (by simp)
            case assign =>
              intro y x W K hK
              gi_wp2
              exact hK
            case body =>
              rintro y pre x W ⟨v, xs, hb, hr, ho, hc, hv, hbe, hsz⟩ hbs hlt hsp
              obtain ⟨⟨P1, V1⟩, hx1, hx2⟩ := x
              obtain ⟨va, vc, rfl, hvc, hvm⟩ := hr.form
              have hbc := hb.cell
              have hfc := hb.frozen
              have hle := numBE_take_le b (by omega) (m * (pre.length + 1)) (c :: l'')
              have hlx : xs.length ≤ 300 := canon_length_le hc (by rw [hv]; exact Nat.lt_of_le_of_lt (numBE_take_le b (by omega) _ _) (by rw [HU.out.2.1]; exact HFIT.out))
              have htp := timesPlus_any (.slice va xs.length vc) xs P1 V1 W hr hc.1 (by omega) hx1 hx2
              have HTP := Lib.hid htp
              have HH := Lib.hid (And.intro hv (And.intro hle hsp))
              clear hv hle hsp htp
              simp only [boundFrame]
              gi_wp2_with (first
                | (refine ⟨trivial, ?_⟩; gi_at_call 116; refine (callsIn_wide.2 HTP.out).mono ?_; rintro e w5 ⟨hbe5, v5, cs, rfl, h5, k5, e5⟩; obtain ⟨a5, c5, rfl, hc5, hm5⟩ := h5.form; have hb5 : Boxed w5 W0.heap.size 22 (.slice va xs.length vc) := (hbe5.block _ hb.lt).trans hb; have hbs5 : Boxed w5 (W0.heap.size + 1) 9 _ := (hbe5.block _ hbs.lt).trans hbs; have q1 := hb5.cell; have q2 := hb5.frozen;
                    have hvn : val cs = numBE b ((c :: l'' : List UInt8).take (m * (pre.length + 1))) := ParI.next (ps := pre.map (·.1)) (q := (P1, V1)) (by simp) (by simpa using HH.out.2.2) _ (by rw [e5, HH.out.1]); have hcl : cs.length ≤ 300 := canon_length_le k5 (by rw [hvn]; exact Nat.lt_of_le_of_lt HH.out.2.1 (by rw [HU.out.2.1]; exact HFIT.out)); have hdl : decide ((cs.length : Int) ≤ 300) = true := (by simp; omega); have HV := Lib.hid hvn; clear hvn e5)
                | (refine ⟨trivial, ?_⟩; gi_at_call 60; refine (callsIn_wide.2 (demand_ok _ _ _ (by first | rfl | (simp; omega)))).mono ?_; rintro e w2 ⟨rfl, rfl⟩))
              have hF : Chg (fun k => k = W0.heap.size) W (w5.setCell ⟨W0.heap.size, 0, none⟩ (.slice a5 cs.length c5)) := ((Chg.refl (fun k => k = W0.heap.size) W).thenBelow hbe5).setCell (p := ⟨W0.heap.size, 0, none⟩) (.inl rfl) _
              refine ⟨hF.keepsFrom _ (by rintro k rfl; exact Boxed.isCells hb), ⟨hF.block _ (by omega) (by omega), hF.block _ (by omega) (by omega)⟩, _, cs, Boxed.set _ hb5, h5.setOther q1 (by simp) _, offB_of h5 hbs5, k5, ?_, hbe.trans (hF.below (fun k hk => by omega) hbe.size), ?_⟩
              · rw [List.length_append, List.length_singleton]
                exact HV.out
              · exact Nat.le_trans hsz hF.size
            case done =>
              rintro D ys W hD ⟨hys, hyl⟩ ⟨v, xs, hb, hr, ho, hc, hv, hbe, hsz⟩ hK
              obtain ⟨va, vc, rfl, hvc, hvm⟩ := hr.form
              have hbc := hb.cell
              have hval : val xs = numBE b l := by rw [hv, List.take_of_length_le hyl]; exact HU.out.2.1
              have HV := Lib.hid hval
              have hrr := r0.below hbe
              clear hv hval hys
              gi_wp2_with (refine ⟨trivial, ?_⟩; gi_at_call 63; refine (callsIn_wide.2 (signed_any _ _ _ _ _)).mono ?_; rintro e w6 ⟨hbe6, rfl⟩; have rr := hrr.below hbe6; have o1 := rr.cell 0; have o2 := rr.cell 1; have o3 := rr.frozen 0; have o4 := rr.frozen 1; simp only [List.getElem?_cons_zero, List.getElem?_cons_succ] at o1 o2)
              obtain ⟨s1, s2⟩ := two_reads (b := w.heap.size) o1 o2 (.bool (false && decide (0 < xs.length))) (.slice va xs.length vc)
              have hkp := two_kept (b := w.heap.size) (hr.below hbe6) o1 o2 (.bool (false && decide (0 < xs.length))) (.slice va xs.length vc)
              have hb8 : Below w.heap.size w ((w6.setCell ⟨w.heap.size, 0, none⟩ (.bool (false && decide (0 < xs.length)))).setCell ⟨w.heap.size, 1, none⟩ (.slice va xs.length vc)) := (((b0.trans (hbe.mono b0.size)).trans (hbe6.mono (b0.trans (hbe.mono b0.size)).size)).setCell (p := ⟨w.heap.size, 0, none⟩) (Nat.le_refl _) _).setCell (p := ⟨w.heap.size, 1, none⟩) (Nat.le_refl _) _
              have hDlt : D < W.heap.size := (Array.getElem?_eq_some_iff.1 hK).1
              have hDw : w.heap.size < D := by
                have h1 := b0.size
                have h2 := r0.lt
                simp only [World.size_alloc] at hD
                omega
              have hK8 : ((w6.setCell ⟨w.heap.size, 0, none⟩ (.bool (false && decide (0 < xs.length)))).setCell ⟨w.heap.size, 1, none⟩ (.slice va xs.length vc)).heap[D]? = some (.deferred (some [])) := by
                exact (Below.heap_setCell _ _ _ _ (by simp; omega)).trans ((Below.heap_setCell _ _ _ _ (by simp; omega)).trans ((hbe6.block D hDlt).trans hK))
              simp only [Bool.false_and] at s1 s2 hkp hb8 hK8
              generalize ((w6.setCell ⟨w.heap.size, 0, none⟩ (.bool false)).setCell ⟨w.heap.size, 1, none⟩ (.slice va xs.length vc)) = W8 at *
              have s1' : (W8.putObj D (.deferred none)).cell? ⟨w.heap.size, 0, none⟩ = some (.bool false) := (World.cell?_of_block (World.putObj_heap_other (by simp; omega))).trans s1
              have s2' : (W8.putObj D (.deferred none)).cell? ⟨w.heap.size, 1, none⟩ = some (.slice va xs.length vc) := (World.cell?_of_block (World.putObj_heap_other (by simp; omega))).trans s2
              refine ⟨by simp, .inl ⟨_, _, rfl, run_takeDeferred hK8, ?_⟩⟩
              refine ⟨.agg #[.bool false, .slice va xs.length vc], by simp [results, Tryd.results91, go_sem, loadCellsFrom, s1', s2'], ?_, _, rfl, ?_⟩
              · exact hb8.trans (belowK_b (w := w) (Nat.le_refl _) W8 D _ _ (by omega) hK8 rfl rfl)
              · have h9 := isInt_mk false (hkp.putObj hK8 rfl (.deferred none)) hc (i := sgn false (numBE b l)) (by rw [HV.out])
                simpa using h9
  · have e0 := hcut rfl
    simp only [if_true] at hi0
    clear hsame hcut hn45
    gi_wp2_with (refine ⟨trivial, ?_⟩; gi_at_call 60; refine (callsIn_wide.2 (demand_ok _ _ _ (by first | rfl | (simp; omega)))).mono ?_; rintro e w2 ⟨rfl, rfl⟩)
    clear hi0 e0 hspos hzz
    rw [HW.out]
    gi_loop [27] (fun i => ∃ j : Nat, j ≤ l.length ∧ i = .int .i64 j) (fun i => l.length - (intOf i).toNat)
    case atStart => exact ⟨0, Nat.zero_le _, rfl⟩
    case round =>
      obtain ⟨j, hj, rfl⟩ := hrel
      by_cases hjl : j < l.length
      · have hix := fun W => index_string t j l HL.out.1 hjl W
        have hcd := hdig (l[j]'hjl) (List.getElem_mem _)
        obtain ⟨c, hc⟩ : ∃ c, (l[j]'hjl).toNat = c := ⟨_, rfl⟩
        have hc256 : c < 256 := by rw [← hc]; exact (l[j]'hjl).toNat_lt
        rw [hc] at hix hcd
        have hdd : decide (((digitVal c : Nat) : Int) < (b : Int)) = true := by simp; omega
        clear hc
        gi_wp2_with (first
          | (refine ⟨trivial, ?_⟩; gi_at_call 114; refine (callsIn_wide.2 (digitOf_any c _ hc256)).mono ?_; rintro e w2 ⟨rfl, rfl⟩)
          | (refine ⟨trivial, ?_⟩; gi_at_call 60; refine (callsIn_wide.2 (demand_ok _ _ _ (by first | rfl | (simp; omega)))).mono ?_; rintro e w2 ⟨rfl, rfl⟩))
        exact ⟨⟨j + 1, by omega, by go_num⟩, by simp [intOf]; omega⟩
      · have hjd : decide ((j : Int) < (l.length : Int)) = false := by simp; omega
        have HLx := Lib.hid (And.intro htz hd0)
        clear htz hd0
        gi_wp2_with fail
        gi_loop [0] (fun v => ∃ (u : ByteArray) (l' : List UInt8), v = .string u ∧ u.data.toList = l' ∧ numBE b l' = numBE b l ∧ (∀ c ∈ l', digitVal c.toNat < b) ∧ l'.length ≤ 100000) (fun v => strLen (some v))
        case atStart => exact ⟨t, l, rfl, HL.out.1, rfl, hdig, hlen⟩
        case round =>
          obtain ⟨u, l', rfl, hu, hnum, hdig', hlen'⟩ := hrel
          have hus : u.size = l'.length := by rw [← hu, size_toList]
          have hguard : (l' = []) ∨ (∃ c l'', l' = c :: l'' ∧ c.toNat = 48) ∨ (∃ c l'', l' = c :: l'' ∧ c.toNat ≠ 48) := by
            cases l' with
            | nil => exact .inl rfl
            | cons c l'' =>
              by_cases h : c.toNat = 48
              · exact .inr (.inl ⟨c, l'', rfl, h⟩)
              · exact .inr (.inr ⟨c, l'', rfl, h⟩)
          have HU := Lib.hid (And.intro hu (And.intro hnum (And.intro hdig' hlen')))
          have hub : u.size ≤ 100000 := by omega
          clear hu hnum hdig' hlen'
          rcases hguard with hg | ⟨c, l'', hg, hc48⟩ | ⟨c, l'', hg, hc48⟩
          · subst hg
            simp only [List.length_nil] at hus
            gi_wp2_with (refine ⟨trivial, ?_⟩; gi_at_call 115; refine (callsIn_wide.2 (chunks_any _ _ _)).mono ?_; rintro e w' ⟨rfl, rfl⟩)
            refine range_chunks 8 9 b m [] h2 h36 hm1 hM hM1 (by have := HU.out.2.2.2; omega) HU.out.2.2.1 (W0.heap.size + 2) (W0.heap.size + 1) (by exact rfl) ?bb ?bs (by omega)
              (ParI W0 b m []) (ParI.own (by simp)) (ParI.start b m [] _ _) ?assign ?body ?done
            case bb => exact Boxed.at (Boxed.new _ _ _) (by simp)
            case bs =>
              have hu0 : restAt m [] 0 = u := bytes_ext (by rw [restAt_toList, Nat.mul_zero, List.drop_zero]; exact HU.out.1.symm)
              rw [hu0]
              exact Boxed.at ((Boxed.new _ _ _).alloc _) (by simp)
            case assign =>
              intro y x W K hK
              gi_wp2
              exact hK
            case body =>
              rintro y pre x W ⟨v, xs, hb, hr, ho, hc, hv, hbe, hsz⟩ hbs hlt hsp
              obtain ⟨⟨P1, V1⟩, hx1, hx2⟩ := x
              obtain ⟨va, vc, rfl, hvc, hvm⟩ := hr.form
              have hbc := hb.cell
              have hfc := hb.frozen
              have hle := numBE_take_le b (by omega) (m * (pre.length + 1)) []
              have hlx : xs.length ≤ 300 := canon_length_le hc (by rw [hv]; exact Nat.lt_of_le_of_lt (numBE_take_le b (by omega) _ _) (by rw [HU.out.2.1]; exact HFIT.out))
              have htp := timesPlus_any (.slice va xs.length vc) xs P1 V1 W hr hc.1 (by omega) hx1 hx2
              have HTP := Lib.hid htp
              have HH := Lib.hid (And.intro hv (And.intro hle hsp))
              clear hv hle hsp htp
              simp only [boundFrame]
              gi_wp2_with (first
                | (refine ⟨trivial, ?_⟩; gi_at_call 116; refine (callsIn_wide.2 HTP.out).mono ?_; rintro e w5 ⟨hbe5, v5, cs, rfl, h5, k5, e5⟩; obtain ⟨a5, c5, rfl, hc5, hm5⟩ := h5.form; have hb5 : Boxed w5 W0.heap.size 22 (.slice va xs.length vc) := (hbe5.block _ hb.lt).trans hb; have hbs5 : Boxed w5 (W0.heap.size + 1) 9 _ := (hbe5.block _ hbs.lt).trans hbs; have q1 := hb5.cell; have q2 := hb5.frozen;
                    have hvn : val cs = numBE b (([] : List UInt8).take (m * (pre.length + 1))) := ParI.next (ps := pre.map (·.1)) (q := (P1, V1)) (by simp) (by simpa using HH.out.2.2) _ (by rw [e5, HH.out.1]); have hcl : cs.length ≤ 300 := canon_length_le k5 (by rw [hvn]; exact Nat.lt_of_le_of_lt HH.out.2.1 (by rw [HU.out.2.1]; exact HFIT.out)); have hdl : decide ((cs.length : Int) ≤ 300) = true := (by simp; omega); have HV := Lib.hid hvn; clear hvn e5)
                | (refine ⟨trivial, ?_⟩; gi_at_call 60; refine (callsIn_wide.2 (demand_ok _ _ _ (by first | rfl | (simp; omega)))).mono ?_; rintro e w2 ⟨rfl, rfl⟩))
              have hF : Chg (fun k => k = W0.heap.size) W (w5.setCell ⟨W0.heap.size, 0, none⟩ (.slice a5 cs.length c5)) := ((Chg.refl (fun k => k = W0.heap.size) W).thenBelow hbe5).setCell (p := ⟨W0.heap.size, 0, none⟩) (.inl rfl) _
              refine ⟨hF.keepsFrom _ (by rintro k rfl; exact Boxed.isCells hb), ⟨hF.block _ (by omega) (by omega), hF.block _ (by omega) (by omega)⟩, _, cs, Boxed.set _ hb5, h5.setOther q1 (by simp) _, offB_of h5 hbs5, k5, ?_, hbe.trans (hF.below (fun k hk => by omega) hbe.size), ?_⟩
              · rw [List.length_append, List.length_singleton]
                exact HV.out
              · exact Nat.le_trans hsz hF.size
            case done =>
              rintro D ys W hD ⟨hys, hyl⟩ ⟨v, xs, hb, hr, ho, hc, hv, hbe, hsz⟩ hK
              obtain ⟨va, vc, rfl, hvc, hvm⟩ := hr.form
              have hbc := hb.cell
              have hval : val xs = numBE b l := by rw [hv, List.take_of_length_le hyl]; exact HU.out.2.1
              have HV := Lib.hid hval
              have hrr := r0.below hbe
              clear hv hval hys
              gi_wp2_with (refine ⟨trivial, ?_⟩; gi_at_call 63; refine (callsIn_wide.2 (signed_any _ _ _ _ _)).mono ?_; rintro e w6 ⟨hbe6, rfl⟩; have rr := hrr.below hbe6; have o1 := rr.cell 0; have o2 := rr.cell 1; have o3 := rr.frozen 0; have o4 := rr.frozen 1; simp only [List.getElem?_cons_zero, List.getElem?_cons_succ] at o1 o2)
              obtain ⟨s1, s2⟩ := two_reads (b := w.heap.size) o1 o2 (.bool (true && decide (0 < xs.length))) (.slice va xs.length vc)
              have hkp := two_kept (b := w.heap.size) (hr.below hbe6) o1 o2 (.bool (true && decide (0 < xs.length))) (.slice va xs.length vc)
              have hb8 : Below w.heap.size w ((w6.setCell ⟨w.heap.size, 0, none⟩ (.bool (true && decide (0 < xs.length)))).setCell ⟨w.heap.size, 1, none⟩ (.slice va xs.length vc)) := (((b0.trans (hbe.mono b0.size)).trans (hbe6.mono (b0.trans (hbe.mono b0.size)).size)).setCell (p := ⟨w.heap.size, 0, none⟩) (Nat.le_refl _) _).setCell (p := ⟨w.heap.size, 1, none⟩) (Nat.le_refl _) _
              have hDlt : D < W.heap.size := (Array.getElem?_eq_some_iff.1 hK).1
              have hDw : w.heap.size < D := by
                have h1 := b0.size
                have h2 := r0.lt
                simp only [World.size_alloc] at hD
                omega
              have hK8 : ((w6.setCell ⟨w.heap.size, 0, none⟩ (.bool (true && decide (0 < xs.length)))).setCell ⟨w.heap.size, 1, none⟩ (.slice va xs.length vc)).heap[D]? = some (.deferred (some [])) := by
                exact (Below.heap_setCell _ _ _ _ (by simp; omega)).trans ((Below.heap_setCell _ _ _ _ (by simp; omega)).trans ((hbe6.block D hDlt).trans hK))
              simp only [Bool.true_and] at s1 s2 hkp hb8 hK8
              generalize ((w6.setCell ⟨w.heap.size, 0, none⟩ (.bool (decide (0 < xs.length)))).setCell ⟨w.heap.size, 1, none⟩ (.slice va xs.length vc)) = W8 at *
              have s1' : (W8.putObj D (.deferred none)).cell? ⟨w.heap.size, 0, none⟩ = some (.bool (decide (0 < xs.length))) := (World.cell?_of_block (World.putObj_heap_other (by simp; omega))).trans s1
              have s2' : (W8.putObj D (.deferred none)).cell? ⟨w.heap.size, 1, none⟩ = some (.slice va xs.length vc) := (World.cell?_of_block (World.putObj_heap_other (by simp; omega))).trans s2
              refine ⟨by simp, .inl ⟨_, _, rfl, run_takeDeferred hK8, ?_⟩⟩
              refine ⟨.agg #[.bool (decide (0 < xs.length)), .slice va xs.length vc], by simp [results, Tryd.results91, go_sem, loadCellsFrom, s1', s2'], ?_, _, rfl, ?_⟩
              · exact hb8.trans (belowK_b (w := w) (Nat.le_refl _) W8 D _ _ (by omega) hK8 rfl rfl)
              · have h9 := isInt_mk true (hkp.putObj hK8 rfl (.deferred none)) hc (i := sgn true (numBE b l)) (by rw [HV.out])
                simpa using h9
          · subst hg
            have h0' : 0 < (c :: l'').length := by simp
            have hix := fun W => index_string u 0 (c :: l'') HU.out.1 h0' W
            simp only [Int.ofNat_zero, List.getElem_cons_zero, hc48] at hix
            have hus1 : 0 < u.size := by rw [hus]; simp
            have hcut2 : ∃ u2 : ByteArray, u.extract 1 u.size = u2 ∧ u2.data.toList = l'' := ⟨_, rfl, by rw [Lib.extract_to_end, HU.out.1]; rfl⟩
            obtain ⟨u2, hu2, hu2l⟩ := hcut2
            have hsz2 : u2.size < u.size := by rw [hus, ← size_toList u2, hu2l]; simp
            have hst : strLen (some (.string u2)) < strLen (some (.string u)) := hsz2
            have H2 := Lib.hid hu2l
            have HC48 := Lib.hid hc48
            clear hus hu2l hsz2 hc48
            gi_wp2_with fail
            refine ⟨⟨u2, l'', rfl, H2.out, ?_, fun x hx => HU.out.2.2.1 x (by simp [hx]), by have := HU.out.2.2.2; simp at this; omega⟩, hst⟩
            rw [← HU.out.2.1, numBE_zero b c l'' HC48.out]
          · subst hg
            have h0' : 0 < (c :: l'').length := by simp
            have hix := fun W => index_string u 0 (c :: l'') HU.out.1 h0' W
            simp only [Int.ofNat_zero, List.getElem_cons_zero] at hix
            have hne48 : (((c.toNat : Nat) : Int) == 48) = false := beq_eq_false_iff_ne.2 (by omega)
            have hus1 : 0 < u.size := by rw [hus]; simp
            clear hus hc48
            gi_wp2_with (refine ⟨trivial, ?_⟩; gi_at_call 115; refine (callsIn_wide.2 (chunks_any _ _ _)).mono ?_; rintro e w' ⟨rfl, rfl⟩)
            refine range_chunks 8 9 b m (c :: l'') h2 h36 hm1 hM hM1 (by have := HU.out.2.2.2; omega) HU.out.2.2.1 (W0.heap.size + 2) (W0.heap.size + 1) (by exact rfl) ?bb ?bs (by omega)
              (ParI W0 b m (c :: l'')) (ParI.own (by simp)) (ParI.start b m (c :: l'') _ _) ?assign ?body ?done
            case bb => exact Boxed.at (Boxed.new _ _ _) (by simp)
            case bs =>
              have hu0 : restAt m (c :: l'') 0 = u := bytes_ext (by rw [restAt_toList, Nat.mul_zero, List.drop_zero]; exact HU.out.1.symm)
              rw [hu0]
              exact Boxed.at ((Boxed.new _ _ _).alloc _) (by simp)
            case assign =>
              intro y x W K hK
              gi_wp2
              exact hK
            case body =>
              rintro y pre x W ⟨v, xs, hb, hr, ho, hc, hv, hbe, hsz⟩ hbs hlt hsp
              obtain ⟨⟨P1, V1⟩, hx1, hx2⟩ := x
              obtain ⟨va, vc, rfl, hvc, hvm⟩ := hr.form
              have hbc := hb.cell
              have hfc := hb.frozen
              have hle := numBE_take_le b (by omega) (m * (pre.length + 1)) (c :: l'')
              have hlx : xs.length ≤ 300 := canon_length_le hc (by rw [hv]; exact Nat.lt_of_le_of_lt (numBE_take_le b (by omega) _ _) (by rw [HU.out.2.1]; exact HFIT.out))
              have htp := timesPlus_any (.slice va xs.length vc) xs P1 V1 W hr hc.1 (by omega) hx1 hx2
              have HTP := Lib.hid htp
              have HH := Lib.hid (And.intro hv (And.intro hle hsp))
              clear hv hle hsp htp
              simp only [boundFrame]
              gi_wp2_with (first
                | (refine ⟨trivial, ?_⟩; gi_at_call 116; refine (callsIn_wide.2 HTP.out).mono ?_; rintro e w5 ⟨hbe5, v5, cs, rfl, h5, k5, e5⟩; obtain ⟨a5, c5, rfl, hc5, hm5⟩ := h5.form; have hb5 : Boxed w5 W0.heap.size 22 (.slice va xs.length vc) := (hbe5.block _ hb.lt).trans hb; have hbs5 : Boxed w5 (W0.heap.size + 1) 9 _ := (hbe5.block _ hbs.lt).trans hbs; have q1 := hb5.cell; have q2 := hb5.frozen;
                    have hvn : val cs = numBE b ((c :: l'' : List UInt8).take (m * (pre.length + 1))) := ParI.next (ps := pre.map (·.1)) (q := (P1, V1)) (by simp) (by simpa using HH.out.2.2) _ (by rw [e5, HH.out.1]); have hcl : cs.length ≤ 300 := canon_length_le k5 (by rw [hvn]; exact Nat.lt_of_le_of_lt HH.out.2.1 (by rw [HU.out.2.1]; exact HFIT.out)); have hdl : decide ((cs.length : Int) ≤ 300) = true := (by simp; omega); have HV := Lib.hid hvn; clear hvn e5)
                | (refine ⟨trivial, ?_⟩; gi_at_call 60; refine (callsIn_wide.2 (demand_ok _ _ _ (by first | rfl | (simp; omega)))).mono ?_; rintro e w2 ⟨rfl, rfl⟩))
              have hF : Chg (fun k => k = W0.heap.size) W (w5.setCell ⟨W0.heap.size, 0, none⟩ (.slice a5 cs.length c5)) := ((Chg.refl (fun k => k = W0.heap.size) W).thenBelow hbe5).setCell (p := ⟨W0.heap.size, 0, none⟩) (.inl rfl) _
              refine ⟨hF.keepsFrom _ (by rintro k rfl; exact Boxed.isCells hb), ⟨hF.block _ (by omega) (by omega), hF.block _ (by omega) (by omega)⟩, _, cs, Boxed.set _ hb5, h5.setOther q1 (by simp) _, offB_of h5 hbs5, k5, ?_, hbe.trans (hF.below (fun k hk => by omega) hbe.size), ?_⟩
              · rw [List.length_append, List.length_singleton]
                exact HV.out
              · exact Nat.le_trans hsz hF.size
            case done =>
              rintro D ys W hD ⟨hys, hyl⟩ ⟨v, xs, hb, hr, ho, hc, hv, hbe, hsz⟩ hK
              obtain ⟨va, vc, rfl, hvc, hvm⟩ := hr.form
              have hbc := hb.cell
              have hval : val xs = numBE b l := by rw [hv, List.take_of_length_le hyl]; exact HU.out.2.1
              have HV := Lib.hid hval
              have hrr := r0.below hbe
              clear hv hval hys
              gi_wp2_with (refine ⟨trivial, ?_⟩; gi_at_call 63; refine (callsIn_wide.2 (signed_any _ _ _ _ _)).mono ?_; rintro e w6 ⟨hbe6, rfl⟩; have rr := hrr.below hbe6; have o1 := rr.cell 0; have o2 := rr.cell 1; have o3 := rr.frozen 0; have o4 := rr.frozen 1; simp only [List.getElem?_cons_zero, List.getElem?_cons_succ] at o1 o2)
              obtain ⟨s1, s2⟩ := two_reads (b := w.heap.size) o1 o2 (.bool (true && decide (0 < xs.length))) (.slice va xs.length vc)
              have hkp := two_kept (b := w.heap.size) (hr.below hbe6) o1 o2 (.bool (true && decide (0 < xs.length))) (.slice va xs.length vc)
              have hb8 : Below w.heap.size w ((w6.setCell ⟨w.heap.size, 0, none⟩ (.bool (true && decide (0 < xs.length)))).setCell ⟨w.heap.size, 1, none⟩ (.slice va xs.length vc)) := (((b0.trans (hbe.mono b0.size)).trans (hbe6.mono (b0.trans (hbe.mono b0.size)).size)).setCell (p := ⟨w.heap.size, 0, none⟩) (Nat.le_refl _) _).setCell (p := ⟨w.heap.size, 1, none⟩) (Nat.le_refl _) _
              have hDlt : D < W.heap.size := (Array.getElem?_eq_some_iff.1 hK).1
              have hDw : w.heap.size < D := by
                have h1 := b0.size
                have h2 := r0.lt
                simp only [World.size_alloc] at hD
                omega
              have hK8 : ((w6.setCell ⟨w.heap.size, 0, none⟩ (.bool (true && decide (0 < xs.length)))).setCell ⟨w.heap.size, 1, none⟩ (.slice va xs.length vc)).heap[D]? = some (.deferred (some [])) := by
                exact (Below.heap_setCell _ _ _ _ (by simp; omega)).trans ((Below.heap_setCell _ _ _ _ (by simp; omega)).trans ((hbe6.block D hDlt).trans hK))
              simp only [Bool.true_and] at s1 s2 hkp hb8 hK8
              generalize ((w6.setCell ⟨w.heap.size, 0, none⟩ (.bool (decide (0 < xs.length)))).setCell ⟨w.heap.size, 1, none⟩ (.slice va xs.length vc)) = W8 at *
              have s1' : (W8.putObj D (.deferred none)).cell? ⟨w.heap.size, 0, none⟩ = some (.bool (decide (0 < xs.length))) := (World.cell?_of_block (World.putObj_heap_other (by simp; omega))).trans s1
              have s2' : (W8.putObj D (.deferred none)).cell? ⟨w.heap.size, 1, none⟩ = some (.slice va xs.length vc) := (World.cell?_of_block (World.putObj_heap_other (by simp; omega))).trans s2
              refine ⟨by simp, .inl ⟨_, _, rfl, run_takeDeferred hK8, ?_⟩⟩
              refine ⟨.agg #[.bool (decide (0 < xs.length)), .slice va xs.length vc], by simp [results, Tryd.results91, go_sem, loadCellsFrom, s1', s2'], ?_, _, rfl, ?_⟩
              · exact hb8.trans (belowK_b (w := w) (Nat.le_refl _) W8 D _ _ (by omega) hK8 rfl rfl)
              · have h9 := isInt_mk true (hkp.putObj hK8 rfl (.deferred none)) hc (i := sgn true (numBE b l)) (by rw [HV.out])
                simpa using h9

end Go.Proofs.YtlghjfpkfdnfoaaDoor

/- num.Parse where it answers a number -/
namespace Go.Proofs.YtlghjfpkfdnfoaaDoor
open Go Go.RowKit Go.Shelf

set_option exponentiation.threshold 400 in
set_option maxHeartbeats 1000000 in
set_option maxRecDepth 100000 in
theorem Parse_ok (s : ByteArray) (b : Nat) (w : World) (h2 : 2 ≤ b) (h36 : b ≤ 36) (neg : Bool) (l : List UInt8) (hs : s.data.toList = (if neg then [45] else []) ++ l) (hl0 : l ≠ []) (hlen : l.length ≤ 100000) (hdig : ∀ c ∈ l, digitVal c.toNat < b) (hfit : numBE b l < B32 ^ 300) :
    Calls Tryd.prog 48 #[.string s, .int .i64 (b : Int)] w fun e w' => Below w.heap.size w w' ∧ ∃ v, e = .returned (.tuple #[v, .int .i64 0]) ∧ IsInt w' v (sgn neg (numBE b l)) := by
  refine (Parse_of s (b : Int) w (fun k W v => k = 0 ∧ IsInt W v (sgn neg (numBE b l))) (fun _ _ _ _ h hk => ⟨h.1, h.2.keep hk⟩) ?_).mono ?_
  · intro B W4 hb4 hrs hrn hrr
    have hpa := fun W => parse_ok s b W h2 h36 neg l hs hl0 hlen hdig hfit
    have HP := Lib.hid hpa
    have s0 := hrs.cell 0
    have n0 := hrn.cell 0
    simp only [List.getElem?_cons_zero] at s0 n0
    clear hpa hs hfit
    go_enter Tryd.func90, Tryd.ntmps90
    go_wp2_with (first
      | (go_at_call 87; refine (demandBase_ok _ _ h2 h36).mono ?_; rintro e w2 ⟨rfl, rfl⟩)
      | (go_at_call 91; refine (HP.out _).mono ?_; rintro e w3 ⟨hbe3, v, rfl, n9, v9, x9, rfl, g1, k1, l1, m1⟩; obtain ⟨y1, c1, rfl, -, -⟩ := g1.form; have sr := hrr.below hbe3; have o1 := sr.cell 0; have o2 := sr.cell 1; have o5 := sr.frozen 0; have o6 := sr.frozen 1; simp only [List.getElem?_cons_zero, List.getElem?_cons_succ] at o1 o2))
    have hk := two_kept (b := B + 2) g1 o1 o2 (.bool n9) (.slice y1 x9.length c1)
    go_end0
    refine ⟨0, .inl ⟨rfl, rfl⟩, (((Chg.refl (fun k => k = B + 2) W4).thenBelow hbe3).setCell (p := ⟨B + 2, 0, none⟩) (.inl rfl) _).setCell (p := ⟨B + 2, 1, none⟩) (.inl rfl) _, n9, y1, x9.length, c1, (sr.set 0 (.bool n9)).set 1 (.slice y1 x9.length c1), rfl, n9, _, x9, rfl, hk, k1, l1, m1⟩
  · rintro e W ⟨hbe, r0, k, rfl, rfl, hi⟩
    exact ⟨hbe, _, rfl, hi⟩

end Go.Proofs.YtlghjfpkfdnfoaaDoor

/- the examples of the chapter, call by call -/
namespace Go.Proofs.YtlghjfpkfdnfoaaDoor
open Go Go.RowKit Go.Shelf

theorem canon_one {x : Nat} (h0 : 0 < x) (hx : x < B32) : Canon [x] := by
  refine ⟨fun y hy => ?_, ?_⟩
  · simp only [List.mem_singleton] at hy
    subst hy
    exact hx
  · have := trimmed_snoc [] x (by omega)
    simpa using this
theorem val_one (x : Nat) : val [x] = x := by simp [val]
theorem IsInt.limb {w : World} {v : Value} {neg : Bool} {x : Nat} (h : IsInt w v (sgn neg x)) (h0 : 0 < x) (hx : x < B32) : IntAt w v neg [x] ∧ formedB neg [x] = true := by
  have hc := canon_one h0 hx
  obtain ⟨n, va, xs, rfl, hr, hcx, hn, hi⟩ := h
  rw [← val_one x] at hi
  obtain ⟨rfl, rfl⟩ := (sgn_inj hc hcx (by simp) hn).1 hi
  refine ⟨⟨va, rfl, hr, hc.1⟩, ?_⟩
  simp [formedB, hc.2]

theorem pow_at (a : Value) (w : World) (ha : IsInt w a 2) :
    Calls Tryd.prog 37 #[a, .int .i64 32] w fun e w' => Below w.heap.size w w' ∧ ∃ v, e = .returned (.tuple #[v, .int .i64 0]) ∧ IsInt w' v 4294967296 := by
  obtain ⟨hA, fA⟩ := IsInt.limb (neg := false) (x := 2) ha (by decide) (by decide)
  have hb : bitsOf [2] = 2 := by decide +kernel
  exact Pow_ok a [2] 32 79 times_79 (by omega) w hA fA (by omega) (by rw [hb]; decide) (by rw [hb]; decide) (by rw [val_one]; decide +kernel) (by rw [val_one]; decide +kernel)

theorem gcd_at (a b : Value) (w : World) (ha : IsInt w a 12) (hb : IsInt w b (-18)) :
    Calls Tryd.prog 41 #[a, b] w fun e w' => Below w.heap.size w w' ∧ ∃ g x y i j, e = .returned (.tuple #[g, x, y, .int .i64 0]) ∧ IsInt w' g 6 ∧ IsInt w' x i ∧ IsInt w' y j := by
  obtain ⟨hA, fA⟩ := IsInt.limb (neg := false) (x := 12) ha (by decide) (by decide)
  obtain ⟨hB, fB⟩ := IsInt.limb (neg := true) (x := 18) hb (by decide) (by decide)
  refine (Gcd_ok a b false true [12] [18] w hA hB fA fB 6 (fun _ _ => True) (fun W hW => ?_)).mono ?_
  · obtain ⟨va, rfl, hra, hla⟩ := hA
    obtain ⟨vb, rfl, hrb, hlb⟩ := hB
    refine (divisor_any 1 (by omega) (divUpTo_le divUpTo_one (by omega) (by omega)) (by omega) va vb false true [12] [18] W (hra.below hW) (hrb.below hW) (canon_one (by decide) (by decide)) (canon_one (by decide) (by decide)) (by simp) (by simp) rfl rfl).mono ?_
    rintro e W' ⟨hbe, g, x, y, i, j, rfl, h1, h2, h3, -⟩
    exact ⟨hbe, g, x, y, i, j, rfl, h1, h2, h3, trivial⟩
  · rintro e W ⟨hbe, g, x, y, i, j, rfl, h1, h2, h3, -⟩
    exact ⟨hbe, g, x, y, i, j, rfl, h1, h2, h3⟩

theorem text_at (a : Value) (w : World) (ha : IsInt w a 255) (hT : DigitsAt w) :
    Calls Tryd.prog 46 #[a, .int .i64 16] w fun e w' => Below w.heap.size w w' ∧ e = .returned (.tuple #[.string ⟨#[102, 102]⟩, .int .i64 0]) := by
  obtain ⟨hA, fA⟩ := IsInt.limb (neg := false) (x := 255) ha (by decide) (by decide)
  refine (Text_ok a false [255] 16 w hA fA (by omega) (by omega) hT).mono ?_
  rintro e W ⟨hbe, s, rfl, hs⟩
  refine ⟨hbe, ?_⟩
  have h1 : textOf false 16 (val [255]) = [102, 102] := by
    rw [val_one, textOf, if_neg (by decide), ← digits_eq (N := 2) (by decide) (by decide)]
    decide +kernel
  rw [h1] at hs
  have h2 : s = ⟨#[102, 102]⟩ := by
    apply bytes_ext
    generalize s.data.toList = l at hs
    obtain ⟨x, y, rfl⟩ : ∃ x y, l = [x, y] := by
      have hl := congrArg List.length hs
      rcases l with _ | ⟨x, _ | ⟨y, _ | ⟨z, t⟩⟩⟩
      · simp at hl
      · simp at hl
      · exact ⟨x, y, rfl⟩
      · simp at hl
    simp only [List.map_cons, List.map_nil, List.cons.injEq, and_true] at hs
    obtain ⟨hx, hy⟩ := hs
    obtain rfl : x = 102 := UInt8.toNat_inj.1 hx
    obtain rfl : y = 102 := UInt8.toNat_inj.1 hy
    rfl
  rw [h2]

theorem parse_at (w : World) :
    Calls Tryd.prog 48 #[.string ⟨#[45, 48, 65]⟩, .int .i64 16] w fun e w' => Below w.heap.size w w' ∧ ∃ v, e = .returned (.tuple #[v, .int .i64 0]) ∧ IsInt w' v (-10) :=
  Parse_ok ⟨#[45, 48, 65]⟩ 16 w (by omega) (by omega) true [48, 65] rfl (by simp) (by simp) (by decide) (by decide +kernel)

theorem root_at (a : Value) (w : World) (ha : IsInt w a (-27)) :
    Calls Tryd.prog 38 #[a, .int .i64 3] w fun e w' => Below w.heap.size w w' ∧ ∃ v, e = .returned (.tuple #[v, .int .i64 0]) ∧ IsInt w' v (-3) := by
  obtain ⟨hA, fA⟩ := IsInt.limb (neg := true) (x := 27) ha (by decide) (by decide)
  refine Root_ok a true [27] 2 w hA fA (by omega) (.inr (by decide)) (-3) (fun W hW => ?_)
  obtain ⟨va, rfl, hra, hla⟩ := hA
  exact floorRoot_exact 1 1 2 (timesUpTo_le times_79 (by omega)) (divUpTo_le divUpTo_one (by omega) (by omega)) (by omega) (by omega) (by omega) (by omega) va [27] 3 W (hra.below hW) (canon_one (by decide) (by decide)) (by simp) (by rw [val_one]; decide) (by rw [val_one])

theorem root_none_at (a : Value) (w : World) (ha : IsInt w a (-1)) :
    Calls Tryd.prog 38 #[a, .int .i64 2] w fun e w' => Below w.heap.size w w' ∧ e = .returned (.tuple #[zeroInt, .int .i64 5]) := by
  obtain ⟨hA, fA⟩ := IsInt.limb (neg := true) (x := 1) ha (by decide) (by decide)
  exact Root_none a [1] 2 w hA fA (by omega) (by omega) (by decide)

theorem div_at (a b : Value) (w : World) (ha : IsInt w a (-7)) (hb : IsInt w b 2) :
    Calls Tryd.prog 35 #[a, b] w fun e w' => Below w.heap.size w w' ∧ ∃ q r, e = .returned (.tuple #[q, r, .int .i64 0]) ∧ IsInt w' q (-4) ∧ IsInt w' r 1 :=
  Div_ok a b (-7) 2 1 1 (divUpTo_le divUpTo_one (by omega) (by omega)) w ha hb (by decide +kernel) (by decide +kernel) (by decide) (by decide) (by decide)

end Go.Proofs.YtlghjfpkfdnfoaaDoor
