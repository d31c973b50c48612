/- proved lemmas -/
import Derived.Test.YtagjhmodblifbaaGreatDoorMA
import Derived.Test.YtagjhmodblifbaaGreatDoorProg
import Derived.Below
import Derived.Test.YtagjhmodblifbaaGreatDoorN00
import Derived.WalkKit
import Derived.RangeFuncNested
import Derived.RangeFuncBound
import Derived.RangeFuncCalls
import Derived.RangeFuncLeaves
import Derived.Shelf.Abstract
import Derived.Shelf.RegionOpen
import Derived.OwnWalkIn
import Derived.TacticsInMore
import Derived.LoopNIn
import Derived.LoopIn
import Derived.Outline
import Derived.WalkLawsBesides
import Derived.WalkSpells
import Derived.Lib.Hide
import Derived.Maps.AppendAt
import Derived.Handy
import Derived.Deep.QuietTactic
import Derived.BigQuiet
import Derived.OrdersIn
import Derived.StillTailTactics
import Derived.Shelf.Strings.Builder1
import Derived.Shelf.Strings.Builder2
import Derived.Shelf.Strings.Trim
import Derived.Shelf.Small.Utf8
import Derived.Shelf.Small.Bits
import Derived.Shelf.Small.Strs
import Derived.Shelf.Small.Wraps
import Derived.Shelf.Strings.BuilderF
import Derived.Shelf.Strconv.Itoa0
import Derived.Shelf.Strings.Search1
import Derived.Shelf.Strings.Prefix
import Derived.Shelf.Bits.Mul64
import Derived.Shelf.Strings.Repeat
import Derived.Ground.Names2Prog
import Derived.Shelf.Slices.SearchI
import Derived.Laws.EntriesVeiled
import Derived.Deep.RegionHeld3
import Derived.Recover
import Derived.LoopN
import Derived.Lib.ItoaNum
import Derived.Laws.CopyOwn
import Derived.Deep.CutRange
import Derived.RegionTactic
import Derived.BigRegion
import Derived.ChangeAlike
import Derived.Laws.OwnMore
import Derived.IntWalk
import Derived.Deep.DeepFit
import Derived.Lib.IndexBytes
import Derived.Deep.LoopGhost
import Derived.Deep.MidRow
import Derived.Test.YtagjhmodblifbaaGreatDoorB00
import Derived.Test.YtagjhmodblifbaaGreatDoorB01
import Derived.Test.YtagjhmodblifbaaGreatDoorB02
import Derived.Test.YtagjhmodblifbaaGreatDoorB03
import Derived.Test.YtagjhmodblifbaaGreatDoorB04
import Derived.Test.YtagjhmodblifbaaGreatDoorB05
import Derived.Test.YtagjhmodblifbaaGreatDoorB06
import Derived.Test.YtagjhmodblifbaaGreatDoorB07
import Derived.Test.YtagjhmodblifbaaGreatDoorB08
import Derived.Test.YtagjhmodblifbaaGreatDoorB09
import Derived.Test.YtagjhmodblifbaaGreatDoorB10
import Derived.Test.YtagjhmodblifbaaGreatDoorB11
import Derived.Test.YtagjhmodblifbaaGreatDoorB12
import Derived.Test.YtagjhmodblifbaaGreatDoorB13
import Derived.Test.YtagjhmodblifbaaGreatDoorB14
import Derived.Test.YtagjhmodblifbaaGreatDoorB15
import Derived.Test.YtagjhmodblifbaaGreatDoorB16
import Derived.Test.YtagjhmodblifbaaGreatDoorB17
import Derived.Test.YtagjhmodblifbaaGreatDoorB18
import Derived.Test.YtagjhmodblifbaaGreatDoorB19
import Derived.Test.YtagjhmodblifbaaGreatDoorB20
import Derived.Test.YtagjhmodblifbaaGreatDoorB21
set_option maxHeartbeats 4000000
set_option maxRecDepth 100000
set_option exponentiation.threshold 100000
namespace Go.Proofs.YtagjhmodblifbaaGreatDoor
open Go.Proofs.Tryz
open Go Go.RowKit Go.Shelf
def eU (m l:Nat)(s:ByteArray):Bool:=decide (m≤60)&&(decide (l≤100)&&decide (s.size≤3000))
theorem PD {m l:Nat}{s:ByteArray}(h:60<m):eU m l s=false:=by unfold eU;rw [decide_eq_false (by omega)];rfl
theorem PE {m l:Nat}{s:ByteArray}(h:100<l):eU m l s=false:=by unfold eU;rw [decide_eq_false (p:=l≤100) (by omega),ZP,Bool.and_false]
theorem PG {m l:Nat}{s:ByteArray}(h:3000<s.size):eU m l s=false:=by unfold eU;rw [decide_eq_false (p:=s.size≤3000) (by omega),Bool.and_false,Bool.and_false]
theorem Ps {m l:Nat}{s:ByteArray}(h1:¬60<m)(a:¬100<l)(b:¬3000<s.size):eU m l s=true:=by unfold eU;rw [decide_eq_true (by omega),decide_eq_true (by omega),decide_eq_true (by omega)];rfl
theorem Ph (b:Nat){s t:Int}{q:Bool}{m p:Option Addr}{m1 n f o:Nat}{g:ByteArray}(w:World)(hr:af w b 27 (lV s t q m m1 n g p f o)) :
  Calls prog 17 #[.slice (some ⟨b,0,none⟩) 1 1] w fun e u=>w=u∧e=.returned (.bool (eU m1 f g)):=by
 have r:=eY b 1 0 (by decide);simp only [QC,QI] at r;obtain ⟨v,x,y⟩:=PL hr;clear hr
 by_cases a:60<m1
 case pos =>
  have i:decide ((60:Int)<(m1:Int))=true:=decide_eq_true (by omega);have h:=Qa (show (eU m1 f g)=false by rw [PD a] <;> simp);clear  a;go_enter func17,ntmps17
  go_wp2_with fail
  refine wp_loop_rounds 2 ?_;rw [rounds_succ]
  go_wp2_with fail
  go_ret;exact ⟨rfl,by rw [h.out];rfl⟩
 have i:decide ((60:Int)<(m1:Int))=false:=decide_eq_false (by omega)
 by_cases c:100<f
 case pos =>
  have j:decide ((100:Int)<(f:Int))=true:=decide_eq_true (by omega);have h:=Qa (show (eU m1 f g)=false by rw [PE c] <;> simp);clear  c;go_enter func17,ntmps17
  go_wp2_with fail
  refine wp_loop_rounds 2 ?_;rw [rounds_succ]
  go_wp2_with fail
  go_ret;exact ⟨rfl,by rw [h.out];rfl⟩
 have j:decide ((100:Int)<(f:Int))=false:=decide_eq_false (by omega)
 by_cases d:3000<g.size
 case pos =>
  have k:decide ((3000:Int)<(g.size:Int))=true:=decide_eq_true (by omega);have h:=Qa (show (eU m1 f g)=false by rw [PG d] <;> simp);clear  d;go_enter func17,ntmps17
  go_wp2_with fail
  refine wp_loop_rounds 2 ?_;rw [rounds_succ]
  go_wp2_with fail
  go_ret;exact ⟨rfl,by rw [h.out];rfl⟩
 have k:decide ((3000:Int)<(g.size:Int))=false:=decide_eq_false (by omega);have l:=Ps a c d;clear a c d;have h:=Qa (show (eU m1 f g)=true by rw [l] <;> rfl);clear l;go_enter func17,ntmps17
 go_wp2_with fail
 refine wp_loop_rounds 2 ?_;rw [rounds_succ]
 go_wp2_with fail
 rw [rounds_succ]
 go_wp2_with fail
 go_ret;exact ⟨rfl,by rw [h.out];rfl⟩
section
variable {X:World} {b B:Nat} {i j:Int}
theorem gQ.PK (d:gQ X B j)(a b:Value):∀ v xs,Reads .u32 X v xs→Reads .u32 ((X.setCell ⟨B,0,none⟩ a).setCell ⟨B,1,none⟩ b) v xs:=by
 obtain ⟨n2,a2,m2,c2,c,f⟩:=d;exact aV c a b
end
def PO (X:World)(b:Nat)(K:Int)(x:Int × Nat)(k:Int):Prop:=∃ z0 z1 z2 z3 aI aJ z4 z5 aN aO,af X b 27 (lV z0 z1 z2 z3 aI aJ z4 z5 aN aO)∧dG X K x k (vV z0 z1 z2 z3 aI aJ z4 z5 aN aO)
theorem Fm.is {w:World}{v:Value}{f:Option (Int × Nat)}(h:Fm w v f) :
 CB 20 #[v] w fun e _=>e=.returned (.bool f.isSome):=by
 cases f with
 | none=>exact mJ.is h
 | some x=>exact dB.is h
def za (m l:Nat)(s:ByteArray)(f:Option (Int × Nat)):Bool:=eU m l s&&f.isSome
theorem PQ (b:Nat){m p:Int}{l:Bool}{h k:Option Addr}{m1 i f j:Nat}{g:ByteArray}{z:Option (Int × Nat)}(w:World)(hr:af w b 27 (lV m p l h m1 i g k f j))(h1:Fm w (vV m p l h m1 i g k f j) z) :
 CB 59 #[.slice (some ⟨b,0,none⟩) 1 1] w fun e _=>e=.returned (.bool (za m1 f g z)):=by
 have D:=eY b 1 0 (by decide);simp only [QC,QI] at D
 have o:=fun X:World=>Ph X.heap.size (X.alloc (.cells #[vI m,vI p,.bool l,.slice h m1 i,.string g,.slice k f j] 27)) (af.new X 27 (lV m p l h m1 i g k f j))
 have n:=fun X (C:bW w X)=>(h1.below C).is
 unfold za;generalize eU m1 f g=L0 at *;generalize z.isSome=S0 at *;have c:=Qj w.heap.size w;have r0:=hr;obtain ⟨E,F,G,H,I,J⟩:=aD hr;clear h1
 cases L0 with
 | false =>
  go_enter func59,ntmps59
  go_wp2_with fail
  refine wp_loop_rounds 2 ?_;rw [rounds_succ]
  go_wp2_with (first | (go_at_call 20;with_reducible refine (n _ a).mono ?_;rintro e B ⟨q,rfl⟩;have d:=a.trans (q.mono a.size)) | (go_at_call 17;with_reducible refine (o _).mono ?_;rintro e A ⟨rfl,rfl⟩;have a:=c.alloc c.size (.cells #[vI m,vI p,.bool l,.slice h m1 i,.string g,.slice k f j] 27);have r:=hr.below a;obtain ⟨s,t,u,v,x,y⟩:=aD r))
  go_ret;exact ⟨a,by simp⟩
 | true =>
  cases S0 with
  | false =>
   go_enter func59,ntmps59
   go_wp2_with fail
   refine wp_loop_rounds 2 ?_;rw [rounds_succ]
   go_wp2_with (first | (go_at_call 20;with_reducible refine (n _ a).mono ?_;rintro e B ⟨q,rfl⟩;have d:=a.trans (q.mono a.size)) | (go_at_call 17;with_reducible refine (o _).mono ?_;rintro e A ⟨rfl,rfl⟩;have a:=c.alloc c.size (.cells #[vI m,vI p,.bool l,.slice h m1 i,.string g,.slice k f j] 27);have r:=hr.below a;obtain ⟨s,t,u,v,x,y⟩:=aD r))
   go_ret;exact ⟨d,by simp⟩
  | true =>
   go_enter func59,ntmps59
   go_wp2_with fail
   refine wp_loop_rounds 2 ?_;rw [rounds_succ]
   go_wp2_with (first | (go_at_call 20;with_reducible refine (n _ a).mono ?_;rintro e B ⟨q,rfl⟩;have d:=a.trans (q.mono a.size)) | (go_at_call 17;with_reducible refine (o _).mono ?_;rintro e A ⟨rfl,rfl⟩;have a:=c.alloc c.size (.cells #[vI m,vI p,.bool l,.slice h m1 i,.string g,.slice k f j] 27);have r:=hr.below a;obtain ⟨s,t,u,v,x,y⟩:=aD r))
   rw [rounds_succ]
   go_wp2_with fail
   go_ret;exact ⟨d,by simp⟩
theorem PI (b:Nat){V Z:Int}{T:Bool}{O S:Option Addr}{m1 Q J R:Nat}{M:ByteArray}{f1:Option (Int × Nat)}{Y n2:Int}{U:Bool}{a2 gm:Option Addr}{m2 c2 L gp:Nat}{N:ByteArray}{f2:Option (Int × Nat)}(w:World)(hr:af w b 27 [vI V,vI Z,.bool T,.slice O m1 Q,.string M,.slice S J R,vI Y,vI n2,.bool U,.slice a2 m2 c2,.string N,.slice gm L gp])(h1:Fm w (vV V Z T O m1 Q M S J R) f1)(h2:Fm w (vV Y n2 U a2 m2 c2 N gm L gp) f2) :
 CB 59 #[.slice (some ⟨b,0,none⟩) 2 2] w fun e _=>e=.returned (.bool (za m1 J M f1&&za m2 L N f2)):=by
 have i0:=eY b 2 0 (by decide);have i1:=eY b 2 1 (by decide);simp only [QC,JK,QI,QD] at i0 i1
 have q:=fun X:World=>Ph X.heap.size (X.alloc (.cells #[vI V,vI Z,.bool T,.slice O m1 Q,.string M,.slice S J R] 27)) (af.new X 27 (lV V Z T O m1 Q M S J R))
 have o:=fun X (hX:bW w X)=>(h1.below hX).is
 have r:=fun X:World=>Ph X.heap.size (X.alloc (.cells #[vI Y,vI n2,.bool U,.slice a2 m2 c2,.string N,.slice gm L gp] 27)) (af.new X 27 (lV Y n2 U a2 m2 c2 N gm L gp))
 have p:=fun X (hX:bW w X)=>(h2.below hX).is
 unfold za;generalize eU m1 J M=L0 at *;generalize f1.isSome=S0 at *;generalize eU m2 L N=L1 at *;generalize f2.isSome=S1 at *;have g:=Qj w.heap.size w;have r0:=hr;obtain ⟨a0,a3,a4,a5,a6,a7⟩:=aD hr;clear h1 h2
 cases L0 with
 | false =>
  go_enter func59,ntmps59
  go_wp2_with fail
  refine wp_loop_rounds 3 ?_;rw [rounds_succ]
  go_wp2_with (first | (go_at_call 20;with_reducible refine (p _ f).mono ?_;rintro e z1 ⟨A,rfl⟩;have n:=f.trans (A.mono f.size)) | (go_at_call 17;with_reducible refine (r _).mono ?_;rintro e C ⟨rfl,rfl⟩;have f:=a.alloc a.size (.cells #[vI Y,vI n2,.bool U,.slice a2 m2 c2,.string N,.slice gm L gp] 27);have c:=hr.below f;have h:=c.cell 6;have i:=c.cell 7;have j:=c.cell 8;have k:=c.cell 9;have l:=c.cell 10;have m:=c.cell 11;simp only [Qc,Qe] at h i j k l m) | (go_at_call 20;with_reducible refine (o _ d).mono ?_;rintro e z0 ⟨z,rfl⟩;have a:=d.trans (z.mono d.size);have r1:=hr.below a;have s:=r1.cell 6;have t:=r1.cell 7;have u:=r1.cell 8;have v:=r1.cell 9;have x:=r1.cell 10;have y:=r1.cell 11;simp only [Qc,Qe] at s t u v x y) | (go_at_call 17;with_reducible refine (q _).mono ?_;rintro e C ⟨rfl,rfl⟩;have d:=g.alloc g.size (.cells #[vI V,vI Z,.bool T,.slice O m1 Q,.string M,.slice S J R] 27);have B:=hr.below d;obtain ⟨D,E,F,G,H,I⟩:=aD B))
  go_ret;exact ⟨d,by simp⟩
 | true =>
  cases S0 with
  | false =>
   go_enter func59,ntmps59
   go_wp2_with fail
   refine wp_loop_rounds 3 ?_;rw [rounds_succ]
   go_wp2_with (first | (go_at_call 20;with_reducible refine (p _ f).mono ?_;rintro e z1 ⟨A,rfl⟩;have n:=f.trans (A.mono f.size)) | (go_at_call 17;with_reducible refine (r _).mono ?_;rintro e C ⟨rfl,rfl⟩;have f:=a.alloc a.size (.cells #[vI Y,vI n2,.bool U,.slice a2 m2 c2,.string N,.slice gm L gp] 27);have c:=hr.below f;have h:=c.cell 6;have i:=c.cell 7;have j:=c.cell 8;have k:=c.cell 9;have l:=c.cell 10;have m:=c.cell 11;simp only [Qc,Qe] at h i j k l m) | (go_at_call 20;with_reducible refine (o _ d).mono ?_;rintro e z0 ⟨z,rfl⟩;have a:=d.trans (z.mono d.size);have r1:=hr.below a;have s:=r1.cell 6;have t:=r1.cell 7;have u:=r1.cell 8;have v:=r1.cell 9;have x:=r1.cell 10;have y:=r1.cell 11;simp only [Qc,Qe] at s t u v x y) | (go_at_call 17;with_reducible refine (q _).mono ?_;rintro e C ⟨rfl,rfl⟩;have d:=g.alloc g.size (.cells #[vI V,vI Z,.bool T,.slice O m1 Q,.string M,.slice S J R] 27);have B:=hr.below d;obtain ⟨D,E,F,G,H,I⟩:=aD B))
   go_ret;exact ⟨a,by simp⟩
  | true =>
   cases L1 with
   | false =>
    go_enter func59,ntmps59
    go_wp2_with fail
    refine wp_loop_rounds 3 ?_;rw [rounds_succ]
    go_wp2_with (first | (go_at_call 20;with_reducible refine (p _ f).mono ?_;rintro e z1 ⟨A,rfl⟩;have n:=f.trans (A.mono f.size)) | (go_at_call 17;with_reducible refine (r _).mono ?_;rintro e C ⟨rfl,rfl⟩;have f:=a.alloc a.size (.cells #[vI Y,vI n2,.bool U,.slice a2 m2 c2,.string N,.slice gm L gp] 27);have c:=hr.below f;have h:=c.cell 6;have i:=c.cell 7;have j:=c.cell 8;have k:=c.cell 9;have l:=c.cell 10;have m:=c.cell 11;simp only [Qc,Qe] at h i j k l m) | (go_at_call 20;with_reducible refine (o _ d).mono ?_;rintro e z0 ⟨z,rfl⟩;have a:=d.trans (z.mono d.size);have r1:=hr.below a;have s:=r1.cell 6;have t:=r1.cell 7;have u:=r1.cell 8;have v:=r1.cell 9;have x:=r1.cell 10;have y:=r1.cell 11;simp only [Qc,Qe] at s t u v x y) | (go_at_call 17;with_reducible refine (q _).mono ?_;rintro e C ⟨rfl,rfl⟩;have d:=g.alloc g.size (.cells #[vI V,vI Z,.bool T,.slice O m1 Q,.string M,.slice S J R] 27);have B:=hr.below d;obtain ⟨D,E,F,G,H,I⟩:=aD B))
    rw [rounds_succ]
    go_wp2_with (first | (go_at_call 20;with_reducible refine (p _ f).mono ?_;rintro e z1 ⟨A,rfl⟩;have n:=f.trans (A.mono f.size)) | (go_at_call 17;with_reducible refine (r _).mono ?_;rintro e C ⟨rfl,rfl⟩;have f:=a.alloc a.size (.cells #[vI Y,vI n2,.bool U,.slice a2 m2 c2,.string N,.slice gm L gp] 27);have c:=hr.below f;have h:=c.cell 6;have i:=c.cell 7;have j:=c.cell 8;have k:=c.cell 9;have l:=c.cell 10;have m:=c.cell 11;simp only [Qc,Qe] at h i j k l m) | (go_at_call 20;with_reducible refine (o _ d).mono ?_;rintro e z0 ⟨z,rfl⟩;have a:=d.trans (z.mono d.size);have r1:=hr.below a;have s:=r1.cell 6;have t:=r1.cell 7;have u:=r1.cell 8;have v:=r1.cell 9;have x:=r1.cell 10;have y:=r1.cell 11;simp only [Qc,Qe] at s t u v x y) | (go_at_call 17;with_reducible refine (q _).mono ?_;rintro e C ⟨rfl,rfl⟩;have d:=g.alloc g.size (.cells #[vI V,vI Z,.bool T,.slice O m1 Q,.string M,.slice S J R] 27);have B:=hr.below d;obtain ⟨D,E,F,G,H,I⟩:=aD B))
    go_ret;exact ⟨f,by simp⟩
   | true =>
    cases S1 with
    | false =>
     go_enter func59,ntmps59
     go_wp2_with fail
     refine wp_loop_rounds 3 ?_;rw [rounds_succ]
     go_wp2_with (first | (go_at_call 20;with_reducible refine (p _ f).mono ?_;rintro e z1 ⟨A,rfl⟩;have n:=f.trans (A.mono f.size)) | (go_at_call 17;with_reducible refine (r _).mono ?_;rintro e C ⟨rfl,rfl⟩;have f:=a.alloc a.size (.cells #[vI Y,vI n2,.bool U,.slice a2 m2 c2,.string N,.slice gm L gp] 27);have c:=hr.below f;have h:=c.cell 6;have i:=c.cell 7;have j:=c.cell 8;have k:=c.cell 9;have l:=c.cell 10;have m:=c.cell 11;simp only [Qc,Qe] at h i j k l m) | (go_at_call 20;with_reducible refine (o _ d).mono ?_;rintro e z0 ⟨z,rfl⟩;have a:=d.trans (z.mono d.size);have r1:=hr.below a;have s:=r1.cell 6;have t:=r1.cell 7;have u:=r1.cell 8;have v:=r1.cell 9;have x:=r1.cell 10;have y:=r1.cell 11;simp only [Qc,Qe] at s t u v x y) | (go_at_call 17;with_reducible refine (q _).mono ?_;rintro e C ⟨rfl,rfl⟩;have d:=g.alloc g.size (.cells #[vI V,vI Z,.bool T,.slice O m1 Q,.string M,.slice S J R] 27);have B:=hr.below d;obtain ⟨D,E,F,G,H,I⟩:=aD B))
     rw [rounds_succ]
     go_wp2_with (first | (go_at_call 20;with_reducible refine (p _ f).mono ?_;rintro e z1 ⟨A,rfl⟩;have n:=f.trans (A.mono f.size)) | (go_at_call 17;with_reducible refine (r _).mono ?_;rintro e C ⟨rfl,rfl⟩;have f:=a.alloc a.size (.cells #[vI Y,vI n2,.bool U,.slice a2 m2 c2,.string N,.slice gm L gp] 27);have c:=hr.below f;have h:=c.cell 6;have i:=c.cell 7;have j:=c.cell 8;have k:=c.cell 9;have l:=c.cell 10;have m:=c.cell 11;simp only [Qc,Qe] at h i j k l m) | (go_at_call 20;with_reducible refine (o _ d).mono ?_;rintro e z0 ⟨z,rfl⟩;have a:=d.trans (z.mono d.size);have r1:=hr.below a;have s:=r1.cell 6;have t:=r1.cell 7;have u:=r1.cell 8;have v:=r1.cell 9;have x:=r1.cell 10;have y:=r1.cell 11;simp only [Qc,Qe] at s t u v x y) | (go_at_call 17;with_reducible refine (q _).mono ?_;rintro e C ⟨rfl,rfl⟩;have d:=g.alloc g.size (.cells #[vI V,vI Z,.bool T,.slice O m1 Q,.string M,.slice S J R] 27);have B:=hr.below d;obtain ⟨D,E,F,G,H,I⟩:=aD B))
     go_ret;exact ⟨n,by simp⟩
    | true =>
     go_enter func59,ntmps59
     go_wp2_with fail
     refine wp_loop_rounds 3 ?_;rw [rounds_succ]
     go_wp2_with (first | (go_at_call 20;with_reducible refine (p _ f).mono ?_;rintro e z1 ⟨A,rfl⟩;have n:=f.trans (A.mono f.size)) | (go_at_call 17;with_reducible refine (r _).mono ?_;rintro e C ⟨rfl,rfl⟩;have f:=a.alloc a.size (.cells #[vI Y,vI n2,.bool U,.slice a2 m2 c2,.string N,.slice gm L gp] 27);have c:=hr.below f;have h:=c.cell 6;have i:=c.cell 7;have j:=c.cell 8;have k:=c.cell 9;have l:=c.cell 10;have m:=c.cell 11;simp only [Qc,Qe] at h i j k l m) | (go_at_call 20;with_reducible refine (o _ d).mono ?_;rintro e z0 ⟨z,rfl⟩;have a:=d.trans (z.mono d.size);have r1:=hr.below a;have s:=r1.cell 6;have t:=r1.cell 7;have u:=r1.cell 8;have v:=r1.cell 9;have x:=r1.cell 10;have y:=r1.cell 11;simp only [Qc,Qe] at s t u v x y) | (go_at_call 17;with_reducible refine (q _).mono ?_;rintro e C ⟨rfl,rfl⟩;have d:=g.alloc g.size (.cells #[vI V,vI Z,.bool T,.slice O m1 Q,.string M,.slice S J R] 27);have B:=hr.below d;obtain ⟨D,E,F,G,H,I⟩:=aD B))
     rw [rounds_succ]
     go_wp2_with (first | (go_at_call 20;with_reducible refine (p _ f).mono ?_;rintro e z1 ⟨A,rfl⟩;have n:=f.trans (A.mono f.size)) | (go_at_call 17;with_reducible refine (r _).mono ?_;rintro e C ⟨rfl,rfl⟩;have f:=a.alloc a.size (.cells #[vI Y,vI n2,.bool U,.slice a2 m2 c2,.string N,.slice gm L gp] 27);have c:=hr.below f;have h:=c.cell 6;have i:=c.cell 7;have j:=c.cell 8;have k:=c.cell 9;have l:=c.cell 10;have m:=c.cell 11;simp only [Qc,Qe] at h i j k l m) | (go_at_call 20;with_reducible refine (o _ d).mono ?_;rintro e z0 ⟨z,rfl⟩;have a:=d.trans (z.mono d.size);have r1:=hr.below a;have s:=r1.cell 6;have t:=r1.cell 7;have u:=r1.cell 8;have v:=r1.cell 9;have x:=r1.cell 10;have y:=r1.cell 11;simp only [Qc,Qe] at s t u v x y) | (go_at_call 17;with_reducible refine (q _).mono ?_;rintro e C ⟨rfl,rfl⟩;have d:=g.alloc g.size (.cells #[vI V,vI Z,.bool T,.slice O m1 Q,.string M,.slice S J R] 27);have B:=hr.below d;obtain ⟨D,E,F,G,H,I⟩:=aD B))
     rw [rounds_succ]
     go_wp2_with fail
     go_ret;exact ⟨n,by simp⟩
theorem kI (v:Value)(i:Int)(p:Nat)(w:World)(h:dX w v i p)(hp:p≤20)(hi:i.natAbs<aj^80000) :
 CB 62 #[v] w fun e U=>∃ g,e=.returned g∧ak U g (i*((10^(20 - p):Nat):Int)):=by
 obtain ⟨n,a,m,c,la,lc,rfl,D⟩:=h
 obtain ⟨k,G⟩:∃ k,20 - p=k:=⟨_,rfl⟩
 have R:(20:Int) - (p:Int)=(k:Int):=by omega
 have H:k≤20:=by omega
 have l:=dJ w (.cells #[vI 3,vI p,.bool n,.slice a m c,vE,.slice la 0 lc] 27);have o:=l.alloc l.size (.cells #[vF,vZ] 24);have L:=(af.new w 27 (lV 3 p n a m c ⟨#[]⟩ la 0 lc)).alloc (.cells #[vF,vZ] 24);have A:=af.new (w.alloc (.cells #[vI 3,vI p,.bool n,.slice a m c,vE,.slice la 0 lc] 27)) 24 (lN false none 0 0);simp only [Qh] at A;have r:=D.below o
 generalize F:(w.alloc (.cells #[vI 3,vI p,.bool n,.slice a m c,vE,.slice la 0 lc] 27)).alloc (.cells #[vF,vZ] 24)=W0 at *;have B:=Qa F
 have t:Pw w W0 3 (p:Int) n a m c vE (.slice la 0 lc) W0:=⟨L,⟨_,_,_,_,A⟩,o,fun _ _ h=>h⟩
 have C:=Qa (Pm (PH t));obtain ⟨Y,Z,d3,-⟩:=Pm t
 have J:=fun X=>OV k X (by omega)
 have I:=fun X g (f:Pw w W0 3 (p:Int) n a m c vE (.slice la 0 lc) X) (u:ak X g ((10^k:Nat):Int))=>yl _ g i ((10^k:Nat):Int) X (r.keep f.more) u (az hi (by decide)) (az (zb k (by omega)) (by decide))
 clear D t L A l o F hi;rw [G];clear G;go_enter func62,ntmps62
 go_upto_region 1 with (fail)
 rw [B.out]
 have x:IntKind.i64.wrap (k:Int)=(k:Int):=by rw [Qx];omega
 go_region_held3 (fun X=>X.cell? ⟨w.heap.size,1,none⟩=some (vI p)∧X.cell? ⟨w.heap.size,2,none⟩=some (.bool n)∧X.cell? ⟨w.heap.size,3,none⟩=some (.slice a m c)∧Pw w W0 3 (p:Int) n a m c vE (.slice la 0 lc) X)
  (first | with_reducible exact C.out | (go_split_ands;with_reducible exact Pm (Po (by assumption) d)) | (go_split_ands;with_reducible exact Pm (Px (by assumption) _ _ _ _)))
  (first
   | (go_at_call 64;go_split_ands;with_reducible refine (J _).mono ?_;rintro e V ⟨d,v5,rfl,O⟩)
   | (go_at_call 63;go_split_ands;with_reducible refine (I _ _ (by assumption) O).mono ?_;rintro e V ⟨d,v6,rfl,E⟩;obtain ⟨z,j,y,q,rfl⟩:=E.shape;obtain ⟨u0,u1,u2,u3,M,N,y3,y4⟩:=Py (Po (by assumption) d)))
 rename_i f;obtain ⟨-,-,-,f⟩:=f;obtain ⟨S,T⟩:=bA (b:=w.heap.size+1) M N (.bool z) (.slice j y q)
 have s:=E.keep fun v xs u=>bf (b:=w.heap.size+1) u M N (.bool z) (.slice j y q)
 have Q:=f.below;clear f C J I B x
 go_wp2_with fail
 exact bodyPost_ret (v:=vN z j y q) (by simp [results,results62,go_sem,loadCellsFrom,S,T]) rfl ⟨Q,_,rfl,s⟩
set_option exponentiation.threshold 100000
def NZ (q n d:Int):Prop:=2*(n - q*d).natAbs<d.natAbs∨2*(n - q*d).natAbs=d.natAbs∧q % 2=0
theorem OZ (n d:Int)(h:0<d):NZ (near n d) n d:=by
 have h0:=zQ n d (by omega)
 rcases Nat.lt_or_eq_of_le h0 with h1 | h1
 ·exact .inl h1
 ·refine .inr ⟨h1,?_⟩
  have i:=Int.mul_fdiv_add_fmod n d;have c:n.fmod d=n % d:=ZQ _ (Zy h);have f:=YG n (show d≠0 by omega);have g:=YH n h;rw [← c] at f g;clear h0
  revert h1
  unfold near;generalize n.fdiv d=q at *;generalize n.fmod d=r at *
  have a:n - q*d=r:=by rw [Yd];omega
  have b:n - (q+1)*d=r - d:=by rw [Int.add_mul,QY];omega
  split
  ·rw [b]
   omega
  ·rw [a]
   omega
theorem Pt {W:World}{g:Bool}{a:Option Addr}{m c:Nat}{x:Int}(h:ak W (vN g a m c) x):ak W (vN false a m c) ((x.natAbs:Nat):Int):=by
 obtain ⟨neg,v,xs,e,hr,b,d,rfl⟩:=h;simp only [Value.agg.injEq,Array.mk.injEq,List.cons.injEq,Value.bool.injEq,and_true] at e;obtain ⟨rfl,rfl⟩:=e;exact ⟨false,_,xs,rfl,hr,b,by simp,by rw [bM];rfl⟩
theorem qb (vq vn vd:Value)(q n d:Int)(w:World)(hq:ak w vq q)(hn:ak w vn n)(hd:ak w vd d)(bq:q.natAbs<aj^1000)(bn:n.natAbs<aj^1000)(bd:d.natAbs<aj^1000)(af:0<d)(hx:NZ q n d) :
 CB 61 #[vq,vn,vd] w fun e _=>e=.returned (.bool true):=by
 have xC:=hq;obtain ⟨n2,a2,m2,c2,rfl⟩:=hn.shape;obtain ⟨n3,Y,m3,c3,rfl⟩:=hd.shape;obtain ⟨U,v1,xs,rfl,z,D,-,F⟩:=xC;obtain ⟨V,Z,rfl,-,-⟩:=z.form
 obtain ⟨m1,A⟩:∃ m1,xs.length=m1:=⟨_,rfl⟩
 rw [A] at hq z;rw [A];obtain ⟨W0,hW,b0,q1,q2,q3⟩:=MJ w 24 (lN U V m1 Z) 24 (lN n2 a2 m2 c2) 24 (lN n3 Y m3 c3);have jq:=hq.below b0;have jn:=hn.below b0;have jd:=hd.below b0;have a5:=jb bq bd
 have bx:(n+-(q*d)).natAbs<aj^2001:=by
  have h1:(-(q*d)).natAbs<aj^2000:=by rw [JU];exact a5
  exact xu (az bn (by decide)) h1
 have kT:=fun X v Q (hv:ak X v q) (G:ak X Q d)=>yl v Q q d X hv G (az bq (by decide)) (az bd (by decide))
 have kS:=fun X v Q (hv:ak X v n) (G:ak X Q (-(q*d)))=>xN v Q n _ 2000 X hv G (by decide) (az bn (by decide)) (by rw [JU];exact a5)
 have a4:n - q*d=n+-(q*d):=Int.sub_eq_add_neg;unfold NZ at hx;rw [a4] at hx;clear a4
 have a8:(((n+-(q*d)).natAbs:Nat):Int).natAbs<aj^2001:=by rw [QQ];exact bx
 generalize q*d=u at *;generalize n+-u=x at *
 have o2:(2:Int).natAbs<aj^1:=by decide
 have a9:=jb a8 o2
 have ab:=fun X v Q (hv:ak X v ((x.natAbs:Nat):Int)) (G:ak X Q 2)=>yl v Q _ 2 X hv G (az a8 (by decide)) (az o2 (by decide))
 have kC:=fun X v Q (hv:ak X v (((x.natAbs:Nat):Int)*2)) (G:ak X Q d)=>Pb v Q _ d X hv G 3000 (by decide) (az a9 (by decide)) (az bd (by decide))
 have hs:(dS (((x.natAbs:Nat):Int)*2) d=-1)∨(dS (((x.natAbs:Nat):Int)*2) d=0∧q % 2=0):=by
  unfold dS
  rcases hx with h | ⟨h,h2⟩
  ·left;rw [if_pos (by omega)]
  ·right;rw [if_neg (by omega),if_neg (by omega)];exact ⟨rfl,h2⟩
 generalize dS (((x.natAbs:Nat):Int)*2) d=s at *;have E:Hid ((∀ r ∈ ([(w.heap.size,24,(lN U V m1 Z)),(w.heap.size+1,24,(lN n2 a2 m2 c2)),(w.heap.size+1+1,24,(lN n3 Y m3 c3))]:List (Nat × TypeId × List Value)),r.1<W0.heap.size)∧w.heap.size≤W0.heap.size):=Qa ⟨fK q1.lt (fK q2.lt (fK q3.lt nA)),b0.size⟩;have HB:=Qa (And.intro hs (And.intro F (And.intro A (And.intro D z))))
 clear hx hs F A D z bq bn bd a5 bx a8 o2 a9 af hq hn hd;have dH:=fC (R:=dR) (ax q1 (ax q2 (ax q3 aS))) trivial b0
 have o:=yO dH fun X h=>(Mw h.r0 (Mw h.r1 (aQ h.r2)):)
 clear q1 q2 q3 b0;go_enter func61,ntmps61
 go_upto_region 1 with (fail)
 rw [hW.out];clear hW
 go_cut [7] from 9 to 14 (fun v7 W=>kJ W v7 x∧fI w W0 dR [(w.heap.size,24,(lN U V m1 Z)),(w.heap.size+1,24,(lN n2 a2 m2 c2)),(w.heap.size+1+1,24,(lN n3 Y m3 c3))] W)
 case first =>
  obtain ⟨E,fe⟩:=E.out
  go_wp2_with fail
  refine bB o (bY dR.drew dH) fun X0 i=>?_
  refine tk 0 i ?_;refine tk 1 i ?_;refine tk 2 i ?_;refine ql 3 6 (fun j f=>?_) (fun j f=>?_)
  ·have hP:=i.2
   go_wp2_with (go_at_call 63;refine (kT _ _ _ (jq.keep hP.more) (jd.keep hP.more)).mono ?_;rintro e S ⟨b,v5,rfl,B⟩)
   refine aT f o (ag dR.step hP b) fun i=>?_
   clear f j hP b;refine ql 4 6 (fun j f=>?_) (fun j f=>?_)
   ·have hP:=i.2
    go_wp2_with (go_at_call 65;refine (nR _ _ _ B).mono ?_;rintro e S ⟨b,v6,rfl,t⟩)
    replace B:=B.below b
    refine aT f o (ag dR.step hP b) fun i=>?_
    clear f j hP b;refine ql 5 6 (fun j f=>?_) (fun j f=>?_)
    ·have hP:=i.2
     go_wp2_with (go_at_call 67;refine (kS _ _ _ (jn.keep hP.more) t).mono ?_;rintro e S ⟨b,v7,rfl,p⟩)
     replace t:=t.below b;obtain ⟨g,a,m,c,rfl⟩:=p.shape
     refine aT f o (ag dR.step hP b) fun i=>?_
     clear f j hP b
     refine rd 6 fun j f=>?_
     have hP:=i.2;obtain ⟨V9,N,k,M,l⟩:=aL hP 24 (lN false none 0 0)
     go_wp2_with fail
     rw [N.out];clear N;replace p:=p.below l
     refine aT f o (ag dR.step hP l) fun i=>?_
     clear f j hP l
     refine rd 7 fun j f=>?_
     have hP:=i.2;obtain ⟨y0,y1,f0,f1⟩:=av k;obtain ⟨V8,L,I,H,J,cO⟩:=ay hP (dR.other _) (bP E M) (Qd fe M) k (.bool g) (.slice a m c)
     go_wp2_with fail
     rw [L.out];replace p:=p.keep H;replace k:=J
     refine aT f o I fun i=>?_
     clear f j hP I L H J cO y0 y1 f0 f1;refine wpAnyH_done (by kernel_rfl) ?_ _;go_wp2
     go_meet
     exact ⟨⟨_,_,_,_,_,rfl,k,p⟩,i.2⟩
    have hP:=i.2;obtain ⟨V9,N,k,M,l⟩:=aL hP 24 (lN false none 0 0)
    go_wp2_with fail
    rw [N.out];clear N;replace t:=t.below l
    refine aT f o (ag dR.step hP l) fun i=>?_
    clear f j hP l
    refine rd 5 fun j f=>?_
    have hP:=i.2
    go_wp2_with (go_at_call 67;refine (kS _ _ _ (jn.keep hP.more) t).mono ?_;rintro e S ⟨b,v7,rfl,p⟩)
    replace t:=t.below b;replace k:=k.below b;obtain ⟨g,a,m,c,rfl⟩:=p.shape
    refine aT f o (ag dR.step hP b) fun i=>?_
    clear f j hP b
    refine rd 7 fun j f=>?_
    have hP:=i.2;obtain ⟨y0,y1,f0,f1⟩:=av k;obtain ⟨V8,L,I,H,J,cO⟩:=ay hP (dR.other _) (bP E M) (Qd fe M) k (.bool g) (.slice a m c)
    go_wp2_with fail
    rw [L.out];replace p:=p.keep H;replace k:=J
    refine aT f o I fun i=>?_
    clear f j hP I L H J cO y0 y1 f0 f1;refine wpAnyH_done (by kernel_rfl) ?_ _;go_wp2
    go_meet
    exact ⟨⟨_,_,_,_,_,rfl,k,p⟩,i.2⟩
   have hP:=i.2;obtain ⟨V9,N,k,M,l⟩:=aL hP 24 (lN false none 0 0)
   go_wp2_with fail
   rw [N.out];clear N;replace B:=B.below l
   refine aT f o (ag dR.step hP l) fun i=>?_
   clear f j hP l
   refine rd 4 fun j f=>?_
   have hP:=i.2
   go_wp2_with (go_at_call 65;refine (nR _ _ _ B).mono ?_;rintro e S ⟨b,v6,rfl,t⟩)
   replace B:=B.below b;replace k:=k.below b
   refine aT f o (ag dR.step hP b) fun i=>?_
   clear f j hP b
   refine rd 5 fun j f=>?_
   have hP:=i.2
   go_wp2_with (go_at_call 67;refine (kS _ _ _ (jn.keep hP.more) t).mono ?_;rintro e S ⟨b,v7,rfl,p⟩)
   replace k:=k.below b;replace t:=t.below b;obtain ⟨g,a,m,c,rfl⟩:=p.shape
   refine aT f o (ag dR.step hP b) fun i=>?_
   clear f j hP b
   refine rd 7 fun j f=>?_
   have hP:=i.2;obtain ⟨y0,y1,f0,f1⟩:=av k;obtain ⟨V8,L,I,H,J,cO⟩:=ay hP (dR.other _) (bP E M) (Qd fe M) k (.bool g) (.slice a m c)
   go_wp2_with fail
   rw [L.out];replace p:=p.keep H;replace k:=J
   refine aT f o I fun i=>?_
   clear f j hP I L H J cO y0 y1 f0 f1;refine wpAnyH_done (by kernel_rfl) ?_ _;go_wp2
   go_meet
   exact ⟨⟨_,_,_,_,_,rfl,k,p⟩,i.2⟩
  have hP:=i.2;obtain ⟨V9,N,k,M,l⟩:=aL hP 24 (lN false none 0 0)
  go_wp2_with fail
  rw [N.out];clear N
  refine aT f o (ag dR.step hP l) fun i=>?_
  clear f j hP l
  refine rd 3 fun j f=>?_
  have hP:=i.2
  go_wp2_with (go_at_call 63;refine (kT _ _ _ (jq.keep hP.more) (jd.keep hP.more)).mono ?_;rintro e S ⟨b,v5,rfl,B⟩)
  replace k:=k.below b
  refine aT f o (ag dR.step hP b) fun i=>?_
  clear f j hP b
  refine rd 4 fun j f=>?_
  have hP:=i.2
  go_wp2_with (go_at_call 65;refine (nR _ _ _ B).mono ?_;rintro e S ⟨b,v6,rfl,t⟩)
  replace k:=k.below b;replace B:=B.below b
  refine aT f o (ag dR.step hP b) fun i=>?_
  clear f j hP b
  refine rd 5 fun j f=>?_
  have hP:=i.2
  go_wp2_with (go_at_call 67;refine (kS _ _ _ (jn.keep hP.more) t).mono ?_;rintro e S ⟨b,v7,rfl,p⟩)
  replace k:=k.below b;replace t:=t.below b;obtain ⟨g,a,m,c,rfl⟩:=p.shape
  refine aT f o (ag dR.step hP b) fun i=>?_
  clear f j hP b
  refine rd 7 fun j f=>?_
  have hP:=i.2;obtain ⟨y0,y1,f0,f1⟩:=av k;obtain ⟨V8,L,I,H,J,cO⟩:=ay hP (dR.other _) (bP E M) (Qd fe M) k (.bool g) (.slice a m c)
  go_wp2_with fail
  rw [L.out];replace p:=p.keep H;replace k:=J
  refine aT f o I fun i=>?_
  clear f j hP I L H J cO y0 y1 f0 f1;refine wpAnyH_done (by kernel_rfl) ?_ _;go_wp2
  go_meet
  exact ⟨⟨_,_,_,_,_,rfl,k,p⟩,i.2⟩
 case rest =>
  obtain ⟨⟨b7,n7,a7,m7,c7,rfl,r7,i7⟩,C⟩:=hcut;have i8:=Pt i7;replace jq:=jq.keep C.more;replace jd:=jd.keep C.more;have ad:=Qa C.more;clear o E kT kS jn i7 dH
  have o:Hid (∀ X,fI w wc dR [(b7,24,(lN n7 a7 m7 c7)),(w.heap.size,24,(lN U V m1 Z)),(w.heap.size+1+1,24,(lN n3 Y m3 c3))] X→(X.cell? ⟨b7,0,none⟩=some (.bool n7)∧X.cell? ⟨b7,1,none⟩=some (.slice a7 m7 c7)∧X.cell? ⟨w.heap.size,0,none⟩=some (.bool U)∧X.cell? ⟨w.heap.size,1,none⟩=some (.slice V m1 Z)∧X.cell? ⟨w.heap.size+1+1,0,none⟩=some (.bool n3)∧X.cell? ⟨w.heap.size+1+1,1,none⟩=some (.slice Y m3 c3))∧fI w wc dR [(b7,24,(lN n7 a7 m7 c7)),(w.heap.size,24,(lN U V m1 Z)),(w.heap.size+1+1,24,(lN n3 Y m3 c3))] X):=Qa fun X h=>⟨⟨h.r0.cell 0,h.r0.cell 1,h.r1.cell 0,h.r1.cell 1,h.r2.cell 0,h.r2.cell 1⟩,h⟩
  have aa:fI w wc dR [(b7,24,(lN n7 a7 m7 c7)),(w.heap.size,24,(lN U V m1 Z)),(w.heap.size+1+1,24,(lN n3 Y m3 c3))] wc:=⟨ax r7 (ax C.r0 (ax C.r2 aS)),trivial,C.below,fun _ _ h=>h,Qb _⟩
  clear C r7
  go_upto_region 2 with (fail)
  go_cut [8] from 15 to 21 (fun v8 W=>v8=vI s∧fI w wc dR [(b7,24,(lN n7 a7 m7 c7)),(w.heap.size,24,(lN U V m1 Z)),(w.heap.size+1+1,24,(lN n3 Y m3 c3))] W)
  case first =>
   go_wp2_with fail
   refine bB o (bY dR.drew aa) fun X0 i=>?_
   refine tk 0 i ?_;refine tk 1 i ?_;refine tk 2 i ?_;refine tk 5 i ?_
   refine rd 3 fun j f=>?_
   have hP:=i.2
   go_wp2_with (go_at_call 66;refine (Au 2 _ (by decide) (by decide)).mono ?_;rintro e S ⟨b,v5,rfl,B⟩)
   refine aT f o (ag dR.step hP b) fun i=>?_
   clear f j hP b
   refine rd 4 fun j f=>?_
   have hP:=i.2
   go_wp2_with (go_at_call 63;refine (ab _ _ _ (i8.keep hP.more) B).mono ?_;rintro e S ⟨b,v6,rfl,t⟩)
   replace B:=B.below b
   refine aT f o (ag dR.step hP b) fun i=>?_
   clear f j hP b
   refine rd 6 fun j f=>?_
   have hP:=i.2
   go_wp2_with (go_at_call 68;refine (kC _ _ _ t (jd.keep hP.more)).mono ?_;rintro e S ⟨b,rfl⟩)
   replace t:=t.below b
   refine aT f o (ag dR.step hP b) fun i=>?_
   clear f j hP b;refine tk 7 i ?_;refine wpAnyH_done (by kernel_rfl) ?_ _;go_wp2
   go_meet
   exact ⟨rfl,i.2⟩
  case rest =>
   obtain ⟨rfl,a6⟩:=hcut;have T:=a6.below;have rq:=a6.r1;obtain ⟨d0,d1⟩:=aQ rq;obtain ⟨hs,F,A,D,z⟩:=HB.out;have O:=z.below T;clear o aa a6 HB ad ab kC i8 jq jd rq
   rcases hs with rfl | ⟨rfl,hev⟩
   ·clear F A D z O
    go_wp2;go_ret;exact ⟨T,rfl⟩
   ·by_cases h0:m1=0
    ·subst h0
     clear F A D z O;go_wp2;go_ret;exact ⟨T,rfl⟩
    ·have e1:((m1:Int) == 0)=false:=by simp;omega
     have i1:=fun W=>O.index aG bZ (P:=prog) 0 .i64 W (by omega)
     have d2:=O.cell 0 (by omega);simp only [Xp] at i1
     have a0:xs[0]?.getD 0 % 2=0:=by
      rw [F] at hev;rw [← LW D.1];have h2:=Fs U (val xs);omega
     generalize xs[0]?.getD 0=y at *
     have e3:((y:Int) % 2 == 0)=true:=by simp;omega
     have HH:=Qa a0;clear F A D z O a0 hev h0;go_wp2;go_ret;exact ⟨T,rfl⟩
theorem Oc (m:Int):(least m 20).1*((10^(20 - (least m 20).2):Nat):Int)=m:=by
 have h1:=wm 20 m;have a:=(yn 20 m).2.1;unfold iT at h1;generalize (least m 20).1=i at *;generalize (least m 20).2=p at *
 have e:(10:Int)^20=10^(20 - p)*10^p:=by rw [← qa];congr 1;omega
 rw [e,← Yc] at h1;rw [xH];exact (YD (Int.ne_of_gt (YE (by decide))) h1).symm
theorem OW {w:World}{v:Value}{m:Int}(h:dX w v (least m 20).1 (least m 20).2)(hf:(least m 20).1.natAbs<aj^40):dB w v (least m 20).1 (least m 20).2 :=
 ⟨h,(yn 20 m).1,by have:=(yn 20 m).2.1;omega,hf,(yn 20 m).2.2⟩
theorem Pe (i j:Int)(p q:Nat)(a:p≤20)(b:q≤20):NZ ((mulL (i,p) (j,q)).1*((10^(20 - (mulL (i,p) (j,q)).2):Nat):Int)) (i*((10^(20 - p):Nat):Int)*(j*((10^(20 - q):Nat):Int))) ((10^20:Nat):Int):=by
 unfold mulL;rw [Oc];have h:=@Pd (i*j) 1 ((p:Int)+(q:Int)) 20 ((20 - p)+(20 - q)) 20 (by omega);rw [← h,QY,xH,xH,xH,show i*10^(20 - p)*(j*10^(20 - q))=i*j*10^((20 - p)+(20 - q)) by rw [qa,Yc,Yc,Int.mul_left_comm (10^(20 - p)) j]];exact OZ _ _ (by decide)
theorem Pf (i j:Int)(p q:Nat)(c:p≤20)(d:q≤20):(0<j→NZ ((vz (i,p) (j,q)).1*((10^(20 - (vz (i,p) (j,q)).2):Nat):Int)) (i*((10^(20 - p):Nat):Int)*((10^20:Nat):Int)) (j*((10^(20 - q):Nat):Int))) ∧
  (j<0→NZ ((vz (i,p) (j,q)).1*((10^(20 - (vz (i,p) (j,q)).2):Nat):Int)) (-(i*((10^(20 - p):Nat):Int)*((10^20:Nat):Int))) (-(j*((10^(20 - q):Nat):Int)))):=by
 unfold vz;rw [Oc];have h:=@Pd i j ((p:Int) - (q:Int)) 20 ((20 - p)+20) (20 - q) (by omega);rw [← h,xH,xH,xH,Yc,← qa];have a:(0:Int)<10^(20 - q):=YE (by decide);refine ⟨fun b=>OZ _ _ (Int.mul_pos b a),fun b=>?_⟩;rw [← Kj];refine OZ _ _ ?_;have:=Int.mul_neg_of_neg_of_pos b a;omega
end Go.Proofs.YtagjhmodblifbaaGreatDoor
