/- DecRounds: Round, Fix, Floor and Ceil return what the specification returns (any values of at most 60 limbs) -/
import Derived.Test.YtagjhmodblifbaaGreatDoorMA
import Derived.Test.YtagjhmodblifbaaGreatDoorProg
import Derived.Below
import Derived.Test.YtagjhmodblifbaaGreatDoorR01
import Derived.WalkKit
import Derived.RangeFuncNested
import Derived.RangeFuncBound
import Derived.RangeFuncCalls
import Derived.RangeFuncLeaves
import Derived.Shelf.Abstract
import Derived.Shelf.RegionOpen
import Derived.OwnWalkIn
import Derived.TacticsInMore
import Derived.LoopNIn
import Derived.LoopIn
import Derived.Outline
import Derived.WalkLawsBesides
import Derived.WalkSpells
import Derived.Lib.Hide
import Derived.Maps.AppendAt
import Derived.Handy
import Derived.Deep.QuietTactic
import Derived.BigQuiet
import Derived.OrdersIn
import Derived.StillTailTactics
import Derived.Shelf.Strings.Builder1
import Derived.Shelf.Strings.Builder2
import Derived.Shelf.Strings.Trim
import Derived.Shelf.Small.Utf8
import Derived.Shelf.Small.Bits
import Derived.Shelf.Small.Strs
import Derived.Shelf.Small.Wraps
import Derived.Shelf.Strings.BuilderF
import Derived.Shelf.Strconv.Itoa0
import Derived.Shelf.Strings.Search1
import Derived.Shelf.Strings.Prefix
import Derived.Shelf.Bits.Mul64
import Derived.Shelf.Strings.Repeat
import Derived.Ground.Names2Prog
import Derived.Shelf.Slices.SearchI
import Derived.Laws.EntriesVeiled
import Derived.Deep.RegionHeld3
import Derived.Recover
import Derived.LoopN
import Derived.Lib.ItoaNum
import Derived.Laws.CopyOwn
import Derived.Deep.CutRange
import Derived.RegionTactic
import Derived.BigRegion
import Derived.ChangeAlike
import Derived.Laws.OwnMore
import Derived.IntWalk
import Derived.Deep.DeepFit
import Derived.Lib.IndexBytes
import Derived.Test.YtagjhmodblifbaaGreatDoorR00
import Derived.Deep.LoopGhost
import Derived.Deep.MidRow
import Derived.Test.YtagjhmodblifbaaGreatDoorRows
import Derived.Lay
import Derived.ProofKit
import Derived.LaidMore
import Derived.OpenShut
import Derived.LaidHandle
import Derived.MakeChecks
import Derived.Lib.SmallJoins
import Derived.Deep.Slices
import Derived.Test.YtagjhmodblifbaaGreatDoorTie
import Derived.SevenTiedAt
import Derived.Test.YtagjhmodblifbaaGreatDoorCards
import Derived.Carry
import Derived.Test.YtagjhmodblifbaaGreatDoorB00
import Derived.Test.YtagjhmodblifbaaGreatDoorB01
import Derived.Test.YtagjhmodblifbaaGreatDoorB02
import Derived.Test.YtagjhmodblifbaaGreatDoorB03
import Derived.Test.YtagjhmodblifbaaGreatDoorB04
import Derived.Test.YtagjhmodblifbaaGreatDoorB05
import Derived.Test.YtagjhmodblifbaaGreatDoorB06
import Derived.Test.YtagjhmodblifbaaGreatDoorB07
import Derived.Test.YtagjhmodblifbaaGreatDoorB08
import Derived.Test.YtagjhmodblifbaaGreatDoorB09
import Derived.Test.YtagjhmodblifbaaGreatDoorB10
import Derived.Test.YtagjhmodblifbaaGreatDoorB11
import Derived.Test.YtagjhmodblifbaaGreatDoorB12
import Derived.Test.YtagjhmodblifbaaGreatDoorB13
import Derived.Test.YtagjhmodblifbaaGreatDoorB14
import Derived.Test.YtagjhmodblifbaaGreatDoorB15
import Derived.Test.YtagjhmodblifbaaGreatDoorB16
import Derived.Test.YtagjhmodblifbaaGreatDoorB17
import Derived.Test.YtagjhmodblifbaaGreatDoorB18
import Derived.Test.YtagjhmodblifbaaGreatDoorB19
import Derived.Test.YtagjhmodblifbaaGreatDoorB20
import Derived.Test.YtagjhmodblifbaaGreatDoorB21
set_option maxHeartbeats 4000000
set_option maxRecDepth 100000
set_option exponentiation.threshold 100000
namespace Go.Proofs.YtagjhmodblifbaaGreatDoor
open Go.Proofs.Tryz
open Go Go.RowKit Go.Shelf
theorem Pp (f:Value)(j:Option (Int × Nat))(b:Int)(w:World)(h1:Fm w f j) :
 CB 44 #[f,vI b] w fun e u=>∃ k0 n0 g a m c s l o q k,e=.returned (vG k0 n0 g a m c s l o q k)∧dG u (vg (fun _=>if b<0∨20<b then 1 else 0) j) (BB (jU b) j) k (vV k0 n0 g a m c s l o q):=by
 cases j with
 | none =>
  refine (PD f b w h1).mono ?_;rintro e n ⟨d,rfl⟩;exact ⟨d,_,_,_,_,_,_,_,_,_,_,_,rfl,jX (k0:=2) (by decide)⟩
 | some x =>
  obtain ⟨i,p⟩:=x;have h1:dB w f i p:=h1
  by_cases r:b<0∨20<b
  ·refine (Pn f i p b w h1 r).mono ?_
   rintro e n ⟨d,rfl⟩;refine ⟨d,_,_,_,_,_,_,_,_,_,_,_,rfl,?_⟩
   show dG n (if b<0∨20<b then 1 else 0) _ _ _
   rw [if_pos r];exact jX (by decide)
  ·have h:(if b<0∨20<b then (1:Int) else 0)=0:=if_neg r
   by_cases t:(p:Int)≤b
   ·refine (Pd f i p b w h1 ⟨t,by omega⟩).mono ?_
    rintro e n ⟨d,k0,n0,g,a,m,c,s,l,o,q,k,rfl,hf⟩;refine ⟨d,_,_,_,_,_,_,_,_,_,_,_,rfl,jY h ?_⟩;rw [← OZ h1.lo h1.form t] at hf;exact hf
   ·refine (Pe f i p b w h1 ⟨by omega,by omega⟩).mono ?_
    rintro e n ⟨d,k0,n0,g,a,m,c,s,l,o,q,k,rfl,hf⟩;refine ⟨d,_,_,_,_,_,_,_,_,_,_,_,rfl,jY h ?_⟩;rw [Pb ⟨by omega,by omega⟩] at hf;exact hf
theorem Oh (d:Value)(b:Option (Int × Nat))(w:World)(h1:Fm w d b) :
 CB 47 #[d] w fun e h=>∃ n a m c k,e=.returned (.agg #[.bool n,.slice a m c,vI k])∧fQ h (vg (fun _=>0) b) (Lg tu b) k (vN n a m c):=by
 cases b with
 | none =>
  refine (PE d w h1).mono ?_;rintro e j ⟨f,rfl⟩;exact ⟨f,_,_,_,_,_,rfl,uU (k0:=2) (by decide)⟩
 | some x =>
  obtain ⟨i,p⟩:=x;refine (Po d i p w h1).mono ?_;rintro e j ⟨f,n,a,m,c,rfl,g⟩;exact ⟨f,_,_,_,_,_,rfl,wS g⟩
theorem OU (d:Value)(b:Option (Int × Nat))(w:World)(h1:Fm w d b) :
 CB 48 #[d] w fun e h=>∃ n a m c k,e=.returned (.agg #[.bool n,.slice a m c,vI k])∧fQ h (vg (fun _=>0) b) (Lg wH b) k (vN n a m c):=by
 cases b with
 | none =>
  refine (PT d w h1).mono ?_;rintro e j ⟨f,rfl⟩;exact ⟨f,_,_,_,_,_,rfl,uU (k0:=2) (by decide)⟩
 | some x =>
  obtain ⟨i,p⟩:=x;refine (Pz d i p w h1).mono ?_;rintro e j ⟨f,n,a,m,c,rfl,g⟩;exact ⟨f,_,_,_,_,_,rfl,wS g⟩
theorem PU (C:Value)(b:Option (Int × Nat))(w:World)(h1:Fm w C b) :
 CB 46 #[C] w fun e Y=>∃ n a m c k,e=.returned (.agg #[.bool n,.slice a m c,vI k])∧fQ Y (vg (fun _=>0) b) (Lg NW b) k (vN n a m c):=by
 obtain ⟨M,S,i,D,m1,F,V,I,Q,H,rfl⟩:=h1.kY
 have N:=fun X (o:bW w X)=>OU _ b X (h1.below o)
 have O:=fun X (o:bW w X)=>Oh _ b X (h1.below o)
 have q:i=true→Lg NW b=Lg wH b:=fun e=>by
  cases b with
  | none=>rfl
  | some x =>
   obtain ⟨T,E,R,G,s,t,g,j⟩:=dB.shape h1;simp only [Value.agg.injEq,Array.mk.injEq,List.cons.injEq,Value.int.injEq,Value.bool.injEq,Value.slice.injEq,Value.string.injEq,and_true,true_and] at g;obtain ⟨rfl,rfl,rfl,⟨rfl,rfl,rfl⟩,rfl,rfl,rfl,rfl⟩:=g;have h:=tV j;rw [e] at h;exact if_pos (of_decide_eq_true h.symm)
 have r:i=false→Lg NW b=Lg tu b:=fun e=>by
  cases b with
  | none=>rfl
  | some x =>
   obtain ⟨T,E,R,G,s,t,g,j⟩:=dB.shape h1;simp only [Value.agg.injEq,Array.mk.injEq,List.cons.injEq,Value.int.injEq,Value.bool.injEq,Value.slice.injEq,Value.string.injEq,and_true,true_and] at g;obtain ⟨rfl,rfl,rfl,⟨rfl,rfl,rfl⟩,rfl,rfl,rfl,rfl⟩:=g;have h:=tV j;rw [e] at h;exact if_neg (of_decide_eq_false h.symm)
 obtain ⟨W0,A,f,U,B⟩:=yP w 27 (lV M S i D m1 F V I Q H) 56 [vF,vZ,vI 0];obtain ⟨d0,d1,d2,d3,d4,d5⟩:=aD U
 cases i with
 | true =>
  rw [q rfl];clear q r;go_enter func46,ntmps46
  go_upto_region 1 with (fail)
  rw [A.out]
  go_wp2_with (go_at_call 48;refine (N _ f).mono ?_;rintro e w1 ⟨d,n,a,m,c,k,rfl,l⟩;have r1:=B.below d;obtain ⟨Z,y1,y2,J,b,L⟩:=wQ r1)
  obtain ⟨u,y,z⟩:=nC r1 (.bool n) (.slice a m c) (vI k)
  exact bodyPost_ret (v:=.agg #[.bool n,.slice a m c,vI k]) (by simp [results,results46,go_sem,loadCellsFrom,u,y,z]) rfl ⟨((((f.trans (d.mono f.size)).setCell (p:=⟨w.heap.size+1,0,none⟩) (Nat.le_succ _) (.bool n)).setCell (p:=⟨w.heap.size+1,1,none⟩) (Nat.le_succ _) (.slice a m c)).setCell (p:=⟨w.heap.size+1,2,none⟩) (Nat.le_succ _) (vI k)),n,a,m,c,k,rfl,l.keep (yt r1 _ _ _)⟩
 | false =>
  rw [r rfl];clear q r;go_enter func46,ntmps46
  go_upto_region 1 with (fail)
  rw [A.out]
  go_wp2_with (go_at_call 47;refine (O _ f).mono ?_;rintro e w1 ⟨d,n,a,m,c,k,rfl,l⟩;have r1:=B.below d;obtain ⟨Z,y1,y2,J,b,L⟩:=wQ r1)
  obtain ⟨u,y,z⟩:=nC r1 (.bool n) (.slice a m c) (vI k)
  exact bodyPost_ret (v:=.agg #[.bool n,.slice a m c,vI k]) (by simp [results,results46,go_sem,loadCellsFrom,u,y,z]) rfl ⟨((((f.trans (d.mono f.size)).setCell (p:=⟨w.heap.size+1,0,none⟩) (Nat.le_succ _) (.bool n)).setCell (p:=⟨w.heap.size+1,1,none⟩) (Nat.le_succ _) (.slice a m c)).setCell (p:=⟨w.heap.size+1,2,none⟩) (Nat.le_succ _) (vI k)),n,a,m,c,k,rfl,l.keep (yt r1 _ _ _)⟩
theorem za (g:Bool)(a:Option Addr)(m c:Nat)(k:Int)(i:Bool)(d:Option Addr)(m1 f:Nat)(n K x:Int)(w:World)(h:fQ w K x k (vN g a m c))(b:fQ w K x n (vN i d m1 f)) :
 CB 45 #[vN g a m c,vI k,.agg #[.bool i,.slice d m1 f,vI n]] w fun e _=>e=.returned (.bool true):=by
 obtain ⟨rfl,z,o,p⟩:k=n∧∃ z,ak w (vN g a m c) z∧ak w (vN i d m1 f) z:=by
  unfold fQ at h b
  by_cases hK:K=0
  ·rw [if_pos hK] at h b
   exact ⟨h.1.trans b.1.symm,_,h.2,b.2⟩
  ·rw [if_neg hK] at h b
   refine ⟨h.1.trans b.1.symm,0,?_,?_⟩
   ·rw [h.2];exact xe w
   ·rw [b.2];exact xe w
 have u:=fun X (q:bW w X)=>BN _ _ z X (o.below q) (p.below q)
 obtain ⟨v,t,j,r,s⟩:=yP w 24 (lN g a m c) 56 [.bool i,.slice d m1 f,vI k];obtain ⟨y,A⟩:=aQ r;obtain ⟨B,C,D⟩:=PX s;clear h b r s o p;go_enter func45,ntmps45
 go_upto_region 1 with (fail)
 rw [t.out]
 go_wp2_with (go_at_call 52;refine (u _ j).mono ?_;rintro e w1 ⟨l,rfl⟩)
 go_ret;exact ⟨j.trans (l.mono j.size),rfl⟩
def Pg (X:World)(b:Nat)(K:Int)(x:Int × Nat)(k:Int):Prop:=∃ z0 z1 z2 z3 aI aJ z4 z5 aN aO,af X b 27 (lV z0 z1 z2 z3 aI aJ z4 z5 aN aO)∧dG X K x k (vV z0 z1 z2 z3 aI aJ z4 z5 aN aO)
theorem Pg.below {X a:World}{b:Nat}{K:Int}{x:Int × Nat}{k:Int}(h:Pg X b K x k)(c:bW X a):Pg a b K x k:=by
 obtain ⟨l,m,n,o,d,f,p,q,g,i,h1,j⟩:=h;exact ⟨l,m,n,o,d,f,p,q,g,i,h1.below c,j.below c⟩
theorem fQ.below {W a:World}{k0 i k:Int}{v:Value}(h:fQ W k0 i k v)(b:bW W a):fQ a k0 i k v:=h.keep fun _ _ c=>c.below b
def OV (X:World)(b:Nat)(K x k:Int):Prop:=∃ (z0:Bool) (z1:Option Addr) (m c:Nat),af X b 24 (lN z0 z1 m c)∧fQ X K x k (vN z0 z1 m c)
theorem OV.below {X a:World}{b:Nat}{K:Int}{x:Int}{k:Int}(h:OV X b K x k)(d:bW X a):OV a b K x k:=by
 obtain ⟨g,i,m,c,h1,f⟩:=h;exact ⟨g,i,m,c,h1.below d,f.below d⟩
theorem OT (va:Value)(f:Option (Int × Nat))(m:Int)(w:World)(h1:Fm w va f)(hT:gU w) :
 CB 6 #[va,vI m] w fun e _=>e=.returned (.bool true):=by
 obtain ⟨z,A,x,s,m1,t,p,v,n,u,rfl⟩:=h1.kY;obtain ⟨W0,hW,H,q1⟩:=Lf w 27 (lV z A x s m1 t p v n u)
 have kL:=fun X:World=>PZ X.heap.size (X.alloc (.cells #[vI z,vI A,.bool x,.slice s m1 t,.string p,.slice v n u] 27)) (af.new X 27 (lV z A x s m1 t p v n u))
 have kS:=fun X (hX:bW w X)=>NB X (hT.below hX)
 generalize hB:nR m1 n p=B at kL;clear hB;go_enter func6,ntmps6
 go_upto_region 1 with (fail)
 rw [hW.out];clear hW
 cases B with
 | false =>
  go_wp2_with (first | (go_at_call 17;refine (kL _).mono ?_;rintro e w9 ⟨rfl,rfl⟩) | (go_at_call 16;refine (kS _ H).mono ?_;rintro e w1 ⟨d,rfl⟩;have r1:=q1.below d;obtain ⟨d0,d1,d2,d3,d4,d5⟩:=aD r1;have Q:=H.trans (d.mono H.size);have bl:=Q.alloc Q.size (.cells #[vI z,vI A,.bool x,.slice s m1 t,.string p,.slice v n u] 27)))
  go_ret;exact ⟨bl,rfl⟩
 | true =>
  go_upto_region 4 with (first | (go_at_call 17;refine (kL _).mono ?_;rintro e w9 ⟨rfl,rfl⟩) | (go_at_call 16;refine (kS _ H).mono ?_;rintro e w1 ⟨d,rfl⟩;have r1:=q1.below d;obtain ⟨d0,d1,d2,d3,d4,d5⟩:=aD r1;have Q:=H.trans (d.mono H.size);have bl:=Q.alloc Q.size (.cells #[vI z,vI A,.bool x,.slice s m1 t,.string p,.slice v n u] 27)))
  replace r1:=r1.alloc (.cells #[vI z,vI A,.bool x,.slice s m1 t,.string p,.slice v n u] 27);have b:=bl;clear q1 H Q bl d kL kS d0 d1 d2 d3 d4 d5
  go_cut [6,7] from 20 to 25 (fun v6 v7 W=>∃ S,∃ T:Int,v6=vP S∧v7=vI T∧Pg W S (vg (fun _=>if m<0∨20<m then 1 else 0) f) (BB (jU m) f) T∧af W (w.heap.size) 27 (lV z A x s m1 t p v n u)∧bW w W)
  case first =>
   obtain ⟨x0,x1,x2,x3,x4,x5⟩:=aD r1;have N:=EH _ f m _ (h1.below b)
   go_wp2_with (go_at_call 40;refine N.mono ?_;rintro e w1 ⟨d,q,r,z2,z3,aI,aJ,z4,z5,aN,aO,k,rfl,L⟩;have r5:=af.new w1 27 (lV 0 0 false none 0 0 ⟨#[]⟩ none 0 0);obtain ⟨y0,y1,y2,y3,y4,y5,f0,f,f2,f3,f4,f5⟩:=df r5)
   go_meet
   have o:=dJ w1 (.cells #[vI q,vI r,.bool z2,.slice z3 aI aJ,.string z4,.slice z5 aN aO] 27);have i:=d.trans (o.mono d.size);exact ⟨_,k,rfl,rfl,⟨_,_,_,_,_,_,_,_,_,_,af.new w1 27 (lV q r z2 z3 aI aJ z4 z5 aN aO),L.below o⟩,r1.below i,b.trans (i.mono b.size)⟩
  case rest =>
   clear b r1;obtain ⟨S,T,rfl,rfl,y,r1,b⟩:=hcut
   go_upto_region 5 with (fail)
   go_cut [8,9] from 26 to 30 (fun v8 v9 W=>∃ U,∃ Z:Int,v8=vP U∧v9=vI Z∧OV W U (vg (fun _=>0) f) (Lg NW f) Z∧Pg W S (vg (fun _=>if m<0∨20<m then 1 else 0) f) (BB (jU m) f) T∧af W (w.heap.size) 27 (lV z A x s m1 t p v n u)∧bW w W)
   case first =>
    obtain ⟨x0,x1,x2,x3,x4,x5⟩:=aD r1;have N:=PQ _ f _ (h1.below b)
    go_wp2_with (go_at_call 41;refine N.mono ?_;rintro e w1 ⟨d,q,r,zm,G,k,rfl,L⟩;have r5:=af.new w1 24 (lN false none 0 0);obtain ⟨y0,y1,f0,f⟩:=av r5)
    go_meet
    have o:=dJ w1 (.cells #[.bool q,.slice r zm G] 24);have i:=d.trans (o.mono d.size);exact ⟨_,k,rfl,rfl,⟨_,_,_,_,af.new w1 24 (lN q r zm G),L.below o⟩,y.below i,r1.below i,b.trans (i.mono b.size)⟩
   case rest =>
    clear b y r1;obtain ⟨U,Z,rfl,rfl,J,y,r1,b⟩:=hcut
    go_upto_region 6 with (fail)
    go_cut [10,11] from 31 to 35 (fun aa ab W=>∃ C,∃ F:Int,aa=vP C∧ab=vI F∧OV W C (vg (fun _=>0) f) (Lg tu f) F∧OV W U (vg (fun _=>0) f) (Lg NW f) Z∧Pg W S (vg (fun _=>if m<0∨20<m then 1 else 0) f) (BB (jU m) f) T∧af W (w.heap.size) 27 (lV z A x s m1 t p v n u)∧bW w W)
    case first =>
     obtain ⟨x0,x1,x2,x3,x4,x5⟩:=aD r1;have N:=Np _ f _ (h1.below b)
     go_wp2_with (go_at_call 42;refine N.mono ?_;rintro e w1 ⟨d,q,r,zm,G,k,rfl,L⟩;have r5:=af.new w1 24 (lN false none 0 0);obtain ⟨y0,y1,f0,f⟩:=av r5)
     go_meet
     have o:=dJ w1 (.cells #[.bool q,.slice r zm G] 24);have i:=d.trans (o.mono d.size);exact ⟨_,k,rfl,rfl,⟨_,_,_,_,af.new w1 24 (lN q r zm G),L.below o⟩,J.below i,y.below i,r1.below i,b.trans (i.mono b.size)⟩
    case rest =>
     clear b J y r1;obtain ⟨C,F,rfl,rfl,D,J,y,r1,b⟩:=hcut
     go_upto_region 7 with (fail)
     go_cut [12,13] from 36 to 40 (fun ad ah W=>∃ I,∃ M:Int,ad=vP I∧ah=vI M∧OV W I (vg (fun _=>0) f) (Lg wH f) M∧OV W C (vg (fun _=>0) f) (Lg tu f) F∧OV W U (vg (fun _=>0) f) (Lg NW f) Z∧Pg W S (vg (fun _=>if m<0∨20<m then 1 else 0) f) (BB (jU m) f) T∧af W (w.heap.size) 27 (lV z A x s m1 t p v n u)∧bW w W)
     case first =>
      obtain ⟨x0,x1,x2,x3,x4,x5⟩:=aD r1;have N:=GQ _ f _ (h1.below b)
      go_wp2_with (go_at_call 43;refine N.mono ?_;rintro e w1 ⟨d,q,r,zm,G,k,rfl,L⟩;have r5:=af.new w1 24 (lN false none 0 0);obtain ⟨y0,y1,f0,f⟩:=av r5)
      go_meet
      have o:=dJ w1 (.cells #[.bool q,.slice r zm G] 24);have i:=d.trans (o.mono d.size);exact ⟨_,k,rfl,rfl,⟨_,_,_,_,af.new w1 24 (lN q r zm G),L.below o⟩,D.below i,J.below i,y.below i,r1.below i,b.trans (i.mono b.size)⟩
     case rest =>
      clear b D J y r1;obtain ⟨I,M,rfl,rfl,a2,D,J,y,r1,b⟩:=hcut
      go_upto_region 8 with (fail)
      obtain ⟨al,am,a9,a7,Y,a4⟩:=a2;obtain ⟨aj,ak,a8,a6,V,a3⟩:=D;obtain ⟨b9,ba,au,ap,e8,h8⟩:=J;obtain ⟨az,b2,b3,b4,aq,an,b5,b7,ar,ao,e6,h6⟩:=y;have dH:=fC (R:=dR) (ax Y (ax V (ax e8 (ax e6 (ax r1 aS))))) trivial b
      have E:=yO dH fun X h=>(Mw h.r0 (Mw h.r1 (Mw h.r2 (ik h.r3 (aD h.r4)))):)
      clear Y V e8 e6 r1 b hT
      go_wp2_with fail
      refine bB E (bY dR.drew dH) fun X0 c=>?_
      refine tk 0 c ?_;refine tk 1 c ?_;refine tk 2 c ?_;refine tk 3 c ?_;refine tk 4 c ?_;refine tk 5 c ?_
      refine rd 6 fun j g=>?_
      have hP:=c.2
      go_wp2_with (go_at_call 44;refine (Pp _ f m _ (h1.below hP.below)).mono ?_;rintro e O ⟨a,k0,n0,g0,a0,m0,c0,s0,aw,l0,ay,kk,rfl,l⟩)
      refine aT g E (ag dR.step hP a) fun c=>?_
      clear g j hP a
      refine rd 7 fun j g=>?_
      have hP:=c.2
      go_wp2_with (go_at_call 24;refine (PS _ _ _ _ _ _ _ _ _ _ _ _ _ _ _ _ _ _ _ _ _ _ _ (PR (h6.keep hP.more) l)).mono ?_;rintro e O ⟨a,rfl⟩)
      replace l:=l.below a
      refine aT g E (ag dR.step hP a) fun c=>?_
      clear g j hP a;refine tk 8 c ?_;refine tk 9 c ?_;refine tk 10 c ?_;refine tk 11 c ?_;refine tk 12 c ?_
      refine rd 13 fun j g=>?_
      have hP:=c.2
      go_wp2_with (go_at_call 46;refine (PU _ f _ (h1.below hP.below)).mono ?_;rintro e O ⟨a,n0,a0,m0,c0,kk,rfl,l⟩)
      refine aT g E (ag dR.step hP a) fun c=>?_
      clear g j hP a
      refine rd 14 fun j g=>?_
      have hP:=c.2
      go_wp2_with (go_at_call 45;refine (za _ _ _ _ _ _ _ _ _ _ _ _ _ (h8.keep hP.more) l).mono ?_;rintro e O ⟨a,rfl⟩)
      replace l:=l.below a
      refine aT g E (ag dR.step hP a) fun c=>?_
      clear g j hP a;refine tk 15 c ?_;refine tk 16 c ?_;refine tk 17 c ?_;refine tk 18 c ?_;refine tk 19 c ?_
      refine rd 20 fun j g=>?_
      have hP:=c.2
      go_wp2_with (go_at_call 47;refine (Oh _ f _ (h1.below hP.below)).mono ?_;rintro e O ⟨a,n0,a0,m0,c0,kk,rfl,l⟩)
      refine aT g E (ag dR.step hP a) fun c=>?_
      clear g j hP a
      refine rd 21 fun j g=>?_
      have hP:=c.2
      go_wp2_with (go_at_call 45;refine (za _ _ _ _ _ _ _ _ _ _ _ _ _ (a3.keep hP.more) l).mono ?_;rintro e O ⟨a,rfl⟩)
      replace l:=l.below a
      refine aT g E (ag dR.step hP a) fun c=>?_
      clear g j hP a;refine tk 22 c ?_;refine tk 23 c ?_;refine tk 24 c ?_;refine tk 25 c ?_;refine tk 26 c ?_
      refine rd 27 fun j g=>?_
      have hP:=c.2
      go_wp2_with (go_at_call 48;refine (OU _ f _ (h1.below hP.below)).mono ?_;rintro e O ⟨a,n0,a0,m0,c0,kk,rfl,l⟩)
      refine aT g E (ag dR.step hP a) fun c=>?_
      clear g j hP a
      refine rd 28 fun j g=>?_
      have hP:=c.2
      go_wp2_with (go_at_call 45;refine (za _ _ _ _ _ _ _ _ _ _ _ _ _ (a4.keep hP.more) l).mono ?_;rintro e O ⟨a,rfl⟩)
      replace l:=l.below a
      refine aT g E (ag dR.step hP a) fun c=>?_
      clear g j hP a;refine tk 29 c ?_;refine tk 30 c ?_;refine wpAnyH_done (by kernel_rfl) ?_ _;have a5:=c.2.below;clear c
      go_wp2_with fail
      go_ret;exact ⟨a5,rfl⟩
end Go.Proofs.YtagjhmodblifbaaGreatDoor
namespace Go.Proofs.YtagjhmodblifbaaGreatDoor
open Go.Proofs.Tryz
open Go.ChangeShapes Go.WideShapes Go.ChangeAt Go.RowKit Go.Joins
theorem Oa (os:Os)(started:os.Started)(H:Type)(enc:TypeId × Value→H) :
  ReturnsInHanded {} checked os 6 .any (fun w args=>(Rows.decRoundsSpec.pre enc prog f6 [] false w args∧laidMetH prog Mt w)∧sizedMet enc prog f6 (OpenSpec.ofChange Rows.decRoundsSpec) false w args)
   (Rows.decRoundsSpec.post enc prog f6 false true false false):=by
 refine returnsInHanded_of_change_and (C:=checked) (X:=fun w _=>laidMetH prog Mt w) (fun _ _ _ I h=>h.of_heap I) own started (by kernel_rfl) func6
  (ChangeSpec.witness_shaped (enc:=enc) (C:=checked) (os:=os) (X:=fun w _=>laidMetH prog Mt w) false (World.laidAll prog os Mt) #[vV 0 0 false none 0 0 ByteArray.empty none 0 0,vI 0] 8 (World.laidAll_os _ _ _) (World.shaped_of_ZipB (by kernel_rfl) (by kernel_rfl)) (by kernel_rfl) (by kernel_rfl) (by kernel_rfl) (by rw [MakeChecks.laidMetH_plain _ _ _ (by kernel_rfl)];exact laidMet_laidAll _ (by kernel_rfl) (by kernel_rfl))) ?_
 intro W base args u U before b o _ _ B _;have a:∀ (j:Nat) t v,f6.params[j]?=some t→args[j]?=some v→Value.okWide prog W .any base t v:=b;have f:=o;obtain ⟨p,q,d,E,rfl,G,L⟩:=o;have n:DataW.TrodAll enc prog W 0 (fun _=>true) true f6.params.toList args.toList u p:=d;rw [params6] at n a;obtain ⟨k,O,S,y,N,Y,g,rfl,rfl,h0,r0⟩:=trodAll_cons n
 obtain ⟨r,Q,T,z,V,Z,rfl,rfl,rfl,h1,r1⟩:=trodAll_cons r0;obtain ⟨rfl,rfl,rfl⟩:=trodAll_nil r1
 obtain rfl:args=#[k,r]:=by cases args;simp_all
 obtain ⟨rfl,rfl⟩:=trodVars_none E
 have i:∀ x ∈ N,x.block<W.heap.size:=by obtain ⟨m,J⟩:=h0;exact DataW.trod_lt m _ _ _ J
 obtain ⟨A,s⟩:=NC (a 0 27 k rfl rfl) h0;obtain ⟨M,rfl,rfl,rfl,l⟩:=open_int underlying3 (a 1 3 r rfl rfl) h1;have D:=ND B;clear d b
 refine (OT k A M W s D).mono fun e R ⟨c,F⟩=>?_
 subst F;exact ⟨_,rfl,_,_,_,[],_,[],f,trodAll_mk1 (shut_bool underlying4 _),(trodAll_cons_mk (Below.trod laidOut (by kernel_rfl) (of_decide_eq_true (by kernel_rfl)) h0 c i) (trodAll_cons_mk (shut_int underlying3 l) trodAll_mk0)),rfl,c.frame _,fun h=>by cases h⟩
theorem Oi:(Rows.decRoundsRow.wf (OpenSpec.ofChange Rows.decRoundsSpec))=true:=by kernel_rfl
theorem Oj:(f6.params.all (prog.readableRec ·))=true:=by kernel_rfl
theorem Ol:(namedTie prog Rows.decRoundsRow.named Rows.decRoundsSpec.vars)=true:=by kernel_rfl
theorem Om:((Rows.decRoundsRow.stops == []))=true:=by kernel_rfl
theorem Oo:((prog.stops == []))=true:=by kernel_rfl
theorem Oq:((Rows.decRoundsRow.knobs == []))=true:=by kernel_rfl
theorem Ot:((prog.stopKnobs == []))=true:=by kernel_rfl
theorem Ou:((Rows.decRoundsRow.inPlace == prog.inPlace 6))=true:=by kernel_rfl
theorem Ov:((Rows.decRoundsRow.unfollowed == prog.unfollowed 6))=true:=by kernel_rfl
theorem Ow:((Rows.decRoundsRow.recurses == prog.recurses 6))=true:=by kernel_rfl
theorem Ox:((Rows.decRoundsRow.named == prog.varsNamed 6))=true:=by kernel_rfl
theorem Oy:((Rows.decRoundsRow.maps == (f6.params.toList++Rows.decRoundsSpec.plain.varTypes prog).any (prog.mapsRec ·)))=true:=by kernel_rfl
theorem Oz:((Rows.decRoundsRow.ifaces == (f6.params.toList++Rows.decRoundsSpec.plain.varTypes prog).any (prog.ifacesRec ·)))=true:=by kernel_rfl
theorem OA:((Rows.decRoundsRow.mapsOut == prog.mapsAmong f6.resultTypes.toList))=true:=by kernel_rfl
theorem OB:((Rows.decRoundsRow.loops == (f6.params.toList++Rows.decRoundsSpec.plain.varTypes prog).any (prog.loopsFrom ·)))=true:=by kernel_rfl
theorem OC:((Rows.decRoundsRow.wideKeys == (f6.params.toList++Rows.decRoundsSpec.plain.varTypes prog++f6.resultTypes.toList).any (prog.wideKeysFrom ·)))=true:=by kernel_rfl
theorem OD:(Rows.decRoundsSpec.vars.all (prog.varReadable ·))=true:=by kernel_rfl
theorem OE:(f6.resultTypes.all (fun t=>prog.readableRec t&&decide (t<prog.types.size)))=true:=by kernel_rfl
theorem OG:((Rows.decRoundsRow.ifacesOut == f6.resultTypes.toList.any (prog.ifacesRec ·)))=true:=by kernel_rfl
theorem OH:((Rows.decRoundsRow.loopsOut == f6.resultTypes.toList.any (prog.loopsFrom ·)))=true:=by kernel_rfl
theorem OI:((Rows.decRoundsRow.plainKeys == prog.plainKeys))=true:=by kernel_rfl
theorem OJ:(Rows.decRoundsRow.shortTexts.isNone)=true:=by kernel_rfl
theorem OL:((Rows.decRoundsRow.kinds == (if Rows.decRoundsRow.domain.isEmpty then [] else f6.params.toList.map fun t=>match prog.underlying t with | some (.int k)=>some k | _=>none)))=true:=by kernel_rfl
theorem OM:((Rows.decRoundsRow.pinned == Rows.decRoundsRow.pinnedBy))=true:=by kernel_rfl
theorem OO:((Rows.decRoundsRow.veiled == (f6.params.toList++Rows.decRoundsSpec.plain.varTypes prog++f6.resultTypes.toList).any (prog.veiledRec ·)))=true:=by kernel_rfl
theorem OP:(Rows.decRoundsRow.veiledFits prog f6.params.toList (f6.params.toList++Rows.decRoundsSpec.plain.varTypes prog++f6.resultTypes.toList))=true:=by kernel_rfl
theorem Ob:joinedFacts prog 6 f6 Rows.decRoundsSpec Rows.decRoundsRow=true:=by
 unfold joinedFacts;exact (NP (NP (NP (NP (NP (NP (NP (NP (NP (NP (NP (NP (NP (NP (NP (NP (NP (NP (NP (NP (NP (NP (NP (NP (NP (NP (NP (NP (NP (NP (NP Oi NQ) NR) Oj) Ol) Om) Oo) Oq) Ot) Ou) Ov) Ow) Ox) Oy) Oz) OA) OB) OC) OD) OE) OG) OH) OI) OJ) NS) NT) NU) NV) OL) OM) OO) OP)
theorem Oc:Rows.DecRoundsSaid :=
 OpenClaim.holds_of_wide 6 f6 rfl rfl rfl rfl rfl rfl rfl ⟨rfl,rfl,rfl,rfl,rfl⟩ rfl rfl rfl rfl rfl (by kernel_rfl) func6 Ob
  (of_decide_eq_true (by kernel_rfl)) (by unfold Func.isWrapper;first | (rw [if_pos (by decide +kernel)];kernel_rfl) | (rw [if_neg (by decide +kernel)];exact ⟨rfl,rfl⟩))
  (fun os started H enc _=>Oa os started H enc)
theorem OQ:Rows.DecRoundsCardSaid :=
 Claim7.holds_tied_plain_at .later [] [.data,.data,.pinned] true (true, "5a3eb988aab4a33965eb6ea46822f7ba40abd1d5151231f2e831e2d8ad74e7c3") true
  Oc (fun _ h=>by cases h) (by kernel_rfl) (fun _ h=>by cases h) decRounds_row_tie rfl ⟨rfl,rfl⟩ (by kernel_rfl) rfl
  (fun f fn hf b=>by
   obtain rfl:f=6:=Option.some.inj ((show prog.funcNamed "zermelo/zermelolaw02.DecRounds" = some 6 by kernel_rfl).symm.trans hf) |>.symm
   obtain rfl:fn=f6:=(Option.some.inj (func6.symm.trans b)).symm
   exact ⟨by kernel_rfl,fun j t c=>by
    rw [params6] at c
    have d:t ∈ [27,3]:=by simpa using Array.mem_of_getElem? c
    have a:([27,3].all fun u=>!prog.wantsStandIn u)=true:=by kernel_rfl
    exact (show prog.wantsStandIn t=false by simpa using List.all_eq_true.1 a t d)⟩)
  (by kernel_rfl)
#print axioms OQ
end Go.Proofs.YtagjhmodblifbaaGreatDoor
