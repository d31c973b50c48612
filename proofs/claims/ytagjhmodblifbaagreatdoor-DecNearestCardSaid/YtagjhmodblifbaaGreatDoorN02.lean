/- proved lemmas -/
import Derived.Test.YtagjhmodblifbaaGreatDoorMA
import Derived.Test.YtagjhmodblifbaaGreatDoorProg
import Derived.Below
import Derived.Test.YtagjhmodblifbaaGreatDoorN01
import Derived.Test.YtagjhmodblifbaaGreatDoorN00
import Derived.WalkKit
import Derived.RangeFuncNested
import Derived.RangeFuncBound
import Derived.RangeFuncCalls
import Derived.RangeFuncLeaves
import Derived.Shelf.Abstract
import Derived.Shelf.RegionOpen
import Derived.OwnWalkIn
import Derived.TacticsInMore
import Derived.LoopNIn
import Derived.LoopIn
import Derived.Outline
import Derived.WalkLawsBesides
import Derived.WalkSpells
import Derived.Lib.Hide
import Derived.Maps.AppendAt
import Derived.Handy
import Derived.Deep.QuietTactic
import Derived.BigQuiet
import Derived.OrdersIn
import Derived.StillTailTactics
import Derived.Shelf.Strings.Builder1
import Derived.Shelf.Strings.Builder2
import Derived.Shelf.Strings.Trim
import Derived.Shelf.Small.Utf8
import Derived.Shelf.Small.Bits
import Derived.Shelf.Small.Strs
import Derived.Shelf.Small.Wraps
import Derived.Shelf.Strings.BuilderF
import Derived.Shelf.Strconv.Itoa0
import Derived.Shelf.Strings.Search1
import Derived.Shelf.Strings.Prefix
import Derived.Shelf.Bits.Mul64
import Derived.Shelf.Strings.Repeat
import Derived.Ground.Names2Prog
import Derived.Shelf.Slices.SearchI
import Derived.Laws.EntriesVeiled
import Derived.Deep.RegionHeld3
import Derived.Recover
import Derived.LoopN
import Derived.Lib.ItoaNum
import Derived.Laws.CopyOwn
import Derived.Deep.CutRange
import Derived.RegionTactic
import Derived.BigRegion
import Derived.ChangeAlike
import Derived.Laws.OwnMore
import Derived.IntWalk
import Derived.Deep.DeepFit
import Derived.Lib.IndexBytes
import Derived.Deep.LoopGhost
import Derived.Deep.MidRow
import Derived.Test.YtagjhmodblifbaaGreatDoorRows
import Derived.Lay
import Derived.ProofKit
import Derived.LaidMore
import Derived.OpenShut
import Derived.LaidHandle
import Derived.MakeChecks
import Derived.Lib.SmallJoins
import Derived.Deep.Slices
import Derived.SevenTiedAt
import Derived.Carry
import Derived.Test.YtagjhmodblifbaaGreatDoorB00
import Derived.Test.YtagjhmodblifbaaGreatDoorB01
import Derived.Test.YtagjhmodblifbaaGreatDoorB02
import Derived.Test.YtagjhmodblifbaaGreatDoorB03
import Derived.Test.YtagjhmodblifbaaGreatDoorB04
import Derived.Test.YtagjhmodblifbaaGreatDoorB05
import Derived.Test.YtagjhmodblifbaaGreatDoorB06
import Derived.Test.YtagjhmodblifbaaGreatDoorB07
import Derived.Test.YtagjhmodblifbaaGreatDoorB08
import Derived.Test.YtagjhmodblifbaaGreatDoorB09
import Derived.Test.YtagjhmodblifbaaGreatDoorB10
import Derived.Test.YtagjhmodblifbaaGreatDoorB11
import Derived.Test.YtagjhmodblifbaaGreatDoorB12
import Derived.Test.YtagjhmodblifbaaGreatDoorB13
import Derived.Test.YtagjhmodblifbaaGreatDoorB14
import Derived.Test.YtagjhmodblifbaaGreatDoorB15
import Derived.Test.YtagjhmodblifbaaGreatDoorB16
import Derived.Test.YtagjhmodblifbaaGreatDoorB17
import Derived.Test.YtagjhmodblifbaaGreatDoorB18
import Derived.Test.YtagjhmodblifbaaGreatDoorB19
import Derived.Test.YtagjhmodblifbaaGreatDoorB20
import Derived.Test.YtagjhmodblifbaaGreatDoorB21
set_option maxHeartbeats 4000000
set_option maxRecDepth 100000
set_option exponentiation.threshold 100000
namespace Go.Proofs.YtagjhmodblifbaaGreatDoor
open Go.Proofs.Tryz
open Go Go.RowKit Go.Shelf
theorem Lb {W:World}{x:Int × Nat}{k:Int}{v:Value}(h:dG W 0 x k v):(x.1.natAbs<aj^40∧k=0∧dX W v x.1 x.2)∨k=3:=by
 unfold dG at h;rw [if_pos rfl] at h;unfold dP at h
 by_cases hf:x.1.natAbs<aj^40
 ·rw [if_pos hf] at h
  exact .inl ⟨hf,h⟩
 ·rw [if_neg hf] at h
  exact .inr h.1
theorem Pv {W:World}{x:Int × Nat}{k0 k:Int}{v:Value}(a:k0≠0)(h:dG W k0 x k v):k=k0:=by
 unfold dG at h;rw [if_neg a] at h;exact h.1
theorem dB.int {w:World}{k n i:Int}{p:Nat}{g:Bool}{a la:Option Addr}{m c l lc:Nat}{s:ByteArray}(h:dB w (vV k n g a m c s la l lc) i p):ak w (vN g a m c) i:=by
 obtain ⟨t,o,r,q,f,j,b,d⟩:=h.shape;simp only [Value.agg.injEq,Array.mk.injEq,List.cons.injEq,Value.int.injEq,Value.bool.injEq,Value.slice.injEq,Value.string.injEq,and_true,true_and] at b;obtain ⟨rfl,rfl,rfl,⟨rfl,rfl,rfl⟩,rfl,rfl,rfl,rfl⟩:=b;exact d
theorem OX {m l:Nat}{s:ByteArray}{f:Option (Int × Nat)}(h:za m l s f=true):∃ i p,f=some (i,p):=by
 unfold za at h;rw [Jt] at h;obtain ⟨x,a⟩:=Option.isSome_iff_exists.1 h.2;exact ⟨x.1,x.2,a⟩
theorem OY (va vb:Value)(f1 f2:Option (Int × Nat))(w:World)(h1:Fm w va f1)(h2:Fm w vb f2)(hT:gU w) :
 CB 10 #[va,vb] w fun e _=>e=.returned (.bool true):=by
 obtain ⟨k1,n1,G,a1,m1,c1,s1,cu,Q,cB,rfl⟩:=h1.kY;obtain ⟨k2,n2,H,a2,m2,c2,s2,gm,S,gp,rfl⟩:=h2.kY;obtain ⟨W0,hW,b0,q1,q2⟩:=yP w 27 (lV k1 n1 G a1 m1 c1 s1 cu Q cB) 27 (lV k2 n2 H a2 m2 c2 s2 gm S gp)
 have kL:=fun X (hX:bW w X)=>PI X.heap.size (X.alloc (.cells #[vI k1,vI n1,.bool G,.slice a1 m1 c1,.string s1,.slice cu Q cB,vI k2,vI n2,.bool H,.slice a2 m2 c2,.string s2,.slice gm S gp] 27)) (af.new X 27 [vI k1,vI n1,.bool G,.slice a1 m1 c1,.string s1,.slice cu Q cB,vI k2,vI n2,.bool H,.slice a2 m2 c2,.string s2,.slice gm S gp]) (h1.below (hX.alloc hX.size _)) (h2.below (hX.alloc hX.size _))
 have kS:=fun X (hX:bW w X)=>NB X (hT.below hX)
 obtain ⟨B,hB⟩:∃ B,(za m1 Q s1 f1&&za m2 S s2 f2)=B:=⟨_,rfl⟩
 rw [hB] at kL;have HB:=Qa hB;clear hB;go_enter func10,ntmps10
 go_upto_region 1 with (fail)
 rw [hW.out];clear hW
 cases B with
 | false =>
  go_wp2_with (first | (go_at_call 59;with_reducible refine (kL _ b1).mono ?_;rintro e w9 ⟨ig,rfl⟩;have bz:=bl.trans (ig.mono bl.size);have ra:=(r1.alloc (.cells #[vI k1,vI n1,.bool G,.slice a1 m1 c1,.string s1,.slice cu Q cB,vI k2,vI n2,.bool H,.slice a2 m2 c2,.string s2,.slice gm S gp] 27)).below ig;have rb:=(r2.alloc (.cells #[vI k1,vI n1,.bool G,.slice a1 m1 c1,.string s1,.slice cu Q cB,vI k2,vI n2,.bool H,.slice a2 m2 c2,.string s2,.slice gm S gp] 27)).below ig) | (go_at_call 16;refine (kS _ b0).mono ?_;rintro e w1 ⟨f,rfl⟩;have r1:=q1.below f;have r2:=q2.below f;obtain ⟨b2,b3,b4,b5,b7,b9⟩:=aD r1;obtain ⟨ba,bb,bc,bd,be,bf⟩:=aD r2;have b1:=b0.trans (f.mono b0.size);have bl:=b1.alloc b1.size (.cells #[vI k1,vI n1,.bool G,.slice a1 m1 c1,.string s1,.slice cu Q cB,vI k2,vI n2,.bool H,.slice a2 m2 c2,.string s2,.slice gm S gp] 27)))
  go_ret;exact ⟨bz,rfl⟩
 | true =>
  go_upto_region 4 with (first | (go_at_call 59;with_reducible refine (kL _ b1).mono ?_;rintro e w9 ⟨ig,rfl⟩;have bz:=bl.trans (ig.mono bl.size);have ra:=(r1.alloc (.cells #[vI k1,vI n1,.bool G,.slice a1 m1 c1,.string s1,.slice cu Q cB,vI k2,vI n2,.bool H,.slice a2 m2 c2,.string s2,.slice gm S gp] 27)).below ig;have rb:=(r2.alloc (.cells #[vI k1,vI n1,.bool G,.slice a1 m1 c1,.string s1,.slice cu Q cB,vI k2,vI n2,.bool H,.slice a2 m2 c2,.string s2,.slice gm S gp] 27)).below ig) | (go_at_call 16;refine (kS _ b0).mono ?_;rintro e w1 ⟨f,rfl⟩;have r1:=q1.below f;have r2:=q2.below f;obtain ⟨b2,b3,b4,b5,b7,b9⟩:=aD r1;obtain ⟨ba,bb,bc,bd,be,bf⟩:=aD r2;have b1:=b0.trans (f.mono b0.size);have bl:=b1.alloc b1.size (.cells #[vI k1,vI n1,.bool G,.slice a1 m1 c1,.string s1,.slice cu Q cB,vI k2,vI n2,.bool H,.slice a2 m2 c2,.string s2,.slice gm S gp] 27)))
  have l:=bz;clear q1 q2 b0 b1 bl f ig kL kS bz r1 r2 b2 b3 b4 b5 b7 b9 ba bb bc bd be bf
  obtain ⟨⟨i,p,rfl⟩,⟨j,q,rfl⟩⟩:(∃ i p,f1=some (i,p))∧∃ j q,f2=some (j,q):=by
   have h:=HB.out;rw [Jt] at h;exact ⟨OX h.1,OX h.2⟩
  clear HB hT;have H1:dB w _ i p:=h1;have H2:dB w _ j q:=h2
  go_cut [6,7] from 19 to 24 (fun v6 v7 W=>∃ b6,∃ j6:Int,v6=vP b6∧v7=vI j6∧PO W b6 0 (mulL (i,p) (j,q)) j6∧af W (w.heap.size) 27 (lV k1 n1 G a1 m1 c1 s1 cu Q cB)∧af W (w.heap.size+1) 27 (lV k2 n2 H a2 m2 c2 s2 gm S gp)∧bW w W)
  case first =>
   obtain ⟨a4,a5,a6,a7,a8,aa⟩:=aD ra;obtain ⟨OM,OO,OP,OQ,OT,OU⟩:=aD rb;have k9:=NA _ _ (some (i,p)) (some (j,q)) _ (h1.below l) (h2.below l)
   go_wp2_with (go_at_call 30;refine k9.mono ?_;rintro e w1 ⟨f,z0,z1,z2,z3,aI,aJ,z4,z5,aN,aO,k,rfl,hR⟩;have r5:=af.new w1 27 (lV 0 0 false none 0 0 ⟨#[]⟩ none 0 0);obtain ⟨y0,y1,y2,y3,y4,y5,f0,f1,f2,f3,f4,f5⟩:=df r5)
   go_meet
   have o1:=dJ w1 (.cells #[vI z0,vI z1,.bool z2,.slice z3 aI aJ,.string z4,.slice z5 aN aO] 27);have q3:=f.trans (o1.mono f.size);exact ⟨_,k,rfl,rfl,⟨_,_,_,_,_,_,_,_,_,_,af.new w1 27 (lV z0 z1 z2 z3 aI aJ z4 z5 aN aO),hR.below o1⟩,ra.below q3,rb.below q3,l.trans (q3.mono l.size)⟩
  case rest =>
   clear l ra rb;obtain ⟨b6,j6,rfl,rfl,g6,ra,rb,l⟩:=hcut
   go_upto_region 5 with (fail)
   obtain ⟨ca,cb,cc,cd,c5,c3,ce,cf,c6,c4,e6,h6⟩:=g6;have dH:=fC (R:=dR) (ax e6 (ax ra (ax rb aS))) trivial l
   have I:=yO dH fun X h=>(ik h.r0 (ik h.r1 (aD h.r2)):)
   clear e6 ra rb l;have hN:=Pe i j p q H1.hi H2.hi
   go_cut [51] from 25 to 51 (fun bw W=>bw=vF∧af W (w.heap.size) 27 (lV k1 n1 G a1 m1 c1 s1 cu Q cB)∧af W (w.heap.size+1) 27 (lV k2 n2 H a2 m2 c2 s2 gm S gp)∧bW w W)
   case first =>
    rcases Lb h6 with ⟨O,rfl,hV⟩ | rfl
    ·have F:dB _ _ (mulL (i,p) (j,q)).1 (mulL (i,p) (j,q)).2:=OW (m:=fB (i*j) 1 ((p:Int)+(q:Int)) 20) hV O
     clear O hV h6;have ar:=nC F.abs (show 20 - (mulL (i,p) (j,q)).2≤3000 by omega);have an:=nC H1.abs (show 20 - p≤3000 by omega);have ap:=nC H2.abs (show 20 - q≤3000 by omega);have bi:=jb an ap;have bh:=az (zb 20 (by decide)) (show 400≤1000 by decide)
     have kU:=fun X v (u:dB X v (mulL (i,p) (j,q)).1 (mulL (i,p) (j,q)).2)=>kI v _ _ X u.v u.hi (az u.abs (by decide))
     have kA:=fun X v (u:dB X v i p)=>kI v _ _ X u.v u.hi (az u.abs (by decide))
     have kB:=fun X v (u:dB X v j q)=>kI v _ _ X u.v u.hi (az u.abs (by decide))
     have kE:∀ X:World,Calls prog 64 #[vI 20] X fun e w'=>bW X w'∧∃ v,e=.returned v∧ak w' v ((10^20:Nat):Int):=fun X=>OV 20 X (by decide)
     obtain ⟨M,hM⟩:∃ M,mulL (i,p) (j,q)=M:=⟨_,rfl⟩
     rw [hM] at F ar hN kU;have HM:=Qa hM;clear hM
     have kT:=fun X v v' (u:ak X v (i*((10^(20 - p):Nat):Int))) (L:ak X v' (j*((10^(20 - q):Nat):Int)))=>yl v v' _ _ X u L (az an (by decide)) (az ap (by decide))
     have kN:=fun X v v' v2 u L aj=>qb v v' v2 _ _ _ X u L aj (az ar (by decide)) (az bi (by decide)) bh (by decide) hN
     generalize i*((10^(20 - p):Nat):Int)=ui at *;generalize j*((10^(20 - q):Nat):Int)=uj at *;generalize M.1*((10^(20 - M.2):Nat):Int)=um at *;generalize ((10^20:Nat):Int)=t20 at *;clear ar an ap bi bh hN
     go_wp2_with fail
     refine bB I (bY dR.drew dH) fun X0 b=>?_
     refine tk 0 b ?_;refine tk 1 b ?_;refine tk 2 b ?_;refine sk 3 b ?_;refine sk 4 b ?_;refine tk 5 b ?_;refine tk 6 b ?_;refine tk 7 b ?_;refine tk 8 b ?_;refine tk 9 b ?_;refine tk 10 b ?_
     refine rd 11 fun D t=>?_
     have hP:=b.2
     go_wp2_with (go_at_call 20;refine ((F.keep hP.more).is).mono ?_;rintro e wk ⟨d,rfl⟩)
     refine aT t I (ag dR.step hP d) fun b=>?_
     clear t D hP d;refine tk 12 b ?_;refine tk 13 b ?_;refine tk 14 b ?_;refine tk 16 b ?_;refine tk 18 b ?_
     refine rd 15 fun D t=>?_
     have hP:=b.2
     go_wp2_with (go_at_call 62;refine (kU _ _ (F.keep hP.more)).mono ?_;rintro e wk ⟨d,v5,rfl,x⟩)
     refine aT t I (ag dR.step hP d) fun b=>?_
     clear t D hP d
     refine rd 17 fun D t=>?_
     have hP:=b.2
     go_wp2_with (go_at_call 62;refine (kA _ _ (H1.below hP.below)).mono ?_;rintro e wk ⟨d,v6,rfl,hB⟩)
     replace x:=x.below d;clear kA
     refine aT t I (ag dR.step hP d) fun b=>?_
     clear t D hP d
     refine rd 19 fun D t=>?_
     have hP:=b.2
     go_wp2_with (go_at_call 62;refine (kB _ _ (H2.below hP.below)).mono ?_;rintro e wk ⟨d,v7,rfl,hC⟩)
     replace x:=x.below d;replace hB:=hB.below d;clear kB
     refine aT t I (ag dR.step hP d) fun b=>?_
     clear t D hP d
     refine rd 20 fun D t=>?_
     have hP:=b.2
     go_wp2_with (go_at_call 63;refine (kT _ _ _ hB hC).mono ?_;rintro e wk ⟨d,v8,rfl,hD⟩)
     replace x:=x.below d;replace hB:=hB.below d;replace hC:=hC.below d
     refine aT t I (ag dR.step hP d) fun b=>?_
     clear t D hP d
     refine rd 21 fun D t=>?_
     have hP:=b.2
     go_wp2_with (go_at_call 64;refine (kE _).mono ?_;rintro e wk ⟨d,v9,rfl,hE⟩)
     replace x:=x.below d;replace hD:=hD.below d
     refine aT t I (ag dR.step hP d) fun b=>?_
     clear t D hP d
     refine rd 22 fun D t=>?_
     have hP:=b.2
     go_wp2_with (go_at_call 61;refine (kN _ _ _ _ x hD hE).mono ?_;rintro e wk ⟨d,rfl⟩)
     replace x:=x.below d;replace hD:=hD.below d;replace hE:=hE.below d
     refine aT t I (ag dR.step hP d) fun b=>?_
     clear t D hP d;refine tk 23 b ?_;refine tk 24 b ?_;refine tk 25 b ?_;refine tk 26 b ?_;refine wpAnyH_done (by kernel_rfl) ?_ _;have a3:=b.2.below;have G:=b.2.r1;have H:=b.2.r2;clear b
     go_wp2_with fail
     go_meet
     exact ⟨rfl,G,H,a3⟩
    ·clear hN h6
     go_wp2_with fail
     refine bB I (bY dR.drew dH) fun X0 b=>?_
     refine tk 0 b ?_;refine tk 1 b ?_;refine tk 2 b ?_;refine tk 3 b ?_;refine tk 4 b ?_;refine tk 5 b ?_;refine tk 6 b ?_;refine tk 7 b ?_;refine tk 8 b ?_;refine tk 9 b ?_;refine sk 10 b ?_;refine sk 11 b ?_;refine sk 12 b ?_;refine sk 13 b ?_;refine sk 14 b ?_;refine sk 15 b ?_;refine sk 16 b ?_;refine sk 17 b ?_;refine sk 18 b ?_;refine sk 19 b ?_;refine sk 20 b ?_
     refine sk 21 b ?_;refine sk 22 b ?_;refine sk 23 b ?_;refine sk 24 b ?_;refine tk 25 b ?_;refine tk 26 b ?_;refine wpAnyH_done (by kernel_rfl) ?_ _;have a3:=b.2.below;have G:=b.2.r1;have H:=b.2.r2;clear b
     go_wp2_with fail
     go_meet
     exact ⟨rfl,G,H,a3⟩
   case rest =>
    clear I dH hN h6;obtain ⟨rfl,ra,rb,l⟩:=hcut
    go_upto_region 7 with (fail)
    go_cut [8,9] from 52 to 57 (fun v8 v9 W=>∃ b8,∃ j8:Int,v8=vP b8∧v9=vI j8∧PO W b8 (if j=0 then 20 else 0) (vz (i,p) (j,q)) j8∧af W (w.heap.size) 27 (lV k1 n1 G a1 m1 c1 s1 cu Q cB)∧af W (w.heap.size+1) 27 (lV k2 n2 H a2 m2 c2 s2 gm S gp)∧bW w W)
    case first =>
     obtain ⟨a4,a5,a6,a7,a8,aa⟩:=aD ra;obtain ⟨OM,OO,OP,OQ,OT,OU⟩:=aD rb;have k9:=BS _ _ (some (i,p)) (some (j,q)) _ (h1.below l) (h2.below l)
     go_wp2_with (go_at_call 31;refine k9.mono ?_;rintro e w1 ⟨f,z0,z1,z2,z3,aI,aJ,z4,z5,aN,aO,k,rfl,hR⟩;have r5:=af.new w1 27 (lV 0 0 false none 0 0 ⟨#[]⟩ none 0 0);obtain ⟨y0,y1,y2,y3,y4,y5,f0,f1,f2,f3,f4,f5⟩:=df r5)
     go_meet
     have o1:=dJ w1 (.cells #[vI z0,vI z1,.bool z2,.slice z3 aI aJ,.string z4,.slice z5 aN aO] 27);have q3:=f.trans (o1.mono f.size);exact ⟨_,k,rfl,rfl,⟨_,_,_,_,_,_,_,_,_,_,af.new w1 27 (lV z0 z1 z2 z3 aI aJ z4 z5 aN aO),hR.below o1⟩,ra.below q3,rb.below q3,l.trans (q3.mono l.size)⟩
    case rest =>
     clear l ra rb;obtain ⟨b8,j8,rfl,rfl,g8,ra,rb,l⟩:=hcut;obtain ⟨T,U,V,Y,A,y,Z,a0,C,z,N,h8⟩:=g8;have am:=H2.int;have hz:=og am
     go_upto_region 8 with (fail)
     by_cases hj:j=0
     ·have hm:=hz.2 hj
      rw [if_pos hj] at h8;obtain rfl:=Pv (by decide) h8;clear am hz h8;subst hm;obtain ⟨a4,a5,a6,a7,a8,aa⟩:=aD ra;obtain ⟨OM,OO,OP,OQ,OT,OU⟩:=aD rb
      go_wp2_with fail
      go_ret;exact ⟨l,rfl⟩
     rw [if_neg hj] at h8
     have e1:((m2:Int) == 0)=false:=by have:=fun h=>hj (hz.1 h);simp;omega
     clear hz am
     rcases (Lb h8).symm with rfl | ⟨O,rfl,hV⟩
     ·clear h8
      obtain ⟨a4,a5,a6,a7,a8,aa⟩:=aD ra;obtain ⟨OM,OO,OP,OQ,OT,OU⟩:=aD rb
      go_wp2_with fail
      go_ret;exact ⟨l,rfl⟩
     have F:dB _ _ (vz (i,p) (j,q)).1 (vz (i,p) (j,q)).2:=OW (m:=fB i j ((p:Int) - (q:Int)) 20) hV O;clear O hV h8;have hN:=Pf i j p q H1.hi H2.hi;have au:=nC F.abs (show 20 - (vz (i,p) (j,q)).2≤3000 by omega);have ao:=nC H1.abs (show 20 - p≤3000 by omega);have qj:=nC H2.abs (show 20 - q≤3000 by omega);have aq:=zb 20 (by decide);have bj:=jb ao aq
     have kU:=fun X v (u:dB X v (vz (i,p) (j,q)).1 (vz (i,p) (j,q)).2)=>kI v _ _ X u.v u.hi (az u.abs (by decide))
     have kA:=fun X v (u:dB X v i p)=>kI v _ _ X u.v u.hi (az u.abs (by decide))
     have kB:=fun X v (u:dB X v j q)=>kI v _ _ X u.v u.hi (az u.abs (by decide))
     have kE:∀ X:World,Calls prog 64 #[vI 20] X fun e w'=>bW X w'∧∃ v,e=.returned v∧ak w' v ((10^20:Nat):Int):=fun X=>OV 20 X (by decide)
     have ah:(0:Int)<((10^(20 - q):Nat):Int):=by have:=Qq (n:=20 - q) (show 0<10 by decide);omega
     have bk:(j*((10^(20 - q):Nat):Int)<0↔j<0)∧(0<j*((10^(20 - q):Nat):Int)↔0<j):=by
      rcases Xn hj with h | h
      ·have:=Int.mul_neg_of_neg_of_pos h ah
       omega
      ·have:=Int.mul_pos h ah
       omega
     obtain ⟨M,hM⟩:∃ M,vz (i,p) (j,q)=M:=⟨_,rfl⟩
     rw [hM] at F au hN kU;clear hM ah
     have kT:=fun X v v' (u:ak X v (i*((10^(20 - p):Nat):Int))) (L:ak X v' ((10^20:Nat):Int))=>yl v v' _ _ X u L (az ao (by decide)) (az aq (by decide))
     generalize i*((10^(20 - p):Nat):Int)=ui at *;generalize j*((10^(20 - q):Nat):Int)=uj at *;generalize M.1*((10^(20 - M.2):Nat):Int)=um at *;generalize ((10^20:Nat):Int)=t20 at *;have HN:=Qa (And.intro hN (And.intro au (And.intro qj (And.intro bj (And.intro bk hj)))));clear hN au ao qj aq bj bk hj;generalize ui*t20=un at *;obtain ⟨a4,a5,a6,a7,a8,aa⟩:=aD ra
     obtain ⟨OM,OO,OP,OQ,OT,OU⟩:=aD rb
     go_upto_region 12 with (fail)
     clear a4 a5 a6 a7 a8 aa OM OO OP OQ OT OU;have c7:=N.lt;have c8:=rb.lt
     go_cut [10] from 75 to 78 (fun bu W=>∃ o,bu=vP o∧wc.heap.size≤o∧gQ W o un∧af W b8 27 (lV T U V Y A y Z a0 C z)∧dB W (vV T U V Y A y Z a0 C z) M.1 M.2∧af W (w.heap.size) 27 (lV k1 n1 G a1 m1 c1 s1 cu Q cB)∧af W (w.heap.size+1) 27 (lV k2 n2 H a2 m2 c2 s2 gm S gp)∧bW w W)
     case first =>
      obtain ⟨a4,a5,a6,a7,a8,aa⟩:=aD ra;obtain ⟨OM,OO,OP,OQ,OT,OU⟩:=aD rb
      go_wp2_with (first | (go_at_call 62;with_reducible refine (kA _ _ (H1.below l)).mono ?_;rintro e w1 ⟨f,v5,rfl,x⟩) | (go_at_call 64;with_reducible refine (kE _).mono ?_;rintro e w2 ⟨bg,v6,rfl,hB⟩) | (go_at_call 63;with_reducible refine (kT _ _ _ (x.below bg) hB).mono ?_;rintro e w3 ⟨bq,v7,rfl,hC⟩;obtain ⟨g,a,m,c,rfl⟩:=hC.shape;have r5:=af.new w3 24 (lN false none 0 0);obtain ⟨y0,y1,f0,f1⟩:=av r5))
      go_meet
      have o1:=dJ w3 (.cells #[.bool g,.slice a m c] 24);have q2:=f.trans (bg.mono f.size);have q3:=q2.trans (bq.mono q2.size);have q4:=q3.trans (o1.mono q3.size);exact ⟨_,rfl,q3.size,⟨g,a,m,c,af.new w3 24 (lN g a m c),hC.below o1⟩,N.below q4,F.below q4,ra.below q4,rb.below q4,l.trans (q4.mono l.size)⟩
     case rest =>
      clear N F ra rb l kA kE kT;obtain ⟨o,rfl,bx,E,N,F,ra,rb,l⟩:=hcut
      go_upto_region 13 with (fail)
      go_cut [11] from 79 to 80 (fun bv W=>∃ s,bv=vP s∧o<s∧gQ W s uj∧gQ W o un∧af W b8 27 (lV T U V Y A y Z a0 C z)∧dB W (vV T U V Y A y Z a0 C z) M.1 M.2∧af W (w.heap.size) 27 (lV k1 n1 G a1 m1 c1 s1 cu Q cB)∧af W (w.heap.size+1) 27 (lV k2 n2 H a2 m2 c2 s2 gm S gp)∧bW w W)
      case first =>
       obtain ⟨a4,a5,a6,a7,a8,aa⟩:=aD ra;obtain ⟨OM,OO,OP,OQ,OT,OU⟩:=aD rb
       go_wp2_with (go_at_call 62;with_reducible refine (kB _ _ (H2.below l)).mono ?_;rintro e w1 ⟨f,v5,rfl,x⟩;obtain ⟨g,a,m,c,rfl⟩:=x.shape;have r5:=af.new w1 24 (lN false none 0 0);obtain ⟨y0,y1,f0,f1⟩:=av r5)
       go_meet
       have o1:=dJ w1 (.cells #[.bool g,.slice a m c] 24);have q4:=f.trans (o1.mono f.size)
       have hl:o<w1.heap.size:=by obtain ⟨_,_,_,_,hr,-⟩:=E.below f;exact hr.lt
       exact ⟨_,rfl,hl,⟨g,a,m,c,af.new w1 24 (lN g a m c),x.below o1⟩,E.below q4,N.below q4,F.below q4,ra.below q4,rb.below q4,l.trans (q4.mono l.size)⟩
      case rest =>
       clear N F ra rb l E kB;obtain ⟨s,rfl,c0,J,E,N,F,ra,rb,l⟩:=hcut;obtain ⟨ay,bn,bs,bp,r11,ad⟩:=J;have al:=tV ad
       by_cases ab:j<0
       ·obtain rfl:ay=true:=by rw [al];exact decide_eq_true (HN.out.2.2.2.2.1.1.2 ab)
        have d0:=r11.cell 0;simp only [Qc] at d0
        replace J:gQ _ s uj:=⟨_,_,_,_,r11,ad⟩
        clear al ad
        go_upto_region 15 with (fail)
        clear d0 r11
        go_cut [] from 83 to 84 (fun W=>gQ W o (-un)∧gQ W s uj∧af W b8 27 (lV T U V Y A y Z a0 C z)∧dB W (vV T U V Y A y Z a0 C z) M.1 M.2∧af W (w.heap.size) 27 (lV k1 n1 G a1 m1 c1 s1 cu Q cB)∧af W (w.heap.size+1) 27 (lV k2 n2 H a2 m2 c2 s2 gm S gp)∧bW w W)
        case first =>
         obtain ⟨n,a,m,c,r,i9⟩:=E;obtain ⟨d0,d1⟩:=aQ r
         go_wp2_with (go_at_call 65;refine (nR _ _ _ i9).mono ?_;rintro e w1 ⟨f,v5,rfl,x⟩;obtain ⟨g,a9,m9,c9,rfl⟩:=x.shape;have r5:=r.below f;obtain ⟨y0,y1,f0,f1⟩:=av r5)
         go_meet
         have v9:gQ w1 o un:=⟨_,_,_,_,r5,i9.below f⟩
         exact ⟨v9.store x,(J.below f).apart v9 (by omega) _ _ _ _,((N.below f).other (a:=⟨o,0,none⟩) (show b8≠o by omega) _).other (a:=⟨o,1,none⟩) (show b8≠o by omega) _,(F.below f).keep (v9.PK _ _),((ra.below f).other (a:=⟨o,0,none⟩) (show w.heap.size≠o by omega) _).other (a:=⟨o,1,none⟩) (show w.heap.size≠o by omega) _,((rb.below f).other (a:=⟨o,0,none⟩) (show w.heap.size+1≠o by omega) _).other (a:=⟨o,1,none⟩) (show w.heap.size+1≠o by omega) _,((l.trans (f.mono l.size)).setCell (show w.heap.size≤o by omega) (p:=⟨o,0,none⟩) _).setCell (show w.heap.size≤o by omega) (p:=⟨o,1,none⟩) _⟩
        case rest =>
         clear E J N F ra rb l;obtain ⟨E,J,N,F,ra,rb,l⟩:=hcut
         go_upto_region 16 with (fail)
         go_cut [] from 85 to 86 (fun W=>gQ W s (-uj)∧gQ W o (-un)∧af W b8 27 (lV T U V Y A y Z a0 C z)∧dB W (vV T U V Y A y Z a0 C z) M.1 M.2∧af W (w.heap.size) 27 (lV k1 n1 G a1 m1 c1 s1 cu Q cB)∧af W (w.heap.size+1) 27 (lV k2 n2 H a2 m2 c2 s2 gm S gp)∧bW w W)
         case first =>
          obtain ⟨n,a,m,c,r,i9⟩:=J;obtain ⟨d0,d1⟩:=aQ r
          go_wp2_with (go_at_call 65;refine (nR _ _ _ i9).mono ?_;rintro e w1 ⟨f,v5,rfl,x⟩;obtain ⟨g,a9,m9,c9,rfl⟩:=x.shape;have r5:=r.below f;obtain ⟨y0,y1,f0,f1⟩:=av r5)
          go_meet
          have v9:gQ w1 s uj:=⟨_,_,_,_,r5,i9.below f⟩
          exact ⟨v9.store x,(E.below f).apart v9 (by omega) _ _ _ _,((N.below f).other (a:=⟨s,0,none⟩) (show b8≠s by omega) _).other (a:=⟨s,1,none⟩) (show b8≠s by omega) _,(F.below f).keep (v9.PK _ _),((ra.below f).other (a:=⟨s,0,none⟩) (show w.heap.size≠s by omega) _).other (a:=⟨s,1,none⟩) (show w.heap.size≠s by omega) _,((rb.below f).other (a:=⟨s,0,none⟩) (show w.heap.size+1≠s by omega) _).other (a:=⟨s,1,none⟩) (show w.heap.size+1≠s by omega) _,((l.trans (f.mono l.size)).setCell (show w.heap.size≤s by omega) (p:=⟨s,0,none⟩) _).setCell (show w.heap.size≤s by omega) (p:=⟨s,1,none⟩) _⟩
         case rest =>
          clear E J N F ra rb l;obtain ⟨J,E,N,F,ra,rb,l⟩:=hcut;obtain ⟨bt,bm,br,bo,r10,aw⟩:=E;obtain ⟨ay,bn,bs,bp,r11,ad⟩:=J
          go_upto_region 17 with (fail)
          have dH:=fC (R:=dR) (ax N (ax r10 (ax r11 aS))) trivial l
          have I:=yO dH fun X h=>(ik h.r0 (Mw h.r1 (aQ h.r2)):)
          have kN:=fun X v v' v2 u L aj=>qb v v' v2 um (-un) (-uj) X u L aj (az HN.out.2.1 (by decide)) (by rw [JU];exact az HN.out.2.2.2.1 (by decide)) (by rw [JU];exact az HN.out.2.2.1 (by decide)) (by have:=HN.out.2.2.2.2.1.1.2 ab;omega) (HN.out.1.2 ab)
          clear N ra rb r10 r11 l HN
          go_wp2_with fail
          refine bB I (bY dR.drew dH) fun X0 b=>?_
          refine tk 0 b ?_;refine tk 1 b ?_;refine tk 2 b ?_
          refine rd 3 fun D t=>?_
          have hP:=b.2
          go_wp2_with (go_at_call 20;refine ((F.keep hP.more).is).mono ?_;rintro e wk ⟨d,rfl⟩)
          refine aT t I (ag dR.step hP d) fun b=>?_
          clear t D hP d;refine tk 4 b ?_;refine tk 5 b ?_;refine tk 6 b ?_;refine tk 8 b ?_;refine tk 9 b ?_
          refine rd 7 fun D t=>?_
          have hP:=b.2
          go_wp2_with (go_at_call 62;refine (kU _ _ (F.keep hP.more)).mono ?_;rintro e wk ⟨d,v5,rfl,x⟩)
          refine aT t I (ag dR.step hP d) fun b=>?_
          clear t D hP d
          refine rd 10 fun D t=>?_
          have hP:=b.2
          go_wp2_with (go_at_call 61;refine (kN _ _ _ _ x (aw.keep hP.more) (ad.keep hP.more)).mono ?_;rintro e wk ⟨d,rfl⟩)
          replace x:=x.below d
          refine aT t I (ag dR.step hP d) fun b=>?_
          clear t D hP d;refine tk 11 b ?_;refine tk 12 b ?_;refine wpAnyH_done (by kernel_rfl) ?_ _;have a3:=b.2.below;clear b
          go_wp2_with fail
          go_ret;exact ⟨a3,rfl⟩
       ·obtain rfl:ay=false:=by rw [al];exact decide_eq_false (fun h=>ab (HN.out.2.2.2.2.1.1.1 h))
        have d0:=r11.cell 0;simp only [Qc] at d0;clear al;obtain ⟨bt,bm,br,bo,r10,aw⟩:=E
        go_upto_region 17 with (fail)
        have dH:=fC (R:=dR) (ax N (ax r10 (ax r11 aS))) trivial l
        have I:=yO dH fun X h=>(ik h.r0 (Mw h.r1 (aQ h.r2)):)
        have kN:=fun X v v' v2 u L aj=>qb v v' v2 um un uj X u L aj (az HN.out.2.1 (by decide)) (az HN.out.2.2.2.1 (by decide)) (az HN.out.2.2.1 (by decide)) (HN.out.2.2.2.2.1.2.2 (by have:=HN.out.2.2.2.2.2;omega)) (HN.out.1.1 (by have:=HN.out.2.2.2.2.2;omega))
        clear N ra rb r10 r11 l HN
        go_wp2_with fail
        refine bB I (bY dR.drew dH) fun X0 b=>?_
        refine tk 0 b ?_;refine tk 1 b ?_;refine tk 2 b ?_
        refine rd 3 fun D t=>?_
        have hP:=b.2
        go_wp2_with (go_at_call 20;refine ((F.keep hP.more).is).mono ?_;rintro e wk ⟨d,rfl⟩)
        refine aT t I (ag dR.step hP d) fun b=>?_
        clear t D hP d;refine tk 4 b ?_;refine tk 5 b ?_;refine tk 6 b ?_;refine tk 8 b ?_;refine tk 9 b ?_
        refine rd 7 fun D t=>?_
        have hP:=b.2
        go_wp2_with (go_at_call 62;refine (kU _ _ (F.keep hP.more)).mono ?_;rintro e wk ⟨d,v5,rfl,x⟩)
        refine aT t I (ag dR.step hP d) fun b=>?_
        clear t D hP d
        refine rd 10 fun D t=>?_
        have hP:=b.2
        go_wp2_with (go_at_call 61;refine (kN _ _ _ _ x (aw.keep hP.more) (ad.keep hP.more)).mono ?_;rintro e wk ⟨d,rfl⟩)
        replace x:=x.below d
        refine aT t I (ag dR.step hP d) fun b=>?_
        clear t D hP d;refine tk 11 b ?_;refine tk 12 b ?_;refine wpAnyH_done (by kernel_rfl) ?_ _;have a3:=b.2.below;clear b
        go_wp2_with fail
        go_ret;exact ⟨a3,rfl⟩
end Go.Proofs.YtagjhmodblifbaaGreatDoor