/- DecSums: Add, Sub, Mul and Div return what the specification returns (any values of at most 60 limbs) -/
import Derived.Test.YtagjhmodblifbaaGreatDoorMA
import Derived.Test.YtagjhmodblifbaaGreatDoorProg
import Derived.Below
import Derived.Test.YtagjhmodblifbaaGreatDoorS01
import Derived.Test.YtagjhmodblifbaaGreatDoorS02
import Derived.Test.YtagjhmodblifbaaGreatDoorRows
import Derived.RangeFuncNested
import Derived.WalkKit
import Derived.WalkLawsBesides
import Derived.WalkSpells
import Derived.Lib.Hide
import Derived.Maps.AppendAt
import Derived.RangeFuncBound
import Derived.RangeFuncCalls
import Derived.RangeFuncLeaves
import Derived.Shelf.Abstract
import Derived.Shelf.RegionOpen
import Derived.OwnWalkIn
import Derived.TacticsInMore
import Derived.LoopNIn
import Derived.LoopIn
import Derived.Outline
import Derived.Handy
import Derived.Deep.QuietTactic
import Derived.BigQuiet
import Derived.OrdersIn
import Derived.StillTailTactics
import Derived.Shelf.Strings.Builder1
import Derived.Shelf.Strings.Builder2
import Derived.Shelf.Strings.Trim
import Derived.Shelf.Small.Utf8
import Derived.Shelf.Small.Bits
import Derived.Shelf.Small.Strs
import Derived.Shelf.Small.Wraps
import Derived.Shelf.Strings.BuilderF
import Derived.Shelf.Strconv.Itoa0
import Derived.Shelf.Strings.Search1
import Derived.Shelf.Strings.Prefix
import Derived.Shelf.Bits.Mul64
import Derived.Shelf.Strings.Repeat
import Derived.Ground.Names2Prog
import Derived.Shelf.Slices.SearchI
import Derived.Laws.EntriesVeiled
import Derived.Deep.RegionHeld3
import Derived.Recover
import Derived.LoopN
import Derived.IntWalk
import Derived.Lib.IndexBytes
import Derived.RegionTactic
import Derived.ChangeAlike
import Derived.Laws.OwnMore
import Derived.Deep.DeepFit
import Derived.Lib.ItoaNum
import Derived.Laws.CopyOwn
import Derived.Deep.CutRange
import Derived.BigRegion
import Derived.Lay
import Derived.ProofKit
import Derived.LaidMore
import Derived.OpenShut
import Derived.LaidHandle
import Derived.MakeChecks
import Derived.Lib.SmallJoins
import Derived.Deep.Slices
import Derived.Test.YtagjhmodblifbaaGreatDoorTie
import Derived.SevenTiedAt
import Derived.Test.YtagjhmodblifbaaGreatDoorCards
import Derived.Carry
import Derived.Test.YtagjhmodblifbaaGreatDoorB00
import Derived.Test.YtagjhmodblifbaaGreatDoorB01
import Derived.Test.YtagjhmodblifbaaGreatDoorB02
import Derived.Test.YtagjhmodblifbaaGreatDoorB03
import Derived.Test.YtagjhmodblifbaaGreatDoorB04
import Derived.Test.YtagjhmodblifbaaGreatDoorB05
import Derived.Test.YtagjhmodblifbaaGreatDoorB06
import Derived.Test.YtagjhmodblifbaaGreatDoorB07
import Derived.Test.YtagjhmodblifbaaGreatDoorB08
import Derived.Test.YtagjhmodblifbaaGreatDoorB09
import Derived.Test.YtagjhmodblifbaaGreatDoorB10
import Derived.Test.YtagjhmodblifbaaGreatDoorB11
import Derived.Test.YtagjhmodblifbaaGreatDoorB12
import Derived.Test.YtagjhmodblifbaaGreatDoorB13
import Derived.Test.YtagjhmodblifbaaGreatDoorB14
import Derived.Test.YtagjhmodblifbaaGreatDoorB15
import Derived.Test.YtagjhmodblifbaaGreatDoorB16
import Derived.Test.YtagjhmodblifbaaGreatDoorB17
import Derived.Test.YtagjhmodblifbaaGreatDoorB18
import Derived.Test.YtagjhmodblifbaaGreatDoorB19
import Derived.Test.YtagjhmodblifbaaGreatDoorB20
import Derived.Test.YtagjhmodblifbaaGreatDoorB21
set_option maxHeartbeats 4000000
set_option maxRecDepth 100000
set_option exponentiation.threshold 100000
namespace Go.Proofs.YtagjhmodblifbaaGreatDoor
open Go.Proofs.Tryz
open Go Go.RowKit Go.Shelf
def Oa (X:World)(b:Nat)(K:Int)(x:Int × Nat)(k:Int):Prop:=∃ z0 z1 z2 z3 aI aJ z4 z5 aN aO,af X b 27 (lV z0 z1 z2 z3 aI aJ z4 z5 aN aO)∧dG X K x k (vV z0 z1 z2 z3 aI aJ z4 z5 aN aO)
theorem Oa.below {X a:World}{b:Nat}{K:Int}{x:Int × Nat}{k:Int}(h:Oa X b K x k)(c:bW X a):Oa a b K x k:=by
 obtain ⟨l,m,n,o,d,f,p,q,g,i,h1,j⟩:=h;exact ⟨l,m,n,o,d,f,p,q,g,i,h1.below c,j.below c⟩
theorem Pk (va vb:Value)(f g:Option (Int × Nat))(w:World)(h1:Fm w va f)(U:Fm w vb g)(hT:gU w) :
 CB 4 #[va,vb] w fun e _=>e=.returned (.bool true):=by
 obtain ⟨E,G,C,r,m1,x,p,A,n,z,rfl⟩:=h1.kY;obtain ⟨F,n2,D,a2,m2,c2,q,gm,o,gp,rfl⟩:=U.kY;obtain ⟨W0,hW,Z,q1,q2⟩:=yP w 27 (lV E G C r m1 x p A n z) 27 (lV F n2 D a2 m2 c2 q gm o gp)
 have kL:=fun X:World=>Ru X.heap.size (X.alloc (.cells #[vI E,vI G,.bool C,.slice r m1 x,.string p,.slice A n z,vI F,vI n2,.bool D,.slice a2 m2 c2,.string q,.slice gm o gp] 27)) (af.new X 27 [vI E,vI G,.bool C,.slice r m1 x,.string p,.slice A n z,vI F,vI n2,.bool D,.slice a2 m2 c2,.string q,.slice gm o gp])
 have kS:=fun X (hX:bW w X)=>NB X (hT.below hX)
 generalize hB:(eU m1 n p&&eU m2 o q)=B at kL;clear hB;go_enter func4,ntmps4
 go_upto_region 1 with (fail)
 rw [hW.out];clear hW
 cases B with
 | false =>
  go_wp2_with (first | (go_at_call 17;refine (kL _).mono ?_;rintro e w9 ⟨rfl,rfl⟩) | (go_at_call 16;refine (kS _ Z).mono ?_;rintro e w1 ⟨d,rfl⟩;have r1:=q1.below d;have r2:=q2.below d;obtain ⟨ao,ap,aq,ar,au,av⟩:=aD r1;obtain ⟨aw,ay,az,b2,b3,b4⟩:=aD r2;have b1:=Z.trans (d.mono Z.size);have bl:=b1.alloc b1.size (.cells #[vI E,vI G,.bool C,.slice r m1 x,.string p,.slice A n z,vI F,vI n2,.bool D,.slice a2 m2 c2,.string q,.slice gm o gp] 27)))
  go_ret;exact ⟨bl,rfl⟩
 | true =>
  go_upto_region 4 with (first | (go_at_call 17;refine (kL _).mono ?_;rintro e w9 ⟨rfl,rfl⟩) | (go_at_call 16;refine (kS _ Z).mono ?_;rintro e w1 ⟨d,rfl⟩;have r1:=q1.below d;have r2:=q2.below d;obtain ⟨ao,ap,aq,ar,au,av⟩:=aD r1;obtain ⟨aw,ay,az,b2,b3,b4⟩:=aD r2;have b1:=Z.trans (d.mono Z.size);have bl:=b1.alloc b1.size (.cells #[vI E,vI G,.bool C,.slice r m1 x,.string p,.slice A n z,vI F,vI n2,.bool D,.slice a2 m2 c2,.string q,.slice gm o gp] 27)))
  replace r1:=r1.alloc (.cells #[vI E,vI G,.bool C,.slice r m1 x,.string p,.slice A n z,vI F,vI n2,.bool D,.slice a2 m2 c2,.string q,.slice gm o gp] 27);replace r2:=r2.alloc (.cells #[vI E,vI G,.bool C,.slice r m1 x,.string p,.slice A n z,vI F,vI n2,.bool D,.slice a2 m2 c2,.string q,.slice gm o gp] 27);have b:=bl
  clear q1 q2 Z b1 bl d kL kS ao ap aq ar au av aw ay az b2 b3 b4
  go_cut [6,7] from 21 to 26 (fun v6 v7 W=>∃ b6,∃ j6:Int,v6=vP b6∧v7=vI j6∧Oa W b6 (qE (fun _ _=>0) f g) (sQ vo f g) j6∧af W (w.heap.size) 27 (lV E G C r m1 x p A n z)∧af W (w.heap.size+1) 27 (lV F n2 D a2 m2 c2 q gm o gp)∧bW w W)
  case first =>
   obtain ⟨a7,a8,a9,aa,ab,ad⟩:=aD r1;obtain ⟨ah,aj,ak,al,am,an⟩:=aD r2;have k9:=KD _ _ f g _ (h1.below b) (U.below b)
   go_wp2_with (go_at_call 28;refine k9.mono ?_;rintro e w1 ⟨d,I,J,L,M,s,t,N,O,u,v,k,rfl,hR⟩;have r5:=af.new w1 27 (lV 0 0 false none 0 0 ⟨#[]⟩ none 0 0);obtain ⟨y0,y1,y2,y3,y4,y5,f0,f,g,f3,f4,f5⟩:=df r5)
   go_meet
   have H:=dJ w1 (.cells #[vI I,vI J,.bool L,.slice M s t,.string N,.slice O u v] 27);have j:=d.trans (H.mono d.size);exact ⟨_,k,rfl,rfl,⟨_,_,_,_,_,_,_,_,_,_,af.new w1 27 (lV I J L M s t N O u v),hR.below H⟩,r1.below j,r2.below j,b.trans (j.mono b.size)⟩
  case rest =>
   clear b r1 r2;obtain ⟨b6,j6,rfl,rfl,Q,r1,r2,b⟩:=hcut
   go_upto_region 5 with (fail)
   go_cut [8,9] from 27 to 32 (fun v8 v9 W=>∃ b8,∃ j8:Int,v8=vP b8∧v9=vI j8∧Oa W b8 (qE (fun _ _=>0) f g) (sQ nR f g) j8∧Oa W b6 (qE (fun _ _=>0) f g) (sQ vo f g) j6∧af W (w.heap.size) 27 (lV E G C r m1 x p A n z)∧af W (w.heap.size+1) 27 (lV F n2 D a2 m2 c2 q gm o gp)∧bW w W)
   case first =>
    obtain ⟨a7,a8,a9,aa,ab,ad⟩:=aD r1;obtain ⟨ah,aj,ak,al,am,an⟩:=aD r2;have k9:=PW _ _ f g _ (h1.below b) (U.below b)
    go_wp2_with (go_at_call 29;refine k9.mono ?_;rintro e w1 ⟨d,I,J,L,M,s,t,N,O,u,v,k,rfl,hR⟩;have r5:=af.new w1 27 (lV 0 0 false none 0 0 ⟨#[]⟩ none 0 0);obtain ⟨y0,y1,y2,y3,y4,y5,f0,f,g,f3,f4,f5⟩:=df r5)
    go_meet
    have H:=dJ w1 (.cells #[vI I,vI J,.bool L,.slice M s t,.string N,.slice O u v] 27);have j:=d.trans (H.mono d.size);exact ⟨_,k,rfl,rfl,⟨_,_,_,_,_,_,_,_,_,_,af.new w1 27 (lV I J L M s t N O u v),hR.below H⟩,Q.below j,r1.below j,r2.below j,b.trans (j.mono b.size)⟩
   case rest =>
    clear b Q r1 r2;obtain ⟨b8,j8,rfl,rfl,g8,Q,r1,r2,b⟩:=hcut
    go_upto_region 6 with (fail)
    go_cut [10,11] from 33 to 38 (fun bm bn W=>∃ S,∃ Y:Int,bm=vP S∧bn=vI Y∧Oa W S (qE (fun _ _=>0) f g) (sQ mulL f g) Y∧Oa W b8 (qE (fun _ _=>0) f g) (sQ nR f g) j8∧Oa W b6 (qE (fun _ _=>0) f g) (sQ vo f g) j6∧af W (w.heap.size) 27 (lV E G C r m1 x p A n z)∧af W (w.heap.size+1) 27 (lV F n2 D a2 m2 c2 q gm o gp)∧bW w W)
    case first =>
     obtain ⟨a7,a8,a9,aa,ab,ad⟩:=aD r1;obtain ⟨ah,aj,ak,al,am,an⟩:=aD r2;have k9:=NA _ _ f g _ (h1.below b) (U.below b)
     go_wp2_with (go_at_call 30;refine k9.mono ?_;rintro e w1 ⟨d,I,J,L,M,s,t,N,O,u,v,k,rfl,hR⟩;have r5:=af.new w1 27 (lV 0 0 false none 0 0 ⟨#[]⟩ none 0 0);obtain ⟨y0,y1,y2,y3,y4,y5,f0,f,g,f3,f4,f5⟩:=df r5)
     go_meet
     have H:=dJ w1 (.cells #[vI I,vI J,.bool L,.slice M s t,.string N,.slice O u v] 27);have j:=d.trans (H.mono d.size);exact ⟨_,k,rfl,rfl,⟨_,_,_,_,_,_,_,_,_,_,af.new w1 27 (lV I J L M s t N O u v),hR.below H⟩,g8.below j,Q.below j,r1.below j,r2.below j,b.trans (j.mono b.size)⟩
    case rest =>
     clear b g8 Q r1 r2;obtain ⟨S,Y,rfl,rfl,T,g8,Q,r1,r2,b⟩:=hcut
     go_upto_region 7 with (fail)
     go_cut [12,13] from 39 to 44 (fun bo bp W=>∃ a3,∃ a4:Int,bo=vP a3∧bp=vI a4∧Oa W a3 (qE (fun _ y=>if y.1=0 then 20 else 0) f g) (sQ vz f g) a4∧Oa W S (qE (fun _ _=>0) f g) (sQ mulL f g) Y∧Oa W b8 (qE (fun _ _=>0) f g) (sQ nR f g) j8∧Oa W b6 (qE (fun _ _=>0) f g) (sQ vo f g) j6∧af W (w.heap.size) 27 (lV E G C r m1 x p A n z)∧af W (w.heap.size+1) 27 (lV F n2 D a2 m2 c2 q gm o gp)∧bW w W)
     case first =>
      obtain ⟨a7,a8,a9,aa,ab,ad⟩:=aD r1;obtain ⟨ah,aj,ak,al,am,an⟩:=aD r2;have k9:=BS _ _ f g _ (h1.below b) (U.below b)
      go_wp2_with (go_at_call 31;refine k9.mono ?_;rintro e w1 ⟨d,I,J,L,M,s,t,N,O,u,v,k,rfl,hR⟩;have r5:=af.new w1 27 (lV 0 0 false none 0 0 ⟨#[]⟩ none 0 0);obtain ⟨y0,y1,y2,y3,y4,y5,f0,f,g,f3,f4,f5⟩:=df r5)
      go_meet
      have H:=dJ w1 (.cells #[vI I,vI J,.bool L,.slice M s t,.string N,.slice O u v] 27);have j:=d.trans (H.mono d.size);exact ⟨_,k,rfl,rfl,⟨_,_,_,_,_,_,_,_,_,_,af.new w1 27 (lV I J L M s t N O u v),hR.below H⟩,T.below j,g8.below j,Q.below j,r1.below j,r2.below j,b.trans (j.mono b.size)⟩
     case rest =>
      clear b T g8 Q r1 r2;obtain ⟨a3,a4,rfl,rfl,b9,T,g8,Q,r1,r2,b⟩:=hcut
      go_upto_region 8 with (fail)
      obtain ⟨bw,bx,bz,c3,bj,bf,c4,c5,bk,bg,b7,bb⟩:=b9;obtain ⟨bq,br,bs,bt,bh,bd,bu,bv,bi,be,b5,ba⟩:=T;obtain ⟨ck,cl,cm,cn,cc,c8,co,cp,cd,c9,e8,h8⟩:=g8;obtain ⟨ce,cf,cg,ch,ca,c6,ci,cj,cb,c7,e6,h6⟩:=Q;have dH:=fC (R:=dR) (ax b7 (ax b5 (ax e8 (ax e6 (ax r1 (ax r2 aS)))))) trivial b
      have V:=yO dH fun X h=>(ik h.r0 (ik h.r1 (ik h.r2 (ik h.r3 (ik h.r4 (aD h.r5))))):)
      clear b7 b5 e8 e6 r1 r2 b hT
      go_wp2_with fail
      refine bB V (bY dR.drew dH) fun X0 c=>?_
      refine tk 0 c ?_;refine tk 1 c ?_;refine tk 2 c ?_;refine tk 3 c ?_;refine tk 4 c ?_;refine tk 5 c ?_
      refine rd 6 fun l i=>?_
      have hP:=c.2
      go_wp2_with (go_at_call 32;refine (Rl _ _ f g _ (h1.below hP.below) (U.below hP.below)).mono ?_;rintro e wk ⟨a,k0,n0,g0,a0,m0,c0,s0,a5,l0,a6,kk,rfl,m⟩)
      refine aT i V (ag dR.step hP a) fun c=>?_
      clear i l hP a
      refine rd 7 fun l i=>?_
      have hP:=c.2
      go_wp2_with (go_at_call 24;refine (NZ _ _ _ _ _ _ _ _ _ _ _ _ _ _ _ _ _ _ _ _ _ _ _ (NY (h6.keep hP.more) m)).mono ?_;rintro e wk ⟨a,rfl⟩)
      replace m:=m.below a
      refine aT i V (ag dR.step hP a) fun c=>?_
      clear i l hP a;refine tk 8 c ?_;refine tk 9 c ?_;refine tk 10 c ?_;refine tk 11 c ?_;refine tk 12 c ?_;refine tk 13 c ?_
      refine rd 14 fun l i=>?_
      have hP:=c.2
      go_wp2_with (go_at_call 33;refine (Rm _ _ f g _ (h1.below hP.below) (U.below hP.below)).mono ?_;rintro e wk ⟨a,k0,n0,g0,a0,m0,c0,s0,a5,l0,a6,kk,rfl,m⟩)
      refine aT i V (ag dR.step hP a) fun c=>?_
      clear i l hP a
      refine rd 15 fun l i=>?_
      have hP:=c.2
      go_wp2_with (go_at_call 24;refine (NZ _ _ _ _ _ _ _ _ _ _ _ _ _ _ _ _ _ _ _ _ _ _ _ (NY (h8.keep hP.more) m)).mono ?_;rintro e wk ⟨a,rfl⟩)
      replace m:=m.below a
      refine aT i V (ag dR.step hP a) fun c=>?_
      clear i l hP a;refine tk 16 c ?_;refine tk 17 c ?_;refine tk 18 c ?_;refine tk 19 c ?_;refine tk 20 c ?_;refine tk 21 c ?_
      refine rd 22 fun l i=>?_
      have hP:=c.2
      go_wp2_with (go_at_call 34;refine (Rn _ _ f g _ (h1.below hP.below) (U.below hP.below)).mono ?_;rintro e wk ⟨a,k0,n0,g0,a0,m0,c0,s0,a5,l0,a6,kk,rfl,m⟩)
      refine aT i V (ag dR.step hP a) fun c=>?_
      clear i l hP a
      refine rd 23 fun l i=>?_
      have hP:=c.2
      go_wp2_with (go_at_call 24;refine (NZ _ _ _ _ _ _ _ _ _ _ _ _ _ _ _ _ _ _ _ _ _ _ _ (NY (ba.keep hP.more) m)).mono ?_;rintro e wk ⟨a,rfl⟩)
      replace m:=m.below a
      refine aT i V (ag dR.step hP a) fun c=>?_
      clear i l hP a;refine tk 24 c ?_;refine tk 25 c ?_;refine tk 26 c ?_;refine tk 27 c ?_;refine tk 28 c ?_;refine tk 29 c ?_
      refine rd 30 fun l i=>?_
      have hP:=c.2
      go_wp2_with (go_at_call 35;refine (Ro _ _ f g _ (h1.below hP.below) (U.below hP.below)).mono ?_;rintro e wk ⟨a,k0,n0,g0,a0,m0,c0,s0,a5,l0,a6,kk,rfl,m⟩)
      refine aT i V (ag dR.step hP a) fun c=>?_
      clear i l hP a
      refine rd 31 fun l i=>?_
      have hP:=c.2
      go_wp2_with (go_at_call 24;refine (NZ _ _ _ _ _ _ _ _ _ _ _ _ _ _ _ _ _ _ _ _ _ _ _ (NY (bb.keep hP.more) m)).mono ?_;rintro e wk ⟨a,rfl⟩)
      replace m:=m.below a
      refine aT i V (ag dR.step hP a) fun c=>?_
      clear i l hP a;refine tk 32 c ?_;refine tk 33 c ?_;refine wpAnyH_done (by kernel_rfl) ?_ _;have bc:=c.2.below;clear c
      go_wp2_with fail
      go_ret;exact ⟨bc,rfl⟩
end Go.Proofs.YtagjhmodblifbaaGreatDoor
namespace Go.Proofs.YtagjhmodblifbaaGreatDoor
open Go.Proofs.Tryz
open Go.ChangeShapes Go.WideShapes Go.ChangeAt Go.RowKit Go.Joins
theorem Oo (os:Os)(started:os.Started)(H:Type)(enc:TypeId × Value→H) :
  ReturnsInHanded {} checked os 4 .any (fun w args=>(Rows.decSumsSpec.pre enc prog f4 [] false w args∧laidMetH prog Mt w)∧sizedMet enc prog f4 (OpenSpec.ofChange Rows.decSumsSpec) false w args)
   (Rows.decSumsSpec.post enc prog f4 false true false false):=by
 refine returnsInHanded_of_change_and (C:=checked) (X:=fun w _=>laidMetH prog Mt w) (fun _ _ _ M h=>h.of_heap M) own started (by kernel_rfl) func4
  (ChangeSpec.witness_shaped (enc:=enc) (C:=checked) (os:=os) (X:=fun w _=>laidMetH prog Mt w) false (World.laidAll prog os Mt) #[vV 0 0 false none 0 0 ByteArray.empty none 0 0,vV 0 0 false none 0 0 ByteArray.empty none 0 0] 8 (World.laidAll_os _ _ _) (World.shaped_of_ZipB (by kernel_rfl) (by kernel_rfl)) (by kernel_rfl) (by kernel_rfl) (by kernel_rfl) (by rw [MakeChecks.laidMetH_plain _ _ _ (by kernel_rfl)];exact laidMet_laidAll _ (by kernel_rfl) (by kernel_rfl))) ?_
 intro W base args z Y before b s _ _ F _;have a:∀ (j:Nat) t v,f4.params[j]?=some t→args[j]?=some v→Value.okWide prog W .any base t v:=b;have f:=s;obtain ⟨p,q,d,I,rfl,L,N⟩:=s;have r:DataW.TrodAll enc prog W 0 (fun _=>true) true f4.params.toList args.toList z p:=d;rw [params4] at r a;obtain ⟨n,R,U,A,O,Z,g,rfl,rfl,h0,r0⟩:=trodAll_cons r
 obtain ⟨o,S,V,B,Q,q1,rfl,rfl,rfl,h1,r1⟩:=trodAll_cons r0;obtain ⟨rfl,rfl,rfl⟩:=trodAll_nil r1
 obtain rfl:args=#[n,o]:=by cases args;simp_all
 obtain ⟨rfl,rfl⟩:=trodVars_none I
 have k:∀ x ∈ O,x.block<W.heap.size:=by obtain ⟨m,i⟩:=h0;exact DataW.trod_lt m _ _ _ i
 have l:∀ x ∈ Q,x.block<W.heap.size:=by obtain ⟨m,i⟩:=h1;exact DataW.trod_lt m _ _ _ i
 obtain ⟨D,u⟩:=NC (a 0 27 n rfl rfl) h0;obtain ⟨E,y⟩:=NC (a 1 27 o rfl rfl) h1;have G:=ND F;clear d b
 refine (Pk n o D E W u y G).mono fun e T ⟨c,J⟩=>?_
 subst J;exact ⟨_,rfl,_,_,_,[],_,[],f,trodAll_mk1 (shut_bool underlying4 _),(trodAll_cons_mk (Below.trod laidOut (by kernel_rfl) (of_decide_eq_true (by kernel_rfl)) h0 c k) (trodAll_cons_mk (Below.trod laidOut (by kernel_rfl) (of_decide_eq_true (by kernel_rfl)) h1 c l) trodAll_mk0)),rfl,c.frame _,fun h=>by cases h⟩
theorem Oy:(Rows.decSumsRow.wf (OpenSpec.ofChange Rows.decSumsSpec))=true:=by kernel_rfl
theorem Oz:(f4.params.all (prog.readableRec ·))=true:=by kernel_rfl
theorem OA:(namedTie prog Rows.decSumsRow.named Rows.decSumsSpec.vars)=true:=by kernel_rfl
theorem OB:((Rows.decSumsRow.stops == []))=true:=by kernel_rfl
theorem OC:((prog.stops == []))=true:=by kernel_rfl
theorem OD:((Rows.decSumsRow.knobs == []))=true:=by kernel_rfl
theorem OE:((prog.stopKnobs == []))=true:=by kernel_rfl
theorem OG:((Rows.decSumsRow.inPlace == prog.inPlace 4))=true:=by kernel_rfl
theorem OH:((Rows.decSumsRow.unfollowed == prog.unfollowed 4))=true:=by kernel_rfl
theorem OI:((Rows.decSumsRow.recurses == prog.recurses 4))=true:=by kernel_rfl
theorem OJ:((Rows.decSumsRow.named == prog.varsNamed 4))=true:=by kernel_rfl
theorem OL:((Rows.decSumsRow.maps == (f4.params.toList++Rows.decSumsSpec.plain.varTypes prog).any (prog.mapsRec ·)))=true:=by kernel_rfl
theorem OM:((Rows.decSumsRow.ifaces == (f4.params.toList++Rows.decSumsSpec.plain.varTypes prog).any (prog.ifacesRec ·)))=true:=by kernel_rfl
theorem OO:((Rows.decSumsRow.mapsOut == prog.mapsAmong f4.resultTypes.toList))=true:=by kernel_rfl
theorem OP:((Rows.decSumsRow.loops == (f4.params.toList++Rows.decSumsSpec.plain.varTypes prog).any (prog.loopsFrom ·)))=true:=by kernel_rfl
theorem OQ:((Rows.decSumsRow.wideKeys == (f4.params.toList++Rows.decSumsSpec.plain.varTypes prog++f4.resultTypes.toList).any (prog.wideKeysFrom ·)))=true:=by kernel_rfl
theorem OT:(Rows.decSumsSpec.vars.all (prog.varReadable ·))=true:=by kernel_rfl
theorem OU:(f4.resultTypes.all (fun t=>prog.readableRec t&&decide (t<prog.types.size)))=true:=by kernel_rfl
theorem OV:((Rows.decSumsRow.ifacesOut == f4.resultTypes.toList.any (prog.ifacesRec ·)))=true:=by kernel_rfl
theorem OW:((Rows.decSumsRow.loopsOut == f4.resultTypes.toList.any (prog.loopsFrom ·)))=true:=by kernel_rfl
theorem OX:((Rows.decSumsRow.plainKeys == prog.plainKeys))=true:=by kernel_rfl
theorem OY:(Rows.decSumsRow.shortTexts.isNone)=true:=by kernel_rfl
theorem OZ:((Rows.decSumsRow.kinds == (if Rows.decSumsRow.domain.isEmpty then [] else f4.params.toList.map fun t=>match prog.underlying t with | some (.int k)=>some k | _=>none)))=true:=by kernel_rfl
theorem Pb:((Rows.decSumsRow.pinned == Rows.decSumsRow.pinnedBy))=true:=by kernel_rfl
theorem Pd:((Rows.decSumsRow.veiled == (f4.params.toList++Rows.decSumsSpec.plain.varTypes prog++f4.resultTypes.toList).any (prog.veiledRec ·)))=true:=by kernel_rfl
theorem Pe:(Rows.decSumsRow.veiledFits prog f4.params.toList (f4.params.toList++Rows.decSumsSpec.plain.varTypes prog++f4.resultTypes.toList))=true:=by kernel_rfl
theorem Oq:joinedFacts prog 4 f4 Rows.decSumsSpec Rows.decSumsRow=true:=by
 unfold joinedFacts;exact (NP (NP (NP (NP (NP (NP (NP (NP (NP (NP (NP (NP (NP (NP (NP (NP (NP (NP (NP (NP (NP (NP (NP (NP (NP (NP (NP (NP (NP (NP (NP Oy NQ) NR) Oz) OA) OB) OC) OD) OE) OG) OH) OI) OJ) OL) OM) OO) OP) OQ) OT) OU) OV) OW) OX) OY) NS) NT) NU) NV) OZ) Pb) Pd) Pe)
theorem Ou:Rows.DecSumsSaid :=
 OpenClaim.holds_of_wide 4 f4 rfl rfl rfl rfl rfl rfl rfl ⟨rfl,rfl,rfl,rfl,rfl⟩ rfl rfl rfl rfl rfl (by kernel_rfl) func4 Oq
  (of_decide_eq_true (by kernel_rfl)) (by unfold Func.isWrapper;first | (rw [if_pos (by decide +kernel)];kernel_rfl) | (rw [if_neg (by decide +kernel)];exact ⟨rfl,rfl⟩))
  (fun os started H enc _=>Oo os started H enc)
theorem Pf:Rows.DecSumsCardSaid :=
 Claim7.holds_tied_plain_at .later [] [.data,.data,.pinned] true (true, "5a3eb988aab4a33965eb6ea46822f7ba40abd1d5151231f2e831e2d8ad74e7c3") true
  Ou (fun _ h=>by cases h) (by kernel_rfl) (fun _ h=>by cases h) decSums_row_tie rfl ⟨rfl,rfl⟩ (by kernel_rfl) rfl
  (fun f fn hf b=>by
   obtain rfl:f=4:=Option.some.inj ((show prog.funcNamed "zermelo/zermelolaw02.DecSums" = some 4 by kernel_rfl).symm.trans hf) |>.symm
   obtain rfl:fn=f4:=(Option.some.inj (func4.symm.trans b)).symm
   exact ⟨by kernel_rfl,fun j t c=>by
    rw [params4] at c
    have d:t ∈ [27,27]:=by simpa using Array.mem_of_getElem? c
    have a:([27,27].all fun u=>!prog.wantsStandIn u)=true:=by kernel_rfl
    exact (show prog.wantsStandIn t=false by simpa using List.all_eq_true.1 a t d)⟩)
  (by kernel_rfl)
#print axioms Pf
end Go.Proofs.YtagjhmodblifbaaGreatDoor
