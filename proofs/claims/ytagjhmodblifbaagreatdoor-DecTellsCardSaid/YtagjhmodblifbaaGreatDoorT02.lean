/- DecTells: Check, Make, Compare and Neg return what the specification returns (any values of at most 60 limbs; any integers of at most 310 limbs) -/
import Derived.Test.YtagjhmodblifbaaGreatDoorMA
import Derived.Test.YtagjhmodblifbaaGreatDoorProg
import Derived.Below
import Derived.Test.YtagjhmodblifbaaGreatDoorT00
import Derived.Test.YtagjhmodblifbaaGreatDoorT01
import Derived.WalkKit
import Derived.RangeFuncNested
import Derived.RangeFuncBound
import Derived.RangeFuncCalls
import Derived.RangeFuncLeaves
import Derived.Shelf.Abstract
import Derived.Shelf.RegionOpen
import Derived.OwnWalkIn
import Derived.TacticsInMore
import Derived.LoopNIn
import Derived.LoopIn
import Derived.Outline
import Derived.WalkLawsBesides
import Derived.WalkSpells
import Derived.Lib.Hide
import Derived.Maps.AppendAt
import Derived.Handy
import Derived.Deep.QuietTactic
import Derived.BigQuiet
import Derived.OrdersIn
import Derived.StillTailTactics
import Derived.Shelf.Strings.Builder1
import Derived.Shelf.Strings.Builder2
import Derived.Shelf.Strings.Trim
import Derived.Shelf.Small.Utf8
import Derived.Shelf.Small.Bits
import Derived.Shelf.Small.Strs
import Derived.Shelf.Small.Wraps
import Derived.Shelf.Strings.BuilderF
import Derived.Shelf.Strconv.Itoa0
import Derived.Shelf.Strings.Search1
import Derived.Shelf.Strings.Prefix
import Derived.Shelf.Bits.Mul64
import Derived.Shelf.Strings.Repeat
import Derived.Ground.Names2Prog
import Derived.Shelf.Slices.SearchI
import Derived.Laws.EntriesVeiled
import Derived.Deep.RegionHeld3
import Derived.Recover
import Derived.LoopN
import Derived.Lib.ItoaNum
import Derived.Laws.CopyOwn
import Derived.Deep.CutRange
import Derived.RegionTactic
import Derived.BigRegion
import Derived.ChangeAlike
import Derived.Laws.OwnMore
import Derived.IntWalk
import Derived.Deep.DeepFit
import Derived.Lib.IndexBytes
import Derived.Deep.LoopGhost
import Derived.Deep.MidRow
import Derived.Test.YtagjhmodblifbaaGreatDoorTie
import Derived.Test.YtagjhmodblifbaaGreatDoorRows
import Derived.SevenTiedAt
import Derived.Test.YtagjhmodblifbaaGreatDoorCards
import Derived.Carry
import Derived.Test.YtagjhmodblifbaaGreatDoorB00
import Derived.Test.YtagjhmodblifbaaGreatDoorB01
import Derived.Test.YtagjhmodblifbaaGreatDoorB02
import Derived.Test.YtagjhmodblifbaaGreatDoorB03
import Derived.Test.YtagjhmodblifbaaGreatDoorB04
import Derived.Test.YtagjhmodblifbaaGreatDoorB05
import Derived.Test.YtagjhmodblifbaaGreatDoorB06
import Derived.Test.YtagjhmodblifbaaGreatDoorB07
import Derived.Test.YtagjhmodblifbaaGreatDoorB08
import Derived.Test.YtagjhmodblifbaaGreatDoorB09
import Derived.Test.YtagjhmodblifbaaGreatDoorB10
import Derived.Test.YtagjhmodblifbaaGreatDoorB11
import Derived.Test.YtagjhmodblifbaaGreatDoorB12
import Derived.Test.YtagjhmodblifbaaGreatDoorB13
import Derived.Test.YtagjhmodblifbaaGreatDoorB14
import Derived.Test.YtagjhmodblifbaaGreatDoorB15
import Derived.Test.YtagjhmodblifbaaGreatDoorB16
import Derived.Test.YtagjhmodblifbaaGreatDoorB17
import Derived.Test.YtagjhmodblifbaaGreatDoorB18
import Derived.Test.YtagjhmodblifbaaGreatDoorB19
import Derived.Test.YtagjhmodblifbaaGreatDoorB20
import Derived.Test.YtagjhmodblifbaaGreatDoorB21
set_option maxHeartbeats 4000000
set_option maxRecDepth 100000
set_option exponentiation.threshold 100000
namespace Go.Proofs.YtagjhmodblifbaaGreatDoor
open Go.Proofs.Tryz
open Go Go.RowKit Go.Shelf
theorem PL (H:Value)(i:Int)(p:Nat)(w:World)(h1:dB w H i p) :
 CB 26 #[H] w fun e w'=>∃ k0 n0 g a m c s l I J k,e=.returned (vG k0 n0 g a m c s l I J k)∧dP w' ((-i,p)).1 ((-i,p)).2 k (vV k0 n0 g a m c s l I J):=by
 have E:=fun X (t:bW w X)=>(h1.below t).is
 have hV:=h1.v;have hp:=h1.hi;have x:=h1.lo;have A:=h1.abs;obtain ⟨n1,L,m1,M,O,N,rfl,B⟩:=h1.shape
 have F:=fun X (t:bW w X)=>Pf _ i X (B.below t)
 have Z:(-i).natAbs<aj^40:=by rw [JU];exact A
 obtain ⟨W0,D,z,y,G⟩:=yP w 27 (lV 3 p n1 L m1 M ⟨#[]⟩ O 0 N) 41 (lG 0 0 false none 0 0 ⟨#[]⟩ none 0 0 0);have n:=fC (R:=ni _) (ax y aS) ⟨_,_,_,_,_,_,_,_,_,_,_,G⟩ z
 have r:=yO n fun X h=>(nk h.r0:)
 obtain ⟨Q,S,T,U,V,Y⟩:=aD y;clear h1 x z G hp A y;go_enter func26,ntmps26
 go_upto_region 1 with (fail)
 rw [D.out];clear D
 go_upto_region 3 with (go_at_call 20;with_reducible refine (E _ n.below).mono ?_;rintro e w1 ⟨u,rfl⟩;have q:=ag ni.step n u)
 clear E Q S T U V Y
 go_wp2_with fail
 refine bB r (bY ni.drew q) fun X0 b=>?_
 refine tk 0 b ?_;refine tk 1 b ?_;refine tk 2 b ?_;refine tk 3 b ?_
 refine rd 4 fun j d=>?_
 have hP:=b.2
 go_wp2_with (go_at_call 65;refine (F _ hP.below).mono ?_;rintro e wk ⟨f,v5,rfl,C⟩)
 obtain ⟨g,a,m,c,rfl⟩:=C.shape
 refine aT d r (ag ni.step hP f) fun b=>?_
 clear d j hP f;refine tk 5 b ?_;refine tk 6 b ?_
 refine rd 7 fun j d=>?_
 have hP:=b.2;obtain ⟨z0,z1,z2,z3,aI,aJ,z4,z5,aN,aO,z6,hr,y0,y1,y2,y3,y4,y5,y6,f0,f1,f2,f3,f4,f5,f6⟩:=hP.res.cells;clear F B hV
 go_wp2_with fail
 refine aT d r (uS hP (aZ (by omega) dV) (by omega) 3 (p:Int) g a m c ⟨#[]⟩ none 0 0 0) fun b=>?_
 clear d j;obtain ⟨u0,u1,u2,u3,u4,u5,u6⟩:=wO hr (vI 3) (vI p) (.bool g) (.slice a m c) vE vZ (vI 0);refine wpAnyH_done (by kernel_rfl) ?_ _;have hb:=b.2.below;have o:=PW (p:=p) (C.keep (nP hr (vI 3) (vI p) (.bool g) (.slice a m c) vE vZ (vI 0))) Z;clear b hr hP
 go_wp2_with fail
 exact bodyPost_ret (v:=vG 3 p g a m c ⟨#[]⟩ none 0 0 0) (by simp [results,results26,go_sem,loadCellsFrom,u0,u1,u2,u3,u4,u5,u6]) rfl ⟨hb,_,_,_,_,_,_,_,_,_,_,_,rfl,o⟩
theorem PR (i:Value)(w:World)(h1:mJ w i) :
 CB 26 #[i] w fun e _=>e=.returned (vG 0 0 false none 0 0 ⟨#[]⟩ none 0 0 2):=by
 have r:=fun X (o:bW w X)=>(h1.below o).is
 obtain ⟨q,t,n,j,m1,k,u,m,s,l,rfl⟩:=h1.shape;obtain ⟨E,g,c,b,h⟩:=yP w 27 (lV q t n j m1 k u m s l) 41 (lG 0 0 false none 0 0 ⟨#[]⟩ none 0 0 0);have d:=fC (R:=ni _) (ax b aS) ⟨_,_,_,_,_,_,_,_,_,_,_,h⟩ c;obtain ⟨J,L,M,N,O,Q⟩:=aD b;clear h1 c h b;go_enter func26,ntmps26
 go_upto_region 1 with (fail)
 rw [g.out];clear g
 go_wp2_with (go_at_call 20;with_reducible refine (r _ d.below).mono ?_;rintro e w1 ⟨a,rfl⟩;have f:=ag ni.step d a;obtain ⟨z0,z1,z2,z3,F,G,z4,z5,H,I,z6,hr,y0,y1,y2,y3,y4,y5,y6,S,T,U,V,Y,Z,f6⟩:=f.res.cells)
 obtain ⟨x,y,z,A,B,C,D⟩:=wO hr (vI 0) (vI 0) vF vZ vE vZ (vI 2);have p:=(uS f (aZ (by omega) dV) (by omega) 0 0 false none 0 0 ⟨#[]⟩ none 0 0 2).below;exact bodyPost_ret (v:=vG 0 0 false none 0 0 ⟨#[]⟩ none 0 0 2) (by simp [results,results26,go_sem,loadCellsFrom,x,y,z,A,B,C,D]) rfl ⟨p,rfl⟩
structure PO (w:World) (p:Nat) (n:Bool) (a:Option Addr) (m c:Nat) (la:Option Addr) (lc:Nat) (q:Nat) (n':Bool) (a':Option Addr) (m' c':Nat) (lb:Option Addr) (ld:Nat) (X:World):Prop where
 ra:af X w.heap.size 27 (lV 3 p n a m c ⟨#[]⟩ la 0 lc)
 rb:af X (w.heap.size+1) 27 (lV 3 q n' a' m' c' ⟨#[]⟩ lb 0 ld)
 below:bW w X
section
variable {w X X':World} {p q:Nat} {n n':Bool} {a a' la lb:Option Addr} {m c m' c' lc ld:Nat}
theorem Py (h:PO w p n a m c la lc q n' a' m' c' lb ld X):X.cell? ⟨w.heap.size,0,none⟩=some (vI 3)∧X.cell? ⟨w.heap.size,1,none⟩=some (vI p)∧X.cell? ⟨w.heap.size,2,none⟩=some (.bool n)∧X.cell? ⟨w.heap.size,3,none⟩=some (.slice a m c)∧X.cell? ⟨w.heap.size,4,none⟩=some vE∧X.cell? ⟨w.heap.size,5,none⟩=some (.slice la 0 lc)∧X.cell? ⟨w.heap.size+1,0,none⟩=some (vI 3)∧X.cell? ⟨w.heap.size+1,1,none⟩=some (vI q)∧X.cell? ⟨w.heap.size+1,2,none⟩=some (.bool n')∧X.cell? ⟨w.heap.size+1,3,none⟩=some (.slice a' m' c')∧X.cell? ⟨w.heap.size+1,4,none⟩=some vE∧X.cell? ⟨w.heap.size+1,5,none⟩=some (.slice lb 0 ld)∧PO w p n a m c la lc q n' a' m' c' lb ld X:=⟨h.ra.cell 0,h.ra.cell 1,h.ra.cell 2,h.ra.cell 3,h.ra.cell 4,h.ra.cell 5,h.rb.cell 0,h.rb.cell 1,h.rb.cell 2,h.rb.cell 3,h.rb.cell 4,h.rb.cell 5,h⟩
theorem PS (h:PO w p n a m c la lc q n' a' m' c' lb ld X)(b:bW X X'):PO w p n a m c la lc q n' a' m' c' lb ld X':=⟨h.ra.below b,h.rb.below b,h.below.trans (b.mono h.below.size)⟩
theorem PT (h:PO w p n a m c la lc q n' a' m' c' lb ld X):PO w p n a m c la lc q n' a' m' c' lb ld X.drew:=⟨h.ra,h.rb,h.below.drew⟩
end
theorem Oa (U V:Value)(i:Int)(p:Nat)(j:Int)(q:Nat)(w:World)(h:dX w U i p)(h':dX w V j q)(E:p≤20)(F:q≤20)(hi:i.natAbs<aj^80000)(D:j.natAbs<aj^80000) :
 CB 27 #[U,V] w fun e _=>e=.returned (vI (dS (i*((10^(20 - p):Nat):Int)) (j*((10^(20 - q):Nat):Int)))):=by
 obtain ⟨n,a,m,c,la,lc,rfl,N⟩:=h;obtain ⟨r,b,o,d,lb,l,rfl,u⟩:=h';have B:=dJ w (.cells #[vI 3,vI p,.bool n,.slice a m c,vE,.slice la 0 lc] 27);have J:=B.alloc B.size (.cells #[vI 3,vI q,.bool r,.slice b o d,vE,.slice lb 0 l] 27);have S:=(af.new w 27 (lV 3 p n a m c ⟨#[]⟩ la 0 lc)).alloc (.cells #[vI 3,vI q,.bool r,.slice b o d,vE,.slice lb 0 l] 27)
 have I:=af.new (w.alloc (.cells #[vI 3,vI p,.bool n,.slice a m c,vE,.slice la 0 lc] 27)) 27 (lV 3 q r b o d ⟨#[]⟩ lb 0 l);simp only [Qh] at I;generalize O:(w.alloc (.cells #[vI 3,vI p,.bool n,.slice a m c,vE,.slice la 0 lc] 27)).alloc (.cells #[vI 3,vI q,.bool r,.slice b o d,vE,.slice lb 0 l] 27)=W0 at *;have Z:=Qa O
 have C:PO w p n a m c la lc q r b o d lb l W0:=⟨S,I,J⟩
 have hD:=Qa (Py (PT C))
 have g:∀ (x:Int) (k:Nat),x.natAbs<aj^80000→k≤20→(x*((10^(20 - k):Nat):Int)).natAbs<aj^80400:=fun x k A hk=>by
  rw [Zl,show 80400=80000+400 from rfl,Qt];exact Ye A (OL _ (by omega))
 have Q:=fun X (z:PO w p n a m c la lc q r b o d lb l X)=>xe (vV 3 p n a m c ⟨#[]⟩ la 0 lc) i p X ⟨n,a,m,c,la,lc,rfl,N.below z.below⟩ E hi
 have R:=fun X (z:PO w p n a m c la lc q r b o d lb l X)=>xe (vV 3 q r b o d ⟨#[]⟩ lb 0 l) j q X ⟨r,b,o,d,lb,l,rfl,u.below z.below⟩ F D
 have L:=g i p hi E;have M:=g j q D F
 obtain ⟨x,A⟩:∃ x,i*((10^(20 - p):Nat):Int)=x:=⟨_,rfl⟩
 obtain ⟨y,H⟩:∃ y,j*((10^(20 - q):Nat):Int)=y:=⟨_,rfl⟩
 rw [A] at Q L;rw [H] at R M;rw [A,H]
 have kC:=fun X v T (hv:ak X v x) (G:ak X T y)=>OM v T x y X hv G 80400 (by decide) L M
 obtain ⟨d0,d1,d2,d3,d4,d5,f0,f1,f2,f3,f4,f5,-⟩:=Py C;clear g hi D E F B J S I O C A H N u;go_enter func27,ntmps27
 go_upto_region 1 with (fail)
 rw [Z.out]
 go_region_held3 (fun X=>X.cell? ⟨w.heap.size,0,none⟩=some (vI 3)∧X.cell? ⟨w.heap.size,1,none⟩=some (vI p)∧X.cell? ⟨w.heap.size,2,none⟩=some (.bool n)∧X.cell? ⟨w.heap.size,3,none⟩=some (.slice a m c)∧X.cell? ⟨w.heap.size,4,none⟩=some vE∧X.cell? ⟨w.heap.size,5,none⟩=some (.slice la 0 lc)∧X.cell? ⟨w.heap.size+1,0,none⟩=some (vI 3)∧X.cell? ⟨w.heap.size+1,1,none⟩=some (vI q)∧X.cell? ⟨w.heap.size+1,2,none⟩=some (.bool r)∧X.cell? ⟨w.heap.size+1,3,none⟩=some (.slice b o d)∧X.cell? ⟨w.heap.size+1,4,none⟩=some vE∧X.cell? ⟨w.heap.size+1,5,none⟩=some (.slice lb 0 l)∧PO w p n a m c la lc q r b o d lb l X)
  (first | with_reducible exact hD.out | (go_split_ands;with_reducible exact Py (PS (by assumption) f)))
  (first
   | (go_at_call 92;go_split_ands;with_reducible refine (Q _ (by assumption)).mono ?_;rintro e Y ⟨f,v5,rfl,s⟩;(first | (replace t:=t.below f) | skip))
   | (go_at_call 92;go_split_ands;with_reducible refine (R _ (by assumption)).mono ?_;rintro e Y ⟨f,v6,rfl,t⟩;(first | (replace s:=s.below f) | skip))
   | (go_at_call 68;go_split_ands;with_reducible refine (kC _ _ _ s t).mono ?_;rintro e Y ⟨f,rfl⟩))
 all_goals
  rename_i z;obtain ⟨-,-,-,-,-,-,-,-,-,-,-,-,O1⟩:=z;go_wp2;go_ret;exact ⟨O1.below,rfl⟩
def Rc (X:World)(b:Nat)(K:Int)(x:Int × Nat)(k:Int):Prop:=∃ z0 z1 z2 z3 aI aJ z4 z5 aN aO,af X b 27 (lV z0 z1 z2 z3 aI aJ z4 z5 aN aO)∧dG X K x k (vV z0 z1 z2 z3 aI aJ z4 z5 aN aO)
def Pp (X:World)(b:Nat)(f:Bool)(i pl k:Int):Prop:=∃ z0 z1 z2 z3 aI aJ z4 z5 aN aO,af X b 27 (lV z0 z1 z2 z3 aI aJ z4 z5 aN aO)∧rH X f i pl k (vV z0 z1 z2 z3 aI aJ z4 z5 aN aO)
theorem Pp.below {X a:World}{b:Nat}{f:Bool}{i d:Int}{k:Int}(h:Pp X b f i d k)(c:bW X a):Pp a b f i d k:=by
 obtain ⟨o,p,q,r,g,j,s,t,l,m,h1,n⟩:=h;exact ⟨o,p,q,r,g,j,s,t,l,m,h1.below c,n.below c⟩
theorem PN (d:Value)(b:Option (Int × Nat))(w:World)(h1:Fm w d b) :
 CB 26 #[d] w fun e n=>∃ k0 n0 g a m c s l h j k,e=.returned (vG k0 n0 g a m c s l h j k)∧dG n (vg (fun _=>0) b) (BB za b) k (vV k0 n0 g a m c s l h j):=by
 cases b with
 | none =>
  refine (PR d w h1).mono ?_;rintro e o ⟨f,rfl⟩;exact ⟨f,_,_,_,_,_,_,_,_,_,_,_,rfl,jX (k0:=2) (by decide)⟩
 | some x =>
  obtain ⟨i,p⟩:=x;refine (PL d i p w h1).mono ?_;rintro e o ⟨f,k0,n0,g,a,m,c,s,l,h,j,k,rfl,hf⟩;exact ⟨f,_,_,_,_,_,_,_,_,_,_,_,rfl,lQ hf⟩
theorem Pb (a b c:Int)(d:0<c):dS (a*c) (b*c)=dS a b:=pW (Int.mul_lt_mul_right d) (Int.mul_lt_mul_right d)
theorem PU (x y:Int × Nat)(c:x.2≤20)(d:y.2≤20):dS (x.1*((10^(20 - x.2):Nat):Int)) (y.1*((10^(20 - y.2):Nat):Int))=cmpL x y:=by
 unfold cmpL
 have a:20 - x.2=(max x.2 y.2 - x.2)+(20 - max x.2 y.2):=by omega
 have b:20 - y.2=(max x.2 y.2 - y.2)+(20 - max x.2 y.2):=by omega
 rw [a,b,Qt,Qt,Jy,Jy,← Yc,← Yc];exact Pb _ _ _ (by have:=Qq (n:=20 - max x.2 y.2) (show 0<10 by decide);omega)
theorem OU (va vb vn:Value)(I f2:Option (Int × Nat))(neg:Bool)(xs:List Nat)(pl:Int)(w:World)(h1:Fm w va I)(h2:Fm w vb f2)(h3:dx w vn neg xs)(hT:gU w) :
 CB 3 #[va,vb,vn,vI pl] w fun e _=>e=.returned (.bool true):=by
 obtain ⟨D,F,z,r,m1,s,f,u,n,t,rfl⟩:=h1.kY;obtain ⟨E,n2,A,a2,m2,c2,g,gm,o,gp,rfl⟩:=h2.kY;have bs:=h3;obtain ⟨cv,rfl,bn,-⟩:=bs;obtain ⟨a3,c3,rfl,-,-⟩:=bn.form;clear bn;obtain ⟨W0,hW,b0,q1,q2,L⟩:=MJ w 27 (lV D F z r m1 s f u n t) 27 (lV E n2 A a2 m2 c2 g gm o gp) 24 (lN neg a3 xs.length c3)
 have kL:=fun X:World=>PX X.heap.size (X.alloc (.cells #[vI D,vI F,.bool z,.slice r m1 s,.string f,.slice u n t,vI E,vI n2,.bool A,.slice a2 m2 c2,.string g,.slice gm o gp] 27)) (af.new X 27 [vI D,vI F,.bool z,.slice r m1 s,.string f,.slice u n t,vI E,vI n2,.bool A,.slice a2 m2 c2,.string g,.slice gm o gp])
 have kF:=fun X:World=>Rb 310 X.heap.size (X.alloc (.cells #[.bool neg,.slice a3 xs.length c3] 24)) (af.new X 24 (lN neg a3 xs.length c3))
 have kS:=fun X (hX:bW w X)=>NB X (hT.below hX)
 generalize hB:(eU m1 n f&&eU m2 o g)=B at kL;clear hB;generalize hC:decide ((xs.length:Int)≤310)=C at kF;clear hC;go_enter func3,ntmps3
 go_upto_region 1 with (fail)
 rw [hW.out];clear hW
 cases B with
 | false =>
  go_wp2_with (first | (go_at_call 17;refine (kL _).mono ?_;rintro e w9 ⟨rfl,rfl⟩) | (go_at_call 18;with_reducible refine G.mono ?_;rintro e w9 ⟨rfl,rfl⟩) | (go_at_call 16;refine (kS _ b0).mono ?_;rintro e w1 ⟨a,rfl⟩;have r1:=q1.below a;have r2:=q2.below a;have r3:=L.below a;obtain ⟨am,an,ao,ap,aq,ar⟩:=aD r1;obtain ⟨av,aw,ay,az,b2,b3⟩:=aD r2;obtain ⟨b4,b5⟩:=aQ r3;have b1:=b0.trans (a.mono b0.size);have bl:=b1.alloc b1.size (.cells #[vI D,vI F,.bool z,.slice r m1 s,.string f,.slice u n t,vI E,vI n2,.bool A,.slice a2 m2 c2,.string g,.slice gm o gp] 27);have g3:=r3.alloc (.cells #[vI D,vI F,.bool z,.slice r m1 s,.string f,.slice u n t,vI E,vI n2,.bool A,.slice a2 m2 c2,.string g,.slice gm o gp] 27);obtain ⟨b6,b7⟩:=aQ g3;have bf:=bl.alloc bl.size (.cells #[.bool neg,.slice a3 xs.length c3] 24);have G:=kF (w1.alloc (.cells #[vI D,vI F,.bool z,.slice r m1 s,.string f,.slice u n t,vI E,vI n2,.bool A,.slice a2 m2 c2,.string g,.slice gm o gp] 27));rw [Qh] at G))
  go_ret;exact ⟨bl,rfl⟩
 | true =>
  cases C with
  | false =>
   go_wp2_with (first | (go_at_call 17;refine (kL _).mono ?_;rintro e w9 ⟨rfl,rfl⟩) | (go_at_call 18;with_reducible refine G.mono ?_;rintro e w9 ⟨rfl,rfl⟩) | (go_at_call 16;refine (kS _ b0).mono ?_;rintro e w1 ⟨a,rfl⟩;have r1:=q1.below a;have r2:=q2.below a;have r3:=L.below a;obtain ⟨am,an,ao,ap,aq,ar⟩:=aD r1;obtain ⟨av,aw,ay,az,b2,b3⟩:=aD r2;obtain ⟨b4,b5⟩:=aQ r3;have b1:=b0.trans (a.mono b0.size);have bl:=b1.alloc b1.size (.cells #[vI D,vI F,.bool z,.slice r m1 s,.string f,.slice u n t,vI E,vI n2,.bool A,.slice a2 m2 c2,.string g,.slice gm o gp] 27);have g3:=r3.alloc (.cells #[vI D,vI F,.bool z,.slice r m1 s,.string f,.slice u n t,vI E,vI n2,.bool A,.slice a2 m2 c2,.string g,.slice gm o gp] 27);obtain ⟨b6,b7⟩:=aQ g3;have bf:=bl.alloc bl.size (.cells #[.bool neg,.slice a3 xs.length c3] 24);have G:=kF (w1.alloc (.cells #[vI D,vI F,.bool z,.slice r m1 s,.string f,.slice u n t,vI E,vI n2,.bool A,.slice a2 m2 c2,.string g,.slice gm o gp] 27));rw [Qh] at G))
   go_ret;exact ⟨bf,rfl⟩
  | true =>
   go_upto_region 4 with (first | (go_at_call 17;refine (kL _).mono ?_;rintro e w9 ⟨rfl,rfl⟩) | (go_at_call 18;with_reducible refine G.mono ?_;rintro e w9 ⟨rfl,rfl⟩) | (go_at_call 16;refine (kS _ b0).mono ?_;rintro e w1 ⟨a,rfl⟩;have r1:=q1.below a;have r2:=q2.below a;have r3:=L.below a;obtain ⟨am,an,ao,ap,aq,ar⟩:=aD r1;obtain ⟨av,aw,ay,az,b2,b3⟩:=aD r2;obtain ⟨b4,b5⟩:=aQ r3;have b1:=b0.trans (a.mono b0.size);have bl:=b1.alloc b1.size (.cells #[vI D,vI F,.bool z,.slice r m1 s,.string f,.slice u n t,vI E,vI n2,.bool A,.slice a2 m2 c2,.string g,.slice gm o gp] 27);have g3:=r3.alloc (.cells #[vI D,vI F,.bool z,.slice r m1 s,.string f,.slice u n t,vI E,vI n2,.bool A,.slice a2 m2 c2,.string g,.slice gm o gp] 27);obtain ⟨b6,b7⟩:=aQ g3;have bf:=bl.alloc bl.size (.cells #[.bool neg,.slice a3 xs.length c3] 24);have G:=kF (w1.alloc (.cells #[vI D,vI F,.bool z,.slice r m1 s,.string f,.slice u n t,vI E,vI n2,.bool A,.slice a2 m2 c2,.string g,.slice gm o gp] 27));rw [Qh] at G))
   replace r1:=(r1.alloc (.cells #[vI D,vI F,.bool z,.slice r m1 s,.string f,.slice u n t,vI E,vI n2,.bool A,.slice a2 m2 c2,.string g,.slice gm o gp] 27)).alloc (.cells #[.bool neg,.slice a3 xs.length c3] 24)
   replace r2:=(r2.alloc (.cells #[vI D,vI F,.bool z,.slice r m1 s,.string f,.slice u n t,vI E,vI n2,.bool A,.slice a2 m2 c2,.string g,.slice gm o gp] 27)).alloc (.cells #[.bool neg,.slice a3 xs.length c3] 24)
   replace r3:=(r3.alloc (.cells #[vI D,vI F,.bool z,.slice r m1 s,.string f,.slice u n t,vI E,vI n2,.bool A,.slice a2 m2 c2,.string g,.slice gm o gp] 27)).alloc (.cells #[.bool neg,.slice a3 xs.length c3] 24);have b:=bf;clear q1 q2 L b0 b1 bl bf a kL kF G kS g3 b6 b7 am an ao ap aq ar av aw ay az b2 b3 b4 b5
   go_cut [10] from 30 to 31 (fun bh W=>bh=vI (vg (fun _=>0) I)∧af W (w.heap.size) 27 (lV D F z r m1 s f u n t)∧af W (w.heap.size+1) 27 (lV E n2 A a2 m2 c2 g gm o gp)∧af W (w.heap.size+1+1) 24 (lN neg a3 xs.length c3)∧bW w W)
   case first =>
    obtain ⟨H,M,N,O,Q,S⟩:=aD r1;obtain ⟨T,U,V,Y,Z,a4⟩:=aD r2;obtain ⟨ab,ad⟩:=aQ r3;have k9:=(h1.below b).check
    go_wp2_with (go_at_call 19;refine k9.mono ?_;rintro e w1 ⟨a,rfl⟩)
    go_meet
    exact ⟨rfl,r1.below a,r2.below a,r3.below a,b.trans (a.mono b.size)⟩
   case rest =>
    clear b r1 r2 r3;obtain ⟨rfl,r1,r2,r3,b⟩:=hcut
    go_upto_region 5 with (fail)
    obtain ⟨B1,a5⟩:∃ B1,I.isSome=B1:=⟨_,rfl⟩
    have bk:(vg (fun _=>0) I)=if B1=true then 0 else 2:=by rw [← a5];cases I <;> rfl
    obtain ⟨H,M,N,O,Q,S⟩:=aD r1;obtain ⟨T,U,V,Y,Z,a4⟩:=aD r2;obtain ⟨ab,ad⟩:=aQ r3
    have kI:=fun X (hX:bW w X)=>(h1.below hX).is
    rw [a5] at kI;rw [bk];clear bk;have ah:=Qa (And.intro r1 (And.intro r2 (And.intro r3 b)))
    go_cut [10,46] from 32 to 46 (fun bh cf W=>∃ bo:Int,bh=vI bo∧cf=vF∧af W (w.heap.size) 27 (lV D F z r m1 s f u n t)∧af W (w.heap.size+1) 27 (lV E n2 A a2 m2 c2 g gm o gp)∧af W (w.heap.size+1+1) 24 (lN neg a3 xs.length c3)∧bW w W)
    case first =>
     cases B1 with
     | false =>
      go_wp2_with (first | (go_at_call 20;refine (kI _ c).mono ?_;rintro e w2 ⟨d,rfl⟩;have a6:=c.trans (d.mono c.size);have u1:=f.below d;have u2:=g.below d;have u3:=s3.below d;clear c) | (go_at_call 20;refine (kI _ b).mono ?_;rintro e w1 ⟨a,rfl⟩;have c:=b.trans (a.mono b.size);have f:=r1.below a;have g:=r2.below a;have s3:=r3.below a;obtain ⟨ba,bb,bc,bd,be,bg⟩:=aD f;clear b))
      go_meet
      exact ⟨_,rfl,rfl,u1,u2,u3,a6⟩
     | true =>
      go_wp2_with (first | (go_at_call 20;refine (kI _ c).mono ?_;rintro e w2 ⟨d,rfl⟩;have a6:=c.trans (d.mono c.size);have u1:=f.below d;have u2:=g.below d;have u3:=s3.below d;clear c) | (go_at_call 20;refine (kI _ b).mono ?_;rintro e w1 ⟨a,rfl⟩;have c:=b.trans (a.mono b.size);have f:=r1.below a;have g:=r2.below a;have s3:=r3.below a;obtain ⟨ba,bb,bc,bd,be,bg⟩:=aD f;clear b))
      go_meet
      exact ⟨_,rfl,rfl,u1,u2,u3,a6⟩
    case rest =>
     clear b r1 r2 r3 ah kI H M N O Q S T U V Y Z a4 ab ad;obtain ⟨bo,rfl,rfl,r1,r2,r3,b⟩:=hcut
     go_upto_region 7 with (fail)
     go_cut [11,12] from 47 to 52 (fun c9 ca W=>∃ a7,∃ aa:Int,c9=vP a7∧ca=vI aa∧Pp W a7 (au neg xs) (bX neg (val xs)) pl aa∧af W (w.heap.size) 27 (lV D F z r m1 s f u n t)∧af W (w.heap.size+1) 27 (lV E n2 A a2 m2 c2 g gm o gp)∧af W (w.heap.size+1+1) 24 (lN neg a3 xs.length c3)∧bW w W)
     case first =>
      obtain ⟨H,M,N,O,Q,S⟩:=aD r1;obtain ⟨T,U,V,Y,Z,a4⟩:=aD r2;obtain ⟨ab,ad⟩:=aQ r3;have k9:=Pt _ neg xs pl _ (h3.below b)
      go_wp2_with (go_at_call 21;refine k9.mono ?_;rintro e w1 ⟨a,z0,z1,z2,z3,aI,aJ,z4,z5,aN,aO,k,rfl,hR⟩;have r5:=af.new w1 27 (lV 0 0 false none 0 0 ⟨#[]⟩ none 0 0);obtain ⟨y0,y1,y2,y3,y4,y5,f0,I,f2,f3,f4,f5⟩:=df r5)
      go_meet
      have o1:=dJ w1 (.cells #[vI z0,vI z1,.bool z2,.slice z3 aI aJ,.string z4,.slice z5 aN aO] 27);have L:=a.trans (o1.mono a.size);exact ⟨_,k,rfl,rfl,⟨_,_,_,_,_,_,_,_,_,_,af.new w1 27 (lV z0 z1 z2 z3 aI aJ z4 z5 aN aO),hR.below o1⟩,r1.below L,r2.below L,r3.below L,b.trans (L.mono b.size)⟩
     case rest =>
      clear b r1 r2 r3;obtain ⟨a7,aa,rfl,rfl,J,r1,r2,r3,b⟩:=hcut
      go_upto_region 8 with (fail)
      go_cut [13,14] from 53 to 58 (fun cb cc W=>∃ jc jk:Int,cb=vI jc∧cc=vI jk∧Hid (jc=Pe I f2∧jk=(qE (fun _ _=>0) I f2))∧Pp W a7 (au neg xs) (bX neg (val xs)) pl aa∧af W (w.heap.size) 27 (lV D F z r m1 s f u n t)∧af W (w.heap.size+1) 27 (lV E n2 A a2 m2 c2 g gm o gp)∧af W (w.heap.size+1+1) 24 (lN neg a3 xs.length c3)∧bW w W)
      case first =>
       obtain ⟨H,M,N,O,Q,S⟩:=aD r1;obtain ⟨T,U,V,Y,Z,a4⟩:=aD r2;obtain ⟨ab,ad⟩:=aQ r3;have k9:=OT _ _ I f2 _ (h1.below b) (h2.below b)
       go_wp2_with (go_at_call 22;refine k9.mono ?_;rintro e w1 ⟨a,rfl⟩)
       go_meet
       exact ⟨_,_,rfl,rfl,Qa ⟨rfl,rfl⟩,J.below a,r1.below a,r2.below a,r3.below a,b.trans (a.mono b.size)⟩
      case rest =>
       clear b J r1 r2 r3;obtain ⟨jc,jk,rfl,rfl,bm,J,r1,r2,r3,b⟩:=hcut
       go_upto_region 9 with (fail)
       go_cut [15,16] from 59 to 63 (fun cd ce W=>∃ al,∃ b9:Int,cd=vP al∧ce=vI b9∧Rc W al (vg (fun _=>0) I) (BB za I) b9∧Pp W a7 (au neg xs) (bX neg (val xs)) pl aa∧af W (w.heap.size) 27 (lV D F z r m1 s f u n t)∧af W (w.heap.size+1) 27 (lV E n2 A a2 m2 c2 g gm o gp)∧af W (w.heap.size+1+1) 24 (lN neg a3 xs.length c3)∧bW w W)
       case first =>
        obtain ⟨H,M,N,O,Q,S⟩:=aD r1;obtain ⟨T,U,V,Y,Z,a4⟩:=aD r2;obtain ⟨ab,ad⟩:=aQ r3;have k9:=PK _ I _ (h1.below b)
        go_wp2_with (go_at_call 23;refine k9.mono ?_;rintro e w1 ⟨a,z0,z1,z2,z3,aI,aJ,z4,z5,aN,aO,k,rfl,hR⟩;have r5:=af.new w1 27 (lV 0 0 false none 0 0 ⟨#[]⟩ none 0 0);obtain ⟨y0,y1,y2,y3,y4,y5,f0,I,f2,f3,f4,f5⟩:=df r5)
        go_meet
        have o1:=dJ w1 (.cells #[vI z0,vI z1,.bool z2,.slice z3 aI aJ,.string z4,.slice z5 aN aO] 27);have L:=a.trans (o1.mono a.size);exact ⟨_,k,rfl,rfl,⟨_,_,_,_,_,_,_,_,_,_,af.new w1 27 (lV z0 z1 z2 z3 aI aJ z4 z5 aN aO),hR.below o1⟩,J.below L,r1.below L,r2.below L,r3.below L,b.trans (L.mono b.size)⟩
       case rest =>
        clear b J r1 r2 r3;obtain ⟨al,b9,rfl,rfl,bp,J,r1,r2,r3,b⟩:=hcut
        go_upto_region 10 with (fail)
        obtain ⟨co,cp,cq,cr,c7,bz,cs,ct,c8,c4,bj,br⟩:=bp;obtain ⟨ci,cj,ck,cl,c5,bw,cm,cn,c6,bx,bi,bq⟩:=J;have dH:=fC (R:=dR) (ax bj (ax bi (ax r1 (ax r2 (ax r3 aS))))) trivial b
        have hS:=yO dH fun X h=>(ik h.r0 (ik h.r1 (ik h.r2 (ik h.r3 (aQ h.r4)))):)
        clear bj bi r1 r2 r3 b hT
        go_cut [78] from 64 to 78 (fun cg W=>cg=vF∧af W (w.heap.size) 27 (lV D F z r m1 s f u n t)∧af W (w.heap.size+1) 27 (lV E n2 A a2 m2 c2 g gm o gp)∧bW w W)
        case first =>
         go_wp2_with fail
         refine bB hS (bY dR.drew dH) fun X0 m=>?_
         refine tk 0 m ?_;refine tk 1 m ?_;refine tk 2 m ?_;refine tk 3 m ?_
         refine rd 4 fun K9 ai=>?_
         have hP:=m.2
         go_wp2_with (go_at_call 25;refine (Gy _ neg xs pl _ (h3.below hP.below)).mono ?_;rintro e wk ⟨l,k0,n0,g0,a0,m0,c0,s0,bu,l0,bv,kk,rfl,hG⟩)
         refine aT ai hS (ag dR.step hP l) fun m=>?_
         clear ai K9 hP l
         refine rd 5 fun K9 ai=>?_
         have hP:=m.2
         go_wp2_with (go_at_call 24;refine (OW _ _ _ _ _ _ _ _ _ _ _ _ _ _ _ _ _ _ _ _ _ _ _ (Pw (bq.keep hP.more) hG)).mono ?_;rintro e wk ⟨l,rfl⟩)
         replace hG:=hG.below l
         refine aT ai hS (ag dR.step hP l) fun m=>?_
         clear ai K9 hP l;refine tk 6 m ?_;refine tk 7 m ?_;refine tk 8 m ?_;refine tk 9 m ?_;refine tk 10 m ?_
         refine rd 11 fun K9 ai=>?_
         have hP:=m.2
         go_wp2_with (go_at_call 26;refine (PN _ I _ (h1.below hP.below)).mono ?_;rintro e wk ⟨l,k0,n0,g0,a0,m0,c0,s0,bu,l0,bv,kk,rfl,hG⟩)
         refine aT ai hS (ag dR.step hP l) fun m=>?_
         clear ai K9 hP l
         refine rd 12 fun K9 ai=>?_
         have hP:=m.2
         go_wp2_with (go_at_call 24;refine (OW _ _ _ _ _ _ _ _ _ _ _ _ _ _ _ _ _ _ _ _ _ _ _ (OV (br.keep hP.more) hG)).mono ?_;rintro e wk ⟨l,rfl⟩)
         replace hG:=hG.below l
         refine aT ai hS (ag dR.step hP l) fun m=>?_
         clear ai K9 hP l;refine tk 13 m ?_;refine tk 14 m ?_;refine wpAnyH_done (by kernel_rfl) ?_ _;have bt:=m.2.below;have z1:=m.2.r2;have z2:=m.2.r3;clear m
         go_wp2_with fail
         go_meet
         exact ⟨rfl,z1,z2,bt⟩
        case rest =>
         obtain ⟨rfl,r1,r2,b⟩:=hcut
         go_upto_region 12 with (fail)
         obtain ⟨B2,b8⟩:∃ B2,f2.isSome=B2:=⟨_,rfl⟩
         go_cut [86] from 79 to 86 (fun ch W=>∃ a8:Bool,ch=.bool a8∧Hid (a8=!(B1&&B2))∧af W (w.heap.size) 27 (lV D F z r m1 s f u n t)∧af W (w.heap.size+1) 27 (lV E n2 A a2 m2 c2 g gm o gp)∧bW w W)
         case first =>
          obtain ⟨H,M,N,O,Q,S⟩:=aD r1;obtain ⟨T,U,V,Y,Z,a4⟩:=aD r2;have kI:=(h1.below b).is;rw [a5] at kI
          have kJ:=fun X (hX:bW w X)=>(h2.below hX).is
          rw [b8] at kJ
          cases B1 with
          | false =>
           go_wp2_with (first | (go_at_call 20;refine kI.mono ?_;rintro e w1 ⟨a,rfl⟩;clear kI;have c:=b.trans (a.mono b.size);have f:=r1.below a;have g:=r2.below a;obtain ⟨ba,bb,bc,bd,be,bg⟩:=aD g) | (go_at_call 20;refine (kJ _ c).mono ?_;rintro e w2 ⟨d,rfl⟩;have u1:=f.below d;have u2:=g.below d;have a6:=c.trans (d.mono c.size)))
           go_meet
           exact ⟨_,rfl,Qa (by simp),f,g,c⟩
          | true =>
           go_wp2_with (first | (go_at_call 20;refine kI.mono ?_;rintro e w1 ⟨a,rfl⟩;clear kI;have c:=b.trans (a.mono b.size);have f:=r1.below a;have g:=r2.below a;obtain ⟨ba,bb,bc,bd,be,bg⟩:=aD g) | (go_at_call 20;refine (kJ _ c).mono ?_;rintro e w2 ⟨d,rfl⟩;have u1:=f.below d;have u2:=g.below d;have a6:=c.trans (d.mono c.size)))
           go_meet
           exact ⟨_,rfl,Qa (by simp),u1,u2,a6⟩
         case rest =>
          obtain ⟨a8,rfl,ak,r1,r2,a9⟩:=hcut
          have aj:(a8=true∧jc=0∧jk=2)∨(a8=false∧∃ x y,I=some x∧f2=some y∧jc=cmpL x y∧jk=0):=by
           obtain ⟨e1,e2⟩:=bm.out;have e3:=ak.out
           cases I with
           | none=>exact .inl ⟨by rw [e3,← a5];rfl,by rw [e1];rfl,by rw [e2];rfl⟩
           | some x =>
            cases f2 with
            | none=>exact .inl ⟨by rw [e3,← a5,← b8];rfl,by rw [e1];rfl,by rw [e2];rfl⟩
            | some y=>exact .inr ⟨by rw [e3,← a5,← b8];rfl,x,y,rfl,rfl,by rw [e1];rfl,by rw [e2];rfl⟩
          clear bm ak
          rcases aj with ⟨rfl,rfl,rfl⟩ | ⟨rfl,⟨i,p⟩,⟨j,q⟩,rfl,rfl,hc,rfl⟩
          ·go_wp2_with fail
           go_ret;exact ⟨a9,rfl⟩
          ·have H:=r1.cell 0
           obtain ⟨M,N,O,Q,S⟩:=Pz r1;obtain ⟨T,U,V,Y,Z,a4⟩:=aD r2;simp only [Qc] at H;have H1:dB _ _ i p:=h1.below a9;have H2:dB _ _ j q:=h2.below a9;have kC:=Oa _ _ i p j q _ H1.v H2.v H1.hi H2.hi (Yt H1.abs (JV (by decide) (by decide))) (Yt H2.abs (JV (by decide) (by decide)));rw [PU (i,p) (j,q) H1.hi H2.hi,← hc] at kC;clear hc H1 H2
           go_wp2_with (go_at_call 27;refine kC.mono ?_;rintro e w1 ⟨a,rfl⟩)
           go_ret;exact ⟨a9.trans (a.mono a9.size),rfl⟩
end Go.Proofs.YtagjhmodblifbaaGreatDoor
namespace Go.Proofs.YtagjhmodblifbaaGreatDoor
open Go.Proofs.Tryz
open Go.ChangeShapes Go.WideShapes Go.ChangeAt Go.RowKit Go.Joins
theorem zb (os:Os)(started:os.Started)(H:Type)(enc:TypeId × Value→H) :
  ReturnsInHanded {} checked os 3 .any (fun w args=>(Rows.decTellsSpec.pre enc prog f3 [] false w args∧laidMetH prog Mt w)∧sizedMet enc prog f3 (OpenSpec.ofChange Rows.decTellsSpec) false w args)
   (Rows.decTellsSpec.post enc prog f3 false true false false):=by
 refine returnsInHanded_of_change_and (C:=checked) (X:=fun w _=>laidMetH prog Mt w) (fun _ _ _ V h=>h.of_heap V) own started (by kernel_rfl) func3
  (ChangeSpec.witness_shaped (enc:=enc) (C:=checked) (os:=os) (X:=fun w _=>laidMetH prog Mt w) false (World.laidAll prog os Mt) #[vV 0 0 false none 0 0 ByteArray.empty none 0 0,vV 0 0 false none 0 0 ByteArray.empty none 0 0,vN false none 0 0,vI 0] 8 (World.laidAll_os _ _ _) (World.shaped_of_ZipB (by kernel_rfl) (by kernel_rfl)) (by kernel_rfl) (by kernel_rfl) (by kernel_rfl) (by rw [MakeChecks.laidMetH_plain _ _ _ (by kernel_rfl)];exact laidMet_laidAll _ (by kernel_rfl) (by kernel_rfl))) ?_
 intro W base args F gs before b A _ _ Q _;have a:∀ (j:Nat) t v,f3.params[j]?=some t→args[j]?=some v→Value.okWide prog W .any base t v:=b;have i:=A;obtain ⟨p,q,d,S,rfl,U,Y⟩:=A;have z:DataW.TrodAll enc prog W 0 (fun _=>true) true f3.params.toList args.toList F p:=d;rw [params3] at z a;obtain ⟨r,a3,d0,G,p0,q0,k,rfl,rfl,h0,r0⟩:=trodAll_cons z
 obtain ⟨s,a4,d1,I,p1,q1,rfl,rfl,rfl,h1,r1⟩:=trodAll_cons r0;obtain ⟨u,a5,d2,J,p2,q2,rfl,rfl,rfl,g,r2⟩:=trodAll_cons r1;obtain ⟨B,a6,d3,L,p3,q3,rfl,rfl,rfl,O,r3⟩:=trodAll_cons r2;obtain ⟨rfl,rfl,rfl⟩:=trodAll_nil r3
 obtain rfl:args=#[r,s,u,B]:=by cases args;simp_all
 obtain ⟨rfl,rfl⟩:=trodVars_none S
 have l:∀ x ∈ p0,x.block<W.heap.size:=by obtain ⟨m,f⟩:=h0;exact DataW.trod_lt m _ _ _ f
 have n:∀ x ∈ p1,x.block<W.heap.size:=by obtain ⟨m,f⟩:=h1;exact DataW.trod_lt m _ _ _ f
 have o:∀ x ∈ p2,x.block<W.heap.size:=by obtain ⟨m,f⟩:=g;exact DataW.trod_lt m _ _ _ f
 obtain ⟨M,D⟩:=NC (a 0 27 r rfl rfl) h0;obtain ⟨N,E⟩:=NC (a 1 27 s rfl rfl) h1;obtain ⟨n2,x2,a2⟩:=PH (a 2 24 u rfl rfl) g;obtain ⟨Z,rfl,rfl,rfl,y⟩:=open_int underlying3 (a 3 3 B rfl rfl) O;have R:=ND Q;clear d b
 refine (OU r s u M N n2 x2 Z W D E a2 R).mono fun e W' ⟨c,T⟩=>?_
 subst T
 exact ⟨_,rfl,_,_,_,[],_,[],i,trodAll_mk1 (shut_bool underlying4 _),(trodAll_cons_mk (Below.trod laidOut (by kernel_rfl) (of_decide_eq_true (by kernel_rfl)) h0 c l) (trodAll_cons_mk (Below.trod laidOut (by kernel_rfl) (of_decide_eq_true (by kernel_rfl)) h1 c n) (trodAll_cons_mk (Below.trod laidOut (by kernel_rfl) (of_decide_eq_true (by kernel_rfl)) g c o) (trodAll_cons_mk (shut_int underlying3 y) trodAll_mk0)))),rfl,c.frame _,fun h=>by cases h⟩
theorem Ob:(Rows.decTellsRow.wf (OpenSpec.ofChange Rows.decTellsSpec))=true:=by kernel_rfl
theorem Oc:(f3.params.all (prog.readableRec ·))=true:=by kernel_rfl
theorem Od:(namedTie prog Rows.decTellsRow.named Rows.decTellsSpec.vars)=true:=by kernel_rfl
theorem Oe:((Rows.decTellsRow.stops == []))=true:=by kernel_rfl
theorem Og:((prog.stops == []))=true:=by kernel_rfl
theorem Oh:((Rows.decTellsRow.knobs == []))=true:=by kernel_rfl
theorem Oi:((prog.stopKnobs == []))=true:=by kernel_rfl
theorem Oj:((Rows.decTellsRow.inPlace == prog.inPlace 3))=true:=by kernel_rfl
theorem Ol:((Rows.decTellsRow.unfollowed == prog.unfollowed 3))=true:=by kernel_rfl
theorem Om:((Rows.decTellsRow.recurses == prog.recurses 3))=true:=by kernel_rfl
theorem Oo:((Rows.decTellsRow.named == prog.varsNamed 3))=true:=by kernel_rfl
theorem Oq:((Rows.decTellsRow.maps == (f3.params.toList++Rows.decTellsSpec.plain.varTypes prog).any (prog.mapsRec ·)))=true:=by kernel_rfl
theorem Ot:((Rows.decTellsRow.ifaces == (f3.params.toList++Rows.decTellsSpec.plain.varTypes prog).any (prog.ifacesRec ·)))=true:=by kernel_rfl
theorem Ou:((Rows.decTellsRow.mapsOut == prog.mapsAmong f3.resultTypes.toList))=true:=by kernel_rfl
theorem Ov:((Rows.decTellsRow.loops == (f3.params.toList++Rows.decTellsSpec.plain.varTypes prog).any (prog.loopsFrom ·)))=true:=by kernel_rfl
theorem Ow:((Rows.decTellsRow.wideKeys == (f3.params.toList++Rows.decTellsSpec.plain.varTypes prog++f3.resultTypes.toList).any (prog.wideKeysFrom ·)))=true:=by kernel_rfl
theorem Ox:(Rows.decTellsSpec.vars.all (prog.varReadable ·))=true:=by kernel_rfl
theorem Oy:(f3.resultTypes.all (fun t=>prog.readableRec t&&decide (t<prog.types.size)))=true:=by kernel_rfl
theorem Oz:((Rows.decTellsRow.ifacesOut == f3.resultTypes.toList.any (prog.ifacesRec ·)))=true:=by kernel_rfl
theorem OA:((Rows.decTellsRow.loopsOut == f3.resultTypes.toList.any (prog.loopsFrom ·)))=true:=by kernel_rfl
theorem OB:((Rows.decTellsRow.plainKeys == prog.plainKeys))=true:=by kernel_rfl
theorem OC:(Rows.decTellsRow.shortTexts.isNone)=true:=by kernel_rfl
theorem OD:((Rows.decTellsRow.kinds == (if Rows.decTellsRow.domain.isEmpty then [] else f3.params.toList.map fun t=>match prog.underlying t with | some (.int k)=>some k | _=>none)))=true:=by kernel_rfl
theorem OE:((Rows.decTellsRow.pinned == Rows.decTellsRow.pinnedBy))=true:=by kernel_rfl
theorem OG:((Rows.decTellsRow.veiled == (f3.params.toList++Rows.decTellsSpec.plain.varTypes prog++f3.resultTypes.toList).any (prog.veiledRec ·)))=true:=by kernel_rfl
theorem OH:(Rows.decTellsRow.veiledFits prog f3.params.toList (f3.params.toList++Rows.decTellsSpec.plain.varTypes prog++f3.resultTypes.toList))=true:=by kernel_rfl
theorem La:joinedFacts prog 3 f3 Rows.decTellsSpec Rows.decTellsRow=true:=by
 unfold joinedFacts;exact (NP (NP (NP (NP (NP (NP (NP (NP (NP (NP (NP (NP (NP (NP (NP (NP (NP (NP (NP (NP (NP (NP (NP (NP (NP (NP (NP (NP (NP (NP (NP Ob NQ) NR) Oc) Od) Oe) Og) Oh) Oi) Oj) Ol) Om) Oo) Oq) Ot) Ou) Ov) Ow) Ox) Oy) Oz) OA) OB) OC) NS) NT) NU) NV) OD) OE) OG) OH)
theorem NZ:Rows.DecTellsSaid :=
 OpenClaim.holds_of_wide 3 f3 rfl rfl rfl rfl rfl rfl rfl ⟨rfl,rfl,rfl,rfl,rfl⟩ rfl rfl rfl rfl rfl (by kernel_rfl) func3 La
  (of_decide_eq_true (by kernel_rfl)) (by unfold Func.isWrapper;first | (rw [if_pos (by decide +kernel)];kernel_rfl) | (rw [if_neg (by decide +kernel)];exact ⟨rfl,rfl⟩))
  (fun os started H enc _=>zb os started H enc)
theorem OI:Rows.DecTellsCardSaid :=
 Claim7.holds_tied_plain_at .later [] [.data,.data,.pinned] true (true, "5a3eb988aab4a33965eb6ea46822f7ba40abd1d5151231f2e831e2d8ad74e7c3") true
  NZ (fun _ h=>by cases h) (by kernel_rfl) (fun _ h=>by cases h) decTells_row_tie rfl ⟨rfl,rfl⟩ (by kernel_rfl) rfl
  (fun f fn hf b=>by
   obtain rfl:f=3:=Option.some.inj ((show prog.funcNamed "zermelo/zermelolaw02.DecTells" = some 3 by kernel_rfl).symm.trans hf) |>.symm
   obtain rfl:fn=f3:=(Option.some.inj (func3.symm.trans b)).symm
   exact ⟨by kernel_rfl,fun j t c=>by
    rw [params3] at c
    have d:t ∈ [27,27,24,3]:=by simpa using Array.mem_of_getElem? c
    have a:([27,27,24,3].all fun u=>!prog.wantsStandIn u)=true:=by kernel_rfl
    exact (show prog.wantsStandIn t=false by simpa using List.all_eq_true.1 a t d)⟩)
  (by kernel_rfl)
#print axioms OI
end Go.Proofs.YtagjhmodblifbaaGreatDoor
