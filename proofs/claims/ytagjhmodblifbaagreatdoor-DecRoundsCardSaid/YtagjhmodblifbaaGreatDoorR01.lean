/- proved lemmas -/
import Derived.Test.YtagjhmodblifbaaGreatDoorMA
import Derived.Test.YtagjhmodblifbaaGreatDoorProg
import Derived.Below
import Derived.Test.YtagjhmodblifbaaGreatDoorR00
import Derived.WalkKit
import Derived.RangeFuncNested
import Derived.RangeFuncBound
import Derived.RangeFuncCalls
import Derived.RangeFuncLeaves
import Derived.Shelf.Abstract
import Derived.Shelf.RegionOpen
import Derived.OwnWalkIn
import Derived.TacticsInMore
import Derived.LoopNIn
import Derived.LoopIn
import Derived.Outline
import Derived.WalkLawsBesides
import Derived.WalkSpells
import Derived.Lib.Hide
import Derived.Maps.AppendAt
import Derived.Handy
import Derived.Deep.QuietTactic
import Derived.BigQuiet
import Derived.OrdersIn
import Derived.StillTailTactics
import Derived.Shelf.Strings.Builder1
import Derived.Shelf.Strings.Builder2
import Derived.Shelf.Strings.Trim
import Derived.Shelf.Small.Utf8
import Derived.Shelf.Small.Bits
import Derived.Shelf.Small.Strs
import Derived.Shelf.Small.Wraps
import Derived.Shelf.Strings.BuilderF
import Derived.Shelf.Strconv.Itoa0
import Derived.Shelf.Strings.Search1
import Derived.Shelf.Strings.Prefix
import Derived.Shelf.Bits.Mul64
import Derived.Shelf.Strings.Repeat
import Derived.Ground.Names2Prog
import Derived.Shelf.Slices.SearchI
import Derived.Laws.EntriesVeiled
import Derived.Deep.RegionHeld3
import Derived.Recover
import Derived.LoopN
import Derived.Lib.ItoaNum
import Derived.Laws.CopyOwn
import Derived.Deep.CutRange
import Derived.RegionTactic
import Derived.BigRegion
import Derived.ChangeAlike
import Derived.Laws.OwnMore
import Derived.IntWalk
import Derived.Deep.DeepFit
import Derived.Lib.IndexBytes
import Derived.Deep.LoopGhost
import Derived.Deep.MidRow
import Derived.Test.YtagjhmodblifbaaGreatDoorB00
import Derived.Test.YtagjhmodblifbaaGreatDoorB01
import Derived.Test.YtagjhmodblifbaaGreatDoorB02
import Derived.Test.YtagjhmodblifbaaGreatDoorB03
import Derived.Test.YtagjhmodblifbaaGreatDoorB04
import Derived.Test.YtagjhmodblifbaaGreatDoorB05
import Derived.Test.YtagjhmodblifbaaGreatDoorB06
import Derived.Test.YtagjhmodblifbaaGreatDoorB07
import Derived.Test.YtagjhmodblifbaaGreatDoorB08
import Derived.Test.YtagjhmodblifbaaGreatDoorB09
import Derived.Test.YtagjhmodblifbaaGreatDoorB10
import Derived.Test.YtagjhmodblifbaaGreatDoorB11
import Derived.Test.YtagjhmodblifbaaGreatDoorB12
import Derived.Test.YtagjhmodblifbaaGreatDoorB13
import Derived.Test.YtagjhmodblifbaaGreatDoorB14
import Derived.Test.YtagjhmodblifbaaGreatDoorB15
import Derived.Test.YtagjhmodblifbaaGreatDoorB16
import Derived.Test.YtagjhmodblifbaaGreatDoorB17
import Derived.Test.YtagjhmodblifbaaGreatDoorB18
import Derived.Test.YtagjhmodblifbaaGreatDoorB19
import Derived.Test.YtagjhmodblifbaaGreatDoorB20
import Derived.Test.YtagjhmodblifbaaGreatDoorB21
set_option maxHeartbeats 4000000
set_option maxRecDepth 100000
set_option exponentiation.threshold 100000
namespace Go.Proofs.YtagjhmodblifbaaGreatDoor
open Go.Proofs.Tryz
open Go Go.RowKit Go.Shelf
theorem NZ (a b:Nat):(10:Int)^(a+b)=10^a*10^b:=YC 10 a b
theorem PI {n d:Int}{a b f i:Nat}(h:a+i=f+b):near (n*10^a) (d*10^b)=near (n*10^f) (d*10^i):=by
 have g:∀ {a b c:Nat},near (n*10^a) (d*10^b)=near (n*10^(a+c)) (d*10^(b+c)):=fun {a b c}=>by
  rw [NZ,NZ,← Yc,← Yc,Pk _ _ _ (YE (by decide))]
 rcases Nat.le_total a f with h1 | h1
 ·obtain ⟨c,rfl⟩:∃ c,f=a+c:=⟨f - a,by omega⟩
  obtain rfl:i=b+c:=by omega
  exact g
 ·obtain ⟨c,rfl⟩:∃ c,a=f+c:=⟨a - f,by omega⟩
  obtain rfl:b=i+c:=by omega
  exact g.symm
theorem PK {n d e:Int}{P a b:Nat}(h:(a:Int) - (b:Int)=(P:Int) - e):near (n*10^a) (d*10^b)=fB n d e P:=PI (by omega)
theorem OY {i:Int}{p P:Nat}(h:P<p):near i (10^(p - P))=fB i 1 (p:Int) P:=by
 have h:=@PK i 1 (p:Int) P 0 (p - P) (by omega);rw [QY,Int.pow_zero,Int.mul_one] at h;exact h
theorem Pm {i:Int}{p P:Nat}(h:p≤P):fB i 1 (p:Int) P=i*10^(P - p):=by
 unfold fB;rw [show ((p:Int) - (P:Int)).toNat=0 by omega,show ((P:Int) - (p:Int)).toNat=P - p by omega,Int.pow_zero,QY,Kq]
theorem dB.is {w:World}{v:Value}{i:Int}{p:Nat}(h:dB w v i p) :
 CB 20 #[v] w fun e _=>e=.returned (.bool true):=by
 obtain ⟨neg,xs,h1,b,-⟩:=h.at;have a:=Pq v _ _ _ _ _ _ w h1;rw [b] at a;exact a
theorem mJ.is {w:World}{v:Value}(h:mJ w v) :
 CB 20 #[v] w fun e _=>e=.returned vF:=by
 obtain ⟨kind,n,neg,xs,s,l,h1,b⟩:=h;have a:=Pq v _ _ _ _ _ _ w h1;rw [b] at a;exact a
theorem dG.below {W a:World}{k0:Int}{x:Int × Nat}{k:Int}{v:Value}(h:dG W k0 x k v)(b:bW W a):dG a k0 x k v:=h.keep fun _ _ c=>c.below b
def nR (m l:Nat)(s:ByteArray):Bool:=decide (m≤60)&&(decide (l≤100)&&decide (s.size≤3000))
theorem PL {m l:Nat}{s:ByteArray}(h:60<m):nR m l s=false:=by unfold nR;rw [decide_eq_false (by omega)];rfl
theorem PN {m l:Nat}{s:ByteArray}(h:100<l):nR m l s=false:=by unfold nR;rw [decide_eq_false (p:=l≤100) (by omega),ZP,Bool.and_false]
theorem PO {m l:Nat}{s:ByteArray}(h:3000<s.size):nR m l s=false:=by unfold nR;rw [decide_eq_false (p:=s.size≤3000) (by omega),Bool.and_false,Bool.and_false]
theorem Px {m l:Nat}{s:ByteArray}(h1:¬60<m)(a:¬100<l)(b:¬3000<s.size):nR m l s=true:=by unfold nR;rw [decide_eq_true (by omega),decide_eq_true (by omega),decide_eq_true (by omega)];rfl
theorem PZ (b:Nat){s t:Int}{q:Bool}{m p:Option Addr}{m1 n f o:Nat}{g:ByteArray}(w:World)(hr:af w b 27 (lV s t q m m1 n g p f o)) :
  Calls prog 17 #[.slice (some ⟨b,0,none⟩) 1 1] w fun e u=>w=u∧e=.returned (.bool (nR m1 f g)):=by
 have r:=eY b 1 0 (by decide);simp only [QC,QI] at r;obtain ⟨v,x,y⟩:=PY hr;clear hr
 by_cases a:60<m1
 case pos =>
  have i:decide ((60:Int)<(m1:Int))=true:=decide_eq_true (by omega);have h:=Qa (show (nR m1 f g)=false by rw [PL a] <;> simp);clear  a;go_enter func17,ntmps17
  go_wp2_with fail
  refine wp_loop_rounds 2 ?_;rw [rounds_succ]
  go_wp2_with fail
  go_ret;exact ⟨rfl,by rw [h.out];rfl⟩
 have i:decide ((60:Int)<(m1:Int))=false:=decide_eq_false (by omega)
 by_cases c:100<f
 case pos =>
  have j:decide ((100:Int)<(f:Int))=true:=decide_eq_true (by omega);have h:=Qa (show (nR m1 f g)=false by rw [PN c] <;> simp);clear  c;go_enter func17,ntmps17
  go_wp2_with fail
  refine wp_loop_rounds 2 ?_;rw [rounds_succ]
  go_wp2_with fail
  go_ret;exact ⟨rfl,by rw [h.out];rfl⟩
 have j:decide ((100:Int)<(f:Int))=false:=decide_eq_false (by omega)
 by_cases d:3000<g.size
 case pos =>
  have k:decide ((3000:Int)<(g.size:Int))=true:=decide_eq_true (by omega);have h:=Qa (show (nR m1 f g)=false by rw [PO d] <;> simp);clear  d;go_enter func17,ntmps17
  go_wp2_with fail
  refine wp_loop_rounds 2 ?_;rw [rounds_succ]
  go_wp2_with fail
  go_ret;exact ⟨rfl,by rw [h.out];rfl⟩
 have k:decide ((3000:Int)<(g.size:Int))=false:=decide_eq_false (by omega);have l:=Px a c d;clear a c d;have h:=Qa (show (nR m1 f g)=true by rw [l] <;> rfl);clear l;go_enter func17,ntmps17
 go_wp2_with fail
 refine wp_loop_rounds 2 ?_;rw [rounds_succ]
 go_wp2_with fail
 rw [rounds_succ]
 go_wp2_with fail
 go_ret;exact ⟨rfl,by rw [h.out];rfl⟩
def NW (x:Int × Nat):Int:=if x.1<0 then wH x else tu x
theorem Ra (A:Nat){q:Bool}{H R:Option Addr}{m1 M Q p:Nat}{i:Int}(w:World)(o:af w A 27 (lV 3 p q H m1 M ⟨#[]⟩ R 0 Q))(h1:dB w (vV 3 p q H m1 M ⟨#[]⟩ R 0 Q) i p) :
 CB 114 #[vP A] w fun e w'=>∃ v,e=.returned v∧ak w' v (NW (i,p)):=by
 have b:q=decide (i<0):=by
  obtain ⟨n9,s,C,t,a0,a2,S,hI⟩:=h1.shape;simp only [Value.agg.injEq,Array.mk.injEq,List.cons.injEq,Value.bool.injEq,Value.slice.injEq,and_true,true_and] at S;obtain ⟨rfl,⟨rfl,rfl,rfl⟩,rfl,rfl⟩:=S;exact tV hI
 have f:=Qa b;clear b
 have B:=fun X (hX:bW w X)=>yD _ i p X (h1.below hX)
 obtain ⟨x,u⟩:∃ x,i.fdiv ((10^p:Nat):Int)=x:=⟨_,rfl⟩
 obtain ⟨y,z⟩:∃ y,-((-i).fdiv ((10^p:Nat):Int))=y:=⟨_,rfl⟩
 have h:NW (i,p)=if i<0 then y else x:=by
  show (if i<0 then -((-i).fdiv ((10^p:Nat):Int)) else i.fdiv ((10^p:Nat):Int))=_
  rw [u,z]
 rw [h];rw [u,z] at B
 obtain ⟨F,j⟩:∃ F,(if i<0 then y else x)=F:=⟨_,rfl⟩
 rw [j];have G:=Qa j;clear j;obtain ⟨W0,U,l,qr⟩:=Lf w 24 (lN false none 0 0);have ra:=o.below l;obtain ⟨d0,d1,d2,d3,d4,d5⟩:=aD ra;clear h1 o u z h;go_enter func114,ntmps114
 go_upto_region 1 with (fail)
 rw [U.out];clear U
 go_cut [2,3] from 4 to 8 (fun v2 v3 W=>kJ W v2 x∧kJ W v3 y∧af W w.heap.size 24 (lN false none 0 0)∧W.cell? ⟨A,2,none⟩=some (.bool q)∧bW w W)
 case first =>
  go_wp2_with (go_at_call 115;refine (B _ l).mono ?_;rintro e w1 ⟨k,g,a,m,c,T,s,C,t,rfl,o,hB⟩)
  go_meet
  have o1:=dJ w1 (.cells #[.bool g,.slice a m c] 24);have n:=o1.alloc o1.size (.cells #[.bool T,.slice s C t] 24);have L:=l.trans (k.mono l.size)
  exact ⟨⟨_,_,_,_,_,rfl,(af.new w1 24 (lN g a m c)).alloc _,o.below n⟩,⟨_,_,_,_,_,rfl,(af.new (w1.alloc (.cells #[.bool g,.slice a m c] 24)) 24 (lN T s C t)).at (by simp),hB.below n⟩,(qr.below k).below n,((ra.below k).below n).cell 2,L.trans (n.mono L.size)⟩
 case rest =>
  obtain ⟨⟨b7,n7,I,Y,N,rfl,r7,i7⟩,⟨b8,n8,J,Z,O,rfl,r8,i8⟩,d,hn,V⟩:=hcut;have x0:=r7.cell 0;have x1:=r7.cell 1;have x2:=r8.cell 0;have x3:=r8.cell 1;obtain ⟨y0,y1,f0,f1⟩:=av d;simp only [Qc,Qe] at x0 x1 x2 x3;clear B r7 r8 d0 d1 d2 d3 d4 d5 ra l qr;have b:=f.out;clear f
  by_cases hi:i<0
  ·rw [decide_eq_true hi] at b
   have r:=Qa hi;subst b;clear hi;obtain ⟨D,E⟩:=eB d (.bool n8) (.slice J Z O)
   go_wp2_with fail
   exact bodyPost_ret (v:=vN n8 J Z O) (by simp [results,results114,go_sem,loadCellsFrom,D,E]) rfl ⟨(V.setCell (Qb _) (p:=⟨w.heap.size,0,none⟩) _).setCell (Qb _) (p:=⟨w.heap.size,1,none⟩) _,_,rfl,by rw [← G.out,if_pos r.out];exact i8.keep (aV d _ _)⟩
  ·rw [decide_eq_false hi] at b
   have r:=Qa hi;subst b;clear hi;obtain ⟨D,E⟩:=eB d (.bool n7) (.slice I Y N)
   go_wp2_with fail
   exact bodyPost_ret (v:=vN n7 I Y N) (by simp [results,results114,go_sem,loadCellsFrom,D,E]) rfl ⟨(V.setCell (Qb _) (p:=⟨w.heap.size,0,none⟩) _).setCell (Qb _) (p:=⟨w.heap.size,1,none⟩) _,_,rfl,by rw [← G.out,if_neg (Yb.2 r.out)];exact i7.keep (aV d _ _)⟩
theorem PQ (va:Value)(l:Option (Int × Nat))(w:World)(h1:Fm w va l) :
  Calls prog 41 #[va] w fun e q=>bW w q∧∃ (g:Bool) (i:Option Addr) (f:Nat) (d:Nat),∃ k:Int,e=.returned (.tuple #[vN g i f d,vI k])∧fQ q (vg (fun _=>0) l) (Lg NW l) k (vN g i f d):=by
 obtain ⟨z,B,j,s,m1,t,o,y,A,u,rfl⟩:=h1.kY
 have J:∀ r b,bW w r→af r w.heap.size 27 (lV z B j s m1 t o y A u)→af r b 27 (lV z B j s m1 t o y A u)→Calls prog 113 #[.func (.func 114) #[] #[vP w.heap.size],.slice (some ⟨b,0,none⟩) 1 1] r fun e q=>bW r q∧∃ (g:Bool) (i:Option Addr) (f:Nat) (d:Nat),∃ k:Int,e=.returned (.tuple #[vN g i f d,vI k])∧fQ q (vg (fun _=>0) l) (Lg NW l) k (vN g i f d):=by
  intro r b F r1 row;refine BP _ _ b 1 r (fun k W v=>fQ W (vg (fun _=>0) l) (Lg NW l) k (v)) (fun _ _ _ _ h H=>h.keep H) (fun L U j g2 T=>?_);have ja:=row.below U;have o:=r1.below U;have D:=h1.below (F.trans (U.mono F.size))
  cases l with
  | none =>
   refine (yx r.heap.size b 114 #[vP w.heap.size] L j g2 T ja D).mono ?_;rintro e W ⟨C,rfl⟩;exact ⟨2,.inr rfl,(dF.refl _ L).aU C,false,none,0,0,T.below C,uU (by decide)⟩
  | some x =>
   have D:dB L _ x.1 x.2:=D;obtain ⟨n5,a5,m5,c5,a0,a2,e1,-⟩:=D.shape;simp only [Value.agg.injEq,Array.mk.injEq,List.cons.injEq,Value.int.injEq,Value.bool.injEq,Value.slice.injEq,Value.string.injEq,and_true,true_and] at e1;obtain ⟨rfl,rfl,rfl,⟨rfl,rfl,rfl⟩,rfl,rfl,rfl,rfl⟩:=e1
   refine (yw r.heap.size b 114 #[vP w.heap.size] L j g2 T ja D (fun W v=>ak W v (NW x)) (fun _ _ _ h H=>h.keep H) (fun W v h=>?_) (fun W=>by simp [go_sem]) (fun W C=>Ra _ W (o.below C) (D.below C))).mono ?_
   ·obtain ⟨n,a,m,c,rfl⟩:=h.shape
    exact ⟨_,_,_,_,rfl⟩
   ·rintro e W ⟨rfl,hC,g,i,f,d,hr,hD⟩
    exact ⟨0,.inl ⟨rfl,rfl⟩,hC,g,i,f,d,hr,wS hD⟩
 obtain ⟨E,C,M,Q,qr⟩:=yP w 27 (lV z B j s m1 t o y A u) 24 (lN false none 0 0);have dH:=fC (R:=bJ _) (ax Q aS) ⟨_,_,_,_,qr⟩ M;obtain ⟨d0,d1,d2,d3,d4,d5⟩:=aD Q;have S:=M.alloc M.size (.cells #[vI z,vI B,.bool j,.slice s m1 t,.string o,.slice y A u] 27);have N:=J _ E.heap.size S (Q.alloc _) (af.new E 27 (lV z B j s m1 t o y A u));have uZ:=lK
 obtain ⟨K,hK⟩:∃ K,vg (fun _=>0) l=K:=⟨_,rfl⟩
 obtain ⟨Z,X⟩:∃ Z,Lg NW l=Z:=⟨_,rfl⟩
 rw [hK,X] at N;rw [hK,X]
 obtain ⟨R,O⟩:∃ R:World→Int→Value→Prop,R=fun W k v=>fQ W K Z k v:=⟨_,rfl⟩
 have V:∀ W W' k v,R W k v→(∀ v xs,Reads .u32 W v xs→Reads .u32 W' v xs)→R W' k v:=by
  rw [O]
  exact fun _ _ _ _ h H=>h.keep H
 replace N:Calls prog 113 #[.func (.func 114) #[] #[vP w.heap.size],.slice (some ⟨E.heap.size,0,none⟩) 1 1] (E.alloc (.cells ((lV z B j s m1 t o y A u):List Value).toArray 27)) fun e q=>Below (E.alloc (.cells ((lV z B j s m1 t o y A u):List Value).toArray 27)).heap.size (E.alloc (.cells ((lV z B j s m1 t o y A u):List Value).toArray 27)) q∧∃ (g:Bool) (i:Option Addr) (f:Nat) (d:Nat),∃ k:Int,e=.returned (.tuple #[vN g i f d,vI k])∧R q k (vN g i f d):=by
  refine N.mono ?_;rintro e w9 ⟨F,g,i,f,d,k,he,hr⟩;rw [O];exact ⟨F,g,i,f,d,k,he,hr⟩
 suffices main:Calls prog 41 #[vV z B j s m1 t o y A u] w fun e q=>bW w q∧∃ (g:Bool) (i:Option Addr) (f:Nat) (d:Nat),∃ k:Int,e=.returned (.tuple #[vN g i f d,vI k])∧R q k (vN g i f d) by
  refine main.mono ?_;rintro e w9 ⟨F,g,i,f,d,k,he,hr⟩;rw [O] at hr;exact ⟨F,g,i,f,d,k,he,hr⟩
 clear J O h1 M Q dH hK X;go_enter func41,ntmps41
 go_upto_region 1 with (fail)
 rw [C.out];clear C
 go_wp2_with (refine N.mono ?_;rintro e w3 ⟨G,g,i,f,d,k,rfl,I⟩;have b6:=S.trans (G.mono S.size);have q3:=(qr.alloc _).below G;obtain ⟨y0,y1,f0,l⟩:=av q3)
 obtain ⟨u0,u1⟩:=eB q3 (.bool g) (.slice i f d)
 have Y:=((b6.setCell (show w.heap.size≤w.heap.size+1 by omega) (p:=⟨w.heap.size+1,0,none⟩) (.bool g)).setCell (show w.heap.size≤w.heap.size+1 by omega) (p:=⟨w.heap.size+1,1,none⟩) (.slice i f d))
 exact bodyPost_ret (v:=.tuple #[vN g i f d,vI k]) (by simp [results,results41,go_sem,loadCellsFrom,u0,u1]) rfl ⟨Y,g,i,f,d,k,rfl,V _ _ _ _ I (aV q3 (.bool g) (.slice i f d))⟩
def Oe (W:World)(v:Value)(k:Int)(v2:Value)(k2:Int):Prop:=k=k2∧((∃ i p,dX W v i p∧dX W v2 i p)∨(v=pV∧v2=pV))
theorem PR {W:World}{K:Int}{x:Int × Nat}{k b:Int}{v c:Value}(h:dG W K x k v)(a:dG W K x b c):Oe W v k c b:=by
 unfold dG at h a
 by_cases hK:K=0
 ·rw [if_pos hK] at h a
  unfold dP at h a
  by_cases hf:x.1.natAbs<aj^40
  ·rw [if_pos hf] at h a
   exact ⟨h.1.trans a.1.symm,.inl ⟨_,_,h.2,a.2⟩⟩
  ·rw [if_neg hf] at h a
   exact ⟨h.1.trans a.1.symm,.inr ⟨h.2,a.2⟩⟩
 ·rw [if_neg hK] at h a
  exact ⟨h.1.trans a.1.symm,.inr ⟨h.2,a.2⟩⟩
theorem xe (W:World):ak W (.agg #[.bool false,.slice none 0 0]) 0:=⟨false,_,[],rfl,Reads.nil _ _,iU,rfl,rfl⟩
theorem Py {W:World}{v a:Value}{k c:Int}(h:Oe W v k a c) :
  Calls prog 51 #[v,a] W fun e d=>Below W.heap.size W d∧e=.returned (.bool true):=by
 rcases h.2 with ⟨i,p,h1,b⟩ | ⟨rfl,rfl⟩
 ·exact xD v a i p W h1 b
 ·exact Ho 0 0 ⟨#[]⟩ 0 false none 0 0 none 0 false none 0 0 none 0 0 W (xe W) (xe W)
theorem PS (k0 n0:Int)(g:Bool)(a:Option Addr)(m c:Nat)(s:ByteArray)(la:Option Addr)(l lc:Nat)(k t v:Int)(q:Bool)(d:Option Addr)(m1 j:Nat)(x:ByteArray)(o:Option Addr)(u n:Nat)(b:Int)(w:World)
  (h:Oe w (.agg #[.int .i64 k0,.int .i64 n0,.bool g,.slice a m c,.string s,.slice la l lc]) k (.agg #[.int .i64 t,.int .i64 v,.bool q,.slice d m1 j,.string x,.slice o u n]) b) :
  Calls prog 24 #[.agg #[.int .i64 k0,.int .i64 n0,.bool g,.slice a m c,.string s,.slice la l lc],.int .i64 k,.agg #[.int .i64 t,.int .i64 v,.bool q,.slice d m1 j,.string x,.slice o u n,.int .i64 b]] w fun e E=>Below w.heap.size w E∧e=.returned (.bool true):=by
 obtain ⟨F,C,f,z,A⟩:=yP w 27 [.int .i64 k0,.int .i64 n0,.bool g,.slice a m c,.string s,.slice la l lc] 41 [.int .i64 t,.int .i64 v,.bool q,.slice d m1 j,.string x,.slice o u n,.int .i64 b]
 have D:=fun X (y:Below w.heap.size w X)=>Py (⟨h.1,h.2.elim (fun ⟨i,p,h1,B⟩=>.inl ⟨i,p,h1.below y,B.below y⟩) .inr⟩:Oe X _ k _ b)
 obtain rfl:=h.1;obtain ⟨G,H,I,J,L,M⟩:=aD z;obtain ⟨N,O,Q,R,S,T,U⟩:=jW A;clear h z A;go_enter func24,ntmps24
 go_upto_region 1 with (fail)
 rw [C.out]
 go_wp2_with (go_at_call 51;refine (D _ f).mono ?_;rintro e w1 ⟨r,rfl⟩)
 go_ret;exact ⟨f.trans (r.mono f.size),rfl⟩
theorem PW {W:World}{i:Int}{p:Nat}{n:Bool}{a la:Option Addr}{m c lc:Nat}(h:ak W (vN n a m c) i)(hf:i.natAbs<aj^40):dP W i p 0 (vV 3 p n a m c ⟨#[]⟩ la 0 lc):=by
 unfold dP;rw [if_pos hf];exact ⟨rfl,n,a,m,c,la,lc,rfl,h⟩
theorem OZ {i b:Int}{p:Nat}(c:1≤p)(hf:p=1∨¬i % 10=0)(d:(p:Int)≤b):jU b (i,p)=(i,p):=by
 obtain ⟨a,rfl⟩:∃ a:Nat,b=(a:Int):=⟨b.toNat,by omega⟩
 unfold jU;simp only [QP];rw [Pm (show p≤a by omega)];refine Ki ?_ c hf;unfold iT;rw [Yc,← NZ,show a - p+p=a by omega]
theorem Pb {i a:Int}{p:Nat}(b:0≤a∧a<(p:Int)):least (near i ((10^(p - a.toNat):Nat):Int)) a.toNat=jU a (i,p):=by
 unfold jU;rw [xH,OY (show a.toNat<p by omega)]
theorem Pn (z:Value)(i:Int)(p:Nat)(c:Int)(w:World)(h1:dB w z i p)(x:c<0∨20<c) :
 CB 44 #[z,vI c] w fun e _=>e=.returned (vG 0 0 false none 0 0 ⟨#[]⟩ none 0 0 1):=by
 have y:=fun X (V:bW w X)=>(h1.below V).is
 have Y:=h1.hi;have k:=h1.lo;have F:=h1.abs;obtain ⟨Z,A,m1,G,I,H,rfl,U⟩:=h1.shape;obtain ⟨W0,f,g,l,m⟩:=yP w 27 (lV 3 p Z A m1 G ⟨#[]⟩ I 0 H) 41 (lG 0 0 false none 0 0 ⟨#[]⟩ none 0 0 0);have d:=fC (R:=ni _) (ax l aS) ⟨_,_,_,_,_,_,_,_,_,_,_,m⟩ g;obtain ⟨d0,d1,d2,d3,d4,d5⟩:=aD l;have HH:=Qa (And.intro m g);clear h1 g m U l Y k F
 rcases ZR c 0 with h | h
 ·have J:decide (c<0)=true:=decide_eq_true h
  clear h x;go_enter func44,ntmps44
  go_upto_region 1 with (fail)
  rw [f.out];clear f
  go_wp2_with (go_at_call 20;refine (y _ d.below).mono ?_;rintro e w1 ⟨b,rfl⟩;have a:=ag ni.step d b;obtain ⟨z0,z1,z2,z3,B,C,z4,z5,D,E,z6,hr,y0,y1,y2,y3,y4,y5,y6,L,M,N,O,Q,S,T⟩:=a.res.cells)
  obtain ⟨n,o,q,r,s,t,u⟩:=wO hr (vI 0) (vI 0) vF vZ vE vZ (vI 1);have j:=(uS a (aZ (by omega) dV) (by omega) 0 0 false none 0 0 ⟨#[]⟩ none 0 0 1).below;exact bodyPost_ret (v:=vG 0 0 false none 0 0 ⟨#[]⟩ none 0 0 1) (by simp [results,results44,go_sem,loadCellsFrom,n,o,q,r,s,t,u]) rfl ⟨j,rfl⟩
 ·have J:decide (c<0)=false:=decide_eq_false (by omega)
  have e2:decide (20<c)=true:=decide_eq_true (by omega);clear h x;go_enter func44,ntmps44
  go_upto_region 1 with (fail)
  rw [f.out];clear f
  go_wp2_with (go_at_call 20;refine (y _ d.below).mono ?_;rintro e w1 ⟨b,rfl⟩;have a:=ag ni.step d b;obtain ⟨z0,z1,z2,z3,B,C,z4,z5,D,E,z6,hr,y0,y1,y2,y3,y4,y5,y6,L,M,N,O,Q,S,T⟩:=a.res.cells)
  obtain ⟨n,o,q,r,s,t,u⟩:=wO hr (vI 0) (vI 0) vF vZ vE vZ (vI 1);have j:=(uS a (aZ (by omega) dV) (by omega) 0 0 false none 0 0 ⟨#[]⟩ none 0 0 1).below;exact bodyPost_ret (v:=vG 0 0 false none 0 0 ⟨#[]⟩ none 0 0 1) (by simp [results,results44,go_sem,loadCellsFrom,n,o,q,r,s,t,u]) rfl ⟨j,rfl⟩
theorem Pd (E:Value)(i:Int)(p:Nat)(h:Int)(w:World)(h1:dB w E i p)(B:(p:Int)≤h∧h≤20) :
 CB 44 #[E,vI h] w fun e Y=>∃ k0 n0 g a m c s l F G k,e=.returned (vG k0 n0 g a m c s l F G k)∧dP Y ((i,p)).1 ((i,p)).2 k (vV k0 n0 g a m c s l F G):=by
 have M:=fun X (I:bW w X)=>(h1.below I).is
 have L:=h1.hi;have t:=h1.lo;have u:=h1.abs;obtain ⟨q,j,m1,n,f,d,rfl,z⟩:=h1.shape;obtain ⟨Z,A,r,C,D⟩:=yP w 27 (lV 3 p q j m1 n ⟨#[]⟩ f 0 d) 41 (lG 0 0 false none 0 0 ⟨#[]⟩ none 0 0 0);have x:=fC (R:=ni _) (ax C aS) ⟨_,_,_,_,_,_,_,_,_,_,_,D⟩ r;obtain ⟨d0,d1,d2,d3,d4,d5⟩:=aD C;have e1:decide (h<0)=false:=decide_eq_false (by omega)
 have e2:decide (20<h)=false:=decide_eq_false (by omega);have e3:decide ((p:Int)≤h)=true:=decide_eq_true B.1;have y:=Qa (And.intro u (z.below r));clear h1 r D z L t u B;go_enter func44,ntmps44
 go_upto_region 1 with (fail)
 rw [A.out];clear A
 go_wp2_with (go_at_call 20;refine (M _ x.below).mono ?_;rintro e w1 ⟨o,rfl⟩;have b:=ag ni.step x o;obtain ⟨x0,x1,x2,x3,x4,x5⟩:=aD b.r0;obtain ⟨z0,z1,z2,z3,aI,aJ,z4,z5,aN,aO,z6,hr,y0,y1,y2,y3,y4,y5,y6,f0,f1,f2,f3,f4,f5,f6⟩:=b.res.cells)
 obtain ⟨N,O,Q,S,T,U,V⟩:=wO hr (vI 3) (vI p) (.bool q) (.slice j m1 n) vE (.slice f 0 d) (vI 0);have J:=(uS b (aZ (by omega) dV) (by omega) 3 (p:Int) q j m1 n ⟨#[]⟩ f 0 d 0).below;have H:=PW (p:=p) (la:=f) (lc:=d) ((y.out.2.below o).keep (nP hr (vI 3) (vI p) (.bool q) (.slice j m1 n) vE (.slice f 0 d) (vI 0))) y.out.1
 exact bodyPost_ret (v:=vG 3 p q j m1 n ⟨#[]⟩ f 0 d 0) (by simp [results,results44,go_sem,loadCellsFrom,N,O,Q,S,T,U,V]) rfl ⟨J,_,_,_,_,_,_,_,_,_,_,_,rfl,H⟩
theorem Pe (va:Value)(i:Int)(p:Nat)(o:Int)(w:World)(h1:dB w va i p)(hk:0≤o∧o<(p:Int)) :
 CB 44 #[va,vI o] w fun e w'=>∃ k0 n0 g a m c s l r t k,e=.returned (vG k0 n0 g a m c s l r t k)∧dP w' (least (near i ((10^(p - o.toNat):Nat):Int)) o.toNat).1 (least (near i ((10^(p - o.toNat):Nat):Int)) o.toNat).2 k (vV k0 n0 g a m c s l r t):=by
 have Y:=fun X (F:bW w X)=>(h1.below F).is
 have hp:=h1.hi;have H:=h1.lo;have A:=h1.abs;obtain ⟨n1,a1,m1,c1,cu,cB,rfl,T⟩:=h1.shape
 obtain ⟨f,rfl⟩:∃ f:Nat,o=(f:Int):=⟨o.toNat,by omega⟩
 simp only [QP]
 have L:=fun X=>Og (p - f) X (by omega)
 have Q:=Od (p - f) (by omega)
 have N:((10^(p - f):Nat):Int)≠0:=by have:=Qq (n:=p - f) (show 0<10 by decide);omega
 generalize ht:((10^(p - f):Nat):Int)=tt at *;rw [show ((p - f:Nat):Int)=(p:Int) - (f:Int) by omega] at L
 have kN:=fun X (F:bW w X) v (I:ak X v tt)=>Pw _ v i tt X (T.below F) I (az A (by decide)) (az Q (by decide)) N
 have S:=Qr (Fv i tt N) A;generalize near i tt=z at *
 have Z:=fun X v (I:ak X v z)=>yo v z f X I (az S (by decide)) (by omega)
 have y:=Qa (show IntKind.i64.wrap ((p:Int) - (f:Int))=(p:Int) - (f:Int) by rw [Qx];omega);obtain ⟨W0,V,O,M,qr⟩:=yP w 27 (lV 3 p n1 a1 m1 c1 ⟨#[]⟩ cu 0 cB) 41 (lG 0 0 false none 0 0 ⟨#[]⟩ none 0 0 0);have B:=fC (R:=ni _) (ax M aS) ⟨_,_,_,_,_,_,_,_,_,_,_,qr⟩ O
 have x:=yO B fun X h=>(nk h.r0:)
 obtain ⟨d0,d1,d2,d3,d4,d5⟩:=aD M;have e1:decide ((f:Int)<0)=false:=decide_eq_false (by omega);have e2:decide (20<(f:Int))=false:=decide_eq_false (by omega);have e3:decide ((p:Int)≤(f:Int))=false:=decide_eq_false (by omega);have e4:decide (p≤f)=false:=decide_eq_false (by omega);clear h1 O qr T M hp H A hk Q N S ht;go_enter func44,ntmps44
 go_upto_region 1 with (fail)
 rw [V.out];clear V
 go_upto_region 7 with (go_at_call 20;refine (Y _ B.below).mono ?_;rintro e w1 ⟨G,rfl⟩;have u:=ag ni.step B G;have x1:=Dk u.r0)
 have J:=y.out;clear Y d0 d1 d2 d3 d4 d5 x1
 go_wp2_with fail
 refine bB x (bY ni.drew u) fun X0 d=>?_
 refine tk 0 d ?_;refine tk 1 d ?_;refine tk 2 d ?_;refine tk 3 d ?_;refine tk 4 d ?_;refine tk 5 d ?_;refine tk 8 d ?_
 refine rd 6 fun q j=>?_
 have hP:=d.2;clear J
 go_wp2_with (go_at_call 64;refine (L _).mono ?_;rintro e wk ⟨b,v5,rfl,C⟩)
 refine aT j x (ag ni.step hP b) fun d=>?_
 clear j q hP b
 refine rd 7 fun q j=>?_
 have hP:=d.2
 go_wp2_with (go_at_call 118;refine (kN _ hP.below _ C).mono ?_;rintro e wk ⟨b,v6,rfl,D⟩)
 replace C:=C.below b
 refine aT j x (ag ni.step hP b) fun d=>?_
 clear j q hP b
 refine rd 9 fun q j=>?_
 have hP:=d.2
 go_wp2_with (go_at_call 91;refine (Z _ _ D).mono ?_;rintro e wk ⟨b,k0,n0,g,a,m,c,s,l,r,t,k,rfl,U⟩)
 replace D:=D.below b
 refine aT j x (ag ni.step hP b) fun d=>?_
 clear j q hP b
 refine rd 10 fun q j=>?_
 have hP:=d.2;obtain ⟨z0,z1,z2,z3,aI,aJ,z4,z5,aN,aO,z6,hr,y0,y1,y2,y3,y4,y5,y6,f0,f1,f2,f3,f4,f5,f6⟩:=hP.res.cells;clear L kN Z
 go_wp2_with fail
 refine aT j x (uS hP (aZ (by omega) dV) (by omega) k0 n0 g a m c s l r t k) fun d=>?_
 clear j q;obtain ⟨u0,u1,u2,u3,u4,u5,u6⟩:=wO hr (vI k0) (vI n0) (.bool g) (.slice a m c) (.string s) (.slice l r t) (vI k);refine wpAnyH_done (by kernel_rfl) ?_ _;have hb:=d.2.below;have E:=U.keep (nP hr (vI k0) (vI n0) (.bool g) (.slice a m c) (.string s) (.slice l r t) (vI k));clear d hr hP U
 go_wp2_with fail
 exact bodyPost_ret (v:=vG k0 n0 g a m c s l r t k) (by simp [results,results44,go_sem,loadCellsFrom,u0,u1,u2,u3,u4,u5,u6]) rfl ⟨hb,_,_,_,_,_,_,_,_,_,_,_,rfl,E⟩
theorem Po (va:Value)(i:Int)(p:Nat)(w:World)(h1:dB w va i p) :
 CB 47 #[va] w fun e w'=>∃ n a m c,e=.returned (.agg #[.bool n,.slice a m c,vI 0])∧ak w' (vN n a m c) (i.fdiv ((10^p:Nat):Int)):=by
 have kI:=fun X (hX:bW w X)=>(h1.below hX).is
 have hp:=h1.hi;have bi:=h1.abs;obtain ⟨n1,a1,m1,c1,cu,cB,rfl,hI⟩:=h1.shape
 have kT:=fun X=>Og p X (by omega)
 have bt:=Od p (by omega)
 have t0:((10^p:Nat):Int)≠0:=by have:=Qq (n:=p) (show 0<10 by decide);omega
 generalize ((10^p:Nat):Int)=tt at *
 have Y:=fun X (hX:bW w X) v (hv:ak X v tt)=>Cx _ v i tt X (hI.below hX) hv (az bi (by decide)) (az bt (by decide)) t0
 unfold iD at Y;generalize i.fdiv tt=q at *;generalize i.fmod tt=r at *;obtain ⟨W0,hW,b0,q1,qr⟩:=yP w 27 (lV 3 p n1 a1 m1 c1 ⟨#[]⟩ cu 0 cB) 56 [vF,vZ,vI 0];have dH:=fC (R:=eU _) (ax q1 aS) ⟨_,_,_,_,_,qr⟩ b0
 have s:=yO dH fun X h=>(nk h.r0:)
 obtain ⟨d0,d1,d2,d3,d4,d5⟩:=aD q1;have t:∀ r ∈ ([(w.heap.size,27,(lV 3 p n1 a1 m1 c1 ⟨#[]⟩ cu 0 cB))]:List (Nat × TypeId × List Value)),r.1<W0.heap.size:=fK q1.lt nA;have HL:=Qa (And.intro t (And.intro b0.size (show w.heap.size+1<W0.heap.size from qr.lt)));clear h1 hp bi bt t0 q1 qr b0 t hI;go_enter func47,ntmps47
 go_upto_region 1 with (fail)
 rw [hW.out];clear hW
 go_upto_region 3 with (go_at_call 20;refine (kI _ dH.below).mono ?_;rintro e w1 ⟨a0,rfl⟩;have V:=ag eU.step dH a0)
 clear kI d0 d1 d2 d3 d4 d5
 go_cut [3] from 8 to 13 (fun v W=>Hy W v q r∧fI w W0 (eU (w.heap.size+1)) [] W)
 case first =>
  obtain ⟨t,fe,D⟩:=HL.out
  go_wp2_with fail
  refine bB s (bY eU.drew V) fun X0 d=>?_
  refine tk 0 d ?_;refine tk 1 d ?_;refine tk 2 d ?_;refine tk 3 d ?_;refine ql 4 6 (fun j f=>?_) (fun j f=>?_)
  ·have hP:=d.2
   go_wp2_with (go_at_call 64;refine (kT _).mono ?_;rintro e wk ⟨b,v5,rfl,u⟩)
   refine aT f s (ag eU.step hP b) fun d=>?_
   clear f j hP b;refine ql 5 6 (fun j f=>?_) (fun j f=>?_)
   ·have hP:=d.2
    go_wp2_with (go_at_call 77;refine (Y _ hP.below _ u).mono ?_;rintro e wk ⟨b,T,L,Z,N,U,M,m6,O,rfl,l,o⟩)
    replace u:=u.below b
    refine aT f s (ag eU.step hP b) fun d=>?_
    clear f j hP b
    refine rd 6 fun j f=>?_
    have hP:=d.2;obtain ⟨V9,C,k,y,g⟩:=aL hP 96 [vF,vZ,vF,vZ]
    go_wp2_with fail
    rw [C.out];clear C;replace l:=l.below g;replace o:=o.below g
    refine aT f s (ag eU.step hP g) fun d=>?_
    clear f j hP g
    refine rd 7 fun j f=>?_
    have hP:=d.2;obtain ⟨H,I,J,y3,E,F,G,S⟩:=qZ k;obtain ⟨V8,B,z,x,A,Q⟩:=kE hP (eU.other (Qg (Qf D y))) (bP t y) (Qd fe y) k (.bool T) (.slice L Z N) (.bool U) (.slice M m6 O)
    go_wp2_with fail
    rw [B.out];replace l:=l.keep x;replace o:=o.keep x;replace k:=A
    refine aT f s z fun d=>?_
    clear f j hP z B x A Q H I J y3 E F G S;refine wpAnyH_done (by kernel_rfl) ?_ _;go_wp2
    go_meet
    exact ⟨⟨_,_,_,_,_,_,_,_,_,rfl,k,l,o⟩,⟨aS,d.2.res,d.2.below,d.2.more,d.2.size⟩⟩
   have hP:=d.2;obtain ⟨V9,C,k,y,g⟩:=aL hP 96 [vF,vZ,vF,vZ]
   go_wp2_with fail
   rw [C.out];clear C;replace u:=u.below g
   refine aT f s (ag eU.step hP g) fun d=>?_
   clear f j hP g
   refine rd 5 fun j f=>?_
   have hP:=d.2
   go_wp2_with (go_at_call 77;refine (Y _ hP.below _ u).mono ?_;rintro e wk ⟨b,T,L,Z,N,U,M,m6,O,rfl,l,o⟩)
   replace u:=u.below b;replace k:=k.below b
   refine aT f s (ag eU.step hP b) fun d=>?_
   clear f j hP b
   refine rd 7 fun j f=>?_
   have hP:=d.2;obtain ⟨H,I,J,y3,E,F,G,S⟩:=qZ k;obtain ⟨V8,B,z,x,A,Q⟩:=kE hP (eU.other (Qg (Qf D y))) (bP t y) (Qd fe y) k (.bool T) (.slice L Z N) (.bool U) (.slice M m6 O)
   go_wp2_with fail
   rw [B.out];replace l:=l.keep x;replace o:=o.keep x;replace k:=A
   refine aT f s z fun d=>?_
   clear f j hP z B x A Q H I J y3 E F G S;refine wpAnyH_done (by kernel_rfl) ?_ _;go_wp2
   go_meet
   exact ⟨⟨_,_,_,_,_,_,_,_,_,rfl,k,l,o⟩,⟨aS,d.2.res,d.2.below,d.2.more,d.2.size⟩⟩
  have hP:=d.2;obtain ⟨V9,C,k,y,g⟩:=aL hP 96 [vF,vZ,vF,vZ]
  go_wp2_with fail
  rw [C.out];clear C
  refine aT f s (ag eU.step hP g) fun d=>?_
  clear f j hP g
  refine rd 4 fun j f=>?_
  have hP:=d.2
  go_wp2_with (go_at_call 64;refine (kT _).mono ?_;rintro e wk ⟨b,v5,rfl,u⟩)
  replace k:=k.below b
  refine aT f s (ag eU.step hP b) fun d=>?_
  clear f j hP b
  refine rd 5 fun j f=>?_
  have hP:=d.2
  go_wp2_with (go_at_call 77;refine (Y _ hP.below _ u).mono ?_;rintro e wk ⟨b,T,L,Z,N,U,M,m6,O,rfl,l,o⟩)
  replace k:=k.below b;replace u:=u.below b
  refine aT f s (ag eU.step hP b) fun d=>?_
  clear f j hP b
  refine rd 7 fun j f=>?_
  have hP:=d.2;obtain ⟨H,I,J,y3,E,F,G,S⟩:=qZ k;obtain ⟨V8,B,z,x,A,Q⟩:=kE hP (eU.other (Qg (Qf D y))) (bP t y) (Qd fe y) k (.bool T) (.slice L Z N) (.bool U) (.slice M m6 O)
  go_wp2_with fail
  rw [B.out];replace l:=l.keep x;replace o:=o.keep x;replace k:=A
  refine aT f s z fun d=>?_
  clear f j hP z B x A Q H I J y3 E F G S;refine wpAnyH_done (by kernel_rfl) ?_ _;go_wp2
  go_meet
  exact ⟨⟨_,_,_,_,_,_,_,_,_,rfl,k,l,o⟩,⟨aS,d.2.res,d.2.below,d.2.more,d.2.size⟩⟩
 case rest =>
  obtain ⟨⟨b3,n3,a3,m3,c3,n4,a4,m4,c4,rfl,r3,i3,-⟩,sM⟩:=hcut;obtain ⟨x0,x1⟩:=aQ r3;clear kT Y dH V s HL r3;obtain ⟨z0,z1,gz,gB,z2,hr,H,I,J,E,F,G⟩:=sM.res.cells;obtain ⟨u0,u1,u2⟩:=nC hr (.bool n3) (.slice a3 m3 c3) (vI 0);have hb:=(qa sM dV (show w.heap.size≤w.heap.size+1 by omega) n3 a3 m3 c3 0).below;have hO:=i3.keep (yt hr (.bool n3) (.slice a3 m3 c3) (vI 0));clear sM hr i3
  go_wp2_with fail
  exact bodyPost_ret (v:=.agg #[.bool n3,.slice a3 m3 c3,vI 0]) (by simp [results,results47,go_sem,loadCellsFrom,u0,u1,u2]) rfl ⟨hb,_,_,_,_,rfl,hO⟩
theorem Pz (va:Value)(i:Int)(p:Nat)(w:World)(h1:dB w va i p) :
 CB 48 #[va] w fun e w'=>∃ n a m c,e=.returned (.agg #[.bool n,.slice a m c,vI 0])∧ak w' (vN n a m c) (-((-i).fdiv ((10^p:Nat):Int))):=by
 have kI:=fun X (hX:bW w X)=>(h1.below hX).is
 have hp:=h1.hi;have bi:=h1.abs;obtain ⟨n1,a1,m1,c1,cu,cB,rfl,hI⟩:=h1.shape
 have kT:=fun X=>Og p X (by omega)
 have bt:=Od p (by omega)
 have t0:((10^p:Nat):Int)≠0:=by have:=Qq (n:=p) (show 0<10 by decide);omega
 generalize ((10^p:Nat):Int)=tt at *
 have kM:=fun X (hX:bW w X)=>qb _ i X (hI.below hX)
 have bn:(-i).natAbs<aj^40:=by rw [JU];exact bi
 generalize -i=ni at *
 have kD:=fun (X:World) v v' (hv:ak X v ni) (a9:ak X v' tt)=>Cx v v' ni tt X hv a9 (az bn (by decide)) (az bt (by decide)) t0
 unfold iD at kD;generalize ni.fdiv tt=q at *;generalize ni.fmod tt=r at *
 have kQ:=fun (X:World) v (hv:ak X v q)=>qb v q X hv
 generalize -q=q8 at *;obtain ⟨W0,hW,b0,q1,qr⟩:=yP w 27 (lV 3 p n1 a1 m1 c1 ⟨#[]⟩ cu 0 cB) 56 [vF,vZ,vI 0];have dH:=fC (R:=eU _) (ax q1 aS) ⟨_,_,_,_,_,qr⟩ b0
 have s:=yO dH fun X h=>(nk h.r0:)
 obtain ⟨d0,d1,d2,d3,d4,d5⟩:=aD q1;have A:∀ r ∈ ([(w.heap.size,27,(lV 3 p n1 a1 m1 c1 ⟨#[]⟩ cu 0 cB))]:List (Nat × TypeId × List Value)),r.1<W0.heap.size:=fK q1.lt nA;have HL:=Qa (And.intro A (And.intro b0.size (show w.heap.size+1<W0.heap.size from qr.lt)));clear h1 hp bi bt t0 q1 qr b0 A hI bn;go_enter func48,ntmps48
 go_upto_region 1 with (fail)
 rw [hW.out];clear hW
 go_upto_region 3 with (go_at_call 20;refine (kI _ dH.below).mono ?_;rintro e w1 ⟨a7,rfl⟩;have a0:=ag eU.step dH a7)
 clear kI d0 d1 d2 d3 d4 d5
 go_cut [3] from 8 to 14 (fun v W=>Hy W v q r∧fI w W0 (eU (w.heap.size+1)) [] W)
 case first =>
  obtain ⟨A,fe,F⟩:=HL.out
  go_wp2_with fail
  refine bB s (bY eU.drew a0) fun X0 d=>?_
  refine tk 0 d ?_;refine tk 1 d ?_;refine tk 3 d ?_;refine tk 4 d ?_;refine ql 2 7 (fun j f=>?_) (fun j f=>?_)
  ·have hP:=d.2
   go_wp2_with (go_at_call 65;refine (kM _ hP.below).mono ?_;rintro e J ⟨b,v4,rfl,o⟩)
   refine aT f s (ag eU.step hP b) fun d=>?_
   clear f j hP b;refine ql 5 7 (fun j f=>?_) (fun j f=>?_)
   ·have hP:=d.2
    go_wp2_with (go_at_call 64;refine (kT _).mono ?_;rintro e J ⟨b,v5,rfl,x⟩)
    replace o:=o.below b
    refine aT f s (ag eU.step hP b) fun d=>?_
    clear f j hP b;refine ql 6 7 (fun j f=>?_) (fun j f=>?_)
    ·have hP:=d.2
     go_wp2_with (go_at_call 77;refine (kD _ _ _ o x).mono ?_;rintro e J ⟨b,Y,O,m5,S,Z,Q,m6,T,rfl,t,u⟩)
     replace o:=o.below b;replace x:=x.below b
     refine aT f s (ag eU.step hP b) fun d=>?_
     clear f j hP b
     refine rd 7 fun j f=>?_
     have hP:=d.2;obtain ⟨V9,E,l,z,k⟩:=aL hP 96 [vF,vZ,vF,vZ]
     go_wp2_with fail
     rw [E.out];clear E;replace t:=t.below k;replace u:=u.below k
     refine aT f s (ag eU.step hP k) fun d=>?_
     clear f j hP k
     refine rd 8 fun j f=>?_
     have hP:=d.2;obtain ⟨L,M,N,y3,G,H,I,V⟩:=qZ l;obtain ⟨V8,D,B,y,C,U⟩:=kE hP (eU.other (Qg (Qf F z))) (bP A z) (Qd fe z) l (.bool Y) (.slice O m5 S) (.bool Z) (.slice Q m6 T)
     go_wp2_with fail
     rw [D.out];replace t:=t.keep y;replace u:=u.keep y;replace l:=C
     refine aT f s B fun d=>?_
     clear f j hP B D y C U L M N y3 G H I V;refine wpAnyH_done (by kernel_rfl) ?_ _;go_wp2
     go_meet
     exact ⟨⟨_,_,_,_,_,_,_,_,_,rfl,l,t,u⟩,⟨aS,d.2.res,d.2.below,d.2.more,d.2.size⟩⟩
    have hP:=d.2;obtain ⟨V9,E,l,z,k⟩:=aL hP 96 [vF,vZ,vF,vZ]
    go_wp2_with fail
    rw [E.out];clear E;replace o:=o.below k;replace x:=x.below k
    refine aT f s (ag eU.step hP k) fun d=>?_
    clear f j hP k
    refine rd 6 fun j f=>?_
    have hP:=d.2
    go_wp2_with (go_at_call 77;refine (kD _ _ _ o x).mono ?_;rintro e J ⟨b,Y,O,m5,S,Z,Q,m6,T,rfl,t,u⟩)
    replace o:=o.below b;replace x:=x.below b;replace l:=l.below b
    refine aT f s (ag eU.step hP b) fun d=>?_
    clear f j hP b
    refine rd 8 fun j f=>?_
    have hP:=d.2;obtain ⟨L,M,N,y3,G,H,I,V⟩:=qZ l;obtain ⟨V8,D,B,y,C,U⟩:=kE hP (eU.other (Qg (Qf F z))) (bP A z) (Qd fe z) l (.bool Y) (.slice O m5 S) (.bool Z) (.slice Q m6 T)
    go_wp2_with fail
    rw [D.out];replace t:=t.keep y;replace u:=u.keep y;replace l:=C
    refine aT f s B fun d=>?_
    clear f j hP B D y C U L M N y3 G H I V;refine wpAnyH_done (by kernel_rfl) ?_ _;go_wp2
    go_meet
    exact ⟨⟨_,_,_,_,_,_,_,_,_,rfl,l,t,u⟩,⟨aS,d.2.res,d.2.below,d.2.more,d.2.size⟩⟩
   have hP:=d.2;obtain ⟨V9,E,l,z,k⟩:=aL hP 96 [vF,vZ,vF,vZ]
   go_wp2_with fail
   rw [E.out];clear E;replace o:=o.below k
   refine aT f s (ag eU.step hP k) fun d=>?_
   clear f j hP k
   refine rd 5 fun j f=>?_
   have hP:=d.2
   go_wp2_with (go_at_call 64;refine (kT _).mono ?_;rintro e J ⟨b,v5,rfl,x⟩)
   replace o:=o.below b;replace l:=l.below b
   refine aT f s (ag eU.step hP b) fun d=>?_
   clear f j hP b
   refine rd 6 fun j f=>?_
   have hP:=d.2
   go_wp2_with (go_at_call 77;refine (kD _ _ _ o x).mono ?_;rintro e J ⟨b,Y,O,m5,S,Z,Q,m6,T,rfl,t,u⟩)
   replace o:=o.below b;replace l:=l.below b;replace x:=x.below b
   refine aT f s (ag eU.step hP b) fun d=>?_
   clear f j hP b
   refine rd 8 fun j f=>?_
   have hP:=d.2;obtain ⟨L,M,N,y3,G,H,I,V⟩:=qZ l;obtain ⟨V8,D,B,y,C,U⟩:=kE hP (eU.other (Qg (Qf F z))) (bP A z) (Qd fe z) l (.bool Y) (.slice O m5 S) (.bool Z) (.slice Q m6 T)
   go_wp2_with fail
   rw [D.out];replace t:=t.keep y;replace u:=u.keep y;replace l:=C
   refine aT f s B fun d=>?_
   clear f j hP B D y C U L M N y3 G H I V;refine wpAnyH_done (by kernel_rfl) ?_ _;go_wp2
   go_meet
   exact ⟨⟨_,_,_,_,_,_,_,_,_,rfl,l,t,u⟩,⟨aS,d.2.res,d.2.below,d.2.more,d.2.size⟩⟩
  have hP:=d.2;obtain ⟨V9,E,l,z,k⟩:=aL hP 96 [vF,vZ,vF,vZ]
  go_wp2_with fail
  rw [E.out];clear E
  refine aT f s (ag eU.step hP k) fun d=>?_
  clear f j hP k
  refine rd 2 fun j f=>?_
  have hP:=d.2
  go_wp2_with (go_at_call 65;refine (kM _ hP.below).mono ?_;rintro e J ⟨b,v4,rfl,o⟩)
  replace l:=l.below b
  refine aT f s (ag eU.step hP b) fun d=>?_
  clear f j hP b
  refine rd 5 fun j f=>?_
  have hP:=d.2
  go_wp2_with (go_at_call 64;refine (kT _).mono ?_;rintro e J ⟨b,v5,rfl,x⟩)
  replace l:=l.below b;replace o:=o.below b
  refine aT f s (ag eU.step hP b) fun d=>?_
  clear f j hP b
  refine rd 6 fun j f=>?_
  have hP:=d.2
  go_wp2_with (go_at_call 77;refine (kD _ _ _ o x).mono ?_;rintro e J ⟨b,Y,O,m5,S,Z,Q,m6,T,rfl,t,u⟩)
  replace l:=l.below b;replace o:=o.below b;replace x:=x.below b
  refine aT f s (ag eU.step hP b) fun d=>?_
  clear f j hP b
  refine rd 8 fun j f=>?_
  have hP:=d.2;obtain ⟨L,M,N,y3,G,H,I,V⟩:=qZ l;obtain ⟨V8,D,B,y,C,U⟩:=kE hP (eU.other (Qg (Qf F z))) (bP A z) (Qd fe z) l (.bool Y) (.slice O m5 S) (.bool Z) (.slice Q m6 T)
  go_wp2_with fail
  rw [D.out];replace t:=t.keep y;replace u:=u.keep y;replace l:=C
  refine aT f s B fun d=>?_
  clear f j hP B D y C U L M N y3 G H I V;refine wpAnyH_done (by kernel_rfl) ?_ _;go_wp2
  go_meet
  exact ⟨⟨_,_,_,_,_,_,_,_,_,rfl,l,t,u⟩,⟨aS,d.2.res,d.2.below,d.2.more,d.2.size⟩⟩
 case rest =>
  obtain ⟨⟨b3,n3,a3,m3,c3,n4,a4,m4,c4,rfl,r3,i3,-⟩,sM⟩:=hcut;obtain ⟨x0,x1⟩:=aQ r3;clear kT kD dH a0 s HL r3 kM
  go_wp2_with (go_at_call 65;refine (kQ _ _ i3).mono ?_;rintro e w4 ⟨a8,v4,rfl,o⟩;obtain ⟨g,a,m,c,rfl⟩:=o.shape;have a2:=ag eU.step sM a8;obtain ⟨z0,z1,gz,gB,z2,hr,L,M,N,G,H,I⟩:=a2.res.cells)
  obtain ⟨u0,u1,u2⟩:=nC hr (.bool g) (.slice a m c) (vI 0);have hb:=(qa a2 dV (show w.heap.size≤w.heap.size+1 by omega) g a m c 0).below;have hO:=o.keep (yt hr (.bool g) (.slice a m c) (vI 0));exact bodyPost_ret (v:=.agg #[.bool g,.slice a m c,vI 0]) (by simp [results,results48,go_sem,loadCellsFrom,u0,u1,u2]) rfl ⟨hb,_,_,_,_,rfl,hO⟩
theorem Rc (i:Value)(w:World)(h1:mJ w i) :
 CB 26 #[i] w fun e _=>e=.returned (vG 0 0 false none 0 0 ⟨#[]⟩ none 0 0 2):=by
 have r:=fun X (o:bW w X)=>(h1.below o).is
 obtain ⟨q,t,n,j,m1,k,u,m,s,l,rfl⟩:=h1.shape;obtain ⟨E,g,c,b,h⟩:=yP w 27 (lV q t n j m1 k u m s l) 41 (lG 0 0 false none 0 0 ⟨#[]⟩ none 0 0 0);have d:=fC (R:=ni _) (ax b aS) ⟨_,_,_,_,_,_,_,_,_,_,_,h⟩ c;obtain ⟨J,L,M,N,O,Q⟩:=aD b;clear h1 c h b;go_enter func26,ntmps26
 go_upto_region 1 with (fail)
 rw [g.out];clear g
 go_wp2_with (go_at_call 20;with_reducible refine (r _ d.below).mono ?_;rintro e w1 ⟨a,rfl⟩;have f:=ag ni.step d a;obtain ⟨z0,z1,z2,z3,F,G,z4,z5,H,I,z6,hr,y0,y1,y2,y3,y4,y5,y6,S,T,U,V,Y,Z,f6⟩:=f.res.cells)
 obtain ⟨x,y,z,A,B,C,D⟩:=wO hr (vI 0) (vI 0) vF vZ vE vZ (vI 2);have p:=(uS f (aZ (by omega) dV) (by omega) 0 0 false none 0 0 ⟨#[]⟩ none 0 0 2).below;exact bodyPost_ret (v:=vG 0 0 false none 0 0 ⟨#[]⟩ none 0 0 2) (by simp [results,results26,go_sem,loadCellsFrom,x,y,z,A,B,C,D]) rfl ⟨p,rfl⟩
theorem PD (i:Value)(places:Int)(w:World)(h1:mJ w i) :
 CB 44 #[i,vI places] w fun e _=>e=.returned (vG 0 0 false none 0 0 ⟨#[]⟩ none 0 0 2):=by
 have r:=fun X (o:bW w X)=>(h1.below o).is
 obtain ⟨q,t,n,j,m1,k,u,m,s,l,rfl⟩:=h1.shape;obtain ⟨E,g,c,b,h⟩:=yP w 27 (lV q t n j m1 k u m s l) 41 (lG 0 0 false none 0 0 ⟨#[]⟩ none 0 0 0);have d:=fC (R:=ni _) (ax b aS) ⟨_,_,_,_,_,_,_,_,_,_,_,h⟩ c;obtain ⟨J,L,M,N,O,Q⟩:=aD b;clear h1 c h b;go_enter func44,ntmps44
 go_upto_region 1 with (fail)
 rw [g.out];clear g
 go_wp2_with (go_at_call 20;with_reducible refine (r _ d.below).mono ?_;rintro e w1 ⟨a,rfl⟩;have f:=ag ni.step d a;obtain ⟨z0,z1,z2,z3,F,G,z4,z5,H,I,z6,hr,y0,y1,y2,y3,y4,y5,y6,S,T,U,V,Y,Z,f6⟩:=f.res.cells)
 obtain ⟨x,y,z,A,B,C,D⟩:=wO hr (vI 0) (vI 0) vF vZ vE vZ (vI 2);have p:=(uS f (aZ (by omega) dV) (by omega) 0 0 false none 0 0 ⟨#[]⟩ none 0 0 2).below;exact bodyPost_ret (v:=vG 0 0 false none 0 0 ⟨#[]⟩ none 0 0 2) (by simp [results,results44,go_sem,loadCellsFrom,x,y,z,A,B,C,D]) rfl ⟨p,rfl⟩
theorem PE (i:Value)(w:World)(h1:mJ w i) :
 CB 47 #[i] w fun e _=>e=.returned (.agg #[vF,vZ,vI 2]):=by
 have r:=fun X (o:bW w X)=>(h1.below o).is
 obtain ⟨q,t,n,j,m1,k,u,m,s,l,rfl⟩:=h1.shape;obtain ⟨A,g,c,b,h⟩:=yP w 27 (lV q t n j m1 k u m s l) 56 [vF,vZ,vI 0];have d:=fC (R:=eU _) (ax b aS) ⟨_,_,_,_,_,h⟩ c;obtain ⟨B,C,D,E,F,G⟩:=aD b;clear h1 c h b;go_enter func47,ntmps47
 go_upto_region 1 with (fail)
 rw [g.out];clear g
 go_wp2_with (go_at_call 20;with_reducible refine (r _ d.below).mono ?_;rintro e w1 ⟨a,rfl⟩;have f:=ag eU.step d a;obtain ⟨S,T,M,L,U,hr,N,O,Q,H,I,J⟩:=f.res.cells)
 obtain ⟨x,y,z⟩:=nC hr vF vZ (vI 2);have p:=(qa f (aZ (by omega) dV) (by omega) false none 0 0 2).below;exact bodyPost_ret (v:=.agg #[vF,vZ,vI 2]) (by simp [results,results47,go_sem,loadCellsFrom,x,y,z]) rfl ⟨p,rfl⟩
theorem PT (i:Value)(w:World)(h1:mJ w i) :
 CB 48 #[i] w fun e _=>e=.returned (.agg #[vF,vZ,vI 2]):=by
 have r:=fun X (o:bW w X)=>(h1.below o).is
 obtain ⟨q,t,n,j,m1,k,u,m,s,l,rfl⟩:=h1.shape;obtain ⟨A,g,c,b,h⟩:=yP w 27 (lV q t n j m1 k u m s l) 56 [vF,vZ,vI 0];have d:=fC (R:=eU _) (ax b aS) ⟨_,_,_,_,_,h⟩ c;obtain ⟨B,C,D,E,F,G⟩:=aD b;clear h1 c h b;go_enter func48,ntmps48
 go_upto_region 1 with (fail)
 rw [g.out];clear g
 go_wp2_with (go_at_call 20;with_reducible refine (r _ d.below).mono ?_;rintro e w1 ⟨a,rfl⟩;have f:=ag eU.step d a;obtain ⟨S,T,M,L,U,hr,N,O,Q,H,I,J⟩:=f.res.cells)
 obtain ⟨x,y,z⟩:=nC hr vF vZ (vI 2);have p:=(qa f (aZ (by omega) dV) (by omega) false none 0 0 2).below;exact bodyPost_ret (v:=.agg #[vF,vZ,vI 2]) (by simp [results,results48,go_sem,loadCellsFrom,x,y,z]) rfl ⟨p,rfl⟩
end Go.Proofs.YtagjhmodblifbaaGreatDoor
