/- proved lemmas -/
import Derived.Test.YtagjhmodblifbaaGreatDoorMA
import Derived.Test.YtagjhmodblifbaaGreatDoorProg
import Derived.Below
import Derived.Test.YtagjhmodblifbaaGreatDoorS00
import Derived.WalkKit
import Derived.RangeFuncNested
import Derived.RangeFuncBound
import Derived.RangeFuncCalls
import Derived.RangeFuncLeaves
import Derived.Shelf.Abstract
import Derived.Shelf.RegionOpen
import Derived.OwnWalkIn
import Derived.TacticsInMore
import Derived.LoopNIn
import Derived.LoopIn
import Derived.Outline
import Derived.WalkLawsBesides
import Derived.WalkSpells
import Derived.Lib.Hide
import Derived.Maps.AppendAt
import Derived.Handy
import Derived.Deep.QuietTactic
import Derived.BigQuiet
import Derived.OrdersIn
import Derived.StillTailTactics
import Derived.Shelf.Strings.Builder1
import Derived.Shelf.Strings.Builder2
import Derived.Shelf.Strings.Trim
import Derived.Shelf.Small.Utf8
import Derived.Shelf.Small.Bits
import Derived.Shelf.Small.Strs
import Derived.Shelf.Small.Wraps
import Derived.Shelf.Strings.BuilderF
import Derived.Shelf.Strconv.Itoa0
import Derived.Shelf.Strings.Search1
import Derived.Shelf.Strings.Prefix
import Derived.Shelf.Bits.Mul64
import Derived.Shelf.Strings.Repeat
import Derived.Ground.Names2Prog
import Derived.Shelf.Slices.SearchI
import Derived.Laws.EntriesVeiled
import Derived.Deep.RegionHeld3
import Derived.Recover
import Derived.LoopN
import Derived.Lib.ItoaNum
import Derived.Laws.CopyOwn
import Derived.Deep.CutRange
import Derived.RegionTactic
import Derived.BigRegion
import Derived.ChangeAlike
import Derived.Laws.OwnMore
import Derived.IntWalk
import Derived.Deep.DeepFit
import Derived.Lib.IndexBytes
import Derived.Deep.LoopGhost
import Derived.Deep.MidRow
import Derived.Test.YtagjhmodblifbaaGreatDoorB00
import Derived.Test.YtagjhmodblifbaaGreatDoorB01
import Derived.Test.YtagjhmodblifbaaGreatDoorB02
import Derived.Test.YtagjhmodblifbaaGreatDoorB03
import Derived.Test.YtagjhmodblifbaaGreatDoorB04
import Derived.Test.YtagjhmodblifbaaGreatDoorB05
import Derived.Test.YtagjhmodblifbaaGreatDoorB06
import Derived.Test.YtagjhmodblifbaaGreatDoorB07
import Derived.Test.YtagjhmodblifbaaGreatDoorB08
import Derived.Test.YtagjhmodblifbaaGreatDoorB09
import Derived.Test.YtagjhmodblifbaaGreatDoorB10
import Derived.Test.YtagjhmodblifbaaGreatDoorB11
import Derived.Test.YtagjhmodblifbaaGreatDoorB12
import Derived.Test.YtagjhmodblifbaaGreatDoorB13
import Derived.Test.YtagjhmodblifbaaGreatDoorB14
import Derived.Test.YtagjhmodblifbaaGreatDoorB15
import Derived.Test.YtagjhmodblifbaaGreatDoorB16
import Derived.Test.YtagjhmodblifbaaGreatDoorB17
import Derived.Test.YtagjhmodblifbaaGreatDoorB18
import Derived.Test.YtagjhmodblifbaaGreatDoorB19
import Derived.Test.YtagjhmodblifbaaGreatDoorB20
import Derived.Test.YtagjhmodblifbaaGreatDoorB21
set_option maxHeartbeats 4000000
set_option maxRecDepth 100000
set_option exponentiation.threshold 100000
namespace Go.Proofs.YtagjhmodblifbaaGreatDoor
open Go.Proofs.Tryz
open Go Go.RowKit Go.Shelf
structure PO (w w1:World) (n1:Bool) (a1:Option Addr) (m1 c1:Nat) (n2:Bool) (a2:Option Addr) (m2 c2:Nat) (X:World):Prop where
 rn:af X w.heap.size 24 (lN n1 a1 m1 c1)
 rd:af X (w.heap.size+1) 24 (lN n2 a2 m2 c2)
 res:∃ z0 z1 z2 z3 z4 z5 z6 z7 z8 z9 zz,af X (w.heap.size+1+1) 41 (lG z0 z1 z2 z3 z4 z5 z6 z7 z8 z9 zz)
 below:bW w X
 more:∀ v xs,Reads .u32 w1 v xs→Reads .u32 X v xs
section
variable {w W0 X X':World} {n1 n2:Bool} {a1 a2:Option Addr} {m1 c1 m2 c2:Nat}
theorem Og (h:PO w W0 n1 a1 m1 c1 n2 a2 m2 c2 X):X.cell? ⟨w.heap.size,0,none⟩=some (.bool n1)∧X.cell? ⟨w.heap.size,1,none⟩=some (.slice a1 m1 c1)∧X.cell? ⟨w.heap.size+1,0,none⟩=some (.bool n2)∧X.cell? ⟨w.heap.size+1,1,none⟩=some (.slice a2 m2 c2)∧PO w W0 n1 a1 m1 c1 n2 a2 m2 c2 X:=⟨h.rn.cell 0,h.rn.cell 1,h.rd.cell 0,h.rd.cell 1,h⟩
theorem Od (h:PO w W0 n1 a1 m1 c1 n2 a2 m2 c2 X)(a:bW X X'):PO w W0 n1 a1 m1 c1 n2 a2 m2 c2 X' :=
 ⟨h.rn.below a,h.rd.below a,(by obtain ⟨c,d,f,g,i,j,k,l,m,n,o,hr⟩:=h.res;exact ⟨c,d,f,g,i,j,k,l,m,n,o,hr.below a⟩),h.below.trans (a.mono h.below.size),fun v xs b=>(h.more v xs b).below a⟩
theorem Rs (h:PO w W0 n1 a1 m1 c1 n2 a2 m2 c2 X):PO w W0 n1 a1 m1 c1 n2 a2 m2 c2 X.drew:=⟨h.rn,h.rd,h.res,h.below.drew,fun v xs a=>h.more v xs a⟩
theorem PT (h:PO w W0 n1 a1 m1 c1 n2 a2 m2 c2 X)(a b:Int)(c:Bool)(d:Option Addr)(f g:Nat)(i:ByteArray)(j:Option Addr)(k l:Nat)(m:Int):PO w W0 n1 a1 m1 c1 n2 a2 m2 c2 (((((((X.setCell ⟨w.heap.size+1+1,0,none⟩ (vI a)).setCell ⟨w.heap.size+1+1,1,none⟩ (vI b)).setCell ⟨w.heap.size+1+1,2,none⟩ (.bool c)).setCell ⟨w.heap.size+1+1,3,none⟩ (.slice d f g)).setCell ⟨w.heap.size+1+1,4,none⟩ (.string i)).setCell ⟨w.heap.size+1+1,5,none⟩ (.slice j k l)).setCell ⟨w.heap.size+1+1,6,none⟩ (vI m)) :=
 ⟨(((((((h.rn.other (show w.heap.size≠w.heap.size+1+1 by omega) _).other (show w.heap.size≠w.heap.size+1+1 by omega) _).other (show w.heap.size≠w.heap.size+1+1 by omega) _).other (show w.heap.size≠w.heap.size+1+1 by omega) _).other (show w.heap.size≠w.heap.size+1+1 by omega) _).other (show w.heap.size≠w.heap.size+1+1 by omega) _).other (show w.heap.size≠w.heap.size+1+1 by omega) _),(((((((h.rd.other (show w.heap.size+1≠w.heap.size+1+1 by omega) _).other (show w.heap.size+1≠w.heap.size+1+1 by omega) _).other (show w.heap.size+1≠w.heap.size+1+1 by omega) _).other (show w.heap.size+1≠w.heap.size+1+1 by omega) _).other (show w.heap.size+1≠w.heap.size+1+1 by omega) _).other (show w.heap.size+1≠w.heap.size+1+1 by omega) _).other (show w.heap.size+1≠w.heap.size+1+1 by omega) _),(by obtain ⟨o,p,q,r,s,t,u,x,y,z,A,hr⟩:=h.res;exact ⟨a,b,c,d,f,g,i,j,k,l,m,((((((hr.set 0 (vI a)).set 1 (vI b)).set 2 (.bool c)).set 3 (.slice d f g)).set 4 (.string i)).set 5 (.slice j k l)).set 6 (vI m)⟩),(((((((h.below.setCell (show w.heap.size≤w.heap.size+1+1 by omega) _).setCell (show w.heap.size≤w.heap.size+1+1 by omega) _).setCell (show w.heap.size≤w.heap.size+1+1 by omega) _).setCell (show w.heap.size≤w.heap.size+1+1 by omega) _).setCell (show w.heap.size≤w.heap.size+1+1 by omega) _).setCell (show w.heap.size≤w.heap.size+1+1 by omega) _).setCell (show w.heap.size≤w.heap.size+1+1 by omega) _),fun v xs n=>by obtain ⟨o,p,q,r,s,t,u,x,y,z,A,hr⟩:=h.res;exact nP hr _ _ _ _ _ _ _ v xs (h.more v xs n)⟩
end
theorem PU {n d:Int}{K:Nat}(h:n.natAbs<aj^K)(b:d≠0):(near n d).natAbs<aj^(K+1):=by
 have a:∀ {n d:Int},n.natAbs<aj^K→0<d→(near n d).natAbs<aj^(K+1):=fun {n d} h b=>by
  have h1:=wy n d b
  have c:(near n d).natAbs≤n.natAbs+2:=by
   unfold near
   split <;> omega
  rw [Qo];rw [show aj^K*aj=aj^K*4294967296 from rfl];generalize aj^K=Y at *;omega
 rcases Xn b with h0 | h0
 ·rw [← Kj]
  exact a (by rw [JU];exact h) (by omega)
 ·exact a h h0
theorem Ol (vn vd:Value)(n d:Int)(w:World)(hn:ak w vn n)(hd:ak w vd d)(Z:n.natAbs<aj^60000)(bd:d.natAbs<aj^60000)(D:d≠0) :
 CB 102 #[vn,vd] w fun e w'=>∃ k0 n0 g a m c s l x y k,e=.returned (vG k0 n0 g a m c s l x y k)∧dP w' (least (near (n*((10^20:Nat):Int)) d) 20).1 (least (near (n*((10^20:Nat):Int)) d) 20).2 k (vV k0 n0 g a m c s l x y):=by
 obtain ⟨p,f,m1,j,rfl⟩:=hn.shape;obtain ⟨n2,a2,m2,c2,rfl⟩:=hd.shape;have U:=dJ w (.cells #[.bool p,.slice f m1 j] 24);have V:=U.alloc U.size (.cells #[.bool n2,.slice a2 m2 c2] 24);have R:=V.alloc V.size (.cells ((lG 0 0 false none 0 0 ⟨#[]⟩ none 0 0 0):List Value).toArray 41)
 have q1:=((af.new w 24 (lN p f m1 j)).alloc (.cells #[.bool n2,.slice a2 m2 c2] 24)).alloc (.cells ((lG 0 0 false none 0 0 ⟨#[]⟩ none 0 0 0):List Value).toArray 41);have q2:=(af.new (w.alloc (.cells #[.bool p,.slice f m1 j] 24)) 24 (lN n2 a2 m2 c2)).alloc (.cells ((lG 0 0 false none 0 0 ⟨#[]⟩ none 0 0 0):List Value).toArray 41)
 have q3:=af.new ((w.alloc (.cells #[.bool p,.slice f m1 j] 24)).alloc (.cells #[.bool n2,.slice a2 m2 c2] 24)) 41 (lG 0 0 false none 0 0 ⟨#[]⟩ none 0 0 0);simp only [Qh] at q2 q3;have O:=hn.below R;have M:=hd.below R
 generalize hW:((w.alloc (.cells #[.bool p,.slice f m1 j] 24)).alloc (.cells #[.bool n2,.slice a2 m2 c2] 24)).alloc (.cells ((lG 0 0 false none 0 0 ⟨#[]⟩ none 0 0 0):List Value).toArray 41)=W0 at *;have HW:=Qa hW
 have hS:PO w W0 p f m1 j n2 a2 m2 c2 W0:=⟨q1,q2,⟨_,_,_,_,_,_,_,_,_,_,_,q3⟩,R,fun _ _ h=>h⟩
 have hD:=Qa (Og (Rs hS));obtain ⟨d1,d2,d3,d4,-⟩:=Og hS;have bt:=qa 20 (by decide)
 have Y:(n*((10^20:Nat):Int)).natAbs<aj^60400:=by
  rw [Zl,show 60400=60000+400 from rfl,Qt];exact Ye Z bt
 have kT:=fun X=>za 20 X (by decide)
 have kM:=fun X v (E:PO w W0 p f m1 j n2 a2 m2 c2 X) (Q:ak X v ((10^20:Nat):Int))=>yl _ v n ((10^20:Nat):Int) X (O.keep E.more) Q (az Z (by decide)) (az bt (by decide))
 have kN:=fun X v (E:PO w W0 p f m1 j n2 a2 m2 c2 X) (Q:ak X v (n*((10^20:Nat):Int)))=>Pz v _ (n*((10^20:Nat):Int)) d X Q (M.keep E.more) (az Y (by decide)) (az bd (by decide)) D
 have r:(near (n*((10^20:Nat):Int)) d).natAbs<aj^60401:=PU Y D;generalize n*((10^20:Nat):Int)=N at *
 have kL:=fun X v (Q:ak X v (near N d))=>yo v (near N d) 20 X Q (az r (by decide)) (by decide)
 clear q1 q2 q3 U V R hn hd hW hS O M Z bd bt Y r D;generalize ((10^20:Nat):Int)=T at *;go_enter func102,ntmps102
 go_upto_region 1 with (fail)
 rw [show ((w.alloc (.cells #[.bool p,.slice f m1 j] 24)).alloc (.cells #[.bool n2,.slice a2 m2 c2] 24)).alloc (.cells ((lG 0 0 false none 0 0 ⟨#[]⟩ none 0 0 0):List Value).toArray 41)=W0 from HW.out];clear HW
 go_wp2_with fail
 refine wp_region_held_drew (S:=(fun X=>X.cell? ⟨w.heap.size,0,none⟩=some (.bool p)∧X.cell? ⟨w.heap.size,1,none⟩=some (.slice f m1 j)∧X.cell? ⟨w.heap.size+1,0,none⟩=some (.bool n2)∧X.cell? ⟨w.heap.size+1,1,none⟩=some (.slice a2 m2 c2)∧PO w W0 p f m1 j n2 a2 m2 c2 X)) (by kernel_rfl) hD.out (fun q=>?_)
 refine wpAnyH_take (i:=0) (oi:=_) (v:=vN p f m1 j) rfl (by kernel_rfl) (by kernel_rfl) (by kernel_rfl) (fun _ _ _ h=>h) (Or.inl ⟨by rfl,fun w C=>by (try dsimp only at C);go_simp⟩) (by assumption) ?_
 refine wpAnyH_take (i:=3) (oi:=_) (v:=vN n2 a2 m2 c2) rfl (by kernel_rfl) (by kernel_rfl) (by kernel_rfl) (fun _ _ _ h=>h) (Or.inl ⟨by rfl,fun w C=>by (try dsimp only at C);go_simp⟩) (by assumption) ?_;simp only [Act.put,Zw];refine wpAnyH_ready (rs:=[1]) (by kernel_rfl) (by simp) ?_;refine QA (o:=_) rfl (fun t b=>?_) QM;rw [if_pos (by rfl)];obtain ⟨-,-,-,-,F⟩:=q
 go_wp2_with (go_at_call 64;refine (kT _).mono ?_;rintro e a3 ⟨H,v5,rfl,hI⟩)
 refine b.out _ _ ?_ (fun q=>?_)
 ·exact Og (Od F H)
 clear b t;refine wpAnyH_ready (rs:=[2]) (by kernel_rfl) (by simp) ?_;refine QA (o:=_) rfl (fun t b=>?_) QM;rw [if_pos (by rfl)];obtain ⟨-,-,-,-,z⟩:=q
 go_wp2_with (go_at_call 63;refine (kM _ _ z hI).mono ?_;rintro e a4 ⟨I,v6,rfl,hJ⟩)
 refine b.out _ _ ?_ (fun q=>?_)
 ·exact Og (Od z I)
 clear b t;refine wpAnyH_ready (rs:=[4]) (by kernel_rfl) (by simp) ?_;refine QA (o:=_) rfl (fun t b=>?_) QM;rw [if_pos (by rfl)];obtain ⟨-,-,-,-,A⟩:=q
 go_wp2_with (go_at_call 118;refine (kN _ _ A hJ).mono ?_;rintro e a5 ⟨J,v7,rfl,hK⟩)
 refine b.out _ _ ?_ (fun q=>?_)
 ·exact Og (Od A J)
 clear b t;refine wpAnyH_ready (rs:=[5]) (by kernel_rfl) (by simp) ?_;refine QA (o:=_) rfl (fun t b=>?_) QM;rw [if_pos (by rfl)];obtain ⟨-,-,-,-,G⟩:=q
 go_wp2_with (go_at_call 91;refine (kL _ _ hK).mono ?_;rintro e a6 ⟨L,k0,n0,g,a,m,c,s,l,x,y,k,rfl,hO⟩)
 refine b.out _ _ ?_ (fun q=>?_)
 ·exact Og (Od G L)
 clear b t;refine wpAnyH_ready (rs:=[6]) (by kernel_rfl) (by simp) ?_;refine QA (o:=_) rfl (fun t b=>?_) QM;rw [if_pos (by rfl)];obtain ⟨-,-,-,-,B⟩:=q;obtain ⟨z0,z1,z2,z3,z4,z5,z6,z7,z8,z9,zz,hr⟩:=B.res;have y0:=hr.cell 0;have y1:=hr.cell 1;have y2:=hr.cell 2;have y3:=hr.cell 3;have y4:=hr.cell 4;have y5:=hr.cell 5;have y6:=hr.cell 6;have f0:=hr.frozen 0;have f1:=hr.frozen 1
 have f2:=hr.frozen 2;have f3:=hr.frozen 3;have f4:=hr.frozen 4;have f5:=hr.frozen 5;have f6:=hr.frozen 6;simp only [Qc,Qe] at y0 y1 y2 y3 y4 y5 y6;clear F z A G hI hJ hK kT kM kN kL hD d1 d2 d3 d4
 go_wp2_with fail
 refine b.out _ _ ?_ (fun q=>?_)
 ·exact Og (PT B _ _ _ _ _ _ _ _ _ _ _)
 clear b t;refine wpAnyH_done (by kernel_rfl) ?_ _;obtain ⟨-,-,-,-,E⟩:=q;have hb:=E.below;have u:=((((((hr.set 0 (vI k0)).set 1 (vI n0)).set 2 (.bool g)).set 3 (.slice a m c)).set 4 (.string s)).set 5 (.slice l x y)).set 6 (vI k);have u0:=u.cell 0;have u1:=u.cell 1;have u2:=u.cell 2;have u3:=u.cell 3;have u4:=u.cell 4;have u5:=u.cell 5;have u6:=u.cell 6
 simp only [QB,Qz,Qc,Qe] at u0 u1 u2 u3 u4 u5 u6;have a0:=hO.keep (nP hr (vI k0) (vI n0) (.bool g) (.slice a m c) (.string s) (.slice l x y) (vI k));clear E u hO hr B
 go_wp2_with fail
 exact bodyPost_ret (v:=vG k0 n0 g a m c s l x y k) (by simp [results,results102,go_sem,loadCellsFrom,u0,u1,u2,u3,u4,u5,u6]) rfl ⟨hb,_,_,_,_,_,_,_,_,_,_,_,rfl,a0⟩
theorem Om {i j:Int}{p q:Nat}(h:iT i p j q):least i p=least j q:=by
 have h1:=yn q j;exact Ki (rU h (wm q j)) h1.1 h1.2.2
theorem nC (a b:Nat):(10:Int)^(a+b)=10^a*10^b:=YC 10 a b
theorem qb {i:Int}{p m:Nat}(h:p≤m)(a:p≤20):i*10^(20 - p)*10^m=i*10^(m - p)*10^20:=by
 rw [Yc,Yc,← nC,← nC,show 20 - p+m=m - p+20 by omega]
theorem PD {i j:Int}{p q:Nat}(a:p≤20)(b:q≤20):least (i*10^(20 - p)+j*10^(20 - q)) 20=least (i*10^(max p q - p)+j*10^(max p q - q)) (max p q):=by
 apply Om;unfold iT;rw [Int.add_mul,Int.add_mul,qb (Nat.le_max_left p q) a,qb (Nat.le_max_right p q) b]
theorem PE {i j:Int}{p q:Nat}(a:p≤20)(b:q≤20):least (i*10^(20 - p)+-(j*10^(20 - q))) 20=least (i*10^(max p q - p) - j*10^(max p q - q)) (max p q):=by
 apply Om;unfold iT;rw [Int.add_mul,Int.sub_mul,Yu,qb (Nat.le_max_left p q) a,qb (Nat.le_max_right p q) b,Int.sub_eq_add_neg]
theorem PV {n d:Int}{a b f i:Nat}(h:a+i=f+b):near (n*10^a) (d*10^b)=near (n*10^f) (d*10^i):=by
 have g:∀ {a b c:Nat},near (n*10^a) (d*10^b)=near (n*10^(a+c)) (d*10^(b+c)):=fun {a b c}=>by
  rw [nC,nC,← Yc,← Yc,Pp _ _ _ (YE (by decide))]
 rcases Nat.le_total a f with h1 | h1
 ·obtain ⟨c,rfl⟩:∃ c,f=a+c:=⟨f - a,by omega⟩
  obtain rfl:i=b+c:=by omega
  exact g
 ·obtain ⟨c,rfl⟩:∃ c,a=f+c:=⟨a - f,by omega⟩
  obtain rfl:b=i+c:=by omega
  exact g.symm
theorem Ph {n d e:Int}{P a b:Nat}(h:(a:Int) - (b:Int)=(P:Int) - e):near (n*10^a) (d*10^b)=fB n d e P:=PV (by omega)
theorem PG (i j:Int)(p q:Nat):near (i*j*10^20) (10^(p+q))=fB (i*j) 1 ((p:Int)+(q:Int)) 20:=by
 have h:=@Ph (i*j) 1 ((p:Int)+(q:Int)) 20 20 (p+q) (by omega);rw [QY] at h;exact h
theorem PH (i j:Int)(p q:Nat):near (i*10^q*10^20) (j*10^p)=fB i j ((p:Int) - (q:Int)) 20:=by
 rw [Yc,← nC];exact Ph (by omega)
theorem dB.is {w:World}{v:Value}{i:Int}{p:Nat}(h:dB w v i p) :
 CB 20 #[v] w fun e _=>e=.returned (.bool true):=by
 obtain ⟨neg,xs,h1,b,-⟩:=h.at;have a:=Pt v _ _ _ _ _ _ w h1;rw [b] at a;exact a
theorem mJ.is {w:World}{v:Value}(h:mJ w v) :
 CB 20 #[v] w fun e _=>e=.returned vF:=by
 obtain ⟨kind,n,neg,xs,s,l,h1,b⟩:=h;have a:=Pt v _ _ _ _ _ _ w h1;rw [b] at a;exact a
theorem dG.below {W a:World}{k0:Int}{x:Int × Nat}{k:Int}{v:Value}(h:dG W k0 x k v)(b:bW W a):dG a k0 x k v:=h.keep fun _ _ c=>c.below b
theorem xe {i:Int}(hi:i.natAbs<aj^40){n:Nat}(a:n≤3000):(i*((10^n:Nat):Int)).natAbs<aj^440:=by
 rw [Zl,show 440=40+400 from rfl,Qt];exact Ye hi (qa n a)
def nR (x y:Int × Nat):Int × Nat:=least (x.1*((10^(max x.2 y.2 - x.2):Nat):Int) - y.1*((10^(max x.2 y.2 - y.2):Nat):Int)) (max x.2 y.2)
def eU (m l:Nat)(s:ByteArray):Bool:=decide (m≤60)&&(decide (l≤100)&&decide (s.size≤3000))
theorem Oh {m l:Nat}{s:ByteArray}(h:60<m):eU m l s=false:=by unfold eU;rw [decide_eq_false (by omega)];rfl
theorem Oi {m l:Nat}{s:ByteArray}(h:100<l):eU m l s=false:=by unfold eU;rw [decide_eq_false (p:=l≤100) (by omega),ZP,Bool.and_false]
theorem Oj {m l:Nat}{s:ByteArray}(h:3000<s.size):eU m l s=false:=by unfold eU;rw [decide_eq_false (p:=s.size≤3000) (by omega),Bool.and_false,Bool.and_false]
theorem Oc {m l:Nat}{s:ByteArray}(h1:¬60<m)(a:¬100<l)(b:¬3000<s.size):eU m l s=true:=by unfold eU;rw [decide_eq_true (by omega),decide_eq_true (by omega),decide_eq_true (by omega)];rfl
theorem Ry (b:Nat){s t:Int}{q:Bool}{m p:Option Addr}{m1 n f o:Nat}{g:ByteArray}(w:World)(hr:af w b 27 (lV s t q m m1 n g p f o)) :
  Calls prog 17 #[.slice (some ⟨b,0,none⟩) 1 1] w fun e u=>w=u∧e=.returned (.bool (eU m1 f g)):=by
 have r:=eY b 1 0 (by decide);simp only [QC,QI] at r;obtain ⟨v,x,y⟩:=Rt hr;clear hr
 by_cases a:60<m1
 case pos =>
  have i:decide ((60:Int)<(m1:Int))=true:=decide_eq_true (by omega);have h:=Qa (show (eU m1 f g)=false by rw [Oh a] <;> simp);clear  a;go_enter func17,ntmps17
  go_wp2_with fail
  refine wp_loop_rounds 2 ?_;rw [rounds_succ]
  go_wp2_with fail
  go_ret;exact ⟨rfl,by rw [h.out];rfl⟩
 have i:decide ((60:Int)<(m1:Int))=false:=decide_eq_false (by omega)
 by_cases c:100<f
 case pos =>
  have j:decide ((100:Int)<(f:Int))=true:=decide_eq_true (by omega);have h:=Qa (show (eU m1 f g)=false by rw [Oi c] <;> simp);clear  c;go_enter func17,ntmps17
  go_wp2_with fail
  refine wp_loop_rounds 2 ?_;rw [rounds_succ]
  go_wp2_with fail
  go_ret;exact ⟨rfl,by rw [h.out];rfl⟩
 have j:decide ((100:Int)<(f:Int))=false:=decide_eq_false (by omega)
 by_cases d:3000<g.size
 case pos =>
  have k:decide ((3000:Int)<(g.size:Int))=true:=decide_eq_true (by omega);have h:=Qa (show (eU m1 f g)=false by rw [Oj d] <;> simp);clear  d;go_enter func17,ntmps17
  go_wp2_with fail
  refine wp_loop_rounds 2 ?_;rw [rounds_succ]
  go_wp2_with fail
  go_ret;exact ⟨rfl,by rw [h.out];rfl⟩
 have k:decide ((3000:Int)<(g.size:Int))=false:=decide_eq_false (by omega);have l:=Oc a c d;clear a c d;have h:=Qa (show (eU m1 f g)=true by rw [l] <;> rfl);clear l;go_enter func17,ntmps17
 go_wp2_with fail
 refine wp_loop_rounds 2 ?_;rw [rounds_succ]
 go_wp2_with fail
 rw [rounds_succ]
 go_wp2_with fail
 go_ret;exact ⟨rfl,by rw [h.out];rfl⟩
theorem Ru (b:Nat){L N:Int}{G:Bool}{C F:Option Addr}{m1 D c E:Nat}{f:ByteArray}{M n2:Int}{H:Bool}{a2 gm:Option Addr}{m2 c2 d gp:Nat}{g:ByteArray}(w:World)(hr:af w b 27 [vI L,vI N,.bool G,.slice C m1 D,.string f,.slice F c E,vI M,vI n2,.bool H,.slice a2 m2 c2,.string g,.slice gm d gp]) :
  Calls prog 17 #[.slice (some ⟨b,0,none⟩) 2 2] w fun e O=>w=O∧e=.returned (.bool (eU m1 c f&&eU m2 d g)):=by
 have I:=eY b 2 0 (by decide);simp only [QC,QI] at I;have u:=hr.cell 3;have v:=hr.cell 4;have x:=hr.cell 5;have J:=eY b 2 1 (by decide);simp only [JK,QD] at J;have y:=hr.cell 9;have z:=hr.cell 10;have A:=hr.cell 11;simp only [Qc,Qe] at u v x y z A;clear hr
 by_cases h:60<m1
 case pos =>
  have o:decide ((60:Int)<(m1:Int))=true:=decide_eq_true (by omega);have a:=Qa (show (eU m1 c f&&eU m2 d g)=false by rw [Oh h] <;> simp);clear  h;go_enter func17,ntmps17
  go_wp2_with fail
  refine wp_loop_rounds 3 ?_;rw [rounds_succ]
  go_wp2_with fail
  go_ret;exact ⟨rfl,by rw [a.out];rfl⟩
 have o:decide ((60:Int)<(m1:Int))=false:=decide_eq_false (by omega)
 by_cases i:100<c
 case pos =>
  have p:decide ((100:Int)<(c:Int))=true:=decide_eq_true (by omega);have a:=Qa (show (eU m1 c f&&eU m2 d g)=false by rw [Oi i] <;> simp);clear  i;go_enter func17,ntmps17
  go_wp2_with fail
  refine wp_loop_rounds 3 ?_;rw [rounds_succ]
  go_wp2_with fail
  go_ret;exact ⟨rfl,by rw [a.out];rfl⟩
 have p:decide ((100:Int)<(c:Int))=false:=decide_eq_false (by omega)
 by_cases j:3000<f.size
 case pos =>
  have q:decide ((3000:Int)<(f.size:Int))=true:=decide_eq_true (by omega);have a:=Qa (show (eU m1 c f&&eU m2 d g)=false by rw [Oj j] <;> simp);clear  j;go_enter func17,ntmps17
  go_wp2_with fail
  refine wp_loop_rounds 3 ?_;rw [rounds_succ]
  go_wp2_with fail
  go_ret;exact ⟨rfl,by rw [a.out];rfl⟩
 have q:decide ((3000:Int)<(f.size:Int))=false:=decide_eq_false (by omega);have n:=Oc h i j;clear h i j
 by_cases k:60<m2
 case pos =>
  have r:decide ((60:Int)<(m2:Int))=true:=decide_eq_true (by omega);have a:=Qa (show (eU m1 c f&&eU m2 d g)=false by rw [Oh k,n] <;> simp);clear n k;go_enter func17,ntmps17
  go_wp2_with fail
  refine wp_loop_rounds 3 ?_;rw [rounds_succ]
  go_wp2_with fail
  rw [rounds_succ]
  go_wp2_with fail
  go_ret;exact ⟨rfl,by rw [a.out];rfl⟩
 have r:decide ((60:Int)<(m2:Int))=false:=decide_eq_false (by omega)
 by_cases l:100<d
 case pos =>
  have s:decide ((100:Int)<(d:Int))=true:=decide_eq_true (by omega);have a:=Qa (show (eU m1 c f&&eU m2 d g)=false by rw [Oi l,n] <;> simp);clear n l;go_enter func17,ntmps17
  go_wp2_with fail
  refine wp_loop_rounds 3 ?_;rw [rounds_succ]
  go_wp2_with fail
  rw [rounds_succ]
  go_wp2_with fail
  go_ret;exact ⟨rfl,by rw [a.out];rfl⟩
 have s:decide ((100:Int)<(d:Int))=false:=decide_eq_false (by omega)
 by_cases m:3000<g.size
 case pos =>
  have t:decide ((3000:Int)<(g.size:Int))=true:=decide_eq_true (by omega);have a:=Qa (show (eU m1 c f&&eU m2 d g)=false by rw [Oj m,n] <;> simp);clear n m;go_enter func17,ntmps17
  go_wp2_with fail
  refine wp_loop_rounds 3 ?_;rw [rounds_succ]
  go_wp2_with fail
  rw [rounds_succ]
  go_wp2_with fail
  go_ret;exact ⟨rfl,by rw [a.out];rfl⟩
 have t:decide ((3000:Int)<(g.size:Int))=false:=decide_eq_false (by omega);have B:=Oc k l m;clear k l m;have a:=Qa (show (eU m1 c f&&eU m2 d g)=true by rw [n,B] <;> rfl);clear n B;go_enter func17,ntmps17
 go_wp2_with fail
 refine wp_loop_rounds 3 ?_;rw [rounds_succ]
 go_wp2_with fail
 rw [rounds_succ]
 go_wp2_with fail
 rw [rounds_succ]
 go_wp2_with fail
 go_ret;exact ⟨rfl,by rw [a.out];rfl⟩
theorem Ox (H I:Value)(i:Int)(p:Nat)(j:Int)(q:Nat)(r:Int)(d:Nat)(w:World)(h1:dB w H i p)(f:dB w I j q)(A:least (i*((10^(max p q - p):Nat):Int) - j*((10^(max p q - q):Nat):Int)) (max p q)=(r,d))(hf:r.natAbs<aj^40) :
 CB 94 #[H,I,.func (.func 96) #[] #[]] w fun e w'=>∃ g a m c la lc,e=.returned (vV 3 d g a m c ⟨#[]⟩ la 0 lc)∧ak w' (vN g a m c) r:=by
 have D:=fun X (V:bW w X)=>wU H I i p j q X (h1.below V) (f.below V)
 have hp:=h1.hi;have hq:=f.hi;have N:=iF h1.abs (show max p q - p≤40 by omega);have oP:=iF f.abs (show max p q - q≤40 by omega);obtain ⟨n1,a1,m1,c1,cu,cB,rfl,-⟩:=h1.shape;obtain ⟨n2,a2,m2,c2,gm,gp,rfl,-⟩:=f.shape;generalize i*((10^(max p q - p):Nat):Int)=x at *;generalize j*((10^(max p q - q):Nat):Int)=y at *
 obtain ⟨M,T⟩:∃ M,max p q=M:=⟨_,rfl⟩
 have h:M≤20:=by omega
 rw [T] at D A
 have bs:(x - y).natAbs<aj^51:=by rw [Int.sub_eq_add_neg];exact xu N (by rw [JU];exact oP)
 have kO:=fun X v v' (B:ak X v x) (C:ak X v' y)=>Fj v v' x y X B C (az N (by decide)) (az oP (by decide)) (az bs (by decide))
 generalize x - y=z at *
 have kM:=fun X v (B:ak X v z)=>mO v z M r d X B (by omega) (az bs (by decide)) A hf
 obtain ⟨W0,U,L,F,G,qr⟩:=BC w 27 (lV 3 p n1 a1 m1 c1 ⟨#[]⟩ cu 0 cB) 27 (lV 3 q n2 a2 m2 c2 ⟨#[]⟩ gm 0 gp);have Q:=fC (R:=bI _) (ax F (ax G aS)) ⟨_,_,_,_,_,_,_,_,_,_,qr⟩ L;obtain ⟨d0,d1,d2,d3,d4,d5⟩:=aD F;obtain ⟨e0,e1,e2,e3,e4,e5⟩:=aD G;have hP:=Q.nil;clear h1 f hp hq T A hf L F G qr Q bs h;go_enter func94,ntmps94
 go_upto_region 1 with (fail)
 rw [U.out];clear U
 go_cut [7,8,9] from 10 to 16 (fun v7 v8 v9 W=>kJ W v7 x∧kJ W v8 y∧v9=vI M∧fI w W0 (bI (w.heap.size+1+1)) [] W)
 case first =>
  go_wp2_with (go_at_call 86;refine (D _ hP.below).mono ?_;rintro e w1 ⟨b,g,a,m,c,S,J,Y,O,rfl,l,n⟩)
  go_meet
  have Z:=dJ w1 (.cells #[.bool g,.slice a m c] 24);have E:=Z.alloc Z.size (.cells #[.bool S,.slice J Y O] 24);exact ⟨⟨_,_,_,_,_,rfl,(af.new w1 24 (lN g a m c)).alloc _,l.below E⟩,⟨_,_,_,_,_,rfl,(af.new (w1.alloc (.cells #[.bool g,.slice a m c] 24)) 24 (lN S J Y O)).at (by simp),n.below E⟩,rfl,ag bI.step (ag bI.step hP b) E⟩
 case rest =>
  obtain ⟨⟨b7,n7,a7,m7,c7,rfl,r7,i7⟩,⟨b8,n8,a8,m8,c8,rfl,r8,i8⟩,rfl,sM⟩:=hcut;obtain ⟨x0,x1⟩:=aQ r7;obtain ⟨x2,x3⟩:=aQ r8;clear D d0 d1 d2 d3 d4 d5 e0 e1 e2 e3 e4 e5 r7 r8 hP
  go_wp2_with (first | (go_at_call 83;refine (kM _ _ n).mono ?_;rintro e w3 ⟨u,g,a,m,c,la,lc,rfl,hC⟩;have k:=ag bI.step s u;obtain ⟨z0,z1,z2,z3,aI,aJ,z4,z5,aN,aO,hr,y0,y1,y2,y3,y4,y5,f0,f1,f2,f3,f4,f5⟩:=k.res.cells) | (go_at_call 152;refine (eZ _ _ _ l).mono ?_;rintro e w2 ⟨t,v6,rfl,n⟩;have s:=ag bI.step o t) | (go_at_call 96;refine (kO _ _ _ i7 i8).mono ?_;rintro e w1 ⟨b,v5,rfl,l⟩;obtain ⟨g5,a5,m5,c5,rfl⟩:=l.shape;have o:=ag bI.step sM b))
  obtain ⟨u0,u1,u2,u3,u4,u5⟩:=dD hr (vI 3) (vI d) (.bool g) (.slice a m c) vE (.slice la 0 lc);have hb:=(gF k dV (show w.heap.size≤w.heap.size+1+1 by omega) 3 (d:Int) g a m c ⟨#[]⟩ la 0 lc).below;have hO:=hC.keep (bQ hr (vI 3) (vI d) (.bool g) (.slice a m c) vE (.slice la 0 lc))
  exact bodyPost_ret (v:=vV 3 d g a m c ⟨#[]⟩ la 0 lc) (by simp [results,results94,go_sem,loadCellsFrom,u0,u1,u2,u3,u4,u5]) rfl ⟨hb,_,_,_,_,_,_,rfl,hO⟩
theorem Ot (E F:Value)(i:Int)(p:Nat)(j:Int)(q:Nat)(w:World)(h1:dB w E i p)(d:dB w F j q)(hf:¬(least (i*((10^(max p q - p):Nat):Int) - j*((10^(max p q - q):Nat):Int)) (max p q)).1.natAbs<aj^40) :
 CB 94 #[E,F,.func (.func 96) #[] #[]] w fun e _=>e=pK 3:=by
 have A:=fun X (S:bW w X)=>wU E F i p j q X (h1.below S) (d.below S)
 have hp:=h1.hi;have hq:=d.hi;have I:=iF h1.abs (show max p q - p≤40 by omega);have V:=iF d.abs (show max p q - q≤40 by omega);obtain ⟨n1,a1,m1,c1,cu,cB,rfl,-⟩:=h1.shape;obtain ⟨n2,a2,m2,c2,gm,gp,rfl,-⟩:=d.shape;generalize i*((10^(max p q - p):Nat):Int)=x at *;generalize j*((10^(max p q - q):Nat):Int)=y at *
 obtain ⟨M,O⟩:∃ M,max p q=M:=⟨_,rfl⟩
 have f:M≤20:=by omega
 rw [O] at A hf
 have bs:(x - y).natAbs<aj^51:=by rw [Int.sub_eq_add_neg];exact xu I (by rw [JU];exact V)
 have kO:=fun X v Z (t:ak X v x) (u:ak X Z y)=>Fj v Z x y X t u (az I (by decide)) (az V (by decide)) (az bs (by decide))
 generalize x - y=z at *
 have kM:=fun X v (t:ak X v z)=>lS v z M X t (by omega) (az bs (by decide)) hf
 obtain ⟨W0,Q,H,C,D,Y⟩:=BC w 27 (lV 3 p n1 a1 m1 c1 ⟨#[]⟩ cu 0 cB) 27 (lV 3 q n2 a2 m2 c2 ⟨#[]⟩ gm 0 gp);have L:=fC (R:=bI _) (ax C (ax D aS)) ⟨_,_,_,_,_,_,_,_,_,_,Y⟩ H;obtain ⟨d0,d1,d2,d3,d4,d5⟩:=aD C;obtain ⟨e0,e1,e2,e3,e4,e5⟩:=aD D;have hP:=L.nil;clear h1 d hp hq O hf H C D Y L bs f;go_enter func94,ntmps94
 go_upto_region 1 with (fail)
 rw [Q.out];clear Q
 go_cut [7,8,9] from 10 to 16 (fun v7 v8 v9 W=>kJ W v7 x∧kJ W v8 y∧v9=vI M∧fI w W0 (bI (w.heap.size+1+1)) [] W)
 case first =>
  go_wp2_with (go_at_call 86;refine (A _ hP.below).mono ?_;rintro e w1 ⟨b,g,a,m,c,N,G,T,J,rfl,h,k⟩)
  go_meet
  have U:=dJ w1 (.cells #[.bool g,.slice a m c] 24);have B:=U.alloc U.size (.cells #[.bool N,.slice G T J] 24);exact ⟨⟨_,_,_,_,_,rfl,(af.new w1 24 (lN g a m c)).alloc _,h.below B⟩,⟨_,_,_,_,_,rfl,(af.new (w1.alloc (.cells #[.bool g,.slice a m c] 24)) 24 (lN N G T J)).at (by simp),k.below B⟩,rfl,ag bI.step (ag bI.step hP b) B⟩
 case rest =>
  obtain ⟨⟨b7,n7,a7,m7,c7,rfl,r7,i7⟩,⟨b8,n8,a8,m8,c8,rfl,r8,i8⟩,rfl,sM⟩:=hcut;obtain ⟨x0,x1⟩:=aQ r7;obtain ⟨x2,x3⟩:=aQ r8;clear A d0 d1 d2 d3 d4 d5 e0 e1 e2 e3 e4 e5 r7 r8 hP
  go_wp2_with (first | (go_at_call 83;refine (kM _ _ k).mono ?_;rintro e w3 ⟨s,rfl⟩;have o:=ag bI.step n s) | (go_at_call 152;refine (eZ _ _ _ h).mono ?_;rintro e w2 ⟨r,v6,rfl,k⟩;have n:=ag bI.step l r) | (go_at_call 96;refine (kO _ _ _ i7 i8).mono ?_;rintro e w1 ⟨b,v5,rfl,h⟩;obtain ⟨g5,a5,m5,c5,rfl⟩:=h.shape;have l:=ag bI.step sM b))
  exact ⟨rfl,o.below,rfl⟩
theorem Pq (A B:Nat){C n2:Bool}{k a2 o gm:Option Addr}{m1 l n m2 c2 gp p q:Nat}{i j:Int}{r:Int}{b:Nat}(w:World)(t:af w A 27 (lV 3 p C k m1 l ⟨#[]⟩ o 0 n))(u:af w B 27 (lV 3 q n2 a2 m2 c2 ⟨#[]⟩ gm 0 gp))(h1:dB w (vV 3 p C k m1 l ⟨#[]⟩ o 0 n) i p)(s:dB w (vV 3 q n2 a2 m2 c2 ⟨#[]⟩ gm 0 gp) j q)(z:nR (i,p) (j,q)=(r,b))(hf:r.natAbs<aj^40) :
 CB 95 #[vP A,vP B] w fun e Q=>∃ v,e=.returned v∧dX Q v r b:=by
 have G:=fun X (y:bW w X)=>Ox _ _ i p j q r b X (h1.below y) (s.below y) z hf
 obtain ⟨R,x,d,H⟩:=qD w;have ra:=t.below d;have rb:=u.below d;obtain ⟨S,T,U,V,Y,Z⟩:=aD ra;obtain ⟨e0,e1,e2,e3,e4,e5⟩:=aD rb;clear h1 s t u ra rb z hf;go_enter func95,ntmps95
 go_upto_region 1 with (fail)
 rw [x.out];clear x
 go_wp2_with (go_at_call 94;refine (G _ d).mono ?_;rintro e w1 ⟨f,g,a,m,c,la,lc,rfl,E⟩;have h:=H.below f;obtain ⟨y0,y1,y2,y3,y4,y5,f0,f1,f2,f3,f4,f5⟩:=df h)
 obtain ⟨I,J,L,M,N,O⟩:=dD h (vI 3) (vI b) (.bool g) (.slice a m c) vE (.slice la 0 lc);have D:=d.trans (f.mono d.size)
 have F:=((((((D.setCell (Qb _) (p:=⟨w.heap.size,0,none⟩) (vI 3)).setCell (Qb _) (p:=⟨w.heap.size,1,none⟩) (vI b)).setCell (Qb _) (p:=⟨w.heap.size,2,none⟩) (.bool g)).setCell (Qb _) (p:=⟨w.heap.size,3,none⟩) (.slice a m c)).setCell (Qb _) (p:=⟨w.heap.size,4,none⟩) vE).setCell (Qb _) (p:=⟨w.heap.size,5,none⟩) (.slice la 0 lc))
 exact bodyPost_ret (v:=vV 3 b g a m c ⟨#[]⟩ la 0 lc) (by simp [results,results95,go_sem,loadCellsFrom,I,J,L,M,N,O]) rfl ⟨F,_,rfl,g,a,m,c,la,lc,rfl,E.keep (bQ h (vI 3) (vI b) (.bool g) (.slice a m c) vE (.slice la 0 lc))⟩
theorem Pj (A B:Nat){o n2:Bool}{c a2 g gm:Option Addr}{m1 d f m2 c2 gp p q:Nat}{i j:Int}(w:World)(k:af w A 27 (lV 3 p o c m1 d ⟨#[]⟩ g 0 f))(l:af w B 27 (lV 3 q n2 a2 m2 c2 ⟨#[]⟩ gm 0 gp))(h1:dB w (vV 3 p o c m1 d ⟨#[]⟩ g 0 f) i p)(h:dB w (vV 3 q n2 a2 m2 c2 ⟨#[]⟩ gm 0 gp) j q)(hf:¬(nR (i,p) (j,q)).1.natAbs<aj^40) :
 CB 95 #[vP A,vP B] w fun e _=>e=pK 3:=by
 have r:=fun X (n:bW w X)=>Ot _ _ i p j q X (h1.below n) (h.below n) hf
 obtain ⟨s,m,a,I⟩:=qD w;have ra:=k.below a;have rb:=l.below a;obtain ⟨t,u,v,x,y,z⟩:=aD ra;obtain ⟨C,D,E,F,G,H⟩:=aD rb;clear h1 h k l ra rb hf;go_enter func95,ntmps95
 go_upto_region 1 with (fail)
 rw [m.out];clear m
 go_wp2_with (go_at_call 94;refine (r _ a).mono ?_;rintro e w1 ⟨b,rfl⟩)
 exact ⟨rfl,a.trans (b.mono a.size),rfl⟩
theorem PW (va vb:Value)(D E:Option (Int × Nat))(w:World)(h1:Fm w va D)(h2:Fm w vb E) :
  Calls prog 29 #[va,vb] w fun e H=>bW w H∧∃ l o q s d f t u g j,∃ k:Int,e=.returned (.tuple #[vV l o q s d f t u g j,vI k])∧dG H (qE (fun _ _=>0) D E) (sQ nR D E) k (vV l o q s d f t u g j):=by
 obtain ⟨O,U,A,J,m1,L,F,N,S,M,rfl⟩:=h1.kY;obtain ⟨Q,n2,B,a2,m2,c2,G,gm,T,gp,rfl⟩:=h2.kY
 have a7:∀ C b,bW w C→af C w.heap.size 27 (lV O U A J m1 L F N S M)→af C (w.heap.size+1) 27 (lV Q n2 B a2 m2 c2 G gm T gp)→af C b 27 [vI O,vI U,.bool A,.slice J m1 L,.string F,.slice N S M,vI Q,vI n2,.bool B,.slice a2 m2 c2,.string G,.slice gm T gp]→Calls prog 88 #[.func (.func 95) #[] #[vP w.heap.size,vP (w.heap.size+1)],.slice (some ⟨b,0,none⟩) 2 2] C fun e H=>bW C H∧∃ l o q s d f t u g j,∃ k:Int,e=.returned (.tuple #[vV l o q s d f t u g j,vI k])∧dG H (qE (fun _ _=>0) D E) (sQ nR D E) k (vV l o q s d f t u g j):=by
  intro C b Z r1 r2 row;refine pE _ _ b 2 C (fun k W v=>dG W (qE (fun _ _=>0) D E) (sQ nR D E) k v) (fun _ _ _ _ h hk=>h.keep hk) (fun I h4 A B g3=>?_)
  have hz:∀ K:Int,K≠0→(qE (fun _ _=>0) D E)=K→∀ W,bW I W→∃ k,(k=0∧pK K=.returned (.tuple #[])∨pK K=pK k)∧dF (fun i=>i=C.heap.size+1+1) I W∧∃ l o q s d f t u g j,af W (C.heap.size+1+1) 27 (lV l o q s d f t u g j)∧dG W (qE (fun _ _=>0) D E) (sQ nR D E) k (vV l o q s d f t u g j):=fun K hK hk W z=>⟨K,.inr rfl,(dF.refl _ I).aU z,0,0,false,none,0,0,⟨#[]⟩,none,0,0,g3.below z,by rw [hk];exact jX hK⟩
  have ja:=row.below h4;have F:=r1.below h4;have G:=r2.below h4;have V:=h1.below (Z.trans (h4.mono Z.size));have X:=h2.below (Z.trans (h4.mono Z.size))
  cases D with
  | none =>
   refine (ug C.heap.size b 95 #[vP w.heap.size,vP (w.heap.size+1)] I A B g3 ja V).mono ?_;rintro e W ⟨z,rfl⟩;exact hz 2 (by decide) rfl W z
  | some x =>
   cases E with
   | none =>
    refine (uh C.heap.size b 95 #[vP w.heap.size,vP (w.heap.size+1)] I A B g3 ja V X).mono ?_;rintro e W ⟨z,rfl⟩;exact hz 2 (by decide) rfl W z
   | some y =>
    have V:dB I _ x.1 x.2:=V;have X:dB I _ y.1 y.2:=X;obtain ⟨n5,a5,m5,c5,ab,ae,e1,-⟩:=V.shape;obtain ⟨n6,a6,m6,c6,ad,ag,e2,-⟩:=X.shape;simp only [Value.agg.injEq,Array.mk.injEq,List.cons.injEq,Value.int.injEq,Value.bool.injEq,Value.slice.injEq,Value.string.injEq,and_true,true_and] at e1 e2;obtain ⟨rfl,rfl,rfl,⟨rfl,rfl,rfl⟩,rfl,rfl,rfl,rfl⟩:=e1
    obtain ⟨rfl,rfl,rfl,⟨rfl,rfl,rfl⟩,rfl,rfl,rfl,rfl⟩:=e2
    by_cases hf:(nR x y).1.natAbs<aj^40
    ·obtain ⟨r,q9,a0⟩:∃ r q9,nR x y=(r,q9):=⟨_,_,rfl⟩
     rw [a0] at hf;refine (uf C.heap.size b 95 #[vP w.heap.size,vP (w.heap.size+1)] I A B g3 ja V X (fun W v=>dX W v r q9) (fun _ _ _ h hk=>h.keep hk) (fun W v h=>?_) (fun W=>by simp [go_sem]) (fun W z=>Pq _ _ W (F.below z) (G.below z) (V.below z) (X.below z) a0 hf)).mono ?_
     ·obtain ⟨n,a,m,c,la,lc,rfl,-⟩:=h
      exact ⟨_,_,_,_,_,_,_,_,_,_,rfl⟩
     ·rintro e W ⟨rfl,hC,l,o,q,s,d,f,t,u,g,j,hr,hD⟩
      refine ⟨0,.inl ⟨rfl,rfl⟩,hC,l,o,q,s,d,f,t,u,g,j,hr,?_⟩;refine lQ ?_
      show dP W (nR x y).1 (nR x y).2 0 _
      rw [a0];unfold dP;rw [if_pos hf];exact ⟨rfl,hD⟩
    ·refine (qc C.heap.size b 95 #[vP w.heap.size,vP (w.heap.size+1)] I A B g3 ja V X (fun W=>by simp [go_sem]) 3 (fun W z=>Pj _ _ W (F.below z) (G.below z) (V.below z) (X.below z) hf)).mono ?_
     rintro e W ⟨z,rfl⟩;refine ⟨3,.inr rfl,(dF.refl _ I).aU z,0,0,false,none,0,0,⟨#[]⟩,none,0,0,g3.below z,?_⟩;refine lQ ?_
     show dP W (nR x y).1 (nR x y).2 3 _
     unfold dP;rw [if_neg hf];exact ⟨rfl,rfl⟩
 obtain ⟨Y,z,b0,q1,q2,qr⟩:=BC w 27 (lV O U A J m1 L F N S M) 27 (lV Q n2 B a2 m2 c2 G gm T gp);have dH:=fC (R:=bI _) (ax q1 (ax q2 aS)) ⟨_,_,_,_,_,_,_,_,_,_,qr⟩ b0;obtain ⟨d0,d1,d2,d3,d4,d5⟩:=aD q1;obtain ⟨e0,e1,e2,e3,e4,e5⟩:=aD q2
 have b5:=b0.alloc b0.size (.cells #[vI O,vI U,.bool A,.slice J m1 L,.string F,.slice N S M,vI Q,vI n2,.bool B,.slice a2 m2 c2,.string G,.slice gm T gp] 27);have gY:=a7 _ Y.heap.size b5 (q1.alloc _) (q2.alloc _) (af.new Y 27 [vI O,vI U,.bool A,.slice J m1 L,.string F,.slice N S M,vI Q,vI n2,.bool B,.slice a2 m2 c2,.string G,.slice gm T gp]);have uZ:=lK
 obtain ⟨R,hR⟩:∃ R:World→Int→Value→Prop,R=fun W k v=>dG W (qE (fun _ _=>0) D E) (sQ nR D E) k v:=⟨_,rfl⟩
 have a8:∀ W W' k v,R W k v→(∀ v xs,Reads .u32 W v xs→Reads .u32 W' v xs)→R W' k v:=by
  rw [hR]
  exact fun _ _ _ _ h hk=>h.keep hk
 replace gY:Calls prog 88 #[.func (.func 95) #[] #[vP w.heap.size,vP (w.heap.size+1)],.slice (some ⟨Y.heap.size,0,none⟩) 2 2] (Y.alloc (.cells ([vI O,vI U,.bool A,.slice J m1 L,.string F,.slice N S M,vI Q,vI n2,.bool B,.slice a2 m2 c2,.string G,.slice gm T gp]:List Value).toArray 27)) fun e H=>Below (Y.alloc (.cells ([vI O,vI U,.bool A,.slice J m1 L,.string F,.slice N S M,vI Q,vI n2,.bool B,.slice a2 m2 c2,.string G,.slice gm T gp]:List Value).toArray 27)).heap.size (Y.alloc (.cells ([vI O,vI U,.bool A,.slice J m1 L,.string F,.slice N S M,vI Q,vI n2,.bool B,.slice a2 m2 c2,.string G,.slice gm T gp]:List Value).toArray 27)) H∧∃ l o q s d f t u g j,∃ k:Int,e=.returned (.tuple #[vV l o q s d f t u g j,vI k])∧R H k (vV l o q s d f t u g j):=by
  refine gY.mono ?_;rintro e w9 ⟨Z,l,o,q,s,d,f,t,u,g,j,k,he,hr⟩;rw [hR];exact ⟨Z,l,o,q,s,d,f,t,u,g,j,k,he,hr⟩
 suffices main:Calls prog 29 #[vV O U A J m1 L F N S M,vV Q n2 B a2 m2 c2 G gm T gp] w fun e H=>bW w H∧∃ l o q s d f t u g j,∃ k:Int,e=.returned (.tuple #[vV l o q s d f t u g j,vI k])∧R H k (vV l o q s d f t u g j) by
  refine main.mono ?_;rintro e w9 ⟨Z,l,o,q,s,d,f,t,u,g,j,k,he,hr⟩;rw [hR] at hr;exact ⟨Z,l,o,q,s,d,f,t,u,g,j,k,he,hr⟩
 have aa:fI w Y (bI (w.heap.size+1+1)) [(w.heap.size,27,(lV O U A J m1 L F N S M)),(w.heap.size+1,27,(lV Q n2 B a2 m2 c2 G gm T gp))] Y:=dH;clear a7 hR h1 h2 b0 q1 q2 dH;go_enter func29,ntmps29
 go_upto_region 1 with (fail)
 rw [z.out];clear z
 go_wp2_with (refine gY.mono ?_;rintro e w3 ⟨a3,l,o,q,s,d,f,t,u,g,j,k,rfl,a4⟩;have b6:=b5.trans (a3.mono b5.size);have q3:=(qr.alloc _).below a3;obtain ⟨y0,y1,y2,y3,y4,y5,f0,D,E,f3,f4,f5⟩:=df q3)
 obtain ⟨u0,u1,u2,u3,u4,u5⟩:=dD q3 (vI l) (vI o) (.bool q) (.slice s d f) (.string t) (.slice u g j)
 have a9:=((((((b6.setCell (show w.heap.size≤w.heap.size+1+1 by omega) (p:=⟨w.heap.size+1+1,0,none⟩) (vI l)).setCell (show w.heap.size≤w.heap.size+1+1 by omega) (p:=⟨w.heap.size+1+1,1,none⟩) (vI o)).setCell (show w.heap.size≤w.heap.size+1+1 by omega) (p:=⟨w.heap.size+1+1,2,none⟩) (.bool q)).setCell (show w.heap.size≤w.heap.size+1+1 by omega) (p:=⟨w.heap.size+1+1,3,none⟩) (.slice s d f)).setCell (show w.heap.size≤w.heap.size+1+1 by omega) (p:=⟨w.heap.size+1+1,4,none⟩) (.string t)).setCell (show w.heap.size≤w.heap.size+1+1 by omega) (p:=⟨w.heap.size+1+1,5,none⟩) (.slice u g j))
 exact bodyPost_ret (v:=.tuple #[vV l o q s d f t u g j,vI k]) (by simp [results,results29,go_sem,loadCellsFrom,u0,u1,u2,u3,u4,u5]) rfl ⟨a9,l,o,q,s,d,f,t,u,g,j,k,rfl,a8 _ _ _ _ a4 (bQ q3 (vI l) (vI o) (.bool q) (.slice s d f) (.string t) (.slice u g j))⟩
def Oe (W:World)(v:Value)(k:Int)(v2:Value)(k2:Int):Prop:=k=k2∧((∃ i p,dX W v i p∧dX W v2 i p)∨(v=pV∧v2=pV))
theorem NY {W:World}{K:Int}{x:Int × Nat}{k b:Int}{v c:Value}(h:dG W K x k v)(a:dG W K x b c):Oe W v k c b:=by
 unfold dG at h a
 by_cases hK:K=0
 ·rw [if_pos hK] at h a
  unfold dP at h a
  by_cases hf:x.1.natAbs<aj^40
  ·rw [if_pos hf] at h a
   exact ⟨h.1.trans a.1.symm,.inl ⟨_,_,h.2,a.2⟩⟩
  ·rw [if_neg hf] at h a
   exact ⟨h.1.trans a.1.symm,.inr ⟨h.2,a.2⟩⟩
 ·rw [if_neg hK] at h a
  exact ⟨h.1.trans a.1.symm,.inr ⟨h.2,a.2⟩⟩
theorem Ov (W:World):ak W (.agg #[.bool false,.slice none 0 0]) 0:=⟨false,_,[],rfl,Reads.nil _ _,iU,rfl,rfl⟩
theorem PI {W:World}{v a:Value}{k c:Int}(h:Oe W v k a c) :
  Calls prog 51 #[v,a] W fun e d=>Below W.heap.size W d∧e=.returned (.bool true):=by
 rcases h.2 with ⟨i,p,h1,b⟩ | ⟨rfl,rfl⟩
 ·exact xD v a i p W h1 b
 ·exact Ho 0 0 ⟨#[]⟩ 0 false none 0 0 none 0 false none 0 0 none 0 0 W (Ov W) (Ov W)
theorem NZ (k0 n0:Int)(g:Bool)(a:Option Addr)(m c:Nat)(s:ByteArray)(la:Option Addr)(l lc:Nat)(k t v:Int)(q:Bool)(d:Option Addr)(m1 j:Nat)(x:ByteArray)(o:Option Addr)(u n:Nat)(b:Int)(w:World)
  (h:Oe w (.agg #[.int .i64 k0,.int .i64 n0,.bool g,.slice a m c,.string s,.slice la l lc]) k (.agg #[.int .i64 t,.int .i64 v,.bool q,.slice d m1 j,.string x,.slice o u n]) b) :
  Calls prog 24 #[.agg #[.int .i64 k0,.int .i64 n0,.bool g,.slice a m c,.string s,.slice la l lc],.int .i64 k,.agg #[.int .i64 t,.int .i64 v,.bool q,.slice d m1 j,.string x,.slice o u n,.int .i64 b]] w fun e E=>Below w.heap.size w E∧e=.returned (.bool true):=by
 obtain ⟨F,C,f,z,A⟩:=yP w 27 [.int .i64 k0,.int .i64 n0,.bool g,.slice a m c,.string s,.slice la l lc] 41 [.int .i64 t,.int .i64 v,.bool q,.slice d m1 j,.string x,.slice o u n,.int .i64 b]
 have D:=fun X (y:Below w.heap.size w X)=>PI (⟨h.1,h.2.elim (fun ⟨i,p,h1,B⟩=>.inl ⟨i,p,h1.below y,B.below y⟩) .inr⟩:Oe X _ k _ b)
 obtain rfl:=h.1;obtain ⟨G,H,I,J,L,M⟩:=aD z;obtain ⟨N,O,Q,R,S,T,U⟩:=jW A;clear h z A;go_enter func24,ntmps24
 go_upto_region 1 with (fail)
 rw [C.out]
 go_wp2_with (go_at_call 51;refine (D _ f).mono ?_;rintro e w1 ⟨r,rfl⟩)
 go_ret;exact ⟨f.trans (r.mono f.size),rfl⟩
end Go.Proofs.YtagjhmodblifbaaGreatDoor
