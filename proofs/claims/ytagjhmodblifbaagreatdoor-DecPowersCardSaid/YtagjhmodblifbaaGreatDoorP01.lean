/- proved lemmas -/
import Derived.Test.YtagjhmodblifbaaGreatDoorP00
set_option maxHeartbeats 4000000
set_option maxRecDepth 100000
set_option exponentiation.threshold 100000
namespace Go.Proofs.YtagjhmodblifbaaGreatDoor
open Go.Proofs.Tryz
open Go Go.RowKit Go.Shelf
section
variable {w1 X X':World} {b:Nat} {n:Bool} {a:Option Addr} {m c:Nat}
end
theorem za {i:Int}{K n L:Nat}(hi:i.natAbs<aj^K)(a:K*n<L):(i^n).natAbs<aj^L:=by
 rw [Xo];have h1:i.natAbs^n≤(aj^K)^n:=QU (Ju hi) n;rw [← Jz] at h1;exact Qr h1 (JV (by decide) a)
structure RD (w w1:World) (n0:Bool) (a0:Option Addr) (m0 c0:Nat) (n1:Bool) (a1:Option Addr) (m1 c1:Nat) (X:World):Prop where
 ra:af X w.heap.size 24 (lN n0 a0 m0 c0)
 rr:af X (w.heap.size+1) 24 (lN false none 0 0)
 ro:af X w1.heap.size 24 (lN n1 a1 m1 c1)
 below:bW w X
 more:bW w1 X
 lt:w.heap.size+1<w1.heap.size
section
variable {w w1 X X':World} {n0 n1:Bool} {a0 a1:Option Addr} {m0 c0 m1 c1:Nat}
theorem RD.step (h:RD w w1 n0 a0 m0 c0 n1 a1 m1 c1 X)(a:bW X X'):RD w w1 n0 a0 m0 c0 n1 a1 m1 c1 X':=⟨h.ra.below a,h.rr.below a,h.ro.below a,h.below.trans (a.mono h.below.size),h.more.trans (a.mono h.more.size),h.lt⟩
theorem RD.set (h:RD w w1 n0 a0 m0 c0 n1 a1 m1 c1 X)(n:Bool)(a:Option Addr)(m c:Nat):RD w w1 n0 a0 m0 c0 n a m c ((X.setCell ⟨w1.heap.size,0,none⟩ (.bool n)).setCell ⟨w1.heap.size,1,none⟩ (.slice a m c)):=by
 have b:=h.lt
 exact ⟨(h.ra.other (show w.heap.size≠w1.heap.size by omega) _).other (show w.heap.size≠w1.heap.size by omega) _,(h.rr.other (show w.heap.size+1≠w1.heap.size by omega) _).other (show w.heap.size+1≠w1.heap.size by omega) _,(h.ro.set 0 (.bool n)).set 1 (.slice a m c),(h.below.setCell (show w.heap.size≤w1.heap.size by omega) _).setCell (show w.heap.size≤w1.heap.size by omega) _,(h.more.setCell (Qb _) _).setCell (Qb _) _,h.lt⟩
end
def RP (w w1:World)(n0:Bool)(a0:Option Addr)(m0 c0:Nat)(i:Int)(n:Nat)(v:Value)(W:World):Prop:=∃ k n1 a1 m1 c1,k≤n∧v=vI k∧RD w w1 n0 a0 m0 c0 n1 a1 m1 c1 W∧ak W (vN n1 a1 m1 c1) (i^k)∧ak W (vN n0 a0 m0 c0) i
theorem PH (Z:Value)(i:Int)(n K:Nat)(w:World)(ha:ak w Z i)(hi:i.natAbs<aj^K)(D:n≤100)(hK:K*n<90000)(j:K<90000) :
 CB 163 #[Z,vI n] w fun e w'=>∃ v,e=.returned v∧ak w' v (i^n):=by
 obtain ⟨n0,o,z,q,rfl⟩:=ha.shape;have G:=dJ w (.cells #[.bool n0,.slice o z q] 24);have C:=G.alloc G.size (.cells #[vF,vZ] 24);have Y:=(af.new w 24 (lN n0 o z q)).alloc (.cells #[vF,vZ] 24);have O:=af.new (w.alloc (.cells #[.bool n0,.slice o z q] 24)) 24 (lN false none 0 0);simp only [Qh] at O
 have U:=fun X=>Au 1 X (by decide) (by decide)
 have s:=ha.below C;clear ha G;go_enter func163,ntmps163
 go_wp2_with (go_at_call 66;refine (U _).mono ?_;rintro e w1 ⟨f,v1,rfl,I⟩;obtain ⟨A,p,m1,r,rfl⟩:=I.shape)
 have d:=dJ w1 (.cells #[.bool A,.slice p m1 r] 24);have u:=f.trans (d.mono f.size)
 have y:RP w w1 n0 o z q i n (vI 0) (w1.alloc (.cells #[.bool A,.slice p m1 r] 24)):=⟨0,A,p,m1,r,QF _,rfl,⟨Y.below u,O.below u,af.new w1 24 (lN A p m1 r),C.trans (u.mono C.size),d,by have:=f.size;simp at this;omega⟩,by rw [Int.pow_zero];exact I.below d,s.below u⟩
 have Q:=Qa y;clear y u d I f Y O C s U;generalize w1.alloc (.cells #[.bool A,.slice p m1 r] 24)=W1 at *
 go_loopw [6] (fun v W=>RP w w1 n0 o z q i n v W) (fun v _=>n - (intOf v).toNat)
 case atStart=>exact Q.out
 case round =>
  clear Q;obtain ⟨k,n2,a2,m2,c2,x,rfl,c,E,L⟩:=hrel;obtain ⟨d1,d2⟩:=aQ c.ra;obtain ⟨d3,d4⟩:=aQ c.ro
  by_cases a:k<n
  ·have R:(i^k).natAbs<aj^90000:=za hi (Qr (Qu K x) hK)
   have V:=yl _ _ (i^k) i wr E L R (az hi (Ju j));rw [← Int.pow_succ] at V;have e1:decide ((k:Int)<(n:Int))=true:=decide_eq_true (by omega);have e2:decide (k<n)=true:=decide_eq_true a;have HN:=Qa (And.intro a (And.intro x D));clear R hi hK j a x D E
   go_wp2_with (go_at_call 63;with_reducible refine V.mono ?_;rintro e w3 ⟨t,v3,rfl,S⟩;obtain ⟨N,F,M,H,rfl⟩:=S.shape;have B:=c.step t;have l:=B.ro.cell 0;have m:=B.ro.cell 1;have s3:=B.ro.frozen 0;have s4:=B.ro.frozen 1;simp only [Qc,Qe] at l m)
   obtain ⟨a,x,D⟩:=HN.out
   have T:wrap64 ((k:Int)+1)=((k+1:Nat):Int):=by unfold wrap64;omega
   have g:=fun v xs h=>bf (v:=v) (xs:=xs) (b:=w1.heap.size) h l m (.bool N) (.slice F M H)
   go_roundw
   case rel=>exact ⟨k+1,N,F,M,H,a,by rw [T],B.set N F M H,S.keep g,(L.below t).keep g⟩
   case measure =>
    rw [T];simp only [intOf,QP];omega
  ·obtain rfl:k=n:=by omega
   have e1:decide ((k:Int)<(k:Int))=false:=decide_eq_false (by omega);have l:=c.rr.cell 0;have m:=c.rr.cell 1;have s3:=c.rr.frozen 0;have s4:=c.rr.frozen 1;simp only [Qc,Qe] at l m;have hb:=c.below
   have g:=fun v xs h=>bf (v:=v) (xs:=xs) (b:=w.heap.size+1) h l m (.bool n2) (.slice a2 m2 c2)
   have J:=E.keep g;obtain ⟨u1,u2⟩:=bA (b:=w.heap.size+1) l m (.bool n2) (.slice a2 m2 c2);clear x a E L c hi hK j D
   go_wp2_with fail
   exact bodyPost_ret (v:=vN n2 a2 m2 c2) (by simp [results,results163,go_sem,loadCellsFrom,u1,u2]) rfl ⟨(hb.setCell (show w.heap.size≤w.heap.size+1 by omega) _).setCell (show w.heap.size≤w.heap.size+1 by omega) _,_,rfl,J⟩
theorem Ry (v:Value)(i:Int)(w:World)(h:ak w v i) :
 CB 164 #[v] w fun e g=>∃ n a m c k,e=.returned (.agg #[.bool n,.slice a m c,vI k])∧fU true true i k g (vN n a m c):=by
 obtain ⟨n,a,m,c,rfl⟩:=h.shape;have hs:=Qa (tT h 300);have b:=dJ w (.cells #[.bool n,.slice a m c] 24)
 by_cases f:m≤300
 ·go_enter func164,ntmps164
  go_wp2;have d:=b.alloc b.size (.cells #[.bool n,.slice a m c,vI 0] 118);refine bodyPost_ret (v:=.agg #[.bool n,.slice a m c,vI 0]) (by simp [results,results164,go_sem,loadCellsFrom]) rfl ⟨d,n,a,m,c,0,rfl,?_⟩;unfold fU;rw [if_pos (by rfl),if_pos (hs.out.1 f)];exact ⟨rfl,h.below d⟩
 ·go_enter func164,ntmps164
  go_wp2;have d:=b.alloc b.size (.cells #[vF,vZ,vI 3] 118);refine bodyPost_ret (v:=.agg #[vF,vZ,vI 3]) (by simp [results,results164,go_sem,loadCellsFrom]) rfl ⟨d,false,none,0,0,3,rfl,?_⟩;unfold fU;rw [if_pos (by rfl),if_neg (fun h=>f (hs.out.2 h))];exact ⟨rfl,rfl⟩
section
variable {w X X':World} {na nb:Bool} {aa ab:Option Addr} {ma ca mb cb:Nat}
end
structure Ri (w:World) (n1:Bool) (a1:Option Addr) (m1 c1:Nat) (n2:Bool) (a2:Option Addr) (m2 c2:Nat) (X:World):Prop where
 rn:af X w.heap.size 24 (lN n1 a1 m1 c1)
 rd:af X (w.heap.size+1) 24 (lN n2 a2 m2 c2)
 rr:af X (w.heap.size+1+1) 24 (lN false none 0 0)
 below:bW w X
section
variable {w X X':World} {n1 n2:Bool} {a1 a2:Option Addr} {m1 c1 m2 c2:Nat}
theorem Ri.step (h:Ri w n1 a1 m1 c1 n2 a2 m2 c2 X)(a:bW X X'):Ri w n1 a1 m1 c1 n2 a2 m2 c2 X':=⟨h.rn.below a,h.rd.below a,h.rr.below a,h.below.trans (a.mono h.below.size)⟩
theorem Ri.set1 (h:Ri w n1 a1 m1 c1 n2 a2 m2 c2 X)(n:Bool)(a:Option Addr)(m c:Nat):Ri w n a m c n2 a2 m2 c2 ((X.setCell ⟨w.heap.size,0,none⟩ (.bool n)).setCell ⟨w.heap.size,1,none⟩ (.slice a m c)) :=
 ⟨(h.rn.set 0 (.bool n)).set 1 (.slice a m c),(h.rd.other (show w.heap.size+1≠w.heap.size by omega) _).other (show w.heap.size+1≠w.heap.size by omega) _,(h.rr.other (show w.heap.size+1+1≠w.heap.size by omega) _).other (show w.heap.size+1+1≠w.heap.size by omega) _,(h.below.setCell (Qb _) _).setCell (Qb _) _⟩
theorem Ri.set2 (h:Ri w n1 a1 m1 c1 n2 a2 m2 c2 X)(n:Bool)(a:Option Addr)(m c:Nat):Ri w n1 a1 m1 c1 n a m c ((X.setCell ⟨w.heap.size+1,0,none⟩ (.bool n)).setCell ⟨w.heap.size+1,1,none⟩ (.slice a m c)) :=
 ⟨(h.rn.other (show w.heap.size≠w.heap.size+1 by omega) _).other (show w.heap.size≠w.heap.size+1 by omega) _,(h.rd.set 0 (.bool n)).set 1 (.slice a m c),(h.rr.other (show w.heap.size+1+1≠w.heap.size+1 by omega) _).other (show w.heap.size+1+1≠w.heap.size+1 by omega) _,(h.below.setCell (show w.heap.size≤w.heap.size+1 by omega) _).setCell (show w.heap.size≤w.heap.size+1 by omega) _⟩
end
structure PR (w w1:World) (b:Nat) (n1:Bool) (a1:Option Addr) (m1 c1:Nat) (n2:Bool) (a2:Option Addr) (m2 c2:Nat) (n3:Bool) (a3:Option Addr) (m3 c3:Nat) (n4:Bool) (a4:Option Addr) (m4 c4:Nat) (X:World):Prop where
 s:Ri w n1 a1 m1 c1 n2 a2 m2 c2 X
 rx:af X b 96 [.bool n3,.slice a3 m3 c3,.bool n4,.slice a4 m4 c4]
 more:bW w1 X
section
variable {w w1 X X':World} {b:Nat} {n1 n2 n3 n4:Bool} {a1 a2 a3 a4:Option Addr} {m1 c1 m2 c2 m3 c3 m4 c4:Nat}
theorem Pz (h:PR w w1 b n1 a1 m1 c1 n2 a2 m2 c2 n3 a3 m3 c3 n4 a4 m4 c4 X):X.cell? ⟨b,2,none⟩=some (.bool n4)∧X.cell? ⟨b,3,none⟩=some (.slice a4 m4 c4)∧X.cell? ⟨w.heap.size+1,0,none⟩=some (.bool n2)∧X.cell? ⟨w.heap.size+1,1,none⟩=some (.slice a2 m2 c2)∧PR w w1 b n1 a1 m1 c1 n2 a2 m2 c2 n3 a3 m3 c3 n4 a4 m4 c4 X:=⟨h.rx.cell 2,h.rx.cell 3,h.s.rd.cell 0,h.s.rd.cell 1,h⟩
theorem Oa (h:PR w w1 b n1 a1 m1 c1 n2 a2 m2 c2 n3 a3 m3 c3 n4 a4 m4 c4 X)(a:bW X X'):PR w w1 b n1 a1 m1 c1 n2 a2 m2 c2 n3 a3 m3 c3 n4 a4 m4 c4 X':=⟨h.s.step a,h.rx.below a,h.more.trans (a.mono h.more.size)⟩
theorem Pp (h:PR w w1 b n1 a1 m1 c1 n2 a2 m2 c2 n3 a3 m3 c3 n4 a4 m4 c4 X):PR w w1 b n1 a1 m1 c1 n2 a2 m2 c2 n3 a3 m3 c3 n4 a4 m4 c4 X.drew:=⟨⟨h.s.rn,h.s.rd,h.s.rr,h.s.below.drew⟩,h.rx,h.more.drew⟩
end
theorem Rz {r d q c:Int}{u:Bool}(f:0<d)(hr:0≤r)(a:dS (r*2) d=c)(b:decide (q % 2=1)=u) :
  (if d.natAbs<2*r.natAbs∨2*r.natAbs=d.natAbs∧q % 2=1 then q+1 else q)=if (decide (c=1) || (decide (c=0)&&u))=true then q+1 else q:=by
 have h:(d.natAbs<2*r.natAbs∨2*r.natAbs=d.natAbs∧q % 2=1)↔(decide (c=1) || (decide (c=0)&&u))=true:=by
  rw [← a,← b];unfold dS;simp only [YI,Jt,decide_eq_true_eq]
  (repeat' split) <;> omega
 simp only [h]
theorem PV (vn vd:Value)(n d:Int)(w:World)(hn:ak w vn n)(hd:ak w vd d)(bn:n.natAbs<aj^79000)(bd:d.natAbs<aj^79000)(aq:d≠0) :
 CB 118 #[vn,vd] w fun e w'=>∃ v,e=.returned v∧ak w' v (near n d):=by
 obtain ⟨n1,a1,m1,c1,rfl⟩:=hn.shape;obtain ⟨n2,a2,m2,c2,rfl⟩:=hd.shape;have a6:=Qa (tV hd);have b1:=dJ w (.cells #[.bool n1,.slice a1 m1 c1] 24);have b2:=b1.alloc b1.size (.cells #[.bool n2,.slice a2 m2 c2] 24);have b3:=b2.alloc b2.size (.cells #[vF,vZ] 24);have q1:=((af.new w 24 (lN n1 a1 m1 c1)).alloc (.cells #[.bool n2,.slice a2 m2 c2] 24)).alloc (.cells #[vF,vZ] 24)
 have q2:=(af.new (w.alloc (.cells #[.bool n1,.slice a1 m1 c1] 24)) 24 (lN n2 a2 m2 c2)).alloc (.cells #[vF,vZ] 24);have q3:=af.new ((w.alloc (.cells #[.bool n1,.slice a1 m1 c1] 24)).alloc (.cells #[.bool n2,.slice a2 m2 c2] 24)) 24 (lN false none 0 0);simp only [Qh] at q2 q3;have p:=hn.below b3;have l:=hd.below b3
 generalize hW:((w.alloc (.cells #[.bool n1,.slice a1 m1 c1] 24)).alloc (.cells #[.bool n2,.slice a2 m2 c2] 24)).alloc (.cells #[vF,vZ] 24)=W0 at *;have HW:=Qa hW
 have M:Ri w n1 a1 m1 c1 n2 a2 m2 c2 W0:=⟨q1,q2,q3,b3⟩
 have HB:=Qa (And.intro bn (And.intro bd aq));clear q1 q2 q3 b1 b2 b3 hn hd hW bn bd aq;go_enter func118,ntmps118
 go_upto_region 1 with (fail)
 rw [HW.out];clear HW;have d3:=M.rd.cell 0;simp only [Qc] at d3
 go_upto_if 8 with (fail)
 have m:=a6.out;clear a6
 go_cut [] from 9 to 12 (fun W=>∃ i g o z x y I U O R,Ri w o z x y I U O R W∧ak W (vN o z x y) i∧ak W (vN I U O R) g∧0<g∧near i g=near n d∧i.natAbs<aj^79000∧g.natAbs<aj^79000)
 case first =>
  cases n2 with
  | false =>
   have HD:=Qa (show ¬d<0 from of_decide_eq_false m.symm);clear m;go_wp2
   go_meet
   exact ⟨n,d,n1,a1,m1,c1,false,a2,m2,c2,M,p,l,by have:=HB.out.2.2;have:=HD.out;omega,rfl,HB.out.1,HB.out.2.1⟩
  | true =>
   have ar:d<0:=of_decide_eq_true m.symm;obtain ⟨d1,d2⟩:=aQ M.rn;have kM:=nC _ _ W0 p;have HD:=Qa ar;clear m ar
   go_upto_region 3 with (go_at_call 65;with_reducible refine kM.mono ?_;rintro e w1 ⟨aa,v1,rfl,a8⟩;obtain ⟨o,z,x,y,rfl⟩:=a8.shape;have B:=M.step aa;have s1:=B.rn.cell 0;have s2:=B.rn.cell 1;have s3:=B.rn.frozen 0;have s4:=B.rn.frozen 1;simp only [Qc,Qe] at s1 s2)
   have ad:=fun v xs h=>bf (v:=v) (xs:=xs) (b:=w.heap.size) h s1 s2 (.bool o) (.slice z x y)
   have am:=B.set1 o z x y;have b0:=a8.keep ad;have b7:=(l.below aa).keep ad;clear s1 s2 s3 s4 B a8 ad M p l d1 d2 d3 kM aa;generalize (w1.setCell ⟨w.heap.size,0,none⟩ (.bool o)).setCell ⟨w.heap.size,1,none⟩ (.slice z x y)=W2 at *;have kM:=nC _ _ W2 b7;obtain ⟨d1,d2⟩:=aQ am.rd
   go_wp2_with (go_at_call 65;with_reducible refine kM.mono ?_;rintro e w3 ⟨ao,v3,rfl,ah⟩;obtain ⟨g3,p3,i3,j3,rfl⟩:=ah.shape;have zb:=am.step ao;have s1:=zb.rd.cell 0;have s2:=zb.rd.cell 1;have s3:=zb.rd.frozen 0;have s4:=zb.rd.frozen 1;simp only [Qc,Qe] at s1 s2)
   go_meet
   have av:=fun v xs h=>bf (v:=v) (xs:=xs) (b:=w.heap.size+1) h s1 s2 (.bool g3) (.slice p3 i3 j3)
   exact ⟨-n,-d,o,z,x,y,g3,p3,i3,j3,zb.set2 g3 p3 i3 j3,(b0.below ao).keep av,ah.keep av,by have:=HD.out;omega,Kj n d,by rw [JU];exact HB.out.1,by rw [JU];exact HB.out.2.1⟩
 case rest =>
  clear M p l d3 HB;clear m;obtain ⟨i,g,o,z,x,y,I,U,O,R,M,p,l,f,gG,bn,bd⟩:=hcut;generalize wc=W3 at *;have HN:=Qa gG;clear gG;have kV:=Cx _ _ i g W3 p l (az bn (by decide)) (az bd (by decide)) (by omega);obtain ⟨d1,d2⟩:=aQ M.rn;obtain ⟨d3,d4⟩:=aQ M.rd;unfold iD at kV
  go_upto_region 5 with (go_at_call 77;with_reducible refine kV.mono ?_;rintro e w4 ⟨ab,A,F,D,E,J,V,Q,S,rfl,hQ,hR⟩)
  have a4:=dJ w4 (.cells #[.bool A,.slice F D E,.bool J,.slice V Q S] 96);have hg:=ab.trans (a4.mono ab.size);have rx:=af.new w4 96 [.bool A,.slice F D E,.bool J,.slice V Q S];have an:=M.step hg;have au:=l.below hg;have a3:=hQ.below a4;have a9:=hR.below a4;clear M p l ab a4 hg hQ hR kV d1 d2 d3 d4
  generalize w4.alloc (.cells #[.bool A,.slice F D E,.bool J,.slice V Q S] 96)=W5 at *;generalize w4.heap.size=b5 at *
  have hL:PR w W5 b5 o z x y I U O R A F D E J V Q S W5:=⟨an,rx,Qj _ _⟩
  clear an rx;have hD:=Qa (Pz (Pp hL));obtain ⟨d1,d2,d3,d4,-⟩:=Pz hL
  have a5:(i.fmod g).natAbs<aj^79000:=by
   have h1:=Int.fmod_lt_of_pos i f;have h2:=Int.fmod_nonneg_of_pos i f;exact Qr (by omega) bd
  have N:0≤i.fmod g:=Int.fmod_nonneg_of_pos i f
  have ae:(i.fdiv g).natAbs<aj^79001:=by
   refine Qr (wy i g f) ?_;rw [Qo];rw [show aj^79000*aj=aj^79000*4294967296 from rfl];generalize aj^79000=Y at *;omega
  have aw:near i g=if g.natAbs<2*(i.fmod g).natAbs∨2*(i.fmod g).natAbs=g.natAbs∧i.fdiv g % 2=1 then i.fdiv g+1 else i.fdiv g:=rfl
  rw [aw] at HN
  obtain ⟨r,hr⟩:∃ r,i.fmod g=r:=⟨_,rfl⟩
  obtain ⟨q,hq⟩:∃ q,i.fdiv g=q:=⟨_,rfl⟩
  rw [hr] at a9 a5 N HN;rw [hq] at a3 ae HN;clear aw hr hq bn
  have kO:=fun X=>Au 2 X (by decide) (by decide)
  have a7:∀ k,1≤k→(2:Int).natAbs<aj^k:=fun k hk=>Qf (show 2<aj^1 by decide) (Ql aP hk)
  have kT:=fun X v (hX:PR w W5 b5 o z x y I U O R A F D E J V Q S X) (hv:ak X v 2)=>yl _ v r 2 X (a9.below hX.more) hv (az a5 (by decide)) (a7 90000 (by decide))
  have ax:(r*2).natAbs<aj^79001:=by
   rw [Zl,Qo];exact Ye a5 (show 2<aj by decide)
  have kC:=fun X v (hX:PR w W5 b5 o z x y I U O R A F D E J V Q S X) (hv:ak X v (r*2))=>Ob v _ (r*2) g X hv (au.below hX.more) 79001 (by decide) ax (az bd (by decide))
  have HH:=Qa (And.intro f (And.intro N (And.intro ae (And.intro HN a7))));clear f N ae HN a5 ax bd a7;have HQ:=Qa (fun X (hX:PR w W5 b5 o z x y I U O R A F D E J V Q S X)=>a3.below hX.more)
  go_cut [6] from 16 to 21 (fun v W=>v=vI (dS (r*2) g)∧PR w W5 b5 o z x y I U O R A F D E J V Q S W)
  case first =>
   go_wp2_with fail
   go_region_held3 (fun X=>X.cell? ⟨b5,2,none⟩=some (.bool J)∧X.cell? ⟨b5,3,none⟩=some (.slice V Q S)∧X.cell? ⟨w.heap.size+1,0,none⟩=some (.bool I)∧X.cell? ⟨w.heap.size+1,1,none⟩=some (.slice U O R)∧PR w W5 b5 o z x y I U O R A F D E J V Q S X)
    (first | with_reducible exact hD.out | (go_split_ands;with_reducible exact Pz (Oa (by assumption) j)))
    (first
     | (go_at_call 66;go_split_ands;with_reducible refine (kO _).mono ?_;rintro e wk ⟨j,v5,rfl,hI⟩)
     | (go_at_call 63;go_split_ands;with_reducible refine (kT _ _ (by assumption) hI).mono ?_;rintro e wk ⟨j,v6,rfl,hJ⟩)
     | (go_at_call 68;go_split_ands;with_reducible refine (kC _ _ (by assumption) hJ).mono ?_;rintro e wk ⟨j,rfl⟩))
   all_goals
    rename_i hX;obtain ⟨-,-,-,-,O1⟩:=hX;go_wp2
    go_meet
    exact ⟨rfl,O1⟩
  case rest =>
   obtain ⟨rfl,a0⟩:=hcut;generalize wc=W6 at *;have al:=a3.below a0.more;have Z:=Qa a0;clear hD hL kO kT kC d1 d2 d3 d4 au a3 a9;obtain ⟨d1,d2⟩:=aQ a0.rx;clear a0;have T:=Rk _ _ W6 al
   obtain ⟨c,hc⟩:∃ c,dS (r*2) g=c:=⟨_,rfl⟩
   obtain ⟨u,hu⟩:∃ u:Bool,decide (q % 2=1)=u:=⟨_,rfl⟩
   rw [hc];rw [hu] at T
   obtain ⟨t,ht⟩:∃ t:Bool,(decide (c=1) || (decide (c=0)&&u))=t:=⟨_,rfl⟩
   have HC:=Qa (And.intro hc (And.intro hu ht))
   have ap:c=-1∨c=0∨c=1:=by rw [← hc];unfold dS;(repeat' split) <;> simp
   clear hc hu
   go_upto_region 6 with (fail)
   go_cut [32] from 22 to 32 (fun v W=>v=.bool t∧PR w W5 b5 o z x y I U O R A F D E J V Q S W)
   case first =>
    have C:=HC.out.2.2
    rcases ap with rfl | rfl | rfl
    ·have et:t=false:=by rw [← C];rfl
     clear ht C HC;go_wp2
     go_meet
     exact ⟨by rw [et],Z.out⟩
    ·have et:t=u:=by rw [← C];simp
     clear ht C HC
     go_wp2_with (go_at_call 126;with_reducible refine T.mono ?_;rintro e w7 ⟨b6,rfl⟩)
     go_meet
     exact ⟨by rw [et],Oa Z.out b6⟩
    ·have et:t=true:=by rw [← C];rfl
     clear ht C HC;go_wp2
     go_meet
     exact ⟨by rw [et],Z.out⟩
   case rest =>
    obtain ⟨rfl,a⟩:=hcut;generalize wc=W7 at *;clear T d1 d2 Z al ht ap
    have ay:near n d=if t=true then q+1 else q:=by
     obtain ⟨hc,hu,ht⟩:=HC.out;obtain ⟨f,N,-,HN,-⟩:=HH.out;rw [← HN.out,← ht];exact Rz f N hc hu
    have ag:=Qa ay;clear ay HC
    cases t with
    | false =>
     have L:=HQ.out _ a;have G:=a.s.rr.cell 0;have H:=a.s.rr.cell 1;have z3:=a.s.rr.frozen 0;have z4:=a.s.rr.frozen 1;obtain ⟨x1,x2⟩:=aQ a.rx;simp only [Qc,Qe] at G H
     go_upto_region 8 with (fail)
     have hk:=fun v xs h=>bf (v:=v) (xs:=xs) (b:=w.heap.size+1+1) h G H (.bool A) (.slice F D E)
     obtain ⟨y1,y2⟩:=bA (b:=w.heap.size+1+1) G H (.bool A) (.slice F D E);have ig:=a.s.below;clear a HQ HH
     go_wp2_with fail
     refine bodyPost_ret (v:=vN A F D E) (by simp [results,results118,go_sem,loadCellsFrom,y1,y2]) rfl ⟨(ig.setCell (show w.heap.size≤w.heap.size+1+1 by omega) _).setCell (show w.heap.size≤w.heap.size+1+1 by omega) _,_,rfl,?_⟩;rw [ag.out];exact L.keep hk
    | true =>
     replace a:=Pp a;have L:=HQ.out _ a;have G:=a.s.rr.cell 0;have H:=a.s.rr.cell 1;have z3:=a.s.rr.frozen 0;have z4:=a.s.rr.frozen 1;obtain ⟨x1,x2⟩:=aQ a.rx;simp only [Qc,Qe] at G H
     have kO:=fun X=>Au 1 X (by decide) (by decide)
     have kS:=fun X v v' (hv:ak X v q) (b8:ak X v' 1)=>xN v v' q 1 79001 X hv b8 (by decide) HH.out.2.2.1 (YY (by decide) (by decide))
     go_wp2_with fail
     go_region_with
      (first
       | (go_at_call 66;with_reducible refine (kO _).mono ?_;rintro e wk ⟨j,vO,rfl,b4⟩;replace a:=Oa a j;clear G H z3 z4 x1 x2;have G:=a.s.rr.cell 0;have H:=a.s.rr.cell 1;have z3:=a.s.rr.frozen 0;have z4:=a.s.rr.frozen 1;have x1:=a.rx.cell 0;have x2:=a.rx.cell 1;simp only [Qc,Qe] at G H x1 x2;replace L:=L.below j)
       | (go_at_call 67;with_reducible refine (kS _ _ _ L b4).mono ?_;rintro e wk ⟨j,vS,rfl,ai⟩;obtain ⟨g9,p9,i9,j9,rfl⟩:=ai.shape;replace a:=Oa a j;clear G H z3 z4 x1 x2;have G:=a.s.rr.cell 0;have H:=a.s.rr.cell 1;have z3:=a.s.rr.frozen 0;have z4:=a.s.rr.frozen 1;have x1:=a.rx.cell 0;have x2:=a.rx.cell 1;simp only [Qc,Qe] at G H x1 x2))
     all_goals
      have hk:=fun v xs h=>bf (v:=v) (xs:=xs) (b:=w.heap.size+1+1) h G H (.bool g9) (.slice p9 i9 j9)
      obtain ⟨y1,y2⟩:=bA (b:=w.heap.size+1+1) G H (.bool g9) (.slice p9 i9 j9);have ig:=a.s.below;clear a HQ HH
      go_wp2_with fail
      refine bodyPost_ret (v:=vN g9 p9 i9 j9) (by simp [results,results118,go_sem,loadCellsFrom,y1,y2]) rfl ⟨(ig.setCell (show w.heap.size≤w.heap.size+1+1 by omega) _).setCell (show w.heap.size≤w.heap.size+1+1 by omega) _,_,rfl,?_⟩;rw [ag.out];exact ai.keep hk
structure Rj (w w1:World) (n1:Bool) (a1:Option Addr) (m1 c1:Nat) (n2:Bool) (a2:Option Addr) (m2 c2:Nat) (X:World):Prop where
 rn:af X w.heap.size 24 (lN n1 a1 m1 c1)
 rd:af X (w.heap.size+1) 24 (lN n2 a2 m2 c2)
 res:∃ z0 z1 z2 z3 z4 z5 z6 z7 z8 z9 zz,af X (w.heap.size+1+1) 41 (lG z0 z1 z2 z3 z4 z5 z6 z7 z8 z9 zz)
 below:bW w X
 more:∀ v xs,Reads .u32 w1 v xs→Reads .u32 X v xs
section
variable {w W0 X X':World} {n1 n2:Bool} {a1 a2:Option Addr} {m1 c1 m2 c2:Nat}
theorem Om (h:Rj w W0 n1 a1 m1 c1 n2 a2 m2 c2 X):X.cell? ⟨w.heap.size,0,none⟩=some (.bool n1)∧X.cell? ⟨w.heap.size,1,none⟩=some (.slice a1 m1 c1)∧X.cell? ⟨w.heap.size+1,0,none⟩=some (.bool n2)∧X.cell? ⟨w.heap.size+1,1,none⟩=some (.slice a2 m2 c2)∧Rj w W0 n1 a1 m1 c1 n2 a2 m2 c2 X:=⟨h.rn.cell 0,h.rn.cell 1,h.rd.cell 0,h.rd.cell 1,h⟩
theorem Oj (h:Rj w W0 n1 a1 m1 c1 n2 a2 m2 c2 X)(a:bW X X'):Rj w W0 n1 a1 m1 c1 n2 a2 m2 c2 X' :=
 ⟨h.rn.below a,h.rd.below a,(by obtain ⟨c,d,f,g,i,j,k,l,m,n,o,hr⟩:=h.res;exact ⟨c,d,f,g,i,j,k,l,m,n,o,hr.below a⟩),h.below.trans (a.mono h.below.size),fun v xs b=>(h.more v xs b).below a⟩
theorem RA (h:Rj w W0 n1 a1 m1 c1 n2 a2 m2 c2 X):Rj w W0 n1 a1 m1 c1 n2 a2 m2 c2 X.drew:=⟨h.rn,h.rd,h.res,h.below.drew,fun v xs a=>h.more v xs a⟩
theorem Rm (h:Rj w W0 n1 a1 m1 c1 n2 a2 m2 c2 X)(a b:Int)(c:Bool)(d:Option Addr)(f g:Nat)(i:ByteArray)(j:Option Addr)(k l:Nat)(m:Int):Rj w W0 n1 a1 m1 c1 n2 a2 m2 c2 (((((((X.setCell ⟨w.heap.size+1+1,0,none⟩ (vI a)).setCell ⟨w.heap.size+1+1,1,none⟩ (vI b)).setCell ⟨w.heap.size+1+1,2,none⟩ (.bool c)).setCell ⟨w.heap.size+1+1,3,none⟩ (.slice d f g)).setCell ⟨w.heap.size+1+1,4,none⟩ (.string i)).setCell ⟨w.heap.size+1+1,5,none⟩ (.slice j k l)).setCell ⟨w.heap.size+1+1,6,none⟩ (vI m)) :=
 ⟨(((((((h.rn.other (show w.heap.size≠w.heap.size+1+1 by omega) _).other (show w.heap.size≠w.heap.size+1+1 by omega) _).other (show w.heap.size≠w.heap.size+1+1 by omega) _).other (show w.heap.size≠w.heap.size+1+1 by omega) _).other (show w.heap.size≠w.heap.size+1+1 by omega) _).other (show w.heap.size≠w.heap.size+1+1 by omega) _).other (show w.heap.size≠w.heap.size+1+1 by omega) _),(((((((h.rd.other (show w.heap.size+1≠w.heap.size+1+1 by omega) _).other (show w.heap.size+1≠w.heap.size+1+1 by omega) _).other (show w.heap.size+1≠w.heap.size+1+1 by omega) _).other (show w.heap.size+1≠w.heap.size+1+1 by omega) _).other (show w.heap.size+1≠w.heap.size+1+1 by omega) _).other (show w.heap.size+1≠w.heap.size+1+1 by omega) _).other (show w.heap.size+1≠w.heap.size+1+1 by omega) _),(by obtain ⟨o,p,q,r,s,t,u,x,y,z,A,hr⟩:=h.res;exact ⟨a,b,c,d,f,g,i,j,k,l,m,((((((hr.set 0 (vI a)).set 1 (vI b)).set 2 (.bool c)).set 3 (.slice d f g)).set 4 (.string i)).set 5 (.slice j k l)).set 6 (vI m)⟩),(((((((h.below.setCell (show w.heap.size≤w.heap.size+1+1 by omega) _).setCell (show w.heap.size≤w.heap.size+1+1 by omega) _).setCell (show w.heap.size≤w.heap.size+1+1 by omega) _).setCell (show w.heap.size≤w.heap.size+1+1 by omega) _).setCell (show w.heap.size≤w.heap.size+1+1 by omega) _).setCell (show w.heap.size≤w.heap.size+1+1 by omega) _).setCell (show w.heap.size≤w.heap.size+1+1 by omega) _),fun v xs n=>by obtain ⟨o,p,q,r,s,t,u,x,y,z,A,hr⟩:=h.res;exact nP hr _ _ _ _ _ _ _ v xs (h.more v xs n)⟩
end
theorem Rn {n d:Int}{K:Nat}(h:n.natAbs<aj^K)(b:d≠0):(near n d).natAbs<aj^(K+1):=by
 have a:∀ {n d:Int},n.natAbs<aj^K→0<d→(near n d).natAbs<aj^(K+1):=fun {n d} h b=>by
  have h1:=wy n d b
  have c:(near n d).natAbs≤n.natAbs+2:=by
   unfold near
   split <;> omega
  rw [Qo];rw [show aj^K*aj=aj^K*4294967296 from rfl];generalize aj^K=Y at *;omega
 rcases Xn b with h0 | h0
 ·rw [← Kj]
  exact a (by rw [JU];exact h) (by omega)
 ·exact a h h0
theorem Oo (vn vd:Value)(n d:Int)(w:World)(hn:ak w vn n)(hd:ak w vd d)(Z:n.natAbs<aj^60000)(bd:d.natAbs<aj^60000)(D:d≠0) :
 CB 102 #[vn,vd] w fun e w'=>∃ k0 n0 g a m c s l x y k,e=.returned (vG k0 n0 g a m c s l x y k)∧dP w' (least (near (n*((10^20:Nat):Int)) d) 20).1 (least (near (n*((10^20:Nat):Int)) d) 20).2 k (vV k0 n0 g a m c s l x y):=by
 obtain ⟨p,f,m1,j,rfl⟩:=hn.shape;obtain ⟨n2,a2,m2,c2,rfl⟩:=hd.shape;have U:=dJ w (.cells #[.bool p,.slice f m1 j] 24);have V:=U.alloc U.size (.cells #[.bool n2,.slice a2 m2 c2] 24);have R:=V.alloc V.size (.cells ((lG 0 0 false none 0 0 ⟨#[]⟩ none 0 0 0):List Value).toArray 41)
 have q1:=((af.new w 24 (lN p f m1 j)).alloc (.cells #[.bool n2,.slice a2 m2 c2] 24)).alloc (.cells ((lG 0 0 false none 0 0 ⟨#[]⟩ none 0 0 0):List Value).toArray 41);have q2:=(af.new (w.alloc (.cells #[.bool p,.slice f m1 j] 24)) 24 (lN n2 a2 m2 c2)).alloc (.cells ((lG 0 0 false none 0 0 ⟨#[]⟩ none 0 0 0):List Value).toArray 41)
 have q3:=af.new ((w.alloc (.cells #[.bool p,.slice f m1 j] 24)).alloc (.cells #[.bool n2,.slice a2 m2 c2] 24)) 41 (lG 0 0 false none 0 0 ⟨#[]⟩ none 0 0 0);simp only [Qh] at q2 q3;have O:=hn.below R;have M:=hd.below R
 generalize hW:((w.alloc (.cells #[.bool p,.slice f m1 j] 24)).alloc (.cells #[.bool n2,.slice a2 m2 c2] 24)).alloc (.cells ((lG 0 0 false none 0 0 ⟨#[]⟩ none 0 0 0):List Value).toArray 41)=W0 at *;have HW:=Qa hW
 have hS:Rj w W0 p f m1 j n2 a2 m2 c2 W0:=⟨q1,q2,⟨_,_,_,_,_,_,_,_,_,_,_,q3⟩,R,fun _ _ h=>h⟩
 have hD:=Qa (Om (RA hS));obtain ⟨d1,d2,d3,d4,-⟩:=Om hS;have bt:=NW 20 (by decide)
 have Y:(n*((10^20:Nat):Int)).natAbs<aj^60400:=by
  rw [Zl,show 60400=60000+400 from rfl,Qt];exact Ye Z bt
 have kT:=fun X=>NZ 20 X (by decide)
 have kM:=fun X v (E:Rj w W0 p f m1 j n2 a2 m2 c2 X) (Q:ak X v ((10^20:Nat):Int))=>yl _ v n ((10^20:Nat):Int) X (O.keep E.more) Q (az Z (by decide)) (az bt (by decide))
 have kN:=fun X v (E:Rj w W0 p f m1 j n2 a2 m2 c2 X) (Q:ak X v (n*((10^20:Nat):Int)))=>PV v _ (n*((10^20:Nat):Int)) d X Q (M.keep E.more) (az Y (by decide)) (az bd (by decide)) D
 have r:(near (n*((10^20:Nat):Int)) d).natAbs<aj^60401:=Rn Y D;generalize n*((10^20:Nat):Int)=N at *
 have kL:=fun X v (Q:ak X v (near N d))=>yo v (near N d) 20 X Q (az r (by decide)) (by decide)
 clear q1 q2 q3 U V R hn hd hW hS O M Z bd bt Y r D;generalize ((10^20:Nat):Int)=T at *;go_enter func102,ntmps102
 go_upto_region 1 with (fail)
 rw [show ((w.alloc (.cells #[.bool p,.slice f m1 j] 24)).alloc (.cells #[.bool n2,.slice a2 m2 c2] 24)).alloc (.cells ((lG 0 0 false none 0 0 ⟨#[]⟩ none 0 0 0):List Value).toArray 41)=W0 from HW.out];clear HW
 go_wp2_with fail
 refine wp_region_held_drew (S:=(fun X=>X.cell? ⟨w.heap.size,0,none⟩=some (.bool p)∧X.cell? ⟨w.heap.size,1,none⟩=some (.slice f m1 j)∧X.cell? ⟨w.heap.size+1,0,none⟩=some (.bool n2)∧X.cell? ⟨w.heap.size+1,1,none⟩=some (.slice a2 m2 c2)∧Rj w W0 p f m1 j n2 a2 m2 c2 X)) (by kernel_rfl) hD.out (fun q=>?_)
 refine wpAnyH_take (i:=0) (oi:=_) (v:=vN p f m1 j) rfl (by kernel_rfl) (by kernel_rfl) (by kernel_rfl) (fun _ _ _ h=>h) (Or.inl ⟨by rfl,fun w C=>by (try dsimp only at C);go_simp⟩) (by assumption) ?_
 refine wpAnyH_take (i:=3) (oi:=_) (v:=vN n2 a2 m2 c2) rfl (by kernel_rfl) (by kernel_rfl) (by kernel_rfl) (fun _ _ _ h=>h) (Or.inl ⟨by rfl,fun w C=>by (try dsimp only at C);go_simp⟩) (by assumption) ?_;simp only [Act.put,Zw];refine wpAnyH_ready (rs:=[1]) (by kernel_rfl) (by simp) ?_;refine QA (o:=_) rfl (fun t b=>?_) QM;rw [if_pos (by rfl)];obtain ⟨-,-,-,-,F⟩:=q
 go_wp2_with (go_at_call 64;refine (kT _).mono ?_;rintro e a3 ⟨H,v5,rfl,hI⟩)
 refine b.out _ _ ?_ (fun q=>?_)
 ·exact Om (Oj F H)
 clear b t;refine wpAnyH_ready (rs:=[2]) (by kernel_rfl) (by simp) ?_;refine QA (o:=_) rfl (fun t b=>?_) QM;rw [if_pos (by rfl)];obtain ⟨-,-,-,-,z⟩:=q
 go_wp2_with (go_at_call 63;refine (kM _ _ z hI).mono ?_;rintro e a4 ⟨I,v6,rfl,hJ⟩)
 refine b.out _ _ ?_ (fun q=>?_)
 ·exact Om (Oj z I)
 clear b t;refine wpAnyH_ready (rs:=[4]) (by kernel_rfl) (by simp) ?_;refine QA (o:=_) rfl (fun t b=>?_) QM;rw [if_pos (by rfl)];obtain ⟨-,-,-,-,A⟩:=q
 go_wp2_with (go_at_call 118;refine (kN _ _ A hJ).mono ?_;rintro e a5 ⟨J,v7,rfl,hK⟩)
 refine b.out _ _ ?_ (fun q=>?_)
 ·exact Om (Oj A J)
 clear b t;refine wpAnyH_ready (rs:=[5]) (by kernel_rfl) (by simp) ?_;refine QA (o:=_) rfl (fun t b=>?_) QM;rw [if_pos (by rfl)];obtain ⟨-,-,-,-,G⟩:=q
 go_wp2_with (go_at_call 91;refine (kL _ _ hK).mono ?_;rintro e a6 ⟨L,k0,n0,g,a,m,c,s,l,x,y,k,rfl,hO⟩)
 refine b.out _ _ ?_ (fun q=>?_)
 ·exact Om (Oj G L)
 clear b t;refine wpAnyH_ready (rs:=[6]) (by kernel_rfl) (by simp) ?_;refine QA (o:=_) rfl (fun t b=>?_) QM;rw [if_pos (by rfl)];obtain ⟨-,-,-,-,B⟩:=q;obtain ⟨z0,z1,z2,z3,z4,z5,z6,z7,z8,z9,zz,hr⟩:=B.res;have y0:=hr.cell 0;have y1:=hr.cell 1;have y2:=hr.cell 2;have y3:=hr.cell 3;have y4:=hr.cell 4;have y5:=hr.cell 5;have y6:=hr.cell 6;have f0:=hr.frozen 0;have f1:=hr.frozen 1
 have f2:=hr.frozen 2;have f3:=hr.frozen 3;have f4:=hr.frozen 4;have f5:=hr.frozen 5;have f6:=hr.frozen 6;simp only [Qc,Qe] at y0 y1 y2 y3 y4 y5 y6;clear F z A G hI hJ hK kT kM kN kL hD d1 d2 d3 d4
 go_wp2_with fail
 refine b.out _ _ ?_ (fun q=>?_)
 ·exact Om (Rm B _ _ _ _ _ _ _ _ _ _ _)
 clear b t;refine wpAnyH_done (by kernel_rfl) ?_ _;obtain ⟨-,-,-,-,E⟩:=q;have hb:=E.below;have u:=((((((hr.set 0 (vI k0)).set 1 (vI n0)).set 2 (.bool g)).set 3 (.slice a m c)).set 4 (.string s)).set 5 (.slice l x y)).set 6 (vI k);have u0:=u.cell 0;have u1:=u.cell 1;have u2:=u.cell 2;have u3:=u.cell 3;have u4:=u.cell 4;have u5:=u.cell 5;have u6:=u.cell 6
 simp only [QB,Qz,Qc,Qe] at u0 u1 u2 u3 u4 u5 u6;have a0:=hO.keep (nP hr (vI k0) (vI n0) (.bool g) (.slice a m c) (.string s) (.slice l x y) (vI k));clear E u hO hr B
 go_wp2_with fail
 exact bodyPost_ret (v:=vG k0 n0 g a m c s l x y k) (by simp [results,results102,go_sem,loadCellsFrom,u0,u1,u2,u3,u4,u5,u6]) rfl ⟨hb,_,_,_,_,_,_,_,_,_,_,_,rfl,a0⟩
section
variable {w w1 X X':World} {R:World→Prop} {l:List (Nat × TypeId × List Value)} {b0 b1 b2 b3 b4:Nat} {t0 t1 t2 t3 t4:TypeId} {cs0 cs1 cs2 cs3 cs4:List Value}
end
section
variable {P:Program} {md:Region.Mode} {ops:Array Oper} {Q:Exit→Act→World→Prop} {S F:World→Prop} {fuel:Nat} {listed:Array Bool} {a a2:Act} {w:World} {o o2:Oper} {v:Value}
end
theorem Oh {b:Nat}{t:TypeId}{X:World}{g:Bool}{i:Option Addr}{m1:Nat}{f:Nat}{j:Int}(q:af X b t [.bool g,.slice i m1 f,vI j])(a c d:Value):(((X.setCell ⟨b,0,none⟩ a).setCell ⟨b,1,none⟩ c).setCell ⟨b,2,none⟩ d).cell? ⟨b,0,none⟩=some a∧(((X.setCell ⟨b,0,none⟩ a).setCell ⟨b,1,none⟩ c).setCell ⟨b,2,none⟩ d).cell? ⟨b,1,none⟩=some c∧(((X.setCell ⟨b,0,none⟩ a).setCell ⟨b,1,none⟩ c).setCell ⟨b,2,none⟩ d).cell? ⟨b,2,none⟩=some d:=by
 have h:=(((q.set 0 a).set 1 c).set 2 d)
 exact ⟨h.cell 0,h.cell 1,h.cell 2⟩
theorem Od (a b:Nat):(10:Int)^(a+b)=10^a*10^b:=YC 10 a b
theorem Ro {n d:Int}{a b f i:Nat}(h:a+i=f+b):near (n*10^a) (d*10^b)=near (n*10^f) (d*10^i):=by
 have g:∀ {a b c:Nat},near (n*10^a) (d*10^b)=near (n*10^(a+c)) (d*10^(b+c)):=fun {a b c}=>by
  rw [Od,Od,← Yc,← Yc,PG _ _ _ (YE (by decide))]
 rcases Nat.le_total a f with h1 | h1
 ·obtain ⟨c,rfl⟩:∃ c,f=a+c:=⟨f - a,by omega⟩
  obtain rfl:i=b+c:=by omega
  exact g
 ·obtain ⟨c,rfl⟩:∃ c,a=f+c:=⟨a - f,by omega⟩
  obtain rfl:b=i+c:=by omega
  exact g.symm
theorem Pq {n d e:Int}{P a b:Nat}(h:(a:Int) - (b:Int)=(P:Int) - e):near (n*10^a) (d*10^b)=fB n d e P:=Ro (by omega)
theorem PW (i:Int)(m p:Nat):near (i^m*10^20) (10^(p*m))=fB (i^m) 1 ((p*m:Nat):Int) 20:=by
 have h:=@Pq (i^m) 1 ((p*m:Nat):Int) 20 20 (p*m) (by omega);rw [QY] at h;exact h
theorem OZ (i:Int)(m p:Nat):near (10^(p*m)*10^20) (i^m)=fB 1 (i^m) (-((p*m:Nat):Int)) 20:=by
 have h:=@Pq 1 (i^m) (-((p*m:Nat):Int)) 20 (p*m+20) 0 (by omega);rw [QY,Int.pow_zero,Int.mul_one,Od] at h;exact h
theorem PI {s r:Int}:(if r<s - r*r then r+1 else r)=wF s r:=by
 unfold wF
 have e:r<s - r*r↔r*(r+1)<s:=by rw [Int.mul_add,Int.mul_one];omega
 simp only [e]
theorem dB.is {w:World}{v:Value}{i:Int}{p:Nat}(h:dB w v i p) :
 CB 20 #[v] w fun e _=>e=.returned (.bool true):=by
 obtain ⟨neg,xs,h1,b,-⟩:=h.at;have a:=PQ v _ _ _ _ _ _ w h1;rw [b] at a;exact a
theorem mJ.is {w:World}{v:Value}(h:mJ w v) :
 CB 20 #[v] w fun e _=>e=.returned vF:=by
 obtain ⟨kind,n,neg,xs,s,l,h1,b⟩:=h;have a:=PQ v _ _ _ _ _ _ w h1;rw [b] at a;exact a
theorem dG.below {W a:World}{k0:Int}{x:Int × Nat}{k:Int}{v:Value}(h:dG W k0 x k v)(b:bW W a):dG a k0 x k v:=h.keep fun _ _ c=>c.below b
end Go.Proofs.YtagjhmodblifbaaGreatDoor
