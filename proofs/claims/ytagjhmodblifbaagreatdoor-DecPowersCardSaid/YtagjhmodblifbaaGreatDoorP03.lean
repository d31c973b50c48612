/- proved lemmas -/
import Derived.Test.YtagjhmodblifbaaGreatDoorP02
set_option maxHeartbeats 4000000
set_option maxRecDepth 100000
set_option exponentiation.threshold 100000
namespace Go.Proofs.YtagjhmodblifbaaGreatDoor
open Go.Proofs.Tryz
open Go Go.RowKit Go.Shelf
theorem Pk (l:Value)(i:Int)(p b:Nat)(w:World)(h1:dB w l i p)(y:9600<b) :
 CB 38 #[l,vI b] w fun e _=>e=.returned (vG 0 0 false none 0 0 ⟨#[]⟩ none 0 0 1):=by
 have A:=fun X (u:bW w X)=>(h1.below u).is
 have z:=h1.hi;have d:=h1.lo;have n:=h1.abs;obtain ⟨B,m,m1,o,r,q,rfl,t⟩:=h1.shape;obtain ⟨J,j,g,f,k⟩:=yP w 27 (lV 3 p B m m1 o ⟨#[]⟩ r 0 q) 41 (lG 0 0 false none 0 0 ⟨#[]⟩ none 0 0 0);have h:=fC (R:=ni _) (ax f aS) ⟨_,_,_,_,_,_,_,_,_,_,_,k⟩ g;obtain ⟨Q,S,T,U,V,Y⟩:=aD f;have s:decide (9600<b)=true:=decide_eq_true (by omega)
 have Z:decide ((b:Int)< -9600)=false:=decide_eq_false (by omega);have e2:decide ((9600:Int)<(b:Int))=true:=decide_eq_true (by omega);have e3:decide ((b:Int)<0)=false:=decide_eq_false (by omega);clear h1 g k f z d y;clear t n;go_enter func38,ntmps38
 go_upto_region 1 with (fail)
 rw [j.out];clear j
 go_wp2_with (go_at_call 20;refine (A _ h.below).mono ?_;rintro e w1 ⟨c,rfl⟩;have a:=ag ni.step h c;obtain ⟨x0,x1,x2,x3,x4,x5⟩:=aD a.r0;obtain ⟨z0,z1,z2,z3,L,M,z4,z5,N,O,z6,hr,y0,y1,y2,y3,y4,y5,y6,f0,f1,f2,f3,f4,f5,f6⟩:=a.res.cells)
 obtain ⟨C,D,E,F,G,H,I⟩:=wO hr (vI 0) (vI 0) vF vZ vE vZ (vI 1);have x:=(uS a (aZ (by omega) dV) (by omega) 0 0 false none 0 0 ⟨#[]⟩ none 0 0 1).below;exact bodyPost_ret (v:=vG 0 0 false none 0 0 ⟨#[]⟩ none 0 0 1) (by simp [results,results38,go_sem,loadCellsFrom,C,D,E,F,G,H,I]) rfl ⟨x,rfl⟩
theorem Pm (l:Value)(i:Int)(p b:Nat)(w:World)(h1:dB w l i p)(y:9600<b) :
 CB 38 #[l,vI (-(b:Int))] w fun e _=>e=.returned (vG 0 0 false none 0 0 ⟨#[]⟩ none 0 0 1):=by
 have A:=fun X (u:bW w X)=>(h1.below u).is
 have z:=h1.hi;have d:=h1.lo;have n:=h1.abs;obtain ⟨B,m,m1,o,r,q,rfl,t⟩:=h1.shape;obtain ⟨J,j,g,f,k⟩:=yP w 27 (lV 3 p B m m1 o ⟨#[]⟩ r 0 q) 41 (lG 0 0 false none 0 0 ⟨#[]⟩ none 0 0 0);have h:=fC (R:=ni _) (ax f aS) ⟨_,_,_,_,_,_,_,_,_,_,_,k⟩ g;obtain ⟨Q,S,T,U,V,Y⟩:=aD f;have Z:decide (-(b:Int)< -9600)=true:=decide_eq_true (by omega)
 have e5:decide ((9600:Int)<(b:Int))=true:=decide_eq_true (by omega);have s:decide (9600<b)=true:=decide_eq_true (by omega);clear h1 g k f z d y;clear t n;go_enter func38,ntmps38
 go_upto_region 1 with (fail)
 rw [j.out];clear j
 go_wp2_with (go_at_call 20;refine (A _ h.below).mono ?_;rintro e w1 ⟨c,rfl⟩;have a:=ag ni.step h c;obtain ⟨x0,x1,x2,x3,x4,x5⟩:=aD a.r0;obtain ⟨z0,z1,z2,z3,L,M,z4,z5,N,O,z6,hr,y0,y1,y2,y3,y4,y5,y6,f0,f1,f2,f3,f4,f5,f6⟩:=a.res.cells)
 obtain ⟨C,D,E,F,G,H,I⟩:=wO hr (vI 0) (vI 0) vF vZ vE vZ (vI 1);have x:=(uS a (aZ (by omega) dV) (by omega) 0 0 false none 0 0 ⟨#[]⟩ none 0 0 1).below;exact bodyPost_ret (v:=vG 0 0 false none 0 0 ⟨#[]⟩ none 0 0 1) (by simp [results,results38,go_sem,loadCellsFrom,C,D,E,F,G,H,I]) rfl ⟨x,rfl⟩
theorem Pb (r:Value)(i:Int)(p a:Nat)(w:World)(h1:dB w r i p)(hk:0<a∧a≤9600)(E:i=0) :
 CB 38 #[r,vI (-(a:Int))] w fun e _=>e=.returned (vG 0 0 false none 0 0 ⟨#[]⟩ none 0 0 20):=by
 have F:=fun X (d:bW w X)=>(h1.below d).is
 have C:=h1.hi;have h:=h1.lo;have t:=h1.abs;obtain ⟨G,s,m1,u,y,x,rfl,m⟩:=h1.shape
 have o:=fun X (d:bW w X)=>Gt _ i X (m.below d)
 rw [show decide (i=0)=true from decide_eq_true E] at o;obtain ⟨Q,n,k,j,q⟩:=yP w 27 (lV 3 p G s m1 u ⟨#[]⟩ y 0 x) 41 (lG 0 0 false none 0 0 ⟨#[]⟩ none 0 0 0);have l:=fC (R:=ni _) (ax j aS) ⟨_,_,_,_,_,_,_,_,_,_,_,q⟩ k;obtain ⟨Y,Z,d2,d3,d4,d5⟩:=aD j;have e1:decide (-(a:Int)< -9600)=false:=decide_eq_false (by omega)
 have e5:decide ((9600:Int)<(a:Int))=false:=decide_eq_false (by omega);have z:decide (9600<a)=false:=decide_eq_false (by omega);have e6:decide ((0:Int)<(a:Int))=true:=decide_eq_true (by omega);have A:decide (0<a)=true:=decide_eq_true (by omega);have e2:decide ((9600:Int)< -(a:Int))=false:=decide_eq_false (by omega);have e3:decide (-(a:Int)<0)=true:=decide_eq_true (by omega)
 have D:IntKind.i64.wrap (a:Int)=(a:Int):=by rw [Qx];omega
 clear h1 k q j C h;clear m t;go_enter func38,ntmps38
 go_upto_region 1 with (fail)
 rw [n.out];clear n
 go_wp2_with (first | (go_at_call 78;refine (o _ b.below).mono ?_;rintro e w2 ⟨g,rfl⟩;have c:=ag ni.step b g;have x8:=Dk c.r0;obtain ⟨z0,z1,z2,z3,S,T,z4,z5,U,V,z6,hr,y0,y1,y2,y3,y4,y5,y6,f0,f1,f2,f3,f4,f5,f6⟩:=c.res.cells) | (go_at_call 20;refine (F _ l.below).mono ?_;rintro e w1 ⟨f,rfl⟩;have b:=ag ni.step l f;obtain ⟨x0,x1,x2,x3,x4,x5⟩:=aD b.r0))
 obtain ⟨H,I,J,L,M,N,O⟩:=wO hr (vI 0) (vI 0) vF vZ vE vZ (vI 20);have B:=(uS c (aZ (by omega) dV) (by omega) 0 0 false none 0 0 ⟨#[]⟩ none 0 0 20).below;exact bodyPost_ret (v:=vG 0 0 false none 0 0 ⟨#[]⟩ none 0 0 20) (by simp [results,results38,go_sem,loadCellsFrom,H,I,J,L,M,N,O]) rfl ⟨B,rfl⟩
theorem Pn (x:Value)(i:Int)(p a:Nat)(w:World)(h1:dB w x i p)(r:a≤9600)(s:2800<p*a) :
 CB 38 #[x,vI a] w fun e _=>e=.returned (vG 0 0 false none 0 0 ⟨#[]⟩ none 0 0 3):=by
 have H:=fun X (g:bW w X)=>(h1.below g).is
 have t:=h1.hi;have j:=h1.lo;have z:=h1.abs;obtain ⟨I,y,m1,A,C,B,rfl,o⟩:=h1.shape
 have kZ:=fun X (g:bW w X)=>Gt _ i X (o.below g)
 skip
 have d:((p*a:Nat):Int)=(p:Int)*(a:Int):=Jy _ _
 obtain ⟨f,c⟩:∃ f,p*a=f:=⟨_,rfl⟩
 have k:f≤192000:=by rw [← c];exact Qd (JI t r) (by decide)
 rw [c] at d s
 have G:IntKind.i64.wrap ((p:Int)*(a:Int))=(f:Int):=by rw [← d,Qx];omega
 obtain ⟨T,q,m,l,u⟩:=yP w 27 (lV 3 p I y m1 A ⟨#[]⟩ C 0 B) 41 (lG 0 0 false none 0 0 ⟨#[]⟩ none 0 0 0);have n:=fC (R:=ni _) (ax l aS) ⟨_,_,_,_,_,_,_,_,_,_,_,u⟩ m;obtain ⟨d0,d1,d2,d3,d4,d5⟩:=aD l;have D:decide (9600<a)=false:=decide_eq_false (by omega);have e1:decide ((a:Int)< -9600)=false:=decide_eq_false (by omega)
 have e2:decide ((9600:Int)<(a:Int))=false:=decide_eq_false (by omega);have e3:decide ((a:Int)<0)=false:=decide_eq_false (by omega);have E:decide (2800<f)=true:=decide_eq_true (by omega);have e4:decide ((2800:Int)<(f:Int))=true:=decide_eq_true (by omega);clear h1 m u l t j r;clear o z d s c k;go_enter func38,ntmps38
 go_upto_region 1 with (fail)
 rw [q.out];clear q
 go_wp2_with (go_at_call 20;refine (H _ n.below).mono ?_;rintro e w1 ⟨h,rfl⟩;have b:=ag ni.step n h;obtain ⟨x0,x1,x2,x3,x4,x5⟩:=aD b.r0;obtain ⟨z0,z1,z2,z3,U,V,z4,z5,Y,Z,z6,hr,y0,y1,y2,y3,y4,y5,y6,f0,f1,f2,f3,f4,f5,f6⟩:=b.res.cells)
 obtain ⟨J,L,M,N,O,Q,S⟩:=wO hr (vI 0) (vI 0) vF vZ vE vZ (vI 3);have F:=(uS b (aZ (by omega) dV) (by omega) 0 0 false none 0 0 ⟨#[]⟩ none 0 0 3).below;exact bodyPost_ret (v:=vG 0 0 false none 0 0 ⟨#[]⟩ none 0 0 3) (by simp [results,results38,go_sem,loadCellsFrom,J,L,M,N,O,Q,S]) rfl ⟨F,rfl⟩
theorem Po (A:Value)(i:Int)(p a:Nat)(w:World)(h1:dB w A i p)(t:a≤9600)(u:2800<p*a)(h0:0<a)(N:i≠0) :
 CB 38 #[A,vI (-(a:Int))] w fun e _=>e=.returned (vG 0 0 false none 0 0 ⟨#[]⟩ none 0 0 3):=by
 have O:=fun X (h:bW w X)=>(h1.below h).is
 have x:=h1.hi;have l:=h1.lo;have C:=h1.abs;obtain ⟨Q,B,m1,D,F,E,rfl,r⟩:=h1.shape
 have y:=fun X (h:bW w X)=>Gt _ i X (r.below h)
 rw [show decide (i=0)=false from decide_eq_false N] at y;have f:((p*a:Nat):Int)=(p:Int)*(a:Int):=Jy _ _
 obtain ⟨g,d⟩:∃ g,p*a=g:=⟨_,rfl⟩
 have m:g≤192000:=by rw [← d];exact Qd (JI x t) (by decide)
 rw [d] at f u
 have M:IntKind.i64.wrap ((p:Int)*(a:Int))=(g:Int):=by rw [← f,Qx];omega
 obtain ⟨W0,s,o,n,z⟩:=yP w 27 (lV 3 p Q B m1 D ⟨#[]⟩ F 0 E) 41 (lG 0 0 false none 0 0 ⟨#[]⟩ none 0 0 0);have q:=fC (R:=ni _) (ax n aS) ⟨_,_,_,_,_,_,_,_,_,_,_,z⟩ o;obtain ⟨d0,d1,d2,d3,d4,d5⟩:=aD n;have e1:decide (-(a:Int)< -9600)=false:=decide_eq_false (by omega);have e5:decide ((9600:Int)<(a:Int))=false:=decide_eq_false (by omega)
 have H:decide (9600<a)=false:=decide_eq_false (by omega);have e6:decide ((0:Int)<(a:Int))=true:=decide_eq_true (by omega);have I:decide (0<a)=true:=decide_eq_true (by omega);have e2:decide ((9600:Int)< -(a:Int))=false:=decide_eq_false (by omega);have e3:decide (-(a:Int)<0)=true:=decide_eq_true (by omega)
 have L:IntKind.i64.wrap (a:Int)=(a:Int):=by rw [Qx];omega
 have G:decide (2800<g)=true:=decide_eq_true (by omega);have e4:decide ((2800:Int)<(g:Int))=true:=decide_eq_true (by omega);clear h1 o z n x l t;clear r C f u d m;go_enter func38,ntmps38
 go_upto_region 1 with (fail)
 rw [s.out];clear s
 go_wp2_with (first | (go_at_call 78;refine (y _ b.below).mono ?_;rintro e w2 ⟨k,rfl⟩;have c:=ag ni.step b k;have x8:=Dk c.r0;obtain ⟨z0,z1,z2,z3,aI,aJ,z4,z5,aN,aO,z6,hr,y0,y1,y2,y3,y4,y5,y6,f0,f1,f2,f3,f4,f5,f6⟩:=c.res.cells) | (go_at_call 20;refine (O _ q.below).mono ?_;rintro e w1 ⟨j,rfl⟩;have b:=ag ni.step q j;obtain ⟨x0,x1,x2,x3,x4,x5⟩:=aD b.r0))
 obtain ⟨S,T,U,V,Y,Z,u6⟩:=wO hr (vI 0) (vI 0) vF vZ vE vZ (vI 3);have J:=(uS c (aZ (by omega) dV) (by omega) 0 0 false none 0 0 ⟨#[]⟩ none 0 0 3).below;exact bodyPost_ret (v:=vG 0 0 false none 0 0 ⟨#[]⟩ none 0 0 3) (by simp [results,results38,go_sem,loadCellsFrom,S,T,U,V,Y,Z,u6]) rfl ⟨J,rfl⟩
theorem Pd (U:Value)(i:Int)(p b:Nat)(w:World)(h1:dB w U i p)(x:b≤9600)(y:p*b≤2800)(hx:¬(i^b).natAbs<aj^300) :
 CB 38 #[U,vI b] w fun e _=>e=.returned (vG 0 0 false none 0 0 ⟨#[]⟩ none 0 0 3):=by
 have Q:=fun X (o:bW w X)=>(h1.below o).is
 have O:=h1.hi;have z:=h1.lo;have H:=h1.abs;obtain ⟨S,F,m1,I,L,J,rfl,s⟩:=h1.shape
 have kZ:=fun X (o:bW w X)=>Gt _ i X (s.below o)
 skip
 have h:((p*b:Nat):Int)=(p:Int)*(b:Int):=Jy _ _
 obtain ⟨j,f⟩:∃ j,p*b=j:=⟨_,rfl⟩
 have q:j≤192000:=by rw [← f];exact Qd (JI O x) (by decide)
 rw [f] at h y
 have a2:IntKind.i64.wrap ((p:Int)*(b:Int))=(j:Int):=by rw [← h,Qx];omega
 have A:=fun X (o:bW w X)=>nR _ i b X (s.below o) H x
 unfold Py at A;simp only [if_neg hx] at A;obtain ⟨E,N,G,C,T⟩:=yP w 27 (lV 3 p S F m1 I ⟨#[]⟩ L 0 J) 41 (lG 0 0 false none 0 0 ⟨#[]⟩ none 0 0 0);have M:=fC (R:=ni _) (ax C aS) ⟨_,_,_,_,_,_,_,_,_,_,_,T⟩ G;obtain ⟨d0,d1,d2,d3,d4,d5⟩:=aD C;have Y:decide (9600<b)=false:=decide_eq_false (by omega);have e1:decide ((b:Int)< -9600)=false:=decide_eq_false (by omega)
 have e2:decide ((9600:Int)<(b:Int))=false:=decide_eq_false (by omega);have e3:decide ((b:Int)<0)=false:=decide_eq_false (by omega);have Z:decide (2800<j)=false:=decide_eq_false (by omega);have e4:decide ((2800:Int)<(j:Int))=false:=decide_eq_false (by omega);clear h1 G T C O z x;have V:=Qa (And.intro h (And.intro y (And.intro f q)));clear h y f q s H
 go_enter func38,ntmps38
 go_upto_region 1 with (fail)
 rw [N.out];clear N
 go_upto_region 12 with (go_at_call 20;refine (Q _ M.below).mono ?_;rintro e w1 ⟨t,rfl⟩;have d:=ag ni.step M t;obtain ⟨x0,x1,x2,x3,x4,x5⟩:=aD d.r0)
 clear Q kZ
 go_cut [6] from 37 to 40 (fun v6 W=>∃ r g a m c,v6=vP r∧af W r 56 [.bool g,.slice a m c,vI 3]∧E.heap.size≤r∧fI w E (ni (w.heap.size+1)) [(w.heap.size,27,(lV 3 p S F m1 I ⟨#[]⟩ L 0 J))] W)
 case first =>
  obtain ⟨z0,z1,z2,z3,z4,z5⟩:=aD d.r0
  go_wp2_with (go_at_call 109;refine (A _ d.below).mono ?_;rintro e D ⟨u,g,a,B,c,k,rfl,hK⟩;obtain rfl:=hK;have l:=ag ni.step d u;have r5:=af.new D 56 [vF,vZ,vI 0];obtain ⟨y0,y1,y2,f0,f1,f2⟩:=wQ r5)
  go_meet
  have o1:=dJ D (.cells #[.bool g,.slice a B c,vI 3] 56);exact ⟨_,g,a,B,c,rfl,af.new D 56 [.bool g,.slice a B c,vI 3],l.size,ag ni.step l o1⟩
 case rest =>
  obtain ⟨r,g6,a6,m6,c6,rfl,r6,a0,n⟩:=hcut;obtain ⟨g0,g1,g2⟩:=Pj r6;obtain ⟨z0,z1,z2,z3,aI,aJ,z4,z5,aN,aO,z6,hr,y0,y1,y2,y3,y4,y5,y6,f0,f1,f2,f3,f4,f5,f6⟩:=n.res.cells
  go_wp2_with fail
  obtain ⟨u0,u1,u2,u3,u4,u5,u6⟩:=wO hr (vI 0) (vI 0) vF vZ vE vZ (vI 3);have hb:=(uS n (aZ (by omega) dV) (by omega) 0 0 false none 0 0 ⟨#[]⟩ none 0 0 3).below;exact bodyPost_ret (v:=vG 0 0 false none 0 0 ⟨#[]⟩ none 0 0 3) (by simp [results,results38,go_sem,loadCellsFrom,u0,u1,u2,u3,u4,u5,u6]) rfl ⟨hb,rfl⟩
theorem Pe (Z:Value)(i:Int)(p b:Nat)(w:World)(h1:dB w Z i p)(z:b≤9600)(A:p*b≤2800)(hx:¬(i^b).natAbs<aj^300)(h0:0<b)(hz:i≠0) :
 CB 38 #[Z,vI (-(b:Int))] w fun e _=>e=.returned (vG 0 0 false none 0 0 ⟨#[]⟩ none 0 0 3):=by
 have U:=fun X (q:bW w X)=>(h1.below q).is
 have T:=h1.hi;have B:=h1.lo;have L:=h1.abs;obtain ⟨V,I,m1,M,O,N,rfl,t⟩:=h1.shape
 have D:=fun X (q:bW w X)=>Gt _ i X (t.below q)
 rw [show decide (i=0)=false from decide_eq_false hz] at D;have h:((p*b:Nat):Int)=(p:Int)*(b:Int):=Jy _ _
 obtain ⟨l,f⟩:∃ l,p*b=l:=⟨_,rfl⟩
 have r:l≤192000:=by rw [← f];exact Qd (JI T z) (by decide)
 rw [f] at h A
 have a8:IntKind.i64.wrap ((p:Int)*(b:Int))=(l:Int):=by rw [← h,Qx];omega
 have C:=fun X (q:bW w X)=>nR _ i b X (t.below q) L z
 unfold Py at C;simp only [if_neg hx] at C;obtain ⟨H,S,J,F,Y⟩:=yP w 27 (lV 3 p V I m1 M ⟨#[]⟩ O 0 N) 41 (lG 0 0 false none 0 0 ⟨#[]⟩ none 0 0 0);have Q:=fC (R:=ni _) (ax F aS) ⟨_,_,_,_,_,_,_,_,_,_,_,Y⟩ J;obtain ⟨d0,d1,d2,d3,d4,d5⟩:=aD F;have e1:decide (-(b:Int)< -9600)=false:=decide_eq_false (by omega);have e5:decide ((9600:Int)<(b:Int))=false:=decide_eq_false (by omega)
 have a3:decide (9600<b)=false:=decide_eq_false (by omega);have e6:decide ((0:Int)<(b:Int))=true:=decide_eq_true (by omega);have a4:decide (0<b)=true:=decide_eq_true (by omega);have e2:decide ((9600:Int)< -(b:Int))=false:=decide_eq_false (by omega);have e3:decide (-(b:Int)<0)=true:=decide_eq_true (by omega)
 have a7:IntKind.i64.wrap (b:Int)=(b:Int):=by rw [Qx];omega
 have a2:decide (2800<l)=false:=decide_eq_false (by omega);have e4:decide ((2800:Int)<(l:Int))=false:=decide_eq_false (by omega);clear h1 J Y F T B z;have a0:=Qa (And.intro h (And.intro A (And.intro f r)));clear h A f r t L;go_enter func38,ntmps38
 go_upto_region 1 with (fail)
 rw [S.out];clear S
 go_upto_region 12 with (first | (go_at_call 78;refine (D _ j.below).mono ?_;rintro e w2 ⟨x,rfl⟩;have d:=ag ni.step j x;have x8:=Dk d.r0) | (go_at_call 20;refine (U _ Q.below).mono ?_;rintro e w1 ⟨u,rfl⟩;have j:=ag ni.step Q u;obtain ⟨x0,x1,x2,x3,x4,x5⟩:=aD j.r0))
 clear U D
 go_cut [6] from 37 to 40 (fun v6 W=>∃ s g a m c,v6=vP s∧af W s 56 [.bool g,.slice a m c,vI 3]∧H.heap.size≤s∧fI w H (ni (w.heap.size+1)) [(w.heap.size,27,(lV 3 p V I m1 M ⟨#[]⟩ O 0 N))] W)
 case first =>
  obtain ⟨z0,z1,z2,z3,z4,z5⟩:=aD d.r0
  go_wp2_with (go_at_call 109;refine (C _ d.below).mono ?_;rintro e G ⟨y,g,a,E,c,k,rfl,hK⟩;obtain rfl:=hK;have n:=ag ni.step d y;have r5:=af.new G 56 [vF,vZ,vI 0];obtain ⟨y0,y1,y2,f0,f1,f2⟩:=wQ r5)
  go_meet
  have o1:=dJ G (.cells #[.bool g,.slice a E c,vI 3] 56);exact ⟨_,g,a,E,c,rfl,af.new G 56 [.bool g,.slice a E c,vI 3],n.size,ag ni.step n o1⟩
 case rest =>
  obtain ⟨s,g6,a6,m6,c6,rfl,r6,a5,o⟩:=hcut;obtain ⟨g0,g1,g2⟩:=Pj r6;obtain ⟨z0,z1,z2,z3,aI,aJ,z4,z5,aN,aO,z6,hr,y0,y1,y2,y3,y4,y5,y6,f0,f1,f2,f3,f4,f5,f6⟩:=o.res.cells
  go_wp2_with fail
  obtain ⟨u0,u1,u2,u3,u4,u5,u6⟩:=wO hr (vI 0) (vI 0) vF vZ vE vZ (vI 3);have hb:=(uS o (aZ (by omega) dV) (by omega) 0 0 false none 0 0 ⟨#[]⟩ none 0 0 3).below;exact bodyPost_ret (v:=vG 0 0 false none 0 0 ⟨#[]⟩ none 0 0 3) (by simp [results,results38,go_sem,loadCellsFrom,u0,u1,u2,u3,u4,u5,u6]) rfl ⟨hb,rfl⟩
theorem Pv (va:Value)(i:Int)(p b:Nat)(w:World)(h1:dB w va i p)(hk:b≤9600)(hl:p*b≤2800)(hx:(i^b).natAbs<aj^300) :
 CB 38 #[va,vI b] w fun e w'=>∃ k0 n0 g a m c s l C D k,e=.returned (vG k0 n0 g a m c s l C D k)∧dP w' (least (near ((i^b)*((10^20:Nat):Int)) ((10^(p*b):Nat):Int)) 20).1 (least (near ((i^b)*((10^20:Nat):Int)) ((10^(p*b):Nat):Int)) 20).2 k (vV k0 n0 g a m c s l C D):=by
 have kI:=fun X (B:bW w X)=>(h1.below B).is
 have hp:=h1.hi;have a7:=h1.lo;have bi:=h1.abs;obtain ⟨M,F,m1,G,I,H,rfl,hI⟩:=h1.shape
 have kZ:=fun X (B:bW w X)=>Gt _ i X (hI.below B)
 skip
 have y:((p*b:Nat):Int)=(p:Int)*(b:Int):=Jy _ _
 obtain ⟨o,j⟩:∃ o,p*b=o:=⟨_,rfl⟩
 have L:o≤192000:=by rw [← j];exact Qd (JI hp hk) (by decide)
 rw [j] at y hl
 have aa:IntKind.i64.wrap ((p:Int)*(b:Int))=(o:Int):=by rw [← y,Qx];omega
 have kP:=fun X (B:bW w X)=>nR _ i b X (hI.below B) bi hk
 unfold Py at kP;simp only [if_pos hx] at kP
 have kT:=fun X=>NZ o X (by omega)
 have bt:=NW o (by omega)
 have t0:((10^o:Nat):Int)≠0:=by have:=Qq (n:=o) (show 0<10 by decide);omega
 simp only [j];generalize i^b=x at *;generalize ((10^o:Nat):Int)=tt at *
 have kU:=fun X v v' (hv:ak X v x) (a9:ak X v' tt)=>Oo v v' x tt X hv a9 (az hx (by decide)) (az bt (by decide)) t0
 generalize near (x*((10^20:Nat):Int)) tt=z at *;obtain ⟨U,hW,b0,q1,qr⟩:=yP w 27 (lV 3 p M F m1 G ⟨#[]⟩ I 0 H) 41 (lG 0 0 false none 0 0 ⟨#[]⟩ none 0 0 0);have V:=fC (R:=ni _) (ax q1 aS) ⟨_,_,_,_,_,_,_,_,_,_,_,qr⟩ b0;obtain ⟨d0,d1,d2,d3,d4,d5⟩:=aD q1;have Y:decide (9600<b)=false:=decide_eq_false (by omega);have e1:decide ((b:Int)< -9600)=false:=decide_eq_false (by omega)
 have e2:decide ((9600:Int)<(b:Int))=false:=decide_eq_false (by omega);have e3:decide ((b:Int)<0)=false:=decide_eq_false (by omega);have Z:decide (2800<o)=false:=decide_eq_false (by omega);have e4:decide ((2800:Int)<(o:Int))=false:=decide_eq_false (by omega);have a8:w.heap.size+1<U.heap.size:=qr.lt;clear h1 b0 qr q1 hp a7 hk;have ab:=Qa (And.intro y (And.intro hl (And.intro j L)))
 clear y hl j L hI bi;go_enter func38,ntmps38
 go_upto_region 1 with (fail)
 rw [hW.out];clear hW
 go_upto_region 12 with (go_at_call 20;refine (kI _ V.below).mono ?_;rintro e w1 ⟨a3,rfl⟩;have r:=ag ni.step V a3;obtain ⟨x0,x1,x2,x3,x4,x5⟩:=aD r.r0)
 clear kI kZ
 go_cut [6] from 37 to 40 (fun v6 W=>∃ q g a m c,v6=vP q∧af W q 56 [.bool g,.slice a m c,vI 0]∧U.heap.size≤q∧ak W (vN g a m c) x∧fI w U (ni (w.heap.size+1)) [(w.heap.size,27,(lV 3 p M F m1 G ⟨#[]⟩ I 0 H))] W)
 case first =>
  obtain ⟨z0,z1,z2,z3,z4,z5⟩:=aD r.r0
  go_wp2_with (go_at_call 109;refine (kP _ r.below).mono ?_;rintro e w3 ⟨a4,g,a,m9,c,k,rfl,hK⟩;obtain ⟨rfl,B⟩:=hK;have J:=ag ni.step r a4;have r5:=af.new w3 56 [vF,vZ,vI 0];obtain ⟨y0,y1,y2,f0,f1,f2⟩:=wQ r5)
  go_meet
  have o1:=dJ w3 (.cells #[.bool g,.slice a m9 c,vI 0] 56);exact ⟨_,g,a,m9,c,rfl,af.new w3 56 [.bool g,.slice a m9 c,vI 0],J.size,B.below o1,ag ni.step J o1⟩
 case rest =>
  obtain ⟨q,Q,N,S,O,rfl,r6,a5,i6,t⟩:=hcut;obtain ⟨g0,g1,g2⟩:=Pj r6
  go_upto_region 17 with (fail)
  clear g0 g1 g2
  have u:Hid (∀ X,fI w wc (ni (w.heap.size+1)) [(q,56,[.bool Q,.slice N S O,vI 0]),(w.heap.size,27,(lV 3 p M F m1 G ⟨#[]⟩ I 0 H))] X→(X.cell? ⟨q,0,none⟩=some (.bool Q)∧X.cell? ⟨q,1,none⟩=some (.slice N S O)∧X.cell? ⟨w.heap.size,1,none⟩=some (vI p))∧fI w wc (ni (w.heap.size+1)) [(q,56,[.bool Q,.slice N S O,vI 0]),(w.heap.size,27,(lV 3 p M F m1 G ⟨#[]⟩ I 0 H))] X):=Qa fun X h=>⟨⟨h.r0.cell 0,h.r0.cell 1,h.r1.cell 1⟩,h⟩
  have a2:fI w wc (ni (w.heap.size+1)) [(q,56,[.bool Q,.slice N S O,vI 0]),(w.heap.size,27,(lV 3 p M F m1 G ⟨#[]⟩ I 0 H))] wc:=⟨ax r6 (ax t.r0 aS),t.res,t.below,fun _ _ h=>h,Qb _⟩
  have T:=Qa (And.intro a5 a8);clear t r6 V e1 e2 e3 e4 Y Z
  go_wp2_with fail
  refine bB u (bY ni.drew a2) fun X0 d=>?_
  refine tk 0 d ?_;refine tk 1 d ?_;refine tk 2 d ?_;refine tk 3 d ?_;refine tk 4 d ?_;refine tk 5 d ?_
  refine rd 6 fun E A=>?_
  have hP:=d.2;clear aa
  go_wp2_with (go_at_call 64;refine (kT _).mono ?_;rintro e wk ⟨f,v5,rfl,hA⟩)
  refine aT A u (ag ni.step hP f) fun d=>?_
  clear A E hP f
  refine rd 7 fun E A=>?_
  have hP:=d.2
  go_wp2_with (go_at_call 102;refine (kU _ _ _ (i6.keep hP.more) hA).mono ?_;rintro e wk ⟨f,k0,n0,g,a,m,c,s,l,C,D,k,rfl,hO⟩)
  replace hA:=hA.below f
  refine aT A u (ag ni.step hP f) fun d=>?_
  clear A E hP f
  refine rd 8 fun E A=>?_
  have hP:=d.2;obtain ⟨z0,z1,z2,z3,aI,aJ,z4,z5,aN,aO,z6,hr,y0,y1,y2,y3,y4,y5,y6,f0,f1,f2,f3,f4,f5,f6⟩:=hP.res.cells;clear kT kU
  go_wp2_with fail
  refine aT A u (uS hP (aZ (by have:=T.out;omega) (aZ (by omega) dV)) (by omega) k0 n0 g a m c s l C D k) fun d=>?_
  clear A E;obtain ⟨u0,u1,u2,u3,u4,u5,u6⟩:=wO hr (vI k0) (vI n0) (.bool g) (.slice a m c) (.string s) (.slice l C D) (vI k);refine wpAnyH_done (by kernel_rfl) ?_ _;have hb:=d.2.below;have a0:=hO.keep (nP hr (vI k0) (vI n0) (.bool g) (.slice a m c) (.string s) (.slice l C D) (vI k));clear d hr hP hO
  go_wp2_with fail
  exact bodyPost_ret (v:=vG k0 n0 g a m c s l C D k) (by simp [results,results38,go_sem,loadCellsFrom,u0,u1,u2,u3,u4,u5,u6]) rfl ⟨hb,_,_,_,_,_,_,_,_,_,_,_,rfl,a0⟩
theorem Pw (va:Value)(i:Int)(p b:Nat)(w:World)(h1:dB w va i p)(hk:b≤9600)(hl:p*b≤2800)(hx:(i^b).natAbs<aj^300)(h0:0<b)(hz:i≠0) :
 CB 38 #[va,vI (-(b:Int))] w fun e w'=>∃ k0 n0 g a m c s l D E k,e=.returned (vG k0 n0 g a m c s l D E k)∧dP w' (least (near (((10^(p*b):Nat):Int)*((10^20:Nat):Int)) (i^b)) 20).1 (least (near (((10^(p*b):Nat):Int)*((10^20:Nat):Int)) (i^b)) 20).2 k (vV k0 n0 g a m c s l D E):=by
 have kI:=fun X (C:bW w X)=>(h1.below C).is
 have hp:=h1.hi;have aa:=h1.lo;have bi:=h1.abs;obtain ⟨N,G,m1,H,J,I,rfl,hI⟩:=h1.shape
 have kZ:=fun X (C:bW w X)=>Gt _ i X (hI.below C)
 rw [show decide (i=0)=false from decide_eq_false hz] at kZ;have y:((p*b:Nat):Int)=(p:Int)*(b:Int):=Jy _ _
 obtain ⟨o,j⟩:∃ o,p*b=o:=⟨_,rfl⟩
 have M:o≤192000:=by rw [← j];exact Qd (JI hp hk) (by decide)
 rw [j] at y hl
 have al:IntKind.i64.wrap ((p:Int)*(b:Int))=(o:Int):=by rw [← y,Qx];omega
 have kP:=fun X (C:bW w X)=>nR _ i b X (hI.below C) bi hk
 unfold Py at kP;simp only [if_pos hx] at kP
 have kT:=fun X=>NZ o X (by omega)
 have bt:=NW o (by omega)
 have t0:((10^o:Nat):Int)≠0:=by have:=Qq (n:=o) (show 0<10 by decide);omega
 simp only [j];have x0:i^b≠0:=Int.pow_ne_zero hz;generalize i^b=x at *;generalize ((10^o:Nat):Int)=tt at *
 have kU:=fun X v v' (hv:ak X v tt) (ad:ak X v' x)=>Oo v v' tt x X hv ad (az bt (by decide)) (az hx (by decide)) x0
 generalize near (tt*((10^20:Nat):Int)) x=z at *;obtain ⟨V,hW,b0,q1,qr⟩:=yP w 27 (lV 3 p N G m1 H ⟨#[]⟩ J 0 I) 41 (lG 0 0 false none 0 0 ⟨#[]⟩ none 0 0 0);have Y:=fC (R:=ni _) (ax q1 aS) ⟨_,_,_,_,_,_,_,_,_,_,_,qr⟩ b0;obtain ⟨d0,d1,d2,d3,d4,d5⟩:=aD q1;have e1:decide (-(b:Int)< -9600)=false:=decide_eq_false (by omega);have e5:decide ((9600:Int)<(b:Int))=false:=decide_eq_false (by omega)
 have a0:decide (9600<b)=false:=decide_eq_false (by omega);have e6:decide ((0:Int)<(b:Int))=true:=decide_eq_true (by omega);have a2:decide (0<b)=true:=decide_eq_true (by omega);have e2:decide ((9600:Int)< -(b:Int))=false:=decide_eq_false (by omega);have e3:decide (-(b:Int)<0)=true:=decide_eq_true (by omega)
 have ah:IntKind.i64.wrap (b:Int)=(b:Int):=by rw [Qx];omega
 have Z:decide (2800<o)=false:=decide_eq_false (by omega);have e4:decide ((2800:Int)<(o:Int))=false:=decide_eq_false (by omega);have ab:w.heap.size+1<V.heap.size:=qr.lt;clear h1 b0 qr q1 hp aa hk;have am:=Qa (And.intro y (And.intro hl (And.intro j M)));clear y hl j M hI bi;go_enter func38,ntmps38
 go_upto_region 1 with (fail)
 rw [hW.out];clear hW
 go_upto_region 12 with (first | (go_at_call 78;refine (kZ _ B.below).mono ?_;rintro e w2 ⟨a7,rfl⟩;have r:=ag ni.step B a7;have x8:=Dk r.r0) | (go_at_call 20;refine (kI _ Y.below).mono ?_;rintro e w1 ⟨a5,rfl⟩;have B:=ag ni.step Y a5;obtain ⟨x0,x1,x2,x3,x4,x5⟩:=aD B.r0))
 clear kI kZ
 go_cut [6] from 37 to 40 (fun v6 W=>∃ q g a m c,v6=vP q∧af W q 56 [.bool g,.slice a m c,vI 0]∧V.heap.size≤q∧ak W (vN g a m c) x∧fI w V (ni (w.heap.size+1)) [(w.heap.size,27,(lV 3 p N G m1 H ⟨#[]⟩ J 0 I))] W)
 case first =>
  obtain ⟨z0,z1,z2,z3,z4,z5⟩:=aD r.r0
  go_wp2_with (go_at_call 109;refine (kP _ r.below).mono ?_;rintro e w3 ⟨a8,g,a,m9,c,k,rfl,hK⟩;obtain ⟨rfl,C⟩:=hK;have L:=ag ni.step r a8;have r5:=af.new w3 56 [vF,vZ,vI 0];obtain ⟨y0,y1,y2,f0,f1,f2⟩:=wQ r5)
  go_meet
  have o1:=dJ w3 (.cells #[.bool g,.slice a m9 c,vI 0] 56);exact ⟨_,g,a,m9,c,rfl,af.new w3 56 [.bool g,.slice a m9 c,vI 0],L.size,C.below o1,ag ni.step L o1⟩
 case rest =>
  obtain ⟨q,S,O,T,Q,rfl,r6,a9,i6,t⟩:=hcut;obtain ⟨g0,g1,g2⟩:=Pj r6
  go_upto_region 16 with (fail)
  clear g0 g1 g2
  have u:Hid (∀ X,fI w wc (ni (w.heap.size+1)) [(q,56,[.bool S,.slice O T Q,vI 0]),(w.heap.size,27,(lV 3 p N G m1 H ⟨#[]⟩ J 0 I))] X→(X.cell? ⟨q,0,none⟩=some (.bool S)∧X.cell? ⟨q,1,none⟩=some (.slice O T Q)∧X.cell? ⟨w.heap.size,1,none⟩=some (vI p))∧fI w wc (ni (w.heap.size+1)) [(q,56,[.bool S,.slice O T Q,vI 0]),(w.heap.size,27,(lV 3 p N G m1 H ⟨#[]⟩ J 0 I))] X):=Qa fun X h=>⟨⟨h.r0.cell 0,h.r0.cell 1,h.r1.cell 1⟩,h⟩
  have a4:fI w wc (ni (w.heap.size+1)) [(q,56,[.bool S,.slice O T Q,vI 0]),(w.heap.size,27,(lV 3 p N G m1 H ⟨#[]⟩ J 0 I))] wc:=⟨ax r6 (ax t.r0 aS),t.res,t.below,fun _ _ h=>h,Qb _⟩
  have U:=Qa (And.intro a9 ab);clear t r6 Y e1 e2 e3 e4 Z e5 a0 e6 a2 ah
  go_wp2_with fail
  refine bB u (bY ni.drew a4) fun X0 d=>?_
  refine tk 0 d ?_;refine tk 1 d ?_;refine tk 2 d ?_;refine tk 3 d ?_;refine tk 5 d ?_;refine tk 6 d ?_
  refine rd 4 fun F A=>?_
  have hP:=d.2;clear al
  go_wp2_with (go_at_call 64;refine (kT _).mono ?_;rintro e wk ⟨f,v5,rfl,hA⟩)
  refine aT A u (ag ni.step hP f) fun d=>?_
  clear A F hP f
  refine rd 7 fun F A=>?_
  have hP:=d.2
  go_wp2_with (go_at_call 102;refine (kU _ _ _ hA (i6.keep hP.more)).mono ?_;rintro e wk ⟨f,k0,n0,g,a,m,c,s,l,D,E,k,rfl,hO⟩)
  replace hA:=hA.below f
  refine aT A u (ag ni.step hP f) fun d=>?_
  clear A F hP f
  refine rd 8 fun F A=>?_
  have hP:=d.2;obtain ⟨z0,z1,z2,z3,aI,aJ,z4,z5,aN,aO,z6,hr,y0,y1,y2,y3,y4,y5,y6,f0,f1,f2,f3,f4,f5,f6⟩:=hP.res.cells;clear kT kU
  go_wp2_with fail
  refine aT A u (uS hP (aZ (by have:=U.out;omega) (aZ (by omega) dV)) (by omega) k0 n0 g a m c s l D E k) fun d=>?_
  clear A F;obtain ⟨u0,u1,u2,u3,u4,u5,u6⟩:=wO hr (vI k0) (vI n0) (.bool g) (.slice a m c) (.string s) (.slice l D E) (vI k);refine wpAnyH_done (by kernel_rfl) ?_ _;have hb:=d.2.below;have a3:=hO.keep (nP hr (vI k0) (vI n0) (.bool g) (.slice a m c) (.string s) (.slice l D E) (vI k));clear d hr hP hO
  go_wp2_with fail
  exact bodyPost_ret (v:=vG k0 n0 g a m c s l D E k) (by simp [results,results38,go_sem,loadCellsFrom,u0,u1,u2,u3,u4,u5,u6]) rfl ⟨hb,_,_,_,_,_,_,_,_,_,_,_,rfl,a3⟩
theorem Rw (f:Value)(A:Option (Int × Nat))(d:Int)(w:World)(h1:Fm w f A) :
  Calls prog 38 #[f,vI d] w fun e n=>bW w n∧∃ k0 n0 g a m c s l o q k,e=.returned (vG k0 n0 g a m c s l o q k)∧dG n (vg (qF d) A) (BB (sS d) A) k (vV k0 n0 g a m c s l o q):=by
 cases A with
 | none =>
  refine (RB f d w h1).mono ?_;rintro e C ⟨u,rfl⟩;exact ⟨u,_,_,_,_,_,_,_,_,_,_,_,rfl,jX (k0:=2) (by decide)⟩
 | some x =>
  obtain ⟨i,p⟩:=x;have h1:dB w f i p:=h1
  show Calls prog 38 #[f,vI d] w fun e n=>bW w n∧∃ k0 n0 g a m c s l o q k,e=.returned (vG k0 n0 g a m c s l o q k)∧dG n (qF d (i,p)) (sS d (i,p)) k (vV k0 n0 g a m c s l o q)
  have j:∀ K:Int,K≠0→qF d (i,p)=K→(Calls prog 38 #[f,vI d] w fun e n=>bW w n∧e=.returned (vG 0 0 false none 0 0 ⟨#[]⟩ none 0 0 K))→Calls prog 38 #[f,vI d] w fun e n=>bW w n∧∃ k0 n0 g a m c s l o q k,e=.returned (vG k0 n0 g a m c s l o q k)∧dG n (qF d (i,p)) (sS d (i,p)) k (vV k0 n0 g a m c s l o q):=by
   intro K hK y D;refine D.mono ?_;rintro e C ⟨u,rfl⟩;exact ⟨u,_,_,_,_,_,_,_,_,_,_,_,rfl,by rw [y];exact jX hK⟩
  rcases ZR d 0 with hs | hs
  ·obtain ⟨b,rfl⟩:∃ b:Nat,d=-(b:Int):=⟨d.natAbs,by omega⟩
   have h0:0<b:=by omega
   have ha:(-(b:Int)).natAbs=b:=by omega
   by_cases y:9600<b
   ·exact j 1 (by decide) (by unfold qF;rw [if_pos (by omega)]) (Pm f i p b w h1 y)
   ·by_cases t:i=0
    ·exact j 20 (by decide) (by unfold qF;rw [if_neg (by omega),if_pos ⟨hs,t⟩]) (Pb f i p b w h1 ⟨h0,by omega⟩ t)
    ·by_cases z:p*b≤2800
     ·by_cases r:(i^b).natAbs<aj^300
      ·refine (Pw f i p b w h1 (by omega) z r h0 t).mono ?_
       rintro e C ⟨u,k0,n0,g,a,m,c,s,l,o,q,k,rfl,hf⟩
       have hK:qF (-(b:Int)) (i,p)=0:=by
        unfold qF;rw [if_neg (by omega),if_neg (fun h=>t h.2),if_neg];rw [ha];intro h
        rcases h with h | h
        ·have:((p*b:Nat):Int)=(p:Int)*(b:Int):=Jy _ _
         simp only at h;omega
        ·exact h r
       have B:sS (-(b:Int)) (i,p)=least (near (((10^(p*b):Nat):Int)*((10^20:Nat):Int)) (i^b)) 20:=by
        unfold sS vC wZ oq;rw [if_pos hs,if_pos hs,if_pos hs,ha,xH,xH,OZ,Jy]
       rw [← B] at hf;exact ⟨u,_,_,_,_,_,_,_,_,_,_,_,rfl,by rw [hK];exact lQ hf⟩
      ·exact j 3 (by decide) (by unfold qF;rw [if_neg (by omega),if_neg (fun h=>t h.2),if_pos (.inr (by rw [ha];exact r))]) (Pe f i p b w h1 (by omega) z r h0 t)
     ·exact j 3 (by decide) (by
       unfold qF
       rw [if_neg (by omega),if_neg (fun h=>t h.2),if_pos (.inl (by
        rw [ha];have:((p*b:Nat):Int)=(p:Int)*(b:Int):=Jy _ _
        show (2800:Int)<(p:Int)*(b:Int)
        omega))]) (Po f i p b w h1 (by omega) (by omega) h0 t)
  ·obtain ⟨b,rfl⟩:∃ b:Nat,d=(b:Int):=⟨d.natAbs,by omega⟩
   have ha:(b:Int).natAbs=b:=QQ _
   have v:¬((b:Int)<0):=by omega
   by_cases y:9600<b
   ·exact j 1 (by decide) (by unfold qF;rw [if_pos (by omega)]) (Pk f i p b w h1 y)
   ·by_cases z:p*b≤2800
    ·by_cases r:(i^b).natAbs<aj^300
     ·refine (Pv f i p b w h1 (by omega) z r).mono ?_
      rintro e C ⟨u,k0,n0,g,a,m,c,s,l,o,q,k,rfl,hf⟩
      have hK:qF (b:Int) (i,p)=0:=by
       unfold qF;rw [if_neg (by omega),if_neg (fun h=>v h.1),if_neg];rw [ha];intro h
       rcases h with h | h
       ·have:((p*b:Nat):Int)=(p:Int)*(b:Int):=Jy _ _
        simp only at h;omega
       ·exact h r
      have B:sS (b:Int) (i,p)=least (near (i^b*((10^20:Nat):Int)) ((10^(p*b):Nat):Int)) 20:=by
       unfold sS vC wZ oq;rw [if_neg v,if_neg v,if_neg v,ha,xH,xH,PW,Jy]
      rw [← B] at hf;exact ⟨u,_,_,_,_,_,_,_,_,_,_,_,rfl,by rw [hK];exact lQ hf⟩
     ·exact j 3 (by decide) (by unfold qF;rw [if_neg (by omega),if_neg (fun h=>v h.1),if_pos (.inr (by rw [ha];exact r))]) (Pd f i p b w h1 (by omega) z r)
    ·exact j 3 (by decide) (by
      unfold qF
      rw [if_neg (by omega),if_neg (fun h=>v h.1),if_pos (.inl (by
       rw [ha];have:((p*b:Nat):Int)=(p:Int)*(b:Int):=Jy _ _
       show (2800:Int)<(p:Int)*(b:Int)
       omega))]) (Pn f i p b w h1 (by omega) (by omega))
end Go.Proofs.YtagjhmodblifbaaGreatDoor
