/- DecPowers: Pow and Sqrt return what the specification returns (any values of at most 60 limbs; exponents whose magnitude is at most 300, or that are not allowed) -/
import Derived.Test.YtagjhmodblifbaaGreatDoorP03
import Derived.Test.YtagjhmodblifbaaGreatDoorTie
import Derived.Test.YtagjhmodblifbaaGreatDoorCards
import Derived.Carry
set_option maxHeartbeats 4000000
set_option maxRecDepth 100000
set_option exponentiation.threshold 100000
namespace Go.Proofs.YtagjhmodblifbaaGreatDoor
open Go.Proofs.Tryz
open Go Go.RowKit Go.Shelf
theorem PO (v:Value)(s:Int)(w:World)(h:ak w v s)(o:s.natAbs<aj^300)(h0:0≤s) :
 CB 110 #[v,vI 2] w fun e t=>∃ j d i f k,e=.returned (.agg #[.bool j,.slice d i f,vI k])∧∃ r:Nat,ak t (vN j d i f) (r:Int)∧fD s.natAbs 2 r:=by
 obtain ⟨g,a,m,c,rfl⟩:=h.shape;have n:=tV h;rw [decide_eq_false (by omega)] at n;obtain ⟨neg,xs,l,hf,rfl,-,-⟩:=h.at o
 have b:neg=g:=by
  obtain ⟨u,e,-⟩:=l;simp only [Value.agg.injEq,Array.mk.injEq,List.cons.injEq,Value.bool.injEq,and_true] at e;exact e.1.symm
 refine (Rb _ neg xs 2 w l hf (by decide) (by decide) ?_).mono ?_
 ·intro e
  rw [b,n] at e;cases e
 ·rintro e x ⟨h1,j,d,i,f,k,rfl,-,r,hr,q,p,rfl⟩
  rw [if_neg (by omega)] at hr;exact ⟨h1,_,_,_,_,_,rfl,q,hr,p⟩
theorem Re (l:Value)(i:Int)(p:Nat)(w:World)(h1:dB w l i p)(j:i<0) :
 CB 39 #[l] w fun e _=>e=.returned (vG 0 0 false none 0 0 ⟨#[]⟩ none 0 0 1):=by
 have t:=fun X (r:bW w X)=>(h1.below r).is
 obtain ⟨u,m,m1,n,q,o,rfl,g⟩:=h1.shape
 obtain rfl:u=true:=by rw [tV g];exact decide_eq_true j
 obtain ⟨E,h,d,c,k⟩:=yP w 27 (lV 3 p true m m1 n ⟨#[]⟩ q 0 o) 41 (lG 0 0 false none 0 0 ⟨#[]⟩ none 0 0 0);have f:=fC (R:=ni _) (ax c aS) ⟨_,_,_,_,_,_,_,_,_,_,_,k⟩ d;obtain ⟨J,L,M,N,O,Q⟩:=aD c;clear h1 d k g c j;go_enter func39,ntmps39
 go_upto_region 1 with (fail)
 rw [h.out];clear h
 go_wp2_with (go_at_call 20;refine (t _ f.below).mono ?_;rintro e w1 ⟨b,rfl⟩;have a:=ag ni.step f b;obtain ⟨x0,x1,x2,x3,x4,x5⟩:=aD a.r0;obtain ⟨z0,z1,z2,z3,F,G,z4,z5,H,I,z6,hr,y0,y1,y2,y3,y4,y5,y6,S,T,U,V,Y,Z,f6⟩:=a.res.cells)
 obtain ⟨x,y,z,A,B,C,D⟩:=wO hr (vI 0) (vI 0) vF vZ vE vZ (vI 1);have s:=(uS a (aZ (by omega) dV) (by omega) 0 0 false none 0 0 ⟨#[]⟩ none 0 0 1).below;exact bodyPost_ret (v:=vG 0 0 false none 0 0 ⟨#[]⟩ none 0 0 1) (by simp [results,results39,go_sem,loadCellsFrom,x,y,z,A,B,C,D]) rfl ⟨s,rfl⟩
theorem Rf (va:Value)(i:Int)(p:Nat)(w:World)(h1:dB w va i p)(hn:0≤i) :
 CB 39 #[va] w fun e w'=>∃ k0 n0 g a m c s l x9 y9 k,e=.returned (vG k0 n0 g a m c s l x9 y9 k)∧dP w' (kW (i,p)).1 (kW (i,p)).2 k (vV k0 n0 g a m c s l x9 y9):=by
 have kI:=fun X (hX:bW w X)=>(h1.below hX).is
 have hp:=h1.hi;have b2:=h1.lo;have bi:=h1.abs;obtain ⟨n1,a1,m1,c1,cu,cB,rfl,hI⟩:=h1.shape
 obtain rfl:n1=false:=by rw [tV hI];exact decide_eq_false (by omega)
 have kT:=fun X=>NZ (40 - p) X (by omega)
 have bt:=NW (40 - p) (by omega);have bs:=iF bi (show 40 - p≤40 by omega);have a2:0≤(i*((10^(40 - p):Nat):Int)):=Zm hn (Zk _);rw [show ((40 - p:Nat):Int)=40 - (p:Int) by omega] at kT
 have aa:IntKind.i64.wrap (40 - (p:Int))=40 - (p:Int):=by rw [Qx];omega
 have eU:∀ r:Nat,fD (i*((10^(40 - p):Nat):Int)).natAbs 2 r→kW (i,p)=least (wF (i*((10^(40 - p):Nat):Int)) (r:Int)) 20:=fun r hr=>by unfold kW wG;rw [Ip hr]
 generalize kW (i,p)=rq at *
 have kM:=fun X v v' (hv:ak X v i) (Y:ak X v' ((10^(40 - p):Nat):Int))=>yl v v' _ _ X hv Y (az bi (by decide)) (az bt (by decide))
 generalize (i*((10^(40 - p):Nat):Int))=s at *;generalize ((10^(40 - p):Nat):Int)=tt at *;obtain ⟨W0,hW,b0,q1,qr⟩:=yP w 27 (lV 3 p false a1 m1 c1 ⟨#[]⟩ cu 0 cB) 41 (lG 0 0 false none 0 0 ⟨#[]⟩ none 0 0 0);have dH:=fC (R:=ni _) (ax q1 aS) ⟨_,_,_,_,_,_,_,_,_,_,_,qr⟩ b0
 have hS:=yO dH fun X h=>(aD h.r0:)
 obtain ⟨d0,d1,d2,d3,d4,d5⟩:=aD q1;have ad:=hI.below b0;have C:Hid ((∀ r ∈ ([(w.heap.size,27,(lV 3 p false a1 m1 c1 ⟨#[]⟩ cu 0 cB))]:List (Nat × TypeId × List Value)),r.1<W0.heap.size)∧w.heap.size≤W0.heap.size∧w.heap.size+1<W0.heap.size):=Qa ⟨fK q1.lt nA,b0.size,qr.lt⟩;have HB:=Qa (And.intro bs (And.intro a2 (And.intro eU aa)));clear h1 b0 qr q1 hp b2 bi hI bt bs a2 eU aa hn
 go_enter func39,ntmps39
 go_upto_region 1 with (fail)
 rw [hW.out];clear hW
 go_upto_region 5 with (go_at_call 20;refine (kI _ dH.below).mono ?_;rintro e w1 ⟨aq,rfl⟩;have al:=ag ni.step dH aq;obtain ⟨x0,x1,x2,x3,x4,x5⟩:=aD al.r0)
 clear kI d0 d1 d2 d3 d4 d5 x0 x1 x2 x3 x4 x5 aq
 go_cut [3] from 15 to 21 (fun v3 W=>∃ b3,v3=vP b3∧w.heap.size+1<b3∧gQ W b3 s∧ni (w.heap.size+1) W∧bW w W)
 case first =>
  obtain ⟨C,fe,O⟩:=C.out;have aa:=HB.out.2.2.2
  go_wp2_with fail
  refine bB hS (bY ni.drew al) fun X0 d=>?_
  refine tk 0 d ?_;refine tk 1 d ?_;refine tk 2 d ?_;refine tk 3 d ?_;refine tk 4 d ?_;refine ql 5 7 (fun j f=>?_) (fun j f=>?_)
  ·have hP:=d.2
   clear aa
   go_wp2_with (go_at_call 64;refine (kT _).mono ?_;rintro e wk ⟨b,v5,rfl,A⟩)
   refine aT f hS (ag ni.step hP b) fun d=>?_
   clear f j hP b;refine ql 6 7 (fun j f=>?_) (fun j f=>?_)
   ·have hP:=d.2
    go_wp2_with (go_at_call 63;refine (kM _ _ _ (ad.keep hP.more) A).mono ?_;rintro e wk ⟨b,v6,rfl,t⟩)
    replace A:=A.below b;obtain ⟨g,a,m,c,rfl⟩:=t.shape
    refine aT f hS (ag ni.step hP b) fun d=>?_
    clear f j hP b
    refine rd 7 fun j f=>?_
    have hP:=d.2;obtain ⟨V9,V,n,B,o⟩:=aL hP 24 (lN false none 0 0)
    go_wp2_with fail
    rw [V.out];clear V;replace t:=t.below o
    refine aT f hS (ag ni.step hP o) fun d=>?_
    clear f j hP o
    refine rd 8 fun j f=>?_
    have hP:=d.2;obtain ⟨D,F,L,M⟩:=av n;obtain ⟨V8,J,H,G,I,cO⟩:=ay hP (ni.other (Qg (Qf O B))) (bP C B) (Qd fe B) n (.bool g) (.slice a m c)
    go_wp2_with fail
    rw [J.out];replace t:=t.keep G;replace n:=I
    refine aT f hS H fun d=>?_
    clear f j hP H J G I cO D F L M;refine wpAnyH_done (by kernel_rfl) ?_ _;go_wp2
    go_meet
    exact ⟨_,rfl,Qf O B,⟨_,_,_,_,n,t⟩,d.2.res,d.2.below⟩
   have hP:=d.2;obtain ⟨V9,V,n,B,o⟩:=aL hP 24 (lN false none 0 0)
   go_wp2_with fail
   rw [V.out];clear V;replace A:=A.below o
   refine aT f hS (ag ni.step hP o) fun d=>?_
   clear f j hP o
   refine rd 6 fun j f=>?_
   have hP:=d.2
   go_wp2_with (go_at_call 63;refine (kM _ _ _ (ad.keep hP.more) A).mono ?_;rintro e wk ⟨b,v6,rfl,t⟩)
   replace A:=A.below b;replace n:=n.below b;obtain ⟨g,a,m,c,rfl⟩:=t.shape
   refine aT f hS (ag ni.step hP b) fun d=>?_
   clear f j hP b
   refine rd 8 fun j f=>?_
   have hP:=d.2;obtain ⟨D,F,L,M⟩:=av n;obtain ⟨V8,J,H,G,I,cO⟩:=ay hP (ni.other (Qg (Qf O B))) (bP C B) (Qd fe B) n (.bool g) (.slice a m c)
   go_wp2_with fail
   rw [J.out];replace t:=t.keep G;replace n:=I
   refine aT f hS H fun d=>?_
   clear f j hP H J G I cO D F L M;refine wpAnyH_done (by kernel_rfl) ?_ _;go_wp2
   go_meet
   exact ⟨_,rfl,Qf O B,⟨_,_,_,_,n,t⟩,d.2.res,d.2.below⟩
  have hP:=d.2;obtain ⟨V9,V,n,B,o⟩:=aL hP 24 (lN false none 0 0)
  go_wp2_with fail
  rw [V.out];clear V
  refine aT f hS (ag ni.step hP o) fun d=>?_
  clear f j hP o
  refine rd 5 fun j f=>?_
  have hP:=d.2;clear aa
  go_wp2_with (go_at_call 64;refine (kT _).mono ?_;rintro e wk ⟨b,v5,rfl,A⟩)
  replace n:=n.below b
  refine aT f hS (ag ni.step hP b) fun d=>?_
  clear f j hP b
  refine rd 6 fun j f=>?_
  have hP:=d.2
  go_wp2_with (go_at_call 63;refine (kM _ _ _ (ad.keep hP.more) A).mono ?_;rintro e wk ⟨b,v6,rfl,t⟩)
  replace n:=n.below b;replace A:=A.below b;obtain ⟨g,a,m,c,rfl⟩:=t.shape
  refine aT f hS (ag ni.step hP b) fun d=>?_
  clear f j hP b
  refine rd 8 fun j f=>?_
  have hP:=d.2;obtain ⟨D,F,L,M⟩:=av n;obtain ⟨V8,J,H,G,I,cO⟩:=ay hP (ni.other (Qg (Qf O B))) (bP C B) (Qd fe B) n (.bool g) (.slice a m c)
  go_wp2_with fail
  rw [J.out];replace t:=t.keep G;replace n:=I
  refine aT f hS H fun d=>?_
  clear f j hP H J G I cO D F L M;refine wpAnyH_done (by kernel_rfl) ?_ _;go_wp2
  go_meet
  exact ⟨_,rfl,Qf O B,⟨_,_,_,_,n,t⟩,d.2.res,d.2.below⟩
 case rest =>
  obtain ⟨b3,rfl,l3,g3,gR,q⟩:=hcut;clear hS dH al kT kM ad C;obtain ⟨bs,a2,eU,-⟩:=HB.out
  have kR:=fun X v (hv:ak X v s)=>PO v s X hv (az bs (by decide)) a2
  have an:=Qa (And.intro bs (And.intro a2 eU));clear HB bs a2 eU
  go_upto_region 6 with (fail)
  go_cut [4] from 22 to 23 (fun v4 W=>∃ b4 n4 a4 m4 c4 k4,∃ r:Nat,v4=vP b4∧af W b4 118 [.bool n4,.slice a4 m4 c4,vI k4]∧ak W (vN n4 a4 m4 c4) (r:Int)∧fD s.natAbs 2 r∧gQ W b3 s∧ni (w.heap.size+1) W∧bW w W)
  case first =>
   obtain ⟨n3,a3,m3,c3,r3,i3,D,F,L,M⟩:=g3.cells
   go_wp2_with (go_at_call 110;refine (kR _ _ i3).mono ?_;rintro e w2 ⟨ar,n5,a5,m5,c5,k5,rfl,r,hr,hq⟩;have r5:=af.new w2 118 [vF,vZ,vI 0];obtain ⟨D,F,y2,L,M,f2⟩:=wQ r5)
   go_meet
   have o1:=dJ w2 (.cells #[.bool n5,.slice a5 m5 c5,vI k5] 118);have q4:=ar.trans (o1.mono ar.size);exact ⟨_,n5,a5,m5,c5,k5,r,rfl,af.new w2 118 [.bool n5,.slice a5 m5 c5,vI k5],hr.below o1,hq,g3.below q4,ni.step _ _ gR q4,q.trans (q4.mono q.size)⟩
  case rest =>
   clear g3 gR q kR;obtain ⟨b4,n4,a4,m4,c4,k4,r,rfl,r4,i4,Q,g3,gR,q⟩:=hcut;have HQ:=Qa Q;clear Q
   go_upto_region 7 with (fail)
   go_cut [5] from 24 to 25 (fun v5 W=>∃ b5,v5=vP b5∧b3<b5∧gQ W b5 (r:Int)∧gQ W b3 s∧ni (w.heap.size+1) W∧bW w W)
   case first =>
    obtain ⟨x0,x1,x2,-,-,-⟩:=wQ r4;have r5:=af.new wc 24 (lN false none 0 0);obtain ⟨D,F,L,M⟩:=av r5
    have l5:b3<wc.heap.size:=by obtain ⟨_,_,_,_,h,-⟩:=g3;exact h.lt
    go_wp2_with fail
    go_meet
    have o1:=dJ wc (.cells #[.bool n4,.slice a4 m4 c4] 24);exact ⟨_,rfl,l5,⟨n4,a4,m4,c4,af.new wc 24 (lN n4 a4 m4 c4),i4.below o1⟩,g3.below o1,ni.step _ _ gR o1,q.trans (o1.mono q.size)⟩
   case rest =>
    clear r4 i4 g3 gR q;obtain ⟨b5,rfl,l5,g5,g3,gR,q⟩:=hcut;obtain ⟨bs,a2,eU⟩:=an.out;have hr:=eU r HQ.out
    have U:((r:Nat):Int).natAbs<aj^300:=by rw [QQ];exact Qf (ui HQ.out (az bs (by decide))) (Ql aP (by decide))
    obtain ⟨z,hz⟩:∃ z:Int,(r:Int)=z:=⟨_,rfl⟩
    rw [hz] at g5 hr U;have am:=jb U U
    have kA:=fun X v v' (hv:ak X v z) (Y:ak X v' z)=>yl v v' z z X hv Y (az U (by decide)) (az U (by decide))
    have kS:=fun X v v' (hv:ak X v s) (Y:ak X v' (-(z*z)))=>xN v v' s _ 600 X hv Y (by decide) (az bs (by decide)) (by rw [JU];exact am)
    have aw:(s+-(z*z)).natAbs<aj^601:=xu (az bs (by decide)) (by rw [JU];exact am)
    have kC:=fun X v v' (hv:ak X v (s+-(z*z))) (Y:ak X v' z)=>Ob v v' _ z X hv Y 1000 (by decide) (az aw (by decide)) (az U (by decide))
    have kO:=fun X=>Au 1 X (by decide) (by decide)
    have o1:(1:Int).natAbs<aj^300:=Qf (show 1<aj^1 by decide) (Ql aP (by decide))
    have kP:=fun X v v' (hv:ak X v z) (Y:ak X v' 1)=>xN v v' z 1 300 X hv Y (by decide) U o1
    have b1:=xu U o1
    have ab:=fun X v (hv:ak X v z)=>yo v z 20 X hv (az U (by decide)) (by decide)
    have ah:=fun X v (hv:ak X v (z+1))=>yo v (z+1) 20 X hv (az b1 (by decide)) (by decide)
    have Q:wF s z=if z<s+-(z*z) then z+1 else z:=by rw [← PI,Int.sub_eq_add_neg]
    have HR:=Qa (And.intro hr Q);clear hr Q U am aw o1 b1 bs a2 eU an HQ hz
    obtain ⟨ht,au⟩:(dS (s+-(z*z)) z=1∨(dS (s+-(z*z)) z=0∨dS (s+-(z*z)) z=-1))∧((z<s+-(z*z))↔dS (s+-(z*z)) z=1):=by
     unfold dS
     by_cases h1:s+-(z*z)<z
     ·rw [if_pos h1];exact ⟨.inr (.inr rfl),by omega⟩
     ·rw [if_neg h1]
      by_cases h2:z<s+-(z*z)
      ·rw [if_pos h2];exact ⟨.inl rfl,by omega⟩
      ·rw [if_neg h2];exact ⟨.inr (.inl rfl),by omega⟩
    have HC:=Qa (And.intro ht au);clear ht au;generalize dS (s+-(z*z)) z=cc at kC HC;generalize s+-(z*z)=lf at *;generalize z*z=zz at *;obtain ⟨n3,a3,m3,c3,r3,i3⟩:=g3;obtain ⟨n5,a5,m5,c5,r5,i5⟩:=g5
    have C:Hid ((∀ r ∈ ([(b3,24,(lN n3 a3 m3 c3)),(b5,24,(lN n5 a5 m5 c5))]:List (Nat × TypeId × List Value)),r.1<wc.heap.size)∧w.heap.size≤wc.heap.size∧w.heap.size+1<wc.heap.size):=Qa ⟨fK r3.lt (fK r5.lt nA),q.size,Yt l3 r3.lt⟩
    have u:Hid (∀ X,fI w wc (ni (w.heap.size+1)) [(b3,24,(lN n3 a3 m3 c3)),(b5,24,(lN n5 a5 m5 c5))] X→(X.cell? ⟨b3,0,none⟩=some (.bool n3)∧X.cell? ⟨b3,1,none⟩=some (.slice a3 m3 c3)∧X.cell? ⟨b5,0,none⟩=some (.bool n5)∧X.cell? ⟨b5,1,none⟩=some (.slice a5 m5 c5))∧fI w wc (ni (w.heap.size+1)) [(b3,24,(lN n3 a3 m3 c3)),(b5,24,(lN n5 a5 m5 c5))] X):=Qa fun X h=>⟨⟨h.r0.cell 0,h.r0.cell 1,h.r1.cell 0,h.r1.cell 1⟩,h⟩
    have ap:fI w wc (ni (w.heap.size+1)) [(b3,24,(lN n3 a3 m3 c3)),(b5,24,(lN n5 a5 m5 c5))] wc:=⟨ax r3 (ax r5 aS),gR,q,fun _ _ h=>h,Qb _⟩
    clear r3 gR q
    go_upto_region 8 with (fail)
    go_cut [6] from 26 to 31 (fun v6 W=>∃ b6,v6=vP b6∧gQ W b6 lf∧gQ W b5 z∧ni (w.heap.size+1) W∧bW w W)
    case first =>
     obtain ⟨C,fe,O⟩:=C.out
     go_wp2_with fail
     refine bB u (bY ni.drew ap) fun X0 d=>?_
     refine tk 0 d ?_;refine tk 1 d ?_;refine tk 2 d ?_;refine ql 3 6 (fun j f=>?_) (fun j f=>?_)
     ·have hP:=d.2
      go_wp2_with (go_at_call 63;refine (kA _ _ _ (i5.keep hP.more) (i5.keep hP.more)).mono ?_;rintro e wk ⟨b,v5,rfl,A⟩)
      refine aT f u (ag ni.step hP b) fun d=>?_
      clear f j hP b;refine ql 4 6 (fun j f=>?_) (fun j f=>?_)
      ·have hP:=d.2
       go_wp2_with (go_at_call 65;refine (nC _ _ _ A).mono ?_;rintro e wk ⟨b,v6,rfl,t⟩)
       replace A:=A.below b
       refine aT f u (ag ni.step hP b) fun d=>?_
       clear f j hP b;refine ql 5 6 (fun j f=>?_) (fun j f=>?_)
       ·have hP:=d.2
        go_wp2_with (go_at_call 67;refine (kS _ _ _ (i3.keep hP.more) t).mono ?_;rintro e wk ⟨b,v7,rfl,T⟩)
        replace t:=t.below b;obtain ⟨g,a,m,c,rfl⟩:=T.shape
        refine aT f u (ag ni.step hP b) fun d=>?_
        clear f j hP b
        refine rd 6 fun j f=>?_
        have hP:=d.2;obtain ⟨V9,V,n,B,o⟩:=aL hP 24 (lN false none 0 0)
        go_wp2_with fail
        rw [V.out];clear V;replace T:=T.below o
        refine aT f u (ag ni.step hP o) fun d=>?_
        clear f j hP o
        refine rd 7 fun j f=>?_
        have hP:=d.2;obtain ⟨D,F,L,M⟩:=av n;obtain ⟨V8,J,H,G,I,cO⟩:=ay hP (ni.other (Qg (Qf O B))) (bP C B) (Qd fe B) n (.bool g) (.slice a m c)
        go_wp2_with fail
        rw [J.out];replace T:=T.keep G;replace n:=I
        refine aT f u H fun d=>?_
        clear f j hP H J G I cO D F L M;refine wpAnyH_done (by kernel_rfl) ?_ _;go_wp2
        go_meet
        exact ⟨_,rfl,⟨_,_,_,_,n,T⟩,⟨_,_,_,_,d.2.r1,i5.keep d.2.more⟩,d.2.res,d.2.below⟩
       have hP:=d.2;obtain ⟨V9,V,n,B,o⟩:=aL hP 24 (lN false none 0 0)
       go_wp2_with fail
       rw [V.out];clear V;replace t:=t.below o
       refine aT f u (ag ni.step hP o) fun d=>?_
       clear f j hP o
       refine rd 5 fun j f=>?_
       have hP:=d.2
       go_wp2_with (go_at_call 67;refine (kS _ _ _ (i3.keep hP.more) t).mono ?_;rintro e wk ⟨b,v7,rfl,T⟩)
       replace t:=t.below b;replace n:=n.below b;obtain ⟨g,a,m,c,rfl⟩:=T.shape
       refine aT f u (ag ni.step hP b) fun d=>?_
       clear f j hP b
       refine rd 7 fun j f=>?_
       have hP:=d.2;obtain ⟨D,F,L,M⟩:=av n;obtain ⟨V8,J,H,G,I,cO⟩:=ay hP (ni.other (Qg (Qf O B))) (bP C B) (Qd fe B) n (.bool g) (.slice a m c)
       go_wp2_with fail
       rw [J.out];replace T:=T.keep G;replace n:=I
       refine aT f u H fun d=>?_
       clear f j hP H J G I cO D F L M;refine wpAnyH_done (by kernel_rfl) ?_ _;go_wp2
       go_meet
       exact ⟨_,rfl,⟨_,_,_,_,n,T⟩,⟨_,_,_,_,d.2.r1,i5.keep d.2.more⟩,d.2.res,d.2.below⟩
      have hP:=d.2;obtain ⟨V9,V,n,B,o⟩:=aL hP 24 (lN false none 0 0)
      go_wp2_with fail
      rw [V.out];clear V;replace A:=A.below o
      refine aT f u (ag ni.step hP o) fun d=>?_
      clear f j hP o
      refine rd 4 fun j f=>?_
      have hP:=d.2
      go_wp2_with (go_at_call 65;refine (nC _ _ _ A).mono ?_;rintro e wk ⟨b,v6,rfl,t⟩)
      replace A:=A.below b;replace n:=n.below b
      refine aT f u (ag ni.step hP b) fun d=>?_
      clear f j hP b
      refine rd 5 fun j f=>?_
      have hP:=d.2
      go_wp2_with (go_at_call 67;refine (kS _ _ _ (i3.keep hP.more) t).mono ?_;rintro e wk ⟨b,v7,rfl,T⟩)
      replace n:=n.below b;replace t:=t.below b;obtain ⟨g,a,m,c,rfl⟩:=T.shape
      refine aT f u (ag ni.step hP b) fun d=>?_
      clear f j hP b
      refine rd 7 fun j f=>?_
      have hP:=d.2;obtain ⟨D,F,L,M⟩:=av n;obtain ⟨V8,J,H,G,I,cO⟩:=ay hP (ni.other (Qg (Qf O B))) (bP C B) (Qd fe B) n (.bool g) (.slice a m c)
      go_wp2_with fail
      rw [J.out];replace T:=T.keep G;replace n:=I
      refine aT f u H fun d=>?_
      clear f j hP H J G I cO D F L M;refine wpAnyH_done (by kernel_rfl) ?_ _;go_wp2
      go_meet
      exact ⟨_,rfl,⟨_,_,_,_,n,T⟩,⟨_,_,_,_,d.2.r1,i5.keep d.2.more⟩,d.2.res,d.2.below⟩
     have hP:=d.2;obtain ⟨V9,V,n,B,o⟩:=aL hP 24 (lN false none 0 0)
     go_wp2_with fail
     rw [V.out];clear V
     refine aT f u (ag ni.step hP o) fun d=>?_
     clear f j hP o
     refine rd 3 fun j f=>?_
     have hP:=d.2
     go_wp2_with (go_at_call 63;refine (kA _ _ _ (i5.keep hP.more) (i5.keep hP.more)).mono ?_;rintro e wk ⟨b,v5,rfl,A⟩)
     replace n:=n.below b
     refine aT f u (ag ni.step hP b) fun d=>?_
     clear f j hP b
     refine rd 4 fun j f=>?_
     have hP:=d.2
     go_wp2_with (go_at_call 65;refine (nC _ _ _ A).mono ?_;rintro e wk ⟨b,v6,rfl,t⟩)
     replace n:=n.below b;replace A:=A.below b
     refine aT f u (ag ni.step hP b) fun d=>?_
     clear f j hP b
     refine rd 5 fun j f=>?_
     have hP:=d.2
     go_wp2_with (go_at_call 67;refine (kS _ _ _ (i3.keep hP.more) t).mono ?_;rintro e wk ⟨b,v7,rfl,T⟩)
     replace n:=n.below b;replace t:=t.below b;obtain ⟨g,a,m,c,rfl⟩:=T.shape
     refine aT f u (ag ni.step hP b) fun d=>?_
     clear f j hP b
     refine rd 7 fun j f=>?_
     have hP:=d.2;obtain ⟨D,F,L,M⟩:=av n;obtain ⟨V8,J,H,G,I,cO⟩:=ay hP (ni.other (Qg (Qf O B))) (bP C B) (Qd fe B) n (.bool g) (.slice a m c)
     go_wp2_with fail
     rw [J.out];replace T:=T.keep G;replace n:=I
     refine aT f u H fun d=>?_
     clear f j hP H J G I cO D F L M;refine wpAnyH_done (by kernel_rfl) ?_ _;go_wp2
     go_meet
     exact ⟨_,rfl,⟨_,_,_,_,n,T⟩,⟨_,_,_,_,d.2.r1,i5.keep d.2.more⟩,d.2.res,d.2.below⟩
    case rest =>
     obtain ⟨b6,rfl,g6,g5,gR,q⟩:=hcut;clear u ap C i3 i5 kA kS r5
     replace ab:∀ X v,ak X v z→Calls prog 91 #[v,vI 20] X fun e w'=>bW X w'∧∃ k0 n0 g a m c s l x y k,e=.returned (vG k0 n0 g a m c s l x y k)∧dP w' (least z 20).1 (least z 20).2 k (vV k0 n0 g a m c s l x y):=ab
     replace ah:∀ X v,ak X v (z+1)→Calls prog 91 #[v,vI 20] X fun e w'=>bW X w'∧∃ k0 n0 g a m c s l x y k,e=.returned (vG k0 n0 g a m c s l x y k)∧dP w' (least (z+1) 20).1 (least (z+1) 20).2 k (vV k0 n0 g a m c s l x y):=ah
     obtain ⟨n6,a6,m6,c6,r6,i6,x2,x3,-,-⟩:=g6.cells;clear r6 g6
     rcases HC.out.1 with rfl | hle
     ·obtain rfl:rq=least (z+1) 20:=by rw [HR.out.1,HR.out.2,if_pos (HC.out.2.2 rfl)]
      clear ab HR HC;obtain ⟨n8,a8,m8,c8,r8,i8,x0,x1,-,-⟩:=g5.cells
      go_upto_region 10 with (go_at_call 68;refine (kC _ _ _ i6 i8).mono ?_;rintro e w8 ⟨qj,rfl⟩;have S:=r8.below qj;have Z:=i8.below qj;have R8:=ni.step _ _ gR qj;have B8:=q.trans (qj.mono q.size))
      clear r8 i8 x0 x1 x2 x3 g5 gR q qj i6 kC
      go_cut [] from 36 to 38 (fun W=>gQ W b5 (z+1)∧ni (w.heap.size+1) W∧bW w W)
      case first =>
       have N:Hid (∀ X,fI w w8 (ni (w.heap.size+1)) [] X→(True)∧fI w w8 (ni (w.heap.size+1)) [] X):=Qa fun X h=>⟨trivial,h⟩
       have ao:fI w w8 (ni (w.heap.size+1)) [] w8:=⟨aS,R8,B8,fun _ _ h=>h,Qb _⟩
       go_wp2_with fail
       refine EA (E:=fun X=>af X b5 24 (lN n8 a8 m8 c8)∧ak X (vN n8 a8 m8 c8) z) N (bY ni.drew ao) ⟨S,Z⟩ fun X0 d hE=>?_
       clear S Z;obtain ⟨S,Z⟩:=hE;refine ql 0 1 (fun j f=>?_) (fun j f=>?_)
       ·have hP:=d.2
        obtain ⟨D,F,-,-⟩:=av S
        go_wp2_with fail
        refine f.out _ _ d fun d=>?_
        clear f j hP D F
        refine rd 1 fun j f=>?_
        have hP:=d.2
        go_wp2_with (go_at_call 66;refine (kO _).mono ?_;rintro e wk ⟨b,v5,rfl,A⟩)
        replace S:=S.below b;replace Z:=Z.below b
        refine aT f N (ag ni.step hP b) fun d=>?_
        clear f j hP b
        refine rd 2 fun j f=>?_
        have hP:=d.2
        go_wp2_with (go_at_call 67;refine (kP _ _ _ Z A).mono ?_;rintro e wk ⟨b,v6,rfl,t⟩)
        replace S:=S.below b;replace Z:=Z.below b;replace A:=A.below b;obtain ⟨g,a,m,c,rfl⟩:=t.shape
        refine aT f N (ag ni.step hP b) fun d=>?_
        clear f j hP b
        refine rd 3 fun j f=>?_
        have hP:=d.2;obtain ⟨D,F,L,M⟩:=av S;obtain ⟨V8,J,H,G,I,cO⟩:=ay hP (ni.other (show w.heap.size+1≠b5 by omega)) (fun _ h=>nomatch h) (show w.heap.size≤b5 by omega) S (.bool g) (.slice a m c)
        go_wp2_with fail
        rw [J.out];replace t:=t.keep G;replace S:=I
        refine aT f N H fun d=>?_
        clear f j hP H J G I cO D F L M;refine wpAnyH_done (by kernel_rfl) ?_ _;go_wp2
        go_meet
        exact ⟨⟨_,_,_,_,S,t⟩,d.2.res,d.2.below⟩
       have hP:=d.2
       go_wp2_with (go_at_call 66;refine (kO _).mono ?_;rintro e wk ⟨b,v5,rfl,A⟩)
       replace S:=S.below b;replace Z:=Z.below b
       refine aT f N (ag ni.step hP b) fun d=>?_
       clear f j hP b
       refine rd 0 fun j f=>?_
       have hP:=d.2;obtain ⟨D,F,-,-⟩:=av S
       go_wp2_with fail
       refine f.out _ _ d fun d=>?_
       clear f j hP D F
       refine rd 2 fun j f=>?_
       have hP:=d.2
       go_wp2_with (go_at_call 67;refine (kP _ _ _ Z A).mono ?_;rintro e wk ⟨b,v6,rfl,t⟩)
       replace S:=S.below b;replace Z:=Z.below b;replace A:=A.below b;obtain ⟨g,a,m,c,rfl⟩:=t.shape
       refine aT f N (ag ni.step hP b) fun d=>?_
       clear f j hP b
       refine rd 3 fun j f=>?_
       have hP:=d.2;obtain ⟨D,F,L,M⟩:=av S;obtain ⟨V8,J,H,G,I,cO⟩:=ay hP (ni.other (show w.heap.size+1≠b5 by omega)) (fun _ h=>nomatch h) (show w.heap.size≤b5 by omega) S (.bool g) (.slice a m c)
       go_wp2_with fail
       rw [J.out];replace t:=t.keep G;replace S:=I
       refine aT f N H fun d=>?_
       clear f j hP H J G I cO D F L M;refine wpAnyH_done (by kernel_rfl) ?_ _;go_wp2
       go_meet
       exact ⟨⟨_,_,_,_,S,t⟩,d.2.res,d.2.below⟩
      case rest =>
       clear S Z R8 B8 kO kP;obtain ⟨g5,gR,q⟩:=hcut;obtain ⟨n8,a8,m8,c8,r8,i8,x0,x1,-,-⟩:=g5.cells;clear r8
       go_wp2_with (first | (go_at_call 91;with_reducible refine (ah _ _ i8).mono ?_;rintro e w9 ⟨b,k0,n0,g,a,m,c,s,l,x9,y9,k,rfl,hO⟩;have a0:fI w w9 (ni (w.heap.size+1)) [] w9:=⟨aS,ni.step _ _ gR b,q.trans (b.mono q.size),fun _ _ h=>h,Qb _⟩;obtain ⟨z0,z1,z2,z3,aI,aJ,z4,z5,aN,aO,z6,hr,D,F,y2,y3,y4,y5,y6,L,M,f2,f3,f4,f5,f6⟩:=a0.res.cells))
       obtain ⟨u0,u1,u2,u3,u4,u5,u6⟩:=wO hr (vI k0) (vI n0) (.bool g) (.slice a m c) (.string s) (.slice l x9 y9) (vI k);have hb:=(uS a0 dV (by omega) k0 n0 g a m c s l x9 y9 k).below;have a7:=hO.keep (nP hr (vI k0) (vI n0) (.bool g) (.slice a m c) (.string s) (.slice l x9 y9) (vI k))
       exact bodyPost_ret (v:=vG k0 n0 g a m c s l x9 y9 k) (by simp [results,results39,go_sem,loadCellsFrom,u0,u1,u2,u3,u4,u5,u6]) rfl ⟨hb,_,_,_,_,_,_,_,_,_,_,_,rfl,a7⟩
     ·obtain rfl:rq=least z 20:=by rw [HR.out.1,HR.out.2,if_neg (fun h=>by have:=HC.out.2.1 h;omega)]
      clear ah HR HC kO kP
      rcases hle with rfl | rfl
      ·skip
       obtain ⟨n8,a8,m8,c8,r8,i8,x0,x1,-,-⟩:=g5.cells;clear r8
       go_wp2_with (first | (go_at_call 68;with_reducible refine (kC _ _ _ i6 i8).mono ?_;rintro e w8 ⟨qj,rfl⟩;have G8:=g5.below qj;have R8:=ni.step _ _ gR qj;have B8:=q.trans (qj.mono q.size);obtain ⟨n9,a9,m9,c9,r9,Z,x4,x5,-,-⟩:=G8.cells;clear r9) | (go_at_call 91;with_reducible refine (ab _ _ Z).mono ?_;rintro e w9 ⟨b,k0,n0,g,a,m,c,s,l,x9,y9,k,rfl,hO⟩;have a0:fI w w9 (ni (w.heap.size+1)) [] w9:=⟨aS,ni.step _ _ R8 b,B8.trans (b.mono B8.size),fun _ _ h=>h,Qb _⟩;obtain ⟨z0,z1,z2,z3,aI,aJ,z4,z5,aN,aO,z6,hr,D,F,y2,y3,y4,y5,y6,L,M,f2,f3,f4,f5,f6⟩:=a0.res.cells))
       obtain ⟨u0,u1,u2,u3,u4,u5,u6⟩:=wO hr (vI k0) (vI n0) (.bool g) (.slice a m c) (.string s) (.slice l x9 y9) (vI k);have hb:=(uS a0 dV (by omega) k0 n0 g a m c s l x9 y9 k).below;have a7:=hO.keep (nP hr (vI k0) (vI n0) (.bool g) (.slice a m c) (.string s) (.slice l x9 y9) (vI k))
       exact bodyPost_ret (v:=vG k0 n0 g a m c s l x9 y9 k) (by simp [results,results39,go_sem,loadCellsFrom,u0,u1,u2,u3,u4,u5,u6]) rfl ⟨hb,_,_,_,_,_,_,_,_,_,_,_,rfl,a7⟩
      ·skip
       obtain ⟨n8,a8,m8,c8,r8,i8,x0,x1,-,-⟩:=g5.cells;clear r8
       go_wp2_with (first | (go_at_call 68;with_reducible refine (kC _ _ _ i6 i8).mono ?_;rintro e w8 ⟨qj,rfl⟩;have G8:=g5.below qj;have R8:=ni.step _ _ gR qj;have B8:=q.trans (qj.mono q.size);obtain ⟨n9,a9,m9,c9,r9,Z,x4,x5,-,-⟩:=G8.cells;clear r9) | (go_at_call 91;with_reducible refine (ab _ _ Z).mono ?_;rintro e w9 ⟨b,k0,n0,g,a,m,c,s,l,x9,y9,k,rfl,hO⟩;have a0:fI w w9 (ni (w.heap.size+1)) [] w9:=⟨aS,ni.step _ _ R8 b,B8.trans (b.mono B8.size),fun _ _ h=>h,Qb _⟩;obtain ⟨z0,z1,z2,z3,aI,aJ,z4,z5,aN,aO,z6,hr,D,F,y2,y3,y4,y5,y6,L,M,f2,f3,f4,f5,f6⟩:=a0.res.cells))
       obtain ⟨u0,u1,u2,u3,u4,u5,u6⟩:=wO hr (vI k0) (vI n0) (.bool g) (.slice a m c) (.string s) (.slice l x9 y9) (vI k);have hb:=(uS a0 dV (by omega) k0 n0 g a m c s l x9 y9 k).below;have a7:=hO.keep (nP hr (vI k0) (vI n0) (.bool g) (.slice a m c) (.string s) (.slice l x9 y9) (vI k))
       exact bodyPost_ret (v:=vG k0 n0 g a m c s l x9 y9 k) (by simp [results,results39,go_sem,loadCellsFrom,u0,u1,u2,u3,u4,u5,u6]) rfl ⟨hb,_,_,_,_,_,_,_,_,_,_,_,rfl,a7⟩
theorem Rh (b:Value)(f:Option (Int × Nat))(w:World)(h1:Fm w b f) :
 CB 39 #[b] w fun e q=>∃ k0 n0 g a m c s l n o k,e=.returned (vG k0 n0 g a m c s l n o k)∧dG q (vg (fun x=>if x.1<0 then 1 else 0) f) (BB kW f) k (vV k0 n0 g a m c s l n o):=by
 cases f with
 | none =>
  refine (Rv b w h1).mono ?_;rintro e j ⟨d,rfl⟩;exact ⟨d,_,_,_,_,_,_,_,_,_,_,_,rfl,jX (k0:=2) (by decide)⟩
 | some x =>
  obtain ⟨i,p⟩:=x;have h1:dB w b i p:=h1
  by_cases h:i<0
  ·refine (Re b i p w h1 h).mono ?_
   rintro e j ⟨d,rfl⟩;refine ⟨d,_,_,_,_,_,_,_,_,_,_,_,rfl,?_⟩
   show dG j (if i<0 then 1 else 0) _ _ _
   rw [if_pos h];exact jX (by decide)
  ·refine (Rf b i p w h1 (by omega)).mono ?_
   rintro e j ⟨d,k0,n0,g,a,m,c,s,l,n,o,k,rfl,hf⟩;exact ⟨d,_,_,_,_,_,_,_,_,_,_,_,rfl,jY (if_neg h) hf⟩
def PS (X:World)(b:Nat)(K:Int)(x:Int × Nat)(k:Int):Prop:=∃ z0 z1 z2 z3 aI aJ z4 z5 aN aO,af X b 27 (lV z0 z1 z2 z3 aI aJ z4 z5 aN aO)∧dG X K x k (vV z0 z1 z2 z3 aI aJ z4 z5 aN aO)
theorem PS.below {X a:World}{b:Nat}{K:Int}{x:Int × Nat}{k:Int}(h:PS X b K x k)(c:bW X a):PS a b K x k:=by
 obtain ⟨l,m,n,o,d,f,p,q,g,i,h1,j⟩:=h;exact ⟨l,m,n,o,d,f,p,q,g,i,h1.below c,j.below c⟩
theorem Pf (va:Value)(g:Option (Int × Nat))(a:Int)(w:World)(h1:Fm w va g)(hT:gU w) :
 CB 5 #[va,vI a] w fun e _=>e=.returned (.bool true):=by
 obtain ⟨s,u,r,n,m1,o,m,q,l,p,rfl⟩:=h1.kY;obtain ⟨W0,hW,T,q1⟩:=Lf w 27 (lV s u r n m1 o m q l p)
 have t:=fun X:World=>RI X.heap.size (X.alloc (.cells #[vI s,vI u,.bool r,.slice n m1 o,.string m,.slice q l p] 27)) (af.new X 27 (lV s u r n m1 o m q l p))
 have kS:=fun X (hX:bW w X)=>NB X (hT.below hX)
 generalize hB:kE m1 l m=B at t;clear hB;go_enter func5,ntmps5
 go_upto_region 1 with (fail)
 rw [hW.out];clear hW
 go_upto_region 2 with (go_at_call 16;refine (kS _ T).mono ?_;rintro e w1 ⟨f,rfl⟩;have r1:=q1.below f;have b1:=T.trans (f.mono T.size))
 clear q1 T f kS
 go_cut [30] from 11 to 30 (fun a5 W=>∃ C:Bool,a5=.bool C∧af W (w.heap.size) 27 (lV s u r n m1 o m q l p)∧bW w W)
 case first =>
  obtain ⟨d0,d1,d2,d3,d4,d5⟩:=aD r1;have z:=b1.alloc b1.size (.cells #[vI s,vI u,.bool r,.slice n m1 o,.string m,.slice q l p] 27);have r9:=r1.alloc (.cells #[vI s,vI u,.bool r,.slice n m1 o,.string m,.slice q l p] 27)
  cases B with
  | false =>
   go_wp2_with (go_at_call 17;refine (t _).mono ?_;rintro e J ⟨rfl,rfl⟩)
   go_meet
   exact ⟨_,rfl,r9,z⟩
  | true =>
   have j:(300<a∧a≤9600)∨(9600<a)∨(a< -300∧-9600≤a)∨(a< -9600)∨(-300≤a∧a≤300):=by omega
   rcases j with j | j | j | j | j
   ·have V:decide ((300:Int)<a)=true:=decide_eq_true (by omega)
    have Y:decide (a≤(9600:Int))=true:=decide_eq_true (by omega);have Z:decide (a<(-300:Int))=false:=decide_eq_false (by omega);have e4:decide ((-9600:Int)≤a)=true:=decide_eq_true (by omega);clear j
    go_wp2_with (go_at_call 17;refine (t _).mono ?_;rintro e J ⟨rfl,rfl⟩)
    go_meet
    exact ⟨_,rfl,r9,z⟩
   ·have V:decide ((300:Int)<a)=true:=decide_eq_true (by omega)
    have Y:decide (a≤(9600:Int))=false:=decide_eq_false (by omega);have Z:decide (a<(-300:Int))=false:=decide_eq_false (by omega);have e4:decide ((-9600:Int)≤a)=true:=decide_eq_true (by omega);clear j
    go_wp2_with (go_at_call 17;refine (t _).mono ?_;rintro e J ⟨rfl,rfl⟩)
    go_meet
    exact ⟨_,rfl,r9,z⟩
   ·have V:decide ((300:Int)<a)=false:=decide_eq_false (by omega)
    have Y:decide (a≤(9600:Int))=true:=decide_eq_true (by omega);have Z:decide (a<(-300:Int))=true:=decide_eq_true (by omega);have e4:decide ((-9600:Int)≤a)=true:=decide_eq_true (by omega);clear j
    go_wp2_with (go_at_call 17;refine (t _).mono ?_;rintro e J ⟨rfl,rfl⟩)
    go_meet
    exact ⟨_,rfl,r9,z⟩
   ·have V:decide ((300:Int)<a)=false:=decide_eq_false (by omega)
    have Y:decide (a≤(9600:Int))=true:=decide_eq_true (by omega);have Z:decide (a<(-300:Int))=true:=decide_eq_true (by omega);have e4:decide ((-9600:Int)≤a)=false:=decide_eq_false (by omega);clear j
    go_wp2_with (go_at_call 17;refine (t _).mono ?_;rintro e J ⟨rfl,rfl⟩)
    go_meet
    exact ⟨_,rfl,r9,z⟩
   ·have V:decide ((300:Int)<a)=false:=decide_eq_false (by omega)
    have Y:decide (a≤(9600:Int))=true:=decide_eq_true (by omega);have Z:decide (a<(-300:Int))=false:=decide_eq_false (by omega);have e4:decide ((-9600:Int)≤a)=true:=decide_eq_true (by omega);clear j
    go_wp2_with (go_at_call 17;refine (t _).mono ?_;rintro e J ⟨rfl,rfl⟩)
    go_meet
    exact ⟨_,rfl,r9,z⟩
 case rest =>
  clear r1 b1 t;obtain ⟨C,rfl,r1,b⟩:=hcut
  cases C with
  | true =>
   go_wp2_with fail
   go_ret;exact ⟨b,rfl⟩
  | false =>
   go_upto_region 4 with (fail)
   go_cut [6,7] from 32 to 37 (fun v6 v7 W=>∃ U,∃ j6:Int,v6=vP U∧v7=vI j6∧PS W U (vg (qF a) g) (BB (sS a) g) j6∧af W (w.heap.size) 27 (lV s u r n m1 o m q l p)∧bW w W)
   case first =>
    obtain ⟨x0,x1,x2,x3,x4,x5⟩:=aD r1;have k9:=KG _ g a _ (h1.below b)
    go_wp2_with (go_at_call 36;refine k9.mono ?_;rintro e w1 ⟨f,L,M,N,O,D,E,Q,S,F,G,k,rfl,hR⟩;have r5:=af.new w1 27 (lV 0 0 false none 0 0 ⟨#[]⟩ none 0 0);obtain ⟨y0,y1,y2,y3,y4,y5,f0,g,f2,f3,f4,f5⟩:=df r5)
    go_meet
    have I:=dJ w1 (.cells #[vI L,vI M,.bool N,.slice O D E,.string Q,.slice S F G] 27);have A:=f.trans (I.mono f.size);exact ⟨_,k,rfl,rfl,⟨_,_,_,_,_,_,_,_,_,_,af.new w1 27 (lV L M N O D E Q S F G),hR.below I⟩,r1.below A,b.trans (A.mono b.size)⟩
   case rest =>
    clear b r1;obtain ⟨U,j6,rfl,rfl,g6,r1,b⟩:=hcut
    go_upto_region 5 with (fail)
    go_cut [8,9] from 38 to 42 (fun v8 v9 W=>∃ b8,∃ j8:Int,v8=vP b8∧v9=vI j8∧PS W b8 (vg (fun x=>if x.1<0 then 1 else 0) g) (BB kW g) j8∧PS W U (vg (qF a) g) (BB (sS a) g) j6∧af W (w.heap.size) 27 (lV s u r n m1 o m q l p)∧bW w W)
    case first =>
     obtain ⟨x0,x1,x2,x3,x4,x5⟩:=aD r1;have k9:=GN _ g _ (h1.below b)
     go_wp2_with (go_at_call 37;refine k9.mono ?_;rintro e w1 ⟨f,L,M,N,O,D,E,Q,S,F,G,k,rfl,hR⟩;have r5:=af.new w1 27 (lV 0 0 false none 0 0 ⟨#[]⟩ none 0 0);obtain ⟨y0,y1,y2,y3,y4,y5,f0,g,f2,f3,f4,f5⟩:=df r5)
     go_meet
     have I:=dJ w1 (.cells #[vI L,vI M,.bool N,.slice O D E,.string Q,.slice S F G] 27);have A:=f.trans (I.mono f.size);exact ⟨_,k,rfl,rfl,⟨_,_,_,_,_,_,_,_,_,_,af.new w1 27 (lV L M N O D E Q S F G),hR.below I⟩,g6.below A,r1.below A,b.trans (A.mono b.size)⟩
    case rest =>
     clear b g6 r1;obtain ⟨b8,j8,rfl,rfl,g8,g6,r1,b⟩:=hcut
     go_upto_region 6 with (fail)
     obtain ⟨ap,aq,ar,au,ad,a8,av,aw,ah,a9,e8,h8⟩:=g8;obtain ⟨aj,ak,al,am,aa,a6,an,ao,ab,a7,e6,h6⟩:=g6;have dH:=fC (R:=dR) (ax e8 (ax e6 (ax r1 aS))) trivial b
     have H:=yO dH fun X h=>(ik h.r0 (ik h.r1 (aD h.r2)):)
     clear e8 e6 r1 b hT
     go_wp2_with fail
     refine bB H (bY dR.drew dH) fun X0 d=>?_
     refine tk 0 d ?_;refine tk 1 d ?_;refine tk 2 d ?_;refine tk 3 d ?_;refine tk 4 d ?_;refine tk 5 d ?_
     refine rd 6 fun v i=>?_
     have hP:=d.2
     go_wp2_with (go_at_call 38;refine (Rw _ g a _ (h1.below hP.below)).mono ?_;rintro e wk ⟨c,k0,n0,g0,a0,m0,c0,s0,a3,l0,a4,kk,rfl,y⟩)
     refine aT i H (ag dR.step hP c) fun d=>?_
     clear i v hP c
     refine rd 7 fun v i=>?_
     have hP:=d.2
     go_wp2_with (go_at_call 24;refine (Pt _ _ _ _ _ _ _ _ _ _ _ _ _ _ _ _ _ _ _ _ _ _ _ (Ps (h6.keep hP.more) y)).mono ?_;rintro e wk ⟨c,rfl⟩)
     replace y:=y.below c
     refine aT i H (ag dR.step hP c) fun d=>?_
     clear i v hP c;refine tk 8 d ?_;refine tk 9 d ?_;refine tk 10 d ?_;refine tk 11 d ?_;refine tk 12 d ?_
     refine rd 13 fun v i=>?_
     have hP:=d.2
     go_wp2_with (go_at_call 39;refine (Rh _ g _ (h1.below hP.below)).mono ?_;rintro e wk ⟨c,k0,n0,g0,a0,m0,c0,s0,a3,l0,a4,kk,rfl,y⟩)
     refine aT i H (ag dR.step hP c) fun d=>?_
     clear i v hP c
     refine rd 14 fun v i=>?_
     have hP:=d.2
     go_wp2_with (go_at_call 24;refine (Pt _ _ _ _ _ _ _ _ _ _ _ _ _ _ _ _ _ _ _ _ _ _ _ (Ps (h8.keep hP.more) y)).mono ?_;rintro e wk ⟨c,rfl⟩)
     replace y:=y.below c
     refine aT i H (ag dR.step hP c) fun d=>?_
     clear i v hP c;refine tk 15 d ?_;refine tk 16 d ?_;refine wpAnyH_done (by kernel_rfl) ?_ _;have a2:=d.2.below;clear d
     go_wp2_with fail
     go_ret;exact ⟨a2,rfl⟩
end Go.Proofs.YtagjhmodblifbaaGreatDoor
namespace Go.Proofs.YtagjhmodblifbaaGreatDoor
open Go.Proofs.Tryz
open Go.ChangeShapes Go.WideShapes Go.ChangeAt Go.RowKit Go.Joins
theorem Oe (os:Os)(started:os.Started)(H:Type)(enc:TypeId × Value→H) :
  ReturnsInHanded {} checked os 5 .any (fun w args=>(Rows.decPowersSpec.pre enc prog f5 [] false w args∧laidMetH prog Mt w)∧sizedMet enc prog f5 (OpenSpec.ofChange Rows.decPowersSpec) false w args)
   (Rows.decPowersSpec.post enc prog f5 false true false false):=by
 refine returnsInHanded_of_change_and (C:=checked) (X:=fun w _=>laidMetH prog Mt w) (fun _ _ _ I h=>h.of_heap I) own started (by kernel_rfl) func5
  (ChangeSpec.witness_shaped (enc:=enc) (C:=checked) (os:=os) (X:=fun w _=>laidMetH prog Mt w) false (World.laidAll prog os Mt) #[vV 0 0 false none 0 0 ByteArray.empty none 0 0,vI 0] 8 (World.laidAll_os _ _ _) (World.shaped_of_ZipB (by kernel_rfl) (by kernel_rfl)) (by kernel_rfl) (by kernel_rfl) (by kernel_rfl) (by rw [MakeChecks.laidMetH_plain _ _ _ (by kernel_rfl)];exact laidMet_laidAll _ (by kernel_rfl) (by kernel_rfl))) ?_
 intro W base args u U before b o _ _ B _;have a:∀ (j:Nat) t v,f5.params[j]?=some t→args[j]?=some v→Value.okWide prog W .any base t v:=b;have f:=o;obtain ⟨p,q,d,E,rfl,G,L⟩:=o;have n:DataW.TrodAll enc prog W 0 (fun _=>true) true f5.params.toList args.toList u p:=d;rw [params5] at n a;obtain ⟨k,O,S,y,N,Y,g,rfl,rfl,h0,r0⟩:=trodAll_cons n
 obtain ⟨r,Q,T,z,V,Z,rfl,rfl,rfl,h1,r1⟩:=trodAll_cons r0;obtain ⟨rfl,rfl,rfl⟩:=trodAll_nil r1
 obtain rfl:args=#[k,r]:=by cases args;simp_all
 obtain ⟨rfl,rfl⟩:=trodVars_none E
 have i:∀ x ∈ N,x.block<W.heap.size:=by obtain ⟨m,J⟩:=h0;exact DataW.trod_lt m _ _ _ J
 obtain ⟨A,s⟩:=NC (a 0 27 k rfl rfl) h0;obtain ⟨M,rfl,rfl,rfl,l⟩:=open_int underlying3 (a 1 3 r rfl rfl) h1;have D:=ND B;clear d b
 refine (Pf k A M W s D).mono fun e R ⟨c,F⟩=>?_
 subst F;exact ⟨_,rfl,_,_,_,[],_,[],f,trodAll_mk1 (shut_bool underlying4 _),(trodAll_cons_mk (Below.trod laidOut (by kernel_rfl) (of_decide_eq_true (by kernel_rfl)) h0 c i) (trodAll_cons_mk (shut_int underlying3 l) trodAll_mk0)),rfl,c.frame _,fun h=>by cases h⟩
theorem Oq:(Rows.decPowersRow.wf (OpenSpec.ofChange Rows.decPowersSpec))=true:=by kernel_rfl
theorem Ot:(f5.params.all (prog.readableRec ·))=true:=by kernel_rfl
theorem Ou:(namedTie prog Rows.decPowersRow.named Rows.decPowersSpec.vars)=true:=by kernel_rfl
theorem Ov:((Rows.decPowersRow.stops == []))=true:=by kernel_rfl
theorem Ow:((prog.stops == []))=true:=by kernel_rfl
theorem Ox:((Rows.decPowersRow.knobs == []))=true:=by kernel_rfl
theorem Oy:((prog.stopKnobs == []))=true:=by kernel_rfl
theorem Oz:((Rows.decPowersRow.inPlace == prog.inPlace 5))=true:=by kernel_rfl
theorem OA:((Rows.decPowersRow.unfollowed == prog.unfollowed 5))=true:=by kernel_rfl
theorem OB:((Rows.decPowersRow.recurses == prog.recurses 5))=true:=by kernel_rfl
theorem OC:((Rows.decPowersRow.named == prog.varsNamed 5))=true:=by kernel_rfl
theorem OD:((Rows.decPowersRow.maps == (f5.params.toList++Rows.decPowersSpec.plain.varTypes prog).any (prog.mapsRec ·)))=true:=by kernel_rfl
theorem OE:((Rows.decPowersRow.ifaces == (f5.params.toList++Rows.decPowersSpec.plain.varTypes prog).any (prog.ifacesRec ·)))=true:=by kernel_rfl
theorem OG:((Rows.decPowersRow.mapsOut == prog.mapsAmong f5.resultTypes.toList))=true:=by kernel_rfl
theorem OH:((Rows.decPowersRow.loops == (f5.params.toList++Rows.decPowersSpec.plain.varTypes prog).any (prog.loopsFrom ·)))=true:=by kernel_rfl
theorem OI:((Rows.decPowersRow.wideKeys == (f5.params.toList++Rows.decPowersSpec.plain.varTypes prog++f5.resultTypes.toList).any (prog.wideKeysFrom ·)))=true:=by kernel_rfl
theorem OJ:(Rows.decPowersSpec.vars.all (prog.varReadable ·))=true:=by kernel_rfl
theorem OL:(f5.resultTypes.all (fun t=>prog.readableRec t&&decide (t<prog.types.size)))=true:=by kernel_rfl
theorem OM:((Rows.decPowersRow.ifacesOut == f5.resultTypes.toList.any (prog.ifacesRec ·)))=true:=by kernel_rfl
theorem OO:((Rows.decPowersRow.loopsOut == f5.resultTypes.toList.any (prog.loopsFrom ·)))=true:=by kernel_rfl
theorem OP:((Rows.decPowersRow.plainKeys == prog.plainKeys))=true:=by kernel_rfl
theorem OQ:(Rows.decPowersRow.shortTexts.isNone)=true:=by kernel_rfl
theorem OT:((Rows.decPowersRow.kinds == (if Rows.decPowersRow.domain.isEmpty then [] else f5.params.toList.map fun t=>match prog.underlying t with | some (.int k)=>some k | _=>none)))=true:=by kernel_rfl
theorem OU:((Rows.decPowersRow.pinned == Rows.decPowersRow.pinnedBy))=true:=by kernel_rfl
theorem OV:((Rows.decPowersRow.veiled == (f5.params.toList++Rows.decPowersSpec.plain.varTypes prog++f5.resultTypes.toList).any (prog.veiledRec ·)))=true:=by kernel_rfl
theorem OW:(Rows.decPowersRow.veiledFits prog f5.params.toList (f5.params.toList++Rows.decPowersSpec.plain.varTypes prog++f5.resultTypes.toList))=true:=by kernel_rfl
theorem Og:joinedFacts prog 5 f5 Rows.decPowersSpec Rows.decPowersRow=true:=by
 unfold joinedFacts;exact (NP (NP (NP (NP (NP (NP (NP (NP (NP (NP (NP (NP (NP (NP (NP (NP (NP (NP (NP (NP (NP (NP (NP (NP (NP (NP (NP (NP (NP (NP (NP Oq NQ) NR) Ot) Ou) Ov) Ow) Ox) Oy) Oz) OA) OB) OC) OD) OE) OG) OH) OI) OJ) OL) OM) OO) OP) OQ) NS) NT) NU) NV) OT) OU) OV) OW)
theorem Oi:Rows.DecPowersSaid :=
 OpenClaim.holds_of_wide 5 f5 rfl rfl rfl rfl rfl rfl rfl ⟨rfl,rfl,rfl,rfl,rfl⟩ rfl rfl rfl rfl rfl (by kernel_rfl) func5 Og
  (of_decide_eq_true (by kernel_rfl)) (by unfold Func.isWrapper;first | (rw [if_pos (by decide +kernel)];kernel_rfl) | (rw [if_neg (by decide +kernel)];exact ⟨rfl,rfl⟩))
  (fun os started H enc _=>Oe os started H enc)
theorem OX:Rows.DecPowersCardSaid :=
 Claim7.holds_tied_plain_at .later [] [.data,.data,.pinned] true (true, "5a3eb988aab4a33965eb6ea46822f7ba40abd1d5151231f2e831e2d8ad74e7c3") true
  Oi (fun _ h=>by cases h) (by kernel_rfl) (fun _ h=>by cases h) decPowers_row_tie rfl ⟨rfl,rfl⟩ (by kernel_rfl) rfl
  (fun f fn hf b=>by
   obtain rfl:f=5:=Option.some.inj ((show prog.funcNamed "zermelo/zermelolaw02.DecPowers" = some 5 by kernel_rfl).symm.trans hf) |>.symm
   obtain rfl:fn=f5:=(Option.some.inj (func5.symm.trans b)).symm
   exact ⟨by kernel_rfl,fun j t c=>by
    rw [params5] at c
    have d:t ∈ [27,3]:=by simpa using Array.mem_of_getElem? c
    have a:([27,3].all fun u=>!prog.wantsStandIn u)=true:=by kernel_rfl
    exact (show prog.wantsStandIn t=false by simpa using List.all_eq_true.1 a t d)⟩)
  (by kernel_rfl)
#print axioms OX
end Go.Proofs.YtagjhmodblifbaaGreatDoor
