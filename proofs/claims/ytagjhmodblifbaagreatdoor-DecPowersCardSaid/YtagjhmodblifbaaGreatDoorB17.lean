/- proved lemmas -/
import Derived.Test.YtagjhmodblifbaaGreatDoorMA
import Derived.Test.YtagjhmodblifbaaGreatDoorB00
import Derived.Test.YtagjhmodblifbaaGreatDoorB15
import Derived.Test.YtagjhmodblifbaaGreatDoorB13
import Derived.Test.YtagjhmodblifbaaGreatDoorB16
import Derived.Test.YtagjhmodblifbaaGreatDoorB12
import Derived.Test.YtagjhmodblifbaaGreatDoorB11
import Derived.Test.YtagjhmodblifbaaGreatDoorB10
import Derived.Deep.CutRange
import Derived.Deep.RegionHeld3
import Derived.Test.YtagjhmodblifbaaGreatDoorB09
import Derived.Deep.LoopGhost
import Derived.Test.YtagjhmodblifbaaGreatDoorB05
set_option maxHeartbeats 4000000
set_option maxRecDepth 100000
set_option exponentiation.threshold 100000
namespace Go.Proofs.YtagjhmodblifbaaGreatDoor
open Go.Proofs.Tryz
open Go Go.RowKit Go.Shelf
theorem Fy (v:Value)(i:Int)(n:Nat)(w:World)(h:ak w v i)(p:n≤9600)(hi:i.natAbs<aj^300)(g:(i^n).natAbs<aj^300) :
 CB 159 #[v,vI n] w fun e j=>∃ b,e=.returned (.tuple #[b,vI 0])∧ak j b (i^n):=by
 obtain ⟨na,l,f,c,rfl,-,-⟩:=h.at hi;refine (Aw v na l n w f).mono ?_;rintro e s ⟨h1,r,m,q,o,k,rfl,a⟩;unfold gZ at a;rw [QP,if_pos ⟨c,by omega,by omega⟩,if_pos g] at a;obtain ⟨rfl,d⟩:=a;exact ⟨h1,_,rfl,d⟩
theorem GL (v:Value)(i:Int)(n:Nat)(w:World)(h:ak w v i)(r:n≤9600)(hi:i.natAbs<aj^300)(j:¬(i^n).natAbs<aj^300) :
 CB 159 #[v,vI n] w fun e _=>∃ g a m c,e=.returned (.tuple #[vN g a m c,vI 3]):=by
 obtain ⟨na,l,f,d,rfl,-,-⟩:=h.at hi;refine (Aw v na l n w f).mono ?_;rintro e u ⟨h1,t,o,s,p,k,rfl,b⟩;unfold gZ at b;rw [QP,if_pos ⟨d,by omega,by omega⟩,if_neg j] at b;obtain ⟨rfl,q⟩:=b;exact ⟨h1,_,_,_,_,rfl⟩
theorem yA (vf:Value)(B C:Nat)(n:Int)(s:Nat)(x e:Int)(w:World)(hf:eu w vf x 1 e)(k:af w B 3 [vI n])(y:af w C 3 [vI s])(hs:s≤9600)(hz:n<0→x≠0)(he:0≤e∧e≤20)(hl:e*(s:Int)≤2800)(bx:x.natAbs<aj^300)(bp:(x^s).natAbs<aj^300) :
  Calls prog 158 #[vf,vP B,vP C] w fun e9 w'=>bW w w'∧∃ v,e9=.returned v∧eu w' v (if n<0 then 1 else x^s) (if n<0 then x^s else 1) (if n<0 then -(e*(s:Int)) else e*(s:Int)):=by
 obtain ⟨o1,b1,mZ,v1,h1,d1,s1,t1,rfl,hN,hD⟩:=hf
 have kZ:=fun X (hX:bW w X)=>jh _ x X (hN.below hX)
 have hE:0≤e*(s:Int)∧e*(s:Int)≤192000:=by
  have h1:e*(s:Int)≤20*(s:Int):=Zj he.2 (by omega);have h2:0≤e*(s:Int):=Zm he.1 (by omega);omega
 have a0:IntKind.i64.wrap (e*(s:Int))=e*(s:Int):=by rw [Qx];omega
 have e2:decide (e*(s:Int)≤2800)=true:=decide_eq_true hl;have o3:(1:Int).natAbs<aj^300:=Qf (show 1<aj^1 by decide) (Ql aP (by decide))
 have kP:=fun X (hX:bW w X)=>Fy _ x s X (hN.below hX) hs bx bp
 have kQ:=fun X (hX:bW w X)=>Fy _ 1 s X (hD.below hX) hs o3 (by rw [Int.one_pow];exact o3)
 rw [Int.one_pow] at kQ
 have a1:IntKind.i64.wrap (-(e*(s:Int)))=-(e*(s:Int)):=by rw [Qx];omega
 have kU:=fun X v (hv:ak X v (x^s))=>eZ v _ X hv
 have kV:=fun X v (hv:ak X v 1)=>eZ v 1 X hv
 generalize x^s=z at *;obtain ⟨W0,hW,b0,q1,qr⟩:=yP w 127 (lR o1 b1 mZ v1 h1 d1 s1 t1 e) 127 (lR false none 0 0 false none 0 0 0);have dH:=fC (R:=aX _) (ax q1 (ax (k.below b0) (ax (y.below b0) aS))) ⟨_,_,_,_,_,_,_,_,_,qr⟩ b0
 have E:∀ r ∈ ([(w.heap.size,127,(lR o1 b1 mZ v1 h1 d1 s1 t1 e)),(B,3,[vI n]),(C,3,[vI s])]:List (Nat × TypeId × List Value)),r.1<W0.heap.size:=fK q1.lt (fK (k.below b0).lt (fK (y.below b0).lt nA));have fe:=b0.size;have D:w.heap.size+1<W0.heap.size:=qr.lt
 have iR:B≠w.heap.size+1:=by have:=k.lt;omega
 have jv:C≠w.heap.size+1:=by have:=y.lt;omega
 have HH:=Qa (And.intro E (And.intro fe (And.intro D (And.intro iR jv))));have d0:=q1.cell 0;have d1:=q1.cell 1;have d4:=q1.cell 4;have I:=(k.below b0).cell 0;have J:=(y.below b0).cell 0;simp only [Qc,Qe] at d0 d1 d4 I J;clear k y q1 qr b0 E fe D iR jv hs he hl hE bx bp o3
 by_cases hn:n<0
 ·have e1:decide ((0:Int)≤n)=false:=decide_eq_false (by omega)
  rw [decide_eq_false (hz hn)] at kZ;rw [if_pos hn,if_pos hn,if_pos hn];have e5:decide (n<0)=true:=decide_eq_true hn;clear hn hz;have a6:=a0;go_enter func158,ntmps158
  go_upto_region 1 with (fail)
  rw [hW.out];clear hW
  go_upto_region 3 with (first | (go_at_call 144;refine (kZ _ dH.below).mono ?_;rintro e w1 ⟨a5,rfl⟩;have a4:=ag aX.step dH a5;have c0:=FJ a4.r0;have c1:=mI a4.r2) | (go_at_call 106;refine (aC _ _ _ (by rfl)).mono ?_;rintro e w9 ⟨rfl,rfl⟩))
  obtain ⟨E,fe,D,iR,jv⟩:=HH.out;clear HH d0 d1 d4 I J c0 c1 dH a5
  have A:Hid (∀ X,fI w W0 (aX (w.heap.size+1)) [(w.heap.size,127,(lR o1 b1 mZ v1 h1 d1 s1 t1 e)),(B,3,[vI n]),(C,3,[vI s])] X→(X.cell? ⟨w.heap.size,0,none⟩=some (.bool o1)∧X.cell? ⟨w.heap.size,1,none⟩=some (.slice b1 mZ v1)∧X.cell? ⟨w.heap.size,2,none⟩=some (.bool h1)∧X.cell? ⟨w.heap.size,3,none⟩=some (.slice d1 s1 t1)∧X.cell? ⟨w.heap.size,4,none⟩=some (vI e)∧X.cell? ⟨B,0,none⟩=some (vI n)∧X.cell? ⟨C,0,none⟩=some (vI s))∧fI w W0 (aX (w.heap.size+1)) [(w.heap.size,127,(lR o1 b1 mZ v1 h1 d1 s1 t1 e)),(B,3,[vI n]),(C,3,[vI s])] X):=Qa fun X h=>⟨⟨h.r0.cell 0,h.r0.cell 1,h.r0.cell 2,h.r0.cell 3,h.r0.cell 4,h.r1.cell 0,h.r2.cell 0⟩,h⟩
  go_wp2_with fail
  refine bB A (bY aX.drew a4) fun X0 d=>?_
  refine tk 0 d ?_;refine tk 1 d ?_;refine tk 2 d ?_;refine tk 7 d ?_;refine tk 8 d ?_;refine tk 9 d ?_;refine tk 14 d ?_;refine tk 15 d ?_;refine tk 16 d ?_;refine tk 17 d ?_;refine ql 3 19 (fun j f=>?_) (fun j f=>?_)
  ·have hP:=d.2
   go_wp2_with (go_at_call 159;refine (kP _ hP.below).mono ?_;rintro e wk ⟨b,v5,rfl,hA⟩)
   refine aT f A (ag aX.step hP b) fun d=>?_
   clear f j hP b;refine tk 4 d ?_;refine tk 5 d ?_;refine ql 6 19 (fun j f=>?_) (fun j f=>?_)
   ·have hP:=d.2
    go_wp2_with (go_at_call 152;refine (kU _ _ hA).mono ?_;rintro e wk ⟨b,v6,rfl,k⟩)
    replace hA:=hA.below b;obtain ⟨g,a,m,c,rfl⟩:=k.shape
    refine aT f A (ag aX.step hP b) fun d=>?_
    clear f j hP b;refine ql 10 19 (fun j f=>?_) (fun j f=>?_)
    ·have hP:=d.2
     go_wp2_with (go_at_call 159;refine (kQ _ hP.below).mono ?_;rintro e wk ⟨b,v7,rfl,l⟩)
     replace k:=k.below b
     refine aT f A (ag aX.step hP b) fun d=>?_
     clear f j hP b;refine tk 11 d ?_;refine tk 12 d ?_;refine ql 13 19 (fun j f=>?_) (fun j f=>?_)
     ·have hP:=d.2
      go_wp2_with (go_at_call 152;refine (kV _ _ l).mono ?_;rintro e wk ⟨b,v8,rfl,y⟩)
      replace k:=k.below b;replace l:=l.below b;obtain ⟨t,p,u,q,rfl⟩:=y.shape
      refine aT f A (ag aX.step hP b) fun d=>?_
      clear f j hP b;refine tk 18 d ?_
      refine rd 19 fun j f=>?_
      have hP:=d.2;obtain ⟨V9,O,i,H,o⟩:=aL hP 127 (lR false none 0 0 false none 0 0 0)
      go_wp2_with fail
      rw [O.out];clear O;replace k:=k.below o;replace y:=y.below o
      refine aT f A (ag aX.step hP o) fun d=>?_
      clear f j hP o
      refine rd 20 fun j f=>?_
      have hP:=d.2;obtain ⟨U,V,Y,Z,y4,I,J,Q,S,T⟩:=dE i;obtain ⟨V8,N,L,G,M,cO⟩:=gJ hP (aX.other (Qg (Qf D H))) (bP E H) (Qd fe H) i (.bool g) (.slice a m c) (.bool t) (.slice p u q) (vI (e*(s:Int)))
      go_wp2_with fail
      rw [N.out];replace k:=k.keep G;replace y:=y.keep G;replace i:=M
      refine aT f A L fun d=>?_
      clear f j hP L N G M cO U V Y Z y4 I J Q S T;refine wpAnyH_done (by kernel_rfl) ?_ _;have F:=d.2;have c0:=F.r1.cell 0;simp only [Qc] at c0;obtain ⟨p0,p1,p2,p3,p4,-,-,-,-,-⟩:=dE i;obtain ⟨z0,z1,gz,gB,z2,z3,aI,aJ,z4,hr,U,V,Y,Z,y4,I,J,Q,S,T⟩:=F.res.cells;obtain ⟨u0,u1,u2,u3,u4⟩:=eD hr (.bool t) (.slice p u q) (.bool g) (.slice a m c) (vI (-(e*(s:Int))))
      have hb:=(dO F (aZ (by omega) (aZ iR (aZ jv dV))) (by omega) t p u q g a m c (-(e*(s:Int)))).below;have rW:=y.keep (bK hr (.bool t) (.slice p u q) (.bool g) (.slice a m c) (vI (-(e*(s:Int)))));have nQ:=k.keep (bK hr (.bool t) (.slice p u q) (.bool g) (.slice a m c) (vI (-(e*(s:Int)))));have a2:=a0;have a3:=a1;clear d F hr i E fe D iR jv kP kQ kU kV
      go_wp2_with fail
      exact bodyPost_ret (v:=vR t p u q g a m c (-(e*(s:Int)))) (by simp [results,results158,go_sem,loadCellsFrom,u0,u1,u2,u3,u4]) rfl ⟨hb,_,rfl,_,_,_,_,_,_,_,_,rfl,rW,nQ⟩
     have hP:=d.2;obtain ⟨V9,O,i,H,o⟩:=aL hP 127 (lR false none 0 0 false none 0 0 0)
     go_wp2_with fail
     rw [O.out];clear O;replace k:=k.below o;replace l:=l.below o
     refine aT f A (ag aX.step hP o) fun d=>?_
     clear f j hP o
     refine rd 13 fun j f=>?_
     have hP:=d.2
     go_wp2_with (go_at_call 152;refine (kV _ _ l).mono ?_;rintro e wk ⟨b,v8,rfl,y⟩)
     replace k:=k.below b;replace l:=l.below b;replace i:=i.below b;obtain ⟨t,p,u,q,rfl⟩:=y.shape
     refine aT f A (ag aX.step hP b) fun d=>?_
     clear f j hP b;refine tk 18 d ?_
     refine rd 20 fun j f=>?_
     have hP:=d.2;obtain ⟨U,V,Y,Z,y4,I,J,Q,S,T⟩:=dE i;obtain ⟨V8,N,L,G,M,cO⟩:=gJ hP (aX.other (Qg (Qf D H))) (bP E H) (Qd fe H) i (.bool g) (.slice a m c) (.bool t) (.slice p u q) (vI (e*(s:Int)))
     go_wp2_with fail
     rw [N.out];replace k:=k.keep G;replace y:=y.keep G;replace i:=M
     refine aT f A L fun d=>?_
     clear f j hP L N G M cO U V Y Z y4 I J Q S T;refine wpAnyH_done (by kernel_rfl) ?_ _;have F:=d.2;have c0:=F.r1.cell 0;simp only [Qc] at c0;obtain ⟨p0,p1,p2,p3,p4,-,-,-,-,-⟩:=dE i;obtain ⟨z0,z1,gz,gB,z2,z3,aI,aJ,z4,hr,U,V,Y,Z,y4,I,J,Q,S,T⟩:=F.res.cells;obtain ⟨u0,u1,u2,u3,u4⟩:=eD hr (.bool t) (.slice p u q) (.bool g) (.slice a m c) (vI (-(e*(s:Int))))
     have hb:=(dO F (aZ (by omega) (aZ iR (aZ jv dV))) (by omega) t p u q g a m c (-(e*(s:Int)))).below;have rW:=y.keep (bK hr (.bool t) (.slice p u q) (.bool g) (.slice a m c) (vI (-(e*(s:Int)))));have nQ:=k.keep (bK hr (.bool t) (.slice p u q) (.bool g) (.slice a m c) (vI (-(e*(s:Int)))));have a2:=a0;have a3:=a1;clear d F hr i E fe D iR jv kP kQ kU kV
     go_wp2_with fail
     exact bodyPost_ret (v:=vR t p u q g a m c (-(e*(s:Int)))) (by simp [results,results158,go_sem,loadCellsFrom,u0,u1,u2,u3,u4]) rfl ⟨hb,_,rfl,_,_,_,_,_,_,_,_,rfl,rW,nQ⟩
    have hP:=d.2;obtain ⟨V9,O,i,H,o⟩:=aL hP 127 (lR false none 0 0 false none 0 0 0)
    go_wp2_with fail
    rw [O.out];clear O;replace k:=k.below o
    refine aT f A (ag aX.step hP o) fun d=>?_
    clear f j hP o
    refine rd 10 fun j f=>?_
    have hP:=d.2
    go_wp2_with (go_at_call 159;refine (kQ _ hP.below).mono ?_;rintro e wk ⟨b,v7,rfl,l⟩)
    replace k:=k.below b;replace i:=i.below b
    refine aT f A (ag aX.step hP b) fun d=>?_
    clear f j hP b;refine tk 11 d ?_;refine tk 12 d ?_
    refine rd 13 fun j f=>?_
    have hP:=d.2
    go_wp2_with (go_at_call 152;refine (kV _ _ l).mono ?_;rintro e wk ⟨b,v8,rfl,y⟩)
    replace k:=k.below b;replace i:=i.below b;replace l:=l.below b;obtain ⟨t,p,u,q,rfl⟩:=y.shape
    refine aT f A (ag aX.step hP b) fun d=>?_
    clear f j hP b;refine tk 18 d ?_
    refine rd 20 fun j f=>?_
    have hP:=d.2;obtain ⟨U,V,Y,Z,y4,I,J,Q,S,T⟩:=dE i;obtain ⟨V8,N,L,G,M,cO⟩:=gJ hP (aX.other (Qg (Qf D H))) (bP E H) (Qd fe H) i (.bool g) (.slice a m c) (.bool t) (.slice p u q) (vI (e*(s:Int)))
    go_wp2_with fail
    rw [N.out];replace k:=k.keep G;replace y:=y.keep G;replace i:=M
    refine aT f A L fun d=>?_
    clear f j hP L N G M cO U V Y Z y4 I J Q S T;refine wpAnyH_done (by kernel_rfl) ?_ _;have F:=d.2;have c0:=F.r1.cell 0;simp only [Qc] at c0;obtain ⟨p0,p1,p2,p3,p4,-,-,-,-,-⟩:=dE i;obtain ⟨z0,z1,gz,gB,z2,z3,aI,aJ,z4,hr,U,V,Y,Z,y4,I,J,Q,S,T⟩:=F.res.cells;obtain ⟨u0,u1,u2,u3,u4⟩:=eD hr (.bool t) (.slice p u q) (.bool g) (.slice a m c) (vI (-(e*(s:Int))))
    have hb:=(dO F (aZ (by omega) (aZ iR (aZ jv dV))) (by omega) t p u q g a m c (-(e*(s:Int)))).below;have rW:=y.keep (bK hr (.bool t) (.slice p u q) (.bool g) (.slice a m c) (vI (-(e*(s:Int)))));have nQ:=k.keep (bK hr (.bool t) (.slice p u q) (.bool g) (.slice a m c) (vI (-(e*(s:Int)))));have a2:=a0;have a3:=a1;clear d F hr i E fe D iR jv kP kQ kU kV
    go_wp2_with fail
    exact bodyPost_ret (v:=vR t p u q g a m c (-(e*(s:Int)))) (by simp [results,results158,go_sem,loadCellsFrom,u0,u1,u2,u3,u4]) rfl ⟨hb,_,rfl,_,_,_,_,_,_,_,_,rfl,rW,nQ⟩
   have hP:=d.2;obtain ⟨V9,O,i,H,o⟩:=aL hP 127 (lR false none 0 0 false none 0 0 0)
   go_wp2_with fail
   rw [O.out];clear O;replace hA:=hA.below o
   refine aT f A (ag aX.step hP o) fun d=>?_
   clear f j hP o
   refine rd 6 fun j f=>?_
   have hP:=d.2
   go_wp2_with (go_at_call 152;refine (kU _ _ hA).mono ?_;rintro e wk ⟨b,v6,rfl,k⟩)
   replace hA:=hA.below b;replace i:=i.below b;obtain ⟨g,a,m,c,rfl⟩:=k.shape
   refine aT f A (ag aX.step hP b) fun d=>?_
   clear f j hP b
   refine rd 10 fun j f=>?_
   have hP:=d.2
   go_wp2_with (go_at_call 159;refine (kQ _ hP.below).mono ?_;rintro e wk ⟨b,v7,rfl,l⟩)
   replace i:=i.below b;replace k:=k.below b
   refine aT f A (ag aX.step hP b) fun d=>?_
   clear f j hP b;refine tk 11 d ?_;refine tk 12 d ?_
   refine rd 13 fun j f=>?_
   have hP:=d.2
   go_wp2_with (go_at_call 152;refine (kV _ _ l).mono ?_;rintro e wk ⟨b,v8,rfl,y⟩)
   replace i:=i.below b;replace k:=k.below b;replace l:=l.below b;obtain ⟨t,p,u,q,rfl⟩:=y.shape
   refine aT f A (ag aX.step hP b) fun d=>?_
   clear f j hP b;refine tk 18 d ?_
   refine rd 20 fun j f=>?_
   have hP:=d.2;obtain ⟨U,V,Y,Z,y4,I,J,Q,S,T⟩:=dE i;obtain ⟨V8,N,L,G,M,cO⟩:=gJ hP (aX.other (Qg (Qf D H))) (bP E H) (Qd fe H) i (.bool g) (.slice a m c) (.bool t) (.slice p u q) (vI (e*(s:Int)))
   go_wp2_with fail
   rw [N.out];replace k:=k.keep G;replace y:=y.keep G;replace i:=M
   refine aT f A L fun d=>?_
   clear f j hP L N G M cO U V Y Z y4 I J Q S T;refine wpAnyH_done (by kernel_rfl) ?_ _;have F:=d.2;have c0:=F.r1.cell 0;simp only [Qc] at c0;obtain ⟨p0,p1,p2,p3,p4,-,-,-,-,-⟩:=dE i;obtain ⟨z0,z1,gz,gB,z2,z3,aI,aJ,z4,hr,U,V,Y,Z,y4,I,J,Q,S,T⟩:=F.res.cells;obtain ⟨u0,u1,u2,u3,u4⟩:=eD hr (.bool t) (.slice p u q) (.bool g) (.slice a m c) (vI (-(e*(s:Int))))
   have hb:=(dO F (aZ (by omega) (aZ iR (aZ jv dV))) (by omega) t p u q g a m c (-(e*(s:Int)))).below;have rW:=y.keep (bK hr (.bool t) (.slice p u q) (.bool g) (.slice a m c) (vI (-(e*(s:Int)))));have nQ:=k.keep (bK hr (.bool t) (.slice p u q) (.bool g) (.slice a m c) (vI (-(e*(s:Int)))));have a2:=a0;have a3:=a1;clear d F hr i E fe D iR jv kP kQ kU kV
   go_wp2_with fail
   exact bodyPost_ret (v:=vR t p u q g a m c (-(e*(s:Int)))) (by simp [results,results158,go_sem,loadCellsFrom,u0,u1,u2,u3,u4]) rfl ⟨hb,_,rfl,_,_,_,_,_,_,_,_,rfl,rW,nQ⟩
  have hP:=d.2;obtain ⟨V9,O,i,H,o⟩:=aL hP 127 (lR false none 0 0 false none 0 0 0)
  go_wp2_with fail
  rw [O.out];clear O
  refine aT f A (ag aX.step hP o) fun d=>?_
  clear f j hP o
  refine rd 3 fun j f=>?_
  have hP:=d.2
  go_wp2_with (go_at_call 159;refine (kP _ hP.below).mono ?_;rintro e wk ⟨b,v5,rfl,hA⟩)
  replace i:=i.below b
  refine aT f A (ag aX.step hP b) fun d=>?_
  clear f j hP b;refine tk 4 d ?_;refine tk 5 d ?_
  refine rd 6 fun j f=>?_
  have hP:=d.2
  go_wp2_with (go_at_call 152;refine (kU _ _ hA).mono ?_;rintro e wk ⟨b,v6,rfl,k⟩)
  replace i:=i.below b;replace hA:=hA.below b;obtain ⟨g,a,m,c,rfl⟩:=k.shape
  refine aT f A (ag aX.step hP b) fun d=>?_
  clear f j hP b
  refine rd 10 fun j f=>?_
  have hP:=d.2
  go_wp2_with (go_at_call 159;refine (kQ _ hP.below).mono ?_;rintro e wk ⟨b,v7,rfl,l⟩)
  replace i:=i.below b;replace k:=k.below b
  refine aT f A (ag aX.step hP b) fun d=>?_
  clear f j hP b;refine tk 11 d ?_;refine tk 12 d ?_
  refine rd 13 fun j f=>?_
  have hP:=d.2
  go_wp2_with (go_at_call 152;refine (kV _ _ l).mono ?_;rintro e wk ⟨b,v8,rfl,y⟩)
  replace i:=i.below b;replace k:=k.below b;replace l:=l.below b;obtain ⟨t,p,u,q,rfl⟩:=y.shape
  refine aT f A (ag aX.step hP b) fun d=>?_
  clear f j hP b;refine tk 18 d ?_
  refine rd 20 fun j f=>?_
  have hP:=d.2;obtain ⟨U,V,Y,Z,y4,I,J,Q,S,T⟩:=dE i;obtain ⟨V8,N,L,G,M,cO⟩:=gJ hP (aX.other (Qg (Qf D H))) (bP E H) (Qd fe H) i (.bool g) (.slice a m c) (.bool t) (.slice p u q) (vI (e*(s:Int)))
  go_wp2_with fail
  rw [N.out];replace k:=k.keep G;replace y:=y.keep G;replace i:=M
  refine aT f A L fun d=>?_
  clear f j hP L N G M cO U V Y Z y4 I J Q S T;refine wpAnyH_done (by kernel_rfl) ?_ _;have F:=d.2;have c0:=F.r1.cell 0;simp only [Qc] at c0;obtain ⟨p0,p1,p2,p3,p4,-,-,-,-,-⟩:=dE i;obtain ⟨z0,z1,gz,gB,z2,z3,aI,aJ,z4,hr,U,V,Y,Z,y4,I,J,Q,S,T⟩:=F.res.cells;obtain ⟨u0,u1,u2,u3,u4⟩:=eD hr (.bool t) (.slice p u q) (.bool g) (.slice a m c) (vI (-(e*(s:Int))))
  have hb:=(dO F (aZ (by omega) (aZ iR (aZ jv dV))) (by omega) t p u q g a m c (-(e*(s:Int)))).below;have rW:=y.keep (bK hr (.bool t) (.slice p u q) (.bool g) (.slice a m c) (vI (-(e*(s:Int)))));have nQ:=k.keep (bK hr (.bool t) (.slice p u q) (.bool g) (.slice a m c) (vI (-(e*(s:Int)))));have a2:=a0;have a3:=a1;clear d F hr i E fe D iR jv kP kQ kU kV
  go_wp2_with fail
  exact bodyPost_ret (v:=vR t p u q g a m c (-(e*(s:Int)))) (by simp [results,results158,go_sem,loadCellsFrom,u0,u1,u2,u3,u4]) rfl ⟨hb,_,rfl,_,_,_,_,_,_,_,_,rfl,rW,nQ⟩
 ·have e1:decide ((0:Int)≤n)=true:=decide_eq_true (by omega)
  rw [if_neg hn,if_neg hn,if_neg hn];have e5:decide (n<0)=false:=decide_eq_false hn;clear hn hz kZ;have a6:=a0;go_enter func158,ntmps158
  go_upto_region 1 with (fail)
  rw [hW.out];clear hW
  go_upto_region 3 with (go_at_call 106;refine (aC _ _ _ (by rfl)).mono ?_;rintro e w9 ⟨rfl,rfl⟩)
  obtain ⟨E,fe,D,iR,jv⟩:=HH.out;clear HH d0 d1 d4 I J
  have A:Hid (∀ X,fI w W0 (aX (w.heap.size+1)) [(w.heap.size,127,(lR o1 b1 mZ v1 h1 d1 s1 t1 e)),(B,3,[vI n]),(C,3,[vI s])] X→(X.cell? ⟨w.heap.size,0,none⟩=some (.bool o1)∧X.cell? ⟨w.heap.size,1,none⟩=some (.slice b1 mZ v1)∧X.cell? ⟨w.heap.size,2,none⟩=some (.bool h1)∧X.cell? ⟨w.heap.size,3,none⟩=some (.slice d1 s1 t1)∧X.cell? ⟨w.heap.size,4,none⟩=some (vI e)∧X.cell? ⟨B,0,none⟩=some (vI n)∧X.cell? ⟨C,0,none⟩=some (vI s))∧fI w W0 (aX (w.heap.size+1)) [(w.heap.size,127,(lR o1 b1 mZ v1 h1 d1 s1 t1 e)),(B,3,[vI n]),(C,3,[vI s])] X):=Qa fun X h=>⟨⟨h.r0.cell 0,h.r0.cell 1,h.r0.cell 2,h.r0.cell 3,h.r0.cell 4,h.r1.cell 0,h.r2.cell 0⟩,h⟩
  go_wp2_with fail
  refine bB A (bY aX.drew dH) fun X0 d=>?_
  refine tk 0 d ?_;refine tk 1 d ?_;refine tk 2 d ?_;refine tk 7 d ?_;refine tk 8 d ?_;refine tk 9 d ?_;refine tk 14 d ?_;refine tk 15 d ?_;refine tk 16 d ?_;refine tk 17 d ?_;refine ql 3 19 (fun j f=>?_) (fun j f=>?_)
  ·have hP:=d.2
   go_wp2_with (go_at_call 159;refine (kP _ hP.below).mono ?_;rintro e wk ⟨b,v5,rfl,hA⟩)
   refine aT f A (ag aX.step hP b) fun d=>?_
   clear f j hP b;refine tk 4 d ?_;refine tk 5 d ?_;refine ql 6 19 (fun j f=>?_) (fun j f=>?_)
   ·have hP:=d.2
    go_wp2_with (go_at_call 152;refine (kU _ _ hA).mono ?_;rintro e wk ⟨b,v6,rfl,k⟩)
    replace hA:=hA.below b;obtain ⟨g,a,m,c,rfl⟩:=k.shape
    refine aT f A (ag aX.step hP b) fun d=>?_
    clear f j hP b;refine ql 10 19 (fun j f=>?_) (fun j f=>?_)
    ·have hP:=d.2
     go_wp2_with (go_at_call 159;refine (kQ _ hP.below).mono ?_;rintro e wk ⟨b,v7,rfl,l⟩)
     replace k:=k.below b
     refine aT f A (ag aX.step hP b) fun d=>?_
     clear f j hP b;refine tk 11 d ?_;refine tk 12 d ?_;refine ql 13 19 (fun j f=>?_) (fun j f=>?_)
     ·have hP:=d.2
      go_wp2_with (go_at_call 152;refine (kV _ _ l).mono ?_;rintro e wk ⟨b,v8,rfl,y⟩)
      replace k:=k.below b;replace l:=l.below b;obtain ⟨t,p,u,q,rfl⟩:=y.shape
      refine aT f A (ag aX.step hP b) fun d=>?_
      clear f j hP b;refine tk 18 d ?_
      refine rd 19 fun j f=>?_
      have hP:=d.2;obtain ⟨V9,O,i,H,o⟩:=aL hP 127 (lR false none 0 0 false none 0 0 0)
      go_wp2_with fail
      rw [O.out];clear O;replace k:=k.below o;replace y:=y.below o
      refine aT f A (ag aX.step hP o) fun d=>?_
      clear f j hP o
      refine rd 20 fun j f=>?_
      have hP:=d.2;obtain ⟨U,V,Y,Z,y4,I,J,Q,S,T⟩:=dE i;obtain ⟨V8,N,L,G,M,cO⟩:=gJ hP (aX.other (Qg (Qf D H))) (bP E H) (Qd fe H) i (.bool g) (.slice a m c) (.bool t) (.slice p u q) (vI (e*(s:Int)))
      go_wp2_with fail
      rw [N.out];replace k:=k.keep G;replace y:=y.keep G;replace i:=M
      refine aT f A L fun d=>?_
      clear f j hP L N G M cO U V Y Z y4 I J Q S T;refine wpAnyH_done (by kernel_rfl) ?_ _;have F:=d.2;have c0:=F.r1.cell 0;simp only [Qc] at c0;obtain ⟨p0,p1,p2,p3,p4,-,-,-,-,-⟩:=dE i;obtain ⟨z0,z1,gz,gB,z2,z3,aI,aJ,z4,hr,U,V,Y,Z,y4,I,J,Q,S,T⟩:=F.res.cells;obtain ⟨u0,u1,u2,u3,u4⟩:=eD hr (.bool g) (.slice a m c) (.bool t) (.slice p u q) (vI (e*(s:Int)))
      have hb:=(dO F (aZ (by omega) (aZ iR (aZ jv dV))) (by omega) g a m c t p u q (e*(s:Int))).below;have rW:=k.keep (bK hr (.bool g) (.slice a m c) (.bool t) (.slice p u q) (vI (e*(s:Int))));have nQ:=y.keep (bK hr (.bool g) (.slice a m c) (.bool t) (.slice p u q) (vI (e*(s:Int))));have a2:=a0;have a3:=a1;clear d F hr i E fe D iR jv kP kQ kU kV
      go_wp2_with fail
      exact bodyPost_ret (v:=vR g a m c t p u q (e*(s:Int))) (by simp [results,results158,go_sem,loadCellsFrom,u0,u1,u2,u3,u4]) rfl ⟨hb,_,rfl,_,_,_,_,_,_,_,_,rfl,rW,nQ⟩
     have hP:=d.2;obtain ⟨V9,O,i,H,o⟩:=aL hP 127 (lR false none 0 0 false none 0 0 0)
     go_wp2_with fail
     rw [O.out];clear O;replace k:=k.below o;replace l:=l.below o
     refine aT f A (ag aX.step hP o) fun d=>?_
     clear f j hP o
     refine rd 13 fun j f=>?_
     have hP:=d.2
     go_wp2_with (go_at_call 152;refine (kV _ _ l).mono ?_;rintro e wk ⟨b,v8,rfl,y⟩)
     replace k:=k.below b;replace l:=l.below b;replace i:=i.below b;obtain ⟨t,p,u,q,rfl⟩:=y.shape
     refine aT f A (ag aX.step hP b) fun d=>?_
     clear f j hP b;refine tk 18 d ?_
     refine rd 20 fun j f=>?_
     have hP:=d.2;obtain ⟨U,V,Y,Z,y4,I,J,Q,S,T⟩:=dE i;obtain ⟨V8,N,L,G,M,cO⟩:=gJ hP (aX.other (Qg (Qf D H))) (bP E H) (Qd fe H) i (.bool g) (.slice a m c) (.bool t) (.slice p u q) (vI (e*(s:Int)))
     go_wp2_with fail
     rw [N.out];replace k:=k.keep G;replace y:=y.keep G;replace i:=M
     refine aT f A L fun d=>?_
     clear f j hP L N G M cO U V Y Z y4 I J Q S T;refine wpAnyH_done (by kernel_rfl) ?_ _;have F:=d.2;have c0:=F.r1.cell 0;simp only [Qc] at c0;obtain ⟨p0,p1,p2,p3,p4,-,-,-,-,-⟩:=dE i;obtain ⟨z0,z1,gz,gB,z2,z3,aI,aJ,z4,hr,U,V,Y,Z,y4,I,J,Q,S,T⟩:=F.res.cells;obtain ⟨u0,u1,u2,u3,u4⟩:=eD hr (.bool g) (.slice a m c) (.bool t) (.slice p u q) (vI (e*(s:Int)))
     have hb:=(dO F (aZ (by omega) (aZ iR (aZ jv dV))) (by omega) g a m c t p u q (e*(s:Int))).below;have rW:=k.keep (bK hr (.bool g) (.slice a m c) (.bool t) (.slice p u q) (vI (e*(s:Int))));have nQ:=y.keep (bK hr (.bool g) (.slice a m c) (.bool t) (.slice p u q) (vI (e*(s:Int))));have a2:=a0;have a3:=a1;clear d F hr i E fe D iR jv kP kQ kU kV
     go_wp2_with fail
     exact bodyPost_ret (v:=vR g a m c t p u q (e*(s:Int))) (by simp [results,results158,go_sem,loadCellsFrom,u0,u1,u2,u3,u4]) rfl ⟨hb,_,rfl,_,_,_,_,_,_,_,_,rfl,rW,nQ⟩
    have hP:=d.2;obtain ⟨V9,O,i,H,o⟩:=aL hP 127 (lR false none 0 0 false none 0 0 0)
    go_wp2_with fail
    rw [O.out];clear O;replace k:=k.below o
    refine aT f A (ag aX.step hP o) fun d=>?_
    clear f j hP o
    refine rd 10 fun j f=>?_
    have hP:=d.2
    go_wp2_with (go_at_call 159;refine (kQ _ hP.below).mono ?_;rintro e wk ⟨b,v7,rfl,l⟩)
    replace k:=k.below b;replace i:=i.below b
    refine aT f A (ag aX.step hP b) fun d=>?_
    clear f j hP b;refine tk 11 d ?_;refine tk 12 d ?_
    refine rd 13 fun j f=>?_
    have hP:=d.2
    go_wp2_with (go_at_call 152;refine (kV _ _ l).mono ?_;rintro e wk ⟨b,v8,rfl,y⟩)
    replace k:=k.below b;replace i:=i.below b;replace l:=l.below b;obtain ⟨t,p,u,q,rfl⟩:=y.shape
    refine aT f A (ag aX.step hP b) fun d=>?_
    clear f j hP b;refine tk 18 d ?_
    refine rd 20 fun j f=>?_
    have hP:=d.2;obtain ⟨U,V,Y,Z,y4,I,J,Q,S,T⟩:=dE i;obtain ⟨V8,N,L,G,M,cO⟩:=gJ hP (aX.other (Qg (Qf D H))) (bP E H) (Qd fe H) i (.bool g) (.slice a m c) (.bool t) (.slice p u q) (vI (e*(s:Int)))
    go_wp2_with fail
    rw [N.out];replace k:=k.keep G;replace y:=y.keep G;replace i:=M
    refine aT f A L fun d=>?_
    clear f j hP L N G M cO U V Y Z y4 I J Q S T;refine wpAnyH_done (by kernel_rfl) ?_ _;have F:=d.2;have c0:=F.r1.cell 0;simp only [Qc] at c0;obtain ⟨p0,p1,p2,p3,p4,-,-,-,-,-⟩:=dE i;obtain ⟨z0,z1,gz,gB,z2,z3,aI,aJ,z4,hr,U,V,Y,Z,y4,I,J,Q,S,T⟩:=F.res.cells;obtain ⟨u0,u1,u2,u3,u4⟩:=eD hr (.bool g) (.slice a m c) (.bool t) (.slice p u q) (vI (e*(s:Int)))
    have hb:=(dO F (aZ (by omega) (aZ iR (aZ jv dV))) (by omega) g a m c t p u q (e*(s:Int))).below;have rW:=k.keep (bK hr (.bool g) (.slice a m c) (.bool t) (.slice p u q) (vI (e*(s:Int))));have nQ:=y.keep (bK hr (.bool g) (.slice a m c) (.bool t) (.slice p u q) (vI (e*(s:Int))));have a2:=a0;have a3:=a1;clear d F hr i E fe D iR jv kP kQ kU kV
    go_wp2_with fail
    exact bodyPost_ret (v:=vR g a m c t p u q (e*(s:Int))) (by simp [results,results158,go_sem,loadCellsFrom,u0,u1,u2,u3,u4]) rfl ⟨hb,_,rfl,_,_,_,_,_,_,_,_,rfl,rW,nQ⟩
   have hP:=d.2;obtain ⟨V9,O,i,H,o⟩:=aL hP 127 (lR false none 0 0 false none 0 0 0)
   go_wp2_with fail
   rw [O.out];clear O;replace hA:=hA.below o
   refine aT f A (ag aX.step hP o) fun d=>?_
   clear f j hP o
   refine rd 6 fun j f=>?_
   have hP:=d.2
   go_wp2_with (go_at_call 152;refine (kU _ _ hA).mono ?_;rintro e wk ⟨b,v6,rfl,k⟩)
   replace hA:=hA.below b;replace i:=i.below b;obtain ⟨g,a,m,c,rfl⟩:=k.shape
   refine aT f A (ag aX.step hP b) fun d=>?_
   clear f j hP b
   refine rd 10 fun j f=>?_
   have hP:=d.2
   go_wp2_with (go_at_call 159;refine (kQ _ hP.below).mono ?_;rintro e wk ⟨b,v7,rfl,l⟩)
   replace i:=i.below b;replace k:=k.below b
   refine aT f A (ag aX.step hP b) fun d=>?_
   clear f j hP b;refine tk 11 d ?_;refine tk 12 d ?_
   refine rd 13 fun j f=>?_
   have hP:=d.2
   go_wp2_with (go_at_call 152;refine (kV _ _ l).mono ?_;rintro e wk ⟨b,v8,rfl,y⟩)
   replace i:=i.below b;replace k:=k.below b;replace l:=l.below b;obtain ⟨t,p,u,q,rfl⟩:=y.shape
   refine aT f A (ag aX.step hP b) fun d=>?_
   clear f j hP b;refine tk 18 d ?_
   refine rd 20 fun j f=>?_
   have hP:=d.2;obtain ⟨U,V,Y,Z,y4,I,J,Q,S,T⟩:=dE i;obtain ⟨V8,N,L,G,M,cO⟩:=gJ hP (aX.other (Qg (Qf D H))) (bP E H) (Qd fe H) i (.bool g) (.slice a m c) (.bool t) (.slice p u q) (vI (e*(s:Int)))
   go_wp2_with fail
   rw [N.out];replace k:=k.keep G;replace y:=y.keep G;replace i:=M
   refine aT f A L fun d=>?_
   clear f j hP L N G M cO U V Y Z y4 I J Q S T;refine wpAnyH_done (by kernel_rfl) ?_ _;have F:=d.2;have c0:=F.r1.cell 0;simp only [Qc] at c0;obtain ⟨p0,p1,p2,p3,p4,-,-,-,-,-⟩:=dE i;obtain ⟨z0,z1,gz,gB,z2,z3,aI,aJ,z4,hr,U,V,Y,Z,y4,I,J,Q,S,T⟩:=F.res.cells;obtain ⟨u0,u1,u2,u3,u4⟩:=eD hr (.bool g) (.slice a m c) (.bool t) (.slice p u q) (vI (e*(s:Int)))
   have hb:=(dO F (aZ (by omega) (aZ iR (aZ jv dV))) (by omega) g a m c t p u q (e*(s:Int))).below;have rW:=k.keep (bK hr (.bool g) (.slice a m c) (.bool t) (.slice p u q) (vI (e*(s:Int))));have nQ:=y.keep (bK hr (.bool g) (.slice a m c) (.bool t) (.slice p u q) (vI (e*(s:Int))));have a2:=a0;have a3:=a1;clear d F hr i E fe D iR jv kP kQ kU kV
   go_wp2_with fail
   exact bodyPost_ret (v:=vR g a m c t p u q (e*(s:Int))) (by simp [results,results158,go_sem,loadCellsFrom,u0,u1,u2,u3,u4]) rfl ⟨hb,_,rfl,_,_,_,_,_,_,_,_,rfl,rW,nQ⟩
  have hP:=d.2;obtain ⟨V9,O,i,H,o⟩:=aL hP 127 (lR false none 0 0 false none 0 0 0)
  go_wp2_with fail
  rw [O.out];clear O
  refine aT f A (ag aX.step hP o) fun d=>?_
  clear f j hP o
  refine rd 3 fun j f=>?_
  have hP:=d.2
  go_wp2_with (go_at_call 159;refine (kP _ hP.below).mono ?_;rintro e wk ⟨b,v5,rfl,hA⟩)
  replace i:=i.below b
  refine aT f A (ag aX.step hP b) fun d=>?_
  clear f j hP b;refine tk 4 d ?_;refine tk 5 d ?_
  refine rd 6 fun j f=>?_
  have hP:=d.2
  go_wp2_with (go_at_call 152;refine (kU _ _ hA).mono ?_;rintro e wk ⟨b,v6,rfl,k⟩)
  replace i:=i.below b;replace hA:=hA.below b;obtain ⟨g,a,m,c,rfl⟩:=k.shape
  refine aT f A (ag aX.step hP b) fun d=>?_
  clear f j hP b
  refine rd 10 fun j f=>?_
  have hP:=d.2
  go_wp2_with (go_at_call 159;refine (kQ _ hP.below).mono ?_;rintro e wk ⟨b,v7,rfl,l⟩)
  replace i:=i.below b;replace k:=k.below b
  refine aT f A (ag aX.step hP b) fun d=>?_
  clear f j hP b;refine tk 11 d ?_;refine tk 12 d ?_
  refine rd 13 fun j f=>?_
  have hP:=d.2
  go_wp2_with (go_at_call 152;refine (kV _ _ l).mono ?_;rintro e wk ⟨b,v8,rfl,y⟩)
  replace i:=i.below b;replace k:=k.below b;replace l:=l.below b;obtain ⟨t,p,u,q,rfl⟩:=y.shape
  refine aT f A (ag aX.step hP b) fun d=>?_
  clear f j hP b;refine tk 18 d ?_
  refine rd 20 fun j f=>?_
  have hP:=d.2;obtain ⟨U,V,Y,Z,y4,I,J,Q,S,T⟩:=dE i;obtain ⟨V8,N,L,G,M,cO⟩:=gJ hP (aX.other (Qg (Qf D H))) (bP E H) (Qd fe H) i (.bool g) (.slice a m c) (.bool t) (.slice p u q) (vI (e*(s:Int)))
  go_wp2_with fail
  rw [N.out];replace k:=k.keep G;replace y:=y.keep G;replace i:=M
  refine aT f A L fun d=>?_
  clear f j hP L N G M cO U V Y Z y4 I J Q S T;refine wpAnyH_done (by kernel_rfl) ?_ _;have F:=d.2;have c0:=F.r1.cell 0;simp only [Qc] at c0;obtain ⟨p0,p1,p2,p3,p4,-,-,-,-,-⟩:=dE i;obtain ⟨z0,z1,gz,gB,z2,z3,aI,aJ,z4,hr,U,V,Y,Z,y4,I,J,Q,S,T⟩:=F.res.cells;obtain ⟨u0,u1,u2,u3,u4⟩:=eD hr (.bool g) (.slice a m c) (.bool t) (.slice p u q) (vI (e*(s:Int)))
  have hb:=(dO F (aZ (by omega) (aZ iR (aZ jv dV))) (by omega) g a m c t p u q (e*(s:Int))).below;have rW:=k.keep (bK hr (.bool g) (.slice a m c) (.bool t) (.slice p u q) (vI (e*(s:Int))));have nQ:=y.keep (bK hr (.bool g) (.slice a m c) (.bool t) (.slice p u q) (vI (e*(s:Int))));have a2:=a0;have a3:=a1;clear d F hr i E fe D iR jv kP kQ kU kV
  go_wp2_with fail
  exact bodyPost_ret (v:=vR g a m c t p u q (e*(s:Int))) (by simp [results,results158,go_sem,loadCellsFrom,u0,u1,u2,u3,u4]) rfl ⟨hb,_,rfl,_,_,_,_,_,_,_,_,rfl,rW,nQ⟩
theorem Bo (F:Value)(B C:Nat)(n:Int)(s:Nat)(x e:Int)(w:World)(hf:eu w F x 1 e)(d:af w B 3 [vI n])(_hC:af w C 3 [vI s])(_hs:s≤9600)(O:n<0)(q:x=0) :
  Calls prog 158 #[F,vP B,vP C] w fun I Q=>bW w Q∧I=pK 20:=by
 obtain ⟨z,l,y,E,h1,h,A,D,rfl,M,Z⟩:=hf
 have v:=fun X (N:bW w X)=>jh _ x X (M.below N)
 rw [decide_eq_true q] at v;obtain ⟨k,p,a,c,j⟩:=yP w 127 (lR z l y E h1 h A D e) 127 (lR false none 0 0 false none 0 0 0);have m:=fC (R:=aX _) (ax c (ax (d.below a) (ax (_hC.below a) aS))) ⟨_,_,_,_,_,_,_,_,_,j⟩ a
 have g:∀ r ∈ ([(w.heap.size,127,(lR z l y E h1 h A D e)),(B,3,[vI n]),(C,3,[vI s])]:List (Nat × TypeId × List Value)),r.1<k.heap.size:=fK c.lt (fK (d.below a).lt (fK (_hC.below a).lt nA));have o:=a.size;have f:w.heap.size+1<k.heap.size:=j.lt
 have t:B≠w.heap.size+1:=by have:=d.lt;omega
 have u:C≠w.heap.size+1:=by have:=_hC.lt;omega
 have T:=Qa (And.intro g (And.intro o (And.intro f (And.intro t u))));have G:=c.cell 0;have h:=c.cell 1;have H:=c.cell 4;have J:=(d.below a).cell 0;have L:=(_hC.below a).cell 0;simp only [Qc,Qe] at G h H J L;clear d _hC c j a g o f t u _hs;have Y:decide ((0:Int)≤n)=false:=decide_eq_false (by omega);clear O q;go_enter func158,ntmps158
 go_upto_region 1 with (fail)
 rw [p.out];clear p
 go_wp2_with (first | (go_at_call 144;refine (v _ m.below).mono ?_;rintro e w1 ⟨i,rfl⟩;have b:=ag aX.step m i;have U:=FJ b.r0;have V:=mI b.r2) | (go_at_call 106;refine (aC _ _ _ (by rfl)).mono ?_;rintro e S ⟨rfl,rfl⟩) | (go_at_call 106;refine (bD _ _ _ (by rfl)).mono ?_;rintro e S ⟨rfl,rfl⟩))
 exact ⟨rfl,b.below,rfl⟩
theorem CV (N:Value)(B C:Nat)(n:Int)(s:Nat)(x e:Int)(w:World)(hf:eu w N x 1 e)(d:af w B 3 [vI n])(f:af w C 3 [vI s])(hs:s≤9600)(t:n<0→x≠0)(E:¬e*(s:Int)≤2800)(o:0≤e∧e≤20) :
  Calls prog 158 #[N,vP B,vP C] w fun T w'=>bW w w'∧T=pK 3:=by
 obtain ⟨I,A,H,M,h1,j,J,L,rfl,Z,hD⟩:=hf
 have u:=fun X (hX:bW w X)=>jh _ x X (Z.below hX)
 have Y:0≤e*(s:Int)∧e*(s:Int)≤192000:=by
  have h1:e*(s:Int)≤20*(s:Int):=Zj o.2 (by omega);have h2:0≤e*(s:Int):=Zm o.1 (by omega);omega
 have i:IntKind.i64.wrap (e*(s:Int))=e*(s:Int):=by rw [Qx];omega
 have e2:decide (e*(s:Int)≤2800)=false:=decide_eq_false E;obtain ⟨z,k,a,c,v⟩:=yP w 127 (lR I A H M h1 j J L e) 127 (lR false none 0 0 false none 0 0 0);have l:=fC (R:=aX _) (ax c (ax (d.below a) (ax (f.below a) aS))) ⟨_,_,_,_,_,_,_,_,_,v⟩ a
 have h:∀ r ∈ ([(w.heap.size,127,(lR I A H M h1 j J L e)),(B,3,[vI n]),(C,3,[vI s])]:List (Nat × TypeId × List Value)),r.1<z.heap.size:=fK c.lt (fK (d.below a).lt (fK (f.below a).lt nA));have D:=a.size;have g:w.heap.size+1<z.heap.size:=v.lt
 have F:B≠w.heap.size+1:=by have:=d.lt;omega
 have G:C≠w.heap.size+1:=by have:=f.lt;omega
 have HH:=Qa (And.intro h (And.intro D (And.intro g (And.intro F G))));have O:=c.cell 0;have j:=c.cell 1;have Q:=c.cell 4;have U:=(d.below a).cell 0;have V:=(f.below a).cell 0;simp only [Qc,Qe] at O j Q U V;clear d f c v a h D g F G hs o E Y
 by_cases p:n<0
 ·have S:decide ((0:Int)≤n)=false:=decide_eq_false (by omega)
  rw [decide_eq_false (t p)] at u;clear p t;have q:=i;go_enter func158,ntmps158
  go_upto_region 1 with (fail)
  rw [k.out];clear k
  go_wp2_with (first | (go_at_call 144;refine (u _ l.below).mono ?_;rintro e w1 ⟨m,rfl⟩;have b:=ag aX.step l m;have c0:=FJ b.r0;have c1:=mI b.r2) | (go_at_call 106;refine (aC _ _ _ (by rfl)).mono ?_;rintro e y ⟨rfl,rfl⟩) | (go_at_call 106;refine (bD _ _ _ (by rfl)).mono ?_;rintro e y ⟨rfl,rfl⟩))
  exact ⟨rfl,b.below,rfl⟩
 ·have S:decide ((0:Int)≤n)=true:=decide_eq_true (by omega)
  clear p t u;have q:=i;go_enter func158,ntmps158
  go_upto_region 1 with (fail)
  rw [k.out];clear k
  go_wp2_with (first | (go_at_call 106;refine (aC _ _ _ (by rfl)).mono ?_;rintro e y ⟨rfl,rfl⟩) | (go_at_call 106;refine (bD _ _ _ (by rfl)).mono ?_;rintro e y ⟨rfl,rfl⟩))
  exact ⟨rfl,l.below,rfl⟩
theorem Bp (vf:Value)(B C:Nat)(n:Int)(s:Nat)(x e:Int)(w:World)(hf:eu w vf x 1 e)(L:af w B 3 [vI n])(M:af w C 3 [vI s])(hs:s≤9600)(hz:n<0→x≠0)(he:0≤e∧e≤20)(hl:e*(s:Int)≤2800)(bx:x.natAbs<aj^300)(bp:¬(x^s).natAbs<aj^300) :
  Calls prog 158 #[vf,vP B,vP C] w fun e9 w'=>bW w w'∧e9=pK 3:=by
 obtain ⟨z,v,y,E,h1,k,A,D,rfl,hN,hD⟩:=hf
 have kZ:=fun X (hX:bW w X)=>jh _ x X (hN.below hX)
 have hE:0≤e*(s:Int)∧e*(s:Int)≤192000:=by
  have h1:e*(s:Int)≤20*(s:Int):=Zj he.2 (by omega);have h2:0≤e*(s:Int):=Zm he.1 (by omega);omega
 have O:IntKind.i64.wrap (e*(s:Int))=e*(s:Int):=by rw [Qx];omega
 have e2:decide (e*(s:Int)≤2800)=true:=decide_eq_true hl;have o3:(1:Int).natAbs<aj^300:=Qf (show 1<aj^1 by decide) (Ql aP (by decide))
 have Z:=fun X (hX:bW w X)=>GL _ x s X (hN.below hX) hs bx bp
 have I:=fun g a m c X=>Fw g a m c 3 X (by decide)
 obtain ⟨H,U,p,J,qr⟩:=yP w 127 (lR z v y E h1 k A D e) 127 (lR false none 0 0 false none 0 0 0);have S:=fC (R:=aX _) (ax J (ax (L.below p) (ax (M.below p) aS))) ⟨_,_,_,_,_,_,_,_,_,qr⟩ p
 have t:∀ r ∈ ([(w.heap.size,127,(lR z v y E h1 k A D e)),(B,3,[vI n]),(C,3,[vI s])]:List (Nat × TypeId × List Value)),r.1<H.heap.size:=fK J.lt (fK (L.below p).lt (fK (M.below p).lt nA));have T:=p.size;have q:w.heap.size+1<H.heap.size:=qr.lt
 have V:B≠w.heap.size+1:=by have:=L.lt;omega
 have Y:C≠w.heap.size+1:=by have:=M.lt;omega
 have Q:=Qa (And.intro t (And.intro T (And.intro q (And.intro V Y))));have d0:=J.cell 0;have k:=J.cell 1;have d4:=J.cell 4;have f0:=(L.below p).cell 0;have f1:=(M.below p).cell 0;simp only [Qc,Qe] at d0 k d4 f0 f1;clear L M J qr p t T q V Y hs he hl hE bx bp o3
 by_cases hn:n<0
 ·have e1:decide ((0:Int)≤n)=false:=decide_eq_false (by omega)
  rw [decide_eq_false (hz hn)] at kZ;clear hn hz;have a0:=O;go_enter func158,ntmps158
  go_upto_region 1 with (fail)
  rw [U.out];clear U
  go_upto_region 3 with (first | (go_at_call 144;refine (kZ _ S.below).mono ?_;rintro e w1 ⟨N,rfl⟩;have G:=ag aX.step S N;have c0:=FJ G.r0;have c1:=mI G.r2) | (go_at_call 106;refine (aC _ _ _ (by rfl)).mono ?_;rintro e w9 ⟨rfl,rfl⟩))
  obtain ⟨t,T,q,V,Y⟩:=Q.out;clear Q d0 k d4 f0 f1 c0 c1 S N
  have o:Hid (∀ X,fI w H (aX (w.heap.size+1)) [(w.heap.size,127,(lR z v y E h1 k A D e)),(B,3,[vI n]),(C,3,[vI s])] X→(X.cell? ⟨w.heap.size,0,none⟩=some (.bool z)∧X.cell? ⟨w.heap.size,1,none⟩=some (.slice v y E)∧X.cell? ⟨w.heap.size,2,none⟩=some (.bool h1)∧X.cell? ⟨w.heap.size,3,none⟩=some (.slice k A D)∧X.cell? ⟨w.heap.size,4,none⟩=some (vI e)∧X.cell? ⟨B,0,none⟩=some (vI n)∧X.cell? ⟨C,0,none⟩=some (vI s))∧fI w H (aX (w.heap.size+1)) [(w.heap.size,127,(lR z v y E h1 k A D e)),(B,3,[vI n]),(C,3,[vI s])] X):=Qa fun X h=>⟨⟨h.r0.cell 0,h.r0.cell 1,h.r0.cell 2,h.r0.cell 3,h.r0.cell 4,h.r1.cell 0,h.r2.cell 0⟩,h⟩
  go_wp2_with fail
  refine bB o (bY aX.drew G) fun X0 b=>?_
  refine tk 0 b ?_;refine tk 1 b ?_;refine tk 2 b ?_;refine tk 7 b ?_;refine tk 8 b ?_;refine tk 9 b ?_;refine tk 14 b ?_;refine tk 15 b ?_;refine tk 16 b ?_;refine tk 17 b ?_;refine ql 3 19 (fun j f=>?_) (fun j f=>?_)
  ·have hP:=b.2
   go_wp2_with (go_at_call 159;refine (Z _ hP.below).mono ?_;rintro e u ⟨d,g,a,m,c,rfl⟩)
   refine aT f o (ag aX.step hP d) fun b=>?_
   clear f j hP d;refine tk 4 b ?_;refine tk 5 b ?_;refine ql 6 19 (fun j f=>?_) (fun j f=>?_)
   ·have hP:=b.2
    go_wp2_with (go_at_call 152;refine (I _ _ _ _ _).mono ?_;rintro e u ⟨d,rfl⟩)
    exact ⟨rfl,hP.below.trans (d.mono hP.below.size),rfl⟩
   have hP:=b.2;obtain ⟨V9,l,F,iI,i⟩:=aL hP 127 (lR false none 0 0 false none 0 0 0)
   go_wp2_with fail
   rw [l.out];clear l
   refine aT f o (ag aX.step hP i) fun b=>?_
   clear f j hP i
   refine rd 6 fun j f=>?_
   have hP:=b.2
   go_wp2_with (go_at_call 152;refine (I _ _ _ _ _).mono ?_;rintro e u ⟨d,rfl⟩)
   exact ⟨rfl,hP.below.trans (d.mono hP.below.size),rfl⟩
  have hP:=b.2;obtain ⟨V9,l,F,iI,i⟩:=aL hP 127 (lR false none 0 0 false none 0 0 0)
  go_wp2_with fail
  rw [l.out];clear l
  refine aT f o (ag aX.step hP i) fun b=>?_
  clear f j hP i
  refine rd 3 fun j f=>?_
  have hP:=b.2
  go_wp2_with (go_at_call 159;refine (Z _ hP.below).mono ?_;rintro e u ⟨d,g,a,m,c,rfl⟩)
  replace F:=F.below d
  refine aT f o (ag aX.step hP d) fun b=>?_
  clear f j hP d;refine tk 4 b ?_;refine tk 5 b ?_
  refine rd 6 fun j f=>?_
  have hP:=b.2
  go_wp2_with (go_at_call 152;refine (I _ _ _ _ _).mono ?_;rintro e u ⟨d,rfl⟩)
  exact ⟨rfl,hP.below.trans (d.mono hP.below.size),rfl⟩
 ·have e1:decide ((0:Int)≤n)=true:=decide_eq_true (by omega)
  clear hn hz kZ;have a0:=O;go_enter func158,ntmps158
  go_upto_region 1 with (fail)
  rw [U.out];clear U
  go_upto_region 3 with (go_at_call 106;refine (aC _ _ _ (by rfl)).mono ?_;rintro e w9 ⟨rfl,rfl⟩)
  obtain ⟨t,T,q,V,Y⟩:=Q.out;clear Q d0 k d4 f0 f1
  have o:Hid (∀ X,fI w H (aX (w.heap.size+1)) [(w.heap.size,127,(lR z v y E h1 k A D e)),(B,3,[vI n]),(C,3,[vI s])] X→(X.cell? ⟨w.heap.size,0,none⟩=some (.bool z)∧X.cell? ⟨w.heap.size,1,none⟩=some (.slice v y E)∧X.cell? ⟨w.heap.size,2,none⟩=some (.bool h1)∧X.cell? ⟨w.heap.size,3,none⟩=some (.slice k A D)∧X.cell? ⟨w.heap.size,4,none⟩=some (vI e)∧X.cell? ⟨B,0,none⟩=some (vI n)∧X.cell? ⟨C,0,none⟩=some (vI s))∧fI w H (aX (w.heap.size+1)) [(w.heap.size,127,(lR z v y E h1 k A D e)),(B,3,[vI n]),(C,3,[vI s])] X):=Qa fun X h=>⟨⟨h.r0.cell 0,h.r0.cell 1,h.r0.cell 2,h.r0.cell 3,h.r0.cell 4,h.r1.cell 0,h.r2.cell 0⟩,h⟩
  go_wp2_with fail
  refine bB o (bY aX.drew S) fun X0 b=>?_
  refine tk 0 b ?_;refine tk 1 b ?_;refine tk 2 b ?_;refine tk 7 b ?_;refine tk 8 b ?_;refine tk 9 b ?_;refine tk 14 b ?_;refine tk 15 b ?_;refine tk 16 b ?_;refine tk 17 b ?_;refine ql 3 19 (fun j f=>?_) (fun j f=>?_)
  ·have hP:=b.2
   go_wp2_with (go_at_call 159;refine (Z _ hP.below).mono ?_;rintro e u ⟨d,g,a,m,c,rfl⟩)
   refine aT f o (ag aX.step hP d) fun b=>?_
   clear f j hP d;refine tk 4 b ?_;refine tk 5 b ?_;refine ql 6 19 (fun j f=>?_) (fun j f=>?_)
   ·have hP:=b.2
    go_wp2_with (go_at_call 152;refine (I _ _ _ _ _).mono ?_;rintro e u ⟨d,rfl⟩)
    exact ⟨rfl,hP.below.trans (d.mono hP.below.size),rfl⟩
   have hP:=b.2;obtain ⟨V9,l,F,iI,i⟩:=aL hP 127 (lR false none 0 0 false none 0 0 0)
   go_wp2_with fail
   rw [l.out];clear l
   refine aT f o (ag aX.step hP i) fun b=>?_
   clear f j hP i
   refine rd 6 fun j f=>?_
   have hP:=b.2
   go_wp2_with (go_at_call 152;refine (I _ _ _ _ _).mono ?_;rintro e u ⟨d,rfl⟩)
   exact ⟨rfl,hP.below.trans (d.mono hP.below.size),rfl⟩
  have hP:=b.2;obtain ⟨V9,l,F,iI,i⟩:=aL hP 127 (lR false none 0 0 false none 0 0 0)
  go_wp2_with fail
  rw [l.out];clear l
  refine aT f o (ag aX.step hP i) fun b=>?_
  clear f j hP i
  refine rd 3 fun j f=>?_
  have hP:=b.2
  go_wp2_with (go_at_call 159;refine (Z _ hP.below).mono ?_;rintro e u ⟨d,g,a,m,c,rfl⟩)
  replace F:=F.below d
  refine aT f o (ag aX.step hP d) fun b=>?_
  clear f j hP d;refine tk 4 b ?_;refine tk 5 b ?_
  refine rd 6 fun j f=>?_
  have hP:=b.2
  go_wp2_with (go_at_call 152;refine (I _ _ _ _ _).mono ?_;rintro e u ⟨d,rfl⟩)
  exact ⟨rfl,hP.below.trans (d.mono hP.below.size),rfl⟩
theorem zX (n:Int)(w:World)(b:-9600≤n∧n≤9600) :
 CB 104 #[vI n] w fun e f=>∃ B C,e=.returned (.func (.func 158) #[] #[vP B,vP C])∧af f B 3 [vI n]∧af f C 3 [vI (n.natAbs:Int)]:=by
 have a:=dJ w (.cells #[vI n] 3);have c:=af.new w 3 [vI n];have t:=lK;have h:=c.cell 0;simp only [Qc] at h;have o:decide ((-9600:Int)≤n)=true:=decide_eq_true b.1;have p:decide (n≤9600)=true:=decide_eq_true b.2
 have i:IntKind.i64.wrap (-n)=-n:=by rw [Qx];omega
 have q:max n (-n)=(n.natAbs:Int):=by omega
 have m:=a.alloc a.size (.cells #[vI 0] 3);have d:=af.new (w.alloc (.cells #[vI n] 3)) 3 [vI 0];generalize (n.natAbs:Int)=s at *;have l:=d.cell 0;have r:=d.frozen 0;simp only [Qc] at l;have j:=af.new (w.alloc (.cells #[vI n] 3)) 3 [vI s];have k:=c.alloc (.cells #[vI s] 3);have g:=a.alloc a.size (.cells #[vI s] 3);simp only [Qh] at *;go_enter func104,ntmps104
 go_wp2_with (go_at_call 106;refine (aC _ _ _ (by rfl)).mono ?_;rintro e u ⟨rfl,rfl⟩)
 go_ret;exact ⟨g,_,_,rfl,k,j⟩
theorem GM (n:Int)(w:World)(d:n< -9600∨9600<n) :
 CB 104 #[vI n] w fun e _=>e=pK 1:=by
 have a:=dJ w (.cells #[vI n] 3);have f:=af.new w 3 [vI n];have j:=lK;have b:=f.cell 0;simp only [Qc] at b;go_enter func104,ntmps104
 rcases d with h | h
 ·have c:decide ((-9600:Int)≤n)=false:=decide_eq_false (by omega)
  go_wp2_with (go_at_call 106;refine (bD _ _ _ (by rfl)).mono ?_;rintro e g ⟨rfl,rfl⟩)
  exact ⟨rfl,a,rfl⟩
 ·have c:decide ((-9600:Int)≤n)=true:=decide_eq_true (by omega)
  have i:decide (n≤9600)=false:=decide_eq_false (by omega)
  go_wp2_with (go_at_call 106;refine (bD _ _ _ (by rfl)).mono ?_;rintro e g ⟨rfl,rfl⟩)
  exact ⟨rfl,a,rfl⟩
def vC (n:Int)(x:Int × Nat):Int:=if n<0 then 1 else x.1^n.natAbs
def wZ (n:Int)(x:Int × Nat):Int:=if n<0 then x.1^n.natAbs else 1
def oq (n:Int)(x:Int × Nat):Int:=if n<0 then -((x.2:Int)*(n.natAbs:Int)) else (x.2:Int)*(n.natAbs:Int)
def sS (n:Int)(x:Int × Nat):Int × Nat:=least (fB (vC n x) (wZ n x) (oq n x) 20) 20
def qF (n:Int)(x:Int × Nat):Int:=if n< -9600∨9600<n then 1 else if n<0∧x.1=0 then 20 else if 2800<(x.2:Int)*(n.natAbs:Int)∨¬(x.1^n.natAbs).natAbs<aj^300 then 3 else 0
theorem Fz {n:Int}{x:Int × Nat}(h:qF n x=0):(-9600≤n∧n≤9600)∧(n<0→x.1≠0)∧(x.2:Int)*(n.natAbs:Int)≤2800∧(x.1^n.natAbs).natAbs<aj^300:=by
 unfold qF at h;generalize aj^300=K at *;generalize (x.1^n.natAbs).natAbs=z at *;generalize (x.2:Int)*(n.natAbs:Int)=u at *
 repeat' split at h
 all_goals first | omega | (refine ⟨by omega,?_,by omega,by omega⟩;intro h1 a;omega)
theorem Io:(1:Int).natAbs<aj^300:=Qf (show 1<aj^1 by decide) (Ql aP (by decide))
theorem qK {n:Int}{x:Int × Nat}(a:(x.1^n.natAbs).natAbs<aj^300):(vC n x).natAbs<aj^300∧(wZ n x).natAbs<aj^300:=by
 unfold vC wZ
 by_cases h:n<0
 ·rw [if_pos h,if_pos h];exact ⟨Io,a⟩
 ·rw [if_neg h,if_neg h];exact ⟨a,Io⟩
theorem FB {n:Int}{x:Int × Nat}(a:n<0→x.1≠0):wZ n x≠0:=by
 unfold wZ
 by_cases h:n<0
 ·rw [if_pos h];exact Int.pow_ne_zero (a h)
 ·rw [if_neg h];decide
theorem BU {n:Int}{x:Int × Nat}(b:(x.2:Int)*(n.natAbs:Int)≤2800)(a:(x.1^n.natAbs).natAbs<aj^300):(wZ n x*((10^(oq n x - (20:Nat)).toNat:Nat):Int)).natAbs<aj^300:=by
 unfold wZ oq;have h0:0≤(x.2:Int)*(n.natAbs:Int):=Zm (by omega) (by omega)
 by_cases h:n<0
 ·rw [if_pos h,if_pos h,show (-((x.2:Int)*(n.natAbs:Int)) - (20:Nat)).toNat=0 by omega]
  simpa using a
 ·rw [if_neg h,if_neg h,QY]
  exact jc (by omega)
theorem BV {n:Int}{x:Int × Nat}(c:(x.2:Int)*(n.natAbs:Int)≤2800)(h:n<0∨20<(x.2:Int)*(n.natAbs:Int))(b:(x.1^n.natAbs).natAbs<aj^300):(vC n x*((10^(((20:Nat):Int) - oq n x).toNat:Nat):Int)).natAbs<aj^300:=by
 unfold vC oq
 by_cases a:n<0
 ·rw [if_pos a,if_pos a,QY]
  exact jc (by omega)
 ·rw [if_neg a,if_neg a,show (((20:Nat):Int) - (x.2:Int)*(n.natAbs:Int)).toNat=0 by omega]
  simpa using b
theorem Md {n:Int}{x:Int × Nat}(a:¬n<0)(f:(x.2:Int)*(n.natAbs:Int)≤20)(h:¬(vC n x*((10^(((20:Nat):Int) - oq n x).toNat:Nat):Int)).natAbs<aj^300):¬(sS n x).1.natAbs<aj^40:=by
 unfold sS;have h0:0≤(x.2:Int)*(n.natAbs:Int):=Zm (by omega) (by omega)
 have b:wZ n x=1:=by unfold wZ;rw [if_neg a]
 have c:fB (vC n x) 1 (oq n x) 20=vC n x*((10^(((20:Nat):Int) - oq n x).toNat:Nat):Int):=by
  unfold fB;rw [xH,show (oq n x - ((20:Nat):Int)).toNat=0 by unfold oq;rw [if_neg a];omega,Int.pow_zero,Int.mul_one,Kq]
 rw [b,c];refine GA (Qd ?_ (ZM h))
 have d:(10:Nat)^20≤aj^3:=by decide
 calc aj^40*10^20≤aj^40*aj^3:=Qu _ d
  _=aj^43:=by rw [← Qt]
  _≤aj^300:=Ql aP (by decide)
theorem Bq (vf:Value)(x y e:Int)(k:Nat)(w:World)(hf:eu w vf x y e)(V:k≤20)(A:0≤e∧e≤(k:Int))(F:x.natAbs<aj^300)(D:¬(x*((10^((k:Int) - e).toNat:Nat):Int)).natAbs<aj^300) :
  Calls prog 121 #[vf,vI k] w fun e2 w'=>bW w w'∧e2=pK 3:=by
 obtain ⟨N,C,M,S,h1,G,O,Q,rfl,I,U⟩:=hf;obtain ⟨W0,hW,B,Y,q2,Z⟩:=MJ w 127 (lR N C M S h1 G O Q e) 24 (lN false none 0 0) 24 (lN false none 0 0);have HB:=Qa (And.intro I (And.intro U (And.intro V (And.intro A (And.intro F D)))));clear I U V A F D;go_enter func121,ntmps121
 go_upto_region 1 with (fail)
 rw [hW.out];clear hW
 go_cut [6,7] from 9 to 12 (fun v6 v7 W=>∃ b6 b7,v6=vP b6∧v7=vP b7∧gQ W b6 x∧af W w.heap.size 127 (lR N C M S h1 G O Q e)∧fo (w.heap.size+1) W∧bW w W)
 case first =>
  obtain ⟨I,U,-⟩:=HB.out;have dH:=fC (R:=fo _) (ax Y aS) ⟨⟨_,_,_,_,q2⟩,_,_,_,_,Z⟩ B
  have o:=yO dH fun X h=>(EY h.r0:)
  have p:∀ r ∈ ([(w.heap.size,127,(lR N C M S h1 G O Q e))]:List (Nat × TypeId × List Value)),r.1<W0.heap.size:=fK Y.lt nA;have T:=B.size;have a4:w.heap.size+1+1<W0.heap.size:=Z.lt;have rW:=I.below B;clear Y q2 Z B I U
  go_wp2_with fail
  refine bB o (bY fo.drew dH) fun X0 a=>?_
  refine tk 0 a ?_;refine tk 1 a ?_;refine tk 2 a ?_;refine tk 3 a ?_;refine ql 4 5 (fun f c=>?_) (fun f c=>?_)
  ·have hP:=a.2
   obtain ⟨V9,n,d,E,b⟩:=aL hP 24 (lN false none 0 0)
   go_wp2_with fail
   rw [n.out];clear n
   refine aT c o (ag fo.step hP b) fun a=>?_
   clear c f hP b
   refine rd 5 fun f c=>?_
   have hP:=a.2;have bF:=Qg d.lt;obtain ⟨V9,n,g,H,b⟩:=aL hP 24 (lN false none 0 0)
   go_wp2_with fail
   rw [n.out];clear n;replace d:=d.below b
   refine aT c o (ag fo.step hP b) fun a=>?_
   clear c f hP b
   refine rd 6 fun f c=>?_
   have hP:=a.2;obtain ⟨t,u,q,s⟩:=av d;obtain ⟨V8,l,i,z,j,m⟩:=ay hP (fo.other (by omega) (by omega)) (bP p E) (Qd T E) d (.bool N) (.slice C M S)
   go_wp2_with fail
   rw [l.out];replace g:=m _ _ _ g bF.symm;replace d:=j
   refine aT c o i fun a=>?_
   clear c f hP i l z j m t u q s
   refine rd 7 fun f c=>?_
   have hP:=a.2;obtain ⟨t,u,q,s⟩:=av g;obtain ⟨V8,l,i,z,j,m⟩:=ay hP (fo.other (by omega) (by omega)) (bP p H) (Qd T H) g (.bool h1) (.slice G O Q)
   go_wp2_with fail
   rw [l.out];replace d:=m _ _ _ d bF;replace g:=j
   refine aT c o i fun a=>?_
   clear c f hP i l z j m t u q s;refine wpAnyH_done (by kernel_rfl) ?_ _;go_wp2
   go_meet
   exact ⟨_,_,rfl,rfl,⟨_,_,_,_,d,rW.keep a.2.more⟩,a.2.r0,a.2.res,a.2.below⟩
  have hP:=a.2;obtain ⟨V9,n,g,H,b⟩:=aL hP 24 (lN false none 0 0)
  go_wp2_with fail
  rw [n.out];clear n
  refine aT c o (ag fo.step hP b) fun a=>?_
  clear c f hP b
  refine rd 4 fun f c=>?_
  have hP:=a.2;have bG:=Qg g.lt;obtain ⟨V9,n,d,E,b⟩:=aL hP 24 (lN false none 0 0)
  go_wp2_with fail
  rw [n.out];clear n;replace g:=g.below b
  refine aT c o (ag fo.step hP b) fun a=>?_
  clear c f hP b
  refine rd 6 fun f c=>?_
  have hP:=a.2;obtain ⟨t,u,q,s⟩:=av d;obtain ⟨V8,l,i,z,j,m⟩:=ay hP (fo.other (by omega) (by omega)) (bP p E) (Qd T E) d (.bool N) (.slice C M S)
  go_wp2_with fail
  rw [l.out];replace g:=m _ _ _ g bG;replace d:=j
  refine aT c o i fun a=>?_
  clear c f hP i l z j m t u q s
  refine rd 7 fun f c=>?_
  have hP:=a.2;obtain ⟨t,u,q,s⟩:=av g;obtain ⟨V8,l,i,z,j,m⟩:=ay hP (fo.other (by omega) (by omega)) (bP p H) (Qd T H) g (.bool h1) (.slice G O Q)
  go_wp2_with fail
  rw [l.out];replace d:=m _ _ _ d bG.symm;replace g:=j
  refine aT c o i fun a=>?_
  clear c f hP i l z j m t u q s;refine wpAnyH_done (by kernel_rfl) ?_ _;go_wp2
  go_meet
  exact ⟨_,_,rfl,rfl,⟨_,_,_,_,d,rW.keep a.2.more⟩,a.2.r0,a.2.res,a.2.below⟩
 case rest =>
  obtain ⟨b6,b7,rfl,rfl,g6,rF,rT,J⟩:=hcut;obtain ⟨-,-,V,A,F,D⟩:=HB.out
  have L:=fun (X:World) v (hv:ak X v x)=>zU v x ((k:Int) - e).toNat X hv (by omega) F D
  have x4:=FJ rF;clear Y q2 Z B;obtain ⟨n6,a6,m6,c6,r6,i6,t,u,q,s⟩:=g6.cells;have e1:decide (e≤(k:Int))=true:=decide_eq_true A.2;rw [show (((((k:Int) - e).toNat:Nat)):Int)=(k:Int) - e by omega] at L
  have a3:(k:Int)≤20:=by omega
  have a1:=A.1;have a2:=A.2;have hw:=V;clear D F HB g6
  go_wp2_with (go_at_call 108;refine (L _ _ i6).mono ?_;rintro e3 w3 ⟨a0,rfl⟩)
  exact ⟨rfl,J.trans (a0.mono J.size),rfl⟩
theorem uo (h:Value)(i:Int)(p B C:Nat)(K:Int)(k:Nat)(w:World)(h1:dB w h i p)(f:∀ W v,bW w W→eu W v i 1 (p:Int)→Calls prog 158 #[v,vP B,vP C] W fun b o=>bW W o∧b=pK K)
   :
  Calls prog 98 #[h,.func (.func 158) #[] #[vP B,vP C],vI k] w fun b D=>bW w D∧b=pK K:=by
 have z:=fun X (y:bW w X)=>jl h i p X (h1.below y)
 obtain ⟨A,q,m1,r,t,s,rfl,-⟩:=h1.shape;obtain ⟨E,m,j,g,n⟩:=vk w 27 (lV 3 p A q m1 r ⟨#[]⟩ t 0 s);have l:=fC (R:=bI _) (ax g aS) ⟨_,_,_,_,_,_,_,_,_,_,n⟩ j;obtain ⟨F,G,H,I,J,L⟩:=aD g;have hP:=l.nil;clear h1 j g n l;go_enter func98,ntmps98
 go_upto_region 1 with (fail)
 rw [m.out];clear m
 go_wp2_with (first | (go_at_call 158;refine (f _ _ a.below x).mono ?_;rintro u N ⟨d,rfl⟩) | (go_at_call 154;refine (z _ hP.below).mono ?_;rintro u w1 ⟨c,M,rfl,x⟩;have a:=ag bI.step hP c))
 exact ⟨rfl,a.below.trans (d.mono a.below.size),rfl⟩
theorem rZ (l:Value)(i:Int)(p B C:Nat)(x y e:Int)(k:Nat)(w:World)(h1:dB w l i p)(h:∀ W v,bW w W→eu W v i 1 (p:Int)→Calls prog 158 #[v,vP B,vP C] W fun c m=>bW W m∧∃ D,c=.returned D∧eu m D x y e)
  (z:k≤20) (u:0≤e∧e≤(k:Int)) (q:x.natAbs<aj^300) (o:¬(x*((10^((k:Int) - e).toNat:Nat):Int)).natAbs<aj^300) :
  Calls prog 98 #[l,.func (.func 158) #[] #[vP B,vP C],vI k] w fun c S=>bW w S∧c=pK 3:=by
 have N:=fun X (L:bW w X)=>jl l i p X (h1.below L)
 have O:=fun (X:World) v (M:eu X v x y e)=>Bq v x y e k X M z u q o
 obtain ⟨Q,E,m1,F,H,G,rfl,-⟩:=h1.shape;obtain ⟨T,t,n,j,A⟩:=vk w 27 (lV 3 p Q E m1 F ⟨#[]⟩ H 0 G);have r:=fC (R:=bI _) (ax j aS) ⟨_,_,_,_,_,_,_,_,_,_,A⟩ n;obtain ⟨U,V,Y,Z,d4,d5⟩:=aD j;have hP:=r.nil;clear h1 n j A r z u q o;go_enter func98,ntmps98
 go_upto_region 1 with (fail)
 rw [t.out];clear t
 go_wp2_with (first | (go_at_call 121;refine (O _ _ J).mono ?_;rintro s w3 ⟨g,rfl⟩) | (go_at_call 158;refine (h _ _ a.below I).mono ?_;rintro s w2 ⟨f,v6,rfl,J⟩;have b:=ag bI.step a f) | (go_at_call 154;refine (N _ hP.below).mono ?_;rintro s w1 ⟨d,v5,rfl,I⟩;have a:=ag bI.step hP d))
 exact ⟨rfl,b.below.trans (g.mono b.below.size),rfl⟩
theorem zo (l:Value)(x:Int × Nat)(n:Int)(B C:Nat)(r:Int)(k:Nat)(w:World)(h1:dB w l x.1 x.2)(s:af w B 3 [vI n])(t:af w C 3 [vI (n.natAbs:Int)])(E:-9600≤n∧n≤9600)(h0:qF n x=0)(d:sS n x=(r,k))(hf:r.natAbs<aj^40) :
 CB 98 #[l,.func (.func 158) #[] #[vP B,vP C],vI 20] w fun e z=>∃ g a m c la lc,e=.returned (vV 3 k g a m c ⟨#[]⟩ la 0 lc)∧ak z (vN g a m c) r:=by
 obtain ⟨-,p,i,b⟩:=Fz h0;have D:=h1.hi;have q:x.1.natAbs<aj^300:=az h1.abs (by decide);have A:0≤(x.2:Int)*(n.natAbs:Int):=Zm (by omega) (by omega)
 have f:-2800≤oq n x∧oq n x≤2800:=by unfold oq;split <;> omega
 have j:=fun (W:World) v (o:bW w W) (y:eu W v x.1 1 (x.2:Int))=>yA v B C n n.natAbs x.1 (x.2:Int) W y (s.below o) (t.below o) (by omega) p (by omega) i q b
 refine um l x.1 x.2 B C (vC n x) (wZ n x) (oq n x) 20 r k w h1 j (by decide) f (qK b).1 (qK b).2 (FB p) ?_ (BU i b) d hf
 by_cases u:n<0∨20<(x.2:Int)*(n.natAbs:Int)
 ·exact BV i u b
 ·rcases QK (vC n x*((10^(((20:Nat):Int) - oq n x).toNat:Nat):Int)).natAbs (aj^300) with h | h
  ·exact h
  ·exfalso
   refine Md (x:=x) (n:=n) (by omega) (by omega) (Nat.not_lt.2 h) ?_;rw [d];exact hf
theorem yM (c:Value)(x:Int × Nat)(n:Int)(B C:Nat)(w:World)(h1:dB w c x.1 x.2)(l:af w B 3 [vI n])(m:af w C 3 [vI (n.natAbs:Int)])(r:-9600≤n∧n≤9600)(h0:qF n x=0)(hf:¬(sS n x).1.natAbs<aj^40) :
 CB 98 #[c,.func (.func 158) #[] #[vP B,vP C],vI 20] w fun e _=>e=pK 3:=by
 obtain ⟨-,j,f,a⟩:=Fz h0;have q:=h1.hi;have k:x.1.natAbs<aj^300:=az h1.abs (by decide);have p:0≤(x.2:Int)*(n.natAbs:Int):=Zm (by omega) (by omega)
 have d:-2800≤oq n x∧oq n x≤2800:=by unfold oq;split <;> omega
 have b:=fun (W:World) v (g:bW w W) (o:eu W v x.1 1 (x.2:Int))=>yA v B C n n.natAbs x.1 (x.2:Int) W o (l.below g) (m.below g) (by omega) j (by omega) f k a
 rcases QK (vC n x*((10^(((20:Nat):Int) - oq n x).toNat:Nat):Int)).natAbs (aj^300) with h | h
 ·exact rY c x.1 x.2 B C (vC n x) (wZ n x) (oq n x) 20 w h1 b (by decide) d (qK a).1 (qK a).2 (FB j) h (BU f a) hf
 ·have i:¬(n<0∨20<(x.2:Int)*(n.natAbs:Int)):=fun i=>Nat.not_lt.2 h (BV f i a)
  exact rZ c x.1 x.2 B C (vC n x) (wZ n x) (oq n x) 20 w h1 b (by decide) (by unfold oq;split <;> omega) (qK a).1 (Nat.not_lt.2 h)
theorem zq (g:Value)(x:Int × Nat)(n:Int)(B C:Nat)(w:World)(h1:dB w g x.1 x.2)(o:af w B 3 [vI n])(p:af w C 3 [vI (n.natAbs:Int)])(r:-9600≤n∧n≤9600)(h0:qF n x≠0) :
 CB 98 #[g,.func (.func 158) #[] #[vP B,vP C],vI 20] w fun e _=>e=pK (qF n x):=by
 have q:=h1.hi;have l:x.1.natAbs<aj^300:=az h1.abs (by decide)
 refine uo g x.1 x.2 B C (qF n x) 20 w h1 fun W v j f=>?_
 have c:=o.below j;have d:=p.below j;unfold qF at h0 ⊢;rw [if_neg (by omega)] at h0 ⊢
 by_cases a:n<0∧x.1=0
 ·rw [if_pos a]
  exact Bo v B C n n.natAbs x.1 (x.2:Int) W f c d (by omega) a.1 a.2
 rw [if_neg a] at h0 ⊢
 have k:n<0→x.1≠0:=fun h m=>a ⟨h,m⟩
 by_cases i:2800<(x.2:Int)*(n.natAbs:Int)
 ·rw [if_pos (.inl i)]
  exact CV v B C n n.natAbs x.1 (x.2:Int) W f c d (by omega) k (by omega) (by omega)
 by_cases b:(x.1^n.natAbs).natAbs<aj^300
 ·exact absurd (if_neg (fun h=>h.elim i (fun h=>h b))) h0
 ·rw [if_pos (.inr b)]
  exact Bp v B C n n.natAbs x.1 (x.2:Int) W f c d (by omega) k (by omega) (by omega) l b
theorem ED (D A:Nat)(n:Int){x:Bool}{q t:Option Addr}{m1 r s p:Nat}(w:World)(d:af w D 3 [vI n])(_hA:af w A 27 (lV 3 p x q m1 r ⟨#[]⟩ t 0 s))(j:n< -9600∨9600<n) :
 CB 103 #[vP A,vP D] w fun e _=>e=pK 1:=by
 have v:=fun X=>GM n X j
 obtain ⟨z,i,b,o⟩:=qD w;have a:=d.lt;have m:=_hA.lt;have g:=fC (R:=bI _) (ax (d.below b) (ax (_hA.below b) aS)) ⟨_,_,_,_,_,_,_,_,_,_,o⟩ b
 have u:=yO g fun X h=>(MK h.r0 (aD h.r1):)
 have l:Hid (D≠w.heap.size):=Qa (Qg a);have k:Hid (A≠w.heap.size):=Qa (Qg m);clear d _hA o b m a j;go_enter func103,ntmps103
 go_upto_region 1 with (fail)
 rw [i.out];clear i
 go_wp2_with fail
 refine bB u (bY bI.drew g) fun B c=>?_
 refine tk 0 c ?_;refine tk 1 c ?_
 refine rd 2 fun y C=>?_
 have hP:=c.2
 go_wp2_with (go_at_call 104;refine (v _).mono ?_;rintro e E ⟨f,rfl⟩)
 exact ⟨rfl,hP.below.trans (f.mono hP.below.size),rfl⟩
theorem yB (D A:Nat)(n:Int){C:Bool}{q t:Option Addr}{m1 r s p:Nat}{K:Int}(w:World)(k:af w D 3 [vI n])(j:af w A 27 (lV 3 p C q m1 r ⟨#[]⟩ t 0 s))(y:-9600≤n∧n≤9600)(G:∀ X f g,bW w X→af X f 3 [vI n]→af X g 3 [vI (n.natAbs:Int)]→Calls prog 98 #[vV 3 p C q m1 r ⟨#[]⟩ t 0 s,.func (.func 158) #[] #[vP f,vP g],vI 20] X fun e I=>bW X I∧e=pK K) :
 CB 103 #[vP A,vP D] w fun e _=>e=pK K:=by
 have H:=fun X=>zX n X y
 obtain ⟨L,x,d,F⟩:=qD w;have b:=k.lt;have E:=j.lt;have u:=fC (R:=bI _) (ax (k.below d) (ax (j.below d) aS)) ⟨_,_,_,_,_,_,_,_,_,_,F⟩ d
 have v:=yO u fun X h=>(MK h.r0 (aD h.r1):)
 have B:Hid (D≠w.heap.size):=Qa (Qg b);have z:Hid (A≠w.heap.size):=Qa (Qg E);clear k j F d E b y;go_enter func103,ntmps103
 go_upto_region 1 with (fail)
 rw [x.out];clear x
 go_wp2_with fail
 refine bB v (bY bI.drew u) fun M c=>?_
 refine tk 0 c ?_;refine tk 1 c ?_
 refine rd 2 fun o i=>?_
 have hP:=c.2
 go_wp2_with (go_at_call 104;refine (H _).mono ?_;rintro e J ⟨a,f,g,rfl,l,m⟩)
 refine aT i v (ag bI.step hP a) fun c=>?_
 clear i o hP a
 refine rd 3 fun o i=>?_
 have hP:=c.2
 go_wp2_with (go_at_call 98;refine (G _ _ _ hP.below l m).mono ?_;rintro e J ⟨a,rfl⟩)
 exact ⟨rfl,hP.below.trans (a.mono hP.below.size),rfl⟩
theorem EE (D A:Nat)(n:Int){Q:Bool}{E H:Option Addr}{m1 F G p:Nat}{r:Int}{l:Nat}(w:World)(C:af w D 3 [vI n])(B:af w A 27 (lV 3 p Q E m1 F ⟨#[]⟩ H 0 G))(M:-9600≤n∧n≤9600)(N:∀ X y z,bW w X→af X y 3 [vI n]→af X z 3 [vI (n.natAbs:Int)]→Calls prog 98 #[vV 3 p Q E m1 F ⟨#[]⟩ H 0 G,.func (.func 158) #[] #[vP y,vP z],vI 20] X fun e x=>bW X x∧∃ g a m c la lc,e=.returned (vV 3 l g a m c ⟨#[]⟩ la 0 lc)∧ak x (vN g a m c) r) :
 CB 103 #[vP A,vP D] w fun e x=>∃ v,e=.returned v∧dX x v r l:=by
 have O:=fun X=>zX n X M
 obtain ⟨W0,L,t,T⟩:=qD w;have i:=C.lt;have S:=B.lt;have I:=fC (R:=bI _) (ax (C.below t) (ax (B.below t) aS)) ⟨_,_,_,_,_,_,_,_,_,_,T⟩ t
 have u:=yO I fun X h=>(MK h.r0 (aD h.r1):)
 have s:Hid (D≠w.heap.size):=Qa (Qg i);have q:Hid (A≠w.heap.size):=Qa (Qg S);clear C B T t S i M;go_enter func103,ntmps103
 go_upto_region 1 with (fail)
 rw [L.out];clear L
 go_wp2_with fail
 refine bB u (bY bI.drew I) fun X0 d=>?_
 refine tk 0 d ?_;refine tk 1 d ?_
 refine rd 2 fun o f=>?_
 have hP:=d.2
 go_wp2_with (go_at_call 104;refine (O _).mono ?_;rintro e wk ⟨b,y,z,rfl,j,k⟩)
 refine aT f u (ag bI.step hP b) fun d=>?_
 clear f o hP b
 refine rd 3 fun o f=>?_
 have hP:=d.2
 go_wp2_with (go_at_call 98;refine (N _ _ _ hP.below j k).mono ?_;rintro e wk ⟨b,g,a,m,c,la,lc,rfl,J⟩)
 replace j:=j.below b;replace k:=k.below b
 refine aT f u (ag bI.step hP b) fun d=>?_
 clear f o hP b
 refine rd 4 fun o f=>?_
 have hP:=d.2;obtain ⟨z0,z1,z2,z3,aI,aJ,z4,z5,aN,aO,hr,y0,y1,y2,y3,y4,y5,f0,f1,f2,f3,f4,f5⟩:=hP.res.cells;clear O N
 go_wp2_with fail
 refine aT f u (gF hP (aZ s.out (aZ q.out dV)) (Qb _) 3 (l:Int) g a m c ⟨#[]⟩ la 0 lc) fun d=>?_
 clear f o;obtain ⟨Y,Z,u2,u3,u4,u5⟩:=dD hr (vI 3) (vI l) (.bool g) (.slice a m c) vE (.slice la 0 lc);refine wpAnyH_done (by kernel_rfl) ?_ _;have V:=d.2.below;have U:=J.keep (bQ hr (vI 3) (vI l) (.bool g) (.slice a m c) vE (.slice la 0 lc));clear d hP J
 go_wp2_with fail
 exact bodyPost_ret (v:=vV 3 l g a m c ⟨#[]⟩ la 0 lc) (by simp [results,results103,go_sem,loadCellsFrom,Y,Z,u2,u3,u4,u5]) rfl ⟨V,_,rfl,g,a,m,c,la,lc,rfl,U⟩
theorem KG (va:Value)(D:Option (Int × Nat))(d:Int)(w:World)(h1:Fm w va D) :
  Calls prog 36 #[va,vI d] w fun e H=>bW w H∧∃ q s t u g j y z l o,∃ k:Int,e=.returned (.tuple #[vV q s t u g j y z l o,vI k])∧dG H (vg (qF d) D) (BB (sS d) D) k (vV q s t u g j y z l o):=by
 obtain ⟨O,S,A,J,m1,L,C,N,Q,M,rfl⟩:=h1.kY
 have a3:∀ B b,bW w B→af B w.heap.size 27 (lV O S A J m1 L C N Q M)→af B (w.heap.size+1) 3 [vI d]→af B b 27 (lV O S A J m1 L C N Q M)→Calls prog 88 #[.func (.func 103) #[] #[vP w.heap.size,vP (w.heap.size+1)],.slice (some ⟨b,0,none⟩) 1 1] B fun e H=>bW B H∧∃ q s t u g j y z l o,∃ k:Int,e=.returned (.tuple #[vV q s t u g j y z l o,vI k])∧dG H (vg (qF d) D) (BB (sS d) D) k (vV q s t u g j y z l o):=by
  intro B b Z r1 a7 row;refine pE _ _ b 1 B (fun k W v=>dG W (vg (qF d) D) (BB (sS d) D) k v) (fun _ _ _ _ h E=>h.keep E) (fun I h4 A g2 V=>?_)
  have hz:∀ K:Int,K≠0→(vg (qF d) D)=K→∀ W,bW I W→∃ k,(k=0∧pK K=.returned (.tuple #[])∨pK K=pK k)∧dF (fun i=>i=B.heap.size+1+1) I W∧∃ q s t u g j y z l o,af W (B.heap.size+1+1) 27 (lV q s t u g j y z l o)∧dG W (vg (qF d) D) (BB (sS d) D) k (vV q s t u g j y z l o):=fun K hK E W f=>⟨K,.inr rfl,(dF.refl _ I).aU f,0,0,false,none,0,0,⟨#[]⟩,none,0,0,V.below f,by rw [E];exact jX hK⟩
  have ja:=row.below h4;have C:=r1.below h4;have T:=a7.below h4;have G:=h1.below (Z.trans (h4.mono Z.size))
  cases D with
  | none =>
   refine (tZ B.heap.size b 103 #[vP w.heap.size,vP (w.heap.size+1)] I A g2 V ja G).mono ?_;rintro e W ⟨f,rfl⟩;exact hz 2 (by decide) rfl W f
  | some x =>
   have G:dB I _ x.1 x.2:=G;obtain ⟨n5,a5,m5,c5,a9,aa,e1,-⟩:=G.shape;simp only [Value.agg.injEq,Array.mk.injEq,List.cons.injEq,Value.int.injEq,Value.bool.injEq,Value.slice.injEq,Value.string.injEq,and_true,true_and] at e1;obtain ⟨rfl,rfl,rfl,⟨rfl,rfl,rfl⟩,rfl,rfl,rfl,rfl⟩:=e1
   by_cases hn:d< -9600∨9600<d
   ·refine (lW B.heap.size b 103 #[vP w.heap.size,vP (w.heap.size+1)] I A g2 V ja G (fun W=>by simp [go_sem]) 1 (fun W f=>ED _ _ _ W (T.below f) (C.below f) hn)).mono ?_
    rintro e W ⟨f,rfl⟩;exact hz 1 (by decide) (if_pos hn) W f
   have F:-9600≤d∧d≤9600:=by omega
   by_cases E:qF d x=0
   case neg =>
    refine (lW B.heap.size b 103 #[vP w.heap.size,vP (w.heap.size+1)] I A g2 V ja G (fun W=>by simp [go_sem]) (qF d x) (fun W f=>yB _ _ _ W (T.below f) (C.below f) F (fun X B2 C2 hX h8 h9=>zq _ x d B2 C2 X ((G.below f).below hX) h8 h9 F E))).mono ?_;rintro e W ⟨f,rfl⟩;exact hz _ E rfl W f
   by_cases hf:(sS d x).1.natAbs<aj^40
   ·obtain ⟨r,q9,Y⟩:∃ r q9,sS d x=(r,q9):=⟨_,_,rfl⟩
    rw [Y] at hf;refine (tY B.heap.size b 103 #[vP w.heap.size,vP (w.heap.size+1)] I A g2 V ja G (fun W v=>dX W v r q9) (fun _ _ _ h E=>h.keep E) (fun W v h=>?_) (fun W=>by simp [go_sem]) (fun W f=>EE _ _ _ W (T.below f) (C.below f) F (fun X B2 C2 hX h8 h9=>zo _ x d B2 C2 r q9 X ((G.below f).below hX) h8 h9 F E Y hf))).mono ?_
    ·obtain ⟨n,a,m,c,la,lc,rfl,-⟩:=h
     exact ⟨_,_,_,_,_,_,_,_,_,_,rfl⟩
    ·rintro e W ⟨rfl,hC,q,s,t,u,g,j,y,z,l,o,hr,hD⟩
     refine ⟨0,.inl ⟨rfl,rfl⟩,hC,q,s,t,u,g,j,y,z,l,o,hr,?_⟩;refine jY E ?_
     show dP W (sS d x).1 (sS d x).2 0 _
     rw [Y];unfold dP;rw [if_pos hf];exact ⟨rfl,hD⟩
   ·refine (lW B.heap.size b 103 #[vP w.heap.size,vP (w.heap.size+1)] I A g2 V ja G (fun W=>by simp [go_sem]) 3 (fun W f=>yB _ _ _ W (T.below f) (C.below f) F (fun X B2 C2 hX h8 h9=>yM _ x d B2 C2 X ((G.below f).below hX) h8 h9 F E hf))).mono ?_
    rintro e W ⟨f,rfl⟩;refine ⟨3,.inr rfl,(dF.refl _ I).aU f,0,0,false,none,0,0,⟨#[]⟩,none,0,0,V.below f,?_⟩;refine jY E ?_
    show dP W (sS d x).1 (sS d x).2 3 _
    unfold dP;rw [if_neg hf];exact ⟨rfl,rfl⟩
 obtain ⟨U,f,b0,q1,q2,qr⟩:=BC w 27 (lV O S A J m1 L C N Q M) 3 [vI d];have dH:=fC (R:=bI _) (ax q1 (ax q2 aS)) ⟨_,_,_,_,_,_,_,_,_,_,qr⟩ b0;have g0:=q2.cell 0;simp only [Qc] at g0;obtain ⟨d0,d1,d2,d3,d4,d5⟩:=aD q1;have b5:=b0.alloc b0.size (.cells #[vI O,vI S,.bool A,.slice J m1 L,.string C,.slice N Q M] 27)
 have gY:=a3 _ U.heap.size b5 (q1.alloc _) (q2.alloc _) (af.new U 27 (lV O S A J m1 L C N Q M));have uZ:=lK
 obtain ⟨R,hR⟩:∃ R:World→Int→Value→Prop,R=fun W k v=>dG W (vg (qF d) D) (BB (sS d) D) k v:=⟨_,rfl⟩
 have a4:∀ W W' k v,R W k v→(∀ v xs,Reads .u32 W v xs→Reads .u32 W' v xs)→R W' k v:=by
  rw [hR]
  exact fun _ _ _ _ h E=>h.keep E
 replace gY:Calls prog 88 #[.func (.func 103) #[] #[vP w.heap.size,vP (w.heap.size+1)],.slice (some ⟨U.heap.size,0,none⟩) 1 1] (U.alloc (.cells ((lV O S A J m1 L C N Q M):List Value).toArray 27)) fun e H=>Below (U.alloc (.cells ((lV O S A J m1 L C N Q M):List Value).toArray 27)).heap.size (U.alloc (.cells ((lV O S A J m1 L C N Q M):List Value).toArray 27)) H∧∃ q s t u g j y z l o,∃ k:Int,e=.returned (.tuple #[vV q s t u g j y z l o,vI k])∧R H k (vV q s t u g j y z l o):=by
  refine gY.mono ?_;rintro e w9 ⟨Z,q,s,t,u,g,j,y,z,l,o,k,he,hr⟩;rw [hR];exact ⟨Z,q,s,t,u,g,j,y,z,l,o,k,he,hr⟩
 suffices main:Calls prog 36 #[vV O S A J m1 L C N Q M,vI d] w fun e H=>bW w H∧∃ q s t u g j y z l o,∃ k:Int,e=.returned (.tuple #[vV q s t u g j y z l o,vI k])∧R H k (vV q s t u g j y z l o) by
  refine main.mono ?_;rintro e w9 ⟨Z,q,s,t,u,g,j,y,z,l,o,k,he,hr⟩;rw [hR] at hr;exact ⟨Z,q,s,t,u,g,j,y,z,l,o,k,he,hr⟩
 have a8:fI w U (bI (w.heap.size+1+1)) [(w.heap.size,27,(lV O S A J m1 L C N Q M)),(w.heap.size+1,3,[vI d])] U:=dH;clear a3 hR h1 b0 q1 q2 dH;go_enter func36,ntmps36
 go_upto_region 1 with (fail)
 rw [f.out];clear f
 go_wp2_with (refine gY.mono ?_;rintro e w3 ⟨a0,q,s,t,u,g,j,y,z,l,o,k,rfl,a2⟩;have b6:=b5.trans (a0.mono b5.size);have q3:=(qr.alloc _).below a0;obtain ⟨y0,y1,y2,y3,y4,y5,f0,D,f2,f3,f4,f5⟩:=df q3)
 obtain ⟨u0,u1,u2,u3,u4,u5⟩:=dD q3 (vI q) (vI s) (.bool t) (.slice u g j) (.string y) (.slice z l o)
 have a6:=((((((b6.setCell (show w.heap.size≤w.heap.size+1+1 by omega) (p:=⟨w.heap.size+1+1,0,none⟩) (vI q)).setCell (show w.heap.size≤w.heap.size+1+1 by omega) (p:=⟨w.heap.size+1+1,1,none⟩) (vI s)).setCell (show w.heap.size≤w.heap.size+1+1 by omega) (p:=⟨w.heap.size+1+1,2,none⟩) (.bool t)).setCell (show w.heap.size≤w.heap.size+1+1 by omega) (p:=⟨w.heap.size+1+1,3,none⟩) (.slice u g j)).setCell (show w.heap.size≤w.heap.size+1+1 by omega) (p:=⟨w.heap.size+1+1,4,none⟩) (.string y)).setCell (show w.heap.size≤w.heap.size+1+1 by omega) (p:=⟨w.heap.size+1+1,5,none⟩) (.slice z l o))
 exact bodyPost_ret (v:=.tuple #[vV q s t u g j y z l o,vI k]) (by simp [results,results36,go_sem,loadCellsFrom,u0,u1,u2,u3,u4,u5]) rfl ⟨a6,q,s,t,u,g,j,y,z,l,o,k,rfl,a4 _ _ _ _ a2 (bQ q3 (vI q) (vI s) (.bool t) (.slice u g j) (.string y) (.slice z l o))⟩
def FC (i:Int)(n:Nat)(r:Int):Prop:=∃ s,fD i.natAbs n s∧r=if i<0 then (if s^n=i.natAbs then -(s:Int) else -((s:Int)+1)) else (s:Int)
def uG (f:Bool)(n i k:Int)(W:World)(v:Value):Prop :=
 if f=true∧1≤n∧n≤100 then (if i<0∧n % 2=0 then k=5∧v=eQ else k=0∧∃ r,ak W v r∧FC i n.toNat r) else k=1∧v=eQ
section
variable {w w2 X X':World} {n0 n1 n2:Bool} {a0 a1 a2:Option Addr} {m0 c0 m1 c1 m2 c2:Nat}
end
section
variable {w w2 W2 X X':World} {n0 n1 n2:Bool} {a0 a1 a2:Option Addr} {m0 c0 m1 c1 m2 c2:Nat}
end
theorem yN (K L m:Nat)(hT:gP K)(hD:mf L K)(hL:L≤1000)(F:0<K)(hK:K≤1000)(hm:m<100)(va:Value)(c:List Nat)(r:Nat)(w:World)(ha:Reads .u32 w va c)(q:Canon c)(V:c.length≤L)(n:2^(m+1)*val c<aj^K)(hr:fD (val c) (m+1) r)(Y:r^(m+1)<val c) :
 CB 200 #[.agg #[.bool true,va],vI ((m:Int)+1)] w fun e B=>∃ v,e=.returned v∧ak B v (-((r:Int)+1)):=by
 obtain ⟨j,k,rfl,fA,gy⟩:=ha.form;have O:=(dJ w (.cells #[.bool true,.slice j c.length k] 24)).alloc (by simp) (.cells #[vF,vZ] 24);have r1:=(af.new w 24 (lN true j c.length k)).alloc (.cells #[vF,vZ] 24);have r2:=af.new (w.alloc (.cells #[.bool true,.slice j c.length k] 24)) 24 (lN false none 0 0);simp only [Qh] at r2
 have d:BA w w true j c k ((w.alloc (.cells #[.bool true,.slice j c.length k] 24)).alloc (.cells #[vF,vZ] 24)):=⟨r1,r2,O,ha.below O,fun v xs h=>h.below O⟩
 generalize G:(w.alloc (.cells #[.bool true,.slice j c.length k] 24)).alloc (.cells #[vF,vZ] 24)=W0 at d;have o:=xM K L m hT hD hL F hK hm (bitsOf c) (.slice j c.length k) c W0 (Qb _) d.ra q V n
 have J:∀ (v:Value) (rs:List Nat) (W:World),Reads .u32 W v rs→Canon rs→val rs=r→Calls prog 198 #[v,vI ((m:Int)+1)] W fun e B=>bW W B∧∃ v' f,e=.returned v'∧Reads .u32 B v' f∧Canon f∧val f=r^(m+1):=fun v rs W h u A=>by
  rw [show ((m:Int)+1)=((m+1:Nat):Int) by omega,← A];refine lL K hT F v rs (m+1) W h u (by omega) ?_;rw [A];exact Qr (Qd hr.1 (ZZ _ (Qq (by decide)))) n
 have I:∀ (v:Value) (ps:List Nat) (W:World),Reads .u32 W v ps→Canon ps→val ps=r^(m+1)→Reads .u32 W (.slice j c.length k) c→Calls prog 150 #[v,.slice j c.length k] W fun e B=>bW W B∧e=.returned (vI (-1)):=fun v ps W h u A hx=>by
  have:=gI v (.slice j c.length k) ps c W h hx u q (Qd (bE q u (by omega)) (show c.length≤1000000 by omega))
  rwa [A,show dS ((r^(m+1):Nat):Int) (val c:Int)=-1 by unfold dS;rw [if_pos (by omega)]] at this
 have N:∀ s,fD (val c) (m+1) s→s=r:=fun s h=>mG h hr
 have M:∀ rs:List Nat,Canon rs→val rs=r→rs.length≤100000:=fun rs u A=>by
  have E:val rs≤val c:=by
   rw [A]
   rcases Jr r with h0 | h0
   ·omega
   ·have h1:=Ql h0 (show 1≤m+1 by omega)
    rw [Yf] at h1;omega
  have:=bE q u E;omega
 have HW:=Qa G;clear hr Y n G r1 r2 O;go_enter func200,ntmps200
 go_wp2_with (go_at_call 228;(try rw [HW.out]);refine o.mono ?_;rintro e w3 ⟨D,v3,rs,rfl,E,k3,e3⟩;obtain ⟨a3,c3,rfl,a0,a2⟩:=E.form)
 have x:BA w w3 true j c k w3:=⟨d.a.below D,d.res.below D,d.below.trans (D.mono d.below.size),d.ra.below D,fun _ _ h=>h⟩
 have S:=Qa (Fh x);obtain ⟨d1,d2,-⟩:=zB x;have R:=N _ e3;clear d x o N HW e3 D
 go_region_held3 (fun X=>X.cell? ⟨w.heap.size,0,none⟩=some (.bool true)∧X.cell? ⟨w.heap.size,1,none⟩=some (.slice j c.length k)∧BA w w3 true j c k X)
  (first | exact S.out | (go_split_ands;exact xn (by assumption) H) | (go_split_ands;exact xn (by assumption) jS))
  (first
   | (go_at_call 198;go_split_ands;refine (J _ rs _ (BA.keep (by assumption) _ _ E) k3 R).mono ?_;rintro e w4 ⟨H,v4,ps,rfl,h4,k4,e4⟩;obtain ⟨a4,c4,rfl,a1,a5⟩:=h4.form)
   | (go_at_call 150;go_split_ands;refine (I _ ps _ h4 k4 e4 (BA.ra (by assumption))).mono ?_;rintro e w5 ⟨jS,rfl⟩))
 rename_i T;obtain ⟨o1,o2,p⟩:=T;have h5:=p.keep _ _ E;have U:=M rs k3 R;clear M J I o1 o2
 go_wp2_with (first
  | (go_at_call 226;with_reducible refine (uC _).mono ?_;rintro e w7 ⟨l,v7,rfl,h7⟩;obtain ⟨a7,c7,rfl,-,-⟩:=h7.form;have g7:=h5.below l)
  | (go_at_call 185;refine (nY (.slice a3 rs.length c3) (.slice a7 1 c7) rs [1] _ g7 h7 k3.1 (rP (by decide) (by decide)).1 U (by simp)).mono ?_;rintro e w8 ⟨t,v8,f,rfl,h8,k8,e8⟩;obtain ⟨y,z,rfl,-,-⟩:=h8.form)
  | (go_at_call 184;with_reducible refine (dK _ _ _ _ _).mono ?_;rintro e w6 ⟨Z,rfl⟩;have g:=((p.res.below l).below t).below Z;have q1:=g.cell 0;have q2:=g.cell 1;have q3:=g.frozen 0;have q4:=g.frozen 1;have h6:=h8.below Z;simp only [Qc,Qe] at q1 q2))
 obtain ⟨s1,s2⟩:=bA (b:=w.heap.size+1) q1 q2 (.bool (decide (0<f.length))) (.slice y f.length z);have u:=bf (b:=w.heap.size+1) h6 q1 q2 (.bool (decide (0<f.length))) (.slice y f.length z)
 have b6:=(p.below.trans (l.mono p.below.size))
 have C:=b6.trans (t.mono b6.size);have Q:=C.trans (Z.mono C.size);have b7:bW w ((w6.setCell ⟨w.heap.size+1,0,none⟩ (.bool (decide (0<f.length)))).setCell ⟨w.heap.size+1,1,none⟩ (.slice y f.length z)):=(Q.setCell (by simp) _).setCell (by simp) _
 have hI:ak ((w6.setCell ⟨w.heap.size+1,0,none⟩ (.bool (decide (0<f.length)))).setCell ⟨w.heap.size+1,1,none⟩ (.slice y f.length z)) (vN (decide (0<f.length)) y f.length z) (-((r:Int)+1)):=by
  have:=dm true u k8 (i:=-((r:Int)+1)) (by rw [e8,R];simp [bX,val])
  rwa [Jn] at this
 refine bodyPost_ret (v:=vN (decide (0<f.length)) y f.length z) (by simp [results,results200,go_sem,loadCellsFrom,s1,s2]) rfl ⟨b7,_,rfl,hI⟩
theorem KH (B:Nat)(na:Bool)(b:Option Addr)(c:Nat)(a:List Nat)(n:Int)(w:World)(l:af w B 24 (lN na b a.length c))(f:af w (B+1) 3 [vI n])
  (ha:Reads .u32 w (.slice b a.length c) a) (d:Limbs a) (h:¬(au na a=true∧1≤n∧n≤100)) :
  Calls prog 199 #[vP B,vP (B+1),vP (B+2)] w fun e r=>bW w r∧e=pK 1:=by
 obtain ⟨s,t⟩:=aQ l;have n0:=mI f;have g:=af.new w 24 (lN na b a.length c);have i:=dJ w (.cells #[.bool na,.slice b a.length c] 24)
 cases fa:au na a with
 | false =>
  clear h;go_enter func199,ntmps199
  go_wp2_with (go_at_call 182;refine (tH _ na b c a _ g (ha.below i) d fa).mono ?_;rintro e w1 ⟨k,rfl⟩;have j:=i.trans (k.mono (by simp)))
  exact ⟨rfl,j,rfl⟩
 | true =>
  have m:¬(1≤n∧n≤100):=fun p=>h ⟨fa,p⟩
  have o:=Qa m;clear m h;go_enter func199,ntmps199
  go_wp2_with (first | (go_at_call 182;refine (gV _ na b c a _ g (ha.below i) d fa).mono ?_;rintro e w1 ⟨k,rfl⟩;have j:=i.trans (k.mono (by simp));have q:=(f.below j).cell 0;simp only [Qc] at q) | (go_at_call 106;refine (bD _ _ _ (by first | rfl | (have:=o.out;simp;omega))).mono ?_;rintro e u ⟨rfl,rfl⟩))
  all_goals exact ⟨rfl,j,rfl⟩
theorem EF (z:Value)(na:Bool)(a:List Nat)(n:Int)(w:World)(ha:dx w z na a)(b:a.length≤60) :
 CB 160 #[z,vI n] w fun e V=>∃ F A E C k,e=.returned (.tuple #[vN F A E C,vI k])∧uG (au na a) n (bX na (val a)) k V (vN F A E C):=by
 by_cases M:au na a=true∧1≤n∧n≤100
 ·obtain ⟨o,h1,d⟩:=M
  have u:Limbs a:=by obtain ⟨_,_,_,u⟩:=ha;exact u
  obtain ⟨t,hx⟩:=lJ u o
  have c:na=true↔bX na (val a)<0:=by
   cases na with
   | false=>simp [bX]
   | true =>
    have G:a.length≠0:=by
     intro h0;simp [au,h0] at o
    have:=(dn t).2 (by omega);simp [bX];omega
  rw [o]
  by_cases l:na=true∧n % 2=0
  ·obtain ⟨rfl,l⟩:=l
   refine (Gq z a n w ha o h1 d (by rw [Zv (by omega)];exact l)).mono ?_;rintro e V ⟨q,rfl⟩;refine ⟨q,false,none,0,0,5,rfl,?_⟩;unfold uG;rw [if_pos ⟨rfl,h1,d⟩,if_pos ⟨c.1 rfl,l⟩];exact ⟨rfl,rfl⟩
  ·obtain ⟨m,rfl⟩:∃ m:Nat,n=(m:Int)+1:=⟨(n - 1).toNat,by omega⟩
   have D:m<100:=by omega
   obtain ⟨s,hs⟩:=Gz (val a) (show m+1≠0 by omega);have J:=uQ wu (show 70≤40000 by decide);have H:mf 60 70:=yh (wM 70) (by decide) (by decide)
   have f:2^(m+1)*val a<aj^70:=by
    have G:=(bS t 60).1 b
    have Z:2^(m+1)≤aj^10:=by rw [gX];exact Ql (by decide) (by omega)
    rw [show aj^70=aj^10*aj^60 by rw [← Qt]];exact Qr (Ja _ Z) (Nat.mul_lt_mul_of_pos_left G (Qq aP))
   have x:na=false∨((m:Int)+1).tmod 2=1:=by
    cases na with
    | false=>exact .inl rfl
    | true =>
     refine .inr ?_
     have G:¬((m:Int)+1) % 2=0:=fun h=>l ⟨rfl,h⟩
     rw [Zv (by omega)];omega
   obtain ⟨R,U⟩:∃ R,FC (bX na (val a)) (m+1) R:=⟨_,s,by rw [bM];exact hs,rfl⟩
   refine (LH z na a m w ha o D x R (fun W L=>?_)).mono ?_
   ·obtain ⟨j,rfl,g,-⟩:=ha
    obtain ⟨s',y,rfl⟩:=U;rw [bM] at y ⊢;obtain rfl:=mG hs y
    cases na with
    | false =>
     rw [if_neg (fun h=>by have:=c.2 h;cases this)];refine (zi 70 60 m J H (by decide) (by decide) (by decide) D j a W (g.below L) t b f).mono ?_;rintro e W' ⟨q,v,s2,rfl,p,I⟩;rw [mG I hs] at p;exact ⟨q,v,rfl,p⟩
    | true =>
     rw [if_pos (c.1 rfl)]
     by_cases r:s^(m+1)=val a
     ·rw [if_pos r]
      exact xk 70 60 m J H (by decide) (by decide) (by decide) D j a s W (g.below L) t b f r
     ·rw [if_neg r]
      have N:s^(m+1)<val a:=Nat.lt_of_le_of_ne hs.1 r;exact yN 70 60 m J H (by decide) (by decide) (by decide) D j a s W (g.below L) t b f hs N
   ·rintro e W ⟨q,v,rfl,p⟩
    obtain ⟨F,A,E,C,rfl⟩:=p.shape;refine ⟨q,F,A,E,C,0,rfl,?_⟩;unfold uG;rw [if_pos ⟨rfl,h1,d⟩,if_neg (fun h=>l ⟨c.2 h.1,h.2⟩)];exact ⟨rfl,R,p,by rw [show ((m:Int)+1).toNat=m+1 by omega];exact U⟩
 ·refine (Aq z na a n w ha (fun k W v=>k=1∧v=eQ) (fun _ _ _ _ h _=>h) ?_).mono ?_
  ·intro B X Y T a0 g Q S O r
   obtain ⟨j,a1,_,u⟩:=ha;refine (KH B na X Y a n T g Q O u M).mono ?_;rintro e W ⟨i,rfl⟩;exact ⟨1,.inr rfl,(dF.refl _ T).aU i,false,none,0,0,S.below i,rfl,rfl⟩
  ·rintro e W ⟨i,r0,k,rfl,rfl,rfl⟩
   refine ⟨i,false,none,0,0,1,rfl,?_⟩;unfold uG;rw [if_neg M];exact ⟨rfl,rfl⟩
theorem KJ (b:Value)(i:Int)(w:World)(ha:ak w b i)(h0:0≤i)(hi:i.natAbs<aj^60) :
 CB 160 #[b,vI 2] w fun e m=>∃ v,∃ r:Nat,e=.returned (.tuple #[v,vI 0])∧ak m v (r:Int)∧fD i.natAbs 2 r:=by
 obtain ⟨na,f,j,g,d,l,-⟩:=ha.at (Qf hi (Ql aP (by decide)));have hlen:f.length≤60:=(bS l 60).2 (by rw [d,bM] at hi;exact hi);refine (EF b na f 2 w j hlen).mono ?_;rintro e t ⟨h1,q,n,p,o,k,rfl,a⟩;unfold uG at a;rw [if_pos ⟨g,by decide,by decide⟩,← d,if_neg (fun h=>absurd h.1 (by omega))] at a;obtain ⟨rfl,r,c,s,hs,rfl⟩:=a;rw [if_neg (by omega)] at c;exact ⟨h1,_,s,rfl,c,hs⟩
end Go.Proofs.YtagjhmodblifbaaGreatDoor
