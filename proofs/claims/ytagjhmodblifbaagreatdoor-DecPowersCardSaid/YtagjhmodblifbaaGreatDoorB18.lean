/- proved lemmas -/
import Derived.Test.YtagjhmodblifbaaGreatDoorMA
import Derived.Test.YtagjhmodblifbaaGreatDoorB00
import Derived.Test.YtagjhmodblifbaaGreatDoorB17
import Derived.Test.YtagjhmodblifbaaGreatDoorB15
import Derived.Test.YtagjhmodblifbaaGreatDoorB10
import Derived.Test.YtagjhmodblifbaaGreatDoorB16
import Derived.Test.YtagjhmodblifbaaGreatDoorB12
import Derived.Test.YtagjhmodblifbaaGreatDoorB04
import Derived.Test.YtagjhmodblifbaaGreatDoorB08
import Derived.Test.YtagjhmodblifbaaGreatDoorB11
set_option maxHeartbeats 4000000
set_option maxRecDepth 100000
set_option exponentiation.threshold 100000
namespace Go.Proofs.YtagjhmodblifbaaGreatDoor
open Go.Proofs.Tryz
open Go Go.RowKit Go.Shelf
theorem EG {s r:Nat}(h:fD s 2 r){K:Nat}(hs:s<K):r*r<K:=by
 have h1:=h.1;rw [Qo,Yf] at h1;omega
theorem ui {s r:Nat}(h:fD s 2 r)(hs:s<aj^60):r<aj^30:=by
 rcases QK r (aj^30) with h1 | h1
 ·exact h1
 ·exfalso
  have a:aj^30*aj^30≤r*r:=JI h1 h1;rw [← Qt,show 30+30=60 from rfl] at a;have:=EG h hs;omega
theorem xm (va:Value)(s:Int)(w:World)(h:ak w va s)(h0:0≤s)(hs:s.natAbs<aj^60) :
 CB 107 #[va] w fun e w'=>∃ v,∃ r:Nat,e=.returned v∧fD s.natAbs 2 r∧ak w' v (wF s (r:Int)):=by
 have kR:=fun X (hX:bW w X)=>KJ va s X (h.below hX) h0 hs
 obtain ⟨N,L,m1,M,rfl⟩:=h.shape;obtain ⟨W0,hW,b0,q1,qr⟩:=yP w 24 (lN N L m1 M) 24 (lN false none 0 0);have dH:=fC (R:=bJ _) (ax q1 aS) ⟨_,_,_,_,qr⟩ b0;obtain ⟨d0,d1⟩:=aQ q1;have HB:=Qa (And.intro h (And.intro h0 hs));have aa:w.heap.size+1<W0.heap.size:=qr.lt;clear h h0 hs q1 qr b0;go_enter func107,ntmps107
 go_upto_region 1 with (fail)
 rw [hW.out];clear hW
 go_cut [3] from 5 to 9 (fun v3 W=>∃ r:Nat,fD s.natAbs 2 r∧kJ W v3 (r:Int)∧fI w W0 (bJ (w.heap.size+1)) [(w.heap.size,24,(lN N L m1 M))] W)
 case first =>
  go_wp2_with (first | (go_at_call 160;refine (kR _ dH.below).mono ?_;rintro e w1 ⟨ad,v5,r,rfl,z,hr⟩) | (go_at_call 152;refine (eZ _ _ _ z).mono ?_;rintro e w2 ⟨ah,v6,rfl,o⟩;obtain ⟨g,a,m,c,rfl⟩:=o.shape))
  go_meet
  have o1:=dJ w2 (.cells #[.bool g,.slice a m c] 24);exact ⟨r,hr,⟨_,_,_,_,_,rfl,af.new w2 24 (lN g a m c),o.below o1⟩,ag bJ.step (ag bJ.step (ag bJ.step dH ad) ah) o1⟩
 case rest =>
  obtain ⟨r,hr,⟨I,H,E,m3,F,rfl,r3,i3⟩,C⟩:=hcut;clear kR d0 d1 dH;have ab:=ui hr HB.out.2.2
  have J:((r:Nat):Int).natAbs<aj^30:=by rw [QQ];exact ab
  have o9:(1:Int).natAbs<aj^30:=Qf (show 1<aj^1 by decide) (Ql aP (by decide));have V:=xu J o9;have a2:=jb J V
  obtain ⟨x,hx⟩:∃ x:Int,(r:Int)=x:=⟨_,rfl⟩
  rw [hx] at i3 J V a2
  have kO:=fun X=>of_int 1 X (by decide) (by decide)
  have kA:=fun (X:World) v v' (hv:ak X v x) (Y:ak X v' 1)=>uD v v' x 1 X hv Y (az J (by decide)) (az o9 (by decide)) (az V (by decide))
  have kM:=fun (X:World) v v' (hv:ak X v x) (Y:ak X v' (x+1))=>uE v v' x (x+1) X hv Y (az J (by decide)) (az V (by decide)) (az a2 (by decide))
  have kC:=fun (X:World) v v' (hv:ak X v (x*(x+1))) (Y:ak X v' s)=>wL v v' _ s X hv Y (az a2 (by decide)) (az HB.out.2.2 (by decide))
  have i:wF s x=if x*(x+1)<s then x+1 else x:=rfl
  obtain ⟨G,hG⟩:∃ G,wF s x=G:=⟨_,rfl⟩
  rw [hG] at i
  obtain ⟨cc,a6⟩:∃ cc,dS (x*(x+1)) s=cc:=⟨_,rfl⟩
  rw [a6] at kC
  have a5:(x*(x+1)<s)↔cc<0:=by rw [← a6];exact Bj.symm
  simp only [a5] at i;generalize x*(x+1)=xx at *;generalize x+1=y at *;have HH:=Qa (And.intro i (And.intro hG (And.intro hx hr)));clear i hG hx hr a6 a5 J o9 V a2 ab
  have D:Hid ((∀ r ∈ ([(I,24,(lN H E m3 F)),(w.heap.size,24,(lN N L m1 M))]:List (Nat × TypeId × List Value)),r.1<wc.heap.size)∧w.heap.size≤wc.heap.size∧w.heap.size+1<wc.heap.size):=Qa ⟨fK r3.lt (fK C.r0.lt nA),C.below.size,Qf aa C.size⟩
  have n:Hid (∀ X,fI w wc (bJ (w.heap.size+1)) [(I,24,(lN H E m3 F)),(w.heap.size,24,(lN N L m1 M))] X→(X.cell? ⟨I,0,none⟩=some (.bool H)∧X.cell? ⟨I,1,none⟩=some (.slice E m3 F))∧fI w wc (bJ (w.heap.size+1)) [(I,24,(lN H E m3 F)),(w.heap.size,24,(lN N L m1 M))] X):=Qa fun X h=>⟨⟨h.r0.cell 0,h.r0.cell 1⟩,h⟩
  have a8:fI w wc (bJ (w.heap.size+1)) [(I,24,(lN H E m3 F)),(w.heap.size,24,(lN N L m1 M))] wc:=⟨ax r3 (ax C.r0 aS),C.res,C.below,fun _ _ h=>h,Qb _⟩
  clear C r3 aa
  go_upto_region 2 with (fail)
  go_cut [4] from 10 to 15 (fun v4 W=>kJ W v4 y∧fI w wc (bJ (w.heap.size+1)) [(I,24,(lN H E m3 F)),(w.heap.size,24,(lN N L m1 M))] W)
  case first =>
   obtain ⟨D,fe,a0⟩:=D.out
   go_wp2_with fail
   refine bB n (bY bJ.drew a8) fun X0 d=>?_
   refine tk 0 d ?_;refine ql 1 6 (fun j f=>?_) (fun j f=>?_)
   ·have hP:=d.2
    go_wp2_with (go_at_call 143;refine (kO _).mono ?_;rintro e Z ⟨b,v5,rfl,z⟩)
    refine aT f n (ag bJ.step hP b) fun d=>?_
    clear f j hP b;refine ql 2 6 (fun j f=>?_) (fun j f=>?_)
    ·have hP:=d.2
     go_wp2_with (go_at_call 70;refine (kA _ _ _ (i3.keep hP.more) z).mono ?_;rintro e Z ⟨b,v6,rfl,o⟩)
     replace z:=z.below b
     refine aT f n (ag bJ.step hP b) fun d=>?_
     clear f j hP b;refine tk 3 d ?_;refine tk 4 d ?_;refine ql 5 6 (fun j f=>?_) (fun j f=>?_)
     ·have hP:=d.2
      go_wp2_with (go_at_call 152;refine (eZ _ _ _ o).mono ?_;rintro e Z ⟨b,v7,rfl,q⟩)
      replace o:=o.below b;obtain ⟨g,a,m,c,rfl⟩:=q.shape
      refine aT f n (ag bJ.step hP b) fun d=>?_
      clear f j hP b
      refine rd 6 fun j f=>?_
      have hP:=d.2;obtain ⟨V9,U,k,B,l⟩:=aL hP 24 (lN false none 0 0)
      go_wp2_with fail
      rw [U.out];clear U;replace q:=q.below l
      refine aT f n (ag bJ.step hP l) fun d=>?_
      clear f j hP l
      refine rd 7 fun j f=>?_
      have hP:=d.2;obtain ⟨y0,y1,f0,f1⟩:=av k;obtain ⟨V8,T,Q,O,S,cO⟩:=ay hP (bJ.other (Qg (Qf a0 B))) (bP D B) (Qd fe B) k (.bool g) (.slice a m c)
      go_wp2_with fail
      rw [T.out];replace q:=q.keep O;replace k:=S
      refine aT f n Q fun d=>?_
      clear f j hP Q T O S cO y0 y1 f0 f1;refine wpAnyH_done (by kernel_rfl) ?_ _;go_wp2
      go_meet
      exact ⟨⟨_,_,_,_,_,rfl,k,q⟩,d.2⟩
     have hP:=d.2;obtain ⟨V9,U,k,B,l⟩:=aL hP 24 (lN false none 0 0)
     go_wp2_with fail
     rw [U.out];clear U;replace o:=o.below l
     refine aT f n (ag bJ.step hP l) fun d=>?_
     clear f j hP l
     refine rd 5 fun j f=>?_
     have hP:=d.2
     go_wp2_with (go_at_call 152;refine (eZ _ _ _ o).mono ?_;rintro e Z ⟨b,v7,rfl,q⟩)
     replace o:=o.below b;replace k:=k.below b;obtain ⟨g,a,m,c,rfl⟩:=q.shape
     refine aT f n (ag bJ.step hP b) fun d=>?_
     clear f j hP b
     refine rd 7 fun j f=>?_
     have hP:=d.2;obtain ⟨y0,y1,f0,f1⟩:=av k;obtain ⟨V8,T,Q,O,S,cO⟩:=ay hP (bJ.other (Qg (Qf a0 B))) (bP D B) (Qd fe B) k (.bool g) (.slice a m c)
     go_wp2_with fail
     rw [T.out];replace q:=q.keep O;replace k:=S
     refine aT f n Q fun d=>?_
     clear f j hP Q T O S cO y0 y1 f0 f1;refine wpAnyH_done (by kernel_rfl) ?_ _;go_wp2
     go_meet
     exact ⟨⟨_,_,_,_,_,rfl,k,q⟩,d.2⟩
    have hP:=d.2;obtain ⟨V9,U,k,B,l⟩:=aL hP 24 (lN false none 0 0)
    go_wp2_with fail
    rw [U.out];clear U;replace z:=z.below l
    refine aT f n (ag bJ.step hP l) fun d=>?_
    clear f j hP l
    refine rd 2 fun j f=>?_
    have hP:=d.2
    go_wp2_with (go_at_call 70;refine (kA _ _ _ (i3.keep hP.more) z).mono ?_;rintro e Z ⟨b,v6,rfl,o⟩)
    replace z:=z.below b;replace k:=k.below b
    refine aT f n (ag bJ.step hP b) fun d=>?_
    clear f j hP b;refine tk 3 d ?_;refine tk 4 d ?_
    refine rd 5 fun j f=>?_
    have hP:=d.2
    go_wp2_with (go_at_call 152;refine (eZ _ _ _ o).mono ?_;rintro e Z ⟨b,v7,rfl,q⟩)
    replace k:=k.below b;replace o:=o.below b;obtain ⟨g,a,m,c,rfl⟩:=q.shape
    refine aT f n (ag bJ.step hP b) fun d=>?_
    clear f j hP b
    refine rd 7 fun j f=>?_
    have hP:=d.2;obtain ⟨y0,y1,f0,f1⟩:=av k;obtain ⟨V8,T,Q,O,S,cO⟩:=ay hP (bJ.other (Qg (Qf a0 B))) (bP D B) (Qd fe B) k (.bool g) (.slice a m c)
    go_wp2_with fail
    rw [T.out];replace q:=q.keep O;replace k:=S
    refine aT f n Q fun d=>?_
    clear f j hP Q T O S cO y0 y1 f0 f1;refine wpAnyH_done (by kernel_rfl) ?_ _;go_wp2
    go_meet
    exact ⟨⟨_,_,_,_,_,rfl,k,q⟩,d.2⟩
   have hP:=d.2;obtain ⟨V9,U,k,B,l⟩:=aL hP 24 (lN false none 0 0)
   go_wp2_with fail
   rw [U.out];clear U
   refine aT f n (ag bJ.step hP l) fun d=>?_
   clear f j hP l
   refine rd 1 fun j f=>?_
   have hP:=d.2
   go_wp2_with (go_at_call 143;refine (kO _).mono ?_;rintro e Z ⟨b,v5,rfl,z⟩)
   replace k:=k.below b
   refine aT f n (ag bJ.step hP b) fun d=>?_
   clear f j hP b
   refine rd 2 fun j f=>?_
   have hP:=d.2
   go_wp2_with (go_at_call 70;refine (kA _ _ _ (i3.keep hP.more) z).mono ?_;rintro e Z ⟨b,v6,rfl,o⟩)
   replace k:=k.below b;replace z:=z.below b
   refine aT f n (ag bJ.step hP b) fun d=>?_
   clear f j hP b;refine tk 3 d ?_;refine tk 4 d ?_
   refine rd 5 fun j f=>?_
   have hP:=d.2
   go_wp2_with (go_at_call 152;refine (eZ _ _ _ o).mono ?_;rintro e Z ⟨b,v7,rfl,q⟩)
   replace k:=k.below b;replace o:=o.below b;obtain ⟨g,a,m,c,rfl⟩:=q.shape
   refine aT f n (ag bJ.step hP b) fun d=>?_
   clear f j hP b
   refine rd 7 fun j f=>?_
   have hP:=d.2;obtain ⟨y0,y1,f0,f1⟩:=av k;obtain ⟨V8,T,Q,O,S,cO⟩:=ay hP (bJ.other (Qg (Qf a0 B))) (bP D B) (Qd fe B) k (.bool g) (.slice a m c)
   go_wp2_with fail
   rw [T.out];replace q:=q.keep O;replace k:=S
   refine aT f n Q fun d=>?_
   clear f j hP Q T O S cO y0 y1 f0 f1;refine wpAnyH_done (by kernel_rfl) ?_ _;go_wp2
   go_meet
   exact ⟨⟨_,_,_,_,_,rfl,k,q⟩,d.2⟩
  case rest =>
   obtain ⟨⟨b4,n4,a4,m4,c4,rfl,r4,i4⟩,A⟩:=hcut;have j3:=i3.keep A.more;clear n a8 D i3 kO kA;have al:=A.r0
   have n:Hid (∀ X,fI w wc (bJ (w.heap.size+1)) [(b4,24,(lN n4 a4 m4 c4)),(I,24,(lN H E m3 F)),(w.heap.size,24,(lN N L m1 M))] X→(X.cell? ⟨b4,0,none⟩=some (.bool n4)∧X.cell? ⟨b4,1,none⟩=some (.slice a4 m4 c4)∧X.cell? ⟨I,0,none⟩=some (.bool H)∧X.cell? ⟨I,1,none⟩=some (.slice E m3 F)∧X.cell? ⟨w.heap.size,0,none⟩=some (.bool N)∧X.cell? ⟨w.heap.size,1,none⟩=some (.slice L m1 M))∧fI w wc (bJ (w.heap.size+1)) [(b4,24,(lN n4 a4 m4 c4)),(I,24,(lN H E m3 F)),(w.heap.size,24,(lN N L m1 M))] X):=Qa fun X h=>⟨⟨h.r0.cell 0,h.r0.cell 1,h.r1.cell 0,h.r1.cell 1,h.r2.cell 0,h.r2.cell 1⟩,h⟩
   have a9:fI w wc (bJ (w.heap.size+1)) [(b4,24,(lN n4 a4 m4 c4)),(I,24,(lN H E m3 F)),(w.heap.size,24,(lN N L m1 M))] wc:=⟨ax r4 (ax A.r0 (ax A.r1 aS)),A.res,A.below,fun _ _ h=>h,Qb _⟩
   have j5:=HB.out.1.below A.below;clear al A r4
   obtain ⟨t,ht⟩:∃ t:Bool,decide (cc<0)=t:=⟨_,rfl⟩
   have HT:=Qa ht;clear ht
   go_upto_region 3 with (fail)
   go_cut [4,24] from 16 to 23 (fun v4 am W=>v4=vP b4∧am=.bool t∧fI w wc (bJ (w.heap.size+1)) [(b4,24,(lN n4 a4 m4 c4)),(I,24,(lN H E m3 F)),(w.heap.size,24,(lN N L m1 M))] W)
   case first =>
    go_wp2_with fail
    refine bB n (bY bJ.drew a9) fun X0 d=>?_
    refine tk 0 d ?_;refine tk 1 d ?_;refine tk 6 d ?_
    refine rd 2 fun j f=>?_
    have hP:=d.2
    go_wp2_with (go_at_call 156;refine (kM _ _ _ (j3.keep hP.more) (i4.keep hP.more)).mono ?_;rintro e Z ⟨b,v5,rfl,z⟩)
    refine aT f n (ag bJ.step hP b) fun d=>?_
    clear f j hP b;refine tk 3 d ?_;refine tk 4 d ?_
    refine rd 5 fun j f=>?_
    have hP:=d.2
    go_wp2_with (go_at_call 152;refine (eZ _ _ _ z).mono ?_;rintro e Z ⟨b,v6,rfl,o⟩)
    replace z:=z.below b
    refine aT f n (ag bJ.step hP b) fun d=>?_
    clear f j hP b
    refine rd 7 fun j f=>?_
    have hP:=d.2
    go_wp2_with (go_at_call 87;refine (kC _ _ _ o (j5.keep hP.more)).mono ?_;rintro e Z ⟨b,rfl⟩)
    replace o:=o.below b
    refine aT f n (ag bJ.step hP b) fun d=>?_
    clear f j hP b;refine tk 8 d ?_;refine wpAnyH_done (by kernel_rfl) ?_ _;go_wp2
    go_meet
    exact ⟨rfl,by rw [← HT.out],d.2⟩
   case rest =>
    obtain ⟨rfl,rfl,u⟩:=hcut;have k3:=j3.keep u.more;have k4:=i4.keep u.more;have x0:=u.r0.cell 0;have x1:=u.r0.cell 1;have x2:=u.r1.cell 0;have x3:=u.r1.cell 1;obtain ⟨z0,z1,gz,gB,hr,y0,y1,f0,f1⟩:=u.res.cells;simp only [Qc,Qe] at x0 x1 x2 x3;have ig:=u.below;clear kM kC n a9 j3 i4 j5 u;obtain ⟨i,hG,hx,a7⟩:=HH.out;subst hx;have HG:=Qa (And.intro hG a7)
    cases t with
    | false =>
     rw [if_neg (of_decide_eq_false HT.out)] at i;obtain ⟨u0,u1⟩:=eB hr (.bool H) (.slice E m3 F);have hO:=k3.keep (aV hr (.bool H) (.slice E m3 F));rw [← i] at hO;have HO:=Qa hO;clear hO i hG a7 k3 k4 HH HT
     go_wp2_with fail
     exact bodyPost_ret (v:=vN H E m3 F) (by simp [results,results107,go_sem,loadCellsFrom,u0,u1]) rfl ⟨(ig.setCell (p:=⟨w.heap.size+1,0,none⟩) (show w.heap.size≤w.heap.size+1 by omega) _).setCell (p:=⟨w.heap.size+1,1,none⟩) (show w.heap.size≤w.heap.size+1 by omega) _,_,_,rfl,HG.out.2,by rw [HG.out.1];exact HO.out⟩
    | true =>
     rw [if_pos (of_decide_eq_true HT.out)] at i;obtain ⟨u0,u1⟩:=eB hr (.bool n4) (.slice a4 m4 c4);have hO:=k4.keep (aV hr (.bool n4) (.slice a4 m4 c4));rw [← i] at hO;have HO:=Qa hO;clear hO i hG a7 k3 k4 HH HT
     go_wp2_with fail
     exact bodyPost_ret (v:=vN n4 a4 m4 c4) (by simp [results,results107,go_sem,loadCellsFrom,u0,u1]) rfl ⟨(ig.setCell (p:=⟨w.heap.size+1,0,none⟩) (show w.heap.size≤w.heap.size+1 by omega) _).setCell (p:=⟨w.heap.size+1,1,none⟩) (show w.heap.size≤w.heap.size+1 by omega) _,_,_,rfl,HG.out.2,by rw [HG.out.1];exact HO.out⟩
def isqK:Nat→Nat→Nat
 | 0,_=>0
 | k+1,s=>if s=0 then 0 else if (2*isqK k (s / 4)+1)*(2*isqK k (s / 4)+1)≤s then 2*isqK k (s / 4)+1 else 2*isqK k (s / 4)
def NH (s:Nat):Nat:=isqK s s
theorem zY:∀ k s:Nat,s≤k→fD s 2 (isqK k s)
 | 0,s,h=>by
  obtain rfl:s=0:=by omega
  exact ⟨by decide,by decide⟩
 | k+1,s,h=>by
  unfold isqK
  by_cases h0:s=0
  ·subst h0
   rw [if_pos rfl];exact ⟨by decide,by decide⟩
  ·rw [if_neg h0]
   obtain ⟨h1,b⟩:=zY k (s / 4) (by omega);generalize isqK k (s / 4)=r at *;rw [Yh] at h1 b
   have c:(2*r)*(2*r)=4*(r*r):=by rw [Xm]
   have d:(2*r+1+1)*(2*r+1+1)=4*((r+1)*(r+1)):=by rw [show 2*r+1+1=2*(r+1) by omega,Xm]
   by_cases a:(2*r+1)*(2*r+1)≤s
   ·rw [if_pos a]
    exact ⟨by rw [Yh];exact a,by rw [Yh];omega⟩
   ·rw [if_neg a]
    exact ⟨by rw [Yh];omega,by rw [Yh];omega⟩
theorem xR (s:Nat):fD s 2 (NH s):=zY s s (Qb _)
theorem Ip {s r:Nat}(h:fD s 2 r):NH s=r:=mG (xR s) h
def wG (x:Int × Nat):Int:=wF (x.1*((10^(40 - x.2):Nat):Int)) (NH (x.1*((10^(40 - x.2):Nat):Int)).natAbs:Nat)
def kW (x:Int × Nat):Int × Nat:=least (wG x) 20
theorem zZ {s:Int}{r:Nat}(h:r<aj^30):(wF s (r:Int)).natAbs<aj^31:=by
 have e:(wF s (r:Int)).natAbs≤r+1:=by
  unfold wF
  by_cases h:(r:Int)*(r+1)<s
  ·rw [if_pos h];omega
  ·rw [if_neg h];omega
 have a:aj^31=aj^30*4294967296:=rfl;have b:=Qq (n:=30) (show 0<aj by decide);generalize aj^30=Y at *;omega
theorem Aa:∀ (p:Nat) (i:Int),1≤p→(least i p).1.natAbs≤i.natAbs
 | 0,_,h=>by omega
 | 1,i,_=>by simp [least]
 | p+2,i,_=>by
  unfold least
  by_cases h:i % 10=0
  ·rw [if_pos h]
   have h1:=Aa (p+1) (i / 10) (by omega);omega
  ·rw [if_neg h]
   exact Qb _
theorem Ab {i:Int}{p:Nat}(hi:i.natAbs<aj^40):(kW (i,p)).1.natAbs<aj^40:=by
 unfold kW wG;refine Qr (Aa 20 _ (by decide)) (az (zZ (ui (xR _) ?_)) (by decide));exact az (iF hi (n:=40 - p) (by omega)) (by decide)
theorem CW (A:Nat){O:Bool}{C H:Option Addr}{m1 F G p:Nat}{i:Int}(w:World)(J:af w A 27 (lV 3 p O C m1 F ⟨#[]⟩ H 0 G))(h1:dB w (vV 3 p O C m1 F ⟨#[]⟩ H 0 G) i p)(x:¬i<0) :
 CB 105 #[vP A] w fun e w'=>∃ v,e=.returned v∧dX w' v (kW (i,p)).1 (kW (i,p)).2:=by
 obtain ⟨n9,a9,m9,c9,a0,a2,I,t⟩:=h1.shape;simp only [Value.agg.injEq,Array.mk.injEq,List.cons.injEq,Value.bool.injEq,Value.slice.injEq,and_true,true_and] at I;obtain ⟨rfl,⟨rfl,rfl,rfl⟩,rfl,rfl⟩:=I;have b:=tV t;rw [decide_eq_false x] at b;subst b;have Y:=h1.hi;have l:=h1.abs;have hf:=Ab (p:=p) l;have bs:=iF l (n:=40 - p) (by omega)
 have Q:0≤i*((10^(40 - p):Nat):Int):=Zm (Yb.1 x) (Zk _)
 have N:=fun X (U:bW w X)=>lU _ i (40 - p) X (t.below U) (by omega) (az l (by decide)) (az bs (by decide))
 have kN:=fun X v (z:ak X v (i*((10^(40 - p):Nat):Int)))=>xm v _ X z Q (az bs (by decide))
 have M:=fun X v (z:ak X v (wG (i,p)))=>mO v (wG (i,p)) 20 (kW (i,p)).1 (kW (i,p)).2 X z (by decide) (az (zZ (ui (xR _) (az bs (by decide)))) (by decide)) rfl hf
 have S:∀ r:Nat,fD (i*((10^(40 - p):Nat):Int)).natAbs 2 r→wF (i*((10^(40 - p):Nat):Int)) (r:Int)=wG (i,p):=fun r hr=>by unfold wG;rw [Ip hr]
 rw [show ((40 - p:Nat):Int)=40 - (p:Int) by omega] at N
 have Z:IntKind.i64.wrap (40 - (p:Int))=40 - (p:Int):=by rw [Qx];omega
 generalize kW (i,p)=rq at *;obtain ⟨r9,o⟩:=rq;simp only at M;generalize i*((10^(40 - p):Nat):Int)=s at *;generalize wG (i,p)=u at *;obtain ⟨W0,L,k,qr⟩:=qD w;have ra:=J.below k;obtain ⟨d0,d1,d2,d3,d4,d5⟩:=aD ra;clear ra;clear h1 J x t Y l hf bs Q;go_enter func105,ntmps105
 go_upto_region 1 with (fail)
 rw [L.out];clear L
 go_wp2_with (first | (go_at_call 83;refine (M _ _ d).mono ?_;rintro e w3 ⟨j,g,a,m,c,la,lc,rfl,T⟩;have B:=((qr.below f).below h).below j;obtain ⟨y0,y1,y2,y3,y4,y5,f0,f1,f2,f3,f4,f5⟩:=df B) | (go_at_call 107;refine (kN _ _ q).mono ?_;rintro e w2 ⟨h,v2,r2,rfl,y,d⟩;rw [S _ y] at d) | (go_at_call 108;refine (N _ k).mono ?_;rintro e w1 ⟨f,v1,rfl,q⟩) | (go_at_call 106;refine (aC _ _ _ (by rfl)).mono ?_;rintro e w9 ⟨rfl,rfl⟩))
 obtain ⟨u0,u1,u2,u3,u4,u5⟩:=dD B (vI 3) (vI o) (.bool g) (.slice a m c) vE (.slice la 0 lc);have D:=k.trans (f.mono k.size);have E:=D.trans (h.mono D.size);have R:=E.trans (j.mono E.size)
 have V:=((((((R.setCell (Qb _) (p:=⟨w.heap.size,0,none⟩) (vI 3)).setCell (Qb _) (p:=⟨w.heap.size,1,none⟩) (vI o)).setCell (Qb _) (p:=⟨w.heap.size,2,none⟩) (.bool g)).setCell (Qb _) (p:=⟨w.heap.size,3,none⟩) (.slice a m c)).setCell (Qb _) (p:=⟨w.heap.size,4,none⟩) vE).setCell (Qb _) (p:=⟨w.heap.size,5,none⟩) (.slice la 0 lc))
 exact bodyPost_ret (v:=vV 3 o g a m c ⟨#[]⟩ la 0 lc) (by simp [results,results105,go_sem,loadCellsFrom,u0,u1,u2,u3,u4,u5]) rfl ⟨V,_,rfl,g,a,m,c,la,lc,rfl,T.keep (bQ B (vI 3) (vI o) (.bool g) (.slice a m c) vE (.slice la 0 lc))⟩
theorem CX (A:Nat){n:Bool}{b g:Option Addr}{m1 d f p:Nat}{i:Int}(w:World)(j:af w A 27 (lV 3 p n b m1 d ⟨#[]⟩ g 0 f))(h1:dB w (vV 3 p n b m1 d ⟨#[]⟩ g 0 f) i p)(m:i<0) :
 CB 105 #[vP A] w fun e _=>e=pK 1:=by
 obtain ⟨D,s,C,t,o,q,h,k⟩:=h1.shape;simp only [Value.agg.injEq,Array.mk.injEq,List.cons.injEq,Value.bool.injEq,Value.slice.injEq,and_true,true_and] at h;obtain ⟨rfl,⟨rfl,rfl,rfl⟩,rfl,rfl⟩:=h;have a:=tV k;rw [decide_eq_true m] at a;subst a;obtain ⟨r,l,c,E⟩:=qD w;have ra:=j.below c;obtain ⟨u,v,x,y,z,B⟩:=aD ra;clear ra;clear h1 j m k;go_enter func105,ntmps105
 go_upto_region 1 with (fail)
 rw [l.out];clear l
 go_wp2_with (go_at_call 106;refine (bD _ _ _ (by rfl)).mono ?_;rintro e F ⟨rfl,rfl⟩)
 exact ⟨rfl,c,rfl⟩
theorem GN (va:Value)(y:Option (Int × Nat))(w:World)(h1:Fm w va y) :
  Calls prog 37 #[va] w fun e D=>bW w D∧∃ l o q r d f s t g j,∃ k:Int,e=.returned (.tuple #[vV l o q r d f s t g j,vI k])∧dG D (vg (fun x=>if x.1<0 then 1 else 0) y) (BB kW y) k (vV l o q r d f s t g j):=by
 obtain ⟨I,L,z,E,m1,F,A,H,J,G,rfl⟩:=h1.kY
 have U:∀ B b,bW w B→af B w.heap.size 27 (lV I L z E m1 F A H J G)→af B b 27 (lV I L z E m1 F A H J G)→Calls prog 88 #[.func (.func 105) #[] #[vP w.heap.size],.slice (some ⟨b,0,none⟩) 1 1] B fun e D=>bW B D∧∃ l o q r d f s t g j,∃ k:Int,e=.returned (.tuple #[vV l o q r d f s t g j,vI k])∧dG D (vg (fun x=>if x.1<0 then 1 else 0) y) (BB kW y) k (vV l o q r d f s t g j):=by
  intro B b Q r1 row;refine pE _ _ b 1 B (fun k W v=>dG W (vg (fun x=>if x.1<0 then 1 else 0) y) (BB kW y) k v) (fun _ _ _ _ h C=>h.keep C) (fun O h4 z g2 X=>?_)
  have hz:∀ K:Int,K≠0→(vg (fun x=>if x.1<0 then 1 else 0) y)=K→∀ W,bW O W→∃ k,(k=0∧pK K=.returned (.tuple #[])∨pK K=pK k)∧dF (fun i=>i=B.heap.size+1+1) O W∧∃ l o q r d f s t g j,af W (B.heap.size+1+1) 27 (lV l o q r d f s t g j)∧dG W (vg (fun x=>if x.1<0 then 1 else 0) y) (BB kW y) k (vV l o q r d f s t g j):=fun K hK C W u=>⟨K,.inr rfl,(dF.refl _ O).aU u,0,0,false,none,0,0,⟨#[]⟩,none,0,0,X.below u,by rw [C];exact jX hK⟩
  have ja:=row.below h4;have A:=r1.below h4;have M:=h1.below (Q.trans (h4.mono Q.size))
  cases y with
  | none =>
   refine (tZ B.heap.size b 105 #[vP w.heap.size] O z g2 X ja M).mono ?_;rintro e W ⟨u,rfl⟩;exact hz 2 (by decide) rfl W u
  | some x =>
   have M:dB O _ x.1 x.2:=M;obtain ⟨n5,a5,m5,c5,a6,a7,e1,-⟩:=M.shape;simp only [Value.agg.injEq,Array.mk.injEq,List.cons.injEq,Value.int.injEq,Value.bool.injEq,Value.slice.injEq,Value.string.injEq,and_true,true_and] at e1;obtain ⟨rfl,rfl,rfl,⟨rfl,rfl,rfl⟩,rfl,rfl,rfl,rfl⟩:=e1
   by_cases C:x.1<0
   ·refine (lW B.heap.size b 105 #[vP w.heap.size] O z g2 X ja M (fun W=>by simp [go_sem]) 1 (fun W u=>CX _ W (A.below u) (M.below u) C)).mono ?_
    rintro e W ⟨u,rfl⟩;exact hz 1 (by decide) (if_pos C) W u
   have a3:(if x.1<0 then (1:Int) else 0)=0:=if_neg C;refine (tY B.heap.size b 105 #[vP w.heap.size] O z g2 X ja M (fun W v=>dX W v (kW x).1 (kW x).2) (fun _ _ _ h C=>h.keep C) (fun W v h=>?_) (fun W=>by simp [go_sem]) (fun W u=>CW _ W (A.below u) (M.below u) C)).mono ?_
   ·obtain ⟨n,a,m,c,la,lc,rfl,-⟩:=h
    exact ⟨_,_,_,_,_,_,_,_,_,_,rfl⟩
   ·rintro e W ⟨rfl,hC,l,o,q,r,d,f,s,t,g,j,hr,hD⟩
    refine ⟨0,.inl ⟨rfl,rfl⟩,hC,l,o,q,r,d,f,s,t,g,j,hr,?_⟩;refine jY a3 ?_
    show dP W (kW x).1 (kW x).2 0 _
    unfold dP;rw [if_pos (Ab (p:=x.2) M.abs)];exact ⟨rfl,hD⟩
 obtain ⟨N,u,V,Z,qr⟩:=vk w 27 (lV I L z E m1 F A H J G);have dH:=fC (R:=bI _) (ax Z aS) ⟨_,_,_,_,_,_,_,_,_,_,qr⟩ V;obtain ⟨d0,d1,d2,d3,d4,d5⟩:=aD Z;have b5:=V.alloc V.size (.cells #[vI I,vI L,.bool z,.slice E m1 F,.string A,.slice H J G] 27);have gY:=U _ N.heap.size b5 (Z.alloc _) (af.new N 27 (lV I L z E m1 F A H J G));have uZ:=lK
 obtain ⟨R,Y⟩:∃ R:World→Int→Value→Prop,R=fun W k v=>dG W (vg (fun x=>if x.1<0 then 1 else 0) y) (BB kW y) k v:=⟨_,rfl⟩
 have a0:∀ W W' k v,R W k v→(∀ v xs,Reads .u32 W v xs→Reads .u32 W' v xs)→R W' k v:=by
  rw [Y]
  exact fun _ _ _ _ h C=>h.keep C
 replace gY:Calls prog 88 #[.func (.func 105) #[] #[vP w.heap.size],.slice (some ⟨N.heap.size,0,none⟩) 1 1] (N.alloc (.cells ((lV I L z E m1 F A H J G):List Value).toArray 27)) fun e D=>Below (N.alloc (.cells ((lV I L z E m1 F A H J G):List Value).toArray 27)).heap.size (N.alloc (.cells ((lV I L z E m1 F A H J G):List Value).toArray 27)) D∧∃ l o q r d f s t g j,∃ k:Int,e=.returned (.tuple #[vV l o q r d f s t g j,vI k])∧R D k (vV l o q r d f s t g j):=by
  refine gY.mono ?_;rintro e w9 ⟨Q,l,o,q,r,d,f,s,t,g,j,k,he,hr⟩;rw [Y];exact ⟨Q,l,o,q,r,d,f,s,t,g,j,k,he,hr⟩
 suffices main:Calls prog 37 #[vV I L z E m1 F A H J G] w fun e D=>bW w D∧∃ l o q r d f s t g j,∃ k:Int,e=.returned (.tuple #[vV l o q r d f s t g j,vI k])∧R D k (vV l o q r d f s t g j) by
  refine main.mono ?_;rintro e w9 ⟨Q,l,o,q,r,d,f,s,t,g,j,k,he,hr⟩;rw [Y] at hr;exact ⟨Q,l,o,q,r,d,f,s,t,g,j,k,he,hr⟩
 have a4:fI w N (bI (w.heap.size+1)) [(w.heap.size,27,(lV I L z E m1 F A H J G))] N:=dH;clear U Y h1 V Z dH;go_enter func37,ntmps37
 go_upto_region 1 with (fail)
 rw [u.out];clear u
 go_wp2_with (refine gY.mono ?_;rintro e w3 ⟨S,l,o,q,r,d,f,s,t,g,j,k,rfl,T⟩;have b6:=b5.trans (S.mono b5.size);have q3:=(qr.alloc _).below S;obtain ⟨y0,y1,y2,y3,y4,y5,f0,y,f2,f3,f4,f5⟩:=df q3)
 obtain ⟨u0,u1,u2,u3,u4,u5⟩:=dD q3 (vI l) (vI o) (.bool q) (.slice r d f) (.string s) (.slice t g j)
 have a2:=((((((b6.setCell (show w.heap.size≤w.heap.size+1 by omega) (p:=⟨w.heap.size+1,0,none⟩) (vI l)).setCell (show w.heap.size≤w.heap.size+1 by omega) (p:=⟨w.heap.size+1,1,none⟩) (vI o)).setCell (show w.heap.size≤w.heap.size+1 by omega) (p:=⟨w.heap.size+1,2,none⟩) (.bool q)).setCell (show w.heap.size≤w.heap.size+1 by omega) (p:=⟨w.heap.size+1,3,none⟩) (.slice r d f)).setCell (show w.heap.size≤w.heap.size+1 by omega) (p:=⟨w.heap.size+1,4,none⟩) (.string s)).setCell (show w.heap.size≤w.heap.size+1 by omega) (p:=⟨w.heap.size+1,5,none⟩) (.slice t g j))
 exact bodyPost_ret (v:=.tuple #[vV l o q r d f s t g j,vI k]) (by simp [results,results37,go_sem,loadCellsFrom,u0,u1,u2,u3,u4,u5]) rfl ⟨a2,l,o,q,r,d,f,s,t,g,j,k,rfl,a0 _ _ _ _ T (bQ q3 (vI l) (vI o) (.bool q) (.slice r d f) (.string s) (.slice t g j))⟩
def jU (k:Int)(x:Int × Nat):Int × Nat:=least (fB x.1 1 (x.2:Int) k.toNat) k.toNat
theorem yC (p:Value)(x y b:Int)(w:World)(hf:eu w p x y b) :
 CB 112 #[p] w fun e E=>∃ v,e=.returned v∧eu E v x y b:=by
 obtain ⟨g,c,f,j,h,d,a,k,rfl,r,q⟩:=hf;obtain ⟨F,o,l,m,i⟩:=yP w 127 (lR g c f j h d a k b) 127 (lR false none 0 0 false none 0 0 0);have n:=fC (R:=aX _) (ax m aS) ⟨_,_,_,_,_,_,_,_,_,i⟩ l;obtain ⟨G,H,I,J,L⟩:=Iq m;obtain ⟨T,U,V,X,Y,M,N,O,Q,S⟩:=dE i;obtain ⟨z,A,B,C,D⟩:=eD i (.bool g) (.slice c f j) (.bool h) (.slice d a k) (vI b)
 have u:=(r.below l).keep (bK i (.bool g) (.slice c f j) (.bool h) (.slice d a k) (vI b));have t:=(q.below l).keep (bK i (.bool g) (.slice c f j) (.bool h) (.slice d a k) (vI b));have s:=(dO n (aZ (by omega) dV) (by omega) g c f j h d a k b).below;clear n m i l;go_enter func112,ntmps112
 go_upto_region 1 with (fail)
 rw [o.out];clear o
 go_wp2_with fail
 exact bodyPost_ret (v:=vR g c f j h d a k b) (by simp [results,results112,go_sem,loadCellsFrom,z,A,B,C,D]) rfl ⟨s,_,rfl,_,_,_,_,_,_,_,_,rfl,u,t⟩
theorem Bt (C A:Nat){D:Bool}{t y:Option Addr}{m1 u x p:Nat}{i k:Int}{r:Int}{b:Nat}(w:World)(l:af w C 3 [vI k])(z:af w A 27 (lV 3 p D t m1 u ⟨#[]⟩ y 0 x))(h1:dB w (vV 3 p D t m1 u ⟨#[]⟩ y 0 x) i p)(q:0≤k∧k≤20)(n:jU k (i,p)=(r,b))(hf:r.natAbs<aj^40) :
 CB 111 #[vP C,vP A] w fun e V=>∃ v,e=.returned v∧dX V v r b:=by
 obtain ⟨j,rfl⟩:∃ j:Nat,k=(j:Int):=⟨k.toNat,by omega⟩
 have h:j≤20:=by omega
 have H:=h1.hi;have o:=h1.abs;unfold jU at n;simp only [QP] at n
 have L:=fun X (F:bW w X)=>uk _ i p i 1 (p:Int) j r b X (h1.below F) (fun W v _ I=>yC v i 1 (p:Int) W I) h (by omega) (az o (by decide)) (az oD (by decide)) (by decide) (az (jb o (qm (by omega))) (by decide)) (by rw [QY];exact az (qm (by omega)) (by decide)) n hf
 have J:=fun X=>zR (j:Int) X q.1 q.2
 obtain ⟨Y,B,d,M⟩:=qD w;have N:=(l.below d).cell 0;simp only [Qc] at N;have ra:=z.below d;obtain ⟨Z,d1,d2,d3,d4,d5⟩:=aD ra;clear ra;clear h1 z l q H o n hf;go_enter func111,ntmps111
 go_upto_region 1 with (fail)
 rw [B.out];clear B
 go_wp2_with (first | (go_at_call 82;refine (J _).mono ?_;rintro e w9 ⟨rfl,rfl⟩) | (go_at_call 98;refine (L _ d).mono ?_;rintro e w1 ⟨f,g,a,m,c,la,lc,rfl,l⟩;have s:=M.below f;obtain ⟨y0,y1,y2,y3,y4,y5,f0,f1,f2,f3,f4,f5⟩:=df s))
 obtain ⟨O,Q,R,S,T,U⟩:=dD s (vI 3) (vI b) (.bool g) (.slice a m c) vE (.slice la 0 lc);have E:=d.trans (f.mono d.size)
 have G:=((((((E.setCell (Qb _) (p:=⟨w.heap.size,0,none⟩) (vI 3)).setCell (Qb _) (p:=⟨w.heap.size,1,none⟩) (vI b)).setCell (Qb _) (p:=⟨w.heap.size,2,none⟩) (.bool g)).setCell (Qb _) (p:=⟨w.heap.size,3,none⟩) (.slice a m c)).setCell (Qb _) (p:=⟨w.heap.size,4,none⟩) vE).setCell (Qb _) (p:=⟨w.heap.size,5,none⟩) (.slice la 0 lc))
 exact bodyPost_ret (v:=vV 3 b g a m c ⟨#[]⟩ la 0 lc) (by simp [results,results111,go_sem,loadCellsFrom,O,Q,R,S,T,U]) rfl ⟨G,_,rfl,g,a,m,c,la,lc,rfl,l.keep (bQ s (vI 3) (vI b) (.bool g) (.slice a m c) vE (.slice la 0 lc))⟩
theorem zt (C A:Nat){r:Bool}{h m:Option Addr}{m1 j l p:Nat}{i k:Int}(w:World)(o:af w C 3 [vI k])(n:af w A 27 (lV 3 p r h m1 j ⟨#[]⟩ m 0 l))(h1:dB w (vV 3 p r h m1 j ⟨#[]⟩ m 0 l) i p)(g:0≤k∧k≤20)(hf:¬(jU k (i,p)).1.natAbs<aj^40) :
 CB 111 #[vP C,vP A] w fun e _=>e=pK 3:=by
 obtain ⟨c,rfl⟩:∃ c:Nat,k=(c:Int):=⟨k.toNat,by omega⟩
 have b:c≤20:=by omega
 have t:=h1.hi;have d:=h1.abs;unfold jU at hf;simp only [QP] at hf
 have y:=fun X (s:bW w X)=>rX _ i p i 1 (p:Int) c X (h1.below s) (fun W v _ u=>yC v i 1 (p:Int) W u) b (by omega) (az d (by decide)) (az oD (by decide)) (by decide) (az (jb d (qm (by omega))) (by decide)) (by rw [QY];exact az (qm (by omega)) (by decide)) hf
 have x:=fun X=>zR (c:Int) X g.1 g.2
 obtain ⟨B,q,a,J⟩:=qD w;have z:=(o.below a).cell 0;simp only [Qc] at z;have ra:=n.below a;obtain ⟨D,E,F,G,H,I⟩:=aD ra;clear ra;clear h1 n o g t d hf;go_enter func111,ntmps111
 go_upto_region 1 with (fail)
 rw [q.out];clear q
 go_wp2_with (first | (go_at_call 82;refine (x _).mono ?_;rintro e L ⟨rfl,rfl⟩) | (go_at_call 98;refine (y _ a).mono ?_;rintro e w1 ⟨f,rfl⟩))
 exact ⟨rfl,a.trans (f.mono a.size),rfl⟩
theorem Bu (C A:Nat){l:Bool}{a f:Option Addr}{m1 c d p:Nat}{i k:Int}(w:World)(g:af w C 3 [vI k])(_hA:af w A 27 (lV 3 p l a m1 c ⟨#[]⟩ f 0 d))(_h1:dB w (vV 3 p l a m1 c ⟨#[]⟩ f 0 d) i p)(j:k<0∨20<k) :
 CB 111 #[vP C,vP A] w fun e _=>e=pK 1:=by
 have m:=fun X=>GD k X j
 obtain ⟨o,h,b,q⟩:=qD w;have n:=(g.below b).cell 0;simp only [Qc] at n;clear _h1 _hA g j;go_enter func111,ntmps111
 go_upto_region 1 with (fail)
 rw [h.out];clear h
 go_wp2_with (go_at_call 82;refine (m _).mono ?_;rintro e r ⟨rfl,rfl⟩)
 exact ⟨rfl,b,rfl⟩
theorem EH (va:Value)(C:Option (Int × Nat))(d:Int)(w:World)(h1:Fm w va C) :
  Calls prog 40 #[va,vI d] w fun e F=>bW w F∧∃ o q s t f g u y j l,∃ k:Int,e=.returned (.tuple #[vV o q s t f g u y j l,vI k])∧dG F (vg (fun _=>if d<0∨20<d then 1 else 0) C) (BB (jU d) C) k (vV o q s t f g u y j l):=by
 obtain ⟨M,O,A,H,m1,I,D,L,N,J,rfl⟩:=h1.kY
 have a3:∀ B b,bW w B→af B w.heap.size 27 (lV M O A H m1 I D L N J)→af B (w.heap.size+1) 3 [vI d]→af B b 27 (lV M O A H m1 I D L N J)→Calls prog 88 #[.func (.func 111) #[] #[vP (w.heap.size+1),vP w.heap.size],.slice (some ⟨b,0,none⟩) 1 1] B fun e F=>bW B F∧∃ o q s t f g u y j l,∃ k:Int,e=.returned (.tuple #[vV o q s t f g u y j l,vI k])∧dG F (vg (fun _=>if d<0∨20<d then 1 else 0) C) (BB (jU d) C) k (vV o q s t f g u y j l):=by
  intro B b X r1 a7 row;refine pE _ _ b 1 B (fun k W v=>dG W (vg (fun _=>if d<0∨20<d then 1 else 0) C) (BB (jU d) C) k v) (fun _ _ _ _ h E=>h.keep E) (fun Q h4 A g2 V=>?_)
  have hz:∀ K:Int,K≠0→(vg (fun _=>if d<0∨20<d then 1 else 0) C)=K→∀ W,bW Q W→∃ k,(k=0∧pK K=.returned (.tuple #[])∨pK K=pK k)∧dF (fun i=>i=B.heap.size+1+1) Q W∧∃ o q s t f g u y j l,af W (B.heap.size+1+1) 27 (lV o q s t f g u y j l)∧dG W (vg (fun _=>if d<0∨20<d then 1 else 0) C) (BB (jU d) C) k (vV o q s t f g u y j l):=fun K hK E W z=>⟨K,.inr rfl,(dF.refl _ Q).aU z,0,0,false,none,0,0,⟨#[]⟩,none,0,0,V.below z,by rw [E];exact jX hK⟩
  have ja:=row.below h4;have D:=r1.below h4;have U:=a7.below h4;have G:=h1.below (X.trans (h4.mono X.size))
  cases C with
  | none =>
   refine (tZ B.heap.size b 111 #[vP (w.heap.size+1),vP w.heap.size] Q A g2 V ja G).mono ?_;rintro e W ⟨z,rfl⟩;exact hz 2 (by decide) rfl W z
  | some x =>
   have G:dB Q _ x.1 x.2:=G;obtain ⟨n5,a5,m5,c5,a9,aa,e1,-⟩:=G.shape;simp only [Value.agg.injEq,Array.mk.injEq,List.cons.injEq,Value.int.injEq,Value.bool.injEq,Value.slice.injEq,Value.string.injEq,and_true,true_and] at e1;obtain ⟨rfl,rfl,rfl,⟨rfl,rfl,rfl⟩,rfl,rfl,rfl,rfl⟩:=e1
   by_cases E:d<0∨20<d
   ·refine (lW B.heap.size b 111 #[vP (w.heap.size+1),vP w.heap.size] Q A g2 V ja G (fun W=>by simp [go_sem]) 1 (fun W z=>Bu _ _ W (U.below z) (D.below z) (G.below z) E)).mono ?_
    rintro e W ⟨z,rfl⟩;exact hz 1 (by decide) (if_pos E) W z
   have Z:(if d<0∨20<d then (1:Int) else 0)=0:=if_neg E
   have a0:0≤d∧d≤20:=by omega
   by_cases hf:(jU d x).1.natAbs<aj^40
   ·obtain ⟨r,q9,T⟩:∃ r q9,jU d x=(r,q9):=⟨_,_,rfl⟩
    rw [T] at hf;refine (tY B.heap.size b 111 #[vP (w.heap.size+1),vP w.heap.size] Q A g2 V ja G (fun W v=>dX W v r q9) (fun _ _ _ h E=>h.keep E) (fun W v h=>?_) (fun W=>by simp [go_sem]) (fun W z=>Bt _ _ W (U.below z) (D.below z) (G.below z) a0 T hf)).mono ?_
    ·obtain ⟨n,a,m,c,la,lc,rfl,-⟩:=h
     exact ⟨_,_,_,_,_,_,_,_,_,_,rfl⟩
    ·rintro e W ⟨rfl,hC,o,q,s,t,f,g,u,y,j,l,hr,hD⟩
     refine ⟨0,.inl ⟨rfl,rfl⟩,hC,o,q,s,t,f,g,u,y,j,l,hr,?_⟩;refine jY Z ?_
     show dP W (jU d x).1 (jU d x).2 0 _
     rw [T];unfold dP;rw [if_pos hf];exact ⟨rfl,hD⟩
   ·refine (lW B.heap.size b 111 #[vP (w.heap.size+1),vP w.heap.size] Q A g2 V ja G (fun W=>by simp [go_sem]) 3 (fun W z=>zt _ _ W (U.below z) (D.below z) (G.below z) a0 hf)).mono ?_
    rintro e W ⟨z,rfl⟩;refine ⟨3,.inr rfl,(dF.refl _ Q).aU z,0,0,false,none,0,0,⟨#[]⟩,none,0,0,V.below z,?_⟩;refine jY Z ?_
    show dP W (jU d x).1 (jU d x).2 3 _
    unfold dP;rw [if_neg hf];exact ⟨rfl,rfl⟩
 obtain ⟨S,z,b0,q1,q2,qr⟩:=BC w 27 (lV M O A H m1 I D L N J) 3 [vI d];have dH:=fC (R:=bI _) (ax q1 (ax q2 aS)) ⟨_,_,_,_,_,_,_,_,_,_,qr⟩ b0;have g0:=q2.cell 0;simp only [Qc] at g0;obtain ⟨d0,d1,d2,d3,d4,d5⟩:=aD q1;have b5:=b0.alloc b0.size (.cells #[vI M,vI O,.bool A,.slice H m1 I,.string D,.slice L N J] 27)
 have gY:=a3 _ S.heap.size b5 (q1.alloc _) (q2.alloc _) (af.new S 27 (lV M O A H m1 I D L N J));have uZ:=lK
 obtain ⟨R,hR⟩:∃ R:World→Int→Value→Prop,R=fun W k v=>dG W (vg (fun _=>if d<0∨20<d then 1 else 0) C) (BB (jU d) C) k v:=⟨_,rfl⟩
 have a4:∀ W W' k v,R W k v→(∀ v xs,Reads .u32 W v xs→Reads .u32 W' v xs)→R W' k v:=by
  rw [hR]
  exact fun _ _ _ _ h E=>h.keep E
 replace gY:Calls prog 88 #[.func (.func 111) #[] #[vP (w.heap.size+1),vP w.heap.size],.slice (some ⟨S.heap.size,0,none⟩) 1 1] (S.alloc (.cells ((lV M O A H m1 I D L N J):List Value).toArray 27)) fun e F=>Below (S.alloc (.cells ((lV M O A H m1 I D L N J):List Value).toArray 27)).heap.size (S.alloc (.cells ((lV M O A H m1 I D L N J):List Value).toArray 27)) F∧∃ o q s t f g u y j l,∃ k:Int,e=.returned (.tuple #[vV o q s t f g u y j l,vI k])∧R F k (vV o q s t f g u y j l):=by
  refine gY.mono ?_;rintro e w9 ⟨X,o,q,s,t,f,g,u,y,j,l,k,he,hr⟩;rw [hR];exact ⟨X,o,q,s,t,f,g,u,y,j,l,k,he,hr⟩
 suffices main:Calls prog 40 #[vV M O A H m1 I D L N J,vI d] w fun e F=>bW w F∧∃ o q s t f g u y j l,∃ k:Int,e=.returned (.tuple #[vV o q s t f g u y j l,vI k])∧R F k (vV o q s t f g u y j l) by
  refine main.mono ?_;rintro e w9 ⟨X,o,q,s,t,f,g,u,y,j,l,k,he,hr⟩;rw [hR] at hr;exact ⟨X,o,q,s,t,f,g,u,y,j,l,k,he,hr⟩
 have a8:fI w S (bI (w.heap.size+1+1)) [(w.heap.size,27,(lV M O A H m1 I D L N J)),(w.heap.size+1,3,[vI d])] S:=dH;clear a3 hR h1 b0 q1 q2 dH;go_enter func40,ntmps40
 go_upto_region 1 with (fail)
 rw [z.out];clear z
 go_wp2_with (refine gY.mono ?_;rintro e w3 ⟨Y,o,q,s,t,f,g,u,y,j,l,k,rfl,a2⟩;have b6:=b5.trans (Y.mono b5.size);have q3:=(qr.alloc _).below Y;obtain ⟨y0,y1,y2,y3,y4,y5,f0,C,f2,f3,f4,f5⟩:=df q3)
 obtain ⟨u0,u1,u2,u3,u4,u5⟩:=dD q3 (vI o) (vI q) (.bool s) (.slice t f g) (.string u) (.slice y j l)
 have a6:=((((((b6.setCell (show w.heap.size≤w.heap.size+1+1 by omega) (p:=⟨w.heap.size+1+1,0,none⟩) (vI o)).setCell (show w.heap.size≤w.heap.size+1+1 by omega) (p:=⟨w.heap.size+1+1,1,none⟩) (vI q)).setCell (show w.heap.size≤w.heap.size+1+1 by omega) (p:=⟨w.heap.size+1+1,2,none⟩) (.bool s)).setCell (show w.heap.size≤w.heap.size+1+1 by omega) (p:=⟨w.heap.size+1+1,3,none⟩) (.slice t f g)).setCell (show w.heap.size≤w.heap.size+1+1 by omega) (p:=⟨w.heap.size+1+1,4,none⟩) (.string u)).setCell (show w.heap.size≤w.heap.size+1+1 by omega) (p:=⟨w.heap.size+1+1,5,none⟩) (.slice y j l))
 exact bodyPost_ret (v:=.tuple #[vV o q s t f g u y j l,vI k]) (by simp [results,results40,go_sem,loadCellsFrom,u0,u1,u2,u3,u4,u5]) rfl ⟨a6,o,q,s,t,f,g,u,y,j,l,k,rfl,a4 _ _ _ _ a2 (bQ q3 (vI o) (vI q) (.bool s) (.slice t f g) (.string u) (.slice y j l))⟩
theorem KM {w w1 X:World}{R:World→Prop}{b:Nat}{t:TypeId}{n:Bool}{a:Option Addr}{m c:Nat}(h:fI w w1 R [(b,t,(lN n a m c))] X)(d:∀ Y (p:Addr) u,R Y→p.block=b→R (Y.setCell p u))(f:w.heap.size≤b):fI w w1 R [(b,t,(lN n a m c))] ((X.setCell ⟨b,0,none⟩ (.bool n)).setCell ⟨b,1,none⟩ (.slice a m c)) :=
 ⟨ax ((h.r0.set 0 (.bool n)).set 1 (.slice a m c)) aS,d _ _ _ (d _ _ _ h.res rfl) rfl,(h.below.setCell f _).setCell f _,fun v xs g=>aV h.r0 _ _ v xs (h.more v xs g),by simpa only [JN] using h.size⟩
theorem Me {i t:Int}(a:0<t):-((-i).fdiv t)=if i.fmod t=0 then i.fdiv t else i.fdiv t+1:=by
 rw [Zq _ (Zy a),Zq _ (Zy a),ZQ _ (Zy a)];have h1:=YF i t;have c:=YG i (show t≠0 by omega);have d:=YH i a;split
 ·rename_i h
  rw [h,Int.add_zero] at h1
  have b:-i=t*(-(i / t)):=by rw [Zf,h1]
  rw [b,Int.mul_ediv_cancel_left _ (show t≠0 by omega),Int.neg_neg]
 ·rename_i h
  have b:-i=(t - i % t)+t*(-(i / t) - 1):=by
   rw [Int.mul_sub,Zf,Int.mul_one];omega
  rw [b,Int.add_mul_ediv_left _ _ (show t≠0 by omega),Int.ediv_eq_zero_of_lt (by omega) (by omega)];omega
theorem yD (va:Value)(i:Int)(p:Nat)(w:World)(h1:dB w va i p) :
 CB 115 #[va] w fun e w'=>∃ n a m c n' a' m' c',e=.returned (.tuple #[vN n a m c,vN n' a' m' c'])∧ak w' (vN n a m c) (i.fdiv ((10^p:Nat):Int))∧ak w' (vN n' a' m' c') (-((-i).fdiv ((10^p:Nat):Int))):=by
 have hp:=h1.hi;have bi:=h1.abs;obtain ⟨n1,a1,m1,c1,cu,cB,rfl,hI⟩:=h1.shape
 have kT:=fun X=>xw p X (by omega)
 have tp:(0:Int)<((10^p:Nat):Int):=by have:=Qq (n:=p) (show 0<10 by decide);omega
 have bt:=jc (show p≤2820 by omega);rw [Me tp];have a3:=wy i ((10^p:Nat):Int) tp;generalize ((10^p:Nat):Int)=tt at *
 have kD:=fun X (hX:bW w X) v (hv:ak X v tt)=>oG _ v i tt X (hI.below hX) hv (az bi (by decide)) bt (by omega)
 generalize i.fdiv tt=q at *;generalize i.fmod tt=r at *
 have bq:q.natAbs<aj^41:=by
  rw [Qo,show aj^40*aj=aj^40*4294967296 from rfl];generalize aj^40=Y at *;omega
 have a0:=xu (K:=41) bq (show (1:Int).natAbs<aj^41 from Qf (show 1<aj^1 by decide) (Ql aP (by decide)))
 have kZ:=fun (X:World) v (hv:ak X v r)=>jh v r X hv
 have kO:=fun X=>of_int 1 X (by decide) (by decide)
 have kA:=fun (X:World) v v' (hv:ak X v q) (a5:ak X v' 1)=>uD v v' q 1 X hv a5 (az bq (by decide)) (Qf (show 1<aj^1 by decide) (Ql aP (by decide))) (az a0 (by decide))
 obtain ⟨W0,hW,b0,q1,q2,q3⟩:=MJ w 27 (lV 3 p n1 a1 m1 c1 ⟨#[]⟩ cu 0 cB) 24 (lN false none 0 0) 24 (lN false none 0 0)
 obtain ⟨G,T⟩:∃ G,(if r=0 then q else q+1)=G:=⟨_,rfl⟩
 rw [T];have HB:=Qa (And.intro hI T);clear h1 hp bi tp bt a3 bq a0 hI T;go_enter func115,ntmps115
 go_upto_region 1 with (fail)
 rw [hW.out];clear hW
 go_cut [4] from 5 to 13 (fun v4 W=>kJ W v4 r∧(∃ n a m c,af W (w.heap.size+1) 24 (lN n a m c)∧ak W (vN n a m c) q)∧bJ (w.heap.size+1+1) W∧bW w W)
 case first =>
  have dH:=fC (R:=fo _) (ax q1 aS) ⟨⟨_,_,_,_,q2⟩,_,_,_,_,q3⟩ b0
  have u:=yO dH fun X h=>(nk h.r0:)
  have U:∀ r ∈ ([(w.heap.size,27,(lV 3 p n1 a1 m1 c1 ⟨#[]⟩ cu 0 cB))]:List (Nat × TypeId × List Value)),r.1<W0.heap.size:=fK q1.lt nA;have fe:=b0.size;have a6:w.heap.size+1+1<W0.heap.size:=q3.lt;clear q1 q2 q3 b0
  go_wp2_with fail
  refine bB u (bY fo.drew dH) fun X0 b=>?_
  refine tk 0 b ?_;refine tk 1 b ?_;refine tk 2 b ?_;refine tk 3 b ?_;refine ql 4 9 (fun k f=>?_) (fun k f=>?_)
  ·have hP:=b.2
   go_wp2_with (go_at_call 147;refine (kT _).mono ?_;rintro e V ⟨d,v5,rfl,A⟩)
   refine aT f u (ag fo.step hP d) fun b=>?_
   clear f k hP d;refine ql 5 9 (fun k f=>?_) (fun k f=>?_)
   ·have hP:=b.2
    go_wp2_with (go_at_call 142;refine (kD _ hP.below _ A).mono ?_;rintro e V ⟨d,g,a,m,c,g9,a9,m9,c9,rfl,s,o⟩)
    replace A:=A.below d
    refine aT f u (ag fo.step hP d) fun b=>?_
    clear f k hP d;refine tk 6 b ?_;refine tk 7 b ?_;refine tk 8 b ?_
    refine rd 9 fun k f=>?_
    have hP:=b.2;obtain ⟨V9,S,l,z,t⟩:=aL hP 24 (lN false none 0 0)
    go_wp2_with fail
    rw [S.out];clear S;replace s:=s.below t;replace o:=o.below t
    refine aT f u (ag fo.step hP t) fun b=>?_
    clear f k hP t
    refine rd 10 fun k f=>?_
    have hP:=b.2;obtain ⟨z0,z1,gz,gB,hr,D,E,B,C⟩:=hP.res.1.cells
    go_wp2_with fail
    have y:=mH hP (aZ (by omega) dV) (by omega) g a m c;have H:=(hr.set 0 (.bool g)).set 1 (.slice a m c);simp only [QB,Qz] at H;replace s:=s.keep (aV hr (.bool g) (.slice a m c));replace o:=o.keep (aV hr (.bool g) (.slice a m c))
    replace l:=(l.other (a:=⟨w.heap.size+1,0,none⟩) (by have J:=z;show _≠w.heap.size+1;omega) (.bool g)).other (a:=⟨w.heap.size+1,1,none⟩) (by have J:=z;show _≠w.heap.size+1;omega) (.slice a m c);have j:=(Qg (Qf (show w.heap.size+1<W0.heap.size by omega) z)).symm
    refine aT f u y fun b=>?_
    clear f k hP y hr D E B C
    refine rd 11 fun k f=>?_
    have hP:=b.2;obtain ⟨D,E,B,C⟩:=av l;obtain ⟨V8,O,y,F,N,Q⟩:=ay hP (fo.other (by omega) (by omega)) (bP U z) (Qd fe z) l (.bool g9) (.slice a9 m9 c9)
    go_wp2_with fail
    rw [O.out];replace s:=s.keep F;replace o:=o.keep F;replace H:=Q _ _ _ H j.symm;replace l:=N
    refine aT f u y fun b=>?_
    clear f k hP y O F N Q D E B C;refine wpAnyH_done (by kernel_rfl) ?_ _;go_wp2
    go_meet
    exact ⟨⟨_,_,_,_,_,rfl,l,o⟩,⟨_,_,_,_,H,s⟩,b.2.res.2,b.2.below⟩
   have hP:=b.2;obtain ⟨V9,S,l,z,t⟩:=aL hP 24 (lN false none 0 0)
   go_wp2_with fail
   rw [S.out];clear S;replace A:=A.below t
   refine aT f u (ag fo.step hP t) fun b=>?_
   clear f k hP t
   refine rd 5 fun k f=>?_
   have hP:=b.2
   go_wp2_with (go_at_call 142;refine (kD _ hP.below _ A).mono ?_;rintro e V ⟨d,g,a,m,c,g9,a9,m9,c9,rfl,s,o⟩)
   replace A:=A.below d;replace l:=l.below d
   refine aT f u (ag fo.step hP d) fun b=>?_
   clear f k hP d;refine tk 6 b ?_;refine tk 7 b ?_;refine tk 8 b ?_
   refine rd 10 fun k f=>?_
   have hP:=b.2;obtain ⟨z0,z1,gz,gB,hr,D,E,B,C⟩:=hP.res.1.cells
   go_wp2_with fail
   have y:=mH hP (aZ (by omega) dV) (by omega) g a m c;have H:=(hr.set 0 (.bool g)).set 1 (.slice a m c);simp only [QB,Qz] at H;replace l:=(l.other (a:=⟨w.heap.size+1,0,none⟩) (by have J:=z;show _≠w.heap.size+1;omega) (.bool g)).other (a:=⟨w.heap.size+1,1,none⟩) (by have J:=z;show _≠w.heap.size+1;omega) (.slice a m c);replace s:=s.keep (aV hr (.bool g) (.slice a m c))
   replace o:=o.keep (aV hr (.bool g) (.slice a m c));have j:=(Qg (Qf (show w.heap.size+1<W0.heap.size by omega) z)).symm
   refine aT f u y fun b=>?_
   clear f k hP y hr D E B C
   refine rd 11 fun k f=>?_
   have hP:=b.2;obtain ⟨D,E,B,C⟩:=av l;obtain ⟨V8,O,y,F,N,Q⟩:=ay hP (fo.other (by omega) (by omega)) (bP U z) (Qd fe z) l (.bool g9) (.slice a9 m9 c9)
   go_wp2_with fail
   rw [O.out];replace s:=s.keep F;replace o:=o.keep F;replace H:=Q _ _ _ H j.symm;replace l:=N
   refine aT f u y fun b=>?_
   clear f k hP y O F N Q D E B C;refine wpAnyH_done (by kernel_rfl) ?_ _;go_wp2
   go_meet
   exact ⟨⟨_,_,_,_,_,rfl,l,o⟩,⟨_,_,_,_,H,s⟩,b.2.res.2,b.2.below⟩
  have hP:=b.2;obtain ⟨V9,S,l,z,t⟩:=aL hP 24 (lN false none 0 0)
  go_wp2_with fail
  rw [S.out];clear S
  refine aT f u (ag fo.step hP t) fun b=>?_
  clear f k hP t
  refine rd 4 fun k f=>?_
  have hP:=b.2
  go_wp2_with (go_at_call 147;refine (kT _).mono ?_;rintro e V ⟨d,v5,rfl,A⟩)
  replace l:=l.below d
  refine aT f u (ag fo.step hP d) fun b=>?_
  clear f k hP d
  refine rd 5 fun k f=>?_
  have hP:=b.2
  go_wp2_with (go_at_call 142;refine (kD _ hP.below _ A).mono ?_;rintro e V ⟨d,g,a,m,c,g9,a9,m9,c9,rfl,s,o⟩)
  replace l:=l.below d;replace A:=A.below d
  refine aT f u (ag fo.step hP d) fun b=>?_
  clear f k hP d;refine tk 6 b ?_;refine tk 7 b ?_;refine tk 8 b ?_
  refine rd 10 fun k f=>?_
  have hP:=b.2;obtain ⟨z0,z1,gz,gB,hr,D,E,B,C⟩:=hP.res.1.cells
  go_wp2_with fail
  have y:=mH hP (aZ (by omega) dV) (by omega) g a m c;have H:=(hr.set 0 (.bool g)).set 1 (.slice a m c);simp only [QB,Qz] at H;replace l:=(l.other (a:=⟨w.heap.size+1,0,none⟩) (by have J:=z;show _≠w.heap.size+1;omega) (.bool g)).other (a:=⟨w.heap.size+1,1,none⟩) (by have J:=z;show _≠w.heap.size+1;omega) (.slice a m c);replace s:=s.keep (aV hr (.bool g) (.slice a m c))
  replace o:=o.keep (aV hr (.bool g) (.slice a m c));have j:=(Qg (Qf (show w.heap.size+1<W0.heap.size by omega) z)).symm
  refine aT f u y fun b=>?_
  clear f k hP y hr D E B C
  refine rd 11 fun k f=>?_
  have hP:=b.2;obtain ⟨D,E,B,C⟩:=av l;obtain ⟨V8,O,y,F,N,Q⟩:=ay hP (fo.other (by omega) (by omega)) (bP U z) (Qd fe z) l (.bool g9) (.slice a9 m9 c9)
  go_wp2_with fail
  rw [O.out];replace s:=s.keep F;replace o:=o.keep F;replace H:=Q _ _ _ H j.symm;replace l:=N
  refine aT f u y fun b=>?_
  clear f k hP y O F N Q D E B C;refine wpAnyH_done (by kernel_rfl) ?_ _;go_wp2
  go_meet
  exact ⟨⟨_,_,_,_,_,rfl,l,o⟩,⟨_,_,_,_,H,s⟩,b.2.res.2,b.2.below⟩
 case rest =>
  obtain ⟨⟨b4,n4,a4,m4,c4,rfl,r4,i4⟩,⟨n2,a2,m2,c2,r2,i2⟩,⟨z0,z1,gz,gB,r3⟩,L⟩:=hcut;obtain ⟨x0,x1⟩:=aQ r4;clear kT kD q1 q2 q3 b0 r4
  by_cases I:r=0
  ·rw [decide_eq_true I] at kZ
   have T:q=G:=by have h:=HB.out.2;rw [if_pos I] at h;exact h
   clear kO kA I
   go_wp2_with (go_at_call 144;refine (kZ _ _ i4).mono ?_;rintro e w5 ⟨x,rfl⟩;have Z:=r2.below x;have s3:=r3.below x;obtain ⟨D,E,B,C⟩:=av Z;obtain ⟨y2,y3,f2,f3⟩:=av s3)
   have hP:=wT (show w.heap.size≤w.heap.size+1 by omega) (L.trans (x.mono L.size)) Z s3 n2 a2 m2 c2 n2 a2 m2 c2;have M:=(i2.below x).keep (wz Z s3 n2 a2 m2 c2 n2 a2 m2 c2)
   obtain ⟨u0,u1⟩:=(⟨hP.q.cell 0,hP.q.cell 1⟩:_∧_)
   obtain ⟨u2,u3⟩:=(⟨hP.r.cell 0,hP.r.cell 1⟩:_∧_)
   simp only [Qc,Qe] at u0 u1 u2 u3;exact bodyPost_ret (v:=.tuple #[vN n2 a2 m2 c2,vN n2 a2 m2 c2]) (by simp [results,results115,go_sem,loadCellsFrom,u0,u1,u2,u3]) rfl ⟨hP.below,_,_,_,_,_,_,_,_,rfl,M,by rw [← T];exact M⟩
  ·rw [decide_eq_false I] at kZ
   have T:q+1=G:=by have h:=HB.out.2;rw [if_neg I] at h;exact h
   clear I
   go_upto_region 4 with (go_at_call 144;refine (kZ _ _ i4).mono ?_;rintro e w5 ⟨x,rfl⟩)
   have Z:=r2.below x;have s3:=r3.below x;have j2:=i2.below x;have dH:=fC (R:=bJ _) (ax Z aS) ⟨_,_,_,_,s3⟩ (L.trans (x.mono L.size))
   have u:=yO dH fun X h=>(aQ h.r0:)
   clear kZ i4 x0 x1 r2 r3 i2 L x Z s3
   go_wp2_with fail
   refine bB u (bY bJ.drew dH) fun X0 b=>?_
   refine tk 0 b ?_;refine tk 1 b ?_
   refine rd 2 fun k f=>?_
   have hP:=b.2
   go_wp2_with (go_at_call 143;refine (kO _).mono ?_;rintro e V ⟨d,v5,rfl,A⟩)
   refine aT f u (ag bJ.step hP d) fun b=>?_
   clear f k hP d
   refine rd 3 fun k f=>?_
   have hP:=b.2
   go_wp2_with (go_at_call 70;refine (kA _ _ _ (j2.keep hP.more) A).mono ?_;rintro e V ⟨d,v6,rfl,s⟩)
   replace A:=A.below d
   refine aT f u (ag bJ.step hP d) fun b=>?_
   clear f k hP d;refine tk 4 b ?_;refine tk 5 b ?_
   refine rd 6 fun k f=>?_
   have hP:=b.2
   go_wp2_with (go_at_call 152;refine (eZ _ _ _ s).mono ?_;rintro e V ⟨d,v7,rfl,o⟩)
   replace s:=s.below d;obtain ⟨g,a,m,c,rfl⟩:=o.shape
   refine aT f u (ag bJ.step hP d) fun b=>?_
   clear f k hP d
   refine rd 7 fun k f=>?_
   have hP:=b.2;obtain ⟨D,E,B,C⟩:=av hP.r0;have y:=KM hP (bJ.other (by omega)) (by omega);have F:=aV hP.r0 (.bool n2) (.slice a2 m2 c2)
   go_wp2_with fail
   replace o:=o.keep F
   refine aT f u y fun b=>?_
   clear f k hP y F D E B C
   refine rd 8 fun k f=>?_
   have hP:=b.2;obtain ⟨z0,z1,gz,gB,hr,D,E,B,C⟩:=hP.res.cells;clear kO kA
   go_wp2_with fail
   refine aT f u (fM hP (aZ (by omega) dV) (by omega) g a m c) fun b=>?_
   clear f k;obtain ⟨u0,u1⟩:=eB hr (.bool g) (.slice a m c);refine wpAnyH_done (by kernel_rfl) ?_ _;have hb:=b.2.below;have v0:=b.2.r0.cell 0;have v1:=b.2.r0.cell 1;have M:=j2.keep b.2.more;have hO:=o.keep (aV hr (.bool g) (.slice a m c));simp only [Qc,Qe] at v0 v1;clear b hP o
   go_wp2_with fail
   exact bodyPost_ret (v:=.tuple #[vN n2 a2 m2 c2,vN g a m c]) (by simp [results,results115,go_sem,loadCellsFrom,v0,v1,u0,u1]) rfl ⟨hb,_,_,_,_,_,_,_,_,rfl,M,by rw [← T];exact hO⟩
def tu (x:Int × Nat):Int:=x.1.fdiv ((10^x.2:Nat):Int)
def wH (x:Int × Nat):Int:=-((-x.1).fdiv ((10^x.2:Nat):Int))
def Lg (F:Int × Nat→Int)(f:Option (Int × Nat)):Int:=match f with
 | some x=>F x
 | none=>0
theorem KN (A:Nat){o:Bool}{q D:Option Addr}{m1 u C p:Nat}{i:Int}(w:World)(k:af w A 27 (lV 3 p o q m1 u ⟨#[]⟩ D 0 C))(h1:dB w (vV 3 p o q m1 u ⟨#[]⟩ D 0 C) i p) :
 CB 116 #[vP A] w fun e w'=>∃ v,e=.returned v∧ak w' v (tu (i,p)):=by
 have n:=fun X (V:bW w X)=>yD _ i p X (h1.below V)
 obtain ⟨x,l⟩:∃ x,i.fdiv ((10^p:Nat):Int)=x:=⟨_,rfl⟩
 obtain ⟨y,G⟩:∃ y,-((-i).fdiv ((10^p:Nat):Int))=y:=⟨_,rfl⟩
 have b:tu (i,p)=x:=by
  exact l
 rw [b];rw [l,G] at n;obtain ⟨W0,F,h,M⟩:=Lf w 24 (lN false none 0 0);have ra:=k.below h;obtain ⟨N,O,Q,R,S,T⟩:=aD ra;clear h1 k l G b;go_enter func116,ntmps116
 go_upto_region 1 with (fail)
 rw [F.out];clear F
 go_cut [2,3] from 4 to 8 (fun v2 v3 W=>kJ W v2 x∧kJ W v3 y∧af W w.heap.size 24 (lN false none 0 0)∧W.cell? ⟨A,2,none⟩=some (.bool o)∧bW w W)
 case first =>
  go_wp2_with (go_at_call 115;refine (n _ h).mono ?_;rintro e w1 ⟨d,g,a,m,c,E,s,I,B,rfl,k,U⟩)
  go_meet
  have L:=dJ w1 (.cells #[.bool g,.slice a m c] 24);have j:=L.alloc L.size (.cells #[.bool E,.slice s I B] 24);have t:=h.trans (d.mono h.size)
  exact ⟨⟨_,_,_,_,_,rfl,(af.new w1 24 (lN g a m c)).alloc _,k.below j⟩,⟨_,_,_,_,_,rfl,(af.new (w1.alloc (.cells #[.bool g,.slice a m c] 24)) 24 (lN E s I B)).at (by simp),U.below j⟩,(M.below d).below j,((ra.below d).below j).cell 2,t.trans (j.mono t.size)⟩
 case rest =>
  obtain ⟨⟨b7,J,r,H,z,rfl,r7,Z⟩,⟨b8,n8,a8,m8,c8,rfl,r8,i8⟩,f,Y,ig⟩:=hcut;have x0:=r7.cell 0;have x1:=r7.cell 1;have x2:=r8.cell 0;have x3:=r8.cell 1;obtain ⟨y0,y1,f0,f1⟩:=av f;simp only [Qc,Qe] at x0 x1 x2 x3;clear n r7 r8 N O Q R S T ra h M;clear Y;obtain ⟨u0,u1⟩:=eB f (.bool J) (.slice r H z)
  go_wp2_with fail
  exact bodyPost_ret (v:=vN J r H z) (by simp [results,results116,go_sem,loadCellsFrom,u0,u1]) rfl ⟨(ig.setCell (Qb _) (p:=⟨w.heap.size,0,none⟩) _).setCell (Qb _) (p:=⟨w.heap.size,1,none⟩) _,_,rfl,Z.keep (aV f _ _)⟩
theorem Mf (A:Nat){o:Bool}{q D:Option Addr}{m1 u C p:Nat}{i:Int}(w:World)(k:af w A 27 (lV 3 p o q m1 u ⟨#[]⟩ D 0 C))(h1:dB w (vV 3 p o q m1 u ⟨#[]⟩ D 0 C) i p) :
 CB 117 #[vP A] w fun e w'=>∃ v,e=.returned v∧ak w' v (wH (i,p)):=by
 have n:=fun X (V:bW w X)=>yD _ i p X (h1.below V)
 obtain ⟨x,G⟩:∃ x,i.fdiv ((10^p:Nat):Int)=x:=⟨_,rfl⟩
 obtain ⟨y,l⟩:∃ y,-((-i).fdiv ((10^p:Nat):Int))=y:=⟨_,rfl⟩
 have b:wH (i,p)=y:=by
  exact l
 rw [b];rw [G,l] at n;obtain ⟨W0,F,h,M⟩:=Lf w 24 (lN false none 0 0);have ra:=k.below h;obtain ⟨N,O,Q,R,S,T⟩:=aD ra;clear h1 k G l b;go_enter func117,ntmps117
 go_upto_region 1 with (fail)
 rw [F.out];clear F
 go_cut [2,3] from 4 to 8 (fun v2 v3 W=>kJ W v2 x∧kJ W v3 y∧af W w.heap.size 24 (lN false none 0 0)∧W.cell? ⟨A,2,none⟩=some (.bool o)∧bW w W)
 case first =>
  go_wp2_with (go_at_call 115;refine (n _ h).mono ?_;rintro e w1 ⟨d,g,a,m,c,E,s,I,B,rfl,k,U⟩)
  go_meet
  have L:=dJ w1 (.cells #[.bool g,.slice a m c] 24);have j:=L.alloc L.size (.cells #[.bool E,.slice s I B] 24);have t:=h.trans (d.mono h.size)
  exact ⟨⟨_,_,_,_,_,rfl,(af.new w1 24 (lN g a m c)).alloc _,k.below j⟩,⟨_,_,_,_,_,rfl,(af.new (w1.alloc (.cells #[.bool g,.slice a m c] 24)) 24 (lN E s I B)).at (by simp),U.below j⟩,(M.below d).below j,((ra.below d).below j).cell 2,t.trans (j.mono t.size)⟩
 case rest =>
  obtain ⟨⟨b7,n7,a7,m7,c7,rfl,r7,i7⟩,⟨b8,J,r,H,z,rfl,r8,Z⟩,f,Y,ig⟩:=hcut;have x0:=r7.cell 0;have x1:=r7.cell 1;have x2:=r8.cell 0;have x3:=r8.cell 1;obtain ⟨y0,y1,f0,f1⟩:=av f;simp only [Qc,Qe] at x0 x1 x2 x3;clear n r7 r8 N O Q R S T ra h M;clear Y;obtain ⟨u0,u1⟩:=eB f (.bool J) (.slice r H z)
  go_wp2_with fail
  exact bodyPost_ret (v:=vN J r H z) (by simp [results,results117,go_sem,loadCellsFrom,u0,u1]) rfl ⟨(ig.setCell (Qb _) (p:=⟨w.heap.size,0,none⟩) _).setCell (Qb _) (p:=⟨w.heap.size,1,none⟩) _,_,rfl,Z.keep (aV f _ _)⟩
theorem Np (va:Value)(l:Option (Int × Nat))(w:World)(h1:Fm w va l) :
  Calls prog 42 #[va] w fun e q=>bW w q∧∃ (g:Bool) (i:Option Addr) (f:Nat) (d:Nat),∃ k:Int,e=.returned (.tuple #[vN g i f d,vI k])∧fQ q (vg (fun _=>0) l) (Lg tu l) k (vN g i f d):=by
 obtain ⟨z,B,j,s,m1,t,o,y,A,u,rfl⟩:=h1.kY
 have J:∀ r b,bW w r→af r w.heap.size 27 (lV z B j s m1 t o y A u)→af r b 27 (lV z B j s m1 t o y A u)→Calls prog 113 #[.func (.func 116) #[] #[vP w.heap.size],.slice (some ⟨b,0,none⟩) 1 1] r fun e q=>bW r q∧∃ (g:Bool) (i:Option Addr) (f:Nat) (d:Nat),∃ k:Int,e=.returned (.tuple #[vN g i f d,vI k])∧fQ q (vg (fun _=>0) l) (Lg tu l) k (vN g i f d):=by
  intro r b F r1 row;refine BP _ _ b 1 r (fun k W v=>fQ W (vg (fun _=>0) l) (Lg tu l) k (v)) (fun _ _ _ _ h H=>h.keep H) (fun L U j g2 T=>?_);have ja:=row.below U;have o:=r1.below U;have D:=h1.below (F.trans (U.mono F.size))
  cases l with
  | none =>
   refine (yx r.heap.size b 116 #[vP w.heap.size] L j g2 T ja D).mono ?_;rintro e W ⟨C,rfl⟩;exact ⟨2,.inr rfl,(dF.refl _ L).aU C,false,none,0,0,T.below C,uU (by decide)⟩
  | some x =>
   have D:dB L _ x.1 x.2:=D;obtain ⟨n5,a5,m5,c5,a0,a2,e1,-⟩:=D.shape;simp only [Value.agg.injEq,Array.mk.injEq,List.cons.injEq,Value.int.injEq,Value.bool.injEq,Value.slice.injEq,Value.string.injEq,and_true,true_and] at e1;obtain ⟨rfl,rfl,rfl,⟨rfl,rfl,rfl⟩,rfl,rfl,rfl,rfl⟩:=e1
   refine (yw r.heap.size b 116 #[vP w.heap.size] L j g2 T ja D (fun W v=>ak W v (tu x)) (fun _ _ _ h H=>h.keep H) (fun W v h=>?_) (fun W=>by simp [go_sem]) (fun W C=>KN _ W (o.below C) (D.below C))).mono ?_
   ·obtain ⟨n,a,m,c,rfl⟩:=h.shape
    exact ⟨_,_,_,_,rfl⟩
   ·rintro e W ⟨rfl,hC,g,i,f,d,hr,hD⟩
    exact ⟨0,.inl ⟨rfl,rfl⟩,hC,g,i,f,d,hr,wS hD⟩
 obtain ⟨E,C,M,Q,qr⟩:=yP w 27 (lV z B j s m1 t o y A u) 24 (lN false none 0 0);have dH:=fC (R:=bJ _) (ax Q aS) ⟨_,_,_,_,qr⟩ M;obtain ⟨d0,d1,d2,d3,d4,d5⟩:=aD Q;have S:=M.alloc M.size (.cells #[vI z,vI B,.bool j,.slice s m1 t,.string o,.slice y A u] 27);have N:=J _ E.heap.size S (Q.alloc _) (af.new E 27 (lV z B j s m1 t o y A u));have uZ:=lK
 obtain ⟨K,hK⟩:∃ K,vg (fun _=>0) l=K:=⟨_,rfl⟩
 obtain ⟨Z,X⟩:∃ Z,Lg tu l=Z:=⟨_,rfl⟩
 rw [hK,X] at N;rw [hK,X]
 obtain ⟨R,O⟩:∃ R:World→Int→Value→Prop,R=fun W k v=>fQ W K Z k v:=⟨_,rfl⟩
 have V:∀ W W' k v,R W k v→(∀ v xs,Reads .u32 W v xs→Reads .u32 W' v xs)→R W' k v:=by
  rw [O]
  exact fun _ _ _ _ h H=>h.keep H
 replace N:Calls prog 113 #[.func (.func 116) #[] #[vP w.heap.size],.slice (some ⟨E.heap.size,0,none⟩) 1 1] (E.alloc (.cells ((lV z B j s m1 t o y A u):List Value).toArray 27)) fun e q=>Below (E.alloc (.cells ((lV z B j s m1 t o y A u):List Value).toArray 27)).heap.size (E.alloc (.cells ((lV z B j s m1 t o y A u):List Value).toArray 27)) q∧∃ (g:Bool) (i:Option Addr) (f:Nat) (d:Nat),∃ k:Int,e=.returned (.tuple #[vN g i f d,vI k])∧R q k (vN g i f d):=by
  refine N.mono ?_;rintro e w9 ⟨F,g,i,f,d,k,he,hr⟩;rw [O];exact ⟨F,g,i,f,d,k,he,hr⟩
 suffices main:Calls prog 42 #[vV z B j s m1 t o y A u] w fun e q=>bW w q∧∃ (g:Bool) (i:Option Addr) (f:Nat) (d:Nat),∃ k:Int,e=.returned (.tuple #[vN g i f d,vI k])∧R q k (vN g i f d) by
  refine main.mono ?_;rintro e w9 ⟨F,g,i,f,d,k,he,hr⟩;rw [O] at hr;exact ⟨F,g,i,f,d,k,he,hr⟩
 clear J O h1 M Q dH hK X;go_enter func42,ntmps42
 go_upto_region 1 with (fail)
 rw [C.out];clear C
 go_wp2_with (refine N.mono ?_;rintro e w3 ⟨G,g,i,f,d,k,rfl,I⟩;have b6:=S.trans (G.mono S.size);have q3:=(qr.alloc _).below G;obtain ⟨y0,y1,f0,l⟩:=av q3)
 obtain ⟨u0,u1⟩:=eB q3 (.bool g) (.slice i f d)
 have Y:=((b6.setCell (show w.heap.size≤w.heap.size+1 by omega) (p:=⟨w.heap.size+1,0,none⟩) (.bool g)).setCell (show w.heap.size≤w.heap.size+1 by omega) (p:=⟨w.heap.size+1,1,none⟩) (.slice i f d))
 exact bodyPost_ret (v:=.tuple #[vN g i f d,vI k]) (by simp [results,results42,go_sem,loadCellsFrom,u0,u1]) rfl ⟨Y,g,i,f,d,k,rfl,V _ _ _ _ I (aV q3 (.bool g) (.slice i f d))⟩
theorem GQ (va:Value)(l:Option (Int × Nat))(w:World)(h1:Fm w va l) :
  Calls prog 43 #[va] w fun e q=>bW w q∧∃ (g:Bool) (i:Option Addr) (f:Nat) (d:Nat),∃ k:Int,e=.returned (.tuple #[vN g i f d,vI k])∧fQ q (vg (fun _=>0) l) (Lg wH l) k (vN g i f d):=by
 obtain ⟨z,B,j,s,m1,t,o,y,A,u,rfl⟩:=h1.kY
 have J:∀ r b,bW w r→af r w.heap.size 27 (lV z B j s m1 t o y A u)→af r b 27 (lV z B j s m1 t o y A u)→Calls prog 113 #[.func (.func 117) #[] #[vP w.heap.size],.slice (some ⟨b,0,none⟩) 1 1] r fun e q=>bW r q∧∃ (g:Bool) (i:Option Addr) (f:Nat) (d:Nat),∃ k:Int,e=.returned (.tuple #[vN g i f d,vI k])∧fQ q (vg (fun _=>0) l) (Lg wH l) k (vN g i f d):=by
  intro r b F r1 row;refine BP _ _ b 1 r (fun k W v=>fQ W (vg (fun _=>0) l) (Lg wH l) k (v)) (fun _ _ _ _ h H=>h.keep H) (fun L U j g2 T=>?_);have ja:=row.below U;have o:=r1.below U;have D:=h1.below (F.trans (U.mono F.size))
  cases l with
  | none =>
   refine (yx r.heap.size b 117 #[vP w.heap.size] L j g2 T ja D).mono ?_;rintro e W ⟨C,rfl⟩;exact ⟨2,.inr rfl,(dF.refl _ L).aU C,false,none,0,0,T.below C,uU (by decide)⟩
  | some x =>
   have D:dB L _ x.1 x.2:=D;obtain ⟨n5,a5,m5,c5,a0,a2,e1,-⟩:=D.shape;simp only [Value.agg.injEq,Array.mk.injEq,List.cons.injEq,Value.int.injEq,Value.bool.injEq,Value.slice.injEq,Value.string.injEq,and_true,true_and] at e1;obtain ⟨rfl,rfl,rfl,⟨rfl,rfl,rfl⟩,rfl,rfl,rfl,rfl⟩:=e1
   refine (yw r.heap.size b 117 #[vP w.heap.size] L j g2 T ja D (fun W v=>ak W v (wH x)) (fun _ _ _ h H=>h.keep H) (fun W v h=>?_) (fun W=>by simp [go_sem]) (fun W C=>Mf _ W (o.below C) (D.below C))).mono ?_
   ·obtain ⟨n,a,m,c,rfl⟩:=h.shape
    exact ⟨_,_,_,_,rfl⟩
   ·rintro e W ⟨rfl,hC,g,i,f,d,hr,hD⟩
    exact ⟨0,.inl ⟨rfl,rfl⟩,hC,g,i,f,d,hr,wS hD⟩
 obtain ⟨E,C,M,Q,qr⟩:=yP w 27 (lV z B j s m1 t o y A u) 24 (lN false none 0 0);have dH:=fC (R:=bJ _) (ax Q aS) ⟨_,_,_,_,qr⟩ M;obtain ⟨d0,d1,d2,d3,d4,d5⟩:=aD Q;have S:=M.alloc M.size (.cells #[vI z,vI B,.bool j,.slice s m1 t,.string o,.slice y A u] 27);have N:=J _ E.heap.size S (Q.alloc _) (af.new E 27 (lV z B j s m1 t o y A u));have uZ:=lK
 obtain ⟨K,hK⟩:∃ K,vg (fun _=>0) l=K:=⟨_,rfl⟩
 obtain ⟨Z,X⟩:∃ Z,Lg wH l=Z:=⟨_,rfl⟩
 rw [hK,X] at N;rw [hK,X]
 obtain ⟨R,O⟩:∃ R:World→Int→Value→Prop,R=fun W k v=>fQ W K Z k v:=⟨_,rfl⟩
 have V:∀ W W' k v,R W k v→(∀ v xs,Reads .u32 W v xs→Reads .u32 W' v xs)→R W' k v:=by
  rw [O]
  exact fun _ _ _ _ h H=>h.keep H
 replace N:Calls prog 113 #[.func (.func 117) #[] #[vP w.heap.size],.slice (some ⟨E.heap.size,0,none⟩) 1 1] (E.alloc (.cells ((lV z B j s m1 t o y A u):List Value).toArray 27)) fun e q=>Below (E.alloc (.cells ((lV z B j s m1 t o y A u):List Value).toArray 27)).heap.size (E.alloc (.cells ((lV z B j s m1 t o y A u):List Value).toArray 27)) q∧∃ (g:Bool) (i:Option Addr) (f:Nat) (d:Nat),∃ k:Int,e=.returned (.tuple #[vN g i f d,vI k])∧R q k (vN g i f d):=by
  refine N.mono ?_;rintro e w9 ⟨F,g,i,f,d,k,he,hr⟩;rw [O];exact ⟨F,g,i,f,d,k,he,hr⟩
 suffices main:Calls prog 43 #[vV z B j s m1 t o y A u] w fun e q=>bW w q∧∃ (g:Bool) (i:Option Addr) (f:Nat) (d:Nat),∃ k:Int,e=.returned (.tuple #[vN g i f d,vI k])∧R q k (vN g i f d) by
  refine main.mono ?_;rintro e w9 ⟨F,g,i,f,d,k,he,hr⟩;rw [O] at hr;exact ⟨F,g,i,f,d,k,he,hr⟩
 clear J O h1 M Q dH hK X;go_enter func43,ntmps43
 go_upto_region 1 with (fail)
 rw [C.out];clear C
 go_wp2_with (refine N.mono ?_;rintro e w3 ⟨G,g,i,f,d,k,rfl,I⟩;have b6:=S.trans (G.mono S.size);have q3:=(qr.alloc _).below G;obtain ⟨y0,y1,f0,l⟩:=av q3)
 obtain ⟨u0,u1⟩:=eB q3 (.bool g) (.slice i f d)
 have Y:=((b6.setCell (show w.heap.size≤w.heap.size+1 by omega) (p:=⟨w.heap.size+1,0,none⟩) (.bool g)).setCell (show w.heap.size≤w.heap.size+1 by omega) (p:=⟨w.heap.size+1,1,none⟩) (.slice i f d))
 exact bodyPost_ret (v:=.tuple #[vN g i f d,vI k]) (by simp [results,results43,go_sem,loadCellsFrom,u0,u1]) rfl ⟨Y,g,i,f,d,k,rfl,V _ _ _ _ I (aV q3 (.bool g) (.slice i f d))⟩
end Go.Proofs.YtagjhmodblifbaaGreatDoor
namespace Go.Proofs.YtagjhmodblifbaaGreatDoor
open Go.Proofs.Tryz
def nW (n A:Nat):List Nat:=((digs 10 n A).map fJ).reverse
def xy (neg:Bool)(A p:Nat):List Nat:=(if neg then [45] else [])++(textOf false 10 (A / 10^p)++46::nW p A)
theorem mY (n A:Nat):(nW n A).length=n:=by simp [nW,wJ]
theorem BX (n m A:Nat):nW (n+m) A=nW m (A / 10^n)++nW n A:=by
 unfold nW;rw [uH,JJ,List.reverse_append]
theorem GR (n:Nat):nW n 0=List.replicate n 48:=by
 unfold nW;rw [vX,List.map_replicate,List.reverse_replicate];rfl
theorem KO {n m A:Nat}(h:A<10^m)(a:m≤n):nW n A=List.replicate (n - m) 48++nW m A:=by
 obtain ⟨k,rfl⟩:∃ k,n=m+k:=⟨n - m,by omega⟩
 rw [BX,QR h,GR,Nat.add_sub_cancel_left]
def Dg (m A:Nat):Prop:=1≤m∧A<10^m∧(m=1∨10^(m - 1)≤A)
theorem Ig:∀ A:Nat,∃ m,Dg m A
 | A=>by
  rcases QK A 10 with h | h
  ·exact ⟨1,by decide,h,.inl rfl⟩
  ·obtain ⟨m,h1,c,a⟩:=Ig (A / 10)
   have e:10^(m+1)=10^m*10:=Qo ..
   have b:10^m=10^(m - 1)*10:=by rw [← Qo];congr 1;omega
   refine ⟨m+1,by omega,by omega,.inr ?_⟩;rw [ZK]
   rcases a with rfl | a
   ·omega
   ·omega
theorem Ay {m A:Nat}(h:Dg m A):textOf false 10 A=nW m A:=by
 obtain ⟨h1,b,a⟩:=h
 by_cases h0:A=0
 ·subst h0
  have:m=1:=by
   rcases a with a | a
   ·exact a
   ·exact absurd a (Nat.not_le.2 (Qq (by decide)))
  subst this;rfl
 ·unfold textOf nW
  rw [if_neg h0,← zH (N:=m) (by decide) (QR b)]
  obtain ⟨k,rfl⟩:∃ k,m=k+1:=⟨m - 1,by omega⟩
  rw [zG,jd _ _ ?_]
  ·rfl
  ·rw [ZK] at a
   have c:A / 10^k<10:=by rw [Zt (Qq (by decide)),Qp,← Qo];exact b
   rw [Jo c]
   rcases a with a | a
   ·obtain rfl:k=0:=by omega
    simpa using h0
   ·have:=(JD (Qq (n:=k) (show 0<10 by decide))).2 (by rw [QD];exact a:1*10^k≤A)
    omega
theorem FD {m A:Nat}(h:Dg m A):(textOf false 10 A).length=m:=by rw [Ay h,mY]
theorem Mg (n A:Nat):∃ N,n≤N∧List.replicate (n - (textOf false 10 A).length) 48++textOf false 10 A=nW N A∧(N=n∧A<10^n∨Dg N A):=by
 obtain ⟨m,a⟩:=Ig A;rw [FD a,Ay a]
 rcases QK m n with h | h
 ·have b:=KO a.2.1 (Ju h)
  exact ⟨n,Qb _,b.symm,.inl ⟨rfl,Qf a.2.1 (Ql (by decide) (Ju h))⟩⟩
 ·refine ⟨m,h,?_,.inr a⟩
  rw [Nat.sub_eq_zero_of_le h];rfl
theorem Nf {p N A:Nat}(c:p+1≤N)(h:N=p+1∧A<10^(p+1)∨Dg N A):Dg (N - p) (A / 10^p):=by
 have a:=Qq (n:=p) (show 0<10 by decide)
 rcases h with ⟨rfl,h⟩ | ⟨h1,h2,h3⟩
 ·refine ⟨by omega,?_,.inl (by omega)⟩
  rw [Zt a,← Qt];exact Nat.lt_of_lt_of_eq h (by congr 1;omega)
 ·refine ⟨by omega,?_,?_⟩
  ·rw [Zt a,← Qt]
   exact Nat.lt_of_lt_of_eq h2 (by congr 1;omega)
  ·by_cases b:N=p+1
   ·exact .inl (by omega)
   ·refine .inr ((JD a).2 ?_)
    rw [← Qt]
    rcases h3 with h3 | h3
    ·omega
    ·exact Qd (Ql (by decide) (by omega)) h3
theorem GU (p A:Nat):∃ N,p≤N∧List.replicate (p+1 - (textOf false 10 A).length) 48++textOf false 10 A=nW N A∧(nW N A).take (N - p)=textOf false 10 (A / 10^p)∧(nW N A).drop (N - p)=nW p A:=by
 obtain ⟨N,h1,a,b⟩:=Mg (p+1) A;have c:=Nf h1 b
 have e:nW N A=nW (N - p) (A / 10^p)++nW p A:=by rw [← BX];congr 1;omega
 refine ⟨N,by omega,a,?_,?_⟩
 ·rw [e,Ay c,List.take_left' (mY _ _)]
 ·rw [e,List.drop_left' (mY _ _)]
theorem GV {A N:Nat}(h:A<10^N):(textOf false 10 A).length≤N+1:=by
 obtain ⟨m,b⟩:=Ig A;rw [FD b];obtain ⟨h1,c,a⟩:=b
 rcases a with a | a
 ·omega
 ·have:=(Zi (show 1<10 by decide)).1 (Qr a h)
  omega
end Go.Proofs.YtagjhmodblifbaaGreatDoor
namespace Go.Proofs.YtagjhmodblifbaaGreatDoor
open Go.Proofs.Tryz
open Go Go.RowKit Go.Shelf
structure FE (s:ByteArray) (neg:Bool) (l:List UInt8):Prop where
 bytes:s.data.toList=(if neg then [45] else [])++l
 first:neg=false→∀ c,l.head?=some c→c.toNat≠45
theorem Ac (b:Nat):∀ (l:List UInt8),¬(∀ c ∈ l,digitVal c.toNat<b)→∃ p,∃ h:p<l.length,¬digitVal (l[p]'h).toNat<b∧∀ i (hi:i<p),digitVal (l[i]'(by omega)).toNat<b
 | [],h=>absurd (fun c a=>by simp at a) h
 | c::t,h=>by
  by_cases a:digitVal c.toNat<b
  ·obtain ⟨p,k,h1,g⟩:=Ac b t (fun j=>h (fun d f=>by
    rcases Yy.1 f with rfl | f
    ·exact a
    ·exact j d f))
   refine ⟨p+1,by simp;omega,by simpa using h1,fun i hi=>?_⟩
   cases i with
   | zero=>simpa using a
   | succ i=>simpa using g i (by omega)
  ·exact ⟨0,by simp,by simpa using a,fun i hi=>by omega⟩
def xz (fa na:Bool)(base:Int)(A:Nat)(k:Int)(v:Value):Prop :=
 if fa=true∧2≤base∧base≤36 then k=0∧∃ s:ByteArray,v=.string s∧s.data.toList.map (·.toNat)=textOf na base.toNat A else k=1∧v=.string ByteArray.empty
def qL (base:Int)(neg:Bool)(l:List UInt8)(k:Int)(W:World)(v:Value):Prop :=
 if 2≤base∧base≤36 then (if l=[]∨¬∀ c ∈ l,digitVal c.toNat<base.toNat then k=2∧v=eQ else k=0∧ak W v (bX neg (di base.toNat l))) else k=1∧v=eQ
theorem KP (B:Nat)(na:Bool)(b:Option Addr)(c:Nat)(a:List Nat)(base:Int)(w:World)(l:af w B 24 (lN na b a.length c))(m:af w (B+1) 3 [vI base])
  (ha:Reads .u32 w (.slice b a.length c) a) (f:Limbs a) (h:au na a=false∨base<2∨36<base) :
  Calls prog 201 #[vP B,vP (B+1),vP (B+2)] w fun e p=>bW w p∧e=pK 1:=by
 obtain ⟨q,r⟩:=aQ l;have g:=af.new w 24 (lN na b a.length c);have i:=dJ w (.cells #[.bool na,.slice b a.length c] 24)
 cases fa:au na a with
 | false =>
  clear h;go_enter func201,ntmps201
  go_wp2_with (go_at_call 182;refine (tH _ na b c a _ g (ha.below i) f fa).mono ?_;rintro e w1 ⟨k,rfl⟩;have j:=i.trans (k.mono (by simp)))
  exact ⟨rfl,j,rfl⟩
 | true =>
  have d:base<2∨36<base:=by rw [fa] at h;exact h.resolve_left (by simp)
  have n:=Qa d;clear h d;go_enter func201,ntmps201
  go_wp2_with (first
   | (go_at_call 182;refine (gV _ _ b c a _ g (ha.below i) f fa).mono ?_;rintro e w1 ⟨k,rfl⟩;have j:=i.trans (k.mono (by simp));have o:=(m.below j).cell 0;simp only [Qc] at o)
   | (go_at_call 202;refine (zh _ _ n.out).mono ?_;rintro e s ⟨rfl,rfl⟩))
  exact ⟨rfl,j,rfl⟩
theorem KT (g:Value)(na:Bool)(c:List Nat)(base:Int)(w:World)(ha:dx w g na c)(t:gU w) :
 CB 171 #[g,vI base] w fun e _=>∃ s k,e=.returned (.tuple #[.string s,vI k])∧xz (au na c) na base (val c) k (.string s):=by
 by_cases d:au na c=true∧2≤base∧base≤36
 ·obtain ⟨o,r,z⟩:=d
  obtain ⟨b,rfl⟩:=JW (show 0≤base by omega);refine (LG g na c b w ha o (by omega) (by omega) t).mono ?_;rintro e D ⟨h1,s,rfl,hs⟩;refine ⟨h1,s,0,rfl,?_⟩;unfold xz;rw [if_pos ⟨o,r,z⟩];exact ⟨rfl,s,rfl,hs⟩
 ·refine (Ff g na c base w ha (fun k _ v=>k=1∧v=.string ByteArray.empty) (fun _ _ _ _ h _=>h) ?_).mono ?_
  ·intro B p q n u i l m j C
   obtain ⟨A,x,_,y⟩:=ha;refine (KP B na p q c base n i l j y ?_).mono ?_
   ·cases f:au na c with
    | false=>exact .inl rfl
    | true=>exact .inr (by rw [f] at d;simp at d;omega)
   ·rintro e W ⟨a,rfl⟩
    exact ⟨1,.inr rfl,(dF.refl _ n).aU a,ByteArray.empty,m.below a,rfl,rfl⟩
  ·rintro e W ⟨a,r0,k,rfl,rfl,rfl⟩
   refine ⟨a,_,_,rfl,?_⟩;unfold xz;rw [if_neg d];exact ⟨rfl,rfl⟩
theorem CY {b:Nat}(i:b≤36)(l:List UInt8)(h:∀ c ∈ l,digitVal c.toNat<b)(g:l.length≤400):di b l<aj^300:=by
 have h1:=uJ l h;have a:b^l.length≤64^l.length:=QU (by omega) _;have d:64^l.length≤64^400:=Ql (by decide) g
 have f:(64:Nat)^400<aj^300:=by
  rw [gX,show (64:Nat)=2^6 by rfl,← Jz];exact JV (by decide) (by decide)
 exact Qf h1 (Qd a (Qd d (Ju f)))
end Go.Proofs.YtagjhmodblifbaaGreatDoor
