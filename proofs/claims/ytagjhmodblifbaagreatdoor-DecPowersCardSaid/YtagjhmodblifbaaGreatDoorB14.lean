/- proved lemmas -/
import Derived.Test.YtagjhmodblifbaaGreatDoorMA
import Derived.Test.YtagjhmodblifbaaGreatDoorB00
import Derived.Test.YtagjhmodblifbaaGreatDoorB13
import Derived.Test.YtagjhmodblifbaaGreatDoorB01
import Derived.Laws.OwnMore
import Derived.Test.YtagjhmodblifbaaGreatDoorB08
import Derived.Test.YtagjhmodblifbaaGreatDoorB11
set_option maxHeartbeats 4000000
set_option maxRecDepth 100000
set_option exponentiation.threshold 100000
namespace Go.Proofs.YtagjhmodblifbaaGreatDoor
open Go.Proofs.Tryz
open Go Go.RowKit Go.Shelf
theorem Kz (v:Value)(i:Int)(w:World)(h:ak w v i)(hi:i.natAbs<aj^300) :
 CB 76 #[v] w fun e _=>e=.returned (.bool (decide (i.fmod 10=0))):=by
 obtain ⟨n1,a1,m1,c1,rfl⟩:=h.shape
 have kO:=fun X=>of_int 10 X (by decide) (by decide)
 have Z:=fun X (hX:bW w X) v (hv:ak X v 10)=>oG _ v i 10 X (h.below hX) hv hi (show (10:Int).natAbs<aj^300 from Qf (show 10<aj^1 by decide) (Ql aP (by decide))) (by decide)
 generalize i.fmod 10=r at *;generalize i.fdiv 10=q at *
 have kZ:=fun X v (hv:ak X v r)=>jh v r X hv
 obtain ⟨W0,hW,b0,q1⟩:=Lf w 24 (lN n1 a1 m1 c1);have dH:=fC (R:=dR) (ax q1 aS) trivial b0
 have B:=yO dH fun X h=>(aQ h.r0:)
 have C:∀ r ∈ ([(w.heap.size,24,(lN n1 a1 m1 c1))]:List (Nat × TypeId × List Value)),r.1<W0.heap.size:=fK q1.lt nA;have L:=b0.size;clear b0 q1 h hi;have HH:=Qa (And.intro C L);clear C L;go_enter func76,ntmps76
 go_upto_region 1 with (fail)
 rw [hW.out];clear hW
 go_cut [3,4] from 5 to 10 (fun v3 v4 W=>kJ W v4 r∧bW w W)
 case first =>
  obtain ⟨C,L⟩:=HH.out
  go_wp2_with fail
  refine bB B (bY dR.drew dH) fun X0 f=>?_
  refine tk 0 f ?_;refine wpAnyH_ready (rs:=[1,6,7]) (by kernel_rfl) (by simp) ?_;refine QA (o:=_) rfl (fun n d=>?_) ?_
  ·rw [if_pos (by rfl)];have hP:=f.2
   go_wp2_with (go_at_call 143;refine (kO _).mono ?_;rintro e Y ⟨j,v5,rfl,p⟩)
   refine aT d B (ag dR.step hP j) fun f=>?_
   clear d n hP j;refine wpAnyH_ready (rs:=[2,6,7]) (by kernel_rfl) (by simp) ?_;refine QA (o:=_) rfl (fun n d=>?_) ?_
   ·rw [if_pos (by rfl)];have hP:=f.2
    go_wp2_with (go_at_call 142;refine (Z _ hP.below _ p).mono ?_;rintro e Y ⟨j,g,a,m,c,Q,N,S,O,rfl,u,t⟩)
    replace p:=p.below j
    refine aT d B (ag dR.step hP j) fun f=>?_
    clear d n hP j;refine tk 3 f ?_;refine tk 4 f ?_;refine tk 5 f ?_;refine ql 6 7 (fun n d=>?_) (fun n d=>?_)
    ·have hP:=f.2
     obtain ⟨T,D,s,I,b⟩:=aL hP 24 (lN false none 0 0)
     go_wp2_with fail
     rw [D.out];clear D;replace p:=p.below b;replace u:=u.below b;replace t:=t.below b
     refine aT d B (ag dR.step hP b) fun f=>?_
     clear d n hP b
     refine rd 7 fun n d=>?_
     have hP:=f.2;have U:=Qg s.lt;obtain ⟨T,D,k,J,b⟩:=aL hP 24 (lN false none 0 0)
     go_wp2_with fail
     rw [D.out];clear D;replace p:=p.below b;replace u:=u.below b;replace t:=t.below b;replace s:=s.below b
     refine aT d B (ag dR.step hP b) fun f=>?_
     clear d n hP b
     refine rd 8 fun n d=>?_
     have hP:=f.2;obtain ⟨G,H,E,F⟩:=av s;obtain ⟨M,z,x,l,y,A⟩:=ay hP (dR.other _) (bP C I) (Qd L I) s (.bool g) (.slice a m c)
     go_wp2_with fail
     rw [z.out];replace p:=p.keep l;replace u:=u.keep l;replace t:=t.keep l;replace k:=A _ _ _ k U.symm;replace s:=y
     refine aT d B x fun f=>?_
     clear d n hP x z l y A G H E F
     refine rd 9 fun n d=>?_
     have hP:=f.2;obtain ⟨G,H,E,F⟩:=av k;obtain ⟨M,z,x,l,y,A⟩:=ay hP (dR.other _) (bP C J) (Qd L J) k (.bool Q) (.slice N S O)
     go_wp2_with fail
     rw [z.out];replace p:=p.keep l;replace u:=u.keep l;replace t:=t.keep l;replace s:=A _ _ _ s U;replace k:=y
     refine aT d B x fun f=>?_
     clear d n hP x z l y A G H E F;refine wpAnyH_done (by kernel_rfl) ?_ _;go_wp2
     go_meet
     exact ⟨⟨_,_,_,_,_,rfl,k,t⟩,f.2.below⟩
    have hP:=f.2;obtain ⟨T,D,k,J,b⟩:=aL hP 24 (lN false none 0 0)
    go_wp2_with fail
    rw [D.out];clear D;replace p:=p.below b;replace u:=u.below b;replace t:=t.below b
    refine aT d B (ag dR.step hP b) fun f=>?_
    clear d n hP b
    refine rd 6 fun n d=>?_
    have hP:=f.2;have V:=Qg k.lt;obtain ⟨T,D,s,I,b⟩:=aL hP 24 (lN false none 0 0)
    go_wp2_with fail
    rw [D.out];clear D;replace p:=p.below b;replace u:=u.below b;replace t:=t.below b;replace k:=k.below b
    refine aT d B (ag dR.step hP b) fun f=>?_
    clear d n hP b
    refine rd 8 fun n d=>?_
    have hP:=f.2;obtain ⟨G,H,E,F⟩:=av s;obtain ⟨M,z,x,l,y,A⟩:=ay hP (dR.other _) (bP C I) (Qd L I) s (.bool g) (.slice a m c)
    go_wp2_with fail
    rw [z.out];replace p:=p.keep l;replace u:=u.keep l;replace t:=t.keep l;replace k:=A _ _ _ k V;replace s:=y
    refine aT d B x fun f=>?_
    clear d n hP x z l y A G H E F
    refine rd 9 fun n d=>?_
    have hP:=f.2;obtain ⟨G,H,E,F⟩:=av k;obtain ⟨M,z,x,l,y,A⟩:=ay hP (dR.other _) (bP C J) (Qd L J) k (.bool Q) (.slice N S O)
    go_wp2_with fail
    rw [z.out];replace p:=p.keep l;replace u:=u.keep l;replace t:=t.keep l;replace s:=A _ _ _ s V.symm;replace k:=y
    refine aT d B x fun f=>?_
    clear d n hP x z l y A G H E F;refine wpAnyH_done (by kernel_rfl) ?_ _;go_wp2
    go_meet
    exact ⟨⟨_,_,_,_,_,rfl,k,t⟩,f.2.below⟩
   refine QA (o:=_) rfl (fun n d=>?_) ?_
   ·rw [if_pos (by rfl)];have hP:=f.2
    obtain ⟨T,D,s,I,b⟩:=aL hP 24 (lN false none 0 0)
    go_wp2_with fail
    rw [D.out];clear D;replace p:=p.below b
    refine aT d B (ag dR.step hP b) fun f=>?_
    clear d n hP b;refine ql 2 7 (fun n d=>?_) (fun n d=>?_)
    ·have hP:=f.2
     go_wp2_with (go_at_call 142;refine (Z _ hP.below _ p).mono ?_;rintro e Y ⟨j,g,a,m,c,Q,N,S,O,rfl,u,t⟩)
     replace p:=p.below j;replace s:=s.below j
     refine aT d B (ag dR.step hP j) fun f=>?_
     clear d n hP j;refine tk 3 f ?_;refine tk 4 f ?_;refine tk 5 f ?_
     refine rd 7 fun n d=>?_
     have hP:=f.2;have U:=Qg s.lt;obtain ⟨T,D,k,J,b⟩:=aL hP 24 (lN false none 0 0)
     go_wp2_with fail
     rw [D.out];clear D;replace p:=p.below b;replace s:=s.below b;replace u:=u.below b;replace t:=t.below b
     refine aT d B (ag dR.step hP b) fun f=>?_
     clear d n hP b
     refine rd 8 fun n d=>?_
     have hP:=f.2;obtain ⟨G,H,E,F⟩:=av s;obtain ⟨M,z,x,l,y,A⟩:=ay hP (dR.other _) (bP C I) (Qd L I) s (.bool g) (.slice a m c)
     go_wp2_with fail
     rw [z.out];replace p:=p.keep l;replace u:=u.keep l;replace t:=t.keep l;replace k:=A _ _ _ k U.symm;replace s:=y
     refine aT d B x fun f=>?_
     clear d n hP x z l y A G H E F
     refine rd 9 fun n d=>?_
     have hP:=f.2;obtain ⟨G,H,E,F⟩:=av k;obtain ⟨M,z,x,l,y,A⟩:=ay hP (dR.other _) (bP C J) (Qd L J) k (.bool Q) (.slice N S O)
     go_wp2_with fail
     rw [z.out];replace p:=p.keep l;replace s:=A _ _ _ s U;replace u:=u.keep l;replace t:=t.keep l;replace k:=y
     refine aT d B x fun f=>?_
     clear d n hP x z l y A G H E F;refine wpAnyH_done (by kernel_rfl) ?_ _;go_wp2
     go_meet
     exact ⟨⟨_,_,_,_,_,rfl,k,t⟩,f.2.below⟩
    have hP:=f.2;have U:=Qg s.lt;obtain ⟨T,D,k,J,b⟩:=aL hP 24 (lN false none 0 0)
    go_wp2_with fail
    rw [D.out];clear D;replace p:=p.below b;replace s:=s.below b
    refine aT d B (ag dR.step hP b) fun f=>?_
    clear d n hP b
    refine rd 2 fun n d=>?_
    have hP:=f.2
    go_wp2_with (go_at_call 142;refine (Z _ hP.below _ p).mono ?_;rintro e Y ⟨j,g,a,m,c,Q,N,S,O,rfl,u,t⟩)
    replace p:=p.below j;replace s:=s.below j;replace k:=k.below j
    refine aT d B (ag dR.step hP j) fun f=>?_
    clear d n hP j;refine tk 3 f ?_;refine tk 4 f ?_;refine tk 5 f ?_
    refine rd 8 fun n d=>?_
    have hP:=f.2;obtain ⟨G,H,E,F⟩:=av s;obtain ⟨M,z,x,l,y,A⟩:=ay hP (dR.other _) (bP C I) (Qd L I) s (.bool g) (.slice a m c)
    go_wp2_with fail
    rw [z.out];replace p:=p.keep l;replace k:=A _ _ _ k U.symm;replace u:=u.keep l;replace t:=t.keep l;replace s:=y
    refine aT d B x fun f=>?_
    clear d n hP x z l y A G H E F
    refine rd 9 fun n d=>?_
    have hP:=f.2;obtain ⟨G,H,E,F⟩:=av k;obtain ⟨M,z,x,l,y,A⟩:=ay hP (dR.other _) (bP C J) (Qd L J) k (.bool Q) (.slice N S O)
    go_wp2_with fail
    rw [z.out];replace p:=p.keep l;replace s:=A _ _ _ s U;replace u:=u.keep l;replace t:=t.keep l;replace k:=y
    refine aT d B x fun f=>?_
    clear d n hP x z l y A G H E F;refine wpAnyH_done (by kernel_rfl) ?_ _;go_wp2
    go_meet
    exact ⟨⟨_,_,_,_,_,rfl,k,t⟩,f.2.below⟩
   refine QA (o:=_) rfl (fun n d=>?_) QM;rw [if_pos (by rfl)];have hP:=f.2;obtain ⟨T,D,k,J,b⟩:=aL hP 24 (lN false none 0 0)
   go_wp2_with fail
   rw [D.out];clear D;replace p:=p.below b
   refine aT d B (ag dR.step hP b) fun f=>?_
   clear d n hP b;refine ql 2 6 (fun n d=>?_) (fun n d=>?_)
   ·have hP:=f.2
    go_wp2_with (go_at_call 142;refine (Z _ hP.below _ p).mono ?_;rintro e Y ⟨j,g,a,m,c,Q,N,S,O,rfl,u,t⟩)
    replace p:=p.below j;replace k:=k.below j
    refine aT d B (ag dR.step hP j) fun f=>?_
    clear d n hP j;refine tk 3 f ?_;refine tk 4 f ?_;refine tk 5 f ?_
    refine rd 6 fun n d=>?_
    have hP:=f.2;have V:=Qg k.lt;obtain ⟨T,D,s,I,b⟩:=aL hP 24 (lN false none 0 0)
    go_wp2_with fail
    rw [D.out];clear D;replace p:=p.below b;replace k:=k.below b;replace u:=u.below b;replace t:=t.below b
    refine aT d B (ag dR.step hP b) fun f=>?_
    clear d n hP b
    refine rd 8 fun n d=>?_
    have hP:=f.2;obtain ⟨G,H,E,F⟩:=av s;obtain ⟨M,z,x,l,y,A⟩:=ay hP (dR.other _) (bP C I) (Qd L I) s (.bool g) (.slice a m c)
    go_wp2_with fail
    rw [z.out];replace p:=p.keep l;replace k:=A _ _ _ k V;replace u:=u.keep l;replace t:=t.keep l;replace s:=y
    refine aT d B x fun f=>?_
    clear d n hP x z l y A G H E F
    refine rd 9 fun n d=>?_
    have hP:=f.2;obtain ⟨G,H,E,F⟩:=av k;obtain ⟨M,z,x,l,y,A⟩:=ay hP (dR.other _) (bP C J) (Qd L J) k (.bool Q) (.slice N S O)
    go_wp2_with fail
    rw [z.out];replace p:=p.keep l;replace u:=u.keep l;replace t:=t.keep l;replace s:=A _ _ _ s V.symm;replace k:=y
    refine aT d B x fun f=>?_
    clear d n hP x z l y A G H E F;refine wpAnyH_done (by kernel_rfl) ?_ _;go_wp2
    go_meet
    exact ⟨⟨_,_,_,_,_,rfl,k,t⟩,f.2.below⟩
   have hP:=f.2;have V:=Qg k.lt;obtain ⟨T,D,s,I,b⟩:=aL hP 24 (lN false none 0 0)
   go_wp2_with fail
   rw [D.out];clear D;replace p:=p.below b;replace k:=k.below b
   refine aT d B (ag dR.step hP b) fun f=>?_
   clear d n hP b
   refine rd 2 fun n d=>?_
   have hP:=f.2
   go_wp2_with (go_at_call 142;refine (Z _ hP.below _ p).mono ?_;rintro e Y ⟨j,g,a,m,c,Q,N,S,O,rfl,u,t⟩)
   replace p:=p.below j;replace k:=k.below j;replace s:=s.below j
   refine aT d B (ag dR.step hP j) fun f=>?_
   clear d n hP j;refine tk 3 f ?_;refine tk 4 f ?_;refine tk 5 f ?_
   refine rd 8 fun n d=>?_
   have hP:=f.2;obtain ⟨G,H,E,F⟩:=av s;obtain ⟨M,z,x,l,y,A⟩:=ay hP (dR.other _) (bP C I) (Qd L I) s (.bool g) (.slice a m c)
   go_wp2_with fail
   rw [z.out];replace p:=p.keep l;replace k:=A _ _ _ k V;replace u:=u.keep l;replace t:=t.keep l;replace s:=y
   refine aT d B x fun f=>?_
   clear d n hP x z l y A G H E F
   refine rd 9 fun n d=>?_
   have hP:=f.2;obtain ⟨G,H,E,F⟩:=av k;obtain ⟨M,z,x,l,y,A⟩:=ay hP (dR.other _) (bP C J) (Qd L J) k (.bool Q) (.slice N S O)
   go_wp2_with fail
   rw [z.out];replace p:=p.keep l;replace s:=A _ _ _ s V.symm;replace u:=u.keep l;replace t:=t.keep l;replace k:=y
   refine aT d B x fun f=>?_
   clear d n hP x z l y A G H E F;refine wpAnyH_done (by kernel_rfl) ?_ _;go_wp2
   go_meet
   exact ⟨⟨_,_,_,_,_,rfl,k,t⟩,f.2.below⟩
  refine QA (o:=_) rfl (fun n d=>?_) ?_
  ·rw [if_pos (by rfl)];have hP:=f.2
   obtain ⟨T,D,s,I,b⟩:=aL hP 24 (lN false none 0 0)
   go_wp2_with fail
   rw [D.out];clear D
   refine aT d B (ag dR.step hP b) fun f=>?_
   clear d n hP b;refine ql 1 7 (fun n d=>?_) (fun n d=>?_)
   ·have hP:=f.2
    go_wp2_with (go_at_call 143;refine (kO _).mono ?_;rintro e Y ⟨j,v5,rfl,p⟩)
    replace s:=s.below j
    refine aT d B (ag dR.step hP j) fun f=>?_
    clear d n hP j;refine ql 2 7 (fun n d=>?_) (fun n d=>?_)
    ·have hP:=f.2
     go_wp2_with (go_at_call 142;refine (Z _ hP.below _ p).mono ?_;rintro e Y ⟨j,g,a,m,c,Q,N,S,O,rfl,u,t⟩)
     replace s:=s.below j;replace p:=p.below j
     refine aT d B (ag dR.step hP j) fun f=>?_
     clear d n hP j;refine tk 3 f ?_;refine tk 4 f ?_;refine tk 5 f ?_
     refine rd 7 fun n d=>?_
     have hP:=f.2;have U:=Qg s.lt;obtain ⟨T,D,k,J,b⟩:=aL hP 24 (lN false none 0 0)
     go_wp2_with fail
     rw [D.out];clear D;replace s:=s.below b;replace p:=p.below b;replace u:=u.below b;replace t:=t.below b
     refine aT d B (ag dR.step hP b) fun f=>?_
     clear d n hP b
     refine rd 8 fun n d=>?_
     have hP:=f.2;obtain ⟨G,H,E,F⟩:=av s;obtain ⟨M,z,x,l,y,A⟩:=ay hP (dR.other _) (bP C I) (Qd L I) s (.bool g) (.slice a m c)
     go_wp2_with fail
     rw [z.out];replace p:=p.keep l;replace u:=u.keep l;replace t:=t.keep l;replace k:=A _ _ _ k U.symm;replace s:=y
     refine aT d B x fun f=>?_
     clear d n hP x z l y A G H E F
     refine rd 9 fun n d=>?_
     have hP:=f.2;obtain ⟨G,H,E,F⟩:=av k;obtain ⟨M,z,x,l,y,A⟩:=ay hP (dR.other _) (bP C J) (Qd L J) k (.bool Q) (.slice N S O)
     go_wp2_with fail
     rw [z.out];replace s:=A _ _ _ s U;replace p:=p.keep l;replace u:=u.keep l;replace t:=t.keep l;replace k:=y
     refine aT d B x fun f=>?_
     clear d n hP x z l y A G H E F;refine wpAnyH_done (by kernel_rfl) ?_ _;go_wp2
     go_meet
     exact ⟨⟨_,_,_,_,_,rfl,k,t⟩,f.2.below⟩
    have hP:=f.2;have U:=Qg s.lt;obtain ⟨T,D,k,J,b⟩:=aL hP 24 (lN false none 0 0)
    go_wp2_with fail
    rw [D.out];clear D;replace s:=s.below b;replace p:=p.below b
    refine aT d B (ag dR.step hP b) fun f=>?_
    clear d n hP b
    refine rd 2 fun n d=>?_
    have hP:=f.2
    go_wp2_with (go_at_call 142;refine (Z _ hP.below _ p).mono ?_;rintro e Y ⟨j,g,a,m,c,Q,N,S,O,rfl,u,t⟩)
    replace s:=s.below j;replace p:=p.below j;replace k:=k.below j
    refine aT d B (ag dR.step hP j) fun f=>?_
    clear d n hP j;refine tk 3 f ?_;refine tk 4 f ?_;refine tk 5 f ?_
    refine rd 8 fun n d=>?_
    have hP:=f.2;obtain ⟨G,H,E,F⟩:=av s;obtain ⟨M,z,x,l,y,A⟩:=ay hP (dR.other _) (bP C I) (Qd L I) s (.bool g) (.slice a m c)
    go_wp2_with fail
    rw [z.out];replace p:=p.keep l;replace k:=A _ _ _ k U.symm;replace u:=u.keep l;replace t:=t.keep l;replace s:=y
    refine aT d B x fun f=>?_
    clear d n hP x z l y A G H E F
    refine rd 9 fun n d=>?_
    have hP:=f.2;obtain ⟨G,H,E,F⟩:=av k;obtain ⟨M,z,x,l,y,A⟩:=ay hP (dR.other _) (bP C J) (Qd L J) k (.bool Q) (.slice N S O)
    go_wp2_with fail
    rw [z.out];replace s:=A _ _ _ s U;replace p:=p.keep l;replace u:=u.keep l;replace t:=t.keep l;replace k:=y
    refine aT d B x fun f=>?_
    clear d n hP x z l y A G H E F;refine wpAnyH_done (by kernel_rfl) ?_ _;go_wp2
    go_meet
    exact ⟨⟨_,_,_,_,_,rfl,k,t⟩,f.2.below⟩
   have hP:=f.2;have U:=Qg s.lt;obtain ⟨T,D,k,J,b⟩:=aL hP 24 (lN false none 0 0)
   go_wp2_with fail
   rw [D.out];clear D;replace s:=s.below b
   refine aT d B (ag dR.step hP b) fun f=>?_
   clear d n hP b
   refine rd 1 fun n d=>?_
   have hP:=f.2
   go_wp2_with (go_at_call 143;refine (kO _).mono ?_;rintro e Y ⟨j,v5,rfl,p⟩)
   replace s:=s.below j;replace k:=k.below j
   refine aT d B (ag dR.step hP j) fun f=>?_
   clear d n hP j
   refine rd 2 fun n d=>?_
   have hP:=f.2
   go_wp2_with (go_at_call 142;refine (Z _ hP.below _ p).mono ?_;rintro e Y ⟨j,g,a,m,c,Q,N,S,O,rfl,u,t⟩)
   replace s:=s.below j;replace k:=k.below j;replace p:=p.below j
   refine aT d B (ag dR.step hP j) fun f=>?_
   clear d n hP j;refine tk 3 f ?_;refine tk 4 f ?_;refine tk 5 f ?_
   refine rd 8 fun n d=>?_
   have hP:=f.2;obtain ⟨G,H,E,F⟩:=av s;obtain ⟨M,z,x,l,y,A⟩:=ay hP (dR.other _) (bP C I) (Qd L I) s (.bool g) (.slice a m c)
   go_wp2_with fail
   rw [z.out];replace k:=A _ _ _ k U.symm;replace p:=p.keep l;replace u:=u.keep l;replace t:=t.keep l;replace s:=y
   refine aT d B x fun f=>?_
   clear d n hP x z l y A G H E F
   refine rd 9 fun n d=>?_
   have hP:=f.2;obtain ⟨G,H,E,F⟩:=av k;obtain ⟨M,z,x,l,y,A⟩:=ay hP (dR.other _) (bP C J) (Qd L J) k (.bool Q) (.slice N S O)
   go_wp2_with fail
   rw [z.out];replace s:=A _ _ _ s U;replace p:=p.keep l;replace u:=u.keep l;replace t:=t.keep l;replace k:=y
   refine aT d B x fun f=>?_
   clear d n hP x z l y A G H E F;refine wpAnyH_done (by kernel_rfl) ?_ _;go_wp2
   go_meet
   exact ⟨⟨_,_,_,_,_,rfl,k,t⟩,f.2.below⟩
  refine QA (o:=_) rfl (fun n d=>?_) QM;rw [if_pos (by rfl)];have hP:=f.2;obtain ⟨T,D,k,J,b⟩:=aL hP 24 (lN false none 0 0)
  go_wp2_with fail
  rw [D.out];clear D
  refine aT d B (ag dR.step hP b) fun f=>?_
  clear d n hP b;refine ql 1 6 (fun n d=>?_) (fun n d=>?_)
  ·have hP:=f.2
   go_wp2_with (go_at_call 143;refine (kO _).mono ?_;rintro e Y ⟨j,v5,rfl,p⟩)
   replace k:=k.below j
   refine aT d B (ag dR.step hP j) fun f=>?_
   clear d n hP j;refine ql 2 6 (fun n d=>?_) (fun n d=>?_)
   ·have hP:=f.2
    go_wp2_with (go_at_call 142;refine (Z _ hP.below _ p).mono ?_;rintro e Y ⟨j,g,a,m,c,Q,N,S,O,rfl,u,t⟩)
    replace k:=k.below j;replace p:=p.below j
    refine aT d B (ag dR.step hP j) fun f=>?_
    clear d n hP j;refine tk 3 f ?_;refine tk 4 f ?_;refine tk 5 f ?_
    refine rd 6 fun n d=>?_
    have hP:=f.2;have V:=Qg k.lt;obtain ⟨T,D,s,I,b⟩:=aL hP 24 (lN false none 0 0)
    go_wp2_with fail
    rw [D.out];clear D;replace k:=k.below b;replace p:=p.below b;replace u:=u.below b;replace t:=t.below b
    refine aT d B (ag dR.step hP b) fun f=>?_
    clear d n hP b
    refine rd 8 fun n d=>?_
    have hP:=f.2;obtain ⟨G,H,E,F⟩:=av s;obtain ⟨M,z,x,l,y,A⟩:=ay hP (dR.other _) (bP C I) (Qd L I) s (.bool g) (.slice a m c)
    go_wp2_with fail
    rw [z.out];replace k:=A _ _ _ k V;replace p:=p.keep l;replace u:=u.keep l;replace t:=t.keep l;replace s:=y
    refine aT d B x fun f=>?_
    clear d n hP x z l y A G H E F
    refine rd 9 fun n d=>?_
    have hP:=f.2;obtain ⟨G,H,E,F⟩:=av k;obtain ⟨M,z,x,l,y,A⟩:=ay hP (dR.other _) (bP C J) (Qd L J) k (.bool Q) (.slice N S O)
    go_wp2_with fail
    rw [z.out];replace p:=p.keep l;replace u:=u.keep l;replace t:=t.keep l;replace s:=A _ _ _ s V.symm;replace k:=y
    refine aT d B x fun f=>?_
    clear d n hP x z l y A G H E F;refine wpAnyH_done (by kernel_rfl) ?_ _;go_wp2
    go_meet
    exact ⟨⟨_,_,_,_,_,rfl,k,t⟩,f.2.below⟩
   have hP:=f.2;have V:=Qg k.lt;obtain ⟨T,D,s,I,b⟩:=aL hP 24 (lN false none 0 0)
   go_wp2_with fail
   rw [D.out];clear D;replace k:=k.below b;replace p:=p.below b
   refine aT d B (ag dR.step hP b) fun f=>?_
   clear d n hP b
   refine rd 2 fun n d=>?_
   have hP:=f.2
   go_wp2_with (go_at_call 142;refine (Z _ hP.below _ p).mono ?_;rintro e Y ⟨j,g,a,m,c,Q,N,S,O,rfl,u,t⟩)
   replace k:=k.below j;replace p:=p.below j;replace s:=s.below j
   refine aT d B (ag dR.step hP j) fun f=>?_
   clear d n hP j;refine tk 3 f ?_;refine tk 4 f ?_;refine tk 5 f ?_
   refine rd 8 fun n d=>?_
   have hP:=f.2;obtain ⟨G,H,E,F⟩:=av s;obtain ⟨M,z,x,l,y,A⟩:=ay hP (dR.other _) (bP C I) (Qd L I) s (.bool g) (.slice a m c)
   go_wp2_with fail
   rw [z.out];replace k:=A _ _ _ k V;replace p:=p.keep l;replace u:=u.keep l;replace t:=t.keep l;replace s:=y
   refine aT d B x fun f=>?_
   clear d n hP x z l y A G H E F
   refine rd 9 fun n d=>?_
   have hP:=f.2;obtain ⟨G,H,E,F⟩:=av k;obtain ⟨M,z,x,l,y,A⟩:=ay hP (dR.other _) (bP C J) (Qd L J) k (.bool Q) (.slice N S O)
   go_wp2_with fail
   rw [z.out];replace p:=p.keep l;replace s:=A _ _ _ s V.symm;replace u:=u.keep l;replace t:=t.keep l;replace k:=y
   refine aT d B x fun f=>?_
   clear d n hP x z l y A G H E F;refine wpAnyH_done (by kernel_rfl) ?_ _;go_wp2
   go_meet
   exact ⟨⟨_,_,_,_,_,rfl,k,t⟩,f.2.below⟩
  have hP:=f.2;have V:=Qg k.lt;obtain ⟨T,D,s,I,b⟩:=aL hP 24 (lN false none 0 0)
  go_wp2_with fail
  rw [D.out];clear D;replace k:=k.below b
  refine aT d B (ag dR.step hP b) fun f=>?_
  clear d n hP b
  refine rd 1 fun n d=>?_
  have hP:=f.2
  go_wp2_with (go_at_call 143;refine (kO _).mono ?_;rintro e Y ⟨j,v5,rfl,p⟩)
  replace k:=k.below j;replace s:=s.below j
  refine aT d B (ag dR.step hP j) fun f=>?_
  clear d n hP j
  refine rd 2 fun n d=>?_
  have hP:=f.2
  go_wp2_with (go_at_call 142;refine (Z _ hP.below _ p).mono ?_;rintro e Y ⟨j,g,a,m,c,Q,N,S,O,rfl,u,t⟩)
  replace k:=k.below j;replace s:=s.below j;replace p:=p.below j
  refine aT d B (ag dR.step hP j) fun f=>?_
  clear d n hP j;refine tk 3 f ?_;refine tk 4 f ?_;refine tk 5 f ?_
  refine rd 8 fun n d=>?_
  have hP:=f.2;obtain ⟨G,H,E,F⟩:=av s;obtain ⟨M,z,x,l,y,A⟩:=ay hP (dR.other _) (bP C I) (Qd L I) s (.bool g) (.slice a m c)
  go_wp2_with fail
  rw [z.out];replace k:=A _ _ _ k V;replace p:=p.keep l;replace u:=u.keep l;replace t:=t.keep l;replace s:=y
  refine aT d B x fun f=>?_
  clear d n hP x z l y A G H E F
  refine rd 9 fun n d=>?_
  have hP:=f.2;obtain ⟨G,H,E,F⟩:=av k;obtain ⟨M,z,x,l,y,A⟩:=ay hP (dR.other _) (bP C J) (Qd L J) k (.bool Q) (.slice N S O)
  go_wp2_with fail
  rw [z.out];replace s:=A _ _ _ s V.symm;replace p:=p.keep l;replace u:=u.keep l;replace t:=t.keep l;replace k:=y
  refine aT d B x fun f=>?_
  clear d n hP x z l y A G H E F;refine wpAnyH_done (by kernel_rfl) ?_ _;go_wp2
  go_meet
  exact ⟨⟨_,_,_,_,_,rfl,k,t⟩,f.2.below⟩
 case rest =>
  obtain ⟨⟨b4,n4,a4,m4,c4,rfl,r4,i4⟩,a0⟩:=hcut;obtain ⟨d0,d1⟩:=aQ r4;clear kO Z dH B HH r4
  go_wp2_with (go_at_call 144;refine (kZ _ _ i4).mono ?_;rintro e w5 ⟨a2,rfl⟩)
  go_ret;exact ⟨a0.trans (a2.mono a0.size),rfl⟩
theorem Ew (v:Value)(xs:List Nat)(w:World)(h:Reads .u32 w v xs)(F:xs.length≤1000000) :
 CB 148 #[v] w fun e B=>∃ o,e=.returned o∧Reads .u32 B o xs:=by
 obtain ⟨a,d,rfl,D,E⟩:=h.form
 by_cases q:xs=[]
 ·subst q
  have h0:∀ (a:Addr) (w:World),(loadCellsFrom a 0 0 #[]).run prog w=.ok #[] w:=fun a w=>by simp [loadCellsFrom]
  cases a with
  | none =>
   have n:∀ w:World,(binOp .eql 22 (.slice none 0 d) vZ).run prog w=.ok (.bool true) w:=fun _=>rfl
   go_enter func148,ntmps148;go_wp2;go_ret;exact ⟨Qj _ _,_,rfl,Reads.nil _ _⟩
  | some a =>
   have n:∀ w:World,(binOp .eql 22 (.slice (some a) 0 d) vZ).run prog w=.ok vF w:=fun _=>rfl
   go_enter func148,ntmps148;go_wp2;go_ret;exact ⟨dJ _ _,_,rfl,⟨some _,0,rfl,Qb _,by decide,fun i hi=>absurd hi (Nat.not_lt_zero _)⟩⟩
 ·obtain ⟨x,hi,l⟩:=Js.1 fV
  simp only [Prod.mk.injEq] at l;obtain ⟨r,s,t⟩:=l;have m:=h.below (dJ _ (.cells #[] 128));obtain ⟨C,y,n,_,_,hr⟩:=m;cases n;obtain ⟨⟨b,off,rfl⟩,_⟩:=hr 0 (Zb.2 q)
  have c:∀ j u,(aF xs)[j]?=some u→(w.alloc (.cells #[] 128)).cell? ((⟨b,off,none⟩:Addr).add j)=some u:=by
   intro j u p
   have z:j<xs.length:=by
    have:=(ZH.1 p).1;simpa [aF] using this
   have m:=(hr j z).2;rw [iY] at m;rw [JO,m];simp [aF,Qs z] at p ⊢;exact p
  have hown:=World.ownsRow_lit (base:=w.heap.size) (size:=1) (e:=128) w #[] 0 (Qb _) (by decide) rfl
  have n:∀ w:World,(binOp .eql 22 (.slice (some ⟨b,off,none⟩) xs.length d) vZ).run prog w=.ok vF w:=fun _=>rfl
  have A:=Qa c;clear c hr q;go_enter func148,ntmps148
  go_wp2_with (at_builtin;go_loud (refine wpList_append_own _ rfl _ _ 22 rfl w.heap.size 128 x (.int .u32 0) 1 4 aG hi r s t rfl (by decide) _ _ _ rfl hown ⟨b,off,none⟩ xs.length d (aF xs) rfl (by simp [aF]) A.out (by simp [aF,Value.oneCell']) (by unfold maxLen;omega) (by omega) (by simp) ?_);intro o w1 g f _)
  go_ret;exact ⟨(dJ _ _).grown f (by simp) (fun k e=>by cases e;exact Qb _),o,rfl,Reads.ou (by simpa [aF] using g)⟩
def stepN:Nat→Int × Nat→Int × Nat
 | 0,x=>x
 | k+1,x=>dQ (2^(4 - k)) (stepN k x)
theorem CL (z:Nat)(x:Int × Nat):(dQ z x).1.natAbs≤x.1.natAbs:=by
 unfold dQ;split
 ·exact Qb _
 ·split
  ·show (x.1 / 10^z).natAbs≤_
   rename_i h;have h1:=YF x.1 (10^z);rw [h,Int.add_zero] at h1
   have a:x.1.natAbs=(10^z:Int).natAbs*(x.1 / 10^z).natAbs:=by rw [← Zl,h1]
   have b:1≤(10^z:Int).natAbs:=by
    have:=rR z;omega
   rw [a];exact ZZ _ b
  ·exact Qb _
def NM (w:World)(x0:Int × Nat)(v1 v14:Value)(W:World):Prop:=∃ k n a m c,k≤5∧1≤(stepN k x0).2∧(stepN k x0).2≤32∧(stepN k x0).1.natAbs<aj^300∧v1=vI ((stepN k x0).2:Int)∧v14=vI k∧af W w.heap.size 24 (lN n a m c)∧ak W (vN n a m c) (stepN k x0).1∧af W (w.heap.size+1) 27 (lV 0 0 false none 0 0 ⟨#[]⟩ none 0 0)∧bW w W
def mo (W:World)(e:Ending)(x:Int × Nat):Prop:=if x.1.natAbs<aj^40 then ∃ v,e=.returned v∧dX W v x.1 x.2 else e=pK 3
theorem CO {W:World}{n:Bool}{a:Option Addr}{m c:Nat}{i:Int}(h:ak W (vN n a m c) i):m≤40↔i.natAbs<aj^40:=by
 obtain ⟨neg,k,xs,e,hr,d,j,rfl⟩:=h;simp only [Value.agg.injEq,Array.mk.injEq,List.cons.injEq,Value.bool.injEq,and_true] at e;obtain ⟨rfl,rfl⟩:=e;obtain ⟨f,g,b,-,-⟩:=hr.form;simp only [Value.slice.injEq] at b;obtain ⟨-,rfl,-⟩:=b;rw [bM];exact bS d 40
theorem Ex {W:World}{n:Bool}{a:Option Addr}{m c:Nat}{i:Int}(h:ak W (vN n a m c) i)(r:m≤1000000) :
  Calls prog 148 #[.slice a m c] W fun e k=>bW W k∧∃ b j d,e=.returned (.slice b j d)∧ak k (vN n b j d) i:=by
 obtain ⟨neg,s,xs,e,hr,o,p,rfl⟩:=h;simp only [Value.agg.injEq,Array.mk.injEq,List.cons.injEq,Value.bool.injEq,and_true] at e;obtain ⟨rfl,rfl⟩:=e
 have q:xs.length=m:=by
  obtain ⟨b,d,f,-,-⟩:=hr.form;simp only [Value.slice.injEq] at f;exact f.2.1.symm
 refine (Ew _ xs W hr (by omega)).mono ?_;rintro e t ⟨l,v,rfl,g⟩;obtain ⟨a2,c2,rfl,-,-⟩:=g.form;exact ⟨l,a2,_,c2,rfl,n,_,xs,rfl,g,o,p,rfl⟩
theorem fdiv_pow (i:Int)(z:Nat):i.fdiv ((10^z:Nat):Int)=i / 10^z∧i.fmod ((10^z:Nat):Int)=i % 10^z:=by
 have h:=rR z;rw [xH];exact ⟨Zq _ (by omega),ZQ _ (by omega)⟩
theorem Bl {a:Int × Nat}{k:Nat}(h1:1≤(stepN k a).2)(c:(stepN k a).2≤32)(d:(stepN k a).1.natAbs<aj^300):1≤(stepN (k+1) a).2∧(stepN (k+1) a).2≤32∧(stepN (k+1) a).1.natAbs<aj^300:=by
 have b:=jJ (z:=2^(4 - k)) (stepN k a) h1;exact ⟨b.1,Qd b.2 c,Qr (CL _ _) d⟩
theorem zV (v:Value)(i:Int)(p:Nat)(w:World)(h:ak w v i)(hp:p≤32)(hi:i.natAbs<aj^300) :
  Calls prog 83 #[v,vI p] w fun e w'=>bW w w'∧mo w' e (least i p):=by
 obtain ⟨n1,a1,m1,c1,rfl⟩:=h.shape;obtain ⟨W0,hW,b0,q1,qr⟩:=vk w 24 (lN n1 a1 m1 c1);have h0:=h.below b0
 have kS:=fun X (hX:bW w X)=>lU _ i 1 X (h.below hX) (by decide) hi
 have kN:=fun X (hX:bW w X)=>zU _ i 1 X (h.below hX) (by decide) hi
 simp only [Xp,Yf] at kS kN
 obtain ⟨x0,ab⟩:∃ x0:Int × Nat,(if p=0 then (i*10,1) else (i,p))=x0:=⟨_,rfl⟩
 have hl:least i p=mi x0.1 x0.2:=by
  rw [← ab];split
  ·rename_i h
   subst h;exact (oM (i:=i*10) (p:=1) (by decide) (by decide)).symm
  ·exact (oM (i:=i) (p:=p) (by omega) (by omega)).symm
 rw [hl]
 obtain ⟨R,hR⟩:∃ R:World→Ending→Prop,R=fun W e=>mo W e (mi x0.1 x0.2):=⟨_,rfl⟩
 have HR:Hid (∀ W e,mo W e (mi x0.1 x0.2)→R W e):=Qa fun W e h=>by rw [hR];exact h
 rw [show (fun e w'=>bW w w'∧mo w' e (mi x0.1 x0.2))=(fun e w'=>bW w w'∧R w' e) by rw [hR]];clear hR hl;have d0:=q1.cell 0;have d1:=q1.cell 1;have J:=q1.frozen 0;have L:=q1.frozen 1;simp only [Qc,Qe] at d0 d1;have HQ:=Qa (And.intro q1 (And.intro qr (And.intro b0 h0)));clear q1 qr h0 h;go_enter func83,ntmps83
 go_upto_region 1 with (fail)
 rw [hW.out];clear hW
 go_upto_if 10 with (fail)
 go_cut [1] from 9 to 12 (fun v1 W=>NM w x0 v1 (vI 0) W)
 case first =>
  obtain ⟨q1,qr,b0,h0⟩:=HQ.out
  by_cases aq:p=0
  ·subst aq
   rw [if_pos rfl] at ab;subst ab
   by_cases hf:(i*10).natAbs<aj^300
   ·replace kS:=fun X hX=>kS X hX hf
    clear kN HR
    go_wp2_with (go_at_call 108;refine (kS _ b0).mono ?_;rintro e w1 ⟨ad,v5,rfl,hI⟩;obtain ⟨n2,a2,m2,c2,rfl⟩:=hI.shape;have q3:=q1.below ad;obtain ⟨M,N,g0,g1⟩:=av q3)
    go_meet
    have ar:=b0.trans (ad.mono b0.size);exact ⟨0,n2,a2,m2,c2,by omega,by simp [stepN],by simp [stepN],hf,rfl,rfl,(q3.set 0 (.bool n2)).set 1 (.slice a2 m2 c2),hI.keep (aV q3 _ _),((qr.below ad).other (show w.heap.size+1≠w.heap.size by omega) _).other (show w.heap.size+1≠w.heap.size by omega) _,(ar.setCell (Qb _) _).setCell (Qb _) _⟩
   ·replace kN:=fun X hX=>kN X hX hf
    have ap:∀ W,mo W (pK 3) (mi (i*10) 1):=by
     intro W;unfold mo;rw [oM (i:=i*10) (p:=1) (by decide) (by decide),show least (i*10) 1=(i*10,1) from rfl];rw [if_neg (fun h=>hf (Qf h (Ql aP (by decide))))]
    clear kS
    go_wp2_with (go_at_call 108;refine (kN _ b0).mono ?_;rintro e w1 ⟨ad,rfl⟩)
    exact ⟨rfl,b0.trans (ad.mono b0.size),HR.out _ _ (ap _)⟩
  ·rw [if_neg aq] at ab
   subst ab
   have e1:((p:Int) == 0)=false:=by simp;omega
   clear kS kN HR
   go_wp2_with fail
   go_meet
   exact ⟨0,n1,a1,m1,c1,by omega,by simp [stepN];omega,hp,hi,rfl,rfl,q1,h0,qr,b0⟩
 case rest =>
  have HC:=Qa hcut;clear hcut d0 d1 J L HQ kS kN ab
  go_wp2_with fail
  go_loopw [1,14] (fun v1 ao W=>NM w x0 v1 ao W) (fun _ ao _=>5 - (intOf ao).toNat)
  case atStart=>exact HC.out
  case round =>
   clear HC;obtain ⟨k,n,a,m,c,hk,U,V,T,rfl,rfl,hr,hI,hv,hb⟩:=hrel
   by_cases a0:k<5
   ·have e1:decide ((k:Int)<5)=true:=decide_eq_true (by omega)
    have H:stepN (k+1) x0=dQ (2^(4 - k)) (stepN k x0):=rfl;have S:=Bl U V T;rw [H] at S
    obtain ⟨j,q,a6⟩:∃ j q,stepN k x0=(j,q):=⟨_,_,rfl⟩
    rw [a6] at U V T hI H S;rw [a6]
    obtain ⟨z,hz⟩:∃ z,2^(4 - k)=z:=⟨_,rfl⟩
    have aw:z≤16:=by rw [← hz];exact Qd (Ql (by decide) (show 4 - k≤4 by omega)) (by decide)
    rw [hz] at H S;have HN:=Qa (And.intro H (And.intro S (And.intro hk (And.intro a0 (And.intro U (And.intro V (And.intro T (And.intro hr (And.intro hI (And.intro hv hb))))))))));clear H S hk a6 U V T hr hI hv hb
    have au:∀ W:World,(Instr.index 146 (.agg #[vI 16,vI 8,vI 4,vI 2,vI 1]) (vI k)).run prog W=.ok (vI z) W:=fun W=>by
     have:k=0∨k=1∨k=2∨k=3∨k=4:=by omega
     subst hz
     rcases this with rfl | rfl | rfl | rfl | rfl <;> first | rfl | (simp [Instr.index,go_sem])
    have ek:(k:Int)<5:=by omega
    clear hz a0
    by_cases af:q≤z
    ·have e2:decide ((q:Int)≤(z:Int))=true:=decide_eq_true (by omega)
     have e3:decide (q≤z)=true:=decide_eq_true af;clear af HR
     go_wp2_with fail
     go_roundw
     case rel =>
      obtain ⟨H,S,hk,a0,U,V,T,hr,hI,hv,hb⟩:=HN.out;have am:dQ z (j,q)=(j,q):=if_pos (of_decide_eq_true e3);rw [am] at H S;exact ⟨k+1,n,a,m,c,by omega,by rw [H];exact U,by rw [H];exact V,by rw [H];exact T,by rw [H],by simp,hr,by rw [H];exact hI,hv,hb⟩
     case measure =>
      obtain ⟨H,S,hk,a0,U,V,T,hr,hI,hv,hb⟩:=HN.out;simp only [intOf];omega
    ·have e2:decide ((q:Int)≤(z:Int))=false:=decide_eq_false (by omega)
     have e3:decide (q≤z)=false:=decide_eq_false af;have HZ:=Qa af;clear af HR;obtain ⟨H,S,hk,a0,U,V,T,hr,hI,hv,hb⟩:=HN.out
     have kT:=fun X=>xw z X (by omega)
     have t0:((10^z:Nat):Int)≠0:=by have:=Qq (n:=z) (show 0<10 by decide);omega
     have kD:=fun X (hX:fI w wr dR [(w.heap.size,24,(lN n a m c)),(w.heap.size+1,27,(lV 0 0 false none 0 0 ⟨#[]⟩ none 0 0))] X) v (hv:ak X v ((10^z:Nat):Int))=>oG _ v j ((10^z:Nat):Int) X (hI.keep hX.more) hv T (jc (by omega)) t0
     simp only [(fdiv_pow j z).1,(fdiv_pow j z).2] at kD
     have kZ:=fun X v (hv:ak X v (j % 10^z))=>jh v _ X hv
     have am:dQ z (j,q)=if j % 10^z=0 then (j / 10^z,q - z) else (j,q):=if_neg HZ.out
     have ah:=Qa am;clear am t0;generalize j % 10^z=r at *;generalize j / 10^z=d at *;generalize ((10^z:Nat):Int)=tz at *;have dH:=fC (R:=dR) (ax hr (ax hv aS)) trivial hb
     have G:Hid (∀ X,fI w wr dR [(w.heap.size,24,(lN n a m c)),(w.heap.size+1,27,(lV 0 0 false none 0 0 ⟨#[]⟩ none 0 0))] X→(X.cell? ⟨w.heap.size,0,none⟩=some (.bool n)∧X.cell? ⟨w.heap.size,1,none⟩=some (.slice a m c))∧fI w wr dR [(w.heap.size,24,(lN n a m c)),(w.heap.size+1,27,(lV 0 0 false none 0 0 ⟨#[]⟩ none 0 0))] X):=Qa fun X h=>⟨⟨h.r0.cell 0,h.r0.cell 1⟩,h⟩
     have HL:=Qa (show (∀ r ∈ ([(w.heap.size,24,(lN n a m c)),(w.heap.size+1,27,(lV 0 0 false none 0 0 ⟨#[]⟩ none 0 0))]:List (Nat × TypeId × List Value)),r.1<wr.heap.size)∧w.heap.size≤wr.heap.size from ⟨fK hr.lt (fK hv.lt nA),hb.size⟩)
     have az:(q:Int)≤32:=by omega
     have b1:(z:Int)<(q:Int):=by have:=HZ.out;omega
     clear H S hk a0 U V T hr hI hv hb
     go_upto_region 7 with (fail)
     go_cut [7,8] from 20 to 26 (fun v7 v8 W=>kJ W v7 d∧kJ W v8 r∧fI w wr dR [(w.heap.size,24,(lN n a m c)),(w.heap.size+1,27,(lV 0 0 false none 0 0 ⟨#[]⟩ none 0 0))] W)
     case first =>
      obtain ⟨Q,fe⟩:=HL.out
      go_wp2_with fail
      refine bB G (bY dR.drew dH) fun X0 f=>?_
      refine tk 0 f ?_;refine tk 1 f ?_;refine wpAnyH_ready (rs:=[2,7,8]) (by kernel_rfl) (by simp) ?_;refine QA (o:=_) rfl (fun x b=>?_) ?_
      ·rw [if_pos (by rfl)];have hP:=f.2
       go_wp2_with (go_at_call 147;refine (kT _).mono ?_;rintro e wk ⟨s,v5,rfl,O⟩)
       refine aT b G (ag dR.step hP s) fun f=>?_
       clear b x hP s;refine wpAnyH_ready (rs:=[3,7,8]) (by kernel_rfl) (by simp) ?_;refine QA (o:=_) rfl (fun x b=>?_) ?_
       ·rw [if_pos (by rfl)];have hP:=f.2
        go_wp2_with (go_at_call 142;refine (kD _ hP _ O).mono ?_;rintro e wk ⟨s,g,a2,m2,c2,g9,a9,m9,c9,rfl,B,A⟩)
        replace O:=O.below s
        refine aT b G (ag dR.step hP s) fun f=>?_
        clear b x hP s;refine tk 4 f ?_;refine tk 5 f ?_;refine tk 6 f ?_;refine ql 7 8 (fun x b=>?_) (fun x b=>?_)
        ·have hP:=f.2
         obtain ⟨V9,I,t,Y,l⟩:=aL hP 24 (lN false none 0 0)
         go_wp2_with fail
         rw [I.out];clear I;replace B:=B.below l;replace A:=A.below l
         refine aT b G (ag dR.step hP l) fun f=>?_
         clear b x hP l
         refine rd 8 fun x b=>?_
         have hP:=f.2;have bF:=Qg t.lt;obtain ⟨V9,I,u,Z,l⟩:=aL hP 24 (lN false none 0 0)
         go_wp2_with fail
         rw [I.out];clear I;replace B:=B.below l;replace A:=A.below l;replace t:=t.below l
         refine aT b G (ag dR.step hP l) fun f=>?_
         clear b x hP l
         refine rd 9 fun x b=>?_
         have hP:=f.2;obtain ⟨M,N,J,L⟩:=av t;obtain ⟨V8,E,C,y,D,F⟩:=ay hP (dR.other _) (bP Q Y) (Qd fe Y) t (.bool g) (.slice a2 m2 c2)
         go_wp2_with fail
         rw [E.out];replace B:=B.keep y;replace A:=A.keep y;replace u:=F _ _ _ u bF.symm;replace t:=D
         refine aT b G C fun f=>?_
         clear b x hP C E y D F M N J L
         refine rd 10 fun x b=>?_
         have hP:=f.2;obtain ⟨M,N,J,L⟩:=av u;obtain ⟨V8,E,C,y,D,F⟩:=ay hP (dR.other _) (bP Q Z) (Qd fe Z) u (.bool g9) (.slice a9 m9 c9)
         go_wp2_with fail
         rw [E.out];replace B:=B.keep y;replace A:=A.keep y;replace t:=F _ _ _ t bF;replace u:=D
         refine aT b G C fun f=>?_
         clear b x hP C E y D F M N J L;refine wpAnyH_done (by kernel_rfl) ?_ _;go_wp2
         go_meet
         exact ⟨⟨_,_,_,_,_,rfl,t,B⟩,⟨_,_,_,_,_,rfl,u,A⟩,f.2⟩
        have hP:=f.2;obtain ⟨V9,I,u,Z,l⟩:=aL hP 24 (lN false none 0 0)
        go_wp2_with fail
        rw [I.out];clear I;replace B:=B.below l;replace A:=A.below l
        refine aT b G (ag dR.step hP l) fun f=>?_
        clear b x hP l
        refine rd 7 fun x b=>?_
        have hP:=f.2;have bG:=Qg u.lt;obtain ⟨V9,I,t,Y,l⟩:=aL hP 24 (lN false none 0 0)
        go_wp2_with fail
        rw [I.out];clear I;replace B:=B.below l;replace A:=A.below l;replace u:=u.below l
        refine aT b G (ag dR.step hP l) fun f=>?_
        clear b x hP l
        refine rd 9 fun x b=>?_
        have hP:=f.2;obtain ⟨M,N,J,L⟩:=av t;obtain ⟨V8,E,C,y,D,F⟩:=ay hP (dR.other _) (bP Q Y) (Qd fe Y) t (.bool g) (.slice a2 m2 c2)
        go_wp2_with fail
        rw [E.out];replace B:=B.keep y;replace A:=A.keep y;replace u:=F _ _ _ u bG;replace t:=D
        refine aT b G C fun f=>?_
        clear b x hP C E y D F M N J L
        refine rd 10 fun x b=>?_
        have hP:=f.2;obtain ⟨M,N,J,L⟩:=av u;obtain ⟨V8,E,C,y,D,F⟩:=ay hP (dR.other _) (bP Q Z) (Qd fe Z) u (.bool g9) (.slice a9 m9 c9)
        go_wp2_with fail
        rw [E.out];replace B:=B.keep y;replace A:=A.keep y;replace t:=F _ _ _ t bG.symm;replace u:=D
        refine aT b G C fun f=>?_
        clear b x hP C E y D F M N J L;refine wpAnyH_done (by kernel_rfl) ?_ _;go_wp2
        go_meet
        exact ⟨⟨_,_,_,_,_,rfl,t,B⟩,⟨_,_,_,_,_,rfl,u,A⟩,f.2⟩
       refine QA (o:=_) rfl (fun x b=>?_) ?_
       ·rw [if_pos (by rfl)];have hP:=f.2
        obtain ⟨V9,I,t,Y,l⟩:=aL hP 24 (lN false none 0 0)
        go_wp2_with fail
        rw [I.out];clear I;replace O:=O.below l
        refine aT b G (ag dR.step hP l) fun f=>?_
        clear b x hP l;refine ql 3 8 (fun x b=>?_) (fun x b=>?_)
        ·have hP:=f.2
         go_wp2_with (go_at_call 142;refine (kD _ hP _ O).mono ?_;rintro e wk ⟨s,g,a2,m2,c2,g9,a9,m9,c9,rfl,B,A⟩)
         replace O:=O.below s;replace t:=t.below s
         refine aT b G (ag dR.step hP s) fun f=>?_
         clear b x hP s;refine tk 4 f ?_;refine tk 5 f ?_;refine tk 6 f ?_
         refine rd 8 fun x b=>?_
         have hP:=f.2;have bF:=Qg t.lt;obtain ⟨V9,I,u,Z,l⟩:=aL hP 24 (lN false none 0 0)
         go_wp2_with fail
         rw [I.out];clear I;replace t:=t.below l;replace B:=B.below l;replace A:=A.below l
         refine aT b G (ag dR.step hP l) fun f=>?_
         clear b x hP l
         refine rd 9 fun x b=>?_
         have hP:=f.2;obtain ⟨M,N,J,L⟩:=av t;obtain ⟨V8,E,C,y,D,F⟩:=ay hP (dR.other _) (bP Q Y) (Qd fe Y) t (.bool g) (.slice a2 m2 c2)
         go_wp2_with fail
         rw [E.out];replace B:=B.keep y;replace A:=A.keep y;replace u:=F _ _ _ u bF.symm;replace t:=D
         refine aT b G C fun f=>?_
         clear b x hP C E y D F M N J L
         refine rd 10 fun x b=>?_
         have hP:=f.2;obtain ⟨M,N,J,L⟩:=av u;obtain ⟨V8,E,C,y,D,F⟩:=ay hP (dR.other _) (bP Q Z) (Qd fe Z) u (.bool g9) (.slice a9 m9 c9)
         go_wp2_with fail
         rw [E.out];replace t:=F _ _ _ t bF;replace B:=B.keep y;replace A:=A.keep y;replace u:=D
         refine aT b G C fun f=>?_
         clear b x hP C E y D F M N J L;refine wpAnyH_done (by kernel_rfl) ?_ _;go_wp2
         go_meet
         exact ⟨⟨_,_,_,_,_,rfl,t,B⟩,⟨_,_,_,_,_,rfl,u,A⟩,f.2⟩
        have hP:=f.2;have bF:=Qg t.lt;obtain ⟨V9,I,u,Z,l⟩:=aL hP 24 (lN false none 0 0)
        go_wp2_with fail
        rw [I.out];clear I;replace O:=O.below l;replace t:=t.below l
        refine aT b G (ag dR.step hP l) fun f=>?_
        clear b x hP l
        refine rd 3 fun x b=>?_
        have hP:=f.2
        go_wp2_with (go_at_call 142;refine (kD _ hP _ O).mono ?_;rintro e wk ⟨s,g,a2,m2,c2,g9,a9,m9,c9,rfl,B,A⟩)
        replace O:=O.below s;replace t:=t.below s;replace u:=u.below s
        refine aT b G (ag dR.step hP s) fun f=>?_
        clear b x hP s;refine tk 4 f ?_;refine tk 5 f ?_;refine tk 6 f ?_
        refine rd 9 fun x b=>?_
        have hP:=f.2;obtain ⟨M,N,J,L⟩:=av t;obtain ⟨V8,E,C,y,D,F⟩:=ay hP (dR.other _) (bP Q Y) (Qd fe Y) t (.bool g) (.slice a2 m2 c2)
        go_wp2_with fail
        rw [E.out];replace u:=F _ _ _ u bF.symm;replace B:=B.keep y;replace A:=A.keep y;replace t:=D
        refine aT b G C fun f=>?_
        clear b x hP C E y D F M N J L
        refine rd 10 fun x b=>?_
        have hP:=f.2;obtain ⟨M,N,J,L⟩:=av u;obtain ⟨V8,E,C,y,D,F⟩:=ay hP (dR.other _) (bP Q Z) (Qd fe Z) u (.bool g9) (.slice a9 m9 c9)
        go_wp2_with fail
        rw [E.out];replace t:=F _ _ _ t bF;replace B:=B.keep y;replace A:=A.keep y;replace u:=D
        refine aT b G C fun f=>?_
        clear b x hP C E y D F M N J L;refine wpAnyH_done (by kernel_rfl) ?_ _;go_wp2
        go_meet
        exact ⟨⟨_,_,_,_,_,rfl,t,B⟩,⟨_,_,_,_,_,rfl,u,A⟩,f.2⟩
       refine QA (o:=_) rfl (fun x b=>?_) QM;rw [if_pos (by rfl)];have hP:=f.2;obtain ⟨V9,I,u,Z,l⟩:=aL hP 24 (lN false none 0 0)
       go_wp2_with fail
       rw [I.out];clear I;replace O:=O.below l
       refine aT b G (ag dR.step hP l) fun f=>?_
       clear b x hP l;refine ql 3 7 (fun x b=>?_) (fun x b=>?_)
       ·have hP:=f.2
        go_wp2_with (go_at_call 142;refine (kD _ hP _ O).mono ?_;rintro e wk ⟨s,g,a2,m2,c2,g9,a9,m9,c9,rfl,B,A⟩)
        replace O:=O.below s;replace u:=u.below s
        refine aT b G (ag dR.step hP s) fun f=>?_
        clear b x hP s;refine tk 4 f ?_;refine tk 5 f ?_;refine tk 6 f ?_
        refine rd 7 fun x b=>?_
        have hP:=f.2;have bG:=Qg u.lt;obtain ⟨V9,I,t,Y,l⟩:=aL hP 24 (lN false none 0 0)
        go_wp2_with fail
        rw [I.out];clear I;replace u:=u.below l;replace B:=B.below l;replace A:=A.below l
        refine aT b G (ag dR.step hP l) fun f=>?_
        clear b x hP l
        refine rd 9 fun x b=>?_
        have hP:=f.2;obtain ⟨M,N,J,L⟩:=av t;obtain ⟨V8,E,C,y,D,F⟩:=ay hP (dR.other _) (bP Q Y) (Qd fe Y) t (.bool g) (.slice a2 m2 c2)
        go_wp2_with fail
        rw [E.out];replace u:=F _ _ _ u bG;replace B:=B.keep y;replace A:=A.keep y;replace t:=D
        refine aT b G C fun f=>?_
        clear b x hP C E y D F M N J L
        refine rd 10 fun x b=>?_
        have hP:=f.2;obtain ⟨M,N,J,L⟩:=av u;obtain ⟨V8,E,C,y,D,F⟩:=ay hP (dR.other _) (bP Q Z) (Qd fe Z) u (.bool g9) (.slice a9 m9 c9)
        go_wp2_with fail
        rw [E.out];replace B:=B.keep y;replace A:=A.keep y;replace t:=F _ _ _ t bG.symm;replace u:=D
        refine aT b G C fun f=>?_
        clear b x hP C E y D F M N J L;refine wpAnyH_done (by kernel_rfl) ?_ _;go_wp2
        go_meet
        exact ⟨⟨_,_,_,_,_,rfl,t,B⟩,⟨_,_,_,_,_,rfl,u,A⟩,f.2⟩
       have hP:=f.2;have bG:=Qg u.lt;obtain ⟨V9,I,t,Y,l⟩:=aL hP 24 (lN false none 0 0)
       go_wp2_with fail
       rw [I.out];clear I;replace O:=O.below l;replace u:=u.below l
       refine aT b G (ag dR.step hP l) fun f=>?_
       clear b x hP l
       refine rd 3 fun x b=>?_
       have hP:=f.2
       go_wp2_with (go_at_call 142;refine (kD _ hP _ O).mono ?_;rintro e wk ⟨s,g,a2,m2,c2,g9,a9,m9,c9,rfl,B,A⟩)
       replace O:=O.below s;replace u:=u.below s;replace t:=t.below s
       refine aT b G (ag dR.step hP s) fun f=>?_
       clear b x hP s;refine tk 4 f ?_;refine tk 5 f ?_;refine tk 6 f ?_
       refine rd 9 fun x b=>?_
       have hP:=f.2;obtain ⟨M,N,J,L⟩:=av t;obtain ⟨V8,E,C,y,D,F⟩:=ay hP (dR.other _) (bP Q Y) (Qd fe Y) t (.bool g) (.slice a2 m2 c2)
       go_wp2_with fail
       rw [E.out];replace u:=F _ _ _ u bG;replace B:=B.keep y;replace A:=A.keep y;replace t:=D
       refine aT b G C fun f=>?_
       clear b x hP C E y D F M N J L
       refine rd 10 fun x b=>?_
       have hP:=f.2;obtain ⟨M,N,J,L⟩:=av u;obtain ⟨V8,E,C,y,D,F⟩:=ay hP (dR.other _) (bP Q Z) (Qd fe Z) u (.bool g9) (.slice a9 m9 c9)
       go_wp2_with fail
       rw [E.out];replace t:=F _ _ _ t bG.symm;replace B:=B.keep y;replace A:=A.keep y;replace u:=D
       refine aT b G C fun f=>?_
       clear b x hP C E y D F M N J L;refine wpAnyH_done (by kernel_rfl) ?_ _;go_wp2
       go_meet
       exact ⟨⟨_,_,_,_,_,rfl,t,B⟩,⟨_,_,_,_,_,rfl,u,A⟩,f.2⟩
      refine QA (o:=_) rfl (fun x b=>?_) ?_
      ·rw [if_pos (by rfl)];have hP:=f.2
       obtain ⟨V9,I,t,Y,l⟩:=aL hP 24 (lN false none 0 0)
       go_wp2_with fail
       rw [I.out];clear I
       refine aT b G (ag dR.step hP l) fun f=>?_
       clear b x hP l;refine ql 2 8 (fun x b=>?_) (fun x b=>?_)
       ·have hP:=f.2
        go_wp2_with (go_at_call 147;refine (kT _).mono ?_;rintro e wk ⟨s,v5,rfl,O⟩)
        replace t:=t.below s
        refine aT b G (ag dR.step hP s) fun f=>?_
        clear b x hP s;refine ql 3 8 (fun x b=>?_) (fun x b=>?_)
        ·have hP:=f.2
         go_wp2_with (go_at_call 142;refine (kD _ hP _ O).mono ?_;rintro e wk ⟨s,g,a2,m2,c2,g9,a9,m9,c9,rfl,B,A⟩)
         replace t:=t.below s;replace O:=O.below s
         refine aT b G (ag dR.step hP s) fun f=>?_
         clear b x hP s;refine tk 4 f ?_;refine tk 5 f ?_;refine tk 6 f ?_
         refine rd 8 fun x b=>?_
         have hP:=f.2;have bF:=Qg t.lt;obtain ⟨V9,I,u,Z,l⟩:=aL hP 24 (lN false none 0 0)
         go_wp2_with fail
         rw [I.out];clear I;replace t:=t.below l;replace B:=B.below l;replace A:=A.below l
         refine aT b G (ag dR.step hP l) fun f=>?_
         clear b x hP l
         refine rd 9 fun x b=>?_
         have hP:=f.2;obtain ⟨M,N,J,L⟩:=av t;obtain ⟨V8,E,C,y,D,F⟩:=ay hP (dR.other _) (bP Q Y) (Qd fe Y) t (.bool g) (.slice a2 m2 c2)
         go_wp2_with fail
         rw [E.out];replace B:=B.keep y;replace A:=A.keep y;replace u:=F _ _ _ u bF.symm;replace t:=D
         refine aT b G C fun f=>?_
         clear b x hP C E y D F M N J L
         refine rd 10 fun x b=>?_
         have hP:=f.2;obtain ⟨M,N,J,L⟩:=av u;obtain ⟨V8,E,C,y,D,F⟩:=ay hP (dR.other _) (bP Q Z) (Qd fe Z) u (.bool g9) (.slice a9 m9 c9)
         go_wp2_with fail
         rw [E.out];replace t:=F _ _ _ t bF;replace B:=B.keep y;replace A:=A.keep y;replace u:=D
         refine aT b G C fun f=>?_
         clear b x hP C E y D F M N J L;refine wpAnyH_done (by kernel_rfl) ?_ _;go_wp2
         go_meet
         exact ⟨⟨_,_,_,_,_,rfl,t,B⟩,⟨_,_,_,_,_,rfl,u,A⟩,f.2⟩
        have hP:=f.2;have bF:=Qg t.lt;obtain ⟨V9,I,u,Z,l⟩:=aL hP 24 (lN false none 0 0)
        go_wp2_with fail
        rw [I.out];clear I;replace t:=t.below l;replace O:=O.below l
        refine aT b G (ag dR.step hP l) fun f=>?_
        clear b x hP l
        refine rd 3 fun x b=>?_
        have hP:=f.2
        go_wp2_with (go_at_call 142;refine (kD _ hP _ O).mono ?_;rintro e wk ⟨s,g,a2,m2,c2,g9,a9,m9,c9,rfl,B,A⟩)
        replace t:=t.below s;replace O:=O.below s;replace u:=u.below s
        refine aT b G (ag dR.step hP s) fun f=>?_
        clear b x hP s;refine tk 4 f ?_;refine tk 5 f ?_;refine tk 6 f ?_
        refine rd 9 fun x b=>?_
        have hP:=f.2;obtain ⟨M,N,J,L⟩:=av t;obtain ⟨V8,E,C,y,D,F⟩:=ay hP (dR.other _) (bP Q Y) (Qd fe Y) t (.bool g) (.slice a2 m2 c2)
        go_wp2_with fail
        rw [E.out];replace u:=F _ _ _ u bF.symm;replace B:=B.keep y;replace A:=A.keep y;replace t:=D
        refine aT b G C fun f=>?_
        clear b x hP C E y D F M N J L
        refine rd 10 fun x b=>?_
        have hP:=f.2;obtain ⟨M,N,J,L⟩:=av u;obtain ⟨V8,E,C,y,D,F⟩:=ay hP (dR.other _) (bP Q Z) (Qd fe Z) u (.bool g9) (.slice a9 m9 c9)
        go_wp2_with fail
        rw [E.out];replace t:=F _ _ _ t bF;replace B:=B.keep y;replace A:=A.keep y;replace u:=D
        refine aT b G C fun f=>?_
        clear b x hP C E y D F M N J L;refine wpAnyH_done (by kernel_rfl) ?_ _;go_wp2
        go_meet
        exact ⟨⟨_,_,_,_,_,rfl,t,B⟩,⟨_,_,_,_,_,rfl,u,A⟩,f.2⟩
       have hP:=f.2;have bF:=Qg t.lt;obtain ⟨V9,I,u,Z,l⟩:=aL hP 24 (lN false none 0 0)
       go_wp2_with fail
       rw [I.out];clear I;replace t:=t.below l
       refine aT b G (ag dR.step hP l) fun f=>?_
       clear b x hP l
       refine rd 2 fun x b=>?_
       have hP:=f.2
       go_wp2_with (go_at_call 147;refine (kT _).mono ?_;rintro e wk ⟨s,v5,rfl,O⟩)
       replace t:=t.below s;replace u:=u.below s
       refine aT b G (ag dR.step hP s) fun f=>?_
       clear b x hP s
       refine rd 3 fun x b=>?_
       have hP:=f.2
       go_wp2_with (go_at_call 142;refine (kD _ hP _ O).mono ?_;rintro e wk ⟨s,g,a2,m2,c2,g9,a9,m9,c9,rfl,B,A⟩)
       replace t:=t.below s;replace u:=u.below s;replace O:=O.below s
       refine aT b G (ag dR.step hP s) fun f=>?_
       clear b x hP s;refine tk 4 f ?_;refine tk 5 f ?_;refine tk 6 f ?_
       refine rd 9 fun x b=>?_
       have hP:=f.2;obtain ⟨M,N,J,L⟩:=av t;obtain ⟨V8,E,C,y,D,F⟩:=ay hP (dR.other _) (bP Q Y) (Qd fe Y) t (.bool g) (.slice a2 m2 c2)
       go_wp2_with fail
       rw [E.out];replace u:=F _ _ _ u bF.symm;replace B:=B.keep y;replace A:=A.keep y;replace t:=D
       refine aT b G C fun f=>?_
       clear b x hP C E y D F M N J L
       refine rd 10 fun x b=>?_
       have hP:=f.2;obtain ⟨M,N,J,L⟩:=av u;obtain ⟨V8,E,C,y,D,F⟩:=ay hP (dR.other _) (bP Q Z) (Qd fe Z) u (.bool g9) (.slice a9 m9 c9)
       go_wp2_with fail
       rw [E.out];replace t:=F _ _ _ t bF;replace B:=B.keep y;replace A:=A.keep y;replace u:=D
       refine aT b G C fun f=>?_
       clear b x hP C E y D F M N J L;refine wpAnyH_done (by kernel_rfl) ?_ _;go_wp2
       go_meet
       exact ⟨⟨_,_,_,_,_,rfl,t,B⟩,⟨_,_,_,_,_,rfl,u,A⟩,f.2⟩
      refine QA (o:=_) rfl (fun x b=>?_) QM;rw [if_pos (by rfl)];have hP:=f.2;obtain ⟨V9,I,u,Z,l⟩:=aL hP 24 (lN false none 0 0)
      go_wp2_with fail
      rw [I.out];clear I
      refine aT b G (ag dR.step hP l) fun f=>?_
      clear b x hP l;refine ql 2 7 (fun x b=>?_) (fun x b=>?_)
      ·have hP:=f.2
       go_wp2_with (go_at_call 147;refine (kT _).mono ?_;rintro e wk ⟨s,v5,rfl,O⟩)
       replace u:=u.below s
       refine aT b G (ag dR.step hP s) fun f=>?_
       clear b x hP s;refine ql 3 7 (fun x b=>?_) (fun x b=>?_)
       ·have hP:=f.2
        go_wp2_with (go_at_call 142;refine (kD _ hP _ O).mono ?_;rintro e wk ⟨s,g,a2,m2,c2,g9,a9,m9,c9,rfl,B,A⟩)
        replace u:=u.below s;replace O:=O.below s
        refine aT b G (ag dR.step hP s) fun f=>?_
        clear b x hP s;refine tk 4 f ?_;refine tk 5 f ?_;refine tk 6 f ?_
        refine rd 7 fun x b=>?_
        have hP:=f.2;have bG:=Qg u.lt;obtain ⟨V9,I,t,Y,l⟩:=aL hP 24 (lN false none 0 0)
        go_wp2_with fail
        rw [I.out];clear I;replace u:=u.below l;replace B:=B.below l;replace A:=A.below l
        refine aT b G (ag dR.step hP l) fun f=>?_
        clear b x hP l
        refine rd 9 fun x b=>?_
        have hP:=f.2;obtain ⟨M,N,J,L⟩:=av t;obtain ⟨V8,E,C,y,D,F⟩:=ay hP (dR.other _) (bP Q Y) (Qd fe Y) t (.bool g) (.slice a2 m2 c2)
        go_wp2_with fail
        rw [E.out];replace u:=F _ _ _ u bG;replace B:=B.keep y;replace A:=A.keep y;replace t:=D
        refine aT b G C fun f=>?_
        clear b x hP C E y D F M N J L
        refine rd 10 fun x b=>?_
        have hP:=f.2;obtain ⟨M,N,J,L⟩:=av u;obtain ⟨V8,E,C,y,D,F⟩:=ay hP (dR.other _) (bP Q Z) (Qd fe Z) u (.bool g9) (.slice a9 m9 c9)
        go_wp2_with fail
        rw [E.out];replace B:=B.keep y;replace A:=A.keep y;replace t:=F _ _ _ t bG.symm;replace u:=D
        refine aT b G C fun f=>?_
        clear b x hP C E y D F M N J L;refine wpAnyH_done (by kernel_rfl) ?_ _;go_wp2
        go_meet
        exact ⟨⟨_,_,_,_,_,rfl,t,B⟩,⟨_,_,_,_,_,rfl,u,A⟩,f.2⟩
       have hP:=f.2;have bG:=Qg u.lt;obtain ⟨V9,I,t,Y,l⟩:=aL hP 24 (lN false none 0 0)
       go_wp2_with fail
       rw [I.out];clear I;replace u:=u.below l;replace O:=O.below l
       refine aT b G (ag dR.step hP l) fun f=>?_
       clear b x hP l
       refine rd 3 fun x b=>?_
       have hP:=f.2
       go_wp2_with (go_at_call 142;refine (kD _ hP _ O).mono ?_;rintro e wk ⟨s,g,a2,m2,c2,g9,a9,m9,c9,rfl,B,A⟩)
       replace u:=u.below s;replace O:=O.below s;replace t:=t.below s
       refine aT b G (ag dR.step hP s) fun f=>?_
       clear b x hP s;refine tk 4 f ?_;refine tk 5 f ?_;refine tk 6 f ?_
       refine rd 9 fun x b=>?_
       have hP:=f.2;obtain ⟨M,N,J,L⟩:=av t;obtain ⟨V8,E,C,y,D,F⟩:=ay hP (dR.other _) (bP Q Y) (Qd fe Y) t (.bool g) (.slice a2 m2 c2)
       go_wp2_with fail
       rw [E.out];replace u:=F _ _ _ u bG;replace B:=B.keep y;replace A:=A.keep y;replace t:=D
       refine aT b G C fun f=>?_
       clear b x hP C E y D F M N J L
       refine rd 10 fun x b=>?_
       have hP:=f.2;obtain ⟨M,N,J,L⟩:=av u;obtain ⟨V8,E,C,y,D,F⟩:=ay hP (dR.other _) (bP Q Z) (Qd fe Z) u (.bool g9) (.slice a9 m9 c9)
       go_wp2_with fail
       rw [E.out];replace t:=F _ _ _ t bG.symm;replace B:=B.keep y;replace A:=A.keep y;replace u:=D
       refine aT b G C fun f=>?_
       clear b x hP C E y D F M N J L;refine wpAnyH_done (by kernel_rfl) ?_ _;go_wp2
       go_meet
       exact ⟨⟨_,_,_,_,_,rfl,t,B⟩,⟨_,_,_,_,_,rfl,u,A⟩,f.2⟩
      have hP:=f.2;have bG:=Qg u.lt;obtain ⟨V9,I,t,Y,l⟩:=aL hP 24 (lN false none 0 0)
      go_wp2_with fail
      rw [I.out];clear I;replace u:=u.below l
      refine aT b G (ag dR.step hP l) fun f=>?_
      clear b x hP l
      refine rd 2 fun x b=>?_
      have hP:=f.2
      go_wp2_with (go_at_call 147;refine (kT _).mono ?_;rintro e wk ⟨s,v5,rfl,O⟩)
      replace u:=u.below s;replace t:=t.below s
      refine aT b G (ag dR.step hP s) fun f=>?_
      clear b x hP s
      refine rd 3 fun x b=>?_
      have hP:=f.2
      go_wp2_with (go_at_call 142;refine (kD _ hP _ O).mono ?_;rintro e wk ⟨s,g,a2,m2,c2,g9,a9,m9,c9,rfl,B,A⟩)
      replace u:=u.below s;replace t:=t.below s;replace O:=O.below s
      refine aT b G (ag dR.step hP s) fun f=>?_
      clear b x hP s;refine tk 4 f ?_;refine tk 5 f ?_;refine tk 6 f ?_
      refine rd 9 fun x b=>?_
      have hP:=f.2;obtain ⟨M,N,J,L⟩:=av t;obtain ⟨V8,E,C,y,D,F⟩:=ay hP (dR.other _) (bP Q Y) (Qd fe Y) t (.bool g) (.slice a2 m2 c2)
      go_wp2_with fail
      rw [E.out];replace u:=F _ _ _ u bG;replace B:=B.keep y;replace A:=A.keep y;replace t:=D
      refine aT b G C fun f=>?_
      clear b x hP C E y D F M N J L
      refine rd 10 fun x b=>?_
      have hP:=f.2;obtain ⟨M,N,J,L⟩:=av u;obtain ⟨V8,E,C,y,D,F⟩:=ay hP (dR.other _) (bP Q Z) (Qd fe Z) u (.bool g9) (.slice a9 m9 c9)
      go_wp2_with fail
      rw [E.out];replace t:=F _ _ _ t bG.symm;replace B:=B.keep y;replace A:=A.keep y;replace u:=D
      refine aT b G C fun f=>?_
      clear b x hP C E y D F M N J L;refine wpAnyH_done (by kernel_rfl) ?_ _;go_wp2
      go_meet
      exact ⟨⟨_,_,_,_,_,rfl,t,B⟩,⟨_,_,_,_,_,rfl,u,A⟩,f.2⟩
     case rest =>
      obtain ⟨⟨b7,n7,a7,m7,c7,rfl,r7,i7⟩,⟨b8,n8,a8,m8,c8,rfl,r8,i8⟩,hP⟩:=hcut;obtain ⟨d0,d1⟩:=aQ r8;clear kT kD dH G HL r8 au
      by_cases aa:r=0
      ·rw [decide_eq_true aa] at kZ
       rw [if_pos aa] at ah;clear aa
       go_wp2_with (go_at_call 144;refine (kZ _ _ i8).mono ?_;rintro e w5 ⟨a3,rfl⟩;have q5:=hP.r0.below a3;have s7:=r7.below a3;have x0:=s7.cell 0;have x1:=s7.cell 1;obtain ⟨M,N,J,L⟩:=av q5;simp only [Qc,Qe] at x0 x1)
       go_roundw
       case rel =>
        obtain ⟨H,S,hk,a0,U,V,T,hr,hI,hv,hb⟩:=HN.out;rw [show dQ z (j,q)=(d,q - z) from ah.out] at H S;have an:=hP.below.trans (a3.mono hP.below.size)
        exact ⟨k+1,n7,a7,m7,c7,by omega,by rw [H];exact S.1,by rw [H];exact S.2.1,by rw [H];exact S.2.2,by rw [H];simp;omega,by simp,(q5.set 0 (.bool n7)).set 1 (.slice a7 m7 c7),by rw [H];exact (i7.below a3).keep (aV q5 _ _),((hP.r1.below a3).other (show w.heap.size+1≠w.heap.size by omega) _).other (show w.heap.size+1≠w.heap.size by omega) _,(an.setCell (Qb _) _).setCell (Qb _) _⟩
       case measure =>
        obtain ⟨H,S,hk,a0,U,V,T,hr,hI,hv,hb⟩:=HN.out;simp only [intOf];omega
      ·rw [decide_eq_false aa] at kZ
       rw [if_neg aa] at ah;clear aa
       go_wp2_with (go_at_call 144;refine (kZ _ _ i8).mono ?_;rintro e w5 ⟨a3,rfl⟩)
       go_roundw
       case rel =>
        obtain ⟨H,S,hk,a0,U,V,T,hr,hI,hv,hb⟩:=HN.out;rw [show dQ z (j,q)=(j,q) from ah.out] at H S;have an:=hP.below.trans (a3.mono hP.below.size);exact ⟨k+1,n,a,m,c,by omega,by rw [H];exact U,by rw [H];exact V,by rw [H];exact T,by rw [H],by simp,hP.r0.below a3,by rw [H];exact (hI.keep hP.more).below a3,hP.r1.below a3,an⟩
       case measure =>
        obtain ⟨H,S,hk,a0,U,V,T,hr,hI,hv,hb⟩:=HN.out;simp only [intOf];omega
   ·obtain rfl:k=5:=by omega
    rw [show stepN 5 x0=mi x0.1 x0.2 from rfl] at U V T hI;rw [show stepN 5 x0=mi x0.1 x0.2 from rfl]
    obtain ⟨j,q,a6⟩:∃ j q,mi x0.1 x0.2=(j,q):=⟨_,_,rfl⟩
    rw [a6] at hI HR;rw [a6];simp only [] at hI;have al:=CO hI;obtain ⟨d0,d1⟩:=aQ hr;clear hk a0 a6 U V T
    by_cases hm:m≤40
    ·have e2:decide ((m:Int)≤40)=true:=decide_eq_true (by omega)
     have e3:decide (m≤40)=true:=decide_eq_true hm;have a4:=al.1 hm
     have kC:=fun X (hX:ak X (vN n a m c) j)=>Ex hX (by omega)
     have dH:=fC (R:=bI _) (ax hr aS) ⟨_,_,_,_,_,_,_,_,_,_,hv⟩ hb
     have G:Hid (∀ X,fI w wr (bI (w.heap.size+1)) [(w.heap.size,24,(lN n a m c))] X→(X.cell? ⟨w.heap.size,0,none⟩=some (.bool n)∧X.cell? ⟨w.heap.size,1,none⟩=some (.slice a m c))∧fI w wr (bI (w.heap.size+1)) [(w.heap.size,24,(lN n a m c))] X):=Qa fun X h=>⟨⟨h.r0.cell 0,h.r0.cell 1⟩,h⟩
     have HF:=Qa (And.intro a4 (And.intro hI HR));clear al hm a4 hI hr hv hb HR
     go_upto_region 12 with (go_at_call 106;refine (aC _ _ _ (by rfl)).mono ?_;rintro e w9 ⟨rfl,rfl⟩)
     have hI:=HF.out.2.1;clear d0 d1
     go_wp2_with fail
     refine bB G (bY bI.drew dH) fun X0 f=>?_
     refine tk 0 f ?_;refine tk 1 f ?_;refine tk 2 f ?_;refine tk 3 f ?_;refine tk 4 f ?_
     refine rd 5 fun x b=>?_
     have hP:=f.2
     go_wp2_with (go_at_call 148;refine (kC _ (hI.keep hP.more)).mono ?_;rintro e wk ⟨s,a5,m5,c5,rfl,A⟩)
     refine aT b G (ag bI.step hP s) fun f=>?_
     clear b x hP s;refine tk 6 f ?_;refine tk 7 f ?_
     refine rd 8 fun x b=>?_
     have hP:=f.2;obtain ⟨z0,z1,z2,z3,aI,aJ,z4,z5,aN,aO,hr,M,N,y2,y3,y4,y5,J,L,f2,f3,f4,f5⟩:=hP.res.cells;clear kC
     go_wp2_with fail
     refine aT b G (gF hP (aZ (by omega) dV) (by omega) 3 (q:Int) n a5 m5 c5 ⟨#[]⟩ none 0 0) fun f=>?_
     clear b x;obtain ⟨u0,u1,u2,u3,u4,u5⟩:=dD hr (vI 3) (vI q) (.bool n) (.slice a5 m5 c5) vE vZ;refine wpAnyH_done (by kernel_rfl) ?_ _;have hb:=f.2.below;have hO:=A.keep (bQ hr (vI 3) (vI q) (.bool n) (.slice a5 m5 c5) vE vZ);clear f hP A
     go_wp2_with fail
     exact bodyPost_ret (v:=vV 3 q n a5 m5 c5 ⟨#[]⟩ none 0 0) (by simp [results,results83,go_sem,loadCellsFrom,u0,u1,u2,u3,u4,u5]) rfl ⟨hb,HF.out.2.2.out _ _ (by unfold mo;rw [if_pos HF.out.1];exact ⟨_,rfl,n,a5,m5,c5,none,0,rfl,hO⟩)⟩
    ·have e2:decide ((m:Int)≤40)=false:=decide_eq_false (by omega)
     have e3:decide (m≤40)=false:=decide_eq_false hm
     have a4:=fun h=>hm (al.2 h)
     have HF:=Qa (And.intro a4 (And.intro hb HR));clear al hm a4 hI hr hv hb HR
     go_wp2_with (go_at_call 106;refine (bD _ _ _ (by rfl)).mono ?_;rintro e w9 ⟨rfl,rfl⟩)
     exact ⟨rfl,HF.out.2.1,HF.out.2.2.out _ _ (by unfold mo;rw [if_neg HF.out.1])⟩
theorem mO (v:Value)(i:Int)(p:Nat)(j:Int)(q:Nat)(w:World)(h:ak w v i)(k:p≤32)(hi:i.natAbs<aj^300)(g:least i p=(j,q))(hf:j.natAbs<aj^40) :
 CB 83 #[v,vI p] w fun e l=>∃ n a m c la lc,e=.returned (vV 3 q n a m c ⟨#[]⟩ la 0 lc)∧ak l (vN n a m c) j:=by
 refine (zV v i p w h k hi).mono ?_;rintro e r ⟨f,b⟩;unfold mo at b;rw [g,if_pos hf] at b;obtain ⟨o,rfl,n,a,m,c,la,lc,rfl,d⟩:=b;exact ⟨f,n,a,m,c,la,lc,rfl,d⟩
theorem lS (v:Value)(i:Int)(p:Nat)(w:World)(h:ak w v i)(c:p≤32)(hi:i.natAbs<aj^300)(hf:¬(least i p).1.natAbs<aj^40) :
 CB 83 #[v,vI p] w fun e _=>e=pK 3:=by
 refine (zV v i p w h c hi).mono ?_;rintro e d ⟨b,a⟩;unfold mo at a;rw [if_neg hf] at a;exact ⟨b,a⟩
theorem Bn (H I:Value)(i:Int)(p:Nat)(j:Int)(q:Nat)(r:Int)(d:Nat)(w:World)(h1:dB w H i p)(f:dB w I j q)(A:least (i*((10^(max p q - p):Nat):Int)+j*((10^(max p q - q):Nat):Int)) (max p q)=(r,d))(hf:r.natAbs<aj^40) :
 CB 94 #[H,I,.func (.func 70) #[] #[]] w fun e w'=>∃ g a m c la lc,e=.returned (vV 3 d g a m c ⟨#[]⟩ la 0 lc)∧ak w' (vN g a m c) r:=by
 have D:=fun X (V:bW w X)=>wU H I i p j q X (h1.below V) (f.below V)
 have hp:=h1.hi;have hq:=f.hi;have N:=iF h1.abs (show max p q - p≤40 by omega);have oP:=iF f.abs (show max p q - q≤40 by omega);obtain ⟨n1,a1,m1,c1,cu,cB,rfl,-⟩:=h1.shape;obtain ⟨n2,a2,m2,c2,gm,gp,rfl,-⟩:=f.shape;generalize i*((10^(max p q - p):Nat):Int)=x at *;generalize j*((10^(max p q - q):Nat):Int)=y at *
 obtain ⟨M,T⟩:∃ M,max p q=M:=⟨_,rfl⟩
 have h:M≤20:=by omega
 rw [T] at D A;have bs:=xu N oP
 have kO:=fun X v v' (B:ak X v x) (C:ak X v' y)=>uD v v' x y X B C (az N (by decide)) (az oP (by decide)) (az bs (by decide))
 generalize x+y=z at *
 have kM:=fun X v (B:ak X v z)=>mO v z M r d X B (by omega) (az bs (by decide)) A hf
 obtain ⟨W0,U,L,F,G,qr⟩:=BC w 27 (lV 3 p n1 a1 m1 c1 ⟨#[]⟩ cu 0 cB) 27 (lV 3 q n2 a2 m2 c2 ⟨#[]⟩ gm 0 gp);have Q:=fC (R:=bI _) (ax F (ax G aS)) ⟨_,_,_,_,_,_,_,_,_,_,qr⟩ L;obtain ⟨d0,d1,d2,d3,d4,d5⟩:=aD F;obtain ⟨e0,e1,e2,e3,e4,e5⟩:=aD G;have hP:=Q.nil;clear h1 f hp hq T A hf L F G qr Q bs h;go_enter func94,ntmps94
 go_upto_region 1 with (fail)
 rw [U.out];clear U
 go_cut [7,8,9] from 10 to 16 (fun v7 v8 v9 W=>kJ W v7 x∧kJ W v8 y∧v9=vI M∧fI w W0 (bI (w.heap.size+1+1)) [] W)
 case first =>
  go_wp2_with (go_at_call 86;refine (D _ hP.below).mono ?_;rintro e w1 ⟨b,g,a,m,c,S,J,Y,O,rfl,l,n⟩)
  go_meet
  have Z:=dJ w1 (.cells #[.bool g,.slice a m c] 24);have E:=Z.alloc Z.size (.cells #[.bool S,.slice J Y O] 24);exact ⟨⟨_,_,_,_,_,rfl,(af.new w1 24 (lN g a m c)).alloc _,l.below E⟩,⟨_,_,_,_,_,rfl,(af.new (w1.alloc (.cells #[.bool g,.slice a m c] 24)) 24 (lN S J Y O)).at (by simp),n.below E⟩,rfl,ag bI.step (ag bI.step hP b) E⟩
 case rest =>
  obtain ⟨⟨b7,n7,a7,m7,c7,rfl,r7,i7⟩,⟨b8,n8,a8,m8,c8,rfl,r8,i8⟩,rfl,sM⟩:=hcut;obtain ⟨x0,x1⟩:=aQ r7;obtain ⟨x2,x3⟩:=aQ r8;clear D d0 d1 d2 d3 d4 d5 e0 e1 e2 e3 e4 e5 r7 r8 hP
  go_wp2_with (first | (go_at_call 83;refine (kM _ _ n).mono ?_;rintro e w3 ⟨u,g,a,m,c,la,lc,rfl,hC⟩;have k:=ag bI.step s u;obtain ⟨z0,z1,z2,z3,aI,aJ,z4,z5,aN,aO,hr,y0,y1,y2,y3,y4,y5,f0,f1,f2,f3,f4,f5⟩:=k.res.cells) | (go_at_call 152;refine (eZ _ _ _ l).mono ?_;rintro e w2 ⟨t,v6,rfl,n⟩;have s:=ag bI.step o t) | (go_at_call 70;refine (kO _ _ _ i7 i8).mono ?_;rintro e w1 ⟨b,v5,rfl,l⟩;obtain ⟨g5,a5,m5,c5,rfl⟩:=l.shape;have o:=ag bI.step sM b))
  obtain ⟨u0,u1,u2,u3,u4,u5⟩:=dD hr (vI 3) (vI d) (.bool g) (.slice a m c) vE (.slice la 0 lc);have hb:=(gF k dV (show w.heap.size≤w.heap.size+1+1 by omega) 3 (d:Int) g a m c ⟨#[]⟩ la 0 lc).below;have hO:=hC.keep (bQ hr (vI 3) (vI d) (.bool g) (.slice a m c) vE (.slice la 0 lc))
  exact bodyPost_ret (v:=vV 3 d g a m c ⟨#[]⟩ la 0 lc) (by simp [results,results94,go_sem,loadCellsFrom,u0,u1,u2,u3,u4,u5]) rfl ⟨hb,_,_,_,_,_,_,rfl,hO⟩
theorem zl (E F:Value)(i:Int)(p:Nat)(j:Int)(q:Nat)(w:World)(h1:dB w E i p)(d:dB w F j q)(hf:¬(least (i*((10^(max p q - p):Nat):Int)+j*((10^(max p q - q):Nat):Int)) (max p q)).1.natAbs<aj^40) :
 CB 94 #[E,F,.func (.func 70) #[] #[]] w fun e _=>e=pK 3:=by
 have A:=fun X (S:bW w X)=>wU E F i p j q X (h1.below S) (d.below S)
 have hp:=h1.hi;have hq:=d.hi;have I:=iF h1.abs (show max p q - p≤40 by omega);have V:=iF d.abs (show max p q - q≤40 by omega);obtain ⟨n1,a1,m1,c1,cu,cB,rfl,-⟩:=h1.shape;obtain ⟨n2,a2,m2,c2,gm,gp,rfl,-⟩:=d.shape;generalize i*((10^(max p q - p):Nat):Int)=x at *;generalize j*((10^(max p q - q):Nat):Int)=y at *
 obtain ⟨M,O⟩:∃ M,max p q=M:=⟨_,rfl⟩
 have f:M≤20:=by omega
 rw [O] at A hf;have bs:=xu I V
 have kO:=fun X v Z (t:ak X v x) (u:ak X Z y)=>uD v Z x y X t u (az I (by decide)) (az V (by decide)) (az bs (by decide))
 generalize x+y=z at *
 have kM:=fun X v (t:ak X v z)=>lS v z M X t (by omega) (az bs (by decide)) hf
 obtain ⟨W0,Q,H,C,D,Y⟩:=BC w 27 (lV 3 p n1 a1 m1 c1 ⟨#[]⟩ cu 0 cB) 27 (lV 3 q n2 a2 m2 c2 ⟨#[]⟩ gm 0 gp);have L:=fC (R:=bI _) (ax C (ax D aS)) ⟨_,_,_,_,_,_,_,_,_,_,Y⟩ H;obtain ⟨d0,d1,d2,d3,d4,d5⟩:=aD C;obtain ⟨e0,e1,e2,e3,e4,e5⟩:=aD D;have hP:=L.nil;clear h1 d hp hq O hf H C D Y L bs f;go_enter func94,ntmps94
 go_upto_region 1 with (fail)
 rw [Q.out];clear Q
 go_cut [7,8,9] from 10 to 16 (fun v7 v8 v9 W=>kJ W v7 x∧kJ W v8 y∧v9=vI M∧fI w W0 (bI (w.heap.size+1+1)) [] W)
 case first =>
  go_wp2_with (go_at_call 86;refine (A _ hP.below).mono ?_;rintro e w1 ⟨b,g,a,m,c,N,G,T,J,rfl,h,k⟩)
  go_meet
  have U:=dJ w1 (.cells #[.bool g,.slice a m c] 24);have B:=U.alloc U.size (.cells #[.bool N,.slice G T J] 24);exact ⟨⟨_,_,_,_,_,rfl,(af.new w1 24 (lN g a m c)).alloc _,h.below B⟩,⟨_,_,_,_,_,rfl,(af.new (w1.alloc (.cells #[.bool g,.slice a m c] 24)) 24 (lN N G T J)).at (by simp),k.below B⟩,rfl,ag bI.step (ag bI.step hP b) B⟩
 case rest =>
  obtain ⟨⟨b7,n7,a7,m7,c7,rfl,r7,i7⟩,⟨b8,n8,a8,m8,c8,rfl,r8,i8⟩,rfl,sM⟩:=hcut;obtain ⟨x0,x1⟩:=aQ r7;obtain ⟨x2,x3⟩:=aQ r8;clear A d0 d1 d2 d3 d4 d5 e0 e1 e2 e3 e4 e5 r7 r8 hP
  go_wp2_with (first | (go_at_call 83;refine (kM _ _ k).mono ?_;rintro e w3 ⟨s,rfl⟩;have o:=ag bI.step n s) | (go_at_call 152;refine (eZ _ _ _ h).mono ?_;rintro e w2 ⟨r,v6,rfl,k⟩;have n:=ag bI.step l r) | (go_at_call 70;refine (kO _ _ _ i7 i8).mono ?_;rintro e w1 ⟨b,v5,rfl,h⟩;obtain ⟨g5,a5,m5,c5,rfl⟩:=h.shape;have l:=ag bI.step sM b))
  exact ⟨rfl,o.below,rfl⟩
theorem yu (v:Value)(kind n:Int)(neg:Bool)(xs:List Nat)(s:ByteArray)(l:Nat)(w:World)(h:ValAt w v kind n neg xs s l) :
 CB 19 #[v] w fun e _=>e=.returned (vI (if oW kind n neg xs s l=true then 0 else 2)):=by
 obtain ⟨va,la,lc,rfl,hr,q⟩:=h;obtain ⟨a,c,rfl,V,C⟩:=hr.form
 have f:=fun X (M:bW w X)=>Gw (vN neg a xs.length c) neg xs X ⟨_,rfl,hr.below M,q⟩
 have d:=dJ w (.cells #[vI kind,vI n,.bool neg,.slice a xs.length c,.string s,.slice la l lc] 27);have u:=af.new w 27 (lV kind n neg a xs.length c s la l lc)
 obtain ⟨K,hK⟩:∃ K:Int,(if oW kind n neg xs s l=true then (0:Int) else 2)=K:=⟨_,rfl⟩
 rw [hK];have i:=Qa (And.intro hr (And.intro q (And.intro V C)));clear hr q V C
 have Z:oW kind n neg xs s l=false→2=K:=fun h=>by rw [← hK,if_neg (by rw [h];decide)]
 have k:=Qa Z
 have E:oW kind n neg xs s l=true→0=K:=fun h=>by rw [← hK,if_pos h]
 have Q:=Qa E;clear Z E hK;have z:=Qa u
 by_cases h1:kind=3
 rotate_left
 ·have F:(kind == 3)=false:=by simp [h1]
  clear f u;go_enter func19,ntmps19;go_wp2;go_ret;exact ⟨d,by rw [← k.out (by simp [oW,h1])];rfl⟩
 by_cases x:s=⟨#[]⟩
 rotate_left
 ·have F:=Cy x
  subst h1;clear f u;go_enter func19,ntmps19;go_wp2;go_ret;exact ⟨d,by rw [← k.out (by simp [oW,x])];rfl⟩
 by_cases T:l=0
 rotate_left
 ·have F:decide ((0:Int)<(l:Int))=true:=decide_eq_true (by omega)
  have R:decide (0<l)=true:=decide_eq_true (by omega);subst h1;subst x;clear f u;go_enter func19,ntmps19;go_wp2;go_ret;exact ⟨d,by rw [← k.out (by simp [oW,T])];rfl⟩
 subst h1;subst x;subst T
 by_cases A:xs.length≤40
 rotate_left
 ·have F:decide ((40:Int)<(xs.length:Int))=true:=decide_eq_true (by omega)
  have R:decide (40<xs.length)=true:=decide_eq_true (by omega);clear f u;generalize C:xs.length=m at *;go_enter func19,ntmps19;go_wp2;go_ret;exact ⟨d,by rw [← k.out (by simp [oW];omega)];rfl⟩
 have F:decide ((40:Int)<(xs.length:Int))=false:=decide_eq_false (by omega);have R:decide (40<xs.length)=false:=decide_eq_false (by omega);obtain ⟨g1,g2,g3⟩:=nk u;clear u
 cases hf:au neg xs with
 | false =>
  rw [hf] at f;have H9:=Qa (show oW 3 n neg xs ⟨#[]⟩ 0=false by simp [oW,hf]);have HX:=Qa A;clear hf A;generalize xs.length=m at *;go_enter func19,ntmps19
  go_wp2_with (go_at_call 75;refine (f _ d).mono ?_;rintro e D ⟨b,rfl⟩)
  go_ret;exact ⟨d.trans (b.mono d.size),by rw [← k.out H9.out];rfl⟩
 | true =>
  rw [hf] at f;have U:ak w (vN neg a xs.length c) (bX neg (val xs)):=dx.isInt ⟨_,rfl,i.out.1,i.out.2.1⟩ hf
  have B:(bX neg (val xs)).natAbs<aj^300:=by
   rw [bM];exact Qf ((bS (lJ i.out.2.1 hf).1 40).1 A) (Ql aP (by decide))
  have r:=fun X (M:bW w X)=>Kz _ _ X (U.below M) B
  have Y:decide ((bX neg (val xs)).fmod 10=0)=decide (val xs % 10=0):=by
   by_cases h:val xs % 10=0
   ·rw [decide_eq_true h,decide_eq_true ((uR neg _).2 h)]
   ·rw [decide_eq_false h,decide_eq_false (fun g=>h ((uR neg _).1 g))]
  rw [Y] at r
  have o:oW 3 n neg xs ⟨#[]⟩ 0=(decide (1≤n)&&(decide (n≤20)&&(decide (n=1) || decide (val xs % 10≠0)))):=by simp [oW,hf,A]
  have y:=Qa o;clear Y B U hf A o i;generalize C:xs.length=m at *;clear C
  obtain ⟨t,N⟩:∃ t:Bool,decide (val xs % 10=0)=t:=⟨_,rfl⟩
  rw [N] at r;have O:=Qa N;clear N
  rcases ZR n 1 with h5 | h5
  ·have S:decide (n<1)=true:=decide_eq_true h5
   have j:=Qa h5;clear r h5;go_enter func19,ntmps19
   go_wp2_with (go_at_call 75;refine (f _ d).mono ?_;rintro e D ⟨b,rfl⟩;have r2:=z.out.below b;obtain ⟨H,I,J⟩:=nk r2)
   go_ret;exact ⟨d.trans (b.mono d.size),by rw [← k.out (by rw [y.out];have:=j.out;simp;omega)];rfl⟩
  rcases ZR 20 n with h6 | h6
  ·have S:decide (n<1)=false:=decide_eq_false (by omega)
   have e4:decide (20<n)=true:=decide_eq_true h6;have j:=Qa h6;clear r h5 h6;go_enter func19,ntmps19
   go_wp2_with (go_at_call 75;refine (f _ d).mono ?_;rintro e D ⟨b,rfl⟩;have r2:=z.out.below b;obtain ⟨H,I,J⟩:=nk r2)
   go_ret;exact ⟨d.trans (b.mono d.size),by rw [← k.out (by rw [y.out];have:=j.out;simp;omega)];rfl⟩
  have S:decide (n<1)=false:=decide_eq_false (by omega);have e4:decide (20<n)=false:=decide_eq_false (by omega)
  by_cases G:n=1
  ·have e5:decide (1<n)=false:=decide_eq_false (by omega)
   have j:=Qa G;clear r h5 h6 G;go_enter func19,ntmps19
   go_wp2_with (go_at_call 75;refine (f _ d).mono ?_;rintro e D ⟨b,rfl⟩;have r2:=z.out.below b;obtain ⟨H,I,J⟩:=nk r2)
   go_ret;exact ⟨d.trans (b.mono d.size),by rw [← Q.out (by rw [y.out];have:=j.out;simp;omega)];rfl⟩
  have e5:decide (1<n)=true:=decide_eq_true (by omega);have j:=Qa (And.intro h5 (And.intro h6 G));clear h5 h6 G
  cases t with
  | true =>
   go_enter func19,ntmps19
   go_wp2_with (first | (go_at_call 76;refine (r _ (d.trans (b.mono d.size))).mono ?_;rintro e w3 ⟨p,rfl⟩;have L:=(d.trans (b.mono d.size)).trans (p.mono (d.trans (b.mono d.size)).size)) | (go_at_call 75;refine (f _ d).mono ?_;rintro e D ⟨b,rfl⟩;have r2:=z.out.below b;obtain ⟨H,I,J⟩:=nk r2))
   go_ret;exact ⟨L,by rw [← k.out (by rw [y.out];have h:=of_decide_eq_true O.out;have x:=j.out;simp [h];omega)];rfl⟩
  | false =>
   go_enter func19,ntmps19
   go_wp2_with (first | (go_at_call 76;refine (r _ (d.trans (b.mono d.size))).mono ?_;rintro e w3 ⟨p,rfl⟩;have L:=(d.trans (b.mono d.size)).trans (p.mono (d.trans (b.mono d.size)).size)) | (go_at_call 75;refine (f _ d).mono ?_;rintro e D ⟨b,rfl⟩;have r2:=z.out.below b;obtain ⟨H,I,J⟩:=nk r2))
   go_ret;exact ⟨L,by rw [← Q.out (by rw [y.out];have h:=of_decide_eq_false O.out;have x:=j.out;simp [h];omega)];rfl⟩
theorem dB.check {w:World}{v:Value}{i:Int}{p:Nat}(h:dB w v i p) :
 CB 19 #[v] w fun e _=>e=.returned (vI 0):=by
 obtain ⟨neg,xs,h1,b,-⟩:=h.at;have a:=yu v _ _ _ _ _ _ w h1;rw [if_pos b] at a;exact a
theorem mJ.check {w:World}{v:Value}(h:mJ w v) :
 CB 19 #[v] w fun e _=>e=.returned (vI 2):=by
 obtain ⟨kind,n,neg,xs,s,l,h1,b⟩:=h;have a:=yu v _ _ _ _ _ _ w h1;rw [if_neg (by rw [b];decide)] at a;exact a
end Go.Proofs.YtagjhmodblifbaaGreatDoor
