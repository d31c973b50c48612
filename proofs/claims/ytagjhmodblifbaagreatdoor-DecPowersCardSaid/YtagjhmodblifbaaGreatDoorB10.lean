/- proved lemmas -/
import Derived.Test.YtagjhmodblifbaaGreatDoorMA
import Derived.Test.YtagjhmodblifbaaGreatDoorB00
import Derived.Test.YtagjhmodblifbaaGreatDoorB09
import Derived.Test.YtagjhmodblifbaaGreatDoorB08
import Derived.Deep.CutRange
import Derived.RegionTactic
import Derived.BigRegion
import Derived.Deep.RegionHeld3
import Derived.Test.YtagjhmodblifbaaGreatDoorB02
import Derived.Test.YtagjhmodblifbaaGreatDoorB05
import Derived.Test.YtagjhmodblifbaaGreatDoorB01
set_option maxHeartbeats 4000000
set_option maxRecDepth 100000
set_option exponentiation.threshold 100000
namespace Go.Proofs.YtagjhmodblifbaaGreatDoor
open Go.Proofs.Tryz
open Go Go.RowKit Go.Shelf
structure wY (w:World) (q:List Nat) (W:World):Prop where
 r:af W w.heap.size 96 [vF,vZ,vF,vZ]
 o:af W (w.heap.size+1) 128 (aF q)
 sK:bW w W
theorem wY.step {w:World}{q:List Nat}{W b:World}(h:wY w q W)(a:bW W b):wY w q b:=⟨h.r.below a,h.o.below a,h.sK.trans (a.mono h.sK.size)⟩
theorem wY.drewN {w:World}{q:List Nat}{W:World}(h:wY w q W)(n:Nat):wY w q (W.drewN n):=⟨kv h.r n,kv h.o n,below_drewN h.sK n⟩
theorem wY.set {w:World}{q:List Nat}{W:World}(h:wY w q W)(i z:Nat):wY w (q.set i z) (W.setCell ⟨w.heap.size+1,i,none⟩ (.int .u32 (z:Int))) :=
 ⟨h.r.other (show w.heap.size≠w.heap.size+1 by omega) _,by rw [lM];exact h.o.set i _,h.sK.setCell (show w.heap.size≤w.heap.size+1 by omega) _⟩
def Dl (A B n m:Nat)(rs q:List Nat):Prop:=Canon rs∧Limbs q∧q.length=n∧∃ Q,val q=Q*2^m∧A / 2^m=Q*B+val rs∧val rs<B
theorem gq {W:World}{n:Bool}{a:Option Addr}{m c:Nat}{i:Int}(h:ak W (vN n a m c) i):∃ xs,Reads .u32 W (.slice a m c) xs∧Canon xs∧val xs=i.natAbs:=by
 obtain ⟨neg,f,xs,e,hr,b,d,rfl⟩:=h;simp only [Value.agg.injEq,Array.mk.injEq,List.cons.injEq,Value.bool.injEq,and_true] at e;obtain ⟨rfl,rfl⟩:=e;exact ⟨xs,hr,b,(bM _ _).symm⟩
def Nb (w:World)(A B n:Nat)(s6 s7:Value)(W:World):Prop:=∃ (m:Nat) (rs q:List Nat),m≤32*n∧s7=vI ((m:Int) - 1)∧Reads .u32 W s6 rs∧wY w q W∧Dl A B n m rs q
theorem IY (s:Nat):((2:Int)^s)=((2^s:Nat):Int):=by simp
theorem Bi {W:World}{v:Value}{xs:List Nat}{b L:Nat}(u:Value)(h:Reads .u32 W v xs)(d:∀ a n c,v=.slice (some a) n c→b<a.block):Reads .u32 (W.setCell ⟨b,L,none⟩ u) v xs :=
 ((dF.refl (fun k=>k=b) W).setCell (p:=⟨b,L,none⟩) (.inl rfl) u).reads h (fun a n c e _ f=>by have:=d a n c e;omega)
theorem Eg {a:List Nat}{B:Nat}(ha:Limbs a)(b:0<B):Dl (val a) B a.length (32*a.length) [] (List.replicate a.length 0):=by
 refine ⟨iU,jB _,by simp,0,by rw [ko];simp,?_,by simpa [val] using b⟩;have:=fu ha;rw [gX] at this;simp [val,QR this]
theorem IZ {A B n:Nat}{rs q:List Nat}(h:Dl A B n 0 rs q):val q=A / B∧val rs=A % B:=by
 obtain ⟨-,-,-,Q,h1,a,b⟩:=h;rw [ZO,QZ] at h1;rw [ZO,Nat.div_one] at a
 have c:A / B=Q:=by rw [a,Qp,Nat.mul_add_div (by omega),QR b,Jk]
 have d:A % B=val rs:=by rw [a,Qp,Nat.mul_add_mod,Jo b]
 exact ⟨h1.trans c.symm,d.symm⟩
theorem wN (A i:Nat):A / 2^i=2*(A / 2^(i+1))+A / 2^i % 2:=by
 have e:A / 2^(i+1)=A / 2^i / 2:=by rw [Qo,Zg]
 rw [e];omega
theorem LU {a:List Nat}(ha:Limbs a){i L s:Nat}(hi:i=32*L+s)(hs:s<32)(b:L<a.length):a[L]?.getD 0 / 2^s % 2=val a / 2^i % 2:=by
 rw [ku a L b,hi,Qt,← gX,← Zg,Zu _ _ (Qq aP),QR (oC ha L (by omega)),QJ]
 obtain ⟨t,c⟩:∃ t,32=s+1+t:=⟨31 - s,by omega⟩
 have e:aj*val (a.drop (L+1))=2^s*(2*(2^t*val (a.drop (L+1)))):=by
  rw [show aj=2^s*(2*2^t) by rw [← Qn,← Qo,← Qt,← c];rfl,Qn,Qn]
 rw [e,Zu _ _ (Qq (by decide)),ZA]
theorem Kc {q:List Nat}(h:Limbs q){i L s Q:Nat}(hi:i=32*L+s)(hs:s<32)(g:L<q.length)(j:val q=Q*2^(i+1)):q[L]?.getD 0+2^s<aj∧val (q.set L (q[L]?.getD 0+2^s))=(2*Q+1)*2^i:=by
 have h1:=uA q L (q[L]?.getD 0+2^s) g;rw [Qm] at h1
 have k:aj^L*2^s=2^i:=by rw [gX,← Qt,hi]
 refine ⟨?_,?_⟩
 ·obtain ⟨t,x⟩:∃ t,32=s+1+t:=⟨31 - s,by omega⟩
  have f:aj=2^(s+1)*2^t:=by rw [← Qt,← x];rfl
  have n:=ku q L g
  have o:2^(i+1)=aj^L*2^(s+1):=by rw [gX,← Qt,hi,QV]
  have p:=oC h L (by omega)
  have r:val q=aj^L*(Q*2^(s+1)):=by rw [j,o,Jb]
  have u:q[L]?.getD 0+aj*val (q.drop (L+1))=Q*2^(s+1):=by
   have c:val q / aj^L=Q*2^(s+1):=by rw [r,Nat.mul_div_cancel_left _ (Qq aP)]
   rw [n,Zu _ _ (Qq aP),QR p,QJ] at c;exact c
  have d:=aK h L
  have v:q[L]?.getD 0 % 2^(s+1)=0:=by
   have:(q[L]?.getD 0+aj*val (q.drop (L+1))) % 2^(s+1)=0:=by rw [u,Nat.mul_mod_left]
   rwa [f,Qn,ZA] at this
  generalize q[L]?.getD 0=z at *;obtain ⟨y,rfl⟩:=Nat.dvd_of_mod_eq_zero v;rw [f] at d ⊢;have a:y<2^t:=Xg d;have b:2^(s+1)*(y+1)≤2^(s+1)*2^t:=Qu _ a;have m:2^s<2^(s+1):=JV (by decide) (by omega);rw [Qm,QZ] at b;omega
 ·rw [k,j] at h1
  have l:Q*2^(i+1)=2*Q*2^i:=by rw [Qo,Qp (2^i) 2,← Qn,Qp Q 2]
  rw [l] at h1;rw [QH,QD];omega
theorem LV {A B n i:Nat}{rs r2 q:List Nat}(h:Dl A B n (i+1) rs q)(f:Canon r2)(g:val r2=2*val rs+A / 2^i % 2)(a:val r2<B):Dl A B n i r2 q:=by
 obtain ⟨-,h1,b,Q,c,d,j⟩:=h;refine ⟨f,h1,b,2*Q,?_,?_,a⟩
 ·rw [c,Qo,Qp (2^i) 2,← Qn,Qp Q 2]
 ·rw [wN,d,g,Qm,← Qn,QV]
theorem Ke {A B n i L s:Nat}{rs r2 r3 q:List Nat}(h:Dl A B n (i+1) rs q)(k:Canon r3)(o:val r2=2*val rs+A / 2^i % 2)(j:B≤val r2)(f:val r3=val r2 - B)(hi:i=32*L+s)(hs:s<32)(m:L<n) :
  q[L]?.getD 0+2^s<aj∧Dl A B n i r3 (q.set L (q[L]?.getD 0+2^s)):=by
 obtain ⟨-,h1,c,Q,d,g,l⟩:=h;obtain ⟨a,b⟩:=Kc h1 hi hs (by omega) d;refine ⟨a,k,kr h1 _ a,by simpa using c,2*Q+1,b,?_,by have:=Qy (A / 2^i) (show 0<2 by decide);omega⟩;rw [wN,g,Qm,← Qn,QH,QD];omega
theorem Cw (va vb:Value)(b k:List Nat)(w:World)(ha:Reads .u32 w va b)(hb:Reads .u32 w vb k)(H:Limbs b)(y:Canon k)(la:b.length≤90000)(lb:k.length≤90000)(h1:k.length≠1)(Y:0<val k) :
 CB 145 #[va,vb] w fun e w'=>iD w' e ((val b / val k:Nat):Int) ((val b % val k:Nat):Int):=by
 obtain ⟨aa,ca,rfl,fA,gy⟩:=ha.form;obtain ⟨ab,cb,rfl,ax,b4⟩:=hb.form
 have b6:∀ W,(Instr.makeSlice 22 (vI (b.length:Int)) (vI (b.length:Int))).run prog W=.ok (.slice (some ⟨W.heap.size,0,none⟩) b.length b.length) (W.alloc (.cells (zeros b.length) 128)):=fun W=>by
  simpa using fw (b.length:Int) (b.length:Int) (by omega) (by omega) (by omega) W
 have A:wY w (List.replicate b.length 0) ((w.alloc (.cells #[vF,vZ,vF,vZ] 96)).alloc (.cells (zeros b.length) 128)):=by
  have b1:=dJ w (.cells #[vF,vZ,vF,vZ] 96);have b2:=b1.alloc b1.size (.cells (zeros b.length) 128);refine ⟨(af.new w 96 [vF,vZ,vF,vZ]).alloc _,?_,b2⟩
  have e:(aF (List.replicate b.length 0)).toArray=zeros b.length:=by simp [aF,zeros]
  have:=af.new (w.alloc (.cells #[vF,vZ,vF,vZ] 96)) 128 (aF (List.replicate b.length 0));rw [e] at this;exact af.at this (by simp)
 have HS:=Qa A;clear A
 have bh:((k.length:Int) == 1)=false:=by simp;omega
 have ao:IntKind.i64.wrap (32*(b.length:Int))=32*(b.length:Int):=by rw [Qx];omega
 clear h1;go_enter func145,ntmps145
 go_wp2_with fail
 generalize au:(w.alloc (.cells #[vF,vZ,vF,vZ] 96)).alloc (.cells (zeros b.length) 128)=W0 at *;clear au b6
 go_loopw [6,7] (fun s6 s7 W=>Nb w (val b) (val k) b.length s6 s7 W) (fun _ s7 _=>(intOf s7+1).toNat)
 case atStart=>exact ⟨32*b.length,[],_,Qb _,by simp,Reads.nil _ _,HS.out,Eg H Y⟩
 case round =>
  clear HS ao;obtain ⟨m,rs,q,F,rfl,hr,t,p⟩:=hrel;obtain ⟨ar,cr,rfl,-,-⟩:=hr.form
  cases m with
  | zero =>
   obtain ⟨e1,e2⟩:=IZ p;obtain ⟨ag,b3,I,-⟩:=p;have bc:Reads .u32 wr (.slice (some ⟨w.heap.size+1,0,none⟩) b.length b.length) q:=af.reads t.o _ _ I.symm (Qb _) (by unfold maxLen;omega)
   have a1:rs.length≤1000000:=by
    have:=bE y ag (by rw [e2];exact Ju (Qy _ Y));omega
   have HV:=Qa (And.intro e1 e2);have R:(((0:Nat):Int) - 1)=-1:=rfl;rw [R];have bd:=t.r;have N:=t.sK;have M1:=jg false _ q wr bc b3 (by omega)
   have M2:=fun X (hX:bW wr X)=>jg false (.slice ar rs.length cr) rs X (hr.below hX) ag.1 a1
   clear e1 e2 I t R
   go_wp2_with (first
    | (go_at_call 136;with_reducible refine M1.mono ?_;rintro e w5 ⟨d,v5,rfl,hI⟩;obtain ⟨n5,a5,m5,c5,rfl⟩:=hI.shape;have bb:=bd.below d;clear M1)
    | (go_at_call 136;with_reducible refine (M2 _ d).mono ?_;rintro e w6 ⟨u,v6,rfl,hJ⟩;obtain ⟨n6,a6,m6,c6,rfl⟩:=hJ.shape;have E:=bb.below u;have q1:=E.cell 0;have q2:=E.cell 1;have q3:=E.cell 2;have q4:=E.cell 3;have f1:=E.frozen 0;have f2:=E.frozen 1;have f3:=E.frozen 2;have f4:=E.frozen 3;simp only [Qc,Qe] at q1 q2 q3 q4))
   have q5:=(((E.set 0 (.bool n5)).set 1 (.slice a5 m5 c5)).set 2 (.bool n6)).set 3 (.slice a6 m6 c6);have u1:=q5.cell 0;have u2:=q5.cell 1;have u3:=q5.cell 2;have u4:=q5.cell 3;simp only [QB,Qz,Qc,Qe] at u1 u2 u3 u4;have b5:=N.trans (d.mono N.size);have b9:=b5.trans (u.mono b5.size);have hk:=iV E (.bool n5) (.slice a5 m5 c5) (.bool n6) (.slice a6 m6 c6)
   refine bodyPost_ret (v:=.agg #[.bool n5,.slice a5 m5 c5,.bool n6,.slice a6 m6 c6]) (by simp [results,results145,go_sem,loadCellsFrom,u1,u2,u3,u4]) rfl ⟨(((b9.setCell (Qb _) _).setCell (Qb _) _).setCell (Qb _) _).setCell (Qb _) _,n5,a5,m5,c5,n6,a6,m6,c6,rfl,?_,?_⟩
   ·rw [← HV.out.1]
    exact (hI.below u).keep hk
   ·rw [← HV.out.2]
    exact hJ.keep hk
  | succ i =>
   have hi:((i+1:Nat):Int) - 1=(i:Int):=by omega
   rw [hi];clear hi
   obtain ⟨L,aq⟩:∃ L,i / 32=L:=⟨_,rfl⟩
   obtain ⟨s,be⟩:∃ s,i % 32=s:=⟨_,rfl⟩
   have l:i=32*L+s:=by omega
   have hs:s<32:=by omega
   have V:L<b.length:=by omega
   have M:=LU H l hs V
   have a1:rs.length≤k.length:=by
    obtain ⟨hk,-,-,Q,-,-,h⟩:=p;exact bE y hk (by omega)
   have K1:=ym _ _ rs rs wr hr hr p.1 p.1 (by omega) (by omega)
   have K2:=fun X (hX:bW wr X)=>Lv (.slice aa b.length ca) b L s (i:Int) (by omega) (by omega) (by omega) (by omega) hs V X ((ha.below t.sK).below hX) H
   rw [M] at K2
   obtain ⟨D,hD⟩:∃ D,val b / 2^i % 2=D:=⟨_,rfl⟩
   rw [hD] at K2
   have a3:D=0∨D=1:=by omega
   have HH:=Qa (And.intro p (And.intro hD (And.intro l (And.intro hs (And.intro V F)))));clear p M hD l hs V F be aq
   go_upto_if 36 with (first
    | (go_at_call 137;with_reducible refine K1.mono ?_;rintro e w2 ⟨Z,v2,r2,rfl,g,f,j⟩;clear K1)
    | (go_at_call 189;with_reducible refine (K2 _ Z).mono ?_;rintro e w3 ⟨⟨nq,rfl⟩,rfl⟩))
   clear K2;replace g:=mW g nq;replace t:=(t.step Z).drewN nq;generalize w2.drewN nq=w3 at *;clear Z hr
   go_cut [6] from 37 to 39 (fun v6 W=>∃ r3,Reads .u32 W v6 r3∧Canon r3∧val r3=2*val rs+D∧wY w q W)
   case first =>
    rcases a3 with rfl | rfl
    ·go_wp2
     go_meet
     exact ⟨r2,g,f,by omega,t⟩
    ·have b0:r2.length≤100000:=by
      have:=jr f HH.out.1.1.1 HH.out.1.1.1 (by omega);omega
     have a8:=dJ w3 (.cells #[.int .u32 1] 128);have K3:=ym v2 (.slice (some ⟨w3.heap.size,0,none⟩) 1 1) r2 [1] (w3.alloc (.cells #[.int .u32 1] 128)) (g.below a8) (af.reads (af.new w3 128 [.int .u32 1]) 1 1 rfl (Qb _) (by unfold maxLen;omega)) f (rP (by decide) (by decide)) b0 (by simp)
     go_wp2_with (go_at_call 137;with_reducible refine K3.mono ?_;rintro e w4 ⟨av,v4,r4,rfl,ba,az,J⟩)
     go_meet
     exact ⟨r4,ba,az,by rw [J,j];simp [val];omega,(t.step a8).step av⟩
   case rest =>
    clear t g f j;obtain ⟨r2,g,f,j,t⟩:=hcut;obtain ⟨p,hD,l,hs,V,F⟩:=HH.out;rw [← hD] at j;clear a3 hD HH;obtain ⟨a2,c2,rfl,-,-⟩:=g.form;generalize wc=w4 at *
    have al:r2.length≤k.length+1:=by
     apply aA f;obtain ⟨-,-,-,Q,-,-,h⟩:=p;have e1:=fu y.1;have e2:aj^k.length*2≤aj^k.length*aj:=Qu _ (by decide);rw [Qo];have:=Qy (val b / 2^i) (show 0<2 by decide);omega
    have KL:=tL (.slice a2 r2.length c2) (.slice ab k.length cb) r2 k w4 g (hb.below t.sK) f y (by omega)
    by_cases a0:val r2<val k
    ·rw [show dS (val r2:Int) (val k:Int)=-1 by unfold dS;rw [if_pos (by omega)]] at KL
     have C:=LV p f j a0;have HM:=Qa (And.intro C F);clear p j F l C a0
     go_wp2_with (go_at_call 138;with_reducible refine KL.mono ?_;rintro e w5 ⟨d,rfl⟩)
     have ap:wrap64 ((i:Int) - 1)=(i:Int) - 1:=by have:=HM.out.2;unfold wrap64;omega
     go_roundw
     case rel =>
      rw [ap];exact ⟨i,r2,q,by have:=HM.out.2;omega,rfl,g.below d,t.step d,HM.out.1⟩
     case measure=>simp [intOf];omega
    ·obtain ⟨c,hc⟩:∃ c,dS (val r2:Int) (val k:Int)=c:=⟨_,rfl⟩
     have aw:0≤c:=by rw [← hc];unfold dS;(repeat' split) <;> omega
     rw [hc] at KL
     have x:val k≤val r2:=by omega
     have K4:=fun X (hX:bW w4 X)=>pJ (.slice a2 r2.length c2) (.slice ab k.length cb) r2 k X (g.below hX) ((hb.below t.sK).below hX) f.1 y.1 (by omega) (bE f y x) x
     have HM:=Qa (And.intro p (And.intro j (And.intro l (And.intro F x))));clear p j F l a0 hc x
     go_wp2_with (first
      | (go_at_call 138;with_reducible refine KL.mono ?_;rintro e w5 ⟨d,rfl⟩;clear KL)
      | (go_at_call 139;with_reducible refine (K4 _ d).mono ?_;rintro e w6 ⟨u,v6,cs,rfl,E,ah,an,b7⟩;clear K4;have M6:=Ef false v6 cs w6 E ah (by omega))
      | (go_at_call 136;with_reducible refine M6.mono ?_;rintro e w7 ⟨a9,v7,rfl,hJ,ad⟩;obtain ⟨n7,a7,m7,c7,rfl⟩:=hJ.shape;clear M6))
     have O:∀ a n c,Value.slice a7 m7 c7=.slice (some a) n c→w.heap.size+1<a.block:=fun a n c e=>by
      simp only [Value.slice.injEq] at e;obtain ⟨rfl,-,-⟩:=e;have h1:=ad n7 a m7 c7 rfl;have h2:=t.o.lt;have h3:=d.size;have h4:=u.size;omega
     clear ad;obtain ⟨r3,ai,ae,am⟩:=gq hJ;have U:=dJ w7 (.cells #[.bool n7,.slice a7 m7 c7] 24);have G:=(((t.step d).step u).step a9).step U;have bO:=ai.below U;generalize w7.alloc (.cells #[.bool n7,.slice a7 m7 c7] 24)=w8 at *;clear U d u a9 E ah b7 hJ ai t g;obtain ⟨p,j,l,F,x⟩:=HM.out
     have J:val r3=val r2 - val k:=by rw [← an];simp [bX] at am;omega
     obtain ⟨f1,C⟩:=Ke p ae j x J l hs V;have I:q.length=b.length:=p.2.2.1;have b8:=aK p.2.1 L
     have ay:w8.cell? ⟨w.heap.size+1,L,none⟩=some (.int .u32 ((q[L]?.getD 0:Nat):Int)):=by rw [G.o.cell,jw (by omega)]
     have bg:=G.o.frozen L
     have ir:=fun W=>jk (w.heap.size+1) 0 b.length b.length L (by omega) .i64 W
     simp only [QJ] at ir
     have S:=fun z=>G.set L z
     generalize q[L]?.getD 0=z at *
     have t1:(i:Int) / 32=(L:Int):=by omega
     have t5:IntKind.i64.wrap (L:Int)=(L:Int):=by rw [Qx];omega
     have t6:wrap64 (L:Int)=(L:Int):=by unfold wrap64;omega
     have t2:(i:Int) % 32=(s:Int):=by omega
     have bf:2^s<2^32:=JV (by decide) hs;have a4:=IY s;generalize 2^s=P at *
     obtain ⟨T,hT⟩:∃ T,z+P=T:=⟨_,rfl⟩
     rw [hT] at f1 C;unfold aj at f1
     have t4:((z:Int)+2^s) % 4294967296=(T:Int):=by rw [a4];omega
     have ak:=Bi (L:=L) (.int .u32 (T:Int)) bO O;have B:=Qa (And.intro C (And.intro F (And.intro (S T) ak)));have HT:=Qa t4;have HW:=Qa (show wrap64 ((i:Int) - 1)=(i:Int) - 1 by unfold wrap64;omega);clear C p j l F x hT f1 S b8 I HM am J an a4 t4 bO ak O G ae aw al hs V f a1 ax b4 hb ha fA gy Y lb la y H
     go_region
     rw [HT.out];go_wp2
     go_roundw
     case rel =>
      rw [HW.out];exact ⟨i,r3,q.set L T,by have:=B.out.2.1;omega,rfl,tN B.out.2.2.2,⟨B.out.2.2.1.r,B.out.2.2.1.o,B.out.2.2.1.sK.drew⟩,B.out.1⟩
     case measure =>
      have:=HW.out;simp [intOf];omega
theorem Eh (D E:Value)(b:List Nat)(d:Nat)(w:World)(ha:Reads .u32 w D b)(c:Reads .u32 w E [d])(x:Limbs b)(g:Canon [d])(la:b.length≤90000) :
 CB 145 #[D,E] w fun e T=>iD T e ((val b / d:Nat):Int) ((val b % d:Nat):Int):=by
 have t:0<d:=by
  have:=iK g (by simp);simp at this;omega
 have u:d<aj:=g.1 d (by simp);obtain ⟨F,H,rfl,fA,gy⟩:=ha.form;obtain ⟨U,V,rfl,L,M⟩:=c.form
 have N:=fun W=>c.index aG bZ (P:=prog) 0 .i64 W (by simp)
 have r:=c.cell 0 (by simp);simp only [Qc,JF] at r;have j:=dJ w (.cells #[vF,vZ,vF,vZ] 96)
 have s:=((c.below j).cell 0 (by simp))
 simp only [Qc,JF] at s;have r1:=af.new w 96 [vF,vZ,vF,vZ];have K:=Ee (.slice F b.length H) b d _ (ha.below j) x (by omega) t u;unfold iD at K;simp only [QE,QG,Nat.reduceAdd,Int.natCast_zero] at N c;go_enter func145,ntmps145
 go_wp2_with (go_at_call 174;with_reducible refine K.mono ?_;rintro e w6 ⟨f,o,h,m,k,p,i,n,l,rfl,I,J⟩;have a:=r1.below f;have O:=a.cell 0;have Q:=a.cell 1;have R:=a.cell 2;have S:=a.cell 3;have X:=a.frozen 0;have Y:=a.frozen 1;have Z:=a.frozen 2;have f4:=a.frozen 3;simp only [Qc,Qe] at O Q R S)
 have q:=(((a.set 0 (.bool o)).set 1 (.slice h m k)).set 2 (.bool p)).set 3 (.slice i n l);have z:=q.cell 0;have A:=q.cell 1;have B:=q.cell 2;have C:=q.cell 3;simp only [QB,Qz,Qc,Qe] at z A B C;have G:=j.trans (f.mono j.size);have y:=iV a (.bool o) (.slice h m k) (.bool p) (.slice i n l)
 exact bodyPost_ret (v:=.agg #[.bool o,.slice h m k,.bool p,.slice i n l]) (by simp [results,results145,go_sem,loadCellsFrom,z,A,B,C]) rfl ⟨(((G.setCell (Qb _) _).setCell (Qb _) _).setCell (Qb _) _).setCell (Qb _) _,o,h,m,k,p,i,n,l,rfl,I.keep y,J.keep y⟩
theorem pY (g h:Value)(b a:List Nat)(w:World)(ha:Reads .u32 w g b)(j:Reads .u32 w h a)(f:Limbs b)(c:Canon a)(la:b.length≤90000)(lb:a.length≤90000)(i:0<val a) :
 CB 145 #[g,h] w fun e k=>iD k e ((val b / val a:Nat):Int) ((val b % val a:Nat):Int):=by
 by_cases h1:a.length=1
 ·obtain ⟨d,rfl⟩:=List.length_eq_one_iff.1 h1
  have:=Eh g h b d w ha j f c la;simpa [val] using this
 ·exact Cw g h b a w ha j f c la lb h1 i
theorem rQ {w:World}{n:Bool}{v:Value}{i:Int}(h:ak w (.agg #[.bool n,v]) i):n=decide (i<0):=by
 obtain ⟨neg,d,xs,e,hr,b,a,rfl⟩:=h;simp only [Value.agg.injEq,Array.mk.injEq,List.cons.injEq,Value.bool.injEq,and_true] at e;obtain ⟨rfl,rfl⟩:=e;have c:=dn b
 cases n with
 | false=>simp [bX]
 | true =>
  simp only [Jn,decide_eq_true_eq] at a;have:=c.2 a;simp [bX];omega
theorem Bj {x y:Int}:dS x y<0↔x<y:=by unfold dS;(repeat' split) <;> omega
structure pR (w:World) (na:Bool) (aa:Option Addr) (ma ca:Nat) (nb:Bool) (ab:Option Addr) (mb cb:Nat) (b5:Nat) (n5:Bool) (a5:Option Addr) (m5 c5:Nat) (n6:Bool) (a6:Option Addr) (m6 c6:Nat) (X:World):Prop where
 ra:af X w.heap.size 24 (lN na aa ma ca)
 rb:af X (w.heap.size+1) 24 (lN nb ab mb cb)
 rr:af X (w.heap.size+1+1) 96 [vF,vZ,vF,vZ]
 rx:af X b5 96 [.bool n5,.slice a5 m5 c5,.bool n6,.slice a6 m6 c6]
 below:bW w X
 lt:w.heap.size+1+1<b5
section
variable {w X X':World} {na nb n5 n6:Bool} {aa ab a5 a6:Option Addr} {ma ca mb cb b5 m5 c5 m6 c6:Nat}
theorem pR.step (h:pR w na aa ma ca nb ab mb cb b5 n5 a5 m5 c5 n6 a6 m6 c6 X)(a:bW X X'):pR w na aa ma ca nb ab mb cb b5 n5 a5 m5 c5 n6 a6 m6 c6 X':=⟨h.ra.below a,h.rb.below a,h.rr.below a,h.rx.below a,h.below.trans (a.mono h.below.size),h.lt⟩
theorem pR.put (h:pR w na aa ma ca nb ab mb cb b5 n5 a5 m5 c5 n6 a6 m6 c6 X)(k:Nat)(v:Value):af (X.setCell ⟨b5,k,none⟩ v) w.heap.size 24 (lN na aa ma ca)∧af (X.setCell ⟨b5,k,none⟩ v) (w.heap.size+1) 24 (lN nb ab mb cb) ∧
  af (X.setCell ⟨b5,k,none⟩ v) (w.heap.size+1+1) 96 [vF,vZ,vF,vZ]∧bW w (X.setCell ⟨b5,k,none⟩ v):=by
 have:=h.lt;exact ⟨h.ra.other (show w.heap.size≠b5 by omega) _,h.rb.other (show w.heap.size+1≠b5 by omega) _,h.rr.other (show w.heap.size+1+1≠b5 by omega) _,h.below.setCell (show w.heap.size≤b5 by omega) _⟩
theorem pR.set0 (h:pR w na aa ma ca nb ab mb cb b5 n5 a5 m5 c5 n6 a6 m6 c6 X)(n:Bool):pR w na aa ma ca nb ab mb cb b5 n a5 m5 c5 n6 a6 m6 c6 (X.setCell ⟨b5,0,none⟩ (.bool n)):=by
 obtain ⟨h1,a,b,c⟩:=h.put 0 (.bool n);exact ⟨h1,a,b,h.rx.set 0 (.bool n),c,h.lt⟩
theorem pR.set1 (h:pR w na aa ma ca nb ab mb cb b5 n5 a5 m5 c5 n6 a6 m6 c6 X)(a:Option Addr)(m c:Nat):pR w na aa ma ca nb ab mb cb b5 n5 a m c n6 a6 m6 c6 (X.setCell ⟨b5,1,none⟩ (.slice a m c)):=by
 obtain ⟨h1,b,d,f⟩:=h.put 1 (.slice a m c);exact ⟨h1,b,d,h.rx.set 1 (.slice a m c),f,h.lt⟩
theorem pR.set2 (h:pR w na aa ma ca nb ab mb cb b5 n5 a5 m5 c5 n6 a6 m6 c6 X)(n:Bool):pR w na aa ma ca nb ab mb cb b5 n5 a5 m5 c5 n a6 m6 c6 (X.setCell ⟨b5,2,none⟩ (.bool n)):=by
 obtain ⟨h1,a,b,c⟩:=h.put 2 (.bool n);exact ⟨h1,a,b,h.rx.set 2 (.bool n),c,h.lt⟩
theorem pR.Ns (h:pR w na aa ma ca nb ab mb cb b5 n5 a5 m5 c5 n6 a6 m6 c6 X)(a:Option Addr)(m c:Nat):pR w na aa ma ca nb ab mb cb b5 n5 a5 m5 c5 n6 a m c (X.setCell ⟨b5,3,none⟩ (.slice a m c)):=by
 obtain ⟨h1,b,d,f⟩:=h.put 3 (.slice a m c);exact ⟨h1,b,d,h.rx.set 3 (.slice a m c),f,h.lt⟩
theorem pR.si (h:pR w na aa ma ca nb ab mb cb b5 n5 a5 m5 c5 n6 a6 m6 c6 X)(k:Nat)(b:k=0∨k=2)(u:Value):∀ v xs,Reads .u32 X v xs→Reads .u32 (X.setCell ⟨b5,k,none⟩ u) v xs:=fun v xs a=>by
 rcases b with rfl | rfl
 ·exact a.setOther (c:=.bool n5) (h.rx.cell 0) (by simp) u
 ·exact a.setOther (c:=.bool n6) (h.rx.cell 2) (by simp) u
theorem pR.EU (h:pR w na aa ma ca nb ab mb cb b5 n5 a5 m5 c5 n6 a6 m6 c6 X)(k:Nat)(b:k=1∨k=3)(u:Value):∀ v xs,Reads .u32 X v xs→Reads .u32 (X.setCell ⟨b5,k,none⟩ u) v xs:=fun v xs a=>by
 rcases b with rfl | rfl
 ·exact a.setOther (c:=.slice a5 m5 c5) (h.rx.cell 1) (by simp) u
 ·exact a.setOther (c:=.slice a6 m6 c6) (h.rx.cell 3) (by simp) u
theorem dM (h:pR w na aa ma ca nb ab mb cb b5 n5 a5 m5 c5 n6 a6 m6 c6 X):X.cell? ⟨w.heap.size,0,none⟩=some (.bool na)∧X.cell? ⟨w.heap.size,1,none⟩=some (.slice aa ma ca)∧X.cell? ⟨w.heap.size+1,0,none⟩=some (.bool nb)∧X.cell? ⟨w.heap.size+1,1,none⟩=some (.slice ab mb cb) ∧
  X.cell? ⟨b5,0,none⟩=some (.bool n5)∧X.cell? ⟨b5,1,none⟩=some (.slice a5 m5 c5)∧X.cell? ⟨b5,2,none⟩=some (.bool n6)∧X.cell? ⟨b5,3,none⟩=some (.slice a6 m6 c6) :=
 ⟨h.ra.cell 0,h.ra.cell 1,h.rb.cell 0,h.rb.cell 1,h.rx.cell 0,h.rx.cell 1,h.rx.cell 2,h.rx.cell 3⟩
theorem iN (h:pR w na aa ma ca nb ab mb cb b5 n5 a5 m5 c5 n6 a6 m6 c6 X):X.frozen? ⟨b5,0,none⟩=false∧X.frozen? ⟨b5,1,none⟩=false∧X.frozen? ⟨b5,2,none⟩=false∧X.frozen? ⟨b5,3,none⟩=false:=⟨h.rx.frozen 0,h.rx.frozen 1,h.rx.frozen 2,h.rx.frozen 3⟩
end
theorem Ei (va vb:Value)(c a:List Nat)(w:World)(ha:Reads .u32 w va c)(H:Reads .u32 w vb a)(R:Canon c)(S:Canon a)(la:c.length≤80000)(lb:a.length≤80000)(r:0<val a) :
 CB 77 #[.agg #[vF,va],.agg #[vF,vb]] w fun e w'=>iD w' e ((bX false (val c)).fdiv (bX false (val a))) ((bX false (val c)).fmod (bX false (val a))):=by
 obtain ⟨p,q,rfl,fA,gy⟩:=ha.form;obtain ⟨n,o,rfl,Q,T⟩:=H.form;have J:=dJ w (.cells #[vF,.slice p c.length q] 24);have L:=J.alloc J.size (.cells #[vF,.slice n a.length o] 24);have y:=L.alloc L.size (.cells #[vF,vZ,vF,vZ] 96);have q1:=((af.new w 24 (lN false p c.length q)).alloc (.cells #[vF,.slice n a.length o] 24)).alloc (.cells #[vF,vZ,vF,vZ] 96)
 have X:=(af.new (w.alloc (.cells #[vF,.slice p c.length q] 24)) 24 (lN false n a.length o)).alloc (.cells #[vF,vZ,vF,vZ] 96);have Y:=af.new ((w.alloc (.cells #[vF,.slice p c.length q] 24)).alloc (.cells #[vF,.slice n a.length o] 24)) 96 [vF,vZ,vF,vZ];simp only [Qh] at X Y
 have K:=pY (.slice p c.length q) (.slice n a.length o) c a _ (ha.below y) (H.below y) R.1 S (by omega) (by omega) r;unfold iD at K;have g:=H.below y;clear J L;go_enter func77,ntmps77
 go_upto_region 2 with (go_at_call 145;with_reducible refine K.mono ?_;rintro e B ⟨s,n5,h,m5,k,E,j,m6,l,rfl,N,Z⟩)
 have t:=s.size;simp only [Qh] at t;obtain ⟨d,x,U,F⟩:=gq N;obtain ⟨r6,u,V,G⟩:=gq Z;obtain ⟨a',c',M,-,-⟩:=x.form;cases M;obtain ⟨a',c',M,-,-⟩:=u.form;cases M;rw [QQ] at F G
 obtain rfl:n5=false:=by rw [rQ N];exact decide_eq_false (Yb.2 (Zk _))
 have m:=dJ B (.cells #[vF,.slice h d.length k,.bool E,.slice j r6.length l] 96);have z:=s.trans (m.mono (by simp only [Qh];exact t))
 have b:pR w false p c.length q false n a.length o B.heap.size false h d.length k E j r6.length l (B.alloc (.cells #[vF,.slice h d.length k,.bool E,.slice j r6.length l] 96)):=⟨q1.below z,X.below z,Y.below z,af.new B 96 [vF,.slice h d.length k,.bool E,.slice j r6.length l],y.trans (z.mono (y.size)),by omega⟩
 replace x:=x.below m;replace u:=u.below m;replace g:=g.below z;clear N Z z m s K q1 X Y y t ha H fA gy Q T;generalize O:B.alloc (.cells #[vF,.slice h d.length k,.bool E,.slice j r6.length l] 96)=w5 at *;clear O;generalize B.heap.size=b5 at *
 obtain ⟨f6,D⟩:∃ f:Bool,decide (0<r6.length)=f:=⟨_,rfl⟩
 have a1:decide ((0:Int)<(r6.length:Int))=f6:=by rw [← D];simp
 obtain ⟨f5,C⟩:∃ f:Bool,decide (0<d.length)=f:=⟨_,rfl⟩
 have a0:decide ((0:Int)<(d.length:Int))=f5:=by rw [← C];simp
 have HF:=Qa (And.intro C D)
 go_cut [] from 12 to 22 (fun W=>pR w false p c.length q false n a.length o b5 false h d.length k false j r6.length l W∧Reads .u32 W (.slice h d.length k) d∧Reads .u32 W (.slice j r6.length l) r6∧Reads .u32 W (.slice n a.length o) a)
 case first =>
  obtain ⟨d1,d2,d3,d4,d5,d6,d7,d8⟩:=dM b;obtain ⟨z1,z2,z3,z4⟩:=iN b;go_wp2
  go_meet
  have A:=b.si 2 (.inr rfl) vF;exact ⟨b.set2 false,A _ _ x,A _ _ u,A _ _ g⟩
 case rest =>
  clear b x u g;obtain ⟨b,x,u,g⟩:=hcut;generalize wc=w6 at *;obtain ⟨d1,d2,d3,d4,d5,d6,d7,d8⟩:=dM b;have e1:=b.rr.cell 0;have e2:=b.rr.cell 1;have e3:=b.rr.cell 2;have e4:=b.rr.cell 3;have e5:=b.rr.frozen 0;have e6:=b.rr.frozen 1;have e7:=b.rr.frozen 2;have e8:=b.rr.frozen 3;simp only [Qc,Qe] at e1 e2 e3 e4;go_wp2
  have I:=(((b.rr.set 0 vF).set 1 (.slice h d.length k)).set 2 vF).set 3 (.slice j r6.length l);have u1:=I.cell 0;have u2:=I.cell 1;have u3:=I.cell 2;have u4:=I.cell 3;simp only [QB,Qz,Qc,Qe] at u1 u2 u3 u4;have A:=iV b.rr vF (.slice h d.length k) vF (.slice j r6.length l);have b9:=b.below
  refine bodyPost_ret (v:=.agg #[vF,.slice h d.length k,vF,.slice j r6.length l]) (by simp [results,results77,go_sem,loadCellsFrom,u1,u2,u3,u4]) rfl ⟨(((b9.setCell (by simp;omega) _).setCell (by simp;omega) _).setCell (by simp;omega) _).setCell (by simp;omega) _,false,_,_,_,false,_,_,_,rfl,?_,?_⟩
  ·rw [(lu false (val c) (val a) r).1]
   exact dm false (A _ _ x) U (by rw [F])
  ·rw [(lu false (val c) (val a) r).2]
   have:=dm false (A _ _ u) V (i:=bX false (val c % val a)) (by rw [G])
   rwa [HF.out.2] at this
theorem Ej (va vb:Value)(c a:List Nat)(w:World)(ha:Reads .u32 w va c)(I:Reads .u32 w vb a)(S:Canon c)(T:Canon a)(la:c.length≤80000)(lb:a.length≤80000)(s:0<val a) :
 CB 77 #[.agg #[.bool true,va],.agg #[.bool true,vb]] w fun e w'=>iD w' e ((bX true (val c)).fdiv (bX true (val a))) ((bX true (val c)).fmod (bX true (val a))):=by
 obtain ⟨q,r,rfl,fA,gy⟩:=ha.form;obtain ⟨n,o,rfl,R,U⟩:=I.form;have L:=dJ w (.cells #[.bool true,.slice q c.length r] 24);have M:=L.alloc L.size (.cells #[.bool true,.slice n a.length o] 24);have z:=M.alloc M.size (.cells #[vF,vZ,vF,vZ] 96)
 have q1:=((af.new w 24 (lN true q c.length r)).alloc (.cells #[.bool true,.slice n a.length o] 24)).alloc (.cells #[vF,vZ,vF,vZ] 96);have Y:=(af.new (w.alloc (.cells #[.bool true,.slice q c.length r] 24)) 24 (lN true n a.length o)).alloc (.cells #[vF,vZ,vF,vZ] 96)
 have Z:=af.new ((w.alloc (.cells #[.bool true,.slice q c.length r] 24)).alloc (.cells #[.bool true,.slice n a.length o] 24)) 96 [vF,vZ,vF,vZ];simp only [Qh] at Y Z;have K:=pY (.slice q c.length r) (.slice n a.length o) c a _ (ha.below z) (I.below z) S.1 T (by omega) (by omega) s;unfold iD at K;have g:=I.below z;clear L M;go_enter func77,ntmps77
 go_upto_region 2 with (go_at_call 145;with_reducible refine K.mono ?_;rintro e C ⟨t,n5,h,m5,k,F,j,m6,l,rfl,O,hJ⟩)
 have u:=t.size;simp only [Qh] at u;obtain ⟨d,y,V,G⟩:=gq O;obtain ⟨r6,x,X,H⟩:=gq hJ;obtain ⟨a',c',N,-,-⟩:=y.form;cases N;obtain ⟨a',c',N,-,-⟩:=x.form;cases N;rw [QQ] at G H
 obtain rfl:n5=false:=by rw [rQ O];exact decide_eq_false (Yb.2 (Zk _))
 have m:=dJ C (.cells #[vF,.slice h d.length k,.bool F,.slice j r6.length l] 96);have A:=t.trans (m.mono (by simp only [Qh];exact u))
 have b:pR w true q c.length r true n a.length o C.heap.size false h d.length k F j r6.length l (C.alloc (.cells #[vF,.slice h d.length k,.bool F,.slice j r6.length l] 96)):=⟨q1.below A,Y.below A,Z.below A,af.new C 96 [vF,.slice h d.length k,.bool F,.slice j r6.length l],z.trans (A.mono (z.size)),by omega⟩
 replace y:=y.below m;replace x:=x.below m;replace g:=g.below A;clear O hJ A m t K q1 Y Z z u ha I fA gy R U;generalize Q:C.alloc (.cells #[vF,.slice h d.length k,.bool F,.slice j r6.length l] 96)=w5 at *;clear Q;generalize C.heap.size=b5 at *
 obtain ⟨p,E⟩:∃ f:Bool,decide (0<r6.length)=f:=⟨_,rfl⟩
 have a1:decide ((0:Int)<(r6.length:Int))=p:=by rw [← E];simp
 obtain ⟨f5,D⟩:∃ f:Bool,decide (0<d.length)=f:=⟨_,rfl⟩
 have a0:decide ((0:Int)<(d.length:Int))=f5:=by rw [← D];simp
 have HF:=Qa (And.intro D E)
 go_cut [] from 12 to 22 (fun W=>pR w true q c.length r true n a.length o b5 false h d.length k p j r6.length l W∧Reads .u32 W (.slice h d.length k) d∧Reads .u32 W (.slice j r6.length l) r6∧Reads .u32 W (.slice n a.length o) a)
 case first =>
  obtain ⟨d1,d2,d3,d4,d5,d6,d7,d8⟩:=dM b;obtain ⟨z1,z2,z3,z4⟩:=iN b;go_wp2
  go_meet
  have B:=b.si 2 (.inr rfl) (.bool p);exact ⟨b.set2 p,B _ _ y,B _ _ x,B _ _ g⟩
 case rest =>
  clear b y x g;obtain ⟨b,y,x,g⟩:=hcut;generalize wc=w6 at *;obtain ⟨d1,d2,d3,d4,d5,d6,d7,d8⟩:=dM b;have e1:=b.rr.cell 0;have e2:=b.rr.cell 1;have e3:=b.rr.cell 2;have e4:=b.rr.cell 3;have e5:=b.rr.frozen 0;have e6:=b.rr.frozen 1;have e7:=b.rr.frozen 2;have e8:=b.rr.frozen 3;simp only [Qc,Qe] at e1 e2 e3 e4;go_wp2
  have J:=(((b.rr.set 0 vF).set 1 (.slice h d.length k)).set 2 (.bool p)).set 3 (.slice j r6.length l);have u1:=J.cell 0;have u2:=J.cell 1;have u3:=J.cell 2;have u4:=J.cell 3;simp only [QB,Qz,Qc,Qe] at u1 u2 u3 u4;have B:=iV b.rr vF (.slice h d.length k) (.bool p) (.slice j r6.length l);have b9:=b.below
  refine bodyPost_ret (v:=.agg #[vF,.slice h d.length k,.bool p,.slice j r6.length l]) (by simp [results,results77,go_sem,loadCellsFrom,u1,u2,u3,u4]) rfl ⟨(((b9.setCell (by simp;omega) _).setCell (by simp;omega) _).setCell (by simp;omega) _).setCell (by simp;omega) _,false,_,_,_,p,_,_,_,rfl,?_,?_⟩
  ·rw [(lu true (val c) (val a) s).1]
   exact dm false (B _ _ y) V (by rw [G])
  ·rw [(lu true (val c) (val a) s).2]
   have:=dm true (B _ _ x) X (i:=bX true (val c % val a)) (by rw [H])
   rwa [HF.out.2] at this
theorem El (va vb:Value)(c b:List Nat)(w:World)(ha:Reads .u32 w va c)(hb:Reads .u32 w vb b)(ae:Canon c)(a1:Canon b)(la:c.length≤80000)(lb:b.length≤80000)(u:0<val b) :
 CB 77 #[.agg #[vF,va],.agg #[.bool true,vb]] w fun e w'=>iD w' e ((bX false (val c)).fdiv (bX true (val b))) ((bX false (val c)).fmod (bX true (val b))):=by
 obtain ⟨B,C,rfl,fA,gy⟩:=ha.form;obtain ⟨n,p,rfl,ar,aw⟩:=hb.form;have b1:=dJ w (.cells #[vF,.slice B c.length C] 24);have b2:=b1.alloc b1.size (.cells #[.bool true,.slice n b.length p] 24);have bw:=b2.alloc b2.size (.cells #[vF,vZ,vF,vZ] 96);have q1:=((af.new w 24 (lN false B c.length C)).alloc (.cells #[.bool true,.slice n b.length p] 24)).alloc (.cells #[vF,vZ,vF,vZ] 96)
 have q2:=(af.new (w.alloc (.cells #[vF,.slice B c.length C] 24)) 24 (lN true n b.length p)).alloc (.cells #[vF,vZ,vF,vZ] 96);have q3:=af.new ((w.alloc (.cells #[vF,.slice B c.length C] 24)).alloc (.cells #[.bool true,.slice n b.length p] 24)) 96 [vF,vZ,vF,vZ];simp only [Qh] at q2 q3
 have K:=pY (.slice B c.length C) (.slice n b.length p) c b _ (ha.below bw) (hb.below bw) ae.1 a1 (by omega) (by omega) u;unfold iD at K;have d:=hb.below bw;clear b1 b2;go_enter func77,ntmps77
 go_upto_region 2 with (go_at_call 145;with_reducible refine K.mono ?_;rintro e w4 ⟨a0,n5,y,m5,z,n6,h,m6,j,rfl,hI,hJ⟩)
 have a2:=a0.size;simp only [Qh] at a2;obtain ⟨l,A,ai,a3⟩:=gq hI;obtain ⟨r6,q,R,T⟩:=gq hJ;obtain ⟨a',c',e',-,-⟩:=A.form;cases e';obtain ⟨a',c',e',-,-⟩:=q.form;cases e';rw [QQ] at a3 T
 obtain rfl:n5=false:=by rw [rQ hI];exact decide_eq_false (Yb.2 (Zk _))
 have Q:=dJ w4 (.cells #[vF,.slice y l.length z,.bool n6,.slice h r6.length j] 96);have hB:=a0.trans (Q.mono (by simp only [Qh];exact a2))
 have a:pR w false B c.length C true n b.length p w4.heap.size false y l.length z n6 h r6.length j (w4.alloc (.cells #[vF,.slice y l.length z,.bool n6,.slice h r6.length j] 96)):=⟨q1.below hB,q2.below hB,q3.below hB,af.new w4 96 [vF,.slice y l.length z,.bool n6,.slice h r6.length j],bw.trans (hB.mono (bw.size)),by omega⟩
 replace A:=A.below Q;replace q:=q.below Q;replace d:=d.below hB;clear hI hJ hB Q a0 K q1 q2 q3 bw a2 ha hb fA gy ar aw;generalize aq:w4.alloc (.cells #[vF,.slice y l.length z,.bool n6,.slice h r6.length j] 96)=w5 at *;clear aq;generalize w4.heap.size=b5 at *
 obtain ⟨f6,ad⟩:∃ f:Bool,decide (0<r6.length)=f:=⟨_,rfl⟩
 have b8:decide ((0:Int)<(r6.length:Int))=f6:=by rw [← ad];simp
 obtain ⟨V,a9⟩:∃ f:Bool,decide (0<l.length)=f:=⟨_,rfl⟩
 have b7:decide ((0:Int)<(l.length:Int))=V:=by rw [← a9];simp
 have HF:=Qa (And.intro a9 ad)
 go_cut [] from 12 to 22 (fun W=>pR w false B c.length C true n b.length p b5 false y l.length z f6 h r6.length j W∧Reads .u32 W (.slice y l.length z) l∧Reads .u32 W (.slice h r6.length j) r6∧Reads .u32 W (.slice n b.length p) b)
 case first =>
  obtain ⟨F,G,H,I,J,L,M,N⟩:=dM a;obtain ⟨z1,z2,z3,z4⟩:=iN a;go_wp2
  go_meet
  have x:=a.si 2 (.inr rfl) (.bool f6);exact ⟨a.set2 f6,x _ _ A,x _ _ q,x _ _ d⟩
 case rest =>
  clear a A q d;obtain ⟨a,A,q,d⟩:=hcut;generalize wc=w6 at *;obtain ⟨F,G,H,I,J,L,M,N⟩:=dM a
  go_upto_region 5 with (fail)
  clear F G H I J L M N
  go_cut [] from 29 to 35 (fun W=>pR w false B c.length C true n b.length p b5 V y l.length z f6 h r6.length j W∧Reads .u32 W (.slice y l.length z) l∧Reads .u32 W (.slice h r6.length j) r6∧Reads .u32 W (.slice n b.length p) b)
  case first =>
   obtain ⟨F,G,H,I,J,L,M,N⟩:=dM a;obtain ⟨z1,z2,z3,z4⟩:=iN a;go_wp2
   go_meet
   have x:=a.si 0 (.inl rfl) (.bool V);exact ⟨a.set0 V,x _ _ A,x _ _ q,x _ _ d⟩
  case rest =>
   clear a A q d;obtain ⟨a,A,q,d⟩:=hcut;generalize wc=w7 at *;have hp:=dn R;rw [T] at hp
   cases f6 with
   | false =>
    have hz:val c % val b=0:=by have:=of_decide_eq_false HF.out.2;omega
    obtain ⟨F,G,H,I,J,L,M,N⟩:=dM a;have e1:=a.rr.cell 0;have e2:=a.rr.cell 1;have e3:=a.rr.cell 2;have e4:=a.rr.cell 3;have e5:=a.rr.frozen 0;have e6:=a.rr.frozen 1;have e7:=a.rr.frozen 2;have e8:=a.rr.frozen 3;simp only [Qc,Qe] at e1 e2 e3 e4;go_wp2;have S:=(((a.rr.set 0 (.bool V)).set 1 (.slice y l.length z)).set 2 vF).set 3 (.slice h r6.length j);have u1:=S.cell 0
    have u2:=S.cell 1;have u3:=S.cell 2;have u4:=S.cell 3;simp only [QB,Qz,Qc,Qe] at u1 u2 u3 u4;have x:=iV a.rr (.bool V) (.slice y l.length z) vF (.slice h r6.length j);have b9:=a.below
    refine bodyPost_ret (v:=.agg #[.bool V,.slice y l.length z,vF,.slice h r6.length j]) (by simp [results,results77,go_sem,loadCellsFrom,u1,u2,u3,u4]) rfl ⟨(((b9.setCell (by simp;omega) _).setCell (by simp;omega) _).setCell (by simp;omega) _).setCell (by simp;omega) _,V,_,_,_,false,_,_,_,rfl,?_,?_⟩
    ·have g:=(jL false (val c) (val b) u hz).1
     simp only [Ze] at g;rw [g];have:=dm true (x _ _ A) ai (i:=bX true (val c / val b)) (by rw [a3])
     rwa [HF.out.1] at this
    ·have g:=(jL false (val c) (val b) u hz).2
     simp only [Ze] at g;rw [g];have:=dm false (x _ _ q) R (i:=0) (by rw [T,hz];rfl);exact this
   | true =>
    have hz:val c % val b≠0:=by have:=of_decide_eq_true HF.out.2;omega
    obtain ⟨F,G,H,I,J,L,M,N⟩:=dM a
    go_upto_region 7 with (fail)
    clear F G H I J L M N;have Z:=dm true A ai (i:=-((val c / val b:Nat):Int)) (by rw [a3];simp [bX]);rw [HF.out.1,Jn] at Z;have O:=dJ w7 (.cells #[.int .u32 1] 128)
    have h1:ak (w7.alloc (.cells #[.int .u32 1] 128)) (vN true (some ⟨w7.heap.size,0,none⟩) 1 1) (-1) :=
     dm true (af.reads (af.new w7 128 [.int .u32 1]) 1 1 rfl (Qb _) (by unfold maxLen;omega)) (rP (by decide) (by decide)) (by simp [bX,val])
    have ag:(val c / val b)<aj^80000:=Qr (Jv _ _) (Qf (fu ae.1) (Ql aP la));have KS:=xN _ _ _ _ 80000 _ (Z.below O) h1 (by omega) (by rw [JU,QQ];exact ag) (YY (show (80000:Nat)≠0 by decide) (by decide));clear Z h1 ag
    go_cut [] from 41 to 46 (fun W=>∃ k r t s,pR w false B c.length C true n b.length p b5 k r t s true h r6.length j W∧ak W (vN k r t s) (-((val c / val b:Nat):Int)+-1)∧Reads .u32 W (.slice h r6.length j) r6∧Reads .u32 W (.slice n b.length p) b)
    case first =>
     obtain ⟨F,G,H,I,J,L,M,N⟩:=dM a
     go_wp2_with (go_at_call 67;with_reducible refine KS.mono ?_;rintro e w8 ⟨qj,v8,rfl,h8⟩;obtain ⟨k,r,t,s,rfl⟩:=h8.shape;have g8:=O.trans (qj.mono O.size);have D:=a.step g8;obtain ⟨z1,z2,z3,z4⟩:=iN D;obtain ⟨-,-,-,-,y1,y2,-,-⟩:=dM D)
     go_meet
     have k1:=D.si 0 (.inl rfl) (.bool k);have k2:=(D.set0 k).EU 1 (.inl rfl) (.slice r t s);exact ⟨k,r,t,s,(D.set0 k).set1 r t s,h8.keep fun v xs hv=>k2 _ _ (k1 _ _ hv),k2 _ _ (k1 _ _ (q.below g8)),k2 _ _ (k1 _ _ (d.below g8))⟩
    case rest =>
     clear a A q d KS O;obtain ⟨k,r,t,s,a,Y,q,d⟩:=hcut;generalize wc=w8 at *
     go_upto_region 8 with (fail)
     have ba:=Qy (val c) u;have av:r6.length≤b.length:=bE a1 R (by omega);have KL:=pJ (.slice n b.length p) (.slice h r6.length j) b r6 w8 d q a1.1 R.1 (by omega) av (by omega)
     go_cut [6] from 47 to 53 (fun v6 W=>∃ l9,kJ W v6 ((val b - val c % val b:Nat):Int)∧l9=0∧pR w false B c.length C true n b.length p b5 k r t s true h r6.length j W∧ak W (vN k r t s) (-((val c / val b:Nat):Int)+-1))
     case first =>
      obtain ⟨F,G,H,I,J,L,M,N⟩:=dM a
      go_wp2_with (first
       | (go_at_call 139;with_reducible refine KL.mono ?_;rintro e w9 ⟨ig,v9,cs,rfl,ax,au,ay,bb⟩;have M9:=jg false v9 cs w9 ax au (by omega))
       | (go_at_call 136;with_reducible refine M9.mono ?_;rintro e b4 ⟨a7,be,rfl,hJ⟩;obtain ⟨b3,an,b0,ao,rfl⟩:=hJ.shape))
      go_meet
      have a4:=ig.trans (a7.mono ig.size);have X:=dJ b4 (.cells #[.bool b3,.slice an b0 ao] 24)
      have e9:bX false (val cs)=((val b - val c % val b:Nat):Int):=by rw [ay,T];rfl
      rw [e9] at hJ;exact ⟨0,kJ.new hJ,rfl,(a.step a4).step X,(Y.below a4).below X⟩
     case rest =>
      clear a q d KL Y;obtain ⟨-,ap,-,a,Y⟩:=hcut;obtain ⟨b6,bd,m,bc,o,rfl,r11,ah⟩:=ap;generalize wc=w11 at *;obtain ⟨U,E,al,am⟩:=gq ah;obtain ⟨a',c',e',-,-⟩:=E.form;cases e';rw [QQ] at am;have az:0<U.length:=(dn al).1 (by omega)
      go_upto_region 9 with (fail)
      go_cut [] from 54 to 59 (fun W=>pR w false B c.length C true n b.length p b5 k r t s true m U.length o W∧ak W (vN k r t s) (-((val c / val b:Nat):Int)+-1)∧Reads .u32 W (.slice m U.length o) U)
      case first =>
       obtain ⟨F,G,H,I,J,L,M,N⟩:=dM a;obtain ⟨z1,z2,z3,z4⟩:=iN a;obtain ⟨y1,y2⟩:=aQ r11;go_wp2
       go_meet
       have k1:=a.si 2 (.inr rfl) (.bool true);have k2:=(a.set2 true).EU 3 (.inr rfl) (.slice m U.length o);exact ⟨(a.set2 true).Ns m U.length o,Y.keep fun v xs hv=>k2 _ _ (k1 _ _ hv),k2 _ _ (k1 _ _ E)⟩
      case rest =>
       clear a Y E ah r11;obtain ⟨a,Y,E⟩:=hcut;generalize wc=w12 at *;obtain ⟨F,G,H,I,J,L,M,N⟩:=dM a;have e1:=a.rr.cell 0;have e2:=a.rr.cell 1;have e3:=a.rr.cell 2;have e4:=a.rr.cell 3;have e5:=a.rr.frozen 0;have e6:=a.rr.frozen 1;have e7:=a.rr.frozen 2;have e8:=a.rr.frozen 3;simp only [Qc,Qe] at e1 e2 e3 e4;go_wp2
       have S:=(((a.rr.set 0 (.bool k)).set 1 (.slice r t s)).set 2 (.bool true)).set 3 (.slice m U.length o);have u1:=S.cell 0;have u2:=S.cell 1;have u3:=S.cell 2;have u4:=S.cell 3;simp only [QB,Qz,Qc,Qe] at u1 u2 u3 u4;have x:=iV a.rr (.bool k) (.slice r t s) (.bool true) (.slice m U.length o);have b9:=a.below
       refine bodyPost_ret (v:=.agg #[.bool k,.slice r t s,.bool true,.slice m U.length o]) (by simp [results,results77,go_sem,loadCellsFrom,u1,u2,u3,u4]) rfl ⟨(((b9.setCell (by simp;omega) _).setCell (by simp;omega) _).setCell (by simp;omega) _).setCell (by simp;omega) _,k,_,_,_,true,_,_,_,rfl,?_,?_⟩
       ·have g:=(lv false (val c) (val b) u hz).1
        simp only [Ze] at g;rw [g];have:=Y.keep x
        rwa [show -((val c / val b:Nat):Int)+-1=bX true (val c / val b+1) by simp [bX];omega] at this
       ·have g:=(lv false (val c) (val b) u hz).2
        simp only [Ze] at g;rw [g];have:=dm true (x _ _ E) al (i:=bX true (val b - val c % val b)) (by rw [am])
        rwa [decide_eq_true az,Bool.and_true] at this
theorem Em (va vb:Value)(c b:List Nat)(w:World)(ha:Reads .u32 w va c)(hb:Reads .u32 w vb b)(ae:Canon c)(a1:Canon b)(la:c.length≤80000)(lb:b.length≤80000)(u:0<val b) :
 CB 77 #[.agg #[.bool true,va],.agg #[vF,vb]] w fun e w'=>iD w' e ((bX true (val c)).fdiv (bX false (val b))) ((bX true (val c)).fmod (bX false (val b))):=by
 obtain ⟨B,C,rfl,fA,gy⟩:=ha.form;obtain ⟨n,p,rfl,ar,aw⟩:=hb.form;have b1:=dJ w (.cells #[.bool true,.slice B c.length C] 24);have b2:=b1.alloc b1.size (.cells #[vF,.slice n b.length p] 24);have bw:=b2.alloc b2.size (.cells #[vF,vZ,vF,vZ] 96);have q1:=((af.new w 24 (lN true B c.length C)).alloc (.cells #[vF,.slice n b.length p] 24)).alloc (.cells #[vF,vZ,vF,vZ] 96)
 have q2:=(af.new (w.alloc (.cells #[.bool true,.slice B c.length C] 24)) 24 (lN false n b.length p)).alloc (.cells #[vF,vZ,vF,vZ] 96);have q3:=af.new ((w.alloc (.cells #[.bool true,.slice B c.length C] 24)).alloc (.cells #[vF,.slice n b.length p] 24)) 96 [vF,vZ,vF,vZ];simp only [Qh] at q2 q3
 have K:=pY (.slice B c.length C) (.slice n b.length p) c b _ (ha.below bw) (hb.below bw) ae.1 a1 (by omega) (by omega) u;unfold iD at K;have d:=hb.below bw;clear b1 b2;go_enter func77,ntmps77
 go_upto_region 2 with (go_at_call 145;with_reducible refine K.mono ?_;rintro e w4 ⟨a0,n5,y,m5,z,n6,h,m6,j,rfl,hI,hJ⟩)
 have a2:=a0.size;simp only [Qh] at a2;obtain ⟨l,A,ai,a3⟩:=gq hI;obtain ⟨r6,q,R,T⟩:=gq hJ;obtain ⟨a',c',e',-,-⟩:=A.form;cases e';obtain ⟨a',c',e',-,-⟩:=q.form;cases e';rw [QQ] at a3 T
 obtain rfl:n5=false:=by rw [rQ hI];exact decide_eq_false (Yb.2 (Zk _))
 have Q:=dJ w4 (.cells #[vF,.slice y l.length z,.bool n6,.slice h r6.length j] 96);have hB:=a0.trans (Q.mono (by simp only [Qh];exact a2))
 have a:pR w true B c.length C false n b.length p w4.heap.size false y l.length z n6 h r6.length j (w4.alloc (.cells #[vF,.slice y l.length z,.bool n6,.slice h r6.length j] 96)):=⟨q1.below hB,q2.below hB,q3.below hB,af.new w4 96 [vF,.slice y l.length z,.bool n6,.slice h r6.length j],bw.trans (hB.mono (bw.size)),by omega⟩
 replace A:=A.below Q;replace q:=q.below Q;replace d:=d.below hB;clear hI hJ hB Q a0 K q1 q2 q3 bw a2 ha hb fA gy ar aw;generalize aq:w4.alloc (.cells #[vF,.slice y l.length z,.bool n6,.slice h r6.length j] 96)=w5 at *;clear aq;generalize w4.heap.size=b5 at *
 obtain ⟨f6,ad⟩:∃ f:Bool,decide (0<r6.length)=f:=⟨_,rfl⟩
 have b8:decide ((0:Int)<(r6.length:Int))=f6:=by rw [← ad];simp
 obtain ⟨V,a9⟩:∃ f:Bool,decide (0<l.length)=f:=⟨_,rfl⟩
 have b7:decide ((0:Int)<(l.length:Int))=V:=by rw [← a9];simp
 have HF:=Qa (And.intro a9 ad)
 go_cut [] from 12 to 22 (fun W=>pR w true B c.length C false n b.length p b5 false y l.length z false h r6.length j W∧Reads .u32 W (.slice y l.length z) l∧Reads .u32 W (.slice h r6.length j) r6∧Reads .u32 W (.slice n b.length p) b)
 case first =>
  obtain ⟨F,G,H,I,J,L,M,N⟩:=dM a;obtain ⟨z1,z2,z3,z4⟩:=iN a;go_wp2
  go_meet
  have x:=a.si 2 (.inr rfl) vF;exact ⟨a.set2 false,x _ _ A,x _ _ q,x _ _ d⟩
 case rest =>
  clear a A q d;obtain ⟨a,A,q,d⟩:=hcut;generalize wc=w6 at *;obtain ⟨F,G,H,I,J,L,M,N⟩:=dM a
  go_upto_region 5 with (fail)
  clear F G H I J L M N
  go_cut [] from 29 to 35 (fun W=>pR w true B c.length C false n b.length p b5 V y l.length z false h r6.length j W∧Reads .u32 W (.slice y l.length z) l∧Reads .u32 W (.slice h r6.length j) r6∧Reads .u32 W (.slice n b.length p) b)
  case first =>
   obtain ⟨F,G,H,I,J,L,M,N⟩:=dM a;obtain ⟨z1,z2,z3,z4⟩:=iN a;go_wp2
   go_meet
   have x:=a.si 0 (.inl rfl) (.bool V);exact ⟨a.set0 V,x _ _ A,x _ _ q,x _ _ d⟩
  case rest =>
   clear a A q d;obtain ⟨a,A,q,d⟩:=hcut;generalize wc=w7 at *;have hp:=dn R;rw [T] at hp
   cases f6 with
   | false =>
    have hz:val c % val b=0:=by have:=of_decide_eq_false HF.out.2;omega
    obtain ⟨F,G,H,I,J,L,M,N⟩:=dM a;have e1:=a.rr.cell 0;have e2:=a.rr.cell 1;have e3:=a.rr.cell 2;have e4:=a.rr.cell 3;have e5:=a.rr.frozen 0;have e6:=a.rr.frozen 1;have e7:=a.rr.frozen 2;have e8:=a.rr.frozen 3;simp only [Qc,Qe] at e1 e2 e3 e4;go_wp2;have S:=(((a.rr.set 0 (.bool V)).set 1 (.slice y l.length z)).set 2 vF).set 3 (.slice h r6.length j);have u1:=S.cell 0
    have u2:=S.cell 1;have u3:=S.cell 2;have u4:=S.cell 3;simp only [QB,Qz,Qc,Qe] at u1 u2 u3 u4;have x:=iV a.rr (.bool V) (.slice y l.length z) vF (.slice h r6.length j);have b9:=a.below
    refine bodyPost_ret (v:=.agg #[.bool V,.slice y l.length z,vF,.slice h r6.length j]) (by simp [results,results77,go_sem,loadCellsFrom,u1,u2,u3,u4]) rfl ⟨(((b9.setCell (by simp;omega) _).setCell (by simp;omega) _).setCell (by simp;omega) _).setCell (by simp;omega) _,V,_,_,_,false,_,_,_,rfl,?_,?_⟩
    ·have g:=(jL true (val c) (val b) u hz).1
     simp only [Zd] at g;rw [g];have:=dm true (x _ _ A) ai (i:=bX true (val c / val b)) (by rw [a3])
     rwa [HF.out.1] at this
    ·have g:=(jL true (val c) (val b) u hz).2
     simp only [Zd] at g;rw [g];have:=dm false (x _ _ q) R (i:=0) (by rw [T,hz];rfl);exact this
   | true =>
    have hz:val c % val b≠0:=by have:=of_decide_eq_true HF.out.2;omega
    obtain ⟨F,G,H,I,J,L,M,N⟩:=dM a
    go_upto_region 7 with (fail)
    clear F G H I J L M N;have Z:=dm true A ai (i:=-((val c / val b:Nat):Int)) (by rw [a3];simp [bX]);rw [HF.out.1,Jn] at Z;have O:=dJ w7 (.cells #[.int .u32 1] 128)
    have h1:ak (w7.alloc (.cells #[.int .u32 1] 128)) (vN true (some ⟨w7.heap.size,0,none⟩) 1 1) (-1) :=
     dm true (af.reads (af.new w7 128 [.int .u32 1]) 1 1 rfl (Qb _) (by unfold maxLen;omega)) (rP (by decide) (by decide)) (by simp [bX,val])
    have ag:(val c / val b)<aj^80000:=Qr (Jv _ _) (Qf (fu ae.1) (Ql aP la));have KS:=xN _ _ _ _ 80000 _ (Z.below O) h1 (by omega) (by rw [JU,QQ];exact ag) (YY (show (80000:Nat)≠0 by decide) (by decide));clear Z h1 ag
    go_cut [] from 41 to 46 (fun W=>∃ k r t s,pR w true B c.length C false n b.length p b5 k r t s false h r6.length j W∧ak W (vN k r t s) (-((val c / val b:Nat):Int)+-1)∧Reads .u32 W (.slice h r6.length j) r6∧Reads .u32 W (.slice n b.length p) b)
    case first =>
     obtain ⟨F,G,H,I,J,L,M,N⟩:=dM a
     go_wp2_with (go_at_call 67;with_reducible refine KS.mono ?_;rintro e w8 ⟨qj,v8,rfl,h8⟩;obtain ⟨k,r,t,s,rfl⟩:=h8.shape;have g8:=O.trans (qj.mono O.size);have D:=a.step g8;obtain ⟨z1,z2,z3,z4⟩:=iN D;obtain ⟨-,-,-,-,y1,y2,-,-⟩:=dM D)
     go_meet
     have k1:=D.si 0 (.inl rfl) (.bool k);have k2:=(D.set0 k).EU 1 (.inl rfl) (.slice r t s);exact ⟨k,r,t,s,(D.set0 k).set1 r t s,h8.keep fun v xs hv=>k2 _ _ (k1 _ _ hv),k2 _ _ (k1 _ _ (q.below g8)),k2 _ _ (k1 _ _ (d.below g8))⟩
    case rest =>
     clear a A q d KS O;obtain ⟨k,r,t,s,a,Y,q,d⟩:=hcut;generalize wc=w8 at *
     go_upto_region 8 with (fail)
     have ba:=Qy (val c) u;have av:r6.length≤b.length:=bE a1 R (by omega);have KL:=pJ (.slice n b.length p) (.slice h r6.length j) b r6 w8 d q a1.1 R.1 (by omega) av (by omega)
     go_cut [6] from 47 to 53 (fun v6 W=>∃ l9,kJ W v6 ((val b - val c % val b:Nat):Int)∧l9=0∧pR w true B c.length C false n b.length p b5 k r t s false h r6.length j W∧ak W (vN k r t s) (-((val c / val b:Nat):Int)+-1))
     case first =>
      obtain ⟨F,G,H,I,J,L,M,N⟩:=dM a
      go_wp2_with (first
       | (go_at_call 139;with_reducible refine KL.mono ?_;rintro e w9 ⟨ig,v9,cs,rfl,ax,au,ay,bb⟩;have M9:=jg false v9 cs w9 ax au (by omega))
       | (go_at_call 136;with_reducible refine M9.mono ?_;rintro e b4 ⟨a7,be,rfl,hJ⟩;obtain ⟨b3,an,b0,ao,rfl⟩:=hJ.shape))
      go_meet
      have a4:=ig.trans (a7.mono ig.size);have X:=dJ b4 (.cells #[.bool b3,.slice an b0 ao] 24)
      have e9:bX false (val cs)=((val b - val c % val b:Nat):Int):=by rw [ay,T];rfl
      rw [e9] at hJ;exact ⟨0,kJ.new hJ,rfl,(a.step a4).step X,(Y.below a4).below X⟩
     case rest =>
      clear a q d KL Y;obtain ⟨-,ap,-,a,Y⟩:=hcut;obtain ⟨b6,bd,m,bc,o,rfl,r11,ah⟩:=ap;generalize wc=w11 at *;obtain ⟨U,E,al,am⟩:=gq ah;obtain ⟨a',c',e',-,-⟩:=E.form;cases e';rw [QQ] at am;have az:0<U.length:=(dn al).1 (by omega)
      go_upto_region 9 with (fail)
      go_cut [] from 54 to 59 (fun W=>pR w true B c.length C false n b.length p b5 k r t s false m U.length o W∧ak W (vN k r t s) (-((val c / val b:Nat):Int)+-1)∧Reads .u32 W (.slice m U.length o) U)
      case first =>
       obtain ⟨F,G,H,I,J,L,M,N⟩:=dM a;obtain ⟨z1,z2,z3,z4⟩:=iN a;obtain ⟨y1,y2⟩:=aQ r11;go_wp2
       go_meet
       have k1:=a.si 2 (.inr rfl) vF;have k2:=(a.set2 false).EU 3 (.inr rfl) (.slice m U.length o);exact ⟨(a.set2 false).Ns m U.length o,Y.keep fun v xs hv=>k2 _ _ (k1 _ _ hv),k2 _ _ (k1 _ _ E)⟩
      case rest =>
       clear a Y E ah r11;obtain ⟨a,Y,E⟩:=hcut;generalize wc=w12 at *;obtain ⟨F,G,H,I,J,L,M,N⟩:=dM a;have e1:=a.rr.cell 0;have e2:=a.rr.cell 1;have e3:=a.rr.cell 2;have e4:=a.rr.cell 3;have e5:=a.rr.frozen 0;have e6:=a.rr.frozen 1;have e7:=a.rr.frozen 2;have e8:=a.rr.frozen 3;simp only [Qc,Qe] at e1 e2 e3 e4;go_wp2
       have S:=(((a.rr.set 0 (.bool k)).set 1 (.slice r t s)).set 2 vF).set 3 (.slice m U.length o);have u1:=S.cell 0;have u2:=S.cell 1;have u3:=S.cell 2;have u4:=S.cell 3;simp only [QB,Qz,Qc,Qe] at u1 u2 u3 u4;have x:=iV a.rr (.bool k) (.slice r t s) vF (.slice m U.length o);have b9:=a.below
       refine bodyPost_ret (v:=.agg #[.bool k,.slice r t s,vF,.slice m U.length o]) (by simp [results,results77,go_sem,loadCellsFrom,u1,u2,u3,u4]) rfl ⟨(((b9.setCell (by simp;omega) _).setCell (by simp;omega) _).setCell (by simp;omega) _).setCell (by simp;omega) _,k,_,_,_,false,_,_,_,rfl,?_,?_⟩
       ·have g:=(lv true (val c) (val b) u hz).1
        simp only [Zd] at g;rw [g];have:=Y.keep x
        rwa [show -((val c / val b:Nat):Int)+-1=bX true (val c / val b+1) by simp [bX];omega] at this
       ·have g:=(lv true (val c) (val b) u hz).2
        simp only [Zd] at g;rw [g];have:=dm false (x _ _ E) al (i:=bX false (val b - val c % val b)) (by rw [am])
        rwa [decide_eq_true az,Bool.and_true] at this
theorem Cx (g k:Value)(i j:Int)(w:World)(ha:ak w g i)(p:ak w k j)(hi:i.natAbs<aj^80000)(o:j.natAbs<aj^80000)(m:j≠0) :
 CB 77 #[g,k] w fun e s=>iD s e (i.fdiv j) (i.fmod j):=by
 obtain ⟨na,g,n,rfl,d,a,q,rfl⟩:=ha;obtain ⟨nb,k,l,rfl,f,b,r,rfl⟩:=p;rw [bM] at hi o;have la:=aA a hi;have lb:=aA b o
 have c:0<val l:=by
  rcases Jr (val l) with h | h
  ·rw [h] at m;cases nb <;> simp [bX] at m
  ·exact h
 cases na <;> cases nb
 ·exact Ei g k n l w d f a b la lb c
 ·exact El g k n l w d f a b la lb c
 ·exact Em g k n l w d f a b la lb c
 ·exact Ej g k n l w d f a b la lb c
section
variable {w w1 X:World} {b1:Nat} {n1:Bool} {a1:Option Addr} {m1 c1:Nat} {b2:Nat} {n2:Bool} {a2:Option Addr} {m2 c2:Nat} {b3:Nat} {n3:Bool} {a3:Option Addr} {m3 c3:Nat} {b4:Nat} {n4:Bool} {a4:Option Addr} {m4 c4:Nat}
end
theorem Fp {w1 X W:World}{t:TypeId}{vals:List Value}(hs:w1.heap.size≤X.heap.size)(a:Below (X.alloc (.cells vals.toArray t)).heap.size (X.alloc (.cells vals.toArray t)) W):w1.heap.size≤X.heap.size∧af W X.heap.size t vals:=⟨hs,(af.new X t vals).below a⟩
theorem Kg {w1 X W:World}{t:TypeId}{vals:List Value}(hs:w1.heap.size≤X.heap.size)(a:Below (X.alloc (.cells vals.toArray t)).drew.heap.size (X.alloc (.cells vals.toArray t)).drew W):w1.heap.size≤X.heap.size∧af W X.heap.size t vals:=⟨hs,(show af (X.alloc (.cells vals.toArray t)).drew X.heap.size t vals from af.new X t vals).below a⟩
def ValAt (w:World)(v:Value)(kind n:Int)(neg:Bool)(xs:List Nat)(s:ByteArray)(l:Nat):Prop:=∃ va la lc,v=.agg #[vI kind,vI n,.bool neg,va,.string s,.slice la l lc]∧Reads .u32 w va xs∧Limbs xs
theorem ValAt.below {w a:World}{v:Value}{kind n:Int}{neg:Bool}{xs:List Nat}{s:ByteArray}{l:Nat}(h:ValAt w v kind n neg xs s l)(b:bW w a):ValAt a v kind n neg xs s l:=by
 obtain ⟨d,la,lc,e,hr,c⟩:=h;exact ⟨d,la,lc,e,hr.below b,c⟩
def oW (kind n:Int)(neg:Bool)(xs:List Nat)(s:ByteArray)(l:Nat):Bool :=
 decide (kind=3)&&(decide (s=⟨#[]⟩)&&(decide (l=0)&&(decide (1≤n)&&(decide (n≤20)&&(au neg xs&&(decide (xs.length≤40)&&(decide (n=1) || decide (val xs % 10≠0))))))))
def Hy (W:World)(v:Value)(q r:Int):Prop:=∃ b n1 a1 m1 c1 n2 a2 m2 c2,v=vP b∧af W b 96 [.bool n1,.slice a1 m1 c1,.bool n2,.slice a2 m2 c2]∧ak W (vN n1 a1 m1 c1) q∧ak W (vN n2 a2 m2 c2) r
theorem Hy.new {W:World}{c:Bool}{a:Option Addr}{m1 b:Nat}{n2:Bool}{a2:Option Addr}{m2 c2:Nat}{q r:Int}(h1:ak W (vN c a m1 b) q)(d:ak W (vN n2 a2 m2 c2) r):Hy (W.alloc (.cells #[.bool c,.slice a m1 b,.bool n2,.slice a2 m2 c2] 96)) (vP W.heap.size) q r :=
 ⟨_,c,a,m1,b,n2,a2,m2,c2,rfl,af.new W 96 [.bool c,.slice a m1 b,.bool n2,.slice a2 m2 c2],h1.below (dJ _ _),d.below (dJ _ _)⟩
theorem Kh {W:World}{B:Nat}{c:Bool}{a:Option Addr}{m1 b:Nat}{n2:Bool}{a2:Option Addr}{m2 c2:Nat}{q r:Int}(d:af W B 96 [vF,vZ,vF,vZ])(h1:ak W (vN c a m1 b) q)(f:ak W (vN n2 a2 m2 c2) r) :
  Hy ((((W.setCell ⟨B,0,none⟩ (.bool c)).setCell ⟨B,1,none⟩ (.slice a m1 b)).setCell ⟨B,2,none⟩ (.bool n2)).setCell ⟨B,3,none⟩ (.slice a2 m2 c2)) (vP B) q r :=
 ⟨B,c,a,m1,b,n2,a2,m2,c2,rfl,(((d.set 0 (.bool c)).set 1 (.slice a m1 b)).set 2 (.bool n2)).set 3 (.slice a2 m2 c2),h1.keep (iV d _ _ _ _),f.keep (iV d _ _ _ _)⟩
theorem Cy {s:ByteArray}(h:¬s=⟨#[]⟩):s.toList.isEmpty=false:=by
 rw [Lib.toList_data]
 cases hh:s.data.toList with
 | nil=>exact absurd (ky (by rw [hh])) h
 | cons=>rfl
section
variable {w w1 X X':World} {b:Nat} {t:TypeId} {cs:List Value}
end
theorem uR (neg:Bool)(A:Nat):(bX neg A).fmod 10=0↔A % 10=0:=by
 rw [ZQ _ (by decide)]
 cases neg <;> simp only [bX] <;> simp <;> omega
def least (i:Int):Nat→Int × Nat
 | 0=>(i*10,1)
 | 1=>(i,1)
 | p+2=>if i % 10=0 then least (i / 10) (p+1) else (i,p+2)
def dX (w:World)(v:Value)(i:Int)(p:Nat):Prop:=∃ n a m c la lc,v=vV 3 p n a m c ⟨#[]⟩ la 0 lc∧ak w (vN n a m c) i
theorem dX.below {w b:World}{v:Value}{i:Int}{p:Nat}(h:dX w v i p)(f:bW w b):dX b v i p:=by
 obtain ⟨n,a,m,c,la,lc,rfl,d⟩:=h;exact ⟨n,a,m,c,la,lc,rfl,d.below f⟩
theorem dX.keep {w b:World}{v:Value}{i:Int}{p:Nat}(h:dX w v i p)(f:∀ v xs,Reads .u32 w v xs→Reads .u32 b v xs):dX b v i p:=by
 obtain ⟨n,a,m,c,la,lc,rfl,d⟩:=h;exact ⟨n,a,m,c,la,lc,rfl,d.keep f⟩
def pV:Value:=vV 0 0 false none 0 0 ⟨#[]⟩ none 0 0
def dP (W:World)(j:Int)(q:Nat)(k:Int)(v:Value):Prop:=if j.natAbs<aj^40 then k=0∧dX W v j q else k=3∧v=pV
def iT (i:Int)(p:Nat)(j:Int)(q:Nat):Prop:=i*10^q=j*10^p
theorem wm:∀ (p:Nat) (i:Int),iT i p (least i p).1 (least i p).2
 | 0,i=>by simp [least,iT]
 | 1,i=>by simp [least,iT]
 | p+2,i=>by
  unfold least;split
  ·rename_i h
   have a:=wm (p+1) (i / 10);unfold iT at a ⊢
   have h1:i=i / 10*10:=by omega
   rw [Int.pow_succ 10 (p+1),← Yc,← a];rw [Zx (i / 10),← h1]
  ·rfl
theorem yn:∀ (p:Nat) (i:Int),1≤(least i p).2∧(least i p).2≤max p 1∧((least i p).2=1∨¬(least i p).1 % 10=0)
 | 0,i=>by simp [least]
 | 1,i=>by simp [least]
 | p+2,i=>by
  unfold least;split
  ·have a:=yn (p+1) (i / 10)
   exact ⟨a.1,by omega,a.2.2⟩
  ·rename_i h
   exact ⟨by simp,by omega,.inr h⟩
theorem Cz {i j:Int}{p q:Nat}(h:iT i p j q)(g:1≤p)(k:1≤q)(c:p=1∨¬i % 10=0)(f:q=1∨¬j % 10=0):i=j∧p=q:=by
 have a:∀ {i j:Int} {p d:Nat},i*10^(p+d)=j*10^p→i*10^d=j:=fun {i j p d} e=>by
  rw [YC,Yd (10^p),← Yc] at e;exact YD (by have:(0:Int)<10^p:=YE (by decide);omega) e
 have tail:∀ {i j:Int} {d:Nat},i*10^(d+1)=j→j % 10=0:=fun {i j d} e=>by
  rw [← e,Int.pow_succ,← Yc];omega
 unfold iT at h
 rcases Nat.lt_trichotomy p q with h1 | h1 | h1
 ·exfalso
  obtain ⟨d,rfl⟩:∃ d,q=p+(d+1):=⟨q - p - 1,by omega⟩
  have b:=tail (a h)
  rcases f with h3 | h3
  ·omega
  ·exact h3 b
 ·subst h1
  have:(0:Int)<10^p:=YE (by decide);exact ⟨YD (by omega) h,rfl⟩
 ·exfalso
  obtain ⟨d,rfl⟩:∃ d,p=q+(d+1):=⟨p - q - 1,by omega⟩
  have b:=tail (a h.symm)
  rcases c with h3 | h3
  ·omega
  ·exact h3 b
theorem En:∀ (p:Nat) (i:Int),1≤p→(p=1∨¬i % 10=0)→least i p=(i,p)
 | 0,_,h,_=>by omega
 | 1,_,_,_=>rfl
 | p+2,i,_,h=>by
  unfold least;rw [if_neg (h.resolve_left (by omega))]
theorem Ki {i j:Int}{p q:Nat}(h:iT i p j q)(k:1≤q)(d:q=1∨¬j % 10=0):least i p=(j,q):=by
 have h1:=wm p i;have a:=yn p i
 have f:iT (least i p).1 (least i p).2 j q:=by
  unfold iT at h h1 ⊢
  have g:(10:Int)^p≠0:=by have:(0:Int)<10^p:=YE (by decide);omega
  apply YD g;rw [Zx,← h1,Zx,h,Zx]
 obtain ⟨b,c⟩:=Cz f a.1 k a.2.2 d;rw [← b,← c]
end Go.Proofs.YtagjhmodblifbaaGreatDoor
namespace Go.Proofs.YtagjhmodblifbaaGreatDoor
open Go.Proofs.Tryz
def dQ (z:Nat)(x:Int × Nat):Int × Nat:=if x.2≤z then x else if x.1 % 10^z=0 then (x.1 / 10^z,x.2 - z) else x
def xP (z:Nat)(x:Int × Nat):Prop:=∀ r,z≤r→r<x.2→¬(x.1 % 10^r=0)
theorem rR (z:Nat):(0:Int)<10^z:=YE (by decide)
theorem lD (z:Nat)(x:Int × Nat):iT x.1 x.2 (dQ z x).1 (dQ z x).2:=by
 unfold dQ iT;split
 ·rfl
 ·rename_i h
  split
  ·rename_i h0
   have h1:x.1=x.1 / 10^z*10^z:=by
    have:=YF x.1 (10^z);rw [h0,Int.add_zero,Yd] at this;exact this.symm
   have a:x.2=z+(x.2 - z):=by omega
   have b:(10:Int)^x.2=10^z*10^(x.2 - z):=by rw [← YC,← a]
   show x.1*10^(x.2 - z)=x.1 / 10^z*10^x.2
   rw [b,← Yc,← h1]
  ·rfl
theorem lF {z:Nat}(x:Int × Nat)(h:xP (z+z) x):xP z (dQ z x):=by
 unfold dQ;split
 ·rename_i h1
  intro r c b;omega
 ·rename_i h1
  split
  ·rename_i h0
   intro r c b a;have b:r<x.2 - z:=b;have a:x.1 / 10^z % 10^r=0:=a;refine h (z+r) (by omega) (by omega) ?_;obtain ⟨k,g⟩:=Xl a;have f:x.1=10^z*(x.1 / 10^z):=(Int.mul_ediv_cancel' (Xl h0)).symm;exact Int.emod_eq_zero_of_dvd ⟨k,by rw [YC,Yc,← g];exact f⟩
  ·rename_i h0
   intro r c b a;apply h0
   have d:(10:Int)^z ∣ 10^r:=by
    rw [show r=z+(r - z) by omega,YC];exact Int.dvd_mul_right _ _
   exact Int.emod_eq_zero_of_dvd (Int.dvd_trans d (Xl a))
theorem jJ {z:Nat}(x:Int × Nat)(h:1≤x.2):1≤(dQ z x).2∧(dQ z x).2≤x.2:=by
 unfold dQ;split
 ·exact ⟨h,Qb _⟩
 ·split
  ·show 1≤x.2 - z∧x.2 - z≤x.2
   omega
  ·exact ⟨h,Qb _⟩
def mi (i:Int)(p:Nat):Int × Nat:=dQ 1 (dQ 2 (dQ 4 (dQ 8 (dQ 16 (i,p)))))
theorem rU {i j k:Int}{p q r:Nat}(h:iT i p j q)(a:iT j q k r):iT i p k r:=by
 unfold iT at *;have b:(10:Int)^q≠0:=Int.ne_of_gt (rR q);apply YD b;rw [Zx,h,Zx,a,Zx]
theorem oM {i:Int}{p:Nat}(h1:1≤p)(s:p≤32):mi i p=least i p:=by
 have d:xP 32 (i,p):=fun r a b=>by have b:r<p:=b;omega
 have f:=lF (z:=16) _ d;have g:=lF (z:=8) _ f;have j:=lF (z:=4) _ g;have k:=lF (z:=2) _ j;have l:=lF (z:=1) _ k;have m:=jJ (z:=16) (i,p) h1;have n:=jJ (z:=8) _ m.1;have o:=jJ (z:=4) _ n.1;have q:=jJ (z:=2) _ o.1;have c:=jJ (z:=1) _ q.1;have hr:=rU (rU (rU (rU (lD 16 (i,p)) (lD 8 _)) (lD 4 _)) (lD 2 _)) (lD 1 _);refine (Ki hr c.1 ?_).symm
 rcases QK 1 (mi i p).2 with h | h
 ·exact .inr (by have:=l 1 (Qb _) h;simpa using this)
 ·exact .inl (by have:=c.1;have h:(dQ 1 (dQ 2 (dQ 4 (dQ 8 (dQ 16 (i,p)))))).2≤1:=h;omega)
def near (n d:Int):Int :=
 if d.natAbs<2*(n.fmod d).natAbs∨2*(n.fmod d).natAbs=d.natAbs∧n.fdiv d % 2=1 then n.fdiv d+1 else n.fdiv d
theorem Kj (n d:Int):near (-n) (-d)=near n d:=by
 unfold near;rw [YW,Int.neg_fmod_neg,JU,JU]
theorem Eo {xs:List Nat}(h:Limbs xs)(m:Nat):Limbs (xs.drop m):=fun x a=>h x (Xh a)
theorem Gv (xs:List Nat)(m:Nat)(h:m≤xs.length):val xs=val (xs.take m)+aj^m*val (xs.drop m):=by
 conv=>lhs;rw [← ZC m xs]
 rw [val_append,Jp,JS h]
theorem qY {o n:Nat}{xs ys:List Nat}(h:Limbs xs)(f:Canon ys)(b:o+n=xs.length)(d:val xs+aj^o*val ys<aj^xs.length) :
  (dY o xs (ah ys n)).1.length=xs.length∧Limbs (dY o xs (ah ys n)).1∧val (dY o xs (ah ys n)).1=val xs+aj^o*val ys:=by
 have h1:val ys<aj^n:=by
  rw [← b,Qt] at d;exact Xg (Qr (Nat.le_add_left _ _) d)
 have g:=aA f h1;have a:=yc (o:=o) (xs:=xs) (ys:=ys) n (by omega);rw [Qv g,b] at a;refine ⟨jO _ _ _,(lC h _ fun p c=>?_).1,?_⟩
 ·simp only [ah,Qw] at c
  obtain ⟨i,-,rfl⟩:=c;exact aK f.1 i
 ·rcases Jr (dY o xs (ah ys n)).2 with hc | hc
  ·rw [hc] at a;omega
  ·exfalso
   have:=Qu (aj^xs.length) hc;omega
theorem Ep (c a d b H:Nat):(c+H*a)*(d+H*b)=c*d+H*((c+a)*(d+b) - c*d - a*b)+H*H*(a*b):=by
 have e:(c+a)*(d+b) - c*d - a*b=c*b+a*d:=by
  have:(c+a)*(d+b)=c*d+c*b+(a*d+a*b):=by rw [QH,Qm,Qm]
  omega
 rw [e];simp only [QH,Qm];have f:H*a*d=H*(a*d):=Qn ..;have g:c*(H*b)=H*(c*b):=Jb ..;have h:H*a*(H*b)=H*H*(a*b):=Xm ..;omega
theorem Er (a c b d:Nat):a*b≤(a+c)*(b+d):=JI (Yv _ _) (Yv _ _)
theorem Es (a b c d:Nat):b*d≤(a+b)*(c+d) - a*c:=by
 have:(a+b)*(c+d)=a*c+a*d+(b*c+b*d):=by rw [QH,Qm,Qm]
 omega
theorem Et {g i low mid high:List Nat}{h n a b c d:Nat}(ha:Limbs g)(y:Limbs i)(v:val g=a+aj^h*b)(x:val i=c+aj^h*d)
  (D:Canon low) (E:Canon mid) (C:Canon high) (t:val low=a*c) (u:val mid=(a+b)*(c+d) - a*c - b*d) (s:val high=b*d) (B:n=g.length+i.length) (F:2*h≤n) :
  ∃ r1 r2 r3,r1=(dY 0 (List.replicate n 0) (ah low n)).1∧r2=(dY h r1 (ah mid (n - h))).1∧r3=(dY (2*h) r2 (ah high (n - 2*h))).1 ∧
   Limbs r1∧r1.length=n∧Limbs r2∧r2.length=n∧Limbs r3∧r3.length=n∧val r3=val g*val i:=by
 have A:=Ep a b c d (aj^h);rw [← v,← x,← u,← t,← s,← Qt,show h+h=2*h by omega] at A
 have z:val g*val i<aj^n:=by
  rw [B,Qt];exact Ye (fu ha) (fu y)
 have p:(List.replicate n 0).length=n:=List.length_replicate;obtain ⟨f,a2,j⟩:=qY (o:=0) (n:=n) (jB n) D (by simp) (by rw [ko,p,ZO];omega);rw [ko,ZO,p] at *;obtain ⟨k,l,m⟩:=qY (o:=h) (n:=n - h) a2 E (by omega) (by rw [f,j];omega);obtain ⟨q,c2,r⟩:=qY (o:=2*h) (n:=n - 2*h) l C (by omega) (by rw [k,m,f,j];omega)
 exact ⟨_,_,_,rfl,rfl,rfl,a2,f,l,k.trans f,c2,q.trans (k.trans f),by rw [r,m,j];omega⟩
end Go.Proofs.YtagjhmodblifbaaGreatDoor
