/- proved lemmas -/
import Derived.Test.YtagjhmodblifbaaGreatDoorMA
import Derived.Test.YtagjhmodblifbaaGreatDoorB00
import Derived.Test.YtagjhmodblifbaaGreatDoorB08
import Derived.Deep.CutRange
import Derived.Test.YtagjhmodblifbaaGreatDoorB06
import Derived.Test.YtagjhmodblifbaaGreatDoorB04
import Derived.Test.YtagjhmodblifbaaGreatDoorB02
import Derived.Test.YtagjhmodblifbaaGreatDoorB05
import Derived.Deep.LoopGhost
import Derived.Test.YtagjhmodblifbaaGreatDoorB03
set_option maxHeartbeats 4000000
set_option maxRecDepth 100000
set_option exponentiation.threshold 100000
namespace Go.Proofs.YtagjhmodblifbaaGreatDoor
open Go.Proofs.Tryz
open Go Go.RowKit Go.Shelf
theorem az {x:Int}{m n:Nat}(a:x.natAbs<aj^m)(h:m≤n):x.natAbs<aj^n:=Qf a (Ql (by decide) h)
theorem wM (K:Nat):mf 90000 K:=fun d f g h w ha c a b la _ h0=>DZ d f g h w ha c a b la (by rintro rfl;simp [val] at h0)
theorem LM (b c:Value)(i j:Int)(w:World)(ha:ak w b i)(g:ak w c j)(hi:i.natAbs<aj^300)(d:j.natAbs<aj^300)(a:j≠0) :
 CB 187 #[b,c] w fun e f=>∃ q r,e=.returned (.tuple #[q,r,vI 0])∧ak f q (i.fdiv j)∧ak f r (i.fmod j) :=
 MZ b c i j 300 300 (yh (wM 300) (by omega) (by omega)) w ha g hi d hi d a
theorem og {w:World}{n:Bool}{a:Option Addr}{m c:Nat}{i:Int}(h:ak w (vN n a m c) i):m=0↔i=0:=by
 obtain ⟨neg,j,xs,e,hr,b,g,rfl⟩:=h;simp only [Value.agg.injEq,Array.mk.injEq,List.cons.injEq,Value.bool.injEq,and_true] at e;obtain ⟨rfl,rfl⟩:=e;obtain ⟨d,f,e,-,-⟩:=hr.form;simp only [Value.slice.injEq] at e;obtain ⟨-,rfl,-⟩:=e;have h1:=dn b;constructor
 ·intro h
  have:val xs=0:=by omega
  rw [this];cases n <;> rfl
 ·intro h
  have:val xs=0:=by
   have:=congrArg Int.natAbs h
   rwa [bM] at this
  omega
theorem Gs (na:Bool)(y z:Value)(a c:List Nat)(w:World)(ha:Reads .u32 w y a)(s:Reads .u32 w z c)(j:Limbs a)(k:Limbs c)(la:a.length≤100000)(lb:c.length≤100000) :
 CB 67 #[.agg #[.bool na,y],.agg #[.bool na,z]] w fun e A=>∃ v,e=.returned v∧ak A v (bX na (val a+val c)):=by
 have h0:=gL (na:=na) (nb:=na) ha s;obtain ⟨n,p,rfl,R,S⟩:=ha.form;obtain ⟨o,q,rfl,H,J⟩:=s.form;have d:=Qa h0;clear h0;go_enter func67,ntmps67
 go_wp2_with fail
 go_region_held3 (fun W=>W.cell? ⟨w.heap.size,0,none⟩=some (.bool na)∧W.cell? ⟨w.heap.size,1,none⟩=some (.slice n a.length p)∧W.cell? ⟨w.heap.size+1,0,none⟩=some (.bool na)∧W.cell? ⟨w.heap.size+1,1,none⟩=some (.slice o c.length q)∧aY w (.slice n a.length p) (.slice o c.length q) a c W)
  (first | exact ⟨d.out.1,d.out.2.1,d.out.2.2.1,d.out.2.2.2.1,d.out.2.2.2.2.drew⟩ | (go_split_ands;exact eT (by assumption) (by assumption) (by assumption) (by assumption) (by assumption) (by assumption)) | (go_split_ands;exact gM (by assumption) (by assumption) (by assumption) (by assumption) (by assumption) _ _ _ _))
  (first | (go_at_call 137;go_split_ands;refine (IL _ _ a c _ (aY.ra (by assumption)) (aY.rb (by assumption)) j k la lb).mono ?_;rintro e A ⟨F,v,B,rfl,h1,D,E,T⟩;obtain ⟨O,Q,rfl,G,I⟩:=h1.form) | (go_at_call 136;go_split_ands;refine (jg _ _ B _ h1 D (by omega)).mono ?_;rintro e N ⟨C,v5,rfl,r⟩;obtain ⟨m,f,l,g,rfl⟩:=r.shape;obtain ⟨X,Y,Z,u3,u,x,U,V⟩:=aY.cells (aY.step (by assumption) C)))
 obtain ⟨L,M⟩:=bA (b:=w.heap.size+1+1) u x (.bool m) (.slice f l g);have t:=r.keep (fun v xs h=>bf (b:=w.heap.size+1+1) h u x (.bool m) (.slice f l g));rename_i i;replace i:=i.2.2.2.2.below;go_wp2;exact bodyPost_ret (v:=vN m f l g) (by simp [results,results67,go_sem,loadCellsFrom,L,M]) rfl ⟨i,_,rfl,by rw [E] at t;exact t⟩
theorem LP (na nb:Bool)(D E:Value)(a c:List Nat)(w:World)(ha:Reads .u32 w D a)(z:Reads .u32 w E c)(o:Limbs a)(p:Limbs c)(la:a.length≤100000)(_lb:c.length≤100000)(g:Canon a)(i:Canon c)(T:na≠nb)(j:val c≤val a) :
 CB 67 #[.agg #[.bool na,D],.agg #[.bool nb,E]] w fun e F=>∃ v,e=.returned v∧ak F v (bX na (val a - val c)):=by
 have h0:=gL (na:=na) (nb:=nb) ha z;obtain ⟨s,u,rfl,fA,gy⟩:=ha.form;obtain ⟨t,x,rfl,O,S⟩:=z.form;have d:=Qa h0;clear h0;have Q:=bE g i j
 have hi:(0:Int)≤dS (val a) (val c):=by unfold dS;split <;> (try split) <;> omega
 obtain rfl:nb=!na:=by cases na <;> cases nb <;> first | rfl | exact absurd rfl T
 generalize n:dS (val a) (val c)=cv at hi;go_enter func67,ntmps67
 go_wp2_with (go_at_call 138;go_loud (refine (tL _ _ a c _ d.out.2.2.2.2.ra d.out.2.2.2.2.rb g i (by omega)).mono ?_;rintro e w1 ⟨G,rfl⟩;rw [n];have f:=Qa (eT d.out.1 d.out.2.1 d.out.2.2.1 d.out.2.2.2.1 d.out.2.2.2.2 G)))
 go_region_held3 (fun W=>W.cell? ⟨w.heap.size,0,none⟩=some (.bool na)∧W.cell? ⟨w.heap.size,1,none⟩=some (.slice s a.length u)∧W.cell? ⟨w.heap.size+1,0,none⟩=some (.bool !na)∧W.cell? ⟨w.heap.size+1,1,none⟩=some (.slice t c.length x)∧aY w (.slice s a.length u) (.slice t c.length x) a c W)
  (first | exact ⟨f.out.1,f.out.2.1,f.out.2.2.1,f.out.2.2.2.1,f.out.2.2.2.2.drew⟩ | (go_split_ands;exact eT (by assumption) (by assumption) (by assumption) (by assumption) (by assumption) (by assumption)) | (go_split_ands;exact gM (by assumption) (by assumption) (by assumption) (by assumption) (by assumption) _ _ _ _))
  (first | (go_at_call 139;go_split_ands;refine (pJ _ _ a c _ (aY.ra (by assumption)) (aY.rb (by assumption)) o p la Q j).mono ?_;rintro e F ⟨M,v,H,rfl,h1,J,L,h4⟩;obtain ⟨Y,Z,rfl,N,R⟩:=h1.form) | (go_at_call 136;go_split_ands;refine (jg _ _ H _ h1 J (by omega)).mono ?_;rintro e X ⟨I,v5,rfl,y⟩;obtain ⟨r,k,q,l,rfl⟩:=y.shape;obtain ⟨u0,u1,u2,u3,B,C,q3,q4⟩:=aY.cells (aY.step (by assumption) I)))
 obtain ⟨U,V⟩:=bA (b:=w.heap.size+1+1) B C (.bool r) (.slice k q l);have A:=y.keep (fun v xs h=>bf (b:=w.heap.size+1+1) h B C (.bool r) (.slice k q l));rename_i m;replace m:=m.2.2.2.2.below;go_wp2;exact bodyPost_ret (v:=vN r k q l) (by simp [results,results67,go_sem,loadCellsFrom,U,V]) rfl ⟨m,_,rfl,by rw [L] at A;exact A⟩
theorem LQ (na nb:Bool)(E F:Value)(a c:List Nat)(w:World)(ha:Reads .u32 w E a)(A:Reads .u32 w F c)(o:Limbs a)(p:Limbs c)(la:a.length≤100000)(lb:c.length≤100000)(g:Canon a)(i:Canon c)(U:na≠nb)(q:val a<val c) :
 CB 67 #[.agg #[.bool na,E],.agg #[.bool nb,F]] w fun e G=>∃ v,e=.returned v∧ak G v (bX nb (val c - val a)):=by
 have h0:=gL (na:=na) (nb:=nb) ha A;obtain ⟨t,x,rfl,fA,gy⟩:=ha.form;obtain ⟨u,y,rfl,Q,T⟩:=A.form;have d:=Qa h0;clear h0;have j:val a≤val c:=Ju q;have R:=bE i g j
 have hi:dS (val a) (val c)<(0:Int):=by unfold dS;split <;> (try split) <;> omega
 obtain rfl:nb=!na:=by cases na <;> cases nb <;> first | rfl | exact absurd rfl U
 generalize n:dS (val a) (val c)=cv at hi;go_enter func67,ntmps67
 go_wp2_with (go_at_call 138;refine (tL _ _ a c _ d.out.2.2.2.2.ra d.out.2.2.2.2.rb g i (by omega)).mono ?_;rintro e w1 ⟨H,rfl⟩;rw [n];have f:=Qa (eT d.out.1 d.out.2.1 d.out.2.2.1 d.out.2.2.2.1 d.out.2.2.2.2 H))
 go_region_held3 (fun W=>W.cell? ⟨w.heap.size,0,none⟩=some (.bool na)∧W.cell? ⟨w.heap.size,1,none⟩=some (.slice t a.length x)∧W.cell? ⟨w.heap.size+1,0,none⟩=some (.bool !na)∧W.cell? ⟨w.heap.size+1,1,none⟩=some (.slice u c.length y)∧aY w (.slice t a.length x) (.slice u c.length y) a c W)
  (first | exact ⟨f.out.1,f.out.2.1,f.out.2.2.1,f.out.2.2.2.1,f.out.2.2.2.2.drew⟩ | (go_split_ands;exact eT (by assumption) (by assumption) (by assumption) (by assumption) (by assumption) (by assumption)) | (go_split_ands;exact gM (by assumption) (by assumption) (by assumption) (by assumption) (by assumption) _ _ _ _))
  (first | (go_at_call 139;go_split_ands;refine (pJ _ _ c a _ (aY.rb (by assumption)) (aY.ra (by assumption)) p o lb R j).mono ?_;rintro e G ⟨N,v,I,rfl,h1,L,M,h4⟩;obtain ⟨Z,c3,rfl,O,S⟩:=h1.form) | (go_at_call 136;go_split_ands;refine (jg _ _ I _ h1 L (by omega)).mono ?_;rintro e Y ⟨J,v5,rfl,z⟩;obtain ⟨s,k,r,l,rfl⟩:=z.shape;obtain ⟨u0,u1,u2,u3,C,D,q3,q4⟩:=aY.cells (aY.step (by assumption) J)))
 obtain ⟨V,X⟩:=bA (b:=w.heap.size+1+1) C D (.bool s) (.slice k r l);have B:=z.keep (fun v xs h=>bf (b:=w.heap.size+1+1) h C D (.bool s) (.slice k r l));rename_i m;replace m:=m.2.2.2.2.below;go_wp2;exact bodyPost_ret (v:=vN s k r l) (by simp [results,results67,go_sem,loadCellsFrom,V,X]) rfl ⟨m,_,rfl,by rw [M] at B;exact B⟩
theorem xN (a b:Value)(i j:Int)(k:Nat)(w:World)(ha:ak w a i)(s:ak w b j)(x:k≤90000)(hi:i.natAbs<aj^k)(r:j.natAbs<aj^k) :
 CB 67 #[a,b] w fun e o=>∃ v,e=.returned v∧ak o v (i+j):=by
 obtain ⟨na,p,f,rfl,h,m,t,rfl⟩:=ha;obtain ⟨nb,q,g,rfl,l,c,u,rfl⟩:=s;rw [bM] at hi r;have la:=aA m hi;have lb:=aA c r
 by_cases n:na=nb
 ·subst n
  refine (Gs na p q f g w h l m.1 c.1 (by omega) (by omega)).mono ?_;rintro e o ⟨d,v,rfl,h1⟩;refine ⟨d,_,rfl,?_⟩
  rwa [show bX na (val f)+bX na (val g)=bX na (val f+val g) by cases na <;> simp [bX] <;> omega]
 ·rcases QK (val f) (val g) with hlt | hle
  ·refine (LQ na nb p q f g w h l m.1 c.1 (by omega) (by omega) m c n hlt).mono ?_
   rintro e o ⟨d,v,rfl,h1⟩;refine ⟨d,_,rfl,?_⟩
   rwa [show bX na (val f)+bX nb (val g)=bX nb (val g - val f) by cases na <;> cases nb <;> first | exact absurd rfl n | (simp [bX];omega)]
  ·refine (LP na nb p q f g w h l m.1 c.1 (by omega) (by omega) m c n hle).mono ?_
   rintro e o ⟨d,v,rfl,h1⟩;refine ⟨d,_,rfl,?_⟩
   rwa [show bX na (val f)+bX nb (val g)=bX na (val f - val g) by cases na <;> cases nb <;> first | exact absurd rfl n | (simp [bX];omega)]
structure Le (w:World) (na nb:Bool) (va vb:Value) (xa xb:List Nat) (q:List Nat) (W:World):Prop where
 a:af W w.heap.size 24 [.bool na,va]
 b:af W (w.heap.size+1) 24 [.bool nb,vb]
 r:af W (w.heap.size+1+1) 24 (lN false none 0 0)
 o:af W (w.heap.size+1+1+1) 128 (aF q)
 sK:bW w W
theorem Le.drewN {w:World}{na nb:Bool}{c d:Value}{f g q:List Nat}{W:World}(h:Le w na nb c d f g q W)(n:Nat):Le w na nb c d f g q (W.drewN n):=⟨kv h.a n,kv h.b n,kv h.r n,kv h.o n,below_drewN h.sK n⟩
theorem Le.set {w:World}{na nb:Bool}{c d:Value}{f g q:List Nat}{W:World}(h:Le w na nb c d f g q W)(i z:Nat):Le w na nb c d f g (q.set i z) (W.setCell ⟨w.heap.size+1+1+1,i,none⟩ (.int .u32 (z:Int))) :=
 ⟨h.a.other (show w.heap.size≠w.heap.size+1+1+1 by omega) _,h.b.other (show w.heap.size+1≠w.heap.size+1+1+1 by omega) _,h.r.other (show w.heap.size+1+1≠w.heap.size+1+1+1 by omega) _,by rw [lM];exact h.o.set i _,h.sK.setCell (show w.heap.size≤w.heap.size+1+1+1 by omega) _⟩
theorem Ed (na nb:Bool)(va vb:Value)(f d:List Nat)(w:World)(ha:Reads .u32 w va f)(hb:Reads .u32 w vb d)(a2:Limbs f)(N:Limbs d)(la:f.length≤100000)(lb:d.length≤100000) :
 CB 63 #[.agg #[.bool na,va],.agg #[.bool nb,vb]] w fun e w'=>∃ v,e=.returned v∧ak w' v (bX (na != nb) (val f*val d)):=by
 obtain ⟨x,A,rfl,fA,gy⟩:=ha.form;obtain ⟨B,C,rfl,ap,au⟩:=hb.form
 have ae:∀ W,(Instr.makeSlice 22 (vI ((f.length:Int)+(d.length:Int))) (vI ((f.length:Int)+(d.length:Int)))).run prog W=.ok (.slice (some ⟨W.heap.size,0,none⟩) (f.length+d.length) (f.length+d.length)) (W.alloc (.cells (zeros (f.length+d.length)) 128)):=fun W=>by
  rw [fw _ _ (by omega) (by omega) (by omega) W,show ((f.length:Int)+(d.length:Int)).toNat=f.length+d.length by omega]
 have n:Le w na nb (.slice x f.length A) (.slice B d.length C) f d (gD (f.length+d.length) d (ah f 0)) ((((w.alloc (.cells #[.bool na,.slice x f.length A] 24)).alloc (.cells #[.bool nb,.slice B d.length C] 24)).alloc (.cells #[vF,vZ] 24)).alloc (.cells (zeros (f.length+d.length)) 128)):=by
  have b1:=dJ w (.cells #[.bool na,.slice x f.length A] 24);have b2:=b1.alloc b1.size (.cells #[.bool nb,.slice B d.length C] 24);have b3:=b2.alloc b2.size (.cells #[vF,vZ] 24);have b4:=b3.alloc b3.size (.cells (zeros (f.length+d.length)) 128);refine ⟨?_,?_,?_,?_,b4⟩
  ·exact (((af.new w 24 (lN na x f.length A)).alloc _).alloc _).alloc _
  ·exact af.at (((af.new (w.alloc (.cells #[.bool na,.slice x f.length A] 24)) 24 (lN nb B d.length C)).alloc _).alloc _) (by simp)
  ·exact af.at ((af.new ((w.alloc (.cells #[.bool na,.slice x f.length A] 24)).alloc (.cells #[.bool nb,.slice B d.length C] 24)) 24 (lN false none 0 0)).alloc _) (by simp)
  ·have e:(aF (gD (f.length+d.length) d (ah f 0))).toArray=zeros (f.length+d.length):=by simp [gD,ah,aF,zeros]
   have:=af.new (((w.alloc (.cells #[.bool na,.slice x f.length A] 24)).alloc (.cells #[.bool nb,.slice B d.length C] 24)).alloc (.cells #[vF,vZ] 24)) 128 (aF (gD (f.length+d.length) d (ah f 0)));rw [e] at this;exact af.at this (by simp)
 have HS:=Qa n;clear n;go_enter func63,ntmps63
 go_wp2_with fail
 generalize a9:(((w.alloc (.cells #[.bool na,.slice x f.length A] 24)).alloc (.cells #[.bool nb,.slice B d.length C] 24)).alloc (.cells #[vF,vZ] 24)).alloc (.cells (zeros (f.length+d.length)) 128)=W0 at *;clear a9 ae
 go_loopw [6] (fun s W=>∃ i:Nat,i≤f.length∧s=vI i∧Le w na nb (.slice x f.length A) (.slice B d.length C) f d (gD (f.length+d.length) d (ah f i)) W) (fun s _=>f.length - (intOf s).toNat)
 case atStart=>exact ⟨0,QF _,rfl,HS.out⟩
 case round =>
  obtain ⟨i,hi,rfl,k⟩:=hrel
  have O:∀ p ∈ ah f i,p.2<aj:=fun p hp=>by
   obtain ⟨q,_,rfl⟩:=Qw.1 hp;exact aK a2 q
  have G:=qh (f.length+d.length) N (ah f i) O;have hlen:=mD (f.length+d.length) d (ah f i)
  by_cases a3:i<f.length
  ·have g:=mU (f.length+d.length) d (ah f i) (i,f[i]?.getD 0)
   rw [← bL] at g
   obtain ⟨q,hq⟩:∃ q,gD (f.length+d.length) d (ah f i)=q:=⟨_,rfl⟩
   rw [hq] at k G hlen g;simp only [vJ] at g
   obtain ⟨y,hy⟩:∃ y,f[i]?.getD 0=y:=⟨_,rfl⟩
   have I:=aK a2 i;rw [hy] at I g;have HN:=Qa g;have HL:=Qa hlen;have HY:=Qa hy;clear g hlen hq hy O;have U:=k.a.cell 1;simp only [Qe,Qc] at U
   go_wp2_with fail
   go_loopw [7,8] (fun s7 s8 W=>∃ j:Nat,j≤d.length∧s8=vI j∧s7=.int .u64 ((tlInner y i d q j).2:Int)∧Le w na nb (.slice x f.length A) (.slice B d.length C) f d (tlInner y i d q j).1 W) (fun _ s8 _=>d.length - (intOf s8).toNat)
   case atStart=>exact ⟨0,QF _,rfl,rfl,k⟩
   case round =>
    obtain ⟨j,hj,rfl,rfl,k⟩:=hrel;obtain ⟨ag,M⟩:=oJ I i N G j;have u:=jF y i d q j;rw [HL.out] at u;have hstep:tlInner y i d q (j+1)=((tlInner y i d q j).1.set (i+j) (((tlInner y i d q j).2+(y*d[j]?.getD 0+(tlInner y i d q j).1[i+j]?.getD 0)) % aj),((tlInner y i d q j).2+(y*d[j]?.getD 0+(tlInner y i d q j).1[i+j]?.getD 0)) / aj):=rfl;have l:=Qa hstep;clear hstep
    generalize a4:tlInner y i d q j=st at *;obtain ⟨r,c⟩:=st;have HT:=Qa a4;clear a4;dsimp only at *;have U:=k.a.cell 1;have b1:=k.b.cell 1;simp only [Qe,Qc] at U b1
    by_cases Z:j<d.length
    ·have hA:=ha.below k.sK
     have hB:=hb.below k.sK
     have ia:=fun W=>hA.index aG bZ (P:=prog) i .i64 W a3
     have ib:=fun W=>hB.index aG bZ (P:=prog) j .i64 W Z
     have a7:=hA.cell i a3;rw [HY.out] at a7;have a8:=hB.cell j Z;have L:=aK N j
     obtain ⟨b,Y⟩:∃ b,d[j]?.getD 0=b:=⟨_,rfl⟩
     obtain ⟨z,R⟩:∃ z,r[i+j]?.getD 0=z:=⟨_,rfl⟩
     have Q:=aK ag (i+j)
     have m:wr.cell? ⟨w.heap.size+1+1+1,i+j,none⟩=some (.int .u32 (z:Int)):=by rw [k.o.cell,jw (by omega),R]
     have ad:=k.o.frozen (i+j)
     have ir:=fun W=>jk (w.heap.size+1+1+1) 0 (f.length+d.length) (f.length+d.length) (i+j) (by omega) .i64 W
     simp only [QJ,ZJ] at ir;rw [R] at Q l;rw [Y] at a8 L l;have D:=xJ M I L Q
     obtain ⟨P,hP⟩:∃ P,y*b=P:=⟨_,rfl⟩
     rw [hP] at D l
     obtain ⟨T,hT⟩:∃ T,c+(P+z)=T:=⟨_,rfl⟩
     rw [hT] at l D;unfold aj at D L Q M;have a6:=I;unfold aj at a6
     have hmul:IntKind.u64.wrap ((y:Int)*(b:Int))=(P:Int):=by rw [← Jy,hP,Qk];omega
     have aw:IntKind.u64.wrap ((P:Int)+(z:Int))=(P:Int)+(z:Int):=by rw [Qk];omega
     have ax:IntKind.u64.wrap ((P:Int)+(z:Int)+(c:Int))=(T:Int):=by rw [Qk];omega
     have ay:IntKind.u64.wrap (y:Int)=(y:Int):=by rw [Qk];omega
     have az:IntKind.u64.wrap (b:Int)=(b:Int):=by rw [Qk];omega
     have b5:IntKind.u64.wrap (z:Int)=(z:Int):=by rw [Qk];omega
     have an:IntKind.i64.wrap ((i:Int)+(j:Int))=(i:Int)+(j:Int):=by rw [Qx];omega
     obtain ⟨S,F⟩:∃ S,T % aj=S:=⟨_,rfl⟩
     obtain ⟨V,E⟩:∃ V,T / aj=V:=⟨_,rfl⟩
     have av:(T:Int) % 4294967296=(S:Int):=by rw [← F];unfold aj;omega
     have aq:(T:Int) / 4294967296=(V:Int):=by rw [← E];unfold aj;omega
     have b6:IntKind.u32.wrap (S:Int)=(S:Int):=by rw [Jj,← F];unfold aj;omega
     have ao:IntKind.u64.wrap (V:Int)=(V:Int):=by rw [Qk,← E];unfold aj;omega
     rw [F,E] at l
     have ar:i+j<f.length+d.length:=by omega
     clear hP hT Y R D F E;have HQ:=Qa u;clear u hA hB
     go_wp2_with fail
     go_quiet (fail)
     go_wp2_with fail
     refine ⟨⟨j+1,by omega,by go_num,?_,?_⟩,?_⟩
     ·rw [l.out]
     ·rw [l.out]
      exact (k.drewN _).set (i+j) S
     ·simp [intOf];omega
    ·obtain rfl:j=d.length:=by omega
     have m:∃ z:Value,wr.cell? ⟨w.heap.size+1+1+1,i+d.length,none⟩=some z:=by
      rw [k.o.cell];exact ⟨_,jw (by omega)⟩
     obtain ⟨z,m⟩:=m;have ad:=k.o.frozen (i+d.length)
     have ir:=fun W=>jk (w.heap.size+1+1+1) 0 (f.length+d.length) (f.length+d.length) (i+d.length) (by omega) .i64 W
     simp only [QJ,ZJ] at ir
     have ao:IntKind.u32.wrap (c:Int)=(c:Int):=by rw [Jj];unfold aj at M;omega
     have an:IntKind.i64.wrap ((i:Int)+(d.length:Int))=(i:Int)+(d.length:Int):=by rw [Qx];omega
     have HQ:=Qa u;clear u
     go_wp2_with fail
     refine ⟨⟨i+1,by omega,by go_num,?_⟩,?_⟩
     ·rw [HN.out,HT.out]
      exact k.set (i+d.length) c
     ·simp [intOf];omega
  ·obtain rfl:i=f.length:=by omega
   have t:=(xU f d f.length (Qb _)).1;rw [Qv (Qb _)] at t
   obtain ⟨q,hq⟩:∃ q,gD (f.length+d.length) d (ah f f.length)=q:=⟨_,rfl⟩
   rw [hq] at k G hlen t;have al:Reads .u32 wr (.slice (some ⟨w.heap.size+1+1+1,0,none⟩) (f.length+d.length) (f.length+d.length)) q:=af.reads k.o _ _ hlen.symm (Qb _) (by unfold maxLen;omega)
   have ai:q.length≤1000000:=by omega
   have HV:=Qa t;have a0:=k.a.cell 0;have U:=k.a.cell 1;have b0:=k.b.cell 0;simp only [Qe,Qc] at a0 U b0;have J:=k.sK;have am:=k.r;clear t hq hlen O k
   go_wp2_with (go_at_call 136;refine (jg _ _ q _ al G ai).mono ?_;rintro e w5 ⟨X,v5,rfl,hI⟩;obtain ⟨n5,a5,m5,c5,rfl⟩:=hI.shape;have H:=am.below X;have q1:=H.cell 0;have q2:=H.cell 1;have q3:=H.frozen 0;have q4:=H.frozen 1;simp only [Qe,Qc] at q1 q2)
   obtain ⟨s1,s2⟩:=bA (b:=w.heap.size+1+1) q1 q2 (.bool n5) (.slice a5 m5 c5);have hk:=hI.keep (fun v xs h=>bf (b:=w.heap.size+1+1) h q1 q2 (.bool n5) (.slice a5 m5 c5));have ig:bW w w5:=J.trans (X.mono J.size);rw [HV.out] at hk
   exact bodyPost_ret (v:=vN n5 a5 m5 c5) (by simp [results,results63,go_sem,loadCellsFrom,s1,s2]) rfl ⟨(ig.setCell (by simp;omega) _).setCell (by simp;omega) _,_,rfl,hk⟩
theorem yl (a b:Value)(i j:Int)(w:World)(ha:ak w a i)(o:ak w b j)(hi:i.natAbs<aj^90000)(m:j.natAbs<aj^90000) :
 CB 63 #[a,b] w fun e n=>∃ v,e=.returned v∧ak n v (i*j):=by
 obtain ⟨na,r,h,rfl,f,l,p,rfl⟩:=ha;obtain ⟨nb,s,k,rfl,g,c,q,rfl⟩:=o;rw [bM] at hi m;have la:=aA l hi;have lb:=aA c m;refine (Ed na nb r s h k w f g l.1 c.1 (by omega) (by omega)).mono ?_;rintro e n ⟨d,v,rfl,h1⟩;refine ⟨d,_,rfl,?_⟩
 rwa [show bX na (val h)*bX nb (val k)=bX (na != nb) (val h*val k) by cases na <;> cases nb <;> simp [bX,Yu,Zf]]
theorem Gt (v:Value)(i:Int)(w:World)(h:ak w v i) :
 CB 78 #[v] w fun e _=>e=.returned (.bool (decide (i=0))):=by
 obtain ⟨n,a,m,c,rfl⟩:=h.shape;have b:=og h;have f:=dJ w (.cells #[.bool n,.slice a m c] 24)
 have d:((m:Int) == 0)=decide (i=0):=by
  by_cases h0:i=0
  ·rw [decide_eq_true h0]
   have:=b.2 h0;simp [this]
  ·rw [decide_eq_false h0]
   have:¬m=0:=fun e=>h0 (b.1 e)
   simp [this]
 clear b h;go_enter func78,ntmps78
 go_wp2_with fail
 go_ret;exact ⟨f,by first | rfl | rw [d] | simp [d]⟩
section
variable {w w1 X X':World} {n1:Bool} {a1:Option Addr} {m1 c1:Nat}
end
def iD (W:World)(e:Ending)(q r:Int):Prop:=∃ n1 a1 m1 c1 n2 a2 m2 c2,e=.returned (.agg #[.bool n1,.slice a1 m1 c1,.bool n2,.slice a2 m2 c2])∧ak W (vN n1 a1 m1 c1) q∧ak W (vN n2 a2 m2 c2) r
structure Hw (w:World) (q:List Nat) (W:World):Prop where
 r:af W w.heap.size 96 [vF,vZ,vF,vZ]
 o:af W (w.heap.size+1) 128 (aF q)
 sK:bW w W
theorem Hw.set {w:World}{q:List Nat}{W:World}(h:Hw w q W)(i z:Nat):Hw w (q.set i z) (W.setCell ⟨w.heap.size+1,i,none⟩ (.int .u32 (z:Int))) :=
 ⟨h.r.other (show w.heap.size≠w.heap.size+1 by omega) _,by rw [lM];exact h.o.set i _,h.sK.setCell (show w.heap.size≤w.heap.size+1 by omega) _⟩
theorem iV {W:World}{b:Nat}{t:TypeId}{n0 j:Bool}{a d:Option Addr}{i f m1 g:Nat}(q:af W b t [.bool n0,.slice a i f,.bool j,.slice d m1 g])(x y z u:Value) :
  ∀ v xs,Reads .u32 W v xs→Reads .u32 ((((W.setCell ⟨b,0,none⟩ x).setCell ⟨b,1,none⟩ y).setCell ⟨b,2,none⟩ z).setCell ⟨b,3,none⟩ u) v xs:=fun _ _ h =>
 (((h.setOther (c:=.bool n0) (q.cell 0) (by simp) x).setOther (c:=.slice a i f) ((q.set 0 x).cell 1) (by simp) y).setOther (c:=.bool j) (((q.set 0 x).set 1 y).cell 2) (by simp) z).setOther (c:=.slice d m1 g) ((((q.set 0 x).set 1 y).set 2 z).cell 3) (by simp) u
theorem Ee (va:Value)(a:List Nat)(d:Nat)(w:World)(ha:Reads .u32 w va a)(y:Limbs a)(la:a.length≤100000)(u:0<d)(C:d<aj) :
 CB 174 #[va,.int .u32 (d:Int)] w fun e w'=>iD w' e ((val a / d:Nat):Int) ((val a % d:Nat):Int):=by
 obtain ⟨aa,ca,rfl,fA,gy⟩:=ha.form
 have a7:∀ W,(Instr.makeSlice 22 (vI (a.length:Int)) (vI (a.length:Int))).run prog W=.ok (.slice (some ⟨W.heap.size,0,none⟩) a.length a.length) (W.alloc (.cells (zeros a.length) 128)):=fun W=>by
  simpa using fw (a.length:Int) (a.length:Int) (by omega) (by omega) (by omega) W
 have c:Hw w (eH a.length d (aW a 0)).1 ((w.alloc (.cells #[vF,vZ,vF,vZ] 96)).alloc (.cells (zeros a.length) 128)):=by
  have b1:=dJ w (.cells #[vF,vZ,vF,vZ] 96);have b2:=b1.alloc b1.size (.cells (zeros a.length) 128);refine ⟨(af.new w 96 [vF,vZ,vF,vZ]).alloc _,?_,b2⟩
  have e:(aF (eH a.length d (aW a 0)).1).toArray=zeros a.length:=by simp [eH,aW,aF,zeros]
  have:=af.new (w.alloc (.cells #[vF,vZ,vF,vZ] 96)) 128 (aF (eH a.length d (aW a 0)).1);rw [e] at this;exact af.at this (by simp)
 have HS:=Qa c;clear c
 have al:¬(d:Int)=0:=by omega
 have ak:IntKind.u64.wrap (d:Int)=(d:Int):=by rw [Qk];unfold aj at C;omega
 go_enter func174,ntmps174
 go_wp2_with fail
 generalize a3:(w.alloc (.cells #[vF,vZ,vF,vZ] 96)).alloc (.cells (zeros a.length) 128)=W0 at *;clear a3 a7
 go_loopw [6,7] (fun s6 s7 W=>∃ j:Nat,j≤a.length∧s7=vI ((a.length:Int) - 1 - j)∧s6=.int .u64 ((eH a.length d (aW a j)).2:Int)∧Hw w (eH a.length d (aW a j)).1 W) (fun _ s7 _=>(intOf s7+1).toNat)
 case atStart=>exact ⟨0,QF _,by simp,by simp [eH,aW],HS.out⟩
 case round =>
  obtain ⟨j,hj,rfl,rfl,s⟩:=hrel
  have A:∀ p ∈ aW a j,p.2<aj:=fun p hp=>by
   obtain ⟨q,_,rfl⟩:=Qw.1 hp;exact aK y _
  obtain ⟨a8,B⟩:=nJ a.length u (aW a j) A;have hlen:=mr a.length d (aW a j)
  by_cases an:j<a.length
  ·obtain ⟨k,D⟩:∃ k,a.length=j+1+k:=⟨a.length - (j+1),by omega⟩
   have i:(a.length:Int) - 1 - (j:Int)=(k:Int):=by omega
   have b:eH a.length d (aW a (j+1))=sU d (eH a.length d (aW a j)) (k,a[k]?.getD 0):=by
    rw [jE,mR,show a.length - 1 - j=k by omega]
   rw [i];generalize eH a.length d (aW a j)=st at *;obtain ⟨q,r⟩:=st;dsimp only at *;simp only [sU] at b
   have F:k<a.length:=by omega
   have hA:=ha.below s.sK
   have ia:=fun W=>hA.index aG bZ (P:=prog) k .i64 W F
   have a0:=hA.cell k F;have n:=aK y k
   obtain ⟨x,hx⟩:∃ x,a[k]?.getD 0=x:=⟨_,rfl⟩
   rw [hx] at a0 n b;have h:=xI B n
   have f:∃ z:Value,wr.cell? ⟨w.heap.size+1,k,none⟩=some z:=by
    rw [s.o.cell];exact ⟨_,jw (by omega)⟩
   obtain ⟨z,f⟩:=f;have am:=s.o.frozen k
   have ir:=fun W=>jk (w.heap.size+1) 0 a.length a.length k (by omega) .i64 W
   simp only [QJ] at ir
   obtain ⟨P,hP⟩:∃ P,r*aj=P:=⟨_,rfl⟩
   obtain ⟨T,hT⟩:∃ T,P+x=T:=⟨_,rfl⟩
   rw [hP,hT] at b h
   obtain ⟨Q,N⟩:∃ Q,T / d=Q:=⟨_,rfl⟩
   obtain ⟨R,O⟩:∃ R,T % d=R:=⟨_,rfl⟩
   rw [N,O] at b;rw [N] at h
   have ah:R<d:=by rw [← O];exact Qy _ u
   have ai:(T:Int) / (d:Int)=(Q:Int):=by rw [← N];exact (YZ T d).symm
   have a2:(T:Int) % (d:Int)=(R:Int):=by rw [← O];exact (Int.natCast_emod T d).symm
   unfold aj at hP n h C
   have a1:P≤4294967294*4294967296:=by rw [← hP];exact Ja _ (by omega)
   have hmul:IntKind.u64.wrap ((r:Int)*4294967296)=(P:Int):=by rw [← hP,Qk];omega
   have ao:IntKind.u64.wrap ((P:Int)+(x:Int))=(T:Int):=by rw [Qk];omega
   have ag:IntKind.u64.wrap (x:Int)=(x:Int):=by rw [Qk];omega
   have ap:IntKind.u64.wrap (Q:Int)=(Q:Int):=by rw [Qk];omega
   have aq:IntKind.u32.wrap (Q:Int)=(Q:Int):=by rw [Jj];omega
   have ar:IntKind.u64.wrap (R:Int)=(R:Int):=by rw [Qk];omega
   have HN:=Qa (And.intro b (And.intro D (And.intro i hlen)));clear b D i hlen hP hT N O hx h A n a1 C
   go_wp2_with fail
   obtain ⟨hn,D,i,hl⟩:=HN.out;refine ⟨⟨j+1,by omega,by go_num,?_,?_⟩,?_⟩
   ·rw [hn,a2]
   ·rw [hn]
    exact s.set k Q
   ·simp [intOf]
  ·obtain rfl:j=a.length:=by omega
   obtain ⟨l,m⟩:=xS u y;generalize eH a.length d (aW a a.length)=st at *;obtain ⟨q,r⟩:=st;dsimp only at *
   have G:(a.length:Int) - 1 - (a.length:Int)=-1:=by omega
   rw [G]
   have a9:q.length≤1000000:=by omega
   have ad:Reads .u32 wr (.slice (some ⟨w.heap.size+1,0,none⟩) a.length a.length) q:=af.reads s.o _ _ hlen.symm (Qb _) (by unfold maxLen;omega)
   have ag:IntKind.u32.wrap (r:Int)=(r:Int):=by rw [Jj];unfold aj at C;omega
   have H:r<aj:=Yt B C;have HV:=Qa (And.intro l (And.intro m H));have ae:=s.r;have t:=s.sK;clear l m hlen A s B C H
   have m2:=fun (X:World)=>jg false (.slice (some ⟨X.heap.size,0,none⟩) 1 1) [r] (X.alloc (.cells #[.int .u32 (r:Int)] 128)) (af.reads (af.new X 128 [.int .u32 (r:Int)]) 1 1 rfl (Qb _) (by unfold maxLen;omega)) (by simpa [Limbs] using HV.out.2.2) (by simp)
   go_wp2_with (first
    | (go_at_call 136;with_reducible refine (jg _ _ q _ ad a8 a9).mono ?_;rintro e w5 ⟨E,v5,rfl,hI⟩;obtain ⟨V,I,S,L,rfl⟩:=hI.shape;have ab:=ae.below E)
    | (go_at_call 136;with_reducible refine (m2 _).mono ?_;rintro e w6 ⟨a4,v6,rfl,hJ⟩;obtain ⟨Y,J,U,M,rfl⟩:=hJ.shape;have g6:=(dJ w5 (.cells #[.int .u32 (r:Int)] 128)).trans (a4.mono (by simp));have g:=ab.below g6;have q1:=g.cell 0;have q2:=g.cell 1;have q3:=g.cell 2;have q4:=g.cell 3;have f1:=g.frozen 0;have f2:=g.frozen 1;have f3:=g.frozen 2;have f4:=g.frozen 3;simp only [Qc,Qe] at q1 q2 q3 q4))
   have Z:=(((g.set 0 (.bool V)).set 1 (.slice I S L)).set 2 (.bool Y)).set 3 (.slice J U M);have u1:=Z.cell 0;have u2:=Z.cell 1;have u3:=Z.cell 2;have u4:=Z.cell 3;simp only [QB,Qz,Qc,Qe] at u1 u2 u3 u4;have b5:=t.trans (E.mono t.size);have b9:=b5.trans (g6.mono b5.size);obtain ⟨l,m,-⟩:=HV.out;have D:=iV g (.bool V) (.slice I S L) (.bool Y) (.slice J U M)
   refine bodyPost_ret (v:=.agg #[.bool V,.slice I S L,.bool Y,.slice J U M]) (by simp [results,results174,go_sem,loadCellsFrom,u1,u2,u3,u4]) rfl ⟨(((b9.setCell (Qb _) _).setCell (Qb _) _).setCell (Qb _) _).setCell (Qb _) _,V,I,S,L,Y,J,U,M,rfl,?_,?_⟩
   ·rw [← l]
    exact (hI.below g6).keep D
   ·rw [← m]
    have:bX false (val [r])=(r:Int):=by simp [bX,val]
    rw [this] at hJ;exact hJ.keep D
def Dn (m:Nat)(cs:List Nat):Prop:=cs.length≤m∨aj^m≤val cs
def Ie (w:World)(xa xb:List Nat)(s c i:Value)(W:World):Prop:=∃ k:Nat,k≤max xa.length xb.length+1∧i=vI k∧c=.int .u64 ((cK xa (ah xb k)).2:Int) ∧
 W.ownsRow w.heap.size 128 1 s k (aF (cK xa (ah xb k)).1)∧(k=max xa.length xb.length+1→(cK xa (ah xb k)).2=0∧aj^max xa.length xb.length≤val (cK xa (ah xb k)).1)∧bW w W
theorem Gu (va vb:Value)(d b:List Nat)(w:World)(ha:Reads .u32 w va d)(hb:Reads .u32 w vb b)(L:Limbs d)(M:Limbs b)(na:d.length≤100000)(nb:b.length≤100000) :
 CB 137 #[va,vb] w fun e w'=>∃ v S,e=.returned v∧Reads .u32 w' v S∧Limbs S∧val S=val d+val b∧S.length≤max d.length b.length+1∧Dn (max d.length b.length) S:=by
 obtain ⟨aa,ca,rfl,fA,gy⟩:=ha.form;obtain ⟨ab,cb,rfl,a7,ad⟩:=hb.form;obtain ⟨R,hi,Q⟩:=Js.1 fV;simp only [Prod.mk.injEq] at Q;have B:=Qa Q;clear Q
 have a1:∀ k,∀ p ∈ ah b k,p.2<aj:=fun k p hp=>by
  obtain ⟨i,_,rfl⟩:=Qw.1 hp;exact aK M i
 have o:Ie w d b vZ (.int .u64 0) (vI 0) w:=⟨0,QF _,rfl,by simp [cK,ah],by simpa [cK,ah,aF] using ZU w w.heap.size 128 1,fun h=>absurd h (by omega),Qj _ _⟩
 have HS:=Qa o;clear o;go_enter func137,ntmps137
 go_wp2_with fail
 go_loopw [5,6,7] (fun s c i wr=>Ie w d b s c i wr) (fun _ _ i _=>max d.length b.length+1 - (intOf i).toNat)
 case atStart=>exact HS.out
 case round =>
  obtain ⟨k,hk,rfl,rfl,hown,j,n⟩:=hrel;obtain ⟨sa,sc,rfl⟩:=pq hown;obtain ⟨U,a0⟩:=iX L (ah b k) (a1 k);have m:=nI d b k;have a:=iO d (ah b k) (k,b[k]?.getD 0);have C:=nD d (ah b k);rw [bR] at C;rw [← bL] at a;have hA:=ha.below n;have hB:=hb.below n;have N:=n.size
  obtain ⟨st,V⟩:∃ st,cK d (ah b k)=st:=⟨_,rfl⟩
  rw [V] at hown j U a0 m a C ⊢;obtain ⟨r,c⟩:=st;simp only [mK] at a;dsimp only at *;have H:=Qa C;clear V C
  by_cases O:k<d.length∨k<b.length∨c≠0
  ·have a9:k<max d.length b.length+1:=by
    rcases QK k (max d.length b.length+1) with h | h
    ·exact h
    ·have:c=0:=(j (by omega)).1
     omega
   have F:k+1=max d.length b.length+1→d[k]?.getD 0=0∧b[k]?.getD 0=0:=fun h=>by
    rw [Jm (show d.length≤k by omega),Jm (show b.length≤k by omega)];exact ⟨rfl,rfl⟩
   have lA:=pg (.slice aa d.length ca) d k wr hA L;have lB:=pg (.slice ab b.length cb) b k wr hB M;have a3:=aK L k;have a4:=aK M k;generalize d[k]?.getD 0=x at *;generalize b[k]?.getD 0=y at *
   obtain ⟨T,Z⟩:∃ T,c+(x+y)=T:=⟨_,rfl⟩
   rw [Z] at a;unfold aj at a3 a4
   have af:IntKind.u64.wrap ((x:Int)+(y:Int))=(x:Int)+(y:Int):=by rw [Qk];omega
   have ag:IntKind.u64.wrap ((x:Int)+(y:Int)+(c:Int))=(T:Int):=by rw [Qk];omega
   obtain ⟨t,A⟩:∃ t,T % aj=t:=⟨_,rfl⟩
   obtain ⟨I,z⟩:∃ I,T / aj=I:=⟨_,rfl⟩
   have ae:(T:Int) % 4294967296=(t:Int):=by rw [← A];unfold aj;omega
   have a8:(T:Int) / 4294967296=(I:Int):=by rw [← z];unfold aj;omega
   have ai:IntKind.u64.wrap (I:Int)=(I:Int):=by rw [Qk,← z];unfold aj;omega
   have a5:t<4294967296:=by rw [← A];exact Qy _ (by decide)
   have ak:IntKind.u32.wrap (t:Int)=(t:Int):=by rw [Jj];omega
   rw [A,z] at a
   have E:k+1=max d.length b.length+1→I=0∧aj^max d.length b.length≤val (r++[t]):=fun h=>by
    have a6:c≠0:=by rcases O with g | g | g <;> first | exact g | omega
    obtain ⟨rfl,rfl⟩:=F h
    have e1:t=1:=by rw [← A];unfold aj;omega
    refine ⟨by rw [← z];unfold aj;omega,?_⟩;rw [jK,H.out,e1,show k=max d.length b.length by omega];omega
   clear F A z j m;have X:=Qa (And.intro a E);have HT:=Qa Z;clear a E Z;have al:=O;clear O
   have J:∀ q D,q.ownsRow w.heap.size 128 1 D (k+1) (aF r++[.int .u32 (t:Int)])→bW w q→Ie w d b D (.int .u64 (I:Int)) (vI ((k:Int)+1)) q:=fun q D h1 Y=>by
    refine ⟨k+1,by omega,by go_num,?_,?_,?_,Y⟩
    ·rw [X.out.1]
    ·rw [X.out.1,jA];exact h1
    ·rw [X.out.1];exact X.out.2
   by_cases h1:k<d.length
   ·have hg:decide ((k:Int)<(d.length:Int))=true:=by simp;omega
    go_wp2_with (first
     | (go_at_call 175;(first | with_reducible refine lA.mono ?_ | with_reducible refine lB.mono ?_);rintro e w2 ⟨rfl,rfl⟩)
     | (at_builtin;refine wpList_append_own _ rfl _ _ 22 rfl w.heap.size 128 R (.int .u32 0) 1 4 aG hi B.out.1 B.out.2.1 B.out.2.2 rfl (by decide) _ _ _ rfl (hown.alloc _) ⟨wr.heap.size,0,none⟩ 1 1 [.int .u32 (t:Int)] rfl rfl (dI _ _ _ _ rfl) (by simp [Value.oneCell']) (by unfold maxLen;omega) (by omega) (by simp;omega) ?_;intro D q l f _))
    have u:bW w q:=n.trans (((Qj _ wr).alloc N _).grown f (by simp;omega) (fun k e=>by have:=(hown.lt k e).1;omega));have hf:=J q D l u;refine ⟨hf,?_⟩;simp [intOf];omega
   ·by_cases Y:k<b.length
    ·go_wp2_with (first
      | (go_at_call 175;(first | with_reducible refine lA.mono ?_ | with_reducible refine lB.mono ?_);rintro e w2 ⟨rfl,rfl⟩)
      | (at_builtin;refine wpList_append_own _ rfl _ _ 22 rfl w.heap.size 128 R (.int .u32 0) 1 4 aG hi B.out.1 B.out.2.1 B.out.2.2 rfl (by decide) _ _ _ rfl (hown.alloc _) ⟨wr.heap.size,0,none⟩ 1 1 [.int .u32 (t:Int)] rfl rfl (dI _ _ _ _ rfl) (by simp [Value.oneCell']) (by unfold maxLen;omega) (by omega) (by simp;omega) ?_;intro D q l f _))
     have u:bW w q:=n.trans (((Qj _ wr).alloc N _).grown f (by simp;omega) (fun k e=>by have:=(hown.lt k e).1;omega));have hf:=J q D l u;refine ⟨hf,?_⟩;simp [intOf];omega
    ·have h3:¬c=0:=by omega
     go_wp2_with (first
      | (go_at_call 175;(first | with_reducible refine lA.mono ?_ | with_reducible refine lB.mono ?_);rintro e w2 ⟨rfl,rfl⟩)
      | (at_builtin;refine wpList_append_own _ rfl _ _ 22 rfl w.heap.size 128 R (.int .u32 0) 1 4 aG hi B.out.1 B.out.2.1 B.out.2.2 rfl (by decide) _ _ _ rfl (hown.alloc _) ⟨wr.heap.size,0,none⟩ 1 1 [.int .u32 (t:Int)] rfl rfl (dI _ _ _ _ rfl) (by simp [Value.oneCell']) (by unfold maxLen;omega) (by omega) (by simp;omega) ?_;intro D q l f _))
     have u:bW w q:=n.trans (((Qj _ wr).alloc N _).grown f (by simp;omega) (fun k e=>by have:=(hown.lt k e).1;omega));have hf:=J q D l u;refine ⟨hf,?_⟩;simp [intOf];omega
  ·have h1:¬k<d.length:=fun h=>O (.inl h)
   have Y:¬k<b.length:=fun h=>O (.inr (.inl h))
   obtain rfl:c=0:=Zc fun h=>O (.inr (.inr h))
   have a2:Reads .u32 wr (.slice sa k sc) r:=Reads.ou hown
   have hv:val r=val d+val b:=by
    rw [Qv (by omega),Qv (by omega),Jw,Jk] at m;exact m
   have G:Dn (max d.length b.length) r:=by
    by_cases hm:k≤max d.length b.length
    ·exact .inl (by rw [H.out];exact hm)
    ·exact .inr (j (by omega)).2
   have HV:=Qa (And.intro hv G);clear hv m a j O G;go_wp2;go_ret;exact ⟨n,_,r,rfl,a2,U,HV.out.1,by rw [H.out];exact hk,HV.out.2⟩
theorem Bh {xs ys a:List Nat}(k:Canon xs)(l:Canon ys)(f:Limbs a)(n:val a=val xs+val ys)(m:a.length≤max xs.length ys.length+1)(b:Dn (max xs.length ys.length) a):Canon a:=by
 have g:=dL f;have e:=dC a;have i:=jC a;have c:=fu g.1;rw [e] at c;refine ⟨f,?_⟩
 have hlen:a.length≤(trimmed a).length:=by
  rcases b with b | b
  ·rcases Jr a.length with h0 | h0
   ·omega
   ·have j:aj^(max xs.length ys.length - 1)≤val a:=by
     rcases Nat.le_total xs.length ys.length with h | h
     ·rw [Nat.max_eq_right h] at b ⊢
      have:=jG l (by intro d;rw [d,QG] at b;omega);omega
     ·rw [Nat.max_eq_left h] at b ⊢
      have:=jG k (by intro d;rw [d,QG] at b;omega);omega
    have:=(Zi (show 1<aj by decide)).1 (Qr j c);omega
  ·have:=(Zi (show 1<aj by decide)).1 (Qr b c)
   omega
 have:=uL a;rw [Qv hlen] at this;exact this.symm
theorem ym (g h:Value)(d f:List Nat)(w:World)(ha:Reads .u32 w g d)(o:Reads .u32 w h f)(b:Canon d)(c:Canon f)(na:d.length≤100000)(nb:f.length≤100000) :
 CB 137 #[g,h] w fun e j=>∃ v a,e=.returned v∧Reads .u32 j v a∧Canon a∧val a=val d+val f:=by
 refine (Gu g h d f w ha o b.1 c.1 na nb).mono ?_;rintro e j ⟨h1,v,a,rfl,k,l,i,m,n⟩;exact ⟨h1,v,a,rfl,k,Bh b c l i m n,i⟩
def Im (w:World)(v:Value):Prop:=∀ n a m c,v=vN n (some a) m c→w.heap.size≤a.block
theorem xO {w:World}{n:Bool}{g m c:Nat}(h:w.heap.size≤g):Im w (vN n (some ⟨g,0,none⟩) m c):=by
 intro f a d b e;simp only [Value.agg.injEq,Array.mk.injEq,List.cons.injEq,Value.bool.injEq,Value.slice.injEq,Option.some.injEq,and_true] at e;obtain ⟨-,rfl,-,-⟩:=e;exact h
theorem Ef (neg:Bool)(v:Value)(xs:List Nat)(w:World)(h:Reads .u32 w v xs)(hl:Limbs xs)(hn:xs.length≤1000000) :
 CB 136 #[.bool neg,v] w fun e w'=>∃ v',e=.returned v'∧ak w' v' (bX neg (val xs))∧Im w v':=by
 obtain ⟨a,c,rfl,hc,hm⟩:=h.form;unfold maxLen at hm;obtain ⟨a0,hi,Z⟩:=Js.1 fV;simp only [Prod.mk.injEq] at Z;obtain ⟨V,X,Y⟩:=Z;have N:=Qa (And.intro V (And.intro X Y));clear V X Y;have H:=dJ w (.cells #[vF,vZ] 24);have r0:=af.new w 24 (lN false none 0 0);have h0:=h.below H
 obtain ⟨m,F⟩:∃ m,w.alloc (.cells #[vF,vZ] 24)=m:=⟨_,rfl⟩
 have S:m.heap.size=w.heap.size+1:=by rw [← F];simp
 rw [F] at H r0 h0;have Q:=Qa (And.intro F S)
 have ab:∀ (x:Addr) (W:World),(storeCells x []).run prog W=.ok () W:=fun x W=>by simp [storeCells]
 have a5:∀ (x:Addr) (W:World),(loadCellsFrom x 0 0 #[]).run prog W=.ok #[] W:=fun x W=>by simp [loadCellsFrom]
 clear F S;go_enter func136,ntmps136;go_wp2;rw [Q.out.1]
 go_loop [5] (fun i=>∃ k:Nat,i=vI k∧k≤xs.length∧trimmed (xs.take k)=trimmed xs) (fun i=>(intOf i).toNat)
 case atStart=>exact ⟨xs.length,rfl,Qb _,by simp⟩
 case round =>
  obtain ⟨k,rfl,hk,q⟩:=hrel
  by_cases a3:k=0
  ·subst a3
   have ht:trimmed xs=[]:=by rw [← q];rfl
   have T:=Q.out.2;have HT:=Qa (And.intro ht T);have o:=r0.alloc (.cells #[] 128);have B:=o.cell 0;have C:=o.cell 1;have o3:=o.frozen 0;have o4:=o.frozen 1;simp only [Qc,Qe] at B C
   have aa:(neg&&decide ((0:Int)<0))=false:=by simp
   clear ht T q;cases a
   all_goals cases neg
   all_goals go_wp2
   all_goals
    obtain ⟨s1,s2⟩:=bA (b:=w.heap.size) B C vF (.slice (some ⟨m.heap.size,0,none⟩) 0 0);refine bodyPost_ret (v:=vN false (some ⟨m.heap.size,0,none⟩) 0 0) (by simp [results,results136,go_sem,loadCellsFrom,s1,s2]) rfl ⟨?_,_,rfl,⟨false,_,[],rfl,⟨_,0,rfl,by simp,by simp [maxLen],fun j hj=>by simp at hj⟩,iU,rfl,?_⟩,xO (by have:=Q.out.2;omega)⟩
    ·exact ((H.alloc (by have:=Q.out.2;omega) _).setCell (Qb _) _).setCell (Qb _) _
    ·rw [← dC,HT.out.1];first | done | rfl
  ·have HA:=Qa h0
   have I:=h0.cell (k - 1) (by omega)
   have a2:=fun W=>h0.index aG bZ (P:=prog) (k - 1) .i64 W (by omega)
   rw [show ((k - 1:Nat):Int)=(k:Int) - 1 by omega] at a2
   obtain ⟨r,hT⟩:∃ r,xs[k - 1]?.getD 0=r:=⟨_,rfl⟩
   rw [hT] at I
   have a8:((0:Int)<(k:Int)):=by omega
   have f:trimmed (xs.take k)=if r=0 then trimmed (xs.take (k - 1)) else xs.take k:=by
    have e:=iW xs (k - 1) (by omega);rw [show k - 1+1=k by omega,hT] at e;rw [e]
    by_cases p:r=0
    ·subst p;rw [if_pos rfl,fZ]
    ·rw [if_neg p,jd _ _ p]
   by_cases p:r=0
   ·subst p
    rw [if_pos rfl] at f;have D:=Qa (And.intro q f);clear q f hT;go_wp2;exact ⟨⟨k - 1,by congr 1;omega,by omega,by rw [← D.out.2];exact D.out.1⟩,by simp [intOf];omega⟩
   ·rw [if_neg p] at f
    have a9:(((r:Nat):Int) == 0)=false:=by simp;omega
    have D:=Qa (And.intro q f);clear q f hT
    obtain ⟨b,off,rfl⟩:∃ b off,a=some ⟨b,off,none⟩:=by
     obtain ⟨a',a6,he,_,_,hr⟩:=h0;cases he;exact (hr 0 (by omega)).1
    have U:m.heap.size=w.heap.size+1:=Q.out.2
    have hlen:(xs.take k).length=k:=by simp;omega
    have y:∀ j u,(aF (xs.take k))[j]?=some u→(m.alloc (.cells #[] 128)).cell? ((⟨b,off,none⟩:Addr).add j)=some u:=by
     intro j u O
     have hj:j<k:=by
      have:=(ZH.1 O).1;rw [iG,hlen] at this;exact this
     have h1:=(h0.below (dJ m (.cells #[] 128))).cell j (by omega);rw [iY] at h1;rw [JO,h1];simp only [aF,JX,ZT,hj,if_true] at O;simp [Qs (show j<xs.length by omega)] at O ⊢;exact O
    have R:(aF (xs.take k)).length=k*1:=by rw [iG,hlen];omega
    have G:∀ u ∈ aF (xs.take k),u.oneCell'=true:=fun u O=>by
     obtain ⟨x,_,rfl⟩:=Qw.1 O;rfl
    have z:=YT (e:=128) (size:=1) (base:=m.heap.size) m #[] 0 (Qb _) (by simp [maxLen]) rfl;have L:=Qa (And.intro y (And.intro R G));have M:=Qa (And.intro U (And.intro hlen z))
    have a7:decide ((0:Int)<(k:Int))=true:=by simp;omega
    clear y R G hlen z U;cases neg
    ·go_wp2_with (at_builtin;go_loud (refine wpList_append_own _ rfl _ _ 22 rfl m.heap.size 128 a0 (.int .u32 0) 1 4 aG hi N.out.1 N.out.2.1 N.out.2.2 rfl (by decide) _ _ _ rfl M.out.2.2 ⟨b,off,none⟩ k c (aF (xs.take k)) rfl L.out.2.1 L.out.1 L.out.2.2 (by unfold maxLen;omega) (by omega) (by simp) ?_);intro v' w1 d n _;obtain ⟨g,E,rfl,a1,a4⟩:=je d (by omega);have s:bW m w1:=(dJ m _).grown n (by simp) (fun k e=>by cases e;exact Qb _);have o:=r0.below s;have B:=o.cell 0;have C:=o.cell 1;have o3:=o.frozen 0;have o4:=o.frozen 1;simp only [Qc,Qe] at B C)
     obtain ⟨s1,s2⟩:=bA (b:=w.heap.size) B C vF (.slice (some ⟨g,0,none⟩) k E);have l:Reads .u32 w1 (.slice (some ⟨g,0,none⟩) (0+k) E) (xs.take k):=Reads.ou (by simpa [aF] using d);rw [QJ] at l;have J:=bf (b:=w.heap.size) l B C vF (.slice (some ⟨g,0,none⟩) k E)
     have t:Canon (xs.take k):=⟨iL hl k,D.out.2⟩
     have A:val (xs.take k)=val xs:=by rw [← D.out.2,D.out.1,dC]
     refine bodyPost_ret (v:=vN false (some ⟨g,0,none⟩) k E) (by simp [results,results136,go_sem,loadCellsFrom,s1,s2]) rfl ⟨?_,_,rfl,⟨false,_,xs.take k,rfl,J,t,by simp [M.out.2.1];try omega,by rw [A]⟩,xO (by have:=(d.lt g rfl).1;have:=M.out.1;omega)⟩;exact (((H.trans (s.mono H.size))).setCell (Qb _) _).setCell (Qb _) _
    ·go_wp2_with (at_builtin;go_loud (refine wpList_append_own _ rfl _ _ 22 rfl m.heap.size 128 a0 (.int .u32 0) 1 4 aG hi N.out.1 N.out.2.1 N.out.2.2 rfl (by decide) _ _ _ rfl M.out.2.2 ⟨b,off,none⟩ k c (aF (xs.take k)) rfl L.out.2.1 L.out.1 L.out.2.2 (by unfold maxLen;omega) (by omega) (by simp) ?_);intro v' w1 d n _;obtain ⟨g,E,rfl,a1,a4⟩:=je d (by omega);have s:bW m w1:=(dJ m _).grown n (by simp) (fun k e=>by cases e;exact Qb _);have o:=r0.below s;have B:=o.cell 0;have C:=o.cell 1;have o3:=o.frozen 0;have o4:=o.frozen 1;simp only [Qc,Qe] at B C)
     obtain ⟨s1,s2⟩:=bA (b:=w.heap.size) B C (.bool true) (.slice (some ⟨g,0,none⟩) k E);have l:Reads .u32 w1 (.slice (some ⟨g,0,none⟩) (0+k) E) (xs.take k):=Reads.ou (by simpa [aF] using d);rw [QJ] at l;have J:=bf (b:=w.heap.size) l B C (.bool true) (.slice (some ⟨g,0,none⟩) k E)
     have t:Canon (xs.take k):=⟨iL hl k,D.out.2⟩
     have A:val (xs.take k)=val xs:=by rw [← D.out.2,D.out.1,dC]
     refine bodyPost_ret (v:=vN true (some ⟨g,0,none⟩) k E) (by simp [results,results136,go_sem,loadCellsFrom,s1,s2]) rfl ⟨?_,_,rfl,⟨true,_,xs.take k,rfl,J,t,by simp [M.out.2.1];try omega,by rw [A]⟩,xO (by have:=(d.lt g rfl).1;have:=M.out.1;omega)⟩;exact (((H.trans (s.mono H.size))).setCell (Qb _) _).setCell (Qb _) _
end Go.Proofs.YtagjhmodblifbaaGreatDoor
