/- proved lemmas -/
import Derived.Test.YtagjhmodblifbaaGreatDoorMA
import Derived.Test.YtagjhmodblifbaaGreatDoorB00
import Derived.Test.YtagjhmodblifbaaGreatDoorB04
import Derived.BigQuiet
import Derived.Test.YtagjhmodblifbaaGreatDoorB10
import Derived.Test.YtagjhmodblifbaaGreatDoorB06
import Derived.Test.YtagjhmodblifbaaGreatDoorB07
import Derived.Test.YtagjhmodblifbaaGreatDoorB08
import Derived.Deep.RegionHeld3
import Derived.Deep.CutRange
import Derived.Test.YtagjhmodblifbaaGreatDoorB02
import Derived.Test.YtagjhmodblifbaaGreatDoorB01
import Derived.Test.YtagjhmodblifbaaGreatDoorB05
import Derived.Test.YtagjhmodblifbaaGreatDoorB09
import Derived.Deep.LoopGhost
set_option maxHeartbeats 4000000
set_option maxRecDepth 100000
set_option exponentiation.threshold 100000
namespace Go.Proofs.YtagjhmodblifbaaGreatDoor
open Go.Proofs.Tryz
open Go Go.RowKit Go.Shelf
theorem Kk (a:Option Addr)(n c m:Nat)(b:m≤n)(d:n≤c)(W:World):(Instr.slice 22 (.slice a n c) none (some (vI m)) none).run prog W=.ok (.slice a m c) W:=by
 go_simp
 intro h;omega
theorem Kl (a:Option Addr)(n c m:Nat)(b:m≤n)(_hn:n≤c)(W:World):(Instr.slice 22 (.slice a n c) (some (vI m)) none none).run prog W=.ok (sliced a m n c 1) W:=by
 go_simp
theorem Eu (a:Option Addr)(n c:Nat)(xs:List Nat)(w:World)(h:Reads .u32 w (.slice a n c) xs)(k:Nat):Calls prog 188 #[.slice a n c] (w.drewN k) fun e d=>e=.returned (.slice a (trimmed xs).length c)∧∃ m,d=w.drewN m :=
 (trim_eq a n c xs (w.drewN k) h).mono fun _ _ ⟨h1,b⟩=>⟨b,k,h1.symm⟩
theorem zO (n:Value)(a:List Nat)(h m:Nat)(q:min h a.length=m)(w:World)(ha:Reads .u32 w n a) :
 CB 248 #[n,vI h] w fun e o=>∃ k l,e=.returned (.tuple #[k,l])∧Reads .u32 o k (trimmed (a.take m))∧Reads .u32 o l (a.drop m):=by
 obtain ⟨c,d,rfl,i,p⟩:=ha.form;unfold maxLen at p
 have b:m≤a.length:=by omega
 have f:=ha.part m a.length b (Qb _);rw [Qv (Qb _)] at f;have u:=Kk c a.length d m b i;have t:=Kl c a.length d m b i;have r:=Eu c m d (a.take m) w (ha.ET m b);have s:=tF (ha.ET m b);obtain ⟨a2,c2,g,-,-⟩:=f.form;rw [g] at f;simp only [g] at t;clear g;generalize trimmed (a.take m)=t0 at *;generalize a.drop m=d0 at *;generalize t0.length=n0 at *
 generalize d0.length=n2 at *
 have j:min (h:Int) (a.length:Int)=(m:Int):=by omega
 clear q;go_enter func248,ntmps248
 go_wp2_with fail
 go_quiet (first | (go_at_call 188;exact r _))
 go_wp2;exact bodyPost_ret (v:=.tuple #[.slice c n0 d,.slice a2 n2 c2]) (by simp [results,results248,go_sem]) rfl ⟨below_drewN (Qj _ _) nq,_,_,rfl,mW s nq,mW f nq⟩
def MI (b:Nat)(X:World):Prop:=X.cell? ⟨b,0,none⟩=some (Value.func (.func 246) #[] #[vP b])
def Nt (b n:Nat):Prop:=∀ (va vb:Value) (xa xb:List Nat) (w:World),MI b w→Reads .u32 w va xa→Reads .u32 w vb xb→Limbs xa→Limbs xb→xa.length≤n→xb.length≤n →
 Calls prog 246 #[va,vb,vP b] w fun e w'=>bW w w'∧∃ v cs,e=.returned v∧Reads .u32 w' v cs∧Canon cs∧val cs=val xa*val xb
theorem wo {b:Nat}{X a:World}(h:MI b X)(c:bW X a):MI b a:=(Jd (c.block _ (JE _ _ h))).trans h
theorem zP {xs:List Nat}(a:Limbs xs)(h m:Nat)(d:min h xs.length=m)(c:xs.length≤2*h) :
  val xs=val (trimmed (xs.take m))+aj^h*val (xs.drop m)∧Canon (trimmed (xs.take m))∧Limbs (xs.drop m)∧(trimmed (xs.take m)).length≤h∧(xs.drop m).length≤h:=by
 refine ⟨?_,dL (iL a m),Eo a m,?_,?_⟩
 ·rw [dC]
  by_cases b:h≤xs.length
  ·obtain rfl:h=m:=by omega
   exact Gv xs h b
  ·obtain rfl:xs.length=m:=by omega
   rw [Qv (Qb _),Yz (Qb _)];simp [val]
 ·have:=jC (xs.take m)
  rw [Jp] at this;omega
 ·rw [JH];omega
theorem CE (b n:Nat)(IH:Nt b n)(va vb:Value)(d f:List Nat)(w:World)(hF:MI b w)(ha:Reads .u32 w va d)(hb:Reads .u32 w vb f)(a3:Limbs d)(a4:Limbs f)(la:d.length≤n+1)(lb:f.length≤n+1)(hn:n≤40000)(hs:80≤min d.length f.length) :
 CB 246 #[va,vb,vP b] w fun e w'=>∃ v x,e=.returned v∧Reads .u32 w' v x∧Canon x∧val x=val d*val f:=by
 obtain ⟨h,hh⟩:∃ h,(max d.length f.length+1) / 2=h:=⟨_,rfl⟩
 obtain ⟨ma,gy⟩:∃ m,min h d.length=m:=⟨_,rfl⟩
 obtain ⟨mb,L⟩:∃ m,min h f.length=m:=⟨_,rfl⟩
 obtain ⟨ea,E,F,b3,b4⟩:=zP a3 h ma gy (by omega);obtain ⟨eb,G,H,b5,b6⟩:=zP a4 h mb L (by omega)
 have sa:=fun W (hW:bW w W)=>zO va d h ma gy W (ha.below hW)
 have sb:=fun W (hW:bW w W)=>zO vb f h mb L W (hb.below hW)
 generalize trimmed (d.take ma)=a0 at *;generalize d.drop ma=a1 at *;generalize trimmed (f.take mb)=b0 at *;generalize f.drop mb=b1 at *
 have ai:∀ W,(Instr.makeSlice 22 (vI ((d.length:Int)+(f.length:Int))) (vI ((d.length:Int)+(f.length:Int)))).run prog W=.ok (.slice (some ⟨W.heap.size,0,none⟩) (d.length+f.length) (d.length+f.length)) (W.alloc (.cells (zeros (d.length+f.length)) 128)):=fun W=>by
  rw [fw _ _ (by omega) (by omega) (by omega) W,show ((d.length:Int)+(f.length:Int)).toNat=d.length+f.length by omega]
 have HE:=Qa (fun low mid high (kl:Canon low) (km:Canon mid) (kh:Canon high) e1 e2 e3=>Et (low:=low) (mid:=mid) (high:=high) a3 a4 ea eb kl km kh e1 e2 e3 rfl (by omega))
 have b2:¬min (d.length:Int) (f.length:Int)<80:=by omega
 obtain ⟨aa,ca,rfl,fA,ar⟩:=ha.form;obtain ⟨ab,cb,rfl,ay,au⟩:=hb.form
 have hd:(max (d.length:Int) (f.length:Int)+1) / 2=(h:Int):=by omega
 have ag:80≤d.length:=by omega
 have ah:80≤f.length:=by omega
 have az:h+1≤n:=by omega
 have ae:2*h≤d.length+f.length:=by omega
 clear ea eb gy L hs hh;go_enter func246,ntmps246
 go_wp2_with (first
  | (go_at_call 248;with_reducible refine (sa _ (Qj _ _)).mono ?_;rintro e w1 ⟨C,v1,v2,rfl,r1,r2⟩)
  | (go_at_call 248;with_reducible refine (sb _ C).mono ?_;rintro e w2 ⟨D,v3,v4,rfl,r3,r4⟩))
 clear sa sb;replace r1:=r1.below D;replace r2:=r2.below D;have c:=C.trans (D.mono C.size);replace hF:=wo hF c;clear C D
 have kl:=fun (X:World) (A:X.cell? ⟨b,0,none⟩=some (Value.func (.func 246) #[] #[vP b])) (l:bW w2 X)=>IH v1 v3 a0 b0 X A (r1.below l) (r3.below l) E.1 G.1 (by omega) (by omega)
 have kh:=fun (X:World) (A:X.cell? ⟨b,0,none⟩=some (Value.func (.func 246) #[] #[vP b])) (l:bW w2 X)=>IH v2 v4 a1 b1 X A (r2.below l) (r4.below l) F H (by omega) (by omega)
 have HF:=Qa hF;unfold MI at hF
 go_region_held3 (fun X=>X.cell? ⟨b,0,none⟩=some (Value.func (.func 246) #[] #[vP b])∧bW w2 X)
  (first | exact ⟨HF.out,(Qj _ _).drew⟩ | (go_split_ands;exact ⟨wo (by assumption) g,Below.trans (by assumption) (g.mono (Below.size (by assumption)))⟩))
  (first
   | (go_at_call 246;go_split_ands;with_reducible refine (kl _ (by assumption) (by assumption)).mono ?_;rintro e wk ⟨g,vl,low,rfl,O,cl,el⟩)
   | (go_at_call 246;go_split_ands;with_reducible refine (kh _ (by assumption) (by assumption)).mono ?_;rintro e wk ⟨g,vh,high,rfl,rh,ch,eh⟩;replace O:=O.below g))
 rename_i A;obtain ⟨a2,o⟩:=A;replace c:=c.trans (o.mono c.size);replace r1:=r1.below o;replace r2:=r2.below o;replace r3:=r3.below o;replace r4:=r4.below o;clear kl kh hF HF o;generalize wk=w6 at *
 have kp:=fun X (l:bW w6 X)=>nY v1 v2 a0 a1 X (r1.below l) (r2.below l) E.1 F (by omega) (by omega)
 have kq:=fun X (l:bW w6 X)=>nY v3 v4 b0 b1 X (r3.below l) (r4.below l) G.1 H (by omega) (by omega)
 have ks:=fun (X:World) (A:X.cell? ⟨b,0,none⟩=some (Value.func (.func 246) #[] #[vP b])) (vs vt:Value) (R S:List Nat) (rs:Reads .u32 X vs R) (rt:Reads .u32 X vt S) (x:Canon R) (T:Canon S) (U:val R=val a0+val a1) (V:val S=val b0+val b1) =>
  IH vs vt R S X A rs rt x.1 T.1 (by have:=jr x E.1 F U;omega) (by have:=jr T G.1 H V;omega)
 have HF:=Qa a2
 go_wp2_with fail
 go_region_held3 (fun X=>X.cell? ⟨b,0,none⟩=some (Value.func (.func 246) #[] #[vP b])∧bW w6 X)
  (first | exact ⟨HF.out,(Qj _ _).drew⟩ | (go_split_ands;exact ⟨wo (by assumption) g,Below.trans (by assumption) (g.mono (Below.size (by assumption)))⟩))
  (first
   | (go_at_call 185;go_split_ands;with_reducible refine (kp _ (by assumption)).mono ?_;rintro e wk ⟨g,vs,R,rfl,rs,x,U⟩)
   | (go_at_call 185;go_split_ands;with_reducible refine (kq _ (by assumption)).mono ?_;rintro e wk ⟨g,vt,S,rfl,rt,T,V⟩;replace rs:=rs.below g)
   | (go_at_call 246;go_split_ands;with_reducible refine (ks _ (by assumption) vs vt R S rs rt x T U V).mono ?_;rintro e wk ⟨g,vw,AL,rfl,a7,cw,Y⟩))
 rename_i A;obtain ⟨-,y⟩:=A;have an:AL.length≤R.length+S.length:=aA cw (by rw [Y,Qt];exact Ye (fu x.1) (fu T.1));have nS:=jr x E.1 F U;have nT:=jr T G.1 H V;rw [U,V] at Y;replace c:=c.trans (y.mono c.size);replace O:=O.below y;replace rh:=rh.below y;clear kp kq ks HF a2 y r1 r2 r3 r4 rs rt IH;generalize wk=w7 at *
 have g1:val low≤val AL:=by rw [el,Y];exact Er _ _ _ _
 have m1:=pI vw vl AL low w7 a7 O cw.1 cl.1 (by omega) (bE cw cl g1) g1
 have m2:=fun X vm I (l:bW w7 X) (rm:Reads .u32 X vm I) (cm:Canon I) (em:val I=val AL - val low)=>by
  have g2:val high≤val I:=by rw [em,el,Y,eh];exact Es _ _ _ _
  have g3:I.length≤AL.length:=bE cw cm (by omega);exact pI vm vh I high X rm (rh.below l) cm.1 ch.1 (by omega) (bE cm ch g2) g2
 go_wp2_with (first
  | (go_at_call 186;with_reducible refine m1.mono ?_;rintro e w8 ⟨Z,vm,I,rfl,rm,cm,em⟩)
  | (go_at_call 186;with_reducible refine (m2 _ vm I Z rm cm em).mono ?_;rintro e w9 ⟨ig,vd,M2,rfl,rd,cd,ed⟩))
 clear m1 m2 ai rm a7 nS nT an g1;have r:=(O.below Z).below ig;have i:=(rh.below Z).below ig;obtain ⟨q1,q2,q3,e1,e2,e3,aj,ao,ak,ap,al,a6,vq⟩:=HE.out low M2 high cl cd ch el (by rw [ed,em,Y,el,eh]) eh;clear HE O rh ed em Y el eh U V;have p:=(c.trans (Z.mono c.size)).trans (ig.mono (Qd c.size Z.size));clear Z ig c
 obtain ⟨N,hN⟩:∃ N,d.length+f.length=N:=⟨_,rfl⟩
 rw [hN] at ao ap a6 e1 e2 e3 ae;rw [hN]
 have ax:N≤90000:=by omega
 have u:=af.new w9 128 (aF (List.replicate N 0));rw [show (aF (List.replicate N 0)).toArray=zeros N by simp [aF,zeros]] at u;have z:=dJ w9 (.cells (zeros N) 128);have am:=r.lt;have a5:=rd.lt;have M:=i.lt;replace r:=r.below z;replace rd:=rd.below z;replace i:=i.below z;have a:=p.trans (z.mono p.size);have aw:=p.size
 generalize w9.alloc (.cells (zeros N) 128)=W9 at *;generalize w9.heap.size=B0 at *;have A1:=rO vl low (List.replicate N 0) N 0 N 0 B0 N W9 u (jB N) r cl.1 (by omega) (by simp) (by omega) am;rw [show ((0:Nat):Int)=0 from rfl,Jk,← e1] at A1;refine A1.mono ?_;rintro e a8 ⟨j,s,b7,rfl⟩;replace rd:=pO j rd a5 (fun k hk=>by omega);replace i:=pO j i M (fun k hk=>by omega)
 replace a:=a.trans (j.below (B:=w.heap.size) (by rintro k rfl;omega) a.size);clear A1 j u r;have A2:=rO vd M2 q1 N h (N - h) 0 B0 N a8 s aj rd cd.1 (by omega) (by omega) (by omega) a5;rw [QJ,← e2] at A2
 go_wp2_with (first | (go_at_call 249;with_reducible refine A2.mono ?_;rintro e a9 ⟨q,t,b8,rfl⟩))
 replace i:=pO q i M (fun k hk=>by omega);replace a:=a.trans (q.below (B:=w.heap.size) (by rintro k rfl;omega) a.size);clear A2 q s rd;have A3:=rO vh high q2 N (2*h) (N - 2*h) 0 B0 N a9 t ak i ch.1 (by omega) (by omega) (by omega) M;rw [QJ,← e3,Jy] at A3;refine A3.mono ?_;rintro e ad ⟨J,Q,b9,rfl⟩
 replace a:=a.trans (J.below (B:=w.heap.size) (by rintro k rfl;omega) a.size);have rq:Reads .u32 ad (.slice (some ⟨B0,0,none⟩) N N) q3:=af.reads Q N N a6.symm (Qb _) (by unfold maxLen;omega);clear A3 J t i
 go_wp2_with (first | (go_at_call 188;with_reducible refine (jf _ _ _ rq).mono ?_;rintro e av ⟨rfl,aq,rfl,hr⟩))
 go_ret;exact ⟨a,aq,trimmed q3,rfl,hr,dL al,by rw [dC,vq]⟩
theorem Ev (b:Nat):∀ n,n≤40000→Nt b n:=by
 intro n
 induction n with
 | zero=>exact fun _ h i d f w _ ha g a c la lb=>ru h i _ d f w ha g a c (by omega) (by omega) (by omega)
 | succ n k =>
  intro l h i d f w j ha g a c la lb
  by_cases hs:min d.length f.length<80
  ·exact ru h i _ d f w ha g a c (by omega) (by omega) hs
  ·exact CE b n (k (by omega)) h i d f w j ha g a c la lb (by omega) (by omega)
theorem wu:gP 40000:=by
 intro x y h i w ha g c d na nb;obtain ⟨j,l,rfl,t,u⟩:=ha.form;obtain ⟨k,m,rfl,r,s⟩:=g.form;go_enter func224,ntmps224;have a:=dJ w (.cells #[Value.func (.func 246) #[] #[vP w.heap.size]] 140)
 have q:MI w.heap.size (w.alloc (.cells #[Value.func (.func 246) #[] #[vP w.heap.size]] 140)):=by unfold MI;go_simp
 have f:=Ev w.heap.size 40000 (Qb _) (.slice j h.length l) (.slice k i.length m) h i _ q (ha.below a) (g.below a) c d na nb
 go_wp2_with (go_at_call 246;with_reducible refine f.mono ?_;rintro e z ⟨b,v,n,rfl,h1,o,p⟩)
 go_ret;exact ⟨a.trans (b.mono (by simp)),v,n,rfl,h1,o,p⟩
theorem CF (na nb:Bool)(t u:Value)(c d:List Nat)(w:World)(ha:Reads .u32 w t c)(q:Reads .u32 w u d)(j:Limbs c)(k:Limbs d)(la:c.length≤40000)(lb:d.length≤40000) :
 CB 195 #[.agg #[.bool na,t],.agg #[.bool nb,u]] w fun e x=>∃ v a,e=.returned (.agg #[.bool ((na != nb)&&decide (0<a.length)),v])∧Reads .u32 x v a∧Canon a∧val a=val c*val d:=by
 have h0:=gL (na:=na) (nb:=nb) ha q;obtain ⟨l,n,rfl,J,L⟩:=ha.form;obtain ⟨m,o,rfl,C,F⟩:=q.form;have f:=Qa h0;clear h0;go_enter func195,ntmps195
 go_wp2_with fail
 go_region_held3 (fun W=>W.cell? ⟨w.heap.size,0,none⟩=some (.bool na)∧W.cell? ⟨w.heap.size,1,none⟩=some (.slice l c.length n)∧W.cell? ⟨w.heap.size+1,0,none⟩=some (.bool nb)∧W.cell? ⟨w.heap.size+1,1,none⟩=some (.slice m d.length o)∧aY w (.slice l c.length n) (.slice m d.length o) c d W)
  (first | exact ⟨f.out.1,f.out.2.1,f.out.2.2.1,f.out.2.2.2.1,f.out.2.2.2.2.drew⟩ | (go_split_ands;exact eT (by assumption) (by assumption) (by assumption) (by assumption) (by assumption) (by assumption)) | (go_split_ands;exact gM (by assumption) (by assumption) (by assumption) (by assumption) (by assumption) _ _ _ _))
  (first | (go_at_call 224;go_split_ands;refine (wu _ _ c d _ (aY.ra (by assumption)) (aY.rb (by assumption)) j k la lb).mono ?_;rintro e x ⟨A,v,a,rfl,h1,y,z⟩;obtain ⟨g,h,rfl,B,E⟩:=h1.form) | (go_at_call 184;go_split_ands;refine (dK _ _ _ _ _).mono ?_;rintro e I ⟨p,rfl⟩;obtain ⟨O,Q,R,S,r,s,M,N⟩:=aY.cells (aY.step (by assumption) p)))
 obtain ⟨G,H⟩:=bA (b:=w.heap.size+1+1) r s (.bool (!na == nb&&decide (0<a.length))) (.slice g a.length h);have D:=bf (b:=w.heap.size+1+1) (h1.below p) r s (.bool (!na == nb&&decide (0<a.length))) (.slice g a.length h);rename_i i;replace i:=i.2.2.2.2.below;go_wp2
 refine bodyPost_ret (v:=vN (!na == nb&&decide (0<a.length)) g a.length h) (by simp [results,results195,go_sem,loadCellsFrom,G,H]) rfl ⟨i,_,a,?_,D,y,z⟩
 cases na <;> cases nb <;> rfl
theorem CG (a b:Value)(i j:Int)(L:Nat)(w:World)(ha:ak w a i)(o:ak w b j)(y:L≤40000)(hi:i.natAbs<aj^L)(k:j.natAbs<aj^L) :
 CB 195 #[a,b] w fun e l=>∃ v,e=.returned v∧ak l v (i*j):=by
 obtain ⟨na,r,t,rfl,f,h,p,rfl⟩:=ha;obtain ⟨nb,s,u,rfl,g,c,q,rfl⟩:=o;rw [bM] at hi k;have la:=aA h hi;have lb:=aA c k;refine (CF na nb r s t u w f g h.1 c.1 (by omega) (by omega)).mono ?_;rintro e l ⟨d,v,x,rfl,h1,m,n⟩;exact ⟨d,_,rfl,dm _ h1 m (by rw [n];cases na <;> cases nb <;> simp [bX,Yu,Zf])⟩
theorem Fq (a b:Value)(na nb:Bool)(i j:List Nat)(w:World)(ha:dx w a na i)(l:dx w b nb j) :
 CB 156 #[a,b] w fun e Q=>∃ v k,e=.returned (.tuple #[v,vI k])∧fU (au na i) (au nb j) (bX na (val i)*bX nb (val j)) k Q v:=by
 have s:=fun G (d:bW w G)=>xK 195 a b na nb i j G (ha.below d) (l.below d) (bX na (val i)*bX nb (val j)) (fun W args=>by simp [go_sem])
  (fun C D W E=>CG a b _ _ 300 W (((ha.below d).isInt C).below E) (((l.below d).isInt D).below E) (by omega) (ha.jI C) (l.jI D))
 obtain ⟨V,rfl,q,I⟩:=ha;obtain ⟨X,rfl,r,J⟩:=l;obtain ⟨y,A,rfl,R,S⟩:=q.form;obtain ⟨z,B,rfl,H,L⟩:=r.form
 have p:=(((dJ w (.cells #[.bool na,.slice y i.length A] 24)).alloc (by simp) (.cells #[.bool nb,.slice z j.length B] 24)).alloc (by simp;omega) (.cells #[vF,vZ] 24))
 have F:=af.new ((w.alloc (.cells #[.bool na,.slice y i.length A] 24)).alloc (.cells #[.bool nb,.slice z j.length B] 24)) 24 (lN false none 0 0);simp only [Qh] at F;go_enter func156,ntmps156
 go_wp2_with (refine (s _ p).mono ?_;rintro e w1 ⟨x,v,k,rfl,f⟩;obtain ⟨n,a,m,c,rfl⟩:=f.form;have o:=F.below x;have t:=o.cell 0;have u:=o.cell 1;have T:=o.frozen 0;have U:=o.frozen 1;simp only [Qc,Qe] at t u)
 obtain ⟨N,O⟩:=bA (b:=w.heap.size+1+1) t u (.bool n) (.slice a m c)
 have g:∀ v xs,Reads .u32 w1 v xs→Reads .u32 ((w1.setCell ⟨w.heap.size+1+1,0,none⟩ (.bool n)).setCell ⟨w.heap.size+1+1,1,none⟩ (.slice a m c)) v xs :=
  fun v xs h=>bf (b:=w.heap.size+1+1) h t u _ _
 refine bodyPost_ret (v:=.tuple #[vN n a m c,vI k]) (by simp [results,results156,go_sem,loadCellsFrom,N,O]) rfl ⟨?_,_,k,rfl,f.keep g⟩;have M:bW w w1:=p.trans (x.mono p.size);exact (M.setCell (by simp;omega) _).setCell (by simp;omega) _
theorem uE (a b:Value)(i j:Int)(w:World)(ha:ak w a i)(m:ak w b j)(hi:i.natAbs<aj^300)(n:j.natAbs<aj^300)(hr:(i*j).natAbs<aj^300) :
 CB 156 #[a,b] w fun e o=>∃ v,e=.returned (.tuple #[v,vI 0])∧ak o v (i*j):=by
 obtain ⟨na,p,h,c,rfl,-,-⟩:=ha.at hi;obtain ⟨nb,q,l,d,rfl,-,-⟩:=m.at n;refine (Fq a b na nb p q w h l).mono ?_;rintro e r ⟨h1,v,k,rfl,f⟩;obtain ⟨rfl,g⟩:=tQ f c d hr;exact ⟨h1,v,rfl,g⟩
section
variable {w X X':World} {b1:Nat} {na:Bool} {a1:Option Addr} {c1:Nat} {xa:List Nat} {b2:Nat} {nb:Bool} {a2:Option Addr} {c2:Nat} {xb:List Nat}
end
theorem Gw (v:Value)(neg:Bool)(xs:List Nat)(w:World)(h:dx w v neg xs) :
 CB 75 #[v] w fun e _=>e=.returned (vI (if au neg xs=true then 0 else 1)):=by
 cases f:au neg xs with
 | true=>exact fF v neg xs w h f
 | false=>exact mM v neg xs w h f
theorem tT {W:World}{n:Bool}{a:Option Addr}{m c:Nat}{i:Int}(h:ak W (vN n a m c) i)(k:Nat):m≤k↔i.natAbs<aj^k:=by
 obtain ⟨neg,j,xs,e,hr,b,g,rfl⟩:=h;obtain ⟨d,f,rfl,-,-⟩:=hr.form;simp only [Value.agg.injEq,Array.mk.injEq,List.cons.injEq,Value.bool.injEq,Value.slice.injEq,and_true] at e;obtain ⟨rfl,rfl,rfl,rfl⟩:=e;rw [bM];exact bS b k
theorem Gx {W:World}{b:Nat}{t:TypeId}{n0:Bool}{a:Option Addr}{f d:Nat}{k0:Int}(q:af W b t [.bool n0,.slice a f d,vI k0])(x y z:Value) :
  ∀ v xs,Reads .u32 W v xs→Reads .u32 (((W.setCell ⟨b,0,none⟩ x).setCell ⟨b,1,none⟩ y).setCell ⟨b,2,none⟩ z) v xs:=fun _ _ h =>
 ((h.setOther (c:=.bool n0) (q.cell 0) (by simp) x).setOther (c:=.slice a f d) ((q.set 0 x).cell 1) (by simp) y).setOther (c:=vI k0) (((q.set 0 x).set 1 y).cell 2) (by simp) z
section
variable {w X X':World} {na nb:Bool} {aa ab:Option Addr} {ma ca mb cb:Nat}
end
structure Lc (w:World) (n:Bool) (a:Option Addr) (m c:Nat) (X:World):Prop where
 rn:af X w.heap.size 24 (lN n a m c)
 rr:af X (w.heap.size+1) 41 (lG 0 0 false none 0 0 ⟨#[]⟩ none 0 0 0)
 below:bW w X
structure ES (w w1:World) (n:Bool) (a:Option Addr) (m c:Nat) (X:World):Prop where
 s:Lc w n a m c X
 more:bW w1 X
section
variable {w w1 X X':World} {n:Bool} {a:Option Addr} {m c:Nat}
theorem Lc.step (h:Lc w n a m c X)(b:bW X X'):Lc w n a m c X':=⟨h.rn.below b,h.rr.below b,h.below.trans (b.mono h.below.size)⟩
theorem Lc.set (h:Lc w n a m c X)(g:Bool)(b:Option Addr)(f d:Nat):Lc w g b f d ((X.setCell ⟨w.heap.size,0,none⟩ (.bool g)).setCell ⟨w.heap.size,1,none⟩ (.slice b f d)) :=
 ⟨(h.rn.set 0 (.bool g)).set 1 (.slice b f d),(h.rr.other (show w.heap.size+1≠w.heap.size by omega) _).other (show w.heap.size+1≠w.heap.size by omega) _,(h.below.setCell (Qb _) _).setCell (Qb _) _⟩
theorem xG (h:ES w w1 n a m c X):X.cell? ⟨w.heap.size,0,none⟩=some (.bool n)∧X.cell? ⟨w.heap.size,1,none⟩=some (.slice a m c)∧ES w w1 n a m c X:=⟨h.s.rn.cell 0,h.s.rn.cell 1,h⟩
theorem xQ (h:ES w w1 n a m c X)(b:bW X X'):ES w w1 n a m c X':=⟨h.s.step b,h.more.trans (b.mono h.more.size)⟩
theorem Km (h:ES w w1 n a m c X):ES w w1 n a m c X.drew:=⟨⟨h.s.rn,h.s.rr,h.s.below.drew⟩,h.more.drew⟩
theorem Kn (h:ES w w1 n a m c X){B:Nat}(j:w.heap.size+1<w1.heap.size)(b:w1.heap.size≤B)(d f g i:Value):ES w w1 n a m c ((((X.setCell ⟨B,0,none⟩ d).setCell ⟨B,1,none⟩ f).setCell ⟨B,2,none⟩ g).setCell ⟨B,3,none⟩ i) :=
 ⟨⟨(((h.s.rn.other (show w.heap.size≠B by omega) _).other (show w.heap.size≠B by omega) _).other (show w.heap.size≠B by omega) _).other (show w.heap.size≠B by omega) _,(((h.s.rr.other (show w.heap.size+1≠B by omega) _).other (show w.heap.size+1≠B by omega) _).other (show w.heap.size+1≠B by omega) _).other (show w.heap.size+1≠B by omega) _,(((h.s.below.setCell (show w.heap.size≤B by omega) _).setCell (show w.heap.size≤B by omega) _).setCell (show w.heap.size≤B by omega) _).setCell (show w.heap.size≤B by omega) _⟩,(((h.more.setCell b _).setCell b _).setCell b _).setCell b _⟩
end
theorem nP {W:World}{b:Nat}{t:TypeId}{k0 n0:Int}{u:Bool}{p:Option Addr}{B r:Nat}{D:ByteArray}{l0:Option Addr}{E F:Nat}{s:Int}(q:af W b t (lG k0 n0 u p B r D l0 E F s))(a c d f g i o:Value) :
  ∀ v xs,Reads .u32 W v xs→Reads .u32 (((((((W.setCell ⟨b,0,none⟩ a).setCell ⟨b,1,none⟩ c).setCell ⟨b,2,none⟩ d).setCell ⟨b,3,none⟩ f).setCell ⟨b,4,none⟩ g).setCell ⟨b,5,none⟩ i).setCell ⟨b,6,none⟩ o) v xs:=by
 intro v xs h;have G:=q;have h0:=h.setOther (q.cell 0) (by simp) a;have j:=q.set 0 a;have h1:=h0.setOther (j.cell 1) (by simp) c;have k:=j.set 1 c;have x:=h1.setOther (k.cell 2) (by simp) d;have l:=k.set 2 d;have y:=x.setOther (l.cell 3) (by simp) f;have m:=l.set 3 f;have z:=y.setOther (m.cell 4) (by simp) g;have n:=m.set 4 g
 have A:=z.setOther (n.cell 5) (by simp) i;have C:=n.set 5 i;exact A.setOther (C.cell 6) (by simp) o
def NL (w:World)(i:Int)(p:Nat)(v:Value)(W:World):Prop:=∃ (q:Nat) (j:Int) (n:Bool) (a:Option Addr) (m c:Nat),1≤q∧q≤100∧v=vI q∧Lc w n a m c W∧ak W (vN n a m c) j∧least i p=least j q∧j.natAbs<aj^70001
theorem yo (v:Value)(i:Int)(p:Nat)(w:World)(h:ak w v i)(hi:i.natAbs<aj^70000)(hp:p≤100) :
 CB 91 #[v,vI p] w fun e w'=>∃ k0 n0 g a m c s l x y k,e=.returned (vG k0 n0 g a m c s l x y k)∧dP w' (least i p).1 (least i p).2 k (vV k0 n0 g a m c s l x y):=by
 obtain ⟨n0,Y,m0,Z,rfl⟩:=h.shape;have b1:=dJ w (.cells #[.bool n0,.slice Y m0 Z] 24);have b2:=b1.alloc b1.size (.cells ((lG 0 0 false none 0 0 ⟨#[]⟩ none 0 0 0):List Value).toArray 41);have q1:=(af.new w 24 (lN n0 Y m0 Z)).alloc (.cells ((lG 0 0 false none 0 0 ⟨#[]⟩ none 0 0 0):List Value).toArray 41)
 have q2:=af.new (w.alloc (.cells #[.bool n0,.slice Y m0 Z] 24)) 41 (lG 0 0 false none 0 0 ⟨#[]⟩ none 0 0 0);simp only [Qh] at q2
 have H:Lc w n0 Y m0 Z ((w.alloc (.cells #[.bool n0,.slice Y m0 Z] 24)).alloc (.cells ((lG 0 0 false none 0 0 ⟨#[]⟩ none 0 0 0):List Value).toArray 41)):=⟨q1,q2,b2⟩
 have S:=h.below b2;generalize am:(w.alloc (.cells #[.bool n0,.slice Y m0 Z] 24)).alloc (.cells ((lG 0 0 false none 0 0 ⟨#[]⟩ none 0 0 0):List Value).toArray 41)=W0 at *;have HW:=Qa am;have ap:=Qf hi (Ql aP (show 70000≤70001 by decide))
 have kO:=fun X=>Au 10 X (by decide) (by decide)
 have a4:∀ k,1≤k→(10:Int).natAbs<aj^k:=fun k hk=>Qf (show 10<aj^1 by decide) (Ql aP hk)
 have a1:(i*10).natAbs<aj^70001:=by
  rw [Zl,Qo];exact Ye hi (show 10<aj by decide)
 have kT:=fun X v v' (hv:ak X v i) (ax:ak X v' 10)=>yl v v' i 10 X hv ax (az hi (by decide)) (a4 90000 (by decide))
 have HX:=Qa (And.intro ap (And.intro a1 a4));clear q1 q2 b1 b2 h am hi ap a1 a4;go_enter func91,ntmps91
 go_upto_region 1 with (fail)
 rw [show ((w.alloc (.cells #[.bool n0,.slice Y m0 Z] 24)).alloc (.cells ((lG 0 0 false none 0 0 ⟨#[]⟩ none 0 0 0):List Value).toArray 41))=W0 from HW.out];clear HW;obtain ⟨d1,d2⟩:=aQ H.rn
 go_upto_if 7 with (fail)
 go_cut [1] from 8 to 10 (fun v W=>NL w i p v W)
 case first =>
  by_cases au:p=0
  ·subst au
   have e0:(((0:Nat):Int) == 0)=true:=rfl;have ab:bW W0 W0.drew:=(Qj _ _).drew;have b:=H.step ab;have hx:=S.below ab;have B:=b.rn.cell 0;have C:=b.rn.cell 1;have U:=b.rn.frozen 0;have V:=b.rn.frozen 1;simp only [Qc,Qe] at B C;clear H S ab
   go_wp2_with fail
   go_region_with
    (first
     | (go_at_call 66;with_reducible refine (kO _).mono ?_;rintro e wk ⟨n,vO,rfl,T⟩;replace b:=b.step n;clear B C U V;have B:=b.rn.cell 0;have C:=b.rn.cell 1;have U:=b.rn.frozen 0;have V:=b.rn.frozen 1;simp only [Qc,Qe] at B C;replace hx:=hx.below n)
     | (go_at_call 63;with_reducible refine (kT _ _ _ hx T).mono ?_;rintro e wk ⟨n,vS,rfl,al⟩;obtain ⟨n9,a9,m9,c9,rfl⟩:=al.shape;replace b:=b.step n;clear B C U V;have B:=b.rn.cell 0;have C:=b.rn.cell 1;have U:=b.rn.frozen 0;have V:=b.rn.frozen 1;simp only [Qc,Qe] at B C))
   all_goals
    go_wp2
    go_meet
    exact ⟨1,i*10,n9,a9,m9,c9,Qb _,by decide,rfl,b.set n9 a9 m9 c9,al.keep fun _ _ hv=>bf hv B C _ _,rfl,HX.out.2.1⟩
  ·have e0:((p:Int) == 0)=false:=by simp [au]
   have e1:¬(p:Int)=0:=by omega
   go_wp2
   go_meet
   exact ⟨p,i,n0,Y,m0,Z,by omega,hp,rfl,H,S,rfl,HX.out.1⟩
 case rest =>
  clear H S d1 d2 kT hp;have HC:=Qa hcut;clear hcut;generalize wc=W3 at *
  go_wp2_with fail
  go_loopw [1] (fun v W=>NL w i p v W) (fun v _=>(intOf v).toNat)
  case atStart=>exact HC.out
  case round =>
   clear HC;obtain ⟨q,j,n2,a2,m2,c2,hq,o,rfl,b,E,F,A⟩:=hrel
   by_cases ad:q=1
   ·have HL:=Qa (show least i p=(j,q) by rw [F,ad];rfl)
    have e0:decide ((1:Int)<(q:Int))=false:=decide_eq_false (by omega);have ag:decide (1<q)=false:=decide_eq_false (by omega);clear hq o F A kO HX ad;have u:=tT E 40;obtain ⟨d1,d2⟩:=aQ b.rn;have hb:=b.below
    by_cases d:(j).natAbs<aj^40
    ·have r:=u.2 d
     have e1:decide ((40:Int)<(m2:Int))=false:=decide_eq_false (by omega);have e2:decide (40<m2)=false:=decide_eq_false (by omega);have f:=((((((b.rr.set 0 (vI 3)).set 1 (vI ((q:Nat):Int))).set 2 (.bool n2)).set 3 (.slice a2 m2 c2)).set 4 vE).set 5 vZ).set 6 (vI 0);have J:=f.cell 0;have L:=f.cell 1;have M:=f.cell 2;have N:=f.cell 3;have O:=f.cell 4;have Q:=f.cell 5
     have R:=f.cell 6;simp only [QB,Qz,Qc,Qe] at J L M N O Q R;obtain ⟨y0,y1,y2,y3,y4,y5,y6⟩:=jW b.rr;have f0:=b.rr.frozen 0;have f1:=b.rr.frozen 1;have f2:=b.rr.frozen 2;have f3:=b.rr.frozen 3;have f4:=b.rr.frozen 4;have f5:=b.rr.frozen 5;have f6:=b.rr.frozen 6;have G:=E.keep (nP b.rr (vI 3) (vI ((q:Nat):Int)) (.bool n2) (.slice a2 m2 c2) vE vZ (vI 0))
     have D:=Qa (And.intro d G);clear d G u r b E f
     go_wp2_with fail
     refine bodyPost_ret (v:=vG 3 ((q:Nat):Int) n2 a2 m2 c2 ⟨#[]⟩ none 0 0 0) (by simp [results,results91,go_sem,loadCellsFrom,J,L,M,N,O,Q,R]) rfl ⟨(((((((hb.setCell (show w.heap.size≤w.heap.size+1 by omega) _).setCell (show w.heap.size≤w.heap.size+1 by omega) _).setCell (show w.heap.size≤w.heap.size+1 by omega) _).setCell (show w.heap.size≤w.heap.size+1 by omega) _).setCell (show w.heap.size≤w.heap.size+1 by omega) _).setCell (show w.heap.size≤w.heap.size+1 by omega) _).setCell (show w.heap.size≤w.heap.size+1 by omega) _),_,_,_,_,_,_,_,_,_,_,_,rfl,?_⟩
     rw [HL.out];unfold dP;rw [if_pos D.out.1];exact ⟨rfl,_,_,_,_,_,_,rfl,D.out.2⟩
    ·have r:¬m2≤40:=fun h=>d (u.1 h)
     have e1:decide ((40:Int)<(m2:Int))=true:=decide_eq_true (by omega);have e2:decide (40<m2)=true:=decide_eq_true (by omega);have f:=((((((b.rr.set 0 (vI 0)).set 1 (vI 0)).set 2 vF).set 3 vZ).set 4 vE).set 5 vZ).set 6 (vI 3);have J:=f.cell 0;have L:=f.cell 1;have M:=f.cell 2;have N:=f.cell 3;have O:=f.cell 4;have Q:=f.cell 5;have R:=f.cell 6
     simp only [QB,Qz,Qc,Qe] at J L M N O Q R;obtain ⟨y0,y1,y2,y3,y4,y5,y6⟩:=jW b.rr;have f0:=b.rr.frozen 0;have f1:=b.rr.frozen 1;have f2:=b.rr.frozen 2;have f3:=b.rr.frozen 3;have f4:=b.rr.frozen 4;have f5:=b.rr.frozen 5;have f6:=b.rr.frozen 6;have D:=Qa d;clear d u r b E f
     go_wp2_with fail
     refine bodyPost_ret (v:=vG 0 0 false none 0 0 ⟨#[]⟩ none 0 0 3) (by simp [results,results91,go_sem,loadCellsFrom,J,L,M,N,O,Q,R]) rfl ⟨(((((((hb.setCell (show w.heap.size≤w.heap.size+1 by omega) _).setCell (show w.heap.size≤w.heap.size+1 by omega) _).setCell (show w.heap.size≤w.heap.size+1 by omega) _).setCell (show w.heap.size≤w.heap.size+1 by omega) _).setCell (show w.heap.size≤w.heap.size+1 by omega) _).setCell (show w.heap.size≤w.heap.size+1 by omega) _).setCell (show w.heap.size≤w.heap.size+1 by omega) _),_,_,_,_,_,_,_,_,_,_,_,rfl,?_⟩
     rw [HL.out];unfold dP;rw [if_neg D.out];exact ⟨rfl,rfl⟩
   ·have e0:decide ((1:Int)<(q:Int))=true:=decide_eq_true (by omega)
    have ag:decide (1<q)=true:=decide_eq_true (by omega)
    have ar:least j q=if j % 10=0 then least (j / 10) (q - 1) else (j,q):=by
     obtain ⟨g,rfl⟩:∃ g,q=g+2:=⟨q - 2,by omega⟩
     rfl
    have aw:2≤q:=by omega
    have an:j.fdiv 10=j / 10:=Zq _ (by decide);have ao:j.fmod 10=j % 10:=ZQ _ (by decide)
    have kV:=fun X v (hX:ES w wr n2 a2 m2 c2 X) (hv:ak X v 10)=>Cx _ v j 10 X (E.below hX.more) hv (az A (by decide)) (HX.out.2.2 80000 (by decide)) (by decide)
    rw [an,ao] at kV;rw [ar] at F
    have a8:ES w wr n2 a2 m2 c2 wr:=⟨b,Qj _ _⟩
    have hD:=Qa (xG (Km a8));have aq:=Qa (show w.heap.size+1<wr.heap.size from b.rr.lt);have av:wr.heap.size≤wr.drew.heap.size:=Qb _;obtain ⟨d1,d2,-⟩:=xG a8;have HJ:=Qa (And.intro F (And.intro A (And.intro o b)));clear ar an ao F A hq ad o b a8
    go_upto_region 5 with (fail)
    clear e0 ag
    go_cut [5] from 13 to 15 (fun v W=>Hy W v (j / 10) (j % 10)∧ES w wr n2 a2 m2 c2 W)
    case first =>
     go_region_held3 (fun X=>X.cell? ⟨w.heap.size,0,none⟩=some (.bool n2)∧X.cell? ⟨w.heap.size,1,none⟩=some (.slice a2 m2 c2)∧ES w wr n2 a2 m2 c2 X)
      (first | with_reducible exact hD.out | (go_split_ands;with_reducible exact xG (xQ (by assumption) n)) | (go_split_ands;with_reducible exact xG (xQ (by assumption) (dJ _ _))) | (go_split_ands;with_reducible exact xG (Kn (by assumption) aq.out ae _ _ _ _)))
      (first
       | (go_at_call 66;go_split_ands;with_reducible refine (kO _).mono ?_;rintro e wk ⟨n,vO,rfl,T⟩;have u:=Qd (ES.more (by assumption)).size n.size;first | (with_reducible have hq:=Fp (w1:=wr) (vals:=[vF,vZ,vF,vZ]) (by first | assumption | exact Qb _) n;obtain ⟨ae,z⟩:=hq) | (with_reducible have hq:=Kg (w1:=wr) (vals:=[vF,vZ,vF,vZ]) (Qb _) n;obtain ⟨ae,z⟩:=hq) | skip)
       | (go_at_call 77;go_split_ands;(first | with_reducible refine (kV _ _ (by assumption) T).mono ?_ | with_reducible refine (kV _ _ (by assumption) (T.below (dJ _ _))).mono ?_);rintro e wk ⟨n,n5,a5,m5,c5,n6,a6,m6,c6,rfl,ah,ai⟩;have ay:=xQ (by assumption) n;have u:=Qd (ES.more (by assumption)).size n.size;first | (replace z:=z.below n;have B:=z.cell 0;have C:=z.cell 1;have U:=z.cell 2;have V:=z.cell 3;have z5:=z.frozen 0;have z6:=z.frozen 1;have z7:=z.frozen 2;have z8:=z.frozen 3;simp only [Qc,Qe] at B C U V) | (with_reducible have hq:=Fp (w1:=wr) (vals:=[vF,vZ,vF,vZ]) (by first | assumption | exact Qb _) n;obtain ⟨ae,z⟩:=hq;have B:=z.cell 0;have C:=z.cell 1;have U:=z.cell 2;have V:=z.cell 3;have z5:=z.frozen 0;have z6:=z.frozen 1;have z7:=z.frozen 2;have z8:=z.frozen 3;simp only [Qc,Qe] at B C U V) | skip))
     all_goals
      rename_i hX;obtain ⟨-,-,O1⟩:=hX;go_wp2
      go_meet
      first
       | with_reducible exact ⟨Kh z ah ai,O1⟩
       | with_reducible exact ⟨Hy.new ah ai,O1⟩
    case rest =>
     obtain ⟨⟨b9,n5,a5,m5,c5,n6,a6,m6,c6,rfl,r9,i5,i6⟩,aa⟩:=hcut;generalize wc=w4 at *;obtain ⟨g3,g4⟩:=BD r9;have kZ:=Gt _ _ w4 i6
     obtain ⟨t,ht⟩:∃ t,decide (j % 10=0)=t:=⟨_,rfl⟩
     rw [ht] at kZ;clear hD aq kO kV av d1 d2
     go_upto_if 19 with (go_at_call 78;with_reducible refine kZ.mono ?_;rintro e w5 ⟨I,rfl⟩)
     have b:=aa.s.step I;have a7:=(E.below aa.more).below I;replace r9:=r9.below I;replace i5:=i5.below I;clear kZ g3 g4 aa I i6 E;obtain ⟨F,A,o,-⟩:=HJ.out;clear HJ
     cases t with
     | true =>
      have h0:j % 10=0:=of_decide_eq_true ht;rw [if_pos h0] at F;have g1:=r9.cell 0;have g2:=r9.cell 1;have B:=b.rn.cell 0;have C:=b.rn.cell 1;have U:=b.rn.frozen 0;have V:=b.rn.frozen 1;simp only [Qc,Qe] at g1 g2 B C
      have a3:(j / 10).natAbs<aj^70001:=by
       refine Qr ?_ A;omega
      have D:=Qa (And.intro F (And.intro a3 o));clear F A a3 h0 ht a7 HX
      go_wp2_with fail
      go_roundw
      case rel =>
       exact ⟨q - 1,j / 10,n5,a5,m5,c5,by omega,by omega,by congr 1;omega,b.set n5 a5 m5 c5,i5.keep fun _ _ hv=>bf hv B C _ _,D.out.1,D.out.2.1⟩
      case measure =>
       simp only [intOf];omega
     | false =>
      have h0:¬j % 10=0:=of_decide_eq_false ht;rw [if_neg h0] at F;have HL:=Qa F;have E:=a7;clear F A h0 ht a7 HX r9 i5 o aw
      go_upto_region 9 with (fail)
      have u:=tT E 40;obtain ⟨d1,d2⟩:=aQ b.rn;have hb:=b.below
      by_cases d:(j).natAbs<aj^40
      ·have r:=u.2 d
       have e1:decide ((40:Int)<(m2:Int))=false:=decide_eq_false (by omega);have e2:decide (40<m2)=false:=decide_eq_false (by omega);have f:=((((((b.rr.set 0 (vI 3)).set 1 (vI ((q:Nat):Int))).set 2 (.bool n2)).set 3 (.slice a2 m2 c2)).set 4 vE).set 5 vZ).set 6 (vI 0);have J:=f.cell 0;have L:=f.cell 1;have M:=f.cell 2;have N:=f.cell 3;have O:=f.cell 4;have Q:=f.cell 5
       have R:=f.cell 6;simp only [QB,Qz,Qc,Qe] at J L M N O Q R;obtain ⟨y0,y1,y2,y3,y4,y5,y6⟩:=jW b.rr;have f0:=b.rr.frozen 0;have f1:=b.rr.frozen 1;have f2:=b.rr.frozen 2;have f3:=b.rr.frozen 3;have f4:=b.rr.frozen 4;have f5:=b.rr.frozen 5;have f6:=b.rr.frozen 6;have G:=E.keep (nP b.rr (vI 3) (vI ((q:Nat):Int)) (.bool n2) (.slice a2 m2 c2) vE vZ (vI 0))
       have D:=Qa (And.intro d G);clear d G u r b E f
       go_wp2_with fail
       refine bodyPost_ret (v:=vG 3 ((q:Nat):Int) n2 a2 m2 c2 ⟨#[]⟩ none 0 0 0) (by simp [results,results91,go_sem,loadCellsFrom,J,L,M,N,O,Q,R]) rfl ⟨(((((((hb.setCell (show w.heap.size≤w.heap.size+1 by omega) _).setCell (show w.heap.size≤w.heap.size+1 by omega) _).setCell (show w.heap.size≤w.heap.size+1 by omega) _).setCell (show w.heap.size≤w.heap.size+1 by omega) _).setCell (show w.heap.size≤w.heap.size+1 by omega) _).setCell (show w.heap.size≤w.heap.size+1 by omega) _).setCell (show w.heap.size≤w.heap.size+1 by omega) _),_,_,_,_,_,_,_,_,_,_,_,rfl,?_⟩
       rw [HL.out];unfold dP;rw [if_pos D.out.1];exact ⟨rfl,_,_,_,_,_,_,rfl,D.out.2⟩
      ·have r:¬m2≤40:=fun h=>d (u.1 h)
       have e1:decide ((40:Int)<(m2:Int))=true:=decide_eq_true (by omega);have e2:decide (40<m2)=true:=decide_eq_true (by omega);have f:=((((((b.rr.set 0 (vI 0)).set 1 (vI 0)).set 2 vF).set 3 vZ).set 4 vE).set 5 vZ).set 6 (vI 3);have J:=f.cell 0;have L:=f.cell 1;have M:=f.cell 2;have N:=f.cell 3;have O:=f.cell 4;have Q:=f.cell 5;have R:=f.cell 6
       simp only [QB,Qz,Qc,Qe] at J L M N O Q R;obtain ⟨y0,y1,y2,y3,y4,y5,y6⟩:=jW b.rr;have f0:=b.rr.frozen 0;have f1:=b.rr.frozen 1;have f2:=b.rr.frozen 2;have f3:=b.rr.frozen 3;have f4:=b.rr.frozen 4;have f5:=b.rr.frozen 5;have f6:=b.rr.frozen 6;have D:=Qa d;clear d u r b E f
       go_wp2_with fail
       refine bodyPost_ret (v:=vG 0 0 false none 0 0 ⟨#[]⟩ none 0 0 3) (by simp [results,results91,go_sem,loadCellsFrom,J,L,M,N,O,Q,R]) rfl ⟨(((((((hb.setCell (show w.heap.size≤w.heap.size+1 by omega) _).setCell (show w.heap.size≤w.heap.size+1 by omega) _).setCell (show w.heap.size≤w.heap.size+1 by omega) _).setCell (show w.heap.size≤w.heap.size+1 by omega) _).setCell (show w.heap.size≤w.heap.size+1 by omega) _).setCell (show w.heap.size≤w.heap.size+1 by omega) _).setCell (show w.heap.size≤w.heap.size+1 by omega) _),_,_,_,_,_,_,_,_,_,_,_,rfl,?_⟩
       rw [HL.out];unfold dP;rw [if_neg D.out];exact ⟨rfl,rfl⟩
def rH (W:World)(f:Bool)(i places k:Int)(v:Value):Prop :=
 if f=false then k=2∧v=pV else if places<0∨20<places then k=1∧v=pV else dP W (least i places.toNat).1 (least i places.toNat).2 k v
theorem dP.keep {W a:World}{j:Int}{q:Nat}{k:Int}{v:Value}(h:dP W j q k v)(b:∀ v xs,Reads .u32 W v xs→Reads .u32 a v xs):dP a j q k v:=by
 unfold dP at *;split at h
 ·rename_i h1
  rw [if_pos h1];exact ⟨h.1,h.2.keep b⟩
 ·rename_i h1
  rw [if_neg h1];exact h
theorem Gy (v:Value)(neg:Bool)(xs:List Nat)(places:Int)(w:World)(h:dx w v neg xs) :
 CB 25 #[v,vI places] w fun e w'=>∃ k0 n0 g a m c s l x y k,e=.returned (vG k0 n0 g a m c s l x y k)∧rH w' (au neg xs) (bX neg (val xs)) places k (vV k0 n0 g a m c s l x y):=by
 have A:=fun X (hX:bW w X)=>Ce v neg xs X (h.below hX)
 have KI:=fun (hf:au neg xs=true) X (hX:bW w X)=>(h.below hX).isInt hf
 have hi:=fun (hf:au neg xs=true)=>h.jI hf
 obtain ⟨va,rfl,hr,hl⟩:=h;obtain ⟨D,E,rfl,hc,hm⟩:=hr.form;have b1:=dJ w (.cells #[.bool neg,.slice D xs.length E] 24);have B:=b1.alloc b1.size (.cells ((lG 0 0 false none 0 0 ⟨#[]⟩ none 0 0 0):List Value).toArray 41);have q1:=(af.new w 24 (lN neg D xs.length E)).alloc (.cells ((lG 0 0 false none 0 0 ⟨#[]⟩ none 0 0 0):List Value).toArray 41)
 have q2:=af.new (w.alloc (.cells #[.bool neg,.slice D xs.length E] 24)) 41 (lG 0 0 false none 0 0 ⟨#[]⟩ none 0 0 0);simp only [Qh] at q2
 have i:Lc w neg D xs.length E ((w.alloc (.cells #[.bool neg,.slice D xs.length E] 24)).alloc (.cells ((lG 0 0 false none 0 0 ⟨#[]⟩ none 0 0 0):List Value).toArray 41)):=⟨q1,q2,B⟩
 generalize L:(w.alloc (.cells #[.bool neg,.slice D xs.length E] 24)).alloc (.cells ((lG 0 0 false none 0 0 ⟨#[]⟩ none 0 0 0):List Value).toArray 41)=W0 at *;have HW:=Qa L;clear q1 q2 b1 L hr hl hc hm;go_enter func25,ntmps25
 go_upto_region 1 with (fail)
 rw [show ((w.alloc (.cells #[.bool neg,.slice D xs.length E] 24)).alloc (.cells ((lG 0 0 false none 0 0 ⟨#[]⟩ none 0 0 0):List Value).toArray 41))=W0 from HW.out];clear HW;obtain ⟨H,I⟩:=aQ i.rn
 cases hf:au neg xs with
 | false =>
  rw [hf] at A;have j:=Qa hf;clear KI hi hf
  go_upto_region 2 with (go_at_call 69;with_reducible refine (A _ B).mono ?_;rintro e N ⟨f,rfl⟩)
  have b:=i.step f;clear i f H I B A;have G:=b.below;have d:=((((((b.rr.set 0 (vI 0)).set 1 (vI 0)).set 2 vF).set 3 vZ).set 4 vE).set 5 vZ).set 6 (vI 2);have n:=d.cell 0;have o:=d.cell 1;have q:=d.cell 2;have r:=d.cell 3;have t:=d.cell 4;have u:=d.cell 5;have z:=d.cell 6;simp only [QB,Qz,Qc,Qe] at n o q r t u z;obtain ⟨R,S,T,U,V,Y,Z⟩:=jW b.rr
  have f0:=b.rr.frozen 0;have f1:=b.rr.frozen 1;have f2:=b.rr.frozen 2;have f3:=b.rr.frozen 3;have f4:=b.rr.frozen 4;have f5:=b.rr.frozen 5;have f6:=b.rr.frozen 6;clear b d
  go_wp2_with fail
  refine bodyPost_ret (v:=vG 0 0 false none 0 0 ⟨#[]⟩ none 0 0 2) (by simp [results,results25,go_sem,loadCellsFrom,n,o,q,r,t,u,z]) rfl ⟨(((((((G.setCell (show w.heap.size≤w.heap.size+1 by omega) _).setCell (show w.heap.size≤w.heap.size+1 by omega) _).setCell (show w.heap.size≤w.heap.size+1 by omega) _).setCell (show w.heap.size≤w.heap.size+1 by omega) _).setCell (show w.heap.size≤w.heap.size+1 by omega) _).setCell (show w.heap.size≤w.heap.size+1 by omega) _).setCell (show w.heap.size≤w.heap.size+1 by omega) _),_,_,_,_,_,_,_,_,_,_,_,rfl,?_⟩
  unfold rH;rw [if_pos j.out];exact ⟨rfl,rfl⟩
 | true =>
  rw [hf] at A;have Q:=KI hf;have C:=hi hf;have j:=Qa hf;clear KI hi hf
  by_cases M:places<0∨20<places
  ·have O:=Qa M
   rcases ZR places 0 with hp0 | hp0
   ·have J:decide (places<0)=true:=decide_eq_true hp0
    clear M Q C hp0
    go_upto_region 4 with (go_at_call 69;with_reducible refine (A _ B).mono ?_;rintro e N ⟨f,rfl⟩)
    have b:=i.step f;clear i f H I B A J;have G:=b.below;have d:=((((((b.rr.set 0 (vI 0)).set 1 (vI 0)).set 2 vF).set 3 vZ).set 4 vE).set 5 vZ).set 6 (vI 1);have n:=d.cell 0;have o:=d.cell 1;have q:=d.cell 2;have r:=d.cell 3;have t:=d.cell 4;have u:=d.cell 5;have z:=d.cell 6;simp only [QB,Qz,Qc,Qe] at n o q r t u z;obtain ⟨R,S,T,U,V,Y,Z⟩:=jW b.rr
    have f0:=b.rr.frozen 0;have f1:=b.rr.frozen 1;have f2:=b.rr.frozen 2;have f3:=b.rr.frozen 3;have f4:=b.rr.frozen 4;have f5:=b.rr.frozen 5;have f6:=b.rr.frozen 6;clear b d
    go_wp2_with fail
    refine bodyPost_ret (v:=vG 0 0 false none 0 0 ⟨#[]⟩ none 0 0 1) (by simp [results,results25,go_sem,loadCellsFrom,n,o,q,r,t,u,z]) rfl ⟨(((((((G.setCell (show w.heap.size≤w.heap.size+1 by omega) _).setCell (show w.heap.size≤w.heap.size+1 by omega) _).setCell (show w.heap.size≤w.heap.size+1 by omega) _).setCell (show w.heap.size≤w.heap.size+1 by omega) _).setCell (show w.heap.size≤w.heap.size+1 by omega) _).setCell (show w.heap.size≤w.heap.size+1 by omega) _).setCell (show w.heap.size≤w.heap.size+1 by omega) _),_,_,_,_,_,_,_,_,_,_,_,rfl,?_⟩
    unfold rH;rw [if_neg (by rw [j.out];simp),if_pos O.out];exact ⟨rfl,rfl⟩
   ·have J:decide (places<0)=false:=decide_eq_false (by omega)
    have e2:decide (20<places)=true:=decide_eq_true (by omega);clear M Q C hp0
    go_upto_region 4 with (go_at_call 69;with_reducible refine (A _ B).mono ?_;rintro e N ⟨f,rfl⟩)
    have b:=i.step f;clear i f H I B A J e2;have G:=b.below;have d:=((((((b.rr.set 0 (vI 0)).set 1 (vI 0)).set 2 vF).set 3 vZ).set 4 vE).set 5 vZ).set 6 (vI 1);have n:=d.cell 0;have o:=d.cell 1;have q:=d.cell 2;have r:=d.cell 3;have t:=d.cell 4;have u:=d.cell 5;have z:=d.cell 6;simp only [QB,Qz,Qc,Qe] at n o q r t u z
    obtain ⟨R,S,T,U,V,Y,Z⟩:=jW b.rr;have f0:=b.rr.frozen 0;have f1:=b.rr.frozen 1;have f2:=b.rr.frozen 2;have f3:=b.rr.frozen 3;have f4:=b.rr.frozen 4;have f5:=b.rr.frozen 5;have f6:=b.rr.frozen 6;clear b d
    go_wp2_with fail
    refine bodyPost_ret (v:=vG 0 0 false none 0 0 ⟨#[]⟩ none 0 0 1) (by simp [results,results25,go_sem,loadCellsFrom,n,o,q,r,t,u,z]) rfl ⟨(((((((G.setCell (show w.heap.size≤w.heap.size+1 by omega) _).setCell (show w.heap.size≤w.heap.size+1 by omega) _).setCell (show w.heap.size≤w.heap.size+1 by omega) _).setCell (show w.heap.size≤w.heap.size+1 by omega) _).setCell (show w.heap.size≤w.heap.size+1 by omega) _).setCell (show w.heap.size≤w.heap.size+1 by omega) _).setCell (show w.heap.size≤w.heap.size+1 by omega) _),_,_,_,_,_,_,_,_,_,_,_,rfl,?_⟩
    unfold rH;rw [if_neg (by rw [j.out];simp),if_pos O.out];exact ⟨rfl,rfl⟩
  ·have J:decide (places<0)=false:=decide_eq_false (by omega)
   have e2:decide (20<places)=false:=decide_eq_false (by omega);obtain ⟨p,rfl⟩:=JW (show 0≤places by omega)
   have a2:p≤20:=by omega
   have O:=Qa M;clear M
   go_upto_region 5 with (go_at_call 69;with_reducible refine (A _ B).mono ?_;rintro e N ⟨f,rfl⟩)
   have F:=i.step f;have kL:=yo _ _ p N (Q N F.below) (Qf C (Ql aP (by decide))) (by omega);clear i f H I B A Q J e2 C;obtain ⟨H,I⟩:=aQ F.rn
   go_wp2_with (go_at_call 91;with_reducible refine kL.mono ?_;rintro e w3 ⟨a1,k0,n0,g,a,m,c,s,l,x,y,k,rfl,hO⟩;have b:=F.step a1;have R:=b.rr.cell 0;have S:=b.rr.cell 1;have T:=b.rr.cell 2;have U:=b.rr.cell 3;have V:=b.rr.cell 4;have Y:=b.rr.cell 5;have Z:=b.rr.cell 6;have f0:=b.rr.frozen 0;have f1:=b.rr.frozen 1;have f2:=b.rr.frozen 2;have f3:=b.rr.frozen 3;have f4:=b.rr.frozen 4;have f5:=b.rr.frozen 5;have f6:=b.rr.frozen 6;simp only [Qc,Qe] at R S T U V Y Z)
   have G:=b.below;have d:=((((((b.rr.set 0 (vI k0)).set 1 (vI n0)).set 2 (.bool g)).set 3 (.slice a m c)).set 4 (.string s)).set 5 (.slice l x y)).set 6 (vI k);have n:=d.cell 0;have o:=d.cell 1;have q:=d.cell 2;have r:=d.cell 3;have t:=d.cell 4;have u:=d.cell 5;have z:=d.cell 6;simp only [QB,Qz,Qc,Qe] at n o q r t u z
   refine bodyPost_ret (v:=vG k0 n0 g a m c s l x y k) (by simp [results,results25,go_sem,loadCellsFrom,n,o,q,r,t,u,z]) rfl ⟨(((((((G.setCell (show w.heap.size≤w.heap.size+1 by omega) _).setCell (show w.heap.size≤w.heap.size+1 by omega) _).setCell (show w.heap.size≤w.heap.size+1 by omega) _).setCell (show w.heap.size≤w.heap.size+1 by omega) _).setCell (show w.heap.size≤w.heap.size+1 by omega) _).setCell (show w.heap.size≤w.heap.size+1 by omega) _).setCell (show w.heap.size≤w.heap.size+1 by omega) _),_,_,_,_,_,_,_,_,_,_,_,rfl,?_⟩
   unfold rH;rw [if_neg (by rw [j.out];simp),if_neg O.out,QP];exact hO.keep (nP b.rr _ _ _ _ _ _ _)
theorem Fs (neg:Bool)(x:Nat):bX neg x % 2=1↔x % 2=1:=by
 cases neg <;> simp only [bX] <;> simp <;> omega
theorem LW {xs:List Nat}(h:Limbs xs):val xs % 2=xs[0]?.getD 0 % 2:=by
 have h1:val xs % 4294967296=xs[0]?.getD 0:=val_mod xs h;omega
end Go.Proofs.YtagjhmodblifbaaGreatDoor
