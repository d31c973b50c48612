/- proved lemmas -/
import Derived.Test.YtagjhmodblifbaaGreatDoorMA
import Derived.Test.YtagjhmodblifbaaGreatDoorB00
import Derived.Test.YtagjhmodblifbaaGreatDoorB02
import Derived.Test.YtagjhmodblifbaaGreatDoorB01
import Derived.Deep.QuietTactic
import Derived.BigQuiet
import Derived.Test.YtagjhmodblifbaaGreatDoorB04
set_option maxHeartbeats 4000000
set_option maxRecDepth 100000
namespace Go.Proofs.YtagjhmodblifbaaGreatDoor
open Go.Proofs.Tryz
open Go Go.RowKit Go.Shelf
theorem tL (H I:Value)(c d:List Nat)(w:World)(ha:Reads .u32 w H c)(z:Reads .u32 w I d)(D:Canon c)(o:Canon d)(na:c.length≤1000000) :
 CB 138 #[H,I] w fun e _=>e=.returned (vI (dS (val c:Int) (val d:Int))):=by
 obtain ⟨Q,S,rfl,F,M⟩:=ha.form;obtain ⟨R,T,rfl,G,B⟩:=z.form;unfold maxLen at M B
 by_cases r:c.length=d.length
 ·have s:=Qa r
  have A:(((c.length:Nat):Int) != (d.length:Int))=false:=by rw [r];simp
  clear r;go_enter func138,ntmps138;go_wp2
  go_loopw [5] (fun i W=>∃ k:Nat,k≤c.length∧i=vI ((k:Int) - 1)∧(∀ q,k≤q→q<c.length→c[q]?.getD 0=d[q]?.getD 0)∧∃ nq,W=w.drewN nq) (fun i _=>(intOf i+1).toNat)
  case atStart=>exact ⟨c.length,Qb _,by go_num,fun q h1 g=>absurd g (by omega),0,rfl⟩
  case round =>
   obtain ⟨k,U,rfl,f,nq,rfl⟩:=hrel
   cases k with
   | zero =>
    have a:dS (val c:Int) (val d:Int)=0:=by
     have:c=d:=by
      apply Yo s.out;intro i h1 g;have:=f i (QF _) h1;simpa [Qs h1,Qs g] using this
     rw [this,vL]
    have n:=Qa a;clear a f;go_wp2;go_ret;exact ⟨below_drewN (Qj _ _) _,by rw [n.out];rfl⟩
   | succ k =>
    have p:((k+1:Nat):Int) - 1=(k:Int):=by omega
    rw [p]
    have l:k<c.length:=by omega
    have V:=fun W=>ha.index aG bZ (P:=prog) k .i64 W l
    have X:=fun W=>z.index aG bZ (P:=prog) k .i64 W (by have:=s.out;omega)
    have J:=ha.cell k l;have L:=z.cell k (by have:=s.out;omega)
    have j:=fun C=>Ii D.1 o.1 s.out k l (fun i h1 g=>f i (by omega) g) C
    obtain ⟨x,t⟩:∃ x,c[k]?.getD 0=x:=⟨_,rfl⟩
    obtain ⟨y,u⟩:∃ y,d[k]?.getD 0=y:=⟨_,rfl⟩
    rw [t] at J;rw [u] at L;rw [t,u] at j;have v:=Qa (And.intro t (And.intro u f));have m:=Qa j;clear t u f j p
    rcases Nat.lt_trichotomy x y with hxy | hxy | hxy
    ·have E:decide ((x:Int)<(y:Int))=true:=by simp <;> omega
     have a:=m.out (by omega)
     have b:dS (x:Int) (y:Int)=-1:=by unfold dS;rw [if_pos (by omega)]
     rw [b] at a;have n:=Qa a;clear a b
     go_wp2_with fail
     go_quiet (fail)
     go_wp2;go_ret;exact ⟨below_drewN (below_drewN (Qj _ _) _) _,by rw [n.out];rfl⟩
    ·subst hxy
     have E:decide ((x:Int)<(x:Int))=false:=by simp
     go_wp2_with fail
     go_quiet (fail)
     go_wp2
     go_quiet (fail)
     go_wp2;refine ⟨⟨k,by omega,by go_num,?_,_,rfl⟩,by simp [intOf] <;> omega⟩;intro q h1 g
     rcases QK k q with h | h
     ·exact v.out.2.2 q (by omega) g
     ·obtain rfl:q=k:=by omega
      rw [v.out.1,v.out.2.1]
    ·have E:decide ((x:Int)<(y:Int))=false:=by simp <;> omega
     have O:decide ((y:Int)<(x:Int))=true:=by simp <;> omega
     have a:=m.out (by omega)
     have b:dS (x:Int) (y:Int)=1:=by unfold dS;rw [if_neg (by omega),if_pos (by omega)]
     rw [b] at a;have n:=Qa a;clear a b
     go_wp2_with fail
     go_quiet (fail)
     go_wp2
     go_quiet (fail)
     go_wp2;go_ret;exact ⟨below_drewN (below_drewN (below_drewN (Qj _ _) _) _) _,by rw [n.out];rfl⟩
 ·have A:(((c.length:Nat):Int) != (d.length:Int))=true:=by simp <;> omega
  have a:=EX D o r;rw [a];clear a;go_enter func138,ntmps138
  rcases YS r with h | h
  ·have N:decide ((c.length:Int)<(d.length:Int))=true:=by simp <;> omega
   have b:dS (c.length:Int) (d.length:Int)=-1:=by unfold dS;rw [if_pos (by omega)]
   rw [b];go_wp2;go_ret;exact ⟨Qj _ _,rfl⟩
  ·have N:decide ((c.length:Int)<(d.length:Int))=false:=by simp <;> omega
   have b:dS (c.length:Int) (d.length:Int)=1:=by unfold dS;rw [if_neg (by omega),if_pos (by omega)]
   rw [b];go_wp2;go_ret;exact ⟨Qj _ _,rfl⟩
end Go.Proofs.YtagjhmodblifbaaGreatDoor
namespace Go.Proofs.YtagjhmodblifbaaGreatDoor
open Go.Proofs.Tryz
def sW (o g:Nat)(st:List Nat × Nat × Nat)(p:Nat × Nat):List Nat × Nat × Nat :=
 (st.1.set (o+p.1) ((st.1[o+p.1]?.getD 0+aj - ((st.2.1+g*p.2) % aj+st.2.2)) % aj),(st.2.1+g*p.2) / aj,1 - (st.1[o+p.1]?.getD 0+aj - ((st.2.1+g*p.2) % aj+st.2.2)) / aj)
def eO (o g:Nat)(xs:List Nat)(ps:List (Nat × Nat)):List Nat × Nat × Nat:=ps.foldl (sW o g) (xs,0,0)
theorem kz (o g:Nat)(xs:List Nat)(ps:List (Nat × Nat))(p:Nat × Nat):eO o g xs (ps++[p])=sW o g (eO o g xs ps) p:=by simp [eO]
theorem jN (o g:Nat)(xs:List Nat)(ps:List (Nat × Nat)):(eO o g xs ps).1.length=xs.length:=by
 induction ps using fP with
 | h0=>rfl
 | h1 ps p a=>rw [kz];simp [sW,a]
theorem iH {o g:Nat}{xs:List Nat}(d:g<aj)(h:Limbs xs)(ps:List (Nat × Nat))(a:∀ p ∈ ps,p.2<aj):Limbs (eO o g xs ps).1∧(eO o g xs ps).2.1<aj∧(eO o g xs ps).2.2≤1:=by
 induction ps using fP with
 | h0=>exact ⟨h,aP,QF _⟩
 | h1 ps p i =>
  obtain ⟨h1,b,j⟩:=i (fun q f=>a q (JY _ f));have c:=a p (by simp);rw [kz];refine ⟨kr h1 _ (Qy _ aP),Za ?_,Nat.sub_le _ _⟩;exact oF b d c
theorem DW {o g:Nat}{xs ys:List Nat}(r:g<aj)(s:Limbs xs)(t:Limbs ys)(k:Nat)(B:o+k≤xs.length) :
  val (eO o g xs (ah ys k)).1+aj^o*(g*val (ys.take k))=val xs+aj^(o+k)*((eO o g xs (ah ys k)).2.1+(eO o g xs (ah ys k)).2.2):=by
 induction k with
 | zero=>simp [ah,eO,val]
 | succ k d =>
  have d:=d (by omega);have C:=jN o g xs (ah ys k)
  obtain ⟨f,u,v⟩:=iH (o:=o) r s (ah ys k) (fun p a=>by
   obtain ⟨i,_,rfl⟩:=Qw.1 a
   exact aK t i)
  have A:=aK f (o+k);rw [bL,kz,eP];simp only [sW];generalize (eO o g xs (ah ys k)).2.2=b at *;generalize (eO o g xs (ah ys k)).2.1=c at *;generalize (eO o g xs (ah ys k)).1=q at *;generalize ys[k]?.getD 0=y at *;have n:=Jq (c+g*y) aj;have D:=Qy (c+g*y) aP;generalize (c+g*y) / aj=c' at *;generalize (c+g*y) % aj=cl at *
  have hs:=fun z=>uA q (o+k) z (by omega)
  generalize q[o+k]?.getD 0=x at *
  have h:(x+aj - (cl+b)) % aj+cl+b=x+aj*(1 - (x+aj - (cl+b)) / aj):=by unfold aj at *;omega
  have hs:=hs ((x+aj - (cl+b)) % aj);generalize (x+aj - (cl+b)) % aj=m at *;generalize 1 - (x+aj - (cl+b)) / aj=b' at *;generalize val (q.set (o+k) m)=Z at *;have j:=congrArg (aj^(o+k)*·) h;have l:=congrArg (aj^(o+k)*·) n;simp only [Qm] at j l;rw [← QV,Qo,Qn (aj^(o+k)),Qm g,Qm (aj^o),Qm aj,Qm (aj^(o+k))]
  have e:aj^o*(g*(aj^k*y))=aj^(o+k)*(g*y):=by rw [Qt,Jb g,Qn]
  rw [Qm (aj^(o+k))] at d;rw [e];omega
theorem uP (o g:Nat)(xs ys:List Nat)(k m:Nat)(b:o+k≤m):(eO o g xs (ah ys k)).1[m]?=xs[m]?:=by
 induction k with
 | zero=>rfl
 | succ k a =>
  rw [bL,kz];simp only [sW];rw [ZE (by omega)];exact a (by omega)
def sZ (o:Nat)(st:List Nat × Nat)(p:Nat × Nat):List Nat × Nat:=(st.1.set (o+p.1) ((st.2+(st.1[o+p.1]?.getD 0+p.2)) % aj),(st.2+(st.1[o+p.1]?.getD 0+p.2)) / aj)
def dY (o:Nat)(xs:List Nat)(ps:List (Nat × Nat)):List Nat × Nat:=ps.foldl (sZ o) (xs,0)
theorem kH (o:Nat)(xs:List Nat)(ps:List (Nat × Nat))(p:Nat × Nat):dY o xs (ps++[p])=sZ o (dY o xs ps) p:=by simp [dY]
theorem jO (o:Nat)(xs:List Nat)(ps:List (Nat × Nat)):(dY o xs ps).1.length=xs.length:=by
 induction ps using fP with
 | h0=>rfl
 | h1 ps p a=>rw [kH];simp [sZ,a]
theorem lC {o:Nat}{xs:List Nat}(c:Limbs xs)(ps:List (Nat × Nat))(a:∀ p ∈ ps,p.2<aj):Limbs (dY o xs ps).1∧(dY o xs ps).2≤1:=by
 induction ps using fP with
 | h0=>exact ⟨c,QF _⟩
 | h1 ps p d =>
  obtain ⟨h1,f⟩:=d (fun q b=>a q (JY _ b));have g:=a p (by simp);have h:=aK h1 (o+p.1);rw [kH];refine ⟨kr h1 _ (Qy _ aP),?_⟩
  show (_+(_+_)) / aj≤1
  unfold aj at *;omega
theorem yc {o:Nat}{xs ys:List Nat}(k:Nat)(f:o+k≤xs.length):val (dY o xs (ah ys k)).1+aj^(o+k)*(dY o xs (ah ys k)).2=val xs+aj^o*val (ys.take k):=by
 induction k with
 | zero=>simp [ah,dY,val]
 | succ k a =>
  have a:=a (by omega);have g:=jO o xs (ah ys k);rw [bL,kH,eP];simp only [sZ];generalize (dY o xs (ah ys k)).2=c at *;generalize (dY o xs (ah ys k)).1=q at *;generalize ys[k]?.getD 0=y at *
  have hs:=fun z=>uA q (o+k) z (by omega)
  generalize q[o+k]?.getD 0=x at *;have d:=Jq (c+(x+y)) aj;have hs:=hs ((c+(x+y)) % aj);generalize (c+(x+y)) / aj=c' at *;generalize (c+(x+y)) % aj=m at *;generalize val (q.set (o+k) m)=Z at *;have b:=congrArg (aj^(o+k)*·) d;simp only [Qm] at b;rw [← QV,Qo,Qn (aj^(o+k)),Qm (aj^o),← Qn (aj^o) (aj^k),← Qt];omega
theorem AY (o:Nat)(xs ys:List Nat)(k m:Nat)(b:o+k≤m):(dY o xs (ah ys k)).1[m]?=xs[m]?:=by
 induction k with
 | zero=>rfl
 | succ k a =>
  rw [bL,kH];simp only [sZ];rw [ZE (by omega)];exact a (by omega)
theorem Cq {o:Nat}{xs ys:List Nat}{k:Nat}(g:Limbs xs)(i:ys.length≤k)(f:(dY o xs (ah ys k)).2=0)(a:∀ p ∈ ah ys k,p.2<aj)(j:Nat):dY o xs (ah ys (k+j))=dY o xs (ah ys k):=by
 induction j with
 | zero=>rfl
 | succ j h =>
  rw [← QV,bL,kH,h,Jm (by omega)];have d:=(lC (o:=o) g (ah ys k) a).1;generalize dY o xs (ah ys k)=st at *;obtain ⟨q,c⟩:=st;simp only at f d;subst f;have b:=aK d (o+(k+j));simp only [sZ,YQ,Jk,QJ,Jo b,QR b]
  congr 1
  by_cases hi:o+(k+j)<q.length
  ·rw [Qs hi,JF,List.set_getElem_self]
  ·rw [List.set_eq_of_length_le (by omega)]
def nz (U3 V2:Nat):Nat:=min (U3 / V2) (aj - 1)
theorem pM (a b:Nat):nz a b<aj:=by unfold nz aj;omega
theorem DX {A N a b c d:Nat}(s:0<N)(o:0<A)(j:aj≤b)(x:a<N)(v:c<A*N)(p:c+A*N*d<A*(a+N*b)*aj) :
  (c+A*N*d) / (A*(a+N*b))≤nz d b∧nz d b≤(c+A*N*d) / (A*(a+N*b))+1:=by
 have f:0<b:=Qf aP j;have t:0<N*b:=ZN s f;have r:0<A*(a+N*b):=ZN o (by omega)
 have h:A*N*b≤A*(a+N*b):=by
  rw [Qn];exact Qu _ (by omega)
 generalize I:c+A*N*d=X at *;generalize i:A*(a+N*b)=D at *;have z:X / D*D≤X:=Xd _ _
 have B:X<(X / D+1)*D:=by
  rw [Qp];exact Xe X r
 generalize y:X / D=q at *
 have C:q<aj:=by
  rw [← y];exact Za p
 refine ⟨?_,?_⟩
 ·unfold nz
  refine Nat.le_min.2 ⟨(JD f).2 ?_,by omega⟩;refine Yw (Zh fun m=>?_);have h1:A*N*(d+1)≤A*N*(q*b):=Qu _ m
  have n:A*N*(q*b)≤q*D:=by
   rw [Jb];exact Qu _ h
  rw [Qm,QZ] at h1;omega
 ·refine Yw (Zh fun m=>?_)
  have k:nz d b≤d / b:=Xf _ _;have u:nz d b<aj:=pM _ _;have l:nz d b*b≤d:=(JD f).1 k;generalize nz d b=g at *
  have h1:g*D≤X+D:=by
   have n:g*D=A*(g*a)+A*N*(g*b):=by
    rw [← i,Jb,Qm,Qm,Jb g N,Qn A N]
   have E:A*N*(g*b)≤A*N*d:=Qu _ l
   have F:A*(g*a)≤A*N*b:=by
    rw [Qn];refine Qu _ ?_;rw [Qp N];exact JI (by omega) (by omega)
   omega
  have G:(q+2)*D≤g*D:=Ja _ (by omega)
  have H:(q+2)*D=(q+1)*D+D:=by rw [show q+2=(q+1)+1 from rfl,QH (q+1) 1,QD]
  omega
theorem Gf {t b l0 limb rest u g:Nat}(d:g=nz (l0+aj*u) (b+aj*t))(h:limb*t+rest=u)(c:0<b+aj*t)(f:g≤limb)(a:aj≤limb∨rest*aj+l0<limb*b):g≤limb - 1∧1≤limb:=by
 rcases a with a | a
 ·have:=pM (l0+aj*u) (b+aj*t)
  have:=aP;omega
 ·have h1:g≤(l0+aj*u) / (b+aj*t):=by rw [d];exact Xf _ _
  have i:(l0+aj*u) / (b+aj*t)<limb:=by
   rw [Zt c,Qm,← h,Qm,Jb limb,Qp aj rest];omega
  omega
theorem Gg {t b l0 limb rest u g:Nat}(h:g=nz (l0+aj*u) (b+aj*t))(k:limb*t+rest=u)(f:0<b+aj*t)(i:g≤limb)(l:u<t*aj+aj)(n:b<aj)
  (a:aj≤rest∨(limb<aj∧limb*b≤rest*aj+l0)):limb=g:=by
 have j:limb<aj:=by
  rcases a with a | a
  ·have h1:limb*t<aj*t:=by rw [Qp aj];omega
   exact Xz h1
  ·exact a.1
 have m:limb*b≤rest*aj+l0:=by
  rcases a with a | a
  ·have c:limb*b≤aj*aj:=JI (by omega) (by omega)
   have d:aj*aj≤rest*aj:=Ja _ a;omega
  ·exact a.2
 have c:limb≤(l0+aj*u) / (b+aj*t):=by
  rw [JD f,Qm,← k,Qm,Jb limb,Qp aj rest];omega
 have d:limb≤g:=by rw [h];exact Nat.le_min.2 ⟨c,by omega⟩
 omega
theorem val_two {bs:List Nat}{k:Nat}(h:bs.length=k+2):val bs=val (bs.take k)+aj^k*(bs[k]?.getD 0+aj*bs[k+1]?.getD 0):=by
 rw [ku bs k (by omega),iP bs (k+1) (by omega),Yz (show bs.length≤k+1+1 by omega)];simp [val]
theorem zJ {xs:List Nat}{k:Nat}(h:k+3≤xs.length):val xs=val (xs.take k)+aj^k*(xs[k]?.getD 0+aj*(xs[k+1]?.getD 0+aj*(xs[k+2]?.getD 0+aj*val (xs.drop (k+3))))):=by
 rw [ku xs k (by omega),iP xs (k+1) (by omega),iP xs (k+2) (by omega)]
theorem oC {xs:List Nat}(h:Limbs xs)(k:Nat)(a:k≤xs.length):val (xs.take k)<aj^k:=by
 have:=fu (iL h k)
 rwa [Jp,JS a] at this
structure uu (L bs:List Nat) (o k:Nat):Prop where
 ll:Limbs L
 lb:Limbs bs
 len:o+k+3≤L.length
 blen:bs.length=k+2
 top:2147483648≤bs[k+1]?.getD 0
 lt:val L<val bs*aj^(o+1)
theorem uu.high {L bs:List Nat}{o k:Nat}(h:uu L bs o k):val (L.drop (o+k+3))=0:=by
 have h1:=zJ h.len;have b:=h.lt;have a:=fu h.lb;rw [h.blen] at a
 rcases Jr (val (L.drop (o+k+3))) with e | e
 ·exact e
 ·exfalso
  have c:val bs*aj^(o+1)<aj^(k+2)*aj^(o+1):=ZX a (Qq aP)
  have d:aj^(k+2)*aj^(o+1)=aj^(o+k)*(aj*(aj*aj)):=by
   rw [← Qt,show k+2+(o+1)=o+k+1+1+1 by omega,Qo,Qo,Qo];simp only [Qn]
  have f:aj^(o+k)*(aj*(aj*aj))≤aj^(o+k)*(L[o+k]?.getD 0+aj*(L[o+k+1]?.getD 0+aj*(L[o+k+2]?.getD 0+aj*val (L.drop (o+k+3))))):=by
   refine Qu _ ?_;unfold aj;omega
  omega
theorem uu.vals {L bs:List Nat}{o k:Nat}(h:uu L bs o k):val L=val (L.take (o+k))+aj^o*aj^k*(L[o+k]?.getD 0+aj*(L[o+k+1]?.getD 0+aj*L[o+k+2]?.getD 0)):=by
 have h1:=zJ h.len;rw [h.high,Jw,Jk,Qt] at h1;exact h1
theorem uu.le_top {L bs:List Nat}{o k:Nat}(h:uu L bs o k):L[o+k+2]?.getD 0≤bs[k+1]?.getD 0:=by
 refine Yw (Zh fun f=>?_);have h1:=h.vals;have g:=h.lt
 have d:val bs<aj^(k+1)*(bs[k+1]?.getD 0+1):=by
  have e:=val_two h.blen;have c:=oC h.lb k (by have:=h.blen;omega);have a:=aK h.lb k;have b:aj^k*(bs[k]?.getD 0+1)≤aj^k*aj:=Qu _ a;rw [Qo,Qn,Qm aj,Qm (aj^k),QZ];rw [Qm (aj^k)] at e b;rw [QZ] at b;omega
 have i:val bs*aj^(o+1)<aj^(k+1)*(bs[k+1]?.getD 0+1)*aj^(o+1):=ZX d (Qq aP)
 have j:aj^(k+1)*(bs[k+1]?.getD 0+1)*aj^(o+1)=aj^o*aj^k*(aj*(aj*(bs[k+1]?.getD 0+1))):=by
  rw [Qo,Qo];generalize aj^k=P;generalize aj^o=R;generalize bs[k+1]?.getD 0+1=t;rw [Qn P aj,Qp (P*(aj*t)),Qn R aj,Jb aj P,Qn R P]
 have l:aj^o*aj^k*(aj*(aj*(bs[k+1]?.getD 0+1)))≤aj^o*aj^k*(L[o+k]?.getD 0+aj*(L[o+k+1]?.getD 0+aj*L[o+k+2]?.getD 0)):=by
  refine Qu _ ?_;have c:aj*(bs[k+1]?.getD 0+1)≤aj*L[o+k+2]?.getD 0:=Qu _ f;have a:aj*(aj*(bs[k+1]?.getD 0+1))≤aj*(L[o+k+1]?.getD 0+aj*L[o+k+2]?.getD 0):=Qu _ (by omega);omega
 omega
def sN (L bs:List Nat)(o k:Nat):Nat:=nz (L[o+k]?.getD 0+aj*(L[o+k+1]?.getD 0+aj*L[o+k+2]?.getD 0)) (bs[k]?.getD 0+aj*bs[k+1]?.getD 0)
def sO (L bs:List Nat)(o:Nat):Nat:=val L / (aj^o*val bs)
theorem uu.pos {L bs:List Nat}{o k:Nat}(h:uu L bs o k):0<aj^o*val bs:=by
 refine ZN (Qq aP) ?_;rw [val_two h.blen];have h1:=h.top;have a:0<aj^k*(bs[k]?.getD 0+aj*bs[k+1]?.getD 0):=ZN (Qq aP) (by unfold aj;omega);omega
theorem uu.NK {L bs:List Nat}{o k:Nat}(h:uu L bs o k):sO L bs o<aj:=by
 refine Za ?_;have:=h.lt;rw [Qo,Qp (val bs),Qn,Qp aj,← Qn] at this;exact this
theorem uu.near {L bs:List Nat}{o k:Nat}(h:uu L bs o k):sO L bs o≤sN L bs o k∧sN L bs o k≤sO L bs o+1:=by
 have h1:=h.vals;have a:=val_two h.blen;have d:=oC h.lb k (by have:=h.blen;omega);have b:=oC h.ll (o+k) (by have:=h.len;omega);have f:=h.top;have c:=h.lt;rw [Qt] at b;unfold sO sN;rw [h1,a];refine DX (Qq aP) (Qq aP) ?_ d b ?_
 ·have:aj*1≤aj*bs[k+1]?.getD 0:=Qu _ (by omega)
  omega
 ·rw [← h1,← a]
  rw [Qo,← Qn,Qp (val bs)] at c;exact c
theorem xL {xs R:List Nat}{m:Nat}(a:∀ j,m≤j→R[j]?=xs[j]?):R.drop m=xs.drop m:=by
 apply List.ext_getElem?;intro i;rw [Yi,Yi];exact a _ (by omega)
theorem Gh {X Y Z D T q g a b:Nat}(d:q≤g)(f:g≤q+1)(h:q*D≤X)(i:X<q*D+D)(j:Y+g*D=X+T*a)(m:a≤1)(k:Y<T)(c:Z+T*b=Y+D)(n:b≤1)(l:Z<T) :
  (a=0→g=q∧Y+q*D=X)∧(a≠0→g=q+1∧Z+q*D=X):=by
 rcases QK q g with hlt | hge
 ·obtain rfl:g=q+1:=by omega
  rw [QH,QD] at j;refine ⟨fun e=>?_,fun e=>⟨rfl,?_⟩⟩
  ·subst e;omega
  ·obtain rfl:a=1:=by omega
   rcases Jr b with e | e
   ·subst e;omega
   ·obtain rfl:b=1:=by omega
    omega
 ·obtain rfl:g=q:=by omega
  refine ⟨fun e=>⟨rfl,?_⟩,fun e=>?_⟩
  ·subst e;omega
  ·obtain rfl:a=1:=by omega
   omega
theorem uu.low {L bs:List Nat}{o k:Nat}(h:uu L bs o k)(R:List Nat)(d:Limbs R)(b:R.length=L.length)(a:R.drop (o+k+3)=L.drop (o+k+3)):val R<aj^(o+k+3):=by
 have c:=val_append (R.take (o+k+3)) (R.drop (o+k+3));rw [ZC,a,h.high,Jw,Jk] at c;rw [c];exact oC d _ (by rw [b];exact h.len)
theorem uu.pairs {L bs:List Nat}{o k:Nat}(h:uu L bs o k)(n:Nat):∀ p ∈ ah bs n,p.2<aj:=fun p a=>by
 obtain ⟨i,_,rfl⟩:=Qw.1 a;exact aK h.lb i
theorem uu.carry {L bs:List Nat}{o k:Nat}(h:uu L bs o k){g:Nat}(a:g<aj):(eO o g L (ah bs (k+3))).2.1=0:=by
 have h1:=(iH (o:=o) a h.ll (ah bs (k+2)) (h.pairs _)).2.1;have b:=h.blen;rw [bL,kz];simp only [sW];rw [Jm (by omega),YQ,Jw,Jk];exact QR h1
theorem uu.tt {L bs:List Nat}{o k:Nat}(h:uu L bs o k){g:Nat}(a:g<aj) :
  val (eO o g L (ah bs (k+3))).1+g*(aj^o*val bs)=val L+aj^(o+k+3)*(eO o g L (ah bs (k+3))).2.2∧val (eO o g L (ah bs (k+3))).1<aj^(o+k+3):=by
 have f:=h.len;have d:=h.blen;have b:=DW (o:=o) a h.ll h.lb (k+3) (by omega);rw [h.carry a,QJ,Qv (show bs.length≤k+3 by omega),Jb (aj^o)] at b;refine ⟨b,h.low _ (iH (o:=o) a h.ll _ (h.pairs _)).1 (jN _ _ _ _) (xL (fun j c=>uP o g L bs (k+3) j c))⟩
theorem uu.ad {L bs:List Nat}{o k:Nat}(h:uu L bs o k){g:Nat}(f:g<aj)(R:List Nat)(a:R=(eO o g L (ah bs (k+3))).1) :
  val (dY o R (ah bs (k+3))).1+aj^(o+k+3)*(dY o R (ah bs (k+3))).2=val R+aj^o*val bs∧(dY o R (ah bs (k+3))).2≤1∧val (dY o R (ah bs (k+3))).1<aj^(o+k+3):=by
 have p:=h.len;have n:=h.blen
 have i:Limbs R:=by rw [a];exact (iH (o:=o) f h.ll _ (h.pairs _)).1
 have m:R.length=L.length:=by rw [a];exact jN _ _ _ _
 have l:R.drop (o+k+3)=L.drop (o+k+3):=by rw [a];exact xL (fun j b=>uP o g L bs (k+3) j b)
 have c:=yc (o:=o) (xs:=R) (ys:=bs) (k+3) (by omega);rw [Qv (show bs.length≤k+3 by omega)] at c;obtain ⟨d,a2⟩:=lC (o:=o) i (ah bs (k+3)) (h.pairs _);exact ⟨c,a2,h.low _ d ((jO _ _ _).trans m) ((xL (fun j b=>AY o R bs (k+3) j b)).trans l)⟩
theorem uu.round {L bs:List Nat}{o k:Nat}(h:uu L bs o k) :
  ((eO o (sN L bs o k) L (ah bs (k+3))).2.2=0→sN L bs o k=sO L bs o∧val (eO o (sN L bs o k) L (ah bs (k+3))).1+aj^o*(sO L bs o*val bs)=val L) ∧
  ((eO o (sN L bs o k) L (ah bs (k+3))).2.2≠0→sN L bs o k=sO L bs o+1∧val (dY o (eO o (sN L bs o k) L (ah bs (k+3))).1 (ah bs (k+3))).1+aj^o*(sO L bs o*val bs)=val L):=by
 have b:sN L bs o k<aj:=pM _ _;have d:=h.near;have f:=h.pos;have c:sO L bs o*(aj^o*val bs)≤val L:=Xd _ _
 have a:val L<(sO L bs o+1)*(aj^o*val bs):=by
  rw [Qp];exact Xe _ f
 rw [QH,QD] at a;obtain ⟨i,j⟩:=h.tt b;obtain ⟨w1,l,m⟩:=h.ad b _ rfl;have g:=(iH (o:=o) b h.ll (ah bs (k+3)) (h.pairs _)).2.2;rw [Jb (aj^o)];exact Gh d.1 d.2 c a i g j w1 l m
theorem uu.next {L bs Q R:List Nat}{o k b:Nat}(h:uu L bs o k)(c:o<Q.length)(d:val L+val bs*(aj^(o+1)*val (Q.drop (o+1)))=b)(g:val R+aj^o*(sO L bs o*val bs)=val L) :
  val R+val bs*(aj^o*val ((Q.set o (sO L bs o)).drop o))=b∧val R<val bs*aj^o:=by
 have f:=h.pos
 have a:val L<(sO L bs o+1)*(aj^o*val bs):=by
  rw [Qp];exact Xe _ f
 generalize sO L bs o=q at *;constructor
 ·rw [iP _ o (by simpa using c),Ym c,JF,List.drop_set_of_lt (by omega)]
  rw [Qo,Qn (aj^o) aj] at d;rw [Qm (aj^o),Qm (val bs)]
  have e:val bs*(aj^o*q)=aj^o*(q*val bs):=by
   rw [Jb,Qp q]
  omega
 ·rw [QH,QD,Jb q] at a
  rw [Qp (val bs)];omega
end Go.Proofs.YtagjhmodblifbaaGreatDoor
namespace Go.Proofs.YtagjhmodblifbaaGreatDoor
open Go.Proofs.Tryz
open Go Go.RowKit Go.Shelf
attribute [local go_sem] Jc
theorem dF.narrow {S:Nat→Prop}{A W:World}(h:dF (fun k=>S k∨A.heap.size≤k) A W):dF S A W:=⟨h.os,h.tape,h.output,h.size,fun k a hs=>h.block k a (by rintro (e | e);exact hs e;omega)⟩
theorem dF.step {S a:Nat→Prop}{A W c:World}(h:dF S A W)(k:dF a W c)(hs:∀ b,a b→S b∨A.heap.size≤b):dF S A c:=dF.narrow ((h.mono fun _ e=>.inl e).trans (k.mono hs))
theorem qV {β:Type}{B:Nat}{S:Nat→Prop}{w:World}(a:w.heap.size≤B):OwnFrom B (fun (_:β) W=>dF S w W):=fun _ _ _ _ h b hr=>dF.grown h b (fun k e=>.inr (Qd a (hr k e).1))
theorem jk (b o n a i:Nat)(hi:i<n)(c:IntKind)(W:World):(Instr.indexAt 22 (.slice (some ⟨b,o,none⟩) n a) (.int c (i:Int))).run prog W=.ok (.pointer (some ⟨b,o+i,none⟩)) W:=nH _ _ aG bZ _ _ _ _ hi ⟨_,_,rfl⟩ _ _
theorem lM (xs:List Nat)(i x:Nat):aF (xs.set i x)=(aF xs).set i (.int .u32 (x:Int)):=by simp [aF]
theorem jw {xs:List Nat}{i:Nat}(h:i<xs.length):(aF xs)[i]?=some (.int .u32 ((xs[i]?.getD 0:Nat):Int)):=by simp [aF,Qs h]
theorem zg (vb:Value)(bs L:List Nat)(g n o s u:Nat)(w:World)(E:af w s 128 (aF L))(hL:Limbs L)(hb:Reads .u32 w vb bs)(a9:Limbs bs)(hn:o+n≤L.length)(ax:n≤200000)
  (sI:∀ a m c,vb=.slice (some a) m c→bs≠[]→a.block<s) (hg:g<aj) :
  Calls prog 263 #[.slice (some ⟨s,o,none⟩) n u,vb,.int .u32 (g:Int)] w fun e w'=>dF (fun k=>k=s) w w'∧af w' s 128 (aF (eO o g L (ah bs n)).1)∧e=.returned (.bool (decide (0<(eO o g L (ah bs n)).2.2))):=by
 have a2:=E.lt;obtain ⟨ab,cb,rfl,ao,aa⟩:=hb.form;unfold maxLen at aa;have a8:=hg;unfold aj at a8;refine (callsIn_wide (n:=9)).1 ?_;refine callsIn_of_wp_marks func263 rfl trivial ?_ rfl;simp only [ntmps263,Je,QE,QG,Nat.reduceAdd,Nat.reduceSub,Jf,Jg,Jh,Ji,QW,QL]
 gi_wp2_with (refine ⟨trivial,?_⟩;gi_at_call 218;refine (callsIn_wide.2 (jH _ _ _ ⟨_,_,_,rfl⟩)).mono ?_;rintro e w' ⟨rfl,rfl⟩)
 have b0:bW w w:=Qj _ _;have b6:=(((((b0.alloc (Qb _) (.cells #[.slice (some ⟨s,o,none⟩) n u] 22)).alloc (by simp) (.cells #[.int .u32 (g:Int)] 128)).alloc (by simp;omega) (.cells #[.int .u64 0] 138)).alloc (by simp;omega) (.cells #[.int .u64 0] 138)).alloc (by simp;omega) (.cells #[.slice ab bs.length cb] 22)).alloc (by simp;omega) (.cells #[vI n] 3)
 refine iE 9 10 (w.heap.size+5) (w.heap.size+4) s n (.slice ab bs.length cb) bs (by exact rfl) a9 (by omega) (by simp) (by simp) (by simp;omega) ?m1 ?m2 (hb.below b6) sI
  (fun j W=>af W s 128 (aF (eO o g L (j.map (·.1))).1)∧Boxed W (w.heap.size+2) 138 (.int .u64 ((eO o g L (j.map (·.1))).2.1:Int))∧Boxed W (w.heap.size+3) 138 (.int .u64 ((eO o g L (j.map (·.1))).2.2:Int)) ∧
   Boxed W (w.heap.size+4) 22 (.slice ab bs.length cb)∧Boxed W w.heap.size 22 (.slice (some ⟨s,o,none⟩) n u)∧Boxed W (w.heap.size+1) 128 (.int .u32 (g:Int))∧dF (fun k=>k=s) w W)
  (fun _ _ _=>False)
  ((jq _ _ _).and ((aB _ _ _).and ((aB _ _ _).and ((aB _ _ _).and ((aB _ _ _).and ((aB _ _ _).and (qV ?mB)))))))
  (fun _ _ _ _ _ h _ _=>h.elim) ?start ?assign ?body ?done ?stop
 case mB=>simp;omega
 case m1=>go_simp
 case m2=>go_simp
 case start =>
  refine ⟨?_,?_,?_,?_,?_,?_,?_⟩
  ·exact (b6.block s a2).trans E
  ·exact Boxed.at ((((Qi _ _ _).alloc _).alloc _).alloc _) (by simp)
  ·exact Boxed.at (((Qi _ _ _).alloc _).alloc _) (by simp)
  ·exact Boxed.at ((Qi _ _ _).alloc _) (by simp)
  ·exact (((((Qi _ _ _).alloc _).alloc _).alloc _).alloc _).alloc _
  ·exact Boxed.at (((((Qi _ _ _).alloc _).alloc _).alloc _).alloc _) (by simp)
  ·exact (dF.uB b6).mono (fun k hk=>hk) |> fun h=>dF.narrow (h.mono fun k hk=>.inr hk)
 case assign =>
  intro l x W K hK
  gi_wp2
  exact hK
 case body =>
  rintro l j x W ⟨F,N,A,G,bl,bg,bw⟩ aw;have az:=bw.size;obtain ⟨⟨i,y⟩,X,I⟩:=x
  have Z:∀ p ∈ j.map (·.1),p.2<aj:=fun p hp=>by
   obtain ⟨q,_,rfl⟩:=Qw.1 hp;exact q.2.2
  obtain ⟨ad,S,a7⟩:=iH (o:=o) hg hL (j.map (·.1)) Z;have hlen:=jN o g L (j.map (·.1));have f:=kz o g L (j.map (·.1)) (i,y)
  have C:(j++[(⟨(i,y),X,I⟩:dA n)]).map (·.1)=j.map (·.1)++[(i,y)]:=by simp
  generalize t:eO o g L (j.map (·.1))=st at *;obtain ⟨r,c,d⟩:=st;simp only [sW] at f;dsimp only at *;clear t Z
  obtain ⟨x,hx⟩:∃ x,r[o+i]?.getD 0=x:=⟨_,rfl⟩
  have J:=aK ad (o+i);rw [hx] at f J
  have a6:W.cell? ⟨s,o+i,none⟩=some (.int .u32 (x:Int)):=by
   rw [F.cell,jw (by omega),hx]
  have au:=F.frozen (o+i)
  obtain ⟨P,hP⟩:∃ P,g*y=P:=⟨_,rfl⟩
  obtain ⟨T,hT⟩:∃ T,c+P=T:=⟨_,rfl⟩
  have a3:T<aj*aj:=by rw [← hT,← hP];exact oF S hg I
  rw [hP,hT] at f
  have hmul:IntKind.u64.wrap ((g:Int)*(y:Int))=(P:Int):=by
   rw [← Jy,hP,Qk];unfold aj at *;omega
  have ay:IntKind.u64.wrap ((c:Int)+(P:Int))=(T:Int):=by rw [Qk];unfold aj at *;omega
  clear hP hT hx
  obtain ⟨H,z⟩:∃ H,T % aj=H:=⟨_,rfl⟩
  obtain ⟨Q,v⟩:∃ Q,T / aj=Q:=⟨_,rfl⟩
  have hand:bits BinOp.and IntKind.u64 (T:Int) 4294967295=(H:Int):=by
   rw [show (4294967295:Int)=((2^32 - 1:Nat):Int) by decide,bits_and_u64_nat _ _ (by unfold aj at *;omega) (by omega),Nat.and_two_pow_sub_one_eq_mod,← z];rfl
  have ap:(T:Int) / 4294967296=(Q:Int):=by rw [← v];unfold aj;omega
  have V:H<4294967296:=by rw [← z];exact Qy _ (by decide)
  have ai:Q<4294967296:=by rw [← v];unfold aj at *;omega
  rw [z,v] at f;clear z v;unfold aj at I J S a3
  obtain ⟨U,hU⟩:∃ U,IntKind.u64.wrap (IntKind.u64.wrap (IntKind.u64.wrap (x:Int) - IntKind.u64.wrap (H:Int)) - (d:Int))=U:=⟨_,rfl⟩
  obtain ⟨a0,a1⟩:=xW J V a7 hU
  have ag:IntKind.u64.wrap (x:Int)=(x:Int):=by rw [Qk];omega
  have ae:IntKind.u64.wrap (H:Int)=(H:Int):=by rw [Qk];omega
  have b1:IntKind.u64.wrap (g:Int)=(g:Int):=by rw [Qk];omega
  have b2:IntKind.u64.wrap (y:Int)=(y:Int):=by rw [Qk];omega
  rw [ag,ae] at hU;have HN:=Qa f;have HM:=Qa C;have HL:=Qa hlen;have HW:=Qa (And.intro a0 a1);clear f C hlen a0 a1;have av:=jk s o n u i X .i64;have al:=N.cell;have aq:=N.frozen;have a4:=A.cell;have ar:=A.frozen;have an:=bl.cell;have am:=bg.cell;simp only [cZ]
  gi_wp2_with fail
  refine gH (.inr ⟨_,rfl⟩) 10 (by kernel_rfl) (by kernel_rfl) ?_;simp only [JA,JB,JC,QN]
  repeat still_step
  refine wpStill_nil ?_;change wpListIn _ _ _ _ _ _ _ (W.setCell _ _).drew
  gi_wp2_with fail
  have O:dF (fun k=>k=s∨k=w.heap.size+2∨k=w.heap.size+3) W _:=(((((dF.refl _ W).setCell (p:=⟨w.heap.size+2,0,none⟩) (.inl (.inr (.inl rfl))) (.int .u64 (T:Int))).drew).setCell (p:=⟨s,o+i,none⟩) (.inl (.inl rfl)) (.int .u32 (IntKind.u32.wrap U))).setCell (p:=⟨w.heap.size+3,0,none⟩) (.inl (.inr (.inr rfl))) (.int .u64 (U / 9223372036854775808))).setCell (p:=⟨w.heap.size+2,0,none⟩) (.inl (.inr (.inl rfl))) (.int .u64 (Q:Int))
  have R:=O.below (B:=s) (by rintro k (e | e | e) <;> omega) (by omega);have f4:=O.boxed G (by omega);refine ⟨O.fH _ ?_,oh.boxed R G f4,?_,?_,?_,f4,O.boxed bl (by omega),O.boxed bg (by omega),bw.step O (by rintro b (e | e | e) <;> omega)⟩
  ·rintro k (rfl | rfl | rfl)
   ·exact F.isCells
   ·exact Boxed.isCells N
   ·exact Boxed.isCells A
  ·rw [HM.out,HN.out,lM,HW.out.1]
   exact af.other (af.other (af.set (af.drew (F.other (by simp;omega) _)) (o+i) _) (by simp;omega) _) (by simp;omega) _
  ·rw [HM.out,HN.out]
   exact QO _ (Boxed.oz (Boxed.oz (Boxed.drew (QO _ N)) (by simp;omega) _) (by simp) _)
  ·rw [HM.out,HN.out,HW.out.2]
   exact Boxed.oz (QO _ (Boxed.oz (Boxed.drew (Boxed.oz A (by simp) _)) (by simp;omega) _)) (by simp) _
 case done =>
  rintro D ys W hD M ⟨F,N,A,G,bl,bg,bw⟩ hK;rw [M] at F A
  have Y:=(iH (o:=o) hg hL (ah bs n) (fun p hp=>by
   obtain ⟨q,_,rfl⟩:=Qw.1 (M ▸ hp)
   exact q.2.2)).2.2
  clear M N
  obtain ⟨st,t⟩:∃ st,eO o g L (ah bs n)=st:=⟨_,rfl⟩
  rw [t] at F A Y;have HS:=Qa t;clear t;obtain ⟨r,c,d⟩:=st;dsimp only at *;have a4:=A.cell
  gi_wp2_with fail
  refine ⟨by simp,.inl ⟨_,_,rfl,run_takeDeferred hK,?_⟩⟩
  have ak:w.heap.size+6≤D:=by simpa using hD
  have a5:=belowK_b (w:=w) (Qb _) W D _ (.deferred none) (by omega) hK rfl rfl;refine ⟨_,results_tmp rfl _ _ _,bw.step (dF.uB a5) (fun b hb=>.inr hb),?_,?_⟩
  ·rw [HS.out]
   exact (QS (by omega)).trans F
  ·rw [HS.out]
   simp
 case stop =>
  rintro D c j W _ _ h _;exact h.elim
end Go.Proofs.YtagjhmodblifbaaGreatDoor
namespace Go.Proofs.YtagjhmodblifbaaGreatDoor
open Go.Proofs.Tryz
open Go Go.RowKit Go.Shelf
attribute [local go_sem] Jc
def Ik (w:World)(O B0:Nat)(L:List Nat)(m:Nat)(c:Code)(ps:List (Nat × Nat))(W:World):Prop :=
 c=.ret∧(∃ pre' p,ps=pre'++[p]∧m≤p.1∧(dY O L pre').2=0∧af W B0 128 (aF (dY O L pre').1))∧dF (fun k=>k=B0) w W
theorem DY (B:Nat){w:World}(b:w.heap.size≤B)(O a:Nat)(L:List Nat)(m:Nat)(c:Code){α:Type}(f:α→List (Nat × Nat)):OwnFrom B (fun s W=>Ik w O a L m c (f s) W) :=
 (ownFrom_pure _ _).and ((iM fun _=>iM fun _=>(ownFrom_pure _ _).and ((ownFrom_pure _ _).and ((ownFrom_pure _ _).and (jq _ _ _)))).and (qV b))
theorem rO (vb:Value)(bs L:List Nat)(la d n o g G:Nat)(w:World)(J:af w g 128 (aF L))(hL:Limbs L)(S:Reads .u32 w vb bs)(a2:Limbs bs)(an:la=d+n)(hn:o+la≤L.length)(b5:la≤200000)
  (sI:∀ a m c,vb=.slice (some a) m c→bs≠[]→a.block<g) :
  Calls prog 249 #[.slice (some ⟨g,o,none⟩) la G,vb,vI d] w fun e w'=>dF (fun k=>k=g) w w'∧af w' g 128 (aF (dY (o+d) L (ah bs n)).1)∧∃ v,e=.returned v:=by
 have ae:=J.lt;obtain ⟨V,X,rfl,ay,ao⟩:=S.form;unfold maxLen at ao
 have ar:(la:Int) - (d:Int)=(n:Int):=by omega
 have aq:d+n≤la:=by omega
 clear an;refine (callsIn_wide (n:=9)).1 ?_;refine callsIn_of_wp_marks func249 rfl trivial ?_ rfl;simp only [ntmps249,Je,QE,QG,Nat.reduceAdd,Nat.reduceSub,Jf,Jg,Jh,Ji,QW,QL]
 gi_wp2_with (refine ⟨trivial,?_⟩;gi_at_call 218;refine (callsIn_wide.2 (jH _ _ _ ⟨_,_,_,rfl⟩)).mono ?_;rintro e w' ⟨rfl,rfl⟩)
 have b0:bW w w:=Qj _ _;have b6:=(((((b0.alloc (Qb _) (.cells #[.slice (some ⟨g,o,none⟩) la G] 22)).alloc (by simp) (.cells #[.slice V bs.length X] 22)).alloc (by simp;omega) (.cells #[vI d] 3)).alloc (by simp;omega) (.cells #[.int .u64 0] 138)).alloc (by simp;omega) (.cells #[.slice V bs.length X] 22)).alloc (by simp;omega) (.cells #[vI n] 3)
 refine iE 7 8 (w.heap.size+5) (w.heap.size+4) g n (.slice V bs.length X) bs (by exact rfl) a2 (by omega) (by simp) (by simp) (by simp;omega) ?m1 ?m2 (S.below b6) sI
  (fun f W=>af W g 128 (aF (dY (o+d) L (f.map (·.1))).1)∧Boxed W (w.heap.size+3) 138 (.int .u64 ((dY (o+d) L (f.map (·.1))).2:Int)) ∧
   Boxed W (w.heap.size+4) 22 (.slice V bs.length X)∧Boxed W w.heap.size 22 (.slice (some ⟨g,o,none⟩) la G)∧Boxed W (w.heap.size+1) 22 (.slice V bs.length X)∧Boxed W (w.heap.size+2) 3 (vI d)∧dF (fun k=>k=g) w W)
  (fun c f W=>Ik w (o+d) g L bs.length c (f.map (·.1)) W)
  ((jq _ _ _).and ((aB _ _ _).and ((aB _ _ _).and ((aB _ _ _).and ((aB _ _ _).and ((aB _ _ _).and (qV ?mB)))))))
  (fun c=>DY _ ?mB2 _ _ _ _ _ _) ?start ?assign ?body ?done ?stop
 case mB=>simp;omega
 case mB2=>simp;omega
 case m1=>go_simp
 case m2=>go_simp
 case start =>
  refine ⟨?_,?_,?_,?_,?_,?_,?_⟩
  ·exact (b6.block g ae).trans J
  ·exact Boxed.at (((Qi _ _ _).alloc _).alloc _) (by simp)
  ·exact Boxed.at ((Qi _ _ _).alloc _) (by simp)
  ·exact (((((Qi _ _ _).alloc _).alloc _).alloc _).alloc _).alloc _
  ·exact Boxed.at (((((Qi _ _ _).alloc _).alloc _).alloc _).alloc _) (by simp)
  ·exact Boxed.at ((((Qi _ _ _).alloc _).alloc _).alloc _) (by simp)
  ·exact (dF.uB b6).mono (fun k hk=>hk) |> fun h=>dF.narrow (h.mono fun k hk=>.inr hk)
 case assign =>
  intro l x W K hK
  gi_wp2
  exact hK
 case body =>
  rintro l f x W ⟨u,F,A,bl,bb,bt,H⟩ b4;have b9:=H.size;obtain ⟨⟨i,y⟩,al,a1⟩:=x
  have a6:∀ p ∈ f.map (·.1),p.2<aj:=fun p hp=>by
   obtain ⟨q,_,rfl⟩:=Qw.1 hp;exact q.2.2
  obtain ⟨a7,ai⟩:=lC (o:=o+d) hL (f.map (·.1)) a6;have hlen:=jO (o+d) L (f.map (·.1));have s:=kH (o+d) L (f.map (·.1)) (i,y)
  have I:(f++[(⟨(i,y),al,a1⟩:dA n)]).map (·.1)=f.map (·.1)++[(i,y)]:=by simp
  obtain ⟨st,R⟩:∃ st,dY (o+d) L (f.map (·.1))=st:=⟨_,rfl⟩
  rw [R] at u F a7 ai hlen s;have HS:=Qa R;clear R a6;obtain ⟨r,c⟩:=st;simp only [sZ] at s;dsimp only at *;have av:=F.cell;have b1:=F.frozen;have aw:=bl.cell;have au:=bb.cell;have ax:=bt.cell;have HN:=Qa s;have U:=Qa I;have HL:=Qa hlen;clear s I hlen
  by_cases a8:bs.length≤i∧c=0
  ·obtain ⟨h1,rfl⟩:=a8
   simp only [cZ]
   gi_wp2_with fail
   refine ⟨KeepsFrom.refl _ _,rfl,⟨f.map (·.1),(i,y),U.out,h1,?_,?_⟩,H⟩
   ·rw [HS.out]
   ·rw [HS.out];exact u
  ·have Q:¬bs.length≤i∨(bs.length≤i∧¬(c:Int)=0):=by omega
   have z:=HN.out;have ad:=HL.out
   obtain ⟨x,hx⟩:∃ x,r[o+d+i]?.getD 0=x:=⟨_,rfl⟩
   have a9:=aK a7 (o+d+i);rw [hx] at z a9
   have ak:W.cell? ⟨g,o+(d+i),none⟩=some (.int .u32 (x:Int)):=by
    rw [u.cell,jw (by omega),← QV,hx]
   have b2:=u.frozen (o+(d+i));have am:=jk g o la G (d+i) (by omega) .i64;rw [ZJ] at am
   have ba:IntKind.i64.wrap ((d:Int)+(i:Int))=(d:Int)+(i:Int):=by rw [Qx];omega
   obtain ⟨T,hT⟩:∃ T,c+(x+y)=T:=⟨_,rfl⟩
   rw [hT] at z;unfold aj at a1 a9
   have b7:IntKind.u64.wrap ((x:Int)+(y:Int))=(x:Int)+(y:Int):=by rw [Qk];omega
   have b8:IntKind.u64.wrap ((c:Int)+((x:Int)+(y:Int)))=(T:Int):=by rw [Qk];omega
   have be:IntKind.u64.wrap (x:Int)=(x:Int):=by rw [Qk];omega
   have bf:IntKind.u64.wrap (y:Int)=(y:Int):=by rw [Qk];omega
   obtain ⟨Z,O⟩:∃ Z,T % aj=Z:=⟨_,rfl⟩
   obtain ⟨Y,N⟩:∃ Y,T / aj=Y:=⟨_,rfl⟩
   have bd:IntKind.u32.wrap (T:Int)=(Z:Int):=by rw [Jj,← O];unfold aj;omega
   have az:(T:Int) / 4294967296=(Y:Int):=by rw [← N];unfold aj;omega
   rw [O,N] at z;clear hT hx O N;have E:=Qa z;clear z ad;simp only [cZ]
   rcases Q with Q | ⟨Q,hgo2⟩
   ·gi_wp2_with fail
    refine gH (.inr ⟨_,rfl⟩) 12 (by kernel_rfl) (by kernel_rfl) ?_;simp only [JA,JB,JC,QN]
    repeat still_step
    refine wpStill_nil ?_;change wpListIn _ _ _ _ _ _ _ W.drew
    gi_wp2_with fail
    have t:dF (fun k=>k=g∨k=w.heap.size+3) W _:=((((dF.refl _ W).drew).setCell (p:=⟨w.heap.size+3,0,none⟩) (.inl (.inr rfl)) (.int .u64 (T:Int))).setCell (p:=⟨g,o+(d+i),none⟩) (.inl (.inl rfl)) (.int .u32 (Z:Int))).setCell (p:=⟨w.heap.size+3,0,none⟩) (.inl (.inr rfl)) (.int .u64 (Y:Int));have C:=t.below (B:=g) (by rintro k (e | e) <;> omega) (by omega)
    have f4:=t.boxed A (by omega);refine ⟨t.fH _ ?_,oh.boxed C A f4,?_,?_,f4,t.boxed bl (by omega),t.boxed bb (by omega),t.boxed bt (by omega),H.step t (by rintro b (e | e) <;> omega)⟩
    ·rintro k (rfl | rfl)
     ·exact u.isCells
     ·exact Boxed.isCells F
    ·rw [U.out,E.out,lM,QV o d i]
     exact af.other (a:=⟨w.heap.size+3,0,none⟩) (af.set (af.other (a:=⟨w.heap.size+3,0,none⟩) (af.drew u) (show g≠w.heap.size+3 by omega) _) (o+(d+i)) _) (show g≠w.heap.size+3 by omega) _
    ·rw [U.out,E.out]
     exact QO _ (Boxed.oz (QO _ (Boxed.drew F)) (by simp;omega) _)
   ·gi_wp2_with fail
    refine gH (.inr ⟨_,rfl⟩) 12 (by kernel_rfl) (by kernel_rfl) ?_;simp only [JA,JB,JC,QN]
    repeat still_step
    refine wpStill_nil ?_;change wpListIn _ _ _ _ _ _ _ W.drew
    gi_wp2_with fail
    have t:dF (fun k=>k=g∨k=w.heap.size+3) W _:=((((dF.refl _ W).drew).setCell (p:=⟨w.heap.size+3,0,none⟩) (.inl (.inr rfl)) (.int .u64 (T:Int))).setCell (p:=⟨g,o+(d+i),none⟩) (.inl (.inl rfl)) (.int .u32 (Z:Int))).setCell (p:=⟨w.heap.size+3,0,none⟩) (.inl (.inr rfl)) (.int .u64 (Y:Int));have C:=t.below (B:=g) (by rintro k (e | e) <;> omega) (by omega)
    have f4:=t.boxed A (by omega);refine ⟨t.fH _ ?_,oh.boxed C A f4,?_,?_,f4,t.boxed bl (by omega),t.boxed bb (by omega),t.boxed bt (by omega),H.step t (by rintro b (e | e) <;> omega)⟩
    ·rintro k (rfl | rfl)
     ·exact u.isCells
     ·exact Boxed.isCells F
    ·rw [U.out,E.out,lM,QV o d i]
     exact af.other (a:=⟨w.heap.size+3,0,none⟩) (af.set (af.other (a:=⟨w.heap.size+3,0,none⟩) (af.drew u) (show g≠w.heap.size+3 by omega) _) (o+(d+i)) _) (show g≠w.heap.size+3 by omega) _
    ·rw [U.out,E.out]
     exact QO _ (Boxed.oz (QO _ (Boxed.drew F)) (by simp;omega) _)
 case done =>
  rintro D ys W hD aa ⟨u,F,A,bl,bb,bt,H⟩ hK;rw [aa] at u;clear aa F
  gi_wp2_with fail
  refine ⟨by simp,.inl ⟨_,_,rfl,run_takeDeferred hK,?_⟩⟩
  have ag:w.heap.size+6≤D:=by simpa using hD
  have M:=belowK_b (w:=w) (Qb _) W D _ (.deferred none) (by omega) hK rfl rfl;refine ⟨_,results_none rfl _ _ _,H.step (dF.uB M) (fun b S=>.inr S),?_,⟨_,rfl⟩⟩;exact (QS (by omega)).trans u
 case stop =>
  rintro D c f W hD a4 ⟨rfl,⟨j,p,a5,a3,a0,u⟩,H⟩ hK
  gi_wp2
  refine ⟨by simp,.inl ⟨_,_,rfl,run_takeDeferred hK,?_⟩⟩
  have ag:w.heap.size+6≤D:=by simpa using hD
  have M:=belowK_b (w:=w) (Qb _) W D _ (.deferred none) (by omega) hK rfl rfl;refine ⟨_,results_none rfl _ _ _,H.step (dF.uB M) (fun b S=>.inr S),?_,⟨_,rfl⟩⟩
  have b3:(f.map (·.1)).length≤n:=by have:=a4.length_le;rwa [bR] at this
  have hlen:(f.map (·.1)).length=j.length+1:=by rw [a5];simp
  have h1:=ZI.1 a4;have h2:=ZI.1 (lX bs (show j.length+1≤n by omega));rw [bR] at h2;rw [hlen,← h2,a5,bL] at h1;obtain ⟨e1,e2⟩:=List.append_inj' h1 rfl
  have e3:p=(j.length,bs[j.length]?.getD 0):=by simpa using e2
  rw [e3] at a3;rw [e1] at a0 u
  have hr:=Cq (o:=o+d) hL a3 a0 (fun p ap=>by
   obtain ⟨i,_,rfl⟩:=Qw.1 ap
   exact aK a2 i) (n - j.length)
  rw [show j.length+(n - j.length)=n by omega] at hr;rw [hr];exact (QS (by omega)).trans u
end Go.Proofs.YtagjhmodblifbaaGreatDoor
namespace Go.Proofs.YtagjhmodblifbaaGreatDoor
open Go.Proofs.Tryz
open Go Go.RowKit Go.Shelf
attribute [local go_sem] Jc
def Ic (t u g:Nat)(s10 s11:Value):Prop:=∃ limb rest:Nat,s10=.int .u64 (limb:Int)∧s11=.int .u64 (rest:Int)∧limb*t+rest=u∧g≤limb∧rest<8589934592∧limb≤8589934592
theorem Gi (vb:Value)(bs L:List Nat)(k n o B s:Nat)(w:World)(c:af w B 128 (aF L))(hL:Limbs L)(V:Reads .u32 w vb bs)(a:Limbs bs)(a6:bs.length=k+2)(hn:n=k+3)(hl:o+k+3≤L.length)(ai:k≤200000)
  (ht:2147483648≤bs[k+1]?.getD 0) (a0:L[o+k+2]?.getD 0≤bs[k+1]?.getD 0) :
  Calls prog 262 #[.slice (some ⟨B,o,none⟩) n s,vb] w fun e w'=>bW w w'∧e=.returned (.int .u32 (sN L bs o k:Int)):=by
 obtain ⟨ab,cb,rfl,ah,a8⟩:=V.form;unfold maxLen at a8;have c1:=V.cell (k+1) (by omega);have c2:=V.cell k (by omega)
 have i1:=fun W=>V.index aG bZ (P:=prog) (k+1) .i64 W (by omega)
 have i2:=fun W=>V.index aG bZ (P:=prog) k .i64 W (by omega)
 have c3:w.cell? ⟨B,o+(k+2),none⟩=some (.int .u32 ((L[o+k+2]?.getD 0:Nat):Int)):=by rw [c.cell,jw (by omega),QV]
 have c4:w.cell? ⟨B,o+(k+1),none⟩=some (.int .u32 ((L[o+k+1]?.getD 0:Nat):Int)):=by rw [c.cell,jw (by omega),QV]
 have c5:w.cell? ⟨B,o+k,none⟩=some (.int .u32 ((L[o+k]?.getD 0:Nat):Int)):=by rw [c.cell,jw (by omega)]
 have i3:=jk B o n s (k+2) (by omega) .i64;have i4:=jk B o n s (k+1) (by omega) .i64;have i5:=jk B o n s k (by omega) .i64;have J:=aK a (k+1);have M:=aK a k;have N:=aK hL (o+k+2);have S:=aK hL (o+k+1);have T:=aK hL (o+k)
 obtain ⟨g,l⟩:∃ g,sN L bs o k=g:=⟨_,rfl⟩
 rw [l];unfold sN at l;have i:=pM (L[o+k]?.getD 0+aj*(L[o+k+1]?.getD 0+aj*L[o+k+2]?.getD 0)) (bs[k]?.getD 0+aj*bs[k+1]?.getD 0);rw [l] at i;generalize bs[k+1]?.getD 0=t at *;generalize bs[k]?.getD 0=b at *;generalize L[o+k+2]?.getD 0=A at *;generalize L[o+k+1]?.getD 0=l1 at *;generalize L[o+k]?.getD 0=l0 at *
 obtain ⟨u,hu⟩:∃ u,l1+aj*A=u:=⟨_,rfl⟩
 rw [hu] at l
 have r:u<t*aj+aj:=by
  rw [← hu,Qp t];have:aj*A≤aj*t:=Qu _ a0;omega
 have O:0<b+aj*t:=by unfold aj;omega
 have z:u<18446744073709551616:=by rw [← hu];unfold aj at *;omega
 have e1:((k+1:Nat):Int)=(bs.length:Int) - 1:=by omega
 have e2:((k:Nat):Int)=(bs.length:Int) - 2:=by omega
 have e3:((k+2:Nat):Int)=(bs.length:Int):=by omega
 rw [e1] at i1 i4;rw [e2] at i2 i5;rw [e3] at i3;clear e1 e2 e3
 have ag:2≤bs.length:=by omega
 have a9:bits BinOp.or IntKind.u64 ((A:Int)*4294967296) (l1:Int)=(u:Int):=by
  have q1:(A:Int)*4294967296=((A*4294967296:Nat):Int):=by omega
  rw [q1,bits_or_u64_nat _ _ (by unfold aj at *;omega) (by unfold aj at *;omega),show A*4294967296=A <<< 32 by rw [JL],← ZW (by unfold aj at *;omega),JL,← hu];unfold aj;omega
 have a2:u / t*t+u % t=u:=by rw [Qp];exact Jq u t
 have a3:g≤u / t:=by
  rw [← l];refine Qd (Xf _ _) ?_;refine (JD (by omega)).2 ?_;have h1:=Xd (l0+aj*u) (b+aj*t);generalize (l0+aj*u) / (b+aj*t)=q at *;rw [Qm,Jb q] at h1
  have h2:aj*(q*t)<aj*(u+1):=by rw [Qm];omega
  have h3:=Xg h2;omega
 have m:u / t≤8589934592:=by
  have:u / t<aj+aj:=by
   refine Za ?_;rw [Qm,Qp t] at *;have:aj*1≤aj*t:=Qu _ (by omega);omega
  unfold aj at this;omega
 have p:u % t<8589934592:=by
  have:=Qy u (show 0<t by omega);unfold aj at J;omega
 have d:Ic t u g (.int .u64 ((u / t:Nat):Int)) (.int .u64 ((u % t:Nat):Int)):=⟨_,_,rfl,rfl,a2,a3,p,m⟩
 have HS:=Qa d;have HG:=Qa (And.intro l.symm (And.intro r O))
 have a5:IntKind.u64.wrap ((A:Int)*4294967296)=(A:Int)*4294967296:=by rw [Qk];unfold aj at N;omega
 have a7:(u:Int) / (t:Int)=((u / t:Nat):Int):=rfl;have X:(u:Int) % (t:Int)=((u % t:Nat):Int):=rfl
 have ak:¬t=0:=by omega
 clear a2 a3 d l r O hu a0 a6 hn hL a c hl;unfold aj at J M N S T i;generalize u / t=Q0 at *;generalize u % t=R0 at *;go_enter func262,ntmps262
 go_wp2_with fail
 go_quiet (fail)
 go_wp2_with fail
 go_quiet (fail)
 go_wp2_with fail
 go_quiet (fail)
 go_wp2_with fail
 go_loopw [10,11] (fun H ae wr=>Ic t u g H ae∧bW w wr) (fun H _ _=>(intOf H).toNat)
 case atStart=>exact ⟨by rw [X];exact HS.out,below_drewN (below_drewN (below_drewN (Qj _ _) _) _) _⟩
 case round =>
  obtain ⟨⟨limb,rest,rfl,rfl,f,Y,y,x⟩,v⟩:=hrel;clear c1 c2 c3 c4 c5 i1 i2 i3 i4 i5 a9 a7 X a5;obtain ⟨l,r,O⟩:=HG.out
  have hstep:g≤limb - 1∧1≤limb→Ic t u g (.int .u64 ((limb - 1:Nat):Int)) (.int .u64 ((rest+t:Nat):Int))∨4294967296≤rest:=fun h=>by
   rcases QK rest 4294967296 with hr | hr
   ·refine .inl ⟨limb - 1,rest+t,rfl,rfl,?_,h.1,by omega,by omega⟩
    rw [← f,Nat.sub_mul,QD];have:1*t≤limb*t:=Ja _ h.2;omega
   ·exact .inr hr
  have C:=fun h=>Gf (t:=t) (b:=b) (l0:=l0) (limb:=limb) (rest:=rest) l f O Y h
  have D:=fun h=>Gg (t:=t) (b:=b) (l0:=l0) (limb:=limb) (rest:=rest) l f O Y r M h
  have I:=Qa (And.intro hstep (And.intro C D));clear hstep C D f l r O
  obtain ⟨rt,a4⟩:∃ rt,rest+t=rt:=⟨_,rfl⟩
  obtain ⟨Q,a1⟩:∃ Q,limb - 1=Q:=⟨_,rfl⟩
  have aa:IntKind.u64.wrap ((rest:Int)+(t:Int))=(rt:Int):=by rw [Qk];omega
  have R:=Qa (And.intro a4 a1);clear a4
  rcases QK rest 4294967296 with hr | hr
  ·rcases QK limb 4294967296 with a | a
   ·obtain ⟨P,hP⟩:∃ P,limb*b=P:=⟨_,rfl⟩
    obtain ⟨Z,hZ⟩:∃ Z,rest*4294967296+l0=Z:=⟨_,rfl⟩
    have U:P<18446744073709551616:=by
     rw [← hP];have:=JI (show limb≤4294967295 by omega) (show b≤4294967295 by omega);omega
    have hmul:IntKind.u64.wrap ((limb:Int)*(b:Int))=(P:Int):=by rw [← Jy,hP,Qk];omega
    have hwr:IntKind.u64.wrap ((rest:Int)*4294967296)=(rest:Int)*4294967296:=by rw [Qk];omega
    have E:bits BinOp.or IntKind.u64 ((rest:Int)*4294967296) (l0:Int)=(Z:Int):=by
     have q1:(rest:Int)*4294967296=((rest*4294967296:Nat):Int):=by omega
     rw [q1,bits_or_u64_nat _ _ (by omega) (by omega),show rest*4294967296=rest <<< 32 by rw [JL],← ZW (by omega),JL,← hZ]
    have HP:=Qa (And.intro hP hZ);clear hP hZ
    rcases QK Z P with hc | hc
    ·have F:=I.out.2.1 (.inr (by rw [HP.out.1,show rest*aj+l0=Z from HP.out.2];exact hc))
     have G:=F.2;have j:=Qa ((I.out.1 F).resolve_right (by omega))
     have ad:IntKind.u64.wrap ((limb:Int) - 1)=(Q:Int):=by rw [Qk];omega
     rw [R.out.1,R.out.2] at j
     have hm:Q<limb:=by omega
     have d1:(rest:Int)<4294967296:=by omega
     have d2:(limb:Int)<4294967296:=by omega
     have d3:(Z:Int)<(P:Int):=by omega
     clear G F J M N S T i z y x hr a U hc ht m p;go_wp2
     go_roundw
     case rel=>exact ⟨j.out,v⟩
     case measure=>simpa [intOf] using hm
    ·have he:=I.out.2.2 (.inr ⟨a,by rw [HP.out.1,show rest*aj+l0=Z from HP.out.2];exact hc⟩)
     subst he
     have d1:(rest:Int)<4294967296:=by omega
     have d2:(limb:Int)<4294967296:=by omega
     have d3:(P:Int)≤(Z:Int):=by omega
     clear a1 aa R J M N S T i z y x hr a U hc ht m p
     iterate 47 (first | go_values | go_skip | go_guarded | go_step | go_upon)
     refine wp_cond_split rfl (fun h=>?_) (fun h=>?_)
     ·exfalso;clear hmul hwr E;revert h;simp;omega
     clear hmul hwr E h;go_wp2;go_ret;exact ⟨v,rfl⟩
   ·have F:=I.out.2.1 (.inl a)
    have G:=F.2;have j:=Qa ((I.out.1 F).resolve_right (by omega))
    have ad:IntKind.u64.wrap ((limb:Int) - 1)=(Q:Int):=by rw [Qk];omega
    rw [R.out.1,R.out.2] at j
    have hm:Q<limb:=by omega
    have d1:(rest:Int)<4294967296:=by omega
    have d2:(4294967296:Int)≤(limb:Int):=by omega
    clear G F J M N S T i z y x hr a ht m p;go_wp2
    go_roundw
    case rel=>exact ⟨j.out,v⟩
    case measure=>simpa [intOf] using hm
  ·have he:=I.out.2.2 (.inl hr)
   subst he
   have d1:decide ((rest:Int)<4294967296)=false:=by simp;omega
   have al:IntKind.u32.wrap (limb:Int)=(limb:Int):=by rw [Jj];omega
   clear J M N S T i z y x hr ht m p;go_wp2;go_ret;exact ⟨v,rfl⟩
end Go.Proofs.YtagjhmodblifbaaGreatDoor
namespace Go.Proofs.YtagjhmodblifbaaGreatDoor
open Go.Proofs.Tryz
theorem IM {a ys:List Nat}{k s:Nat}(c:Canon a)(j:a.length=k+2)(g:Canon ys)(hs:s+Lib.bitLen (a[k+1]?.getD 0)=32)(p:val ys=val a*2^s) :
  ys.length=k+2∧2147483648≤ys[k+1]?.getD 0:=by
 have d:a[k+1]?.getD 0≠0:=by
  have:=iK c (by rintro rfl;simp at j)
  rwa [j,show k+2 - 1=k+1 by omega] at this
 have f:=aK c.1 (k+1);obtain ⟨t,u,l,m⟩:=mF d f;have b:=ku a (k+1) (by omega);rw [Yz (show a.length≤k+1+1 by omega)] at b;have v:=oC c.1 (k+1) (by omega);simp only [val,Jw,Jk] at b;generalize a[k+1]?.getD 0=x at *;generalize val (a.take (k+1))=lo at *
 have q:2^s*2^Lib.bitLen x=4294967296:=by rw [← Qt,hs]
 have r:2^s*2^(Lib.bitLen x - 1)=2147483648:=by rw [← Qt,show s+(Lib.bitLen x - 1)=31 by omega]
 have h1:(lo+aj^(k+1)*x)*2^s<aj^(k+1)*aj:=by
  have:lo+aj^(k+1)*x<aj^(k+1)*2^Lib.bitLen x:=by
   have:aj^(k+1)*(x+1)≤aj^(k+1)*2^Lib.bitLen x:=Qu _ m;rw [Qm,QZ] at this;omega
  have:=ZX this (show 0<2^s from Qq (by omega));rw [Qn,Qp (2^Lib.bitLen x),q] at this;exact this
 have n:aj^(k+1)*2147483648≤(lo+aj^(k+1)*x)*2^s:=by
  rw [← r,Qp (2^s),← Qn];refine Ja _ ?_;have:aj^(k+1)*2^(Lib.bitLen x - 1)≤aj^(k+1)*x:=Qu _ l;omega
 rw [← b,← p] at h1 n;have C:ys.length≤k+2:=aA g (by rw [Qo];exact h1);have B:0<aj^(k+1):=Qq aP
 have D:k+2≤ys.length:=by
  refine ZM fun i=>?_
  have z:=fu g.1;have A:aj^ys.length≤aj^(k+1):=Ql aP (by omega);omega
 refine ⟨by omega,?_⟩;have h:=ku ys (k+1) (by omega);rw [Yz (show ys.length≤k+1+1 by omega)] at h;have y:=oC g.1 (k+1) (by omega);simp only [val,Jw,Jk] at h
 refine ZM fun i=>?_
 have o:aj^(k+1)*(ys[k+1]?.getD 0+1)≤aj^(k+1)*2147483648:=Qu _ i;rw [Qm,QZ] at o;omega
theorem Gj {b a:List Nat}{s V f d:Nat}(ha:Limbs b)(k:Canon a)(c:a≠[])(n:b.length+1=d+a.length)(i:f=val b*2^s)(j:V=val a*2^s):f<V*aj^d:=by
 subst i j;have h1:=fu ha;have h:=jG k c;have l:0<a.length:=Zb.2 c
 have m:aj^b.length≤val a*aj^d:=by
  have:aj^b.length=aj^(a.length - 1)*aj^d:=by rw [← Qt];congr 1;omega
  rw [this];exact Ja _ h
 have g:val b*2^s<val a*aj^d*2^s:=ZX (by omega) (Qq (by omega));rw [Qn,Qp (aj^d),← Qn] at g;exact g
theorem LA {X A B s Q:Nat}(f:X+B*2^s*Q=A*2^s)(a:X<B*2^s)(g:0<B):Q=A / B∧X / 2^s=A % B:=by
 have hs:0<2^s:=Qq (by omega)
 have h1:X=(A - B*Q)*2^s∧B*Q≤A:=by
  have e:B*2^s*Q=B*Q*2^s:=by rw [Qn,Qp (2^s),← Qn]
  rw [e] at f;have b:B*Q≤A:=Nat.le_of_mul_le_mul_right (show B*Q*2^s≤A*2^s by omega) hs;refine ⟨?_,b⟩;rw [Nat.sub_mul];omega
 obtain ⟨h1,b⟩:=h1;rw [h1] at a;have c:A - B*Q<B:=Xz a
 have d:A=(A - B*Q)+B*Q:=by omega
 generalize A - B*Q=r at *;subst d;refine ⟨?_,?_⟩
 ·rw [Zu _ _ g,QR c,QJ]
 ·rw [h1,Nat.mul_div_cancel _ hs,ZA,Jo c]
end Go.Proofs.YtagjhmodblifbaaGreatDoor
namespace Go.Proofs.YtagjhmodblifbaaGreatDoor
open Go.Proofs.Tryz
open Go Go.RowKit Go.Shelf
attribute [local go_sem] Jc
theorem LB {c y part:Nat}(f:c<2^part)(i:y<4294967296)(h:part<32) :
  bits BinOp.or IntKind.u64 (c:Int) (IntKind.u64.wrap (IntKind.u64.wrap (y:Int)*2^part))=((c+y*2^part:Nat):Int):=by
 have d:2^part≤2^31:=Ql (by omega) (by omega);have g:y*2^part≤4294967295*2^31:=JI (by omega) d
 have a:IntKind.u64.wrap (y:Int)=(y:Int):=by rw [Qk];omega
 have b:IntKind.u64.wrap ((y:Int)*2^part)=((y*2^part:Nat):Int):=by
  rw [Qk,show ((y:Int)*2^part)=((y*2^part:Nat):Int) by simp];omega
 rw [a,b,bits_or_u64_nat _ _ (by omega) (by omega),Nat.or_comm,← JL,← ZW f,Zn,JL]
theorem oL (va:Value)(a:List Nat)(n:Nat)(w:World)(ha:Reads .u32 w va a)(G:Limbs a)(na:a.length≤100000)(hn:n≤3200000) :
 CB 251 #[va,vI n] w fun e w'=>∃ v X,e=.returned v∧Reads .u32 w' v X∧Canon X∧val X=val a*2^n:=by
 obtain ⟨S,V,rfl,fA,gy⟩:=ha.form;unfold maxLen at gy
 obtain ⟨whole,a5⟩:∃ q,n / 32=q:=⟨_,rfl⟩
 obtain ⟨part,a1⟩:∃ q,n % 32=q:=⟨_,rfl⟩
 have t:part<32:=by omega
 have ai:whole≤100000:=by omega
 have I:n=32*whole+part:=by omega
 have e1:(n:Int) / 32=(whole:Int):=by omega
 have e2:(n:Int) % 32=(part:Int):=by omega
 have R:=Qa I;clear I a5 a1;obtain ⟨a9,hi,L⟩:=Js.1 fV;simp only [Prod.mk.injEq] at L;obtain ⟨a6,a7,a8⟩:=L;refine (callsIn_wide (n:=9)).1 ?_;refine callsIn_of_wp_marks func251 rfl trivial ?_ rfl;simp only [ntmps251,Je,QE,QG,Nat.reduceAdd,Nat.reduceSub,Jf,Jg,Jh,Ji,QW,QL]
 have a0:∀ w,(Instr.makeSlice 22 (vI whole) (vI ((whole:Int)+(a.length:Int)+1))).run prog w=.ok (.slice (some ⟨w.heap.size,0,none⟩) whole (whole+a.length+1)) (w.alloc (.cells (zeros (whole+a.length+1)) 128)):=fun w=>by
  have:=fw (whole:Int) ((whole:Int)+(a.length:Int)+1) (by omega) (by omega) (by omega) w;rw [this,show ((whole:Int)+(a.length:Int)+1).toNat=whole+a.length+1 by omega];simp
 gi_wp2_with (refine ⟨trivial,?_⟩;gi_at_call 218;refine (callsIn_wide.2 (jH _ _ _ ⟨_,_,_,rfl⟩)).mono ?_;rintro e w' ⟨rfl,rfl⟩)
 clear a0;have r0:=xc (w.alloc (.cells #[vI part] 3)) w.heap.size whole (whole+a.length+1) (by omega) (by simp) (by omega);have r1:=(((r0.alloc (.cells #[.slice (some ⟨w.heap.size+1,0,none⟩) whole (whole+a.length+1)] 22)).alloc (.cells #[.int .u64 0] 138)).alloc (.cells #[.slice S a.length V] 22)).alloc (.cells #[vI ((a.length:Int)+1)] 3)
 rw [show (w.alloc (.cells #[vI part] 3)).heap.size=w.heap.size+1 by simp] at r1;clear r0;have b0:bW w w:=Qj _ _
 refine iE 27 10 (w.heap.size+5) (w.heap.size+4) w.heap.size (a.length+1) (.slice S a.length V) a (by exact rfl) G (by omega) (by simp) (by simp) (by simp;omega) ?m1 ?m2 (ha.below ?m3) ha.lt
  (fun b W=>∃ v,Boxed W (w.heap.size+2) 22 v∧W.ownsRow w.heap.size 128 1 v (whole+b.length) (aF (iJ whole part (b.map (·.1))).1)∧Boxed W (w.heap.size+3) 138 (.int .u64 ((iJ whole part (b.map (·.1))).2:Int)) ∧
   Boxed W (w.heap.size+4) 22 (.slice S a.length V)∧Boxed W w.heap.size 3 (vI part)∧bW w W)
  (fun _ _ _=>False)
  (iM fun v=>(aB _ _ _).and ((mV _ _ _ _ _ _).and ((aB _ _ _).and ((aB _ _ _).and ((aB _ _ _).and (ownFrom_below (Qb _) ?mB))))))
  (fun _ _ _ _ _ h _ _=>h.elim) ?start ?assign ?body ?done ?stop
 case mB=>simp;omega
 case m1=>go_simp
 case m2=>go_simp
 case m3=>exact (((((b0.alloc (Qb _) _).alloc (by simp) _).alloc (by simp;omega) _).alloc (by simp;omega) _).alloc (by simp;omega) _).alloc (by simp;omega) _
 case start =>
  refine ⟨_,?_,by simpa [iJ,aF] using r1,?_,?_,?_,?_⟩
  ·exact Boxed.at ((((Qi _ _ _).alloc _).alloc _).alloc _) (by simp)
  ·exact Boxed.at (((Qi _ _ _).alloc _).alloc _) (by simp)
  ·exact Boxed.at ((Qi _ _ _).alloc _) (by simp)
  ·exact (((((Qi _ _ _).alloc _).alloc _).alloc _).alloc _).alloc _
  ·exact (((((b0.alloc (Qb _) _).alloc (by simp) _).alloc (by simp;omega) _).alloc (by simp;omega) _).alloc (by simp;omega) _).alloc (by simp;omega) _
 case assign =>
  intro l x W K hK
  gi_wp2
  exact hK
 case body =>
  rintro l b x W ⟨v,E,C,z,bs,U,M⟩ ap;have sI:=M.size;obtain ⟨⟨i,y⟩,Z,m⟩:=x
  have J:∀ p ∈ b.map (·.1),p.2<aj:=fun p hp=>by
   obtain ⟨q,_,rfl⟩:=Qw.1 hp;exact q.2.2
  have f:=(qg whole (part:=part) (b.map (·.1)) J).2;have d:=mQ whole part (b.map (·.1)) (i,y)
  have s:(b++[(⟨(i,y),Z,m⟩:dA (a.length+1))]).map (·.1)=b.map (·.1)++[(i,y)]:=by simp
  generalize a4:iJ whole part (b.map (·.1))=st at *;obtain ⟨r,c⟩:=st;simp only [vH] at d;dsimp only at *;clear a4 J;have hm:=BF f m;have Q:=Qa d;have HM:=Qa s;clear d s;unfold aj at m;have al:=z.cell;have an:=z.frozen;have Y:=E.cell;have ao:=E.frozen;have am:=U.cell;have ak:=E.lt;have N:=Qa f;have O:=Qa hm;clear f hm;simp only [cZ]
  gi_wp2_with fail
  refine gH (.inr ⟨_,rfl⟩) 6 (by kernel_rfl) (by kernel_rfl) ?_;simp only [JA,JB,JC,QN]
  repeat still_step
  refine wpStill_nil ?_;change wpListIn _ _ _ _ _ _ _ W.drew;rw [LB N.out m t]
  obtain ⟨T,hT⟩:∃ T,c+y*2^part=T:=⟨_,rfl⟩
  rw [hT] at Q ⊢;clear hT O;have B:=((C.kept (grownBy_setCell' W (w.heap.size+3) (.int .u64 (T:Int))) (.inr (z.not_row (by decide) C).symm)).alloc (.cells #[.int .u32 ((T:Int) % 4294967296)] 128)).drew
  gi_wp2_with (gi_at_builtin;go_loud (refine wpListIn_append_own _ rfl _ _ 22 rfl w.heap.size 128 a9 (.int .u32 0) 1 4 aG hi a6 a7 a8 rfl (by decide) _ _ _ rfl B ⟨W.heap.size,0,none⟩ 1 1 [.int .u32 ((T:Int) % 4294967296)] rfl rfl (mE _ _ _ _ (by simp)) (by simp [Value.oneCell']) (by unfold maxLen;omega) (by omega) (by simp;omega) ?_);intro v' w1 g A _;obtain ⟨g',ab,rfl⟩:=ownsRow_succ g;go_loud (have F:=tC (n0:=w.heap.size) (by omega) (by omega) (by omega) (by omega) sI (by decide) (by decide) E z C ((((dF.refl (fun j=>j=w.heap.size+3) W).setCell (p:=⟨w.heap.size+3,0,none⟩) (.inl rfl) (.int .u64 (T:Int))).alloc (.cells #[.int .u32 ((T:Int) % 4294967296)] 128)).drew) (Boxed.drew (Zp (z.set _) _)) A g);have ad:=F.boxC.cell;have ae:=F.boxR.cell;have af:=F.boxC.frozen;have ag:=F.boxR.frozen)
  obtain ⟨f1,f2,f3,f4,f5,f6⟩:=F.fin (.int .u64 ((T:Int) / 4294967296));have f7:=f6 _ _ _ (.inl (by decide)) (by omega) (by omega) bs;refine ⟨f5 _,oh.boxed f4 bs f7,_,f1,?_,?_,f7,f6 _ _ _ (.inl (by decide)) (by omega) (by omega) U,M.trans f4⟩
  ·rw [HM.out,Q.out,jA,QX]
   have hv:Value.int .u32 ((T % aj:Nat):Int)=.int .u32 ((T:Int) % 4294967296):=congrArg _ (by unfold aj;omega);rw [hv];exact f3
  ·rw [HM.out,Q.out]
   have hv:Value.int .u64 ((T / aj:Nat):Int)=.int .u64 ((T:Int) / 4294967296):=congrArg _ (by unfold aj;omega);rw [hv];exact f2
 case done =>
  rintro D ys W hD o ⟨v,E,C,z,bs,U,M⟩ hK
  have H:=(qg whole (part:=part) (ah a (a.length+1)) (fun p hp=>by
   obtain ⟨q,_,rfl⟩:=Qw.1 (o ▸ hp)
   exact q.2.2)).1
  have u:=Dr (whole:=whole) t G
  have k:ys.length=a.length+1:=by have:=congrArg List.length o;simpa [bR] using this
  rw [o] at C;rw [k] at C;clear o k z;generalize iJ whole part (ah a (a.length+1))=st at *;obtain ⟨r,c⟩:=st;dsimp only at *;have HV:=Qa u;clear u;have Y:=E.cell;have a3:Reads .u32 W v r:=Reads.ou C
  gi_wp2_with (refine ⟨trivial,?_⟩;gi_at_call 188;refine (callsIn_wide.2 (jf _ _ _ a3)).mono ?_;rintro e w' ⟨rfl,v3,rfl,a2⟩)
  refine ⟨by simp,.inl ⟨_,_,rfl,run_takeDeferred hK,?_⟩⟩;refine ⟨_,results_tmp rfl _ _ _,M.trans (belowK_b (w:=w) (Qb _) W D _ _ (by simp at hD;omega) hK rfl rfl),v3,_,rfl,a2.putObj hK rfl _,dL H,?_⟩;rw [dC,HV.out,R.out]
 case stop =>
  rintro D c b W _ _ h _;exact h.elim
end Go.Proofs.YtagjhmodblifbaaGreatDoor
namespace Go.Proofs.YtagjhmodblifbaaGreatDoor
open Go.Proofs.Tryz
open Go Go.RowKit Go.Shelf
attribute [local go_sem] Jc
theorem qy (c:Value)(b:List Nat)(n:Nat)(w:World)(ha:Reads .u32 w c b)(m:n≤3200000)(j:b.length≤n / 32) :
 CB 252 #[c,vI n] w fun e _=>e=.returned vZ:=by
 obtain ⟨d,h,rfl,l,i⟩:=ha.form;unfold maxLen at i
 obtain ⟨whole,a⟩:∃ q,n / 32=q:=⟨_,rfl⟩
 have k:(n:Int) / 32=(whole:Int):=by omega
 rw [a] at j;clear a;have f:bW w w:=Qj _ _;have g:=(f.alloc (Qb _) (.cells #[.slice d b.length h] 22)).alloc (by simp) (.cells #[vI ((n:Int) % 32)] 3);go_enter func252,ntmps252;go_wp2;go_ret;exact ⟨g,rfl⟩
theorem qz (va:Value)(g:List Nat)(n:Nat)(w:World)(ha:Reads .u32 w va g)(a3:Limbs g)(na:g.length≤100000)(hn:n≤3200000)(hw:n / 32<g.length) :
 CB 252 #[va,vI n] w fun e w'=>∃ v cs,e=.returned v∧Reads .u32 w' v cs∧Canon cs∧val cs=val (g.drop (n / 32)) / 2^(n % 32):=by
 obtain ⟨aa,Z,rfl,fA,gy⟩:=ha.form;unfold maxLen at gy
 obtain ⟨whole,u⟩:∃ q,n / 32=q:=⟨_,rfl⟩
 obtain ⟨part,R⟩:∃ q,n % 32=q:=⟨_,rfl⟩
 have O:part<32:=by omega
 have e1:(n:Int) / 32=(whole:Int):=by omega
 have e2:(n:Int) % 32=(part:Int):=by omega
 rw [u] at hw;rw [u,R];clear u R;refine (callsIn_wide (n:=9)).1 ?_;refine callsIn_of_wp_marks func252 rfl trivial ?_ rfl;simp only [ntmps252,Je,QE,QG,Nat.reduceAdd,Nat.reduceSub,Jf,Jg,Jh,Ji,QW,QL]
 obtain ⟨L,hL⟩:∃ L,g.length - whole=L:=⟨_,rfl⟩
 obtain ⟨xs,f⟩:∃ xs,g.drop whole=xs:=⟨_,rfl⟩
 have j:xs.length=L:=by rw [← f,JH];exact hL
 have ab:1≤L:=by omega
 have ad:L≤100000:=by omega
 have J:Z - whole=L+(Z - g.length):=by omega
 obtain ⟨C,hC⟩:∃ C,Z - g.length=C:=⟨_,rfl⟩
 obtain ⟨A,hA⟩:∃ A,Option.map (fun x:Addr=>x.add whole) aa=A:=⟨_,rfl⟩
 have t:Reads .u32 w (.slice A L (L+C)) xs:=by
  have:=ha.part whole g.length (by omega) (Qb _);rw [ZL,f] at this;simp only [sliced] at this;rw [if_neg (by omega),QZ,hA,hL,J,hC] at this;exact this
 have z:Limbs xs:=by rw [← f];intro x hx;exact a3 x (Xh hx)
 rw [hC] at J;rw [f]
 have a4:∀ w,(Instr.makeSlice 22 (vI L) (vI L)).run prog w=.ok (.slice (some ⟨w.heap.size,0,none⟩) L L) (w.alloc (.cells (zeros L) 128)):=fun w=>by
  simpa using fw (L:Int) (L:Int) (by omega) (by omega) (by omega) w
 obtain ⟨F,s⟩:∃ F,(if L+C=1 then A else Option.map (fun x:Addr=>x.add 1) A)=F:=⟨_,rfl⟩
 have a7:∀ W,(Instr.slice 22 (.slice A L (L+C)) (some (vI 1)) none none).run prog W=.ok (.slice F (L - 1) (L+C - 1)) W:=fun W=>by
  rw [← s]
  go_simp
  intro h;omega
 have S:Reads .u32 w (.slice F (L - 1) (L+C - 1)) xs.tail:=by
  have:=t.part 1 L (by omega) (by omega);rw [← j,ZL,List.drop_one,j] at this;simp only [sliced,QZ] at this;rw [s] at this;exact this
 clear f hC s
 gi_wp2_with fail
 clear a4;refine gH (.inl rfl) 4 (by kernel_rfl) (by kernel_rfl) ?_;simp only [JA,JB,JC,QN]
 repeat still_step
 refine wpStill_nil ?_
 gi_wp2_with (refine ⟨trivial,?_⟩;gi_at_call 218;refine (callsIn_wide.2 (jH _ _ _ ⟨_,_,_,rfl⟩)).mono ?_;rintro e w' ⟨rfl,rfl⟩)
 clear a7;have b0:bW w w:=Qj _ _
 refine iE 8 9 (w.heap.size+5) (w.heap.size+4) w.heap.size L (.slice F (L - 1) (L+C - 1)) xs.tail (by exact rfl) (fun x hx=>z x (List.mem_of_mem_tail hx)) (by omega) (by simp) (by simp) (by simp;omega) ?m1 ?m2 (S.below ?m3) S.lt
  (fun a W=>Boxed W (w.heap.size+3) 22 (.slice (some ⟨w.heap.size+2,0,none⟩) L L)∧af W (w.heap.size+2) 128 (aF (jT xs part (a.map (·.1)))) ∧
   Boxed W (w.heap.size+4) 22 (.slice F (L - 1) (L+C - 1))∧Boxed W w.heap.size 22 (.slice A L (L+C))∧Boxed W (w.heap.size+1) 3 (vI part)∧bW w W)
  (fun _ _ _=>False)
  ((aB _ _ _).and ((jq _ _ _).and ((aB _ _ _).and ((aB _ _ _).and ((aB _ _ _).and (ownFrom_below (Qb _) ?mB))))))
  (fun _ _ _ _ _ h _ _=>h.elim) ?start ?assign ?body ?done ?stop
 case mB=>simp;omega
 case m1=>go_simp
 case m2=>go_simp
 case m3=>exact (((((((b0.alloc (Qb _) _).alloc (by simp) _).alloc (by simp;omega) _).alloc (by simp;omega) _).drew).alloc (by simp;omega) _).alloc (by simp;omega) _)
 case start =>
  refine ⟨?_,?_,?_,?_,?_,?_⟩
  ·exact Boxed.at (((Boxed.drew (Qi _ _ _)).alloc _).alloc _) (by simp)
  ·have e:aF (jT xs part (([]:List (dA L)).map (·.1)))=(zeros L).toList:=by simp [jT,aF,zeros,j]
   rw [e];exact af.at (((af.drew ((af.new _ _ _).alloc _)).alloc _).alloc _) (by simp)
  ·exact Boxed.at ((Qi _ _ _).alloc _) (by simp)
  ·exact ((Boxed.drew ((((Qi _ _ _).alloc _).alloc _).alloc _)).alloc _).alloc _
  ·exact Boxed.at (((Boxed.drew (((Qi _ _ _).alloc _).alloc _)).alloc _).alloc _) (by simp)
  ·exact (((((((b0.alloc (Qb _) _).alloc (by simp) _).alloc (by simp;omega) _).alloc (by simp;omega) _).drew).alloc (by simp;omega) _).alloc (by simp;omega) _)
 case assign =>
  intro l x W K hK
  gi_wp2
  exact hK
 case body =>
  rintro l a x W ⟨V,E,bs,X,Y,H⟩ am;have sI:=H.size;obtain ⟨⟨i,y⟩,a2,M⟩:=x;have hlen:=sw xs part (a.map (·.1));have b:=wI xs part (a.map (·.1)) (i,y)
  have o:(a++[(⟨(i,y),a2,M⟩:dA L)]).map (·.1)=a.map (·.1)++[(i,y)]:=by simp
  have hd:=aK z i;have a1:=(t.below H).cell i (by omega);have al:=t.index aG bZ i .i64;generalize a8:jT xs part (a.map (·.1))=r at *;simp only [xE,Ak] at b;dsimp only at *;generalize xs[i]?.getD 0=x at *;clear a8;have HN:=Qa b;have HM:=Qa o;have HL:=Qa hlen;clear b o hlen;unfold aj at M hd
  obtain ⟨T,hT⟩:∃ T,y*aj+x=T:=⟨_,rfl⟩
  have aq:IntKind.u64.wrap (y:Int)=(y:Int):=by rw [Qk];omega
  have ap:IntKind.u64.wrap (x:Int)=(x:Int):=by rw [Qk];omega
  have ao:IntKind.u64.wrap ((y:Int)*4294967296)=(y:Int)*4294967296:=by rw [Qk];omega
  have an:bits BinOp.or IntKind.u64 ((y:Int)*4294967296) (x:Int)=(T:Int):=by
   have e1:(y:Int)*4294967296=((y*4294967296:Nat):Int):=by omega
   rw [e1,bits_or_u64_nat _ _ (by omega) (by omega),show y*4294967296=y <<< 32 by rw [JL],← ZW (by omega),JL,← hT];rfl
  obtain ⟨Q,hQ⟩:∃ Q,T / 2^part=Q:=⟨_,rfl⟩
  have hq:(T:Int) / 2^part=(Q:Int):=by rw [← hQ];simp
  have I:FK part x y=Q % aj:=by rw [FK,hT,hQ]
  rw [I] at HN;clear I hQ hT
  have ai:W.cell? ⟨w.heap.size+2,i,none⟩=some (.int .u32 ((r[i]?.getD 0:Nat):Int)):=by
   rw [E.cell];have:=HL.out;simp [aF,Qs (show i<r.length by omega)]
  have ak:=E.frozen i;have a0:=V.cell;have ae:=X.cell;have ag:=Y.cell;simp only [cZ]
  gi_wp2_with fail
  refine gH (.inr ⟨_,rfl⟩) 15 (by kernel_rfl) (by kernel_rfl) ?_;simp only [JA,JB,JC,QN]
  repeat still_step
  refine wpStill_nil ?_;change wpListIn _ _ _ _ _ _ _ W.drew
  gi_wp2_with fail
  have a9:IntKind.u32.wrap (Q:Int)=((Q % aj:Nat):Int):=by rw [Jj];unfold aj;omega
  rw [a9];have G:dF (fun k=>k=w.heap.size+2) W ((W.drew).setCell ⟨w.heap.size+2,i,none⟩ (.int .u32 ((Q % aj:Nat):Int))):=(dF.refl (fun k=>k=w.heap.size+2) W).drew.setCell (p:=⟨w.heap.size+2,i,none⟩) (.inl rfl) _;have m:=G.below (B:=w.heap.size) (by intro k e;omega) sI;have f4:=G.boxed bs (by omega)
  refine ⟨G.fH _ ?_,oh.boxed m bs f4,G.boxed V (by omega),?_,f4,G.boxed X (by omega),G.boxed Y (by omega),H.trans m⟩
  ·rintro k rfl
   exact E.isCells
  ·rw [HM.out,HN.out]
   have e:aF (r.set i (Q % aj))=(aF r).set i (.int .u32 ((Q % aj:Nat):Int)):=by simp [aF]
   rw [e];exact af.set (af.drew E) i _
 case done =>
  rintro D ys W hD U ⟨V,E,bs,X,Y,H⟩ hK;have N:=AQ xs part (ah xs.tail L);have d:=DR O z;have hlen:=sw xs part (ah xs.tail L);rw [j] at d;rw [U] at E;clear U;generalize jT xs part (ah xs.tail L)=r at *;have a6:Reads .u32 W (.slice (some ⟨w.heap.size+2,0,none⟩) L L) r:=af.reads E _ _ (by omega) (Qb _) (by unfold maxLen;omega);have HV:=Qa d;have HL:=Qa hlen
  clear d hlen;have a0:=V.cell
  gi_wp2_with (refine ⟨trivial,?_⟩;gi_at_call 188;refine (callsIn_wide.2 (jf _ _ _ a6)).mono ?_;rintro e w' ⟨rfl,v3,rfl,a5⟩)
  refine ⟨by simp,.inl ⟨_,_,rfl,run_takeDeferred hK,?_⟩⟩;refine ⟨_,results_tmp rfl _ _ _,H.trans (belowK_b (w:=w) (Qb _) W D _ _ (by simp at hD;omega) hK rfl rfl),v3,_,rfl,a5.putObj hK rfl _,dL N,?_⟩;rw [dC,HV.out]
 case stop =>
  rintro D c a W _ _ h _;exact h.elim
end Go.Proofs.YtagjhmodblifbaaGreatDoor
