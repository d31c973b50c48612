/- proved lemmas -/
import Derived.Test.YtagjhmodblifbaaGreatDoorMA
import Derived.Test.YtagjhmodblifbaaGreatDoorB03
import Derived.Lib.ItoaNum
import Derived.Test.YtagjhmodblifbaaGreatDoorB00
import Derived.Test.YtagjhmodblifbaaGreatDoorB02
import Derived.WalkLawsBesides
import Derived.Outline
import Derived.Lib.Hide
import Derived.IntWalk
import Derived.Test.YtagjhmodblifbaaGreatDoorProg
import Derived.WalkKit
import Derived.WalkSpells
import Derived.RegionTactic
import Derived.ChangeAlike
import Derived.Laws.OwnMore
import Derived.Test.YtagjhmodblifbaaGreatDoorB01
import Derived.Deep.DeepFit
set_option maxHeartbeats 4000000
set_option maxRecDepth 100000
set_option exponentiation.threshold 100000
namespace Go.Proofs.YtagjhmodblifbaaGreatDoor
open Go.Proofs.Tryz
open Go Go.RowKit Go.Shelf
theorem NJ (x r:Nat):∀ n,(n+1)*r*x^n≤n*x^(n+1)+r^(n+1):=by
 intro n
 induction n with
 | zero=>simp
 | succ n f =>
  have h1:(n+1)*r*x^n*x≤(n*x^(n+1)+r^(n+1))*x:=Ja x f
  have g:x^(n+1)*r+r^(n+1)*x≤x^(n+1)*x+r^(n+1)*r:=by
   rcases Nat.le_total x r with hxr | hxr
   ·have a:x^(n+1)≤r^(n+1):=QU hxr _
    obtain ⟨d,rfl⟩:=Yl hxr;have:=Ja d a;simp only [Qm];omega
   ·have a:r^(n+1)≤x^(n+1):=QU hxr _
    obtain ⟨d,rfl⟩:=Yl hxr;have:=Ja d a;simp only [Qm];omega
  have b:(n+1+1)*r*x^(n+1)=(n+1)*r*x^n*x+x^(n+1)*r:=by
   rw [Qo x n];generalize x^n=X;rw [Qn (n+1+1),Qn ((n+1)*r),Qn (n+1),Qp (X*x) r,QH (n+1) 1,QD]
  have c:(n+1)*x^(n+1+1)+r^(n+1+1)=n*x^(n+1)*x+x^(n+1)*x+r^(n+1)*r:=by
   rw [Qo x (n+1),Qo r (n+1),QH,QD,Qn n]
  rw [b,c];rw [QH (n*x^(n+1))] at h1;omega
theorem zF {A x n r:Nat}(g:0<x)(d:0<n)(hr:r^n≤A):r≤((n - 1)*x+A / x^(n - 1)) / n:=by
 obtain ⟨m,rfl⟩:∃ m,n=m+1:=⟨n - 1,by omega⟩
 simp only [ZK];rw [JD d];have f:0<x^m:=Qq g;have h:=NJ x r m
 by_cases c:r*(m+1)≤m*x
 ·exact Qd c (Yv _ _)
 ·have:r*(m+1) - m*x≤A / x^m:=by
   rw [JD f,Nat.sub_mul]
   have a:r*(m+1)*x^m=(m+1)*r*x^m:=by rw [Qp r]
   have b:m*x*x^m=m*x^(m+1):=by rw [Qo,Qn,Qp x]
   rw [a,b];omega
  omega
theorem Cj {A x n:Nat}(d:0<x)(b:0<n)(a:x≤((n - 1)*x+A / x^(n - 1)) / n):x^n≤A:=by
 obtain ⟨m,rfl⟩:∃ m,n=m+1:=⟨n - 1,by omega⟩
 simp only [ZK] at a;rw [JD b] at a;have c:0<x^m:=Qq d
 have h1:x≤A / x^m:=by
  rw [Qm,QZ,Qp x m] at a;omega
 rw [JD c] at h1;rw [Qo,Qp];exact h1
def fD (A n r:Nat):Prop:=r^n≤A∧A<(r+1)^n
theorem FY {A n r s:Nat}(h:fD A n r)(hs:s^n≤A):s≤r:=by
 apply Yw
 exact Zh fun a=>by
  have b:(r+1)^n≤s^n:=QU a n;have:=h.2;omega
theorem FZ {A n x:Nat}(h1:x^n≤A)(a:∀ r,r^n≤A→r≤x):fD A n x:=by
 refine ⟨h1,Zh fun b=>?_⟩;have:=a _ b;omega
theorem DL {A n half s:Nat}(hs:fD (A / 2^(n*half)) n s):A<((s+1)*2^half)^n:=by
 have h:=hs.2;rw [Nat.mul_pow,← Jz,Qp half n];have a:0<2^(n*half):=Qq (by decide)
 rwa [Zt a] at h
theorem DN {A n half s:Nat}(hs:fD (A / 2^(n*half)) n s)(h1:1≤s):((s+1)*2^half)^n≤2^n*A:=by
 have h:=hs.1;have a:0<2^(n*half):=Qq (by decide);rw [JD a] at h
 calc ((s+1)*2^half)^n≤(2*s*2^half)^n:=QU (Ja _ (by omega)) _
  _=2^n*(s^n*2^(n*half)):=by rw [Nat.mul_pow,Nat.mul_pow,← Jz,Qp half n,Qn]
  _≤2^n*A:=Qu _ h
def FK (part x next:Nat):Nat:=((next*aj+x) / 2^part) % aj
def Ak (xs:List Nat)(part i next:Nat):Nat:=FK part (xs[i]?.getD 0) next
def xE (xs:List Nat)(part:Nat)(st:List Nat)(p:Nat × Nat):List Nat:=st.set p.1 (Ak xs part p.1 p.2)
def jT (xs:List Nat)(part:Nat)(ps:List (Nat × Nat)):List Nat:=ps.foldl (xE xs part) (List.replicate xs.length 0)
theorem wI (xs:List Nat)(part:Nat)(ps:List (Nat × Nat))(p:Nat × Nat):jT xs part (ps++[p])=xE xs part (jT xs part ps) p:=by
 simp [jT,List.foldl_append]
theorem sw (xs:List Nat)(part:Nat)(ps:List (Nat × Nat)):(jT xs part ps).length=xs.length:=by
 unfold jT;generalize b:List.replicate xs.length 0=z
 have a:z.length=xs.length:=by rw [← b];simp
 clear b
 induction ps generalizing z with
 | nil=>simpa using a
 | cons p ps c=>exact c _ (by simp [xE,a])
theorem AQ (xs:List Nat)(part:Nat)(ps:List (Nat × Nat)):Limbs (jT xs part ps):=by
 unfold jT;generalize b:List.replicate xs.length 0=z
 have a:Limbs z:=by rw [← b];exact jB _
 clear b
 induction ps generalizing z with
 | nil=>exact a
 | cons p ps c=>exact c _ (kr a _ (Qy _ aP))
def mapNext (g:Nat→Nat→Nat):List Nat→List Nat
 | []=>[]
 | x::rest=>g x (rest[0]?.getD 0)::mapNext g rest
theorem xY (g:Nat→Nat→Nat):∀ xs:List Nat,mapNext g xs=(List.range xs.length).map (fun i=>g (xs[i]?.getD 0) (xs.tail[i]?.getD 0))
 | []=>rfl
 | x::rest=>by
  rw [mapNext,xY g rest,QE,List.range_succ_eq_map,List.map_cons,List.map_map];refine List.cons_eq_cons.2 ⟨by simp only [List.tail_cons,Qc,JF],?_⟩;apply List.map_congr_left;intro i _;simp only [Function.comp,List.tail_cons,Qe,Nat.succ_eq_add_one,List.getElem?_tail]
theorem Ck (xs:List Nat)(part:Nat):∀ k,k≤xs.length→jT xs part (ah xs.tail k)=(List.range k).map (fun i=>Ak xs part i (xs.tail[i]?.getD 0))++List.replicate (xs.length - k) 0:=by
 intro k
 induction k with
 | zero=>intro _;simp [jT,ah]
 | succ k c =>
  intro d;rw [bL,wI,c (by omega),xE,Yk,JJ]
  obtain ⟨m,b⟩:∃ m,xs.length - k=m+1:=⟨xs.length - k - 1,by omega⟩
  have a:xs.length - (k+1)=m:=by omega
  rw [b,a,List.set_append_right _ _ (by simp),Zz];simp
theorem IB {x V p:Nat}(n:x<aj)(l:p<32):(x+aj*V) / 2^p=((V % aj*aj+x) / 2^p) % aj+aj*(V / 2^p):=by
 have b:0<2^p:=Qq (by decide);have d:=Jq V (2^p);have f:=Qy V b;generalize m:V / 2^p=q at *;generalize hr:V % 2^p=r at *
 have g:x+aj*V=(x+aj*r)+2^p*(aj*q):=by
  rw [← d,Qm,Jb];omega
 have i:(x+aj*r) / 2^p<aj:=by
  rw [Zt b];have h1:aj*(r+1)≤aj*2^p:=Qu _ f;rw [Qm] at h1;omega
 obtain ⟨c,j⟩:∃ c,aj=2^p*c:=⟨2^(32 - p),by rw [← Qt,show p+(32 - p)=32 by omega];rfl⟩
 have k:V % aj % 2^p=r:=by rw [← hr,j,Nat.mod_mul_right_mod]
 have a:=Jq (V % aj) (2^p);rw [k] at a;generalize V % aj / 2^p=s at a
 have h:V % aj*aj+x=(x+aj*r)+2^p*(aj*s):=by
  rw [← a,Qp (2^p*s+r),Qm,Jb];omega
 rw [g,h,Zu _ _ b,Zu _ _ b,ZA,Jo i]
theorem val_mod (xs:List Nat)(h:Limbs xs):val xs % aj=xs[0]?.getD 0:=by
 cases xs with
 | nil=>rfl
 | cons x rest=>simp only [val,Qc,JF];rw [ZA,Jo (h x (by simp))]
theorem Fb {part:Nat}(a:part<32):∀ xs:List Nat,Limbs xs→val (mapNext (FK part) xs)=val xs / 2^part
 | [],_=>by simp [mapNext,val]
 | x::rest,h=>by
  have hr:Limbs rest:=fun y b=>h y (by simp [b])
  rw [mapNext,val,val,FK,IB (h x (by simp)) a,val_mod rest hr,Fb a rest hr]
theorem DR {part:Nat}(a:part<32){xs:List Nat}(h:Limbs xs):val (jT xs part (ah xs.tail xs.length))=val xs / 2^part:=by
 rw [Ck xs part _ (Qb _),Yn,List.replicate_zero,List.append_nil,show (fun i=>Ak xs part i (xs.tail[i]?.getD 0))=fun i=>FK part (xs[i]?.getD 0) (xs.tail[i]?.getD 0) from rfl,← xY,Fb a _ h]
theorem mF {x:Nat}(h0:x≠0)(h:x<aj):1≤Lib.bitLen x∧Lib.bitLen x≤32∧2^(Lib.bitLen x - 1)≤x∧x<2^Lib.bitLen x:=by
 have h1:x<2^32:=h;obtain ⟨a,b,c⟩:=Lib.bitLenAux_bounds 64 x (Qf h1 (by decide)) h0;exact ⟨a,Lib.bitLen_le x 32 (by decide) h1,b,c⟩
theorem jM {xs:List Nat}(b:Canon xs)(g:xs≠[]):1≤bitsOf xs∧2^(bitsOf xs - 1)≤val xs∧val xs<2^bitsOf xs:=by
 have m:0<xs.length:=Zb.2 g;have a:=iK b g;have c:=aK b.1 (xs.length - 1);obtain ⟨k,l,h,i⟩:=mF a c
 have f:val xs=val (xs.take (xs.length - 1))+aj^(xs.length - 1)*xs[xs.length - 1]?.getD 0:=by
  have:=eP xs (xs.length - 1)
  rwa [show xs.length - 1+1=xs.length by omega,ZL] at this
 have d:val (xs.take (xs.length - 1))<aj^(xs.length - 1):=by
  have:=fu (iL b.1 (xs.length - 1))
  rwa [Jp,show min (xs.length - 1) xs.length=xs.length - 1 by omega] at this
 have j:bitsOf xs=32*(xs.length - 1)+Lib.bitLen (xs[xs.length - 1]?.getD 0):=by rw [bitsOf,if_neg (by omega)]
 rw [j];generalize Lib.bitLen (xs[xs.length - 1]?.getD 0)=L at *;generalize xs[xs.length - 1]?.getD 0=t at *;generalize val (xs.take (xs.length - 1))=v at *;generalize xs.length - 1=n at *;refine ⟨by omega,?_,?_⟩
 ·rw [show 32*n+L - 1=32*n+(L - 1) by omega,Qt,← gX,f]
  have:=Qu (aj^n) h;omega
 ·rw [Qt,← gX,f]
  have h1:aj^n*(t+1)≤aj^n*2^L:=Qu _ i;rw [Qm] at h1;omega
theorem Lv (l:Value)(xs:List Nat)(i s:Nat)(n:Int)(o:n / 32=(i:Int))(p:n % 32=(s:Int))(f:0≤n)(E:n<3200000)(hs:s<32)(hi:i<xs.length)(w:World)(ha:Reads .u32 w l xs)(t:Limbs xs) :
  Calls prog 189 #[l,vI n] w fun e u=>(∃ nq,u=w.drewN nq)∧e=.returned (.int .u32 ((xs[i]?.getD 0 / 2^s % 2:Nat):Int)):=by
 obtain ⟨z,B,rfl,h,D⟩:=ha.form
 have F:=fun W=>ha.index aG bZ (P:=prog) i .i64 W hi
 have C:=ha.cell i hi
 have j:xs[i]?.getD 0<4294967296:=by
  rw [Qs hi];exact t _ (by simp)
 generalize xs[i]?.getD 0=x at *
 have G:IntKind.i64.wrap (n.tdiv 32)=(i:Int):=by
  rw [Yx f,o]
  have:(i:Int)<3200000:=by omega
  simp [IntKind.wrap,IntKind.bits,IntKind.signed];omega
 have H:n.tmod 32=(s:Int):=by rw [Zv f,p]
 have b:2^s<2^32:=JV (by decide) hs;have g:0<2^s:=Qq (by decide)
 have a:((2:Int)^s)=((2^s:Nat):Int):=by simp
 have I:IntKind.u32.wrap ((2:Int)^s)=((2^s:Nat):Int):=by
  rw [a];generalize 2^s=P at *;simp [IntKind.wrap,IntKind.bits,IntKind.signed];omega
 clear a;generalize 2^s=P at *
 have A:¬((P:Int)=0):=by omega
 have q:((P:Int) == 0)=false:=by simp;omega
 have c:x / P≤x:=Jv _ _
 have J:IntKind.u32.wrap ((x:Int).tdiv (P:Int))=((x / P:Nat):Int):=by
  rw [Yx (by omega),← YZ];generalize x / P=d at *;simp [IntKind.wrap,IntKind.bits,IntKind.signed];omega
 have k:(x:Int) / (P:Int) % 4294967296 % 2=((x / P % 2:Nat):Int):=by
  rw [← YZ];generalize x / P=d at *;omega
 have m:=Qa k;clear k;generalize x / P=d at *
 have L:(d:Int).tmod 2=((d % 2:Nat):Int):=by rw [Zv (by omega)];omega
 generalize d % 2=r at *;have y:=Qa (And.intro c (And.intro b g));clear c b g;have v:=Qa j;clear j;go_enter func189,ntmps189
 go_wp2_with fail
 go_quiet (fail)
 go_wp2;go_ret;exact ⟨⟨nq,rfl⟩,by rw [← m.out];rfl⟩
theorem mW {W:World}{v:Value}{xs:List Nat}(h:Reads .u32 W v xs)(n:Nat):Reads .u32 (W.drewN n) v xs:=h.below (below_drewN (Qj _ _) n)
theorem pg (c:Value)(xs:List Nat)(i:Nat)(w:World)(ha:Reads .u32 w c xs)(f:Limbs xs) :
  Calls prog 175 #[c,vI i] w fun e g=>w=g∧e=.returned (.int .u64 ((xs[i]?.getD 0:Nat):Int)):=by
 obtain ⟨j,k,rfl,a,m⟩:=ha.form
 by_cases h:i<xs.length
 ·have d:decide ((i:Int)<(xs.length:Int))=true:=by simp <;> omega
  have o:=fun W=>ha.index aG bZ (P:=prog) i .i64 W h
  have l:=ha.cell i h;have b:=aK f i;generalize xs[i]?.getD 0=x at *
  have n:IntKind.u64.wrap (x:Int)=x:=by
   unfold aj at b;simp [IntKind.wrap,IntKind.bits,IntKind.signed];omega
  clear b;go_enter func175,ntmps175;go_wp2;go_ret;exact ⟨rfl,rfl⟩
 ·have d:decide ((i:Int)<(xs.length:Int))=false:=by simp <;> omega
  rw [Jm (by omega)];go_enter func175,ntmps175;go_wp2;go_ret;exact ⟨rfl,rfl⟩
theorem kv {W:World}{b:Nat}{t:TypeId}{a:List Value}(h:af W b t a)(n:Nat):af (W.drewN n) b t a:=h.below (below_drewN (Qj _ _) n)
end Go.Proofs.YtagjhmodblifbaaGreatDoor
namespace Go.Proofs.YtagjhmodblifbaaGreatDoor
open Go.Proofs.Tryz
def digs (b:Nat):Nat→Nat→List Nat
 | 0,_=>[]
 | n+1,A=>A % b::digs b n (A / b)
theorem wJ (b n A:Nat):(digs b n A).length=n:=by
 induction n generalizing A with
 | zero=>rfl
 | succ n a=>simp [digs,a]
theorem uH (b n m A:Nat):digs b (n+m) A=digs b n A++digs b m (A / b^n):=by
 induction n generalizing A with
 | zero=>simp [digs]
 | succ n a =>
  rw [show n+1+m=(n+m)+1 by omega];simp only [digs,QL,a];rw [Zg,Qo,Qp b]
theorem zG (b n A:Nat):digs b (n+1) A=digs b n A++[A / b^n % b]:=by rw [uH];rfl
theorem vX (b n:Nat):digs b n 0=List.replicate n 0:=by
 induction n with
 | zero=>rfl
 | succ n a=>simp [digs,a,Zz]
theorem Lx {b:Nat}(c:0<b)(n A:Nat):∀ d ∈ digs b n A,d<b:=by
 induction n generalizing A with
 | zero=>intro d a;simp [digs] at a
 | succ n f =>
  intro d a;simp only [digs,Yy] at a
  rcases a with rfl | a
  ·exact Qy _ c
  ·exact f _ d a
theorem sD (xs:List Nat)(n:Nat):trimmed (xs++List.replicate n 0)=trimmed xs:=by
 induction n with
 | zero=>simp
 | succ n a=>rw [List.replicate_succ',← List.append_assoc,fZ,a]
theorem uO {b:Nat}(a:2≤b)(A:Nat):A<b^A:=Qf Nat.lt_two_pow_self (QU a A)
def digits (b A:Nat):List Nat:=trimmed (digs b A A)
theorem zH {b N A:Nat}(d:2≤b)(h:A / b^N=0):trimmed (digs b N A)=digits b A:=by
 have a:digs b (N+A) A=digs b N A++List.replicate A 0:=by rw [uH,h,vX]
 have c:digs b (A+N) A=digs b A A++List.replicate N 0:=by rw [uH,QR (uO d A),vX]
 rw [digits,← sD (digs b N A) A,← a,Zn,c,sD]
theorem Cm (b:Nat):digits b 0=[]:=rfl
def numb (b:Nat):List Nat→Nat
 | []=>0
 | x::xs=>x+b*numb b xs
theorem Cn (b:Nat)(xs ys:List Nat):numb b (xs++ys)=numb b xs+b^xs.length*numb b ys:=by
 induction xs with
 | nil=>simp [numb]
 | cons x xs a=>simp only [QL,numb,a,QE,Qo,Qm,QV];rw [Qp (b^xs.length) b,Qn]
theorem DT (b n:Nat):numb b (List.replicate n 0)=0:=by
 induction n with
 | zero=>rfl
 | succ n a=>simp [Zz,numb,a]
theorem Ga {b:Nat}(n A:Nat):numb b (digs b n A)=A % b^n:=by
 induction n generalizing A with
 | zero=>simp [digs,numb,Nat.mod_one]
 | succ n a =>
  simp only [digs,numb,a];rw [Qo,Qp (b^n) b,Nat.mod_mul]
theorem AR (b:Nat)(xs:List Nat):numb b (trimmed xs)=numb b xs:=by
 obtain ⟨n,h⟩:=nZ xs
 conv=>rhs;rw [h]
 rw [Cn,DT];simp
theorem Co {b:Nat}(a:2≤b)(A:Nat):numb b (digits b A)=A:=by
 rw [digits,AR,Ga,Jo (uO a A)]
theorem yJ {b A:Nat}(a:2≤b):digits b A=[]↔A=0:=by
 constructor
 ·intro h
  have:=Co a A;rw [h] at this;exact this.symm
 ·rintro rfl;rfl
def fJ (d:Nat):Nat:=if d<10 then 48+d else 87+d
theorem DU {d:Nat}(h:d<36):fJ d<256:=by unfold fJ;split <;> omega
theorem AU {d:Nat}(h:d<36):fJ d=48↔d=0:=by unfold fJ;split <;> omega
def textOf (neg:Bool)(b A:Nat):List Nat:=if A=0 then [48] else (if neg then [45] else [])++((digits b A).map fJ).reverse
end Go.Proofs.YtagjhmodblifbaaGreatDoor
namespace Go.Proofs.YtagjhmodblifbaaGreatDoor
open Go.Proofs.Tryz
open Go Go.RowKit
def IC (b:Nat)(m u:Value):Prop:=∃ k:Nat,1≤k∧m=vI (k:Nat)∧u=.int .u32 (b^k:Nat)∧b^k<4294967296
def IE (b:Nat)(e:Ending):Prop:=∃ m:Nat,e=.returned (.tuple #[vI (m:Nat),.int .u32 (b^m:Nat)])∧1≤m∧m≤31∧b^m<aj
def Gb (b:Nat)(e:Ending):Prop:=∃ m:Nat,e=.returned (.tuple #[vI (m:Nat),.int .u32 (b^m:Nat)])∧1≤m∧m≤31∧b^m<aj∧aj≤b^(m+1)
theorem xZ (b:Nat)(w:World)(q:2≤b)(A:b≤36) :
  Calls prog 229 #[vI b] w fun e B=>w=B∧Gb b e:=by
 have C:IntKind.u32.wrap (b:Int)=b:=by simp only [Xa];omega
 have z:IntKind.u64.wrap (b:Int)=b:=by simp only [Qk];omega
 go_enter func229,ntmps229;go_wp2
 go_loop [2,3] (fun m u=>IC b m u) (fun m _=>(32 - intOf m).toNat)
 case atStart=>exact ⟨1,by omega,rfl,by simp,by simp;omega⟩
 case round =>
  obtain ⟨k,v,rfl,rfl,c⟩:=hrel
  have g:k≤31:=by
   rcases QK 31 k with h | h
   ·have h1:2^32≤2^k:=Ql (by decide) h
    have r:2^k≤b^k:=QU q k;omega
   ·exact h
  have hs:b^(k+1)=b^k*b:=Qo b k;generalize l:b^k=U at *;have d:U*b≤4294967296*36:=JI (by omega) A
  have f:(U:Int)*(b:Int)=((U*b:Nat):Int):=by simp
  obtain ⟨V,n⟩:∃ V,U*b=V:=⟨_,rfl⟩
  rw [n] at f hs d
  have x:IntKind.u64.wrap ((U:Int)*(b:Int))=(V:Int):=by rw [f];simp only [Qk];omega
  have s:IntKind.u64.wrap (U:Int)=U:=by simp only [Qk];omega
  have j:=Qa hs;have p:=Qa l
  by_cases a:V<4294967296
  ·have y:IntKind.u32.wrap ((U:Int)*(b:Int))=(V:Int):=by rw [f];simp only [Xa];omega
   have t:decide ((V:Int)<4294967296)=true:=by simp;omega
   have i:=Qa a;have o:=Qa c;clear hs l n f d a c;go_wp2;exact ⟨⟨k+1,by omega,rfl,by rw [j.out],by rw [j.out];exact i.out⟩,by simp [intOf];omega⟩
  ·have t:decide ((V:Int)<4294967296)=false:=by simp;omega
   have o:=Qa c;have i:=Qa a;clear hs l n f d a c;go_wp2
   go_ret2
   exact ⟨rfl,k,by rw [p.out];rfl,v,g,by rw [p.out];exact o.out,by rw [j.out];exact ZM i.out⟩
theorem Gc (b:Nat)(w:World)(a:2≤b)(g:b≤36) :
  Calls prog 229 #[vI b] w fun e h=>w=h∧IE b e :=
 (xZ b w a g).mono fun _ _ ⟨h1,m,a,c,d,f,_⟩=>⟨h1,m,a,c,d,f⟩
theorem IG (b M:Nat)(w:World)(d:2≤b)(j:b≤36)(h:b^M<aj)(a:aj≤b^(M+1)) :
  Calls prog 229 #[vI b] w fun e c=>w=c∧e=.returned (.tuple #[vI (M:Nat),.int .u32 (b^M:Nat)]):=by
 refine (xZ b w d j).mono ?_;rintro e c ⟨rfl,m,i,l,n,f,g⟩;have k:m<M+1:=(Zi (show 1<b by omega)).1 (Qf f a);have a2:M<m+1:=(Zi (show 1<b by omega)).1 (Qf h g)
 obtain rfl:m=M:=by omega
 exact ⟨rfl,i⟩
theorem AV (b:Nat)(a:2≤b)(g:b≤36):∃ M,1≤M∧b^M<aj∧aj≤b^(M+1):=by
 apply Zc;intro c
 have h:∀ k,b^(k+1)<aj:=fun k=>by
  induction k with
  | zero=>simp;unfold aj;omega
  | succ k d=>exact Zh fun h=>c ⟨k+1,by omega,d,h⟩
 have h1:b^32<aj:=h 31;have f:2^32≤b^32:=QU a 32;unfold aj at h1;omega
theorem nO:prog.underlying 143=some (.slice 5):=by kernel_rfl
theorem II:prog.underlying 5=some (.int .u8):=by kernel_rfl
theorem DV:prog.underlying 9=some .string:=by kernel_rfl
theorem Gd:(prog.info? 5).map (fun i=>(i.zero,i.size,i.bytes))=some (some (.int .u8 0),1,1):=by kernel_rfl
theorem zI (w:World):(sizeOf 5).run prog w=.ok 1 w:=by kernel_rfl
def nU (xs:List Nat):List Value:=xs.map fun (x:Nat)=>Value.int .u8 (x:Int)
theorem vY (xs:List Nat)(x:Nat):nU (xs++[x])=nU xs++[.int .u8 (x:Int)]:=by simp [nU]
theorem BI (xs:List Nat)(i x:Nat):nU (xs.set i x)=(nU xs).set i (.int .u8 (x:Int)):=by simp [nU]
theorem pq {W:World}{B n:Nat}{e:TypeId}{s:Value}{ys:List Value}(h:W.ownsRow B e 1 s n ys):∃ a c,s=.slice a n c:=by
 rcases h.2 with ⟨rfl,h0⟩ | ⟨g,cap,cur,rfl,_⟩
 ·exact ⟨none,0,by rw [h0]⟩
 ·exact ⟨_,_,rfl⟩
theorem je {W:World}{B n:Nat}{e:TypeId}{s:Value}{ys:List Value}(h:W.ownsRow B e 1 s n ys)(a:0<n):∃ g c,s=.slice (some ⟨g,0,none⟩) n c∧n≤c∧c≤maxLen:=by
 rcases h.2 with ⟨rfl,h0⟩ | ⟨g,cap,cur,rfl,_,_,h1,h2,_⟩
 ·omega
 ·exact ⟨_,_,rfl,h1,h2⟩
def rG (bs cur:List Nat)(k:Nat):Prop:=cur.length=bs.length∧∀ i,i<bs.length→cur[i]?=if i<k∨bs.length - k≤i then bs[bs.length - 1 - i]? else bs[i]?
theorem rG.step {bs a:List Nat}{k m:Nat}(h:rG bs a k)(o:k<m)(q:k+m+1=bs.length):rG bs ((a.set k (a[m]?.getD 0)).set m (a[k]?.getD 0)) (k+1):=by
 obtain ⟨p,d⟩:=h;refine ⟨by simp [p],fun i hi=>?_⟩;have b:=d k (by omega);have c:=d m (by omega);rw [if_neg (by omega)] at b c
 have f:a[k]?.getD 0=bs[k]?.getD 0:=by rw [b]
 have g:a[m]?.getD 0=bs[m]?.getD 0:=by rw [c]
 rw [f,g]
 by_cases l:i=m
 ·subst l
  rw [if_pos (by omega),Ym (by simp;omega),show bs.length - 1 - i=k by omega,Qs (show k<bs.length by omega)];rfl
 ·rw [ZE (by omega)]
  by_cases n:i=k
  ·subst n
   rw [if_pos (by omega),Ym (by omega),show bs.length - 1 - i=m by omega,Qs (show m<bs.length by omega)];rfl
  ·rw [ZE (by omega),d i hi]
   by_cases j:i<k∨bs.length - k≤i
   ·rw [if_pos j,if_pos (by omega)]
   ·rw [if_neg j,if_neg (by omega)]
theorem rG.done {bs a:List Nat}{k:Nat}(h:rG bs a k)(f:bs.length≤2*k+1)(d:k≤bs.length):a=bs.reverse:=by
 obtain ⟨g,c⟩:=h;apply List.ext_getElem?;intro i
 by_cases hi:i<bs.length
 ·rw [c i hi,List.getElem?_reverse hi]
  by_cases b:i<k∨bs.length - k≤i
  ·rw [if_pos b]
  ·rw [if_neg b,show bs.length - 1 - i=i by omega]
 ·rw [Jm (by omega),Jm (by simp;omega)]
theorem qU (base g f:Nat)(bs:List Nat)(w:World)(M:bs.length≤1000000)(hown:w.ownsRow base 5 1 (.slice (some ⟨g,0,none⟩) bs.length f) bs.length (nU bs)) :
  Calls prog 231 #[.slice (some ⟨g,0,none⟩) bs.length f] w fun e D=>e=.returned (.tuple #[])∧dF (fun k=>k=g) w D∧D.ownsRow base 5 1 (.slice (some ⟨g,0,none⟩) bs.length f) bs.length (nU bs.reverse):=by
 obtain ⟨n,t⟩:∃ n,bs.length=n:=⟨_,rfl⟩
 have r:∀ (j:Nat) (W:World),j<n→(Instr.indexAt 143 (.slice (some ⟨g,0,none⟩) n f) (vI j)).run prog W=.ok (.pointer (some ⟨g,j,none⟩)) W:=fun j W H=>by
  have:=nH (P:=prog) 143 5 nO zI (some ⟨g,0,none⟩) n f j H ⟨_,_,rfl⟩ .i64 W;simpa [kX] using this
 rw [t] at hown M ⊢;have s:=Qa t;have l:=Qa r;clear t r;go_enter func231,ntmps231;go_wp2
 go_loopw [2,3] (fun i j W=>∃ (k:Nat) (c:List Nat),i=vI k∧j=vI ((n:Int) - 1 - k)∧k≤n∧rG bs c k∧W.ownsRow base 5 1 (.slice (some ⟨g,0,none⟩) n f) n (nU c)∧dF (fun k=>k=g) w W)
  (fun i _ _=>n - (intOf i).toNat)
 case atStart=>exact ⟨0,bs,rfl,by simp,QF _,⟨rfl,fun i hi=>by rw [if_neg (by omega)]⟩,hown,dF.refl _ _⟩
 case round =>
  obtain ⟨k,c,rfl,rfl,S,h,d,o⟩:=hrel
  by_cases J:2*k+1<n
  ·obtain ⟨m,x⟩:∃ m:Nat,(n:Int) - 1 - k=m:=⟨n - 1 - k,by omega⟩
   have v:k<m:=by omega
   have L:m<n:=by omega
   rw [x];have hlen:c.length=n:=h.1.trans s.out;have E:=d.cellAt k (by omega);have F:=d.cellAt m (by omega)
   obtain ⟨a,ha⟩:∃ a,c[k]?.getD 0=a:=⟨_,rfl⟩
   obtain ⟨b,u⟩:∃ b,c[m]?.getD 0=b:=⟨_,rfl⟩
   have A:(nU c)[k]?=some (.int .u8 (a:Int)):=by rw [← ha];simp [nU,Qs (show k<c.length by omega)]
   have B:(nU c)[m]?=some (.int .u8 (b:Int)):=by rw [← u];simp [nU,Qs (show m<c.length by omega)]
   rw [A] at E;rw [B] at F;have Q:=d.frozenAt k;have R:=d.frozenAt m
   have T:=fun W=>l.out k W (by omega)
   have U:=fun W=>l.out m W (by omega)
   have G:decide ((k:Int)<(m:Int))=true:=by simp;omega
   have z:=Qa x;have y:=Qa (And.intro ha u);clear x ha u A B
   have C:¬k=m:=by omega
   have I:(0:Int)≤(k:Int):=by omega
   go_wp2_with fail
   go_region
   go_wp2;have N:=d.stored k (.int .u8 (b:Int));have O:=N.1.stored m (.int .u8 (a:Int));refine ⟨⟨k+1,(c.set k b).set m a,by go_num,?_,by omega,?_,?_,?_⟩,by simp [intOf];omega⟩
   ·have:=z.out
    congr 1
    omega
   ·have:=h.step v (by have:=s.out;have:=z.out;omega)
    rw [y.out.1,y.out.2] at this;exact this
   ·rw [BI,BI]
    exact O.1.drew
   ·exact ((o.setCell (p:=⟨g,k,none⟩) (.inl rfl) _).setCell (p:=⟨g,m,none⟩) (.inl rfl) _).drew
  ·have G:decide ((k:Int)<(n:Int) - 1 - (k:Int))=false:=by simp;omega
   have q:=h.done (by have:=s.out;omega) (by have:=s.out;omega);subst q;go_wp2
   go_end0
   exact ⟨rfl,o,d⟩
end Go.Proofs.YtagjhmodblifbaaGreatDoor
namespace Go.Proofs.YtagjhmodblifbaaGreatDoor
open Go.Proofs.Tryz
open Go Go.RowKit Go.Shelf
def gU (W:World):Prop:=∀ i,i<36→W.cell? ⟨0,i,none⟩=some (.int .u8 ((fJ i:Nat):Int))
theorem gU.below {W a:World}(h:gU W)(b:bW W a):gU a:=fun i hi =>
 (b.cell (JE W _ (h i hi))).trans (h i hi)
def sV (B:Nat)(W:World)(v:Value):Prop:=∀ a n c,v=.slice (some a) n c→a.block<B∨∃ cs fz,W.heap[a.block]?=some (.cells cs 128 fz)
theorem AX {W m:World}{B n:Nat}{s v:Value}{ys:List Value}{xs:List Nat}{o:Obj}(hs:W.ownsRow B 5 1 s n ys)(u:(W.alloc o).grownBy m s.ownBlock)
  (hr:Reads .u32 W v xs) (ha:sV B W v):Reads .u32 m v xs∧sV B m v:=by
 have l:∀ a n c,v=.slice (some a) n c→a.block<W.heap.size→some a.block≠s.ownBlock:=fun a n c e d i=>by
  rcases ha a n c e with h | ⟨cs,fz,h⟩
  ·have:=(hs.lt a.block i.symm).1
   omega
  ·rcases hs.2 with ⟨rfl,-⟩ | ⟨g',cap',cur,rfl,_,hg',_⟩
   ·simp [Value.ownBlock] at i
   ·simp only [Value.ownBlock,Option.some.injEq] at i
    rw [i] at h;rw [h] at hg';simp at hg'
 have g:∀ k,k<W.heap.size→some k≠s.ownBlock→m.heap[k]?=W.heap[k]?:=fun k x z=>(u.block k (by simp;omega) z).trans (Zo W o k x)
 constructor
 ·obtain ⟨a,p,rfl,i,y,f⟩:=hr
  refine ⟨a,p,rfl,i,y,fun j r=>⟨(f j r).1,?_⟩⟩;obtain ⟨⟨b,off,rfl⟩,q⟩:=f j r;have d:=JE W _ q;have t:=g b d (l ⟨b,off,none⟩ _ _ rfl d);rw [← q];exact Jd t
 ·intro a n c e
  rcases ha a n c e with h | ⟨cs,fz,h⟩
  ·exact .inl h
  ·have d:a.block<W.heap.size:=(QT.1 h).1
   exact .inr ⟨cs,fz,(g _ d (l a n c e d)).trans h⟩
theorem yK {B:Nat}{e:TypeId}{k:Nat}{v:Value}{n:Nat}{xs:List Value}{w b:World}(h:w.ownsRow B e k v n xs)(a:bW w b):b.ownsRow B e k v n xs :=
 h.kept (row:=none) ⟨a.os,a.tape,a.output,a.size,fun j c _=>a.block j c⟩ (by cases v.ownBlock <;> simp)
def pz (b N A:Nat):List Nat:=(digs b N A).map fJ
theorem ze (b N A:Nat):pz b (N+1) A=pz b N A++[fJ (A / b^N % b)]:=by simp [pz,zG]
theorem zf {b N A L:Nat}(c:2≤b)(h:0<A / b^N)(f:A<aj^L):N<32*L:=by
 have h1:b^N≤A:=by
  apply Zc;intro g;rw [QR (by omega)] at h;omega
 have d:2^N≤b^N:=QU c N
 have a:2^N<2^(32*L):=by rw [← gX];omega
 exact (Zi (by decide)).1 a
def bytesOf (bs:List Nat):ByteArray:=strOfNums (bs.map fun (x:Nat)=>(x:Int))
theorem oK {bs:List Nat}(h:∀ x ∈ bs,x<256):(bytesOf bs).data.toList.map (·.toNat)=bs:=by
 rw [bytesOf,strOfNums_data,List.map_map,List.map_map]
 conv=>rhs;rw [← List.map_id bs]
 refine List.map_congr_left fun x a=>?_
 have:=h x a;simp [Function.comp];omega
theorem tK {W:World}{base g a n:Nat}{bs:List Nat}(b:bs.length=n)(h:W.ownsRow base 5 1 (.slice (some ⟨g,0,none⟩) n a) n (nU bs)) :
  (convert 143 9 (.slice (some ⟨g,0,none⟩) n a)).run prog W=.ok (.string (bytesOf bs)) W :=
 run_convert_bytes_arg W 143 5 nO II g 0 n a (bs.map fun (x:Nat)=>(x:Int)) (by simpa using b) (fun i hi=>by
  rw [QJ,h.cellAt i (by omega)]
  simp [nU,Qs (show i<bs.length by omega)]) 9 DV
def qJ:Value→Nat
 | .slice _ n _=>n
 | _=>0
theorem IJ {A b N m k:Nat}(c:k<m):A / b^N % b^m / b^k % b=A / b^(N+k) % b:=by
 obtain ⟨j,rfl⟩:∃ j,m=k+1+j:=⟨m - k - 1,by omega⟩
 generalize a:A / b^N=X
 have h1:X % b^(k+1+j) / b^k=X / b^k % b^(1+j):=by
  rw [show k+1+j=k+(1+j) by omega,Qt];exact Nat.mod_mul_right_div_self X (b^k) (b^(1+j))
 rw [h1,Nat.mod_mod_of_dvd _ ⟨b^j,by rw [Qt];simp⟩,← a,Zg,Qt]
theorem IK (neg:Bool)(va:Value)(u:List Nat)(b:Nat)(w:World)(ha:Reads .u32 w va u)(b6:Canon u)(na:u.length≤300)(h2:2≤b)(om:b≤36)(hT:gU w) :
 CB 203 #[.agg #[.bool neg,va],vI b] w fun e _=>∃ s:ByteArray,e=.returned (.string s)∧s.data.toList.map (·.toNat)=textOf neg b (val u):=by
 obtain ⟨aa,ca,rfl,fA,gy⟩:=ha.form;unfold maxLen at gy
 obtain ⟨A,hA⟩:∃ A,val u=A:=⟨_,rfl⟩
 have ap:A<aj^300:=by rw [← hA];exact Qf (fu b6.1) (Ql aP na)
 have hw:IntKind.u32.wrap (b:Int)=b:=by simp only [Xa];omega
 obtain ⟨an,hi,bh⟩:=Js.1 Gd;simp only [Prod.mk.injEq] at bh;obtain ⟨G,bf,bg⟩:=bh;have X:=dJ w (.cells #[.bool neg,.slice aa u.length ca] 24);have ax:=ha.below X
 have ad:sV (w.heap.size+1) (w.alloc (.cells #[.bool neg,.slice aa u.length ca] 24)) (.slice aa u.length ca)∨u=[]:=by
  by_cases T:u=[]
  ·exact .inr T
  ·exact .inl fun a n c e=>.inl (Nat.lt_succ_of_lt (ha.lt a n c e T))
 have r0:=af.new w 24 (lN neg aa u.length ca);have av:gU (w.alloc (.cells #[.bool neg,.slice aa u.length ca] 24)):=hT.below X
 obtain ⟨p,Z⟩:∃ p,(w.alloc (.cells #[.bool neg,.slice aa u.length ca] 24))=p:=⟨_,rfl⟩
 have G:p.heap.size=w.heap.size+1:=by rw [← Z];simp
 rw [Z] at ax ad r0 X av;rw [← G] at ad;have HW:=Qa (And.intro Z G);clear Z G hT;have V:=Qa (And.intro G (And.intro bf bg));have HA:=Qa (And.intro hA ap);clear G bf bg hA ap;go_enter func203,ntmps203
 go_wp2_with (go_at_call 229;refine (Gc b _ h2 om).mono ?_;rintro e w1 ⟨rfl,m,he,c3,bv,ai⟩;obtain ⟨U,hU⟩:∃ U,b^m=U:=⟨_,rfl⟩;rw [hU] at he ai;have HU:=Qa (And.intro hU ai);clear hU ai;subst he)
 go_loopw [7,8] (fun s left W=>∃ N xs,W.ownsRow p.heap.size 5 1 s N (nU (pz b N A))∧Reads .u32 W left xs∧Canon xs∧val xs=A / b^N∧(sV p.heap.size W left∨xs=[])∧bW p W∧N≤10000) (fun s _ _=>20000 - qJ s)
 case atStart=>exact ⟨0,u,ZU _ _ _ _,by rw [HW.out.1];exact ax,b6,by simp [HA.out.1],by rw [HW.out.1];exact ad,by rw [HW.out.1];exact Qj _ _,by omega⟩
 case round =>
  obtain ⟨N,xs,hown,a3,a1,F,L,r,hN⟩:=hrel;obtain ⟨sa,sc,rfl⟩:=pq hown;obtain ⟨la,lc,rfl,bn,ba⟩:=a3.form;unfold maxLen at ba
  by_cases hz:xs.length=0
  ·have bt:xs=[]:=JP hz
   subst bt;have b5:=zH h2 (show A / b^N=0 from F.symm)
   have a8:∀ d ∈ digs b N A,d<36:=fun d hd=>Qf (Lx (by omega) N A d hd) om
   have b9:=wJ b N A;rw [pz] at hown;generalize digs b N A=ys at *;have HL:=Qa (And.intro b5 (And.intro a8 b9));clear b5 a8 b9 F L hz a1 a3 bn ba;have HO:=Qa hown;clear hown;go_wp2
   go_loop [7] (fun s=>∃ zs,trimmed zs=digits b A∧(∀ d ∈ zs,d<36)∧zs.length≤10000∧wr.ownsRow p.heap.size 5 1 s zs.length (nU (zs.map fJ))) (fun s=>qJ s)
   case atStart=>exact ⟨ys,HL.out.1,HL.out.2.1,by rw [HL.out.2.2];exact hN,by rw [HL.out.2.2];exact HO.out⟩
   case round =>
    obtain ⟨zs,C,D,bu,hown⟩:=hrel;clear HO HL;have al:=r.size
    rcases List.eq_nil_or_concat zs with rfl | ⟨ys',d,hzs⟩
    ·obtain ⟨sa,sc,rfl⟩:=pq hown
     have ab:A=0:=(yJ h2).1 (by rw [← C];rfl)
     have E:textOf neg b (val u)=[48]:=by rw [HA.out.1,ab];rfl
     have I:=Qa E;clear E
     go_wp2_with (first | (at_builtin;refine wpList_append_own _ rfl _ _ 143 rfl p.heap.size 5 an (.int .u8 0) 1 1 nO hi V.out.1 V.out.2.1 V.out.2.2 rfl (by decide) _ _ _ rfl (hown.alloc _) ⟨wr.heap.size,0,none⟩ 1 1 [.int .u8 48] rfl rfl (dI _ _ _ _ rfl) (by simp [Value.oneCell']) (by unfold maxLen;omega) (by omega) (by simp;omega) ?_;intro v' w5 j f _))
     have o:w5.ownsRow p.heap.size 5 1 v' 1 (nU [48]):=j;obtain ⟨g,ao,rfl,bd,am⟩:=je o (by omega);have hg:=(o.lt g rfl).1;have M:bW p w5:=r.trans (((Qj _ wr).alloc al _).grown f (by simp;omega) (fun k e=>by have:=(hown.lt k e).1;omega));clear j f;refine (qU p.heap.size g ao [48] w5 (by simp) o).mono ?_;rintro e w6 ⟨rfl,t,iw⟩
     have b2:=tK (n:=1) (bs:=[48].reverse) rfl iw;have O:=t.below (B:=p.heap.size) (fun i hi=>by omega) M.size;go_wp2;go_ret;exact ⟨X.trans ((M.trans O).mono X.size),_,rfl,by rw [I.out];exact oK (by simp)⟩
    ·rw [List.concat_eq_append] at hzs
     subst hzs
     have b8:(ys'++[d]).length=ys'.length+1:=by simp
     rw [b8] at hown bu;obtain ⟨g,sc,rfl,c5,be⟩:=je hown (by omega);unfold maxLen at be;have S:d<36:=D d (by simp);have hc:=hown.cellAt ys'.length (by omega)
     have b1:(nU ((ys'++[d]).map fJ))[ys'.length]?=some (.int .u8 ((fJ d:Nat):Int)):=by simp [nU]
     rw [b1] at hc
     have c2:∀ W,(Instr.indexAt 143 (.slice (some ⟨g,0,none⟩) (ys'.length+1) sc) (vI (ys'.length:Int))).run prog W=.ok (.pointer (some ⟨g,ys'.length,none⟩)) W:=fun W=>by
      have:=nH (P:=prog) 143 5 nO zI (some ⟨g,0,none⟩) (ys'.length+1) sc ys'.length (by omega) ⟨_,_,rfl⟩ .i64 W;simpa [kX] using this
     have H:=Qa hown;clear b1 hown b8
     by_cases b3:d=0
     ·subst b3
      have b4:(((fJ 0:Nat):Int) == 48)=true:=rfl
      have bb:∀ a n c,qJ (.slice a n c)=n:=fun _ _ _=>rfl
      go_wp2;refine ⟨⟨ys',by rw [← C,fZ],fun d hd=>D d (by simp [hd]),by omega,?_⟩,by rw [bb,bb];omega⟩;have h1:=H.out;rw [JJ,List.map_cons,List.map_nil,vY] at h1;exact ownsRow_pop (by simp [nU]) h1
     ·have v:trimmed (ys'++[d])=ys'++[d]:=jd ys' d b3
      rw [v] at C
      have ab:A≠0:=fun h=>by
       rw [h,Cm] at C;simp at C
      have E:textOf neg b (val u)=(if neg then [45] else [])++((ys'++[d]).map fJ).reverse:=by
       rw [HA.out.1,textOf,if_neg ab,C]
      have b4:(((fJ d:Nat):Int) == 48)=false:=by
       have:=AU S;simp;omega
      have J:∀ x ∈ (ys'++[d]).map fJ,x<256:=fun x T=>by
       obtain ⟨y,hy,rfl⟩:=Qw.1 T;exact DU (D y hy)
      obtain ⟨bs,ag⟩:∃ bs,(ys'++[d]).map fJ=bs:=⟨_,rfl⟩
      have az:bs.length=ys'.length+1:=by rw [← ag];simp
      rw [ag] at E J H;have I:=Qa (And.intro E (And.intro J az));have hg:=(H.out.lt g rfl).1;clear E J az ag C v D;cases neg
      ·have cn:=(r0.below r).cell 0
       simp only [Qc] at cn
       go_wp2_with fail
       have z:=qU p.heap.size g sc bs wr (by rw [I.out.2.2];omega) (by rw [I.out.2.2];exact H.out);rw [I.out.2.2] at z;refine z.mono ?_;rintro e w6 ⟨rfl,t,iw⟩;have b2:=tK (n:=ys'.length+1) (bs:=bs.reverse) (by rw [Xb];exact I.out.2.2) iw;have O:=t.below (B:=p.heap.size) (fun i hi=>by omega) al;clear z;go_wp2;go_ret
       exact ⟨X.trans ((r.trans O).mono X.size),_,rfl,by rw [I.out.1];exact oK (fun x T=>I.out.2.1 x (by simpa using T))⟩
      ·have cn:=(r0.below r).cell 0
       simp only [Qc] at cn;have hown:=H.out
       go_wp2_with (first | (at_builtin;refine wpList_append_own _ rfl _ _ 143 rfl p.heap.size 5 an (.int .u8 0) 1 1 nO hi V.out.1 V.out.2.1 V.out.2.2 rfl (by decide) _ _ _ rfl (hown.alloc _) ⟨wr.heap.size,0,none⟩ 1 1 [.int .u8 45] rfl rfl (dI _ _ _ _ rfl) (by simp [Value.oneCell']) (by unfold maxLen;omega) (by omega) (by simp;omega) ?_;intro v' w5 j f _))
       have o:w5.ownsRow p.heap.size 5 1 v' (ys'.length+2) (nU (bs++[45])):=by
        rw [vY];exact j
       obtain ⟨g5,ao,rfl,bd,am⟩:=je o (by omega);have c1:=(o.lt g5 rfl).1;have M:bW p w5:=r.trans (((Qj _ wr).alloc al _).grown f (by simp;omega) (fun k e=>by have:=(hown.lt k e).1;omega));clear j f
       have q:(bs++[45]).length=ys'.length+2:=by simp [I.out.2.2]
       have z:=qU p.heap.size g5 ao (bs++[45]) w5 (by rw [q];omega) (by rw [q];exact o);rw [q] at z;refine z.mono ?_;rintro e w6 ⟨rfl,t,iw⟩;have b2:=tK (n:=ys'.length+2) (bs:=(bs++[45]).reverse) (by rw [Xb];exact q) iw;have O:=t.below (B:=p.heap.size) (fun i hi=>by omega) M.size;have HB:=Qa q;clear z q;go_wp2;go_ret
       refine ⟨X.trans ((M.trans O).mono X.size),_,rfl,?_⟩;rw [I.out.1,oK]
       ·simp
       ·intro x T
        simp only [Yy,Xc] at T
        rcases T with rfl | T
        ·omega
        ·exact I.out.2.1 x T
  ·have a9:0<val xs:=(dn a1).2 (by omega)
   have bz:N<32*300:=zf (A:=A) h2 (by rw [← F];exact a9) HA.out.2;have c6:xs.length≤300:=aA a1 (by rw [F];exact Qr (Jv _ _) HA.out.2);have ae:sV p.heap.size wr (.slice la xs.length lc):=L.resolve_right (by intro e;simp [e] at hz)
   have aw:0<U:=by rw [← HU.out.1];exact Qq (by omega)
   have HV:=Qa F;have ah:=ry (.slice la xs.length lc) xs U wr a3 a1.1 (by omega) aw HU.out.2
   obtain ⟨R,hR⟩:∃ R,val xs % U=R:=⟨_,rfl⟩
   rw [hR] at ah
   have au:R=A / b^N % b^m:=by rw [← hR,HV.out,HU.out.1]
   have ar:R<aj:=by rw [← hR];exact Qf (Qy _ aw) (Ju HU.out.2)
   have HR:=Qa (And.intro au ar);have HD:=Qa ah;clear hR au ar
   have c7:decide ((0:Int)<(xs.length:Int))=true:=by simp;omega
   clear F L a9 ah
   go_wp2_with (go_at_call 230;refine HD.out.mono ?_;rintro e w4 ⟨a7,v4,qs,rfl,h4,k4,e4,t4⟩)
   have ak:=yK hown a7
   have ay:sV p.heap.size w4 v4:=fun a n c e=>.inr (t4 a n c e)
   have bj:bW p w4:=r.trans (a7.mono r.size);obtain ⟨a4,c4,rfl,c0,bq⟩:=h4.form;have H4:=Qa e4;clear e4 t4 hown a3 r HD ae;unfold maxLen at bq
   go_loopw [7,10,28] (fun s l i W=>∃ k:Nat,k≤m∧i=vI k∧l=.int .u32 ((R / b^k:Nat):Int)∧W.ownsRow p.heap.size 5 1 s (N+k) (nU (pz b (N+k) A))∧Reads .u32 W (.slice a4 qs.length c4) qs∧sV p.heap.size W (.slice a4 qs.length c4)∧bW p W)
    (fun _ _ i _=>m - (intOf i).toNat)
   case atStart=>exact ⟨0,QF _,rfl,by simp,by simpa using ak,h4,ay,bj⟩
   case round =>
    obtain ⟨k,hk,rfl,rfl,hown,bc,a6,a0⟩:=hrel;obtain ⟨sa,sc,rfl⟩:=pq hown
    by_cases bm:k<m
    ·have hd:=IJ (A:=A) (b:=b) (N:=N) bm
     rw [← HR.out.1] at hd
     have a2:R / b^(k+1)=R / b^k / b:=by rw [Qo,Zg]
     obtain ⟨Q,hQ⟩:∃ Q,R / b^k=Q:=⟨_,rfl⟩
     have aq:Q<4294967296:=by rw [← hQ];exact Qr (Jv _ _) HR.out.2
     rw [hQ] at hd a2 ⊢
     obtain ⟨d,v⟩:∃ d,Q % b=d:=⟨_,rfl⟩
     have S:d<36:=by rw [← v];exact Qf (Qy _ (by omega)) om
     obtain ⟨Q2,Y⟩:∃ Q2,Q / b=Q2:=⟨_,rfl⟩
     have bx:(Q:Int) % (b:Int)=(d:Int):=by rw [← v];rfl
     have bw:(Q:Int) / (b:Int)=(Q2:Int):=by rw [← Y];rfl
     have bl:=(av.below a0) d S;rw [v] at hd;rw [Y] at a2
     have a5:Q2<4294967296:=by rw [← Y];exact Qr (Jv _ _) aq
     have HQ:=Qa a5;have HD:=Qa hd;have bi:=Qa a2;clear hQ v Y aq hd a2 a5;have br:=a0.size
     go_wp2_with (at_builtin;refine wpList_append_own _ rfl _ _ 143 rfl p.heap.size 5 an (.int .u8 0) 1 1 nO hi V.out.1 V.out.2.1 V.out.2.2 rfl (by decide) _ _ _ rfl (hown.alloc _) ⟨wr.heap.size,0,none⟩ 1 1 [.int .u8 ((fJ d:Nat):Int)] rfl rfl (dI _ _ _ _ rfl) (by simp [Value.oneCell']) (by unfold maxLen;omega) (by omega) (by simp;omega) ?_;intro v' w5 j f _)
     have b7:=AX hown f bc a6;have bk:bW p w5:=a0.trans (((Qj _ wr).alloc br _).grown f (by simp;omega) (fun k e=>by have:=(hown.lt k e).1;omega));refine ⟨⟨k+1,by omega,by go_num,?_,?_,b7.1,b7.2,bk⟩,by simp [intOf];omega⟩
     ·rw [bi.out]
      have:=HQ.out
      congr 1
      omega
     ·rw [show N+(k+1)=N+k+1 by omega,ze,vY,← HD.out]
      exact j
    ·obtain rfl:k=m:=by omega
     have bp:qJ (.slice sa (N+k) sc)=N+k:=rfl
     have bo:∀ a c,qJ (.slice a N c)=N:=fun _ _=>rfl
     go_wp2;refine ⟨⟨N+k,qs,hown,bc,k4,?_,.inl a6,a0,by omega⟩,by rw [bp,bo];omega⟩;rw [H4.out,HV.out,← HU.out.1,Zg,Qt]
def Ia (w:World)(xa xb:List Nat)(s c i:Value)(W:World):Prop:=∃ k:Nat,k≤max xa.length xb.length+1∧i=vI k∧c=.int .u64 ((cK xa (ah xb k)).2:Int) ∧
 W.ownsRow w.heap.size 128 1 s k (aF (cK xa (ah xb k)).1)∧(k=max xa.length xb.length+1→(cK xa (ah xb k)).2=0)∧bW w W
theorem IL (va vb:Value)(d b:List Nat)(w:World)(ha:Reads .u32 w va d)(hb:Reads .u32 w vb b)(H:Limbs d)(I:Limbs b)(na:d.length≤100000)(nb:b.length≤100000) :
 CB 137 #[va,vb] w fun e w'=>∃ v S,e=.returned v∧Reads .u32 w' v S∧Limbs S∧val S=val d+val b∧S.length≤max d.length b.length+1:=by
 obtain ⟨aa,ca,rfl,fA,gy⟩:=ha.form;obtain ⟨ab,cb,rfl,a4,a7⟩:=hb.form;obtain ⟨M,hi,L⟩:=Js.1 fV;simp only [Prod.mk.injEq] at L;have z:=Qa L;clear L
 have Z:∀ k,∀ p ∈ ah b k,p.2<aj:=fun k p hp=>by
  obtain ⟨i,_,rfl⟩:=Qw.1 hp;exact aK I i
 have n:Ia w d b vZ (.int .u64 0) (vI 0) w:=⟨0,QF _,rfl,by simp [cK,ah],by simpa [cK,ah,aF] using ZU w w.heap.size 128 1,fun h=>by omega,Qj _ _⟩
 have HS:=Qa n;clear n;go_enter func137,ntmps137
 go_wp2_with fail
 go_loopw [5,6,7] (fun s c i wr=>Ia w d b s c i wr) (fun _ _ i _=>max d.length b.length+1 - (intOf i).toNat)
 case atStart=>exact HS.out
 case round =>
  obtain ⟨k,hk,rfl,rfl,hown,j,m⟩:=hrel;obtain ⟨sa,sc,rfl⟩:=pq hown;obtain ⟨O,Y⟩:=iX H (ah b k) (Z k);have l:=nI d b k;have a:=iO d (ah b k) (k,b[k]?.getD 0);have B:=nD d (ah b k);rw [bR] at B;rw [← bL] at a;have hA:=ha.below m;have hB:=hb.below m;have J:=m.size
  obtain ⟨st,Q⟩:∃ st,cK d (ah b k)=st:=⟨_,rfl⟩
  rw [Q] at hown j O Y l a B ⊢;obtain ⟨r,c⟩:=st;simp only [mK] at a;dsimp only at *;have U:=Qa B;clear Q B
  by_cases N:k<d.length∨k<b.length∨c≠0
  ·have a6:k<max d.length b.length+1:=by
    rcases QK k (max d.length b.length+1) with h | h
    ·exact h
    ·have:c=0:=j (by omega)
     omega
   have E:k+1=max d.length b.length+1→d[k]?.getD 0=0∧b[k]?.getD 0=0:=fun h=>by
    rw [Jm (show d.length≤k by omega),Jm (show b.length≤k by omega)];exact ⟨rfl,rfl⟩
   have lA:=pg (.slice aa d.length ca) d k wr hA H;have lB:=pg (.slice ab b.length cb) b k wr hB I;have a1:=aK H k;have a2:=aK I k;generalize d[k]?.getD 0=x at *;generalize b[k]?.getD 0=y at *
   obtain ⟨T,X⟩:∃ T,c+(x+y)=T:=⟨_,rfl⟩
   rw [X] at a;unfold aj at a1 a2
   have a9:IntKind.u64.wrap ((x:Int)+(y:Int))=(x:Int)+(y:Int):=by rw [Qk];omega
   have ad:IntKind.u64.wrap ((x:Int)+(y:Int)+(c:Int))=(T:Int):=by rw [Qk];omega
   obtain ⟨u,A⟩:∃ u,T % aj=u:=⟨_,rfl⟩
   obtain ⟨F,t⟩:∃ F,T / aj=F:=⟨_,rfl⟩
   have a8:(T:Int) % 4294967296=(u:Int):=by rw [← A];unfold aj;omega
   have a5:(T:Int) / 4294967296=(F:Int):=by rw [← t];unfold aj;omega
   have ae:IntKind.u64.wrap (F:Int)=(F:Int):=by rw [Qk,← t];unfold aj;omega
   have a3:u<4294967296:=by rw [← A];exact Qy _ (by decide)
   have af:IntKind.u32.wrap (u:Int)=(u:Int):=by rw [Jj];omega
   rw [A,t] at a
   have D:k+1=max d.length b.length+1→F=0:=fun h=>by
    obtain ⟨rfl,rfl⟩:=E h;rw [← t];unfold aj;omega
   clear E A t j l;have R:=Qa (And.intro a D);have HT:=Qa X;clear a D X;have ag:=N;clear N
   have G:∀ o C,o.ownsRow w.heap.size 128 1 C (k+1) (aF r++[.int .u32 (u:Int)])→bW w o→Ia w d b C (.int .u64 (F:Int)) (vI ((k:Int)+1)) o:=fun o C h1 V=>by
    refine ⟨k+1,by omega,by go_num,?_,?_,?_,V⟩
    ·rw [R.out.1]
    ·rw [R.out.1,jA];exact h1
    ·rw [R.out.1];exact R.out.2
   by_cases h1:k<d.length
   ·have hg:decide ((k:Int)<(d.length:Int))=true:=by simp;omega
    go_wp2_with (first
     | (go_at_call 175;(first | with_reducible refine lA.mono ?_ | with_reducible refine lB.mono ?_);rintro e w2 ⟨rfl,rfl⟩)
     | (at_builtin;refine wpList_append_own _ rfl _ _ 22 rfl w.heap.size 128 M (.int .u32 0) 1 4 aG hi z.out.1 z.out.2.1 z.out.2.2 rfl (by decide) _ _ _ rfl (hown.alloc _) ⟨wr.heap.size,0,none⟩ 1 1 [.int .u32 (u:Int)] rfl rfl (dI _ _ _ _ rfl) (by simp [Value.oneCell']) (by unfold maxLen;omega) (by omega) (by simp;omega) ?_;intro C o g f _))
    have q:bW w o:=m.trans (((Qj _ wr).alloc J _).grown f (by simp;omega) (fun k e=>by have:=(hown.lt k e).1;omega));have hf:=G o C g q;refine ⟨hf,?_⟩;simp [intOf];omega
   ·by_cases V:k<b.length
    ·go_wp2_with (first
      | (go_at_call 175;(first | with_reducible refine lA.mono ?_ | with_reducible refine lB.mono ?_);rintro e w2 ⟨rfl,rfl⟩)
      | (at_builtin;refine wpList_append_own _ rfl _ _ 22 rfl w.heap.size 128 M (.int .u32 0) 1 4 aG hi z.out.1 z.out.2.1 z.out.2.2 rfl (by decide) _ _ _ rfl (hown.alloc _) ⟨wr.heap.size,0,none⟩ 1 1 [.int .u32 (u:Int)] rfl rfl (dI _ _ _ _ rfl) (by simp [Value.oneCell']) (by unfold maxLen;omega) (by omega) (by simp;omega) ?_;intro C o g f _))
     have q:bW w o:=m.trans (((Qj _ wr).alloc J _).grown f (by simp;omega) (fun k e=>by have:=(hown.lt k e).1;omega));have hf:=G o C g q;refine ⟨hf,?_⟩;simp [intOf];omega
    ·have h3:¬c=0:=by omega
     go_wp2_with (first
      | (go_at_call 175;(first | with_reducible refine lA.mono ?_ | with_reducible refine lB.mono ?_);rintro e w2 ⟨rfl,rfl⟩)
      | (at_builtin;refine wpList_append_own _ rfl _ _ 22 rfl w.heap.size 128 M (.int .u32 0) 1 4 aG hi z.out.1 z.out.2.1 z.out.2.2 rfl (by decide) _ _ _ rfl (hown.alloc _) ⟨wr.heap.size,0,none⟩ 1 1 [.int .u32 (u:Int)] rfl rfl (dI _ _ _ _ rfl) (by simp [Value.oneCell']) (by unfold maxLen;omega) (by omega) (by simp;omega) ?_;intro C o g f _))
     have q:bW w o:=m.trans (((Qj _ wr).alloc J _).grown f (by simp;omega) (fun k e=>by have:=(hown.lt k e).1;omega));have hf:=G o C g q;refine ⟨hf,?_⟩;simp [intOf];omega
  ·have h1:¬k<d.length:=fun h=>N (.inl h)
   have V:¬k<b.length:=fun h=>N (.inr (.inl h))
   obtain rfl:c=0:=Zc fun h=>N (.inr (.inr h))
   have a0:Reads .u32 wr (.slice sa k sc) r:=Reads.ou hown
   have hv:val r=val d+val b:=by
    rw [Qv (by omega),Qv (by omega),Jw,Jk] at l;exact l
   have HV:=Qa hv;clear hv l a j N;go_wp2;go_ret;exact ⟨m,_,r,rfl,a0,O,HV.out,by rw [U.out];exact hk⟩
def Ib (w:World)(xa xb:List Nat)(s c i:Value)(W:World):Prop:=∃ k:Nat,k≤xa.length∧i=vI k∧c=.int .u64 ((dw xa (ah xb k)).2:Int) ∧
 W.ownsRow w.heap.size 128 1 s k (aF (dw xa (ah xb k)).1)∧bW w W
theorem pJ (va vb:Value)(b d:List Nat)(w:World)(ha:Reads .u32 w va b)(hb:Reads .u32 w vb d)(q:Limbs b)(t:Limbs d)(na:b.length≤100000)(D:d.length≤b.length)(C:val d≤val b) :
 CB 139 #[va,vb] w fun e w'=>∃ v H,e=.returned v∧Reads .u32 w' v H∧Limbs H∧val H=val b - val d∧H.length≤b.length:=by
 have n:=sj q t C D;have o:=(il b (ah d b.length)).1;have hlen:=lY b (ah d b.length);rw [bR] at hlen;have I:=Qa (And.intro o (And.intro n hlen));clear n C o hlen D;obtain ⟨aa,ca,rfl,fA,gy⟩:=ha.form;obtain ⟨ab,cb,rfl,a2,a4⟩:=hb.form;obtain ⟨X,hi,z⟩:=Js.1 fV;simp only [Prod.mk.injEq] at z;have J:=Qa z;clear z
 have f:Ib w b d vZ (.int .u64 0) (vI 0) w:=⟨0,QF _,rfl,by simp [dw,ah],by simpa [dw,ah,aF] using ZU w w.heap.size 128 1,Qj _ _⟩
 have HS:=Qa f;clear f;go_enter func139,ntmps139
 go_wp2_with fail
 go_loopw [5,6,7] (fun s c i wr=>Ib w b d s c i wr) (fun _ _ i _=>b.length - (intOf i).toNat)
 case atStart=>exact HS.out
 case round =>
  obtain ⟨k,hk,rfl,rfl,hown,g⟩:=hrel;obtain ⟨sa,sc,rfl⟩:=pq hown;obtain ⟨Q,O⟩:=il b (ah d k);have a:=jD b (ah d k) (k,d[k]?.getD 0);rw [← bL] at a;have hA:=ha.below g;have hB:=hb.below g;have S:=g.size
  by_cases hx:k<b.length
  ·obtain ⟨Y,E⟩:∃ Y,dw b (ah d k)=Y:=⟨_,rfl⟩
   rw [E] at hown Q O a ⊢;obtain ⟨r,c⟩:=Y;simp only [nN] at a;dsimp only at *;clear E;have lA:=pg (.slice aa b.length ca) b k wr hA q;have lB:=pg (.slice ab d.length cb) d k wr hB t;have U:=aK q k;have V:=aK t k;generalize b[k]?.getD 0=x at *;generalize d[k]?.getD 0=y at *
   obtain ⟨T,M⟩:∃ T,x+aj - (y+c)=T:=⟨_,rfl⟩
   rw [M] at a;unfold aj at U V M
   have a6:IntKind.u64.wrap ((4294967296:Int)+(x:Int))=4294967296+(x:Int):=by rw [Qk];omega
   have a7:IntKind.u64.wrap ((4294967296:Int)+(x:Int) - (y:Int))=4294967296+(x:Int) - (y:Int):=by rw [Qk];omega
   have a8:IntKind.u64.wrap ((4294967296:Int)+(x:Int) - (y:Int) - (c:Int))=(T:Int):=by rw [Qk];omega
   obtain ⟨m,j⟩:∃ m,T % aj=m:=⟨_,rfl⟩
   obtain ⟨l,h⟩:∃ l,T / aj=l:=⟨_,rfl⟩
   have a5:(T:Int) % 4294967296=(m:Int):=by rw [← j];unfold aj;omega
   have a3:(T:Int) / 4294967296=(l:Int):=by rw [← h];unfold aj;omega
   have a0:l≤1:=by rw [← h];unfold aj;omega
   have a1:m<4294967296:=by rw [← j];exact Qy _ (by decide)
   have ae:IntKind.u32.wrap (m:Int)=(m:Int):=by rw [Jj];omega
   have ad:IntKind.u64.wrap (l:Int)=(l:Int):=by rw [Qk];omega
   obtain ⟨G,B⟩:∃ G,1 - l=G:=⟨_,rfl⟩
   have a9:IntKind.u64.wrap (1 - (l:Int))=(G:Int):=by rw [Qk];omega
   rw [j,h,B] at a;clear j h B M;have Z:=Qa a;clear a
   have L:∀ A F,A.ownsRow w.heap.size 128 1 F (k+1) (aF r++[.int .u32 (m:Int)])→bW w A→Ib w b d F (.int .u64 (G:Int)) (vI ((k:Int)+1)) A:=fun A F h1 h2=>by
    refine ⟨k+1,by omega,by go_num,?_,?_,h2⟩
    ·rw [Z.out]
    ·rw [Z.out,jA];exact h1
   go_wp2_with (first
    | (go_at_call 175;(first | with_reducible refine lA.mono ?_ | with_reducible refine lB.mono ?_);rintro e w2 ⟨rfl,rfl⟩)
    | (at_builtin;refine wpList_append_own _ rfl _ _ 22 rfl w.heap.size 128 X (.int .u32 0) 1 4 aG hi J.out.1 J.out.2.1 J.out.2.2 rfl (by decide) _ _ _ rfl (hown.alloc _) ⟨wr.heap.size,0,none⟩ 1 1 [.int .u32 (m:Int)] rfl rfl (dI _ _ _ _ rfl) (by simp [Value.oneCell']) (by unfold maxLen;omega) (by omega) (by simp;omega) ?_;intro F A u p _))
   have N:bW w A:=g.trans (((Qj _ wr).alloc S _).grown p (by simp;omega) (fun k e=>by have:=(hown.lt k e).1;omega));have hf:=L A F u N;refine ⟨hf,?_⟩;simp [intOf];omega
  ·obtain rfl:k=b.length:=by omega
   have R:Reads .u32 wr (.slice sa b.length sc) (dw b (ah d b.length)).1:=Reads.ou hown;clear a hx;go_wp2;go_ret;exact ⟨g,_,_,rfl,R,I.out.1,I.out.2.1,Nat.le_of_eq I.out.2.2⟩
end Go.Proofs.YtagjhmodblifbaaGreatDoor
