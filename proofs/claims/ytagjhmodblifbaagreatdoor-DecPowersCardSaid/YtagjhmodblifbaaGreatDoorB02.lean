/- proved lemmas -/
import Derived.Test.YtagjhmodblifbaaGreatDoorMA
import Derived.Test.YtagjhmodblifbaaGreatDoorB00
import Derived.Test.YtagjhmodblifbaaGreatDoorB01
import Derived.Recover
import Derived.LoopN
set_option maxHeartbeats 4000000
set_option maxRecDepth 100000
set_option exponentiation.threshold 100000
namespace Go.Proofs.YtagjhmodblifbaaGreatDoor
open Go.Proofs.Tryz
open Go Go.RowKit Go.Shelf
theorem xg (p:Addr)(x:Value)(k:Int)(a:List PanicEntry)(w:World)(j:w.cell? p=some x)(l:w.frozen? p=false) :
  CallsD prog 146 #[.pointer (some p)] (.panicking ({ v:=.iface 31 (vI k),recovered:=false }::a)) w fun e f g =>
   e=.returned (.tuple #[])∧f=.panicking ({ v:=.iface 31 (vI k),recovered:=true }::a)∧g=w.setCell p (vI k):=by
 refine callsD_of_wpS func146 rfl fun i h d=>?_
 apply wpS_seq;apply wpS_region;simp [wpOpsS,go_sem,recoverD,d,ntmps146,Exit.thenS];have b:#[Value.pointer (some p)]++(Array.replicate 9 undef).setIfInBounds 3 (.iface 31 (vI k))=#[.pointer (some p),undef,undef,undef,.iface 31 (vI k),undef,undef,undef,undef,undef]:=rfl;rw [b];refine wpS_of_wp ?_
 have c:∀ W,(Instr.typeAssert (.iface 31 (vI k)) 20 31 true).run prog W=.ok (.tuple #[vI k,.bool true]) W:=fun W=>by
  simp [Instr.typeAssert,go_sem]
 go_wp2
 simp_all [bodyPostS,results,results146]
theorem Dy (p:Addr)(w:World) :
  CallsD prog 146 #[.pointer (some p)] .returning w fun e d f=>e=.returned (.tuple #[])∧d=.returning∧f=w:=by
 refine callsD_of_wpS func146 rfl fun a g c=>?_
 apply wpS_seq;apply wpS_region;simp [wpOpsS,go_sem,recoverD,c,ntmps146,Exit.thenS];have b:#[Value.pointer (some p)]++(Array.replicate 9 undef).setIfInBounds 3 Value.nilIface=#[.pointer (some p),undef,undef,undef,Value.nilIface,undef,undef,undef,undef,undef]:=rfl;rw [b];refine wpS_of_wp ?_;go_wp2;cases a
 simp_all [bodyPostS,results,results146]
theorem lK:∀ (fn:Fn) (first cap:Array Value) (w:World),(Instr.makeFunc fn first cap).run prog w=.ok (.func fn first cap) w:=fun _ _ _ _=>rfl
theorem fT (F:Nat)(d:Array Value)(w:World)(a:Int→World→Prop)(n:∀ W,(callFunc F d).run prog W=.ok (.enter F d) W)(b:∀ k W,a k W→Boxed W w.heap.size 31 (vI 0))
  (j:Calls prog F d (w.alloc (.cells #[vI 0] 31)) fun e W=>(e=.returned (.tuple #[])∧a 0 W)∨∃ k,e=pK k∧a k W) :
  Calls prog 79 #[.func (.func F) #[] d] w fun e i=>∃ k W,a k W∧e=.returned (vI k)∧i=W.setCell ⟨w.heap.size,0,none⟩ (vI k):=by
 have o:=lK
 go_enter_defers func79,ntmps79
 go_wp2_with (refine j.mono ?_;rintro e W (⟨rfl,c⟩ | ⟨k,rfl,c⟩) <;> have g:=(b _ _ c).cell <;> have l:=(b _ _ c).frozen)
 ·refine leaves_cons (f:=146) (args:=#[vP w.heap.size]) (by simp) (by simp [go_sem]) ?_
  refine (Dy ⟨w.heap.size,0,none⟩ _).mono ?_;rintro e m h ⟨rfl,rfl,rfl⟩;simp [Leaves,settle,results,results79,go_sem];rw [ZV _ _ _ g];exact ⟨_,rfl,0,W,c,rfl,rfl⟩
 ·refine leaves_cons (f:=146) (args:=#[vP w.heap.size]) (by simp) (by simp [go_sem]) ?_
  refine (xg ⟨w.heap.size,0,none⟩ _ k [] _ g l).mono ?_;rintro e m h ⟨rfl,rfl,rfl⟩;simp [Leaves,settle,results,results79,go_sem];rw [ZV _ _ _ g];exact ⟨_,rfl,k,W,c,rfl,rfl⟩
theorem qx {xs:List Nat}(h:xs[xs.length - 1]?.getD 0≠0):trimmed xs=xs:=by
 rcases List.eq_nil_or_concat xs with rfl | ⟨ys,y,rfl⟩
 ·rfl
 ·simp at h
  simp [trimmed,h]
def dx (w:World)(v:Value)(neg:Bool)(xs:List Nat):Prop:=∃ va,v=.agg #[.bool neg,va]∧Reads .u32 w va xs∧Limbs xs
def au (neg:Bool)(xs:List Nat):Bool:=decide (xs.length≤300)&&decide (trimmed xs=xs)&&!(neg&&decide (xs.length=0))
theorem fF (v:Value)(neg:Bool)(xs:List Nat)(w:World)(h:dx w v neg xs)(hf:au neg xs=true) :
 CB 75 #[v] w fun e _=>e=.returned (vI 0):=by
 obtain ⟨u,rfl,hr,q⟩:=h;obtain ⟨a,c,rfl,t,r⟩:=hr.form;unfold maxLen at r;simp only [au,Jt,decide_eq_true_eq,YV,Bool.and_eq_false_iff,decide_eq_false_iff_not] at hf;obtain ⟨⟨h1,l⟩,m⟩:=hf
 by_cases i:xs.length=0
 ·have n:neg=false:=by rcases m with h | h;exact h;exact absurd i h
  subst n;go_enter func75,ntmps75;go_wp2;exact bodyPost_ret (v:=vI 0) (by simp [results,results75,go_sem]) rfl ⟨dJ _ _,rfl⟩
 ·have p:((xs.length - 1:Nat):Int)=(xs.length:Int) - 1:=by omega
  have d:=iK (xs:=xs) ⟨q,l⟩ (by intro e;subst e;simp at i);have j:=dJ w (.cells #[.bool neg,.slice a xs.length c] 24);have b:=(hr.below j).cell (xs.length - 1) (by omega)
  have g:=fun W=>hr.index aG bZ (P:=prog) (xs.length - 1) .i64 W (by omega)
  rw [p] at g
  obtain ⟨f,o⟩:∃ f,xs[xs.length - 1]?.getD 0=f:=⟨_,rfl⟩
  rw [o] at b d;generalize xs.length - 1=k at *
  have s:¬(f:Int)=0:=by omega
  go_enter func75,ntmps75;go_wp2;exact bodyPost_ret (v:=vI 0) (by simp [results,results75,go_sem]) rfl ⟨dJ _ _,rfl⟩
theorem mM (v:Value)(neg:Bool)(xs:List Nat)(w:World)(h:dx w v neg xs)(hf:au neg xs=false) :
 CB 75 #[v] w fun e _=>e=.returned (vI 1):=by
 obtain ⟨p,rfl,hr,o⟩:=h;obtain ⟨a,c,rfl,g,m⟩:=hr.form;unfold maxLen at m
 by_cases h1:300<xs.length
 ·clear hf
  go_enter func75,ntmps75;go_wp2;exact bodyPost_ret (v:=vI 1) (by simp [results,results75,go_sem]) rfl ⟨dJ _ _,rfl⟩
 by_cases n:xs.length=0
 ·have j:neg=true:=by
   have:xs=[]:=JP n;subst this
   cases neg <;> simp_all [au,trimmed]
  subst j;clear hf;go_enter func75,ntmps75;go_wp2;exact bodyPost_ret (v:=vI 1) (by simp [results,results75,go_sem]) rfl ⟨dJ _ _,rfl⟩
 ·have d:xs[xs.length - 1]?.getD 0=0:=by
   apply Zc;intro g;have:=qx g
   simp_all [au]
  clear hf
  have l:((xs.length - 1:Nat):Int)=(xs.length:Int) - 1:=by omega
  have i:=dJ w (.cells #[.bool neg,.slice a xs.length c] 24);have b:=(hr.below i).cell (xs.length - 1) (by omega)
  have f:=fun W=>hr.index aG bZ (P:=prog) (xs.length - 1) .i64 W (by omega)
  rw [l] at f;rw [d] at b;generalize xs.length - 1=k at *;go_enter func75,ntmps75;go_wp2;exact bodyPost_ret (v:=vI 1) (by simp [results,results75,go_sem]) rfl ⟨dJ _ _,rfl⟩
theorem Ce (v:Value)(neg:Bool)(xs:List Nat)(w:World)(h:dx w v neg xs) :
 CB 69 #[v] w fun e _=>e=.returned (.bool (au neg xs)):=by
 obtain ⟨y,rfl,hr,s⟩:=h;obtain ⟨a,c,rfl,x,t⟩:=hr.form;unfold maxLen at t
 by_cases i:xs.length=0
 ·have b:au neg xs=!neg:=by
   have:xs=[]:=JP i;subst this
   cases neg <;> rfl
  rw [b]
  have m:(((xs.length:Nat):Int) == 0)=true:=by simp [i]
  clear b;go_enter func69,ntmps69;go_wp2;go_ret;exact ⟨dJ _ _,rfl⟩
 ·have m:(((xs.length:Nat):Int) == 0)=false:=beq_eq_false_iff_ne.2 (by omega)
  by_cases h1:300<xs.length
  ·have b:au neg xs=false:=by simp [au,show ¬xs.length≤300 by omega]
   rw [b]
   have q:decide ((xs.length:Int)≤300)=false:=by simp;omega
   clear b;go_enter func69,ntmps69;go_wp2;go_ret;exact ⟨dJ _ _,rfl⟩
  ·have q:decide ((xs.length:Int)≤300)=true:=by simp;omega
   have r:((xs.length - 1:Nat):Int)=(xs.length:Int) - 1:=by omega
   have o:=dJ w (.cells #[.bool neg,.slice a xs.length c] 24);have d:=(hr.below o).cell (xs.length - 1) (by omega)
   have l:=fun W=>hr.index aG bZ (P:=prog) (xs.length - 1) .i64 W (by omega)
   rw [r] at l
   have p:¬(xs.length:Int)≤0:=by omega
   by_cases g:xs[xs.length - 1]?.getD 0=0
   ·have b:au neg xs=false:=by
     have j:trimmed xs≠xs:=fun e=>iK (xs:=xs) ⟨s,e⟩ (by intro e;subst e;simp at i) g
     simp [au,j]
    rw [b];rw [g] at d;clear b g;generalize xs.length - 1=k at *;go_enter func69,ntmps69;go_wp2;go_ret;exact ⟨dJ _ _,rfl⟩
   ·have b:au neg xs=true:=by
     have j:trimmed xs=xs:=qx g;simp [au,j,show xs.length≤300 by omega];exact .inr (by intro e;simp [e] at i)
    rw [b]
    obtain ⟨f,n⟩:∃ f,xs[xs.length - 1]?.getD 0=f:=⟨_,rfl⟩
    rw [n] at d g
    have u:(((f:Nat):Int) != 0)=true:=by simp;omega
    clear b n g;generalize xs.length - 1=k at *;go_enter func69,ntmps69;go_wp2;go_ret;exact ⟨dJ _ _,rfl⟩
theorem below_drewN {B:Nat}{w W:World}(h:Below B w W)(n:Nat):Below B w (W.drewN n):=⟨h.os,h.tape,h.output,h.size,h.block⟩
def uw (na nb:Bool)(xa xb:List Nat):Bool:=decide (na=nb)&&decide (xa=xb)
theorem FR (J L:Value)(na nb:Bool)(a b:List Nat)(w:World)(ha:dx w J na a)(U:dx w L nb b) :
 CB 52 #[J,L] w fun e _=>e=.returned (.bool (uw na nb a b)):=by
 obtain ⟨sa,rfl,m,Y⟩:=ha;obtain ⟨sb,rfl,n,Z⟩:=U;obtain ⟨r,t,rfl,fA,T⟩:=m.form;obtain ⟨s,u,rfl,V,E⟩:=n.form;unfold maxLen at T E;have f:=(dJ w (.cells #[.bool na,.slice r a.length t] 24)).alloc (by simp) (.cells #[.bool nb,.slice s b.length u] 24)
 by_cases o:na=nb
 ·subst o
  have F:(na != na)=false:=by simp
  by_cases v:a.length=b.length
  ·have D:(((a.length:Nat):Int) != (b.length:Int))=false:=by rw [v];simp
   have c:uw na na a b=decide (a=b):=by simp [uw]
   rw [c];have A:=Qa v;have g:=m.below f;have h:=n.below f;clear v c;have M:=Qa F
   obtain ⟨q,j⟩:∃ q,(w.alloc (.cells #[.bool na,.slice r a.length t] 24)).alloc (.cells #[.bool na,.slice s b.length u] 24)=q:=⟨_,rfl⟩
   have ra:=(af.new w 24 (lN na r a.length t)).alloc (.cells #[.bool na,.slice s b.length u] 24);have rb:=af.new (w.alloc (.cells #[.bool na,.slice r a.length t] 24)) 24 (lN na s b.length u);simp only [Qh] at rb;rw [j] at ra rb g h f;have N:=Qa j;clear j;go_enter func52,ntmps52;go_wp2
   go_loopw [5] (fun i W=>∃ k:Nat,k≤a.length∧i=vI k∧a.take k=b.take k∧∃ nq,W=q.drewN nq) (fun i _=>a.length - (intOf i).toNat)
   case atStart=>exact ⟨0,QF _,rfl,rfl,0,by rw [N.out];rfl⟩
   case round =>
    obtain ⟨k,hk,rfl,d,nq,rfl⟩:=hrel;have I:=(ra.below (Qj _ _)).cell 1;have c2:=Dk rb;simp only [Qc,Qe] at I;have O:(q.drewN nq).cell? ⟨w.heap.size,1,none⟩=some (.slice r a.length t):=I;have Q:(q.drewN nq).cell? ⟨w.heap.size+1,1,none⟩=some (.slice s b.length u):=c2
    by_cases l:k<a.length
    ·have i1:=fun W=>m.index aG bZ (P:=prog) k .i64 W l
     have i2:=fun W=>n.index aG bZ (P:=prog) k .i64 W (by have:=A.out;omega)
     have R:=g.cell k l;have S:=h.cell k (by have:=A.out;omega)
     obtain ⟨x,G⟩:∃ x,a[k]?.getD 0=x:=⟨_,rfl⟩
     obtain ⟨y,H⟩:∃ y,b[k]?.getD 0=y:=⟨_,rfl⟩
     rw [G] at R;rw [H] at S;have p:=Qa (And.intro G (And.intro H d));clear G H d
     by_cases z:x=y
     ·subst z
      have X:(((x:Nat):Int) != (x:Int))=false:=by simp
      go_wp2_with fail
      go_quiet (fail)
      go_wp2
      have C:a.take (k+1)=b.take (k+1):=by
       rw [iW a k l,iW b k (by have:=A.out;omega),p.out.1,p.out.2.1,p.out.2.2]
      exact ⟨⟨k+1,by omega,by go_num,C,_,rfl⟩,by simp [intOf];omega⟩
     ·have X:(((x:Nat):Int) != (y:Int))=true:=by simp;omega
      have c:decide (a=b)=false:=by
       simp only [decide_eq_false_iff_not];intro e;subst e;exact z (p.out.1.symm.trans p.out.2.1)
      have B:=Qa c;clear c
      go_wp2_with fail
      go_quiet (fail)
      go_wp2;go_ret;exact ⟨below_drewN (below_drewN f _) _,by rw [B.out];rfl⟩
    ·have c:decide (a=b)=true:=by
      simp only [decide_eq_true_eq];have h1:=d;rw [Qv (by omega),Qv (by have:=A.out;omega)] at h1;exact h1
     have B:=Qa c
     have hd:decide ((k:Int)<(a.length:Int))=false:=by simp;omega
     clear c d;go_wp2;go_ret;exact ⟨below_drewN f _,by rw [B.out];rfl⟩
  ·have D:(((a.length:Nat):Int) != (b.length:Int))=true:=by simp;omega
   have c:uw na na a b=false:=by
    simp only [uw,decide_true,Jn,decide_eq_false_iff_not];intro e;exact v (by rw [e])
   rw [c];clear c v;go_enter func52,ntmps52;go_wp2;go_ret;exact ⟨f,rfl⟩
 ·have c:uw na nb a b=false:=by simp [uw,o]
  rw [c];clear c
  cases na <;> cases nb
  ·exact absurd rfl o
  ·clear o
   go_enter func52,ntmps52;go_wp2;go_ret;exact ⟨f,rfl⟩
  ·clear o
   go_enter func52,ntmps52;go_wp2;go_ret;exact ⟨f,rfl⟩
  ·exact absurd rfl o
theorem Iw:prog.underlying 93=some (.slice 24):=by kernel_rfl
theorem Iy (w:World):(sizeOf 24).run prog w=.ok 2 w:=by simp [go_sem]
theorem eX (b n j:Nat)(c:j<n)(W:World):(Instr.indexAt 93 (.slice (some ⟨b,0,none⟩) n n) (vI j)).run prog W=.ok (.pointer (some ⟨b,j*2,none⟩)) W:=by
 have a:prog.elem 93=24:=by simp [Program.elem]
 have h1:(sizeOf (prog.elem 93)).run prog W=.ok 2 W:=by rw [a];exact Iy W
 rw [run_indexAt_slice W 93 ⟨b,0,none⟩ n n .i64 j (by rw [Iw,a])];rw [if_pos ⟨by omega,by omega⟩,h1];simp [Result.andThen,Addr.add];intro h;exact h.symm
theorem gV (b:Nat)(na:Bool)(c:Option Addr)(d:Nat)(a:List Nat)(w:World)(hr:af w b 24 (lN na c a.length d))(ha:Reads .u32 w (.slice c a.length d) a)(f:Limbs a)(j:au na a=true) :
 CB 182 #[.slice (some ⟨b,0,none⟩) 1 1] w fun e _=>e=.returned (.tuple #[]):=by
 obtain ⟨l,m⟩:=aQ hr;have k:=eX b 1 0 (by decide);simp only [QC,QI] at k;have g:=dJ w (.cells #[.bool na,.slice c a.length d] 24);go_enter func182,ntmps182
 go_wp2_with fail
 refine wp_loop_rounds 3 ?_;rw [rounds_succ]
 go_wp2_with (first | (go_at_call 75;refine (fF _ na a _ ⟨_,rfl,ha.below g,f⟩ j).mono ?_;rintro e w1 ⟨h,rfl⟩;have i:=g.trans (h.mono (by simp))) | (go_at_call 106;refine (aC _ _ _ (by rfl)).mono ?_;rintro e n ⟨rfl,rfl⟩))
 rw [rounds_succ]
 go_wp2_with fail
 go_end0
 exact ⟨i,rfl⟩
theorem tH (b:Nat)(na:Bool)(c:Option Addr)(d:Nat)(a:List Nat)(w:World)(hr:af w b 24 (lN na c a.length d))(ha:Reads .u32 w (.slice c a.length d) a)(f:Limbs a)(j:au na a=false) :
 CB 182 #[.slice (some ⟨b,0,none⟩) 1 1] w fun e _=>e=pK 1:=by
 obtain ⟨l,m⟩:=aQ hr;have k:=eX b 1 0 (by decide);simp only [QC,QI] at k;have g:=dJ w (.cells #[.bool na,.slice c a.length d] 24);go_enter func182,ntmps182
 go_wp2_with fail
 refine wp_loop_rounds 3 ?_;rw [rounds_succ]
 go_wp2_with (first | (go_at_call 75;refine (mM _ na a _ ⟨_,rfl,ha.below g,f⟩ j).mono ?_;rintro e w1 ⟨h,rfl⟩;have i:=g.trans (h.mono (by simp))) | (go_at_call 106;refine (bD _ _ _ (by rfl)).mono ?_;rintro e n ⟨rfl,rfl⟩))
 exact ⟨rfl,i,rfl⟩
theorem nK (b:Nat)(na nb:Bool)(f g:Option Addr)(h i:Nat)(a c:List Nat)(w:World)(hr:af w b 24 [.bool na,.slice f a.length h,.bool nb,.slice g c.length i])(ha:Reads .u32 w (.slice f a.length h) a)(j:Limbs a)(p:au na a=true)(r:Reads .u32 w (.slice g c.length i) c)(k:Limbs c)(q:au nb c=true) :
 CB 182 #[.slice (some ⟨b,0,none⟩) 2 2] w fun e _=>e=.returned (.tuple #[]):=by
 obtain ⟨v,x⟩:=aQ hr;have s:=eX b 2 0 (by decide);simp only [QC,QI] at s;have t:=eX b 2 1 (by decide);simp only [JK,QD] at t;have l:=dJ w (.cells #[.bool na,.slice f a.length h] 24);go_enter func182,ntmps182
 go_wp2_with fail
 refine wp_loop_rounds 3 ?_;rw [rounds_succ]
 go_wp2_with (first | (go_at_call 75;refine (fF _ na a _ ⟨_,rfl,ha.below l,j⟩ p).mono ?_;rintro e w1 ⟨m,rfl⟩;have d:=l.trans (m.mono (by simp));have r1:=hr.below d;obtain ⟨c2,y⟩:=BD r1) | (go_at_call 106;refine (aC _ _ _ (by rfl)).mono ?_;rintro e u ⟨rfl,rfl⟩))
 rw [rounds_succ]
 go_wp2_with (first | (go_at_call 75;refine (fF _ nb c _ ⟨_,rfl,r.below (d.alloc d.size _),k⟩ q).mono ?_;rintro e z ⟨o,rfl⟩;have n:=(d.alloc d.size (.cells #[.bool nb,.slice g c.length i] 24)).trans (o.mono (by have:=d.size;simp;omega))) | (go_at_call 106;refine (aC _ _ _ (by rfl)).mono ?_;rintro e u ⟨rfl,rfl⟩))
 rw [rounds_succ]
 go_wp2_with fail
 go_end0
 exact ⟨n,rfl⟩
theorem uN (b:Nat)(na nb:Bool)(f g:Option Addr)(h i:Nat)(a c:List Nat)(w:World)(hr:af w b 24 [.bool na,.slice f a.length h,.bool nb,.slice g c.length i])(ha:Reads .u32 w (.slice f a.length h) a)(j:Limbs a)(p:au na a=true)(r:Reads .u32 w (.slice g c.length i) c)(k:Limbs c)(q:au nb c=false) :
 CB 182 #[.slice (some ⟨b,0,none⟩) 2 2] w fun e _=>e=pK 1:=by
 obtain ⟨v,x⟩:=aQ hr;have s:=eX b 2 0 (by decide);simp only [QC,QI] at s;have t:=eX b 2 1 (by decide);simp only [JK,QD] at t;have l:=dJ w (.cells #[.bool na,.slice f a.length h] 24);go_enter func182,ntmps182
 go_wp2_with fail
 refine wp_loop_rounds 3 ?_;rw [rounds_succ]
 go_wp2_with (first | (go_at_call 75;refine (fF _ na a _ ⟨_,rfl,ha.below l,j⟩ p).mono ?_;rintro e w1 ⟨m,rfl⟩;have d:=l.trans (m.mono (by simp));have r1:=hr.below d;obtain ⟨c2,y⟩:=BD r1) | (go_at_call 106;refine (aC _ _ _ (by rfl)).mono ?_;rintro e u ⟨rfl,rfl⟩))
 rw [rounds_succ]
 go_wp2_with (first | (go_at_call 75;refine (mM _ nb c _ ⟨_,rfl,r.below (d.alloc d.size _),k⟩ q).mono ?_;rintro e z ⟨o,rfl⟩;have n:=(d.alloc d.size (.cells #[.bool nb,.slice g c.length i] 24)).trans (o.mono (by have:=d.size;simp;omega))) | (go_at_call 106;refine (bD _ _ _ (by rfl)).mono ?_;rintro e u ⟨rfl,rfl⟩))
 exact ⟨rfl,n,rfl⟩
theorem xX (b:Nat)(na nb:Bool)(c i:Option Addr)(d k:Nat)(a o:List Nat)(w:World)(hr:af w b 24 [.bool na,.slice c a.length d,.bool nb,.slice i o.length k])(ha:Reads .u32 w (.slice c a.length d) a)(f:Limbs a)(l:au na a=false) :
 CB 182 #[.slice (some ⟨b,0,none⟩) 2 2] w fun e _=>e=pK 1:=by
 obtain ⟨p,q⟩:=aQ hr;have m:=eX b 2 0 (by decide);simp only [QC,QI] at m;have n:=eX b 2 1 (by decide);simp only [JK,QD] at n;have g:=dJ w (.cells #[.bool na,.slice c a.length d] 24);go_enter func182,ntmps182
 go_wp2_with fail
 refine wp_loop_rounds 3 ?_;rw [rounds_succ]
 go_wp2_with (first | (go_at_call 75;refine (mM _ na a _ ⟨_,rfl,ha.below g,f⟩ l).mono ?_;rintro e w1 ⟨h,rfl⟩;have j:=g.trans (h.mono (by simp))) | (go_at_call 106;refine (bD _ _ _ (by rfl)).mono ?_;rintro e r ⟨rfl,rfl⟩))
 exact ⟨rfl,j,rfl⟩
theorem tJ (neg:Bool)(a:Option Addr)(n b:Nat)(w:World)(c:¬n≤300) :
 CB 183 #[vN neg a n b] w fun e _=>e=pK 3:=by
 go_enter func183,ntmps183
 go_wp2_with (go_at_call 106;refine (bD _ _ _ (by simp;try omega)).mono ?_;rintro e d ⟨rfl,rfl⟩)
 exact ⟨rfl,(dJ _ _).alloc (by simp) _,rfl⟩
theorem bS {xs:List Nat}(h:Canon xs)(k:Nat):xs.length≤k↔val xs<aj^k:=by
 refine ⟨fun a=>?_,aA h⟩;exact Qf (fu h.1) (Ql (by decide) a)
theorem Iz (B G:Nat)(na nb:Bool)(b d:Option Addr)(c f:Nat)(a g:List Nat)(r0:Bool)(r1:Option Addr)(r2 r3:Nat)(w:World)(i:af w B 24 (lN na b a.length c))(j:af w (B+1) 24 (lN nb d g.length f))
  (_hG:af w (B+2) 80 [.func (.func G) #[] #[]]) (_hR:af w (B+3) 24 (lN r0 r1 r2 r3)) (ha:Reads .u32 w (.slice b a.length c) a) (h:Limbs a) (o:au na a=false) :
  Calls prog 181 #[vP B,vP (B+1),vP (B+2),vP (B+3)] w fun e p=>bW w p∧e=pK 1:=by
 obtain ⟨q,r⟩:=aQ i;obtain ⟨s,t⟩:=aQ j;have k:=af.new w 24 [.bool na,.slice b a.length c,.bool nb,.slice d g.length f];have l:=dJ w (.cells #[.bool na,.slice b a.length c,.bool nb,.slice d g.length f] 24);go_enter func181,ntmps181
 go_wp2_with (go_at_call 182;refine (xX _ na nb b d c f a g _ k (ha.below l) h o).mono ?_;rintro e w1 ⟨m,rfl⟩;have n:=l.trans (m.mono (by simp)))
 exact ⟨rfl,n,rfl⟩
theorem Dz (B G:Nat)(na nb:Bool)(c d:Option Addr)(f g:Nat)(a b:List Nat)(r0:Bool)(r1:Option Addr)(r2 r3:Nat)(w:World)(k:af w B 24 (lN na c a.length f))(l:af w (B+1) 24 (lN nb d b.length g))
  (_hG:af w (B+2) 80 [.func (.func G) #[] #[]]) (_hR:af w (B+3) 24 (lN r0 r1 r2 r3)) (ha:Reads .u32 w (.slice c a.length f) a) (i:Limbs a) (p:au na a=true) (r:Reads .u32 w (.slice d b.length g) b) (j:Limbs b) (q:au nb b=false) :
  Calls prog 181 #[vP B,vP (B+1),vP (B+2),vP (B+3)] w fun e s=>bW w s∧e=pK 1:=by
 obtain ⟨t,u⟩:=aQ k;obtain ⟨v,x⟩:=aQ l;have m:=af.new w 24 [.bool na,.slice c a.length f,.bool nb,.slice d b.length g];have h:=dJ w (.cells #[.bool na,.slice c a.length f,.bool nb,.slice d b.length g] 24);go_enter func181,ntmps181
 go_wp2_with (go_at_call 182;refine (uN _ na nb c d f g a b _ m (ha.below h) i p (r.below h) j q).mono ?_;rintro e w1 ⟨n,rfl⟩;have o:=h.trans (n.mono (by simp)))
 exact ⟨rfl,o,rfl⟩
theorem DC (B G:Nat)(na nb:Bool)(l o:Option Addr)(s t:Nat)(d f:List Nat)(r0:Bool)(r1:Option Addr)(r2 r3:Nat)(w:World)(i:af w B 24 (lN na l d.length s))(j:af w (B+1) 24 (lN nb o f.length t))
  (Y:af w (B+2) 80 [.func (.func G) #[] #[]]) (Z:af w (B+3) 24 (lN r0 r1 r2 r3)) (ha:Reads .u32 w (.slice l d.length s) d) (hb:Reads .u32 w (.slice o f.length t) f) (D:Limbs d) (E:Limbs f) (V:au na d=true) (X:au nb f=true) (r:Int) (hF:∀ W args,(callFunc G args).run prog W=.ok (.enter G args) W)
  (H:∀ W,bW w W→Calls prog G #[vN na l d.length s,vN nb o f.length t] W fun e M=>bW W M∧∃ v,e=.returned v∧ak M v r) (h:r.natAbs<aj^300) :
  Calls prog 181 #[vP B,vP (B+1),vP (B+2),vP (B+3)] w fun e L=>e=.returned (.tuple #[])∧dF (fun k=>k=B+3) w L∧∃ n a m c,af L (B+3) 24 (lN n a m c)∧ak L (vN n a m c) r:=by
 obtain ⟨a0,a1⟩:=aQ i;obtain ⟨b0,b1⟩:=aQ j;have J:=af.new w 24 [.bool na,.slice l d.length s,.bool nb,.slice o f.length t];have C:=dJ w (.cells #[.bool na,.slice l d.length s,.bool nb,.slice o f.length t] 24);have S:=Qa h;clear h;go_enter func181,ntmps181
 go_wp2_with (first | (go_at_call 182;refine (nK _ na nb l o s t d f _ J (ha.below C) D V (hb.below C) E X).mono ?_;rintro e w1 ⟨T,rfl⟩;have g:=C.trans (T.mono (by simp));have p1:=(i.below g).cell 0;have p2:=(i.below g).cell 1;have p3:=(j.below g).cell 0;have p4:=(j.below g).cell 1;have p5:=(Y.below g).cell 0;simp only [Qc,Qe] at p1 p2 p3 p4 p5) | (refine (H _ g).mono ?_;rintro e w2 ⟨U,v,rfl,n2,v2,A,rfl,z,y,F,x⟩;have R:=g.trans (U.mono g.size);obtain ⟨a2,c2,rfl,a3,a4⟩:=z.form;have hlen:=bS y 300;have I:r.natAbs=val A:=by rw [x,bM]) | (go_at_call 183;refine (qO _ _ _ _ _ (hlen.2 (by rw [← I];exact S.out))).mono ?_;rintro e w3 ⟨N,rfl⟩;have u:=R.trans (N.mono R.size);have q:=Z.below u;have O:=q.cell 0;have Q:=q.cell 1;have q3:=q.frozen 0;have q4:=q.frozen 1;simp only [Qc,Qe] at O Q))
 go_end0
 have hk:=bf (b:=B+3) (z.below N) O Q (.bool n2) (.slice a2 A.length c2);exact ⟨rfl,(((dF.refl (fun k=>k=B+3) w).aU u).setCell (p:=⟨B+3,0,none⟩) (.inl rfl) _).setCell (p:=⟨B+3,1,none⟩) (.inl rfl) _,n2,a2,A.length,c2,(q.set 0 (.bool n2)).set 1 (.slice a2 A.length c2),n2,_,A,rfl,hk,y,F,x⟩
theorem FT (B G:Nat)(na nb:Bool)(h i:Option Addr)(j k:Nat)(a b:List Nat)(r0:Bool)(r1:Option Addr)(r2 r3:Nat)(w:World)(f:af w B 24 (lN na h a.length j))(g:af w (B+1) 24 (lN nb i b.length k))
  (I:af w (B+2) 80 [.func (.func G) #[] #[]]) (_hR:af w (B+3) 24 (lN r0 r1 r2 r3)) (ha:Reads .u32 w (.slice h a.length j) a) (J:Reads .u32 w (.slice i b.length k) b) (p:Limbs a) (q:Limbs b) (F:au na a=true) (H:au nb b=true) (r:Int) (hF:∀ W args,(callFunc G args).run prog W=.ok (.enter G args) W)
  (s:∀ W,bW w W→Calls prog G #[vN na h a.length j,vN nb i b.length k] W fun e y=>bW W y∧∃ v,e=.returned v∧ak y v r) (d:¬r.natAbs<aj^300) :
  Calls prog 181 #[vP B,vP (B+1),vP (B+2),vP (B+3)] w fun e U=>bW w U∧e=pK 3:=by
 obtain ⟨X,Y⟩:=aQ f;obtain ⟨Z,b1⟩:=aQ g;have x:=af.new w 24 [.bool na,.slice h a.length j,.bool nb,.slice i b.length k];have l:=dJ w (.cells #[.bool na,.slice h a.length j,.bool nb,.slice i b.length k] 24);have A:=Qa d;clear d;go_enter func181,ntmps181
 go_wp2_with (first | (go_at_call 182;refine (nK _ na nb h i j k a b _ x (ha.below l) p F (J.below l) q H).mono ?_;rintro e w1 ⟨C,rfl⟩;have c:=l.trans (C.mono (by simp));have O:=(f.below c).cell 0;have Q:=(f.below c).cell 1;have R:=(g.below c).cell 0;have S:=(g.below c).cell 1;have T:=(I.below c).cell 0;simp only [Qc,Qe] at O Q R S T) | (refine (s _ c).mono ?_;rintro e w2 ⟨D,v,rfl,n2,v2,V,rfl,t,o,N,n⟩;have z:=c.trans (D.mono c.size);obtain ⟨a2,c2,rfl,L,M⟩:=t.form;have hlen:=bS o 300;have u:r.natAbs=val V:=by rw [n,bM]) | (go_at_call 183;refine (tJ _ _ _ _ _ (fun e=>A.out (by rw [u];exact hlen.1 e))).mono ?_;rintro e w3 ⟨E,rfl⟩;have m:=z.trans (E.mono z.size)))
 exact ⟨rfl,m,rfl⟩
def eQ:Value:=vN false none 0 0
def fU (fa fb:Bool)(r k:Int)(W:World)(v:Value):Prop :=
 if (fa&&fb)=true then (if r.natAbs<aj^300 then k=0∧ak W v r else k=3∧v=eQ) else k=1∧v=eQ
theorem ak.keep {W a:World}{v:Value}{i:Int}(h:ak W v i)(c:∀ v xs,Reads .u32 W v xs→Reads .u32 a v xs):ak a v i:=by
 obtain ⟨neg,f,xs,e,hr,b,d,hi⟩:=h;exact ⟨neg,f,xs,e,c _ _ hr,b,d,hi⟩
theorem fU.keep {a b:Bool}{r k:Int}{W c:World}{v:Value}(h:fU a b r k W v)(f:∀ v xs,Reads .u32 W v xs→Reads .u32 c v xs):fU a b r k c v:=by
 unfold fU at *
 by_cases h1:(a&&b)=true
 ·rw [if_pos h1] at h ⊢
  by_cases d:r.natAbs<aj^300
  ·rw [if_pos d] at h ⊢
   exact ⟨h.1,h.2.keep f⟩
  ·rw [if_neg d] at h ⊢
   exact h
 ·rw [if_neg h1] at h ⊢
  exact h
theorem FU (B G:Nat)(na nb:Bool)(p q:Option Addr)(s t:Nat)(f g:List Nat)(w:World)(l:af w B 24 (lN na p f.length s))(o:af w (B+1) 24 (lN nb q g.length t))
  (z:af w (B+2) 80 [.func (.func G) #[] #[]]) (u:af w (B+3) 24 (lN false none 0 0)) (ha:Reads .u32 w (.slice p f.length s) f)
  (A:Reads .u32 w (.slice q g.length t) g) (j:Limbs f) (x:Limbs g) (r:Int) (E:∀ W args,(callFunc G args).run prog W=.ok (.enter G args) W)
  (y:au na f=true→au nb g=true→∀ W,bW w W→Calls prog G #[vN na p f.length s,vN nb q g.length t] W fun e D=>bW W D∧∃ v,e=.returned v∧ak D v r) :
  Calls prog 181 #[vP B,vP (B+1),vP (B+2),vP (B+3)] w fun e W =>
   ∃ k,(k=0∧e=.returned (.tuple #[])∨e=pK k)∧dF (fun k=>k=B+3) w W∧∃ n a m c,af W (B+3) 24 (lN n a m c)∧fU (au na f) (au nb g) r k W (vN n a m c):=by
 have i:∀ W,bW w W→dF (fun k=>k=B+3) w W:=fun W h=>(dF.refl _ w).aU h
 cases hfa:au na f with
 | false =>
  refine (Iz B G na nb p q s t f g false none 0 0 w l o z u ha j hfa).mono ?_;rintro e W ⟨b,rfl⟩;exact ⟨1,.inr rfl,i _ b,false,none,0,0,u.below b,by simp [fU,eQ]⟩
 | true =>
  cases wX:au nb g with
  | false =>
   refine (Dz B G na nb p q s t f g false none 0 0 w l o z u ha j hfa A x wX).mono ?_;rintro e W ⟨b,rfl⟩;exact ⟨1,.inr rfl,i _ b,false,none,0,0,u.below b,by simp [fU,eQ]⟩
  | true =>
   by_cases d:r.natAbs<aj^300
   ·refine (DC B G na nb p q s t f g false none 0 0 w l o z u ha A j x hfa wX r E (y hfa wX) d).mono ?_
    rintro e W ⟨rfl,C,n,a,m,c,h1,F⟩;exact ⟨0,.inl ⟨rfl,rfl⟩,C,n,a,m,c,h1,by simp only [fU,Yr,if_true,if_pos d];exact ⟨trivial,F⟩⟩
   ·refine (FT B G na nb p q s t f g false none 0 0 w l o z u ha A j x hfa wX r E (y hfa wX) d).mono ?_
    rintro e W ⟨b,rfl⟩;exact ⟨3,.inr rfl,i _ b,false,none,0,0,u.below b,by simp only [fU,Yr,if_true,if_neg d];exact ⟨trivial,rfl⟩⟩
theorem xK (G:Nat)(a b:Value)(na nb:Bool)(d f:List Nat)(w:World)(ha:dx w a na d)(V:dx w b nb f)(r:Int)(T:∀ W args,(callFunc G args).run prog W=.ok (.enter G args) W)
  (H:au na d=true→au nb f=true→∀ W,bW w W→Calls prog G #[a,b] W fun e C=>bW W C∧∃ v,e=.returned v∧ak C v r) :
  Calls prog 140 #[a,b,.func (.func G) #[] #[]] w fun e R=>bW w R∧∃ v k,e=.returned (.tuple #[v,vI k])∧fU (au na d) (au nb f) r k R v:=by
 obtain ⟨va,rfl,t,E⟩:=ha;obtain ⟨vb,rfl,u,F⟩:=V;obtain ⟨g,l,rfl,fA,gy⟩:=t.form;obtain ⟨j,o,rfl,X,Y⟩:=u.form;have uZ:=lK;have J:=((((af.new w 24 (lN na g d.length l)).alloc (.cells #[.bool nb,.slice j f.length o] 24)).alloc (.cells #[.func (.func G) #[] #[]] 80)).alloc (.cells #[vF,vZ] 24)).alloc (.cells #[vI 0] 31)
 have L:=(((af.new (w.alloc (.cells #[.bool na,.slice g d.length l] 24)) 24 (lN nb j f.length o)).alloc (.cells #[.func (.func G) #[] #[]] 80)).alloc (.cells #[vF,vZ] 24)).alloc (.cells #[vI 0] 31)
 have M:=((af.new ((w.alloc (.cells #[.bool na,.slice g d.length l] 24)).alloc (.cells #[.bool nb,.slice j f.length o] 24)) 80 [.func (.func G) #[] #[]]).alloc (.cells #[vF,vZ] 24)).alloc (.cells #[vI 0] 31)
 have N:=(af.new (((w.alloc (.cells #[.bool na,.slice g d.length l] 24)).alloc (.cells #[.bool nb,.slice j f.length o] 24)).alloc (.cells #[.func (.func G) #[] #[]] 80)) 24 (lN false none 0 0)).alloc (.cells #[vI 0] 31)
 have A:=Qi ((((w.alloc (.cells #[.bool na,.slice g d.length l] 24)).alloc (.cells #[.bool nb,.slice j f.length o] 24)).alloc (.cells #[.func (.func G) #[] #[]] 80)).alloc (.cells #[vF,vZ] 24)) 31 (vI 0)
 have p:=(((((dJ w (.cells #[.bool na,.slice g d.length l] 24)).alloc (by simp) (.cells #[.bool nb,.slice j f.length o] 24)).alloc (by simp;omega) (.cells #[.func (.func G) #[] #[]] 80)).alloc (by simp;omega) (.cells #[vF,vZ] 24)).alloc (by simp;omega) (.cells #[vI 0] 31))
 simp only [Qh] at J L M N A;generalize D:((((w.alloc (.cells #[.bool na,.slice g d.length l] 24)).alloc (.cells #[.bool nb,.slice j f.length o] 24)).alloc (.cells #[.func (.func G) #[] #[]] 80)).alloc (.cells #[vF,vZ] 24)).alloc (.cells #[vI 0] 31)=W4 at J L M N A p
 have y:=FU w.heap.size G na nb g j l o d f W4 J L M N (t.below p) (u.below p) E F r T (fun h1 z W U=>H h1 z W (p.trans (U.mono p.size)))
 have ve:=fT 181 #[vP w.heap.size,vP (w.heap.size+1),vP (w.heap.size+1+1),vP (w.heap.size+1+1+1)]
  ((((w.alloc (.cells #[.bool na,.slice g d.length l] 24)).alloc (.cells #[.bool nb,.slice j f.length o] 24)).alloc (.cells #[.func (.func G) #[] #[]] 80)).alloc (.cells #[vF,vZ] 24))
  (fun k W=>dF (fun i=>i=w.heap.size+3) W4 W∧∃ n a m c,af W (w.heap.size+3) 24 (lN n a m c)∧fU (au na d) (au nb f) r k W (vN n a m c))
  (fun W=>by simp [go_sem])
  (fun k W h=>by simp only [Qh];exact h.1.boxed A (by omega))
  (by
   rw [D];refine y.mono ?_;rintro e W ⟨k,h1,z⟩
   rcases h1 with ⟨rfl,rfl⟩ | rfl
   ·exact .inl ⟨rfl,z⟩
   ·exact .inr ⟨k,rfl,z⟩)
 clear y;go_enter func140,ntmps140
 go_wp2_with (refine ve.mono ?_;rintro e C ⟨k,W,⟨s,n,a,m,c,hr,x⟩,rfl,rfl⟩;simp only [Qh];have I:=hr.other (a:=⟨w.heap.size+1+1+1+1,0,none⟩) (by simp) (vI k);have s3:=hr.frozen 0;have s4:=hr.frozen 1;obtain ⟨O,Q⟩:=aQ I)
 obtain ⟨u1,u2⟩:=bA (b:=w.heap.size+1+1+1) O Q (.bool n) (.slice a m c);have S:=(s.boxed A (by omega)).cell
 have q:∀ v xs,Reads .u32 W v xs→Reads .u32 (((W.setCell ⟨w.heap.size+1+1+1+1,0,none⟩ (vI k)).setCell ⟨w.heap.size+1+1+1,0,none⟩ (.bool n)).setCell ⟨w.heap.size+1+1+1,1,none⟩ (.slice a m c)) v xs :=
  fun v xs h=>bf (b:=w.heap.size+1+1+1) (h.setOther S (by simp) _) O Q _ _
 refine bodyPost_ret (v:=.tuple #[vN n a m c,vI k]) (by simp [results,results140,go_sem,loadCellsFrom,u1,u2]) rfl ⟨?_,_,k,rfl,x.keep q⟩;have Z:bW w W:=p.trans (s.below (B:=w.heap.size) (fun i hi=>by omega) p.size);exact ((Z.setCell (by simp;omega) _).setCell (by simp;omega) _).setCell (by simp;omega) _
theorem fU.form {b d:Bool}{r k:Int}{W:World}{v:Value}(h:fU b d r k W v):∃ n a m c,v=vN n a m c:=by
 unfold fU at h
 by_cases h1:(b&&d)=true
 ·rw [if_pos h1] at h
  rcases Classical.em (r.natAbs<aj^300) with h2 | h2
  ·rw [if_pos h2] at h
   obtain ⟨neg,f,xs,rfl,hr,-⟩:=h.2;obtain ⟨a,c,rfl,-⟩:=hr.form;exact ⟨neg,a,_,c,rfl⟩
  ·rw [if_neg h2] at h
   exact ⟨false,none,0,0,h.2⟩
 ·rw [if_neg h1] at h
  exact ⟨false,none,0,0,h.2⟩
theorem gN {neg:Bool}{xs:List Nat}(h:au neg xs=true)(c:Limbs xs):Canon xs∧xs.length≤300∧(neg&&decide (0<xs.length))=neg:=by
 simp only [au,Jt,decide_eq_true_eq,YV,Bool.and_eq_false_iff,decide_eq_false_iff_not] at h;obtain ⟨⟨h1,a⟩,b⟩:=h;refine ⟨⟨c,a⟩,h1,?_⟩
 rcases b with h | h
 ·subst h;rfl
 ·have:0<xs.length:=by omega
  simp [this]
theorem dx.below {w a:World}{v:Value}{neg:Bool}{xs:List Nat}(h:dx w v neg xs)(b:bW w a):dx a v neg xs:=by
 obtain ⟨d,e,hr,c⟩:=h;exact ⟨d,e,hr.below b,c⟩
theorem dx.isInt {w:World}{v:Value}{neg:Bool}{xs:List Nat}(h:dx w v neg xs)(hf:au neg xs=true):ak w v (bX neg (val xs)):=by
 obtain ⟨c,rfl,hr,b⟩:=h;obtain ⟨h1,d,a⟩:=gN hf b;exact ⟨neg,c,xs,rfl,hr,h1,a,rfl⟩
theorem dx.jI {w:World}{v:Value}{neg:Bool}{xs:List Nat}(h:dx w v neg xs)(hf:au neg xs=true):(bX neg (val xs)).natAbs<aj^300:=by
 obtain ⟨d,rfl,hr,b⟩:=h;obtain ⟨h1,a,c⟩:=gN hf b;rw [bM];exact (bS h1 300).1 a
theorem Ls (a b:Value)(na nb:Bool)(i j:List Nat)(w:World)(ha:dx w a na i)(l:dx w b nb j) :
 CB 70 #[a,b] w fun e Q=>∃ v k,e=.returned (.tuple #[v,vI k])∧fU (au na i) (au nb j) (bX na (val i)+bX nb (val j)) k Q v:=by
 have s:=fun G (d:bW w G)=>xK 141 a b na nb i j G (ha.below d) (l.below d) (bX na (val i)+bX nb (val j)) (fun W args=>by simp [go_sem])
  (fun C D W E=>Fa a b _ _ 300 W (((ha.below d).isInt C).below E) (((l.below d).isInt D).below E) (by omega) (ha.jI C) (l.jI D))
 obtain ⟨V,rfl,q,I⟩:=ha;obtain ⟨X,rfl,r,J⟩:=l;obtain ⟨y,A,rfl,R,S⟩:=q.form;obtain ⟨z,B,rfl,H,L⟩:=r.form
 have p:=(((dJ w (.cells #[.bool na,.slice y i.length A] 24)).alloc (by simp) (.cells #[.bool nb,.slice z j.length B] 24)).alloc (by simp;omega) (.cells #[vF,vZ] 24))
 have F:=af.new ((w.alloc (.cells #[.bool na,.slice y i.length A] 24)).alloc (.cells #[.bool nb,.slice z j.length B] 24)) 24 (lN false none 0 0);simp only [Qh] at F;go_enter func70,ntmps70
 go_wp2_with (refine (s _ p).mono ?_;rintro e w1 ⟨x,v,k,rfl,f⟩;obtain ⟨n,a,m,c,rfl⟩:=f.form;have o:=F.below x;have t:=o.cell 0;have u:=o.cell 1;have T:=o.frozen 0;have U:=o.frozen 1;simp only [Qc,Qe] at t u)
 obtain ⟨N,O⟩:=bA (b:=w.heap.size+1+1) t u (.bool n) (.slice a m c)
 have g:∀ v xs,Reads .u32 w1 v xs→Reads .u32 ((w1.setCell ⟨w.heap.size+1+1,0,none⟩ (.bool n)).setCell ⟨w.heap.size+1+1,1,none⟩ (.slice a m c)) v xs :=
  fun v xs h=>bf (b:=w.heap.size+1+1) h t u _ _
 refine bodyPost_ret (v:=.tuple #[vN n a m c,vI k]) (by simp [results,results70,go_sem,loadCellsFrom,N,O]) rfl ⟨?_,_,k,rfl,f.keep g⟩;have M:bW w w1:=p.trans (x.mono p.size);exact (M.setCell (by simp;omega) _).setCell (by simp;omega) _
theorem DD (a b:Value)(na nb:Bool)(c k:List Nat)(w:World)(ha:dx w a na c)(r:dx w b nb k)(q:au na c=false) :
 CB 87 #[a,b] w fun e _=>e=.returned (vI 0):=by
 have i:=fun j (f:bW w j)=>mM a na c j (ha.below f) q
 obtain ⟨A,rfl,g,t⟩:=ha;obtain ⟨B,rfl,h,u⟩:=r;obtain ⟨m,o,rfl,y,z⟩:=g.form;obtain ⟨n,p,rfl,s,x⟩:=h.form;have d:=(dJ w (.cells #[.bool na,.slice m c.length o] 24)).alloc (by simp) (.cells #[.bool nb,.slice n k.length p] 24);go_enter func87,ntmps87
 go_wp2_with (refine (i _ d).mono ?_;rintro e w1 ⟨l,rfl⟩)
 exact bodyPost_ret (v:=vI 0) (by simp [results,results87,go_sem]) rfl ⟨d.trans (l.mono d.size),rfl⟩
theorem AB (a b:Value)(na nb:Bool)(f g:List Nat)(w:World)(ha:dx w a na f)(r:dx w b nb g)(u:au na f=true)(x:au nb g=false) :
 CB 87 #[a,b] w fun e _=>e=.returned (vI 0):=by
 have h:=fun d (c:bW w d)=>fF a na f d (ha.below c) u
 have y:=fun d (c:bW w d)=>mM b nb g d (r.below c) x
 obtain ⟨O,rfl,p,A⟩:=ha;obtain ⟨Q,rfl,q,B⟩:=r;obtain ⟨j,m,rfl,H,I⟩:=p.form;obtain ⟨k,n,rfl,z,C⟩:=q.form;have l:=(dJ w (.cells #[.bool na,.slice j f.length m] 24)).alloc (by simp) (.cells #[.bool nb,.slice k g.length n] 24);have D:=(af.new w 24 (lN na j f.length m)).alloc (.cells #[.bool nb,.slice k g.length n] 24)
 have s:=af.new (w.alloc (.cells #[.bool na,.slice j f.length m] 24)) 24 (lN nb k g.length n);simp only [Qh] at s;go_enter func87,ntmps87
 go_wp2_with (first | (refine (y _ o).mono ?_;rintro e d ⟨t,rfl⟩;have E:=o.trans (t.mono o.size)) | (refine (h _ l).mono ?_;rintro e w1 ⟨i,rfl⟩;have o:=l.trans (i.mono l.size);have F:=D.below (i);have G:=s.below (i);obtain ⟨J,L⟩:=aQ F;obtain ⟨M,N⟩:=aQ G))
 exact bodyPost_ret (v:=vI 0) (by simp [results,results87,go_sem]) rfl ⟨E,rfl⟩
theorem DF (a b:Value)(c d:List Nat)(w:World)(ha:dx w a true c)(E:dx w b true d)(C:au true c=true)(D:au true d=true) :
 CB 87 #[a,b] w fun e _=>e=.returned (vI (dS (val d:Int) (val c:Int))):=by
 have k:=fun h (g:bW w h)=>fF a _ c h (ha.below g) C
 have H:=fun h (g:bW w h)=>fF b _ d h (E.below g) D
 obtain ⟨U,rfl,i,x⟩:=ha;obtain ⟨V,rfl,j,y⟩:=E;obtain ⟨m,p,rfl,S,T⟩:=i.form;obtain ⟨n,q,rfl,I,M⟩:=j.form;have o:=(dJ w (.cells #[.bool true,.slice m c.length p] 24)).alloc (by simp) (.cells #[.bool true,.slice n d.length q] 24);have F:=(af.new w 24 (lN true m c.length p)).alloc (.cells #[.bool true,.slice n d.length q] 24)
 have z:=af.new (w.alloc (.cells #[.bool true,.slice m c.length p] 24)) 24 (lN true n d.length q);simp only [Qh] at z;obtain ⟨t,J,-⟩:=gN C x;obtain ⟨u,L,-⟩:=gN D y;go_enter func87,ntmps87
 go_wp2_with (first | (go_at_call 150;refine (gI _ _ d c _ (j.below l) (i.below l) u t (by omega)).mono ?_;rintro e X ⟨G,rfl⟩) | (refine (H _ r).mono ?_;rintro e h ⟨s,rfl⟩;have l:=r.trans (s.mono r.size);have A:=F.below (f.trans (s.mono f.size));have B:=z.below (f.trans (s.mono f.size));obtain ⟨N,O⟩:=aQ A;obtain ⟨Q,R⟩:=aQ B) | (refine (k _ o).mono ?_;rintro e w1 ⟨f,rfl⟩;have r:=o.trans (f.mono o.size);have A:=F.below (f);have B:=z.below (f);obtain ⟨N,O⟩:=aQ A;obtain ⟨Q,R⟩:=aQ B))
 exact bodyPost_ret (v:=vI (dS (val d:Int) (val c:Int))) (by simp [results,results87,go_sem]) rfl ⟨l.trans (G.mono l.size),rfl⟩
theorem DI (a b:Value)(g h:List Nat)(w:World)(ha:dx w a true g)(x:dx w b false h)(z:au true g=true)(A:au false h=true) :
 CB 87 #[a,b] w fun e _=>e=.returned (vI (-1)):=by
 have i:=fun f (d:bW w f)=>fF a _ g f (ha.below d) z
 have B:=fun f (d:bW w f)=>fF b _ h f (x.below d) A
 obtain ⟨O,rfl,q,D⟩:=ha;obtain ⟨Q,rfl,r,E⟩:=x;obtain ⟨j,m,rfl,M,N⟩:=q.form;obtain ⟨k,n,rfl,C,F⟩:=r.form;have l:=(dJ w (.cells #[.bool true,.slice j g.length m] 24)).alloc (by simp) (.cells #[vF,.slice k h.length n] 24);have y:=(af.new w 24 (lN true j g.length m)).alloc (.cells #[vF,.slice k h.length n] 24)
 have s:=af.new (w.alloc (.cells #[.bool true,.slice j g.length m] 24)) 24 (lN false k h.length n);simp only [Qh] at s;go_enter func87,ntmps87
 go_wp2_with (first | (refine (B _ o).mono ?_;rintro e f ⟨p,rfl⟩;have L:=o.trans (p.mono o.size);have t:=y.below (c.trans (p.mono c.size));have u:=s.below (c.trans (p.mono c.size));obtain ⟨G,H⟩:=aQ t;obtain ⟨I,J⟩:=aQ u) | (refine (i _ l).mono ?_;rintro e w1 ⟨c,rfl⟩;have o:=l.trans (c.mono l.size);have t:=y.below (c);have u:=s.below (c);obtain ⟨G,H⟩:=aQ t;obtain ⟨I,J⟩:=aQ u))
 exact bodyPost_ret (v:=vI (-1)) (by simp [results,results87,go_sem]) rfl ⟨L,rfl⟩
theorem DJ (a b:Value)(g h:List Nat)(w:World)(ha:dx w a false g)(x:dx w b true h)(z:au false g=true)(A:au true h=true) :
 CB 87 #[a,b] w fun e _=>e=.returned (vI (1)):=by
 have i:=fun f (d:bW w f)=>fF a _ g f (ha.below d) z
 have B:=fun f (d:bW w f)=>fF b _ h f (x.below d) A
 obtain ⟨O,rfl,q,D⟩:=ha;obtain ⟨Q,rfl,r,E⟩:=x;obtain ⟨j,m,rfl,M,N⟩:=q.form;obtain ⟨k,n,rfl,C,F⟩:=r.form;have l:=(dJ w (.cells #[vF,.slice j g.length m] 24)).alloc (by simp) (.cells #[.bool true,.slice k h.length n] 24);have y:=(af.new w 24 (lN false j g.length m)).alloc (.cells #[.bool true,.slice k h.length n] 24)
 have s:=af.new (w.alloc (.cells #[vF,.slice j g.length m] 24)) 24 (lN true k h.length n);simp only [Qh] at s;go_enter func87,ntmps87
 go_wp2_with (first | (refine (B _ o).mono ?_;rintro e f ⟨p,rfl⟩;have L:=o.trans (p.mono o.size);have t:=y.below (c.trans (p.mono c.size));have u:=s.below (c.trans (p.mono c.size));obtain ⟨G,H⟩:=aQ t;obtain ⟨I,J⟩:=aQ u) | (refine (i _ l).mono ?_;rintro e w1 ⟨c,rfl⟩;have o:=l.trans (c.mono l.size);have t:=y.below (c);have u:=s.below (c);obtain ⟨G,H⟩:=aQ t;obtain ⟨I,J⟩:=aQ u))
 exact bodyPost_ret (v:=vI (1)) (by simp [results,results87,go_sem]) rfl ⟨L,rfl⟩
theorem DK (a b:Value)(c d:List Nat)(w:World)(ha:dx w a false c)(E:dx w b false d)(C:au false c=true)(D:au false d=true) :
 CB 87 #[a,b] w fun e _=>e=.returned (vI (dS (val c:Int) (val d:Int))):=by
 have k:=fun h (g:bW w h)=>fF a _ c h (ha.below g) C
 have H:=fun h (g:bW w h)=>fF b _ d h (E.below g) D
 obtain ⟨U,rfl,i,x⟩:=ha;obtain ⟨V,rfl,j,y⟩:=E;obtain ⟨m,p,rfl,S,T⟩:=i.form;obtain ⟨n,q,rfl,I,M⟩:=j.form;have o:=(dJ w (.cells #[vF,.slice m c.length p] 24)).alloc (by simp) (.cells #[vF,.slice n d.length q] 24);have F:=(af.new w 24 (lN false m c.length p)).alloc (.cells #[vF,.slice n d.length q] 24)
 have z:=af.new (w.alloc (.cells #[vF,.slice m c.length p] 24)) 24 (lN false n d.length q);simp only [Qh] at z;obtain ⟨t,J,-⟩:=gN C x;obtain ⟨u,L,-⟩:=gN D y;go_enter func87,ntmps87
 go_wp2_with (first | (go_at_call 150;refine (gI _ _ c d _ (i.below l) (j.below l) t u (by omega)).mono ?_;rintro e X ⟨G,rfl⟩) | (refine (H _ r).mono ?_;rintro e h ⟨s,rfl⟩;have l:=r.trans (s.mono r.size);have A:=F.below (f.trans (s.mono f.size));have B:=z.below (f.trans (s.mono f.size));obtain ⟨N,O⟩:=aQ A;obtain ⟨Q,R⟩:=aQ B) | (refine (k _ o).mono ?_;rintro e w1 ⟨f,rfl⟩;have r:=o.trans (f.mono o.size);have A:=F.below (f);have B:=z.below (f);obtain ⟨N,O⟩:=aQ A;obtain ⟨Q,R⟩:=aQ B))
 exact bodyPost_ret (v:=vI (dS (val c:Int) (val d:Int))) (by simp [results,results87,go_sem]) rfl ⟨l.trans (G.mono l.size),rfl⟩
theorem Cf (a b:Value)(na nb:Bool)(d f:List Nat)(w:World)(ha:dx w a na d)(g:dx w b nb f) :
 CB 87 #[a,b] w fun e _=>e=.returned (vI (if (au na d&&au nb f)=true then dS (bX na (val d)) (bX nb (val f)) else 0)):=by
 cases hfa:au na d with
 | false=>simpa using DD a b na nb d f w ha g hfa
 | true =>
  cases wX:au nb f with
  | false=>simpa using AB a b na nb d f w ha g hfa wX
  | true =>
   obtain ⟨r,-,-,j⟩:=id ha;obtain ⟨s,-,-,k⟩:=id g;obtain ⟨h,-,h1⟩:=gN hfa j;obtain ⟨i,-,m⟩:=gN wX k;have p:=dn h;have q:=dn i
   cases na <;> cases nb
   ·refine (DK a b d f w ha g hfa wX).mono ?_
    rintro e l ⟨c,rfl⟩;exact ⟨c,by simp [bX]⟩
   ·refine (DJ a b d f w ha g hfa wX).mono ?_
    rintro e l ⟨c,rfl⟩;refine ⟨c,?_⟩;have o:0<val f:=q.2 (by simpa using m)
    have:dS (bX false (val d)) (bX true (val f))=1:=by simp only [bX,dS];(repeat' split) <;> simp_all <;> omega
    simp [this]
   ·refine (DI a b d f w ha g hfa wX).mono ?_
    rintro e l ⟨c,rfl⟩;refine ⟨c,?_⟩;have n:0<val d:=p.2 (by simpa using h1)
    have:dS (bX true (val d)) (bX false (val f))=-1:=by simp only [bX,dS];(repeat' split) <;> simp_all <;> omega
    simp [this]
   ·refine (DF a b d f w ha g hfa wX).mono ?_
    rintro e l ⟨c,rfl⟩;refine ⟨c,?_⟩
    have:dS (bX true (val d)) (bX true (val f))=dS (val f:Int) (val d:Int):=by simp only [bX,dS,if_true];(repeat' split) <;> omega
    simp [this]
end Go.Proofs.YtagjhmodblifbaaGreatDoor
