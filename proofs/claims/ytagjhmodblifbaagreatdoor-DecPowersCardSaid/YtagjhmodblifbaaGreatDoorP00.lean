/- proved lemmas -/
import Derived.Test.YtagjhmodblifbaaGreatDoorB00
import Derived.Test.YtagjhmodblifbaaGreatDoorB01
import Derived.Test.YtagjhmodblifbaaGreatDoorB02
import Derived.Test.YtagjhmodblifbaaGreatDoorB03
import Derived.Test.YtagjhmodblifbaaGreatDoorB04
import Derived.Test.YtagjhmodblifbaaGreatDoorB05
import Derived.Test.YtagjhmodblifbaaGreatDoorB06
import Derived.Test.YtagjhmodblifbaaGreatDoorB07
import Derived.Test.YtagjhmodblifbaaGreatDoorB08
import Derived.Test.YtagjhmodblifbaaGreatDoorB09
import Derived.Test.YtagjhmodblifbaaGreatDoorB10
import Derived.Test.YtagjhmodblifbaaGreatDoorB11
import Derived.Test.YtagjhmodblifbaaGreatDoorB12
import Derived.Test.YtagjhmodblifbaaGreatDoorB13
import Derived.Test.YtagjhmodblifbaaGreatDoorB14
import Derived.Test.YtagjhmodblifbaaGreatDoorB15
import Derived.Test.YtagjhmodblifbaaGreatDoorB16
import Derived.Test.YtagjhmodblifbaaGreatDoorB17
import Derived.Test.YtagjhmodblifbaaGreatDoorB18
import Derived.Test.YtagjhmodblifbaaGreatDoorB19
import Derived.Test.YtagjhmodblifbaaGreatDoorB20
import Derived.Test.YtagjhmodblifbaaGreatDoorB21
set_option maxHeartbeats 4000000
set_option maxRecDepth 100000
set_option exponentiation.threshold 100000
namespace Go.Proofs.YtagjhmodblifbaaGreatDoor
open Go.Proofs.Tryz
open Go Go.RowKit Go.Shelf
theorem Pj {W:World}{b:Nat}{t:TypeId}{a c d:Value}{l:List Value}(h:af W b t (a::c::d::l)):W.cell? ⟨b,0,none⟩=some a∧W.cell? ⟨b,1,none⟩=some c∧W.cell? ⟨b,2,none⟩=some d:=⟨h.cell 0,h.cell 1,h.cell 2⟩
theorem RO {W:World}{b:Nat}{t:TypeId}{c d f a:Value}{l:List Value}(h:af W b t (c::d::f::a::l)):W.cell? ⟨b,3,none⟩=some a:=h.cell 3
theorem RH {W:World}{b:Nat}{t:TypeId}{f g i a c d:Value}{l:List Value}(h:af W b t (f::g::i::a::c::d::l)):W.cell? ⟨b,3,none⟩=some a∧W.cell? ⟨b,4,none⟩=some c∧W.cell? ⟨b,5,none⟩=some d:=⟨h.cell 3,h.cell 4,h.cell 5⟩
theorem Rx {xs:List Nat}(d:Canon xs)(k:Nat)(h1:bitsOf xs≤k)(q:k≤32*xs.length)(h0:0<k):(k - 1) / 32<xs.length∧xs[(k - 1) / 32]?.getD 0 / 2^((k - 1) % 32) % 2=if k=bitsOf xs then 1 else 0:=by
 have i:0<xs.length:=by omega
 have l:xs≠[]:=Zb.1 i;have b:=iK d l;have c:=aK d.1 (xs.length - 1);obtain ⟨m,n,o,p⟩:=mF b c
 have h:bitsOf xs=32*(xs.length - 1)+Lib.bitLen (xs[xs.length - 1]?.getD 0):=by rw [bitsOf,if_neg (by omega)]
 have j:(k - 1) / 32=xs.length - 1:=by omega
 refine ⟨by omega,?_⟩;rw [j];rw [h] at h1 ⊢;generalize Lib.bitLen (xs[xs.length - 1]?.getD 0)=L at *;generalize xs[xs.length - 1]?.getD 0=t at *
 by_cases a:k=32*(xs.length - 1)+L
 ·rw [if_pos a,show (k - 1) % 32=L - 1 by omega]
  have f:2^L=2^(L - 1)*2:=by rw [← Qo];congr 1;omega
  have g:t / 2^(L - 1)=1:=by
   apply Nat.div_eq_of_lt_le <;> omega
  rw [g]
 ·rw [if_neg a]
  have f:2^L≤2^((k - 1) % 32):=Ql (by decide) (by omega);rw [QR (by omega)]
theorem PD (A:Value)(na:Bool)(xs:List Nat)(w:World)(ha:dx w A na xs)(r:Canon xs)(I:xs.length≤100000) :
 CB 161 #[A] w fun e _=>e=.returned (vI (bitsOf xs)):=by
 obtain ⟨J,rfl,m,u⟩:=ha;obtain ⟨h,j,rfl,y,G⟩:=m.form
 obtain ⟨n,q⟩:∃ n,bitsOf xs=n:=⟨_,rfl⟩
 have x:=Qa q;rw [q]
 have l:bitsOf xs≤32*xs.length:=by
  by_cases v:xs=[]
  ·subst v;simp [bitsOf]
  ·have H:0<xs.length:=Zb.2 v
   obtain ⟨E,F,-,-⟩:=mF (iK r v) (aK r.1 (xs.length - 1));rw [bitsOf,if_neg (by omega)];omega
 rw [q] at l;clear q;have p:=dJ w (.cells #[.bool na,.slice h xs.length j] 24);have z:=af.new w 24 (lN na h xs.length j);have c:=m.below p
 obtain ⟨g,d⟩:∃ g,w.alloc (.cells #[.bool na,.slice h xs.length j] 24)=g:=⟨_,rfl⟩
 rw [d] at z c p;have B:=Qa d;clear d;go_enter func161,ntmps161;go_wp2
 go_loopw [3] (fun i W=>∃ k:Nat,n≤k∧k≤32*xs.length∧i=vI k∧∃ nq,W=g.drewN nq) (fun i _=>(intOf i).toNat)
 case atStart=>exact ⟨32*xs.length,l,Qb _,by go_num,0,by rw [B.out];rfl⟩
 case round =>
  obtain ⟨k,s,t,rfl,nq,rfl⟩:=hrel
  have c2:(g.drewN nq).cell? ⟨w.heap.size,1,none⟩=some (.slice h xs.length j):=by
   have:=z.cell 1;simp only [Qc,Qe] at this;exact this
  by_cases h0:0<k
  ·have C:decide ((0:Int)<(k:Int))=true:=by simp <;> omega
   obtain ⟨hi,b⟩:=Rx r k (by rw [x.out];exact s) t h0;have a:=Lv (.slice h xs.length j) xs ((k - 1) / 32) ((k - 1) % 32) ((k:Int) - 1) (by omega) (by omega) (by omega) (by omega) (by omega) hi (g.drewN nq) (mW c nq) u;rw [b,x.out] at a;clear b hi
   by_cases f:k=n
   ·rw [if_pos f] at a
    subst f
    go_wp2_with (go_at_call 189;with_reducible refine a.mono ?_;rintro e D ⟨⟨o,rfl⟩,rfl⟩)
    go_ret;exact ⟨below_drewN p _,rfl⟩
   ·rw [if_neg f] at a
    go_wp2_with (go_at_call 189;with_reducible refine a.mono ?_;rintro e D ⟨⟨o,rfl⟩,rfl⟩)
    exact ⟨⟨k - 1,by omega,by omega,by go_num,nq+o,rfl⟩,by simp [intOf] <;> omega⟩
  ·obtain rfl:k=0:=by omega
   obtain rfl:n=0:=by omega
   go_wp2;go_ret;exact ⟨below_drewN p _,rfl⟩
theorem Ob (s t:Value)(i j:Int)(w:World)(ha:ak w s i)(z:ak w t j)(L:Nat)(D:L≤100000)(hi:i.natAbs<aj^L)(n:j.natAbs<aj^L) :
 CB 68 #[s,t] w fun e _=>e=.returned (vI (dS i j)):=by
 obtain ⟨na,G,b,rfl,g,k,o,rfl⟩:=ha;obtain ⟨nb,H,c,rfl,h,d,p,rfl⟩:=z;rw [bM] at hi n;have la:=aA k hi;have lb:=aA d n;clear hi n;obtain ⟨u,x,rfl,q,C⟩:=g.form;obtain ⟨v,y,rfl,r,A⟩:=h.form;have a:=(dJ w (.cells #[.bool na,.slice u b.length x] 24)).alloc (by simp) (.cells #[.bool nb,.slice v c.length y] 24)
 have l:=tL _ _ b c _ (g.below a) (h.below a) k d (by omega);have m:=tL _ _ c b _ (h.below a) (g.below a) d k (by omega);have E:=dn k;have F:=dn d
 cases na <;> cases nb
 ·have e:dS (bX false (val b)) (bX false (val c))=dS (val b:Int) (val c:Int):=by simp [bX]
  rw [e];clear e m;go_enter func68,ntmps68
  go_wp2_with (go_at_call 138;refine l.mono ?_;rintro e B ⟨f,rfl⟩)
  go_ret;exact ⟨a.trans (f.mono a.size),rfl⟩
 ·have e:dS (bX false (val b)) (bX true (val c))=1:=by
   have:0<c.length:=by simpa using p
   unfold dS bX;rw [if_neg (by simp <;> omega),if_pos (by simp <;> omega)]
  rw [e];clear e l m;go_enter func68,ntmps68;go_wp2;go_ret;exact ⟨a,rfl⟩
 ·have e:dS (bX true (val b)) (bX false (val c))=-1:=by
   have:0<b.length:=by simpa using o
   unfold dS bX;rw [if_pos (by simp <;> omega)]
  rw [e];clear e l m;go_enter func68,ntmps68;go_wp2;go_ret;exact ⟨a,rfl⟩
 ·have e:dS (bX true (val b)) (bX true (val c))=dS (val c:Int) (val b:Int):=pW (by simp [bX] <;> omega) (by simp [bX] <;> omega)
  rw [e];clear e l;go_enter func68,ntmps68
  go_wp2_with (go_at_call 138;refine m.mono ?_;rintro e B ⟨f,rfl⟩)
  go_ret;exact ⟨a.trans (f.mono a.size),rfl⟩
theorem nC (a:Value)(i:Int)(w:World)(ha:ak w a i) :
 CB 65 #[a] w fun e r=>∃ v,e=.returned v∧ak r v (-i):=by
 obtain ⟨na,u,b,rfl,j,m,l,rfl⟩:=ha;obtain ⟨d,f,rfl,o,s⟩:=j.form;have c:=dJ w (.cells #[.bool na,.slice d b.length f] 24)
 have g:∀ n:Bool,n=(!na&&decide (0<b.length))→ak w (vN n d b.length f) (-(bX na (val b))):=fun n q=>by
  subst q;have t:=dn m;refine ⟨_,_,b,rfl,j,m,by simp,?_⟩
  by_cases h0:0<b.length
  ·cases na <;> simp [bX,h0]
  ·have:val b=0:=by omega
   cases na <;> simp [bX,h0,this]
 have k:=Qa g;clear g l
 cases na with
 | true =>
  have h:=k.out false (by simp);go_enter func65,ntmps65;go_wp2;exact bodyPost_ret (v:=vN false d b.length f) (by simp [results,results65,go_sem,loadCellsFrom]) rfl ⟨c.alloc c.size _,_,rfl,h.below ((Qj _ _).trans (c.alloc c.size _))⟩
 | false =>
  by_cases h0:0<b.length
  ·have h:=k.out true (by simp [h0])
   have p:decide ((0:Int)<(b.length:Int))=true:=decide_eq_true (by omega);go_enter func65,ntmps65;go_wp2;exact bodyPost_ret (v:=vN true d b.length f) (by simp [results,results65,go_sem,loadCellsFrom]) rfl ⟨c.alloc c.size _,_,rfl,h.below ((Qj _ _).trans (c.alloc c.size _))⟩
  ·have h:=k.out false (by simp [h0])
   have p:decide ((0:Int)<(b.length:Int))=false:=decide_eq_false (by omega);go_enter func65,ntmps65;go_wp2;exact bodyPost_ret (v:=vN false d b.length f) (by simp [results,results65,go_sem,loadCellsFrom]) rfl ⟨c.alloc c.size _,_,rfl,h.below ((Qj _ _).trans (c.alloc c.size _))⟩
theorem NW (n:Nat)(b:n≤3000):((10^n:Nat):Int).natAbs<aj^400:=by
 rw [QQ];have h1:10^n≤16^n:=QU (by decide) n
 have a:(16:Nat)^n=2^(4*n):=by rw [Jz]
 rw [gX];exact Qr h1 (by rw [a];exact JV (by decide) (by omega))
structure Px (w w1:World) (n1:Bool) (a1:Option Addr) (m1 c1:Nat) (X:World):Prop where
 rr:af X w.heap.size 24 (lN false none 0 0)
 ro:af X w1.heap.size 24 (lN n1 a1 m1 c1)
 below:bW w X
 lt:w.heap.size<w1.heap.size
section
variable {w w1 X X':World} {n1:Bool} {a1:Option Addr} {m1 c1:Nat}
theorem Px.step (h:Px w w1 n1 a1 m1 c1 X)(a:bW X X'):Px w w1 n1 a1 m1 c1 X':=⟨h.rr.below a,h.ro.below a,h.below.trans (a.mono h.below.size),h.lt⟩
theorem Px.set (h:Px w w1 n1 a1 m1 c1 X)(n:Bool)(a:Option Addr)(m c:Nat):Px w w1 n a m c ((X.setCell ⟨w1.heap.size,0,none⟩ (.bool n)).setCell ⟨w1.heap.size,1,none⟩ (.slice a m c)):=by
 have b:=h.lt;exact ⟨(h.rr.other (show w.heap.size≠w1.heap.size by omega) _).other (show w.heap.size≠w1.heap.size by omega) _,(h.ro.set 0 (.bool n)).set 1 (.slice a m c),(h.below.setCell (show w.heap.size≤w1.heap.size by omega) _).setCell (show w.heap.size≤w1.heap.size by omega) _,h.lt⟩
end
def RJ (w w1:World)(n:Nat)(v:Value)(W:World):Prop:=∃ k n1 a1 m1 c1,k≤n∧v=vI k∧Px w w1 n1 a1 m1 c1 W∧ak W (vN n1 a1 m1 c1) ((10^k:Nat):Int)
theorem NZ (n:Nat)(w:World)(t:n≤3000) :
 CB 64 #[vI n] w fun e w'=>∃ v,e=.returned v∧ak w' v ((10^n:Nat):Int):=by
 have z:=dJ w (.cells #[vF,vZ] 24);have R:=af.new w 24 (lN false none 0 0)
 have u:=fun X=>Au 1 X (by decide) (by decide)
 go_enter func64,ntmps64
 go_wp2_with (go_at_call 66;refine (u _).mono ?_;rintro e w1 ⟨d,v1,rfl,A⟩;obtain ⟨r,m,m1,o,rfl⟩:=A.shape)
 have j:=dJ w1 (.cells #[.bool r,.slice m m1 o] 24);have C:=d.trans (j.mono d.size)
 have q:RJ w w1 n (vI 0) (w1.alloc (.cells #[.bool r,.slice m m1 o] 24)):=⟨0,r,m,m1,o,QF _,rfl,⟨R.below C,af.new w1 24 (lN r m m1 o),z.trans (C.mono z.size),by have:=d.size;simp at this;omega⟩,by rw [ZO];exact A.below j⟩
 have J:=Qa q;clear q C j A d R z u;generalize w1.alloc (.cells #[.bool r,.slice m m1 o] 24)=W1 at *
 go_loopw [4] (fun v W=>RJ w w1 n v W) (fun v _=>n - (intOf v).toNat)
 case atStart=>exact J.out
 case round =>
  clear J;obtain ⟨k,n2,a2,m2,c2,s,rfl,a,l⟩:=hrel
  by_cases c:k<n
  ·have u:=fun X=>Au 10 X (by decide) (by decide)
   have hmul:((10^k:Nat):Int)*10=((10^(k+1):Nat):Int):=by rw [Qo,Jy];rfl
   have N:=fun X v S (E:ak X v ((10^k:Nat):Int)) (F:ak X S 10)=>yl v S _ _ X E F (az (NW k (by omega)) (by decide)) (show (10:Int).natAbs<aj^90000 from Qf (show 10<aj^1 by decide) (Ql aP (by decide)))
   rw [hmul] at N;have Y:decide ((k:Int)<(n:Int))=true:=decide_eq_true (by omega);have e2:decide (k<n)=true:=decide_eq_true c;replace a:=a.step ((Qj _ _).drew:bW wr wr.drew);replace l:=l.below ((Qj _ _).drew:bW wr wr.drew);have g:=a.ro.cell 0;have i:=a.ro.cell 1;have x:=a.ro.frozen 0;have y:=a.ro.frozen 1;simp only [Qc,Qe] at g i;have T:=Qa (And.intro c (And.intro s t))
   clear hmul c s t
   go_wp2_with fail
   go_region_with
    (first
     | (go_at_call 66;with_reducible refine (u _).mono ?_;rintro e wk ⟨f,vO,rfl,B⟩;replace a:=a.step f;clear g i x y;have g:=a.ro.cell 0;have i:=a.ro.cell 1;have x:=a.ro.frozen 0;have y:=a.ro.frozen 1;simp only [Qc,Qe] at g i;replace l:=l.below f)
     | (go_at_call 63;with_reducible refine (N _ _ _ l B).mono ?_;rintro e wk ⟨f,vS,rfl,p⟩;obtain ⟨Q,L,O,M,rfl⟩:=p.shape;replace a:=a.step f;clear g i x y;have g:=a.ro.cell 0;have i:=a.ro.cell 1;have x:=a.ro.frozen 0;have y:=a.ro.frozen 1;simp only [Qc,Qe] at g i))
   all_goals
    obtain ⟨c,s,t⟩:=T.out
    go_wp2_with fail
    go_roundw
    case rel=>exact ⟨k+1,Q,L,O,M,c,rfl,a.set Q L O M,p.keep fun _ _ E=>bf E g i _ _⟩
    case measure =>
     simp only [intOf];omega
  ·obtain rfl:k=n:=by omega
   have Y:decide ((k:Int)<(k:Int))=false:=decide_eq_false (by omega);have U:=a.ro.cell 0;have V:=a.ro.cell 1;have H:=a.rr.cell 0;have I:=a.rr.cell 1;have s3:=a.rr.frozen 0;have s4:=a.rr.frozen 1;simp only [Qc,Qe] at H I U V;have Z:=a.below
   have D:=fun v xs h=>bf (v:=v) (xs:=xs) (b:=w.heap.size) h H I (.bool n2) (.slice a2 m2 c2)
   have G:=l.keep D;obtain ⟨u1,u2⟩:=bA (b:=w.heap.size) H I (.bool n2) (.slice a2 m2 c2);clear s c l a t
   go_wp2_with fail
   exact bodyPost_ret (v:=vN n2 a2 m2 c2) (by simp [results,results64,go_sem,loadCellsFrom,u1,u2]) rfl ⟨(Z.setCell (Qb _) _).setCell (Qb _) _,_,rfl,G⟩
theorem Rk (v:Value)(i:Int)(w:World)(h:ak w v i) :
 CB 126 #[v] w fun e _=>e=.returned (.bool (decide (i % 2=1))):=by
 obtain ⟨neg,u,xs,rfl,hr,j,m,rfl⟩:=h;obtain ⟨a,c,rfl,k,l⟩:=hr.form;have d:=dJ w (.cells #[.bool neg,.slice a xs.length c] 24)
 have b:decide (bX neg (val xs) % 2=1)=decide (xs[0]?.getD 0 % 2=1):=by
  rw [← LW j.1]
  by_cases h:val xs % 2=1
  ·rw [decide_eq_true h,decide_eq_true ((Fs neg _).2 h)]
  ·rw [decide_eq_false h,decide_eq_false (fun g=>h ((Fs neg _).1 g))]
 rw [b]
 by_cases h0:xs.length=0
 ·have n:decide ((0:Int)<(xs.length:Int))=false:=decide_eq_false (by omega)
  have o:decide (0<xs.length)=false:=decide_eq_false (by omega);rw [Jm (by omega)];clear b hr j m k l h0;go_enter func126,ntmps126;go_wp2;go_ret;exact ⟨d,rfl⟩
 ·have n:decide ((0:Int)<(xs.length:Int))=true:=decide_eq_true (by omega)
  have o:decide (0<xs.length)=true:=decide_eq_true (by omega)
  have p:=fun W=>(hr.below d).index aG bZ (P:=prog) 0 .i64 W (by omega)
  have r:=(hr.below d).cell 0 (by omega);simp only [Xp] at p;generalize xs[0]?.getD 0=x at *
  obtain ⟨t,f⟩:∃ t:Bool,decide (x % 2=1)=t:=⟨_,rfl⟩
  have s:((x:Int) % 2 == 1)=t:=by
   rw [← f]
   by_cases h:x % 2=1
   ·rw [decide_eq_true h];simp;omega
   ·rw [decide_eq_false h];simp;omega
  rw [f];have q:=Qa f;clear b hr j m k l h0 f;go_enter func126,ntmps126;go_wp2;go_ret;exact ⟨d,rfl⟩
section
variable {w w1 X:World} {b1:Nat} {n1:Bool} {a1:Option Addr} {m1 c1:Nat} {b2:Nat} {n2:Bool} {a2:Option Addr} {m2 c2:Nat} {b3:Nat} {n3:Bool} {a3:Option Addr} {m3 c3:Nat} {b4:Nat} {n4:Bool} {a4:Option Addr} {m4 c4:Nat}
end
theorem Rl {W:World}{B:Nat}{n:Bool}{a:Option Addr}{m c:Nat}{k:Bool}{d:Option Addr}{j f:Nat}{i:Int}(b:af W B 24 (lN k d j f))(h:ak W (vN n a m c) i):kJ ((W.setCell ⟨B,0,none⟩ (.bool n)).setCell ⟨B,1,none⟩ (.slice a m c)) (vP B) i :=
 ⟨B,n,a,m,c,rfl,(b.set 0 (.bool n)).set 1 (.slice a m c),h.keep fun _ _ g=>bf g (b.cell 0) (b.cell 1) _ _⟩
structure La (w w1:World) (b:Nat) (t:TypeId) (cs:List Value) (X:World):Prop where
 r:af X b t cs
 below:bW w X
 more:bW w1 X
section
variable {w w1 X X':World} {b:Nat} {t:TypeId} {cs:List Value}
theorem Oc (h:La w w1 b t cs X)(a:bW X X'):La w w1 b t cs X':=⟨h.r.below a,h.below.trans (a.mono h.below.size),h.more.trans (a.mono h.more.size)⟩
theorem PT (h:La w w1 b t cs X):La w w1 b t cs X.drew:=⟨h.r,h.below.drew,h.more.drew⟩
theorem PU (h:La w w1 b t cs X){B:Nat}(i:b<w1.heap.size)(j:w.heap.size≤b)(a:w1.heap.size≤B)(c d f g:Value):La w w1 b t cs ((((X.setCell ⟨B,0,none⟩ c).setCell ⟨B,1,none⟩ d).setCell ⟨B,2,none⟩ f).setCell ⟨B,3,none⟩ g) :=
 ⟨(((h.r.other (show b≠B by omega) _).other (show b≠B by omega) _).other (show b≠B by omega) _).other (show b≠B by omega) _,(((h.below.setCell (show w.heap.size≤B by omega) _).setCell (show w.heap.size≤B by omega) _).setCell (show w.heap.size≤B by omega) _).setCell (show w.heap.size≤B by omega) _,(((h.more.setCell a _).setCell a _).setCell a _).setCell a _⟩
end
theorem NY {w w1 X:World}{b:Nat}{t:TypeId}{k n:Value}{neg:Bool}{a:Option Addr}{m c:Nat}{x y:Value}(h:La w w1 b t [k,n,.bool neg,.slice a m c,x,y] X):X.cell? ⟨b,2,none⟩=some (.bool neg)∧X.cell? ⟨b,3,none⟩=some (.slice a m c)∧La w w1 b t [k,n,.bool neg,.slice a m c,x,y] X:=⟨h.r.cell 2,h.r.cell 3,h⟩
theorem PQ (v:Value)(kind n:Int)(neg:Bool)(xs:List Nat)(s:ByteArray)(l:Nat)(w:World)(h:ValAt w v kind n neg xs s l) :
 CB 20 #[v] w fun e _=>e=.returned (.bool (oW kind n neg xs s l)):=by
 obtain ⟨va,la,lc,rfl,hr,d⟩:=h;obtain ⟨a,c,rfl,hc,hm⟩:=hr.form
 have u:=fun X (r:bW w X)=>Ce (vN neg a xs.length c) neg xs X ⟨_,rfl,hr.below r,d⟩
 have o:=dJ w (.cells #[vI kind,vI n,.bool neg,.slice a xs.length c,.string s,.slice la l lc] 27);have q:=af.new w 27 (lV kind n neg a xs.length c s la l lc);generalize L:w.alloc (.cells #[vI kind,vI n,.bool neg,.slice a xs.length c,.string s,.slice la l lc] 27)=W1 at *;have HW:=Qa L;clear L;obtain ⟨Q,d1,R,S,d4,d5⟩:=aD q
 obtain ⟨t,Z⟩:∃ t:Bool,(decide (kind=3)&&(decide (s=⟨#[]⟩)&&(decide (l=0)&&(decide (1≤n)&&decide (n≤20)))))=t:=⟨_,rfl⟩
 have N:=Qa Z;have y:=Qa (And.intro hr (And.intro d q));go_enter func20,ntmps20
 go_upto_region 1 with (fail)
 rw [HW.out];clear hr d hc hm q HW u
 go_cut [27] from 4 to 27 (fun v W=>v=.bool (!t)∧W1=W)
 case first =>
  subst Z;clear N y o
  by_cases h1:kind=3
  ·by_cases U:s=⟨#[]⟩
   ·subst h1
    subst U
    by_cases h3:l=0
    ·subst h3
     rcases ZR n 1 with h4 | h4
     ·have p:decide (n<1)=true:=decide_eq_true h4
      go_wp2
      go_meet
      exact ⟨by simp;omega,rfl⟩
     ·have p:decide (n<1)=false:=decide_eq_false (by omega)
      rcases ZR 20 n with h5 | h5
      ·have B:decide (20<n)=true:=decide_eq_true h5
       go_wp2
       go_meet
       exact ⟨by simp;omega,rfl⟩
      ·have B:decide (20<n)=false:=decide_eq_false (by omega)
       go_wp2
       go_meet
       exact ⟨by simp;omega,rfl⟩
    ·have p:decide ((0:Int)<(l:Int))=true:=decide_eq_true (by omega)
     have B:decide (0<l)=true:=decide_eq_true (by omega);go_wp2
     go_meet
     exact ⟨by simp [h3],rfl⟩
   ·have p:=Cy U
    subst h1;go_wp2
    go_meet
    exact ⟨by simp [U],rfl⟩
  ·have p:(kind == 3)=false:=by simp [h1]
   go_wp2
   go_meet
   exact ⟨by simp [h1],rfl⟩
 case rest =>
  have b:oW kind n neg xs s l=(t&&(au neg xs&&(decide (xs.length≤40)&&(decide (n=1) || decide (val xs % 10≠0))))):=by
   rw [← N.out];unfold oW;simp only [Bool.and_assoc]
  clear N Z;obtain ⟨rfl,rfl⟩:=hcut
  cases t with
  | false =>
   clear y
   go_wp2_with fail
   go_ret;exact ⟨o,by rw [b];rfl⟩
  | true =>
   obtain ⟨hr,d,q⟩:=y.out
   have u:=fun X (r:bW w X)=>Ce (vN neg a xs.length c) neg xs X ⟨_,rfl,hr.below r,d⟩
   rw [Jn] at b
   cases hf:au neg xs with
   | false =>
    rw [hf] at u b;clear hf hr d q y
    go_wp2_with (go_at_call 69;with_reducible refine (u _ o).mono ?_;rintro e m ⟨i,rfl⟩)
    go_ret;exact ⟨o.trans (i.mono o.size),by rw [b];rfl⟩
   | true =>
    rw [hf,Jn] at b;rw [hf] at u
    by_cases g:xs.length≤40
    ·rw [decide_eq_true g,Jn] at b
     have p:decide ((40:Int)<(xs.length:Int))=false:=decide_eq_false (by omega);have B:decide (40<xs.length)=false:=decide_eq_false (by omega)
     have hI:∀ X,bW w X→ak X (vN neg a xs.length c) (bX neg (val xs)):=fun X r=>dx.isInt ⟨_,rfl,hr.below r,d⟩ hf
     have H:(bX neg (val xs)).natAbs<aj^80000:=by
      rw [bM];exact Qf ((bS (lJ d hf).1 40).1 g) (Ql aP (by decide))
     have M:=Qa (And.intro H (And.intro hI (And.intro g hf)));clear H hI g hf hr d y
     go_upto_region 5 with (go_at_call 69;with_reducible refine (u _ o).mono ?_;rintro e m ⟨i,rfl⟩;have T:=(q.below i).cell 3;simp only [Qc,Qe] at T)
     have O:=o.trans (i.mono o.size);have z:=q.below i;clear Q d1 R S d4 d5 q o i u p B;have Q:=Dk z
     by_cases k:n=1
     ·have p:(n == 1)=true:=by simp [k]
      rw [decide_eq_true k,Bool.true_or] at b;subst k
      go_wp2_with fail
      go_ret;exact ⟨O,by rw [b];rfl⟩
     ·have p:(n == 1)=false:=by simp [k]
      rw [decide_eq_false k,Bool.false_or] at b
      go_upto_region 7 with (fail)
      have hL:La w m w.heap.size 27 (lV kind n neg a xs.length c s la l lc) m:=⟨z,O,Qj _ _⟩
      have hD:=Qa (NY (PT hL));have hl:=Qa (show w.heap.size<m.heap.size from z.lt)
      have kO:=fun X=>Au 10 X (by decide) (by decide)
      have kV:=fun X v (r:La w m w.heap.size 27 (lV kind n neg a xs.length c s la l lc) X) (hv:ak X v 10)=>Cx _ v (bX neg (val xs)) 10 X (M.out.2.1 X r.below) hv M.out.1 (show (10:Int).natAbs<aj^80000 from Qf (show 10<aj^1 by decide) (Ql aP (by decide))) (by decide)
      have J:m.heap.size≤m.drew.heap.size:=Qb _;obtain ⟨R,S,-⟩:=NY hL;have A:=Qa b;clear z Q p k b O T
      go_cut [3] from 42 to 45 (fun v W=>Hy W v ((bX neg (val xs)).fdiv 10) ((bX neg (val xs)).fmod 10)∧La w m w.heap.size 27 (lV kind n neg a xs.length c s la l lc) W)
      case first =>
       go_region_held3 (fun X=>X.cell? ⟨w.heap.size,2,none⟩=some (.bool neg)∧X.cell? ⟨w.heap.size,3,none⟩=some (.slice a xs.length c)∧La w m w.heap.size 27 (lV kind n neg a xs.length c s la l lc) X)
        (first | with_reducible exact hD.out | (go_split_ands;with_reducible exact NY (Oc (by assumption) j)) | (go_split_ands;with_reducible exact NY (Oc (by assumption) (dJ _ _))) | (go_split_ands;with_reducible exact NY (PU (by assumption) hl.out (Qb _) x _ _ _ _)))
        (first
         | (go_at_call 66;go_split_ands;with_reducible refine (kO _).mono ?_;rintro e wk ⟨j,vO,rfl,E⟩;have Y:=Qd (La.more (by assumption)).size j.size;first | (with_reducible have I:=Fp (w1:=m) (vals:=[vF,vZ,vF,vZ]) (by first | assumption | exact Qb _) j;obtain ⟨x,f⟩:=I) | (with_reducible have I:=Kg (w1:=m) (vals:=[vF,vZ,vF,vZ]) (Qb _) j;obtain ⟨x,f⟩:=I) | skip)
         | (go_at_call 77;go_split_ands;(first | with_reducible refine (kV _ _ (by assumption) E).mono ?_ | with_reducible refine (kV _ _ (by assumption) (E.below (dJ _ _))).mono ?_);rintro e wk ⟨j,n5,a5,m5,c5,n6,a6,m6,c6,rfl,C,D⟩;have a1:=Oc (by assumption) j;have Y:=Qd (La.more (by assumption)).size j.size;first | (replace f:=f.below j;have z1:=f.cell 0;have z2:=f.cell 1;have z3:=f.cell 2;have z4:=f.cell 3;have z5:=f.frozen 0;have z6:=f.frozen 1;have z7:=f.frozen 2;have z8:=f.frozen 3;simp only [Qc,Qe] at z1 z2 z3 z4) | (with_reducible have I:=Fp (w1:=m) (vals:=[vF,vZ,vF,vZ]) (by first | assumption | exact Qb _) j;obtain ⟨x,f⟩:=I;have z1:=f.cell 0;have z2:=f.cell 1;have z3:=f.cell 2;have z4:=f.cell 3;have z5:=f.frozen 0;have z6:=f.frozen 1;have z7:=f.frozen 2;have z8:=f.frozen 3;simp only [Qc,Qe] at z1 z2 z3 z4) | skip))
       all_goals
        rename_i r;obtain ⟨-,-,O1⟩:=r;go_wp2
        go_meet
        first
         | exact ⟨Kh f C D,O1⟩
         | exact ⟨Hy.new C D,O1⟩
      case rest =>
       obtain ⟨⟨b9,n5,a5,m5,c5,n6,a6,m6,c6,rfl,r9,-,i9⟩,F⟩:=hcut;generalize wc=w4 at *;obtain ⟨g3,g4⟩:=BD r9;have kZ:=Gt _ _ w4 i9;have G:=F.below;clear hD hl kO kV J R S F r9 i9 M
       go_wp2_with (go_at_call 78;with_reducible refine kZ.mono ?_;rintro e w5 ⟨V,rfl⟩)
       go_ret;refine ⟨G.trans (V.mono G.size),?_⟩;rw [A.out]
       congr 2
       have:=uR neg (val xs)
       by_cases h0:val xs % 10=0
       ·rw [decide_eq_true (this.2 h0)];simp [h0]
       ·rw [decide_eq_false (fun h=>h0 (this.1 h))];simp [h0]
    ·have p:decide ((40:Int)<(xs.length:Int))=true:=decide_eq_true (by omega)
     have B:decide (40<xs.length)=true:=decide_eq_true (by omega);rw [decide_eq_false g,ZP] at b;have a0:=q;clear hf hr d q y g
     go_wp2_with (go_at_call 69;with_reducible refine (u _ o).mono ?_;rintro e m ⟨i,rfl⟩;have z:=a0.below i;have T:=RO z)
     go_ret;exact ⟨o.trans (i.mono o.size),by rw [b];rfl⟩
end Go.Proofs.YtagjhmodblifbaaGreatDoor
namespace Go.Proofs.YtagjhmodblifbaaGreatDoor
open Go.Proofs.Tryz
theorem PE (n d c:Int)(f:0<c):(n*c).fdiv (d*c)=n.fdiv d∧(n*c).fmod (d*c)=n.fmod d*c:=by
 by_cases g:d=0
 ·subst g
  simp
 ·have h1:=Int.mul_fdiv_add_fmod n d
  have b:(n*c).fdiv (d*c)=n.fdiv d:=by
   rw [Yd n c,Yd d c]
   rcases Xn g with h | h
   ·have i:(c*n).fdiv (c*d)=(-(c*n)).fdiv (-(c*d)):=(YW _ _).symm
    have j:n.fdiv d=(-n).fdiv (-d):=(YW _ _).symm;rw [i,j,← Zf,← Zf]
    have a:0< -d:=by omega
    rw [Zq _ (Zy (Int.mul_pos f a)),Zq _ (Zy a)];exact Int.mul_ediv_mul_of_pos _ _ f
   ·rw [Zq _ (Zy (Int.mul_pos f h)),Zq _ (Zy h)]
    exact Int.mul_ediv_mul_of_pos _ _ f
  refine ⟨b,?_⟩;have k:=Int.mul_fdiv_add_fmod (n*c) (d*c);rw [b] at k
  have l:n*c=d*c*n.fdiv d+n.fmod d*c:=by
   conv=>lhs;rw [← h1]
   rw [Int.add_mul,Zx]
  omega
theorem PG (n d c:Int)(i:0<c):near (n*c) (d*c)=near n d:=by
 obtain ⟨h1,g⟩:=PE n d c i;unfold near;rw [h1,g,Zl,Zl]
 have a:0<c.natAbs:=by omega
 have b:d.natAbs*c.natAbs<2*((n.fmod d).natAbs*c.natAbs)↔d.natAbs<2*(n.fmod d).natAbs:=by
  rw [← Qn];exact Nat.mul_lt_mul_right a
 have f:2*((n.fmod d).natAbs*c.natAbs)=d.natAbs*c.natAbs↔2*(n.fmod d).natAbs=d.natAbs:=by
  rw [← Qn];exact ⟨fun h=>Nat.eq_of_mul_eq_mul_right a h,fun h=>by rw [h]⟩
 simp only [b,f]
end Go.Proofs.YtagjhmodblifbaaGreatDoor
