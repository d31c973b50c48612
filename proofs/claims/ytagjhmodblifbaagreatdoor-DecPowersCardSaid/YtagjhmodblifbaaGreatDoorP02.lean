/- proved lemmas -/
import Derived.Test.YtagjhmodblifbaaGreatDoorP01
set_option maxHeartbeats 4000000
set_option maxRecDepth 100000
set_option exponentiation.threshold 100000
namespace Go.Proofs.YtagjhmodblifbaaGreatDoor
open Go.Proofs.Tryz
open Go Go.RowKit Go.Shelf
def kE (m l:Nat)(s:ByteArray):Bool:=decide (m≤60)&&(decide (l≤100)&&decide (s.size≤3000))
theorem Rp {m l:Nat}{s:ByteArray}(h:60<m):kE m l s=false:=by unfold kE;rw [decide_eq_false (by omega)];rfl
theorem Rq {m l:Nat}{s:ByteArray}(h:100<l):kE m l s=false:=by unfold kE;rw [decide_eq_false (p:=l≤100) (by omega),ZP,Bool.and_false]
theorem Rs {m l:Nat}{s:ByteArray}(h:3000<s.size):kE m l s=false:=by unfold kE;rw [decide_eq_false (p:=s.size≤3000) (by omega),Bool.and_false,Bool.and_false]
theorem PX {m l:Nat}{s:ByteArray}(h1:¬60<m)(a:¬100<l)(b:¬3000<s.size):kE m l s=true:=by unfold kE;rw [decide_eq_true (by omega),decide_eq_true (by omega),decide_eq_true (by omega)];rfl
theorem RI (b:Nat){s t:Int}{q:Bool}{m p:Option Addr}{m1 n f o:Nat}{g:ByteArray}(w:World)(hr:af w b 27 (lV s t q m m1 n g p f o)) :
  Calls prog 17 #[.slice (some ⟨b,0,none⟩) 1 1] w fun e u=>w=u∧e=.returned (.bool (kE m1 f g)):=by
 have r:=eY b 1 0 (by decide);simp only [QC,JK,QI,QD] at r;obtain ⟨v,x,y⟩:=RH hr;clear hr
 by_cases a:60<m1
 case pos =>
  have i:decide ((60:Int)<(m1:Int))=true:=decide_eq_true (by omega);have h:=Qa (show (kE m1 f g)=false by rw [Rp a] <;> simp);clear  a;go_enter func17,ntmps17
  go_wp2_with fail
  refine wp_loop_rounds 2 ?_;rw [rounds_succ]
  go_wp2_with fail
  go_ret;exact ⟨rfl,by rw [h.out];rfl⟩
 have i:decide ((60:Int)<(m1:Int))=false:=decide_eq_false (by omega)
 by_cases c:100<f
 case pos =>
  have j:decide ((100:Int)<(f:Int))=true:=decide_eq_true (by omega);have h:=Qa (show (kE m1 f g)=false by rw [Rq c] <;> simp);clear  c;go_enter func17,ntmps17
  go_wp2_with fail
  refine wp_loop_rounds 2 ?_;rw [rounds_succ]
  go_wp2_with fail
  go_ret;exact ⟨rfl,by rw [h.out];rfl⟩
 have j:decide ((100:Int)<(f:Int))=false:=decide_eq_false (by omega)
 by_cases d:3000<g.size
 case pos =>
  have k:decide ((3000:Int)<(g.size:Int))=true:=decide_eq_true (by omega);have h:=Qa (show (kE m1 f g)=false by rw [Rs d] <;> simp);clear  d;go_enter func17,ntmps17
  go_wp2_with fail
  refine wp_loop_rounds 2 ?_;rw [rounds_succ]
  go_wp2_with fail
  go_ret;exact ⟨rfl,by rw [h.out];rfl⟩
 have k:decide ((3000:Int)<(g.size:Int))=false:=decide_eq_false (by omega);have l:=PX a c d;clear a c d;have h:=Qa (show (kE m1 f g)=true by rw [l] <;> rfl);clear l;go_enter func17,ntmps17
 go_wp2_with fail
 refine wp_loop_rounds 2 ?_;rw [rounds_succ]
 go_wp2_with fail
 rw [rounds_succ]
 go_wp2_with fail
 go_ret;exact ⟨rfl,by rw [h.out];rfl⟩
structure RF (w w1:World) (n0:Bool) (a0:Option Addr) (m0 c0:Nat) (n2:Bool) (a2:Option Addr) (m2 c2:Nat) (n1:Bool) (a1:Option Addr) (m1 c1:Nat) (X:World):Prop where
 ra:af X w.heap.size 24 (lN n0 a0 m0 c0)
 rb:af X (w.heap.size+1) 24 (lN n2 a2 m2 c2)
 ro:af X w1.heap.size 24 (lN n1 a1 m1 c1)
 below:bW w X
 lt:w.heap.size+1<w1.heap.size
section
variable {w w1 X X':World} {n0 n1 n2:Bool} {a0 a1 a2:Option Addr} {m0 c0 m1 c1 m2 c2:Nat}
theorem RF.step (h:RF w w1 n0 a0 m0 c0 n2 a2 m2 c2 n1 a1 m1 c1 X)(a:bW X X'):RF w w1 n0 a0 m0 c0 n2 a2 m2 c2 n1 a1 m1 c1 X':=⟨h.ra.below a,h.rb.below a,h.ro.below a,h.below.trans (a.mono h.below.size),h.lt⟩
theorem RF.set (h:RF w w1 n0 a0 m0 c0 n2 a2 m2 c2 n1 a1 m1 c1 X)(n:Bool)(a:Option Addr)(m c:Nat):RF w w1 n0 a0 m0 c0 n2 a2 m2 c2 n a m c ((X.setCell ⟨w1.heap.size,0,none⟩ (.bool n)).setCell ⟨w1.heap.size,1,none⟩ (.slice a m c)):=by
 have b:=h.lt;exact ⟨(h.ra.other (show w.heap.size≠w1.heap.size by omega) _).other (show w.heap.size≠w1.heap.size by omega) _,(h.rb.other (show w.heap.size+1≠w1.heap.size by omega) _).other (show w.heap.size+1≠w1.heap.size by omega) _,(h.ro.set 0 (.bool n)).set 1 (.slice a m c),(h.below.setCell (show w.heap.size≤w1.heap.size by omega) _).setCell (show w.heap.size≤w1.heap.size by omega) _,h.lt⟩
end
def RQ (w w1:World)(n0:Bool)(a0:Option Addr)(m0 c0:Nat)(n2:Bool)(a2:Option Addr)(m2 c2 R A n:Nat)(v:Value)(W:World):Prop:=∃ k n1 a1 m1 c1,k≤n∧v=vI k∧RF w w1 n0 a0 m0 c0 n2 a2 m2 c2 n1 a1 m1 c1 W∧ak W (vN n1 a1 m1 c1) ((R^k:Nat):Int)∧ak W (vN n0 a0 m0 c0) (R:Int)∧ak W (vN n2 a2 m2 c2) (A:Int)∧(k=0∨R^k≤A)
theorem PY {R A k n:Nat}(h:A<R^k)(c:1≤k)(b:k≤n):A<R^n:=by
 have a:0<R:=by
  rcases Jr R with h0 | h0
  ·subst h0
   rw [Nat.zero_pow (by omega)] at h;omega
  ·exact h0
 exact Qf h (Ql a b)
theorem PK (vr va:Value)(R A n K:Nat)(w:World)(hr:ak w vr (R:Int))(ha:ak w va (A:Int))(hi:R<aj^K)(T:1≤n)(hn:n≤100)(hK:K*n<90000)(t:K<90000) :
 CB 162 #[vr,vI n,va] w fun e _=>e=.returned (.bool (decide (A<R^n))):=by
 obtain ⟨n0,H,Z,M,rfl⟩:=hr.shape;obtain ⟨n2,a2,m2,c2,rfl⟩:=ha.shape;have b1:=dJ w (.cells #[.bool n0,.slice H Z M] 24);have J:=b1.alloc b1.size (.cells #[.bool n2,.slice a2 m2 c2] 24);have q1:=(af.new w 24 (lN n0 H Z M)).alloc (.cells #[.bool n2,.slice a2 m2 c2] 24);have q2:=af.new (w.alloc (.cells #[.bool n0,.slice H Z M] 24)) 24 (lN n2 a2 m2 c2);simp only [Qh] at q2
 have kO:=fun X=>Au 1 X (by decide) (by decide)
 have U:=hr.below J;have O:=ha.below J;clear hr ha b1;go_enter func162,ntmps162
 go_wp2_with (go_at_call 66;refine (kO _).mono ?_;rintro e w1 ⟨o,v1,rfl,hI⟩;obtain ⟨n1,I,m1,N,rfl⟩:=hI.shape)
 have u:=dJ w1 (.cells #[.bool n1,.slice I m1 N] 24);have F:=o.trans (u.mono o.size)
 have V:RQ w w1 n0 H Z M n2 a2 m2 c2 R A n (vI 0) (w1.alloc (.cells #[.bool n1,.slice I m1 N] 24)):=⟨0,n1,I,m1,N,QF _,rfl,⟨q1.below F,q2.below F,af.new w1 24 (lN n1 I m1 N),J.trans (F.mono J.size),by have:=o.size;simp at this;omega⟩,by rw [ZO];exact hI.below u,U.below F,O.below F,.inl rfl⟩
 have HS:=Qa V;clear V F u hI o q1 q2 J O U kO;generalize w1.alloc (.cells #[.bool n1,.slice I m1 N] 24)=W1 at *
 go_loopw [8] (fun v W=>RQ w w1 n0 H Z M n2 a2 m2 c2 R A n v W) (fun v _=>n - (intOf v).toNat)
 case atStart=>exact HS.out
 case round =>
  clear HS;obtain ⟨k,n4,a4,m4,c4,Q,rfl,D,hx,hy,hz,y⟩:=hrel;obtain ⟨d1,d2⟩:=aQ D.ra;obtain ⟨d3,d4⟩:=aQ D.ro
  by_cases f:k<n
  ·have q:(R:Int).natAbs<aj^K:=by rw [QQ];exact hi
   have bk:((R^k:Nat):Int).natAbs<aj^90000:=by
    rw [Int.natCast_pow];exact za q (Qr (Qu K Q) hK)
   have L:R^(k+1)<aj^90000:=by
    have:=za q (n:=k+1) (Qr (Qu K f) hK)
    rwa [← Int.natCast_pow,QQ] at this
   have kT:=yl _ _ ((R^k:Nat):Int) (R:Int) wr hx hy bk (az q (Ju t));rw [← Jy,← Qo] at kT;have e1:decide ((k:Int)<(n:Int))=true:=decide_eq_true (by omega);have e2:decide (k<n)=true:=decide_eq_true f;have HN:=Qa (And.intro f (And.intro Q hn));clear bk hi q hK t f Q hn hx T y
   go_upto_region 6 with (go_at_call 63;with_reducible refine kT.mono ?_;rintro e w3 ⟨p,v3,rfl,hJ⟩;obtain ⟨n5,a5,m5,c5,rfl⟩:=hJ.shape;have G:=D.step p;have s1:=G.ro.cell 0;have s2:=G.ro.cell 1;have s3:=G.ro.frozen 0;have s4:=G.ro.frozen 1;simp only [Qc,Qe] at s1 s2)
   have r:=fun v xs h=>bf (v:=v) (xs:=xs) (b:=w1.heap.size) h s1 s2 (.bool n5) (.slice a5 m5 c5)
   have g:=hJ.keep r;have m:=(hy.below p).keep r;have j:=(hz.below p).keep r;have a:=G.set n5 a5 m5 c5;clear r s1 s2 s3 s4 G hJ hy hz p D kT d1 d2 d3 d4 e1 e2;generalize (w3.setCell ⟨w1.heap.size,0,none⟩ (.bool n5)).setCell ⟨w1.heap.size,1,none⟩ (.slice a5 m5 c5)=W5 at *;obtain ⟨xs,B,x,s⟩:=gq g;obtain ⟨ys,C,S,z⟩:=gq j;obtain ⟨_,_,e,-,-⟩:=B.form;cases e
   obtain ⟨_,_,e,-,-⟩:=C.form;cases e;rw [QQ] at s z;have Y:=tL _ _ xs ys W5 B C x S (by have:=aA x (by rw [s];exact L);omega);rw [s,z] at Y;have g1:=Dk a.ro;have g2:=Dk a.rb;clear B C x S s z L
   by_cases l:A<R^(k+1)
   ·have E:dS ((R^(k+1):Nat):Int) (A:Int)=1:=by unfold dS;rw [if_neg (by omega),if_pos (by omega)]
    rw [show k.succ=k+1 from rfl,E] at Y;have d:decide (A<R^n)=true:=decide_eq_true (PY l (by omega) HN.out.1);have HF:=Qa d;have hb:=a.below;clear l E d a g m j
    go_wp2_with (go_at_call 138;with_reducible refine Y.mono ?_;rintro e w6 ⟨i,rfl⟩)
    go_ret;exact ⟨hb.trans (i.mono hb.size),by rw [HF.out];rfl⟩
   ·obtain ⟨c,E⟩:∃ c,dS ((R^(k+1):Nat):Int) (A:Int)=c:=⟨_,rfl⟩
    have a3:decide (0<c)=false:=decide_eq_false (by
     rw [← E];unfold dS
     (repeat' split) <;> omega)
    rw [show k.succ=k+1 from rfl,E] at Y;have HB:=Qa (And.intro l (And.intro g (And.intro m (And.intro j a))));clear l E g m j a
    go_wp2_with (go_at_call 138;with_reducible refine Y.mono ?_;rintro e w6 ⟨i,rfl⟩)
    obtain ⟨f,Q,hn⟩:=HN.out;obtain ⟨l,g,m,j,a⟩:=HB.out
    have hw:wrap64 ((k:Int)+1)=((k+1:Nat):Int):=by unfold wrap64;omega
    go_roundw
    case rel=>exact ⟨k+1,n5,a5,_,c5,f,by rw [hw],a.step i,g.below i,m.below i,j.below i,.inr (by omega)⟩
    case measure =>
     rw [hw];simp only [intOf,QP];omega
  ·obtain rfl:k=n:=by omega
   have e1:decide ((k:Int)<(k:Int))=false:=decide_eq_false (by omega)
   have d:decide (A<R^k)=false:=decide_eq_false (by
    rcases y with h | h <;> omega)
   have HF:=Qa d;have hb:=D.below;clear Q f hx hy hz D hi hK t hn y d T
   go_wp2_with fail
   go_ret;exact ⟨hb,by rw [HF.out];rfl⟩
theorem Rt (k:Nat):Limbs ((List.replicate (k / 32+1) 0).set (k / 32) (2^(k % 32)))∧val ((List.replicate (k / 32+1) 0).set (k / 32) (2^(k % 32)))=2^k:=by
 constructor
 ·intro x a
  rcases List.mem_or_eq_of_mem_set a with h | rfl
  ·rw [(List.mem_replicate.1 h).2];exact aP
  ·show 2^(k % 32)<2^32
   exact JV (by decide) (Qy _ (by decide))
 ·have h:=uA (List.replicate (k / 32+1) 0) (k / 32) (2^(k % 32)) (by simp)
  rw [ko] at h
  have h1:(List.replicate (k / 32+1) 0)[k / 32]?.getD 0=0:=by simp
  rw [h1,Jw,Jk,QJ] at h;rw [h,gX,← Qt]
  congr 1
  omega
structure Lb (w w2:World) (n0:Bool) (a0:Option Addr) (m0 c0:Nat) (n1:Bool) (a1:Option Addr) (m1 c1:Nat) (n2:Bool) (a2:Option Addr) (m2 c2:Nat) (X:World):Prop where
 ra:af X w.heap.size 24 (lN n0 a0 m0 c0)
 rr:af X (w.heap.size+1) 118 [vF,vZ,vI 0]
 rs:af X w2.heap.size 24 (lN n1 a1 m1 c1)
 ro:af X (w2.heap.size+1) 24 (lN n2 a2 m2 c2)
 below:bW w X
 lt:w.heap.size+1<w2.heap.size
section
variable {w w2 X X':World} {n0 n1 n2:Bool} {a0 a1 a2:Option Addr} {m0 c0 m1 c1 m2 c2:Nat}
theorem Lb.step (h:Lb w w2 n0 a0 m0 c0 n1 a1 m1 c1 n2 a2 m2 c2 X)(a:bW X X'):Lb w w2 n0 a0 m0 c0 n1 a1 m1 c1 n2 a2 m2 c2 X':=⟨h.ra.below a,h.rr.below a,h.rs.below a,h.ro.below a,h.below.trans (a.mono h.below.size),h.lt⟩
theorem Lb.drew (h:Lb w w2 n0 a0 m0 c0 n1 a1 m1 c1 n2 a2 m2 c2 X):Lb w w2 n0 a0 m0 c0 n1 a1 m1 c1 n2 a2 m2 c2 X.drew:=⟨h.ra,h.rr,h.rs,h.ro,h.below.drew,h.lt⟩
theorem Lb.set (h:Lb w w2 n0 a0 m0 c0 n1 a1 m1 c1 n2 a2 m2 c2 X)(n:Bool)(a:Option Addr)(m c:Nat):Lb w w2 n0 a0 m0 c0 n1 a1 m1 c1 n a m c ((X.setCell ⟨w2.heap.size+1,0,none⟩ (.bool n)).setCell ⟨w2.heap.size+1,1,none⟩ (.slice a m c)):=by
 have b:=h.lt
 exact ⟨(h.ra.other (show w.heap.size≠w2.heap.size+1 by omega) _).other (show w.heap.size≠w2.heap.size+1 by omega) _,(h.rr.other (show w.heap.size+1≠w2.heap.size+1 by omega) _).other (show w.heap.size+1≠w2.heap.size+1 by omega) _,(h.rs.other (show w2.heap.size≠w2.heap.size+1 by omega) _).other (show w2.heap.size≠w2.heap.size+1 by omega) _,(h.ro.set 0 (.bool n)).set 1 (.slice a m c),(h.below.setCell (show w.heap.size≤w2.heap.size+1 by omega) _).setCell (show w.heap.size≤w2.heap.size+1 by omega) _,h.lt⟩
end
def RL (w w2:World)(n0:Bool)(a0:Option Addr)(m0 c0:Nat)(n1:Bool)(a1:Option Addr)(m1 c1:Nat)(i:Int)(n:Nat)(v:Value)(W:World):Prop:=∃ (m:Nat) (n2:Bool) (a2:Option Addr) (m2 c2 r:Nat),m≤9700∧v=vI ((m:Int) - 1)∧Lb w w2 n0 a0 m0 c0 n1 a1 m1 c1 n2 a2 m2 c2 W∧ak W (vN n2 a2 m2 c2) ((r:Nat):Int)∧ak W (vN n1 a1 m1 c1) ((i.natAbs:Nat):Int)∧ak W (vN n0 a0 m0 c0) i∧r^n≤i.natAbs∧i.natAbs<(r+2^m)^n
theorem PL {A D n:Nat}(h:A<2^D)(h1:1≤n):0^n≤A∧A<(0+2^(D / n+2))^n:=by
 refine ⟨by rw [Nat.zero_pow (by omega)];exact QF _,Qf h ?_⟩;rw [QJ,← Jz];refine Ql (by decide) ?_;have a:=Jq D n;have b:=Qy D (show n > 0 by omega)
 have c:(D / n+2)*n=n*(D / n)+2*n:=by rw [QH,Qp (D / n) n]
 omega
theorem PZ (r n A:Nat):(dS ((r:Int)^n) (A:Int) == 0)=decide (r^n=A):=by
 rw [← Int.natCast_pow];generalize r^n=x;unfold dS
 by_cases h:x=A
 ·subst h;simp
 ·rw [decide_eq_false h]
  (repeat' split) <;> first | rfl | (exfalso;omega)
theorem Ra (n:Bool)(a:Option Addr)(m c:Nat)(W:World):(Instr.field 24 (vN n a m c) 1).run prog W=.ok (.slice a m c) W:=by kernel_rfl
theorem PN (q:Nat)(h:q≤100000):wrap64 ((q:Int) - 1)=(q:Int) - 1:=by unfold wrap64;omega
structure qa (w w2 W2:World) (n0:Bool) (a0:Option Addr) (m0 c0:Nat) (n1:Bool) (a1:Option Addr) (m1 c1:Nat) (n2:Bool) (a2:Option Addr) (m2 c2:Nat) (X:World):Prop where
 s:Lb w w2 n0 a0 m0 c0 n1 a1 m1 c1 n2 a2 m2 c2 X
 more:bW W2 X
section
variable {w w2 W2 X X':World} {n0 n1 n2:Bool} {a0 a1 a2:Option Addr} {m0 c0 m1 c1 m2 c2:Nat}
theorem qb (h:qa w w2 W2 n0 a0 m0 c0 n1 a1 m1 c1 n2 a2 m2 c2 X):X.cell? ⟨w.heap.size,1,none⟩=some (.slice a0 m0 c0)∧X.cell? ⟨w2.heap.size+1,0,none⟩=some (.bool n2)∧X.cell? ⟨w2.heap.size+1,1,none⟩=some (.slice a2 m2 c2)∧qa w w2 W2 n0 a0 m0 c0 n1 a1 m1 c1 n2 a2 m2 c2 X:=⟨h.s.ra.cell 1,h.s.ro.cell 0,h.s.ro.cell 1,h⟩
theorem xe (h:qa w w2 W2 n0 a0 m0 c0 n1 a1 m1 c1 n2 a2 m2 c2 X)(a:bW X X'):qa w w2 W2 n0 a0 m0 c0 n1 a1 m1 c1 n2 a2 m2 c2 X':=⟨h.s.step a,h.more.trans (a.mono h.more.size)⟩
theorem Pg (h:qa w w2 W2 n0 a0 m0 c0 n1 a1 m1 c1 n2 a2 m2 c2 X):X.drew.cell? ⟨w.heap.size,1,none⟩=some (.slice a0 m0 c0)∧X.drew.cell? ⟨w2.heap.size+1,0,none⟩=some (.bool n2)∧X.drew.cell? ⟨w2.heap.size+1,1,none⟩=some (.slice a2 m2 c2)∧qa w w2 W2 n0 a0 m0 c0 n1 a1 m1 c1 n2 a2 m2 c2 X.drew:=qb ⟨h.s.drew,h.more.drew⟩
theorem Ru (h:qa w w2 W2 n0 a0 m0 c0 n1 a1 m1 c1 n2 a2 m2 c2 X){B:Nat}(c:w2.heap.size+1<W2.heap.size)(b:W2.heap.size≤B)(x y:Value):qa w w2 W2 n0 a0 m0 c0 n1 a1 m1 c1 n2 a2 m2 c2 ((X.setCell ⟨B,0,none⟩ x).setCell ⟨B,1,none⟩ y):=by
 have a:=h.s.lt
 exact ⟨⟨(h.s.ra.other (show w.heap.size≠B by omega) _).other (show w.heap.size≠B by omega) _,(h.s.rr.other (show w.heap.size+1≠B by omega) _).other (show w.heap.size+1≠B by omega) _,(h.s.rs.other (show w2.heap.size≠B by omega) _).other (show w2.heap.size≠B by omega) _,(h.s.ro.other (show w2.heap.size+1≠B by omega) _).other (show w2.heap.size+1≠B by omega) _,(h.s.below.setCell (show w.heap.size≤B by omega) _).setCell (show w.heap.size≤B by omega) _,a⟩,(h.more.setCell b _).setCell b _⟩
end
theorem Rb (v:Value)(neg:Bool)(xs:List Nat)(n:Nat)(w:World)(h:dx w v neg xs)(hf:au neg xs=true)(h1:1≤n)(hn:n≤100)(az:neg=true→n % 2=1) :
 CB 110 #[v,vI n] w fun e w'=>∃ n5 a5 m5 c5 k,e=.returned (.agg #[.bool n5,.slice a5 m5 c5,vI k])∧k=0∧∃ r,ak w' (vN n5 a5 m5 c5) r∧FC (bX neg (val xs)) n r:=by
 have KF:=fun X (y:bW w X)=>Ce v neg xs X (h.below y)
 rw [hf] at KF;have ha:=h.isInt hf;have hi:=h.jI hf
 have KI:=fun X (y:bW w X)=>h.below y
 obtain ⟨va,rfl,hr,hl⟩:=h;obtain ⟨l,o,rfl,hc,hm⟩:=hr.form;obtain ⟨hk,hx⟩:=lJ hl hf
 have KD:=fun X (y:bW w X)=>PD _ neg xs X (KI X y) hk (by omega)
 have KM:=fun X (y:bW w X)=>jg false (.slice l xs.length o) xs X (hr.below y) hl (by omega)
 rw [show bX false (val xs)=((val xs:Nat):Int) from rfl] at KM
 have KL:=fun X q ps (y:bW w X) (hp:Reads .u32 X q ps) (S:Canon ps) (b8:ps.length≤1000000)=>tL q (.slice l xs.length o) ps xs X hp (hr.below y) S hk b8
 have al:neg=true↔bX neg (val xs)<0:=by
  cases neg with
  | false=>simp [bX]
  | true =>
   have h3:xs.length≠0:=by
    intro h0;simp [au,h0] at hf
   have:=(dn hk).2 (by omega);simp [bX];omega
 have ah:val xs<2^bitsOf xs∧bitsOf xs≤9600:=by
  by_cases h0:xs=[]
  ·subst h0;decide +kernel
  ·obtain ⟨h4,h2,h3⟩:=jM hk h0
   refine ⟨h3,?_⟩;have h5:=(bS hk 300).1 hx;have h6:=Qr h2 h5;rw [gX] at h6;have:=(Zi (show 1<2 by decide)).1 h6;omega
 have ab:=PL ah.1 h1;have hD:=ah.2;have hA:(bX neg (val xs)).natAbs=val xs:=bM _ _;rw [hA] at hi;generalize bitsOf xs=D at *;generalize cg:bX neg (val xs)=i at *;generalize ch:val xs=A at *
 obtain ⟨q,hq⟩:∃ q,D / n=q:=⟨_,rfl⟩
 rw [hq] at ab
 have c7:(D:Int) / (n:Int)=(q:Int):=by rw [← hq];exact (YZ D n).symm
 have c4:q≤9600:=by rw [← hq];exact Qd (Jv _ _) hD
 have b1:=dJ w (.cells #[.bool neg,.slice l xs.length o] 24);have b2:=b1.alloc b1.size (.cells #[vF,vZ,vI 0] 118);have q1:=(af.new w 24 (lN neg l xs.length o)).alloc (.cells #[vF,vZ,vI 0] 118);have q2:=af.new (w.alloc (.cells #[.bool neg,.slice l xs.length o] 24)) 118 [vF,vZ,vI 0];simp only [Qh] at q2;have p1:decide ((n:Int)<1)=false:=decide_eq_false (by omega)
 have p2:decide (100<(n:Int))=false:=decide_eq_false (by omega);have p3:decide (100<n)=false:=decide_eq_false (by omega);have HB:=Qa (And.intro ab (And.intro hi (And.intro al (And.intro hA (And.intro hq hD)))));have HP:=Qa az;clear ab hi al hA ah hq hD az hf hl hk hr hc hm b1;go_enter func110,ntmps110
 go_upto_region 3 with (go_at_call 69;refine (KF _ b2).mono ?_;rintro e w1 ⟨av,rfl⟩)
 replace b2:=b2.trans (av.mono b2.size);replace q1:=q1.below av;replace q2:=q2.below av;clear av KF p1 p2 p3;obtain ⟨g0,g1⟩:=aQ q1
 go_cut [30] from 24 to 30 (fun v W=>v=vF∧w1=W)
 case first =>
  cases neg with
  | false =>
   go_wp2
   go_meet
   exact ⟨rfl,rfl⟩
  | true =>
   have h3:((n:Int).tmod 2 == 0)=false:=by
    have:=HP.out rfl;rw [Zv (by omega)];simp;omega
   have h4:((n:Int) % 2 == 0)=false:=by
    have:=HP.out rfl;simp;omega
   go_wp2
   go_meet
   exact ⟨rfl,rfl⟩
 case rest =>
 obtain ⟨rfl,rfl⟩:=hcut
 go_upto_region 7 with (go_at_call 136;with_reducible refine (KM _ b2).mono ?_;rintro e g ⟨aw,v2,rfl,hI⟩;obtain ⟨F,u,m1,x,rfl⟩:=hI.shape)
 have ae:=dJ g (.cells #[.bool F,.slice u m1 x] 24);have aa:=ae.alloc ae.size (.cells #[vF,vZ] 24);have q3:=(af.new g 24 (lN F u m1 x)).alloc (.cells #[vF,vZ] 24);have q4:=af.new (g.alloc (.cells #[.bool F,.slice u m1 x] 24)) 24 (lN false none 0 0);simp only [Qh] at q4;have hg:=aw.trans (aa.mono aw.size);have b3:=b2.trans (hg.mono b2.size)
 have H:Lb w g neg l xs.length o F u m1 x false none 0 0 ((g.alloc (.cells #[.bool F,.slice u m1 x] 24)).alloc (.cells #[vF,vZ] 24)):=⟨q1.below hg,q2.below hg,q3,q4,b3,Qf q2.lt aw.size⟩
 have am:=hI.below aa;have ar:=ha.below b3;clear ae aa q3 q4 hg aw q1 q2 b2 hI g0 g1 KM;generalize (g.alloc (.cells #[.bool F,.slice u m1 x] 24)).alloc (.cells #[vF,vZ] 24)=W3 at *
 have U:ak W3 (vN false none 0 0) ((0:Nat):Int):=⟨false,_,[],rfl,Reads.nil _ _,iU,rfl,by simp [bX,val]⟩
 obtain ⟨d1,d2⟩:=aQ H.ra;have kD:=KD W3 b3;have HS:=Qa (And.intro H (And.intro am (And.intro ar U)));clear H am ar U b3 KD KI
 have e1:((n:Int) == 0)=false:=by simp;omega
 have e2:¬(n:Int)=0:=by omega
 go_upto_region 8 with (go_at_call 161;with_reducible refine kD.mono ?_;rintro e w4 ⟨ag,rfl⟩)
 clear c7 e1 e2 d1 d2 kD
 have ab:RL w g neg l xs.length o F u m1 x i n (vI ((q:Int)+1)) w4:=by
  obtain ⟨H,am,ar,U⟩:=HS.out;obtain ⟨hs,hi,al,hA,-⟩:=HB.out;exact ⟨q+2,false,none,0,0,0,by omega,by rw [show ((q+2:Nat):Int) - 1=(q:Int)+1 by omega],H.step ag,U.below ag,by rw [hA];exact am.below ag,ar.below ag,by rw [hA];exact hs.1,by rw [hA];exact hs.2⟩
 have HT:=Qa ab;clear ab HS ag c4 ha
 go_loopw [7] (fun v W=>RL w g neg l xs.length o F u m1 x i n v W) (fun v _=>(intOf v+1).toNat)
 case atStart=>exact HT.out
 case round =>
  clear HT;obtain ⟨m,n2,a2,m2,c2,r,hm,rfl,H,C,hy,E,B,J⟩:=hrel;obtain ⟨d1,d2⟩:=aQ H.ra;obtain ⟨d3,d4⟩:=aQ H.ro;obtain ⟨d5,d6⟩:=aQ H.rs
  have G:r≤i.natAbs:=by
   rcases Jr r with h0 | h0
   ·omega
   ·refine Qd ?_ B
    have:=Ql h0 h1
    rwa [Yf] at this
  cases m with
  | zero =>
   have ai:fD i.natAbs n r:=⟨B,by rwa [ZO] at J⟩
   have N:r<aj^300:=by have h3:=HB.out.2.1;have h4:=HB.out.2.2.2.1;rw [h4] at G;exact Qr G h3
   rw [show (((0:Nat):Int) - 1)=-1 from rfl]
   have b4:qa w g wr neg l xs.length o F u m1 x n2 a2 m2 c2 wr:=⟨H,Qj _ _⟩
   have kP:=fun X (y:qa w g wr neg l xs.length o F u m1 x n2 a2 m2 c2 X)=>PH _ (r:Int) n 300 X (C.below y.more) (by rw [QQ];exact N) hn (by omega) (by decide)
   have HR:=Qa (And.intro ai (And.intro N (And.intro G hy)));clear ai N G B J hm hy d5 d6
   go_upto_if 68 with (fail)
   go_cut [11] from 69 to 83 (fun _ W=>∃ n6 a6 m6 c6 R,Lb w g neg l xs.length o F u m1 x n6 a6 m6 c6 W∧ak W (vN n6 a6 m6 c6) R∧FC i n R∧R.natAbs≤A)
   case first =>
    cases neg with
    | false =>
     clear kP;go_wp2
     go_meet
     have bx:¬i<0:=fun h=>by have:=HB.out.2.2.1.2 h;cases this
     exact ⟨n2,a2,m2,c2,(r:Int),H,C,⟨r,HR.out.1,by rw [if_neg bx]⟩,by rw [QQ,← HB.out.2.2.2.1];exact HR.out.2.2.1⟩
    | true =>
     have hD:=Qa (Pg b4)
     have kB:=fun X q ps (y:qa w g wr true l xs.length o F u m1 x n2 a2 m2 c2 X) (hp:Reads .u32 X q ps) (S:Canon ps) (b8:ps.length≤1000000)=>KL X q ps y.s.below hp S b8
     go_upto_region 17 with (fail)
     have bt:=Ra
     have b0:∀ ps,Canon ps→val ps=((r:Int)^n).natAbs→ps.length≤1000000:=fun ps hk hv=>by
      have h3:val ps<aj^300:=by
       rw [hv,Xo,QQ];exact Qr HR.out.1.1 (by rw [HB.out.2.2.2.1];exact HB.out.2.1)
      exact Qd (aA hk h3) (by decide)
     go_cut [11] from 69 to 76 (fun v W=>v=.bool (decide (r^n=A))∧qa w g wr true l xs.length o F u m1 x n2 a2 m2 c2 W)
     case first =>
      go_wp2_with fail
      go_region_held3 (fun X=>X.cell? ⟨w.heap.size,1,none⟩=some (.slice l xs.length o)∧X.cell? ⟨g.heap.size+1,0,none⟩=some (.bool n2)∧X.cell? ⟨g.heap.size+1,1,none⟩=some (.slice a2 m2 c2)∧qa w g wr true l xs.length o F u m1 x n2 a2 m2 c2 X)
       (first | exact hD.out | (go_split_ands;exact qb (xe (by assumption) c)))
       (first
        | (go_at_call 163;go_split_ands;with_reducible refine (kP _ (by assumption)).mono ?_;rintro e wk ⟨c,v5,rfl,hI⟩;obtain ⟨n5,a5,m5,c5,rfl⟩:=hI.shape;obtain ⟨ps,c3,ax,bp⟩:=gq hI)
        | (go_at_call 138;go_split_ands;with_reducible refine (kB _ _ _ (by assumption) c3 ax (b0 _ ax bp)).mono ?_;rintro e wk ⟨c,rfl⟩))
      rename_i y;obtain ⟨-,-,-,O1⟩:=y;go_wp2
      go_meet
      exact ⟨by rw [PZ],O1⟩
     case rest =>
      obtain ⟨rfl,b5⟩:=hcut;clear kB bt b0 hD kP b4;generalize wc=W5 at *;have a:=b5.s;have T:=C.below b5.more;clear b5 C H d1 d2 d3 d4 E
      obtain ⟨t,ht⟩:∃ t,decide (r^n=A)=t:=⟨_,rfl⟩
      rw [ht];have HT:=Qa ht;clear ht
      go_upto_if 78 with (fail)
      go_cut [] from 79 to 81 (fun W=>∃ n6 a6 m6 c6,Lb w g true l xs.length o F u m1 x n6 a6 m6 c6 W∧ak W (vN n6 a6 m6 c6) ((if t=true then r else r+1:Nat):Int))
      case first =>
       cases t with
       | true =>
        go_wp2
        go_meet
        exact ⟨n2,a2,m2,c2,a,T⟩
       | false =>
        have kO:=fun X=>Au 1 X (by decide) (by decide)
        have kS:=fun X v v' (hv:ak X v (r:Int)) (ca:ak X v' 1)=>xN v v' (r:Int) 1 301 X hv ca (by decide) (by rw [QQ];exact Qf HR.out.2.1 (Ql aP (by decide))) (YY (by decide) (by decide))
        have b6:bW W5 W5.drew:=(Qj _ _).drew;replace a:=a.step b6;replace T:=T.below b6;clear b6;have z1:=a.ro.cell 0;have z2:=a.ro.cell 1;have z3:=a.ro.frozen 0;have z4:=a.ro.frozen 1;simp only [Qc,Qe] at z1 z2
        go_wp2_with fail
        go_region_with
         (first
          | (go_at_call 66;with_reducible refine (kO _).mono ?_;rintro e wk ⟨c,vO,rfl,an⟩;replace a:=a.step c;clear z1 z2 z3 z4;have z1:=a.ro.cell 0;have z2:=a.ro.cell 1;have z3:=a.ro.frozen 0;have z4:=a.ro.frozen 1;simp only [Qc,Qe] at z1 z2;replace T:=T.below c)
          | (go_at_call 67;with_reducible refine (kS _ _ _ T an).mono ?_;rintro e wk ⟨c,vS,rfl,a4⟩;obtain ⟨n9,V,m9,c9,rfl⟩:=a4.shape;replace a:=a.step c;clear z1 z2 z3 z4;have z1:=a.ro.cell 0;have z2:=a.ro.cell 1;have z3:=a.ro.frozen 0;have z4:=a.ro.frozen 1;simp only [Qc,Qe] at z1 z2))
        all_goals
         go_wp2
         go_meet
         exact ⟨n9,V,m9,c9,a.set n9 V m9 c9,a4.keep fun _ _ hv=>bf hv z1 z2 _ _⟩
      case rest =>
       clear a T;obtain ⟨n6,a6,m6,c6,j,bb⟩:=hcut;generalize wc=W6 at *;have kM:=nC _ _ W6 bb;obtain ⟨z1,z2⟩:=aQ j.ro
       go_wp2_with (go_at_call 65;with_reducible refine kM.mono ?_;rintro e wk ⟨c,vM,rfl,be⟩;obtain ⟨n9,V,m9,c9,rfl⟩:=be.shape;have d:=j.step c;have y1:=d.ro.cell 0;have y2:=d.ro.cell 1;have y3:=d.ro.frozen 0;have y4:=d.ro.frozen 1;simp only [Qc,Qe] at y1 y2)
       go_meet
       obtain ⟨ai,-,G,-⟩:=HR.out;obtain ⟨-,-,bz,hA,-⟩:=HB.out;rw [hA] at G;have bv:i<0:=bz.1 (by simp)
       have B:(if t=true then r else r+1)≤A:=by
        cases t with
        | true=>exact G
        | false =>
         show r+1≤A
         have h3:¬r^n=A:=of_decide_eq_false HT.out;have h4:=ai.1;rw [hA] at h4
         rcases Jr r with h5 | h5
         ·omega
         ·have h6:=Ql h5 h1
          rw [Yf] at h6;omega
       refine ⟨n9,V,m9,c9,-((if t=true then r else r+1:Nat):Int),d.set n9 V m9 c9,be.keep fun _ _ hv=>bf hv y1 y2 _ _,⟨r,ai,?_⟩,by rw [JU,QQ];exact B⟩;rw [if_pos bv,hA]
       cases t with
       | true=>rw [if_pos (of_decide_eq_true HT.out)];rfl
       | false=>rw [if_neg (of_decide_eq_false HT.out)];simp
   case rest =>
    clear kP HR H C E d1 d2 d3 d4 b4;obtain ⟨n6,a6,m6,c6,R,j,bb,bj,bi⟩:=hcut;generalize wc=W6 at *;have kF:=Ry _ R W6 bb;obtain ⟨z1,z2⟩:=aQ j.ro;have HR:=Qa (And.intro bj bi);clear bj bi
    go_wp2_with (go_at_call 164;with_reducible refine kF.mono ?_;rintro e wk ⟨c,n9,V,m9,c9,k9,rfl,a3⟩;have d:=j.step c;have y1:=d.rr.cell 0;have y2:=d.rr.cell 1;have y3:=d.rr.cell 2;have y4:=d.rr.frozen 0;have y5:=d.rr.frozen 1;have y6:=d.rr.frozen 2;simp only [Qc,Qe] at y1 y2 y3)
    have q5:=((d.rr.set 0 (.bool n9)).set 1 (.slice V m9 c9)).set 2 (vI k9);have u1:=q5.cell 0;have u2:=q5.cell 1;have u3:=q5.cell 2;simp only [QB,Qz,Qc,Qe] at u1 u2 u3;have ig:=d.below
    refine bodyPost_ret (v:=.agg #[.bool n9,.slice V m9 c9,vI k9]) (by simp [results,results110,go_sem,loadCellsFrom,u1,u2,u3]) rfl ⟨((ig.setCell (show w.heap.size≤w.heap.size+1 by omega) _).setCell (show w.heap.size≤w.heap.size+1 by omega) _).setCell (show w.heap.size≤w.heap.size+1 by omega) _,n9,V,m9,c9,k9,rfl,?_⟩;unfold fU at a3
    rw [if_pos (by rfl),if_pos (Qr HR.out.2 HB.out.2.1)] at a3;exact ⟨a3.1,R,a3.2.keep (Gx d.rr _ _ _),HR.out.1⟩
  | succ k =>
   have HL:=Qa (And.intro B (And.intro J G));clear B J G
   have bl:((k+1:Nat):Int) - 1=(k:Int):=by omega
   rw [bl];clear bl;obtain ⟨O,I⟩:=Rt k
   obtain ⟨L,hL⟩:∃ L,k / 32=L:=⟨_,rfl⟩
   obtain ⟨s,hs⟩:∃ s,k % 32=s:=⟨_,rfl⟩
   obtain ⟨M,hM⟩:∃ M,L+1=M:=⟨_,rfl⟩
   have bn:s<32:=by omega
   have cf:M≤1000:=by omega
   have t1:(k:Int) / 32=(L:Int):=by omega
   have t2:(k:Int) % 32=(s:Int):=by omega
   have t3:(L:Int)+1=(M:Int):=by omega
   have ap:L<M:=by omega
   have bw:∀ W,(Instr.makeSlice 22 (vI M) (vI M)).run prog W=.ok (.slice (some ⟨W.heap.size,0,none⟩) M M) (W.alloc (.cells (zeros M) 128)):=fun W=>by
    simpa using fw (M:Int) (M:Int) (by omega) (by omega) (by omega) W
   rw [hL,hs,hM] at O I;have bg:=IY s;have bh:2^s<2^32:=JV (by decide) bn
   have hK:2^k<aj^310:=by rw [gX];exact JV (by decide) (by omega)
   obtain ⟨P,hP⟩:∃ P,2^s=P:=⟨_,rfl⟩
   rw [hP] at O I bg bh
   obtain ⟨Q,hQ⟩:∃ Q,2^k=Q:=⟨_,rfl⟩
   rw [hQ] at I hK
   have ad:2^(k+1)=Q+Q:=by rw [Qo,hQ];omega
   have t8:(P:Int) % 4294967296=(P:Int):=by omega
   have HN:=Qa (And.intro hm (And.intro hQ ad))
   have o1:L<(List.replicate M 0).length:=by simp;exact ap
   have o2:M≤maxLen:=by unfold maxLen;omega
   clear hm hL hs hP hQ ad hM
   go_upto_region 11 with (fail)
   have aq:af (wr.alloc (.cells (zeros M) 128)) wr.heap.size 128 (aF (List.replicate M 0)):=by
    have e:(aF (List.replicate M 0)).toArray=zeros M:=by simp [aF,zeros]
    have:=af.new wr 128 (aF (List.replicate M 0));rw [e] at this;exact this
   have aa:=dJ wr (.cells (zeros M) 128);generalize wr.alloc (.cells (zeros M) 128)=W1 at *
   have ir:=fun W=>jk wr.heap.size 0 M M L ap .i64 W
   simp only [QJ] at ir
   have b7:W1.cell? ⟨wr.heap.size,L,none⟩=some (.int .u32 0):=by rw [aq.cell,jw o1];simp [ap]
   have bu:=aq.frozen L;have f:=aa.setCell (p:=⟨wr.heap.size,L,none⟩) (Qb _) (.int .u32 (P:Int));have a8:=aq.set L (.int .u32 (P:Int));rw [← lM] at a8;clear aa aq;have HR:=Qa (And.intro a8 (And.intro f (And.intro O (And.intro I (And.intro hK (And.intro H (And.intro C (And.intro hy (And.intro E o2)))))))))
   clear a8 f O I hK H C hy E bw t3 o1 o2 d1 d2 d3 d4 d5 d6
   go_upto_region 12 with (fail)
   obtain ⟨a8,f,O,I,hK,H,C,hy,E,o2⟩:=HR.out;clear HR;have ay:Reads .u32 (W1.setCell ⟨wr.heap.size,L,none⟩ (.int .u32 (P:Int))) (.slice (some ⟨wr.heap.size,0,none⟩) M M) ((List.replicate M 0).set L P):=af.reads a8 M M (by simp) (Qb _) o2;clear b7 bu a8 ir t1 t2 t8 bh bg ap;generalize W1.setCell ⟨wr.heap.size,L,none⟩ (.int .u32 (P:Int))=W2 at *
   have ao:qa w g W2 neg l xs.length o F u m1 x n2 a2 m2 c2 W2:=⟨H.step f,Qj _ _⟩
   have ba:=C.below f;have bq:=hy.below f;have U:=E.below f;have hl:=Qa (show g.heap.size+1<W2.heap.size from ao.s.ro.lt);clear f H C hy E;generalize wr.heap.size=b at *
   have e0:bX false (val ((List.replicate M 0).set L P))=(Q:Int):=by rw [I];rfl
   have kM:=fun X (y:qa w g W2 neg l xs.length o F u m1 x n2 a2 m2 c2 X)=>jg false _ _ X (ay.below y.more) O (by simp;omega)
   rw [e0] at kM
   have bm:r<aj^300:=by have h3:=HB.out.2.1;have h4:=HB.out.2.2.2.1;have h5:=HL.out.2.2;rw [h4] at h5;exact Qr h5 h3
   have kS:=fun X v (y:qa w g W2 neg l xs.length o F u m1 x n2 a2 m2 c2 X) (hv:ak X v (Q:Int))=>xN _ v (r:Int) (Q:Int) 310 X (ba.below y.more) hv (by decide) (by rw [QQ];exact Qf bm (Ql aP (by decide))) (by rw [QQ];exact hK)
   have bk:r+Q<aj^311:=by
    have h3:aj^300≤aj^310:=Ql aP (by decide)
    have h4:aj^311=aj^310*4294967296:=by rw [Qo];rfl
    generalize aj^310=Y at *;generalize aj^300=Z at *;omega
   have hD:=Qa (Pg ao);have bo:W2.heap.size≤W2.drew.heap.size:=Qb _;obtain ⟨-,d3,d4,-⟩:=qb ao;clear ay O I e0 bm hK
   go_cut [9] from 56 to 59 (fun v W=>kJ W v ((r:Int)+(Q:Int))∧qa w g W2 neg l xs.length o F u m1 x n2 a2 m2 c2 W)
   case first =>
    go_region_held3 (fun X=>X.cell? ⟨w.heap.size,1,none⟩=some (.slice l xs.length o)∧X.cell? ⟨g.heap.size+1,0,none⟩=some (.bool n2)∧X.cell? ⟨g.heap.size+1,1,none⟩=some (.slice a2 m2 c2)∧qa w g W2 neg l xs.length o F u m1 x n2 a2 m2 c2 X)
     (first | exact hD.out | (go_split_ands;exact qb (xe (by assumption) c)) | (go_split_ands;exact qb (xe (by assumption) (dJ _ _))) | (go_split_ands;exact qb (Ru (by assumption) hl.out bd _ _)))
     (first
      | (go_at_call 136;go_split_ands;with_reducible refine (kM _ (by assumption)).mono ?_;rintro e wk ⟨c,vO,rfl,an⟩;have c8:=Qd (qa.more (by assumption)).size c.size;first | (with_reducible have hq:=Fp (w1:=W2) (vals:=(lN false none 0 0)) (by first | assumption | exact Qb _) c;obtain ⟨bd,E⟩:=hq) | (with_reducible have hq:=Kg (w1:=W2) (vals:=(lN false none 0 0)) (Qb _) c;obtain ⟨bd,E⟩:=hq) | skip)
      | (go_at_call 67;go_split_ands;(first | with_reducible refine (kS _ _ (by assumption) an).mono ?_ | with_reducible refine (kS _ _ (by assumption) (an.below (dJ _ _))).mono ?_);rintro e wk ⟨c,vS,rfl,a4⟩;obtain ⟨cj,cc,ci,cd,rfl⟩:=a4.shape;have ce:=xe (by assumption) c;have c8:=Qd (qa.more (by assumption)).size c.size;first | (replace E:=E.below c;have z1:=E.cell 0;have z2:=E.cell 1;have z3:=E.frozen 0;have z4:=E.frozen 1;simp only [Qc,Qe] at z1 z2) | (with_reducible have hq:=Fp (w1:=W2) (vals:=(lN false none 0 0)) (by first | assumption | exact Qb _) c;obtain ⟨bd,E⟩:=hq;have z1:=E.cell 0;have z2:=E.cell 1;have z3:=E.frozen 0;have z4:=E.frozen 1;simp only [Qc,Qe] at z1 z2) | skip))
    all_goals
     rename_i y;obtain ⟨-,-,-,O1⟩:=y;go_wp2
     go_meet
     first
      | exact ⟨Rl E a4,O1⟩
      | exact ⟨kJ.new a4,O1⟩
   case rest =>
    obtain ⟨⟨b9,n9,V,m9,c9,rfl,r9,i9⟩,a7⟩:=hcut;generalize wc=W4 at *;have cb:=ba.below a7.more;have bc:=bq.below a7.more;have br:=U.below a7.more;rw [← ZJ] at i9;have kA:=PK (vN n9 V m9 c9) (vN F u m1 x) (r+Q) i.natAbs n 311 W4 i9 bc bk h1 hn (by omega) (by decide)
    obtain ⟨t,ht⟩:∃ t,decide (i.natAbs<(r+Q)^n)=t:=⟨_,rfl⟩
    rw [ht] at kA;obtain ⟨g1,g2⟩:=aQ r9;obtain ⟨g3,g4⟩:=aQ a7.s.rs;have hw:=Qa (PN k (Qd (Nat.le_of_succ_le HN.out.1) (by decide)));clear d3 d4 hD bo kM kS hl ba bq U ao bk
    cases t with
    | true =>
     have HT:=Qa ht;clear ht
     go_wp2_with (go_at_call 162;with_reducible refine kA.mono ?_;rintro e w6 ⟨z,rfl⟩)
     go_roundw
     case rel =>
      obtain ⟨hm,hQ,ad⟩:=HN.out;obtain ⟨B,J,-⟩:=HL.out;rw [hw.out];exact ⟨k,n2,a2,m2,c2,r,Nat.le_of_succ_le hm,rfl,a7.s.step z,cb.below z,bc.below z,br.below z,B,by rw [hQ];exact of_decide_eq_true HT.out⟩
     case measure =>
      rw [hw.out];simp only [intOf];omega
    | false =>
     have HT:=Qa ht;clear ht
     go_wp2_with (go_at_call 162;with_reducible refine kA.mono ?_;rintro e w6 ⟨z,rfl⟩;have j:=a7.s.step z;have bs:=r9.below z;have u1:=bs.cell 0;have u2:=bs.cell 1;have s1:=j.ro.cell 0;have s2:=j.ro.cell 1;have s3:=j.ro.frozen 0;have s4:=j.ro.frozen 1;simp only [Qc,Qe] at u1 u2 s1 s2)
     have S:=fun v xs h=>bf (v:=v) (xs:=xs) (b:=g.heap.size+1) h s1 s2 (.bool n9) (.slice V m9 c9)
     go_roundw
     case rel =>
      obtain ⟨hm,hQ,ad⟩:=HN.out;obtain ⟨B,J,-⟩:=HL.out;rw [ad] at J;rw [hw.out];exact ⟨k,n9,V,m9,c9,r+Q,Nat.le_of_succ_le hm,rfl,j.set n9 V m9 c9,(i9.below z).keep S,(bc.below z).keep S,(br.below z).keep S,ZM (of_decide_eq_false HT.out),by rw [hQ,QV];exact J⟩
     case measure =>
      rw [hw.out];simp only [intOf];omega
def Ol (W:World)(v:Value)(k:Int)(v2:Value)(k2:Int):Prop:=k=k2∧((∃ i p,dX W v i p∧dX W v2 i p)∨(v=pV∧v2=pV))
theorem Ps {W:World}{K:Int}{x:Int × Nat}{k b:Int}{v c:Value}(h:dG W K x k v)(a:dG W K x b c):Ol W v k c b:=by
 unfold dG at h a
 by_cases hK:K=0
 ·rw [if_pos hK] at h a
  unfold dP at h a
  by_cases hf:x.1.natAbs<aj^40
  ·rw [if_pos hf] at h a
   exact ⟨h.1.trans a.1.symm,.inl ⟨_,_,h.2,a.2⟩⟩
  ·rw [if_neg hf] at h a
   exact ⟨h.1.trans a.1.symm,.inr ⟨h.2,a.2⟩⟩
 ·rw [if_neg hK] at h a
  exact ⟨h.1.trans a.1.symm,.inr ⟨h.2,a.2⟩⟩
theorem Ph (W:World):ak W (.agg #[.bool false,.slice none 0 0]) 0:=⟨false,_,[],rfl,Reads.nil _ _,iU,rfl,rfl⟩
theorem Rc {W:World}{v a:Value}{k c:Int}(h:Ol W v k a c) :
  Calls prog 51 #[v,a] W fun e d=>Below W.heap.size W d∧e=.returned (.bool true):=by
 rcases h.2 with ⟨i,p,h1,b⟩ | ⟨rfl,rfl⟩
 ·exact xD v a i p W h1 b
 ·exact Ho 0 0 ⟨#[]⟩ 0 false none 0 0 none 0 false none 0 0 none 0 0 W (Ph W) (Ph W)
theorem Pt (k0 n0:Int)(g:Bool)(a:Option Addr)(m c:Nat)(s:ByteArray)(la:Option Addr)(l lc:Nat)(k t v:Int)(q:Bool)(d:Option Addr)(m1 j:Nat)(x:ByteArray)(o:Option Addr)(u n:Nat)(b:Int)(w:World)
  (h:Ol w (.agg #[.int .i64 k0,.int .i64 n0,.bool g,.slice a m c,.string s,.slice la l lc]) k (.agg #[.int .i64 t,.int .i64 v,.bool q,.slice d m1 j,.string x,.slice o u n]) b) :
  Calls prog 24 #[.agg #[.int .i64 k0,.int .i64 n0,.bool g,.slice a m c,.string s,.slice la l lc],.int .i64 k,.agg #[.int .i64 t,.int .i64 v,.bool q,.slice d m1 j,.string x,.slice o u n,.int .i64 b]] w fun e E=>Below w.heap.size w E∧e=.returned (.bool true):=by
 obtain ⟨F,C,f,z,A⟩:=yP w 27 [.int .i64 k0,.int .i64 n0,.bool g,.slice a m c,.string s,.slice la l lc] 41 [.int .i64 t,.int .i64 v,.bool q,.slice d m1 j,.string x,.slice o u n,.int .i64 b]
 have D:=fun X (y:Below w.heap.size w X)=>Rc (⟨h.1,h.2.elim (fun ⟨i,p,h1,B⟩=>.inl ⟨i,p,h1.below y,B.below y⟩) .inr⟩:Ol X _ k _ b)
 obtain rfl:=h.1;obtain ⟨G,H,I,J,L,M⟩:=aD z;obtain ⟨N,O,Q,R,S,T,U⟩:=jW A;clear h z A;go_enter func24,ntmps24
 go_upto_region 1 with (fail)
 rw [C.out]
 go_wp2_with (go_at_call 51;refine (D _ f).mono ?_;rintro e w1 ⟨r,rfl⟩)
 go_ret;exact ⟨f.trans (r.mono f.size),rfl⟩
structure RG (w w1:World) (n0:Bool) (a0:Option Addr) (m0 c0:Nat) (n1:Bool) (a1:Option Addr) (m1 c1:Nat) (X:World):Prop where
 ra:af X w.heap.size 24 (lN n0 a0 m0 c0)
 rr:af X (w.heap.size+1) 56 [vF,vZ,vI 0]
 ro:af X w1.heap.size 24 (lN n1 a1 m1 c1)
 below:bW w X
 more:bW w1 X
 lt:w.heap.size+1<w1.heap.size
section
variable {w w1 X X':World} {n0 n1:Bool} {a0 a1:Option Addr} {m0 c0 m1 c1:Nat}
theorem RG.step (h:RG w w1 n0 a0 m0 c0 n1 a1 m1 c1 X)(a:bW X X'):RG w w1 n0 a0 m0 c0 n1 a1 m1 c1 X':=⟨h.ra.below a,h.rr.below a,h.ro.below a,h.below.trans (a.mono h.below.size),h.more.trans (a.mono h.more.size),h.lt⟩
theorem RG.set (h:RG w w1 n0 a0 m0 c0 n1 a1 m1 c1 X)(n:Bool)(a:Option Addr)(m c:Nat):RG w w1 n0 a0 m0 c0 n a m c ((X.setCell ⟨w1.heap.size,0,none⟩ (.bool n)).setCell ⟨w1.heap.size,1,none⟩ (.slice a m c)):=by
 have b:=h.lt
 exact ⟨(h.ra.other (show w.heap.size≠w1.heap.size by omega) _).other (show w.heap.size≠w1.heap.size by omega) _,(h.rr.other (show w.heap.size+1≠w1.heap.size by omega) _).other (show w.heap.size+1≠w1.heap.size by omega) _,(h.ro.set 0 (.bool n)).set 1 (.slice a m c),(h.below.setCell (show w.heap.size≤w1.heap.size by omega) _).setCell (show w.heap.size≤w1.heap.size by omega) _,(h.more.setCell (Qb _) _).setCell (Qb _) _,h.lt⟩
end
def RS (w w1:World)(n0:Bool)(a0:Option Addr)(m0 c0:Nat)(i:Int)(n:Nat)(v:Value)(W:World):Prop:=∃ k n1 a1 m1 c1,k≤n∧v=vI k∧RG w w1 n0 a0 m0 c0 n1 a1 m1 c1 W∧ak W (vN n1 a1 m1 c1) (i^k)∧(i^k).natAbs<aj^300∧ak W (vN n0 a0 m0 c0) i
def Py (W:World)(x k:Int)(v:Value):Prop:=if x.natAbs<aj^300 then k=0∧ak W v x else k=3
theorem nR (va:Value)(i:Int)(n:Nat)(w:World)(ha:ak w va i)(hi:i.natAbs<aj^40)(T:n≤9600) :
 CB 109 #[va,vI n] w fun e w'=>∃ g a m c k,e=.returned (.agg #[.bool g,.slice a m c,vI k])∧Py w' (i^n) k (vN g a m c):=by
 obtain ⟨n0,C,N,F,rfl⟩:=ha.shape;have b1:=dJ w (.cells #[.bool n0,.slice C N F] 24);have R:=b1.alloc b1.size (.cells #[vF,vZ,vI 0] 56);have q1:=(af.new w 24 (lN n0 C N F)).alloc (.cells #[vF,vZ,vI 0] 56);have q2:=af.new (w.alloc (.cells #[.bool n0,.slice C N F] 24)) 56 [vF,vZ,vI 0];simp only [Qh] at q2
 have kO:=fun X=>Au 1 X (by decide) (by decide)
 have I:=ha.below R;clear ha b1;go_enter func109,ntmps109
 go_wp2_with (go_at_call 66;refine (kO _).mono ?_;rintro e w1 ⟨p,v1,rfl,hI⟩;obtain ⟨O,D,m1,G,rfl⟩:=hI.shape)
 have o:=dJ w1 (.cells #[.bool O,.slice D m1 G] 24);have J:=p.trans (o.mono p.size)
 have M:RS w w1 n0 C N F i n (vI 0) (w1.alloc (.cells #[.bool O,.slice D m1 G] 24)):=⟨0,O,D,m1,G,QF _,rfl,⟨q1.below J,q2.below J,af.new w1 24 (lN O D m1 G),R.trans (J.mono R.size),o,by have:=p.size;simp at this;omega⟩,by rw [Int.pow_zero];exact hI.below o,by rw [Int.pow_zero];exact Qf (show 1<aj^1 by decide) (Ql aP (by decide)),I.below J⟩
 have HS:=Qa M;clear M J o hI p q1 q2 R I kO;generalize w1.alloc (.cells #[.bool O,.slice D m1 G] 24)=W1 at *
 go_loopw [6] (fun v W=>RS w w1 n0 C N F i n v W) (fun v _=>n - (intOf v).toNat)
 case atStart=>exact HS.out
 case round =>
  clear HS;obtain ⟨k,n2,a2,m2,c2,S,rfl,l,U,r,hy⟩:=hrel;obtain ⟨d1,d2⟩:=aQ l.ra;obtain ⟨d3,d4⟩:=aQ l.ro
  by_cases d:k<n
  ·have V:=yl _ _ (i^k) i wr U hy (az r (by decide)) (az hi (by decide))
   rw [← Int.pow_succ] at V;have e1:decide ((k:Int)<(n:Int))=true:=decide_eq_true (by omega);have e2:decide (k<n)=true:=decide_eq_true d;have HN:=Qa (And.intro d (And.intro S T));clear hi d S T U r
   have f:¬(i^(k+1)).natAbs<aj^300→¬(i^n).natAbs<aj^300:=by
    intro h
    have h0:0<i.natAbs:=by
     rcases Jr i.natAbs with h2 | h2
     ·exfalso
      apply h;rw [Xo,h2,Nat.zero_pow (ZY k)];exact Qq aP
     ·exact h2
    rw [Xo] at h ⊢;have h3:=Ql h0 (show k+1≤n by have:=HN.out.1;omega);omega
   have HG:=Qa f;clear f
   obtain ⟨y,x⟩:∃ y,i^(k+1)=y:=⟨_,rfl⟩
   rw [x] at V HG;have HY:=Qa x;clear x
   by_cases A:y.natAbs<aj^300
   ·have B:=Qa A
    go_wp2_with (go_at_call 63;with_reducible refine V.mono ?_;rintro e w3 ⟨q,v3,rfl,z⟩;obtain ⟨Q,E,s,H,rfl⟩:=z.shape;have j:=l.step q;have Y:=j.ro.cell 0;have Z:=j.ro.cell 1;have s3:=j.ro.frozen 0;have s4:=j.ro.frozen 1;simp only [Qc,Qe] at Y Z;have u:=(tT z 300).2 A;have e3:decide ((300:Int)<(s:Int))=false:=decide_eq_false (by omega);clear u A)
    obtain ⟨d,S,T⟩:=HN.out
    have hw:wrap64 ((k:Int)+1)=((k+1:Nat):Int):=by unfold wrap64;omega
    have L:=fun v xs h=>bf (v:=v) (xs:=xs) (b:=w1.heap.size) h Y Z (.bool Q) (.slice E s H)
    go_roundw
    case rel=>exact ⟨k+1,Q,E,s,H,d,by rw [hw],j.set Q E s H,by rw [HY.out];exact z.keep L,by rw [HY.out];exact B.out,(hy.below q).keep L⟩
    case measure =>
     rw [hw];simp only [intOf,QP];omega
   ·have B:=Qa (HG.out A)
    go_wp2_with (go_at_call 63;with_reducible refine V.mono ?_;rintro e w3 ⟨q,v3,rfl,z⟩;obtain ⟨Q,E,s,H,rfl⟩:=z.shape;have j:=l.step q;have Y:=j.ro.cell 0;have Z:=j.ro.cell 1;have s3:=j.ro.frozen 0;have s4:=j.ro.frozen 1;simp only [Qc,Qe] at Y Z;have u:¬s≤300:=fun h=>absurd ((tT z 300).1 h) A;have e3:decide ((300:Int)<(s:Int))=true:=decide_eq_true (by omega);clear u A;have t:=j.set Q E s H;obtain ⟨y0,y1,y2,f0,f1,f2⟩:=wQ t.rr)
    obtain ⟨u0,u1,u2⟩:=Oh t.rr vF vZ (vI 3);have hb:=t.below;exact bodyPost_ret (v:=.agg #[vF,vZ,vI 3]) (by simp [results,results109,go_sem,loadCellsFrom,u0,u1,u2]) rfl ⟨((hb.setCell (show w.heap.size≤w.heap.size+1 by omega) _).setCell (show w.heap.size≤w.heap.size+1 by omega) _).setCell (show w.heap.size≤w.heap.size+1 by omega) _,_,_,_,_,_,rfl,by unfold Py;rw [if_neg B.out]⟩
  ·obtain rfl:k=n:=by omega
   have e1:decide ((k:Int)<(k:Int))=false:=decide_eq_false (by omega);obtain ⟨y0,y1,y2,f0,f1,f2⟩:=wQ l.rr;obtain ⟨u0,u1,u2⟩:=Oh l.rr (.bool n2) (.slice a2 m2 c2) (vI 0);have hb:=l.below;have a3:=U.keep (yt l.rr (.bool n2) (.slice a2 m2 c2) (vI 0));have B:=Qa r;clear S d U hy l hi T r
   go_wp2_with fail
   exact bodyPost_ret (v:=.agg #[.bool n2,.slice a2 m2 c2,vI 0]) (by simp [results,results109,go_sem,loadCellsFrom,u0,u1,u2]) rfl ⟨((hb.setCell (show w.heap.size≤w.heap.size+1 by omega) _).setCell (show w.heap.size≤w.heap.size+1 by omega) _).setCell (show w.heap.size≤w.heap.size+1 by omega) _,_,_,_,_,_,rfl,by unfold Py;rw [if_pos B.out];exact ⟨rfl,a3⟩⟩
theorem RN (i:Value)(w:World)(h1:mJ w i) :
 CB 26 #[i] w fun e _=>e=.returned (vG 0 0 false none 0 0 ⟨#[]⟩ none 0 0 2):=by
 have r:=fun X (o:bW w X)=>(h1.below o).is
 obtain ⟨q,t,n,j,m1,k,u,m,s,l,rfl⟩:=h1.shape;obtain ⟨E,g,c,b,h⟩:=yP w 27 (lV q t n j m1 k u m s l) 41 (lG 0 0 false none 0 0 ⟨#[]⟩ none 0 0 0);have d:=fC (R:=ni _) (ax b aS) ⟨_,_,_,_,_,_,_,_,_,_,_,h⟩ c;obtain ⟨J,L,M,N,O,Q⟩:=aD b;clear h1 c h b;go_enter func26,ntmps26
 go_upto_region 1 with (fail)
 rw [g.out];clear g
 go_wp2_with (go_at_call 20;with_reducible refine (r _ d.below).mono ?_;rintro e w1 ⟨a,rfl⟩;have f:=ag ni.step d a;obtain ⟨z0,z1,z2,z3,F,G,z4,z5,H,I,z6,hr,y0,y1,y2,y3,y4,y5,y6,S,T,U,V,Y,Z,f6⟩:=f.res.cells)
 obtain ⟨x,y,z,A,B,C,D⟩:=wO hr (vI 0) (vI 0) vF vZ vE vZ (vI 2);have p:=(uS f (aZ (by omega) dV) (by omega) 0 0 false none 0 0 ⟨#[]⟩ none 0 0 2).below;exact bodyPost_ret (v:=vG 0 0 false none 0 0 ⟨#[]⟩ none 0 0 2) (by simp [results,results26,go_sem,loadCellsFrom,x,y,z,A,B,C,D]) rfl ⟨p,rfl⟩
theorem RB (i:Value)(places:Int)(w:World)(h1:mJ w i) :
 CB 38 #[i,vI places] w fun e _=>e=.returned (vG 0 0 false none 0 0 ⟨#[]⟩ none 0 0 2):=by
 have r:=fun X (o:bW w X)=>(h1.below o).is
 obtain ⟨q,t,n,j,m1,k,u,m,s,l,rfl⟩:=h1.shape;obtain ⟨E,g,c,b,h⟩:=yP w 27 (lV q t n j m1 k u m s l) 41 (lG 0 0 false none 0 0 ⟨#[]⟩ none 0 0 0);have d:=fC (R:=ni _) (ax b aS) ⟨_,_,_,_,_,_,_,_,_,_,_,h⟩ c;obtain ⟨J,L,M,N,O,Q⟩:=aD b;clear h1 c h b;go_enter func38,ntmps38
 go_upto_region 1 with (fail)
 rw [g.out];clear g
 go_wp2_with (go_at_call 20;with_reducible refine (r _ d.below).mono ?_;rintro e w1 ⟨a,rfl⟩;have f:=ag ni.step d a;obtain ⟨z0,z1,z2,z3,F,G,z4,z5,H,I,z6,hr,y0,y1,y2,y3,y4,y5,y6,S,T,U,V,Y,Z,f6⟩:=f.res.cells)
 obtain ⟨x,y,z,A,B,C,D⟩:=wO hr (vI 0) (vI 0) vF vZ vE vZ (vI 2);have p:=(uS f (aZ (by omega) dV) (by omega) 0 0 false none 0 0 ⟨#[]⟩ none 0 0 2).below;exact bodyPost_ret (v:=vG 0 0 false none 0 0 ⟨#[]⟩ none 0 0 2) (by simp [results,results38,go_sem,loadCellsFrom,x,y,z,A,B,C,D]) rfl ⟨p,rfl⟩
theorem Rv (i:Value)(w:World)(h1:mJ w i) :
 CB 39 #[i] w fun e _=>e=.returned (vG 0 0 false none 0 0 ⟨#[]⟩ none 0 0 2):=by
 have r:=fun X (o:bW w X)=>(h1.below o).is
 obtain ⟨q,t,n,j,m1,k,u,m,s,l,rfl⟩:=h1.shape;obtain ⟨E,g,c,b,h⟩:=yP w 27 (lV q t n j m1 k u m s l) 41 (lG 0 0 false none 0 0 ⟨#[]⟩ none 0 0 0);have d:=fC (R:=ni _) (ax b aS) ⟨_,_,_,_,_,_,_,_,_,_,_,h⟩ c;obtain ⟨J,L,M,N,O,Q⟩:=aD b;clear h1 c h b;go_enter func39,ntmps39
 go_upto_region 1 with (fail)
 rw [g.out];clear g
 go_wp2_with (go_at_call 20;with_reducible refine (r _ d.below).mono ?_;rintro e w1 ⟨a,rfl⟩;have f:=ag ni.step d a;obtain ⟨z0,z1,z2,z3,F,G,z4,z5,H,I,z6,hr,y0,y1,y2,y3,y4,y5,y6,S,T,U,V,Y,Z,f6⟩:=f.res.cells)
 obtain ⟨x,y,z,A,B,C,D⟩:=wO hr (vI 0) (vI 0) vF vZ vE vZ (vI 2);have p:=(uS f (aZ (by omega) dV) (by omega) 0 0 false none 0 0 ⟨#[]⟩ none 0 0 2).below;exact bodyPost_ret (v:=vG 0 0 false none 0 0 ⟨#[]⟩ none 0 0 2) (by simp [results,results39,go_sem,loadCellsFrom,x,y,z,A,B,C,D]) rfl ⟨p,rfl⟩
end Go.Proofs.YtagjhmodblifbaaGreatDoor
