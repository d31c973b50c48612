/- proved lemmas -/
import Derived.Test.YtagjhmodblifbaaGreatDoorMA
import Derived.Test.YtagjhmodblifbaaGreatDoorB00
import Derived.Test.YtagjhmodblifbaaGreatDoorB11
import Derived.Test.YtagjhmodblifbaaGreatDoorB09
import Derived.Test.YtagjhmodblifbaaGreatDoorB04
import Derived.Test.YtagjhmodblifbaaGreatDoorB07
import Derived.BigQuiet
import Derived.Test.YtagjhmodblifbaaGreatDoorB10
import Derived.Deep.CutRange
import Derived.Deep.RegionHeld3
import Derived.Deep.LoopGhost
import Derived.Test.YtagjhmodblifbaaGreatDoorB02
import Derived.Test.YtagjhmodblifbaaGreatDoorB05
import Derived.Test.YtagjhmodblifbaaGreatDoorB06
set_option maxHeartbeats 4000000
set_option maxRecDepth 100000
set_option exponentiation.threshold 100000
namespace Go.Proofs.YtagjhmodblifbaaGreatDoor
open Go.Proofs.Tryz
open Go Go.RowKit Go.Shelf
theorem mG {A n r s:Nat}(h:fD A n r)(d:fD A n s):r=s:=by
 have c:∀ {a b:Nat},fD A n a→fD A n b→a≤b:=fun {a b} ha hb=>ZM fun f=>by
  have h1:=QU (show b+1≤a from f) n;have g:=ha.1;have i:=hb.2;omega
 exact Nat.le_antisymm (c h d) (c d h)
theorem Gz (A:Nat){n:Nat}(f:n≠0):∃ r,fD A n r:=by
 have c:∀ k,∃ r,r^n≤A∧(A<(r+1)^n∨k≤r):=fun k=>by
  induction k with
  | zero=>exact ⟨0,by rw [Nat.zero_pow (by omega)];exact QF _,.inr (QF _)⟩
  | succ k d =>
   obtain ⟨r,h1,a⟩:=d
   rcases a with a | a
   ·exact ⟨r,h1,.inl a⟩
   ·by_cases b:A<(r+1)^n
    ·exact ⟨r,h1,.inl b⟩
    ·exact ⟨r+1,by omega,.inr (by omega)⟩
 obtain ⟨r,h1,a⟩:=c (A+1);refine ⟨r,h1,a.resolve_right fun h=>?_⟩;have b:r^1≤r^n:=Ql (by omega) (by omega);rw [Yf] at b;omega
theorem zi (K L m:Nat)(T:gP K)(R:mf L K)(S:L≤1000)(y:0<K)(hK:K≤1000)(X:m<100)(I:Value)(d:List Nat)(w:World)(ha:Reads .u32 w I d)(z:Canon d)(A:d.length≤L)(n:2^(m+1)*val d<aj^K) :
 CB 200 #[.agg #[vF,I],vI ((m:Int)+1)] w fun e w'=>∃ v r,e=.returned v∧ak w' v ((r:Nat):Int)∧fD (val d) (m+1) r:=by
 obtain ⟨k,l,rfl,fA,gy⟩:=ha.form;have t:=(dJ w (.cells #[vF,.slice k d.length l] 24)).alloc (by simp) (.cells #[vF,vZ] 24);have r1:=(af.new w 24 (lN false k d.length l)).alloc (.cells #[vF,vZ] 24);have r2:=af.new (w.alloc (.cells #[vF,.slice k d.length l] 24)) 24 (lN false none 0 0);simp only [Qh] at r2
 have c:BA w w false k d l ((w.alloc (.cells #[vF,.slice k d.length l] 24)).alloc (.cells #[vF,vZ] 24)):=⟨r1,r2,t,ha.below t,fun v xs h=>h.below t⟩
 generalize p:(w.alloc (.cells #[vF,.slice k d.length l] 24)).alloc (.cells #[vF,vZ] 24)=W0 at c;have j:=xM K L m T R S y hK X (bitsOf d) (.slice k d.length l) d W0 (Qb _) c.ra z A n;have E:=Qa p;clear n p r1 r2 t;go_enter func200,ntmps200
 go_wp2_with (go_at_call 228;(try rw [E.out]);refine j.mono ?_;rintro e q ⟨o,v3,rs,rfl,x,Z,H⟩;obtain ⟨s,u,rfl,U,Y⟩:=x.form)
 have g:BA w q false k d l q:=⟨c.a.below o,c.res.below o,c.below.trans (o.mono c.below.size),c.ra.below o,fun _ _ h=>h⟩
 obtain ⟨F,G,-⟩:=zB g;have J:=Qa H;clear c j E H o
 go_quiet (fail)
 have i:BA w q false k d l (q.drewN nq):=⟨kv g.a nq,kv g.res nq,below_drewN g.below nq,mW g.ra nq,fun v xs h=>mW h nq⟩
 have O:=i.keep _ _ x;clear F G g x;generalize q.drewN nq=w5 at *;obtain ⟨F,G,-⟩:=zB i
 go_wp2_with (go_at_call 184;refine (dK _ _ _ _ _).mono ?_;rintro e w6 ⟨B,rfl⟩;have f:=i.res.below B;have C:=f.cell 0;have D:=f.cell 1;have q3:=f.frozen 0;have q4:=f.frozen 1;have Q:=O.below B;simp only [Qc,Qe] at C D)
 obtain ⟨s1,s2⟩:=bA (b:=w.heap.size+1) C D vF (.slice s rs.length u);have V:=bf (b:=w.heap.size+1) Q C D vF (.slice s rs.length u);have M:=i.below.trans (B.mono i.below.size);have N:bW w ((w6.setCell ⟨w.heap.size+1,0,none⟩ vF).setCell ⟨w.heap.size+1,1,none⟩ (.slice s rs.length u)):=(M.setCell (by simp) _).setCell (by simp) _
 refine bodyPost_ret (v:=vN false s rs.length u) (by simp [results,results200,go_sem,loadCellsFrom,s1,s2]) rfl ⟨N,_,val rs,rfl,dm false V Z rfl,J.out⟩
theorem Fu (x:Nat):∀ n:Nat,bX true x^n=bX (((n % 2:Nat):Int) == 1) (x^n)
 | 0=>by simp [bX]
 | n+1=>by
  rw [Int.pow_succ,Fu x n]
  rcases Nat.mod_two_eq_zero_or_one n with h | h
  ·rw [h,show (n+1) % 2=1 by omega]
   simp [bX,Qo,Zf]
  ·rw [h,show (n+1) % 2=0 by omega]
   simp [bX,Qo,YX]
theorem Ko (B:Nat)(o:Option Addr)(q:Nat)(d:List Nat)(n:Nat)(r0:Bool)(r1:Option Addr)(r2 r3 K:Nat)(hT:gP K)(hK:0<K)(w:World)(j:af w B 24 (lN true o d.length q))(s:af w (B+1) 3 [vI n])(y:af w (B+2) 24 (lN r0 r1 r2 r3))
  (ha:Reads .u32 w (.slice o d.length q) d) (x:Canon d) (fa:au true d=true) (hn:n≤9600) (a8:d.length≤300) (R:((bitsOf d:Int) - 1)*n<9600) (J:bitsOf d≤9600) (i:val d^n<aj^K) (t:val d^n<aj^300) :
  Calls prog 196 #[vP B,vP (B+1),vP (B+2)] w fun e A=>e=.returned (.tuple #[])∧dF (fun k=>k=B+2) w A∧∃ m a l c,af A (B+2) 24 (lN m a l c)∧ak A (vN m a l c) (bX true (val d)^n):=by
 obtain ⟨a0,a1⟩:=aQ j;have n0:=mI s;have u:=x.1;have z:=af.new w 24 (lN true o d.length q);have D:=dJ w (.cells #[.bool true,.slice o d.length q] 24)
 have L:=fun W (h:bW w W)=>gW (.slice o d.length q) d W (ha.below h) u (by omega)
 obtain ⟨P,hP⟩:∃ P:Int,((bitsOf d:Int) - 1)*n=P:=⟨_,rfl⟩
 have G:-9600≤P:=by
  rw [← hP];have h1:(-1:Int)*n≤((bitsOf d:Int) - 1)*n:=Zj (by omega) (by omega);omega
 rw [hP] at R
 have H:IntKind.i64.wrap P=P:=by rw [Qx];omega
 have Z:=Qa t;have HK:=Qa i;clear t i
 obtain ⟨p,S⟩:∃ p,n % 2=p:=⟨_,rfl⟩
 have a5:p=0∨p=1:=by omega
 have a6:(n:Int) % 2=(p:Int):=by omega
 have a7:(n:Int).tmod 2=(p:Int):=by rw [Zv (by omega)];omega
 have HP:=Qa S;clear S;go_enter func196,ntmps196
 go_wp2_with (first
  | (go_at_call 182;refine (gV _ true o q d _ z (ha.below D) u fa).mono ?_;rintro e w1 ⟨N,rfl⟩;have r:=D.trans (N.mono (by simp));have U:=(j.below r).cell 0;have Y:=(j.below r).cell 1;have V:=(s.below r).cell 0;simp only [Qc,Qe] at U V Y)
  | (go_at_call 106;refine (aC _ _ _ (by simp;omega)).mono ?_;rintro e w2 ⟨rfl,rfl⟩))
 go_quiet (first
  | (go_at_call 197;exact (gW (.slice o d.length q) d _ ((ha.below r).drewN _) u (by omega)).mono (fun e A ⟨h1,E⟩=>⟨E,_,h1.symm⟩))
  | (go_at_call 106;exact (aC _ _ _ (by first | rfl | (simp;omega))).mono (fun e A ⟨h1,E⟩=>⟨E,_,h1.symm⟩)))
 have I:sP w B true o d q n (w1.drewN nq):=by
  have h1:bW w (w1.drewN nq):=⟨r.os,r.tape,r.output,r.size,r.block⟩
  exact ⟨j.below h1,ha.below h1,s.below h1,(dF.refl (fun k=>k=B+2) w).aU h1,⟨r0,r1,r2,r3,y.below h1⟩⟩
 generalize w1.drewN nq=W2 at *;clear j s y L hP H G R a0 a1 n0 z D r N U V Y J ha;have hD:=Qa (uI I);obtain ⟨d1,d2,d3,-⟩:=tq I;clear I
 go_wp2_with fail
 obtain ⟨f,hf⟩:∃ f:Bool,((p:Int) == 1)=f:=⟨_,rfl⟩
 have HS:=Qa hf
 go_region_held3 (fun X=>X.cell? ⟨B,0,none⟩=some (.bool true)∧X.cell? ⟨B,1,none⟩=some (.slice o d.length q)∧X.cell? ⟨B+1,0,none⟩=some (vI n)∧sP w B true o d q n X)
  (first | exact hD.out | (go_split_ands;exact lh (by assumption) g) | (go_split_ands;exact zM (by assumption) _ _ _ _))
  (first
   | (go_at_call 198;go_split_ands;refine (lL K hT hK _ d n _ (sP.ra (by assumption)) x hn HK.out).mono ?_;rintro e w9 ⟨g,v,C,rfl,h1,T,Q⟩;obtain ⟨M,O,rfl,a2,a4⟩:=h1.form)
   | (go_at_call 184;go_split_ands;refine (dK _ _ _ _ _).mono ?_;rintro e a9 ⟨g,rfl⟩;replace h1:=h1.below g)
   | (go_at_call 183;go_split_ands;refine (qO _ _ _ _ _ (by rw [bS T,Q];exact Z.out)).mono ?_;rintro e ab ⟨g,rfl⟩;replace h1:=h1.below g;obtain ⟨u0,u1,u2,u3,q1,q2,q3,q4,q5⟩:=zN (lh (by assumption) g).2.2.2))
 rename_i hX;obtain ⟨-,-,-,F⟩:=hX
 go_end0
 exact ⟨rfl,F.sK,f&&decide (0<C.length),M,C.length,O,(q5.set 0 (.bool (f&&decide (0<C.length)))).set 1 (.slice M C.length O),dm f (bf (b:=B+2) h1 q1 q2 _ _) T (by rw [Q,Fu,HP.out,HS.out])⟩
def gZ (f:Bool)(n i k:Int)(W:World)(v:Value):Prop :=
 if f=true∧0≤n∧n≤9600 then (if (i^n.toNat).natAbs<aj^300 then k=0∧ak W v (i^n.toNat) else k=3∧v=eQ) else k=1∧v=eQ
section
variable {w w1 X X':World} {n0 n1:Bool} {a0 a1:Option Addr} {m0 c0 m1 c1:Nat}
end
theorem tV {w:World}{g:Bool}{a:Option Addr}{m c:Nat}{i:Int}(h:ak w (vN g a m c) i):g=decide (i<0):=by
 obtain ⟨neg,f,xs,e,hr,d,b,rfl⟩:=h;simp only [Value.agg.injEq,Array.mk.injEq,List.cons.injEq,Value.bool.injEq,and_true] at e;obtain ⟨rfl,rfl⟩:=e
 cases g with
 | false=>simp [bX]
 | true =>
  rw [Jn,decide_eq_true_eq] at b;have:=(dn d).2 b;simp [bX];omega
section
variable {w X X':World} {n1 n2:Bool} {a1 a2:Option Addr} {m1 c1 m2 c2:Nat}
end
section
variable {w w1 X X':World} {b:Nat} {n1 n2 n3 n4:Bool} {a1 a2 a3 a4:Option Addr} {m1 c1 m2 c2 m3 c3 m4 c4:Nat}
end
theorem wy (n d:Int)(h:0<d):(n.fdiv d).natAbs≤n.natAbs+1:=by
 rw [Zq _ (Zy h)];have h1:=YF n d;have c:=YG n (show d≠0 by omega);have f:=YH n h
 rcases ZR n 0 with h4 | h4
 ·have b:n - 1≤n / d:=by
   rw [Int.le_ediv_iff_mul_le h];have a:(n - 1)*d≤(n - 1)*1:=Int.mul_le_mul_of_nonpos_left (by omega) (by omega);omega
  have a:n / d<0:=Int.ediv_neg_of_neg_of_pos h4 h;omega
 ·have b:n / d≤n:=Int.ediv_le_self d h4
  have a:0≤n / d:=Int.ediv_nonneg h4 (Zy h);omega
def Mv (X:World)(l:List (Nat × TypeId × List Value)):Prop:=∀ r ∈ l,af X r.1 r.2.1 r.2.2
structure fI (w w1:World) (R:World→Prop) (l:List (Nat × TypeId × List Value)) (X:World):Prop where
 rows:Mv X l
 res:R X
 below:bW w X
 more:∀ v xs,Reads .u32 w1 v xs→Reads .u32 X v xs
 size:w1.heap.size≤X.heap.size
section
variable {w w1 X X':World} {R:World→Prop} {l:List (Nat × TypeId × List Value)} {b0 b1 b2 b3 b4:Nat} {t0 t1 t2 t3 t4:TypeId} {cs0 cs1 cs2 cs3 cs4:List Value}
theorem Mv.step (h:Mv X l)(a:bW X X'):Mv X' l:=fun r hr=>(h r hr).below a
theorem ag (c:∀ Y b,R Y→bW Y b→R b)(h:fI w w1 R l X)(a:bW X X'):fI w w1 R l X':=⟨h.rows.step a,c _ _ h.res a,h.below.trans (a.mono h.below.size),fun v xs d=>(h.more v xs d).below a,Qd h.size a.size⟩
theorem bY (a:∀ Y,R Y→R Y.drew)(h:fI w w1 R l X):fI w w1 R l X.drew:=⟨fun r hr=>h.rows r hr,a _ h.res,h.below.drew,fun v xs b=>h.more v xs b,h.size⟩
theorem fI.r0 (h:fI w w1 R ((b0,t0,cs0)::l) X):af X b0 t0 cs0:=h.rows _ (.head _)
theorem fI.r1 (h:fI w w1 R ((b0,t0,cs0)::(b1,t1,cs1)::l) X):af X b1 t1 cs1:=h.rows _ (.tail _ (.head _))
theorem fI.r2 (h:fI w w1 R ((b0,t0,cs0)::(b1,t1,cs1)::(b2,t2,cs2)::l) X):af X b2 t2 cs2:=h.rows _ (.tail _ (.tail _ (.head _)))
theorem fI.r3 (h:fI w w1 R ((b0,t0,cs0)::(b1,t1,cs1)::(b2,t2,cs2)::(b3,t3,cs3)::l) X):af X b3 t3 cs3:=h.rows _ (.tail _ (.tail _ (.tail _ (.head _))))
theorem fI.r4 (h:fI w w1 R ((b0,t0,cs0)::(b1,t1,cs1)::(b2,t2,cs2)::(b3,t3,cs3)::(b4,t4,cs4)::l) X):af X b4 t4 cs4:=h.rows _ (.tail _ (.tail _ (.tail _ (.tail _ (.head _)))))
theorem aS:Mv X []:=fun _ h=>nomatch h
theorem ax (h:af X b0 t0 cs0)(a:Mv X l):Mv X ((b0,t0,cs0)::l):=fun r hr=>by
 cases hr with
 | head=>exact h
 | tail _ hr=>exact a r hr
theorem dV {b:Nat}:∀ r ∈ ([]:List (Nat × TypeId × List Value)),r.1≠b:=fun _ h=>nomatch h
theorem aZ {b:Nat}(h:b0≠b)(a:∀ r ∈ l,r.1≠b):∀ r ∈ (b0,t0,cs0)::l,r.1≠b:=fun r hr=>by
 cases hr with
 | head=>exact h
 | tail _ hr=>exact a r hr
theorem aL (h:fI w w1 R l X)(t:TypeId)(a:List Value):∃ V,Hid (X.alloc (.cells a.toArray t)=V)∧af V X.heap.size t a∧w1.heap.size≤X.heap.size∧bW X V:=⟨_,Qa rfl,af.new X t a,h.size,dJ _ _⟩
theorem bP {B:Nat}(b:∀ r ∈ l,r.1<w1.heap.size)(a:w1.heap.size≤B):∀ r ∈ l,r.1≠B:=fun r hr=>Qg (Qf (b r hr) a)
theorem nA {B:Nat}:∀ r ∈ ([]:List (Nat × TypeId × List Value)),r.1<B:=fun _ h=>nomatch h
theorem fK {B:Nat}(h:b0<B)(a:∀ r ∈ l,r.1<B):∀ r ∈ (b0,t0,cs0)::l,r.1<B:=fun r hr=>by
 cases hr with
 | head=>exact h
 | tail _ hr=>exact a r hr
def dR (_:World):Prop:=True
theorem dR.other (B:Nat):∀ Y (a:Addr) u,dR Y→a.block=B→dR (Y.setCell a u):=fun _ _ _ _ _=>trivial
theorem dR.step:∀ Y a,dR Y→bW Y a→dR a:=fun _ _ _ _=>trivial
theorem dR.drew:∀ Y,dR Y→dR Y.drew:=fun _ _=>trivial
end
section
variable {P:Program} {md:Region.Mode} {ops:Array Oper} {Q:Exit→Act→World→Prop} {S F:World→Prop} {fuel:Nat} {listed:Array Bool} {a a2:Act} {w:World} {o o2:Oper} {v:Value}
theorem tk (i:Nat)(f:S w)(h:wpAnyH P md ops Q S fuel (listed.setIfInBounds i true) a2 w)(hi:ops[i]?=some o:=by (simp only [Yg,Qc,Qe];all_goals rfl))
  (hs:Region.noSelect ops=true:=by kernel_rfl) (hf:Region.free md ops listed i=true:=by kernel_rfl) (hr:(Region.ready md ops listed).contains i=true:=by kernel_rfl)
  (g:YieldsIf P ops S o v a:=by exact Or.inl ⟨by rfl,by (intro j b;(try dsimp only at b);go_simp;all_goals (with_reducible rfl))⟩)
  (ha:a.put o.dst v=a2:=by (simp only [Act.put,Zw,QB,Qz];all_goals rfl))
  (d:∀ c a w,Q (.panic c) (a.put o.dst v) w→Q (.panic c) a w:=by exact fun _ _ _ h=>h):wpAnyH P md ops Q S (fuel+1) listed a w :=
 wpAnyH_take hi hs hf hr d g f (by rw [ha];exact h)
theorem sk (i:Nat)(d:S w)(h:wpAnyH P md ops Q S fuel (listed.setIfInBounds i true) a2 w)(hi:ops[i]?=some o:=by (simp only [Yg,Qc,Qe];all_goals rfl))
  (hs:Region.noSelect ops=true:=by kernel_rfl) (hf:Region.free md ops listed i=true:=by kernel_rfl) (hr:(Region.ready md ops listed).contains i=true:=by kernel_rfl)
  (f:YieldsIf P ops S o undef a:=by exact Or.inr ⟨by rfl,rfl⟩)
  (ha:a.put o.dst undef=a2:=by (simp only [Act.put,Zw,QB,Qz];all_goals rfl))
  (b:∀ c a w,Q (.panic c) (a.put o.dst undef) w→Q (.panic c) a w:=by exact fun _ _ _ h=>h):wpAnyH P md ops Q S (fuel+1) listed a w :=
 wpAnyH_take hi hs hf hr b f d (by rw [ha];exact h)
theorem rd (i:Nat)(h:∀ b:Act→World→Prop,Shut (∀ a w,S w→(S w→wpAnyH P md ops Q S fuel (listed.setIfInBounds i true) a w)→b a w)→Oper.wp P o a w b Q)
  (c:ops[i]?=some o:=by (simp only [Yg,Qc,Qe];all_goals rfl)) (hr:Region.ready md ops listed=[i]:=by kernel_rfl) (d:Region.wanted o (yielded ops a.tmps)=true:=by rfl):wpAnyH P md ops Q S (fuel+1) listed a w :=
 wpAnyH_ready hr (by simp) (QA c (fun K hK=>by rw [if_pos d];exact h K hK) QM)
theorem ql (i j:Nat)(h:∀ b:Act→World→Prop,Shut (∀ a w,S w→(S w→wpAnyH P md ops Q S fuel (listed.setIfInBounds i true) a w)→b a w)→Oper.wp P o a w b Q)
  (f:∀ b:Act→World→Prop,Shut (∀ a w,S w→(S w→wpAnyH P md ops Q S fuel (listed.setIfInBounds j true) a w)→b a w)→Oper.wp P o2 a w b Q)
  (g:ops[i]?=some o:=by (simp only [Yg,Qc,Qe];all_goals rfl)) (c:ops[j]?=some o2:=by (simp only [Yg,Qc,Qe];all_goals rfl)) (hr:Region.ready md ops listed=[i,j]:=by kernel_rfl) (k:Region.wanted o (yielded ops a.tmps)=true:=by rfl) (d:Region.wanted o2 (yielded ops a.tmps)=true:=by rfl):wpAnyH P md ops Q S (fuel+1) listed a w :=
 wpAnyH_ready hr (by simp) (QA g (fun K hK=>by rw [if_pos k];exact h K hK) (QA c (fun K hK=>by rw [if_pos d];exact f K hK) QM))
theorem bB {id:Nat}(c:Hid (∀ X,F X→S X))(b:F w.drew)(h:∀ X,S X→wpAnyH P .any ops Q S ops.size (Array.replicate ops.size false) a X)(d:P.follows .mixedOrders=true:=by kernel_rfl):(Code.region id ops true).wp P Q a w :=
 wp_region_held_drew d (c.out _ b) (h _)
end
theorem Lf (w:World)(b:TypeId)(a:List Value):∃ W,Hid (w.alloc (.cells a.toArray b)=W)∧bW w W∧af W w.heap.size b a:=⟨_,Qa rfl,dJ _ _,af.new _ _ _⟩
theorem yP (w:World)(f:TypeId)(c:List Value)(b:TypeId)(a:List Value):∃ W,Hid ((w.alloc (.cells c.toArray f)).alloc (.cells a.toArray b)=W)∧bW w W∧af W w.heap.size f c∧af W (w.heap.size+1) b a:=by
 obtain ⟨V,h,i,h1⟩:=Lf w f c;have g:=af.new V b a;have d:=i.alloc i.size (.cells a.toArray b)
 have hs:V.heap.size=w.heap.size+1:=by rw [← h.out,Qh]
 rw [hs] at g;exact ⟨_,by rw [h.out];exact Qa rfl,d,h1.alloc _,g⟩
theorem MJ (w:World)(f:TypeId)(c:List Value)(g:TypeId)(c2:List Value)(b:TypeId)(a:List Value):∃ W,Hid (((w.alloc (.cells c.toArray f)).alloc (.cells c2.toArray g)).alloc (.cells a.toArray b)=W)∧bW w W∧af W w.heap.size f c∧af W (w.heap.size+1) g c2∧af W (w.heap.size+1+1) b a:=by
 obtain ⟨V,i,j,h1,k⟩:=yP w f c g c2;have h:=af.new V b a;have d:=j.alloc j.size (.cells a.toArray b)
 have hs:V.heap.size=w.heap.size+1+1:=by rw [← i.out,Qh,Qh]
 rw [hs] at h;exact ⟨_,by rw [i.out];exact Qa rfl,d,h1.alloc _,k.alloc _,h⟩
abbrev qD:=fun w=>Lf w 27 (lV 0 0 false none 0 0 ⟨#[]⟩ none 0 0)
abbrev vk:=fun w t c=>yP w t c 27 (lV 0 0 false none 0 0 ⟨#[]⟩ none 0 0)
abbrev BC:=fun w t c t2 c2=>MJ w t c t2 c2 27 (lV 0 0 false none 0 0 ⟨#[]⟩ none 0 0)
theorem NG (w:World)(g:TypeId)(c:List Value)(h:TypeId)(c2:List Value)(i:TypeId)(d:List Value)(b:TypeId)(a:List Value):∃ W,Hid ((((w.alloc (.cells c.toArray g)).alloc (.cells c2.toArray h)).alloc (.cells d.toArray i)).alloc (.cells a.toArray b)=W)∧bW w W∧af W w.heap.size g c∧af W (w.heap.size+1) h c2∧af W (w.heap.size+1+1) i d∧af W (w.heap.size+1+1+1) b a:=by
 obtain ⟨V,k,l,h1,m,n⟩:=MJ w g c h c2 i d;have j:=af.new V b a;have f:=l.alloc l.size (.cells a.toArray b)
 have hs:V.heap.size=w.heap.size+1+1+1:=by rw [← k.out,Qh,Qh,Qh]
 rw [hs] at j;exact ⟨_,by rw [k.out];exact Qa rfl,f,h1.alloc _,m.alloc _,n.alloc _,j⟩
theorem wO {b:Nat}{t:TypeId}{X:World}{n:Int}{o:Int}{p:Bool}{r:Option Addr}{m3:Nat}{k:Nat}{s:ByteArray}{u:Option Addr}{m:Nat}{l:Nat}{v:Int}(q:af X b t (lG n o p r m3 k s u m l v))(a c d f g i j:Value):(((((((X.setCell ⟨b,0,none⟩ a).setCell ⟨b,1,none⟩ c).setCell ⟨b,2,none⟩ d).setCell ⟨b,3,none⟩ f).setCell ⟨b,4,none⟩ g).setCell ⟨b,5,none⟩ i).setCell ⟨b,6,none⟩ j).cell? ⟨b,0,none⟩=some a∧(((((((X.setCell ⟨b,0,none⟩ a).setCell ⟨b,1,none⟩ c).setCell ⟨b,2,none⟩ d).setCell ⟨b,3,none⟩ f).setCell ⟨b,4,none⟩ g).setCell ⟨b,5,none⟩ i).setCell ⟨b,6,none⟩ j).cell? ⟨b,1,none⟩=some c∧(((((((X.setCell ⟨b,0,none⟩ a).setCell ⟨b,1,none⟩ c).setCell ⟨b,2,none⟩ d).setCell ⟨b,3,none⟩ f).setCell ⟨b,4,none⟩ g).setCell ⟨b,5,none⟩ i).setCell ⟨b,6,none⟩ j).cell? ⟨b,2,none⟩=some d∧(((((((X.setCell ⟨b,0,none⟩ a).setCell ⟨b,1,none⟩ c).setCell ⟨b,2,none⟩ d).setCell ⟨b,3,none⟩ f).setCell ⟨b,4,none⟩ g).setCell ⟨b,5,none⟩ i).setCell ⟨b,6,none⟩ j).cell? ⟨b,3,none⟩=some f∧(((((((X.setCell ⟨b,0,none⟩ a).setCell ⟨b,1,none⟩ c).setCell ⟨b,2,none⟩ d).setCell ⟨b,3,none⟩ f).setCell ⟨b,4,none⟩ g).setCell ⟨b,5,none⟩ i).setCell ⟨b,6,none⟩ j).cell? ⟨b,4,none⟩=some g∧(((((((X.setCell ⟨b,0,none⟩ a).setCell ⟨b,1,none⟩ c).setCell ⟨b,2,none⟩ d).setCell ⟨b,3,none⟩ f).setCell ⟨b,4,none⟩ g).setCell ⟨b,5,none⟩ i).setCell ⟨b,6,none⟩ j).cell? ⟨b,5,none⟩=some i∧(((((((X.setCell ⟨b,0,none⟩ a).setCell ⟨b,1,none⟩ c).setCell ⟨b,2,none⟩ d).setCell ⟨b,3,none⟩ f).setCell ⟨b,4,none⟩ g).setCell ⟨b,5,none⟩ i).setCell ⟨b,6,none⟩ j).cell? ⟨b,6,none⟩=some j:=by
 have h:=(((((((q.set 0 a).set 1 c).set 2 d).set 3 f).set 4 g).set 5 i).set 6 j)
 exact ⟨h.cell 0,h.cell 1,h.cell 2,h.cell 3,h.cell 4,h.cell 5,h.cell 6⟩
theorem fC {w V:World}{R:World→Prop}{l:List (Nat×TypeId×List Value)}(hr:Mv V l)(a:R V)(b:Below w.heap.size w V):fI w V R l V:=⟨hr,a,b,fun _ _ h=>h,Qb _⟩
theorem fI.nil {w V X:World}{R:World→Prop}{l:List (Nat×TypeId×List Value)}(h:fI w V R l X):fI w V R [] X:=⟨aS,h.res,h.below,h.more,h.size⟩
theorem yO {w V Y:World}{R S:World→Prop}{l:List (Nat×TypeId×List Value)}(_h:fI w V R l Y)(f:∀ X,fI w V R l X→S X):Hid (∀ X,fI w V R l X→S X∧fI w V R l X):=Qa fun X h=>⟨f X h,h⟩
theorem aT {S F:World→Prop}{T K:Act→World→Prop}(hK:Shut (∀ a w,S w→(S w→T a w)→K a w))(hS:Hid (∀ X,F X→S X)){a:Act}{w:World}(h:F w)(k:S w→T a w):K a w:=hK.out a w (hS.out w h) k
def ni (b:Nat)(X:World):Prop:=∃ z0 z1 z2 z3 m3 c3 z4 z5 m5 c5 z6,af X b 41 (lG z0 z1 z2 z3 m3 c3 z4 z5 m5 c5 z6)
theorem ni.cells {b:Nat}{X:World}(h:ni b X):∃ f g i j m3 a k l d c m,af X b 41 (lG f g i j m3 a k l d c m)∧X.cell? ⟨b,0,none⟩=some (vI f)∧X.cell? ⟨b,1,none⟩=some (vI g)∧X.cell? ⟨b,2,none⟩=some (.bool i)∧X.cell? ⟨b,3,none⟩=some (.slice j m3 a)∧X.cell? ⟨b,4,none⟩=some (.string k)∧X.cell? ⟨b,5,none⟩=some (.slice l d c)∧X.cell? ⟨b,6,none⟩=some (vI m)∧X.frozen? ⟨b,0,none⟩=false∧X.frozen? ⟨b,1,none⟩=false∧X.frozen? ⟨b,2,none⟩=false∧X.frozen? ⟨b,3,none⟩=false∧X.frozen? ⟨b,4,none⟩=false∧X.frozen? ⟨b,5,none⟩=false∧X.frozen? ⟨b,6,none⟩=false:=by
 obtain ⟨f,g,i,j,m3,a,k,l,d,c,m,hr⟩:=h;exact ⟨f,g,i,j,m3,a,k,l,d,c,m,hr,hr.cell 0,hr.cell 1,hr.cell 2,hr.cell 3,hr.cell 4,hr.cell 5,hr.cell 6,hr.frozen 0,hr.frozen 1,hr.frozen 2,hr.frozen 3,hr.frozen 4,hr.frozen 5,hr.frozen 6⟩
theorem ni.step {b:Nat}:∀ Y a,ni b Y→bW Y a→ni b a:=fun _ _ ⟨_,_,_,_,_,_,_,_,_,_,_,hr⟩ c=>⟨_,_,_,_,_,_,_,_,_,_,_,hr.below c⟩
theorem ni.drew {b:Nat}:∀ Y,ni b Y→ni b Y.drew:=fun _ ⟨_,_,_,_,_,_,_,_,_,_,_,hr⟩=>⟨_,_,_,_,_,_,_,_,_,_,_,hr⟩
theorem ni.other {b B:Nat}(c:b≠B):∀ Y (a:Addr) u,ni b Y→a.block=B→ni b (Y.setCell a u):=fun _ a u ⟨_,_,_,_,_,_,_,_,_,_,_,hr⟩ h=>⟨_,_,_,_,_,_,_,_,_,_,_,hr.other (show b≠a.block by rw [h];exact c) u⟩
theorem uS {w w1 X:World}{b:Nat}{l:List (Nat × TypeId × List Value)}(h:fI w w1 (ni b) l X)(ha:∀ r ∈ l,r.1≠b)(a:w.heap.size≤b)(i j:Int)(k:Bool)(m:Option Addr)(f c:Nat)(n:ByteArray)(o:Option Addr)(g d:Nat)(p:Int):fI w w1 (ni b) l (((((((X.setCell ⟨b,0,none⟩ (vI i)).setCell ⟨b,1,none⟩ (vI j)).setCell ⟨b,2,none⟩ (.bool k)).setCell ⟨b,3,none⟩ (.slice m f c)).setCell ⟨b,4,none⟩ (.string n)).setCell ⟨b,5,none⟩ (.slice o g d)).setCell ⟨b,6,none⟩ (vI p)) :=
 ⟨fun r hr=>(((((((h.rows r hr).other (ha r hr) _).other (ha r hr) _).other (ha r hr) _).other (ha r hr) _).other (ha r hr) _).other (ha r hr) _).other (ha r hr) _,(by obtain ⟨x,y,z,A,m3,s,B,C,u,t,D,hr⟩:=h.res;exact ⟨i,j,k,m,f,c,n,o,g,d,p,(((((((hr).set 0 (vI i)).set 1 (vI j)).set 2 (.bool k)).set 3 (.slice m f c)).set 4 (.string n)).set 5 (.slice o g d)).set 6 (vI p)⟩),(((((((h.below).setCell a _).setCell a _).setCell a _).setCell a _).setCell a _).setCell a _).setCell a _,fun v xs q=>by obtain ⟨_,_,_,_,_,_,_,_,_,_,_,hr⟩:=h.res;exact nP hr _ _ _ _ _ _ _ v xs (h.more v xs q),by simpa only [JN] using h.size⟩
theorem yt {X:World}{b:Nat}{t:TypeId}{k:Bool}{l:Option Addr}{m1:Nat}{i:Nat}{m:Int}(q:af X b t [.bool k,.slice l m1 i,vI m])(a c g:Value) :
  ∀ v xs,Reads .u32 X v xs→Reads .u32 (((X.setCell ⟨b,0,none⟩ a).setCell ⟨b,1,none⟩ c).setCell ⟨b,2,none⟩ g) v xs:=by
 intro v xs h;have d:=q;have h0:=h.setOther (d.cell 0) (by simp) a;have f:=d.set 0 a;have h1:=h0.setOther (f.cell 1) (by simp) c;have j:=f.set 1 c;exact h1.setOther (j.cell 2) (by simp) g
theorem bQ {X:World}{b:Nat}{t:TypeId}{z:Int}{A:Int}{B:Bool}{C:Option Addr}{m3:Nat}{o:Nat}{D:ByteArray}{E:Option Addr}{x:Nat}{p:Nat}(q:af X b t (lV z A B C m3 o D E x p))(a c d f g n:Value) :
  ∀ v xs,Reads .u32 X v xs→Reads .u32 ((((((X.setCell ⟨b,0,none⟩ a).setCell ⟨b,1,none⟩ c).setCell ⟨b,2,none⟩ d).setCell ⟨b,3,none⟩ f).setCell ⟨b,4,none⟩ g).setCell ⟨b,5,none⟩ n) v xs:=by
 intro v xs h;have i:=q;have h0:=h.setOther (i.cell 0) (by simp) a;have j:=i.set 0 a;have h1:=h0.setOther (j.cell 1) (by simp) c;have k:=j.set 1 c;have r:=h1.setOther (k.cell 2) (by simp) d;have l:=k.set 2 d;have s:=r.setOther (l.cell 3) (by simp) f;have m:=l.set 3 f;have u:=s.setOther (m.cell 4) (by simp) g;have y:=m.set 4 g
 exact u.setOther (y.cell 5) (by simp) n
theorem dD {b:Nat}{t:TypeId}{X:World}{m:Int}{n:Int}{o:Bool}{p:Option Addr}{m3:Nat}{j:Nat}{r:ByteArray}{s:Option Addr}{l:Nat}{k:Nat}(q:af X b t (lV m n o p m3 j r s l k))(a c d f g i:Value):((((((X.setCell ⟨b,0,none⟩ a).setCell ⟨b,1,none⟩ c).setCell ⟨b,2,none⟩ d).setCell ⟨b,3,none⟩ f).setCell ⟨b,4,none⟩ g).setCell ⟨b,5,none⟩ i).cell? ⟨b,0,none⟩=some a∧((((((X.setCell ⟨b,0,none⟩ a).setCell ⟨b,1,none⟩ c).setCell ⟨b,2,none⟩ d).setCell ⟨b,3,none⟩ f).setCell ⟨b,4,none⟩ g).setCell ⟨b,5,none⟩ i).cell? ⟨b,1,none⟩=some c∧((((((X.setCell ⟨b,0,none⟩ a).setCell ⟨b,1,none⟩ c).setCell ⟨b,2,none⟩ d).setCell ⟨b,3,none⟩ f).setCell ⟨b,4,none⟩ g).setCell ⟨b,5,none⟩ i).cell? ⟨b,2,none⟩=some d∧((((((X.setCell ⟨b,0,none⟩ a).setCell ⟨b,1,none⟩ c).setCell ⟨b,2,none⟩ d).setCell ⟨b,3,none⟩ f).setCell ⟨b,4,none⟩ g).setCell ⟨b,5,none⟩ i).cell? ⟨b,3,none⟩=some f∧((((((X.setCell ⟨b,0,none⟩ a).setCell ⟨b,1,none⟩ c).setCell ⟨b,2,none⟩ d).setCell ⟨b,3,none⟩ f).setCell ⟨b,4,none⟩ g).setCell ⟨b,5,none⟩ i).cell? ⟨b,4,none⟩=some g∧((((((X.setCell ⟨b,0,none⟩ a).setCell ⟨b,1,none⟩ c).setCell ⟨b,2,none⟩ d).setCell ⟨b,3,none⟩ f).setCell ⟨b,4,none⟩ g).setCell ⟨b,5,none⟩ i).cell? ⟨b,5,none⟩=some i:=by
 have h:=((((((q.set 0 a).set 1 c).set 2 d).set 3 f).set 4 g).set 5 i)
 exact ⟨h.cell 0,h.cell 1,h.cell 2,h.cell 3,h.cell 4,h.cell 5⟩
def bI (b:Nat)(X:World):Prop:=∃ z0 z1 z2 z3 m3 c3 z4 z5 m5 c5,af X b 27 (lV z0 z1 z2 z3 m3 c3 z4 z5 m5 c5)
theorem bI.cells {b:Nat}{X:World}(h:bI b X):∃ f g i j m3 a k l d c,af X b 27 (lV f g i j m3 a k l d c)∧X.cell? ⟨b,0,none⟩=some (vI f)∧X.cell? ⟨b,1,none⟩=some (vI g)∧X.cell? ⟨b,2,none⟩=some (.bool i)∧X.cell? ⟨b,3,none⟩=some (.slice j m3 a)∧X.cell? ⟨b,4,none⟩=some (.string k)∧X.cell? ⟨b,5,none⟩=some (.slice l d c)∧X.frozen? ⟨b,0,none⟩=false∧X.frozen? ⟨b,1,none⟩=false∧X.frozen? ⟨b,2,none⟩=false∧X.frozen? ⟨b,3,none⟩=false∧X.frozen? ⟨b,4,none⟩=false∧X.frozen? ⟨b,5,none⟩=false:=by
 obtain ⟨f,g,i,j,m3,a,k,l,d,c,hr⟩:=h;exact ⟨f,g,i,j,m3,a,k,l,d,c,hr,hr.cell 0,hr.cell 1,hr.cell 2,hr.cell 3,hr.cell 4,hr.cell 5,hr.frozen 0,hr.frozen 1,hr.frozen 2,hr.frozen 3,hr.frozen 4,hr.frozen 5⟩
theorem bI.step {b:Nat}:∀ Y a,bI b Y→bW Y a→bI b a:=fun _ _ ⟨_,_,_,_,_,_,_,_,_,_,hr⟩ c=>⟨_,_,_,_,_,_,_,_,_,_,hr.below c⟩
theorem bI.drew {b:Nat}:∀ Y,bI b Y→bI b Y.drew:=fun _ ⟨_,_,_,_,_,_,_,_,_,_,hr⟩=>⟨_,_,_,_,_,_,_,_,_,_,hr⟩
theorem gF {w w1 X:World}{b:Nat}{l:List (Nat × TypeId × List Value)}(h:fI w w1 (bI b) l X)(ha:∀ r ∈ l,r.1≠b)(o:w.heap.size≤b)(g i:Int)(j:Bool)(k:Option Addr)(d a:Nat)(m:ByteArray)(n:Option Addr)(f c:Nat):fI w w1 (bI b) l ((((((X.setCell ⟨b,0,none⟩ (vI g)).setCell ⟨b,1,none⟩ (vI i)).setCell ⟨b,2,none⟩ (.bool j)).setCell ⟨b,3,none⟩ (.slice k d a)).setCell ⟨b,4,none⟩ (.string m)).setCell ⟨b,5,none⟩ (.slice n f c)) :=
 ⟨fun r hr=>((((((h.rows r hr).other (ha r hr) _).other (ha r hr) _).other (ha r hr) _).other (ha r hr) _).other (ha r hr) _).other (ha r hr) _,(by obtain ⟨u,x,y,z,m3,q,A,B,t,s,hr⟩:=h.res;exact ⟨g,i,j,k,d,a,m,n,f,c,((((((hr).set 0 (vI g)).set 1 (vI i)).set 2 (.bool j)).set 3 (.slice k d a)).set 4 (.string m)).set 5 (.slice n f c)⟩),((((((h.below).setCell o _).setCell o _).setCell o _).setCell o _).setCell o _).setCell o _,fun v xs p=>by obtain ⟨_,_,_,_,_,_,_,_,_,_,hr⟩:=h.res;exact bQ hr _ _ _ _ _ _ v xs (h.more v xs p),by simpa only [JN] using h.size⟩
theorem aV {X:World}{b:Nat}{t:TypeId}{i:Bool}{j:Option Addr}{m1:Nat}{f:Nat}(q:af X b t (lN i j m1 f))(a d:Value) :
  ∀ v xs,Reads .u32 X v xs→Reads .u32 ((X.setCell ⟨b,0,none⟩ a).setCell ⟨b,1,none⟩ d) v xs:=by
 intro v xs h;have c:=q;have h0:=h.setOther (c.cell 0) (by simp) a;have g:=c.set 0 a;exact h0.setOther (g.cell 1) (by simp) d
theorem eB {b:Nat}{t:TypeId}{X:World}{f:Bool}{g:Option Addr}{m1:Nat}{d:Nat}(q:af X b t (lN f g m1 d))(a c:Value):((X.setCell ⟨b,0,none⟩ a).setCell ⟨b,1,none⟩ c).cell? ⟨b,0,none⟩=some a∧((X.setCell ⟨b,0,none⟩ a).setCell ⟨b,1,none⟩ c).cell? ⟨b,1,none⟩=some c:=by
 have h:=((q.set 0 a).set 1 c)
 exact ⟨h.cell 0,h.cell 1⟩
def bJ (b:Nat)(X:World):Prop:=∃ (z0:Bool) (z1:Option Addr) (m1:Nat) (c1:Nat),af X b 24 (lN z0 z1 m1 c1)
theorem bJ.cells {b:Nat}{X:World}(h:bJ b X):∃ (c:Bool) (d:Option Addr) (m1:Nat) (a:Nat),af X b 24 (lN c d m1 a)∧X.cell? ⟨b,0,none⟩=some (.bool c)∧X.cell? ⟨b,1,none⟩=some (.slice d m1 a)∧X.frozen? ⟨b,0,none⟩=false∧X.frozen? ⟨b,1,none⟩=false:=by
 obtain ⟨c,d,m1,a,hr⟩:=h;exact ⟨c,d,m1,a,hr,hr.cell 0,hr.cell 1,hr.frozen 0,hr.frozen 1⟩
theorem bJ.step {b:Nat}:∀ Y a,bJ b Y→bW Y a→bJ b a:=fun _ _ ⟨_,_,_,_,hr⟩ c=>⟨_,_,_,_,hr.below c⟩
theorem bJ.drew {b:Nat}:∀ Y,bJ b Y→bJ b Y.drew:=fun _ ⟨_,_,_,_,hr⟩=>⟨_,_,_,_,hr⟩
theorem bJ.other {b B:Nat}(c:b≠B):∀ Y (a:Addr) u,bJ b Y→a.block=B→bJ b (Y.setCell a u):=fun _ a u ⟨_,_,_,_,hr⟩ h=>⟨_,_,_,_,hr.other (show b≠a.block by rw [h];exact c) u⟩
theorem fM {w w1 X:World}{b:Nat}{l:List (Nat × TypeId × List Value)}(h:fI w w1 (bJ b) l X)(ha:∀ r ∈ l,r.1≠b)(g:w.heap.size≤b)(d:Bool)(f:Option Addr)(c a:Nat):fI w w1 (bJ b) l ((X.setCell ⟨b,0,none⟩ (.bool d)).setCell ⟨b,1,none⟩ (.slice f c a)) :=
 ⟨fun r hr=>((h.rows r hr).other (ha r hr) _).other (ha r hr) _,(by obtain ⟨k,m,m1,j,hr⟩:=h.res;exact ⟨d,f,c,a,((hr).set 0 (.bool d)).set 1 (.slice f c a)⟩),((h.below).setCell g _).setCell g _,fun v xs i=>by obtain ⟨_,_,_,_,hr⟩:=h.res;exact aV hr _ _ v xs (h.more v xs i),by simpa only [JN] using h.size⟩
theorem bK {X:World}{b:Nat}{t:TypeId}{s:Bool}{u:Option Addr}{m1:Nat}{m:Nat}{x:Bool}{y:Option Addr}{m3:Nat}{n:Nat}{z:Int}(q:af X b t (lR s u m1 m x y m3 n z))(a c d f l:Value) :
  ∀ v xs,Reads .u32 X v xs→Reads .u32 (((((X.setCell ⟨b,0,none⟩ a).setCell ⟨b,1,none⟩ c).setCell ⟨b,2,none⟩ d).setCell ⟨b,3,none⟩ f).setCell ⟨b,4,none⟩ l) v xs:=by
 intro v xs h;have g:=q;have h0:=h.setOther (g.cell 0) (by simp) a;have i:=g.set 0 a;have h1:=h0.setOther (i.cell 1) (by simp) c;have j:=i.set 1 c;have o:=h1.setOther (j.cell 2) (by simp) d;have k:=j.set 2 d;have p:=o.setOther (k.cell 3) (by simp) f;have r:=k.set 3 f;exact p.setOther (r.cell 4) (by simp) l
theorem eD {b:Nat}{t:TypeId}{X:World}{k:Bool}{l:Option Addr}{m1:Nat}{i:Nat}{m:Bool}{n:Option Addr}{m3:Nat}{j:Nat}{o:Int}(q:af X b t (lR k l m1 i m n m3 j o))(a c d f g:Value):(((((X.setCell ⟨b,0,none⟩ a).setCell ⟨b,1,none⟩ c).setCell ⟨b,2,none⟩ d).setCell ⟨b,3,none⟩ f).setCell ⟨b,4,none⟩ g).cell? ⟨b,0,none⟩=some a∧(((((X.setCell ⟨b,0,none⟩ a).setCell ⟨b,1,none⟩ c).setCell ⟨b,2,none⟩ d).setCell ⟨b,3,none⟩ f).setCell ⟨b,4,none⟩ g).cell? ⟨b,1,none⟩=some c∧(((((X.setCell ⟨b,0,none⟩ a).setCell ⟨b,1,none⟩ c).setCell ⟨b,2,none⟩ d).setCell ⟨b,3,none⟩ f).setCell ⟨b,4,none⟩ g).cell? ⟨b,2,none⟩=some d∧(((((X.setCell ⟨b,0,none⟩ a).setCell ⟨b,1,none⟩ c).setCell ⟨b,2,none⟩ d).setCell ⟨b,3,none⟩ f).setCell ⟨b,4,none⟩ g).cell? ⟨b,3,none⟩=some f∧(((((X.setCell ⟨b,0,none⟩ a).setCell ⟨b,1,none⟩ c).setCell ⟨b,2,none⟩ d).setCell ⟨b,3,none⟩ f).setCell ⟨b,4,none⟩ g).cell? ⟨b,4,none⟩=some g:=by
 have h:=(((((q.set 0 a).set 1 c).set 2 d).set 3 f).set 4 g)
 exact ⟨h.cell 0,h.cell 1,h.cell 2,h.cell 3,h.cell 4⟩
def aX (b:Nat)(X:World):Prop:=∃ (z0:Bool) (z1:Option Addr) (m1:Nat) (c1:Nat) (z2:Bool) (z3:Option Addr) (m3:Nat) (c3:Nat) (z4:Int),af X b 127 (lR z0 z1 m1 c1 z2 z3 m3 c3 z4)
theorem aX.cells {b:Nat}{X:World}(h:aX b X):∃ (d:Bool) (f:Option Addr) (m1:Nat) (a:Nat) (g:Bool) (i:Option Addr) (m3:Nat) (c:Nat) (j:Int),af X b 127 (lR d f m1 a g i m3 c j)∧X.cell? ⟨b,0,none⟩=some (.bool d)∧X.cell? ⟨b,1,none⟩=some (.slice f m1 a)∧X.cell? ⟨b,2,none⟩=some (.bool g)∧X.cell? ⟨b,3,none⟩=some (.slice i m3 c)∧X.cell? ⟨b,4,none⟩=some (vI j)∧X.frozen? ⟨b,0,none⟩=false∧X.frozen? ⟨b,1,none⟩=false∧X.frozen? ⟨b,2,none⟩=false∧X.frozen? ⟨b,3,none⟩=false∧X.frozen? ⟨b,4,none⟩=false:=by
 obtain ⟨d,f,m1,a,g,i,m3,c,j,hr⟩:=h;exact ⟨d,f,m1,a,g,i,m3,c,j,hr,hr.cell 0,hr.cell 1,hr.cell 2,hr.cell 3,hr.cell 4,hr.frozen 0,hr.frozen 1,hr.frozen 2,hr.frozen 3,hr.frozen 4⟩
theorem aX.step {b:Nat}:∀ Y a,aX b Y→bW Y a→aX b a:=fun _ _ ⟨_,_,_,_,_,_,_,_,_,hr⟩ c=>⟨_,_,_,_,_,_,_,_,_,hr.below c⟩
theorem aX.drew {b:Nat}:∀ Y,aX b Y→aX b Y.drew:=fun _ ⟨_,_,_,_,_,_,_,_,_,hr⟩=>⟨_,_,_,_,_,_,_,_,_,hr⟩
theorem aX.other {b B:Nat}(c:b≠B):∀ Y (a:Addr) u,aX b Y→a.block=B→aX b (Y.setCell a u):=fun _ a u ⟨_,_,_,_,_,_,_,_,_,hr⟩ h=>⟨_,_,_,_,_,_,_,_,_,hr.other (show b≠a.block by rw [h];exact c) u⟩
theorem dO {w w1 X:World}{b:Nat}{l:List (Nat × TypeId × List Value)}(h:fI w w1 (aX b) l X)(ha:∀ r ∈ l,r.1≠b)(n:w.heap.size≤b)(g:Bool)(i:Option Addr)(d a:Nat)(j:Bool)(k:Option Addr)(f c:Nat)(m:Int):fI w w1 (aX b) l (((((X.setCell ⟨b,0,none⟩ (.bool g)).setCell ⟨b,1,none⟩ (.slice i d a)).setCell ⟨b,2,none⟩ (.bool j)).setCell ⟨b,3,none⟩ (.slice k f c)).setCell ⟨b,4,none⟩ (vI m)) :=
 ⟨fun r hr=>(((((h.rows r hr).other (ha r hr) _).other (ha r hr) _).other (ha r hr) _).other (ha r hr) _).other (ha r hr) _,(by obtain ⟨s,t,m1,p,u,x,m3,q,y,hr⟩:=h.res;exact ⟨g,i,d,a,j,k,f,c,m,(((((hr).set 0 (.bool g)).set 1 (.slice i d a)).set 2 (.bool j)).set 3 (.slice k f c)).set 4 (vI m)⟩),(((((h.below).setCell n _).setCell n _).setCell n _).setCell n _).setCell n _,fun v xs o=>by obtain ⟨_,_,_,_,_,_,_,_,_,hr⟩:=h.res;exact bK hr _ _ _ _ _ v xs (h.more v xs o),by simpa only [JN] using h.size⟩
theorem tX {X:World}{b:Nat}{t:TypeId}{o:Bool}{p:Option Addr}{m1:Nat}{k:Nat}{r:Bool}{s:Option Addr}{m3:Nat}{l:Nat}(q:af X b t [.bool o,.slice p m1 k,.bool r,.slice s m3 l])(a c d j:Value) :
  ∀ v xs,Reads .u32 X v xs→Reads .u32 ((((X.setCell ⟨b,0,none⟩ a).setCell ⟨b,1,none⟩ c).setCell ⟨b,2,none⟩ d).setCell ⟨b,3,none⟩ j) v xs:=by
 intro v xs h;have f:=q;have h0:=h.setOther (f.cell 0) (by simp) a;have g:=f.set 0 a;have h1:=h0.setOther (g.cell 1) (by simp) c;have i:=g.set 1 c;have m:=h1.setOther (i.cell 2) (by simp) d;have n:=i.set 2 d;exact m.setOther (n.cell 3) (by simp) j
theorem wP {X:World}{B:Nat}{t:TypeId}{a b c d f g h:Value}(q:af X B t [a,b,c,d,f,g,h]):X.cell? ⟨B,0,none⟩=some a∧X.cell? ⟨B,1,none⟩=some b∧X.cell? ⟨B,2,none⟩=some c∧X.cell? ⟨B,3,none⟩=some d∧X.cell? ⟨B,4,none⟩=some f∧X.cell? ⟨B,5,none⟩=some g∧X.cell? ⟨B,6,none⟩=some h∧X.frozen? ⟨B,0,none⟩=false∧X.frozen? ⟨B,1,none⟩=false∧X.frozen? ⟨B,2,none⟩=false∧X.frozen? ⟨B,3,none⟩=false∧X.frozen? ⟨B,4,none⟩=false∧X.frozen? ⟨B,5,none⟩=false∧X.frozen? ⟨B,6,none⟩=false:=⟨q.cell 0,q.cell 1,q.cell 2,q.cell 3,q.cell 4,q.cell 5,q.cell 6,q.frozen 0,q.frozen 1,q.frozen 2,q.frozen 3,q.frozen 4,q.frozen 5,q.frozen 6⟩
theorem uT {w w1 X:World}{R:World→Prop}{B:Nat}{t:TypeId}{l:List (Nat × TypeId × List Value)}{o:Bool}{p:Option Addr}{m1:Nat}{m:Nat}{s:Int}(h:fI w w1 R l X)(i:∀ Y (a:Addr) u,R Y→a.block=B→R (Y.setCell a u))(ha:∀ r ∈ l,r.1≠B)(j:w.heap.size≤B)(q:af X B t [.bool o,.slice p m1 m,vI s])(d f g:Value):∃ V,Hid ((((X.setCell ⟨B,0,none⟩ d).setCell ⟨B,1,none⟩ f).setCell ⟨B,2,none⟩ g)=V)∧fI w w1 R l V∧(∀ v xs,Reads .u32 X v xs→Reads .u32 V v xs)∧af V B t [d,f,g]∧(∀ b t k,af X b t k→b≠B→af V b t k) :=
 ⟨_,Qa rfl,⟨fun r hr=>(((h.rows r hr).other (ha r hr) _).other (ha r hr) _).other (ha r hr) _,(i _ _ _ ((i _ _ _ ((i _ _ _ (h.res) rfl)) rfl)) rfl),(((h.below).setCell j _).setCell j _).setCell j _,fun v xs n=>yt q _ _ _ v xs (h.more v xs n),by simpa only [JN] using h.size⟩,yt q _ _ _,(((q.set 0 d).set 1 f).set 2 g),fun _ _ _ h c=>(((h.other (a:=⟨B,0,none⟩) c d).other (a:=⟨B,1,none⟩) c f).other (a:=⟨B,2,none⟩) c g)⟩
theorem wQ {X:World}{B:Nat}{t:TypeId}{a b c:Value}(q:af X B t [a,b,c]):X.cell? ⟨B,0,none⟩=some a∧X.cell? ⟨B,1,none⟩=some b∧X.cell? ⟨B,2,none⟩=some c∧X.frozen? ⟨B,0,none⟩=false∧X.frozen? ⟨B,1,none⟩=false∧X.frozen? ⟨B,2,none⟩=false:=⟨q.cell 0,q.cell 1,q.cell 2,q.frozen 0,q.frozen 1,q.frozen 2⟩
theorem df {X:World}{B:Nat}{t:TypeId}{a b c d f g:Value}(q:af X B t [a,b,c,d,f,g]):X.cell? ⟨B,0,none⟩=some a∧X.cell? ⟨B,1,none⟩=some b∧X.cell? ⟨B,2,none⟩=some c∧X.cell? ⟨B,3,none⟩=some d∧X.cell? ⟨B,4,none⟩=some f∧X.cell? ⟨B,5,none⟩=some g∧X.frozen? ⟨B,0,none⟩=false∧X.frozen? ⟨B,1,none⟩=false∧X.frozen? ⟨B,2,none⟩=false∧X.frozen? ⟨B,3,none⟩=false∧X.frozen? ⟨B,4,none⟩=false∧X.frozen? ⟨B,5,none⟩=false:=⟨q.cell 0,q.cell 1,q.cell 2,q.cell 3,q.cell 4,q.cell 5,q.frozen 0,q.frozen 1,q.frozen 2,q.frozen 3,q.frozen 4,q.frozen 5⟩
theorem ay {w w1 X:World}{R:World→Prop}{B:Nat}{t:TypeId}{l:List (Nat × TypeId × List Value)}{n:Bool}{o:Option Addr}{m1:Nat}{k:Nat}(h:fI w w1 R l X)(i:∀ Y (a:Addr) u,R Y→a.block=B→R (Y.setCell a u))(ha:∀ r ∈ l,r.1≠B)(j:w.heap.size≤B)(q:af X B t (lN n o m1 k))(d f:Value):∃ V,Hid (((X.setCell ⟨B,0,none⟩ d).setCell ⟨B,1,none⟩ f)=V)∧fI w w1 R l V∧(∀ v xs,Reads .u32 X v xs→Reads .u32 V v xs)∧af V B t [d,f]∧(∀ b t g,af X b t g→b≠B→af V b t g) :=
 ⟨_,Qa rfl,⟨fun r hr=>((h.rows r hr).other (ha r hr) _).other (ha r hr) _,(i _ _ _ ((i _ _ _ (h.res) rfl)) rfl),((h.below).setCell j _).setCell j _,fun v xs m=>aV q _ _ v xs (h.more v xs m),by simpa only [JN] using h.size⟩,aV q _ _,((q.set 0 d).set 1 f),fun _ _ _ h c=>((h.other (a:=⟨B,0,none⟩) c d).other (a:=⟨B,1,none⟩) c f)⟩
theorem av {X:World}{B:Nat}{t:TypeId}{a b:Value}(q:af X B t [a,b]):X.cell? ⟨B,0,none⟩=some a∧X.cell? ⟨B,1,none⟩=some b∧X.frozen? ⟨B,0,none⟩=false∧X.frozen? ⟨B,1,none⟩=false:=⟨q.cell 0,q.cell 1,q.frozen 0,q.frozen 1⟩
theorem gJ {w w1 X:World}{R:World→Prop}{B:Nat}{t:TypeId}{l:List (Nat × TypeId × List Value)}{x:Bool}{y:Option Addr}{m1:Nat}{o:Nat}{z:Bool}{A:Option Addr}{m3:Nat}{p:Nat}{C:Int}(h:fI w w1 R l X)(d:∀ Y (a:Addr) u,R Y→a.block=B→R (Y.setCell a u))(ha:∀ r ∈ l,r.1≠B)(f:w.heap.size≤B)(q:af X B t (lR x y m1 o z A m3 p C))(g i j k m:Value):∃ V,Hid ((((((X.setCell ⟨B,0,none⟩ g).setCell ⟨B,1,none⟩ i).setCell ⟨B,2,none⟩ j).setCell ⟨B,3,none⟩ k).setCell ⟨B,4,none⟩ m)=V)∧fI w w1 R l V∧(∀ v xs,Reads .u32 X v xs→Reads .u32 V v xs)∧af V B t [g,i,j,k,m]∧(∀ b t n,af X b t n→b≠B→af V b t n) :=
 ⟨_,Qa rfl,⟨fun r hr=>(((((h.rows r hr).other (ha r hr) _).other (ha r hr) _).other (ha r hr) _).other (ha r hr) _).other (ha r hr) _,(d _ _ _ ((d _ _ _ ((d _ _ _ ((d _ _ _ ((d _ _ _ (h.res) rfl)) rfl)) rfl)) rfl)) rfl),(((((h.below).setCell f _).setCell f _).setCell f _).setCell f _).setCell f _,fun v xs s=>bK q _ _ _ _ _ v xs (h.more v xs s),by simpa only [JN] using h.size⟩,bK q _ _ _ _ _,(((((q.set 0 g).set 1 i).set 2 j).set 3 k).set 4 m),fun _ _ _ h c=>(((((h.other (a:=⟨B,0,none⟩) c g).other (a:=⟨B,1,none⟩) c i).other (a:=⟨B,2,none⟩) c j).other (a:=⟨B,3,none⟩) c k).other (a:=⟨B,4,none⟩) c m)⟩
theorem dE {X:World}{B:Nat}{t:TypeId}{a b c d f:Value}(q:af X B t [a,b,c,d,f]):X.cell? ⟨B,0,none⟩=some a∧X.cell? ⟨B,1,none⟩=some b∧X.cell? ⟨B,2,none⟩=some c∧X.cell? ⟨B,3,none⟩=some d∧X.cell? ⟨B,4,none⟩=some f∧X.frozen? ⟨B,0,none⟩=false∧X.frozen? ⟨B,1,none⟩=false∧X.frozen? ⟨B,2,none⟩=false∧X.frozen? ⟨B,3,none⟩=false∧X.frozen? ⟨B,4,none⟩=false:=⟨q.cell 0,q.cell 1,q.cell 2,q.cell 3,q.cell 4,q.frozen 0,q.frozen 1,q.frozen 2,q.frozen 3,q.frozen 4⟩
theorem qZ {X:World}{B:Nat}{t:TypeId}{a b c d:Value}(q:af X B t [a,b,c,d]):X.cell? ⟨B,0,none⟩=some a∧X.cell? ⟨B,1,none⟩=some b∧X.cell? ⟨B,2,none⟩=some c∧X.cell? ⟨B,3,none⟩=some d∧X.frozen? ⟨B,0,none⟩=false∧X.frozen? ⟨B,1,none⟩=false∧X.frozen? ⟨B,2,none⟩=false∧X.frozen? ⟨B,3,none⟩=false:=⟨q.cell 0,q.cell 1,q.cell 2,q.cell 3,q.frozen 0,q.frozen 1,q.frozen 2,q.frozen 3⟩
def fo (b:Nat)(X:World):Prop:=bJ b X∧bJ (b+1) X
theorem fo.step {b:Nat}:∀ Y a,fo b Y→bW Y a→fo b a:=fun _ _ h c=>⟨bJ.step _ _ h.1 c,bJ.step _ _ h.2 c⟩
theorem fo.drew {b:Nat}:∀ Y,fo b Y→fo b Y.drew:=fun _ h=>⟨bJ.drew _ h.1,bJ.drew _ h.2⟩
theorem fo.other {b B:Nat}(h0:b≠B)(h1:b+1≠B):∀ Y (a:Addr) u,fo b Y→a.block=B→fo b (Y.setCell a u):=fun Y a u h ha=>⟨bJ.other h0 Y a u h.1 ha,bJ.other h1 Y a u h.2 ha⟩
theorem mH {w w1 X:World}{b:Nat}{l:List (Nat × TypeId × List Value)}(h:fI w w1 (fo b) l X)(ha:∀ r ∈ l,r.1≠b)(f:w.heap.size≤b)(c:Bool)(d:Option Addr)(m1 a:Nat):fI w w1 (fo b) l ((X.setCell ⟨b,0,none⟩ (.bool c)).setCell ⟨b,1,none⟩ (.slice d m1 a)):=by
 have h1:=fM ⟨h.rows,h.res.1,h.below,h.more,h.size⟩ ha f c d m1 a;exact ⟨h1.rows,⟨h1.res,bJ.other (B:=b) (by omega) _ _ _ (bJ.other (B:=b) (by omega) _ _ _ h.res.2 rfl) rfl⟩,h1.below,h1.more,h1.size⟩
theorem zk {w w1 X:World}{b:Nat}{l:List (Nat × TypeId × List Value)}(h:fI w w1 (fo b) l X)(ha:∀ r ∈ l,r.1≠b+1)(f:w.heap.size≤b+1)(c:Bool)(d:Option Addr)(m1 a:Nat):fI w w1 (fo b) l ((X.setCell ⟨b+1,0,none⟩ (.bool c)).setCell ⟨b+1,1,none⟩ (.slice d m1 a)):=by
 have h1:=fM ⟨h.rows,h.res.2,h.below,h.more,h.size⟩ ha f c d m1 a;exact ⟨h1.rows,⟨bJ.other (B:=b+1) (by omega) _ _ _ (bJ.other (B:=b+1) (by omega) _ _ _ h.res.1 rfl) rfl,h1.res⟩,h1.below,h1.more,h1.size⟩
theorem Kq (n:Int):near n 1=n:=by
 unfold near;rw [Int.fmod_one,Int.fdiv_one];simp
theorem xH (n:Nat):((10^n:Nat):Int)=10^n:=by simp
def fB (n d e:Int)(P:Nat):Int:=near (n*10^((P:Int) - e).toNat) (d*10^(e - (P:Int)).toNat)
theorem CJ {n d r q s:Int}(hr:n.fmod d=r)(a:n.fdiv d=q)(hs:dS (r.natAbs:Int) ((d.natAbs:Int) - (r.natAbs:Int))=s) :
  near n d=if 0<s∨s=0∧q % 2=1 then q+1 else q:=by
 subst hs;unfold near;rw [hr,a];unfold dS
 have e:(d.natAbs<2*r.natAbs∨2*r.natAbs=d.natAbs∧q % 2=1)↔(0<(if (r.natAbs:Int)<(d.natAbs:Int) - (r.natAbs:Int) then (-1:Int) else if (d.natAbs:Int) - (r.natAbs:Int)<(r.natAbs:Int) then 1 else 0)∨(if (r.natAbs:Int)<(d.natAbs:Int) - (r.natAbs:Int) then (-1:Int) else if (d.natAbs:Int) - (r.natAbs:Int)<(r.natAbs:Int) then 1 else 0)=0∧q % 2=1):=by
  split
  ·omega
  ·split <;> omega
 simp only [e]
theorem zQ (n d:Int)(i:d≠0):2*(n - near n d*d).natAbs≤d.natAbs:=by
 have a:∀ {n d:Int},0<d→2*(n - near n d*d).natAbs≤d.natAbs:=fun {n d} h=>by
  have j:=Int.mul_fdiv_add_fmod n d;have h1:n.fmod d=n % d:=ZQ _ (Zy h);have f:=YG n (show d≠0 by omega);have g:=YH n h;rw [← h1] at f g;unfold near;generalize n.fdiv d=q at *;generalize n.fmod d=r at *
  have b:n - q*d=r:=by rw [Yd];omega
  have c:n - (q+1)*d=r - d:=by rw [Int.add_mul,QY];omega
  split
  ·rw [c]
   omega
  ·rw [b]
   omega
 rcases Xn i with h | h
 ·have:=@a (-n) (-d) (by omega)
  rw [Kj] at this;rw [show n - near n d*d=-(-n - near n d*-d) by rw [Zf];omega,JU];omega
 ·exact a h
theorem Fv (n d:Int)(b:d≠0):(near n d).natAbs≤n.natAbs:=by
 have h:=zQ n d b
 rcases QK n.natAbs (near n d).natAbs with h1 | h1
 ·exfalso
  have c:(near n d*d).natAbs=(near n d).natAbs*d.natAbs:=Zl _ _;have a:(n.natAbs+1)*d.natAbs≤(near n d).natAbs*d.natAbs:=Ja _ h1;rw [QH,QD] at a;have f:n.natAbs*1≤n.natAbs*d.natAbs:=Qu _ (by omega);generalize near n d*d=x at *;generalize n.natAbs*d.natAbs=y at *;omega
 ·exact h1
theorem GA {i:Int}{p K:Nat}(h:K*10^p≤i.natAbs):¬(least i p).1.natAbs<K:=by
 intro a;have h1:=wm p i;unfold iT at h1
 have b:i.natAbs*10^(least i p).2=(least i p).1.natAbs*10^p:=by
  have:=congrArg Int.natAbs h1;rw [Zl,Zl,Xo,Xo] at this;exact this
 have c:(least i p).1.natAbs*10^p<K*10^p:=ZX a (Qq (by decide));have d:i.natAbs*1≤i.natAbs*10^(least i p).2:=Qu _ (Qq (by decide));omega
def wF (s r:Int):Int:=if r*(r+1)<s then r+1 else r
structure dB (w:World) (v:Value) (i:Int) (p:Nat):Prop where
 v:dX w v i p
 lo:1≤p
 hi:p≤20
 abs:i.natAbs<aj^40
 form:p=1∨¬i % 10=0
def mJ (w:World)(v:Value):Prop:=∃ kind n neg xs s l,ValAt w v kind n neg xs s l∧oW kind n neg xs s l=false
theorem dB.below {w a:World}{v:Value}{i:Int}{p:Nat}(h:dB w v i p)(b:bW w a):dB a v i p:=⟨h.v.below b,h.lo,h.hi,h.abs,h.form⟩
theorem mJ.below {w a:World}{v:Value}(h:mJ w v)(c:bW w a):mJ a v:=by
 obtain ⟨kind,n,neg,xs,s,l,h1,b⟩:=h;exact ⟨kind,n,neg,xs,s,l,h1.below c,b⟩
theorem wR (neg:Bool)(A:Nat):bX neg A % 10=0↔A % 10=0:=by
 cases neg <;> simp only [bX] <;> simp <;> omega
theorem Kr {w:World}{v:Value}{kind n:Int}{neg:Bool}{xs:List Nat}{s:ByteArray}{l:Nat}(h:ValAt w v kind n neg xs s l) :
  (oW kind n neg xs s l=true∧dB w v (bX neg (val xs)) n.toNat)∨(oW kind n neg xs s l=false∧mJ w v):=by
 cases hd:oW kind n neg xs s l with
 | false=>exact .inr ⟨rfl,kind,n,neg,xs,s,l,h,hd⟩
 | true =>
  refine .inl ⟨rfl,?_⟩;obtain ⟨m,la,lc,rfl,hr,d⟩:=h;obtain ⟨a,c,rfl,j,k⟩:=hr.form;unfold oW at hd;simp only [Jt,YI,decide_eq_true_eq] at hd;obtain ⟨rfl,rfl,rfl,h1,i,hf,b,g⟩:=hd;have f:ak w (vN neg a xs.length c) (bX neg (val xs)):=dx.isInt ⟨_,rfl,hr,d⟩ hf;refine ⟨⟨neg,a,xs.length,c,la,lc,?_,f⟩,by omega,by omega,?_,?_⟩
  ·rw [show ((n.toNat:Nat):Int)=n by omega]
  ·rw [bM]
   exact (bS (lJ d hf).1 40).1 b
  ·rw [wR]
   rcases g with h | h
   ·exact .inl (by omega)
   ·exact .inr h
theorem dB.at {w:World}{v:Value}{i:Int}{p:Nat}(h:dB w v i p):∃ neg xs,ValAt w v 3 (p:Int) neg xs ⟨#[]⟩ 0∧oW 3 (p:Int) neg xs ⟨#[]⟩ 0=true∧i=bX neg (val xs):=by
 obtain ⟨⟨n,a,m,c,la,lc,rfl,g⟩,o,k,b,d⟩:=h;obtain ⟨neg,xs,⟨q,e,hr,l⟩,hf,hi,j,-⟩:=g.at (Qf b (Ql aP (by decide)));simp only [Value.agg.injEq,Array.mk.injEq,List.cons.injEq,Value.bool.injEq,and_true] at e;obtain ⟨rfl,rfl⟩:=e;refine ⟨n,xs,⟨_,la,lc,rfl,hr,l⟩,?_,hi⟩;unfold oW
 have f:xs.length≤40:=by
  refine (bS j 40).2 ?_;rw [hi,bM] at b;exact b
 rw [hi,wR] at d;simp only [Jt,YI,decide_eq_true_eq,true_and];refine ⟨by omega,by omega,hf,f,?_⟩
 rcases d with h | h
 ·exact .inl (by omega)
 ·exact .inr h
def dG (W:World)(k0:Int)(x:Int × Nat)(k:Int)(v:Value):Prop:=if k0=0 then dP W x.1 x.2 k v else k=k0∧v=pV
theorem dG.keep {W a:World}{k0:Int}{x:Int × Nat}{k:Int}{v:Value}(h:dG W k0 x k v)(c:∀ v xs,Reads .u32 W v xs→Reads .u32 a v xs):dG a k0 x k v:=by
 unfold dG at h ⊢
 by_cases b:k0=0
 ·rw [if_pos b] at h ⊢
  exact h.keep c
 ·rw [if_neg b] at h ⊢
  exact h
theorem jX {W:World}{k0:Int}{x:Int × Nat}(h:k0≠0):dG W k0 x k0 pV:=by
 unfold dG;rw [if_neg h];exact ⟨rfl,rfl⟩
theorem lQ {W:World}{x:Int × Nat}{k:Int}{v:Value}(h:dP W x.1 x.2 k v):dG W 0 x k v:=by
 unfold dG;rw [if_pos rfl];exact h
def fQ (W:World)(k0 i k:Int)(v:Value):Prop:=if k0=0 then k=0∧ak W v i else k=k0∧v=eQ
theorem fQ.keep {W a:World}{k0 i k:Int}{v:Value}(h:fQ W k0 i k v)(c:∀ v xs,Reads .u32 W v xs→Reads .u32 a v xs):fQ a k0 i k v:=by
 unfold fQ at h ⊢
 by_cases b:k0=0
 ·rw [if_pos b] at h ⊢
  exact ⟨h.1,h.2.keep c⟩
 ·rw [if_neg b] at h ⊢
  exact h
theorem uU {W:World}{k0 i:Int}(h:k0≠0):fQ W k0 i k0 eQ:=by
 unfold fQ;rw [if_neg h];exact ⟨rfl,rfl⟩
theorem wS {W:World}{i:Int}{v:Value}(h:ak W v i):fQ W 0 i 0 v:=by
 unfold fQ;rw [if_pos rfl];exact ⟨rfl,h⟩
theorem xu {x y:Int}{K:Nat}(a:x.natAbs<aj^K)(b:y.natAbs<aj^K):(x+y).natAbs<aj^(K+1):=by
 have h:=Int.natAbs_add_le x y;rw [Qo,show aj^K*aj=aj^K*4294967296 from rfl];generalize aj^K=Y at *;omega
theorem jb {x y:Int}{K L:Nat}(a:x.natAbs<aj^K)(b:y.natAbs<aj^L):(x*y).natAbs<aj^(K+L):=by
 rw [Zl,Qt];exact Ye a b
def Dp (v:Value):Prop:=∃ k n g a m c s la l lc,v=vV k n g a m c s la l lc
theorem mJ.shape {w:World}{v:Value}(h:mJ w v):Dp v:=by
 obtain ⟨kind,n,neg,xs,s,l,⟨b,la,lc,rfl,hr,-⟩,-⟩:=h;obtain ⟨a,c,rfl,-,-⟩:=hr.form;exact ⟨_,_,_,_,_,_,_,_,_,_,rfl⟩
theorem dB.shape {w:World}{v:Value}{i:Int}{p:Nat}(h:dB w v i p):∃ n a m c la lc,v=vV 3 p n a m c ⟨#[]⟩ la 0 lc∧ak w (vN n a m c) i:=by
 obtain ⟨n,a,m,c,la,lc,rfl,b⟩:=h.v;exact ⟨n,a,m,c,la,lc,rfl,b⟩
theorem dB.kY {w:World}{v:Value}{i:Int}{p:Nat}(h:dB w v i p):Dp v:=by
 obtain ⟨n,a,m,c,la,lc,rfl,-⟩:=h.shape;exact ⟨_,_,_,_,_,_,_,_,_,_,rfl⟩
theorem Hz {i:Int}(h:i.natAbs<aj^3):i.natAbs<aj^40:=Qf h (Ql aP (by decide))
theorem EW {i:Int}(h:i.natAbs<aj^3):i.natAbs<aj^300:=Qf h (Ql aP (by decide))
theorem jQ {W:World}{v:Value}{i:Int}{p:Nat}(h:dX W v i p)(h1:1≤p)(a:p≤20)(b:i.natAbs<aj^3)(c:p=1∨¬i % 10=0):dB W v i p:=⟨h,h1,a,Hz b,c⟩
theorem vK {W:World}{K:Int}{x:Int × Nat}{k:Int}{v:Value}(h:dG W K x k v)(hK:K=0){i:Int}{p:Nat}(b:x=(i,p))(a:i.natAbs<aj^3):k=0∧dX W v i p:=by
 subst hK b;unfold dG at h;rw [if_pos rfl] at h;unfold dP at h;rw [if_pos (Hz a)] at h;exact h
theorem uF (n:Int)(w:World)(b:n.natAbs<4294967296) :
 CB 66 #[vI n] w fun e a=>∃ v,e=.returned v∧ak a v n:=by
 by_cases h:n<0
 ·have h1:=Fe n.natAbs w (by omega) (by omega)
  rw [show (-(n.natAbs:Int))=n by omega] at h1;exact h1
 ·have h1:=yf n.natAbs w (by omega)
  rw [show ((n.natAbs:Nat):Int)=n by omega] at h1;exact h1
theorem Nc (n:Int)(p:Nat)(i:Int)(q:Nat)(w:World)(J:n.natAbs<4294967296)(hp:p≤20)(M:least n p=(i,q))(hi:i.natAbs<aj^3) :
 CB 74 #[vI n,vI p] w fun e E=>∃ j o r t b d u z f h,e=.returned (vV j o r t b d u z f h)∧dX E (vV j o r t b d u z f h) i q:=by
 have O:=fun W=>uF n W J
 have N:∀ W v,ak W v n→Calls prog 25 #[v,vI p] W fun e E=>bW W E∧∃ j o r t b d u z f h,e=.returned (vG j o r t b d u z f h 0)∧dX E (vV j o r t b d u z f h) i q:=by
  intro W v hv;obtain ⟨neg,xs,h1,hf,rfl,-,-⟩:=hv.at (Qf J (Qd (show 4294967296≤aj^1 by decide) (Ql aP (by decide))));refine (Gy v neg xs p W h1).mono ?_;rintro e F ⟨hb,k0,n0,g,a,m,c,s,l,x,y,k,rfl,D⟩;unfold rH at D;rw [if_neg (by rw [hf];decide),if_neg (by omega),QP,M] at D;unfold dP at D;rw [if_pos (Hz hi)] at D;obtain ⟨rfl,B⟩:=D;exact ⟨hb,_,_,_,_,_,_,_,_,_,_,rfl,B⟩
 clear J M hi;obtain ⟨W0,L,G,T⟩:=qD w;go_enter func74,ntmps74
 go_upto_region 1 with (fail)
 rw [L.out];clear L
 go_cut [5] from 6 to 9 (fun v5 W=>∃ H,∃ j o r t b d u z f h,v5=vP H∧af W H 41 (lG j o r t b d u z f h 0)∧dX W (vV j o r t b d u z f h) i q∧af W w.heap.size 27 (lV 0 0 false none 0 0 ⟨#[]⟩ none 0 0)∧bW w W)
 case first =>
  go_wp2_with (first | (go_at_call 66;refine (O _).mono ?_;rintro e w1 ⟨C,v1,rfl,hI⟩) | (go_at_call 25;refine (N _ _ hI).mono ?_;rintro e F ⟨I,j,o,r,t,b,d,u,z,f,h,rfl,B⟩;have r5:=af.new F 41 (lG 0 0 false none 0 0 ⟨#[]⟩ none 0 0 0);obtain ⟨y0,y1,y2,y3,y4,y5,y6,U,V,X,Y,Z,f5,f6⟩:=wP r5))
  go_meet
  have Q:=dJ F (.cells #[vI j,vI o,.bool r,.slice t b d,.string u,.slice z f h,vI 0] 41);have R:=C.trans (I.mono C.size);have S:=R.trans (Q.mono R.size);exact ⟨_,_,_,_,_,_,_,_,_,_,_,rfl,af.new F 41 (lG j o r t b d u z f h 0),B.below Q,T.below S,G.trans (S.mono G.size)⟩
 case rest =>
  obtain ⟨H,j,o,r,t,b,d,u,z,f,h,rfl,r5,B,A,ig⟩:=hcut;obtain ⟨a0,a1,a2,a3,a4,a5⟩:=aD r5;obtain ⟨y0,y1,y2,y3,y4,y5,U,V,X,Y,Z,f5⟩:=df A;obtain ⟨u0,u1,u2,u3,u4,u5⟩:=dD A (vI j) (vI o) (.bool r) (.slice t b d) (.string u) (.slice z f h);clear O N G T r5
  go_wp2_with fail
  exact bodyPost_ret (v:=vV j o r t b d u z f h) (by simp [results,results74,go_sem,loadCellsFrom,u0,u1,u2,u3,u4,u5]) rfl ⟨((((((ig.setCell (Qb _) (p:=⟨w.heap.size,0,none⟩) (vI j)).setCell (Qb _) (p:=⟨w.heap.size,1,none⟩) (vI o)).setCell (Qb _) (p:=⟨w.heap.size,2,none⟩) (.bool r)).setCell (Qb _) (p:=⟨w.heap.size,3,none⟩) (.slice t b d)).setCell (Qb _) (p:=⟨w.heap.size,4,none⟩) (.string u)).setCell (Qb _) (p:=⟨w.heap.size,5,none⟩) (.slice z f h)),_,_,_,_,_,_,_,_,_,_,rfl,B.keep (bQ A (vI j) (vI o) (.bool r) (.slice t b d) (.string u) (.slice z f h))⟩
end Go.Proofs.YtagjhmodblifbaaGreatDoor
