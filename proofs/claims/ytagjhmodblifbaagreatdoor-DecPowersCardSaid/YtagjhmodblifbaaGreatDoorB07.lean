/- proved lemmas -/
import Derived.Test.YtagjhmodblifbaaGreatDoorMA
import Derived.Test.YtagjhmodblifbaaGreatDoorB00
import Derived.Test.YtagjhmodblifbaaGreatDoorB05
import Derived.Test.YtagjhmodblifbaaGreatDoorB03
import Derived.Test.YtagjhmodblifbaaGreatDoorB06
import Derived.RegionTactic
import Derived.Deep.CutRange
import Derived.BigRegion
import Derived.RangeFuncNested
set_option maxHeartbeats 4000000
set_option maxRecDepth 100000
set_option exponentiation.threshold 100000
namespace Go.Proofs.YtagjhmodblifbaaGreatDoor
open Go.Proofs.Tryz
open Go Go.RowKit Go.Shelf
attribute [local go_sem] Jc
theorem jP (va:Value)(a:List Nat)(f t:Nat)(w:World)(ha:Reads .u32 w va a)(a6:Limbs a)(na:a.length≤100000)(hf:f<aj)(J:t<aj) :
 CB 243 #[va,.int .u32 (f:Int),.int .u32 (t:Int)] w fun e w'=>∃ v cs,e=.returned v∧Reads .u32 w' v cs∧Canon cs∧val cs=val a*f+t:=by
 obtain ⟨aa,ca,rfl,fA,gy⟩:=ha.form;unfold maxLen at gy;have wX:=hf;have M:=J;unfold aj at hf J;obtain ⟨a0,hi,Z⟩:=Js.1 fV;simp only [Prod.mk.injEq] at Z;obtain ⟨V,X,Y⟩:=Z;refine (callsIn_wide (n:=9)).1 ?_;refine callsIn_of_wp_marks func243 rfl trivial ?_ rfl;simp only [ntmps243,Je,QE,QG,Nat.reduceAdd,Nat.reduceSub,Jf,Jg,Jh,Ji,QW,QL]
 have a8:∀ w,(Instr.makeSlice 22 (vI 0) (vI ((a.length:Int)+1))).run prog w=.ok (.slice (some ⟨w.heap.size,0,none⟩) 0 (a.length+1)) (w.alloc (.cells (zeros (a.length+1)) 128)):=fun w=>by
  simpa using fw 0 ((a.length:Int)+1) (by omega) (by omega) (by omega) w
 gi_wp2_with (refine ⟨trivial,?_⟩;gi_at_call 218;refine (callsIn_wide.2 (jH _ _ _ ⟨_,_,_,rfl⟩)).mono ?_;rintro e w' ⟨rfl,rfl⟩)
 clear a8;have r0:=lI (w.alloc (.cells #[.int .u32 (f:Int)] 128)) (w.heap.size+1) (a.length+1) (by simp) (by omega);have r1:=(((r0.alloc (.cells #[.slice (some ⟨w.heap.size+1,0,none⟩) 0 (a.length+1)] 22)).alloc (.cells #[.int .u64 (t:Int)] 138)).alloc (.cells #[.slice aa a.length ca] 22)).alloc (.cells #[vI (a.length:Int)] 3)
 rw [show (w.alloc (.cells #[.int .u32 (f:Int)] 128)).heap.size=w.heap.size+1 by simp] at r1;clear r0;have b0:bW w w:=Qj _ _
 refine iE 21 10 (w.heap.size+5) (w.heap.size+4) w.heap.size a.length (.slice aa a.length ca) a (by exact rfl) a6 (by omega) (by simp) (by simp) (by simp;omega) ?m1 ?m2 (ha.below ?m3) ha.lt
  (fun d W=>∃ v,Boxed W (w.heap.size+2) 22 v∧W.ownsRow (w.heap.size+1) 128 1 v d.length (aF (eG f t (d.map (·.1))).1)∧Boxed W (w.heap.size+3) 138 (.int .u64 ((eG f t (d.map (·.1))).2:Int)) ∧
   Boxed W (w.heap.size+4) 22 (.slice aa a.length ca)∧Boxed W w.heap.size 128 (.int .u32 (f:Int))∧bW w W)
  (fun _ _ _=>False)
  (iM fun v=>(aB _ _ _).and ((mV _ _ _ _ _ _).and ((aB _ _ _).and ((aB _ _ _).and ((aB _ _ _).and (ownFrom_below (Qb _) ?mB))))))
  (fun _ _ _ _ _ h _ _=>h.elim) ?start ?assign ?body ?done ?stop
 case mB=>simp;omega
 case m1=>go_simp
 case m2=>go_simp
 case m3=>exact (((((b0.alloc (Qb _) _).alloc (by simp) _).alloc (by simp;omega) _).alloc (by simp;omega) _).alloc (by simp;omega) _).alloc (by simp;omega) _
 case start =>
  refine ⟨_,?_,by simpa [eG,aF] using r1,?_,?_,?_,?_⟩
  ·exact Boxed.at ((((Qi _ _ _).alloc _).alloc _).alloc _) (by simp)
  ·exact Boxed.at (((Qi _ _ _).alloc _).alloc _) (by simp)
  ·exact Boxed.at ((Qi _ _ _).alloc _) (by simp)
  ·exact (((((Qi _ _ _).alloc _).alloc _).alloc _).alloc _).alloc _
  ·exact (((((b0.alloc (Qb _) _).alloc (by simp) _).alloc (by simp;omega) _).alloc (by simp;omega) _).alloc (by simp;omega) _).alloc (by simp;omega) _
 case assign =>
  intro l x W K hK
  gi_wp2
  exact hK
 case body =>
  rintro l d x W ⟨v,E,u,A,bs,bl,H⟩ ap;have sI:=H.size;obtain ⟨⟨i,y⟩,a5,G⟩:=x
  have U:∀ p ∈ d.map (·.1),p.2<aj:=fun p hp=>by
   obtain ⟨q,_,rfl⟩:=Qw.1 hp;exact q.2.2
  have N:=(qp wX M (d.map (·.1)) U).2;have b:=lH f t (d.map (·.1)) (i,y)
  have B:(d++[(⟨(i,y),a5,G⟩:dA a.length)]).map (·.1)=d.map (·.1)++[(i,y)]:=by simp
  generalize ab:eG f t (d.map (·.1))=st at *;obtain ⟨r,c⟩:=st;simp only [pG] at b;dsimp only at *;clear ab U;have R:=oF N G wX
  obtain ⟨P,hP⟩:∃ P,y*f=P:=⟨_,rfl⟩
  rw [hP] at b R
  obtain ⟨T,hT⟩:∃ T,c+P=T:=⟨_,rfl⟩
  rw [hT] at b R
  have hmul:IntKind.u64.wrap ((y:Int)*(f:Int))=(P:Int):=by
   rw [← Jy,hP,Qk];unfold aj at R;omega
  have ak:IntKind.u64.wrap ((c:Int)+(P:Int))=(T:Int):=by
   rw [Qk];unfold aj at R;omega
  clear hP hT;have HN:=Qa b;have HM:=Qa B;clear b B R;unfold aj at G;have a3:=A.cell;have an:=A.frozen;have a4:=E.cell;have ao:=E.frozen;have am:=bl.cell;have a2:=E.lt
  have o:=((u.kept (grownBy_setCell' W (w.heap.size+3) (.int .u64 (T:Int))) (.inr (A.not_row (by decide) u).symm)).alloc (.cells #[.int .u32 ((T:Int) % 4294967296)] 128))
  simp only [cZ]
  gi_wp2_with (gi_at_builtin;go_loud (refine wpListIn_append_own _ rfl _ _ 22 rfl (w.heap.size+1) 128 a0 (.int .u32 0) 1 4 aG hi V X Y rfl (by decide) _ _ _ rfl o ⟨W.heap.size,0,none⟩ 1 1 [.int .u32 ((T:Int) % 4294967296)] rfl rfl (dI _ _ _ _ (by simp)) (by simp [Value.oneCell']) (by unfold maxLen;omega) (by omega) (by simp;omega) ?_);intro v' w1 g m _;obtain ⟨g',ad,rfl⟩:=ownsRow_succ g;go_loud (have I:=tC (n0:=w.heap.size) (by omega) (by omega) (by omega) (by omega) sI (by decide) (by decide) E A u (((dF.refl (fun j=>j=w.heap.size+3) W).setCell (p:=⟨w.heap.size+3,0,none⟩) (.inl rfl) (.int .u64 (T:Int))).alloc (.cells #[.int .u32 ((T:Int) % 4294967296)] 128)) (Zp (A.set _) _) m g);have ae:=I.boxC.cell;have af:=I.boxR.cell;have ag:=I.boxC.frozen;have ai:=I.boxR.frozen)
  obtain ⟨f1,f2,f3,f4,f5,f6⟩:=I.fin (.int .u64 ((T:Int) / 4294967296));have f7:=f6 _ _ _ (.inl (by decide)) (by omega) (by omega) bs;refine ⟨f5 _,oh.boxed f4 bs f7,_,f1,?_,?_,f7,f6 _ _ _ (.inr (by omega)) (by omega) (by omega) bl,H.trans f4⟩
  ·rw [HM.out,HN.out,jA,QX]
   have hv:Value.int .u32 ((T % aj:Nat):Int)=.int .u32 ((T:Int) % 4294967296):=congrArg _ (by unfold aj;omega);rw [hv];exact f3
  ·rw [HM.out,HN.out]
   have hv:Value.int .u64 ((T / aj:Nat):Int)=.int .u64 ((T:Int) / 4294967296):=congrArg _ (by unfold aj;omega);rw [hv];exact f2
 case done =>
  rintro D ys W hD z ⟨v,E,u,A,bs,bl,H⟩ hK
  have O:=qp wX M (ah a a.length) (fun p hp=>by
   obtain ⟨q,_,rfl⟩:=Qw.1 (z ▸ hp)
   exact q.2.2)
  have C:=yT f t a a.length
  have s:ys.length=a.length:=by have:=congrArg List.length z;simpa [bR] using this
  rw [z] at u A;rw [s] at u;clear z s;generalize eG f t (ah a a.length)=st at *;obtain ⟨r,c⟩:=st;obtain ⟨a7,L⟩:=O;dsimp only at *;have HV:=Qa C;clear C;have al:c<4294967296:=L;have o:=u.alloc (.cells #[.int .u32 (c:Int)] 128);have sI:=H.size;have a2:=E.lt;have a3:=A.cell;have a4:=E.cell;have S:=nE u hK rfl;have HD:=Qa S;clear S
  gi_wp2_with (first | (gi_at_builtin;go_loud (refine wpListIn_append_own _ rfl _ _ 22 rfl (w.heap.size+1) 128 a0 (.int .u32 0) 1 4 aG hi V X Y rfl (by decide) _ _ _ rfl o ⟨W.heap.size,0,none⟩ 1 1 [.int .u32 (c:Int)] rfl rfl (dI _ _ _ _ rfl) (by simp [Value.oneCell']) (by unfold maxLen;omega) (by omega) (by simp;omega) ?_);intro v' w1 g m _;have aq:Reads .u32 w1 v' (r++[c]):=Reads.ou (by simpa [aF] using g)) | (refine ⟨trivial,?_⟩;gi_at_call 188;refine (callsIn_wide.2 (jf _ _ _ (by assumption))).mono ?_;rintro e w' ⟨rfl,v3,rfl,a9⟩))
  have hg:(W.alloc (.cells #[.int .u32 (c:Int)] 128)).grownBy w1 v.ownBlock:=m;have F:w1.heap[D]?=some (.deferred (some [])):=(hg.block D (by have:=(QT.1 hK).1;simp;omega) HD.out).trans ((Zo W _ D (QT.1 hK).1).trans hK);have a1:Below w.heap.size W w1:=((Qj _ W).alloc sI _).grown hg (by simp;omega) (fun k e=>by have:=(u.lt k e).1;omega)
  have Q:r.length=a.length:=by have:=u.1;simpa [aF] using this
  refine ⟨by simp,.inl ⟨_,_,rfl,run_takeDeferred F,?_⟩⟩;refine ⟨_,results_tmp rfl _ _ _,(H.trans a1).trans (belowK_b (w:=w) (Qb _) w1 D _ _ (by simp at hD;omega) F rfl rfl),v3,_,rfl,a9.putObj F rfl _,dL (jV a7 L),?_⟩;rw [dC,jK,Q,HV.out,Qv (Qb _)]
 case stop =>
  rintro D c d W _ _ h _;exact h.elim
end Go.Proofs.YtagjhmodblifbaaGreatDoor
namespace Go.Proofs.YtagjhmodblifbaaGreatDoor
open Go.Proofs.Tryz
open Go Go.RowKit Go.Shelf
def mf (Ka Kb:Nat):Prop:=∀ (va vb:Value) (xa xb:List Nat) (w:World),Reads .u32 w va xa→Reads .u32 w vb xb→Canon xa→Canon xb→xa.length≤Ka→xb.length≤Kb→0<val xb →
 Calls prog 245 #[va,vb] w fun e W'=>qI w W' xa xb e
theorem Reads.inj {k:IntKind}{w:World}{v:Value}{xs ys:List Nat}(h:Reads k w v xs)(g:Reads k w v ys):xs=ys:=by
 obtain ⟨a,c,rfl,_,_,l⟩:=h;obtain ⟨n,o,e,_,_,m⟩:=g;simp only [Value.slice.injEq] at e;obtain ⟨rfl,i,rfl⟩:=e;apply Yo i;intro j h1 d;have f:=(l j h1).2;have b:=(m j d).2;rw [f] at b;simp only [Option.some.injEq,Value.int.injEq,true_and,Qs h1,Qs d,JF] at b;omega
open Classical in
noncomputable def Ar (v:Value) (W:World):Nat:=if h:∃ xs,Reads .u32 W v xs then val (Classical.choose h) else 0
theorem yg {v:Value}{W:World}{xs:List Nat}(h:Reads .u32 W v xs):Ar v W=val xs:=by
 have a:∃ xs,Reads .u32 W v xs:=⟨xs,h⟩
 unfold Ar;rw [dif_pos a,Reads.inj (Classical.choose_spec a) h]
structure Fg (w:World) (A n:Nat) (v:Value) (W:World):Prop where
 below:bW w W
 reads:∃ cs,Reads .u32 W v cs∧Canon cs∧0<val cs∧val cs^n≤2^n*A∧(∀ r,r^n≤A→r≤val cs)
theorem BM (a:Value)(n:Int)(w:World)(ha:Reads .u32 w a []) :
 CB 228 #[a,vI n] w fun e _=>e=.returned vZ:=by
 obtain ⟨c,d,rfl,f,g⟩:=ha.form;have b:bW w w:=Qj _ _;go_enter func228,ntmps228;go_wp2;go_ret;exact ⟨b,rfl⟩
theorem IV (d:Value)(a:List Nat)(n:Nat)(w:World)(ha:Reads .u32 w d a)(c:Limbs a)(z:a.length≠0)(na:a.length≤1000)(h1:1≤bitsOf a)(u:bitsOf a≤n)(x:n≤100) :
 CB 228 #[d,vI n] w fun e p=>∃ v,e=.returned v∧Reads .u32 p v [1]:=by
 obtain ⟨g,i,rfl,s,t⟩:=ha.form;have y:((bitsOf a:Int) - 1) / n=0:=Int.ediv_eq_zero_of_lt (by omega) (by omega);have o:((bitsOf a:Int) - 1).tdiv n=0:=Int.tdiv_eq_zero_of_lt (by omega) (by omega)
 have l:(n:Int)≠0:=by omega
 have m:n≠0:=by omega
 have b:=fun W h=>gW (.slice g a.length i) a W (ha.below h) c (by omega)
 go_enter func228,ntmps228
 go_wp2_with (first | (go_at_call 197;refine (b _ (Qj _ _)).mono ?_;rintro e w1 ⟨rfl,rfl⟩;generalize bitsOf a=bits at *) | (go_at_call 226;refine (uC _).mono ?_;rintro e w1 ⟨f,A,rfl,h1⟩;obtain ⟨q,r,rfl,j,k⟩:=h1.form))
 go_ret;exact ⟨f,_,rfl,h1⟩
theorem yL (g:Value)(a:List Nat)(n:Nat)(w:World)(ha:Reads .u32 w g a)(c:Limbs a)(na:a.length≤100000)(i:n≤3200000) :
 CB 252 #[g,vI n] w fun e h=>∃ v d,e=.returned v∧Reads .u32 h v d∧Canon d∧val d=val a / 2^n:=by
 have j:2^n=aj^(n / 32)*2^(n % 32):=by rw [gX,← Qt,Jq]
 by_cases p:n / 32<a.length
 ·refine (qz g a n w ha c na i p).mono ?_
  rintro e h ⟨b,v,d,rfl,h1,l,m⟩;refine ⟨b,v,d,rfl,h1,l,?_⟩;have k:=val_append (a.take (n / 32)) (a.drop (n / 32));rw [ZC,Jp,JS (by omega)] at k
  have f:val (a.take (n / 32))<aj^(n / 32):=by
   have:=fu (iL c (n / 32))
   rwa [Jp,JS (by omega)] at this
  rw [m,j,← Zg,k,Zu _ _ (Qq aP),QR f,QJ]
 ·refine (qy g a n w ha i (by omega)).mono ?_
  rintro e h ⟨b,rfl⟩;refine ⟨b,_,[],rfl,Reads.nil _ _,iU,?_⟩;have f:=fu c
  have o:aj^a.length≤2^n:=by
   rw [j];exact Qd (Ql aP (by omega)) (Xi _ (Qq (by decide)))
  rw [QR (by omega)];rfl
theorem wK (x y:Nat):0≤dS (x:Int) (y:Int)↔y≤x:=by
 unfold dS;split
 ·omega
 ·split <;> omega
theorem Cs {A n L:Nat}{rs:List Nat}(b:Canon rs)(c:n≠0)(h:val rs^n≤A)(a:A<aj^L):rs.length≤L :=
 aA b (Qr (Qd (Xj c _) h) a)
theorem Be {A n L:Nat}{rs ps:List Nat}(c:Canon ps)(d:n≠0)(h:val rs^n≤A)(b:A<aj^L)(f:val ps=val rs+1):ps.length≤L+1:=by
 apply aA c;have h1:val rs<aj^L:=Qr (Qd (Xj d _) h) b;have a:aj^L<aj^(L+1):=JV (by decide) (by omega);rw [f];exact Qr h1 a
theorem jr {xs ys a:List Nat}(d:Canon a)(b:Limbs xs)(c:Limbs ys)(e:val a=val xs+val ys):a.length≤max xs.length ys.length+1:=by
 apply aA d;have h1:=Qf (fu b) (Ql aP (Nat.le_max_left xs.length ys.length));have f:=Qf (fu c) (Ql aP (Nat.le_max_right xs.length ys.length));rw [e,Qo];have g:aj^max xs.length ys.length*2≤aj^max xs.length ys.length*aj:=Qu _ (by decide);omega
theorem xh {xs a:List Nat}{f c:Nat}(g:Canon a)(d:Limbs xs)(hf:f<aj)(j:c<aj)(e:val a=val xs*f+c):a.length≤xs.length+1:=by
 apply aA g;rw [e,Qo];have h1:=fu d;have h:val xs*f≤val xs*(aj - 1):=Qu _ (by omega);have b:(val xs+1)*aj≤aj^xs.length*aj:=Ja _ h1
 have i:val xs*(aj - 1)+val xs=val xs*aj:=by
  rw [← YA,show (aj - 1).succ=aj from rfl]
 rw [QH,QD] at b;omega
theorem Gp (K L m q half s:Nat)(hT:gP K)(hD:mf L K)(hL:L≤1000)(ar:0<K)(hK:K≤1000)(hm:m<100)(va:Value)(a:List Nat)(w:World)(ha:Reads .u32 w va a)(d:Canon a)(Z:a.length≠0)(na:a.length≤L)
  (hq:(bitsOf a - 1) / (m+1)=q) (bb:1≤q) (k:(q+1) / 2=half) (hs:(m+1)*half=s) (ah:val a / 2^s≠0) (h1:1≤bitsOf a) (B:2^(m+1)*val a<aj^K)
  (C:∀ v ys W,bW w W→Reads .u32 W v ys→Canon ys→val ys=val a / 2^s→Calls prog 228 #[v,vI ((m:Int)+1)] W fun e W'=>bW W W'∧∃ v' b,e=.returned v'∧Reads .u32 W' v' b∧Canon b∧fD (val a / 2^s) (m+1) (val b)) :
  Calls prog 228 #[va,vI ((m:Int)+1)] w fun e w'=>bW w w'∧∃ v b,e=.returned v∧Reads .u32 w' v b∧Canon b∧fD (val a) (m+1) (val b):=by
 obtain ⟨aa,ca,rfl,fA,gy⟩:=ha.form
 have J:bitsOf a≤32000:=by
  unfold bitsOf;rw [if_neg Z];have:=(mF (iK d (by intro h;exact Z (by simp [h]))) (aK d.1 (a.length - 1))).2.1;omega
 have bd:q≤32000:=by rw [← hq];exact Qd (Jv _ _) (by omega)
 have ag:((bitsOf a:Int) - 1) / ((m:Int)+1)=(q:Int):=by
  rw [← hq,show ((bitsOf a:Int) - 1)=((bitsOf a - 1:Nat):Int) by omega];rfl
 have bc:((bitsOf a:Int) - 1).tdiv ((m:Int)+1)=(q:Int):=by
  rw [Yx (by omega)];exact ag
 have hh:((q:Int)+1) / 2=(half:Int):=by rw [← k];omega
 have bf:((m:Int)+1)*(half:Int)=(s:Int):=by rw [← hs];push_cast;rfl
 have ai:s≤3200000:=by
  rw [← hs];exact Qd (JI (show m+1≤100 by omega) (show half≤32000 by rw [← k];omega)) (by decide)
 have br:IntKind.u32.wrap (m:Int)=(m:Int):=by rw [Jj];omega
 have bs:IntKind.u32.wrap ((m:Int)+1)=(m:Int)+1:=by rw [Jj];omega
 have ab:=fun W h=>gW (.slice aa a.length ca) a W (ha.below h) d.1 (by omega)
 have t:val a<aj^L:=Qf (fu d.1) (Ql aP na);have a0:=Qa t;clear t;have HQ:=Qa hq;have HS:=Qa hs;have HF:=Qa B;have D:=Qa ah;clear hq hs B ah;go_enter func228,ntmps228
 go_wp2_with (first
  | (go_at_call 197;refine (ab _ (Qj _ _)).mono ?_;rintro e w1 ⟨rfl,rfl⟩;generalize bitsOf a=bits at *;clear ab)
  | (go_at_call 252;refine (yL _ a s _ ha d.1 (by omega) ai).mono ?_;rintro e w2 ⟨G,v2,ys,rfl,V,k2,U⟩;obtain ⟨a2,c2,rfl,bm,bp⟩:=V.form;have F:=G)
  | (go_at_call 228;refine (C _ ys _ F V k2 U).mono ?_;rintro e w3 ⟨H,v3,rs,rfl,X,O,g⟩;obtain ⟨a3,c3,rfl,au,b7⟩:=X.form;have R:=F.trans (H.mono F.size);have I:=Qr (Jv (val a) (2^s)) a0.out;have b0:rs.length≤L:=Cs O (by omega) g.1 I;have a8:=Qa I;clear I)
  | (go_at_call 226;refine (uC _).mono ?_;rintro e w4 ⟨c,v4,rfl,Y⟩;obtain ⟨a4,c4,rfl,av,b8⟩:=Y.form;have S:=R.trans (c.mono R.size))
  | (go_at_call 185;refine (nY _ _ rs [1] _ (X.below c) Y O.1 (by intro x Z;simp at Z;subst Z;decide) (by omega) (by simp)).mono ?_;rintro e w5 ⟨jS,v5,ps,rfl,z,Q,p⟩;have az:ps.length≤L+1:=Be Q (show m+1≠0 by omega) g.1 a8.out (by rw [p];rfl);obtain ⟨a5,c5,rfl,aw,b9⟩:=z.form;have T:=S.trans (jS.mono S.size))
  | (go_at_call 251;refine (oL _ ps half _ z Q.1 (by omega) (by omega)).mono ?_;rintro e w6 ⟨N,v6,o,rfl,h6,k6,e6⟩;obtain ⟨a6,c6,rfl,ax,ba⟩:=h6.form;have b6:=T.trans (N.mono T.size)))
 have ae:0<val a:=by
  have:=D.out
  rcases Jr (val a) with h | h
  ·rw [h,Nat.zero_div] at this;exact absurd rfl this
  ·exact h
 have l:1≤val rs:=by
  rcases Jr (val rs) with h | h
  ·have:=g.2
   rw [h,QJ,Nat.one_pow] at this;have:=D.out;omega
  ·exact h
 have M:=HS.out
 have u:Fg w (val a) (m+1) (.slice a6 o.length c6) w6:=by
  refine ⟨b6,o,h6,k6,?_,?_,?_⟩
  ·rw [e6,p];exact ZN (Nat.add_pos_left l _) (Qq (by decide))
  ·rw [e6,p,show val [1]=1 from rfl]
   rw [← M] at g;exact DN g l
  ·intro r hr
   rw [← M] at g;have h9:=DL g;rw [e6,p,show val [1]=1 from rfl]
   exact Ju (Zh fun hc=>by
    have:=QU hc (m+1)
    omega)
 clear C ag bc hh bf ai J h1 HS D e6 k6 h6 p Q z g O X U k2 V G H c jS N F R S T b6 bd bb M l b0 az a8 HQ Z Y
 go_loopw [7] (fun v W=>(∃ a2 n2 c2,v=.slice a2 n2 c2)∧Fg w (val a) (m+1) v W) (fun v W=>Ar v W)
 case atStart=>exact ⟨⟨_,_,_,rfl⟩,u⟩
 case round =>
  obtain ⟨⟨a2,n2,c2,rfl⟩,hb,b,hr,f,y,zz,al⟩:=hrel;have t:=a0.out;have i:val b<aj^K:=Qr (Qd (Xj (by omega) _) zz) HF.out;have bu:b.length≤K:=aA f i
  have j:val b^m<aj^K:=by
   refine Qr (Qd ?_ zz) HF.out;rw [Qo];exact Xi _ y
  have af:0<val b^m:=Qq y;have E:=Qa y;have ao:=Qa zz;have ap:=Qa al;have a9:=Qa j;have an:=Qa af;have bh:=Qa i;clear y zz al j af i t;obtain ⟨bi,bj,ak,-,-⟩:=hr.form;simp only [Value.slice.injEq] at ak;obtain ⟨rfl,rfl,rfl⟩:=ak
  have ay:∀ (v:Value) (ys:List Nat) (W:World),Reads .u32 W v ys→Limbs ys→ys.length≤100000→Calls prog 230 #[v,.int .u32 ((m:Int)+1)] W fun e w'=>bW W w'∧∃ v' b,e=.returned (.tuple #[v',.int .u32 ((val ys % (m+1):Nat):Int)])∧Reads .u32 w' v' b∧Canon b∧val b=val ys / (m+1):=fun v ys W h hl hn=>by
   rw [show ((m:Int)+1)=((m+1:Nat):Int) by omega];exact rz v ys (m+1) W h hl hn (by omega) (by unfold aj;omega)
  go_wp2_with (first
   | (go_at_call 198;refine (lL K hT ar _ b m _ hr f (by omega) a9.out).mono ?_;rintro e w1 ⟨aM,v1,bg,rfl,h1,k1,e1⟩;obtain ⟨a1,c1,rfl,bl,bo⟩:=h1.form;have b1:=hb.trans (aM.mono hb.size))
   | (go_at_call 245;refine (hD _ _ a bg _ (ha.below b1) h1 d k1 na (aA k1 (by rw [e1];exact a9.out)) (by rw [e1];exact an.out)).mono ?_;rintro e w2 ⟨G,v2,r2,am,c0,rfl,V,aq,k2,bt,U,bk⟩;obtain ⟨a3,c3,rfl,au,b7⟩:=V.form;obtain ⟨a4,c4,rfl,av,b8⟩:=aq.form;have F:=b1.trans (G.mono b1.size);have bw:am.length≤1000:=Qd (bE d k2 (by rw [U];exact Jv _ _)) (by omega);clear hD)
   | (go_at_call 243;refine (jP _ b m 0 _ ((hr.below aM).below G) f.1 (by omega) (by unfold aj;omega) (by decide)).mono ?_;rintro e w3 ⟨H,v3,ts,rfl,X,O,g⟩;obtain ⟨a5,c5,rfl,aw,b9⟩:=X.form;have R:=F.trans (H.mono F.size);have bx:=xh O f.1 (show m<aj by unfold aj;omega) (by decide) g)
   | (go_at_call 185;refine (nY _ _ ts am _ X (V.below H) O.1 k2.1 (by omega) (by omega)).mono ?_;rintro e w4 ⟨c,v4,us,rfl,Y,k4,e4⟩;obtain ⟨a6,c6,rfl,ax,ba⟩:=Y.form;have S:=R.trans (c.mono R.size);have bz:=jr k4 O.1 k2.1 e4)
   | (go_at_call 230;refine (ay _ us _ Y k4.1 (by omega)).mono ?_;rintro e w5 ⟨jS,v5,o,rfl,z,Q,p⟩;obtain ⟨a7,c7,rfl,bn,bq⟩:=z.form;have T:=S.trans (jS.mono S.size);have bv:o.length≤us.length:=bE k4 Q (by rw [p];exact Jv _ _))
   | (go_at_call 150;refine (gI _ _ o b _ z ((((hr.below aM).below G).below H).below c |>.below jS) Q f (by omega)).mono ?_;rintro e w6 ⟨N,rfl⟩;have b6:=T.trans (N.mono T.size)))
  all_goals rename_i hc
  all_goals have E5:val o=((m+1 - 1)*val b+val a / val b^(m+1 - 1)) / (m+1):=by rw [p,e4,g,U,e1,Jk,ZK,Qp]
  all_goals have EI:((val b:Int)*(m:Int)+(val a:Int) / (val b:Int)^m) / ((m:Int)+1)=((val o:Nat):Int):=by rw [p,e4,g,U,e1];simp
  all_goals rw [EI] at hc
  ·go_ret
   refine ⟨b6,_,b,rfl,(((((hr.below aM).below G).below H).below c).below jS).below N,f,FZ ?_ ap.out⟩;refine Cj E.out (ZY m) ?_;rw [← E5];exact (wK _ _).1 hc
  ·have ad:val o<val b:=Zh fun h=>by
    have:=(wK (val o) (val b)).2 h;omega
   refine ⟨⟨⟨_,_,_,rfl⟩,b6,o,z.below N,Q,?_,?_,?_⟩,?_⟩
   ·have:=zF (A:=val a) (x:=val b) (n:=m+1) (r:=1) E.out (ZY m) (by rw [Nat.one_pow];exact ae)
    rw [← E5] at this;exact this
   ·exact Qd (QU (Ju ad) _) ao.out
   ·intro r be
    have:=zF (A:=val a) (x:=val b) (n:=m+1) (r:=r) E.out (ZY m) be;rw [← E5] at this;exact this
   ·rw [yg (z.below N),yg hr]
    exact ad
theorem xM (K L m:Nat)(N:gP K)(J:mf L K)(M:L≤1000)(u:0<K)(hK:K≤1000)(R:m<100):∀ (b:Nat) (k:Value) (c:List Nat) (w:World),bitsOf c≤b→Reads .u32 w k c→Canon c→c.length≤L→2^(m+1)*val c<aj^K →
 CB 228 #[k,vI ((m:Int)+1)] w fun e r=>∃ v t,e=.returned v∧Reads .u32 r v t∧Canon t∧fD (val c) (m+1) (val t):=by
 intro b
 induction b with
 | zero =>
  intro k c w O ha d _ _
  have g:c=[]:=by
   apply Zc;intro g;have:=(jM d g).1;omega
  subst g;refine (BM k _ w ha).mono ?_;rintro e r ⟨f,rfl⟩;exact ⟨f,_,[],rfl,Reads.nil _ _,iU,by simp [fD,val]⟩
 | succ b T =>
  intro k c w O ha d l i
  by_cases g:c=[]
  ·subst g
   refine (BM k _ w ha).mono ?_;rintro e r ⟨f,rfl⟩;exact ⟨f,_,[],rfl,Reads.nil _ _,iU,by simp [fD,val]⟩
  ·obtain ⟨h1,D,E⟩:=jM d g
   have o:c.length≠0:=fun h=>g (JP h)
   by_cases j:bitsOf c≤m+1
   ·have H:((m:Int)+1)=((m+1:Nat):Int):=by omega
    rw [H];refine (IV k c (m+1) w ha d.1 o (by omega) h1 j (by omega)).mono ?_;rintro e r ⟨f,v,rfl,hr⟩;refine ⟨f,v,[1],rfl,hr,⟨by intro x g;simp at g;subst g;decide,rfl⟩,?_⟩;have p:val [1]=1:=rfl;rw [p];refine ⟨?_,Qf E (Ql (by decide) j)⟩;rw [Nat.one_pow];exact Qd (Qq (by decide)) D
   ·obtain ⟨q,z⟩:∃ q,(bitsOf c - 1) / (m+1)=q:=⟨_,rfl⟩
    have A:1≤q:=by rw [← z,JD (ZY m)];omega
    obtain ⟨half,Q⟩:∃ half,(q+1) / 2=half:=⟨_,rfl⟩
    obtain ⟨s,hs⟩:∃ s,(m+1)*half=s:=⟨_,rfl⟩
    have B:s≤bitsOf c - 1:=by
     have F:(m+1)*half≤(m+1)*q:=Qu _ (by omega)
     have X:(m+1)*q≤bitsOf c - 1:=by rw [← z];exact Nat.mul_div_le _ _
     omega
    have S:1≤s:=by
     rw [← hs];exact ZN (ZY m) (by omega)
    have hdiv:val c / 2^s≠0:=by
     have F:2^s≤val c:=Qd (Ql (by decide) B) D;have:=Nat.div_pos F (Qq (by decide));omega
    refine Gp K L m q half s N J M u hK R k c w ha d o l z A Q hs hdiv h1 i ?_;intro v ys W Y hr y p
    have n:val ys≤val c:=by rw [p];exact Jv _ _
    rw [← p];refine T v ys W ?_ hr y (Qd (bE d y n) l) (Qr (Qu _ n) i)
    by_cases G:ys=[]
    ·subst G;simp [bitsOf]
    ·obtain ⟨U,C,-⟩:=jM y G
     rw [p] at C
     have I:val c / 2^s<2^(bitsOf c - s):=by
      rw [Zt (Qq (by decide)),← Qt,show bitsOf c - s+s=bitsOf c by omega];exact E
     have V:=(Zi (a:=2) (by decide)).1 (Qr C I);omega
structure BA (w w1:World) (na:Bool) (aa:Option Addr) (xa:List Nat) (ca:Nat) (X:World):Prop where
 a:af X w.heap.size 24 (lN na aa xa.length ca)
 res:af X (w.heap.size+1) 24 (lN false none 0 0)
 below:bW w X
 ra:Reads .u32 X (.slice aa xa.length ca) xa
 keep:∀ v xs,Reads .u32 w1 v xs→Reads .u32 X v xs
@[reducible] def NF (w w1:World) (na:Bool) (aa:Option Addr) (xa:List Nat) (ca:Nat) (X:World):Prop :=
 X.cell? ⟨w.heap.size,0,none⟩=some (.bool na)∧X.cell? ⟨w.heap.size,1,none⟩=some (.slice aa xa.length ca)∧BA w w1 na aa xa ca X
section
variable {w w1 X:World} {na:Bool} {aa:Option Addr} {xa:List Nat} {ca:Nat}
theorem zB (h:BA w w1 na aa xa ca X):NF w w1 na aa xa ca X:=⟨h.a.cell 0,h.a.cell 1,h⟩
theorem Fh (h:BA w w1 na aa xa ca X):NF w w1 na aa xa ca X.drew:=zB ⟨h.a,h.res,h.below.drew,h.ra,h.keep⟩
theorem xn {c:World}(h:BA w w1 na aa xa ca X)(b:bW X c):NF w w1 na aa xa ca c :=
 zB ⟨h.a.below b,h.res.below b,h.below.trans (b.mono h.below.size),h.ra.below b,fun v xs d=>(h.keep v xs d).below b⟩
end
theorem xk (K L m:Nat)(Z:gP K)(hD:mf L K)(hL:L≤1000)(z:0<K)(hK:K≤1000)(hm:m<100)(va:Value)(c:List Nat)(r:Nat)(w:World)(ha:Reads .u32 w va c)(p:Canon c)(N:c.length≤L)(k:2^(m+1)*val c<aj^K)(hr:r^(m+1)=val c) :
 CB 200 #[.agg #[.bool true,va],vI ((m:Int)+1)] w fun e x=>∃ v,e=.returned v∧ak x v (-(r:Int)):=by
 obtain ⟨g,j,rfl,fA,gy⟩:=ha.form;have E:=(dJ w (.cells #[.bool true,.slice g c.length j] 24)).alloc (by simp) (.cells #[vF,vZ] 24);have r1:=(af.new w 24 (lN true g c.length j)).alloc (.cells #[vF,vZ] 24);have r2:=af.new (w.alloc (.cells #[.bool true,.slice g c.length j] 24)) 24 (lN false none 0 0);simp only [Qh] at r2
 have d:BA w w true g c j ((w.alloc (.cells #[.bool true,.slice g c.length j] 24)).alloc (.cells #[vF,vZ] 24)):=⟨r1,r2,E,ha.below E,fun v xs h=>h.below E⟩
 generalize A:(w.alloc (.cells #[.bool true,.slice g c.length j] 24)).alloc (.cells #[vF,vZ] 24)=W0 at d;have l:=xM K L m Z hD hL z hK hm (bitsOf c) (.slice g c.length j) c W0 (Qb _) d.ra p N k
 have O:∀ (v:Value) (rs:List Nat) (W:World),Reads .u32 W v rs→Canon rs→val rs=r→Calls prog 198 #[v,vI ((m:Int)+1)] W fun e x=>bW W x∧∃ v' G,e=.returned v'∧Reads .u32 x v' G∧Canon G∧val G=val c:=fun v rs W h u D=>by
  rw [show ((m:Int)+1)=((m+1:Nat):Int) by omega,← hr,← D];refine lL K Z z v rs (m+1) W h u (by omega) ?_;rw [D,hr];exact Qr (ZZ _ (Qq (by decide))) k
 have M:∀ (v:Value) (ps:List Nat) (W:World),Reads .u32 W v ps→Canon ps→val ps=val c→Reads .u32 W (.slice g c.length j) c→Calls prog 150 #[v,.slice g c.length j] W fun e x=>bW W x∧e=.returned (vI 0):=fun v ps W h u D hx=>by
  have:=gI v (.slice g c.length j) ps c W h hx u p (Qd (Nat.le_of_eq (by rw [zC u p D])) (show c.length≤1000000 by omega))
  rwa [D,vL] at this
 have C:∀ s,fD (val c) (m+1) s→s=r:=fun s h=>by
  have h1:=FY h (s:=r) (by rw [hr];exact Qb _);refine Nat.le_antisymm (ZM fun hc=>?_) h1;have h2:(r+1)^(m+1)≤s^(m+1):=QU hc _;have F:=h.1;have H:r^(m+1)<(r+1)^(m+1):=Nat.pow_lt_pow_left (by omega) (by omega);omega
 have U:=Qa A;clear hr k A r1 r2 E;go_enter func200,ntmps200
 go_wp2_with (go_at_call 228;(try rw [U.out]);refine l.mono ?_;rintro e T ⟨y,v3,rs,rfl,F,k3,V⟩;obtain ⟨q,t,rfl,a0,a2⟩:=F.form)
 have o:BA w T true g c j T:=⟨d.a.below y,d.res.below y,d.below.trans (y.mono d.below.size),d.ra.below y,fun _ _ h=>h⟩
 have I:=Qa (Fh o);obtain ⟨d1,d2,-⟩:=zB o;have Y:=C _ V;clear d o l C U V y
 go_region_held3 (fun X=>X.cell? ⟨w.heap.size,0,none⟩=some (.bool true)∧X.cell? ⟨w.heap.size,1,none⟩=some (.slice g c.length j)∧BA w T true g c j X)
  (first | exact I.out | (go_split_ands;exact xn (by assumption) B) | (go_split_ands;exact xn (by assumption) jS))
  (first
   | (go_at_call 198;go_split_ands;refine (O _ rs _ (BA.keep (by assumption) _ _ F) k3 Y).mono ?_;rintro e w4 ⟨B,v4,ps,rfl,H,k4,e4⟩;obtain ⟨a4,c4,rfl,a1,a5⟩:=H.form)
   | (go_at_call 150;go_split_ands;refine (M _ ps _ H k4 e4 (BA.ra (by assumption))).mono ?_;rintro e w5 ⟨jS,rfl⟩))
 rename_i J;obtain ⟨o1,o2,n⟩:=J;have h5:=n.keep _ _ F
 go_wp2_with (go_at_call 184;refine (dK _ _ _ _ _).mono ?_;rintro e w6 ⟨Q,rfl⟩;have f:=n.res.below Q;have R:=f.cell 0;have S:=f.cell 1;have q3:=f.frozen 0;have q4:=f.frozen 1;have h6:=h5.below Q;simp only [Qc,Qe] at R S)
 obtain ⟨s1,s2⟩:=bA (b:=w.heap.size+1) R S (.bool (decide (0<rs.length))) (.slice q rs.length t);have u:=bf (b:=w.heap.size+1) h6 R S (.bool (decide (0<rs.length))) (.slice q rs.length t);have b6:=n.below.trans (Q.mono n.below.size)
 have b7:bW w ((w6.setCell ⟨w.heap.size+1,0,none⟩ (.bool (decide (0<rs.length)))).setCell ⟨w.heap.size+1,1,none⟩ (.slice q rs.length t)):=(b6.setCell (by simp) _).setCell (by simp) _
 have hI:ak ((w6.setCell ⟨w.heap.size+1,0,none⟩ (.bool (decide (0<rs.length)))).setCell ⟨w.heap.size+1,1,none⟩ (.slice q rs.length t)) (vN (decide (0<rs.length)) q rs.length t) (-(r:Int)):=by
  have:=dm true u k3 (i:=-(r:Int)) (by rw [Y];rfl)
  rwa [Jn] at this
 refine bodyPost_ret (v:=vN (decide (0<rs.length)) q rs.length t) (by simp [results,results200,go_sem,loadCellsFrom,s1,s2]) rfl ⟨b7,_,rfl,hI⟩
theorem Ct (B:Nat)(na:Bool)(n:Option Addr)(o:Nat)(f:List Nat)(m:Nat)(r0:Bool)(r1:Option Addr)(r2 r3:Nat)(w:World)(j:af w B 24 (lN na n f.length o))(s:af w (B+1) 3 [vI ((m:Int)+1)])(C:af w (B+2) 24 (lN r0 r1 r2 r3))
  (ha:Reads .u32 w (.slice n f.length o) f) (z:Limbs f) (O:au na f=true) (Z:m<100) (g:na=false∨((m:Int)+1).tmod 2=1) (i:Int)
  (A:∀ W,bW w W→Calls prog 200 #[vN na n f.length o,vI ((m:Int)+1)] W fun e G=>bW W G∧∃ v,e=.returned v∧ak G v i) :
  Calls prog 199 #[vP B,vP (B+1),vP (B+2)] w fun e E=>e=.returned (.tuple #[])∧dF (fun k=>k=B+2) w E∧∃ m a l c,af E (B+2) 24 (lN m a l c)∧ak E (vN m a l c) i:=by
 obtain ⟨X,Y⟩:=aQ j;have n0:=mI s;have D:=af.new w 24 (lN na n f.length o);have H:=dJ w (.cells #[.bool na,.slice n f.length o] 24)
 have d:na=true→((m:Int)+1).tmod 2=1:=fun h=>g.resolve_left (by simp [h])
 clear g;cases na
 all_goals try replace d:=d rfl
 all_goals
  go_enter func199,ntmps199
  go_wp2_with (first
   | (go_at_call 182;refine (gV _ _ n o f _ D (ha.below H) z O).mono ?_;rintro e w1 ⟨M,rfl⟩;have q:=H.trans (M.mono (by simp));have T:=(j.below q).cell 0;have V:=(j.below q).cell 1;have U:=(s.below q).cell 0;simp only [Qc,Qe] at T U V)
   | (go_at_call 106;refine (aC _ _ _ (by first | rfl | (simp;omega))).mono ?_;rintro e w2 ⟨rfl,rfl⟩)
   | (go_at_call 200;refine (A _ q).mono ?_;rintro e w3 ⟨N,v,rfl,u,v9,x,rfl,I,R,S,m1⟩;have r:=q.trans (N.mono q.size);obtain ⟨F,y,rfl,-,-⟩:=I.form;have t:=C.below r;have J:=t.cell 0;have L:=t.cell 1;have o5:=t.frozen 0;have o6:=t.frozen 1;simp only [Qc,Qe] at J L))
  have Q:=bf (b:=B+2) I J L (.bool u) (.slice F x.length y)
  go_end0
  exact ⟨rfl,(((dF.refl (fun k=>k=B+2) w).aU r).setCell (p:=⟨B+2,0,none⟩) (.inl rfl) _).setCell (p:=⟨B+2,1,none⟩) (.inl rfl) _,u,F,x.length,y,(t.set 0 (.bool u)).set 1 (.slice F x.length y),u,_,x,rfl,Q,R,S,m1⟩
theorem Ea (B:Nat)(c:Option Addr)(d:Nat)(a:List Nat)(n:Int)(w:World)(b:af w B 24 (lN true c a.length d))(f:af w (B+1) 3 [vI n])
  (ha:Reads .u32 w (.slice c a.length d) a) (h:Limbs a) (o:au true a=true) (h1:1≤n) (k:n≤100) (l:n.tmod 2=0) :
  Calls prog 199 #[vP B,vP (B+1),vP (B+2)] w fun e s=>bW w s∧e=pK 5:=by
 obtain ⟨u,v⟩:=aQ b;have n0:=mI f;have i:=af.new w 24 (lN true c a.length d);have j:=dJ w (.cells #[.bool true,.slice c a.length d] 24);go_enter func199,ntmps199
 go_wp2_with (first
  | (go_at_call 182;refine (gV _ _ c d a _ i (ha.below j) h o).mono ?_;rintro e w1 ⟨m,rfl⟩;have g:=j.trans (m.mono (by simp));have p:=(b.below g).cell 0;have r:=(b.below g).cell 1;have q:=(f.below g).cell 0;simp only [Qc,Qe] at p q r)
  | (go_at_call 106;refine (aC _ _ _ (by first | rfl | (simp;omega))).mono ?_;rintro e t ⟨rfl,rfl⟩)
  | (go_at_call 106;refine (bD _ _ _ (by first | rfl | simp)).mono ?_;rintro e t ⟨rfl,rfl⟩))
 all_goals exact ⟨rfl,g,rfl⟩
theorem lJ {n:Bool}{xs:List Nat}(a:Limbs xs)(f:au n xs=true):Canon xs∧xs.length≤300:=by
 simp only [au,Jt,decide_eq_true_eq] at f;exact ⟨⟨a,f.1.2⟩,f.1.1⟩
theorem LG (m:Value)(na:Bool)(a:List Nat)(b:Nat)(w:World)(ha:dx w m na a)(q:au na a=true)(r:2≤b)(z:b≤36)(t:gU w) :
 CB 171 #[m,vI b] w fun e _=>∃ s:ByteArray,e=.returned (.tuple #[.string s,vI 0])∧s.data.toList.map (·.toNat)=textOf na b (val a):=by
 refine (Ff m na a (b:Int) w ha (fun k _ v=>k=0∧∃ s:ByteArray,v=.string s∧s.data.toList.map (·.toNat)=textOf na b (val a)) (fun _ _ _ _ h _=>h) ?_).mono ?_
 ·intro B o p n c g j l i C
  obtain ⟨A,u,_,x⟩:=ha;refine (IQ B na o p a b _ n g j l i x q r z (t.below c)).mono ?_;rintro e W ⟨rfl,f,s,hs,y⟩;exact ⟨0,.inl ⟨rfl,rfl⟩,f,s,hs,rfl,s,rfl,y⟩
 ·rintro e W ⟨d,r0,k,rfl,rfl,s,rfl,hs⟩
  exact ⟨d,s,rfl,hs⟩
theorem LH (f:Value)(na:Bool)(g:List Nat)(m:Nat)(w:World)(ha:dx w f na g)(A:au na g=true)(H:m<100)(d:na=false∨((m:Int)+1).tmod 2=1)(i:Int)
  (o:∀ W,bW w W→Calls prog 200 #[f,vI ((m:Int)+1)] W fun e t=>bW W t∧∃ v,e=.returned v∧ak t v i) :
  Calls prog 160 #[f,vI ((m:Int)+1)] w fun e u=>bW w u∧∃ v,e=.returned (.tuple #[v,vI 0])∧ak u v i:=by
 refine (Aq f na g ((m:Int)+1) w ha (fun k W v=>k=0∧ak W v i) (fun _ _ _ _ h F=>⟨h.1,h.2.keep F⟩) ?_).mono ?_
 ·intro B y z x b p r s q D
  obtain ⟨I,E,_,G⟩:=ha;refine (Ct B na y z g m _ _ _ _ x p r s q G A H d i (fun W C=>?_)).mono ?_
  ·rw [← D]
   exact o W (b.trans (C.mono b.size))
  ·rintro e W ⟨rfl,n,m,a,l,c,hr,hi⟩
   exact ⟨0,.inl ⟨rfl,rfl⟩,n,m,a,l,c,hr,rfl,hi⟩
 ·rintro e W ⟨j,r0,k,rfl,rfl,hi⟩
  exact ⟨j,_,rfl,hi⟩
theorem Gq (l:Value)(d:List Nat)(n:Int)(w:World)(ha:dx w l true d)(q:au true d=true)(h1:1≤n)(b:n≤100)(c:n.tmod 2=0) :
 CB 160 #[l,vI n] w fun e _=>e=.returned (.tuple #[eQ,vI 5]):=by
 refine (Aq l true d n w ha (fun k W v=>k=5∧v=eQ) (fun _ _ _ _ h _=>h) ?_).mono ?_
 ·intro B o p m r f i j g x
  obtain ⟨u,s,_,t⟩:=ha;refine (Ea B o p d n m f i g t q h1 b c).mono ?_;rintro e W ⟨a,rfl⟩;exact ⟨5,.inr rfl,(dF.refl _ m).aU a,false,none,0,0,j.below a,rfl,rfl⟩
 ·rintro e W ⟨a,r0,k,rfl,rfl,rfl⟩
  exact ⟨a,rfl⟩
theorem tN {k:IntKind}{W:World}{v:Value}{xs:List Nat}(h:Reads k W v xs):Reads k W.drew v xs:=h
section
variable {w w1 X:World} {na nb:Bool} {aa ab:Option Addr} {xa xb:List Nat} {ca cb p:Nat} {n1:Bool} {s1:Option Addr} {m1 c1:Nat} {n2:Bool} {s2:Option Addr} {m2 c2:Nat}
end
section
variable {w w1 X:World} {na nb:Bool} {aa ab:Option Addr} {xa xb:List Nat} {ca cb p:Nat} {n1:Bool} {s1:Option Addr} {m1 c1:Nat} {ng:Bool} {sg:Option Addr} {mg cg:Nat} {nx:Bool} {sx:Option Addr} {mx cx:Nat} {ny:Bool} {sy:Option Addr} {my cy:Nat}
end
section
variable {w w1 X:World} {na nb:Bool} {aa ab:Option Addr} {xa xb:List Nat} {ca cb p:Nat} {n1:Bool} {s1:Option Addr} {m1 c1:Nat} {ng:Bool} {sg:Option Addr} {mg cg:Nat} {nx:Bool} {sx:Option Addr} {mx cx:Nat} {ny:Bool} {sy:Option Addr} {my cy:Nat}
end
theorem ak.shape {W:World}{v:Value}{i:Int}(h:ak W v i):∃ n s m c,v=vN n s m c:=by
 obtain ⟨n,b,xs,rfl,hr,_⟩:=h;obtain ⟨a,c,rfl,_⟩:=hr.form;exact ⟨n,a,_,c,rfl⟩
section
variable {w w1 X:World} {na nb:Bool} {aa ab:Option Addr} {xa xb:List Nat} {ca cb p:Nat} {n1:Bool} {s1:Option Addr} {m1 c1:Nat} {ng:Bool} {sg:Option Addr} {mg cg:Nat} {nx:Bool} {sx:Option Addr} {mx cx:Nat} {ny:Bool} {sy:Option Addr} {my cy:Nat}
end
theorem Au (i:Int)(w:World)(h1:-9223372036854775808≤i)(b:i≤9223372036854775807) :
 CB 66 #[vI i] w fun e a=>∃ v,e=.returned v∧ak a v i:=by
 by_cases h:0≤i
 ·obtain ⟨n,rfl⟩:=JW h
  exact yf n w (by omega)
 ·obtain ⟨n,c⟩:=JW (show 0≤-i by omega)
  obtain rfl:i=-(n:Int):=by omega
  exact Fe n w (by omega) (by omega)
theorem of_int (i:Int)(w:World)(h1:-9223372036854775808≤i)(b:i≤9223372036854775807) :
 CB 143 #[vI i] w fun e a=>∃ v,e=.returned v∧ak a v i:=by
 by_cases h:0≤i
 ·obtain ⟨n,rfl⟩:=JW h
  exact Gn n w (by omega)
 ·obtain ⟨n,c⟩:=JW (show 0≤-i by omega)
  obtain rfl:i=-(n:Int):=by omega
  exact MW n w (by omega) (by omega)
theorem LJ {na nb:Bool}{a b:List Nat}(c:Canon a)(d:Canon b)(ha:(na&&decide (0<a.length))=na)(i:(nb&&decide (0<b.length))=nb):bX na (val a)=bX nb (val b)↔na=nb∧a=b:=by
 constructor
 ·intro h
  have j:=dn c;have k:=dn d
  have f:val a=val b:=by rw [← bM na (val a),h,bM]
  have g:=zC c d f;subst g;refine ⟨?_,rfl⟩
  cases na <;> cases nb <;> simp_all [bX]
  all_goals omega
 ·rintro ⟨rfl,rfl⟩;rfl
theorem ak.at {w:World}{v:Value}{i:Int}(h:ak w v i)(hi:i.natAbs<aj^300):∃ neg xs,dx w v neg xs∧au neg xs=true∧i=bX neg (val xs)∧Canon xs∧(neg&&decide (0<xs.length))=neg:=by
 obtain ⟨neg,d,xs,rfl,hr,a,b,rfl⟩:=h;rw [bM] at hi;refine ⟨neg,xs,⟨d,rfl,hr,a.1⟩,?_,rfl,a,b⟩;have c:=aA a hi;simp only [au,c,a.2,decide_true,Jn]
 cases neg with
 | false=>rfl
 | true =>
  simp only [Jn,decide_eq_true_eq] at b;simp only [Jn,YV,decide_eq_false_iff_not];omega
theorem ak.MB {w:World}{v:Value}{i:Int}(h:ak w v i):∃ neg xs,dx w v neg xs∧i=bX neg (val xs)∧Canon xs∧(neg&&decide (0<xs.length))=neg:=by
 obtain ⟨neg,c,xs,rfl,hr,a,b,rfl⟩:=h;exact ⟨neg,xs,⟨c,rfl,hr,a.1⟩,rfl,a,b⟩
theorem Gr (b c:Value)(i j:Int)(w:World)(ha:ak w b i)(n:ak w c j) :
 CB 52 #[b,c] w fun e _=>e=.returned (.bool (decide (i=j))):=by
 obtain ⟨na,d,l,rfl,g,la⟩:=ha.MB;obtain ⟨nb,f,m,rfl,k,lb⟩:=n.MB;refine (FR b c na nb d f w l m).mono ?_;rintro e o ⟨a,rfl⟩;refine ⟨a,?_⟩
 have h:uw na nb d f=decide (bX na (val d)=bX nb (val f)):=by
  rw [Bool.eq_iff_iff];simp only [uw,Jt,decide_eq_true_eq];exact (LJ g k la lb).symm
 rw [h]
theorem MZ (a b:Value)(i j:Int)(B C:Nat)(O:mf B C)(w:World)(ha:ak w a i)(E:ak w b j)(hi:i.natAbs<aj^300)(G:j.natAbs<aj^300)(t:i.natAbs<aj^B)(u:j.natAbs<aj^C)(g:j≠0) :
 CB 187 #[a,b] w fun e H=>∃ q r,e=.returned (.tuple #[q,r,vI 0])∧ak H q (i.fdiv j)∧ak H r (i.fmod j):=by
 have m:=ha;have o:=E;obtain ⟨na,U,n,L,ei,Y,la⟩:=ha.at hi;obtain ⟨nb,A,p,M,J,Z,lb⟩:=E.at G
 have z:A.length≠0:=by
  intro h;have:A=[]:=JP h;subst this;apply g;rw [J]
  cases nb <;> rfl
 refine (MU a b na nb U A w n p (i.fdiv j) (i.fmod j) (fun _ _ _ W D=>?_)).mono ?_
 ·refine Ch a b i j W (m.below D) (o.below D) (Qf hi (Ql aP (by omega))) (Qf G (Ql aP (by omega))) g (fun S T V X d f y l v x I c=>?_)
  exact O S T V X I (v.below c) (x.below c) d f (aA d (by rw [y];exact t)) (aA f (by rw [l];exact u)) (by rw [l];omega)
 ·rintro e W ⟨s,Q,R,k,rfl,F⟩
  simp only [nu,L,M,Yr,if_true,if_neg z] at F;obtain ⟨rfl,h1,N⟩:=F;exact ⟨s,Q,R,rfl,h1,N⟩
theorem uQ {K L:Nat}(h:gP L)(c:K≤L):gP K:=by
 intro f g i j w ha d a b la lb;exact h f g i j w ha d a b (by omega) (by omega)
theorem yh {c d f g:Nat}(h:mf f g)(h1:c≤f)(n:d≤g):mf c d:=fun j k l m w ha i a b la lb h0=>h j k l m w ha i a b (by omega) (by omega) h0
end Go.Proofs.YtagjhmodblifbaaGreatDoor
namespace Go.Proofs.YtagjhmodblifbaaGreatDoor
open Go.Proofs.Tryz
open Go Go.RowKit
def MC {α:Type}(F:Fence)(n:Nat)(P:Program)(g:Nat)(lb:Array Value)(encs:α→Array Value)(Kp:World→World→Prop)(S Sp:List α→Prop)(N Bs:Nat)(t:TypeId)(T:List α→Value)(w:World):Prop :=
 ∀ (l:Nat) (J:List α→World→Prop) (W:World),bW w W→(∀ s A A',J s A→A.grownBy A' (some Bs)→J s A') →
  (∀ pre x A,J pre A→Boxed A Bs t (T (pre++[x]))→pre.length<N→Sp (pre++[x])→YieldAt F (n - 1) P l (encs x) A fun e A'=>e=.returned (.bool true)∧J (pre++[x]) A'∧Kp A A') →
  J [] W→CallsIn F n P g (#[.func (.yield l) #[] #[]]++lb) W fun e W'=>(∃ v,e=.returned v)∧∃ xs,S xs∧J xs W'
def Il {α:Type}(B:Nat)(Kp:World→World→Prop)(I:List α→World→Prop)(xs:List α)(W:World):Exit→Act→World→Prop
 | .normal,_,W'=>KeepsFrom B W W'∧Kp W W'∧I xs W'
 | _,_,_=>False
variable {F:Fence} {n:Nat} {P:Program} {w:World}
theorem uW {α:Type}{g:Operand}{ps:Array Tmp}{assign body:Code}{Q:Exit→Act→World→Prop}{a:Act}
  (ag:F.round=none) (h1:1≤n) {gf:Nat} {lb:Array Value} (hg:a.eval g=.func (.func gf) #[] lb) (a0:F.fn gf) (eg:∀ args w,(callFunc gf args).run P w=.ok (.enter gf args) w)
  {d:α→Array Value} {q:World→World→Prop} {S Sp:List α→Prop} {N k:Nat} {t:TypeId} {T:List α→Value} {w0:World} (Y:MC F (n - 1) P gf lb d q S Sp N k t T w0)
  (M:∀ {A B C:World},q A B→q B C→q A C) (L:∀ (W:World) (l:Nat) (o Z:Obj),w.heap.size≤l→W.heap[l]?=some o→o.isCells=false→o.isWalk=false→q W (W.putObj l Z)) (O:bW w0 w) (af:∀ x,(d x).size=ps.size)
  (ak:k<w.heap.size) (I:List α→World→Prop) (J:∀ s A A' row,I s A→A.grownBy A' row→(∀ r,row=some r→r=k∨(w.heap.size≤r∧∃ o:Obj,A.heap[r]?=some o∧o.isCells=false))→I s A') (h0:I [] w) (a₁:α→Act)
  (i:∀ (l:Nat) (x:α) (W:World) (K:Act→World→Prop),K (a₁ x) W →
   assign.wpIn (F.inRound l) (n - 1 - 1) P (Exit.then K (fun _ _ _=>False)) { tmps:=(ps.zip (d x)).foldl (fun t (p,v)=>t.setIfInBounds p v) a.tmps,defers:=[] } W)
  (y:∀ (l:Nat) (b:List α) (x:α) (W:World),I b W→Boxed W k t (T (b++[x]))→b.length<N→Sp (b++[x])→body.wpIn (F.inRound l) (n - 1 - 1) P (Il w.heap.size q I (b++[x]) W) (a₁ x) W)
  (z:∀ (D:Nat) (xs:List α) (W:World),w.heap.size≤D→S xs→I xs W→W.heap[D]?=some (.deferred (some []))→Q .normal { a with defers:={ target:=.collected D,args:=#[] }::a.defers } W) :
  (Code.rangeFunc g ps assign body).wpIn F n P Q a w:=by
 apply wpIn_rangeFunc;intro fn a8;rw [ag]
 let rec':LoopState→Option Code→Loop:=fun st pe=>{ state:=st,pending:=pe,fn,tmps:=a.tmps,params:=ps,assign,body,defers:=w.heap.size }
 have ah:(w.alloc (.deferred (some []))).heap.size=w.heap.size+1:=Qh _ _;generalize f:(w.alloc (.deferred (some []))).alloc (.loop (rec' .ready none))=W1
 have a4:W1.heap[w.heap.size+1]?=some (.loop (rec' .ready none)):=by
  rw [← f,← ah];exact ZF _ _
 have a2:W1.heap[w.heap.size]?=some (.deferred (some [])):=by
  rw [← f];exact (Zo _ _ _ (by omega)).trans (ZF w _)
 have a1:I [] W1:=by
  rw [← f];exact J _ _ _ none (J _ _ _ none h0 (World.grownBy_alloc w _ none) (fun r e=>by cases e)) (World.grownBy_alloc _ _ none) (fun r e=>by cases e)
 have a5:bW w0 W1:=by
  rw [← f];exact O.trans (((dJ w _).alloc (by omega) _).mono O.size)
 refine ⟨w.heap.size+1,[{ target:=.collected w.heap.size,args:=#[] }],W1,{ target:=.fn (.func gf) lb,args:=#[.func (.yield (w.heap.size+1)) #[] #[]] },W1,gf,
  #[.func (.yield (w.heap.size+1)) #[] #[]]++lb,W1,?_,?_,?_,?_,fun _=>h1,?_⟩
 ·rw [← f]
  exact run_enterLoop_outer _ _ _ _ _
 ·simp only [resolve,hg]
  simp [go_sem]
 ·intro f' U
  simp only [Target.leads,Option.some.injEq] at U;subst U;exact a0
 ·simp [invoke,go_sem,eg]
 have al:w.heap.size+1≠k∧w.heap.size≠k:=⟨by omega,by omega⟩
 refine (Y (w.heap.size+1) (fun b W=>I b W∧W.heap[w.heap.size+1]?=some (.loop (rec' .ready none))∧W.heap[w.heap.size]?=some (.deferred (some []))) W1 a5 ?_ ?_ ⟨a1,a4,a2⟩).mono ?_
 ·rintro s A A' ⟨ha,c,G⟩ E
  refine ⟨J s A A' (some k) ha E (fun r e=>by cases e;exact .inl rfl),?_,?_⟩
  ·rw [E.block _ (QT.1 c).1 (by simp;omega)];exact c
  ·rw [E.block _ (QT.1 G).1 (by simp;omega)];exact G
 ·rintro b x W ⟨hi,c,G⟩ R hlen ai
  have ae:w.heap.size+1<W.heap.size:=(QT.1 c).1
  have m:∀ (A:World) (s:List α) (l:Nat) (o Z:Obj),I s A→w.heap.size≤l→A.heap[l]?=some o→o.isCells=false→I s (A.putObj l Z):=fun A s l o Z hs hB c ho =>
   J s A _ (some l) hs (grownBy_putObj' A l Z) (fun r e=>by cases e;exact .inr ⟨hB,o,c,ho⟩)
  refine ⟨fn,_,assign,body,run_yield c (af x),roundIn_of_wpIn a8 (i _ x W _ ⟨_,run_beginRound c rfl,?_⟩)⟩;generalize h:W.putObj (w.heap.size+1) (.loop { rec' .ready none with state:=.busy })=u
  have ad:u.heap[w.heap.size+1]?=some (.loop { rec' .ready none with state:=.busy }):=by rw [← h];exact World.putObj_heap_same ae
  have ab:u.heap[w.heap.size]?=some (.deferred (some [])):=by rw [← h];exact (QS (by omega)).trans G
  have a6:Boxed u k t (T (b++[x])):=by rw [← h];exact (QS (by omega)).trans R
  have a9:I b u:=by rw [← h];exact m _ _ _ _ _ hi (by omega) c rfl
  have aj:q W u:=by rw [← h];exact L _ _ _ _ (by omega) c rfl rfl
  refine wpIn_mono (y _ b x u a9 a6 hlen ai) ?_;rintro e a3 W3 H
  cases e with
  | normal =>
   obtain ⟨V,X,aa⟩:=H;have j:=V.same _ _ (by omega) ad rfl;have a7:=V.same _ _ (Qb _) ab rfl;exact ⟨_,_,run_endRound none j,rfl,⟨m _ _ _ _ _ aa (by omega) j rfl,World.putObj_heap_same (QT.1 j).1,(QS (by omega)).trans a7⟩,M (M aj X) (L _ _ _ _ (by omega) j rfl rfl)⟩
  | ret=>exact H.elim
  | exit id=>exact H.elim
  | goto t=>exact H.elim
  | panic ch=>exact H.elim
  | outgrown=>exact H.elim
 ·rintro e u ⟨⟨v,rfl⟩,xs,hS,hi,c,G⟩
  refine ⟨none,_,run_endLoop c (by simp [rec']),z _ xs _ (Qb _) hS ?_ ((QS (by omega)).trans G)⟩;exact J _ _ _ (some (w.heap.size+1)) hi (grownBy_putObj' _ _ _) (fun r e=>by cases e;exact .inr ⟨by omega,_,c,rfl⟩)
end Go.Proofs.YtagjhmodblifbaaGreatDoor
