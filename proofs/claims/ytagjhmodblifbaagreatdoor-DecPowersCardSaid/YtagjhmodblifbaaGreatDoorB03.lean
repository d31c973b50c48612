/- proved lemmas -/
import Derived.Test.YtagjhmodblifbaaGreatDoorMA
import Derived.Test.YtagjhmodblifbaaGreatDoorB00
import Derived.Test.YtagjhmodblifbaaGreatDoorB01
import Derived.Test.YtagjhmodblifbaaGreatDoorB02
set_option maxHeartbeats 4000000
set_option maxRecDepth 100000
namespace Go.Proofs.YtagjhmodblifbaaGreatDoor
open Go.Proofs.Tryz
open Go Go.RowKit Go.Shelf
attribute [local go_sem] Jc
def MO (W:World)(v:Value):Prop:=∀ a n c,v=.slice (some a) n c→∃ cs fz,W.heap[a.block]?=some (.cells cs 128 fz)
theorem ry (va:Value)(b:List Nat)(d:Nat)(w:World)(ha:Reads .u32 w va b)(J:Limbs b)(na:b.length≤100000)(C:0<d)(a4:d<aj) :
 CB 230 #[va,.int .u32 (d:Int)] w fun e U=>∃ v X,e=.returned (.tuple #[v,.int .u32 ((val b % d:Nat):Int)])∧Reads .u32 U v X∧Canon X∧val X=val b / d∧MO U v:=by
 obtain ⟨aa,ca,rfl,fA,gy⟩:=ha.form;unfold maxLen at gy;have a3:=a4;unfold aj at a3;refine (callsIn_wide (n:=9)).1 ?_;refine callsIn_of_wp_marks func230 rfl trivial ?_ rfl;simp only [ntmps230,Je,QE,QG,Nat.reduceAdd,Nat.reduceSub,Jf,Jg,Jh,Ji,QW,QL]
 have a6:∀ w,(Instr.makeSlice 22 (vI (b.length:Int)) (vI (b.length:Int))).run prog w=.ok (.slice (some ⟨w.heap.size,0,none⟩) b.length b.length) (w.alloc (.cells (zeros b.length) 128)):=fun w=>by
  simpa using fw (b.length:Int) (b.length:Int) (by omega) (by omega) (by omega) w
 gi_wp2_with (refine ⟨trivial,?_⟩;gi_at_call 192;refine (callsIn_wide.2 (BH _ _ ⟨_,_,_,rfl⟩)).mono ?_;rintro e U ⟨rfl,rfl⟩)
 clear a6;have b0:bW w w:=Qj _ _
 refine xV 8 9 (w.heap.size+4) w.heap.size (.slice aa b.length ca) b (by exact rfl) J (by omega) (by simp) (by simp;omega) ?m2 (ha.below ?m3) ha.lt
  (fun f W=>Boxed W (w.heap.size+2) 22 (.slice (some ⟨w.heap.size+1,0,none⟩) b.length b.length)∧af W (w.heap.size+1) 128 (aF (eH b.length d (f.map (·.1))).1)∧Boxed W (w.heap.size+3) 138 (.int .u64 ((eH b.length d (f.map (·.1))).2:Int)) ∧
   Boxed W (w.heap.size+4) 22 (.slice aa b.length ca)∧Boxed W w.heap.size 128 (.int .u32 (d:Int))∧bW w W)
  (fun _ _ _=>False)
  ((aB _ _ _).and ((jq _ _ _).and ((aB _ _ _).and ((aB _ _ _).and ((aB _ _ _).and (ownFrom_below (Qb _) ?mB))))))
  (fun _ _ _ _ _ h _ _=>h.elim) ?start ?assign ?body ?done ?stop
 case mB=>simp;omega
 case m2=>go_simp
 case m3=>exact ((((b0.alloc (Qb _) _).alloc (by simp) _).alloc (by simp;omega) _).alloc (by simp;omega) _).alloc (by simp;omega) _
 case start =>
  refine ⟨?_,?_,?_,?_,?_,?_⟩
  ·exact Boxed.at (((Qi _ _ _).alloc _).alloc _) (by simp)
  ·have e:aF (eH b.length d (([]:List (dA b.length)).map (·.1))).1=(zeros b.length).toList:=by simp [eH,aF,zeros]
   rw [e];exact af.at ((((af.new _ _ _).alloc _).alloc _).alloc _) (by simp)
  ·exact Boxed.at ((Qi _ _ _).alloc _) (by simp)
  ·exact Boxed.at (Qi _ _ _) (by simp)
  ·exact ((((Qi _ _ _).alloc _).alloc _).alloc _).alloc _
  ·exact ((((b0.alloc (Qb _) _).alloc (by simp) _).alloc (by simp;omega) _).alloc (by simp;omega) _).alloc (by simp;omega) _
 case assign =>
  intro l x W K hK
  gi_wp2
  exact hK
 case body =>
  rintro l f x W ⟨G,t,u,bs,V,j⟩ ai;have sI:=j.size;obtain ⟨⟨i,y⟩,a5,E⟩:=x
  have M:∀ p ∈ f.map (·.1),p.2<aj:=fun p hp=>by
   obtain ⟨q,_,rfl⟩:=Qw.1 hp;exact q.2.2
  have I:=(nJ b.length C (f.map (·.1)) M).2;have hlen:=mr b.length d (f.map (·.1));have g:=mR b.length d (f.map (·.1)) (i,y)
  have o:(f++[(⟨(i,y),a5,E⟩:dA b.length)]).map (·.1)=f.map (·.1)++[(i,y)]:=by simp
  generalize a7:eH b.length d (f.map (·.1))=st at *;obtain ⟨r,c⟩:=st;simp only [sU] at g;dsimp only at *;clear a7 M;have O:=Qa g;have HM:=Qa o;have HL:=Qa hlen;clear g o hlen;unfold aj at E
  have a2:c<4294967296:=by omega
  have a0:=u.cell;have ag:=u.frozen;have a1:=G.cell;have ah:=G.frozen;have a9:=V.cell
  obtain ⟨T,Z⟩:∃ T,c*aj+y=T:=⟨_,rfl⟩
  have ak:bits BinOp.or IntKind.u64 ((c:Int)*4294967296) (y:Int)=(T:Int):=by
   have e1:(c:Int)*4294967296=((c*4294967296:Nat):Int):=by omega
   rw [e1,bits_or_u64_nat _ _ (by omega) (by omega),show c*4294967296=c <<< 32 by rw [JL],← ZW (by omega),JL,← Z];rfl
  have A:=xI I (show y<aj from E);rw [Z] at O A;clear Z
  obtain ⟨Q,S⟩:∃ Q,T / d=Q:=⟨_,rfl⟩
  obtain ⟨R,Y⟩:∃ R,T % d=R:=⟨_,rfl⟩
  have hq:(T:Int) / (d:Int)=(Q:Int):=by rw [← S];rfl
  have hr:(T:Int) % (d:Int)=(R:Int):=by rw [← Y];rfl
  rw [S,Y] at O;rw [S] at A;clear S Y;unfold aj at A
  have ab:W.cell? ⟨w.heap.size+1,i,none⟩=some (.int .u32 ((r[i]?.getD 0:Nat):Int)):=by
   rw [t.cell];have:=HL.out;simp [aF,Qs (show i<r.length by omega)]
  have ad:=t.frozen i
  have a8:IntKind.u64.wrap (d:Int)=(d:Int):=by rw [Qk];omega
  have am:IntKind.u64.wrap (Q:Int)=(Q:Int):=by rw [Qk];omega
  have ae:¬d=0:=by omega
  simp only [cZ]
  gi_wp2_with fail
  refine gH (.inr ⟨_,rfl⟩) 8 (by kernel_rfl) (by kernel_rfl) ?_;simp only [JA,JB,JC,QN]
  repeat still_step
  refine wpStill_nil ?_;change wpListIn _ _ _ _ _ _ _ (W.setCell _ _).drew
  gi_wp2_with fail
  have H:dF (fun k=>k=w.heap.size+1∨k=w.heap.size+3) W _:=((((dF.refl _ W).setCell (p:=⟨w.heap.size+3,0,none⟩) (.inl (.inr rfl)) (.int .u64 (T:Int))).setCell (p:=⟨w.heap.size+1,i,none⟩) (.inl (.inl rfl)) (.int .u32 (Q:Int))).setCell (p:=⟨w.heap.size+3,0,none⟩) (.inl (.inr rfl)) (.int .u64 (R:Int))).drew;have m:=H.below (B:=w.heap.size) (by rintro k (e | e) <;> omega) sI
  have f4:=H.boxed bs (by omega);refine ⟨H.fH _ ?_,oh.boxed m bs f4,H.boxed G (by omega),?_,?_,f4,H.boxed V (by omega),j.trans m⟩
  ·rintro k (rfl | rfl)
   ·exact t.isCells
   ·exact Boxed.isCells u
  ·rw [HM.out,O.out]
   have e:aF (r.set i Q)=(aF r).set i (.int .u32 (Q:Int)):=by simp [aF]
   rw [e];exact af.drew (af.other (af.set (t.other (by simp) _) i _) (by simp) _)
  ·rw [HM.out,O.out]
   exact Boxed.drew (QO _ (Boxed.oz (QO _ u) (by simp) _))
 case done =>
  rintro D ys W hD F ⟨G,t,u,bs,V,j⟩ hK
  have L:=nJ b.length C (aW b b.length) (fun p hp=>by
   obtain ⟨q,_,rfl⟩:=Qw.1 (F ▸ hp)
   exact q.2.2)
  have s:=xS C J;have hlen:=mr b.length d (aW b b.length);rw [F] at t u;clear F;generalize eH b.length d (aW b b.length)=st at *;obtain ⟨r,c⟩:=st;dsimp only at *
  have a2:c<4294967296:=by omega
  have HV:=Qa s;have N:Reads .u32 W (.slice (some ⟨w.heap.size+1,0,none⟩) b.length b.length) r:=af.reads t _ _ hlen.symm (Qb _) (by unfold maxLen;omega);have HL:=Qa hlen;clear s hlen;have a1:=G.cell;have a0:=u.cell
  have al:IntKind.u64.wrap (c:Int)=(c:Int):=by rw [Qk];omega
  have a8:IntKind.u32.wrap (c:Int)=(c:Int):=by rw [Jj];omega
  gi_wp2_with fail
  refine uM (.inl rfl) (by kernel_rfl) (by kernel_rfl) ?_
  repeat (go_big_quiet_step (exact (trim_eq _ _ _ r _ (N.drewN _)).mono (fun e U ⟨h1,h2⟩=>⟨h2,_,h1.symm⟩)))
  refine wpQuiet_nil ?_;rintro _ ⟨nq,rfl⟩
  gi_wp2_with fail
  have z:(W.drewN nq).heap[D]?=some (.deferred (some [])):=hK
  have bq:bW w (W.drewN nq):=⟨j.os,j.tape,j.output,j.size,j.block⟩
  refine ⟨by simp,.inl ⟨_,_,rfl,run_takeDeferred z,?_⟩⟩;refine ⟨_,results_tmp2 rfl _ _ _,bq.trans (belowK_b (w:=w) (Qb _) (W.drewN nq) D _ _ (by simp at hD;omega) z rfl rfl),_,trimmed r,?_,((tF N).drewN nq).putObj z rfl _,dL L.1,?_,?_⟩
  ·rw [← HV.out.2]
   rfl
  ·rw [dC,HV.out.1]
  ·intro a n c he
   simp only [Value.slice.injEq,Option.some.injEq] at he;obtain ⟨rfl,-,-⟩:=he;exact ⟨_,_,(QS (by simp at hD;show w.heap.size+1≠D;omega)).trans t⟩
 case stop =>
  rintro D c f W _ _ h _;exact h.elim
theorem rz (h:Value)(a:List Nat)(d:Nat)(w:World)(ha:Reads .u32 w h a)(g:Limbs a)(na:a.length≤100000)(c:0<d)(f:d<aj) :
 CB 230 #[h,.int .u32 (d:Int)] w fun e m=>∃ v b,e=.returned (.tuple #[v,.int .u32 ((val a % d:Nat):Int)])∧Reads .u32 m v b∧Canon b∧val b=val a / d :=
 (ry h a d w ha g na c f).mono fun _ _ ⟨h1,v,b,i,j,k,l,_⟩=>⟨h1,v,b,i,j,k,l⟩
end Go.Proofs.YtagjhmodblifbaaGreatDoor
namespace Go.Proofs.YtagjhmodblifbaaGreatDoor
open Go.Proofs.Tryz
open Go Go.RowKit Go.Shelf
theorem zD (j k:Value)(a c:List Nat)(w:World)(ha:Reads .u32 w j a)(i:Reads .u32 w k c)(f:Canon a)(g:Canon c)(la:a.length≤100000)(h:val a<val c) :
 CB 245 #[j,k] w fun e q=>∃ r,e=.returned (.tuple #[vZ,r])∧Reads .u32 q r a:=by
 have b:dS (val a:Int) (val c:Int)=-1:=by unfold dS;split <;> omega
 obtain ⟨s,u,rfl,y,z⟩:=ha.form;obtain ⟨t,x,rfl,o,p⟩:=i.form;have l:=Qa b;clear b h;go_enter func245,ntmps245
 go_wp2_with (first | (go_at_call 150;refine (gI _ _ a c _ ha i f g (by omega)).mono ?_;rintro e w1 ⟨d,rfl⟩;rw [l.out]) | (go_at_call 260;refine (FQ _ a _ (ha.below d) (by omega)).mono ?_;rintro e A ⟨m,v,rfl,n⟩))
 exact bodyPost_ret (v:=.tuple #[vZ,v]) (by simp [results,results245,go_sem]) rfl ⟨d.trans (m.mono d.size),v,rfl,n⟩
theorem Cg (u y:Value)(a:List Nat)(d:Nat)(w:World)(ha:Reads .u32 w u a)(j:Reads .u32 w y [d])(h:Canon a)(c:Canon [d])(la:a.length≤100000)(M:d≤val a) :
 CB 245 #[u,y] w fun e z=>∃ q r f rs,e=.returned (.tuple #[q,r])∧Reads .u32 z q f∧Reads .u32 z r rs∧Canon f∧Canon rs∧val f=val a / d∧val rs=val a % d:=by
 have n:(0:Int)≤dS (val a:Int) (val [d]:Int):=by
  have:val [d]=d:=by simp [val]
  rw [this];unfold dS;(repeat' split) <;> omega
 have U:d≠0:=by have:=iK c (by simp);simpa using this
 obtain ⟨B,C,rfl,S,T⟩:=ha.form;obtain ⟨k,D,rfl,J,N⟩:=j.form
 have L:∀ W,(Instr.indexAt 22 (.slice k 1 D) (vI 0)).run prog W=.ok (.pointer (some (kX k 0))) W:=fun W=>j.index aG bZ 0 .i64 W (by simp)
 have g:d<aj:=c.1 d (by simp);generalize b:dS (val a:Int) (val [d]:Int)=cv at n
 have s:=fun W l=>rz (.slice B a.length C) a d W (ha.below l) h.1 (by omega) (by omega) g
 obtain ⟨r,hr⟩:∃ r,val a % d=r:=⟨_,rfl⟩
 rw [hr] at s
 have O:r<aj:=by rw [← hr];exact Yt (Qy _ (by omega)) g
 have o:Limbs [r]:=by intro x Q;simp at Q;omega
 have A:=Qa b;clear b;go_enter func245,ntmps245
 go_wp2_with (first | (go_at_call 150;refine (gI _ _ a [d] _ ha j h c (by omega)).mono ?_;rintro e w1 ⟨i,rfl⟩;rw [A.out];have m:w1.cell? (kX k 0)=some (.int .u32 (d:Int)):=by simpa using (j.below i).cell 0 (by simp)) | (go_at_call 230;refine (s _ i).mono ?_;rintro e R ⟨E,v,f,rfl,F,G,H⟩) | (go_at_call 188;refine (jf _ [r] _ (af.reads (xs:=[r]) (af.new R 128 [.int .u32 r]) 1 1 rfl (by simp) (by simp [maxLen]))).mono ?_;rintro e V ⟨rfl,t,rfl,I⟩))
 have p:=i.trans (E.mono i.size);refine bodyPost_ret (v:=.tuple #[v,t]) (by simp [results,results245,go_sem]) rfl ⟨p.alloc p.size _,v,t,f,trimmed [r],rfl,F.below (dJ _ _),I,G,dL o,H,?_⟩;rw [dC,hr];simp [val]
def qI (W W':World)(xa xb:List Nat)(e:Ending):Prop:=bW W W'∧∃ q r cs rs,e=.returned (.tuple #[q,r])∧Reads .u32 W' q cs∧Reads .u32 W' r rs∧Canon cs∧Canon rs∧val cs=val xa / val xb∧val rs=val xa % val xb
theorem AJ (h i:Value)(a:List Nat)(d:Nat)(w:World)(ha:Reads .u32 w h a)(k:Reads .u32 w i [d])(c:Canon a)(f:Canon [d])(la:a.length≤100000) :
  Calls prog 245 #[h,i] w fun e j=>qI w j a [d] e:=by
 have g:val [d]=d:=by simp [val]
 rcases QK (val a) d with hlt | hge
 ·refine (zD h i a [d] w ha k c f la (by rw [g];exact hlt)).mono ?_
  rintro e j ⟨b,r,rfl,h1⟩;exact ⟨b,_,r,[],a,rfl,Reads.nil _ _,h1,iU,c,by rw [g,QR hlt];rfl,by rw [g,Jo hlt]⟩
 ·refine (Cg h i a d w ha k c f la hge).mono ?_
  rintro e j ⟨b,q,r,l,rs,rfl,h1,m,n,o,p,s⟩;exact ⟨b,q,r,l,rs,rfl,h1,m,n,o,by rw [g,p],by rw [g,s]⟩
structure qH (w:World) (na nb:Bool) (va vb:Value) (W:World):Prop where
 below:bW w W
 size:w.heap.size+4≤W.heap.size
 a:af W w.heap.size 24 [.bool na,va]
 b:af W (w.heap.size+1) 24 [.bool nb,vb]
 q:∃ n a m c,af W (w.heap.size+1+1) 24 (lN n a m c)
 r:∃ n a m c,af W (w.heap.size+1+1+1) 24 (lN n a m c)
theorem qH.start (w:World)(na nb:Bool)(a b:Value) :
  qH w na nb a b ((((w.alloc (.cells #[.bool na,a] 24)).alloc (.cells #[.bool nb,b] 24)).alloc (.cells #[vF,vZ] 24)).alloc (.cells #[vF,vZ] 24)):=by
 have c:=af.new (w.alloc (.cells #[.bool na,a] 24)) 24 [.bool nb,b];have d:=af.new ((w.alloc (.cells #[.bool na,a] 24)).alloc (.cells #[.bool nb,b] 24)) 24 (lN false none 0 0);have f:=af.new (((w.alloc (.cells #[.bool na,a] 24)).alloc (.cells #[.bool nb,b] 24)).alloc (.cells #[vF,vZ] 24)) 24 (lN false none 0 0);simp only [Qh] at c d f
 exact ⟨(((dJ w _).alloc (by simp) _).alloc (by simp;omega) _).alloc (by simp;omega) _,by simp,
  (((af.new w 24 [.bool na,a]).alloc _).alloc _).alloc _,(c.alloc _).alloc _,⟨false,none,0,0,d.alloc _⟩,⟨false,none,0,0,f⟩⟩
theorem qH.step {w W f:World}{na nb:Bool}{g i:Value}(h:qH w na nb g i W)(d:bW W f):qH w na nb g i f:=by
 obtain ⟨n,a,m,c,l⟩:=h.q;obtain ⟨p,j,o,k,hr⟩:=h.r;exact ⟨h.below.trans (d.mono (by have:=h.size;omega)),Qd h.size d.size,h.a.below d,h.b.below d,⟨n,a,m,c,l.below d⟩,⟨p,j,o,k,hr.below d⟩⟩
theorem qH.drew {w W:World}{na nb:Bool}{c d:Value}(h:qH w na nb c d W):qH w na nb c d W.drew:=⟨h.below.drew,h.size,h.a,h.b,h.q,h.r⟩
theorem qH.cells {w W:World}{na nb:Bool}{c d:Value}(h:qH w na nb c d W):W.cell? ⟨w.heap.size,0,none⟩=some (.bool na)∧W.cell? ⟨w.heap.size,1,none⟩=some c∧W.cell? ⟨w.heap.size+1,0,none⟩=some (.bool nb)∧W.cell? ⟨w.heap.size+1,1,none⟩=some d :=
 ⟨h.a.cell 0,h.a.cell 1,h.b.cell 0,h.b.cell 1⟩
theorem qH.outs {w W:World}{na nb:Bool}{j k:Value}(h:qH w na nb j k W):∃ n a m c i d g f,W.cell? ⟨w.heap.size+1+1,0,none⟩=some (.bool n)∧W.cell? ⟨w.heap.size+1+1,1,none⟩=some (.slice a m c)∧W.cell? ⟨w.heap.size+1+1+1,0,none⟩=some (.bool i)∧W.cell? ⟨w.heap.size+1+1+1,1,none⟩=some (.slice d g f)
  ∧ W.frozen? ⟨w.heap.size+1+1,0,none⟩=false∧W.frozen? ⟨w.heap.size+1+1,1,none⟩=false∧W.frozen? ⟨w.heap.size+1+1+1,0,none⟩=false∧W.frozen? ⟨w.heap.size+1+1+1,1,none⟩=false:=by
 obtain ⟨n,a,m,c,b⟩:=h.q;obtain ⟨i,d,g,f,hr⟩:=h.r;exact ⟨n,a,m,c,i,d,g,f,b.cell 0,b.cell 1,hr.cell 0,hr.cell 1,b.frozen 0,b.frozen 1,hr.frozen 0,hr.frozen 1⟩
theorem qH.MP {w W:World}{na nb:Bool}{d f:Value}(h:qH w na nb d f W)(x:Bool)(a:Option Addr)(m c:Nat):qH w na nb d f ((W.setCell ⟨w.heap.size+1+1,0,none⟩ (.bool x)).setCell ⟨w.heap.size+1+1,1,none⟩ (.slice a m c)):=by
 obtain ⟨n0,n,p,o,j⟩:=h.q;obtain ⟨l,g,k,i,hr⟩:=h.r
 exact ⟨(h.below.setCell (by simp;omega) _).setCell (by simp;omega) _,by simpa using h.size,(h.a.other (by simp;omega) _).other (by simp;omega) _,(h.b.other (by simp) _).other (by simp) _,
  ⟨x,a,m,c,(j.set 0 (.bool x)).set 1 (.slice a m c)⟩,⟨l,g,k,i,(hr.other (by simp) _).other (by simp) _⟩⟩
theorem qH.MS {w W:World}{na nb:Bool}{d f:Value}(h:qH w na nb d f W)(x:Bool)(a:Option Addr)(m c:Nat):qH w na nb d f ((W.setCell ⟨w.heap.size+1+1+1,0,none⟩ (.bool x)).setCell ⟨w.heap.size+1+1+1,1,none⟩ (.slice a m c)):=by
 obtain ⟨n0,g,k,i,j⟩:=h.q;obtain ⟨p,l,o,n,hr⟩:=h.r
 exact ⟨(h.below.setCell (by simp;omega) _).setCell (by simp;omega) _,by simpa using h.size,(h.a.other (by simp;omega) _).other (by simp;omega) _,(h.b.other (by simp) _).other (by simp) _,
  ⟨n0,g,k,i,(j.other (by simp) _).other (by simp) _⟩,⟨x,a,m,c,(hr.set 0 (.bool x)).set 1 (.slice a m c)⟩⟩
def uy (W W':World):Prop:=∀ v xs,Reads .u32 W v xs→Reads .u32 W' v xs
@[reducible] def Lh (w w1:World) (na nb:Bool) (va vb:Value) (W:World):Prop:=W.cell? ⟨w.heap.size,0,none⟩=some (.bool na)∧W.cell? ⟨w.heap.size,1,none⟩=some va∧W.cell? ⟨w.heap.size+1,0,none⟩=some (.bool nb)∧W.cell? ⟨w.heap.size+1,1,none⟩=some vb∧qH w na nb va vb W∧uy w1 W
theorem Am {w w1 W:World}{na nb:Bool}{a b:Value}(h:qH w na nb a b W)(c:uy w1 W):Lh w w1 na nb a b W:=⟨h.cells.1,h.cells.2.1,h.cells.2.2.1,h.cells.2.2.2,h,c⟩
theorem vQ {w w1 W a:World}{na nb:Bool}{c d:Value}(h:qH w na nb c d W)(f:uy w1 W)(b:bW W a):Lh w w1 na nb c d a:=Am (h.step b) fun v xs g=>(f v xs g).below b
theorem qP {w w1 W:World}{na nb:Bool}{b d:Value}(h:qH w na nb b d W)(f:uy w1 W)(x:Bool)(a:Option Addr)(m c:Nat):Lh w w1 na nb b d ((W.setCell ⟨w.heap.size+1+1,0,none⟩ (.bool x)).setCell ⟨w.heap.size+1+1,1,none⟩ (.slice a m c)):=by
 obtain ⟨n0,k,p,n,q,l,m1,o,i,j,r,s,-⟩:=h.outs
 exact Am (h.MP x a m c) fun v xs g=>bf (f v xs g) i j _ _
theorem qQ {w w1 W:World}{na nb:Bool}{b d:Value}(h:qH w na nb b d W)(f:uy w1 W)(x:Bool)(a:Option Addr)(m c:Nat):Lh w w1 na nb b d ((W.setCell ⟨w.heap.size+1+1+1,0,none⟩ (.bool x)).setCell ⟨w.heap.size+1+1+1,1,none⟩ (.slice a m c)):=by
 obtain ⟨n0,k,p,n,q,l,m1,o,r,s,i,j,-⟩:=h.outs
 exact Am (h.MS x a m c) fun v xs g=>bf (f v xs g) i j _ _
theorem lT {W:World}{b:Nat}{f g c2 d:Value}(h:W.cell? ⟨b,0,none⟩=some f)(i:W.cell? ⟨b,1,none⟩=some g)(j:W.cell? ⟨b+1,0,none⟩=some c2)(k:W.cell? ⟨b+1,1,none⟩=some d)(x y a c:Value) :
  ((((W.setCell ⟨b,0,none⟩ x).setCell ⟨b,1,none⟩ y).setCell ⟨b+1,0,none⟩ a).setCell ⟨b+1,1,none⟩ c).cell? ⟨b,0,none⟩=some x∧((((W.setCell ⟨b,0,none⟩ x).setCell ⟨b,1,none⟩ y).setCell ⟨b+1,0,none⟩ a).setCell ⟨b+1,1,none⟩ c).cell? ⟨b,1,none⟩=some y
  ∧ ((((W.setCell ⟨b,0,none⟩ x).setCell ⟨b,1,none⟩ y).setCell ⟨b+1,0,none⟩ a).setCell ⟨b+1,1,none⟩ c).cell? ⟨b+1,0,none⟩=some a∧((((W.setCell ⟨b,0,none⟩ x).setCell ⟨b,1,none⟩ y).setCell ⟨b+1,0,none⟩ a).setCell ⟨b+1,1,none⟩ c).cell? ⟨b+1,1,none⟩=some c:=by
 obtain ⟨n,o⟩:=bA h i x y
 have l:((W.setCell ⟨b,0,none⟩ x).setCell ⟨b,1,none⟩ y).cell? ⟨b+1,0,none⟩=some c2:=by rw [Jl _ _ _ _ (by simp),Jl _ _ _ _ (by simp)];exact j
 have m:((W.setCell ⟨b,0,none⟩ x).setCell ⟨b,1,none⟩ y).cell? ⟨b+1,1,none⟩=some d:=by rw [Jl _ _ _ _ (by simp),Jl _ _ _ _ (by simp)];exact k
 obtain ⟨p,q⟩:=bA l m a c;refine ⟨?_,?_,p,q⟩
 ·rw [Jl _ _ _ _ (by simp),Jl _ _ _ _ (by simp)];exact n
 ·rw [Jl _ _ _ _ (by simp),Jl _ _ _ _ (by simp)];exact o
theorem AO (na:Bool)(i j:Value)(d f:List Nat)(w:World)(ha:Reads .u32 w i d)(J:Reads .u32 w j f)
  (hdiv:∀ W,bW w W→Calls prog 245 #[i,j] W fun e D=>qI W D d f e) :
  Calls prog 220 #[.agg #[.bool na,i],.agg #[.bool na,j]] w fun e k=>bW w k∧∃ q r c rs,e=.returned (.tuple #[.agg #[vF,q],.agg #[.bool (na&&decide (0<rs.length)),r]])∧Reads .u32 k q c∧Reads .u32 k r rs∧Canon c∧Canon rs∧val c=val d / val f∧val rs=val d % val f:=by
 have z:=qH.start w na na i j;obtain ⟨n,t,rfl,fA,gy⟩:=ha.form;obtain ⟨o,u,rfl,L,O⟩:=J.form;have l:=Qa z;clear z;go_enter func220,ntmps220
 go_wp2_with (first | (go_at_call 245;refine (hdiv _ l.out.below).mono ?_;rintro e w1 ⟨m,q,r,c,rs,rfl,h1,B,F,G,H,I⟩;have A:=l.out.step m;clear m;obtain ⟨p,x,rfl,M,Q⟩:=h1.form;obtain ⟨s,y,rfl,N,R⟩:=B.form;obtain ⟨X,Y,Z,p4⟩:=A.cells))
 go_region_held3 (fun W=>W.cell? ⟨w.heap.size,0,none⟩=some (.bool na)∧W.cell? ⟨w.heap.size,1,none⟩=some (.slice n d.length t)∧W.cell? ⟨w.heap.size+1,0,none⟩=some (.bool na)∧W.cell? ⟨w.heap.size+1,1,none⟩=some (.slice o f.length u)∧qH w na na (.slice n d.length t) (.slice o f.length u) W∧uy w1 W)
  (first | exact ⟨X,Y,Z,p4,A.drew,fun _ _ h=>h⟩ | (go_split_ands;with_reducible refine qP ?_ ?_ _ _ _ _ <;> assumption) | (go_split_ands;with_reducible refine qQ ?_ ?_ _ _ _ _ <;> assumption) | (go_split_ands;exact vQ (by assumption) (by assumption) (by assumption)))
  (first | (go_at_call 184;go_split_ands;refine (dK _ _ _ _ _).mono ?_;rintro e w2 ⟨E,rfl⟩;obtain ⟨n0,a0,m0,c0,n9,a9,m9,c9,S,T,U,V,o5,o6,o7,o8⟩:=qH.outs (qH.step (by assumption) E)))
 rename_i C;obtain ⟨s1,s2,s3,s4⟩:=lT (b:=w.heap.size+1+1) S T U V vF (.slice p c.length x) (.bool (na&&decide (0<rs.length))) (.slice s rs.length y);have g:=C.2.2.2.2.1.below;have a:=C.2.2.2.2.2;go_wp2
 exact bodyPost_ret (v:=.tuple #[vN false p c.length x,vN (na&&decide (0<rs.length)) s rs.length y]) (by simp [results,results220,go_sem,loadCellsFrom,s1,s2,s3,s4]) rfl
  ⟨g,_,_,c,rs,rfl,a _ _ h1,a _ _ B,F,G,H,I⟩
theorem yZ (na:Bool)(i j:Value)(d f:List Nat)(w:World)(ha:Reads .u32 w i d)(J:Reads .u32 w j f)(hz:val d % val f=0)
  (hdiv:∀ W,bW w W→Calls prog 245 #[i,j] W fun e E=>qI W E d f e) :
  Calls prog 220 #[.agg #[.bool na,i],.agg #[.bool (!na),j]] w fun e k=>bW w k∧∃ q r c rs,e=.returned (.tuple #[.agg #[.bool (decide (0<c.length)),q],.agg #[.bool ((!na)&&decide (0<rs.length)),r]])∧Reads .u32 k q c∧Reads .u32 k r rs∧Canon c∧Canon rs∧val c=val d / val f∧val rs=val d % val f:=by
 have z:=qH.start w na (!na) i j;obtain ⟨n,t,rfl,fA,gy⟩:=ha.form;obtain ⟨o,u,rfl,L,O⟩:=J.form;have l:=Qa z;clear z;go_enter func220,ntmps220
 go_wp2_with (first | (go_at_call 245;refine (hdiv _ l.out.below).mono ?_;rintro e w1 ⟨m,q,r,c,rs,rfl,h1,B,G,C,H,I⟩;have A:=l.out.step m;clear m;obtain ⟨p,x,rfl,M,Q⟩:=h1.form;obtain ⟨s,y,rfl,N,R⟩:=B.form;obtain ⟨X,Y,Z,p4⟩:=A.cells;obtain rfl:rs=[]:=JP (by have:=dn C;omega)))
 go_region_held3 (fun W=>W.cell? ⟨w.heap.size,0,none⟩=some (.bool na)∧W.cell? ⟨w.heap.size,1,none⟩=some (.slice n d.length t)∧W.cell? ⟨w.heap.size+1,0,none⟩=some (.bool (!na))∧W.cell? ⟨w.heap.size+1,1,none⟩=some (.slice o f.length u)∧qH w na (!na) (.slice n d.length t) (.slice o f.length u) W∧uy w1 W)
  (first | exact ⟨X,Y,Z,p4,A.drew,fun _ _ h=>h⟩ | (go_split_ands;with_reducible refine qP ?_ ?_ _ _ _ _ <;> assumption) | (go_split_ands;with_reducible refine qQ ?_ ?_ _ _ _ _ <;> assumption) | (go_split_ands;exact vQ (by assumption) (by assumption) (by assumption)))
  (first | (go_at_call 184;go_split_ands;refine (dK _ _ _ _ _).mono ?_;rintro e w2 ⟨F,rfl⟩;obtain ⟨n0,a0,m0,c0,n9,a9,m9,c9,S,T,U,V,o5,o6,o7,o8⟩:=qH.outs (qH.step (by assumption) F)))
 rename_i D;obtain ⟨s1,s2,s3,s4⟩:=lT (b:=w.heap.size+1+1) S T U V (.bool (decide (0<c.length))) (.slice p c.length x) vF (.slice s 0 y);have g:=D.2.2.2.2.1.below;have a:=D.2.2.2.2.2;go_wp2
 exact bodyPost_ret (v:=.tuple #[vN (decide (0<c.length)) p c.length x,vN false s 0 y]) (by simp [results,results220,go_sem,loadCellsFrom,s1,s2,s3,s4]) rfl
  ⟨g,_,_,c,[],by simp,a _ _ h1,a _ _ B,G,C,H,I⟩
theorem AP (na:Bool)(p s:Value)(i a:List Nat)(w:World)(ha:Reads .u32 w p i)(hb:Reads .u32 w s a)(B:Canon i)(m:Canon a)(la:i.length≤90000)(lb:a.length≤90000)(A:0<val a)(hz:val i % val a≠0)
  (hdiv:∀ W,bW w W→Calls prog 245 #[p,s] W fun e W'=>qI W W' i a e) :
  Calls prog 220 #[.agg #[.bool na,p],.agg #[.bool (!na),s]] w fun e I=>bW w I∧∃ q r j rs,e=.returned (.tuple #[.agg #[.bool (decide (0<j.length)),q],.agg #[.bool ((!na)&&decide (0<rs.length)),r]])∧Reads .u32 I q j∧Reads .u32 I r rs∧Canon j∧Canon rs∧val j=val i / val a+1∧val rs=val a - val i % val a:=by
 have V:=qH.start w na (!na) p s;obtain ⟨O,T,rfl,fA,gy⟩:=ha.form;obtain ⟨Q,U,rfl,a4,ah⟩:=hb.form;have J:=Qa V;clear V;go_enter func220,ntmps220
 go_wp2_with (first | (go_at_call 245;refine (hdiv _ J.out.below).mono ?_;rintro e w1 ⟨N,q,r,j,rs,rfl,h1,h2,h3,y,h5,z⟩;have X:=J.out.step N;clear N;obtain ⟨aq,cq,rfl,a8,ai⟩:=h1.form;obtain ⟨ar,cr,rfl,ad,aj⟩:=h2.form;obtain ⟨E,F,G,H⟩:=X.cells;have ak:0<rs.length:=(dn y).1 (by rw [z];exact Nat.pos_of_ne_zero hz);have o:val rs≤val a:=(by rw [z];exact Ju (Qy _ A));have D:rs.length≤a.length:=bE m y o;have C:j.length≤100000:=(Qd (bE B h3 (by rw [h5];exact Jv _ _)) (by omega))) | (go_at_call 226;refine (uC _).mono ?_;rintro e w5 ⟨d,v5,rfl,Z⟩;obtain ⟨a5,c5,rfl,a1,ae⟩:=Z.form) | (go_at_call 185;go_loud (refine (nY _ _ j [1] _ (h1.below d) Z h3.1 (by intro x hx;simp at hx;subst hx;decide) C (by simp)).mono ?_);rintro e w6 ⟨k,v6,c,rfl,g6,k6,e6⟩;obtain ⟨L,R,rfl,a2,af⟩:=g6.form;have t:=(X.step d).step k;obtain ⟨E,F,G,H⟩:=t.cells) | (go_at_call 186;go_loud (refine (pI _ _ a rs _ (hb.below t.below) (h2.below (d.trans (k.mono d.size))) m.1 y.1 (by omega) D o).mono ?_);rintro e w7 ⟨l,v7,g,rfl,g7,k7,e7⟩;obtain ⟨M,S,rfl,a3,ag⟩:=g7.form;have Y:=t.step l;obtain ⟨E,F,G,H⟩:=Y.cells;have u:=g6.below l;clear d k l))
 go_region_held3 (fun W=>W.cell? ⟨w.heap.size,0,none⟩=some (.bool na)∧W.cell? ⟨w.heap.size,1,none⟩=some (.slice O i.length T)∧W.cell? ⟨w.heap.size+1,0,none⟩=some (.bool (!na))∧W.cell? ⟨w.heap.size+1,1,none⟩=some (.slice Q a.length U)∧qH w na (!na) (.slice O i.length T) (.slice Q a.length U) W∧uy w7 W)
  (first | exact ⟨E,F,G,H,Y.drew,fun _ _ h=>h⟩ | (go_split_ands;with_reducible refine qP ?_ ?_ _ _ _ _ <;> assumption) | (go_split_ands;with_reducible refine qQ ?_ ?_ _ _ _ _ <;> assumption) | (go_split_ands;exact vQ (by assumption) (by assumption) (by assumption)))
  (first | (go_at_call 184;go_split_ands;refine (dK _ _ _ _ _).mono ?_;rintro e w2 ⟨dz,rfl⟩;obtain ⟨n0,a0,m0,c0,n9,a9,m9,c9,o1,o2,o3,o4,o5,o6,o7,o8⟩:=qH.outs (qH.step (by assumption) dz)))
 rename_i hT;obtain ⟨s1,s2,s3,s4⟩:=lT (b:=w.heap.size+1+1) o1 o2 o3 o4 (.bool (decide (0<c.length))) (.slice L c.length R) (.bool ((!na)&&decide (0<g.length))) (.slice M g.length S);have n:=hT.2.2.2.2.1.below;have f:=hT.2.2.2.2.2;go_wp2
 exact bodyPost_ret (v:=.tuple #[vN (decide (0<c.length)) L c.length R,vN ((!na)&&decide (0<g.length)) M g.length S]) (by simp [results,results220,go_sem,loadCellsFrom,s1,s2,s3,s4]) rfl
  ⟨n,_,_,c,g,rfl,f _ _ u,f _ _ g7,k6,k7,by rw [e6,h5];simp [val],by rw [e7,z]⟩
theorem qR {i j q r:Int}(h:i=j*q+r)(hr:(0≤r∧r<j)∨(j<r∧r≤0)):i.fdiv j=q∧i.fmod j=r:=by
 have d:i.fdiv j=q:=by
  rcases hr with ⟨h1,c⟩ | ⟨h1,c⟩
  ·rw [Zq _ (by omega)]
   exact ((Int.ediv_emod_unique (a:=i) (b:=j) (r:=r) (q:=q) (by omega)).2 ⟨by omega,h1,c⟩).1
  ·rw [← YW,Zq _ (by omega)]
   exact ((Int.ediv_emod_unique (a:=-i) (b:=-j) (r:=-r) (q:=q) (by omega)).2 ⟨by rw [h,Yu];omega,by omega,by omega⟩).1
 refine ⟨d,?_⟩;rw [Int.fmod_def,d];omega
theorem lu (n:Bool)(A B:Nat)(b:0<B):(bX n A).fdiv (bX n B)=bX false (A / B)∧(bX n A).fmod (bX n B)=bX n (A % B):=by
 have h1:=Jq A B;have c:=Qy A b
 have a:(A:Int)=(B:Int)*((A / B:Nat):Int)+((A % B:Nat):Int):=by exact_mod_cast h1.symm
 generalize A / B=Q at *;generalize A % B=R at *;apply qR
 ·cases n <;> simp only [bX,if_true,Zr,if_false]
  ·exact a
  ·rw [Yu];omega
 ·cases n <;> simp only [bX,if_true,Zr,if_false]
  ·left;omega
  ·right;omega
theorem jL (n:Bool)(A B:Nat)(c:0<B)(a:A % B=0):(bX n A).fdiv (bX (!n) B)=bX true (A / B)∧(bX n A).fmod (bX (!n) B)=0:=by
 have h1:=Jq A B
 have b:(A:Int)=(B:Int)*((A / B:Nat):Int):=by rw [a] at h1;exact_mod_cast h1.symm
 generalize A / B=Q at *;apply qR
 ·cases n <;> simp only [bX,if_true,Zr,if_false,Zd,Ze]
  ·rw [YX];omega
  ·rw [Zf];omega
 ·cases n <;> simp only [bX,if_true,Zr,if_false,Zd,Ze]
  ·right;omega
  ·left;omega
theorem lv (n:Bool)(A B:Nat)(b:0<B)(f:A % B≠0):(bX n A).fdiv (bX (!n) B)=bX true (A / B+1)∧(bX n A).fmod (bX (!n) B)=bX (!n) (B - A % B):=by
 have h1:=Jq A B;have c:=Qy A b
 have d:(A:Int)=(B:Int)*((A / B:Nat):Int)+((A % B:Nat):Int):=by exact_mod_cast h1.symm
 generalize A / B=Q at *;generalize A % B=R at *
 have a:((B - R:Nat):Int)=B - R:=by omega
 apply qR
 ·cases n <;> simp only [bX,if_true,Zr,if_false,Zd,Ze,a,ZJ,Int.natCast_one]
  ·rw [YX,Int.mul_add];omega
  ·rw [Zf,Int.mul_add];omega
 ·cases n <;> simp only [bX,if_true,Zr,if_false,Zd,Ze,a]
  ·right;omega
  ·left;omega
theorem Ch (a b:Value)(i j:Int)(w:World)(ha:ak w a i)(F:ak w b j)(hi:i.natAbs<aj^90000)(C:j.natAbs<aj^90000)(B:j≠0)
  (hdiv:∀ l m d c,Canon d→Canon c→val d=i.natAbs→val c=j.natAbs→Reads .u32 w l d→Reads .u32 w m c→∀ W,bW w W→Calls prog 245 #[l,m] W fun e E=>qI W E d c e) :
  Calls prog 220 #[a,b] w fun e n=>bW w n∧∃ q r,e=.returned (.tuple #[q,r])∧ak n q (i.fdiv j)∧ak n r (i.fmod j):=by
 obtain ⟨na,l,d,rfl,g,z,G,rfl⟩:=ha;obtain ⟨nb,m,c,rfl,h,k,H,rfl⟩:=F;rw [bM] at hi C;have la:=aA z hi;have lb:=aA k C;have x:0<val c:=Nat.pos_of_ne_zero (fun e=>B (by rw [e];cases nb <;> rfl));have A:=hdiv l m d c z k (bM _ _).symm (bM _ _).symm g h
 by_cases D:nb=na
 ·subst D
  obtain ⟨m1,m2⟩:=lu nb (val d) (val c) x;refine (AO nb l m d c w g h A).mono ?_;rintro e n ⟨f,q,r,y,rs,rfl,h1,o,p,s,t,u⟩;exact ⟨f,_,_,rfl,⟨false,q,y,rfl,h1,p,rfl,by rw [m1,t]⟩,dm nb o s (by rw [m2,u])⟩
 ·obtain rfl:nb=!na:=by cases na <;> cases nb <;> first | rfl | exact absurd rfl D
  by_cases v:val d % val c=0
  ·obtain ⟨m1,m2⟩:=jL na (val d) (val c) x v
   refine (yZ na l m d c w g h v A).mono ?_;rintro e n ⟨f,q,r,y,rs,rfl,h1,o,p,s,t,u⟩;exact ⟨f,_,_,rfl,by simpa using dm true h1 p (i:=_) (by rw [m1,t]),dm (!na) o s (by rw [m2,u,v];cases na <;> rfl)⟩
  ·obtain ⟨m1,m2⟩:=lv na (val d) (val c) x v
   refine (AP na l m d c w g h z k la lb x v A).mono ?_;rintro e n ⟨f,q,r,y,rs,rfl,h1,o,p,s,t,u⟩;exact ⟨f,_,_,rfl,by simpa using dm true h1 p (i:=_) (by rw [m1,t]),dm (!na) o s (by rw [m2,u])⟩
theorem Lt (B:Nat)(na nb:Bool)(b d:Option Addr)(c f:Nat)(a g:List Nat)(r0:Bool)(r1:Option Addr)(r2 r3:Nat)(p:Bool)(q:Option Addr)(r s:Nat)(w:World)(i:af w B 24 (lN na b a.length c))(j:af w (B+1) 24 (lN nb d g.length f))
  (_hQ:af w (B+2) 24 (lN r0 r1 r2 r3)) (_hR:af w (B+3) 24 (lN p q r s)) (ha:Reads .u32 w (.slice b a.length c) a) (h:Limbs a) (o:au na a=false) :
  Calls prog 219 #[vP B,vP (B+1),vP (B+2),vP (B+3)] w fun e t=>bW w t∧e=pK 1:=by
 obtain ⟨u,v⟩:=aQ i;obtain ⟨x,y⟩:=aQ j;have k:=af.new w 24 [.bool na,.slice b a.length c,.bool nb,.slice d g.length f];have l:=dJ w (.cells #[.bool na,.slice b a.length c,.bool nb,.slice d g.length f] 24);go_enter func219,ntmps219
 go_wp2_with (go_at_call 182;refine (xX _ na nb b d c f a g _ k (ha.below l) h o).mono ?_;rintro e w1 ⟨m,rfl⟩;have n:=l.trans (m.mono (by simp)))
 exact ⟨rfl,n,rfl⟩
theorem FV (B:Nat)(na nb:Bool)(c d:Option Addr)(f g:Nat)(a b:List Nat)(r0:Bool)(r1:Option Addr)(r2 r3:Nat)(s:Bool)(t:Option Addr)(u v:Nat)(w:World)(k:af w B 24 (lN na c a.length f))(l:af w (B+1) 24 (lN nb d b.length g))
  (_hQ:af w (B+2) 24 (lN r0 r1 r2 r3)) (_hR:af w (B+3) 24 (lN s t u v)) (ha:Reads .u32 w (.slice c a.length f) a) (i:Limbs a) (p:au na a=true) (r:Reads .u32 w (.slice d b.length g) b) (j:Limbs b) (q:au nb b=false) :
  Calls prog 219 #[vP B,vP (B+1),vP (B+2),vP (B+3)] w fun e x=>bW w x∧e=pK 1:=by
 obtain ⟨y,z⟩:=aQ k;obtain ⟨A,C⟩:=aQ l;have m:=af.new w 24 [.bool na,.slice c a.length f,.bool nb,.slice d b.length g];have h:=dJ w (.cells #[.bool na,.slice c a.length f,.bool nb,.slice d b.length g] 24);go_enter func219,ntmps219
 go_wp2_with (go_at_call 182;refine (uN _ na nb c d f g a b _ m (ha.below h) i p (r.below h) j q).mono ?_;rintro e w1 ⟨n,rfl⟩;have o:=h.trans (n.mono (by simp)))
 exact ⟨rfl,o,rfl⟩
theorem FW (B:Nat)(na nb:Bool)(f g:Option Addr)(h i:Nat)(b a:List Nat)(r0:Bool)(r1:Option Addr)(r2 r3:Nat)(z:Bool)(A:Option Addr)(C D:Nat)(w:World)(c:af w B 24 (lN na f b.length h))(d:af w (B+1) 24 (lN nb g a.length i))
  (_hQ:af w (B+2) 24 (lN r0 r1 r2 r3)) (_hR:af w (B+3) 24 (lN z A C D)) (ha:Reads .u32 w (.slice f b.length h) b) (t:Reads .u32 w (.slice g a.length i) a) (l:Limbs b) (m:Limbs a) (r:au na b=true) (s:au nb a=true) (o:a.length=0) :
  Calls prog 219 #[vP B,vP (B+1),vP (B+2),vP (B+3)] w fun e E=>bW w E∧e=pK 20:=by
 obtain ⟨F,G⟩:=aQ c;obtain ⟨H,I⟩:=aQ d;have n:=af.new w 24 [.bool na,.slice f b.length h,.bool nb,.slice g a.length i];have k:=dJ w (.cells #[.bool na,.slice f b.length h,.bool nb,.slice g a.length i] 24);have p:=Qa o;clear o;go_enter func219,ntmps219
 go_wp2_with (first | (go_at_call 182;refine (nK _ na nb f g h i b a _ n (ha.below k) l r (t.below k) m s).mono ?_;rintro e w1 ⟨q,rfl⟩;have j:=k.trans (q.mono (by simp));have u:=(c.below j).cell 0;have v:=(c.below j).cell 1;have x:=(d.below j).cell 0;have y:=(d.below j).cell 1;simp only [Qc,Qe] at u v x y) | (go_at_call 106;refine (bD _ _ _ (by simp [p.out])).mono ?_;rintro e J ⟨rfl,rfl⟩))
 exact ⟨rfl,j,rfl⟩
theorem Lu (B:Nat)(na nb:Bool)(o s:Option Addr)(t u:Nat)(f d:List Nat)(r0:Bool)(r1:Option Addr)(r2 r3:Nat)(t0:Bool)(t1:Option Addr)(t2 t3:Nat)(w:World)(j:af w B 24 (lN na o f.length t))(l:af w (B+1) 24 (lN nb s d.length u))
  (hQ:af w (B+2) 24 (lN r0 r1 r2 r3)) (hR:af w (B+3) 24 (lN t0 t1 t2 t3)) (ha:Reads .u32 w (.slice o f.length t) f) (hb:Reads .u32 w (.slice s d.length u) d) (J:Limbs f) (L:Limbs d) (fa:au na f=true) (fb:au nb d=true) (hz:d.length≠0) (q r:Int)
  (M:∀ W,bW w W→Calls prog 220 #[vN na o f.length t,vN nb s d.length u] W fun e H=>bW W H∧∃ R S,e=.returned (.tuple #[R,S])∧ak H R q∧ak H S r) :
  Calls prog 219 #[vP B,vP (B+1),vP (B+2),vP (B+3)] w fun e D=>e=.returned (.tuple #[])∧dF (fun k=>k=B+2∨k=B+3) w D∧∃ n a m c n' U m' V,af D (B+2) 24 (lN n a m c)∧af D (B+3) 24 (lN n' U m' V)∧ak D (vN n a m c) q∧ak D (vN n' U m' V) r:=by
 obtain ⟨a0,a1⟩:=aQ j;obtain ⟨b0,b1⟩:=aQ l;have Q:=af.new w 24 [.bool na,.slice o f.length t,.bool nb,.slice s d.length u];have I:=dJ w (.cells #[.bool na,.slice o f.length t,.bool nb,.slice s d.length u] 24);go_enter func219,ntmps219
 go_wp2_with (first | (go_at_call 182;refine (nK _ na nb o s t u f d _ Q (ha.below I) J fa (hb.below I) L fb).mono ?_;rintro e w1 ⟨aM,rfl⟩;have i:=I.trans (aM.mono (by simp));have p1:=(j.below i).cell 0;have p2:=(j.below i).cell 1;have p3:=(l.below i).cell 0;have p4:=(l.below i).cell 1;simp only [Qc,Qe] at p1 p2 p3 p4) | (go_at_call 106;refine (aC _ _ _ (by simp;omega)).mono ?_;rintro e w2 ⟨rfl,rfl⟩) | (go_at_call 220;refine (M _ i).mono ?_;rintro e F ⟨eF,R,S,rfl,⟨x,z1,y,rfl,X,k1,l1,m1⟩,⟨n2,z2,G,rfl,Y,k2,l2,m2⟩⟩;have g:=i.trans (eF.mono i.size);obtain ⟨E,z,rfl,-,-⟩:=X.form;obtain ⟨T,c2,rfl,-,-⟩:=Y.form;have A:=hQ.below g;have C:=hR.below g;have o1:=A.cell 0;have o2:=A.cell 1;have o3:=C.cell 0;have o4:=C.cell 1;have o5:=A.frozen 0;have o6:=A.frozen 1;have o7:=C.frozen 0;have o8:=C.frozen 1;simp only [Qc,Qe] at o1 o2 o3 o4))
 go_end0
 have N:((F.setCell ⟨B+2,0,none⟩ (.bool x)).setCell ⟨B+2,1,none⟩ (.slice E y.length z)).cell? ⟨B+3,0,none⟩=some (.bool t0):=by rw [Jl _ _ _ _ (by simp),Jl _ _ _ _ (by simp)];exact o3
 have O:((F.setCell ⟨B+2,0,none⟩ (.bool x)).setCell ⟨B+2,1,none⟩ (.slice E y.length z)).cell? ⟨B+3,1,none⟩=some (.slice t1 t2 t3):=by rw [Jl _ _ _ _ (by simp),Jl _ _ _ _ (by simp)];exact o4
 have Z:∀ v xs,Reads .u32 F v xs→Reads .u32 ((((F.setCell ⟨B+2,0,none⟩ (.bool x)).setCell ⟨B+2,1,none⟩ (.slice E y.length z)).setCell ⟨B+3,0,none⟩ (.bool n2)).setCell ⟨B+3,1,none⟩ (.slice T G.length c2)) v xs :=
  fun v xs h=>bf (b:=B+3) (bf (b:=B+2) h o1 o2 _ _) N O _ _
 exact ⟨rfl,((((((dF.refl (fun k=>k=B+2∨k=B+3) w).aU g).setCell (p:=⟨B+2,0,none⟩) (.inl (.inl rfl)) _).setCell (p:=⟨B+2,1,none⟩) (.inl (.inl rfl)) _).setCell (p:=⟨B+3,0,none⟩) (.inl (.inr rfl)) _).setCell (p:=⟨B+3,1,none⟩) (.inl (.inr rfl)) _),
  x,E,y.length,z,n2,T,G.length,c2,((((A.set 0 (.bool x)).set 1 (.slice E y.length z)).other (by simp) _).other (by simp) _),((((C.other (by simp) _).other (by simp) _).set 0 (.bool n2)).set 1 (.slice T G.length c2)),
  ⟨x,_,y,rfl,Z _ _ X,k1,l1,m1⟩,⟨n2,_,G,rfl,Z _ _ Y,k2,l2,m2⟩⟩
def nu (fa fb:Bool)(lb:Nat)(q r k:Int)(W:World)(v1 v2:Value):Prop :=
 if (fa&&fb)=true then (if lb=0 then k=20∧v1=eQ∧v2=eQ else k=0∧ak W v1 q∧ak W v2 r) else k=1∧v1=eQ∧v2=eQ
theorem nu.keep {a b:Bool}{lb:Nat}{q r k:Int}{W c:World}{g i:Value}(h:nu a b lb q r k W g i)(f:∀ v xs,Reads .u32 W v xs→Reads .u32 c v xs):nu a b lb q r k c g i:=by
 unfold nu at *
 by_cases h1:(a&&b)=true
 ·rw [if_pos h1] at h ⊢
  by_cases d:lb=0
  ·rw [if_pos d] at h ⊢
   exact h
  ·rw [if_neg d] at h ⊢
   exact ⟨h.1,h.2.1.keep f,h.2.2.keep f⟩
 ·rw [if_neg h1] at h ⊢
  exact h
structure oZ (w w1:World) (b:Nat) (n:Bool) (a:Option Addr) (m c:Nat) (n':Bool) (a':Option Addr) (m' c':Nat) (W:World):Prop where
 low:w.heap.size≤b
 below:bW w W
 q:af W b 24 (lN n a m c)
 r:af W (b+1) 24 (lN n' a' m' c')
 keep:uy w1 W
@[reducible] def zA (w w1:World) (b:Nat) (n:Bool) (a:Option Addr) (m c:Nat) (n':Bool) (a':Option Addr) (m' c':Nat) (W:World):Prop :=
 W.cell? ⟨b,0,none⟩=some (.bool n)∧W.cell? ⟨b,1,none⟩=some (.slice a m c)∧W.cell? ⟨b+1,0,none⟩=some (.bool n')∧W.cell? ⟨b+1,1,none⟩=some (.slice a' m' c')∧W.frozen? ⟨b,0,none⟩=false∧W.frozen? ⟨b,1,none⟩=false∧W.frozen? ⟨b+1,0,none⟩=false∧W.frozen? ⟨b+1,1,none⟩=false∧oZ w w1 b n a m c n' a' m' c' W
section
variable {w w1 W:World} {b:Nat} {n:Bool} {a:Option Addr} {m c:Nat} {n':Bool} {a':Option Addr} {m' c':Nat}
theorem rE (h:oZ w w1 b n a m c n' a' m' c' W):zA w w1 b n a m c n' a' m' c' W:=⟨h.q.cell 0,h.q.cell 1,h.r.cell 0,h.r.cell 1,h.q.frozen 0,h.q.frozen 1,h.r.frozen 0,h.r.frozen 1,h⟩
theorem vU (h:oZ w w1 b n a m c n' a' m' c' W):zA w w1 b n a m c n' a' m' c' W.drew:=rE ⟨h.low,h.below.drew,h.q,h.r,h.keep⟩
theorem Ai (h:oZ w w1 b n a m c n' a' m' c' W):zA w w1 b n a m c n' a' m' c' ((W.setCell ⟨b,0,none⟩ (.bool n)).setCell ⟨b,1,none⟩ (.slice a m c)) :=
 rE ⟨h.low,(h.below.setCell h.low _).setCell h.low _,(h.q.set 0 (.bool n)).set 1 (.slice a m c),(h.r.other (by simp) _).other (by simp) _,fun v xs d=>bf (h.keep v xs d) (h.q.cell 0) (h.q.cell 1) _ _⟩
theorem Aj (h:oZ w w1 b n a m c n' a' m' c' W):zA w w1 b n a m c n' a' m' c' ((W.setCell ⟨b+1,0,none⟩ (.bool n')).setCell ⟨b+1,1,none⟩ (.slice a' m' c')) :=
 rE ⟨h.low,(h.below.setCell (by have:=h.low;simp;omega) _).setCell (by have:=h.low;simp;omega) _,(h.q.other (by simp) _).other (by simp) _,(h.r.set 0 (.bool n')).set 1 (.slice a' m' c'),fun v xs d=>bf (h.keep v xs d) (h.r.cell 0) (h.r.cell 1) _ _⟩
theorem Ao (h:oZ w w1 b n a m c n' a' m' c' W.drew):zA w w1 b n a m c n' a' m' c' ((W.setCell ⟨b,0,none⟩ (.bool n)).setCell ⟨b,1,none⟩ (.slice a m c)).drew:=Ai h
theorem Ap (h:oZ w w1 b n a m c n' a' m' c' W.drew):zA w w1 b n a m c n' a' m' c' ((W.setCell ⟨b+1,0,none⟩ (.bool n')).setCell ⟨b+1,1,none⟩ (.slice a' m' c')).drew:=Aj h
end
theorem IA (B:Nat)(na nb:Bool)(o p:Option Addr)(s t:Nat)(f d:List Nat)(w:World)(j:af w B 24 (lN na o f.length s))(l:af w (B+1) 24 (lN nb p d.length t))
  (u:af w (B+2) 24 (lN false none 0 0)) (v:af w (B+3) 24 (lN false none 0 0)) (ha:Reads .u32 w (.slice o f.length s) f)
  (F:Reads .u32 w (.slice p d.length t) d) (i:Limbs f) (x:Limbs d) (q r:Int)
  (H:au na f=true→au nb d=true→d.length≠0→∀ W,bW w W→Calls prog 220 #[vN na o f.length s,vN nb p d.length t] W fun e E=>bW W E∧∃ I J,e=.returned (.tuple #[I,J])∧ak E I q∧ak E J r) :
  Calls prog 219 #[vP B,vP (B+1),vP (B+2),vP (B+3)] w fun e W =>
   ∃ k,(k=0∧e=.returned (.tuple #[])∨e=pK k)∧dF (fun k=>k=B+2∨k=B+3) w W∧∃ n a m c D z C A,af W (B+2) 24 (lN n a m c)∧af W (B+3) 24 (lN D z C A)∧nu (au na f) (au nb d) d.length q r k W (vN n a m c) (vN D z C A):=by
 have g:∀ W,bW w W→dF (fun k=>k=B+2∨k=B+3) w W:=fun W h=>(dF.refl _ w).aU h
 cases hfa:au na f with
 | false =>
  refine (Lt B na nb o p s t f d false none 0 0 false none 0 0 w j l u v ha i hfa).mono ?_;rintro e W ⟨b,rfl⟩;exact ⟨1,.inr rfl,g _ b,false,none,0,0,false,none,0,0,u.below b,v.below b,by simp [nu,eQ]⟩
 | true =>
  cases wX:au nb d with
  | false =>
   refine (FV B na nb o p s t f d false none 0 0 false none 0 0 w j l u v ha i hfa F x wX).mono ?_;rintro e W ⟨b,rfl⟩;exact ⟨1,.inr rfl,g _ b,false,none,0,0,false,none,0,0,u.below b,v.below b,by simp [nu,eQ]⟩
  | true =>
   by_cases y:d.length=0
   ·refine (FW B na nb o p s t f d false none 0 0 false none 0 0 w j l u v ha F i x hfa wX y).mono ?_
    rintro e W ⟨b,rfl⟩;exact ⟨20,.inr rfl,g _ b,false,none,0,0,false,none,0,0,u.below b,v.below b,by simp [nu,eQ,y]⟩
   ·refine (Lu B na nb o p s t f d false none 0 0 false none 0 0 w j l u v ha F i x hfa wX y q r (H hfa wX y)).mono ?_
    rintro e W ⟨rfl,G,n,a,m,c,D,z,C,A,h1,L,M,N⟩;exact ⟨0,.inl ⟨rfl,rfl⟩,G,n,a,m,c,D,z,C,A,h1,L,by simp only [nu,Yr,if_true,if_neg y];exact ⟨trivial,M,N⟩⟩
theorem MU (a b:Value)(na nb:Bool)(f d:List Nat)(w:World)(ha:dx w a na f)(hb:dx w b nb d)(q r:Int)
  (Y:au na f=true→au nb d=true→d.length≠0→∀ W,bW w W→Calls prog 220 #[a,b] W fun e M=>bW W M∧∃ J L,e=.returned (.tuple #[J,L])∧ak M J q∧ak M L r) :
  Calls prog 187 #[a,b] w fun e w'=>bW w w'∧∃ J L k,e=.returned (.tuple #[J,L,vI k])∧nu (au na f) (au nb d) d.length q r k w' J L:=by
 obtain ⟨va,rfl,E,U⟩:=ha;obtain ⟨vb,rfl,F,V⟩:=hb;obtain ⟨g,l,rfl,fA,gy⟩:=E.form;obtain ⟨j,o,rfl,a1,a2⟩:=F.form;have uZ:=lK;have O:=((((af.new w 24 (lN na g f.length l)).alloc (.cells #[.bool nb,.slice j d.length o] 24)).alloc (.cells #[vF,vZ] 24)).alloc (.cells #[vF,vZ] 24)).alloc (.cells #[vI 0] 31)
 have Q:=(((af.new (w.alloc (.cells #[.bool na,.slice g f.length l] 24)) 24 (lN nb j d.length o)).alloc (.cells #[vF,vZ] 24)).alloc (.cells #[vF,vZ] 24)).alloc (.cells #[vI 0] 31);have R:=((af.new ((w.alloc (.cells #[.bool na,.slice g f.length l] 24)).alloc (.cells #[.bool nb,.slice j d.length o] 24)) 24 (lN false none 0 0)).alloc (.cells #[vF,vZ] 24)).alloc (.cells #[vI 0] 31)
 have S:=(af.new (((w.alloc (.cells #[.bool na,.slice g f.length l] 24)).alloc (.cells #[.bool nb,.slice j d.length o] 24)).alloc (.cells #[vF,vZ] 24)) 24 (lN false none 0 0)).alloc (.cells #[vI 0] 31)
 have I:=Qi ((((w.alloc (.cells #[.bool na,.slice g f.length l] 24)).alloc (.cells #[.bool nb,.slice j d.length o] 24)).alloc (.cells #[vF,vZ] 24)).alloc (.cells #[vF,vZ] 24)) 31 (vI 0)
 have u:=(((((dJ w (.cells #[.bool na,.slice g f.length l] 24)).alloc (by simp) (.cells #[.bool nb,.slice j d.length o] 24)).alloc (by simp;omega) (.cells #[vF,vZ] 24)).alloc (by simp;omega) (.cells #[vF,vZ] 24)).alloc (by simp;omega) (.cells #[vI 0] 31))
 simp only [Qh] at O Q R S I;generalize T:((((w.alloc (.cells #[.bool na,.slice g f.length l] 24)).alloc (.cells #[.bool nb,.slice j d.length o] 24)).alloc (.cells #[vF,vZ] 24)).alloc (.cells #[vF,vZ] 24)).alloc (.cells #[vI 0] 31)=W4 at O Q R S I u
 have H:=IA w.heap.size na nb g j l o f d W4 O Q R S (E.below u) (F.below u) U V q r (fun h1 N h3 W hW=>Y h1 N h3 W (u.trans (hW.mono u.size)))
 have ve:=fT 219 #[vP w.heap.size,vP (w.heap.size+1),vP (w.heap.size+1+1),vP (w.heap.size+1+1+1)]
  ((((w.alloc (.cells #[.bool na,.slice g f.length l] 24)).alloc (.cells #[.bool nb,.slice j d.length o] 24)).alloc (.cells #[vF,vZ] 24)).alloc (.cells #[vF,vZ] 24))
  (fun k W=>dF (fun i=>i=w.heap.size+2∨i=w.heap.size+3) W4 W∧∃ n a m c z t y x,af W (w.heap.size+2) 24 (lN n a m c)∧af W (w.heap.size+3) 24 (lN z t y x)∧nu (au na f) (au nb d) d.length q r k W (vN n a m c) (vN z t y x))
  (fun W=>by simp [go_sem])
  (fun k W h=>by simp only [Qh];exact h.1.boxed I (by omega))
  (by
   rw [T];refine H.mono ?_;rintro e W ⟨k,h1,N⟩
   rcases h1 with ⟨rfl,rfl⟩ | rfl
   ·exact .inl ⟨rfl,N⟩
   ·exact .inr ⟨k,rfl,N⟩)
 clear H;go_enter func187,ntmps187
 go_wp2_with (refine ve.mono ?_;rintro e M ⟨k,W,⟨A,n,a,m,c,z,t,y,x,p,s,G⟩,rfl,rfl⟩;simp only [Qh];have Z:=p.other (a:=⟨w.heap.size+1+1+1+1,0,none⟩) (by simp) (vI k);have z2:=s.other (a:=⟨w.heap.size+1+1+1+1,0,none⟩) (by simp) (vI k);have o5:=p.frozen 0;have o6:=p.frozen 1;have o7:=s.frozen 0;have o8:=s.frozen 1;obtain ⟨o1,o2⟩:=aQ Z;obtain ⟨o3,o4⟩:=aQ z2)
 have e4:=(A.boxed I (by omega)).cell;have ig:bW w W:=u.trans (A.below (B:=w.heap.size) (fun i hi=>by omega) u.size)
 have hP:oZ w W (w.heap.size+1+1) n a m c z t y x (W.setCell ⟨w.heap.size+1+1+1+1,0,none⟩ (vI k)):=⟨by omega,ig.setCell (by simp;omega) _,Z,z2,fun v xs h=>h.setOther e4 (by simp) _⟩
 have hD:=vU hP;obtain ⟨d1,d2,d3,d4,d5,d6,d7,d8,d9⟩:=rE hP;have C:=G;generalize a0:W.setCell ⟨w.heap.size+1+1+1+1,0,none⟩ (vI k)=W5 at *;clear ve A p s o1 o2 o3 o4 o5 o6 o7 o8 ig e4 Z z2 O Q R S I u
 go_region_held3 (fun X=>X.cell? ⟨w.heap.size+1+1,0,none⟩=some (.bool n)∧X.cell? ⟨w.heap.size+1+1,1,none⟩=some (.slice a m c)∧X.cell? ⟨w.heap.size+1+1+1,0,none⟩=some (.bool z)∧X.cell? ⟨w.heap.size+1+1+1,1,none⟩=some (.slice t y x)∧X.frozen? ⟨w.heap.size+1+1,0,none⟩=false∧X.frozen? ⟨w.heap.size+1+1,1,none⟩=false∧X.frozen? ⟨w.heap.size+1+1+1,0,none⟩=false∧X.frozen? ⟨w.heap.size+1+1+1,1,none⟩=false∧oZ w W (w.heap.size+1+1) n a m c z t y x X)
  (first | exact hD | (go_split_ands;with_reducible refine Ai ?_ <;> assumption) | (go_split_ands;with_reducible refine Aj ?_ <;> assumption) | (go_split_ands;with_reducible refine Ao ?_ <;> assumption) | (go_split_ands;with_reducible refine Ap ?_ <;> assumption))
  (first | fail)
 rename_i hT;obtain ⟨s1,s2,s3,s4⟩:=lT (b:=w.heap.size+1+1) d1 d2 d3 d4 (.bool n) (.slice a m c) (.bool z) (.slice t y x);obtain ⟨-,-,-,-,-,-,-,-,D⟩:=hT;go_wp2;exact bodyPost_ret (v:=.tuple #[vN n a m c,vN z t y x,vI k]) (by simp [results,results187,go_sem,loadCellsFrom,s1,s2,s3,s4]) rfl ⟨D.below,_,_,k,rfl,C.keep D.keep⟩
def gP (K:Nat):Prop:=∀ (va vb:Value) (xa xb:List Nat) (w:World),Reads .u32 w va xa→Reads .u32 w vb xb→Limbs xa→Limbs xb→xa.length≤K→xb.length≤K →
 Calls prog 224 #[va,vb] w fun e w'=>bW w w'∧∃ v cs,e=.returned v∧Reads .u32 w' v cs∧Canon cs∧val cs=val xa*val xb
theorem Ci (m:Nat)(h:m<9223372036854775808):bits BinOp.and IntKind.i64 (m:Int) 1=((m % 2:Nat):Int):=by
 have h1:(BitVec.ofInt 64 (m:Int)).toNat=m:=by
  rw [BitVec.ofInt_natCast,BitVec.toNat_ofNat];exact Jo (by omega)
 have a:(BitVec.ofInt 64 (1:Int)).toNat=1:=by decide
 show IntKind.i64.wrap ((BitVec.ofInt 64 (m:Int) &&& BitVec.ofInt 64 (1:Int)).toNat:Int)=_
 rw [BitVec.toNat_and,h1,a,Nat.and_one_is_mod,Qx];have:=Qy m (show 0<2 by decide);omega
theorem FX:∀ (x:Nat),x<2^64→x<2^Lib.bitLen x:=by
 intro x
 induction x using Nat.strongRecOn with
 | ind x a =>
  intro h
  rcases Jr x with rfl | hp
  ·exact Qq (by decide)
  ·rw [Lib.bitLen_half x (by omega) h,Zn,Qo]
   have:=a (x / 2) (by omega) (by omega);omega
structure PowInv (w:World) (A n:Nat) (k:Nat) (v:Value) (W:World):Prop where
 below:bW w W
 reads:∃ cs,Reads .u32 W v cs∧Canon cs∧val cs=A^(n / 2^k)
theorem vW {A n m:Nat}(h:m≤n){K:Nat}(hK:0<K)(a:A^n<aj^K):A^m<aj^K:=by
 rcases Jr A with rfl | hp
 ·rcases Jr m with rfl | hm
  ·have:1<aj^K:=YY (by omega) (by decide)
   simpa using this
  ·rw [Nat.zero_pow hm];exact Qq (by decide)
 ·exact Qr (Ql hp h) a
theorem lL (K:Nat)(Z:gP K)(hK:0<K)(va:Value)(i:List Nat)(n:Nat)(w:World)(ha:Reads .u32 w va i)(C:Canon i)(hn:n≤9600)(p:val i^n<aj^K) :
 CB 198 #[va,vI n] w fun e t=>∃ v o,e=.returned v∧Reads .u32 t v o∧Canon o∧val o=val i^n:=by
 obtain ⟨a,c,rfl,hc,hm⟩:=ha.form;have L:=Qa p;clear p;have a0:Lib.bitLen n≤14:=Lib.bitLen_le n 14 (by decide) (by omega);have Q:n / 2^Lib.bitLen n=0:=QR (FX n (by omega));go_enter func198,ntmps198
 go_wp2_with (first | (go_at_call 226;refine (uC _).mono ?_;rintro e w1 ⟨aM,v1,rfl,h1⟩;obtain ⟨a1,c1,rfl,a5,a7⟩:=h1.form) | (go_at_call 227;refine (bits_Len _ _ (by omega) (by omega)).mono ?_;rintro e w2 ⟨rfl,rfl⟩;simp only [QP]))
 go_loopw [5,6] (fun v b W=>∃ k:Nat,k≤Lib.bitLen n∧b=vI ((k:Int) - 1)∧(∃ a2 n2 c2,v=.slice a2 n2 c2)∧PowInv w (val i) n k v W) (fun _ b _=>(intOf b+1).toNat)
 case atStart=>exact ⟨Lib.bitLen n,Qb _,rfl,⟨_,_,_,rfl⟩,aM,[1],h1,⟨by intro x hx;simp at hx;subst hx;decide,rfl⟩,by rw [Q];simp [val]⟩
 case round =>
  obtain ⟨k,hk,rfl,⟨a2,n2,c2,rfl⟩,z,o,hr,l,T⟩:=hrel
  cases k with
  | zero =>
   go_wp2;go_ret;exact ⟨z,_,o,rfl,hr,l,by rw [T];simp⟩
  | succ j =>
   have e1:((j+1:Nat):Int) - 1=(j:Int):=by omega
   rw [e1];have V:=Qa T;clear T;have E:n / 2^j≤n:=Jv _ _
   have D:n / 2^j=2*(n / 2^(j+1))+n / 2^j % 2:=by
    have:n / 2^(j+1)=n / 2^j / 2:=by rw [Qo,Zg]
    rw [this];omega
   have s:n / 2^(j+1)≤n:=Jv _ _
   have f:bits BinOp.and IntKind.i64 ((n:Int) / 2^j) 1=((n / 2^j % 2:Nat):Int):=by
    have:=Ci (n / 2^j) (by omega);simpa using this
   have G:o.length≤K:=aA l (by rw [V.out];exact vW s hK L.out)
   have J:∀ W,bW wr W→Calls prog 224 #[.slice a2 n2 c2,.slice a2 n2 c2] W fun e t=>bW W t∧∃ v h,e=.returned v∧Reads .u32 t v h∧Canon h∧val h=val i^(2*(n / 2^(j+1))):=fun W I=>by
    have:=Z _ _ o o W (hr.below I) (hr.below I) l.1 l.1 G G
    rwa [V.out,← Qt,← Nat.two_mul] at this
   have F:n / 2^j % 2=0∨n / 2^j % 2=1:=by omega
   have Y:((j:Int) - 1+1).toNat<((j:Int)+1).toNat:=by omega
   rcases F with hp | hp
   ·have hand:bits BinOp.and IntKind.i64 ((n:Int) / 2^j) 1=0:=by rw [f,hp];rfl
    have g:2*(n / 2^(j+1))=n / 2^j:=by omega
    have M:=Qa g;clear g hp D f E s
    go_wp2_with (go_at_call 224;refine (J _ (Qj _ _)).mono ?_;rintro e w3 ⟨O,H,d,rfl,q,y,u⟩;obtain ⟨a3,c3,rfl,R,S⟩:=q.form;clear J)
    exact ⟨⟨j,by omega,rfl,⟨_,_,_,rfl⟩,z.trans (O.mono z.size),d,q,y,by rw [u,M.out]⟩,Y⟩
   ·have hand:bits BinOp.and IntKind.i64 ((n:Int) / 2^j) 1=1:=by rw [f,hp];rfl
    have g:2*(n / 2^(j+1))+1=n / 2^j:=by omega
    have M:=Qa g;have U:i.length≤K:=aA C (by have:=vW (A:=val i) (n:=n) (m:=1) (by omega) hK L.out;simpa using this)
    have t2:∀ W H d,bW w W→Reads .u32 W H d→Canon d→val d=val i^(2*(n / 2^(j+1)))→Calls prog 224 #[H,.slice a i.length c] W fun e t=>bW W t∧∃ v h,e=.returned v∧Reads .u32 t v h∧Canon h∧val h=val i^(n / 2^j):=fun W H d I q y u=>by
     have:=Z _ _ d i W q (ha.below I) y.1 C.1 (aA y (by rw [u];exact vW (by omega) hK L.out)) U
     rwa [u,← Qo,Nat.succ_eq_add_one,M.out] at this
    clear g hp D f E s
    go_wp2_with (first | (go_at_call 224;refine (J _ (Qj _ _)).mono ?_;rintro e w3 ⟨O,H,d,rfl,q,y,u⟩;obtain ⟨a3,c3,rfl,R,S⟩:=q.form;have r:=z.trans (O.mono z.size);clear J) | (go_at_call 224;refine (t2 _ _ d r q y u).mono ?_;rintro e w4 ⟨B,v4,N,rfl,X,k4,e4⟩;obtain ⟨a4,c4,rfl,a6,a8⟩:=X.form))
    exact ⟨⟨j,by omega,rfl,⟨_,_,_,rfl⟩,r.trans (B.mono r.size),N,X,k4,e4⟩,Y⟩
def bitsOf (xs:List Nat):Nat:=if xs.length=0 then 0 else 32*(xs.length - 1)+Lib.bitLen (xs[xs.length - 1]?.getD 0)
theorem gW (l:Value)(xs:List Nat)(w:World)(hr:Reads .u32 w l xs)(o:Limbs xs)(s:xs.length≤100000) :
  Calls prog 197 #[l] w fun e p=>w=p∧e=.returned (vI (bitsOf xs)):=by
 obtain ⟨a,c,rfl,q,r⟩:=hr.form
 by_cases j:xs.length=0
 ·have g:bitsOf xs=0:=by simp [bitsOf,j]
  rw [g];go_enter func197,ntmps197;go_wp2;go_ret;exact ⟨rfl,rfl⟩
 ·have n:((xs.length - 1:Nat):Int)=(xs.length:Int) - 1:=by omega
  have f:=hr.cell (xs.length - 1) (by omega)
  have h:=fun W=>hr.index aG bZ (P:=prog) (xs.length - 1) .i64 W (by omega)
  have b:xs[xs.length - 1]?.getD 0<aj:=by
   rw [Qs (by omega)];exact o _ (by simp)
  have g:(bitsOf xs:Int)=32*((xs.length:Int) - 1)+Lib.bitLen (xs[xs.length - 1]?.getD 0):=by
   simp only [bitsOf,if_neg j];omega
  rw [n] at h;rw [g]
  obtain ⟨d,i⟩:∃ d,xs[xs.length - 1]?.getD 0=d:=⟨_,rfl⟩
  rw [i] at f b ⊢;have m:Lib.bitLen d≤32:=Lib.bitLen_le d 32 (by decide) (by unfold aj at b;omega);generalize xs.length - 1=k at *;unfold aj at b;clear g i;go_enter func197,ntmps197
  go_wp2_with (go_at_call 225;refine (bits_Len32 _ _ (by omega) (by omega)).mono ?_;rintro e t ⟨rfl,rfl⟩;simp only [QP])
  go_ret;exact ⟨rfl,rfl⟩
end Go.Proofs.YtagjhmodblifbaaGreatDoor
