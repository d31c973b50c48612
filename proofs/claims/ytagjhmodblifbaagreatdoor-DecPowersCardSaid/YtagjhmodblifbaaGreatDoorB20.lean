/- proved lemmas -/
import Derived.Test.YtagjhmodblifbaaGreatDoorMA
import Derived.Test.YtagjhmodblifbaaGreatDoorB00
import Derived.Test.YtagjhmodblifbaaGreatDoorB16
import Derived.Test.YtagjhmodblifbaaGreatDoorB19
import Derived.Test.YtagjhmodblifbaaGreatDoorB02
import Derived.Test.YtagjhmodblifbaaGreatDoorB12
import Derived.Test.YtagjhmodblifbaaGreatDoorB15
import Derived.Test.YtagjhmodblifbaaGreatDoorB17
import Derived.Test.YtagjhmodblifbaaGreatDoorB18
import Derived.Test.YtagjhmodblifbaaGreatDoorB11
import Derived.Deep.CutRange
import Derived.Test.YtagjhmodblifbaaGreatDoorB10
import Derived.Test.YtagjhmodblifbaaGreatDoorB09
import Derived.Test.YtagjhmodblifbaaGreatDoorB07
import Derived.Deep.RegionHeld3
set_option maxHeartbeats 4000000
set_option maxRecDepth 100000
set_option exponentiation.threshold 100000
namespace Go.Proofs.YtagjhmodblifbaaGreatDoor
open Go.Proofs.Tryz
open Go Go.RowKit Go.Shelf
def jZ (fa fb:Bool)(la d:Int):Int:=if fa=false∨fb=false then 2 else if d=0 then 20 else if 290<la then 3 else 0
def nG (n d:Int):Int:=near (n*10^20) d
def ji (W:World)(K n d k:Int)(v c:Value):Prop :=
 if K=0 then (if (least (nG n d) 20).1.natAbs<aj^40 then k=0∧dX W v (least (nG n d) 20).1 (least (nG n d) 20).2∧∃ g a m c' g9 a9 m9 c9,c=.agg #[.bool g,.slice a m c',.bool g9,.slice a9 m9 c9]∧ak W (vN g a m c') (nG n d)∧ak W (vN g9 a9 m9 c9) (n*10^20 - nG n d*d) else k=3∧v=pV∧c=.agg #[vF,vZ,vF,vZ])
 else k=K∧v=pV∧c=.agg #[vF,vZ,vF,vZ]
theorem ji.keep {W i:World}{K n d k:Int}{v c:Value}(h:ji W K n d k v c)(b:∀ v xs,Reads .u32 W v xs→Reads .u32 i v xs):ji i K n d k v c:=by
 unfold ji at h ⊢
 by_cases h1:K=0
 ·rw [if_pos h1] at h ⊢
  by_cases j:(least (nG n d) 20).1.natAbs<aj^40
  ·rw [if_pos j] at h ⊢
   obtain ⟨f,t,g,a,m,o,q,l,u,p,e,r,s⟩:=h;exact ⟨f,t.keep b,g,a,m,o,q,l,u,p,e,r.keep b,s.keep b⟩
  ·rw [if_neg j] at h ⊢
   exact h
 ·rw [if_neg h1] at h ⊢
  exact h
theorem qd (n d:Int):fB n d 0 20=nG n d:=by
 unfold fB nG;rw [show (((20:Nat):Int) - 0).toNat=20 from rfl,show (0 - ((20:Nat):Int)).toNat=0 from rfl,Int.pow_zero,Int.mul_one]
theorem FI {a:List Nat}{na:Bool}(b:a.length≤290)(c:Limbs a):(bX na (val a)).natAbs<aj^290:=by
 rw [bM];exact Qf (fu c) (Ql aP b)
theorem wB (G F:Value)(na nb:Bool)(c b:List Nat)(w:World)(ha:dx w G na c)(M:dx w F nb b) :
  Calls prog 120 #[G,F] w fun e Y=>bW w Y∧(jZ (au na c) (au nb b) (c.length:Int) (bX nb (val b))=0∧e=.returned (.tuple #[])∨jZ (au na c) (au nb b) (c.length:Int) (bX nb (val b))≠0∧e=.panicked [{ v:=.iface 31 (vI (jZ (au na c) (au nb b) (c.length:Int) (bX nb (val b)))),recovered:=false }]):=by
 have S:au nb b=true→ak w F (bX nb (val b)):=fun h=>M.isInt h
 obtain ⟨G,rfl,s,m⟩:=ha;obtain ⟨F,rfl,t,n⟩:=M;obtain ⟨f,i,rfl,fA,gy⟩:=s.form;obtain ⟨g,j,rfl,U,V⟩:=t.form;obtain ⟨Q,r,I,D,E⟩:=yP w 24 (lN na f c.length i) 24 (lN nb g b.length j);obtain ⟨Z,d1⟩:=aQ D;obtain ⟨d2,d3⟩:=aQ E;have x:=af.new Q 24 [.bool na,.slice f c.length i,.bool nb,.slice g b.length j]
 have k:=I.alloc I.size (.cells #[.bool na,.slice f c.length i,.bool nb,.slice g b.length j] 24);have ra:=s.below k;have rb:=t.below k
 cases fa:au na c with
 | false =>
  rw [show jZ false (au nb b) (c.length:Int) (bX nb (val b))=2 from if_pos (.inl rfl)];go_enter func120,ntmps120
  go_upto_region 1 with (fail)
  rw [r.out]
  go_wp2_with (go_at_call 81;refine (Dc _ na nb f g i j c b _ x ra m fa).mono ?_;rintro e w1 ⟨a,rfl⟩)
  exact ⟨rfl,k.trans (a.mono k.size),.inr ⟨by decide,rfl⟩⟩
 | true =>
  cases fb:au nb b with
  | false =>
   rw [show jZ true false (c.length:Int) (bX nb (val b))=2 from if_pos (.inr rfl)];go_enter func120,ntmps120
   go_upto_region 1 with (fail)
   rw [r.out]
   go_wp2_with (go_at_call 81;refine (zx _ na nb f g i j c b _ x ra m fa rb n fb).mono ?_;rintro e w1 ⟨a,rfl⟩)
   exact ⟨rfl,k.trans (a.mono k.size),.inr ⟨by decide,rfl⟩⟩
  | true =>
   have u:=fun X (T:bW w X)=>jh _ _ X ((S fb).below T)
   have L:jZ true true (c.length:Int) (bX nb (val b))=if bX nb (val b)=0 then 20 else if 290<(c.length:Int) then 3 else 0:=if_neg (by decide)
   rw [L];clear L
   by_cases C:bX nb (val b)=0
   ·rw [if_pos C]
    rw [decide_eq_true C] at u;go_enter func120,ntmps120
    go_upto_region 1 with (fail)
    rw [r.out]
    go_wp2_with (first | (go_at_call 81;refine (oN _ na nb f g i j c b _ x ra m fa rb n fb).mono ?_;rintro e w1 ⟨a,rfl⟩;have l:=k.trans (a.mono k.size);have o:=(E.alloc (.cells #[.bool na,.slice f c.length i,.bool nb,.slice g b.length j] 24)).below a;have y:=o.cell 0;have z:=o.cell 1;have p:=(D.alloc (.cells #[.bool na,.slice f c.length i,.bool nb,.slice g b.length j] 24)).below a;have A:=p.cell 1;simp only [Qc,Qe] at y z A) | (go_at_call 144;refine (u _ l).mono ?_;rintro e N ⟨d,rfl⟩;have q:=l.trans (d.mono l.size);have B:=p.below d;have O:=Dk B) | (go_at_call 106;refine (bD _ _ _ (by rfl)).mono ?_;rintro e H ⟨rfl,rfl⟩))
    exact ⟨rfl,q,.inr ⟨by decide,rfl⟩⟩
   rw [if_neg C];rw [decide_eq_false C] at u
   by_cases J:290<(c.length:Int)
   ·rw [if_pos J]
    have R:decide ((c.length:Int)≤290)=false:=decide_eq_false (by omega);go_enter func120,ntmps120
    go_upto_region 1 with (fail)
    rw [r.out]
    go_wp2_with (first | (go_at_call 81;refine (oN _ na nb f g i j c b _ x ra m fa rb n fb).mono ?_;rintro e w1 ⟨a,rfl⟩;have l:=k.trans (a.mono k.size);have o:=(E.alloc (.cells #[.bool na,.slice f c.length i,.bool nb,.slice g b.length j] 24)).below a;have y:=o.cell 0;have z:=o.cell 1;have p:=(D.alloc (.cells #[.bool na,.slice f c.length i,.bool nb,.slice g b.length j] 24)).below a;have A:=p.cell 1;simp only [Qc,Qe] at y z A) | (go_at_call 144;refine (u _ l).mono ?_;rintro e N ⟨d,rfl⟩;have q:=l.trans (d.mono l.size);have B:=p.below d;have O:=Dk B) | (go_at_call 106;refine (aC _ _ _ (by rfl)).mono ?_;rintro e H ⟨rfl,rfl⟩) | (go_at_call 106;refine (bD _ _ _ (by rfl)).mono ?_;rintro e H ⟨rfl,rfl⟩))
    exact ⟨(by first | rfl | trivial),q,.inr ⟨by decide,rfl⟩⟩
   ·rw [if_neg J]
    have R:decide ((c.length:Int)≤290)=true:=decide_eq_true (by omega);go_enter func120,ntmps120
    go_upto_region 1 with (fail)
    rw [r.out]
    go_wp2_with (first | (go_at_call 81;refine (oN _ na nb f g i j c b _ x ra m fa rb n fb).mono ?_;rintro e w1 ⟨a,rfl⟩;have l:=k.trans (a.mono k.size);have o:=(E.alloc (.cells #[.bool na,.slice f c.length i,.bool nb,.slice g b.length j] 24)).below a;have y:=o.cell 0;have z:=o.cell 1;have p:=(D.alloc (.cells #[.bool na,.slice f c.length i,.bool nb,.slice g b.length j] 24)).below a;have A:=p.cell 1;simp only [Qc,Qe] at y z A) | (go_at_call 144;refine (u _ l).mono ?_;rintro e N ⟨d,rfl⟩;have q:=l.trans (d.mono l.size);have B:=p.below d;have O:=Dk B) | (go_at_call 106;refine (aC _ _ _ (by rfl)).mono ?_;rintro e H ⟨rfl,rfl⟩))
    go_end0
    exact ⟨q,.inl ⟨by first | rfl | trivial,rfl⟩⟩
theorem De (A:Nat)(na nb:Bool)(f g:Option Addr)(i j:Nat)(a b:List Nat)(w:World)(k:af w A 24 (lN na f a.length i))(l:af w (A+1) 24 (lN nb g b.length j))(_hr:af w (A+1+1) 27 (lV 0 0 false none 0 0 ⟨#[]⟩ none 0 0))(_hc:af w (A+1+1+1) 59 [vF,vZ,vF,vZ])(ha:dx w (vN na f a.length i) na a)(m:dx w (vN nb g b.length j) nb b)(hK:jZ (au na a) (au nb b) (a.length:Int) (bX nb (val b))≠0) :
  Calls prog 119 #[vP A,vP (A+1),vP (A+1+1),vP (A+1+1+1)] w fun e d=>bW w d∧e=.panicked [{ v:=.iface 31 (vI (jZ (au na a) (au nb b) (a.length:Int) (bX nb (val b)))),recovered:=false }]:=by
 have n:=(wB _ _ na nb a b w ha m).mono (R':=fun e d=>bW w d∧e=.panicked [{ v:=.iface 31 (vI (jZ (au na a) (au nb b) (a.length:Int) (bX nb (val b)))),recovered:=false }]) (by
  rintro e w1 ⟨c,⟨h0,h⟩ | ⟨h0,h⟩⟩
  ·exact absurd h0 hK
  ·exact ⟨c,h⟩)
 obtain ⟨o,p⟩:=aQ k;obtain ⟨q,r⟩:=aQ l;go_enter func119,ntmps119
 go_wp2_with (go_at_call 120;refine n.mono ?_;rintro e w1 ⟨c,rfl⟩)
 exact ⟨by first | rfl | trivial,c,rfl⟩
theorem zy (A:Nat)(na nb:Bool)(t z:Option Addr)(E F:Nat)(i j:List Nat)(n d:Int)(w:World)(hA:af w A 24 (lN na t i.length E))(hB:af w (A+1) 24 (lN nb z j.length F))(_hr:af w (A+1+1) 27 (lV 0 0 false none 0 0 ⟨#[]⟩ none 0 0))(_hc:af w (A+1+1+1) 59 [vF,vZ,vF,vZ])(ha:dx w (vN na t i.length E) na i)(G:dx w (vN nb z j.length F) nb j)(hn:bX na (val i)=n)(O:bX nb (val j)=d)(hK:jZ (au na i) (au nb j) (i.length:Int) d=0)(hf:¬(least (nG n d) 20).1.natAbs<aj^40) :
  Calls prog 119 #[vP A,vP (A+1),vP (A+1+1),vP (A+1+1+1)] w fun e T=>bW w T∧e=pK 3:=by
 have kF:=(wB _ _ na nb i j w ha G).mono (R':=fun e T=>bW w T∧e=.returned (.tuple #[])) (by
  rintro e w1 ⟨b,⟨h0,h⟩ | ⟨h0,h⟩⟩
  ·exact ⟨b,h⟩
  ·exact absurd (O ▸ hK) h0)
 have f:=hK;unfold jZ at f
 have wX:au na i=true∧au nb j=true∧d≠0∧i.length≤290:=by
  split at f
  ·omega
  ·rename_i h1
   split at f
   ·omega
   ·rename_i h2
    split at f
    ·omega
    ·exact ⟨by simpa using fun h=>h1 (.inl h),by simpa using fun h=>h1 (.inr h),h2,by omega⟩
 obtain ⟨Y,L,p,l⟩:=wX;have iA:ak w (vN na t i.length E) n:=hn ▸ ha.isInt Y;have iB:ak w (vN nb z j.length F) d:=O ▸ G.isInt L
 have I:n.natAbs<aj^290:=by rw [← hn];obtain ⟨_,_,_,hl⟩:=ha;exact FI l hl
 have H:d.natAbs<aj^300:=by rw [← O];exact dx.jI G L
 have o:(n*((10^(((20:Nat):Int) - 0).toNat:Nat):Int)).natAbs<aj^300:=az (jb I (show ((10^20:Nat):Int).natAbs<aj^10 by decide)) (by decide)
 have r:(d*((10^(0 - ((20:Nat):Int)).toNat:Nat):Int)).natAbs<aj^300:=by rw [show (0 - ((20:Nat):Int)).toNat=0 from rfl];simpa using H
 have J:=jm (x:=n) (y:=d) (e:=0) (k:=20) p o
 have Q:=fun X (hX:bW w X)=>gK (vR na t i.length E nb z j.length F 0) n d 0 20 X ⟨_,_,_,_,_,_,_,_,rfl,iA.below hX,iB.below hX⟩ (by decide) (by decide) (az I (by decide)) H p o r
 rw [qd,show n*((10^(((20:Nat):Int) - 0).toNat:Nat):Int) - nG n d*(d*((10^(0 - ((20:Nat):Int)).toNat:Nat):Int))=n*10^20 - nG n d*d by rw [show (((20:Nat):Int) - 0).toNat=20 from rfl,show (0 - ((20:Nat):Int)).toNat=0 from rfl];simp] at Q;rw [qd] at J;generalize n*10^20 - nG n d*d=u at *;generalize nG n d=q at *
 have kM:=fun X v (hv:ak X v q)=>lS v q 20 X hv (by decide) J hf
 obtain ⟨d0,d1⟩:=aQ hA;obtain ⟨d2,d3⟩:=aQ hB;go_enter func119,ntmps119;clear hK f l Y L p I H o r J hf ha G iA iB
 go_upto_region 1 with (go_at_call 120;refine kF.mono ?_;rintro e w1 ⟨b,rfl⟩;have xA:=hA.below b;have xB:=hB.below b;obtain ⟨e0,e1⟩:=aQ xA;obtain ⟨e2,e3⟩:=aQ xB)
 go_cut [4,5] from 6 to 15 (fun v4 v5 W=>bW w W∧∃ C D,v4=vP C∧v5=vP D∧w.heap.size≤C∧w.heap.size≤D∧gQ W C q∧gQ W D u)
 case first =>
  go_wp2_with (go_at_call 121;refine (Q _ b).mono ?_;rintro e s ⟨M,g,a,m,c,Z,U,m9,V,rfl,hI,hJ⟩;have r4:=af.new s 24 (lN false none 0 0);have r5:=af.new (s.alloc (.cells #[vF,vZ] 24)) 24 (lN false none 0 0);have S:=r4.alloc (.cells #[vF,vZ] 24);simp only [Qh] at r5;obtain ⟨y0,y1,f0,f1⟩:=av S;obtain ⟨y2,y3,f2,f3⟩:=av r5)
  go_meet
  have B:=b.trans (M.mono b.size);have o1:=dJ s (.cells #[.bool g,.slice a m c] 24);have R:=o1.alloc o1.size (.cells #[.bool Z,.slice U m9 V] 24)
  exact ⟨B.trans (R.mono B.size),_,_,rfl,rfl,B.size,Nat.le_succ_of_le B.size,⟨_,_,_,_,(af.new s 24 (lN g a m c)).alloc _,hI.below R⟩,⟨_,_,_,_,(af.new (s.alloc (.cells #[.bool g,.slice a m c] 24)) 24 (lN Z U m9 V)).at (by simp),hJ.below R⟩⟩
 case rest =>
  obtain ⟨ig,C,D,rfl,rfl,l4,l5,⟨n4,a4,m4,c4,r4,i4⟩,⟨n5,a5,m5,c5,r5,i5⟩⟩:=hcut;obtain ⟨x0,x1⟩:=aQ r4;clear Q kF d0 d1 d2 d3 e0 e1 e2 e3 xA xB b
  go_wp2_with (go_at_call 83;refine (kM _ _ i4).mono ?_;rintro e w3 ⟨N,rfl⟩)
  exact ⟨by first | rfl | trivial,ig.trans (N.mono ig.size),rfl⟩
theorem Bz (A:Nat)(na nb:Bool)(N O:Option Addr)(R S:Nat)(o s:List Nat)(n d r:Int)(z:Nat)(w:World)(hA:af w A 24 (lN na N o.length R))(hB:af w (A+1) 24 (lN nb O s.length S))(hr:af w (A+1+1) 27 (lV 0 0 false none 0 0 ⟨#[]⟩ none 0 0))(hc:af w (A+1+1+1) 59 [vF,vZ,vF,vZ])(ha:dx w (vN na N o.length R) na o)(T:dx w (vN nb O s.length S) nb s)(hn:bX na (val o)=n)(hd:bX nb (val s)=d)(hK:jZ (au na o) (au nb s) (o.length:Int) d=0)(U:least (nG n d) 20=(r,z))(hf:r.natAbs<aj^40) :
  Calls prog 119 #[vP A,vP (A+1),vP (A+1+1),vP (A+1+1+1)] w fun e B=>e=.returned (.tuple #[])∧dF (fun i=>i=A+1+1∨i=A+1+1+1) w B∧∃ z0 z1 z2 z3 aI aJ z4 z5 aN aO,af B (A+1+1) 27 (lV z0 z1 z2 z3 aI aJ z4 z5 aN aO)∧dX B (vV z0 z1 z2 z3 aI aJ z4 z5 aN aO) r z∧∃ (x0:Bool) (x1:Option Addr) (oQ:Nat) (oU:Nat) (x2:Bool) (x3:Option Addr) (rD:Nat) (oV:Nat),af B (A+1+1+1) 59 [.bool x0,.slice x1 oQ oU,.bool x2,.slice x3 rD oV]∧ak B (vN x0 x1 oQ oU) (nG n d)∧ak B (vN x2 x3 rD oV) (n*10^20 - nG n d*d):=by
 have kF:=(wB _ _ na nb o s w ha T).mono (R':=fun e B=>bW w B∧e=.returned (.tuple #[])) (by
  rintro e w1 ⟨f,⟨h0,h⟩ | ⟨h0,h⟩⟩
  ·exact ⟨f,h⟩
  ·exact absurd (hd ▸ hK) h0)
 have l:=hK;unfold jZ at l
 have wX:au na o=true∧au nb s=true∧d≠0∧o.length≤290:=by
  split at l
  ·omega
  ·rename_i h1
   split at l
   ·omega
   ·rename_i h2
    split at l
    ·omega
    ·exact ⟨by simpa using fun h=>h1 (.inl h),by simpa using fun h=>h1 (.inr h),h2,by omega⟩
 obtain ⟨fa,fb,D,t⟩:=wX;have iA:ak w (vN na N o.length R) n:=hn ▸ ha.isInt fa;have iB:ak w (vN nb O s.length S) d:=hd ▸ T.isInt fb
 have bn:n.natAbs<aj^290:=by rw [← hn];obtain ⟨_,_,_,U⟩:=ha;exact FI t U
 have Z:d.natAbs<aj^300:=by rw [← hd];exact dx.jI T fb
 have C:(n*((10^(((20:Nat):Int) - 0).toNat:Nat):Int)).natAbs<aj^300:=az (jb bn (show ((10^20:Nat):Int).natAbs<aj^10 by decide)) (by decide)
 have H:(d*((10^(0 - ((20:Nat):Int)).toNat:Nat):Int)).natAbs<aj^300:=by rw [show (0 - ((20:Nat):Int)).toNat=0 from rfl];simpa using Z
 have bq:=jm (x:=n) (y:=d) (e:=0) (k:=20) D C
 have kN:=fun X (hX:bW w X)=>gK (vR na N o.length R nb O s.length S 0) n d 0 20 X ⟨_,_,_,_,_,_,_,_,rfl,iA.below hX,iB.below hX⟩ (by decide) (by decide) (az bn (by decide)) Z D C H
 rw [qd,show n*((10^(((20:Nat):Int) - 0).toNat:Nat):Int) - nG n d*(d*((10^(0 - ((20:Nat):Int)).toNat:Nat):Int))=n*10^20 - nG n d*d by rw [show (((20:Nat):Int) - 0).toNat=20 from rfl,show (0 - ((20:Nat):Int)).toNat=0 from rfl];simp] at kN;rw [qd] at bq;generalize n*10^20 - nG n d*d=u at *;generalize nG n d=q at *
 have kM:=fun X v (hv:ak X v q)=>mO v q 20 r z X hv (by decide) bq U hf
 obtain ⟨d0,d1⟩:=aQ hA;obtain ⟨d2,d3⟩:=aQ hB;go_enter func119,ntmps119;clear hK l t fa fb D bn Z C H bq U hf ha T iA iB
 go_upto_region 1 with (go_at_call 120;refine kF.mono ?_;rintro e w1 ⟨f,rfl⟩;have xA:=hA.below f;have xB:=hB.below f;obtain ⟨e0,e1⟩:=aQ xA;obtain ⟨e2,e3⟩:=aQ xB)
 go_cut [4,5] from 6 to 15 (fun v4 v5 W=>bW w W∧∃ F G,v4=vP F∧v5=vP G∧w.heap.size≤F∧w.heap.size≤G∧gQ W F q∧gQ W G u)
 case first =>
  go_wp2_with (go_at_call 121;refine (kN _ f).mono ?_;rintro e M ⟨a0,g,a,m,c,g9,a9,m9,c9,rfl,hI,hJ⟩;have r4:=af.new M 24 (lN false none 0 0);have r5:=af.new (M.alloc (.cells #[vF,vZ] 24)) 24 (lN false none 0 0);have a3:=r4.alloc (.cells #[vF,vZ] 24);simp only [Qh] at r5;obtain ⟨y0,y1,f0,f1⟩:=av a3;obtain ⟨y2,y3,f2,f3⟩:=av r5)
  go_meet
  have Q:=f.trans (a0.mono f.size);have o1:=dJ M (.cells #[.bool g,.slice a m c] 24);have o2:=o1.alloc o1.size (.cells #[.bool g9,.slice a9 m9 c9] 24)
  exact ⟨Q.trans (o2.mono Q.size),_,_,rfl,rfl,Q.size,Nat.le_succ_of_le Q.size,⟨_,_,_,_,(af.new M 24 (lN g a m c)).alloc _,hI.below o2⟩,⟨_,_,_,_,(af.new (M.alloc (.cells #[.bool g,.slice a m c] 24)) 24 (lN g9 a9 m9 c9)).at (by simp),hJ.below o2⟩⟩
 case rest =>
  obtain ⟨E,F,G,rfl,rfl,l4,l5,⟨n4,V,m4,c4,r4,i4⟩,⟨n5,Y,m5,c5,r5,i5⟩⟩:=hcut;obtain ⟨x0,x1⟩:=aQ r4;clear kN kF d0 d1 d2 d3 e0 e1 e2 e3 xA xB f;have a2:=hr.lt;have a1:=hc.lt
  have I:F≠A+1+1:=by omega
  have J:G≠A+1+1:=by omega
  have L:A+1+1+1≠A+1+1:=by omega
  have b:=Qa (And.intro I (And.intro J L));clear I J L a2 a1 l4 l5
  go_wp2_with (go_at_call 83;refine (kM _ _ i4).mono ?_;rintro e w3 ⟨j,g,a,m,c,la,lc,rfl,hC⟩;have q2:=hr.below (E.trans (j.mono E.size));obtain ⟨y0,y1,y2,y3,y4,y5,f0,f1,f2,f3,f4,f5⟩:=df q2;have t4:=(((((((r4.below j).other (a:=⟨A+1+1,0,none⟩) b.out.1 (vI 3)).other (a:=⟨A+1+1,1,none⟩) b.out.1 (vI z)).other (a:=⟨A+1+1,2,none⟩) b.out.1 (.bool g)).other (a:=⟨A+1+1,3,none⟩) b.out.1 (.slice a m c)).other (a:=⟨A+1+1,4,none⟩) b.out.1 vE).other (a:=⟨A+1+1,5,none⟩) b.out.1 (.slice la 0 lc));have t5:=(((((((r5.below j).other (a:=⟨A+1+1,0,none⟩) b.out.2.1 (vI 3)).other (a:=⟨A+1+1,1,none⟩) b.out.2.1 (vI z)).other (a:=⟨A+1+1,2,none⟩) b.out.2.1 (.bool g)).other (a:=⟨A+1+1,3,none⟩) b.out.2.1 (.slice a m c)).other (a:=⟨A+1+1,4,none⟩) b.out.2.1 vE).other (a:=⟨A+1+1,5,none⟩) b.out.2.1 (.slice la 0 lc));have t6:=(((((((hc.below (E.trans (j.mono E.size))).other (a:=⟨A+1+1,0,none⟩) b.out.2.2 (vI 3)).other (a:=⟨A+1+1,1,none⟩) b.out.2.2 (vI z)).other (a:=⟨A+1+1,2,none⟩) b.out.2.2 (.bool g)).other (a:=⟨A+1+1,3,none⟩) b.out.2.2 (.slice a m c)).other (a:=⟨A+1+1,4,none⟩) b.out.2.2 vE).other (a:=⟨A+1+1,5,none⟩) b.out.2.2 (.slice la 0 lc));obtain ⟨s0,s1,-,-⟩:=av t4;obtain ⟨s2,s3,-,-⟩:=av t5;obtain ⟨s4,s5,s6,s7,p4,p5,p6,p7⟩:=qZ t6)
  go_end0
  have b3:=E.trans (j.mono E.size);have k6:=bQ q2 (vI 3) (vI z) (.bool g) (.slice a m c) vE (.slice la 0 lc);have k4:=tX t6 (.bool n4) (.slice V m4 c4) (.bool n5) (.slice Y m5 c5)
  exact ⟨rfl,((((((((((((dF.refl (fun i=>i=A+1+1∨i=A+1+1+1) w).aU b3).setCell (p:=⟨A+1+1,0,none⟩) (.inl (.inl rfl)) _).setCell (p:=⟨A+1+1,1,none⟩) (.inl (.inl rfl)) _).setCell (p:=⟨A+1+1,2,none⟩) (.inl (.inl rfl)) _).setCell (p:=⟨A+1+1,3,none⟩) (.inl (.inl rfl)) _).setCell (p:=⟨A+1+1,4,none⟩) (.inl (.inl rfl)) _).setCell (p:=⟨A+1+1,5,none⟩) (.inl (.inl rfl)) _).setCell (p:=⟨A+1+1+1,0,none⟩) (.inl (.inr rfl)) _).setCell (p:=⟨A+1+1+1,1,none⟩) (.inl (.inr rfl)) _).setCell (p:=⟨A+1+1+1,2,none⟩) (.inl (.inr rfl)) _).setCell (p:=⟨A+1+1+1,3,none⟩) (.inl (.inr rfl)) _),_,_,_,_,_,_,_,_,_,_,((((((((((q2.set 0 (vI 3)).set 1 (vI z)).set 2 (.bool g)).set 3 (.slice a m c)).set 4 vE).set 5 (.slice la 0 lc)).other (a:=⟨A+1+1+1,0,none⟩) b.out.2.2.symm (.bool n4)).other (a:=⟨A+1+1+1,1,none⟩) b.out.2.2.symm (.slice V m4 c4)).other (a:=⟨A+1+1+1,2,none⟩) b.out.2.2.symm (.bool n5)).other (a:=⟨A+1+1+1,3,none⟩) b.out.2.2.symm (.slice Y m5 c5)),⟨g,a,m,c,la,lc,rfl,(hC.keep k6).keep k4⟩,_,_,_,_,_,_,_,_,((((t6.set 0 (.bool n4)).set 1 (.slice V m4 c4)).set 2 (.bool n5)).set 3 (.slice Y m5 c5)),((i4.below j).keep k6).keep k4,((i5.below j).keep k6).keep k4⟩
theorem Hf {w w1 X:World}{R:World→Prop}{b q:Nat}{t D:TypeId}{j k:Int}{l s x:Bool}{m o u y:Option Addr}{m3 g f i z B A C:Nat}{n:ByteArray}(h:fI w w1 R [(b,t,(lV j k l m m3 g n o f i)),(q,D,[.bool s,.slice u z B,.bool x,.slice y A C])] X)(c:q≠b)(E:∀ Y r,R Y→(∀ v xs,Reads .u32 Y v xs→Reads .u32 r v xs)→R r)(d:w.heap.size≤b):fI w w1 R [(b,t,(lV j k l m m3 g n o f i)),(q,D,[.bool s,.slice u z B,.bool x,.slice y A C])] ((((((X.setCell ⟨b,0,none⟩ (vI j)).setCell ⟨b,1,none⟩ (vI k)).setCell ⟨b,2,none⟩ (.bool l)).setCell ⟨b,3,none⟩ (.slice m m3 g)).setCell ⟨b,4,none⟩ (.string n)).setCell ⟨b,5,none⟩ (.slice o f i)) :=
 ⟨ax ((((((h.r0.set 0 (vI j)).set 1 (vI k)).set 2 (.bool l)).set 3 (.slice m m3 g)).set 4 (.string n)).set 5 (.slice o f i)) (ax ((((((h.r1.other (a:=⟨b,0,none⟩) c (vI j)).other (a:=⟨b,1,none⟩) c (vI k)).other (a:=⟨b,2,none⟩) c (.bool l)).other (a:=⟨b,3,none⟩) c (.slice m m3 g)).other (a:=⟨b,4,none⟩) c (.string n)).other (a:=⟨b,5,none⟩) c (.slice o f i)) aS),E _ _ h.res (bQ h.r0 _ _ _ _ _ _),((((((h.below.setCell (p:=⟨b,0,none⟩) d (vI j)).setCell (p:=⟨b,1,none⟩) d (vI k)).setCell (p:=⟨b,2,none⟩) d (.bool l)).setCell (p:=⟨b,3,none⟩) d (.slice m m3 g)).setCell (p:=⟨b,4,none⟩) d (.string n)).setCell (p:=⟨b,5,none⟩) d (.slice o f i)),fun v xs F=>bQ h.r0 _ _ _ _ _ _ v xs (h.more v xs F),by simpa only [JN] using h.size⟩
theorem Hg {w w1 X:World}{R:World→Prop}{b c:Nat}{t x:TypeId}{y z:Int}{A f i:Bool}{B D g j:Option Addr}{m3 s r u k m l n:Nat}{C:ByteArray}(h:fI w w1 R [(b,t,(lV y z A B m3 s C D r u)),(c,x,[.bool f,.slice g k m,.bool i,.slice j l n])] X)(d:b≠c)(E:∀ Y q,R Y→(∀ v xs,Reads .u32 Y v xs→Reads .u32 q v xs)→R q)(o:w.heap.size≤c):fI w w1 R [(b,t,(lV y z A B m3 s C D r u)),(c,x,[.bool f,.slice g k m,.bool i,.slice j l n])] ((((X.setCell ⟨c,0,none⟩ (.bool f)).setCell ⟨c,1,none⟩ (.slice g k m)).setCell ⟨c,2,none⟩ (.bool i)).setCell ⟨c,3,none⟩ (.slice j l n)) :=
 ⟨ax ((((h.r0.other (a:=⟨c,0,none⟩) d (.bool f)).other (a:=⟨c,1,none⟩) d (.slice g k m)).other (a:=⟨c,2,none⟩) d (.bool i)).other (a:=⟨c,3,none⟩) d (.slice j l n)) (ax ((((h.r1.set 0 (.bool f)).set 1 (.slice g k m)).set 2 (.bool i)).set 3 (.slice j l n)) aS),E _ _ h.res (tX h.r1 _ _ _ _),((((h.below.setCell (p:=⟨c,0,none⟩) o (.bool f)).setCell (p:=⟨c,1,none⟩) o (.slice g k m)).setCell (p:=⟨c,2,none⟩) o (.bool i)).setCell (p:=⟨c,3,none⟩) o (.slice j l n)),fun v xs F=>tX h.r1 _ _ _ _ v xs (h.more v xs F),by simpa only [JN] using h.size⟩
theorem EM (va vb:Value)(na nb:Bool)(D E:List Nat)(w:World)(ha:dx w va na D)(hb:dx w vb nb E) :
  Calls prog 49 #[va,vb] w fun e w'=>bW w w'∧∃ u x y z b d A C f g o q j l s t n m,∃ k:Int,e=.returned (.tuple #[vV u x y z b d A C f g,.agg #[.bool o,.slice q j l,.bool s,.slice t n m],vI k])∧ji w' (jZ (au na D) (au nb E) (D.length:Int) (bX nb (val E))) (bX na (val D)) (bX nb (val E)) k (vV u x y z b d A C f g) (.agg #[.bool o,.slice q j l,.bool s,.slice t n m]):=by
 obtain ⟨va,rfl,S,a3⟩:=ha;obtain ⟨vb,rfl,T,a4⟩:=hb;obtain ⟨V,ca,rfl,fA,gy⟩:=S.form;obtain ⟨Z,cb,rfl,ag,ah⟩:=T.form;have uZ:=lK;obtain ⟨I,hW,b0,q1,q2,q3,q4⟩:=NG w 24 (lN na V D.length ca) 24 (lN nb Z E.length cb) 27 (lV 0 0 false none 0 0 ⟨#[]⟩ none 0 0) 59 [vF,vZ,vF,vZ]
 have G:I.heap.size=w.heap.size+1+1+1+1:=by rw [← hW.out];simp only [Qh]
 have qe:=Qi I 31 (vI 0);have N:=b0.alloc b0.size (.cells #[vI 0] 31);have p1:=q1.alloc (.cells #[vI 0] 31);have p2:=q2.alloc (.cells #[vI 0] 31);have p3:=q3.alloc (.cells #[vI 0] 31);have p4:=q4.alloc (.cells #[vI 0] 31)
 have a8:Calls prog 119 #[vP w.heap.size,vP (w.heap.size+1),vP (w.heap.size+1+1),vP (w.heap.size+1+1+1)] (I.alloc (.cells #[vI 0] 31)) fun e W=>∃ k,(k=0∧e=.returned (.tuple #[])∨e=pK k)∧dF (fun i=>i=w.heap.size+1+1∨i=w.heap.size+1+1+1) (I.alloc (.cells #[vI 0] 31)) W∧∃ u x y z b d A C f g o q j l s t n m,af W (w.heap.size+1+1) 27 (lV u x y z b d A C f g)∧af W (w.heap.size+1+1+1) 59 [.bool o,.slice q j l,.bool s,.slice t n m]∧ji W (jZ (au na D) (au nb E) (D.length:Int) (bX nb (val E))) (bX na (val D)) (bX nb (val E)) k (vV u x y z b d A C f g) (.agg #[.bool o,.slice q j l,.bool s,.slice t n m]):=by
  have iA:dx (I.alloc (.cells #[vI 0] 31)) (vN na V D.length ca) na D:=⟨_,rfl,S.below N,a3⟩
  have iB:dx (I.alloc (.cells #[vI 0] 31)) (vN nb Z E.length cb) nb E:=⟨_,rfl,T.below N,a4⟩
  by_cases hK:jZ (au na D) (au nb E) (D.length:Int) (bX nb (val E))=0
  case neg =>
   refine (De w.heap.size na nb V Z ca cb D E _ p1 p2 p3 p4 iA iB hK).mono ?_;rintro e W ⟨H,rfl⟩;refine ⟨_,.inr rfl,(dF.refl _ _).aU H,0,0,false,none,0,0,⟨#[]⟩,none,0,0,false,none,0,0,false,none,0,0,p3.below H,p4.below H,?_⟩;unfold ji;rw [if_neg hK];exact ⟨rfl,rfl,rfl⟩
  case pos =>
   by_cases hf:(least (nG (bX na (val D)) (bX nb (val E))) 20).1.natAbs<aj^40
   ·obtain ⟨r,q9,U⟩:∃ r q9,least (nG (bX na (val D)) (bX nb (val E))) 20=(r,q9):=⟨_,_,rfl⟩
    have a1:=hf;rw [U] at a1;refine (Bz w.heap.size na nb V Z ca cb D E _ _ r q9 _ p1 p2 p3 p4 iA iB rfl rfl hK U a1).mono ?_;rintro e W ⟨rfl,hC,u,x,y,z,b,d,A,C,f,g,hr,hD,o,q,j,l,s,t,n,m,M,hI,hJ⟩;refine ⟨0,.inl ⟨rfl,rfl⟩,hC,u,x,y,z,b,d,A,C,f,g,o,q,j,l,s,t,n,m,hr,M,?_⟩;unfold ji;rw [if_pos hK,if_pos hf,U]
    exact ⟨rfl,hD,_,_,_,_,_,_,_,_,rfl,hI,hJ⟩
   ·refine (zy w.heap.size na nb V Z ca cb D E _ _ _ p1 p2 p3 p4 iA iB rfl rfl hK hf).mono ?_
    rintro e W ⟨H,rfl⟩;refine ⟨3,.inr rfl,(dF.refl _ _).aU H,0,0,false,none,0,0,⟨#[]⟩,none,0,0,false,none,0,0,false,none,0,0,p3.below H,p4.below H,?_⟩;unfold ji;rw [if_pos hK,if_neg hf];exact ⟨rfl,rfl,rfl⟩
 have ve:=fT 119 #[vP w.heap.size,vP (w.heap.size+1),vP (w.heap.size+1+1),vP (w.heap.size+1+1+1)] I (fun k W=>dF (fun i=>i=w.heap.size+1+1∨i=w.heap.size+1+1+1) (I.alloc (.cells #[vI 0] 31)) W∧∃ u x y z b d A C f g o q j l s t n m,af W (w.heap.size+1+1) 27 (lV u x y z b d A C f g)∧af W (w.heap.size+1+1+1) 59 [.bool o,.slice q j l,.bool s,.slice t n m]∧ji W (jZ (au na D) (au nb E) (D.length:Int) (bX nb (val E))) (bX na (val D)) (bX nb (val E)) k (vV u x y z b d A C f g) (.agg #[.bool o,.slice q j l,.bool s,.slice t n m]))
  (fun W=>by simp [go_sem])
  (fun k W h=>h.1.boxed qe (by rw [G];omega))
  (by
   refine a8.mono ?_;rintro e W ⟨k,h1,h2⟩
   rcases h1 with ⟨rfl,rfl⟩ | rfl
   ·exact .inl ⟨rfl,h2⟩
   ·exact .inr ⟨k,rfl,h2⟩)
 obtain ⟨Q,L⟩:∃ Q:World→Int→Value→Value→Prop,Q=fun W k v c=>ji W (jZ (au na D) (au nb E) (D.length:Int) (bX nb (val E))) (bX na (val D)) (bX nb (val E)) k v c:=⟨_,rfl⟩
 have hQ:∀ k v c W W',Q W k v c→(∀ v xs,Reads .u32 W v xs→Reads .u32 W' v xs)→Q W' k v c:=by
  rw [L]
  exact fun _ _ _ _ _ h hk=>h.keep hk
 replace ve:=ve.mono (R':=fun e W'=>∃ k W,(dF (fun i=>i=w.heap.size+1+1∨i=w.heap.size+1+1+1) (I.alloc (.cells #[vI 0] 31)) W∧∃ u x y z b d A C f g o q j l s t n m,af W (w.heap.size+1+1) 27 (lV u x y z b d A C f g)∧af W (w.heap.size+1+1+1) 59 [.bool o,.slice q j l,.bool s,.slice t n m]∧Q W k (vV u x y z b d A C f g) (.agg #[.bool o,.slice q j l,.bool s,.slice t n m]))∧e=.returned (vI k)∧W'=W.setCell ⟨I.heap.size,0,none⟩ (vI k)) (fun e w9 h=>by rw [L];exact h)
 suffices main:Calls prog 49 #[vN na V D.length ca,vN nb Z E.length cb] w fun e w'=>bW w w'∧∃ u x y z b d A C f g o q j l s t n m,∃ k:Int,e=.returned (.tuple #[vV u x y z b d A C f g,.agg #[.bool o,.slice q j l,.bool s,.slice t n m],vI k])∧Q w' k (vV u x y z b d A C f g) (.agg #[.bool o,.slice q j l,.bool s,.slice t n m]) by
  refine main.mono ?_;rintro e w9 ⟨hb,u,x,y,z,b,d,A,C,f,g,o,q,j,l,s,t,n,m,k,he,hr⟩;rw [L] at hr;exact ⟨hb,u,x,y,z,b,d,A,C,f,g,o,q,j,l,s,t,n,m,k,he,hr⟩
 have HH:=Qa (And.intro N (And.intro qe G));have d0:=q1.cell 0;have d1:=q2.cell 0;clear a8 q1 q2 q3 q4 p1 p2 p3 p4 b0 N qe G L S a3 fA gy T a4 ag ah;go_enter func49,ntmps49
 go_upto_region 1 with (fail)
 rw [hW.out];clear hW
 go_upto_region 2 with (refine ve.mono ?_;rintro e W' ⟨k,W,⟨R,u,x,y,z,b,d,A,C,f,g,o,q,j,l,s,t,n,m,a5,M,O⟩,rfl,rfl⟩;obtain ⟨N,qe,G⟩:=HH.out;rw [G];have a6:=a5.other (a:=⟨w.heap.size+1+1+1+1,0,none⟩) (by simp) (vI k);have a7:=M.other (a:=⟨w.heap.size+1+1+1+1,0,none⟩) (by simp) (vI k))
 have e4:=(R.boxed qe (by rw [G];omega)).cell;rw [G] at e4;have ig:bW w W:=N.trans (R.below (B:=w.heap.size) (fun i hi=>by omega) N.size)
 have a2:∀ v xs,Reads .u32 W v xs→Reads .u32 (W.setCell ⟨w.heap.size+1+1+1+1,0,none⟩ (vI k)) v xs:=fun v xs h=>h.setOther e4 (by simp) _
 have a0:=ig.setCell (p:=⟨w.heap.size+1+1+1+1,0,none⟩) (by simp;omega) (vI k)
 have hR:∀ Y Y2,Q Y k (vV u x y z b d A C f g) (.agg #[.bool o,.slice q j l,.bool s,.slice t n m])→(∀ v xs,Reads .u32 Y v xs→Reads .u32 Y2 v xs)→Q Y2 k (vV u x y z b d A C f g) (.agg #[.bool o,.slice q j l,.bool s,.slice t n m]):=fun Y Y2=>hQ _ _ _ _ _
 generalize a9:(W.setCell ⟨w.heap.size+1+1+1+1,0,none⟩ (vI k))=X9 at *;clear a9 e4 R a5 M
 have hP:fI w X9 (fun Y=>Q Y k (vV u x y z b d A C f g) (.agg #[.bool o,.slice q j l,.bool s,.slice t n m])) [(w.heap.size+1+1,27,(lV u x y z b d A C f g)),(w.heap.size+1+1+1,59,[.bool o,.slice q j l,.bool s,.slice t n m])] X9:=⟨ax a6 (ax a7 aS),hR _ _ O a2,a0,fun _ _ h=>h,Qb _⟩
 have hS:Hid (∀ X,fI w X9 (fun Y=>Q Y k (vV u x y z b d A C f g) (.agg #[.bool o,.slice q j l,.bool s,.slice t n m])) [(w.heap.size+1+1,27,(lV u x y z b d A C f g)),(w.heap.size+1+1+1,59,[.bool o,.slice q j l,.bool s,.slice t n m])] X→(X.cell? ⟨w.heap.size+1+1,0,none⟩=some (vI u)∧X.cell? ⟨w.heap.size+1+1,1,none⟩=some (vI x)∧X.cell? ⟨w.heap.size+1+1,2,none⟩=some (.bool y)∧X.cell? ⟨w.heap.size+1+1,3,none⟩=some (.slice z b d)∧X.cell? ⟨w.heap.size+1+1,4,none⟩=some (.string A)∧X.cell? ⟨w.heap.size+1+1,5,none⟩=some (.slice C f g)∧X.cell? ⟨w.heap.size+1+1+1,0,none⟩=some (.bool o)∧X.cell? ⟨w.heap.size+1+1+1,1,none⟩=some (.slice q j l)∧X.cell? ⟨w.heap.size+1+1+1,2,none⟩=some (.bool s)∧X.cell? ⟨w.heap.size+1+1+1,3,none⟩=some (.slice t n m))∧fI w X9 (fun Y=>Q Y k (vV u x y z b d A C f g) (.agg #[.bool o,.slice q j l,.bool s,.slice t n m])) [(w.heap.size+1+1,27,(lV u x y z b d A C f g)),(w.heap.size+1+1+1,59,[.bool o,.slice q j l,.bool s,.slice t n m])] X):=Qa fun X h=>⟨⟨h.r0.cell 0,h.r0.cell 1,h.r0.cell 2,h.r0.cell 3,h.r0.cell 4,h.r0.cell 5,h.r1.cell 0,h.r1.cell 1,h.r1.cell 2,h.r1.cell 3⟩,h⟩
 clear a6 a7 O a2 a0 ig HH d0 d1 N qe G
 go_wp2_with fail
 refine bB hS (bY (fun Y h=>hR _ _ h fun _ _ h9=>h9) hP) fun X0 J=>?_
 clear hP;refine tk 0 J ?_;refine tk 1 J ?_;refine tk 2 J ?_
 refine rd 3 fun K9 ai=>?_
 have hP:=J.2;have F:=hP.r0;have y0:=F.cell 0;have y1:=F.cell 1;have y2:=F.cell 2;have y3:=F.cell 3;have y4:=F.cell 4;have y5:=F.cell 5;have f0:=F.frozen 0;have f1:=F.frozen 1;have f2:=F.frozen 2;have f3:=F.frozen 3;have f4:=F.frozen 4;have f5:=F.frozen 5;simp only [Qc,Qe] at y0 y1 y2 y3 y4 y5;clear F;have bH:=Hf hP (by omega) hR (by omega)
 go_wp2_with fail
 refine aT ai hS bH fun J=>?_
 clear ai K9 hP bH y0 y1 y2 y3 y4 y5 f0 f1 f2 f3 f4 f5
 refine rd 4 fun K9 ai=>?_
 have hP:=J.2;have F:=hP.r1;have y0:=F.cell 0;have y1:=F.cell 1;have y2:=F.cell 2;have y3:=F.cell 3;have f0:=F.frozen 0;have f1:=F.frozen 1;have f2:=F.frozen 2;have f3:=F.frozen 3;simp only [Qc,Qe] at y0 y1 y2 y3;clear F;have bH:=Hg hP (by omega) hR (by omega)
 go_wp2_with fail
 refine aT ai hS bH fun J=>?_
 clear ai K9 hP bH y0 y1 y2 y3 f0 f1 f2 f3;refine tk 5 J ?_;refine wpAnyH_done (by kernel_rfl) ?_ _;have kK:=J.2;obtain ⟨u0,u1,u2,u3,u4,u5,-,-,-,-,-,-⟩:=df kK.r0;obtain ⟨t0,t1,t2,t3,-,-,-,-⟩:=qZ kK.r1;have ad:=kK.below;have hO:=kK.res;clear J kK hS hR hQ ve
 go_wp2_with fail
 exact bodyPost_ret (v:=.tuple #[vV u x y z b d A C f g,.agg #[.bool o,.slice q j l,.bool s,.slice t n m],vI k]) (by simp [results,results49,go_sem,loadCellsFrom,u0,u1,u2,u3,u4,u5,t0,t1,t2,t3]) rfl ⟨ad,u,x,y,z,b,d,A,C,f,g,o,q,j,l,s,t,n,m,k,rfl,hO⟩
theorem KW {s:ByteArray}{l:List UInt8}(h:s.data.toList.map (·.toNat)=l.map (·.toNat)):s=⟨l.toArray⟩:=by
 have h1:s.data.toList=l:=by
  refine List.map_inj_right (f:=(·.toNat)) (fun x y e=>UInt8.toNat_inj.1 e) |>.1 h
 cases s with
 | mk d =>
  simp only at h1;rw [← h1]
theorem Hl:qF (-2) (20,1)=0:=by
 unfold qF;rw [if_neg (by decide),if_neg (by decide),if_neg];intro h
 rcases h with h | h
 ·exact absurd h (by decide)
 ·exact h (EW (by decide))
theorem Ng:kW (225,2)=(15,1):=by
 unfold kW wG;rw [Ip (r:=150000000000000000000) ⟨by decide,by decide⟩];decide
theorem Nv (g h:Value)(w:World)(ha:dX w g (1) 1)(f:dX w h (2) 1) :
 CB 28 #[g,h] w fun e s=>∃ j l m n a b o q c d,e=.returned (.tuple #[vV j l m n a b o q c d,vI 0])∧dX s (vV j l m n a b o q c d) 3 1:=by
 refine (KD g h (some (1,1)) (some (2,1)) w (jQ ha (by decide) (by decide) (by decide) (by decide):dB w _ (1) 1) (jQ f (by decide) (by decide) (by decide) (by decide):dB w _ (2) 1)).mono ?_;rintro e t ⟨f,j,l,m,n,a,b,o,q,c,d,k,rfl,hr⟩;obtain ⟨rfl,r⟩:=vK hr (rfl) (i:=3) (p:=1) (by decide) (by decide);exact ⟨f,_,_,_,_,_,_,_,_,_,_,rfl,r⟩
theorem Nw (g h:Value)(w:World)(ha:dX w g (20) 1)(f:dX w h (30) 1) :
 CB 31 #[g,h] w fun e s=>∃ j l m n a b o q c d,e=.returned (.tuple #[vV j l m n a b o q c d,vI 0])∧dX s (vV j l m n a b o q c d) 66666666666666666667 20:=by
 refine (BS g h (some (20,1)) (some (30,1)) w (jQ ha (by decide) (by decide) (by decide) (by decide):dB w _ (20) 1) (jQ f (by decide) (by decide) (by decide) (by decide):dB w _ (30) 1)).mono ?_;rintro e t ⟨f,j,l,m,n,a,b,o,q,c,d,k,rfl,hr⟩;obtain ⟨rfl,r⟩:=vK hr (by decide) (i:=66666666666666666667) (p:=20) (by decide) (by decide);exact ⟨f,_,_,_,_,_,_,_,_,_,_,rfl,r⟩
theorem Ny (f:Value)(w:World)(ha:dX w f (20) 1) :
 CB 36 #[f,vI (-2)] w fun e r=>∃ g h j l a b m n c d,e=.returned (.tuple #[vV g h j l a b m n c d,vI 0])∧dX r (vV g h j l a b m n c d) 25 2:=by
 refine (KG f (some (20,1)) (-2) w (jQ ha (by decide) (by decide) (by decide) (by decide):dB w _ (20) 1)).mono ?_;rintro e s ⟨q,g,h,j,l,a,b,m,n,c,d,k,rfl,hr⟩;obtain ⟨rfl,o⟩:=vK hr (Hl) (i:=25) (p:=2) (by decide) (by decide);exact ⟨q,_,_,_,_,_,_,_,_,_,_,rfl,o⟩
theorem Nh (f:Value)(w:World)(ha:dX w f (225) 2) :
 CB 37 #[f] w fun e q=>∃ g i j l a b m n c d,e=.returned (.tuple #[vV g i j l a b m n c d,vI 0])∧dX q (vV g i j l a b m n c d) 15 1:=by
 have h:=GN f (some (225,2)) w (jQ ha (by decide) (by decide) (by decide) (by decide):dB w _ (225) 2);rw [show BB kW (some (225,2))=(15,1) by simp only [BB];exact Ng] at h;refine h.mono ?_;rintro e r ⟨p,g,i,j,l,a,b,m,n,c,d,k,rfl,hr⟩;obtain ⟨rfl,o⟩:=vK hr (by decide) rfl (by decide);exact ⟨p,_,_,_,_,_,_,_,_,_,_,rfl,o⟩
theorem Mj (f:Value)(w:World)(ha:dX w f (25) 2) :
 CB 40 #[f,vI 1] w fun e r=>∃ g h j l a b m n c d,e=.returned (.tuple #[vV g h j l a b m n c d,vI 0])∧dX r (vV g h j l a b m n c d) 2 1:=by
 refine (EH f (some (25,2)) 1 w (jQ ha (by decide) (by decide) (by decide) (by decide):dB w _ (25) 2)).mono ?_;rintro e s ⟨q,g,h,j,l,a,b,m,n,c,d,k,rfl,hr⟩;obtain ⟨rfl,o⟩:=vK hr (by decide) (i:=2) (p:=1) (by decide) (by decide);exact ⟨q,_,_,_,_,_,_,_,_,_,_,rfl,o⟩
theorem Mk (w:World) :
 CB 57 #[.string ⟨#[48,48,55,46,53,48]⟩] w fun e q=>∃ f g h j a b l m c d,e=.returned (.tuple #[vV f g h j a b l m c d,vI 0])∧dX q (vV f g h j a b l m c d) 75 1:=by
 refine (EL _ [48,48,55,46,53,48] rfl w).mono ?_;rintro e r ⟨o,f,g,h,j,a,b,l,m,c,d,k,rfl,hr⟩;obtain ⟨rfl,n⟩:=vK hr (by decide) (i:=75) (p:=1) (by decide) (by decide);exact ⟨o,_,_,_,_,_,_,_,_,_,_,rfl,n⟩
theorem Ni (b c:Value)(w:World)(ha:dX w b (10) 1)(a:dX w c (0) 1) :
 CB 31 #[b,c] w fun e _=>∃ i j l m d f n o g h,e=.returned (.tuple #[vV i j l m d f n o g h,vI 20]):=by
 refine (BS b c (some (10,1)) (some (0,1)) w (jQ ha (by decide) (by decide) (by decide) (by decide):dB w _ (10) 1) (jQ a (by decide) (by decide) (by decide) (by decide):dB w _ (0) 1)).mono ?_;rintro e p ⟨a,i,j,l,m,d,f,n,o,g,h,k,rfl,hr⟩;unfold dG at hr;rw [if_neg (by decide)] at hr;obtain ⟨rfl,-⟩:=hr;exact ⟨a,_,_,_,_,_,_,_,_,_,_,rfl⟩
theorem Nj (b:Value)(w:World)(ha:dX w b (-25) 1) :
 CB 43 #[b] w fun e g=>∃ n a m c,e=.returned (.tuple #[vN n a m c,vI 0])∧ak g (vN n a m c) (-2):=by
 refine (GQ b (some (-25,1)) w (jQ ha (by decide) (by decide) (by decide) (by decide):dB w _ (-25) 1)).mono ?_;rintro e h ⟨f,n,a,m,c,k,rfl,hr⟩;unfold fQ at hr;rw [if_pos (show vg (fun _=>0) (some (-25,1))=0 from rfl),show Lg wH (some (-25,1))=-2 by decide] at hr;obtain ⟨rfl,d⟩:=hr;exact ⟨f,_,_,_,_,rfl,d⟩
theorem Nk (a:Value)(w:World)(ha:dX w a (-5) 2)(b:gU w) :
 CB 55 #[a] w fun e _=>e=.returned (.tuple #[.string ⟨#[45,48,46,48,53]⟩,vI 0]):=by
 refine (GZ a (some (-5,2)) w (jQ ha (by decide) (by decide) (by decide) (by decide):dB w _ (-5) 2) b).mono ?_;rintro e f ⟨c,s,k,rfl,rfl,d,e,hs⟩
 obtain rfl:s=d:=by simpa using e
 refine ⟨c,?_⟩;rw [KW (s:=s) (l:=[45,48,46,48,53]) (hs.trans (by decide))]
theorem Ml (j l:Value)(w:World)(ha:ak w j 1)(G:ak w l 4) :
 CB 49 #[j,l] w fun e v=>∃ o p q r d f s t h i,∃ n a m c g a2 m2 c2,e=.returned (.tuple #[vV o p q r d f s t h i,.agg #[.bool n,.slice a m c,.bool g,.slice a2 m2 c2],vI 0])∧dX v (vV o p q r d f s t h i) 25 2∧ak v (vN g a2 m2 c2) 0:=by
 obtain ⟨na,b,C,A,u,z,I⟩:=ha.at (EW (by decide));obtain ⟨nb,x,D,B,y,H,J⟩:=G.at (EW (by decide));refine (EM j l na nb b x w C D).mono ?_;rintro e X ⟨h1,o,p,q,r,d,f,s,t,h,i,Y,Z,S,T,x2,x3,V,U,k,rfl,hr⟩;rw [← u,← y] at hr
 have Q:b.length≤1:=(bS z 1).2 (by
  have:=congrArg Int.natAbs u;rw [bM] at this;rw [← this]
  decide)
 unfold ji at hr;rw [if_pos (show jZ (au na b) (au nb x) (b.length:Int) 4=0 by rw [A,B];unfold jZ;rw [if_neg (by decide),if_neg (by decide),if_neg (by omega)]),show least (nG 1 4) 20=(25,2) by decide,show nG 1 4=25000000000000000000 by decide,if_pos (Hz (by decide))] at hr;obtain ⟨rfl,E,g,a,m,c,N,L,R,M,e,O,F⟩:=hr
 simp only [Value.agg.injEq,Array.mk.injEq,List.cons.injEq,Value.bool.injEq,Value.slice.injEq,and_true] at e;obtain ⟨rfl,⟨rfl,rfl,rfl⟩,rfl,rfl,rfl,rfl⟩:=e;exact ⟨h1,_,_,_,_,_,_,_,_,_,_,_,_,_,_,_,_,_,_,rfl,E,F⟩
end Go.Proofs.YtagjhmodblifbaaGreatDoor
namespace Go.Proofs.YtagjhmodblifbaaGreatDoor
open Go.Proofs.Tryz
open Go Go.RowKit Go.Shelf
attribute [local go_sem] Jc
theorem wW (s:ByteArray)(d:List UInt8)(g:s.data.toList=d)(C:d.length≤100000)(a:Nat)(n:a≤d.length)(w:World) :
  Calls prog 134 #[.string s,vI a] w fun e L=>w=L∧e=.returned (vI (fG (d.drop a):Int)):=by
 have p:s.size=d.length:=by rw [← g];exact (bU s).symm
 go_enter func134,ntmps134;go_wp2
 go_loop [5] (fun v=>∃ k:Nat,a+k≤d.length∧v=vI k∧(∀ c ∈ (d.drop a).take k,iy c=true)) (fun v=>d.length - (intOf v).toNat)
 case atStart=>exact ⟨0,by omega,rfl,by simp⟩
 case round =>
  obtain ⟨k,z,rfl,b⟩:=hrel
  have u:(a:Int)+(k:Int)=((a+k:Nat):Int):=by omega
  by_cases h:a+k<d.length
  ·have l:k<(d.drop a).length:=by rw [JH];omega
   have B:=dN s (a+k) d g h;have o:(d.drop a)[k]=d[a+k]:=List.getElem_drop ..;have m:=Ae l;have i:=rC l b;rw [o] at m i;have A:=UInt8.toNat_lt d[a+k];have f:iy d[a+k]=(decide (48≤d[a+k].toNat)&&decide (d[a+k].toNat≤57)):=rfl;generalize d[a+k]=x at *
   have G:(a:Int)+(k:Int)<(s.size:Int):=by omega
   rw [← u] at B
   have D:IntKind.i64.wrap ((a:Int)+(k:Int))=(a:Int)+(k:Int):=by rw [Qx];omega
   by_cases h1:x.toNat<48
   ·have H:decide ((48:Int)≤(x.toNat:Int))=false:=decide_eq_false (by omega)
    have q:iy x=false:=by rw [f,decide_eq_false (by omega)];rfl
    have r:fG (d.drop a)=k:=by unfold fG;rw [i q,Jp];omega
    have t:=Qa r;clear i f b m o l A g p r u z h q n;go_wp2;go_ret;exact ⟨rfl,by rw [t.out];rfl⟩
   ·have H:decide ((48:Int)≤(x.toNat:Int))=true:=decide_eq_true (by omega)
    by_cases M:57<x.toNat
    ·have I:decide ((x.toNat:Int)≤57)=false:=decide_eq_false (by omega)
     have q:iy x=false:=by rw [f,decide_eq_true (by omega),decide_eq_false (by omega)];rfl
     have r:fG (d.drop a)=k:=by unfold fG;rw [i q,Jp];omega
     have t:=Qa r;clear i f b m o l A g p r u z h q n;go_wp2;go_ret;exact ⟨rfl,by rw [t.out];rfl⟩
    ·have I:decide ((x.toNat:Int)≤57)=true:=decide_eq_true (by omega)
     have q:iy x=true:=by rw [f,decide_eq_true (by omega),decide_eq_true (by omega)];rfl
     have j:∀ c ∈ (d.drop a).take (k+1),iy c=true:=by
      rw [m];intro c y
      rcases ZB.1 y with y | y
      ·exact b c y
      ·rw [Xk.1 y];exact q
     have F:=Qa j;have E:=Qa (And.intro h C)
     have J:IntKind.i64.wrap ((k:Int)+1)=(k:Int)+1:=by rw [Qx];omega
     clear i f b m j o l A g p u z h q n;go_wp2
     go_round
     case rel=>exact ⟨k+1,by have:=E.out.1;omega,by simp,F.out⟩
     case measure=>have:=E.out.1;simp [intOf];omega
  ·have G:¬(a:Int)+(k:Int)<(s.size:Int):=by omega
   have D:IntKind.i64.wrap ((a:Int)+(k:Int))=(a:Int)+(k:Int):=by rw [Qx];omega
   have r:fG (d.drop a)=k:=by
    rw [Qv (by rw [JH];omega)] at b;unfold fG;rw [sG b,JH];omega
   have t:=Qa r;clear g p r u z h n b;go_wp2;go_ret;exact ⟨rfl,by rw [t.out];rfl⟩
end Go.Proofs.YtagjhmodblifbaaGreatDoor
namespace Go.Proofs.YtagjhmodblifbaaGreatDoor
open Go.Proofs.Tryz
open Go Go.RowKit Go.Shelf
def oI (c:Nat):Nat:=if 48≤c∧c≤57 then c - 48 else if 97≤c∧c≤122 then c - 87 else if 65≤c∧c≤90 then c - 55 else 99
theorem rM {c b:Nat}(a:b≤36):oI c<b↔digitVal c<b:=by
 unfold oI digitVal
 (repeat' split) <;> omega
theorem Mm {c b:Nat}(a:b≤36)(h:digitVal c<b):oI c=digitVal c:=by
 revert h
 unfold oI digitVal
 (repeat' split) <;> omega
theorem qf (c:Nat)(w:World)(h:c<256) :
  Calls prog 180 #[.int .u8 c] w fun e g=>w=g∧e=.returned (vI (oI c)):=by
 have b:(48≤c∧c≤57∧oI c=c - 48)∨(97≤c∧c≤122∧oI c=c - 87)∨(65≤c∧c≤90∧oI c=c - 55)∨((c<48∨57<c)∧(c<97∨122<c)∧(c<65∨90<c)∧oI c=99):=by
  unfold oI;(repeat' split) <;> omega
 rcases b with ⟨h1,f,d⟩ | ⟨h1,f,d⟩ | ⟨h1,f,d⟩ | ⟨h1,f,h4,d⟩
 ·have a:((oI c:Nat):Int)=(c:Int) - 48:=by omega
  rw [a];clear d a;go_enter func180,ntmps180;go_wp2
  all_goals exact bodyPost_ret (v:=vI ((c:Int) - 48)) (by simp [results,results180,go_sem]) rfl ⟨rfl,rfl⟩
 ·have a:((oI c:Nat):Int)=(c:Int) - 97+10:=by omega
  rw [a];clear d a;go_enter func180,ntmps180;go_wp2
  all_goals exact bodyPost_ret (v:=vI ((c:Int) - 97+10)) (by simp [results,results180,go_sem]) rfl ⟨rfl,rfl⟩
 ·have a:((oI c:Nat):Int)=(c:Int) - 65+10:=by omega
  rw [a];clear d a;go_enter func180,ntmps180;go_wp2
  all_goals exact bodyPost_ret (v:=vI ((c:Int) - 65+10)) (by simp [results,results180,go_sem]) rfl ⟨rfl,rfl⟩
 ·have a:((oI c:Nat):Int)=99:=by omega
  rw [a];clear d a;go_enter func180,ntmps180;go_wp2
  all_goals exact bodyPost_ret (v:=vI (99)) (by simp [results,results180,go_sem]) rfl ⟨rfl,rfl⟩
structure Ih (s:ByteArray) (neg:Bool) (o:Nat) (l:List UInt8):Prop where
 off:o=if neg then 1 else 0
 size:s.size=o+l.length
 uq:0<s.size→∀ W:World,(Instr.index 9 (.string s) (vI 0)).run prog W=.ok (.int .u8 (if neg then 45 else (((l[0]?.getD 0).toNat:Nat):Int))) W
 idx:∀ j (hj:j<l.length) (W:World),(Instr.index 9 (.string s) (vI ((o+j:Nat):Int))).run prog W=.ok (.int .u8 (((l[j]'hj).toNat:Nat):Int)) W
 sign:((if neg then 45 else (((l[0]?.getD 0).toNat:Nat):Int)) == 45)=neg
theorem KX {s:ByteArray}{neg:Bool}{l:List UInt8}(b:FE s neg l):∃ o,o≤1∧Ih s neg o l:=by
 obtain ⟨hs,hf⟩:=b
 have a:s.size=(if neg then 1 else 0)+l.length:=by
  rw [← bU,hs]
  cases neg <;> simp [Zn]
 refine ⟨if neg then 1 else 0,by split <;> omega,rfl,a,?_,?_,?_⟩
 ·intro h W
  have:=dN s 0 _ hs (by cases neg <;> simp at a ⊢ <;> omega) W;rw [QC] at this;rw [this];cases neg
  ·have d:0<l.length:=by simp at a;omega
   simp [Qs d]
  ·rfl
 ·intro j f W
  have:=dN s ((if neg then 1 else 0)+j) _ hs (by cases neg <;> simp <;> omega) W;rw [this];cases neg
  ·simp
  ·simp [Zn 1 j]
 ·cases neg
  ·cases l with
   | nil=>rfl
   | cons c t =>
    have:=hf rfl c rfl;simp;omega
  ·rfl
theorem Df (s:ByteArray)(base:Int)(w:World)(b:base<2∨36<base) :
 CB 135 #[.string s,vI base] w fun e _=>e=.returned (.agg #[vF,vZ,vI 1]):=by
 have a:=dJ w (.cells #[vF,vZ,vI 1] 118)
 rcases ZR base 2 with h | h
 ·have h1:decide (base<2)=true:=decide_eq_true h
  clear b h;go_enter func135,ntmps135
  go_wp2_with fail
  exact bodyPost_ret (v:=.agg #[vF,vZ,vI 1]) (by simp [results,results135,go_sem,loadCellsFrom]) rfl ⟨a,rfl⟩
 ·have h1:decide (base<2)=false:=decide_eq_false (by omega)
  have c:decide (36<base)=true:=decide_eq_true (by omega);clear b h;go_enter func135,ntmps135
  go_wp2_with fail
  exact bodyPost_ret (v:=.agg #[vF,vZ,vI 1]) (by simp [results,results135,go_sem,loadCellsFrom]) rfl ⟨a,rfl⟩
theorem EN (s:ByteArray)(b:Nat)(neg:Bool)(o:Nat)(l:List UInt8)(w:World)(F:Ih s neg o l)(ho:o≤1)(h2:2≤b)(M:b≤36)(hlen:l.length≤400)(u:l=[]∨¬∀ c ∈ l,digitVal c.toNat<b) :
 CB 135 #[.string s,vI b] w fun e _=>e=.returned (.agg #[vF,vZ,vI 2]):=by
 have N:=dJ w (.cells #[vF,vZ,vI 2] 118);have b0:=dJ w (.cells #[vF,vZ,vI 0] 118);have r0:=af.new w 118 [vF,vZ,vI 0];have h1:decide ((b:Int)<2)=false:=decide_eq_false (by omega);have h3:decide (36<(b:Int))=false:=decide_eq_false (by omega)
 obtain ⟨z,hz⟩:∃ z,s.size=z:=⟨_,rfl⟩
 have E:=Qa F
 have t:z=o+l.length:=by rw [← hz,F.size]
 have y:(decide ((0:Int)<(z:Int)))=decide (0<z):=by simp
 have a:∀ W,0<z→(Instr.index 9 (.string s) (vI 0)).run prog W=.ok (.int .u8 (if neg then 45 else (((l[0]?.getD 0).toNat:Nat):Int))) W:=fun W h=>F.uq (by omega) W
 have U:=F.sign;generalize (if neg then 45 else (((l[0]?.getD 0).toNat:Nat):Int))=c0 at *;clear F
 have d:o=if neg then 1 else 0:=E.out.off
 have Y:=Qa u;clear u;go_enter func135,ntmps135
 go_upto_region 4 with (fail)
 go_cut [23] from 16 to 22 (fun v W=>v=.bool neg∧W=w.alloc (.cells #[vF,vZ,vI 0] 118))
 case first =>
  have n:=Qa t;have B:=Qa d;clear t E d
  by_cases h0:0<z
  ·have T:decide ((0:Int)<(z:Int))=true:=decide_eq_true (by omega)
   have r:decide (0<z)=true:=decide_eq_true h0
   have hi:=fun W=>a W h0
   clear a y h0;go_wp2
   go_meet
   exact ⟨rfl,rfl⟩
  ·have T:decide ((0:Int)<(z:Int))=false:=decide_eq_false (by omega)
   have r:decide (0<z)=false:=decide_eq_false h0
   have hn:neg=false:=by
    have hZ:=n.out;have hO:=B.out;cases neg
    ·rfl
    ·simp at hO;omega
   subst hn;clear a y h0;go_wp2
   go_meet
   exact ⟨rfl,rfl⟩
 case rest =>
  obtain ⟨rfl,rfl⟩:=hcut;have n:=Qa t;have B:=Qa d;clear t a y U d
  go_upto_if 23 with (fail)
  go_cut [5] from 24 to 24 (fun v W=>v=vI o∧W=w.alloc (.cells #[vF,vZ,vI 0] 118))
  case first =>
   cases neg
   ·obtain rfl:o=0:=B.out
    go_wp2
    go_meet
    exact ⟨rfl,rfl⟩
   ·obtain rfl:o=1:=B.out
    go_wp2
    go_meet
    exact ⟨rfl,rfl⟩
  case rest =>
  obtain ⟨rfl,rfl⟩:=hcut
  by_cases m:l=[]
  ·have V:z=o:=by have:=n.out;subst m;simpa using this
   subst V
   have D:((z:Int) == (z:Int))=true:=by simp
   have HL:=Qa m;clear m
   go_wp2_with fail
   exact bodyPost_ret (v:=.agg #[vF,vZ,vI 2]) (by simp [results,results135,go_sem,loadCellsFrom]) rfl ⟨N,rfl⟩
  ·obtain ⟨p,hp,r,I⟩:=Ac b l (Y.out.resolve_left m)
   have d:((o:Int) == (z:Int))=false:=by have:=n.out;simp;omega
   have L:=Qa (And.intro r I);clear r I m Y
   go_wp2_with fail
   generalize G:w.alloc (.cells #[vF,vZ,vI 0] 118)=W0 at *;have HW:=Qa G;clear G
   go_loop [6] (fun i=>∃ j:Nat,j≤p∧i=vI ((o+j:Nat):Int)) (fun i=>z - (intOf i).toNat)
   case atStart=>exact ⟨0,QF _,rfl⟩
   case round =>
    obtain ⟨j,R,rfl⟩:=hrel
    have g:j<l.length:=by omega
    have A:z<500:=by have:=n.out;omega
    have H:=fun W=>E.out.idx j g W
    obtain ⟨c,C⟩:∃ c,(l[j]'g).toNat=c:=⟨_,rfl⟩
    have f:c<256:=by rw [← C];exact (l[j]'g).toNat_lt
    rw [C] at H;have S:decide (((o+j:Nat):Int)<(z:Int))=true:=decide_eq_true (by have:=n.out;omega)
    obtain ⟨q,D⟩:∃ q,o+j=q:=⟨_,rfl⟩
    rw [D] at H S ⊢;have a0:decide (q<z)=true:=decide_eq_true (by have:=n.out;omega)
    by_cases k:j=p
    ·have x:¬digitVal c<b:=by subst k;rw [← C];exact L.out.1
     have O:decide ((b:Int)≤((oI c:Nat):Int))=true:=decide_eq_true (by have:=rM (c:=c) M;omega);have Q:decide (b≤oI c)=true:=decide_eq_true (by have:=rM (c:=c) M;omega);have Z:=Qa (And.intro k D);have k0:=r0.cell 0;have k1:=r0.cell 1;have k2:=r0.cell 2;have k3:=r0.frozen 0;have k4:=r0.frozen 1;have k5:=r0.frozen 2;simp only [Qc,Qe] at k0 k1 k2
     clear C k D A HW B L E n d ho hp R g h1 h3 N h2 hlen x
     go_wp2_with (go_at_call 180;refine (qf c _ f).mono ?_;rintro e w2 ⟨rfl,rfl⟩)
     have X:=((r0.set 0 vF).set 1 vZ).set 2 (vI 2);have u1:=X.cell 0;have u2:=X.cell 1;have u3:=X.cell 2;simp only [QB,Qz,Qc,Qe] at u1 u2 u3;exact bodyPost_ret (v:=.agg #[vF,vZ,vI 2]) (by simp [results,results135,go_sem,loadCellsFrom,u1,u2,u3]) rfl ⟨((b0.setCell (by simp) _).setCell (by simp) _).setCell (by simp) _,rfl⟩
    ·have x:digitVal c<b:=by rw [← C];exact L.out.2 j (by omega)
     have O:decide ((b:Int)≤((oI c:Nat):Int))=false:=decide_eq_false (by have:=rM (c:=c) M;omega);have Q:decide (b≤oI c)=false:=decide_eq_false (by have:=rM (c:=c) M;omega)
     have J:q<z:=by have:=n.out;omega
     have Z:=Qa (And.intro D (And.intro k (And.intro J (And.intro R A))));clear C D k J A HW B L E n d ho hp R g h1 h3 N h2 hlen x b0 r0
     go_wp2_with (go_at_call 180;refine (qf c _ f).mono ?_;rintro e w2 ⟨rfl,rfl⟩)
     obtain ⟨h5,h6,h7,h8,h9⟩:=Z.out
     have hw:wrap64 ((q:Int)+1)=((q+1:Nat):Int):=by unfold wrap64;omega
     rw [hw];refine ⟨⟨j+1,?_,?_⟩,?_⟩
     ·omega
     ·rw [← h5];rfl
     ·simp only [intOf,QP];omega
structure NN (w:World) (n:Bool) (a:Option Addr) (m c:Nat) (X:World):Prop where
 r4:af X w.heap.size 118 [vF,vZ,vI 0]
 r7:af X (w.heap.size+1) 24 (lN n a m c)
 below:bW w X
structure Nq (w:World) (X:World):Prop where
 r4:af X w.heap.size 118 [vF,vZ,vI 0]
 r7:∃ n a m c,af X (w.heap.size+1) 24 (lN n a m c)
 below:bW w X
structure Ld (w:World) (n:Bool) (a:Option Addr) (m c:Nat) (X:World):Prop where
 r4:∃ n0 a0 m0 c0 k0,af X w.heap.size 118 [.bool n0,.slice a0 m0 c0,vI k0]
 r7:af X (w.heap.size+1) 24 (lN n a m c)
 below:bW w X
section
variable {w X X':World} {n:Bool} {a:Option Addr} {m c:Nat}
theorem qN (h:Nq w X)(b:bW X X'):Nq w X':=⟨h.r4.below b,h.r7.elim fun n h=>h.elim fun a h=>h.elim fun m h=>h.elim fun c h=>⟨n,a,m,c,h.below b⟩,h.below.trans (b.mono h.below.size)⟩
theorem Mo (h:Nq w X)(n:Bool)(a:Option Addr)(m c:Nat):Nq w ((X.setCell ⟨w.heap.size+1,0,none⟩ (.bool n)).setCell ⟨w.heap.size+1,1,none⟩ (.slice a m c)):=by
 obtain ⟨h1,⟨n0,f,i,g,b⟩,d⟩:=h;exact ⟨(h1.other (show w.heap.size≠w.heap.size+1 by omega) _).other (show w.heap.size≠w.heap.size+1 by omega) _,⟨n,a,m,c,(b.set 0 (.bool n)).set 1 (.slice a m c)⟩,(d.setCell (show w.heap.size≤w.heap.size+1 by omega) _).setCell (show w.heap.size≤w.heap.size+1 by omega) _⟩
theorem KY (h:Ld w n a m c X)(b:bW X X'):Ld w n a m c X':=⟨h.r4.elim fun n h=>h.elim fun a h=>h.elim fun m h=>h.elim fun c h=>h.elim fun k h=>⟨n,a,m,c,k,h.below b⟩,h.r7.below b,h.below.trans (b.mono h.below.size)⟩
theorem KZ (h:Ld w n a m c X):Ld w n a m c X.drew:=⟨h.r4,h.r7,h.below.drew⟩
theorem Mq (h:Ld w n a m c X)(i:Bool)(b:Option Addr)(g d:Nat)(f:Int):Ld w n a m c (((X.setCell ⟨w.heap.size,0,none⟩ (.bool i)).setCell ⟨w.heap.size,1,none⟩ (.slice b g d)).setCell ⟨w.heap.size,2,none⟩ (vI f)):=by
 obtain ⟨⟨n0,l,p,o,k0,h1⟩,j,k⟩:=h;exact ⟨⟨i,b,g,d,f,((h1.set 0 (.bool i)).set 1 (.slice b g d)).set 2 (vI f)⟩,((j.other (show w.heap.size+1≠w.heap.size by omega) _).other (show w.heap.size+1≠w.heap.size by omega) _).other (show w.heap.size+1≠w.heap.size by omega) _,((k.setCell (Qb _) _).setCell (Qb _) _).setCell (Qb _) _⟩
theorem wC (h:Ld w n a m c X):X.cell? ⟨w.heap.size+1,1,none⟩=some (.slice a m c)∧Ld w n a m c X:=⟨h.r7.cell 1,h⟩
end
def MF (w:World)(b o:Nat)(l:List UInt8)(v:Value)(W:World):Prop:=∃ k n a m c,k≤l.length∧v=vI ((o+k:Nat):Int)∧NN w n a m c W∧ak W (vN n a m c) ((di b (l.take k):Nat):Int)
theorem qC (b:Nat)(l:List UInt8)(k:Nat)(h:k<l.length):di b (l.take (k+1))=di b (l.take k)*b+digitVal (l[k]'h).toNat:=by
 rw [Yj h,tO]
theorem Dh (s:ByteArray)(b:Nat)(neg:Bool)(o:Nat)(l:List UInt8)(w:World)(hS:Ih s neg o l)(ho:o≤1)(h2:2≤b)(om:b≤36)(hlen:l.length≤2000)(ax:l≠[])(a4:∀ c ∈ l,digitVal c.toNat<b)(a6:di b l<aj^300) :
 CB 135 #[.string s,vI b] w fun e w'=>∃ n a m c,e=.returned (.agg #[.bool n,.slice a m c,vI 0])∧ak w' (vN n a m c) (bX neg (di b l)):=by
 have ai:=Qa a6;clear a6;have b0:=dJ w (.cells #[vF,vZ,vI 0] 118);have r0:=af.new w 118 [vF,vZ,vI 0];have h1:decide ((b:Int)<2)=false:=decide_eq_false (by omega);have h3:decide (36<(b:Int))=false:=decide_eq_false (by omega)
 obtain ⟨z,hz⟩:∃ z,s.size=z:=⟨_,rfl⟩
 have O:=Qa hS
 have a3:z=o+l.length:=by rw [← hz,hS.size]
 have a1:(decide ((0:Int)<(z:Int)))=decide (0<z):=by simp
 have p:∀ W,0<z→(Instr.index 9 (.string s) (vI 0)).run prog W=.ok (.int .u8 (if neg then 45 else (((l[0]?.getD 0).toNat:Nat):Int))) W:=fun W h=>hS.uq (by omega) W
 have ae:=hS.sign;generalize (if neg then 45 else (((l[0]?.getD 0).toNat:Nat):Int))=c0 at *;clear hS
 have M:o=if neg then 1 else 0:=O.out.off
 have V:=Qa (And.intro a4 (And.intro ax (And.intro a1 p)));clear a4 ax;go_enter func135,ntmps135
 go_upto_region 4 with (fail)
 go_cut [23] from 16 to 22 (fun v W=>v=.bool neg∧W=w.alloc (.cells #[vF,vZ,vI 0] 118))
 case first =>
  have r:=Qa a3;have Y:=Qa M;clear a3 O M
  by_cases h0:0<z
  ·have b5:decide ((0:Int)<(z:Int))=true:=decide_eq_true (by omega)
   have b6:decide (0<z)=true:=decide_eq_true h0
   have hi:=fun W=>p W h0
   clear p a1 h0;go_wp2
   go_meet
   exact ⟨rfl,rfl⟩
  ·have b5:decide ((0:Int)<(z:Int))=false:=decide_eq_false (by omega)
   have b6:decide (0<z)=false:=decide_eq_false h0
   have hn:neg=false:=by
    have hZ:=r.out;have hO:=Y.out;cases neg
    ·rfl
    ·simp at hO;omega
   subst hn;clear p a1 h0;go_wp2
   go_meet
   exact ⟨rfl,rfl⟩
 case rest =>
  obtain ⟨rfl,rfl⟩:=hcut;have r:=Qa a3;have Y:=Qa M;have HG:=Qa ae;clear a3 p a1 ae M
  go_upto_if 23 with (fail)
  go_cut [5] from 24 to 24 (fun v W=>v=vI o∧W=w.alloc (.cells #[vF,vZ,vI 0] 118))
  case first =>
   cases neg
   ·obtain rfl:o=0:=Y.out
    go_wp2
    go_meet
    exact ⟨rfl,rfl⟩
   ·obtain rfl:o=1:=Y.out
    go_wp2
    go_meet
    exact ⟨rfl,rfl⟩
  case rest =>
  obtain ⟨rfl,rfl⟩:=hcut;have L:0<l.length:=Zb.2 V.out.2.1
  have M:((o:Int) == (z:Int))=false:=by have:=r.out;simp;omega
  go_wp2_with fail
  generalize av:w.alloc (.cells #[vF,vZ,vI 0] 118)=W0 at *;have HW:=Qa av;clear av h1 h3 M
  go_loop [6] (fun i=>∃ j:Nat,j≤l.length∧i=vI ((o+j:Nat):Int)) (fun i=>z - (intOf i).toNat)
  case atStart=>exact ⟨0,QF _,rfl⟩
  case round =>
   obtain ⟨j,hj,rfl⟩:=hrel
   by_cases I:j<l.length
   ·have y:=fun W=>O.out.idx j I W
    obtain ⟨c,hc⟩:∃ c,(l[j]'I).toNat=c:=⟨_,rfl⟩
    have ab:c<256:=by rw [← hc];exact (l[j]'I).toNat_lt
    rw [hc] at y
    have a0:digitVal c<b:=by rw [← hc];exact V.out.1 _ (JZ _)
    have b3:z<5000:=by have:=r.out;omega
    have A:decide (((o+j:Nat):Int)<(z:Int))=true:=decide_eq_true (by have:=r.out;omega)
    obtain ⟨q,F⟩:∃ q,o+j=q:=⟨_,rfl⟩
    rw [F] at y A ⊢
    have D:q<z:=by have:=r.out;omega
    have C:decide (q<z)=true:=decide_eq_true D;have bd:decide ((b:Int)≤((oI c:Nat):Int))=false:=decide_eq_false (by have:=rM (c:=c) om;omega);have be:decide (b≤oI c)=false:=decide_eq_false (by have:=rM (c:=c) om;omega);have HJ:=Qa (And.intro F (And.intro I (And.intro D (And.intro hj b3))));clear hc F I D b3 HW Y V HG O r ho hj h2 hlen a0 b0 r0 L
    go_wp2_with (go_at_call 180;refine (qf c _ ab).mono ?_;rintro e w2 ⟨rfl,rfl⟩)
    obtain ⟨h5,h6,h7,h8,h9⟩:=HJ.out
    have hw:wrap64 ((q:Int)+1)=((q+1:Nat):Int):=by unfold wrap64;omega
    rw [hw];refine ⟨⟨j+1,?_,?_⟩,?_⟩
    ·omega
    ·rw [← h5];rfl
    ·simp only [intOf,QP];omega
   ·obtain rfl:j=l.length:=by omega
    have U:o+l.length=z:=r.out.symm;have A:decide ((z:Int)<(z:Int))=false:=decide_eq_false (by omega);have C:decide (z<z)=false:=decide_eq_false (by omega);rw [U];clear U hj I
    go_wp2_with fail
    go_loop [5] (fun i=>∃ k:Nat,k≤l.length∧i=vI ((o+k:Nat):Int)∧di b (l.take k)=0) (fun i=>z - (intOf i).toNat)
    case atStart=>exact ⟨0,QF _,rfl,rfl⟩
    case round =>
     obtain ⟨k,hk,rfl,J⟩:=hrel
     obtain ⟨q,F⟩:∃ q,o+k=q:=⟨_,rfl⟩
     rw [F];clear A C
     obtain ⟨t,ht⟩:∃ t:Bool,t=(decide (k<l.length)&&decide ((l[k]?.getD 0).toNat=48)):=⟨_,rfl⟩
     go_upto_region 13 with (fail)
     go_cut [52] from 43 to 51 (fun v W=>v=.bool t∧W=W0)
     case first =>
      by_cases g:k<l.length
      ·have y:=fun W=>O.out.idx k g W
       rw [F] at y;have A:decide ((q:Int)<(z:Int))=true:=decide_eq_true (by have:=r.out;omega);have C:decide (q<z)=true:=decide_eq_true (by have:=r.out;omega)
       have he:l[k]?.getD 0=l[k]'g:=by rw [Qs g];rfl
       rw [he,decide_eq_true g,Jn] at ht
       obtain ⟨c,hc⟩:∃ c,(l[k]'g).toNat=c:=⟨_,rfl⟩
       rw [hc] at y ht
       have bc:((c:Int) == 48)=t:=by rw [ht];by_cases h:c=48 <;> simp [h] <;> omega
       clear hc he g ht hk J F V O r Y HG HW b0 r0 L ho h2 hlen;go_wp2
       go_meet
       exact ⟨rfl,rfl⟩
      ·have A:decide ((q:Int)<(z:Int))=false:=decide_eq_false (by have:=r.out;omega)
       have C:decide (q<z)=false:=decide_eq_false (by have:=r.out;omega);rw [decide_eq_false g,ZP] at ht;subst ht;clear g hk J F V O r Y HG HW b0 r0 L ho h2 hlen;go_wp2
       go_meet
       exact ⟨rfl,rfl⟩
     case rest =>
      obtain ⟨rfl,ah⟩:=hcut;replace ah:=ah.symm;subst ah
      cases t with
      | true =>
       obtain ⟨g,ap⟩:k<l.length∧(l[k]?.getD 0).toNat=48:=by simpa using ht.symm
       have HJ:=Qa (And.intro F (And.intro g (And.intro ap (And.intro J (And.intro r.out (And.intro hlen ho))))));clear ht g ap hk J F V O r Y HG HW b0 r0 L ho h2 hlen
       go_wp2_with fail
       obtain ⟨h5,h6,h7,h8,h9,an,ao⟩:=HJ.out
       have hw:wrap64 ((q:Int)+1)=((q+1:Nat):Int):=by unfold wrap64;omega
       rw [hw];refine ⟨⟨k+1,?_,?_,?_⟩,?_⟩
       ·omega
       ·rw [← h5];rfl
       ·rw [qC b l k h6,h8]
        rw [Qs h6] at h7;simp only [JF] at h7;rw [h7];simp [digitVal]
       ·simp only [intOf,QP];omega
      | false =>
       have b7:=b0.alloc b0.size (.cells #[vF,vZ] 24);have r4:=r0.alloc (.cells #[vF,vZ] 24)
       have b2:W0.heap.size=w.heap.size+1:=by rw [← HW.out];simp
       have r7:=af.new W0 24 (lN false none 0 0);rw [b2] at r7
       have b1:MF w b o l (vI q) (W0.alloc (.cells #[vF,vZ] 24)):=⟨k,false,none,0,0,hk,by rw [F],⟨r4,r7,b7⟩,⟨false,_,[],rfl,Reads.nil _ _,iU,rfl,by rw [J];rfl⟩⟩
       have HT:=Qa b1;clear ht hk J F b1 r4 r7 b7 b0 r0
       go_wp2_with fail
       clear b2 HW;generalize W0.alloc (.cells #[vF,vZ] 24)=W1 at *
       go_loopw [8] (fun v W=>MF w b o l v W) (fun v _=>z - (intOf v).toNat)
       case atStart=>exact HT.out
       case round =>
        clear HT;obtain ⟨k,n,a,m,c,hk,rfl,x,u⟩:=hrel;have S:di b l<aj^300:=ai.out;have aa:di b (l.take k)<aj^300:=Qr (fq b (by omega) k l) S
        by_cases g:k<l.length
        ·have y:=fun W=>O.out.idx k g W
         have a8:=qC b l k g;have au:di b (l.take (k+1))<aj^300:=Qr (fq b (by omega) (k+1) l) S
         obtain ⟨d,hd⟩:∃ d,(l[k]'g).toNat=d:=⟨_,rfl⟩
         have T:d<256:=by rw [← hd];exact (l[k]'g).toNat_lt
         have a0:digitVal d<b:=by rw [← hd];exact V.out.1 _ (JZ _)
         have ay:oI d=digitVal d:=Mm om a0;rw [hd] at y a8;have A:decide (((o+k:Nat):Int)<(z:Int))=true:=decide_eq_true (by have:=r.out;omega)
         have D:o+k<z:=by have:=r.out;omega
         have C:decide (o+k<z)=true:=decide_eq_true D
         obtain ⟨q,F⟩:∃ q,o+k=q:=⟨_,rfl⟩
         rw [F] at y A C D ⊢
         have kD:∀ X,Calls prog 180 #[.int .u8 d] X fun e w'=>bW X w'∧e=.returned (vI (digitVal d)):=fun X=>by
          refine (qf d X T).mono ?_;rintro e w' ⟨rfl,rfl⟩;exact ⟨Qj _ _,by rw [ay]⟩
         generalize digitVal d=dv at *
         have kB:=fun X=>Au (b:Int) X (by omega) (by omega)
         have kO:=fun X=>Au (dv:Int) X (by omega) (by omega)
         generalize hN:di b (l.take k)=N at *;have bN:(N:Int).natAbs<aj^90000:=az (by rw [QQ];exact aa) (show 300≤90000 by decide);have bb:=az (show (b:Int).natAbs<aj^1 by rw [QQ,Yf];unfold aj;omega) (show 1≤90000 by decide)
         have kT:=fun X v v' (hv:ak X v (N:Int)) (ag:ak X v' (b:Int))=>yl v v' (N:Int) (b:Int) X hv ag bN bb
         have al:((N:Int)*(b:Int)).natAbs<aj^300:=by
          rw [← Jy,QQ];omega
         have am:(dv:Int).natAbs<aj^300:=by
          rw [QQ];omega
         have kS:=fun X v v' (hv:ak X v ((N:Int)*(b:Int))) (ag:ak X v' (dv:Int))=>xN v v' ((N:Int)*(b:Int)) (dv:Int) 300 X hv ag (by omega) al am
         have hE:(N:Int)*(b:Int)+(dv:Int)=((N*b+dv:Nat):Int):=by rw [ZJ,Jy]
         rw [hE] at kS;have HJ:=Qa (And.intro F (And.intro g (And.intro D (And.intro a8 (And.intro hlen (And.intro ho r.out))))))
         have h3:(N*b+dv)<aj^300:=by omega
         have a7:=Qa h3;clear F g D a8 hN S aa au a0 ay hd bN bb al am hE h3 hk V O r Y HG L ho h2 om hlen T
         go_upto_region 19 with (fail)
         go_cut [] from 63 to 72 (fun W=>∃ n a m c,NN w n a m c W∧ak W (vN n a m c) ((N*b+dv:Nat):Int))
         case first =>
          have H:Nq w wr.drew:=⟨x.r4,⟨n,a,m,c,x.r7⟩,x.below.drew⟩
          have hr:af wr.drew (w.heap.size+1) 24 (lN n a m c):=x.r7;have E:=x.r7.cell 0;have B:=x.r7.cell 1;have Z:=x.r7.frozen 0;have z4:=x.r7.frozen 1;simp only [Qc,Qe] at E B;replace u:=u.keep (fun v xs h=>tN h);clear HJ a7 x
          go_region_with
           (first
            | (go_at_call 66;with_reducible refine (kB _).mono ?_;rintro e wk ⟨f,vB,rfl,Q⟩;replace hr:=hr.below f;replace H:=qN H f;clear E B Z z4;have E:=hr.cell 0;have B:=hr.cell 1;have Z:=hr.frozen 0;have z4:=hr.frozen 1;simp only [Qc,Qe] at E B;replace u:=u.below f;first | (replace R:=R.below f) | skip;first | (replace G:=G.below f) | skip)
            | (go_at_call 66;with_reducible refine (kO _).mono ?_;rintro e wk ⟨f,vO,rfl,R⟩;replace hr:=hr.below f;replace H:=qN H f;clear E B Z z4;have E:=hr.cell 0;have B:=hr.cell 1;have Z:=hr.frozen 0;have z4:=hr.frozen 1;simp only [Qc,Qe] at E B;replace u:=u.below f;first | (replace Q:=Q.below f) | skip;first | (replace G:=G.below f) | skip)
            | (go_at_call 180;with_reducible refine (kD _).mono ?_;rintro e wk ⟨f,rfl⟩;replace hr:=hr.below f;replace H:=qN H f;clear E B Z z4;have E:=hr.cell 0;have B:=hr.cell 1;have Z:=hr.frozen 0;have z4:=hr.frozen 1;simp only [Qc,Qe] at E B;replace u:=u.below f;first | (replace Q:=Q.below f) | skip;first | (replace G:=G.below f) | skip)
            | (go_at_call 63;with_reducible refine (kT _ _ _ u Q).mono ?_;rintro e wk ⟨f,vT,rfl,G⟩;replace hr:=hr.below f;replace H:=qN H f;clear E B Z z4;have E:=hr.cell 0;have B:=hr.cell 1;have Z:=hr.frozen 0;have z4:=hr.frozen 1;simp only [Qc,Qe] at E B;replace u:=u.below f;first | (replace R:=R.below f) | skip)
            | (go_at_call 67;with_reducible refine (kS _ _ _ G R).mono ?_;rintro e wk ⟨f,vS,rfl,ar⟩;obtain ⟨n9,a9,m9,c9,rfl⟩:=ar.shape;replace hr:=hr.below f;replace H:=qN H f;clear E B Z z4;have E:=hr.cell 0;have B:=hr.cell 1;have Z:=hr.frozen 0;have z4:=hr.frozen 1;simp only [Qc,Qe] at E B;replace u:=u.below f))
          all_goals
           have hX:=Mo H n9 a9 m9 c9;go_wp2
           go_meet
           exact ⟨n9,a9,m9,c9,⟨hX.r4,(hr.set 0 (.bool n9)).set 1 (.slice a9 m9 c9),hX.below⟩,ar.keep fun _ _ hv=>bf hv E B _ _⟩
         case rest =>
          clear u x;obtain ⟨n,a,m,c,x,u⟩:=hcut;have hm:=(tT u 300).2 (by rw [QQ];exact a7.out);have bh:decide ((300:Int)<(m:Int))=false:=decide_eq_false (by omega);have bi:decide (300<m)=false:=decide_eq_false (by omega);obtain ⟨x1,x2⟩:=aQ x.r7;have HW:=Qa (And.intro x u);clear hm x u kD kB kO kT kS a7 y C A
          go_wp2_with fail
          go_roundw
          case rel =>
           obtain ⟨h5,h6,h7,h8,h9,an,ao⟩:=HJ.out;refine ⟨k+1,n,a,m,c,h6,?_,HW.out.1,by rw [h8];exact HW.out.2⟩;rw [← h5]
           have hw:wrap64 (((o+k:Nat):Int)+1)=((o+(k+1):Nat):Int):=by unfold wrap64;omega
           rw [hw]
          case measure =>
           obtain ⟨h5,h6,h7,h8,h9,an,ao⟩:=HJ.out
           have hw:wrap64 ((q:Int)+1)=((q+1:Nat):Int):=by unfold wrap64;omega
           rw [hw];simp only [intOf,QP];omega
        ·obtain rfl:k=l.length:=by omega
         have U:o+l.length=z:=r.out.symm;have A:decide ((z:Int)<(z:Int))=false:=decide_eq_false (by omega);have C:decide (z<z)=false:=decide_eq_false (by omega);rw [U];rw [ZL] at u
         have ba:0<z:=by omega
         have bg:=fun W=>V.out.2.2.2 W ba
         have ae:=HG.out;obtain ⟨xs,hx,ad,a2⟩:=gq u;obtain ⟨a',c',e',-,-⟩:=hx.form;cases e';rw [QQ] at a2;have b4:=aA ad (by rw [a2];exact S);have kM:=jg neg (.slice a xs.length c) xs wr.drew (tN hx) ad.1 (by omega);rw [a2] at kM;clear U g hk S aa V O r Y HG L ho h2 om hlen u hx ad a2 b4
         go_upto_region 22 with (fail)
         have hT:Ld w n a xs.length c wr:=⟨⟨_,_,_,_,_,x.r4⟩,x.r7,x.below⟩
         have H:=Qa (wC (KZ hT));have b8:af wr.drew w.heap.size 118 [vF,vZ,vI 0]:=x.r4;have aw:bW w wr.drew:=x.below.drew;have B:=Dk x.r7;clear x hT
         go_region_held3 (fun X=>X.cell? ⟨w.heap.size+1,1,none⟩=some (.slice a xs.length c)∧Ld w n a xs.length c X)
          (first | assumption | exact H.out | (go_split_ands;exact wC (KY (by assumption) f)) | (go_split_ands;exact wC (Mq (by assumption) _ _ _ _ _)))
          (first
           | (go_at_call 136;with_reducible refine kM.mono ?_;rintro e wk ⟨f,vM,rfl,aq⟩;obtain ⟨n5,a5,m5,c5,rfl⟩:=aq.shape;have q4:=b8.below f;have b9:=aw.trans (f.mono aw.size);have s1:=q4.cell 0;have s2:=q4.cell 1;have s3:=q4.cell 2;have s4:=q4.frozen 0;have s5:=q4.frozen 1;have s6:=q4.frozen 2;simp only [Qc,Qe] at s1 s2 s3))
         go_wp2;have q5:=((q4.set 0 (.bool n5)).set 1 (.slice a5 m5 c5)).set 2 (vI 0);have u1:=q5.cell 0;have u2:=q5.cell 1;have u3:=q5.cell 2;simp only [QB,Qz,Qc,Qe] at u1 u2 u3
         exact bodyPost_ret (v:=.agg #[.bool n5,.slice a5 m5 c5,vI 0]) (by simp [results,results135,go_sem,loadCellsFrom,u1,u2,u3]) rfl ⟨((b9.setCell (Qb _) _).setCell (Qb _) _).setCell (Qb _) _,n5,a5,m5,c5,rfl,aq.keep (Gx q4 _ _ _)⟩
theorem EO (s:ByteArray)(base:Int)(neg:Bool)(l:List UInt8)(w:World)(i:FE s neg l)(hlen:l.length≤400) :
 CB 135 #[.string s,vI base] w fun e f=>∃ n a m c k,e=.returned (.agg #[.bool n,.slice a m c,vI k])∧qL base neg l k f (vN n a m c):=by
 by_cases g:2≤base∧base≤36
 ·obtain ⟨b,rfl⟩:=JW (show 0≤base by omega)
  obtain ⟨o,q,p⟩:=KX i
  by_cases d:l=[]∨¬∀ c ∈ l,digitVal c.toNat<b
  ·refine (EN s b neg o l w p q (by omega) (by omega) hlen d).mono ?_
   rintro e f ⟨h1,rfl⟩;refine ⟨h1,false,none,0,0,2,rfl,?_⟩;unfold qL;rw [if_pos g,QP,if_pos d];exact ⟨rfl,rfl⟩
  ·have h1:l≠[]:=fun h=>d (.inl h)
   have j:∀ c ∈ l,digitVal c.toNat<b:=Zc fun h=>d (.inr h)
   refine (Dh s b neg o l w p q (by omega) (by omega) (by omega) h1 j (CY (by omega) l j hlen)).mono ?_;rintro e f ⟨r,n,a,m,c,rfl,t⟩;refine ⟨r,n,a,m,c,0,rfl,?_⟩;unfold qL;rw [if_pos g,QP,if_neg d];exact ⟨rfl,t⟩
 ·refine (Df s base w (by omega)).mono ?_
  rintro e f ⟨h1,rfl⟩;refine ⟨h1,false,none,0,0,1,rfl,?_⟩;unfold qL;rw [if_neg g];exact ⟨rfl,rfl⟩
def jo:List UInt8:=[48,46,54,54,54,54,54,54,54,54,54,54,54,54,54,54,54,54,54,54,54,55]
theorem Ah:fG (jo.drop 0)=1∧fG (jo.drop 2)=20:=by decide
theorem Hm:di 10 (jo.take 1++jo.drop 2)=66666666666666666667:=by decide
theorem Di:least 66666666666666666667 20=(66666666666666666667,20):=by
 refine En 20 _ (by decide) (.inr (by decide))
theorem Nl (s:ByteArray)(d:s.data.toList=jo)(w:World) :
 CB 58 #[.string s] w fun e y=>∃ v:Value,∃ k0 n0 g a m c j f O F,v=vV k0 n0 g a m c j f O F∧e=.returned (vG k0 n0 g a m c j f O F 0)∧dX y v 66666666666666666667 20:=by
 have a5:s.size=22:=by rw [← bU,d];rfl
 have a1:∀ W,(Instr.index 9 (.string s) (vI 0)).run prog W=.ok (.int .u8 48) W:=fun W=>dN s 0 _ d (by decide) W
 have a3:∀ W,(Instr.index 9 (.string s) (vI 1)).run prog W=.ok (.int .u8 46) W:=fun W=>dN s 1 _ d (by decide) W
 have a4:∀ W,(Instr.index 9 (.string s) (vI 21)).run prog W=.ok (.int .u8 55) W:=fun W=>dN s 21 _ d (by decide) W
 have kA:=fun W=>wW s _ d (by decide) 0 (by decide) W
 have M:=fun W=>wW s _ d (by decide) 2 (by decide) W
 rw [Ah.1] at kA;rw [Ah.2] at M
 replace kA:∀ W,Calls prog 134 #[.string s,vI 0] W fun e y=>W=y∧e=.returned (vI 1):=kA
 replace M:∀ W,Calls prog 134 #[.string s,vI 2] W fun e y=>W=y∧e=.returned (vI 20):=M
 obtain ⟨N,J⟩:∃ N,s.extract 0 1=N:=⟨_,rfl⟩
 obtain ⟨L,D⟩:∃ L,s.extract 2 22=L:=⟨_,rfl⟩
 have h1:=nM s d 0 1;have h2:=nM s d 2 22;rw [J] at h1;rw [D] at h2
 have a9:N.size=1:=by rw [← bU,h1];rfl
 have aa:L.size=20:=by rw [← bU,h2];rfl
 have hj:(N++L).data.toList=jo.take 1++jo.drop 2:=by rw [YK,YL,h1,h2];rfl
 have kP:=fun W=>EO (N++L) 10 false (jo.take 1++jo.drop 2) W ⟨hj,fun _ c hc=>by simp [jo] at hc;subst hc;decide⟩ (by decide)
 unfold qL at kP
 have kL:=fun W v (hv:ak W v 66666666666666666667)=>yo v _ 20 W hv (Qf (show 66666666666666666667<aj^3 by decide) (Ql aP (by decide))) (by decide)
 rw [Di] at kL
 have E:∀ W v,ak W v 66666666666666666667→Calls prog 91 #[v,vI 20] W fun e y=>bW W y∧∃ k0 n0 g a m c j f O F,e=.returned (vG k0 n0 g a m c j f O F 0)∧dX y (vV k0 n0 g a m c j f O F) 66666666666666666667 20:=by
  intro W v hv;refine (kL W v hv).mono ?_;rintro e w2 ⟨H,k0,n0,g,a,m,c,j,f,O,F,k,rfl,hf⟩;unfold dP at hf;dsimp only at hf;rw [if_pos (Hz (i:=66666666666666666667) (by decide))] at hf;obtain ⟨rfl,hD⟩:=hf;exact ⟨H,_,_,_,_,_,_,_,_,_,_,rfl,hD⟩
 have kQ:∀ W,Calls prog 135 #[.string (N++L),vI 10] W fun e y=>bW W y∧∃ n a m c,e=.returned (.agg #[.bool n,.slice a m c,vI 0])∧ak y (vN n a m c) 66666666666666666667:=by
  intro W;refine (kP W).mono ?_;rintro e w2 ⟨H,n,a,m,c,k,rfl,hf⟩;rw [if_pos (by decide),if_neg (by decide),show (10:Int).toNat=10 from rfl,Hm] at hf;obtain ⟨rfl,hI⟩:=hf;exact ⟨H,_,_,_,_,rfl,hI⟩
 clear kP kL hj h1 h2 d;obtain ⟨W0,hW,b0,qr⟩:=Lf w 41 (lG 0 0 false none 0 0 ⟨#[]⟩ none 0 0 0);have o:=qr.lt
 have B:Hid (∀ X,fI w W0 (ni w.heap.size) [] X→(True)∧fI w W0 (ni w.heap.size) [] X):=Qa fun X h=>⟨trivial,h⟩
 have dH:=fC (R:=ni _) aS ⟨_,_,_,_,_,_,_,_,_,_,_,qr⟩ b0;have HL:=Qa (And.intro o b0.size);clear o qr b0;have a0:s.extract (1+1) 22=L:=D;go_enter func58,ntmps58
 go_upto_region 1 with (fail)
 rw [hW.out];clear hW
 go_upto_region 10 with (go_at_call 134;refine (kA _).mono ?_;rintro e w9 ⟨rfl,rfl⟩)
 clear kA
 go_wp2_with (go_at_call 134;refine (M _).mono ?_;rintro e w9 ⟨rfl,rfl⟩)
 go_loop [6] (fun v=>v=vI 20) (fun _=>0)
 case atStart=>rfl
 case round =>
  subst hrel
  go_upto_region 17 with (fail)
  obtain ⟨C,fe⟩:=HL.out;have o:=@nA W0.heap.size
  have a6:IntKind.i64.wrap 2=2:=by rw [Qx];omega
  have a7:IntKind.i64.wrap 22=22:=by rw [Qx];omega
  have a8:IntKind.i64.wrap (2+20)=22:=by rw [Qx];omega
  go_wp2_with fail
  refine bB B (bY ni.drew dH) fun X0 b=>?_
  refine tk 0 b ?_;refine tk 1 b ?_;refine tk 2 b ?_;refine tk 3 b ?_;refine tk 4 b ?_;refine tk 5 b ?_;refine tk 6 b ?_;refine tk 7 b ?_;refine tk 8 b ?_;refine tk 9 b ?_;refine tk 10 b ?_;refine tk 11 b ?_;refine ql 12 13 (fun t l=>?_) (fun t l=>?_)
  ·have hP:=b.2
   go_wp2_with (go_at_call 135;refine (kQ _).mono ?_;rintro e wk ⟨r,n,a,m,c,rfl,u⟩)
   refine aT l B (ag ni.step hP r) fun b=>?_
   clear l t hP r
   refine rd 13 fun t l=>?_
   have hP:=b.2;obtain ⟨V9,V,p,G,q⟩:=aL hP 118 [vF,vZ,vI 0]
   go_wp2_with fail
   rw [V.out];clear V;replace u:=u.below q
   refine aT l B (ag ni.step hP q) fun b=>?_
   clear l t hP q
   refine rd 14 fun t l=>?_
   have hP:=b.2;obtain ⟨y0,y1,y2,Y,Z,f2⟩:=wQ p;obtain ⟨V8,U,S,Q,T,cO⟩:=uT hP (ni.other (Qg (Qf C G))) (bP o G) (Qd fe G) p (.bool n) (.slice a m c) (vI 0)
   go_wp2_with fail
   rw [U.out];replace u:=u.keep Q;replace p:=T
   refine aT l B S fun b=>?_
   clear l t hP S U Q T cO y0 y1 y2 Y Z f2;refine wpAnyH_done (by kernel_rfl) ?_ _;have kK:=b.2;obtain ⟨x0,x1⟩:=aQ p;clear b p kQ M a1 a3 a4 B dH a0 J D a9 aa a5 HL o C fe a6 a7 a8;have kM:=E _ _ u;clear E u
   go_wp2_with (go_at_call 91;refine kM.mono ?_;rintro e w3 ⟨I,k0,n0,g,a2,m2,c2,j,f,z,A,rfl,hD⟩;have x:=ag ni.step kK I;obtain ⟨z0,z1,z2,z3,aI,aJ,z4,z5,aN,aO,z6,hr,y0,y1,y2,y3,y4,F,y6,Y,Z,f2,f3,f4,f5,f6⟩:=x.res.cells)
   obtain ⟨u0,u1,u2,u3,u4,u5,u6⟩:=wO hr (vI k0) (vI n0) (.bool g) (.slice a2 m2 c2) (.string j) (.slice f z A) (vI 0);have H:=(uS x dV (Qb _) k0 n0 g a2 m2 c2 j f z A 0).below
   exact bodyPost_ret (v:=vG k0 n0 g a2 m2 c2 j f z A 0) (by simp [results,results58,go_sem,loadCellsFrom,u0,u1,u2,u3,u4,u5,u6]) rfl ⟨H,_,k0,n0,g,a2,m2,c2,j,f,z,A,rfl,rfl,hD.keep (nP hr (vI k0) (vI n0) (.bool g) (.slice a2 m2 c2) (.string j) (.slice f z A) (vI 0))⟩
  have hP:=b.2;obtain ⟨V9,V,p,G,q⟩:=aL hP 118 [vF,vZ,vI 0]
  go_wp2_with fail
  rw [V.out];clear V
  refine aT l B (ag ni.step hP q) fun b=>?_
  clear l t hP q
  refine rd 12 fun t l=>?_
  have hP:=b.2
  go_wp2_with (go_at_call 135;refine (kQ _).mono ?_;rintro e wk ⟨r,n,a,m,c,rfl,u⟩)
  replace p:=p.below r
  refine aT l B (ag ni.step hP r) fun b=>?_
  clear l t hP r
  refine rd 14 fun t l=>?_
  have hP:=b.2;obtain ⟨y0,y1,y2,Y,Z,f2⟩:=wQ p;obtain ⟨V8,U,S,Q,T,cO⟩:=uT hP (ni.other (Qg (Qf C G))) (bP o G) (Qd fe G) p (.bool n) (.slice a m c) (vI 0)
  go_wp2_with fail
  rw [U.out];replace u:=u.keep Q;replace p:=T
  refine aT l B S fun b=>?_
  clear l t hP S U Q T cO y0 y1 y2 Y Z f2;refine wpAnyH_done (by kernel_rfl) ?_ _;have kK:=b.2;obtain ⟨x0,x1⟩:=aQ p;clear b p kQ M a1 a3 a4 B dH a0 J D a9 aa a5 HL o C fe a6 a7 a8;have kM:=E _ _ u;clear E u
  go_wp2_with (go_at_call 91;refine kM.mono ?_;rintro e w3 ⟨I,k0,n0,g,a2,m2,c2,j,f,z,A,rfl,hD⟩;have x:=ag ni.step kK I;obtain ⟨z0,z1,z2,z3,aI,aJ,z4,z5,aN,aO,z6,hr,y0,y1,y2,y3,y4,F,y6,Y,Z,f2,f3,f4,f5,f6⟩:=x.res.cells)
  obtain ⟨u0,u1,u2,u3,u4,u5,u6⟩:=wO hr (vI k0) (vI n0) (.bool g) (.slice a2 m2 c2) (.string j) (.slice f z A) (vI 0);have H:=(uS x dV (Qb _) k0 n0 g a2 m2 c2 j f z A 0).below
  exact bodyPost_ret (v:=vG k0 n0 g a2 m2 c2 j f z A 0) (by simp [results,results58,go_sem,loadCellsFrom,u0,u1,u2,u3,u4,u5,u6]) rfl ⟨H,_,k0,n0,g,a2,m2,c2,j,f,z,A,rfl,rfl,hD.keep (nP hr (vI k0) (vI n0) (.bool g) (.slice a2 m2 c2) (.string j) (.slice f z A) (vI 0))⟩
end Go.Proofs.YtagjhmodblifbaaGreatDoor
