/- proved lemmas -/
import Derived.Test.YtagjhmodblifbaaGreatDoorMA
import Derived.Test.YtagjhmodblifbaaGreatDoorProg
import Derived.Below
import Derived.Test.YtagjhmodblifbaaGreatDoorT00
import Derived.WalkKit
import Derived.RangeFuncNested
import Derived.RangeFuncBound
import Derived.RangeFuncCalls
import Derived.RangeFuncLeaves
import Derived.Shelf.Abstract
import Derived.Shelf.RegionOpen
import Derived.OwnWalkIn
import Derived.TacticsInMore
import Derived.LoopNIn
import Derived.LoopIn
import Derived.Outline
import Derived.WalkLawsBesides
import Derived.WalkSpells
import Derived.Lib.Hide
import Derived.Maps.AppendAt
import Derived.Handy
import Derived.Deep.QuietTactic
import Derived.BigQuiet
import Derived.OrdersIn
import Derived.StillTailTactics
import Derived.Shelf.Strings.Builder1
import Derived.Shelf.Strings.Builder2
import Derived.Shelf.Strings.Trim
import Derived.Shelf.Small.Utf8
import Derived.Shelf.Small.Bits
import Derived.Shelf.Small.Strs
import Derived.Shelf.Small.Wraps
import Derived.Shelf.Strings.BuilderF
import Derived.Shelf.Strconv.Itoa0
import Derived.Shelf.Strings.Search1
import Derived.Shelf.Strings.Prefix
import Derived.Shelf.Bits.Mul64
import Derived.Shelf.Strings.Repeat
import Derived.Ground.Names2Prog
import Derived.Shelf.Slices.SearchI
import Derived.Laws.EntriesVeiled
import Derived.Deep.RegionHeld3
import Derived.Recover
import Derived.LoopN
import Derived.Lib.ItoaNum
import Derived.Laws.CopyOwn
import Derived.Deep.CutRange
import Derived.RegionTactic
import Derived.BigRegion
import Derived.ChangeAlike
import Derived.Laws.OwnMore
import Derived.IntWalk
import Derived.Deep.DeepFit
import Derived.Lib.IndexBytes
import Derived.Deep.LoopGhost
import Derived.Deep.MidRow
import Derived.Test.YtagjhmodblifbaaGreatDoorB00
import Derived.Test.YtagjhmodblifbaaGreatDoorB01
import Derived.Test.YtagjhmodblifbaaGreatDoorB02
import Derived.Test.YtagjhmodblifbaaGreatDoorB03
import Derived.Test.YtagjhmodblifbaaGreatDoorB04
import Derived.Test.YtagjhmodblifbaaGreatDoorB05
import Derived.Test.YtagjhmodblifbaaGreatDoorB06
import Derived.Test.YtagjhmodblifbaaGreatDoorB07
import Derived.Test.YtagjhmodblifbaaGreatDoorB08
import Derived.Test.YtagjhmodblifbaaGreatDoorB09
import Derived.Test.YtagjhmodblifbaaGreatDoorB10
import Derived.Test.YtagjhmodblifbaaGreatDoorB11
import Derived.Test.YtagjhmodblifbaaGreatDoorB12
import Derived.Test.YtagjhmodblifbaaGreatDoorB13
import Derived.Test.YtagjhmodblifbaaGreatDoorB14
import Derived.Test.YtagjhmodblifbaaGreatDoorB15
import Derived.Test.YtagjhmodblifbaaGreatDoorB16
import Derived.Test.YtagjhmodblifbaaGreatDoorB17
import Derived.Test.YtagjhmodblifbaaGreatDoorB18
import Derived.Test.YtagjhmodblifbaaGreatDoorB19
import Derived.Test.YtagjhmodblifbaaGreatDoorB20
import Derived.Test.YtagjhmodblifbaaGreatDoorB21
set_option maxHeartbeats 4000000
set_option maxRecDepth 100000
set_option exponentiation.threshold 100000
namespace Go.Proofs.YtagjhmodblifbaaGreatDoor
open Go.Proofs.Tryz
open Go Go.RowKit Go.Shelf
theorem Pg (B b G:Nat)(a:Array Value){A F:Int}{r:Bool}{j:Option Addr}{m1 n:Nat}{H:ByteArray}{q:Option Addr}{D o:Nat}{C n2:Int}{s:Bool}{a2:Option Addr}{m2 c2:Nat}{I:ByteArray}{gm:Option Addr}{E gp:Nat}{z V:Int}{p1 p2:Nat}(w:World)(T:af w B 105 [.func (.func G) #[] a])(y:af w (B+1) 25 [.slice (some ⟨b,0,none⟩) 2 2])(hr:af w (B+2) 3 [vI 0])(c:af w b 27 [vI A,vI F,.bool r,.slice j m1 n,.string H,.slice q D o,vI C,vI n2,.bool s,.slice a2 m2 c2,.string I,.slice gm E gp])
  (h1:dB w (vV A F r j m1 n H q D o) z p1) (M:dB w (vV C n2 s a2 m2 c2 I gm E gp) V p2) (P:World→Value→Prop) (S:∀ W g v,P W v→(∀ v xs,Reads .u32 W v xs→Reads .u32 g v xs)→P g v) (x:∀ W v,P W v→∃ f,v=vI f) (hF:∀ W,(callFunc G a).run prog W=.ok (.enter G a) W) (u:∀ W,bW w W→Calls prog G a W fun e g=>bW W g∧∃ v,e=.returned v∧P g v) :
  Calls prog 149 #[vP (B+1),vP B,vP (B+2)] w fun e J=>e=.returned (.tuple #[])∧dF (fun i=>i=B+2) w J∧∃ f,af J (B+2) 3 [vI f]∧P J (vI f):=by
 have Z:=fun X (t:bW w X)=>(h1.below t).check
 have kD:=fun X (t:bW w X)=>(M.below t).check
 obtain ⟨e0,e1,e2,e3,e4,e5⟩:=aD c;have v0:=mI y;have U:=eY b 2 0 (by decide);simp only [QC,QI] at U;have z:=eY b 2 1 (by decide);simp only [JK,QD] at z;have l:=dJ w (.cells #[vI A,vI F,.bool r,.slice j m1 n,.string H,.slice q D o] 27);clear h1 M;go_enter func149,ntmps149
 go_wp2_with fail
 refine wp_loop_rounds 4 ?_;rw [rounds_succ]
 go_wp2_with (first | (go_at_call 19;refine (Z _ l).mono ?_;rintro e w1 ⟨Q,rfl⟩;have m:=l.trans (Q.mono l.size);have r1:=c.below m;have x0:=r1.cell 6;have x1:=r1.cell 7;have x2:=r1.cell 8;have x3:=r1.cell 9;have x4:=r1.cell 10;have x5:=r1.cell 11;simp only [Qc,Qe] at x0 x1 x2 x3 x4 x5) | (go_at_call 106;refine (aC _ _ _ (by rfl)).mono ?_;rintro e O ⟨rfl,rfl⟩))
 rw [rounds_succ];have d:=m.alloc m.size (.cells #[vI C,vI n2,.bool s,.slice a2 m2 c2,.string I,.slice gm E gp] 27)
 go_wp2_with (first | (go_at_call 19;refine (kD _ d).mono ?_;rintro e w2 ⟨R,rfl⟩;have h:=d.trans (R.mono d.size);have t0:=(T.below h).cell 0;simp only [Qc] at t0) | (go_at_call 106;refine (aC _ _ _ (by rfl)).mono ?_;rintro e O ⟨rfl,rfl⟩))
 rw [rounds_succ]
 go_wp2_with (refine (u _ h).mono ?_;rintro e O ⟨Y,v9,rfl,N⟩;obtain ⟨f,rfl⟩:=x _ _ N;have L:=h.trans (Y.mono h.size);have r9:=hr.below L;have y0:=r9.cell 0;have f0:=r9.frozen 0;simp only [Qc] at y0)
 go_end0
 exact ⟨rfl,(((dF.refl (fun k=>k=B+2) w).aU L).setCell (p:=⟨B+2,0,none⟩) (.inl rfl) _),f,(r9.set 0 (vI f)),S _ _ _ N (fun _ _ y=>y.setOther (r9.cell 0) (by simp) _)⟩
theorem Ph (B b G:Nat)(h:Array Value){k m:Int}{j:Bool}{c:Option Addr}{m1 f:Nat}{n:ByteArray}{i:Option Addr}{l g:Nat}{v n2:Int}{q:Bool}{a2:Option Addr}{m2 c2:Nat}{z:ByteArray}{gm:Option Addr}{y gp:Nat}(w:World)(_hw:af w B 105 [.func (.func G) #[] h])(s:af w (B+1) 25 [.slice (some ⟨b,0,none⟩) 2 2])(_hr:af w (B+2) 3 [vI 0])(a:af w b 27 [vI k,vI m,.bool j,.slice c m1 f,.string n,.slice i l g,vI v,vI n2,.bool q,.slice a2 m2 c2,.string z,.slice gm y gp])
  (h1:mJ w (vV k m j c m1 f n i l g)) :
  Calls prog 149 #[vP (B+1),vP B,vP (B+2)] w fun e A=>bW w A∧e=pK 2:=by
 have x:=fun X (r:bW w X)=>(h1.below r).check
 obtain ⟨C,D,E,F,H,I⟩:=aD a;have J:=mI s;have t:=eY b 2 0 (by decide);simp only [QC,QI] at t;have u:=eY b 2 1 (by decide);simp only [JK,QD] at u;have d:=dJ w (.cells #[vI k,vI m,.bool j,.slice c m1 f,.string n,.slice i l g] 27);clear h1;go_enter func149,ntmps149
 go_wp2_with fail
 refine wp_loop_rounds 4 ?_;rw [rounds_succ]
 go_wp2_with (first | (go_at_call 19;refine (x _ d).mono ?_;rintro e w1 ⟨o,rfl⟩;have p:=d.trans (o.mono d.size)) | (go_at_call 106;refine (bD _ _ _ (by rfl)).mono ?_;rintro e L ⟨rfl,rfl⟩))
 exact ⟨rfl,p,rfl⟩
theorem Pj (B b G:Nat)(j:Array Value){p t:Int}{l:Bool}{d:Option Addr}{m1 h:Nat}{u:ByteArray}{k:Option Addr}{r i:Nat}{q n2:Int}{m:Bool}{a2:Option Addr}{m2 c2:Nat}{v:ByteArray}{gm:Option Addr}{s gp:Nat}{o:Int}{H:Nat}(w:World)(_hw:af w B 105 [.func (.func G) #[] j])(C:af w (B+1) 25 [.slice (some ⟨b,0,none⟩) 2 2])(_hr:af w (B+2) 3 [vI 0])(a:af w b 27 [vI p,vI t,.bool l,.slice d m1 h,.string u,.slice k r i,vI q,vI n2,.bool m,.slice a2 m2 c2,.string v,.slice gm s gp])
  (h1:dB w (vV p t l d m1 h u k r i) o H) (x:mJ w (vV q n2 m a2 m2 c2 v gm s gp)) :
  Calls prog 149 #[vP (B+1),vP B,vP (B+2)] w fun e I=>bW w I∧e=pK 2:=by
 have E:=fun X (n:bW w X)=>(h1.below n).check
 have F:=fun X (n:bW w X)=>(x.below n).check
 obtain ⟨S,T,U,V,Y,Z⟩:=aD a;have v0:=mI C;have D:=eY b 2 0 (by decide);simp only [QC,QI] at D;have o:=eY b 2 1 (by decide);simp only [JK,QD] at o;have f:=dJ w (.cells #[vI p,vI t,.bool l,.slice d m1 h,.string u,.slice k r i] 27);clear h1 x;go_enter func149,ntmps149
 go_wp2_with fail
 refine wp_loop_rounds 4 ?_;rw [rounds_succ]
 go_wp2_with (first | (go_at_call 19;refine (E _ f).mono ?_;rintro e w1 ⟨y,rfl⟩;have g:=f.trans (y.mono f.size);have r1:=a.below g;have L:=r1.cell 6;have M:=r1.cell 7;have N:=r1.cell 8;have O:=r1.cell 9;have Q:=r1.cell 10;have R:=r1.cell 11;simp only [Qc,Qe] at L M N O Q R) | (go_at_call 106;refine (aC _ _ _ (by rfl)).mono ?_;rintro e J ⟨rfl,rfl⟩))
 rw [rounds_succ];have c:=g.alloc g.size (.cells #[vI q,vI n2,.bool m,.slice a2 m2 c2,.string v,.slice gm s gp] 27)
 go_wp2_with (first | (go_at_call 19;refine (F _ c).mono ?_;rintro e w2 ⟨A,rfl⟩;have z:=c.trans (A.mono c.size)) | (go_at_call 106;refine (bD _ _ _ (by rfl)).mono ?_;rintro e J ⟨rfl,rfl⟩))
 exact ⟨rfl,z,rfl⟩
theorem PI (G:Nat)(f:Array Value)(b n:Nat)(w:World)(Q:Int→World→Value→Prop)(E:∀ k W u v,Q k W v→(∀ v xs,Reads .u32 W v xs→Reads .u32 u v xs)→Q k u v)
  (m:∀ g,bW w g→af g w.heap.size 105 [.func (.func G) #[] f]→af g (w.heap.size+1) 25 [.slice (some ⟨b,0,none⟩) n n]→af g (w.heap.size+1+1) 3 [vI 0]→Calls prog 149 #[vP (w.heap.size+1),vP w.heap.size,vP (w.heap.size+1+1)] g fun e W=>∃ k,(k=0∧e=.returned (.tuple #[])∨e=pK k)∧dF (fun i=>i=w.heap.size+1+1) g W∧∃ d,af W (w.heap.size+1+1) 3 [vI d]∧Q k W (vI d)) :
  Calls prog 84 #[.func (.func G) #[] f,.slice (some ⟨b,0,none⟩) n n] w fun e L=>bW w L∧∃ d,∃ k:Int,e=.returned (.tuple #[vI d,vI k])∧Q k L (vI d):=by
 have Y:=lK;obtain ⟨s,y,x,F,H,I⟩:=MJ w 105 [.func (.func G) #[] f] 25 [.slice (some ⟨b,0,none⟩) n n] 3 [vI 0]
 have c:s.heap.size=w.heap.size+1+1+1:=by rw [← y.out];simp only [Qh]
 have r:=Qi s 31 (vI 0);have j:=x.alloc x.size (.cells #[vI 0] 31);have q:=m _ j (F.alloc _) (H.alloc _) (I.alloc _)
 have U:=fT 149 #[vP (w.heap.size+1),vP w.heap.size,vP (w.heap.size+1+1)] s (fun k W=>dF (fun i=>i=w.heap.size+1+1) (s.alloc (.cells #[vI 0] 31)) W∧∃ d,af W (w.heap.size+1+1) 3 [vI d]∧Q k W (vI d))
  (fun W=>by simp [go_sem])
  (fun k W h=>h.1.boxed r (by rw [c];omega))
  (by
   refine q.mono ?_;rintro e W ⟨k,h1,D⟩
   rcases h1 with ⟨rfl,rfl⟩ | rfl
   ·exact .inl ⟨rfl,D⟩
   ·exact .inr ⟨k,rfl,D⟩)
 have M:=Qa (And.intro j (And.intro r c));clear q F H I x m j r c;go_enter func84,ntmps84
 go_upto_region 1 with (fail)
 rw [y.out];clear y
 go_wp2_with (refine U.mono ?_;rintro e u ⟨k,W,⟨l,d,A,o⟩,rfl,rfl⟩;obtain ⟨j,r,c⟩:=M.out;rw [c];have t:=A.other (a:=⟨w.heap.size+1+1+1,0,none⟩) (by simp) (vI k);have V:=t.cell 0;have X:=t.frozen 0;simp only [Qc] at V)
 have C:=(l.boxed r (by rw [c];omega)).cell;rw [c] at C;have S:bW w W:=j.trans (l.below (B:=w.heap.size) (fun i hi=>by omega) j.size)
 have z:∀ v xs,Reads .u32 W v xs→Reads .u32 (W.setCell ⟨w.heap.size+1+1+1,0,none⟩ (vI k)) v xs:=fun v xs h=>h.setOther C (by simp) _
 have O:=(S.setCell (p:=⟨w.heap.size+1+1+1,0,none⟩) (by simp;omega) (vI k)).setCell (p:=⟨w.heap.size+1+1,0,none⟩) (by simp;omega) (vI d);have N:=E _ _ _ _ (E _ _ _ _ o z) (fun v xs (R:Reads .u32 _ v xs)=>R.setOther (t.cell 0) (by simp) (vI d))
 have T:=(t.set 0 (vI d))
 have J:=T.cell 0;simp only [QB,Qc] at J;exact bodyPost_ret (v:=.tuple #[vI d,vI k]) (by simp [results,results84,go_sem,loadCellsFrom,J]) rfl ⟨O,d,k,rfl,N⟩
theorem OX (b:Nat)(na:Bool)(c:Option Addr)(d:Nat)(a:List Nat)(w:World)(hr:af w b 24 (lN na c a.length d))(ha:Reads .u32 w (.slice c a.length d) a)(f:Limbs a)(j:au na a=false) :
 CB 81 #[.slice (some ⟨b,0,none⟩) 1 1] w fun e _=>e=pK 2:=by
 obtain ⟨l,m⟩:=aQ hr;have k:=eX b 1 0 (by decide);simp only [QC,QI] at k;have g:=dJ w (.cells #[.bool na,.slice c a.length d] 24);go_enter func81,ntmps81
 go_wp2_with fail
 refine wp_loop_rounds 3 ?_;rw [rounds_succ]
 go_wp2_with (first | (go_at_call 75;refine (mM _ na a _ ⟨_,rfl,ha.below g,f⟩ j).mono ?_;rintro e w1 ⟨h,rfl⟩;have i:=g.trans (h.mono (by simp))) | (go_at_call 106;refine (bD _ _ _ (by rfl)).mono ?_;rintro e n ⟨rfl,rfl⟩))
 exact ⟨rfl,i,rfl⟩
theorem OO {W b:World}{f:Bool}{i a k:Int}{v:Value}(h:rH W f i a k v)(d:∀ v xs,Reads .u32 W v xs→Reads .u32 b v xs):rH b f i a k v:=by
 unfold rH at h ⊢
 by_cases h1:f=false
 ·rw [if_pos h1] at h ⊢
  exact h
 ·rw [if_neg h1] at h ⊢
  by_cases c:a<0∨20<a
  ·rw [if_pos c] at h ⊢
   exact h
  ·rw [if_neg c] at h ⊢
   exact h.keep d
theorem OP (A:Nat)(neg:Bool)(a:Option Addr)(c:Nat)(xs:List Nat)(i:Int)(w:World)(g:af w A 24 (lN neg a xs.length c))(_hB:af w (A+1) 3 [vI i])(_hr:af w (A+1+1) 27 (lV 0 0 false none 0 0 ⟨#[]⟩ none 0 0))(ha:Reads .u32 w (.slice a xs.length c) xs)(h:Limbs xs)(hf:au neg xs=false) :
 CB 80 #[vP A,vP (A+1),vP (A+1+1)] w fun e _=>e=pK 2:=by
 obtain ⟨j,k⟩:=aQ g;have f:=af.new w 24 (lN neg a xs.length c);have b:=dJ w (.cells #[.bool neg,.slice a xs.length c] 24);go_enter func80,ntmps80
 go_wp2_with (go_at_call 81;refine (OX _ neg a c xs _ f (ha.below b) h hf).mono ?_;rintro e w1 ⟨d,rfl⟩)
 exact ⟨rfl,b.trans (d.mono b.size),rfl⟩
theorem OY (A:Nat)(neg:Bool)(a:Option Addr)(c:Nat)(xs:List Nat)(d:Int)(w:World)(g:af w A 24 (lN neg a xs.length c))(j:af w (A+1) 3 [vI d])(_hr:af w (A+1+1) 27 (lV 0 0 false none 0 0 ⟨#[]⟩ none 0 0))(ha:Reads .u32 w (.slice a xs.length c) xs)(l:Limbs xs)(hf:au neg xs=true)(k:d<0∨20<d) :
 CB 80 #[vP A,vP (A+1),vP (A+1+1)] w fun e _=>e=pK 1:=by
 obtain ⟨q,r⟩:=aQ g;have i:=af.new w 24 (lN neg a xs.length c);have f:=dJ w (.cells #[.bool neg,.slice a xs.length c] 24)
 have m:=fun X=>GD d X k
 go_enter func80,ntmps80
 go_wp2_with (first | (go_at_call 81;refine (MG _ neg a c xs _ i (ha.below f) l hf).mono ?_;rintro e w1 ⟨h,rfl⟩;have b:=f.trans (h.mono f.size);have n:=(g.below b).cell 0;have o:=(g.below b).cell 1;have p:=(j.below b).cell 0;simp only [Qc,Qe] at n o p) | (go_at_call 82;refine (m _).mono ?_;rintro e s ⟨rfl,rfl⟩))
 exact ⟨rfl,b,rfl⟩
theorem OQ (A:Nat)(neg:Bool)(a:Option Addr)(c:Nat)(xs:List Nat)(d:Int)(w:World)(h:af w A 24 (lN neg a xs.length c))(o:af w (A+1) 3 [vI d])(_hr:af w (A+1+1) 27 (lV 0 0 false none 0 0 ⟨#[]⟩ none 0 0))(ha:Reads .u32 w (.slice a xs.length c) xs)(k:Limbs xs)(hf:au neg xs=true)(m:0≤d∧d≤20)(n:¬(least (bX neg (val xs)) d.toNat).1.natAbs<aj^40) :
 CB 80 #[vP A,vP (A+1),vP (A+1+1)] w fun e _=>e=pK 3:=by
 obtain ⟨y,z⟩:=aQ h;have l:=af.new w 24 (lN neg a xs.length c);have g:=dJ w (.cells #[.bool neg,.slice a xs.length c] 24)
 obtain ⟨f,rfl⟩:∃ f:Nat,d=(f:Int):=⟨d.toNat,by omega⟩
 simp only [QP] at n;have p:ak w (vN neg a xs.length c) (bX neg (val xs)):=dx.isInt ⟨_,rfl,ha,k⟩ hf;have hi:(bX neg (val xs)).natAbs<aj^300:=dx.jI (w:=w) (v:=vN neg a xs.length c) ⟨_,rfl,ha,k⟩ hf
 have r:=fun X (q:bW w X)=>lS _ _ f X (p.below q) (by omega) hi n
 have s:=fun X=>zR (f:Int) X m.1 m.2
 go_enter func80,ntmps80
 go_wp2_with (first | (go_at_call 81;refine (MG _ neg a c xs _ l (ha.below g) k hf).mono ?_;rintro e w1 ⟨i,rfl⟩;have b:=g.trans (i.mono g.size);have t:=(h.below b).cell 0;have u:=(h.below b).cell 1;have x:=(o.below b).cell 0;simp only [Qc,Qe] at t u x) | (go_at_call 82;refine (s _).mono ?_;rintro e C ⟨rfl,rfl⟩) | (go_at_call 83;refine (r _ b).mono ?_;rintro e B ⟨j,rfl⟩))
 exact ⟨rfl,b.trans (j.mono b.size),rfl⟩
theorem OZ (A:Nat)(neg:Bool)(a:Option Addr)(c:Nat)(xs:List Nat)(d r:Int)(j:Nat)(w:World)(l:af w A 24 (lN neg a xs.length c))(N:af w (A+1) 3 [vI d])(hr:af w (A+1+1) 27 (lV 0 0 false none 0 0 ⟨#[]⟩ none 0 0))(ha:Reads .u32 w (.slice a xs.length c) xs)(o:Limbs xs)(hf:au neg xs=true)(E:0≤d∧d≤20)(f:least (bX neg (val xs)) d.toNat=(r,j))(S:r.natAbs<aj^40) :
  Calls prog 80 #[vP A,vP (A+1),vP (A+1+1)] w fun e t=>e=.returned (.tuple #[])∧dF (fun i=>i=A+1+1) w t∧∃ G H I J x y L M z B,af t (A+1+1) 27 (lV G H I J x y L M z B)∧dX t (vV G H I J x y L M z B) r j:=by
 obtain ⟨d0,d1⟩:=aQ l;have s:=af.new w 24 (lN neg a xs.length c);have k:=dJ w (.cells #[.bool neg,.slice a xs.length c] 24)
 obtain ⟨h,rfl⟩:∃ h:Nat,d=(h:Int):=⟨d.toNat,by omega⟩
 simp only [QP] at f;have Q:ak w (vN neg a xs.length c) (bX neg (val xs)):=dx.isInt ⟨_,rfl,ha,o⟩ hf;have hi:(bX neg (val xs)).natAbs<aj^300:=dx.jI (w:=w) (v:=vN neg a xs.length c) ⟨_,rfl,ha,o⟩ hf
 have T:=fun X (R:bW w X)=>mO _ _ h r j X (Q.below R) (by omega) hi f S
 have U:=fun X=>zR (h:Int) X E.1 E.2
 go_enter func80,ntmps80
 go_wp2_with (first | (go_at_call 81;refine (MG _ neg a c xs _ s (ha.below k) o hf).mono ?_;rintro e w1 ⟨m,rfl⟩;have b:=k.trans (m.mono k.size);have V:=(l.below b).cell 0;have Y:=(l.below b).cell 1;have Z:=(N.below b).cell 0;simp only [Qc,Qe] at V Y Z) | (go_at_call 82;refine (U _).mono ?_;rintro e w9 ⟨rfl,rfl⟩) | (go_at_call 83;refine (T _ b).mono ?_;rintro e w2 ⟨n,g,u,F,D,la,lc,rfl,O⟩;have C:=b.trans (n.mono b.size);have q:=hr.below C;obtain ⟨y0,y1,y2,y3,y4,y5,f0,f1,f2,f3,f4,f5⟩:=df q))
 go_end0
 exact ⟨rfl,((((((((dF.refl (fun i=>i=A+1+1) w).aU C).setCell (p:=⟨A+1+1,0,none⟩) (.inl rfl) _).setCell (p:=⟨A+1+1,1,none⟩) (.inl rfl) _).setCell (p:=⟨A+1+1,2,none⟩) (.inl rfl) _).setCell (p:=⟨A+1+1,3,none⟩) (.inl rfl) _).setCell (p:=⟨A+1+1,4,none⟩) (.inl rfl) _).setCell (p:=⟨A+1+1,5,none⟩) (.inl rfl) _),_,_,_,_,_,_,_,_,_,_,((((((q.set 0 (vI 3)).set 1 (vI j)).set 2 (.bool g)).set 3 (.slice u F D)).set 4 vE).set 5 (.slice la 0 lc)),g,u,F,D,la,lc,rfl,O.keep (bQ q _ _ _ _ _ _)⟩
theorem Pt (v:Value)(neg:Bool)(xs:List Nat)(s:Int)(w:World)(h:dx w v neg xs) :
  Calls prog 21 #[v,vI s] w fun e U=>bW w U∧∃ j l m n b d o q f g,∃ k:Int,e=.returned (.tuple #[vV j l m n b d o q f g,vI k])∧rH U (au neg xs) (bX neg (val xs)) s k (vV j l m n b d o q f g):=by
 obtain ⟨va,rfl,A,y⟩:=h;obtain ⟨a,c,rfl,fA,gy⟩:=A.form;have uZ:=lK;obtain ⟨u,E,V,q1,q2,q3⟩:=BC w 24 (lN neg a xs.length c) 3 [vI s]
 have t:u.heap.size=w.heap.size+1+1+1:=by rw [← E.out];simp only [Qh]
 have T:=Qi u 31 (vI 0);have D:=V.alloc V.size (.cells #[vI 0] 31);have R:=q1.alloc (.cells #[vI 0] 31);have S:=q2.alloc (.cells #[vI 0] 31);have G:=q3.alloc (.cells #[vI 0] 31)
 have O:Calls prog 80 #[vP w.heap.size,vP (w.heap.size+1),vP (w.heap.size+1+1)] (u.alloc (.cells #[vI 0] 31)) fun e W=>∃ k,(k=0∧e=.returned (.tuple #[])∨e=pK k)∧dF (fun i=>i=w.heap.size+1+1) (u.alloc (.cells #[vI 0] 31)) W∧∃ j l m n b d o q f g,af W (w.heap.size+1+1) 27 (lV j l m n b d o q f g)∧rH W (au neg xs) (bX neg (val xs)) s k (vV j l m n b d o q f g):=by
  have ra:=A.below D
  have N:∀ K:Int,(∀ W,rH W (au neg xs) (bX neg (val xs)) s K (pV))→∀ W,Below (u.alloc (.cells #[vI 0] 31)).heap.size (u.alloc (.cells #[vI 0] 31)) W→∃ k,(k=0∧pK K=.returned (.tuple #[])∨pK K=pK k)∧dF (fun i=>i=w.heap.size+1+1) (u.alloc (.cells #[vI 0] 31)) W∧∃ j l m n b d o q f g,af W (w.heap.size+1+1) 27 (lV j l m n b d o q f g)∧rH W (au neg xs) (bX neg (val xs)) s k (vV j l m n b d o q f g):=fun K hK W E=>⟨K,.inr rfl,(dF.refl _ _).aU E,0,0,false,none,0,0,⟨#[]⟩,none,0,0,G.below E,hK W⟩
  cases hf:au neg xs with
  | false =>
   rw [hf] at N;refine (OP w.heap.size neg a c xs s _ R S G ra y hf).mono ?_;rintro e W ⟨x,rfl⟩;exact N 2 (fun W=>by simp [rH]) W x
  | true =>
   rw [hf] at N
   by_cases F:s<0∨20<s
   ·refine (OY w.heap.size neg a c xs s _ R S G ra y hf F).mono ?_
    rintro e W ⟨x,rfl⟩;exact N 1 (fun W=>by simp [rH,F]) W x
   have J:0≤s∧s≤20:=by omega
   by_cases L:(least (bX neg (val xs)) s.toNat).1.natAbs<aj^40
   ·obtain ⟨r,q9,C⟩:∃ r q9,least (bX neg (val xs)) s.toNat=(r,q9):=⟨_,_,rfl⟩
    rw [C] at L;refine (OZ w.heap.size neg a c xs s r q9 _ R S G ra y hf J C L).mono ?_;rintro e W ⟨rfl,hC,j,l,m,n,b,d,o,q,f,g,hr,hD⟩;refine ⟨0,.inl ⟨rfl,rfl⟩,hC,j,l,m,n,b,d,o,q,f,g,hr,?_⟩;unfold rH dP;rw [if_neg (by decide),if_neg F,C,if_pos L];exact ⟨rfl,hD⟩
   ·refine (OQ w.heap.size neg a c xs s _ R S G ra y hf J L).mono ?_
    rintro e W ⟨x,rfl⟩;refine N 3 (fun W=>?_) W x;unfold rH dP;rw [if_neg (by decide),if_neg F,if_neg L];exact ⟨rfl,rfl⟩
 have ve:=fT 80 #[vP w.heap.size,vP (w.heap.size+1),vP (w.heap.size+1+1)] u (fun k W=>dF (fun i=>i=w.heap.size+1+1) (u.alloc (.cells #[vI 0] 31)) W∧∃ j l m n b d o q f g,af W (w.heap.size+1+1) 27 (lV j l m n b d o q f g)∧rH W (au neg xs) (bX neg (val xs)) s k (vV j l m n b d o q f g))
  (fun W=>by simp [go_sem])
  (fun k W h=>h.1.boxed T (by rw [t];omega))
  (by
   refine O.mono ?_;rintro e W ⟨k,h1,h2⟩
   rcases h1 with ⟨rfl,rfl⟩ | rfl
   ·exact .inl ⟨rfl,h2⟩
   ·exact .inr ⟨k,rfl,h2⟩)
 obtain ⟨Q,z⟩:∃ Q:World→Int→Value→Prop,Q=fun W k v=>rH W (au neg xs) (bX neg (val xs)) s k (v):=⟨_,rfl⟩
 have hQ:∀ W H k v,Q W k v→(∀ v xs,Reads .u32 W v xs→Reads .u32 H v xs)→Q H k v:=by
  rw [z]
  exact fun _ _ _ _ h F=>OO h F
 replace ve:=ve.mono (R':=fun e H=>∃ k W,(dF (fun i=>i=w.heap.size+1+1) (u.alloc (.cells #[vI 0] 31)) W∧∃ j l m n b d o q f g,af W (w.heap.size+1+1) 27 (lV j l m n b d o q f g)∧Q W k (vV j l m n b d o q f g))∧e=.returned (vI k)∧H=W.setCell ⟨u.heap.size,0,none⟩ (vI k)) (fun e w9 h=>by rw [z];exact h)
 suffices main:Calls prog 21 #[vN neg a xs.length c,vI s] w fun e U=>bW w U∧∃ j l m n b d o q f g,∃ k:Int,e=.returned (.tuple #[vV j l m n b d o q f g,vI k])∧Q U k (vV j l m n b d o q f g) by
  refine main.mono ?_;rintro e w9 ⟨X,j,l,m,n,b,d,o,q,f,g,k,he,hr⟩;rw [z] at hr;exact ⟨X,j,l,m,n,b,d,o,q,f,g,k,he,hr⟩
 have HH:=Qa (And.intro D (And.intro T t));have d0:=q1.cell 0;have d1:=q2.cell 0;clear O q1 q2 q3 R S G V D T t z A y fA gy;go_enter func21,ntmps21
 go_upto_region 1 with (fail)
 rw [E.out];clear E
 go_wp2_with (refine ve.mono ?_;rintro e H ⟨k,W,⟨I,j,l,m,n,b,d,o,q,f,g,Z,M⟩,rfl,rfl⟩;obtain ⟨D,T,t⟩:=HH.out;rw [t];have zr:=Z.other (a:=⟨w.heap.size+1+1+1,0,none⟩) (by simp) (vI k);obtain ⟨y0,y1,y2,y3,y4,y5,f0,f1,f2,f3,f4,f5⟩:=df zr)
 have e4:=(I.boxed T (by rw [t];omega)).cell;rw [t] at e4;have ig:bW w W:=D.trans (I.below (B:=w.heap.size) (fun i hi=>by omega) D.size)
 have Y:∀ v xs,Reads .u32 W v xs→Reads .u32 (W.setCell ⟨w.heap.size+1+1+1,0,none⟩ (vI k)) v xs:=fun v xs h=>h.setOther e4 (by simp) _
 have X:=((((((ig.setCell (p:=⟨w.heap.size+1+1+1,0,none⟩) (by simp;omega) (vI k)).setCell (p:=⟨w.heap.size+1+1,0,none⟩) (by simp;omega) (vI j)).setCell (p:=⟨w.heap.size+1+1,1,none⟩) (by simp;omega) (vI l)).setCell (p:=⟨w.heap.size+1+1,2,none⟩) (by simp;omega) (.bool m)).setCell (p:=⟨w.heap.size+1+1,3,none⟩) (by simp;omega) (.slice n b d)).setCell (p:=⟨w.heap.size+1+1,4,none⟩) (by simp;omega) (.string o)).setCell (p:=⟨w.heap.size+1+1,5,none⟩) (by simp;omega) (.slice q f g)
 have hO:=hQ _ _ _ _ (hQ _ _ _ _ M Y) (bQ zr (vI j) (vI l) (.bool m) (.slice n b d) (.string o) (.slice q f g));obtain ⟨u0,u1,u2,u3,u4,u5⟩:=dD zr (vI j) (vI l) (.bool m) (.slice n b d) (.string o) (.slice q f g)
 exact bodyPost_ret (v:=.tuple #[vV j l m n b d o q f g,vI k]) (by simp [results,results21,go_sem,loadCellsFrom,u0,u1,u2,u3,u4,u5]) rfl ⟨X,j,l,m,n,b,d,o,q,f,g,k,rfl,hO⟩
def nR (W:World)(v:Value)(k:Int)(v2:Value)(k2:Int):Prop:=k=k2∧((∃ i p,dX W v i p∧dX W v2 i p)∨(v=pV∧v2=pV))
theorem OV {W:World}{K:Int}{x:Int × Nat}{k b:Int}{v c:Value}(h:dG W K x k v)(a:dG W K x b c):nR W v k c b:=by
 unfold dG at h a
 by_cases hK:K=0
 ·rw [if_pos hK] at h a
  unfold dP at h a
  by_cases hf:x.1.natAbs<aj^40
  ·rw [if_pos hf] at h a
   exact ⟨h.1.trans a.1.symm,.inl ⟨_,_,h.2,a.2⟩⟩
  ·rw [if_neg hf] at h a
   exact ⟨h.1.trans a.1.symm,.inr ⟨h.2,a.2⟩⟩
 ·rw [if_neg hK] at h a
  exact ⟨h.1.trans a.1.symm,.inr ⟨h.2,a.2⟩⟩
theorem OJ (W:World):ak W (.agg #[.bool false,.slice none 0 0]) 0:=⟨false,_,[],rfl,Reads.nil _ _,iU,rfl,rfl⟩
theorem Pv {W:World}{v a:Value}{k c:Int}(h:nR W v k a c) :
  Calls prog 51 #[v,a] W fun e d=>Below W.heap.size W d∧e=.returned (.bool true):=by
 rcases h.2 with ⟨i,p,h1,b⟩ | ⟨rfl,rfl⟩
 ·exact xD v a i p W h1 b
 ·exact Ho 0 0 ⟨#[]⟩ 0 false none 0 0 none 0 false none 0 0 none 0 0 W (OJ W) (OJ W)
theorem OW (k0 n0:Int)(g:Bool)(a:Option Addr)(m c:Nat)(s:ByteArray)(la:Option Addr)(l lc:Nat)(k t v:Int)(q:Bool)(d:Option Addr)(m1 j:Nat)(x:ByteArray)(o:Option Addr)(u n:Nat)(b:Int)(w:World)
  (h:nR w (.agg #[.int .i64 k0,.int .i64 n0,.bool g,.slice a m c,.string s,.slice la l lc]) k (.agg #[.int .i64 t,.int .i64 v,.bool q,.slice d m1 j,.string x,.slice o u n]) b) :
  Calls prog 24 #[.agg #[.int .i64 k0,.int .i64 n0,.bool g,.slice a m c,.string s,.slice la l lc],.int .i64 k,.agg #[.int .i64 t,.int .i64 v,.bool q,.slice d m1 j,.string x,.slice o u n,.int .i64 b]] w fun e E=>Below w.heap.size w E∧e=.returned (.bool true):=by
 obtain ⟨F,C,f,z,A⟩:=yP w 27 [.int .i64 k0,.int .i64 n0,.bool g,.slice a m c,.string s,.slice la l lc] 41 [.int .i64 t,.int .i64 v,.bool q,.slice d m1 j,.string x,.slice o u n,.int .i64 b]
 have D:=fun X (y:Below w.heap.size w X)=>Pv (⟨h.1,h.2.elim (fun ⟨i,p,h1,B⟩=>.inl ⟨i,p,h1.below y,B.below y⟩) .inr⟩:nR X _ k _ b)
 obtain rfl:=h.1;obtain ⟨G,H,I,J,L,M⟩:=aD z;obtain ⟨N,O,Q,R,S,T,U⟩:=jW A;clear h z A;go_enter func24,ntmps24
 go_upto_region 1 with (fail)
 rw [C.out]
 go_wp2_with (go_at_call 51;refine (D _ f).mono ?_;rintro e w1 ⟨r,rfl⟩)
 go_ret;exact ⟨f.trans (r.mono f.size),rfl⟩
def eU (m l:Nat)(s:ByteArray):Bool:=decide (m≤60)&&(decide (l≤100)&&decide (s.size≤3000))
theorem Lb {m l:Nat}{s:ByteArray}(h:60<m):eU m l s=false:=by unfold eU;rw [decide_eq_false (by omega)];rfl
theorem NW {m l:Nat}{s:ByteArray}(h:100<l):eU m l s=false:=by unfold eU;rw [decide_eq_false (p:=l≤100) (by omega),ZP,Bool.and_false]
theorem NY {m l:Nat}{s:ByteArray}(h:3000<s.size):eU m l s=false:=by unfold eU;rw [decide_eq_false (p:=s.size≤3000) (by omega),Bool.and_false,Bool.and_false]
theorem qb {m l:Nat}{s:ByteArray}(h1:¬60<m)(a:¬100<l)(b:¬3000<s.size):eU m l s=true:=by unfold eU;rw [decide_eq_true (by omega),decide_eq_true (by omega),decide_eq_true (by omega)];rfl
theorem Re (b:Nat){s t:Int}{q:Bool}{m p:Option Addr}{m1 n f o:Nat}{g:ByteArray}(w:World)(hr:af w b 27 (lV s t q m m1 n g p f o)) :
  Calls prog 17 #[.slice (some ⟨b,0,none⟩) 1 1] w fun e u=>w=u∧e=.returned (.bool (eU m1 f g)):=by
 have r:=eY b 1 0 (by decide);simp only [QC,QI] at r;obtain ⟨v,x,y⟩:=PV hr;clear hr
 by_cases a:60<m1
 case pos =>
  have i:decide ((60:Int)<(m1:Int))=true:=decide_eq_true (by omega);have h:=Qa (show (eU m1 f g)=false by rw [Lb a] <;> simp);clear  a;go_enter func17,ntmps17
  go_wp2_with fail
  refine wp_loop_rounds 2 ?_;rw [rounds_succ]
  go_wp2_with fail
  go_ret;exact ⟨rfl,by rw [h.out];rfl⟩
 have i:decide ((60:Int)<(m1:Int))=false:=decide_eq_false (by omega)
 by_cases c:100<f
 case pos =>
  have j:decide ((100:Int)<(f:Int))=true:=decide_eq_true (by omega);have h:=Qa (show (eU m1 f g)=false by rw [NW c] <;> simp);clear  c;go_enter func17,ntmps17
  go_wp2_with fail
  refine wp_loop_rounds 2 ?_;rw [rounds_succ]
  go_wp2_with fail
  go_ret;exact ⟨rfl,by rw [h.out];rfl⟩
 have j:decide ((100:Int)<(f:Int))=false:=decide_eq_false (by omega)
 by_cases d:3000<g.size
 case pos =>
  have k:decide ((3000:Int)<(g.size:Int))=true:=decide_eq_true (by omega);have h:=Qa (show (eU m1 f g)=false by rw [NY d] <;> simp);clear  d;go_enter func17,ntmps17
  go_wp2_with fail
  refine wp_loop_rounds 2 ?_;rw [rounds_succ]
  go_wp2_with fail
  go_ret;exact ⟨rfl,by rw [h.out];rfl⟩
 have k:decide ((3000:Int)<(g.size:Int))=false:=decide_eq_false (by omega);have l:=qb a c d;clear a c d;have h:=Qa (show (eU m1 f g)=true by rw [l] <;> rfl);clear l;go_enter func17,ntmps17
 go_wp2_with fail
 refine wp_loop_rounds 2 ?_;rw [rounds_succ]
 go_wp2_with fail
 rw [rounds_succ]
 go_wp2_with fail
 go_ret;exact ⟨rfl,by rw [h.out];rfl⟩
theorem PX (b:Nat){L N:Int}{G:Bool}{C F:Option Addr}{m1 D c E:Nat}{f:ByteArray}{M n2:Int}{H:Bool}{a2 gm:Option Addr}{m2 c2 d gp:Nat}{g:ByteArray}(w:World)(hr:af w b 27 [vI L,vI N,.bool G,.slice C m1 D,.string f,.slice F c E,vI M,vI n2,.bool H,.slice a2 m2 c2,.string g,.slice gm d gp]) :
  Calls prog 17 #[.slice (some ⟨b,0,none⟩) 2 2] w fun e O=>w=O∧e=.returned (.bool (eU m1 c f&&eU m2 d g)):=by
 have I:=eY b 2 0 (by decide);simp only [QC,QI] at I;have u:=hr.cell 3;have v:=hr.cell 4;have x:=hr.cell 5;have J:=eY b 2 1 (by decide);simp only [JK,QD] at J;have y:=hr.cell 9;have z:=hr.cell 10;have A:=hr.cell 11;simp only [Qc,Qe] at u v x y z A;clear hr
 by_cases h:60<m1
 case pos =>
  have o:decide ((60:Int)<(m1:Int))=true:=decide_eq_true (by omega);have a:=Qa (show (eU m1 c f&&eU m2 d g)=false by rw [Lb h] <;> simp);clear  h;go_enter func17,ntmps17
  go_wp2_with fail
  refine wp_loop_rounds 3 ?_;rw [rounds_succ]
  go_wp2_with fail
  go_ret;exact ⟨rfl,by rw [a.out];rfl⟩
 have o:decide ((60:Int)<(m1:Int))=false:=decide_eq_false (by omega)
 by_cases i:100<c
 case pos =>
  have p:decide ((100:Int)<(c:Int))=true:=decide_eq_true (by omega);have a:=Qa (show (eU m1 c f&&eU m2 d g)=false by rw [NW i] <;> simp);clear  i;go_enter func17,ntmps17
  go_wp2_with fail
  refine wp_loop_rounds 3 ?_;rw [rounds_succ]
  go_wp2_with fail
  go_ret;exact ⟨rfl,by rw [a.out];rfl⟩
 have p:decide ((100:Int)<(c:Int))=false:=decide_eq_false (by omega)
 by_cases j:3000<f.size
 case pos =>
  have q:decide ((3000:Int)<(f.size:Int))=true:=decide_eq_true (by omega);have a:=Qa (show (eU m1 c f&&eU m2 d g)=false by rw [NY j] <;> simp);clear  j;go_enter func17,ntmps17
  go_wp2_with fail
  refine wp_loop_rounds 3 ?_;rw [rounds_succ]
  go_wp2_with fail
  go_ret;exact ⟨rfl,by rw [a.out];rfl⟩
 have q:decide ((3000:Int)<(f.size:Int))=false:=decide_eq_false (by omega);have n:=qb h i j;clear h i j
 by_cases k:60<m2
 case pos =>
  have r:decide ((60:Int)<(m2:Int))=true:=decide_eq_true (by omega);have a:=Qa (show (eU m1 c f&&eU m2 d g)=false by rw [Lb k,n] <;> simp);clear n k;go_enter func17,ntmps17
  go_wp2_with fail
  refine wp_loop_rounds 3 ?_;rw [rounds_succ]
  go_wp2_with fail
  rw [rounds_succ]
  go_wp2_with fail
  go_ret;exact ⟨rfl,by rw [a.out];rfl⟩
 have r:decide ((60:Int)<(m2:Int))=false:=decide_eq_false (by omega)
 by_cases l:100<d
 case pos =>
  have s:decide ((100:Int)<(d:Int))=true:=decide_eq_true (by omega);have a:=Qa (show (eU m1 c f&&eU m2 d g)=false by rw [NW l,n] <;> simp);clear n l;go_enter func17,ntmps17
  go_wp2_with fail
  refine wp_loop_rounds 3 ?_;rw [rounds_succ]
  go_wp2_with fail
  rw [rounds_succ]
  go_wp2_with fail
  go_ret;exact ⟨rfl,by rw [a.out];rfl⟩
 have s:decide ((100:Int)<(d:Int))=false:=decide_eq_false (by omega)
 by_cases m:3000<g.size
 case pos =>
  have t:decide ((3000:Int)<(g.size:Int))=true:=decide_eq_true (by omega);have a:=Qa (show (eU m1 c f&&eU m2 d g)=false by rw [NY m,n] <;> simp);clear n m;go_enter func17,ntmps17
  go_wp2_with fail
  refine wp_loop_rounds 3 ?_;rw [rounds_succ]
  go_wp2_with fail
  rw [rounds_succ]
  go_wp2_with fail
  go_ret;exact ⟨rfl,by rw [a.out];rfl⟩
 have t:decide ((3000:Int)<(g.size:Int))=false:=decide_eq_false (by omega);have B:=qb k l m;clear k l m;have a:=Qa (show (eU m1 c f&&eU m2 d g)=true by rw [n,B] <;> rfl);clear n B;go_enter func17,ntmps17
 go_wp2_with fail
 refine wp_loop_rounds 3 ?_;rw [rounds_succ]
 go_wp2_with fail
 rw [rounds_succ]
 go_wp2_with fail
 rw [rounds_succ]
 go_wp2_with fail
 go_ret;exact ⟨rfl,by rw [a.out];rfl⟩
def cmpL (x y:Int × Nat):Int:=dS (x.1*((10^(max x.2 y.2 - x.2):Nat):Int)) (y.1*((10^(max x.2 y.2 - y.2):Nat):Int))
def Pe (f g:Option (Int × Nat)):Int:=match f,g with
 | some x,some y=>cmpL x y
 | _,_=>0
theorem Pk (A B:Nat){I n2:Bool}{o a2 C gm:Option Addr}{m1 t z m2 c2 gp p q:Nat}{i j:Int}(w:World)(f:af w A 27 (lV 3 p I o m1 t ⟨#[]⟩ C 0 z))(h:af w B 27 (lV 3 q n2 a2 m2 c2 ⟨#[]⟩ gm 0 gp))(h1:dB w (vV 3 p I o m1 t ⟨#[]⟩ C 0 z) i p)(d:dB w (vV 3 q n2 a2 m2 c2 ⟨#[]⟩ gm 0 gp) j q) :
  Calls prog 85 #[vP A,vP B] w fun e n=>bW w n∧∃ v,e=.returned v∧v=vI (cmpL (i,p) (j,q)):=by
 have G:=fun X (E:bW w X)=>wU _ _ i p j q X (h1.below E) (d.below E)
 have hp:=h1.hi;have hq:=d.hi;have s:=iF h1.abs (show max p q - p≤40 by omega);have L:=iF d.abs (show max p q - q≤40 by omega)
 show Calls _ _ _ _ fun e n=>bW w n∧∃ v,e=.returned v∧v=vI (dS (i*((10^(max p q - p):Nat):Int)) (j*((10^(max p q - q):Nat):Int)))
 generalize i*((10^(max p q - p):Nat):Int)=x at *;generalize j*((10^(max p q - q):Nat):Int)=y at *;generalize max p q=M at *
 have kC:=fun (X:World) v v' (hv:ak X v x) (k:ak X v' y)=>wL v v' x y X hv k (az s (by decide)) (az L (by decide))
 obtain ⟨N,O,Q,R,S,T⟩:=aD f;obtain ⟨U,V,Y,Z,e4,e5⟩:=aD h;clear h1 d f h hp hq s L;go_enter func85,ntmps85
 go_upto_region 1 with (fail)
 go_cut [3,4] from 5 to 12 (fun v3 v4 W=>kJ W v3 x∧kJ W v4 y∧bW w W)
 case first =>
  go_wp2_with (go_at_call 86;refine (G _ (Qj _ _)).mono ?_;rintro e w1 ⟨b,g,a,m,c,D,r,H,u,rfl,f,h⟩)
  go_meet
  have J:=dJ w1 (.cells #[.bool g,.slice a m c] 24);have l:=J.alloc J.size (.cells #[.bool D,.slice r H u] 24);exact ⟨⟨_,_,_,_,_,rfl,(af.new w1 24 (lN g a m c)).alloc _,f.below l⟩,⟨_,_,_,_,_,rfl,(af.new (w1.alloc (.cells #[.bool g,.slice a m c] 24)) 24 (lN D r H u)).at (by simp),h.below l⟩,b.trans (l.mono b.size)⟩
 case rest =>
  obtain ⟨⟨b7,n7,a7,m7,c7,rfl,r7,i7⟩,⟨b8,n8,a8,m8,c8,rfl,r8,i8⟩,F⟩:=hcut;obtain ⟨x0,x1⟩:=aQ r7;obtain ⟨x2,x3⟩:=aQ r8;clear G r7 r8 N O Q R S T U V Y Z e4 e5
  go_wp2_with (go_at_call 87;refine (kC _ _ _ i7 i8).mono ?_;rintro e w1 ⟨b,rfl⟩)
  go_ret;exact ⟨F.trans (b.mono F.size),_,rfl,rfl⟩
theorem OT (Y Z:Value)(a c:Option (Int × Nat))(w:World)(h1:Fm w Y a)(O:Fm w Z c) :
 CB 22 #[Y,Z] w fun e _=>e=.returned (.tuple #[vI (Pe a c),vI (qE (fun _ _=>0) a c)]):=by
 obtain ⟨A,G,j,r,m1,s,o,u,E,t,rfl⟩:=h1.kY;obtain ⟨B,n2,l,a2,m2,c2,p,gm,F,gp,rfl⟩:=O.kY
 have D:∀ f b,bW w f→af f w.heap.size 27 (lV A G j r m1 s o u E t)→af f (w.heap.size+1) 27 (lV B n2 l a2 m2 c2 p gm F gp)→af f b 27 [vI A,vI G,.bool j,.slice r m1 s,.string o,.slice u E t,vI B,vI n2,.bool l,.slice a2 m2 c2,.string p,.slice gm F gp]→Calls prog 84 #[.func (.func 85) #[] #[vP w.heap.size,vP (w.heap.size+1)],.slice (some ⟨b,0,none⟩) 2 2] f fun e w'=>bW f w'∧∃ g:Int,∃ k:Int,e=.returned (.tuple #[vI g,vI k])∧k=qE (fun _ _=>0) a c∧Value.int .i64 g=vI (Pe a c):=by
  intro f b I r1 r2 row;refine PI _ _ b 2 f (fun k _ v=>k=qE (fun _ _=>0) a c∧v=vI (Pe a c)) (fun _ _ _ _ h _=>h) (fun m z j l H=>?_)
  have X:(qE (fun _ _=>0) a c)=2→Pe a c=0→∀ W,bW m W→∃ k,(k=0∧pK 2=.returned (.tuple #[])∨pK 2=pK k)∧dF (fun i=>i=f.heap.size+1+1) m W∧∃ g:Int,af W (f.heap.size+1+1) 3 [vI g]∧k=qE (fun _ _=>0) a c∧Value.int .i64 g=vI (Pe a c):=fun hk hc W d=>⟨2,.inr rfl,(dF.refl _ m).aU d,0,H.below d,hk.symm,by rw [hc]⟩
  have S:=row.below z;have o:=r1.below z;have p:=r2.below z;have n:=h1.below (I.trans (z.mono I.size));have q:=O.below (I.trans (z.mono I.size))
  cases a with
  | none =>
   refine (Ph f.heap.size b 85 #[vP w.heap.size,vP (w.heap.size+1)] m j l H S n).mono ?_;rintro e W ⟨d,rfl⟩;exact X rfl rfl W d
  | some x =>
   cases c with
   | none =>
    refine (Pj f.heap.size b 85 #[vP w.heap.size,vP (w.heap.size+1)] m j l H S n q).mono ?_;rintro e W ⟨d,rfl⟩;exact X rfl rfl W d
   | some y =>
    have n:dB m _ x.1 x.2:=n;have q:dB m _ y.1 y.2:=q;obtain ⟨n5,a5,m5,c5,a0,a4,M,-⟩:=n.shape;obtain ⟨n6,a6,m6,c6,a3,a7,N,-⟩:=q.shape;simp only [Value.agg.injEq,Array.mk.injEq,List.cons.injEq,Value.int.injEq,Value.bool.injEq,Value.slice.injEq,Value.string.injEq,and_true,true_and] at M N;obtain ⟨rfl,rfl,rfl,⟨rfl,rfl,rfl⟩,rfl,rfl,rfl,rfl⟩:=M
    obtain ⟨rfl,rfl,rfl,⟨rfl,rfl,rfl⟩,rfl,rfl,rfl,rfl⟩:=N;refine (Pg f.heap.size b 85 #[vP w.heap.size,vP (w.heap.size+1)] m j l H S n q (fun _ v=>v=vI (cmpL x y)) (fun _ _ _ h _=>h) (fun W v h=>⟨_,h⟩) (fun W=>by simp [go_sem]) (fun W d=>Pk _ _ W (o.below d) (p.below d) (n.below d) (q.below d))).mono ?_;rintro e W ⟨rfl,Q,g,hr,hD⟩;exact ⟨0,.inl ⟨rfl,rfl⟩,Q,g,hr,rfl,hD⟩
 obtain ⟨V,d,J,T,U⟩:=yP w 27 (lV A G j r m1 s o u E t) 27 (lV B n2 l a2 m2 c2 p gm F gp);obtain ⟨d0,d1,d2,d3,d4,d5⟩:=aD T;obtain ⟨e0,M,N,e3,e4,e5⟩:=aD U;have L:=J.alloc J.size (.cells #[vI A,vI G,.bool j,.slice r m1 s,.string o,.slice u E t,vI B,vI n2,.bool l,.slice a2 m2 c2,.string p,.slice gm F gp] 27)
 have gY:=D _ V.heap.size L (T.alloc _) (U.alloc _) (af.new V 27 [vI A,vI G,.bool j,.slice r m1 s,.string o,.slice u E t,vI B,vI n2,.bool l,.slice a2 m2 c2,.string p,.slice gm F gp]);have uZ:=lK;generalize qE (fun _ _=>0) a c=K at *;generalize Pe a c=C at *;clear D h1 O J T U;go_enter func22,ntmps22
 go_upto_region 1 with (fail)
 rw [d.out];clear d
 go_wp2_with (refine gY.mono ?_;rintro e w3 ⟨R,g,k,rfl,rfl,Q⟩;obtain rfl:g=C:=by simpa using Q)
 exact bodyPost_ret (v:=.tuple #[vI g,vI k]) (by simp [results,results22,go_sem]) rfl ⟨L.trans (R.mono L.size),rfl⟩
theorem Rb (d:Int)(b:Nat){g:Bool}{a:Option Addr}{m c:Nat}(w:World)(hr:af w b 24 (lN g a m c)) :
  Calls prog 18 #[vI d,.slice (some ⟨b,0,none⟩) 1 1] w fun e k=>w=k∧e=.returned (.bool (decide ((m:Int)≤d))):=by
 have j:=eX b 1 0 (by decide);simp only [QC,QI] at j;have l:=Dk hr;clear hr
 by_cases f:d<(m:Int)
 case pos =>
  have i:decide (d<(m:Int))=true:=decide_eq_true f;have h:=Qa (show decide ((m:Int)≤d)=false by rw [decide_eq_false_iff_not];omega);clear f;go_enter func18,ntmps18
  go_wp2_with fail
  refine wp_loop_rounds 2 ?_;rw [rounds_succ]
  go_wp2_with fail
  go_ret;exact ⟨rfl,by rw [h.out];rfl⟩
 have i:decide (d<(m:Int))=false:=decide_eq_false f;have h:=Qa (show decide ((m:Int)≤d)=true by rw [decide_eq_true_iff];omega);clear f;go_enter func18,ntmps18
 go_wp2_with fail
 refine wp_loop_rounds 2 ?_;rw [rounds_succ]
 go_wp2_with fail
 rw [rounds_succ]
 go_wp2_with fail
 go_ret;exact ⟨rfl,by rw [h.out];rfl⟩
theorem Fm.is {w:World}{v:Value}{f:Option (Int × Nat)}(h:Fm w v f) :
 CB 20 #[v] w fun e _=>e=.returned (.bool f.isSome):=by
 cases f with
 | none=>exact mJ.is h
 | some x=>exact dB.is h
theorem Fm.check {w:World}{v:Value}{f:Option (Int × Nat)}(h:Fm w v f) :
 CB 19 #[v] w fun e _=>e=.returned (vI (vg (fun _=>0) f)):=by
 cases f with
 | none=>exact mJ.check h
 | some x=>exact dB.check h
theorem Pw {W:World}{b:Bool}{i c:Int}{k g:Int}{v j:Value}(h:rH W b i c k v)(a:rH W b i c g j):nR W v k j g:=by
 unfold rH at h a
 by_cases d:b=false
 ·rw [if_pos d] at h a
  exact ⟨h.1.trans a.1.symm,.inr ⟨h.2,a.2⟩⟩
 ·rw [if_neg d] at h a
  by_cases f:c<0∨20<c
  ·rw [if_pos f] at h a
   exact ⟨h.1.trans a.1.symm,.inr ⟨h.2,a.2⟩⟩
  ·rw [if_neg f] at h a
   exact OV (K:=0) (lQ h) (lQ a)
theorem rH.keep {W c:World}{b:Bool}{i a k:Int}{v:Value}(h:rH W b i a k v)(g:∀ v xs,Reads .u32 W v xs→Reads .u32 c v xs):rH c b i a k v:=by
 unfold rH at h ⊢
 by_cases d:b=false
 ·rw [if_pos d] at h ⊢
  exact h
 ·rw [if_neg d] at h ⊢
  by_cases f:a<0∨20<a
  ·rw [if_pos f] at h ⊢
   exact h
  ·rw [if_neg f] at h ⊢
   exact h.keep g
theorem rH.below {W a:World}{b:Bool}{i c k:Int}{v:Value}(h:rH W b i c k v)(d:bW W a):rH a b i c k v:=h.keep fun _ _ f=>f.below d
theorem PY (A:Nat){L:Bool}{y C:Option Addr}{m1 z B p:Nat}{i:Int}(w:World)(l:af w A 27 (lV 3 p L y m1 z ⟨#[]⟩ C 0 B))(h1:dB w (vV 3 p L y m1 z ⟨#[]⟩ C 0 B) i p) :
 CB 89 #[vP A] w fun e w'=>∃ v,e=.returned v∧dX w' v (-i) p:=by
 obtain ⟨Q,o,t,k,f⟩:=h1;obtain ⟨n9,a9,m9,c9,V,Y,E,N⟩:=Q;simp only [Value.agg.injEq,Array.mk.injEq,List.cons.injEq,Value.bool.injEq,Value.slice.injEq,and_true,true_and] at E;obtain ⟨rfl,⟨rfl,rfl,rfl⟩,rfl,rfl⟩:=E
 have J:=fun X (S:bW w X)=>Mi _ i X (N.below S)
 have u:(-i).natAbs<aj^40:=by rw [JU];exact k
 have H:least (-i) p=(-i,p):=En p (-i) o (f.elim .inl fun h=>.inr (by omega))
 have I:=fun X v (U:ak X v (-i))=>mO v (-i) p (-i) p X U (by omega) (az u (by decide)) H u
 obtain ⟨W0,G,s,M⟩:=qD w;have q:=l.lt;have D:=fC (R:=bI _) (ax (l.below s) aS) ⟨_,_,_,_,_,_,_,_,_,_,M⟩ s
 have r:=yO D fun X h=>(nk h.r0:)
 have x:Hid (A≠w.heap.size):=Qa (Qg q);clear u H o t k f l M s q;go_enter func89,ntmps89
 go_upto_region 1 with (fail)
 rw [G.out];clear G
 go_wp2_with fail
 refine bB r (bY bI.drew D) fun X0 d=>?_
 refine tk 0 d ?_;refine tk 1 d ?_;refine tk 3 d ?_;refine tk 4 d ?_
 refine rd 2 fun n j=>?_
 have hP:=d.2
 go_wp2_with (go_at_call 90;refine (J _ hP.below).mono ?_;rintro e wk ⟨b,v5,rfl,l⟩)
 refine aT j r (ag bI.step hP b) fun d=>?_
 clear j n hP b
 refine rd 5 fun n j=>?_
 have hP:=d.2
 go_wp2_with (go_at_call 83;refine (I _ _ l).mono ?_;rintro e wk ⟨b,g,a,m,c,la,lc,rfl,F⟩)
 replace l:=l.below b
 refine aT j r (ag bI.step hP b) fun d=>?_
 clear j n hP b
 refine rd 6 fun n j=>?_
 have hP:=d.2;obtain ⟨z0,z1,z2,z3,aI,aJ,z4,z5,aN,aO,hr,y0,y1,y2,y3,y4,y5,f0,f1,f2,f3,f4,f5⟩:=hP.res.cells;clear J I
 go_wp2_with fail
 refine aT j r (gF hP (aZ x.out dV) (Qb _) 3 (p:Int) g a m c ⟨#[]⟩ la 0 lc) fun d=>?_
 clear j n;obtain ⟨Z,u1,u2,u3,u4,u5⟩:=dD hr (vI 3) (vI p) (.bool g) (.slice a m c) vE (.slice la 0 lc);refine wpAnyH_done (by kernel_rfl) ?_ _;have T:=d.2.below;have O:=F.keep (bQ hr (vI 3) (vI p) (.bool g) (.slice a m c) vE (.slice la 0 lc));clear d hP F
 go_wp2_with fail
 exact bodyPost_ret (v:=vV 3 p g a m c ⟨#[]⟩ la 0 lc) (by simp [results,results89,go_sem,loadCellsFrom,Z,u1,u2,u3,u4,u5]) rfl ⟨T,_,rfl,g,a,m,c,la,lc,rfl,O⟩
theorem PK (va:Value)(u:Option (Int × Nat))(w:World)(h1:Fm w va u) :
  Calls prog 23 #[va] w fun e B=>bW w B∧∃ l o q r d f s t g j,∃ k:Int,e=.returned (.tuple #[vV l o q r d f s t g j,vI k])∧dG B (vg (fun _=>0) u) (BB za u) k (vV l o q r d f s t g j):=by
 obtain ⟨H,J,y,C,m1,D,z,F,I,E,rfl⟩:=h1.kY
 have U:∀ A b,bW w A→af A w.heap.size 27 (lV H J y C m1 D z F I E)→af A b 27 (lV H J y C m1 D z F I E)→Calls prog 88 #[.func (.func 89) #[] #[vP w.heap.size],.slice (some ⟨b,0,none⟩) 1 1] A fun e B=>bW A B∧∃ l o q r d f s t g j,∃ k:Int,e=.returned (.tuple #[vV l o q r d f s t g j,vI k])∧dG B (vg (fun _=>0) u) (BB za u) k (vV l o q r d f s t g j):=by
  intro A b Q r1 row;refine pE _ _ b 1 A (fun k W v=>dG W (vg (fun _=>0) u) (BB za u) k v) (fun _ _ _ _ h N=>h.keep N) (fun O h4 y g2 g3=>?_)
  have hz:∀ K:Int,K≠0→(vg (fun _=>0) u)=K→∀ W,bW O W→∃ k,(k=0∧pK K=.returned (.tuple #[])∨pK K=pK k)∧dF (fun i=>i=A.heap.size+1+1) O W∧∃ l o q r d f s t g j,af W (A.heap.size+1+1) 27 (lV l o q r d f s t g j)∧dG W (vg (fun _=>0) u) (BB za u) k (vV l o q r d f s t g j):=fun K hK N W G=>⟨K,.inr rfl,(dF.refl _ O).aU G,0,0,false,none,0,0,⟨#[]⟩,none,0,0,g3.below G,by rw [N];exact jX hK⟩
  have ja:=row.below h4;have z:=r1.below h4;have M:=h1.below (Q.trans (h4.mono Q.size))
  cases u with
  | none =>
   refine (tZ A.heap.size b 89 #[vP w.heap.size] O y g2 g3 ja M).mono ?_;rintro e W ⟨G,rfl⟩;exact hz 2 (by decide) rfl W G
  | some x =>
   have M:dB O _ x.1 x.2:=M;obtain ⟨n5,a5,m5,c5,a4,a6,e1,-⟩:=M.shape;simp only [Value.agg.injEq,Array.mk.injEq,List.cons.injEq,Value.int.injEq,Value.bool.injEq,Value.slice.injEq,Value.string.injEq,and_true,true_and] at e1;obtain ⟨rfl,rfl,rfl,⟨rfl,rfl,rfl⟩,rfl,rfl,rfl,rfl⟩:=e1
   have hf:(za x).1.natAbs<aj^40:=by show (-x.1).natAbs<_;rw [JU];exact M.abs
   refine (tY A.heap.size b 89 #[vP w.heap.size] O y g2 g3 ja M (fun W v=>dX W v (za x).1 (za x).2) (fun _ _ _ h N=>h.keep N) (fun W v h=>?_) (fun W=>by simp [go_sem]) (fun W G=>PY _ W (z.below G) (M.below G))).mono ?_
   ·obtain ⟨n,a,m,c,la,lc,rfl,-⟩:=h
    exact ⟨_,_,_,_,_,_,_,_,_,_,rfl⟩
   ·rintro e W ⟨rfl,hC,l,o,q,r,d,f,s,t,g,j,hr,hD⟩
    refine ⟨0,.inl ⟨rfl,rfl⟩,hC,l,o,q,r,d,f,s,t,g,j,hr,?_⟩;refine lQ ?_
    show dP W (za x).1 (za x).2 0 _
    unfold dP;rw [if_pos hf];exact ⟨rfl,hD⟩
 obtain ⟨L,G,V,Y,qr⟩:=vk w 27 (lV H J y C m1 D z F I E);have dH:=fC (R:=bI _) (ax Y aS) ⟨_,_,_,_,_,_,_,_,_,_,qr⟩ V;obtain ⟨d0,d1,d2,d3,d4,d5⟩:=aD Y;have Z:=V.alloc V.size (.cells #[vI H,vI J,.bool y,.slice C m1 D,.string z,.slice F I E] 27);have gY:=U _ L.heap.size Z (Y.alloc _) (af.new L 27 (lV H J y C m1 D z F I E));have uZ:=lK
 obtain ⟨R,X⟩:∃ R:World→Int→Value→Prop,R=fun W k v=>dG W (vg (fun _=>0) u) (BB za u) k v:=⟨_,rfl⟩
 have a0:∀ W W' k v,R W k v→(∀ v xs,Reads .u32 W v xs→Reads .u32 W' v xs)→R W' k v:=by
  rw [X]
  exact fun _ _ _ _ h N=>h.keep N
 replace gY:Calls prog 88 #[.func (.func 89) #[] #[vP w.heap.size],.slice (some ⟨L.heap.size,0,none⟩) 1 1] (L.alloc (.cells ((lV H J y C m1 D z F I E):List Value).toArray 27)) fun e B=>Below (L.alloc (.cells ((lV H J y C m1 D z F I E):List Value).toArray 27)).heap.size (L.alloc (.cells ((lV H J y C m1 D z F I E):List Value).toArray 27)) B∧∃ l o q r d f s t g j,∃ k:Int,e=.returned (.tuple #[vV l o q r d f s t g j,vI k])∧R B k (vV l o q r d f s t g j):=by
  refine gY.mono ?_;rintro e w9 ⟨Q,l,o,q,r,d,f,s,t,g,j,k,he,hr⟩;rw [X];exact ⟨Q,l,o,q,r,d,f,s,t,g,j,k,he,hr⟩
 suffices main:Calls prog 23 #[vV H J y C m1 D z F I E] w fun e B=>bW w B∧∃ l o q r d f s t g j,∃ k:Int,e=.returned (.tuple #[vV l o q r d f s t g j,vI k])∧R B k (vV l o q r d f s t g j) by
  refine main.mono ?_;rintro e w9 ⟨Q,l,o,q,r,d,f,s,t,g,j,k,he,hr⟩;rw [X] at hr;exact ⟨Q,l,o,q,r,d,f,s,t,g,j,k,he,hr⟩
 have a3:fI w L (bI (w.heap.size+1)) [(w.heap.size,27,(lV H J y C m1 D z F I E))] L:=dH;clear U X h1 V Y dH;go_enter func23,ntmps23
 go_upto_region 1 with (fail)
 rw [G.out];clear G
 go_wp2_with (refine gY.mono ?_;rintro e w3 ⟨S,l,o,q,r,d,f,s,t,g,j,k,rfl,T⟩;have b6:=Z.trans (S.mono Z.size);have q3:=(qr.alloc _).below S;obtain ⟨y0,y1,y2,y3,y4,y5,f0,u,f2,f3,f4,f5⟩:=df q3)
 obtain ⟨u0,u1,u2,u3,u4,u5⟩:=dD q3 (vI l) (vI o) (.bool q) (.slice r d f) (.string s) (.slice t g j)
 have a2:=((((((b6.setCell (show w.heap.size≤w.heap.size+1 by omega) (p:=⟨w.heap.size+1,0,none⟩) (vI l)).setCell (show w.heap.size≤w.heap.size+1 by omega) (p:=⟨w.heap.size+1,1,none⟩) (vI o)).setCell (show w.heap.size≤w.heap.size+1 by omega) (p:=⟨w.heap.size+1,2,none⟩) (.bool q)).setCell (show w.heap.size≤w.heap.size+1 by omega) (p:=⟨w.heap.size+1,3,none⟩) (.slice r d f)).setCell (show w.heap.size≤w.heap.size+1 by omega) (p:=⟨w.heap.size+1,4,none⟩) (.string s)).setCell (show w.heap.size≤w.heap.size+1 by omega) (p:=⟨w.heap.size+1,5,none⟩) (.slice t g j))
 exact bodyPost_ret (v:=.tuple #[vV l o q r d f s t g j,vI k]) (by simp [results,results23,go_sem,loadCellsFrom,u0,u1,u2,u3,u4,u5]) rfl ⟨a2,l,o,q,r,d,f,s,t,g,j,k,rfl,a0 _ _ _ _ T (bQ q3 (vI l) (vI o) (.bool q) (.slice r d f) (.string s) (.slice t g j))⟩
end Go.Proofs.YtagjhmodblifbaaGreatDoor
