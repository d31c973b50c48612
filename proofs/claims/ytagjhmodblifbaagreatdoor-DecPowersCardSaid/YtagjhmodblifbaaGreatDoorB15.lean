/- proved lemmas -/
import Derived.Test.YtagjhmodblifbaaGreatDoorMA
import Derived.Test.YtagjhmodblifbaaGreatDoorB00
import Derived.Test.YtagjhmodblifbaaGreatDoorB14
import Derived.LoopN
import Derived.Test.YtagjhmodblifbaaGreatDoorB02
import Derived.Test.YtagjhmodblifbaaGreatDoorB12
import Derived.Test.YtagjhmodblifbaaGreatDoorB08
import Derived.Test.YtagjhmodblifbaaGreatDoorB11
import Derived.Test.YtagjhmodblifbaaGreatDoorB13
set_option maxHeartbeats 4000000
set_option maxRecDepth 100000
set_option exponentiation.threshold 100000
namespace Go.Proofs.YtagjhmodblifbaaGreatDoor
open Go.Proofs.Tryz
open Go Go.RowKit Go.Shelf
theorem KA:prog.underlying 25=some (.slice 27):=by kernel_rfl
theorem KC (w:World):(sizeOf 27).run prog w=.ok 6 w:=by simp [go_sem]
theorem eY (b n j:Nat)(c:j<n)(W:World):(Instr.indexAt 25 (.slice (some ⟨b,0,none⟩) n n) (vI j)).run prog W=.ok (.pointer (some ⟨b,j*6,none⟩)) W:=by
 have a:prog.elem 25=27:=by simp [Program.elem]
 have h1:(sizeOf (prog.elem 25)).run prog W=.ok 6 W:=by rw [a];exact KC W
 rw [run_indexAt_slice W 25 ⟨b,0,none⟩ n n .i64 j (by rw [KA,a])];rw [if_pos ⟨by omega,by omega⟩,h1];simp [Result.andThen,Addr.add];intro h;exact h.symm
theorem tY (B b G:Nat)(a:Array Value){E H:Int}{A:Bool}{t:Option Addr}{m1 x:Nat}{I:ByteArray}{z:Option Addr}{F y:Nat}{U:Int}{Z:Nat}(w:World)(S:af w B 107 [.func (.func G) #[] a])(R:af w (B+1) 25 [.slice (some ⟨b,0,none⟩) 1 1])(hr:af w (B+2) 27 (lV 0 0 false none 0 0 ⟨#[]⟩ none 0 0))(r:af w b 27 (lV E H A t m1 x I z F y))
  (h1:dB w (vV E H A t m1 x I z F y) U Z) (P:World→Value→Prop) (Q:∀ W q v,P W v→(∀ v xs,Reads .u32 W v xs→Reads .u32 q v xs)→P q v) (D:∀ W v,P W v→∃ h j l m c d n o f g,v=vV h j l m c d n o f g) (hF:∀ W,(callFunc G a).run prog W=.ok (.enter G a) W) (C:∀ W,bW w W→Calls prog G a W fun e q=>bW W q∧∃ v,e=.returned v∧P q v) :
  Calls prog 151 #[vP (B+1),vP B,vP (B+2)] w fun e J=>e=.returned (.tuple #[])∧dF (fun i=>i=B+2) w J∧∃ h j l m c d n o f g,af J (B+2) 27 (lV h j l m c d n o f g)∧P J (vV h j l m c d n o f g):=by
 have Y:=fun X (O:bW w X)=>(h1.below O).check
 obtain ⟨e0,e1,e2,e3,e4,e5⟩:=aD r;have v0:=mI R;have T:=eY b 1 0 (by decide);simp only [QC,QI] at T;have u:=dJ w (.cells #[vI E,vI H,.bool A,.slice t m1 x,.string I,.slice z F y] 27);clear h1;go_enter func151,ntmps151
 go_wp2_with fail
 refine wp_loop_rounds 3 ?_;rw [rounds_succ]
 go_wp2_with (first | (go_at_call 19;refine (Y _ u).mono ?_;rintro e w1 ⟨N,rfl⟩;have s:=u.trans (N.mono u.size);have t0:=(S.below s).cell 0;simp only [Qc] at t0) | (go_at_call 106;refine (aC _ _ _ (by rfl)).mono ?_;rintro e w9 ⟨rfl,rfl⟩))
 rw [rounds_succ]
 go_wp2_with (refine (C _ s).mono ?_;rintro e w9 ⟨V,v9,rfl,M⟩;obtain ⟨h,j,l,m,c,d,n,o,f,g,rfl⟩:=D _ _ M;have L:=s.trans (V.mono s.size);have r9:=hr.below L;have y0:=r9.cell 0;have y1:=r9.cell 1;have y2:=r9.cell 2;have y3:=r9.cell 3;have y4:=r9.cell 4;have y5:=r9.cell 5;have f0:=r9.frozen 0;have f1:=r9.frozen 1;have f2:=r9.frozen 2;have f3:=r9.frozen 3;have f4:=r9.frozen 4;have f5:=r9.frozen 5;simp only [Qc,Qe] at y0 y1 y2 y3 y4 y5)
 go_end0
 exact ⟨rfl,((((((((dF.refl (fun k=>k=B+2) w).aU L).setCell (p:=⟨B+2,0,none⟩) (.inl rfl) _).setCell (p:=⟨B+2,1,none⟩) (.inl rfl) _).setCell (p:=⟨B+2,2,none⟩) (.inl rfl) _).setCell (p:=⟨B+2,3,none⟩) (.inl rfl) _).setCell (p:=⟨B+2,4,none⟩) (.inl rfl) _).setCell (p:=⟨B+2,5,none⟩) (.inl rfl) _),h,j,l,m,c,d,n,o,f,g,((((((r9.set 0 (vI h)).set 1 (vI j)).set 2 (.bool l)).set 3 (.slice m c d)).set 4 (.string n)).set 5 (.slice o f g)),Q _ _ _ M (bQ r9 _ _ _ _ _ _)⟩
theorem lW (B b G:Nat)(a:Array Value){m o:Int}{k:Bool}{f:Option Addr}{m1 h:Nat}{p:ByteArray}{j:Option Addr}{n i:Nat}{x:Int}{A:Nat}(w:World)(u:af w B 107 [.func (.func G) #[] a])(t:af w (B+1) 25 [.slice (some ⟨b,0,none⟩) 1 1])(_hr:af w (B+2) 27 (lV 0 0 false none 0 0 ⟨#[]⟩ none 0 0))(c:af w b 27 (lV m o k f m1 h p j n i))
  (h1:dB w (vV m o k f m1 h p j n i) x A) (N:∀ W,(callFunc G a).run prog W=.ok (.enter G a) W) (K:Int) (l:∀ W,bW w W→Calls prog G a W fun e q=>bW W q∧e=pK K) :
  Calls prog 151 #[vP (B+1),vP B,vP (B+2)] w fun e D=>bW w D∧e=pK K:=by
 have z:=fun X (s:bW w X)=>(h1.below s).check
 obtain ⟨F,H,I,J,L,M⟩:=aD c;have O:=mI t;have v:=eY b 1 0 (by decide);simp only [QC,QI] at v;have g:=dJ w (.cells #[vI m,vI o,.bool k,.slice f m1 h,.string p,.slice j n i] 27);clear h1;go_enter func151,ntmps151
 go_wp2_with fail
 refine wp_loop_rounds 3 ?_;rw [rounds_succ]
 go_wp2_with (first | (go_at_call 19;refine (z _ g).mono ?_;rintro e w1 ⟨r,rfl⟩;have d:=g.trans (r.mono g.size);have C:=(u.below d).cell 0;simp only [Qc] at C) | (go_at_call 106;refine (aC _ _ _ (by rfl)).mono ?_;rintro e E ⟨rfl,rfl⟩))
 rw [rounds_succ]
 go_wp2_with (refine (l _ d).mono ?_;rintro e E ⟨y,rfl⟩)
 exact ⟨rfl,d.trans (y.mono d.size),rfl⟩
theorem tZ (B b G:Nat)(h:Array Value){k m:Int}{j:Bool}{c:Option Addr}{m1 f:Nat}{n:ByteArray}{i:Option Addr}{l g:Nat}(w:World)(_hw:af w B 107 [.func (.func G) #[] h])(r:af w (B+1) 25 [.slice (some ⟨b,0,none⟩) 1 1])(_hr:af w (B+2) 27 (lV 0 0 false none 0 0 ⟨#[]⟩ none 0 0))(a:af w b 27 (lV k m j c m1 f n i l g))
  (h1:mJ w (vV k m j c m1 f n i l g)) :
  Calls prog 151 #[vP (B+1),vP B,vP (B+2)] w fun e u=>bW w u∧e=pK 2:=by
 have t:=fun X (q:bW w X)=>(h1.below q).check
 obtain ⟨v,x,y,z,A,C⟩:=aD a;have D:=mI r;have s:=eY b 1 0 (by decide);simp only [QC,QI] at s;have d:=dJ w (.cells #[vI k,vI m,.bool j,.slice c m1 f,.string n,.slice i l g] 27);clear h1;go_enter func151,ntmps151
 go_wp2_with fail
 refine wp_loop_rounds 3 ?_;rw [rounds_succ]
 go_wp2_with (first | (go_at_call 19;refine (t _ d).mono ?_;rintro e w1 ⟨o,rfl⟩;have p:=d.trans (o.mono d.size)) | (go_at_call 106;refine (bD _ _ _ (by rfl)).mono ?_;rintro e E ⟨rfl,rfl⟩))
 exact ⟨rfl,p,rfl⟩
theorem uf (B b G:Nat)(a:Array Value){L Q:Int}{D:Bool}{u:Option Addr}{m1 z:Nat}{R:ByteArray}{C:Option Addr}{N A:Nat}{M n2:Int}{E:Bool}{a2:Option Addr}{m2 c2:Nat}{S:ByteArray}{gm:Option Addr}{O gp:Nat}{J i2:Int}{p1 p2:Nat}(w:World)(hw:af w B 107 [.func (.func G) #[] a])(hv:af w (B+1) 25 [.slice (some ⟨b,0,none⟩) 2 2])(hr:af w (B+2) 27 (lV 0 0 false none 0 0 ⟨#[]⟩ none 0 0))(c:af w b 27 [vI L,vI Q,.bool D,.slice u m1 z,.string R,.slice C N A,vI M,vI n2,.bool E,.slice a2 m2 c2,.string S,.slice gm O gp])
  (h1:dB w (vV L Q D u m1 z R C N A) J p1) (V:dB w (vV M n2 E a2 m2 c2 S gm O gp) i2 p2) (P:World→Value→Prop) (hk:∀ W s v,P W v→(∀ v xs,Reads .u32 W v xs→Reads .u32 s v xs)→P s v) (I:∀ W v,P W v→∃ l m n o d f q r g h,v=vV l m n o d f q r g h) (hF:∀ W,(callFunc G a).run prog W=.ok (.enter G a) W) (H:∀ W,bW w W→Calls prog G a W fun e s=>bW W s∧∃ v,e=.returned v∧P s v) :
  Calls prog 151 #[vP (B+1),vP B,vP (B+2)] w fun e T=>e=.returned (.tuple #[])∧dF (fun i=>i=B+2) w T∧∃ l m n o d f q r g h,af T (B+2) 27 (lV l m n o d f q r g h)∧P T (vV l m n o d f q r g h):=by
 have kC:=fun X (F:bW w X)=>(h1.below F).check
 have kD:=fun X (F:bW w X)=>(V.below F).check
 obtain ⟨e0,e1,e2,e3,e4,e5⟩:=aD c;have v0:=mI hv;have i0:=eY b 2 0 (by decide);simp only [QC,QI] at i0;have J:=eY b 2 1 (by decide);simp only [JK,QD] at J;have x:=dJ w (.cells #[vI L,vI Q,.bool D,.slice u m1 z,.string R,.slice C N A] 27);clear h1 V;go_enter func151,ntmps151
 go_wp2_with fail
 refine wp_loop_rounds 4 ?_;rw [rounds_succ]
 go_wp2_with (first | (go_at_call 19;refine (kC _ x).mono ?_;rintro e w1 ⟨aM,rfl⟩;have y:=x.trans (aM.mono x.size);have r1:=c.below y;have x0:=r1.cell 6;have x1:=r1.cell 7;have x2:=r1.cell 8;have x3:=r1.cell 9;have x4:=r1.cell 10;have x5:=r1.cell 11;simp only [Qc,Qe] at x0 x1 x2 x3 x4 x5) | (go_at_call 106;refine (aC _ _ _ (by rfl)).mono ?_;rintro e Z ⟨rfl,rfl⟩))
 rw [rounds_succ];have j:=y.alloc y.size (.cells #[vI M,vI n2,.bool E,.slice a2 m2 c2,.string S,.slice gm O gp] 27)
 go_wp2_with (first | (go_at_call 19;refine (kD _ j).mono ?_;rintro e w2 ⟨dz,rfl⟩;have t:=j.trans (dz.mono j.size);have t0:=(hw.below t).cell 0;simp only [Qc] at t0) | (go_at_call 106;refine (aC _ _ _ (by rfl)).mono ?_;rintro e Z ⟨rfl,rfl⟩))
 rw [rounds_succ]
 go_wp2_with (refine (H _ t).mono ?_;rintro e Z ⟨ig,v9,rfl,Y⟩;obtain ⟨l,m,n,o,d,f,q,r,g,h,rfl⟩:=I _ _ Y;have U:=t.trans (ig.mono t.size);have r9:=hr.below U;have y0:=r9.cell 0;have y1:=r9.cell 1;have y2:=r9.cell 2;have y3:=r9.cell 3;have y4:=r9.cell 4;have y5:=r9.cell 5;have f0:=r9.frozen 0;have f1:=r9.frozen 1;have f2:=r9.frozen 2;have f3:=r9.frozen 3;have f4:=r9.frozen 4;have f5:=r9.frozen 5;simp only [Qc,Qe] at y0 y1 y2 y3 y4 y5)
 go_end0
 exact ⟨rfl,((((((((dF.refl (fun k=>k=B+2) w).aU U).setCell (p:=⟨B+2,0,none⟩) (.inl rfl) _).setCell (p:=⟨B+2,1,none⟩) (.inl rfl) _).setCell (p:=⟨B+2,2,none⟩) (.inl rfl) _).setCell (p:=⟨B+2,3,none⟩) (.inl rfl) _).setCell (p:=⟨B+2,4,none⟩) (.inl rfl) _).setCell (p:=⟨B+2,5,none⟩) (.inl rfl) _),l,m,n,o,d,f,q,r,g,h,((((((r9.set 0 (vI l)).set 1 (vI m)).set 2 (.bool n)).set 3 (.slice o d f)).set 4 (.string q)).set 5 (.slice r g h)),hk _ _ _ Y (bQ r9 _ _ _ _ _ _)⟩
theorem qc (B b G:Nat)(a:Array Value){r v:Int}{m:Bool}{g:Option Addr}{m1 j:Nat}{x:ByteArray}{l:Option Addr}{t k:Nat}{s n2:Int}{n:Bool}{a2:Option Addr}{m2 c2:Nat}{y:ByteArray}{gm:Option Addr}{u gp:Nat}{q J:Int}{O Q:Nat}(w:World)(H:af w B 107 [.func (.func G) #[] a])(F:af w (B+1) 25 [.slice (some ⟨b,0,none⟩) 2 2])(_hr:af w (B+2) 27 (lV 0 0 false none 0 0 ⟨#[]⟩ none 0 0))(c:af w b 27 [vI r,vI v,.bool m,.slice g m1 j,.string x,.slice l t k,vI s,vI n2,.bool n,.slice a2 m2 c2,.string y,.slice gm u gp])
  (h1:dB w (vV r v m g m1 j x l t k) q O) (z:dB w (vV s n2 n a2 m2 c2 y gm u gp) J Q) (hF:∀ W,(callFunc G a).run prog W=.ok (.enter G a) W) (K:Int) (p:∀ W,bW w W→Calls prog G a W fun e C=>bW W C∧e=pK K) :
  Calls prog 151 #[vP (B+1),vP B,vP (B+2)] w fun e S=>bW w S∧e=pK K:=by
 have M:=fun X (o:bW w X)=>(h1.below o).check
 have N:=fun X (o:bW w X)=>(z.below o).check
 obtain ⟨e0,e1,e2,e3,e4,e5⟩:=aD c;have v0:=mI F;have I:=eY b 2 0 (by decide);simp only [QC,QI] at I;have q:=eY b 2 1 (by decide);simp only [JK,QD] at q;have h:=dJ w (.cells #[vI r,vI v,.bool m,.slice g m1 j,.string x,.slice l t k] 27);clear h1 z;go_enter func151,ntmps151
 go_wp2_with fail
 refine wp_loop_rounds 4 ?_;rw [rounds_succ]
 go_wp2_with (first | (go_at_call 19;refine (M _ h).mono ?_;rintro e w1 ⟨D,rfl⟩;have i:=h.trans (D.mono h.size);have r1:=c.below i;have T:=r1.cell 6;have U:=r1.cell 7;have V:=r1.cell 8;have Y:=r1.cell 9;have Z:=r1.cell 10;have x5:=r1.cell 11;simp only [Qc,Qe] at T U V Y Z x5) | (go_at_call 106;refine (aC _ _ _ (by rfl)).mono ?_;rintro e A ⟨rfl,rfl⟩))
 rw [rounds_succ];have d:=i.alloc i.size (.cells #[vI s,vI n2,.bool n,.slice a2 m2 c2,.string y,.slice gm u gp] 27)
 go_wp2_with (first | (go_at_call 19;refine (N _ d).mono ?_;rintro e w2 ⟨E,rfl⟩;have f:=d.trans (E.mono d.size);have R:=(H.below f).cell 0;simp only [Qc] at R) | (go_at_call 106;refine (aC _ _ _ (by rfl)).mono ?_;rintro e A ⟨rfl,rfl⟩))
 rw [rounds_succ]
 go_wp2_with (refine (p _ f).mono ?_;rintro e A ⟨L,rfl⟩)
 exact ⟨rfl,f.trans (L.mono f.size),rfl⟩
theorem ug (B b G:Nat)(h:Array Value){k m:Int}{j:Bool}{c:Option Addr}{m1 f:Nat}{n:ByteArray}{i:Option Addr}{l g:Nat}{v n2:Int}{q:Bool}{a2:Option Addr}{m2 c2:Nat}{z:ByteArray}{gm:Option Addr}{y gp:Nat}(w:World)(_hw:af w B 107 [.func (.func G) #[] h])(s:af w (B+1) 25 [.slice (some ⟨b,0,none⟩) 2 2])(_hr:af w (B+2) 27 (lV 0 0 false none 0 0 ⟨#[]⟩ none 0 0))(a:af w b 27 [vI k,vI m,.bool j,.slice c m1 f,.string n,.slice i l g,vI v,vI n2,.bool q,.slice a2 m2 c2,.string z,.slice gm y gp])
  (h1:mJ w (vV k m j c m1 f n i l g)) :
  Calls prog 151 #[vP (B+1),vP B,vP (B+2)] w fun e A=>bW w A∧e=pK 2:=by
 have x:=fun X (r:bW w X)=>(h1.below r).check
 obtain ⟨C,D,E,F,H,I⟩:=aD a;have J:=mI s;have t:=eY b 2 0 (by decide);simp only [QC,QI] at t;have u:=eY b 2 1 (by decide);simp only [JK,QD] at u;have d:=dJ w (.cells #[vI k,vI m,.bool j,.slice c m1 f,.string n,.slice i l g] 27);clear h1;go_enter func151,ntmps151
 go_wp2_with fail
 refine wp_loop_rounds 4 ?_;rw [rounds_succ]
 go_wp2_with (first | (go_at_call 19;refine (x _ d).mono ?_;rintro e w1 ⟨o,rfl⟩;have p:=d.trans (o.mono d.size)) | (go_at_call 106;refine (bD _ _ _ (by rfl)).mono ?_;rintro e L ⟨rfl,rfl⟩))
 exact ⟨rfl,p,rfl⟩
theorem uh (B b G:Nat)(j:Array Value){p t:Int}{l:Bool}{d:Option Addr}{m1 h:Nat}{u:ByteArray}{k:Option Addr}{r i:Nat}{q n2:Int}{m:Bool}{a2:Option Addr}{m2 c2:Nat}{v:ByteArray}{gm:Option Addr}{s gp:Nat}{o:Int}{H:Nat}(w:World)(_hw:af w B 107 [.func (.func G) #[] j])(C:af w (B+1) 25 [.slice (some ⟨b,0,none⟩) 2 2])(_hr:af w (B+2) 27 (lV 0 0 false none 0 0 ⟨#[]⟩ none 0 0))(a:af w b 27 [vI p,vI t,.bool l,.slice d m1 h,.string u,.slice k r i,vI q,vI n2,.bool m,.slice a2 m2 c2,.string v,.slice gm s gp])
  (h1:dB w (vV p t l d m1 h u k r i) o H) (x:mJ w (vV q n2 m a2 m2 c2 v gm s gp)) :
  Calls prog 151 #[vP (B+1),vP B,vP (B+2)] w fun e I=>bW w I∧e=pK 2:=by
 have E:=fun X (n:bW w X)=>(h1.below n).check
 have F:=fun X (n:bW w X)=>(x.below n).check
 obtain ⟨S,T,U,V,Y,Z⟩:=aD a;have v0:=mI C;have D:=eY b 2 0 (by decide);simp only [QC,QI] at D;have o:=eY b 2 1 (by decide);simp only [JK,QD] at o;have f:=dJ w (.cells #[vI p,vI t,.bool l,.slice d m1 h,.string u,.slice k r i] 27);clear h1 x;go_enter func151,ntmps151
 go_wp2_with fail
 refine wp_loop_rounds 4 ?_;rw [rounds_succ]
 go_wp2_with (first | (go_at_call 19;refine (E _ f).mono ?_;rintro e w1 ⟨y,rfl⟩;have g:=f.trans (y.mono f.size);have r1:=a.below g;have L:=r1.cell 6;have M:=r1.cell 7;have N:=r1.cell 8;have O:=r1.cell 9;have Q:=r1.cell 10;have R:=r1.cell 11;simp only [Qc,Qe] at L M N O Q R) | (go_at_call 106;refine (aC _ _ _ (by rfl)).mono ?_;rintro e J ⟨rfl,rfl⟩))
 rw [rounds_succ];have c:=g.alloc g.size (.cells #[vI q,vI n2,.bool m,.slice a2 m2 c2,.string v,.slice gm s gp] 27)
 go_wp2_with (first | (go_at_call 19;refine (F _ c).mono ?_;rintro e w2 ⟨A,rfl⟩;have z:=c.trans (A.mono c.size)) | (go_at_call 106;refine (bD _ _ _ (by rfl)).mono ?_;rintro e J ⟨rfl,rfl⟩))
 exact ⟨rfl,z,rfl⟩
theorem yw (B b G:Nat)(a:Array Value){x z:Int}{s:Bool}{m:Option Addr}{m1 o:Nat}{A:ByteArray}{r:Option Addr}{y q:Nat}{N:Int}{R:Nat}(w:World)(L:af w B 123 [.func (.func G) #[] a])(J:af w (B+1) 25 [.slice (some ⟨b,0,none⟩) 1 1])(hr:af w (B+2) 24 (lN false none 0 0))(j:af w b 27 (lV x z s m m1 o A r y q))
  (h1:dB w (vV x z s m m1 o A r y q) N R) (P:World→Value→Prop) (I:∀ W h v,P W v→(∀ v xs,Reads .u32 W v xs→Reads .u32 h v xs)→P h v) (u:∀ W v,P W v→∃ (f:Bool) (g:Option Addr) (d:Nat) (c:Nat),v=vN f g d c) (hF:∀ W,(callFunc G a).run prog W=.ok (.enter G a) W) (t:∀ W,bW w W→Calls prog G a W fun e h=>bW W h∧∃ v,e=.returned v∧P h v) :
  Calls prog 165 #[vP (B+1),vP B,vP (B+2)] w fun e C=>e=.returned (.tuple #[])∧dF (fun i=>i=B+2) w C∧∃ (f:Bool) (g:Option Addr) (d:Nat) (c:Nat),af C (B+2) 24 (lN f g d c)∧P C (vN f g d c):=by
 have Q:=fun X (H:bW w X)=>(h1.below H).check
 obtain ⟨Y,Z,e2,e3,e4,e5⟩:=aD j;have v0:=mI J;have M:=eY b 1 0 (by decide);simp only [QC,QI] at M;have n:=dJ w (.cells #[vI x,vI z,.bool s,.slice m m1 o,.string A,.slice r y q] 27);clear h1;go_enter func165,ntmps165
 go_wp2_with fail
 refine wp_loop_rounds 3 ?_;rw [rounds_succ]
 go_wp2_with (first | (go_at_call 19;refine (Q _ n).mono ?_;rintro e w1 ⟨F,rfl⟩;have l:=n.trans (F.mono n.size);have S:=(L.below l).cell 0;simp only [Qc] at S) | (go_at_call 106;refine (aC _ _ _ (by rfl)).mono ?_;rintro e T ⟨rfl,rfl⟩))
 rw [rounds_succ]
 go_wp2_with (refine (t _ l).mono ?_;rintro e T ⟨O,v9,rfl,E⟩;obtain ⟨f,g,d,c,rfl⟩:=u _ _ E;have D:=l.trans (O.mono l.size);have r9:=hr.below D;have U:=r9.cell 0;have V:=r9.cell 1;have f0:=r9.frozen 0;have f1:=r9.frozen 1;simp only [Qc,Qe] at U V)
 go_end0
 exact ⟨rfl,((((dF.refl (fun k=>k=B+2) w).aU D).setCell (p:=⟨B+2,0,none⟩) (.inl rfl) _).setCell (p:=⟨B+2,1,none⟩) (.inl rfl) _),f,g,d,c,((r9.set 0 (.bool f)).set 1 (.slice g d c)),I _ _ _ E (aV r9 _ _)⟩
theorem yx (B b G:Nat)(h:Array Value){k m:Int}{j:Bool}{c:Option Addr}{m1 f:Nat}{n:ByteArray}{i:Option Addr}{l g:Nat}(w:World)(_hw:af w B 123 [.func (.func G) #[] h])(r:af w (B+1) 25 [.slice (some ⟨b,0,none⟩) 1 1])(_hr:af w (B+2) 24 (lN false none 0 0))(a:af w b 27 (lV k m j c m1 f n i l g))
  (h1:mJ w (vV k m j c m1 f n i l g)) :
  Calls prog 165 #[vP (B+1),vP B,vP (B+2)] w fun e u=>bW w u∧e=pK 2:=by
 have t:=fun X (q:bW w X)=>(h1.below q).check
 obtain ⟨v,x,y,z,A,C⟩:=aD a;have D:=mI r;have s:=eY b 1 0 (by decide);simp only [QC,QI] at s;have d:=dJ w (.cells #[vI k,vI m,.bool j,.slice c m1 f,.string n,.slice i l g] 27);clear h1;go_enter func165,ntmps165
 go_wp2_with fail
 refine wp_loop_rounds 3 ?_;rw [rounds_succ]
 go_wp2_with (first | (go_at_call 19;refine (t _ d).mono ?_;rintro e w1 ⟨o,rfl⟩;have p:=d.trans (o.mono d.size)) | (go_at_call 106;refine (bD _ _ _ (by rfl)).mono ?_;rintro e E ⟨rfl,rfl⟩))
 exact ⟨rfl,p,rfl⟩
theorem zm (B b G:Nat)(a:Array Value){t x:Int}{o:Bool}{h:Option Addr}{m1 l:Nat}{y:ByteArray}{n:Option Addr}{u m:Nat}{J:Int}{N:Nat}(w:World)(H:af w B 132 [.func (.func G) #[] a])(s:af w (B+1) 25 [.slice (some ⟨b,0,none⟩) 1 1])(hr:af w (B+2) 9 [vE])(f:af w b 27 (lV t x o h m1 l y n u m))
  (h1:dB w (vV t x o h m1 l y n u m) J N) (P:World→Value→Prop) (F:∀ W d v,P W v→(∀ v xs,Reads .u32 W v xs→Reads .u32 d v xs)→P d v) (r:∀ W v,P W v→∃ (c:ByteArray),v=.string c) (hF:∀ W,(callFunc G a).run prog W=.ok (.enter G a) W) (q:∀ W,bW w W→Calls prog G a W fun e d=>bW W d∧∃ v,e=.returned v∧P d v) :
  Calls prog 169 #[vP (B+1),vP B,vP (B+2)] w fun e z=>e=.returned (.tuple #[])∧dF (fun i=>i=B+2) w z∧∃ (c:ByteArray),af z (B+2) 9 [.string c]∧P z (.string c):=by
 have M:=fun X (E:bW w X)=>(h1.below E).check
 obtain ⟨S,T,U,V,Y,Z⟩:=aD f;have v0:=mI s;have I:=eY b 1 0 (by decide);simp only [QC,QI] at I;have j:=dJ w (.cells #[vI t,vI x,.bool o,.slice h m1 l,.string y,.slice n u m] 27);clear h1;go_enter func169,ntmps169
 go_wp2_with fail
 refine wp_loop_rounds 3 ?_;rw [rounds_succ]
 go_wp2_with (first | (go_at_call 19;refine (M _ j).mono ?_;rintro e w1 ⟨D,rfl⟩;have g:=j.trans (D.mono j.size);have O:=(H.below g).cell 0;simp only [Qc] at O) | (go_at_call 106;refine (aC _ _ _ (by rfl)).mono ?_;rintro e Q ⟨rfl,rfl⟩))
 rw [rounds_succ]
 go_wp2_with (refine (q _ g).mono ?_;rintro e Q ⟨L,v9,rfl,C⟩;obtain ⟨c,rfl⟩:=r _ _ C;have A:=g.trans (L.mono g.size);have r9:=hr.below A;have R:=r9.cell 0;have f0:=r9.frozen 0;simp only [Qc] at R)
 go_end0
 exact ⟨rfl,(((dF.refl (fun k=>k=B+2) w).aU A).setCell (p:=⟨B+2,0,none⟩) (.inl rfl) _),c,(r9.set 0 (.string c)),F _ _ _ C (fun _ _ s=>s.setOther (r9.cell 0) (by simp) _)⟩
theorem zn (B b G:Nat)(h:Array Value){k m:Int}{j:Bool}{c:Option Addr}{m1 f:Nat}{n:ByteArray}{i:Option Addr}{l g:Nat}(w:World)(_hw:af w B 132 [.func (.func G) #[] h])(r:af w (B+1) 25 [.slice (some ⟨b,0,none⟩) 1 1])(_hr:af w (B+2) 9 [vE])(a:af w b 27 (lV k m j c m1 f n i l g))
  (h1:mJ w (vV k m j c m1 f n i l g)) :
  Calls prog 169 #[vP (B+1),vP B,vP (B+2)] w fun e u=>bW w u∧e=pK 2:=by
 have t:=fun X (q:bW w X)=>(h1.below q).check
 obtain ⟨v,x,y,z,A,C⟩:=aD a;have D:=mI r;have s:=eY b 1 0 (by decide);simp only [QC,QI] at s;have d:=dJ w (.cells #[vI k,vI m,.bool j,.slice c m1 f,.string n,.slice i l g] 27);clear h1;go_enter func169,ntmps169
 go_wp2_with fail
 refine wp_loop_rounds 3 ?_;rw [rounds_succ]
 go_wp2_with (first | (go_at_call 19;refine (t _ d).mono ?_;rintro e w1 ⟨o,rfl⟩;have p:=d.trans (o.mono d.size)) | (go_at_call 106;refine (bD _ _ _ (by rfl)).mono ?_;rintro e E ⟨rfl,rfl⟩))
 exact ⟨rfl,p,rfl⟩
theorem pE (G:Nat)(u:Array Value)(b n:Nat)(w:World)(Q:Int→World→Value→Prop)(S:∀ k W I v,Q k W v→(∀ v xs,Reads .u32 W v xs→Reads .u32 I v xs)→Q k I v)
  (C:∀ x,bW w x→af x w.heap.size 107 [.func (.func G) #[] u]→af x (w.heap.size+1) 25 [.slice (some ⟨b,0,none⟩) n n]→af x (w.heap.size+1+1) 27 (lV 0 0 false none 0 0 ⟨#[]⟩ none 0 0)→Calls prog 151 #[vP (w.heap.size+1),vP w.heap.size,vP (w.heap.size+1+1)] x fun e W=>∃ k,(k=0∧e=.returned (.tuple #[])∨e=pK k)∧dF (fun i=>i=w.heap.size+1+1) x W∧∃ l m o q d f r s g j,af W (w.heap.size+1+1) 27 (lV l m o q d f r s g j)∧Q k W (vV l m o q d f r s g j)) :
  Calls prog 88 #[.func (.func G) #[] u,.slice (some ⟨b,0,none⟩) n n] w fun e w'=>bW w w'∧∃ l m o q d f r s g j,∃ k:Int,e=.returned (.tuple #[vV l m o q d f r s g j,vI k])∧Q k w' (vV l m o q d f r s g j):=by
 have uZ:=lK;obtain ⟨H,L,J,T,U,V⟩:=BC w 107 [.func (.func G) #[] u] 25 [.slice (some ⟨b,0,none⟩) n n]
 have c:H.heap.size=w.heap.size+1+1+1:=by rw [← L.out];simp only [Qh]
 have F:=Qi H 31 (vI 0);have y:=J.alloc J.size (.cells #[vI 0] 31);have E:=C _ y (T.alloc _) (U.alloc _) (V.alloc _)
 have ve:=fT 151 #[vP (w.heap.size+1),vP w.heap.size,vP (w.heap.size+1+1)] H (fun k W=>dF (fun i=>i=w.heap.size+1+1) (H.alloc (.cells #[vI 0] 31)) W∧∃ l m o q d f r s g j,af W (w.heap.size+1+1) 27 (lV l m o q d f r s g j)∧Q k W (vV l m o q d f r s g j))
  (fun W=>by simp [go_sem])
  (fun k W h=>h.1.boxed F (by rw [c];omega))
  (by
   refine E.mono ?_;rintro e W ⟨k,h1,R⟩
   rcases h1 with ⟨rfl,rfl⟩ | rfl
   ·exact .inl ⟨rfl,R⟩
   ·exact .inr ⟨k,rfl,R⟩)
 have HH:=Qa (And.intro y (And.intro F c));clear E T U V J C y F c;go_enter func88,ntmps88
 go_upto_region 1 with (fail)
 rw [L.out];clear L
 go_wp2_with (refine ve.mono ?_;rintro e I ⟨k,W,⟨A,l,m,o,q,d,f,r,s,g,j,N,D⟩,rfl,rfl⟩;obtain ⟨y,F,c⟩:=HH.out;rw [c];have t:=N.other (a:=⟨w.heap.size+1+1+1,0,none⟩) (by simp) (vI k);have y0:=t.cell 0;have y1:=t.cell 1;have y2:=t.cell 2;have y3:=t.cell 3;have y4:=t.cell 4;have y5:=t.cell 5;have f0:=t.frozen 0;have f1:=t.frozen 1;have f2:=t.frozen 2;have f3:=t.frozen 3;have f4:=t.frozen 4;have f5:=t.frozen 5;simp only [Qc,Qe] at y0 y1 y2 y3 y4 y5)
 have O:=(A.boxed F (by rw [c];omega)).cell;rw [c] at O;have ig:bW w W:=y.trans (A.below (B:=w.heap.size) (fun i hi=>by omega) y.size)
 have M:∀ v xs,Reads .u32 W v xs→Reads .u32 (W.setCell ⟨w.heap.size+1+1+1,0,none⟩ (vI k)) v xs:=fun v xs h=>h.setOther O (by simp) _
 have hb:=((((((ig.setCell (p:=⟨w.heap.size+1+1+1,0,none⟩) (by simp;omega) (vI k)).setCell (p:=⟨w.heap.size+1+1,0,none⟩) (by simp;omega) (vI l)).setCell (p:=⟨w.heap.size+1+1,1,none⟩) (by simp;omega) (vI m)).setCell (p:=⟨w.heap.size+1+1,2,none⟩) (by simp;omega) (.bool o)).setCell (p:=⟨w.heap.size+1+1,3,none⟩) (by simp;omega) (.slice q d f)).setCell (p:=⟨w.heap.size+1+1,4,none⟩) (by simp;omega) (.string r)).setCell (p:=⟨w.heap.size+1+1,5,none⟩) (by simp;omega) (.slice s g j)
 have hO:=S _ _ _ _ (S _ _ _ _ D M) (bQ t (vI l) (vI m) (.bool o) (.slice q d f) (.string r) (.slice s g j))
 have z:=((((((t.set 0 (vI l)).set 1 (vI m)).set 2 (.bool o)).set 3 (.slice q d f)).set 4 (.string r)).set 5 (.slice s g j))
 have X:=z.cell 0;have Y:=z.cell 1;have Z:=z.cell 2;have u3:=z.cell 3;have u4:=z.cell 4;have u5:=z.cell 5;simp only [QB,Qz,Qc,Qe] at X Y Z u3 u4 u5;exact bodyPost_ret (v:=.tuple #[vV l m o q d f r s g j,vI k]) (by simp [results,results88,go_sem,loadCellsFrom,X,Y,Z,u3,u4,u5]) rfl ⟨hb,l,m,o,q,d,f,r,s,g,j,k,rfl,hO⟩
theorem BP (G:Nat)(l:Array Value)(b n:Nat)(w:World)(Q:Int→World→Value→Prop)(I:∀ k W z v,Q k W v→(∀ v xs,Reads .u32 W v xs→Reads .u32 z v xs)→Q k z v)
  (s:∀ m,bW w m→af m w.heap.size 123 [.func (.func G) #[] l]→af m (w.heap.size+1) 25 [.slice (some ⟨b,0,none⟩) n n]→af m (w.heap.size+1+1) 24 (lN false none 0 0)→Calls prog 165 #[vP (w.heap.size+1),vP w.heap.size,vP (w.heap.size+1+1)] m fun e W=>∃ k,(k=0∧e=.returned (.tuple #[])∨e=pK k)∧dF (fun i=>i=w.heap.size+1+1) m W∧∃ (g:Bool) (j:Option Addr) (f:Nat) (d:Nat),af W (w.heap.size+1+1) 24 (lN g j f d)∧Q k W (vN g j f d)) :
  Calls prog 113 #[.func (.func G) #[] l,.slice (some ⟨b,0,none⟩) n n] w fun e S=>bW w S∧∃ (g:Bool) (j:Option Addr) (f:Nat) (d:Nat),∃ k:Int,e=.returned (.tuple #[vN g j f d,vI k])∧Q k S (vN g j f d):=by
 have uZ:=lK;obtain ⟨y,C,A,J,L,M⟩:=MJ w 123 [.func (.func G) #[] l] 25 [.slice (some ⟨b,0,none⟩) n n] 24 (lN false none 0 0)
 have c:y.heap.size=w.heap.size+1+1+1:=by rw [← C.out];simp only [Qh]
 have x:=Qi y 31 (vI 0);have o:=A.alloc A.size (.cells #[vI 0] 31);have u:=s _ o (J.alloc _) (L.alloc _) (M.alloc _)
 have Y:=fT 165 #[vP (w.heap.size+1),vP w.heap.size,vP (w.heap.size+1+1)] y (fun k W=>dF (fun i=>i=w.heap.size+1+1) (y.alloc (.cells #[vI 0] 31)) W∧∃ (g:Bool) (j:Option Addr) (f:Nat) (d:Nat),af W (w.heap.size+1+1) 24 (lN g j f d)∧Q k W (vN g j f d))
  (fun W=>by simp [go_sem])
  (fun k W h=>h.1.boxed x (by rw [c];omega))
  (by
   refine u.mono ?_;rintro e W ⟨k,h1,H⟩
   rcases h1 with ⟨rfl,rfl⟩ | rfl
   ·exact .inl ⟨rfl,H⟩
   ·exact .inr ⟨k,rfl,H⟩)
 have T:=Qa (And.intro o (And.intro x c));clear u J L M A s o x c;go_enter func113,ntmps113
 go_upto_region 1 with (fail)
 rw [C.out];clear C
 go_wp2_with (refine Y.mono ?_;rintro e z ⟨k,W,⟨r,g,j,f,d,E,t⟩,rfl,rfl⟩;obtain ⟨o,x,c⟩:=T.out;rw [c];have q:=E.other (a:=⟨w.heap.size+1+1+1,0,none⟩) (by simp) (vI k);have Z:=q.cell 0;have y1:=q.cell 1;have f0:=q.frozen 0;have f1:=q.frozen 1;simp only [Qc,Qe] at Z y1)
 have F:=(r.boxed x (by rw [c];omega)).cell;rw [c] at F;have X:bW w W:=o.trans (r.below (B:=w.heap.size) (fun i hi=>by omega) o.size)
 have D:∀ v xs,Reads .u32 W v xs→Reads .u32 (W.setCell ⟨w.heap.size+1+1+1,0,none⟩ (vI k)) v xs:=fun v xs h=>h.setOther F (by simp) _
 have V:=((X.setCell (p:=⟨w.heap.size+1+1+1,0,none⟩) (by simp;omega) (vI k)).setCell (p:=⟨w.heap.size+1+1,0,none⟩) (by simp;omega) (.bool g)).setCell (p:=⟨w.heap.size+1+1,1,none⟩) (by simp;omega) (.slice j f d);have U:=I _ _ _ _ (I _ _ _ _ t D) (aV q (.bool g) (.slice j f d))
 have N:=((q.set 0 (.bool g)).set 1 (.slice j f d))
 have O:=N.cell 0;have R:=N.cell 1;simp only [QB,Qz,Qc,Qe] at O R;exact bodyPost_ret (v:=.tuple #[vN g j f d,vI k]) (by simp [results,results113,go_sem,loadCellsFrom,O,R]) rfl ⟨V,g,j,f,d,k,rfl,U⟩
theorem CP (G:Nat)(f:Array Value)(b n:Nat)(w:World)(Q:Int→World→Value→Prop)(E:∀ k W u v,Q k W v→(∀ v xs,Reads .u32 W v xs→Reads .u32 u v xs)→Q k u v)
  (m:∀ g,bW w g→af g w.heap.size 132 [.func (.func G) #[] f]→af g (w.heap.size+1) 25 [.slice (some ⟨b,0,none⟩) n n]→af g (w.heap.size+1+1) 9 [vE]→Calls prog 169 #[vP (w.heap.size+1),vP w.heap.size,vP (w.heap.size+1+1)] g fun e W=>∃ k,(k=0∧e=.returned (.tuple #[])∨e=pK k)∧dF (fun i=>i=w.heap.size+1+1) g W∧∃ (d:ByteArray),af W (w.heap.size+1+1) 9 [.string d]∧Q k W (.string d)) :
  Calls prog 127 #[.func (.func G) #[] f,.slice (some ⟨b,0,none⟩) n n] w fun e L=>bW w L∧∃ (d:ByteArray),∃ k:Int,e=.returned (.tuple #[.string d,vI k])∧Q k L (.string d):=by
 have Y:=lK;obtain ⟨s,y,x,F,H,I⟩:=MJ w 132 [.func (.func G) #[] f] 25 [.slice (some ⟨b,0,none⟩) n n] 9 [vE]
 have c:s.heap.size=w.heap.size+1+1+1:=by rw [← y.out];simp only [Qh]
 have r:=Qi s 31 (vI 0);have j:=x.alloc x.size (.cells #[vI 0] 31);have q:=m _ j (F.alloc _) (H.alloc _) (I.alloc _)
 have U:=fT 169 #[vP (w.heap.size+1),vP w.heap.size,vP (w.heap.size+1+1)] s (fun k W=>dF (fun i=>i=w.heap.size+1+1) (s.alloc (.cells #[vI 0] 31)) W∧∃ (d:ByteArray),af W (w.heap.size+1+1) 9 [.string d]∧Q k W (.string d))
  (fun W=>by simp [go_sem])
  (fun k W h=>h.1.boxed r (by rw [c];omega))
  (by
   refine q.mono ?_;rintro e W ⟨k,h1,D⟩
   rcases h1 with ⟨rfl,rfl⟩ | rfl
   ·exact .inl ⟨rfl,D⟩
   ·exact .inr ⟨k,rfl,D⟩)
 have M:=Qa (And.intro j (And.intro r c));clear q F H I x m j r c;go_enter func127,ntmps127
 go_upto_region 1 with (fail)
 rw [y.out];clear y
 go_wp2_with (refine U.mono ?_;rintro e u ⟨k,W,⟨l,d,A,o⟩,rfl,rfl⟩;obtain ⟨j,r,c⟩:=M.out;rw [c];have t:=A.other (a:=⟨w.heap.size+1+1+1,0,none⟩) (by simp) (vI k);have V:=t.cell 0;have X:=t.frozen 0;simp only [Qc] at V)
 have C:=(l.boxed r (by rw [c];omega)).cell;rw [c] at C;have S:bW w W:=j.trans (l.below (B:=w.heap.size) (fun i hi=>by omega) j.size)
 have z:∀ v xs,Reads .u32 W v xs→Reads .u32 (W.setCell ⟨w.heap.size+1+1+1,0,none⟩ (vI k)) v xs:=fun v xs h=>h.setOther C (by simp) _
 have O:=(S.setCell (p:=⟨w.heap.size+1+1+1,0,none⟩) (by simp;omega) (vI k)).setCell (p:=⟨w.heap.size+1+1,0,none⟩) (by simp;omega) (.string d);have N:=E _ _ _ _ (E _ _ _ _ o z) (fun v xs (R:Reads .u32 _ v xs)=>R.setOther (t.cell 0) (by simp) (.string d))
 have T:=(t.set 0 (.string d))
 have J:=T.cell 0;simp only [QB,Qc] at J;exact bodyPost_ret (v:=.tuple #[.string d,vI k]) (by simp [results,results127,go_sem,loadCellsFrom,J]) rfl ⟨O,d,k,rfl,N⟩
def Fm (w:World)(v:Value)(f:Option (Int × Nat)):Prop:=match f with
 | some x=>dB w v x.1 x.2
 | none=>mJ w v
theorem Fm.below {w b:World}{v:Value}{f:Option (Int × Nat)}(h:Fm w v f)(a:bW w b):Fm b v f:=by
 cases f with
 | some x=>exact dB.below h a
 | none=>exact mJ.below h a
theorem Fm.kY {w:World}{v:Value}{f:Option (Int × Nat)}(h:Fm w v f):Dp v:=by
 cases f with
 | some x=>exact dB.kY h
 | none=>exact mJ.shape h
def vg (k0:Int × Nat→Int)(f:Option (Int × Nat)):Int:=match f with
 | some x=>k0 x
 | none=>2
def BB (F:Int × Nat→Int × Nat)(f:Option (Int × Nat)):Int × Nat:=match f with
 | some x=>F x
 | none=>(0,0)
def qE (k0:Int × Nat→Int × Nat→Int)(f g:Option (Int × Nat)):Int:=match f,g with
 | some x,some y=>k0 x y
 | _,_=>2
def sQ (F:Int × Nat→Int × Nat→Int × Nat)(f g:Option (Int × Nat)):Int × Nat:=match f,g with
 | some x,some y=>F x y
 | _,_=>(0,0)
def vo (x y:Int × Nat):Int × Nat:=least (x.1*((10^(max x.2 y.2 - x.2):Nat):Int)+y.1*((10^(max x.2 y.2 - y.2):Nat):Int)) (max x.2 y.2)
theorem Ey (A B:Nat){C n2:Bool}{k a2 o gm:Option Addr}{m1 l n m2 c2 gp p q:Nat}{i j:Int}{r:Int}{b:Nat}(w:World)(t:af w A 27 (lV 3 p C k m1 l ⟨#[]⟩ o 0 n))(u:af w B 27 (lV 3 q n2 a2 m2 c2 ⟨#[]⟩ gm 0 gp))(h1:dB w (vV 3 p C k m1 l ⟨#[]⟩ o 0 n) i p)(s:dB w (vV 3 q n2 a2 m2 c2 ⟨#[]⟩ gm 0 gp) j q)(z:vo (i,p) (j,q)=(r,b))(hf:r.natAbs<aj^40) :
 CB 93 #[vP A,vP B] w fun e Q=>∃ v,e=.returned v∧dX Q v r b:=by
 have G:=fun X (y:bW w X)=>Bn _ _ i p j q r b X (h1.below y) (s.below y) z hf
 obtain ⟨R,x,d,H⟩:=qD w;have ra:=t.below d;have rb:=u.below d;obtain ⟨S,T,U,V,Y,Z⟩:=aD ra;obtain ⟨e0,e1,e2,e3,e4,e5⟩:=aD rb;clear h1 s t u ra rb z hf;go_enter func93,ntmps93
 go_upto_region 1 with (fail)
 rw [x.out];clear x
 go_wp2_with (go_at_call 94;refine (G _ d).mono ?_;rintro e w1 ⟨f,g,a,m,c,la,lc,rfl,E⟩;have h:=H.below f;obtain ⟨y0,y1,y2,y3,y4,y5,f0,f1,f2,f3,f4,f5⟩:=df h)
 obtain ⟨I,J,L,M,N,O⟩:=dD h (vI 3) (vI b) (.bool g) (.slice a m c) vE (.slice la 0 lc);have D:=d.trans (f.mono d.size)
 have F:=((((((D.setCell (Qb _) (p:=⟨w.heap.size,0,none⟩) (vI 3)).setCell (Qb _) (p:=⟨w.heap.size,1,none⟩) (vI b)).setCell (Qb _) (p:=⟨w.heap.size,2,none⟩) (.bool g)).setCell (Qb _) (p:=⟨w.heap.size,3,none⟩) (.slice a m c)).setCell (Qb _) (p:=⟨w.heap.size,4,none⟩) vE).setCell (Qb _) (p:=⟨w.heap.size,5,none⟩) (.slice la 0 lc))
 exact bodyPost_ret (v:=vV 3 b g a m c ⟨#[]⟩ la 0 lc) (by simp [results,results93,go_sem,loadCellsFrom,I,J,L,M,N,O]) rfl ⟨F,_,rfl,g,a,m,c,la,lc,rfl,E.keep (bQ h (vI 3) (vI b) (.bool g) (.slice a m c) vE (.slice la 0 lc))⟩
theorem CQ (A B:Nat){o n2:Bool}{c a2 g gm:Option Addr}{m1 d f m2 c2 gp p q:Nat}{i j:Int}(w:World)(k:af w A 27 (lV 3 p o c m1 d ⟨#[]⟩ g 0 f))(l:af w B 27 (lV 3 q n2 a2 m2 c2 ⟨#[]⟩ gm 0 gp))(h1:dB w (vV 3 p o c m1 d ⟨#[]⟩ g 0 f) i p)(h:dB w (vV 3 q n2 a2 m2 c2 ⟨#[]⟩ gm 0 gp) j q)(hf:¬(vo (i,p) (j,q)).1.natAbs<aj^40) :
 CB 93 #[vP A,vP B] w fun e _=>e=pK 3:=by
 have r:=fun X (n:bW w X)=>zl _ _ i p j q X (h1.below n) (h.below n) hf
 obtain ⟨s,m,a,I⟩:=qD w;have ra:=k.below a;have rb:=l.below a;obtain ⟨t,u,v,x,y,z⟩:=aD ra;obtain ⟨C,D,E,F,G,H⟩:=aD rb;clear h1 h k l ra rb hf;go_enter func93,ntmps93
 go_upto_region 1 with (fail)
 rw [m.out];clear m
 go_wp2_with (go_at_call 94;refine (r _ a).mono ?_;rintro e w1 ⟨b,rfl⟩)
 exact ⟨rfl,a.trans (b.mono a.size),rfl⟩
theorem KD (va vb:Value)(D E:Option (Int × Nat))(w:World)(h1:Fm w va D)(h2:Fm w vb E) :
  Calls prog 28 #[va,vb] w fun e H=>bW w H∧∃ l o q s d f t u g j,∃ k:Int,e=.returned (.tuple #[vV l o q s d f t u g j,vI k])∧dG H (qE (fun _ _=>0) D E) (sQ vo D E) k (vV l o q s d f t u g j):=by
 obtain ⟨O,U,A,J,m1,L,F,N,S,M,rfl⟩:=h1.kY;obtain ⟨Q,n2,B,a2,m2,c2,G,gm,T,gp,rfl⟩:=h2.kY
 have a7:∀ C b,bW w C→af C w.heap.size 27 (lV O U A J m1 L F N S M)→af C (w.heap.size+1) 27 (lV Q n2 B a2 m2 c2 G gm T gp)→af C b 27 [vI O,vI U,.bool A,.slice J m1 L,.string F,.slice N S M,vI Q,vI n2,.bool B,.slice a2 m2 c2,.string G,.slice gm T gp]→Calls prog 88 #[.func (.func 93) #[] #[vP w.heap.size,vP (w.heap.size+1)],.slice (some ⟨b,0,none⟩) 2 2] C fun e H=>bW C H∧∃ l o q s d f t u g j,∃ k:Int,e=.returned (.tuple #[vV l o q s d f t u g j,vI k])∧dG H (qE (fun _ _=>0) D E) (sQ vo D E) k (vV l o q s d f t u g j):=by
  intro C b Z r1 r2 row;refine pE _ _ b 2 C (fun k W v=>dG W (qE (fun _ _=>0) D E) (sQ vo D E) k v) (fun _ _ _ _ h hk=>h.keep hk) (fun I h4 A B g3=>?_)
  have hz:∀ K:Int,K≠0→(qE (fun _ _=>0) D E)=K→∀ W,bW I W→∃ k,(k=0∧pK K=.returned (.tuple #[])∨pK K=pK k)∧dF (fun i=>i=C.heap.size+1+1) I W∧∃ l o q s d f t u g j,af W (C.heap.size+1+1) 27 (lV l o q s d f t u g j)∧dG W (qE (fun _ _=>0) D E) (sQ vo D E) k (vV l o q s d f t u g j):=fun K hK hk W z=>⟨K,.inr rfl,(dF.refl _ I).aU z,0,0,false,none,0,0,⟨#[]⟩,none,0,0,g3.below z,by rw [hk];exact jX hK⟩
  have ja:=row.below h4;have F:=r1.below h4;have G:=r2.below h4;have V:=h1.below (Z.trans (h4.mono Z.size));have X:=h2.below (Z.trans (h4.mono Z.size))
  cases D with
  | none =>
   refine (ug C.heap.size b 93 #[vP w.heap.size,vP (w.heap.size+1)] I A B g3 ja V).mono ?_;rintro e W ⟨z,rfl⟩;exact hz 2 (by decide) rfl W z
  | some x =>
   cases E with
   | none =>
    refine (uh C.heap.size b 93 #[vP w.heap.size,vP (w.heap.size+1)] I A B g3 ja V X).mono ?_;rintro e W ⟨z,rfl⟩;exact hz 2 (by decide) rfl W z
   | some y =>
    have V:dB I _ x.1 x.2:=V;have X:dB I _ y.1 y.2:=X;obtain ⟨n5,a5,m5,c5,ab,ae,e1,-⟩:=V.shape;obtain ⟨n6,a6,m6,c6,ad,ag,e2,-⟩:=X.shape;simp only [Value.agg.injEq,Array.mk.injEq,List.cons.injEq,Value.int.injEq,Value.bool.injEq,Value.slice.injEq,Value.string.injEq,and_true,true_and] at e1 e2;obtain ⟨rfl,rfl,rfl,⟨rfl,rfl,rfl⟩,rfl,rfl,rfl,rfl⟩:=e1
    obtain ⟨rfl,rfl,rfl,⟨rfl,rfl,rfl⟩,rfl,rfl,rfl,rfl⟩:=e2
    by_cases hf:(vo x y).1.natAbs<aj^40
    ·obtain ⟨r,q9,a0⟩:∃ r q9,vo x y=(r,q9):=⟨_,_,rfl⟩
     rw [a0] at hf;refine (uf C.heap.size b 93 #[vP w.heap.size,vP (w.heap.size+1)] I A B g3 ja V X (fun W v=>dX W v r q9) (fun _ _ _ h hk=>h.keep hk) (fun W v h=>?_) (fun W=>by simp [go_sem]) (fun W z=>Ey _ _ W (F.below z) (G.below z) (V.below z) (X.below z) a0 hf)).mono ?_
     ·obtain ⟨n,a,m,c,la,lc,rfl,-⟩:=h
      exact ⟨_,_,_,_,_,_,_,_,_,_,rfl⟩
     ·rintro e W ⟨rfl,hC,l,o,q,s,d,f,t,u,g,j,hr,hD⟩
      refine ⟨0,.inl ⟨rfl,rfl⟩,hC,l,o,q,s,d,f,t,u,g,j,hr,?_⟩;refine lQ ?_
      show dP W (vo x y).1 (vo x y).2 0 _
      rw [a0];unfold dP;rw [if_pos hf];exact ⟨rfl,hD⟩
    ·refine (qc C.heap.size b 93 #[vP w.heap.size,vP (w.heap.size+1)] I A B g3 ja V X (fun W=>by simp [go_sem]) 3 (fun W z=>CQ _ _ W (F.below z) (G.below z) (V.below z) (X.below z) hf)).mono ?_
     rintro e W ⟨z,rfl⟩;refine ⟨3,.inr rfl,(dF.refl _ I).aU z,0,0,false,none,0,0,⟨#[]⟩,none,0,0,g3.below z,?_⟩;refine lQ ?_
     show dP W (vo x y).1 (vo x y).2 3 _
     unfold dP;rw [if_neg hf];exact ⟨rfl,rfl⟩
 obtain ⟨Y,z,b0,q1,q2,qr⟩:=BC w 27 (lV O U A J m1 L F N S M) 27 (lV Q n2 B a2 m2 c2 G gm T gp);have dH:=fC (R:=bI _) (ax q1 (ax q2 aS)) ⟨_,_,_,_,_,_,_,_,_,_,qr⟩ b0;obtain ⟨d0,d1,d2,d3,d4,d5⟩:=aD q1;obtain ⟨e0,e1,e2,e3,e4,e5⟩:=aD q2
 have b5:=b0.alloc b0.size (.cells #[vI O,vI U,.bool A,.slice J m1 L,.string F,.slice N S M,vI Q,vI n2,.bool B,.slice a2 m2 c2,.string G,.slice gm T gp] 27);have gY:=a7 _ Y.heap.size b5 (q1.alloc _) (q2.alloc _) (af.new Y 27 [vI O,vI U,.bool A,.slice J m1 L,.string F,.slice N S M,vI Q,vI n2,.bool B,.slice a2 m2 c2,.string G,.slice gm T gp]);have uZ:=lK
 obtain ⟨R,hR⟩:∃ R:World→Int→Value→Prop,R=fun W k v=>dG W (qE (fun _ _=>0) D E) (sQ vo D E) k v:=⟨_,rfl⟩
 have a8:∀ W W' k v,R W k v→(∀ v xs,Reads .u32 W v xs→Reads .u32 W' v xs)→R W' k v:=by
  rw [hR]
  exact fun _ _ _ _ h hk=>h.keep hk
 replace gY:Calls prog 88 #[.func (.func 93) #[] #[vP w.heap.size,vP (w.heap.size+1)],.slice (some ⟨Y.heap.size,0,none⟩) 2 2] (Y.alloc (.cells ([vI O,vI U,.bool A,.slice J m1 L,.string F,.slice N S M,vI Q,vI n2,.bool B,.slice a2 m2 c2,.string G,.slice gm T gp]:List Value).toArray 27)) fun e H=>Below (Y.alloc (.cells ([vI O,vI U,.bool A,.slice J m1 L,.string F,.slice N S M,vI Q,vI n2,.bool B,.slice a2 m2 c2,.string G,.slice gm T gp]:List Value).toArray 27)).heap.size (Y.alloc (.cells ([vI O,vI U,.bool A,.slice J m1 L,.string F,.slice N S M,vI Q,vI n2,.bool B,.slice a2 m2 c2,.string G,.slice gm T gp]:List Value).toArray 27)) H∧∃ l o q s d f t u g j,∃ k:Int,e=.returned (.tuple #[vV l o q s d f t u g j,vI k])∧R H k (vV l o q s d f t u g j):=by
  refine gY.mono ?_;rintro e w9 ⟨Z,l,o,q,s,d,f,t,u,g,j,k,he,hr⟩;rw [hR];exact ⟨Z,l,o,q,s,d,f,t,u,g,j,k,he,hr⟩
 suffices main:Calls prog 28 #[vV O U A J m1 L F N S M,vV Q n2 B a2 m2 c2 G gm T gp] w fun e H=>bW w H∧∃ l o q s d f t u g j,∃ k:Int,e=.returned (.tuple #[vV l o q s d f t u g j,vI k])∧R H k (vV l o q s d f t u g j) by
  refine main.mono ?_;rintro e w9 ⟨Z,l,o,q,s,d,f,t,u,g,j,k,he,hr⟩;rw [hR] at hr;exact ⟨Z,l,o,q,s,d,f,t,u,g,j,k,he,hr⟩
 have aa:fI w Y (bI (w.heap.size+1+1)) [(w.heap.size,27,(lV O U A J m1 L F N S M)),(w.heap.size+1,27,(lV Q n2 B a2 m2 c2 G gm T gp))] Y:=dH;clear a7 hR h1 h2 b0 q1 q2 dH;go_enter func28,ntmps28
 go_upto_region 1 with (fail)
 rw [z.out];clear z
 go_wp2_with (refine gY.mono ?_;rintro e w3 ⟨a3,l,o,q,s,d,f,t,u,g,j,k,rfl,a4⟩;have b6:=b5.trans (a3.mono b5.size);have q3:=(qr.alloc _).below a3;obtain ⟨y0,y1,y2,y3,y4,y5,f0,D,E,f3,f4,f5⟩:=df q3)
 obtain ⟨u0,u1,u2,u3,u4,u5⟩:=dD q3 (vI l) (vI o) (.bool q) (.slice s d f) (.string t) (.slice u g j)
 have a9:=((((((b6.setCell (show w.heap.size≤w.heap.size+1+1 by omega) (p:=⟨w.heap.size+1+1,0,none⟩) (vI l)).setCell (show w.heap.size≤w.heap.size+1+1 by omega) (p:=⟨w.heap.size+1+1,1,none⟩) (vI o)).setCell (show w.heap.size≤w.heap.size+1+1 by omega) (p:=⟨w.heap.size+1+1,2,none⟩) (.bool q)).setCell (show w.heap.size≤w.heap.size+1+1 by omega) (p:=⟨w.heap.size+1+1,3,none⟩) (.slice s d f)).setCell (show w.heap.size≤w.heap.size+1+1 by omega) (p:=⟨w.heap.size+1+1,4,none⟩) (.string t)).setCell (show w.heap.size≤w.heap.size+1+1 by omega) (p:=⟨w.heap.size+1+1,5,none⟩) (.slice u g j))
 exact bodyPost_ret (v:=.tuple #[vV l o q s d f t u g j,vI k]) (by simp [results,results28,go_sem,loadCellsFrom,u0,u1,u2,u3,u4,u5]) rfl ⟨a9,l,o,q,s,d,f,t,u,g,j,k,rfl,a8 _ _ _ _ a4 (bQ q3 (vI l) (vI o) (.bool q) (.slice s d f) (.string t) (.slice u g j))⟩
def eu (W:World)(v:Value)(n d e:Int):Prop:=∃ f b u v' h d' s t,v=vR f b u v' h d' s t e∧ak W (vN f b u v') n∧ak W (vN h d' s t) d
theorem jl (z:Value)(i:Int)(p:Nat)(w:World)(h1:dB w z i p) :
 CB 154 #[z] w fun e M=>∃ v,e=.returned v∧eu M v i 1 (p:Int):=by
 obtain ⟨j,d,m1,f,B,A,rfl,C⟩:=h1.shape
 have u:=fun X=>of_int 1 X (by decide) (by decide)
 obtain ⟨N,t,q,x,y⟩:=yP w 27 (lV 3 p j d m1 f ⟨#[]⟩ B 0 A) 127 (lR false none 0 0 false none 0 0 0);have r:=fC (R:=aX _) (ax x aS) ⟨_,_,_,_,_,_,_,_,_,y⟩ q
 have o:=yO r fun X h=>(nk h.r0:)
 clear h1 q x y;go_enter func154,ntmps154
 go_upto_region 1 with (fail)
 rw [t.out];clear t
 go_wp2_with fail
 refine bB o (bY aX.drew r) fun O b=>?_
 refine tk 0 b ?_;refine tk 1 b ?_;refine tk 3 b ?_;refine tk 4 b ?_
 refine rd 2 fun n k=>?_
 have hP:=b.2
 go_wp2_with (go_at_call 143;refine (u _).mono ?_;rintro e wk ⟨l,v5,rfl,s⟩)
 obtain ⟨g,a,m,c,rfl⟩:=s.shape
 refine aT k o (ag aX.step hP l) fun b=>?_
 clear k n hP l;refine tk 5 b ?_
 refine rd 6 fun n k=>?_
 have hP:=b.2;obtain ⟨z0,z1,gz,gB,z2,z3,Q,S,z4,hr,y0,y1,y2,y3,y4,T,U,V,Y,Z⟩:=hP.res.cells;clear u
 go_wp2_with fail
 refine aT k o (dO hP (aZ (by omega) dV) (by omega) j d m1 f g a m c (p:Int)) fun b=>?_
 clear k n;obtain ⟨G,H,I,J,L⟩:=eD hr (.bool j) (.slice d m1 f) (.bool g) (.slice a m c) (vI p);refine wpAnyH_done (by kernel_rfl) ?_ _;have D:=b.2.below;have E:=s.keep (bK hr (.bool j) (.slice d m1 f) (.bool g) (.slice a m c) (vI p));have F:=(C.below hP.below).keep (bK hr (.bool j) (.slice d m1 f) (.bool g) (.slice a m c) (vI p));clear b hP
 go_wp2_with fail
 exact bodyPost_ret (v:=vR j d m1 f g a m c p) (by simp [results,results154,go_sem,loadCellsFrom,G,H,I,J,L]) rfl ⟨D,_,rfl,_,_,_,_,_,_,_,_,rfl,F,E⟩
theorem yz (T:Value)(B:Nat){n2:Bool}{a2 gm:Option Addr}{m2 c2 gp q:Nat}{x y f j:Int}(w:World)(hf:eu w T x y f)(D:af w B 27 (lV 3 q n2 a2 m2 c2 ⟨#[]⟩ gm 0 gp))(p:dB w (vV 3 q n2 a2 m2 c2 ⟨#[]⟩ gm 0 gp) j q)(A:x.natAbs<aj^200)(_by9:y.natAbs<aj^200)(he:-1000≤f∧f≤1000) :
 CB 155 #[T,vP B] w fun e w'=>∃ v,e=.returned v∧eu w' v (x*j) y (f+(q:Int)):=by
 obtain ⟨o1,U,mZ,v1,h1,k,l,n,rfl,Z,V⟩:=hf;have hq:=p.hi;have u:=p.abs;obtain ⟨n9,a9,m9,c9,a0,a1,I,Y⟩:=p.shape;simp only [Value.agg.injEq,Array.mk.injEq,List.cons.injEq,Value.bool.injEq,Value.slice.injEq,and_true,true_and] at I;obtain ⟨rfl,⟨rfl,rfl,rfl⟩,rfl,rfl⟩:=I
 have N:=fun X (M:bW w X)=>uE _ _ x j X (Z.below M) (Y.below M) (az A (by decide)) (az u (by decide)) (az (jb A u) (by decide))
 generalize x*j=z at *
 have O:=fun X v (hv:ak X v z)=>eZ v z X hv
 obtain ⟨W0,L,t,Q,S⟩:=yP w 127 (lR o1 U mZ v1 h1 k l n f) 127 (lR false none 0 0 false none 0 0 0);have E:=D.lt;have H:=fC (R:=aX _) (ax Q (ax (D.below t) aS)) ⟨_,_,_,_,_,_,_,_,_,S⟩ t
 have r:=yO H fun X h=>(BG h.r0 (nk h.r1):)
 have F:Hid (B≠w.heap.size+1):=Qa (by omega);have s:=Qa (show IntKind.i64.wrap (f+(q:Int))=(f+(q:Int)) by rw [Qx];omega);clear p hq u A _by9 D t Q S E he;go_enter func155,ntmps155
 go_upto_region 1 with (fail)
 rw [L.out];clear L
 go_wp2_with fail
 have G:=s.out
 go_wp2_with fail
 refine bB r (bY aX.drew H) fun X0 b=>?_
 refine tk 0 b ?_;refine tk 1 b ?_;refine tk 2 b ?_;refine tk 3 b ?_;refine tk 8 b ?_;refine tk 9 b ?_;refine tk 10 b ?_;refine tk 11 b ?_;refine tk 12 b ?_;refine tk 13 b ?_;refine tk 14 b ?_
 refine rd 4 fun o i=>?_
 have hP:=b.2;clear G
 go_wp2_with (go_at_call 156;refine (N _ hP.below).mono ?_;rintro e wk ⟨d,v5,rfl,C⟩)
 refine aT i r (ag aX.step hP d) fun b=>?_
 clear i o hP d;refine tk 5 b ?_;refine tk 6 b ?_
 refine rd 7 fun o i=>?_
 have hP:=b.2
 go_wp2_with (go_at_call 152;refine (O _ _ C).mono ?_;rintro e wk ⟨d,v6,rfl,J⟩)
 replace C:=C.below d;obtain ⟨g,a,m,c,rfl⟩:=J.shape
 refine aT i r (ag aX.step hP d) fun b=>?_
 clear i o hP d;refine tk 15 b ?_
 refine rd 16 fun o i=>?_
 have hP:=b.2;obtain ⟨z0,z1,gz,gB,z2,z3,aI,aJ,z4,hr,y0,y1,y2,y3,y4,f0,f1,f2,f3,f4⟩:=hP.res.cells;clear N O
 go_wp2_with fail
 refine aT i r (dO hP (aZ (by omega) (aZ F.out dV)) (by omega) g a m c h1 k l n (f+(q:Int))) fun b=>?_
 clear i o;obtain ⟨u0,u1,u2,u3,u4⟩:=eD hr (.bool g) (.slice a m c) (.bool h1) (.slice k l n) (vI (f+(q:Int)));refine wpAnyH_done (by kernel_rfl) ?_ _;have hb:=b.2.below;have rW:=J.keep (bK hr (.bool g) (.slice a m c) (.bool h1) (.slice k l n) (vI (f+(q:Int))));have nQ:=(V.below hP.below).keep (bK hr (.bool g) (.slice a m c) (.bool h1) (.slice k l n) (vI (f+(q:Int))));clear b hP
 go_wp2_with fail
 exact bodyPost_ret (v:=vR g a m c h1 k l n (f+(q:Int))) (by simp [results,results155,go_sem,loadCellsFrom,u0,u1,u2,u3,u4]) rfl ⟨hb,_,rfl,_,_,_,_,_,_,_,_,rfl,rW,nQ⟩
theorem zW (U:Value)(B:Nat){n2:Bool}{a2 gm:Option Addr}{m2 c2 gp q:Nat}{x y f j:Int}(w:World)(hf:eu w U x y f)(D:af w B 27 (lV 3 q n2 a2 m2 c2 ⟨#[]⟩ gm 0 gp))(r:dB w (vV 3 q n2 a2 m2 c2 ⟨#[]⟩ gm 0 gp) j q)(_bx:x.natAbs<aj^200)(H:y.natAbs<aj^200)(he:-1000≤f∧f≤1000) :
 CB 157 #[U,vP B] w fun e w'=>∃ v,e=.returned v∧eu w' v x (y*j) (f - (q:Int)):=by
 obtain ⟨n,k,l,o,h1,V,s1,t1,rfl,hN,Y⟩:=hf;have hq:=r.hi;have A:=r.abs;obtain ⟨n9,a9,m9,c9,a0,a1,J,Z⟩:=r.shape;simp only [Value.agg.injEq,Array.mk.injEq,List.cons.injEq,Value.bool.injEq,Value.slice.injEq,and_true,true_and] at J;obtain ⟨rfl,⟨rfl,rfl,rfl⟩,rfl,rfl⟩:=J
 have O:=fun X (N:bW w X)=>uE _ _ y j X (Y.below N) (Z.below N) (az H (by decide)) (az A (by decide)) (az (jb H A) (by decide))
 generalize y*j=z at *
 have Q:=fun X v (hv:ak X v z)=>eZ v z X hv
 obtain ⟨W0,M,u,S,T⟩:=yP w 127 (lR n k l o h1 V s1 t1 f) 127 (lR false none 0 0 false none 0 0 0);have E:=D.lt;have I:=fC (R:=aX _) (ax S (ax (D.below u) aS)) ⟨_,_,_,_,_,_,_,_,_,T⟩ u
 have s:=yO I fun X h=>(BG h.r0 (nk h.r1):)
 have F:Hid (B≠w.heap.size+1):=Qa (by omega);have t:=Qa (show IntKind.i64.wrap (f - (q:Int))=(f - (q:Int)) by rw [Qx];omega);clear r hq A _bx H D u S T E he;go_enter func157,ntmps157
 go_upto_region 1 with (fail)
 rw [M.out];clear M
 go_wp2_with fail
 have G:=t.out
 go_wp2_with fail
 refine bB s (bY aX.drew I) fun X0 b=>?_
 refine tk 0 b ?_;refine tk 1 b ?_;refine tk 2 b ?_;refine tk 3 b ?_;refine tk 4 b ?_;refine tk 5 b ?_;refine tk 10 b ?_;refine tk 11 b ?_;refine tk 12 b ?_;refine tk 13 b ?_;refine tk 14 b ?_
 refine rd 6 fun p i=>?_
 have hP:=b.2;clear G
 go_wp2_with (go_at_call 156;refine (O _ hP.below).mono ?_;rintro e wk ⟨d,v5,rfl,C⟩)
 refine aT i s (ag aX.step hP d) fun b=>?_
 clear i p hP d;refine tk 7 b ?_;refine tk 8 b ?_
 refine rd 9 fun p i=>?_
 have hP:=b.2
 go_wp2_with (go_at_call 152;refine (Q _ _ C).mono ?_;rintro e wk ⟨d,v6,rfl,L⟩)
 replace C:=C.below d;obtain ⟨g,a,m,c,rfl⟩:=L.shape
 refine aT i s (ag aX.step hP d) fun b=>?_
 clear i p hP d;refine tk 15 b ?_
 refine rd 16 fun p i=>?_
 have hP:=b.2;obtain ⟨z0,z1,gz,gB,z2,z3,aI,aJ,z4,hr,y0,y1,y2,y3,y4,f0,f1,f2,f3,f4⟩:=hP.res.cells;clear O Q
 go_wp2_with fail
 refine aT i s (dO hP (aZ (by omega) (aZ F.out dV)) (by omega) n k l o g a m c (f - (q:Int))) fun b=>?_
 clear i p;obtain ⟨u0,u1,u2,u3,u4⟩:=eD hr (.bool n) (.slice k l o) (.bool g) (.slice a m c) (vI (f - (q:Int)));refine wpAnyH_done (by kernel_rfl) ?_ _;have hb:=b.2.below;have nQ:=L.keep (bK hr (.bool n) (.slice k l o) (.bool g) (.slice a m c) (vI (f - (q:Int))));have rW:=(hN.below hP.below).keep (bK hr (.bool n) (.slice k l o) (.bool g) (.slice a m c) (vI (f - (q:Int))))
 clear b hP
 go_wp2_with fail
 exact bodyPost_ret (v:=vR n k l o g a m c (f - (q:Int))) (by simp [results,results157,go_sem,loadCellsFrom,u0,u1,u2,u3,u4]) rfl ⟨hb,_,rfl,_,_,_,_,_,_,_,_,rfl,rW,nQ⟩
theorem Ez (va vb:Value)(r d:Int)(w:World)(ha:ak w va r)(p:ak w vb d)(I:r.natAbs<aj^300)(B:d.natAbs<aj^300)(F:r.natAbs≤d.natAbs) :
 CB 166 #[va,vb] w fun e _=>e=.returned (vI (dS (r.natAbs:Int) ((d.natAbs:Int) - (r.natAbs:Int)))):=by
 obtain ⟨n1,a1,m1,c1,rfl⟩:=ha.shape;obtain ⟨n2,a2,m2,c2,rfl⟩:=p.shape
 have O:=fun X (E:bW w X)=>Av _ r X (ha.below E)
 have Q:=fun X (E:bW w X)=>Av _ d X (p.below E)
 have l:((r.natAbs:Nat):Int).natAbs<aj^300:=by rw [QQ];exact I
 have H:((d.natAbs:Nat):Int).natAbs<aj^300:=by rw [QQ];exact B
 have A:((d.natAbs:Int) - (r.natAbs:Int)).natAbs<aj^300:=Qr (by omega) B;generalize (r.natAbs:Int)=x at *;generalize (d.natAbs:Int)=y at *
 have T:=fun X v t (s:ak X v y) (k:ak X t x)=>Fj v t y x X s k H l A
 generalize y - x=z at *
 have U:=fun X v (s:ak X v z)=>eZ v z X s
 have S:=fun X v t (s:ak X v x) (k:ak X t z)=>wL v t x z X s k l A
 obtain ⟨W0,L,u,Y,Z⟩:=yP w 24 (lN n1 a1 m1 c1) 24 (lN n2 a2 m2 c2);obtain ⟨d0,d1⟩:=aQ Y;clear ha p I B F l H A;go_enter func166,ntmps166
 go_upto_region 1 with (fail)
 rw [L.out];clear L
 go_cut [5] from 6 to 8 (fun v5 W=>kJ W v5 x∧af W (w.heap.size+1) 24 (lN n2 a2 m2 c2)∧bW w W)
 case first =>
  go_wp2_with (go_at_call 172;refine (O _ u).mono ?_;rintro e w1 ⟨q,v5,rfl,n⟩;obtain ⟨g,a,m,c,rfl⟩:=n.shape)
  go_meet
  have V:=dJ w1 (.cells #[.bool g,.slice a m c] 24);have l:=u.trans (q.mono u.size);exact ⟨⟨_,_,_,_,_,rfl,af.new w1 24 (lN g a m c),n.below V⟩,(Z.below q).alloc _,l.trans (V.mono l.size)⟩
 case rest =>
  obtain ⟨⟨b5,n5,a5,m5,c5,rfl,r5,M⟩,r2,N⟩:=hcut;clear O d0 d1 u Y Z;have J:=fC (R:=dR) (ax r5 (ax r2 aS)) trivial N
  have o:=yO J fun X h=>(Mw h.r0 (aQ h.r1):)
  clear r5 r2 N
  go_wp2_with fail
  refine bB o (bY dR.drew J) fun X0 f=>?_
  refine tk 0 f ?_;refine tk 1 f ?_;refine tk 3 f ?_
  refine rd 2 fun j i=>?_
  have hP:=f.2
  go_wp2_with (go_at_call 172;refine (Q _ hP.below).mono ?_;rintro e G ⟨b,v6,rfl,n⟩)
  refine aT i o (ag dR.step hP b) fun f=>?_
  clear i j hP b
  refine rd 4 fun j i=>?_
  have hP:=f.2
  go_wp2_with (go_at_call 96;refine (T _ _ _ n (M.keep hP.more)).mono ?_;rintro e G ⟨b,v7,rfl,C⟩)
  replace n:=n.below b
  refine aT i o (ag dR.step hP b) fun f=>?_
  clear i j hP b;refine tk 5 f ?_;refine tk 6 f ?_
  refine rd 7 fun j i=>?_
  have hP:=f.2
  go_wp2_with (go_at_call 152;refine (U _ _ C).mono ?_;rintro e G ⟨b,v8,rfl,D⟩)
  replace C:=C.below b
  refine aT i o (ag dR.step hP b) fun f=>?_
  clear i j hP b
  refine rd 8 fun j i=>?_
  have hP:=f.2
  go_wp2_with (go_at_call 87;refine (S _ _ _ (M.keep hP.more) D).mono ?_;rintro e G ⟨b,rfl⟩)
  replace D:=D.below b
  refine aT i o (ag dR.step hP b) fun f=>?_
  clear i j hP b;refine tk 9 f ?_;refine wpAnyH_done (by kernel_rfl) ?_ _;have p:=f.2.below;clear f Q T U S
  go_wp2_with fail
  go_ret;exact ⟨p,rfl⟩
def gQ (X:World)(b:Nat)(i:Int):Prop:=∃ n a m c,af X b 24 (lN n a m c)∧ak X (vN n a m c) i
theorem gQ.below {X d:World}{b:Nat}{i:Int}(h:gQ X b i)(f:bW X d):gQ d b i:=by
 obtain ⟨n,a,m,c,h1,g⟩:=h;exact ⟨n,a,m,c,h1.below f,g.below f⟩
theorem gQ.cells {X:World}{b:Nat}{i:Int}(h:gQ X b i):∃ n a m c,af X b 24 (lN n a m c)∧ak X (vN n a m c) i∧X.cell? ⟨b,0,none⟩=some (.bool n)∧X.cell? ⟨b,1,none⟩=some (.slice a m c)∧X.frozen? ⟨b,0,none⟩=false∧X.frozen? ⟨b,1,none⟩=false:=by
 obtain ⟨n,a,m,c,h1,d⟩:=h;exact ⟨n,a,m,c,h1,d,h1.cell 0,h1.cell 1,h1.frozen 0,h1.frozen 1⟩
section
variable {X:World} {b B:Nat} {i j:Int}
theorem gQ.store (h:gQ X B j){g:Bool}{a:Option Addr}{m c:Nat}(b:ak X (vN g a m c) i):gQ ((X.setCell ⟨B,0,none⟩ (.bool g)).setCell ⟨B,1,none⟩ (.slice a m c)) B i:=by
 obtain ⟨n,a2,m2,c2,h1,d⟩:=h;exact ⟨g,a,m,c,(h1.set 0 (.bool g)).set 1 (.slice a m c),b.keep (aV h1 _ _)⟩
theorem gQ.apart (h:gQ X b i)(p:gQ X B j)(d:b≠B)(g:Bool)(a:Option Addr)(m c:Nat):gQ ((X.setCell ⟨B,0,none⟩ (.bool g)).setCell ⟨B,1,none⟩ (.slice a m c)) b i:=by
 obtain ⟨n,f,m1,k,h1,l⟩:=h;obtain ⟨n2,a2,m2,c2,o,q⟩:=p;exact ⟨n,f,m1,k,(h1.other (a:=⟨B,0,none⟩) d _).other (a:=⟨B,1,none⟩) d _,l.keep (aV o _ _)⟩
end
theorem pF {X:World}{B:Nat}{d:Bool}{f:Option Addr}{h j:Nat}{i:Int}(hr:af X B 24 (lN d f h j)){g:Bool}{a:Option Addr}{m c:Nat}(b:ak X (vN g a m c) i):gQ ((X.setCell ⟨B,0,none⟩ (.bool g)).setCell ⟨B,1,none⟩ (.slice a m c)) B i :=
 ⟨g,a,m,c,(hr.set 0 (.bool g)).set 1 (.slice a m c),b.keep (aV hr _ _)⟩
theorem mP {X:World}{b B:Nat}{l:Bool}{m:Option Addr}{o p:Nat}{i:Int}(h:gQ X b i)(hr:af X B 24 (lN l m o p))(c:b≠B)(j k:Value):gQ ((X.setCell ⟨B,0,none⟩ j).setCell ⟨B,1,none⟩ k) b i:=by
 obtain ⟨n,d,m1,f,h1,g⟩:=h;exact ⟨n,d,m1,f,(h1.other (a:=⟨B,0,none⟩) c _).other (a:=⟨B,1,none⟩) c _,g.keep (aV hr _ _)⟩
theorem KE (n d:Int)(b:d≠0):(n.fmod d).natAbs<d.natAbs:=by
 have a:∀ {n d:Int},0<d→(n.fmod d).natAbs<d.natAbs:=fun {n d} h=>by
  rw [ZQ _ (Zy h)];have c:=YG n (show d≠0 by omega);have f:=YH n h;omega
 rcases Xn b with h | h
 ·have:=@a (-n) (-d) (by omega)
  rw [Int.neg_fmod_neg,JU,JU] at this;exact this
 ·exact a h
theorem GK (n d:Int)(a:d≠0):(n.fdiv d).natAbs≤n.natAbs+1:=by
 rcases Xn a with h | h
 ·rw [← YW,← JU n]
  exact wy (-n) (-d) (by omega)
 ·exact wy n d h
theorem Ma {N D Q R:Int}(h:D*Q+R=N)(f:R.natAbs<D.natAbs)(a:2≤D.natAbs):Q.natAbs≤N.natAbs:=by
 rcases Jr Q.natAbs with h0 | h0
 ·omega
 ·obtain ⟨u,c⟩:∃ u,Q.natAbs=u+1:=⟨Q.natAbs - 1,by omega⟩
  have b:(D*Q).natAbs=D.natAbs*Q.natAbs:=Zl _ _;rw [c,Qm,QZ] at b;have d:2*u≤D.natAbs*u:=Ja u a;generalize D*Q=x at *;generalize D.natAbs*u=y at *;omega
theorem EA {P:Program}{b:Array Oper}{Q:Exit→Act→World→Prop}{S F E:World→Prop}{a:Act}{w:World}{id:Nat}(f:Hid (∀ X,F X→S X))(c:F w.drew)(d:E w.drew)(h:∀ X,S X→E X→wpAnyH P .any b Q S b.size (Array.replicate b.size false) a X)(g:P.follows .mixedOrders=true:=by kernel_rfl):(Code.region id b true).wp P Q a w :=
 wp_region_held_drew g (f.out _ c) fun hs=>h _ hs d
theorem gK (vf:Value)(x y e:Int)(k:Nat)(w:World)(hf:eu w vf x y e)(hk:k≤20)(he:-2800≤e∧e≤2800)(bx:x.natAbs<aj^300)(oP:y.natAbs<aj^300)(hy:y≠0)(V:(x*((10^((k:Int) - e).toNat:Nat):Int)).natAbs<aj^300)(O:(y*((10^(e - (k:Int)).toNat:Nat):Int)).natAbs<aj^300) :
  Calls prog 121 #[vf,vI k] w fun e2 w'=>bW w w'∧∃ n a m c n' a' m' c',e2=.returned (.tuple #[vN n a m c,vN n' a' m' c'])∧ak w' (vN n a m c) (fB x y e k)∧ak w' (vN n' a' m' c') (x*((10^((k:Int) - e).toNat:Nat):Int) - fB x y e k*(y*((10^(e - (k:Int)).toNat:Nat):Int))):=by
 obtain ⟨o1,b1,mZ,v1,h1,d1,s1,t1,rfl,hN,hD⟩:=hf
 obtain ⟨N,C⟩:∃ N,x*((10^((k:Int) - e).toNat:Nat):Int)=N:=⟨_,rfl⟩
 obtain ⟨D,z⟩:∃ D,y*((10^(e - (k:Int)).toNat:Nat):Int)=D:=⟨_,rfl⟩
 have gG:fB x y e k=near N D:=by unfold fB;rw [← C,← z,xH,xH]
 have G:D≠0:=by rw [← z];exact Int.mul_ne_zero hy (by have:=Qq (n:=(e - (k:Int)).toNat) (show 0<10 by decide);omega)
 rw [gG,C,z];rw [C] at V;rw [z] at O;obtain ⟨W0,hW,b0,q1,q2,q3⟩:=MJ w 127 (lR o1 b1 mZ v1 h1 d1 s1 t1 e) 24 (lN false none 0 0) 24 (lN false none 0 0);have HB:=Qa (And.intro hN (And.intro hD (And.intro hk (And.intro he (And.intro bx (And.intro oP (And.intro V (And.intro O (And.intro G (And.intro C z))))))))));clear hN hD hk he bx oP V O G hy gG C z
 go_enter func121,ntmps121
 go_upto_region 1 with (fail)
 rw [hW.out];clear hW
 go_cut [6,7] from 9 to 12 (fun v6 v7 W=>∃ b6 S,v6=vP b6∧v7=vP S∧w.heap.size+1+1<b6∧w.heap.size+1+1<S∧b6≠S∧gQ W b6 x∧gQ W S y∧af W w.heap.size 127 (lR o1 b1 mZ v1 h1 d1 s1 t1 e)∧fo (w.heap.size+1) W∧bW w W)
 case first =>
  obtain ⟨hN,hD,-⟩:=HB.out;have dH:=fC (R:=fo _) (ax q1 aS) ⟨⟨_,_,_,_,q2⟩,_,_,_,_,q3⟩ b0
  have T:=yO dH fun X h=>(EY h.r0:)
  have aw:∀ r ∈ ([(w.heap.size,127,(lR o1 b1 mZ v1 h1 d1 s1 t1 e))]:List (Nat × TypeId × List Value)),r.1<W0.heap.size:=fK q1.lt nA;have fe:=b0.size;have az:w.heap.size+1+1<W0.heap.size:=q3.lt;have rW:=hN.below b0;have U:=hD.below b0;clear q1 q2 q3 b0 hN hD
  go_wp2_with fail
  refine bB T (bY fo.drew dH) fun X0 i=>?_
  refine tk 0 i ?_;refine tk 1 i ?_;refine tk 2 i ?_;refine tk 3 i ?_;refine ql 4 5 (fun o j=>?_) (fun o j=>?_)
  ·have hP:=i.2
   obtain ⟨V9,dh,Y,bu,A⟩:=aL hP 24 (lN false none 0 0)
   go_wp2_with fail
   rw [dh.out];clear dh
   refine aT j T (ag fo.step hP A) fun i=>?_
   clear j o hP A
   refine rd 5 fun o j=>?_
   have hP:=i.2;have bF:=Qg Y.lt;obtain ⟨V9,dh,Z,dU,A⟩:=aL hP 24 (lN false none 0 0)
   go_wp2_with fail
   rw [dh.out];clear dh;replace Y:=Y.below A
   refine aT j T (ag fo.step hP A) fun i=>?_
   clear j o hP A
   refine rd 6 fun o j=>?_
   have hP:=i.2;obtain ⟨y0,y1,f0,f1⟩:=av Y;obtain ⟨V8,bT,bH,aR,bO,cO⟩:=ay hP (fo.other (by omega) (by omega)) (bP aw bu) (Qd fe bu) Y (.bool o1) (.slice b1 mZ v1)
   go_wp2_with fail
   rw [bT.out];replace Z:=cO _ _ _ Z bF.symm;replace Y:=bO
   refine aT j T bH fun i=>?_
   clear j o hP bH bT aR bO cO y0 y1 f0 f1
   refine rd 7 fun o j=>?_
   have hP:=i.2;obtain ⟨y0,y1,f0,f1⟩:=av Z;obtain ⟨V8,bT,bH,aR,bO,cO⟩:=ay hP (fo.other (by omega) (by omega)) (bP aw dU) (Qd fe dU) Z (.bool h1) (.slice d1 s1 t1)
   go_wp2_with fail
   rw [bT.out];replace Y:=cO _ _ _ Y bF;replace Z:=bO
   refine aT j T bH fun i=>?_
   clear j o hP bH bT aR bO cO y0 y1 f0 f1;refine wpAnyH_done (by kernel_rfl) ?_ _;go_wp2
   go_meet
   exact ⟨_,_,rfl,rfl,Qf az bu,Qf az dU,by first | exact bF | exact bG.symm,⟨_,_,_,_,Y,rW.keep i.2.more⟩,⟨_,_,_,_,Z,U.keep i.2.more⟩,i.2.r0,i.2.res,i.2.below⟩
  have hP:=i.2;obtain ⟨V9,dh,Z,dU,A⟩:=aL hP 24 (lN false none 0 0)
  go_wp2_with fail
  rw [dh.out];clear dh
  refine aT j T (ag fo.step hP A) fun i=>?_
  clear j o hP A
  refine rd 4 fun o j=>?_
  have hP:=i.2;have bG:=Qg Z.lt;obtain ⟨V9,dh,Y,bu,A⟩:=aL hP 24 (lN false none 0 0)
  go_wp2_with fail
  rw [dh.out];clear dh;replace Z:=Z.below A
  refine aT j T (ag fo.step hP A) fun i=>?_
  clear j o hP A
  refine rd 6 fun o j=>?_
  have hP:=i.2;obtain ⟨y0,y1,f0,f1⟩:=av Y;obtain ⟨V8,bT,bH,aR,bO,cO⟩:=ay hP (fo.other (by omega) (by omega)) (bP aw bu) (Qd fe bu) Y (.bool o1) (.slice b1 mZ v1)
  go_wp2_with fail
  rw [bT.out];replace Z:=cO _ _ _ Z bG;replace Y:=bO
  refine aT j T bH fun i=>?_
  clear j o hP bH bT aR bO cO y0 y1 f0 f1
  refine rd 7 fun o j=>?_
  have hP:=i.2;obtain ⟨y0,y1,f0,f1⟩:=av Z;obtain ⟨V8,bT,bH,aR,bO,cO⟩:=ay hP (fo.other (by omega) (by omega)) (bP aw dU) (Qd fe dU) Z (.bool h1) (.slice d1 s1 t1)
  go_wp2_with fail
  rw [bT.out];replace Y:=cO _ _ _ Y bG.symm;replace Z:=bO
  refine aT j T bH fun i=>?_
  clear j o hP bH bT aR bO cO y0 y1 f0 f1;refine wpAnyH_done (by kernel_rfl) ?_ _;go_wp2
  go_meet
  exact ⟨_,_,rfl,rfl,Qf az bu,Qf az dU,by first | exact bF | exact bG.symm,⟨_,_,_,_,Y,rW.keep i.2.more⟩,⟨_,_,_,_,Z,U.keep i.2.more⟩,i.2.r0,i.2.res,i.2.below⟩
 case rest =>
  obtain ⟨b6,S,rfl,rfl,l6,l7,bo,g6,g7,rF,rT,ab⟩:=hcut;obtain ⟨-,-,hk,he,bx,oP,V,O,G,C,z⟩:=HB.out
  have ao:=fun (X:World) v (hv:ak X v x)=>lU v x ((k:Int) - e).toNat X hv (by omega) bx (by rw [C];exact V)
  have ap:=fun (X:World) v (hv:ak X v y)=>lU v y (e - (k:Int)).toNat X hv (by omega) oP (by rw [z];exact O)
  rw [C] at ao;rw [z] at ap;have x4:=FJ rF;clear q1 q2 q3 b0
  go_upto_if 16 with (fail)
  go_cut [4] from 13 to 28 (fun v4 W=>v4=vP (w.heap.size+1)∧gQ W b6 N∧gQ W S D∧fo (w.heap.size+1) W∧bW w W)
  case first =>
   obtain ⟨n6,a6,m6,c6,r6,i6,y0,y1,f0,f1⟩:=g6.cells;obtain ⟨n7,a7,m7,c7,r7,i7,y2,y3,f2,f3⟩:=g7.cells
   by_cases bk:e≤(k:Int)
   ·have e1:decide (e≤(k:Int))=true:=decide_eq_true bk
    rw [show (((((k:Int) - e).toNat:Nat)):Int)=(k:Int) - e by omega] at ao
    have bv:e=(k:Int) - ((k:Int) - e):=by omega
    have bg:D=y:=by rw [← z,show (e - (k:Int)).toNat=0 by omega];simp
    have HH:=Qa bg;clear bg bv ap;have hw:=hk
    have bs:(k:Int)≤20:=by omega
    have bq:=he.1;have br:=he.2;clear C z V O G bx oP HB
    go_wp2_with (go_at_call 108;refine (ao _ _ i6).mono ?_;rintro e3 w3 ⟨l,v3,rfl,hI⟩;obtain ⟨g,a,m,c,rfl⟩:=hI.shape;have a3:=g6.below l;have a4:=g7.below l;have bc:=fo.step _ _ rT l;have b3:=ab.trans (l.mono ab.size);obtain ⟨n8,a8,m8,c8,r8,i8,o0,o1,p0,p1⟩:=a3.cells)
    go_meet
    exact ⟨rfl,a3.store hI,by rw [HH.out];exact a4.apart a3 bo.symm _ _ _ _,fo.other (B:=b6) (by omega) (by omega) _ _ _ (fo.other (B:=b6) (by omega) (by omega) _ _ _ bc rfl) rfl,(b3.setCell (p:=⟨b6,0,none⟩) (show w.heap.size≤b6 by omega) _).setCell (p:=⟨b6,1,none⟩) (show w.heap.size≤b6 by omega) _⟩
   ·have e1:decide (e≤(k:Int))=false:=decide_eq_false bk
    rw [show ((((e - (k:Int)).toNat:Nat)):Int)=e - (k:Int) by omega] at ap
    have bh:N=x:=by rw [← C,show ((k:Int) - e).toNat=0 by omega];simp
    have HH:=Qa bh;clear bh ao;have hw:=hk
    have bs:(k:Int)≤20:=by omega
    have bq:=he.1;have br:=he.2;clear C z V O G bx oP HB
    go_wp2_with (go_at_call 108;refine (ap _ _ i7).mono ?_;rintro e3 w3 ⟨l,v3,rfl,hI⟩;obtain ⟨g,a,m,c,rfl⟩:=hI.shape;have a4:=g7.below l;have a3:=g6.below l;have bc:=fo.step _ _ rT l;have b3:=ab.trans (l.mono ab.size);obtain ⟨n8,a8,m8,c8,r8,i8,o0,o1,p0,p1⟩:=a4.cells)
    go_meet
    exact ⟨rfl,by rw [HH.out];exact a3.apart a4 bo _ _ _ _,a4.store hI,fo.other (B:=S) (by omega) (by omega) _ _ _ (fo.other (B:=S) (by omega) (by omega) _ _ _ bc rfl) rfl,(b3.setCell (p:=⟨S,0,none⟩) (show w.heap.size≤S by omega) _).setCell (p:=⟨S,1,none⟩) (show w.heap.size≤S by omega) _⟩
  case rest =>
   obtain ⟨rfl,G6,G7,GT,b9⟩:=hcut;clear rF rT x4 g6 g7 ao ap ab;have J:=Int.mul_fdiv_add_fmod N D;have aa:=KE N D G
   have bb:=fun (X:World) v v' (hv:ak X v N) (a1:ak X v' D)=>oG v v' N D X hv a1 V O G
   have H:(N.fmod D).natAbs<aj^300:=Yt aa O
   obtain ⟨s,hs⟩:∃ s,dS ((N.fmod D).natAbs:Int) ((D.natAbs:Int) - ((N.fmod D).natAbs:Int))=s:=⟨_,rfl⟩
   have a2:=CJ (n:=N) (d:=D) rfl rfl hs
   have b2:=fun (X:World) v v' (hv:ak X v (N.fmod D)) (a1:ak X v' D)=>Ez v v' (N.fmod D) D X hv a1 H O (Ju aa)
   rw [hs] at b2;have a5:(N.fdiv D).natAbs≤N.natAbs+1:=GK N D G;have L:=Fv N D G;have M:=zQ N D G
   obtain ⟨Q,hQ⟩:∃ Q,N.fdiv D=Q:=⟨_,rfl⟩
   obtain ⟨R,hR⟩:∃ R,N.fmod D=R:=⟨_,rfl⟩
   rw [hQ,hR] at bb;rw [hR] at b2 H;rw [hQ] at a2 a5;rw [hQ,hR] at J
   have bf:Hid (0≤s→2≤D.natAbs∧R.natAbs<D.natAbs):=Qa fun h=>by
    rw [hR] at aa hs;refine ⟨?_,aa⟩;unfold dS at hs
    split at hs <;> omega
   have HH:=Qa (And.intro a2 (And.intro J (And.intro H (And.intro L (And.intro M (And.intro V (And.intro O a5)))))));clear a2 J H hs hQ hR aa bx oP G C z hk he HB L M V O a5;obtain ⟨n6,a6,m6,c6,r6,i6,x0,x1,-,-⟩:=G6.cells;obtain ⟨n7,a7,m7,c7,r7,i7,x2,x3,-,-⟩:=G7.cells;clear r6 r7
   go_upto_region 5 with (fail)
   go_cut [4] from 29 to 34 (fun v4 W=>v4=vP (w.heap.size+1)∧gQ W S D∧gQ W (w.heap.size+1) Q∧gQ W (w.heap.size+1+1) R∧bW w W)
   case first =>
    go_wp2_with (go_at_call 142;refine (bb _ _ _ i6 i7).mono ?_;rintro e3 w3 ⟨l,g,a,m,c,g9,a9,m9,c9,rfl,hI,hJ⟩;have be:=fo.step _ _ GT l;have bp:=G7.below l;have b3:=b9.trans (l.mono b9.size);obtain ⟨z0,z1,gz,gB,ba,y0,y1,f0,f1⟩:=be.1.cells;obtain ⟨t0,t1,c0,bz,bt,y2,y3,f2,f3⟩:=be.2.cells)
    go_meet
    have k1:=aV ba (.bool g) (.slice a m c);have an:=(bt.other (a:=⟨w.heap.size+1,0,none⟩) (show w.heap.size+1+1≠w.heap.size+1 by omega) (.bool g)).other (a:=⟨w.heap.size+1,1,none⟩) (show w.heap.size+1+1≠w.heap.size+1 by omega) (.slice a m c)
    exact ⟨rfl,mP (mP bp ba (by omega) _ _) an (by omega) _ _,mP (pF ba hI) an (by omega) _ _,pF an (hJ.keep k1),(((b3.setCell (p:=⟨w.heap.size+1,0,none⟩) (show w.heap.size≤w.heap.size+1 by omega) _).setCell (p:=⟨w.heap.size+1,1,none⟩) (show w.heap.size≤w.heap.size+1 by omega) _).setCell (p:=⟨w.heap.size+1+1,0,none⟩) (show w.heap.size≤w.heap.size+1+1 by omega) _).setCell (p:=⟨w.heap.size+1+1,1,none⟩) (show w.heap.size≤w.heap.size+1+1 by omega) _⟩
   case rest =>
    obtain ⟨rfl,H7,HQ,b4,ah⟩:=hcut;clear bb i6 i7 x0 x1 x2 x3 G6 G7 GT b9;obtain ⟨n7,a7,m7,c7,r7,i7,x2,x3,-,-⟩:=H7.cells;obtain ⟨n8,a8,m8,c8,r8,i8,x4,x5,-,-⟩:=b4.cells;clear r7 r8
    go_upto_region 6 with (fail)
    go_cut [4,8] from 35 to 37 (fun v4 v8 W=>v4=vP (w.heap.size+1)∧v8=vI s∧gQ W S D∧gQ W (w.heap.size+1) Q∧gQ W (w.heap.size+1+1) R∧bW w W)
    case first =>
     go_wp2_with (go_at_call 166;refine (b2 _ _ _ i8 i7).mono ?_;rintro e3 w3 ⟨l,rfl⟩)
     go_meet
     exact ⟨rfl,rfl,H7.below l,HQ.below l,b4.below l,ah.trans (l.mono ah.size)⟩
    case rest =>
     obtain ⟨rfl,rfl,J7,JQ,JR,al⟩:=hcut;clear b2 i7 i8 x2 x3 x4 x5 H7 HQ b4 ah;obtain ⟨a2,J,H,L,M,V,O,a5⟩:=HH.out
     obtain ⟨t,ht⟩:∃ t:Bool,(decide (0<s) || (decide (s=0)&&decide (Q % 2=1)))=t:=⟨_,rfl⟩
     have F:near N D=if t=true then Q+1 else Q:=by
      rw [a2,← ht];simp only [YI,Jt,decide_eq_true_eq]
     have ar:=fun (X:World) v (hv:ak X v Q)=>LX v Q X hv
     obtain ⟨nq,aq,mq,cq,rq,iq,w0,w1,-,-⟩:=JQ.cells;have HT:=Qa ht;have au:=Qa (And.intro F (And.intro J (And.intro H (And.intro L (And.intro M (And.intro V O))))));clear F J H L M V O a5 a2 HH rq
     go_upto_region 7 with (fail)
     go_cut [4,47] from 38 to 46 (fun v4 bw W=>v4=vP (w.heap.size+1)∧bw=.bool t∧gQ W S D∧gQ W (w.heap.size+1) Q∧gQ W (w.heap.size+1+1) R∧bW w W)
     case first =>
      rcases YU 0 s with h | h | h
      ·have e1:decide (0<s)=true:=decide_eq_true h
       rw [e1,Bool.true_or] at ht;subst ht;clear HT ar h
       go_wp2_with fail
       go_meet
       exact ⟨rfl,rfl,J7,JQ,JR,al⟩
      ·subst h
       rw [show decide ((0:Int)<0)=false from rfl,show decide ((0:Int)=0)=true from rfl,Bool.false_or,Jn] at ht;rw [ht] at ar;clear HT ht
       go_wp2_with (go_at_call 167;refine (ar _ _ iq).mono ?_;rintro e3 w3 ⟨l,rfl⟩)
       go_meet
       exact ⟨rfl,rfl,J7.below l,JQ.below l,JR.below l,al.trans (l.mono al.size)⟩
      ·have e1:decide (0<s)=false:=decide_eq_false (by omega)
       have e2:(s == 0)=false:=by simp;omega
       have e3:decide (s=0)=false:=decide_eq_false (by omega);rw [e1,e3,ZP,Bool.false_or] at ht;subst ht;clear HT ar h
       go_wp2_with fail
       go_meet
       exact ⟨rfl,rfl,J7,JQ,JR,al⟩
     case rest =>
      obtain ⟨rfl,rfl,K7,KQ,KR,am⟩:=hcut;clear ar iq w0 w1 J7 JQ JR al ht
      go_upto_if 47 with (fail)
      go_cut [4] from 48 to 59 (fun v4 W=>v4=vP (w.heap.size+1)∧gQ W (w.heap.size+1) (near N D)∧gQ W (w.heap.size+1+1) (N - near N D*D)∧bW w W)
      case first =>
       obtain ⟨F,J,H,L,M,V,O⟩:=au.out
       cases t with
       | false =>
        rw [if_neg (by decide)] at F;have HE:=Qa (And.intro F (show N - near N D*D=R by rw [F,Yd];omega));clear J H L M V O F au HT
        go_wp2_with fail
        go_meet
        exact ⟨rfl,by rw [HE.out.1];exact KQ,by rw [HE.out.2];exact KR,am⟩
       | true =>
        rw [if_pos rfl] at F
        have a0:N - (Q+1)*D=R - D:=by rw [Int.add_mul,QY,Yd Q D];omega
        have HE:=Qa (And.intro F (show N - near N D*D=R - D by rw [F,a0]));rw [F] at L M;rw [a0] at M;have b5:2≤D.natAbs∧R.natAbs<D.natAbs:=bf.out (by have:=HT.out;simp only [YI,Jt,decide_eq_true_eq] at this;omega);have bi:=Ma J b5.2 b5.1
        have kO:=fun X=>of_int 1 X (by decide) (by decide)
        have kA:=fun (X:World) v v' (hv:ak X v Q) (a1:ak X v' 1)=>uD v v' Q 1 X hv a1 (Qr bi V) (Qf (show 1<aj^1 by decide) (Ql aP (by decide))) (Qr L V)
        have kS:=fun (X:World) v v' (hv:ak X v R) (a1:ak X v' D)=>Fj v v' R D X hv a1 H O (Qr (by omega) O)
        generalize Q+1=Q1 at *;generalize R - D=R1 at *;clear J H L M V O F a0 bi b5 au HT
        go_upto_region 8 with (fail)
        go_cut [4] from 48 to 53 (fun v4 W=>v4=vP (w.heap.size+1)∧gQ W S D∧gQ W (w.heap.size+1) Q1∧gQ W (w.heap.size+1+1) R∧bW w W)
        case first =>
         obtain ⟨nq,aq,mq,cq,rq,iq,-,-,-,-⟩:=KQ.cells
         have T:Hid (∀ X,fI w wc (bJ (w.heap.size+1)) [] X→(True)∧fI w wc (bJ (w.heap.size+1)) [] X):=Qa fun X h=>⟨trivial,h⟩
         have dH:=fC (R:=bJ _) aS ⟨_,_,_,_,rq⟩ am
         go_wp2_with fail
         refine EA (E:=fun X=>af X (w.heap.size+1) 24 (lN nq aq mq cq)∧ak X (vN nq aq mq cq) Q∧gQ X S D∧gQ X (w.heap.size+1+1) R) T (bY bJ.drew dH) ⟨rq,iq,K7,KR⟩ fun X0 i hE=>?_
         obtain ⟨u,I,U,q⟩:=hE;clear rq iq K7 KR KQ dH am kS;refine ql 0 1 (fun o j=>?_) (fun o j=>?_)
         ·have hP:=i.2
          obtain ⟨y0,y1,-,-⟩:=av u
          go_wp2_with fail
          refine j.out _ _ i fun i=>?_
          clear j o hP y0 y1
          refine rd 1 fun o j=>?_
          have hP:=i.2
          go_wp2_with (go_at_call 143;refine (kO _).mono ?_;rintro e wk ⟨f,v5,rfl,hA⟩)
          replace u:=u.below f;replace I:=I.below f;replace U:=U.below f;replace q:=q.below f
          refine aT j T (ag bJ.step hP f) fun i=>?_
          clear j o hP f
          refine rd 2 fun o j=>?_
          have hP:=i.2
          go_wp2_with (go_at_call 70;refine (kA _ _ _ I hA).mono ?_;rintro e wk ⟨f,v6,rfl,hB⟩)
          replace u:=u.below f;replace I:=I.below f;replace U:=U.below f;replace q:=q.below f;replace hA:=hA.below f
          refine aT j T (ag bJ.step hP f) fun i=>?_
          clear j o hP f;refine tk 3 i ?_;refine tk 4 i ?_
          refine rd 5 fun o j=>?_
          have hP:=i.2
          go_wp2_with (go_at_call 152;refine (eZ _ _ _ hB).mono ?_;rintro e wk ⟨f,v7,rfl,hC⟩)
          replace u:=u.below f;replace U:=U.below f;replace q:=q.below f;replace hB:=hB.below f;obtain ⟨g,a,m,c,rfl⟩:=hC.shape
          refine aT j T (ag bJ.step hP f) fun i=>?_
          clear j o hP f
          refine rd 6 fun o j=>?_
          have hP:=i.2;obtain ⟨z0,z1,gz,gB,hr,y0,y1,f0,f1⟩:=hP.res.cells
          go_wp2_with fail
          refine aT j T (fM hP dV (by omega) g a m c) fun i=>?_
          clear j o;obtain ⟨u0,u1⟩:=eB hr (.bool g) (.slice a m c);refine wpAnyH_done (by kernel_rfl) ?_ _;have hb:=i.2.below;have o1:=pF hr hC;have o2:=mP U hr (show S≠w.heap.size+1 by omega) (.bool g) (.slice a m c);have o3:=mP q hr (show w.heap.size+1+1≠w.heap.size+1 by omega) (.bool g) (.slice a m c);clear i hP hC hr U q u
          go_wp2_with fail
          go_meet
          exact ⟨rfl,o2,o1,o3,hb⟩
         have hP:=i.2
         go_wp2_with (go_at_call 143;refine (kO _).mono ?_;rintro e wk ⟨f,v5,rfl,hA⟩)
         replace u:=u.below f;replace I:=I.below f;replace U:=U.below f;replace q:=q.below f
         refine aT j T (ag bJ.step hP f) fun i=>?_
         clear j o hP f
         refine rd 0 fun o j=>?_
         have hP:=i.2;obtain ⟨y0,y1,-,-⟩:=av u
         go_wp2_with fail
         refine j.out _ _ i fun i=>?_
         clear j o hP y0 y1
         refine rd 2 fun o j=>?_
         have hP:=i.2
         go_wp2_with (go_at_call 70;refine (kA _ _ _ I hA).mono ?_;rintro e wk ⟨f,v6,rfl,hB⟩)
         replace u:=u.below f;replace I:=I.below f;replace U:=U.below f;replace q:=q.below f;replace hA:=hA.below f
         refine aT j T (ag bJ.step hP f) fun i=>?_
         clear j o hP f;refine tk 3 i ?_;refine tk 4 i ?_
         refine rd 5 fun o j=>?_
         have hP:=i.2
         go_wp2_with (go_at_call 152;refine (eZ _ _ _ hB).mono ?_;rintro e wk ⟨f,v7,rfl,hC⟩)
         replace u:=u.below f;replace U:=U.below f;replace q:=q.below f;replace hB:=hB.below f;obtain ⟨g,a,m,c,rfl⟩:=hC.shape
         refine aT j T (ag bJ.step hP f) fun i=>?_
         clear j o hP f
         refine rd 6 fun o j=>?_
         have hP:=i.2;obtain ⟨z0,z1,gz,gB,hr,y0,y1,f0,f1⟩:=hP.res.cells
         go_wp2_with fail
         refine aT j T (fM hP dV (by omega) g a m c) fun i=>?_
         clear j o;obtain ⟨u0,u1⟩:=eB hr (.bool g) (.slice a m c);refine wpAnyH_done (by kernel_rfl) ?_ _;have hb:=i.2.below;have o1:=pF hr hC;have o2:=mP U hr (show S≠w.heap.size+1 by omega) (.bool g) (.slice a m c);have o3:=mP q hr (show w.heap.size+1+1≠w.heap.size+1 by omega) (.bool g) (.slice a m c);clear i hP hC hr U q u
         go_wp2_with fail
         go_meet
         exact ⟨rfl,o2,o1,o3,hb⟩
        case rest =>
         obtain ⟨rfl,M7,MQ,MR,bj⟩:=hcut;obtain ⟨n7,a7,m7,c7,r7,i7,x2,x3,-,-⟩:=M7.cells;obtain ⟨n8,a8,m8,c8,r8,i8,x4,x5,f4,f5⟩:=MR.cells;clear K7 KQ KR am kO kA r7
         go_wp2_with (first | (go_at_call 96;refine (kS _ _ _ i8 i7).mono ?_;rintro e3 w3 ⟨l,v3,rfl,hI⟩) | (go_at_call 152;refine (eZ _ _ _ hI).mono ?_;rintro e4 w4 ⟨ah,v4,rfl,hJ⟩;obtain ⟨g,a,m,c,rfl⟩:=hJ.shape;have ad:=l.trans (ah.mono l.size);have hr:=r8.below ad;obtain ⟨y0,y1,f0,f1⟩:=av hr))
         go_meet
         have qj:=bj.trans (ad.mono bj.size);exact ⟨rfl,by rw [HE.out.1];exact mP (MQ.below ad) hr (by omega) _ _,by rw [HE.out.2];exact pF hr hJ,(qj.setCell (p:=⟨w.heap.size+1+1,0,none⟩) (show w.heap.size≤w.heap.size+1+1 by omega) _).setCell (p:=⟨w.heap.size+1+1,1,none⟩) (show w.heap.size≤w.heap.size+1+1 by omega) _⟩
      case rest =>
       obtain ⟨rfl,⟨n,a,m,c,bl,hI⟩,⟨n',a',m',c',bm,hJ⟩,ig⟩:=hcut;clear K7 KQ KR am au HT bf
       have hP:oZ w wc (w.heap.size+1) n a m c n' a' m' c' wc:=⟨by omega,ig,bl,bm,fun _ _ h=>h⟩
       have hD:=Qa (vU hP);obtain ⟨d1,d2,d3,d4,d5,d6,d7,d8,d9⟩:=rE hP;clear bl bm ig d9 hP
       go_wp2_with fail
       go_region_held3 (fun X=>X.cell? ⟨w.heap.size+1,0,none⟩=some (.bool n)∧X.cell? ⟨w.heap.size+1,1,none⟩=some (.slice a m c)∧X.cell? ⟨w.heap.size+1+1,0,none⟩=some (.bool n')∧X.cell? ⟨w.heap.size+1+1,1,none⟩=some (.slice a' m' c')∧X.frozen? ⟨w.heap.size+1,0,none⟩=false∧X.frozen? ⟨w.heap.size+1,1,none⟩=false∧X.frozen? ⟨w.heap.size+1+1,0,none⟩=false∧X.frozen? ⟨w.heap.size+1+1,1,none⟩=false∧oZ w wc (w.heap.size+1) n a m c n' a' m' c' X)
        (first | with_reducible exact hD.out | (go_split_ands;with_reducible refine Ai ?_ <;> assumption) | (go_split_ands;with_reducible refine Aj ?_ <;> assumption) | (go_split_ands;with_reducible refine Ao ?_ <;> assumption) | (go_split_ands;with_reducible refine Ap ?_ <;> assumption))
        (first | fail)
       all_goals
        rename_i hT;obtain ⟨s1,s2,s3,s4⟩:=lT (b:=w.heap.size+1) d1 d2 d3 d4 (.bool n) (.slice a m c) (.bool n') (.slice a' m' c');obtain ⟨-,-,-,-,-,-,-,-,b8⟩:=hT;go_wp2;exact bodyPost_ret (v:=.tuple #[vN n a m c,vN n' a' m' c']) (by simp [results,results121,go_sem,loadCellsFrom,s1,s2,s3,s4]) rfl ⟨b8.below,_,_,_,_,_,_,_,_,rfl,hI.keep b8.keep,hJ.keep b8.keep⟩
end Go.Proofs.YtagjhmodblifbaaGreatDoor
