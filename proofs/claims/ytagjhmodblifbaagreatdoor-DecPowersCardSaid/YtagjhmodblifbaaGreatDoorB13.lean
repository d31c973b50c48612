/- proved lemmas -/
import Derived.Test.YtagjhmodblifbaaGreatDoorMA
import Derived.Test.YtagjhmodblifbaaGreatDoorB00
import Derived.Test.YtagjhmodblifbaaGreatDoorB12
import Derived.Test.YtagjhmodblifbaaGreatDoorB11
import Derived.Test.YtagjhmodblifbaaGreatDoorB08
import Derived.Deep.RegionHeld3
import Derived.Deep.MidRow
set_option maxHeartbeats 4000000
set_option maxRecDepth 100000
set_option exponentiation.threshold 100000
namespace Go.Proofs.YtagjhmodblifbaaGreatDoor
open Go.Proofs.Tryz
open Go Go.RowKit Go.Shelf
theorem jh (v:Value)(i:Int)(w:World)(h:ak w v i) :
 CB 144 #[v] w fun e _=>e=.returned (.bool (decide (i=0))):=by
 obtain ⟨n,a,m,c,rfl⟩:=h.shape;have b:=og h;have f:=dJ w (.cells #[.bool n,.slice a m c] 24)
 have d:((m:Int) == 0)=decide (i=0):=by
  by_cases h0:i=0
  ·rw [decide_eq_true h0]
   have:=b.2 h0;simp [this]
  ·rw [decide_eq_false h0]
   have:¬m=0:=fun e=>h0 (b.1 e)
   simp [this]
 clear b h;go_enter func144,ntmps144
 go_wp2_with fail
 go_ret;exact ⟨f,by first | rfl | rw [d] | simp [d]⟩
theorem LX (v:Value)(i:Int)(w:World)(h:ak w v i) :
 CB 167 #[v] w fun e _=>e=.returned (.bool (decide (i % 2=1))):=by
 have s:=h;obtain ⟨neg,F,xs,rfl,hr,r,z,rfl⟩:=h;obtain ⟨a,c,rfl,u,y⟩:=hr.form;have f:=dJ w (.cells #[.bool neg,.slice a xs.length c] 24);have B:=af.new w 24 (lN neg a xs.length c)
 have n:=fun X (A:bW w X)=>jh _ _ X (s.below A)
 have l:bX neg (val xs)=0↔xs.length=0:=(og s).symm
 have b:decide (bX neg (val xs) % 2=1)=decide (xs[0]?.getD 0 % 2=1):=by
  rw [← LW r.1]
  by_cases h:val xs % 2=1
  ·rw [decide_eq_true h,decide_eq_true ((Fs neg _).2 h)]
  ·rw [decide_eq_false h,decide_eq_false (fun g=>h ((Fs neg _).1 g))]
 rw [b];clear s
 by_cases h0:xs.length=0
 ·rw [decide_eq_true (l.2 h0)] at n
  rw [Jm (by omega)];clear b hr r z u y h0 l;go_enter func167,ntmps167
  go_wp2_with (go_at_call 144;refine (n _ f).mono ?_;rintro e w1 ⟨d,rfl⟩)
  go_ret;exact ⟨f.trans (d.mono f.size),rfl⟩
 ·rw [decide_eq_false (fun e=>h0 (l.1 e))] at n
  have m:=fun W (q:bW w W)=>(hr.below q).index aG bZ (P:=prog) 0 .i64 W (by omega)
  have p:=fun W (q:bW w W)=>(hr.below q).cell 0 (by omega)
  simp only [Xp] at m;generalize xs[0]?.getD 0=x at *
  obtain ⟨t,k⟩:∃ t:Bool,decide (x % 2=1)=t:=⟨_,rfl⟩
  have E:((x:Int) % 2 == 1)=t:=by
   rw [← k]
   by_cases h:x % 2=1
   ·rw [decide_eq_true h];simp;omega
   ·rw [decide_eq_false h];simp;omega
  rw [k];have D:=Qa k;have j:=Qa (And.intro m p);clear b hr r z u y h0 k l m p;go_enter func167,ntmps167
  go_wp2_with (go_at_call 144;refine (n _ f).mono ?_;rintro e w1 ⟨d,rfl⟩;have o:=f.trans (d.mono f.size);have C:=(B.below d).cell 1;simp only [Qc,Qe] at C;have m:=j.out.1 _ o;have p:=j.out.2 _ o)
  go_ret;exact ⟨o,rfl⟩
theorem Av (v:Value)(i:Int)(w:World)(h:ak w v i) :
 CB 172 #[v] w fun e C=>∃ l,e=.returned l∧ak C l ((i.natAbs:Nat):Int):=by
 obtain ⟨neg,G,xs,rfl,hr,k,z,rfl⟩:=h;obtain ⟨a,c,rfl,s,t⟩:=hr.form
 have u:ak w (vN false a xs.length c) (((bX neg (val xs)).natAbs:Nat):Int):=⟨false,_,xs,rfl,hr,k,by simp,by rw [bM];rfl⟩
 generalize (((bX neg (val xs)).natAbs:Nat):Int)=y at *;clear hr k z s t;obtain ⟨D,j,d,f,b⟩:=yP w 24 (lN neg a xs.length c) 24 (lN false none 0 0);have r:=fC (R:=bJ _) (ax f aS) ⟨_,_,_,_,b⟩ d;have o:=f.cell 0;have q:=f.cell 1;have m:=b.cell 0;have n:=b.cell 1;have E:=b.frozen 0;have F:=b.frozen 1;simp only [Qc,Qe] at o q m n
 have g:=(u.below d).keep (aV b vF (.slice a xs.length c));have x:=(d.setCell (show w.heap.size≤w.heap.size+1 by omega) (p:=⟨w.heap.size+1,0,none⟩) vF).setCell (show w.heap.size≤w.heap.size+1 by omega) (p:=⟨w.heap.size+1,1,none⟩) (.slice a xs.length c);obtain ⟨A,B⟩:=bA m n vF (.slice a xs.length c);clear f b d r;go_enter func172,ntmps172
 go_upto_region 1 with (fail)
 rw [j.out];clear j
 go_wp2_with fail
 exact bodyPost_ret (v:=vN false a xs.length c) (by simp [results,results172,go_sem,loadCellsFrom,A,B]) rfl ⟨x,_,rfl,g⟩
theorem eZ (v:Value)(i:Int)(w:World)(h:ak w v i) :
 CB 152 #[v,vI 0] w fun e y=>∃ k,e=.returned k∧ak y k i:=by
 obtain ⟨n,a,m,c,rfl⟩:=h.shape;obtain ⟨z,j,d,f,b⟩:=yP w 24 (lN n a m c) 24 (lN false none 0 0);have s:=fC (R:=bJ _) (ax f aS) ⟨_,_,_,_,b⟩ d;have q:=f.cell 0;have r:=f.cell 1;have l:=b.cell 0;have o:=b.cell 1;have A:=b.frozen 0;have B:=b.frozen 1;simp only [Qc,Qe] at q r l o;have g:=(h.below d).keep (aV b (.bool n) (.slice a m c))
 have t:=(d.setCell (show w.heap.size≤w.heap.size+1 by omega) (p:=⟨w.heap.size+1,0,none⟩) (.bool n)).setCell (show w.heap.size≤w.heap.size+1 by omega) (p:=⟨w.heap.size+1,1,none⟩) (.slice a m c);obtain ⟨u,x⟩:=bA l o (.bool n) (.slice a m c);clear f b d s h;go_enter func152,ntmps152
 go_upto_region 1 with (fail)
 rw [j.out];clear j
 go_wp2_with (go_at_call 106;refine (aC _ _ _ (by rfl)).mono ?_;rintro e C ⟨rfl,rfl⟩)
 exact bodyPost_ret (v:=vN n a m c) (by simp [results,results152,go_sem,loadCellsFrom,u,x]) rfl ⟨t,_,rfl,g⟩
theorem Fw (n:Bool)(a:Option Addr)(m c:Nat)(k:Int)(w:World)(h:k≠0) :
 CB 152 #[vN n a m c,vI k] w fun e _=>e=pK k:=by
 obtain ⟨s,g,f,d,b⟩:=yP w 24 (lN n a m c) 24 (lN false none 0 0);have l:=fC (R:=bJ _) (ax d aS) ⟨_,_,_,_,b⟩ f;have i:=d.cell 0;have j:=d.cell 1;have q:=b.cell 0;have r:=b.cell 1;have t:=b.frozen 0;have u:=b.frozen 1;simp only [Qc,Qe] at i j q r
 have o:(k == 0)=false:=by simp [h]
 have p:=f;clear d b f l h;go_enter func152,ntmps152
 go_upto_region 1 with (fail)
 rw [g.out];clear g
 go_wp2_with (go_at_call 106;refine (bD _ _ _ (by first | rfl | simp [o])).mono ?_;rintro e v ⟨rfl,rfl⟩)
 exact ⟨rfl,p,rfl⟩
theorem zR (n:Int)(w:World)(h:0≤n)(a:n≤20) :
  Calls prog 82 #[vI n] w fun e b=>e=.returned (.tuple #[])∧b=w:=by
 have c:decide (0≤n)=true:=decide_eq_true h;have d:decide (n≤20)=true:=decide_eq_true a;go_enter func82,ntmps82
 go_wp2_with (go_at_call 106;refine (aC _ _ _ (by rfl)).mono ?_;rintro e f ⟨rfl,rfl⟩)
 go_end0
 exact ⟨rfl,rfl⟩
theorem GD (n:Int)(w:World)(h:n<0∨20<n) :
  Calls prog 82 #[vI n] w fun e b=>e=pK 1∧b=w:=by
 rcases ZR n 0 with h0 | h0
 ·have a:decide (0≤n)=false:=decide_eq_false (by omega)
  go_enter func82,ntmps82
  go_wp2_with (go_at_call 106;refine (bD _ _ _ (by rfl)).mono ?_;rintro e c ⟨rfl,rfl⟩)
  exact ⟨rfl,rfl,rfl⟩
 ·have a:decide (0≤n)=true:=decide_eq_true h0
  have d:decide (n≤20)=false:=decide_eq_false (by omega);go_enter func82,ntmps82
  go_wp2_with (go_at_call 106;refine (bD _ _ _ (by rfl)).mono ?_;rintro e c ⟨rfl,rfl⟩)
  exact ⟨rfl,rfl,rfl⟩
section
variable {w w1:World} {b:Nat} {g g':Bool} {x x':Option Addr} {y z y' z':Nat}
theorem wz (h:af w1 b 24 (lN g x y z))(hr:af w1 (b+1) 24 (lN g' x' y' z'))(n:Bool)(a:Option Addr)(m c:Nat)(k:Bool)(d:Option Addr)(j f:Nat) :
  ∀ v xs,Reads .u32 w1 v xs→Reads .u32 ((((w1.setCell ⟨b,0,none⟩ (.bool n)).setCell ⟨b,1,none⟩ (.slice a m c)).setCell ⟨b+1,0,none⟩ (.bool k)).setCell ⟨b+1,1,none⟩ (.slice d j f)) v xs:=fun v xs i =>
 aV ((hr.other (show b+1≠b by omega) _).other (show b+1≠b by omega) _) _ _ v xs (aV h _ _ v xs i)
theorem wT (low:w.heap.size≤b)(below:bW w w1)(k:af w1 b 24 (lN g x y z))(hr:af w1 (b+1) 24 (lN g' x' y' z'))(n:Bool)(a:Option Addr)(m c:Nat)(j:Bool)(d:Option Addr)(i f:Nat) :
  oZ w ((((w1.setCell ⟨b,0,none⟩ (.bool n)).setCell ⟨b,1,none⟩ (.slice a m c)).setCell ⟨b+1,0,none⟩ (.bool j)).setCell ⟨b+1,1,none⟩ (.slice d i f)) b n a m c j d i f ((((w1.setCell ⟨b,0,none⟩ (.bool n)).setCell ⟨b,1,none⟩ (.slice a m c)).setCell ⟨b+1,0,none⟩ (.bool j)).setCell ⟨b+1,1,none⟩ (.slice d i f)) :=
 ⟨low,(((below.setCell low _).setCell low _).setCell (show w.heap.size≤b+1 by omega) _).setCell (show w.heap.size≤b+1 by omega) _,(((k.set 0 (.bool n)).set 1 (.slice a m c)).other (show b≠b+1 by omega) _).other (show b≠b+1 by omega) _,(((hr.other (show b+1≠b by omega) _).other (show b+1≠b by omega) _).set 0 (.bool j)).set 1 (.slice d i f),fun _ _ h=>h⟩
end
theorem oG (G H:Value)(i j:Int)(w:World)(ha:ak w G i)(B:ak w H j)(hi:i.natAbs<aj^300)(M:j.natAbs<aj^300)(p:j≠0) :
 CB 142 #[G,H] w fun e Q=>∃ n a m c h d g f,e=.returned (.tuple #[vN n a m c,vN h d g f])∧ak Q (vN n a m c) (i.fdiv j)∧ak Q (vN h d g f) (i.fmod j):=by
 have O:=fun X (L:bW w X)=>LM G H i j X (ha.below L) (B.below L) hi M p
 obtain ⟨n1,Y,m1,Z,rfl⟩:=ha.shape;obtain ⟨n2,a2,m2,c2,rfl⟩:=B.shape;clear ha B hi M p;generalize i.fdiv j=q at *;generalize i.fmod j=r at *;obtain ⟨W0,J,t,C,D,E,F⟩:=NG w 24 (lN n1 Y m1 Z) 24 (lN n2 a2 m2 c2) 24 (lN false none 0 0) 24 (lN false none 0 0);have dH:=fC (R:=bJ _) (ax C (ax D (ax E aS))) ⟨_,_,_,_,F⟩ t;obtain ⟨d0,I⟩:=aQ C;obtain ⟨e0,e1⟩:=aQ D;have s:=Qa t
 clear t C D dH;go_enter func142,ntmps142
 go_upto_region 1 with (fail)
 rw [J.out];clear J
 go_upto_region 3 with (first | (go_at_call 187;refine (O _ s.out).mono ?_;rintro e w1 ⟨k,v5,v6,rfl,u,y⟩;obtain ⟨n,a,m,c,rfl⟩:=u.shape;obtain ⟨h,d,g,f,rfl⟩:=y.shape;have l:=E.below k;have hr:=F.below k;have S:=l.cell 0;have T:=l.cell 1;have U:=hr.cell 0;have V:=hr.cell 1;have f0:=l.frozen 0;have f1:=l.frozen 1;have f2:=hr.frozen 0;have f3:=hr.frozen 1;simp only [Qc,Qe] at S T U V) | (go_at_call 106;refine (aC _ _ _ (by rfl)).mono ?_;rintro e w9 ⟨rfl,rfl⟩))
 have N:=s.out.trans (k.mono s.out.size);have hP:=wT (b:=w.heap.size+1+1) (by omega) N l hr n a m c h d g f;have hD:=Qa (vU hP);obtain ⟨I,d2,d3,d4,d5,d6,d7,d8,d9⟩:=rE hP;have x:=u.keep (wz l hr n a m c h d g f);have z:=y.keep (wz l hr n a m c h d g f)
 generalize A:(((w1.setCell ⟨w.heap.size+1+1,0,none⟩ (.bool n)).setCell ⟨w.heap.size+1+1,1,none⟩ (.slice a m c)).setCell ⟨w.heap.size+1+1+1,0,none⟩ (.bool h)).setCell ⟨w.heap.size+1+1+1,1,none⟩ (.slice d g f)=W5 at *;clear A l hr S T U V f0 f1 f2 f3 E F k N u y O d0 e0 e1 d9
 go_region_held3 (fun X=>X.cell? ⟨w.heap.size+1+1,0,none⟩=some (.bool n)∧X.cell? ⟨w.heap.size+1+1,1,none⟩=some (.slice a m c)∧X.cell? ⟨w.heap.size+1+1+1,0,none⟩=some (.bool h)∧X.cell? ⟨w.heap.size+1+1+1,1,none⟩=some (.slice d g f)∧X.frozen? ⟨w.heap.size+1+1,0,none⟩=false∧X.frozen? ⟨w.heap.size+1+1,1,none⟩=false∧X.frozen? ⟨w.heap.size+1+1+1,0,none⟩=false∧X.frozen? ⟨w.heap.size+1+1+1,1,none⟩=false∧oZ w W5 (w.heap.size+1+1) n a m c h d g f X)
  (first | with_reducible exact hD.out | (go_split_ands;with_reducible refine Ai ?_ <;> assumption) | (go_split_ands;with_reducible refine Aj ?_ <;> assumption) | (go_split_ands;with_reducible refine Ao ?_ <;> assumption) | (go_split_ands;with_reducible refine Ap ?_ <;> assumption))
  (first | fail)
 all_goals
  rename_i hT;obtain ⟨s1,s2,s3,s4⟩:=lT (b:=w.heap.size+1+1) I d2 d3 d4 (.bool n) (.slice a m c) (.bool h) (.slice d g f);obtain ⟨-,-,-,-,-,-,-,-,o⟩:=hT;go_wp2;exact bodyPost_ret (v:=.tuple #[vN n a m c,vN h d g f]) (by simp [results,results142,go_sem,loadCellsFrom,s1,s2,s3,s4]) rfl ⟨o.below,_,_,_,_,_,_,_,_,rfl,x.keep o.keep,z.keep o.keep⟩
theorem jc {n:Nat}(f:n≤2820):((10^n:Nat):Int).natAbs<aj^300:=by
 rw [QQ,gX];have h1:10^n≤10^(3*940):=Ql (by decide) (by omega);have b:(10:Nat)^(3*940)=(10^3)^940:=Jz ..;have a:((10:Nat)^3)^940≤(2^10)^940:=QU (by decide) _;have c:((2:Nat)^10)^940=2^(10*940):=(Jz ..).symm;have d:(2:Nat)^(10*940)<2^(32*300):=JV (by decide) (by decide);rw [b] at h1;rw [c] at a;exact Qr (Qd h1 a) d
theorem Kt (d f:Value)(i j:Int)(w:World)(ha:ak w d i)(p:ak w f j)(hi:i.natAbs<aj^300)(q:j.natAbs<aj^300)(hr:¬(i*j).natAbs<aj^300) :
 CB 156 #[d,f] w fun e _=>∃ n a m c,e=.returned (.tuple #[vN n a m c,vI 3]):=by
 obtain ⟨na,r,l,g,rfl,-,-⟩:=ha.at hi;obtain ⟨nb,s,o,h,rfl,-,-⟩:=p.at q;refine (Fq d f na nb r s w l o).mono ?_;rintro e t ⟨h1,v,k,rfl,b⟩;unfold fU at b;rw [g,h,if_pos (by rfl),if_neg hr] at b;obtain ⟨rfl,rfl⟩:=b;exact ⟨h1,false,none,0,0,rfl⟩
def ic (k:Nat):List Value:=(List.range 19).map fun j=>vI (if j≤k then ((10^j:Nat):Int) else 0)
theorem GG:prog.underlying 171=some (.array 19 3):=by kernel_rfl
theorem mX (b i:Nat)(hi:i<19)(W:World):(Instr.indexAt 171 (vP b) (vI i)).run prog W=.ok (.pointer (some ⟨b,i,none⟩)) W:=by
 have a:prog.elem 171=3:=by simp [Program.elem]
 have c:prog.arrayLen 171=19:=by simp [Program.arrayLen]
 have h1:(sizeOf 3).run prog W=.ok 1 W:=by simp [go_sem]
 rw [run_indexAt_array W 171 ⟨b,0,none⟩ .i64 (i:Int) (by rw [GG,c,a]),c,a];rw [if_pos ⟨by omega,by omega⟩,h1];simp [Result.andThen,Addr.add]
 exact fun h=>h.symm
def ME (w:World)(b:Nat)(v:Value)(W:World):Prop:=∃ k:Nat,k≤18∧v=vI k∧dF (fun i=>i=b) w W∧af W b 171 (ic k)
theorem Ku (b:Nat)(w:World)(h:af w b 171 (ic 0)) :
  Calls prog 190 #[vP b] w fun e l=>e=.returned (.tuple #[])∧dF (fun i=>i=b) w l∧af l b 171 (ic 18):=by
 have j:=Qa (show ME w b (vI 0) w from ⟨0,by omega,rfl,dF.refl _ _,h⟩);clear h;go_enter func190,ntmps190
 go_wp2_with fail
 go_loopw [2] (fun v W=>ME w b v W) (fun v _=>18 - (intOf v).toNat)
 case atStart=>exact j.out
 case round =>
  clear j;obtain ⟨k,m,rfl,f,hr⟩:=hrel
  by_cases a:k<18
  ·have u:decide ((k:Int)<18)=true:=decide_eq_true (by omega)
   have y:decide (k<18)=true:=decide_eq_true a
   have z:(k:Int)<19:=by omega
   have A:(k:Int)+1<19:=by omega
   have B:(0:Int)≤(k:Int)+1:=by omega
   have C:k+1<19:=by omega
   have D:k<19:=by omega
   have F:=mX b k (by omega);have q:=mX b (k+1) (by omega);rw [show ((k+1:Nat):Int)=(k:Int)+1 by omega] at q
   have r:wr.cell? ⟨b,k,none⟩=some (vI ((10^k:Nat):Int)):=by
    rw [hr.cell k]
    have:k=0∨k=1∨k=2∨k=3∨k=4∨k=5∨k=6∨k=7∨k=8∨k=9∨k=10∨k=11∨k=12∨k=13∨k=14∨k=15∨k=16∨k=17:=by omega
    rcases this with rfl | rfl | rfl | rfl | rfl | rfl | rfl | rfl | rfl | rfl | rfl | rfl | rfl | rfl | rfl | rfl | rfl | rfl <;> rfl
   have s:wr.cell? ⟨b,k+1,none⟩=some (vI 0):=by
    rw [hr.cell (k+1)]
    have:k=0∨k=1∨k=2∨k=3∨k=4∨k=5∨k=6∨k=7∨k=8∨k=9∨k=10∨k=11∨k=12∨k=13∨k=14∨k=15∨k=16∨k=17:=by omega
    rcases this with rfl | rfl | rfl | rfl | rfl | rfl | rfl | rfl | rfl | rfl | rfl | rfl | rfl | rfl | rfl | rfl | rfl | rfl <;> rfl
   have t:=hr.frozen (k+1)
   have d:(ic k).set (k+1) (vI (10*((10^k:Nat):Int)))=ic (k+1):=by
    have:k=0∨k=1∨k=2∨k=3∨k=4∨k=5∨k=6∨k=7∨k=8∨k=9∨k=10∨k=11∨k=12∨k=13∨k=14∨k=15∨k=16∨k=17:=by omega
    rcases this with rfl | rfl | rfl | rfl | rfl | rfl | rfl | rfl | rfl | rfl | rfl | rfl | rfl | rfl | rfl | rfl | rfl | rfl <;> rfl
   have c:=hr.set (k+1) (vI (10*((10^k:Nat):Int)));rw [d] at c
   have o:((10^k:Nat):Int)≤100000000000000000:=by
    have h1:10^k≤10^17:=Ql (by decide) (by omega)
    have E:(10:Nat)^17=100000000000000000:=by decide
    omega
   have n:(0:Int)≤((10^k:Nat):Int):=Zk _;have g:=Qa (And.intro a (And.intro f c));clear d c f hr m a;generalize ((10^k:Nat):Int)=x at *
   go_wp2_with fail
   go_roundw
   case rel =>
    obtain ⟨a,f,c⟩:=g.out;exact ⟨k+1,by omega,by simp,f.setCell (p:=⟨b,k+1,none⟩) (.inl rfl) _,c⟩
   case measure =>
    obtain ⟨a,f,c⟩:=g.out;simp only [intOf];omega
  ·obtain rfl:k=18:=by omega
   go_wp2_with fail
   go_end0
   exact ⟨rfl,f,hr⟩
theorem GH (B:Nat)(na:Bool)(g:Option Addr)(k:Nat)(a:List Nat)(n:Nat)(w:World)(p:af w B 24 (lN na g a.length k))(l:af w (B+1) 3 [vI n])
  (ha:Reads .u32 w (.slice g a.length k) a) (u:Canon a) (M:au na a=true) (hn:n≤9600) (J:a.length≤300) (D:¬((bitsOf a:Int) - 1)*n<9600) (G:bitsOf a≤9600) :
  Calls prog 196 #[vP B,vP (B+1),vP (B+2)] w fun e q=>bW w q∧e=pK 3:=by
 obtain ⟨R,T⟩:=aQ p;have n0:=mI l;have x:=u.1;have y:=af.new w 24 (lN na g a.length k);have A:=dJ w (.cells #[.bool na,.slice g a.length k] 24)
 obtain ⟨P,hP⟩:∃ P:Int,((bitsOf a:Int) - 1)*n=P:=⟨_,rfl⟩
 have F:P≤92160000:=by
  rw [← hP];have h1:((bitsOf a:Int) - 1)*n≤9600*n:=Zj (by omega) (by omega);omega
 rw [hP] at D
 have V:IntKind.i64.wrap P=P:=by rw [Qx];omega
 have N:wrap64 P=P:=by unfold wrap64;omega
 have Y:IntKind.i64.wrap ((bitsOf a:Int) - 1)=(bitsOf a:Int) - 1:=by rw [Qx];omega
 have O:wrap64 ((bitsOf a:Int) - 1)=(bitsOf a:Int) - 1:=by unfold wrap64;omega
 have a2:decide (P<9600)=false:=decide_eq_false D;have p9:decide ((n:Int)≤9600)=true:=decide_eq_true (by omega);have p8:decide (n≤9600)=true:=decide_eq_true (by omega)
 have kB:=fun X (t:bW w X)=>(gW (.slice g a.length k) a X (ha.below t) x (by omega)).mono (R':=fun e q=>bW X q∧e=.returned (vI (bitsOf a))) (fun e q ⟨h1,E⟩=>⟨h1 ▸ Qj _ _,E⟩)
 have kN:=fun X b (Z:b=false)=>(bD b 3 X Z).mono (R':=fun e q=>bW X q∧e=pK 3) (fun e q ⟨h1,E⟩=>⟨h1 ▸ Qj _ _,E⟩)
 have r:∀ X,bW w X→X.cell? ⟨B,1,none⟩=some (.slice g a.length k)∧X.cell? ⟨B+1,0,none⟩=some (vI n)∧bW w X:=fun X t=>⟨(p.below t).cell 1,(l.below t).cell 0,t⟩
 clear D F hn u J G;go_enter func196,ntmps196
 go_upto_region 2 with (first
  | (go_at_call 182;refine (gV _ na g k a _ y (ha.below A) x M).mono ?_;rintro e w1 ⟨L,rfl⟩;have z:=A.trans (L.mono (by simp));have Q:=(l.below z).cell 0;simp only [Qc] at Q)
  | (go_at_call 106;refine (aC _ _ _ (by first | rfl | (simp;omega))).mono ?_;rintro e w2 ⟨rfl,rfl⟩))
 have U:=Qa (r _ z.drew);have C:=z;clear R T n0 y A L Q p l ha M z;obtain ⟨d1,d2,-⟩:=r _ C
 go_wp2_with fail
 refine wp_region_held_drew (S:=(fun X=>X.cell? ⟨B,1,none⟩=some (.slice g a.length k)∧X.cell? ⟨B+1,0,none⟩=some (vI n)∧bW w X)) (by kernel_rfl) U.out (fun j=>?_);refine wpAnyH_take (i:=0) (oi:=_) (v:=.pointer (some ⟨B,1,none⟩)) rfl (by kernel_rfl) (by kernel_rfl) (by kernel_rfl) (fun _ _ _ h=>h) (Or.inl ⟨by rfl,fun w f=>by dsimp only at f;go_simp⟩) (by assumption) ?_
 refine wpAnyH_take (i:=1) (oi:=_) (v:=.slice g a.length k) rfl (by kernel_rfl) (by kernel_rfl) (by kernel_rfl) (fun _ _ _ h=>h) (Or.inl ⟨by rfl,fun w f=>by dsimp only at f;go_simp⟩) (by assumption) ?_;refine wpAnyH_take (i:=4) (oi:=_) (v:=vI n) rfl (by kernel_rfl) (by kernel_rfl) (by kernel_rfl) (fun _ _ _ h=>h) (Or.inl ⟨by rfl,fun w f=>by dsimp only at f;go_simp⟩) (by assumption) ?_
 simp only [Act.put,Zw];refine wpAnyH_ready (rs:=[2]) (by kernel_rfl) (by simp) ?_;refine QA (o:=_) rfl (fun m d=>?_) QM;rw [if_pos (by rfl)];obtain ⟨-,-,c⟩:=j
 go_wp2_with (go_at_call 197;refine (kB _ c).mono ?_;rintro e w9 ⟨I,rfl⟩)
 refine d.out _ _ ?_ (fun j=>?_)
 ·exact r _ (c.trans (I.mono c.size))
 clear d m;refine wpAnyH_ready (rs:=[3]) (by kernel_rfl) (by simp) ?_;refine QA (o:=_) rfl (fun m d=>?_) QM;rw [if_pos (by rfl)];obtain ⟨-,-,c⟩:=j
 go_wp2_with fail
 refine d.out _ _ ?_ (fun j=>?_)
 ·exact r _ c
 clear d m;refine wpAnyH_ready (rs:=[5]) (by kernel_rfl) (by simp) ?_;refine QA (o:=_) rfl (fun m d=>?_) QM;rw [if_pos (by rfl)];obtain ⟨-,-,c⟩:=j
 go_wp2_with fail
 refine d.out _ _ ?_ (fun j=>?_)
 ·exact r _ c
 clear d m;refine wpAnyH_ready (rs:=[6]) (by kernel_rfl) (by simp) ?_;refine QA (o:=_) rfl (fun m d=>?_) QM;rw [if_pos (by rfl)];obtain ⟨-,-,c⟩:=j
 go_wp2_with fail
 refine d.out _ _ ?_ (fun j=>?_)
 ·exact r _ c
 clear d m;refine wpAnyH_ready (rs:=[7]) (by kernel_rfl) (by simp) ?_;refine QA (o:=_) rfl (fun m d=>?_) QM;rw [if_pos (by rfl)];obtain ⟨-,-,s⟩:=j
 go_wp2_with (go_at_call 106;refine (kN _ _ rfl).mono ?_;rintro e wk ⟨H,rfl⟩)
 exact ⟨rfl,s.trans (H.mono s.size),rfl⟩
theorem Kv (B:Nat)(d:Option Addr)(f:Nat)(b:List Nat)(n:Nat)(r0:Bool)(r1:Option Addr)(r2 r3 K:Nat)(hT:gP K)(hK:0<K)(w:World)(l:af w B 24 (lN false d b.length f))(m:af w (B+1) 3 [vI n])(x:af w (B+2) 24 (lN r0 r1 r2 r3))
  (ha:Reads .u32 w (.slice d b.length f) b) (u:Canon b) (fa:au false b=true) (hn:n≤9600) (a6:b.length≤300) (O:((bitsOf b:Int) - 1)*n<9600) (I:bitsOf b≤9600) (j:val b^n<aj^K) (p:¬val b^n<aj^300) :
  Calls prog 196 #[vP B,vP (B+1),vP (B+2)] w fun e L=>bW w L∧e=pK 3:=by
 obtain ⟨Y,Z⟩:=aQ l;have n0:=mI m;have q:=u.1;have y:=af.new w 24 (lN false d b.length f);have A:=dJ w (.cells #[vF,.slice d b.length f] 24)
 have J:=fun W (h:bW w W)=>gW (.slice d b.length f) b W (ha.below h) q (by omega)
 obtain ⟨P,hP⟩:∃ P:Int,((bitsOf b:Int) - 1)*n=P:=⟨_,rfl⟩
 have F:-9600≤P:=by
  rw [← hP];have h1:(-1:Int)*n≤((bitsOf b:Int) - 1)*n:=Zj (by omega) (by omega);omega
 rw [hP] at O
 have G:IntKind.i64.wrap P=P:=by rw [Qx];omega
 have U:=Qa p;have V:=Qa j;clear p j;go_enter func196,ntmps196
 go_wp2_with (first
  | (go_at_call 182;refine (gV _ false d f b _ y (ha.below A) q fa).mono ?_;rintro e w1 ⟨N,rfl⟩;have c:=A.trans (N.mono (by simp));have Q:=(l.below c).cell 0;have T:=(l.below c).cell 1;have R:=(m.below c).cell 0;simp only [Qc,Qe] at Q R T)
  | (go_at_call 106;refine (aC _ _ _ (by simp;omega)).mono ?_;rintro e w2 ⟨rfl,rfl⟩))
 go_quiet (first
  | (go_at_call 197;exact (gW (.slice d b.length f) b _ ((ha.below c).drewN _) q (by omega)).mono (fun e L ⟨h1,D⟩=>⟨D,_,h1.symm⟩))
  | (go_at_call 106;exact (aC _ _ _ (by first | rfl | (simp;omega))).mono (fun e L ⟨h1,D⟩=>⟨D,_,h1.symm⟩)))
 have H:sP w B false d b f n (w1.drewN nq):=by
  have h1:bW w (w1.drewN nq):=⟨c.os,c.tape,c.output,c.size,c.block⟩
  exact ⟨l.below h1,ha.below h1,m.below h1,(dF.refl (fun k=>k=B+2) w).aU h1,⟨r0,r1,r2,r3,x.below h1⟩⟩
 have M:=Qa (show bW w (w1.drewN nq) from ⟨c.os,c.tape,c.output,c.size,c.block⟩);generalize w1.drewN nq=W2 at *;clear l m x J hP G F O Y Z n0 y A c N Q R T I ha;have hD:=Qa (uI H);obtain ⟨d1,d2,d3,-⟩:=tq H;clear H
 go_wp2_with fail
 refine wp_region_held_drew (S:=(fun X=>X.cell? ⟨B,0,none⟩=some vF∧X.cell? ⟨B,1,none⟩=some (.slice d b.length f)∧X.cell? ⟨B+1,0,none⟩=some (vI n)∧sP w B false d b f n X)) (by kernel_rfl) hD.out (fun s=>?_)
 refine wpAnyH_take (i:=0) (oi:=_) (v:=vP B) rfl (by kernel_rfl) (by kernel_rfl) (by kernel_rfl) (fun _ _ _ h=>h) (Or.inl ⟨by rfl,fun w a=>by dsimp only at a;go_simp⟩) (by assumption) ?_;refine wpAnyH_take (i:=1) (oi:=_) (v:=vF) rfl (by kernel_rfl) (by kernel_rfl) (by kernel_rfl) (fun _ _ _ h=>h) (Or.inl ⟨by rfl,fun w a=>by dsimp only at a;go_simp⟩) (by assumption) ?_
 refine wpAnyH_take (i:=2) (oi:=_) (v:=vF) rfl (by kernel_rfl) (by kernel_rfl) (by kernel_rfl) (fun _ _ _ h=>h) (Or.inl ⟨by rfl,fun w a=>by dsimp only at a;go_simp⟩) (by assumption) ?_;refine wpAnyH_take (i:=3) (oi:=_) (v:=undef) rfl (by kernel_rfl) (by kernel_rfl) (by kernel_rfl) (fun _ _ _ h=>h) (Or.inr ⟨by rfl,rfl⟩) (by assumption) ?_
 refine wpAnyH_take (i:=4) (oi:=_) (v:=undef) rfl (by kernel_rfl) (by kernel_rfl) (by kernel_rfl) (fun _ _ _ h=>h) (Or.inr ⟨by rfl,rfl⟩) (by assumption) ?_;refine wpAnyH_take (i:=5) (oi:=_) (v:=undef) rfl (by kernel_rfl) (by kernel_rfl) (by kernel_rfl) (fun _ _ _ h=>h) (Or.inr ⟨by rfl,rfl⟩) (by assumption) ?_
 refine wpAnyH_take (i:=6) (oi:=_) (v:=vF) rfl (by kernel_rfl) (by kernel_rfl) (by kernel_rfl) (fun _ _ _ h=>h) (Or.inl ⟨by rfl,fun w a=>by dsimp only at a;go_simp⟩) (by assumption) ?_
 refine wpAnyH_take (i:=7) (oi:=_) (v:=.pointer (some ⟨B,1,none⟩)) rfl (by kernel_rfl) (by kernel_rfl) (by kernel_rfl) (fun _ _ _ h=>h) (Or.inl ⟨by rfl,fun w a=>by dsimp only at a;go_simp⟩) (by assumption) ?_
 refine wpAnyH_take (i:=8) (oi:=_) (v:=.slice d b.length f) rfl (by kernel_rfl) (by kernel_rfl) (by kernel_rfl) (fun _ _ _ h=>h) (Or.inl ⟨by rfl,fun w a=>by dsimp only at a;go_simp⟩) (by assumption) ?_;refine wpAnyH_take (i:=9) (oi:=_) (v:=vI n) rfl (by kernel_rfl) (by kernel_rfl) (by kernel_rfl) (fun _ _ _ h=>h) (Or.inl ⟨by rfl,fun w a=>by dsimp only at a;go_simp⟩) (by assumption) ?_
 simp only [Act.put,Zw];refine wpAnyH_ready (rs:=[10]) (by kernel_rfl) (by simp) ?_;refine QA (o:=_) rfl (fun z r=>?_) QM;rw [if_pos (by rfl)];obtain ⟨-,-,-,t⟩:=s
 go_wp2_with (go_at_call 198;refine (lL K hT hK _ b n _ t.ra u hn V.out).mono ?_;rintro e w9 ⟨g,v,cs,rfl,h1,k1,e1⟩;obtain ⟨a3,c3,rfl,a4,a5⟩:=h1.form)
 refine r.out _ _ ?_ (fun s=>?_)
 ·exact lh t g
 clear r z;refine wpAnyH_ready (rs:=[11]) (by kernel_rfl) (by simp) ?_;refine QA (o:=_) rfl (fun z r=>?_) QM;rw [if_pos (by rfl)];obtain ⟨-,-,-,E⟩:=s
 go_wp2_with (go_at_call 184;refine (dK _ _ _ _ _).mono ?_;rintro e a7 ⟨C,rfl⟩)
 refine r.out _ _ ?_ (fun s=>?_)
 ·exact lh E C
 clear r z;refine wpAnyH_ready (rs:=[12]) (by kernel_rfl) (by simp) ?_;refine QA (o:=_) rfl (fun z r=>?_) QM;rw [if_pos (by rfl)];obtain ⟨-,-,-,a2⟩:=s
 go_wp2_with (go_at_call 183;refine (tJ _ _ _ _ _ (fun h=>U.out (by rw [← e1];exact (bS k1 300).1 h))).mono ?_;rintro e a8 ⟨eF,rfl⟩)
 all_goals exact ⟨rfl,(M.out.drew.trans (((g.trans (C.mono g.size)).trans (eF.mono (g.trans (C.mono g.size)).size)).mono M.out.drew.size)),rfl⟩
theorem CK (B:Nat)(d:Option Addr)(g:Nat)(b:List Nat)(n:Nat)(r0:Bool)(r1:Option Addr)(r2 r3 K:Nat)(hT:gP K)(hK:0<K)(w:World)(m:af w B 24 (lN true d b.length g))(q:af w (B+1) 3 [vI n])(z:af w (B+2) 24 (lN r0 r1 r2 r3))
  (ha:Reads .u32 w (.slice d b.length g) b) (y:Canon b) (fa:au true b=true) (hn:n≤9600) (a9:b.length≤300) (R:((bitsOf b:Int) - 1)*n<9600) (L:bitsOf b≤9600) (l:val b^n<aj^K) (r:¬val b^n<aj^300) :
  Calls prog 196 #[vP B,vP (B+1),vP (B+2)] w fun e N=>bW w N∧e=pK 3:=by
 obtain ⟨a0,a1⟩:=aQ m;have n0:=mI q;have s:=y.1;have A:=af.new w 24 (lN true d b.length g);have D:=dJ w (.cells #[.bool true,.slice d b.length g] 24)
 have M:=fun W (h:bW w W)=>gW (.slice d b.length g) b W (ha.below h) s (by omega)
 obtain ⟨P,hP⟩:∃ P:Int,((bitsOf b:Int) - 1)*n=P:=⟨_,rfl⟩
 have H:-9600≤P:=by
  rw [← hP];have h1:(-1:Int)*n≤((bitsOf b:Int) - 1)*n:=Zj (by omega) (by omega);omega
 rw [hP] at R
 have I:IntKind.i64.wrap P=P:=by rw [Qx];omega
 have Z:=Qa r;have HK:=Qa l;clear r l
 obtain ⟨p,T⟩:∃ p,n % 2=p:=⟨_,rfl⟩
 have a6:p=0∨p=1:=by omega
 have a7:(n:Int) % 2=(p:Int):=by omega
 have a8:(n:Int).tmod 2=(p:Int):=by rw [Zv (by omega)];omega
 have HP:=Qa T;clear T;go_enter func196,ntmps196
 go_wp2_with (first
  | (go_at_call 182;refine (gV _ true d g b _ A (ha.below D) s fa).mono ?_;rintro e w1 ⟨Q,rfl⟩;have c:=D.trans (Q.mono (by simp));have U:=(m.below c).cell 0;have Y:=(m.below c).cell 1;have V:=(q.below c).cell 0;simp only [Qc,Qe] at U V Y)
  | (go_at_call 106;refine (aC _ _ _ (by simp;omega)).mono ?_;rintro e w2 ⟨rfl,rfl⟩))
 go_quiet (first
  | (go_at_call 197;exact (gW (.slice d b.length g) b _ ((ha.below c).drewN _) s (by omega)).mono (fun e N ⟨h1,F⟩=>⟨F,_,h1.symm⟩))
  | (go_at_call 106;exact (aC _ _ _ (by first | rfl | (simp;omega))).mono (fun e N ⟨h1,F⟩=>⟨F,_,h1.symm⟩)))
 have J:sP w B true d b g n (w1.drewN nq):=by
  have h1:bW w (w1.drewN nq):=⟨c.os,c.tape,c.output,c.size,c.block⟩
  exact ⟨m.below h1,ha.below h1,q.below h1,(dF.refl (fun k=>k=B+2) w).aU h1,⟨r0,r1,r2,r3,z.below h1⟩⟩
 have O:=Qa (show bW w (w1.drewN nq) from ⟨c.os,c.tape,c.output,c.size,c.block⟩);generalize w1.drewN nq=W2 at *;clear m q z M hP I H R a0 a1 n0 A D c Q U V Y L ha;have hD:=Qa (uI J);obtain ⟨d1,d2,d3,-⟩:=tq J;clear J
 go_wp2_with fail
 obtain ⟨f,hf⟩:∃ f:Bool,((p:Int) == 1)=f:=⟨_,rfl⟩
 have HS:=Qa hf;refine wp_region_held_drew (S:=(fun X=>X.cell? ⟨B,0,none⟩=some (.bool true)∧X.cell? ⟨B,1,none⟩=some (.slice d b.length g)∧X.cell? ⟨B+1,0,none⟩=some (vI n)∧sP w B true d b g n X)) (by kernel_rfl) hD.out (fun u=>?_)
 refine wpAnyH_take (i:=0) (oi:=_) (v:=vP B) rfl (by kernel_rfl) (by kernel_rfl) (by kernel_rfl) (fun _ _ _ h=>h) (Or.inl ⟨by rfl,fun w a=>by (try dsimp only at a);go_simp⟩) (by assumption) ?_;refine wpAnyH_take (i:=1) (oi:=_) (v:=.bool true) rfl (by kernel_rfl) (by kernel_rfl) (by kernel_rfl) (fun _ _ _ h=>h) (Or.inl ⟨by rfl,fun w a=>by (try dsimp only at a);go_simp⟩) (by assumption) ?_
 refine wpAnyH_take (i:=2) (oi:=_) (v:=.bool true) rfl (by kernel_rfl) (by kernel_rfl) (by kernel_rfl) (fun _ _ _ h=>h) (Or.inl ⟨by rfl,fun w a=>by (try dsimp only at a);go_simp⟩) (by assumption) ?_;refine wpAnyH_take (i:=3) (oi:=_) (v:=vI n) rfl (by kernel_rfl) (by kernel_rfl) (by kernel_rfl) (fun _ _ _ h=>h) (Or.inl ⟨by rfl,fun w a=>by (try dsimp only at a);go_simp⟩) (by assumption) ?_
 refine wpAnyH_take (i:=4) (oi:=_) (v:=vI p) rfl (by kernel_rfl) (by kernel_rfl) (by kernel_rfl) (fun _ _ _ h=>h) (Or.inl ⟨by rfl,fun w a=>by (try dsimp only at a);go_simp⟩) (by assumption) ?_;refine wpAnyH_take (i:=5) (oi:=_) (v:=.bool f) rfl (by kernel_rfl) (by kernel_rfl) (by kernel_rfl) (fun _ _ _ h=>h) (Or.inl ⟨by rfl,fun w a=>by (try dsimp only at a);go_simp⟩) (by assumption) ?_
 refine wpAnyH_take (i:=6) (oi:=_) (v:=.bool f) rfl (by kernel_rfl) (by kernel_rfl) (by kernel_rfl) (fun _ _ _ h=>h) (Or.inl ⟨by rfl,fun w a=>by (try dsimp only at a);go_simp⟩) (by assumption) ?_
 refine wpAnyH_take (i:=7) (oi:=_) (v:=.pointer (some ⟨B,1,none⟩)) rfl (by kernel_rfl) (by kernel_rfl) (by kernel_rfl) (fun _ _ _ h=>h) (Or.inl ⟨by rfl,fun w a=>by (try dsimp only at a);go_simp⟩) (by assumption) ?_
 refine wpAnyH_take (i:=8) (oi:=_) (v:=.slice d b.length g) rfl (by kernel_rfl) (by kernel_rfl) (by kernel_rfl) (fun _ _ _ h=>h) (Or.inl ⟨by rfl,fun w a=>by (try dsimp only at a);go_simp⟩) (by assumption) ?_
 refine wpAnyH_take (i:=9) (oi:=_) (v:=vI n) rfl (by kernel_rfl) (by kernel_rfl) (by kernel_rfl) (fun _ _ _ h=>h) (Or.inl ⟨by rfl,fun w a=>by (try dsimp only at a);go_simp⟩) (by assumption) ?_;simp only [Act.put,Zw];refine wpAnyH_ready (rs:=[10]) (by kernel_rfl) (by simp) ?_;refine QA (o:=_) rfl (fun C t=>?_) QM;rw [if_pos (by rfl)];obtain ⟨-,-,-,x⟩:=u
 go_wp2_with (go_at_call 198;refine (lL K hT hK _ b n _ x.ra y hn HK.out).mono ?_;rintro e w9 ⟨j,v,cs,rfl,h1,k1,e1⟩;obtain ⟨a3,c3,rfl,a4,a5⟩:=h1.form)
 refine t.out _ _ ?_ (fun u=>?_)
 ·exact lh x j
 clear t C;refine wpAnyH_ready (rs:=[11]) (by kernel_rfl) (by simp) ?_;refine QA (o:=_) rfl (fun C t=>?_) QM;rw [if_pos (by rfl)];obtain ⟨-,-,-,G⟩:=u
 go_wp2_with (go_at_call 184;refine (dK _ _ _ _ _).mono ?_;rintro e ab ⟨E,rfl⟩)
 refine t.out _ _ ?_ (fun u=>?_)
 ·exact lh G E
 clear t C;refine wpAnyH_ready (rs:=[12]) (by kernel_rfl) (by simp) ?_;refine QA (o:=_) rfl (fun C t=>?_) QM;rw [if_pos (by rfl)];obtain ⟨-,-,-,a2⟩:=u
 go_wp2_with (go_at_call 183;refine (tJ _ _ _ _ _ (fun h=>Z.out (by rw [← e1];exact (bS k1 300).1 h))).mono ?_;rintro e ad ⟨eF,rfl⟩)
 all_goals exact ⟨rfl,(O.out.drew.trans (((j.trans (E.mono j.size)).trans (eF.mono (j.trans (E.mono j.size)).size)).mono O.out.drew.size)),rfl⟩
theorem gZ.keep {f:Bool}{n i k:Int}{W b:World}{v:Value}(h:gZ f n i k W v)(c:∀ v xs,Reads .u32 W v xs→Reads .u32 b v xs):gZ f n i k b v:=by
 unfold gZ at *
 by_cases h1:f=true∧0≤n∧n≤9600
 ·rw [if_pos h1] at h ⊢
  split at h
  ·rename_i a;rw [if_pos a];exact ⟨h.1,h.2.keep c⟩
  ·rename_i a;rw [if_neg a];exact h
 ·rw [if_neg h1] at h ⊢
  exact h
theorem gZ.shape {f:Bool}{n i k:Int}{W:World}{v:Value}(h:gZ f n i k W v):∃ d a c b,v=vN d a c b:=by
 unfold gZ at h;split at h
 ·split at h
  ·exact h.2.shape
  ·exact ⟨_,_,_,_,h.2⟩
 ·exact ⟨_,_,_,_,h.2⟩
theorem LY {a:List Nat}(c:Canon a)(h:a.length≤300):bitsOf a≤9600∧val a≤2^bitsOf a:=by
 by_cases h0:a=[]
 ·subst h0;decide +kernel
 ·obtain ⟨i,d,f⟩:=jM c h0
  refine ⟨?_,Ju f⟩;have g:=(bS c 300).1 h;have b:=Qr d g;rw [gX] at b;have:=(Zi (show 1<2 by decide)).1 b;omega
theorem Kw {a:List Nat}{n:Nat}(h:Canon a)(c:¬((bitsOf a:Int) - 1)*n<9600):¬val a^n<aj^300:=by
 have h0:a≠[]:=by
  rintro rfl
  have h1:bitsOf []=0:=by decide +kernel
  rw [h1] at c;omega
 obtain ⟨j,d,i⟩:=jM h h0
 obtain ⟨b,g⟩:∃ b,bitsOf a=b+1:=⟨bitsOf a - 1,by omega⟩
 rw [g] at c d;rw [show ((b+1:Nat):Int) - 1=(b:Int) by omega,← Jy] at c;rw [ZK] at d;have f:(2^b)^n≤val a^n:=QU d n;rw [← Jz] at f
 have k:aj^300≤2^(b*n):=by
  rw [gX];exact Ql (by decide) (by omega)
 omega
theorem GI {a:List Nat}{n:Nat}(c:val a≤2^bitsOf a)(f:n≤9600)(b:((bitsOf a:Int) - 1)*n<9600):val a^n<aj^600:=by
 have h1:val a^n≤(2^bitsOf a)^n:=QU c n;rw [← Jz] at h1
 have d:bitsOf a*n<19200:=by
  rw [Int.sub_mul,QY,← Jy] at b;omega
 refine Qr h1 ?_;rw [gX];exact JV (by decide) (by omega)
theorem Aw (O:Value)(na:Bool)(b:List Nat)(n:Int)(w:World)(ha:dx w O na b) :
 CB 159 #[O,vI n] w fun e Q=>∃ J F I G k,e=.returned (.tuple #[vN J F I G,vI k])∧gZ (au na b) n (bX na (val b)) k Q (vN J F I G):=by
 refine (MX O na b n w ha (fun k W v=>gZ (au na b) n (bX na (val b)) k W v) (fun _ _ _ _ h Y=>h.keep Y) ?_).mono ?_
 ·intro B z A f V o q x p he
  obtain ⟨a1,X,_,L⟩:=ha
  have j:∀ k,gZ (au na b) n (bX na (val b)) k f eQ→(Calls prog 196 #[vP B,vP (B+1),vP (B+2)] f fun e Q=>bW f Q∧e=pK k)→Calls prog 196 #[vP B,vP (B+1),vP (B+2)] f fun e W=>∃ k,(k=0∧e=.returned (.tuple #[])∨e=pK k)∧dF (fun i=>i=B+2) f W∧(∃ n0 R T S,af W (B+2) 24 (lN n0 R T S)∧gZ (au na b) n (bX na (val b)) k W (vN n0 R T S)):=by
   intro k hP U;refine U.mono ?_;rintro e W ⟨u,rfl⟩;exact ⟨k,.inr rfl,(dF.refl _ f).aU u,false,none,0,0,x.below u,hP.keep (fun _ _ h=>h.below u)⟩
  cases fa:au na b with
  | false =>
   rw [fa] at j;exact j 1 (by unfold gZ;rw [if_neg (by simp)];exact ⟨rfl,rfl⟩) (LD B na z A b f o p L fa)
  | true =>
   rw [fa] at j
   by_cases M:0≤n∧n≤9600
   ·obtain ⟨h0,h1⟩:=M
    obtain ⟨m,rfl⟩:=JW h0;obtain ⟨g,r⟩:=lJ L fa;obtain ⟨t,Z⟩:=LY g r
    have E:m≤9600:=by omega
    have s:(bX na (val b)^m).natAbs=val b^m:=by rw [Xo,bM]
    by_cases C:((bitsOf b:Int) - 1)*m<9600
    ·have y:=GI Z E C
     have H:=uQ wu (show 600≤40000 by decide)
     by_cases d:val b^m<aj^300
     ·have hP:∀ W v,ak W v (bX na (val b)^m)→gZ true (m:Int) (bX na (val b)) 0 W v:=fun W v h=>by
       unfold gZ;rw [if_pos ⟨rfl,by omega,by omega⟩,QP,if_pos (by rw [s];exact d)];exact ⟨rfl,h⟩
      cases na with
      | false =>
       refine (LF B z A b m _ _ _ _ 600 H (by decide) f o q x p g fa E r C t y d).mono ?_;rintro e W ⟨rfl,D,N,a,l,c,hr,hi⟩;exact ⟨0,.inl ⟨rfl,rfl⟩,D,N,a,l,c,hr,hP _ _ hi⟩
      | true =>
       refine (Ko B z A b m _ _ _ _ 600 H (by decide) f o q x p g fa E r C t y d).mono ?_;rintro e W ⟨rfl,D,N,a,l,c,hr,hi⟩;exact ⟨0,.inl ⟨rfl,rfl⟩,D,N,a,l,c,hr,hP _ _ hi⟩
     ·have hP:gZ true (m:Int) (bX na (val b)) 3 f eQ:=by
       unfold gZ;rw [if_pos ⟨rfl,by omega,by omega⟩,QP,if_neg (by rw [s];exact d)];exact ⟨rfl,rfl⟩
      cases na with
      | false=>exact j 3 hP (Kv B z A b m _ _ _ _ 600 H (by decide) f o q x p g fa E r C t y d)
      | true=>exact j 3 hP (CK B z A b m _ _ _ _ 600 H (by decide) f o q x p g fa E r C t y d)
    ·have hP:gZ true (m:Int) (bX na (val b)) 3 f eQ:=by
      unfold gZ;rw [if_pos ⟨rfl,by omega,by omega⟩,QP,if_neg (by rw [s];exact Kw g C)];exact ⟨rfl,rfl⟩
     exact j 3 hP (GH B na z A b m f o q p g fa E r C t)
   ·exact j 1 (by unfold gZ;rw [if_neg (fun h=>M h.2)];exact ⟨rfl,rfl⟩) (IU B na z A b n f o q p L fa M)
 ·rintro e W ⟨u,r0,k,rfl,hP⟩
  obtain ⟨J,F,I,G,rfl⟩:=hP.shape;exact ⟨u,J,F,I,G,k,rfl,hP⟩
theorem zS {P:Program}{f:Array Oper}{rest:List Oper}{o:Oper}{a:Act}{w:World}{Q:Exit→Act→World→Prop}(i:o.guard=none)(b:Option Tmp)(c:o.dst=b)
  (v:Value) (g:World) (d:(execOp a.eval o).run P w=.ok (.value v) g)
  (h:wpList P f Q rest (a.put b v) g):wpList P f Q (o::rest) a w:=by
 subst c
 refine wpList_plain i fun K hK=>?_
 unfold Oper.wp;rw [d,Oper.upon_value];exact hK _ _ h
theorem rA {b:Nat}{t:TypeId}:∀ (f a d:List Value) (W:World),af W b t (a++d)→d.length=f.length→af (W.setCells b a.length f) b t (a++f)
 | [],a,d,W,h,hl=>by
  obtain rfl:d=[]:=JP hl;exact h
 | v::f,a,[],W,h,hl=>by simp at hl
 | v::f,a,c::d,W,h,hl=>by
  have h1:=h.set a.length v
  have i:(a++c::d).set a.length v=(a++[v])++d:=by simp
  rw [i] at h1;have g:=rA f (a++[v]) d _ h1 (by simpa using hl);simp only [QX,QE,QG,List.append_assoc,QL,QW] at g;exact g
theorem below_setCells {b k:Nat}{w:World}(c:k≤b):∀ (a:List Value) (o:Nat) (W:World),Below k w W→Below k w (W.setCells b o a)
 | [],_,_,h=>h
 | v::a,o,_,h=>below_setCells c a (o+1) _ (h.setCell (p:=⟨b,o,none⟩) c v)
theorem GJ {W:World}{b:Nat}{t:TypeId}{a:List Value}(h:af W b t a):W.there b 0 a.length:=fun j c=>by
 rw [QJ,h.cell j,h.frozen j,Qs c];exact ⟨rfl,rfl⟩
theorem BO (r:Nat)(h:r<19):(ic 18)[r]?=some (vI ((10^r:Nat):Int)):=by
 unfold ic;rw [JX,List.getElem?_range h];simp only [Option.map_some,if_pos (show r≤18 by omega)]
theorem zT {r:Nat}(h:r<19):((10^r:Nat):Int)≤1000000000000000000:=by
 have h1:10^r≤10^18:=Ql (by decide) (by omega)
 have a:(10:Nat)^18=1000000000000000000:=by decide
 omega
theorem Ky (b:Value)(i:Int)(n:Nat)(w:World)(ha:ak w b i)(hi:i.natAbs<aj^300)(m:n≤9600)(hf:(i^n).natAbs<aj^300) :
 CB 159 #[b,vI n] w fun e g=>∃ v,e=.returned (.tuple #[v,vI 0])∧ak g v (i^n):=by
 obtain ⟨na,h,f,c,rfl,-,-⟩:=ha.at hi;refine (Aw b na h n w f).mono ?_;rintro e q ⟨h1,p,j,o,l,k,rfl,a⟩;unfold gZ at a;rw [if_pos ⟨c,by omega,by omega⟩,QP,if_pos hf] at a;obtain ⟨rfl,d⟩:=a;exact ⟨h1,_,rfl,d⟩
def rJ:List Value:=[vI 0,vI 0,vI 0,vI 0,vI 0,vI 0,vI 0,vI 0,vI 0,vI 0,vI 0,vI 0,vI 0,vI 0,vI 0,vI 0,vI 0,vI 0,vI 0]
theorem LZ (w a:World)(b:bW w a):∃ V,Hid ((a.alloc (.cells rJ.toArray 171)).setCells a.heap.size 0 (ic 0)=V)∧bW w V∧bW a V∧af V a.heap.size 171 (ic 0) :=
 ⟨_,Qa rfl,below_setCells b.size _ _ _ (b.alloc b.size _),below_setCells (Qb _) _ _ _ (dJ _ _),rA (ic 0) [] rJ _ (af.new a _ rJ) rfl⟩
theorem xw (n:Nat)(w:World)(hn:n≤2820) :
 CB 147 #[vI n] w fun e w'=>∃ v,e=.returned v∧ak w' v ((10^n:Nat):Int):=by
 obtain ⟨S,hW,b0,qr⟩:=Lf w 24 (lN false none 0 0);have uZ:=lK;obtain ⟨V,hV,bV,a2,rV⟩:=LZ w S b0
 have a9:(S.alloc (.cells rJ.toArray 171)).there S.heap.size 0 (ic 0).toArray.size:=by
  have h:=GJ (af.new S 171 rJ);exact h
 obtain ⟨y,hy⟩:∃ y,((10^n:Nat):Int)=y:=⟨_,rfl⟩
 rw [hy];have HY:=Qa hy;clear hy;go_enter func147,ntmps147
 go_upto_region 1 with (fail)
 rw [hW.out];clear hW;refine wp_region_list ?_;refine zS rfl (some 7) rfl (.agg (ic 0).toArray) S (by kernel_rfl) ?_;refine zS rfl (some 3) rfl (vP S.heap.size) (S.alloc (.cells rJ.toArray 171)) (by kernel_rfl) ?_;refine wpList_store_mid rfl 171 (.tmp 3) (.tmp 7) rfl S.heap.size 0 (ic 0).toArray rfl rfl a9 (by kernel_rfl) (by kernel_rfl) ?_
 rw [show World.setCells _ _ _ (ic 0).toArray.toList=V from hV.out];clear hV a9;have kF:=Ku S.heap.size V rV;simp only [Act.put,Zw,QB,Qz]
 go_upto_region 4 with (refine kF.mono ?_;rintro e w1 ⟨rfl,s,r1⟩)
 have I:bW w w1:=bV.trans (s.below (B:=w.heap.size) (fun i hi=>by have:=b0.size;omega) bV.size);have q1:af w1 w.heap.size 24 (lN false none 0 0):=s.row (qr.below a2) (by have:=qr.lt;omega);have t:=Qa qr.lt;clear kF rV s qr bV a2 b0 uZ;generalize S.heap.size=B at *
 by_cases D:n<19
 ·have e1:decide ((n:Int)<19)=true:=decide_eq_true (by omega)
  have e2:(n:Int)<19:=by omega
  have i1:=mX B n D
  have d1:w1.cell? ⟨B,n,none⟩=some (vI ((10^n:Nat):Int)):=by rw [r1.cell n];exact BO n D
  have kO:=fun X=>of_int ((10^n:Nat):Int) X (YJ (by decide) (Zk _)) (YJ (zT D) (by decide))
  rw [HY.out] at kO d1;clear hn r1 D;clear HY
  go_wp2_with (go_at_call 143;refine (kO _).mono ?_;rintro e w2 ⟨a3,v,rfl,hI⟩;obtain ⟨g,a,m,c,rfl⟩:=hI.shape;have q2:=q1.below a3;have N:=q2.cell 0;have O:=q2.cell 1;have U:=q2.frozen 0;have Y:=q2.frozen 1;simp only [Qc,Qe] at N O)
  obtain ⟨u0,u1⟩:=bA N O (.bool g) (.slice a m c);have al:=I.trans (a3.mono I.size);exact bodyPost_ret (v:=vN g a m c) (by simp [results,results147,go_sem,loadCellsFrom,u0,u1]) rfl ⟨(al.setCell (Qb _) (p:=⟨w.heap.size,0,none⟩) _).setCell (Qb _) (p:=⟨w.heap.size,1,none⟩) _,_,rfl,hI.keep (aV q2 _ _)⟩
 ·have e1:decide ((n:Int)<19)=false:=decide_eq_false (by omega)
  obtain ⟨Q,hQ⟩:∃ Q,n / 18=Q:=⟨_,rfl⟩
  obtain ⟨r,hr⟩:∃ r,n % 18=r:=⟨_,rfl⟩
  have a7:n=18*Q+r:=by omega
  have a8:r<18:=by omega
  have aj:Q≤156:=by omega
  have ediv:(n:Int).tdiv 18=(Q:Int):=by rw [Yx (by omega)];omega
  have emod:(n:Int).tmod 18=(r:Int):=by rw [Zv (by omega)];omega
  have aa:=mX B 18 (by decide);simp only [Xp] at aa;have ir:=mX B r (by omega)
  have er:(r:Int)<19:=by omega
  have ao:=Qa (show IntKind.i64.wrap (Q:Int)=(Q:Int) by rw [Qx];omega);have hwr:=Qa (show IntKind.i64.wrap (r:Int)=(r:Int) by rw [Qx];omega)
  have kO:=fun X=>of_int 1000000000000000000 X (by decide) (by decide)
  have kR:=fun X=>of_int ((10^r:Nat):Int) X (YJ (by decide) (Zk _)) (YJ (zT (show r<19 by omega)) (by decide))
  have a1:(1000000000000000000:Int)^Q=((10^(18*Q):Nat):Int):=by rw [show (1000000000000000000:Int)=((10^18:Nat):Int) by decide,← Int.natCast_pow,← Jz]
  have L:=jc (show 18*Q≤2820 by omega)
  have kP:=fun X v (hv:ak X v 1000000000000000000)=>Ky v 1000000000000000000 Q X hv (by decide) (by omega) (by rw [a1];exact L)
  rw [a1] at kP
  have hmul:((10^(18*Q):Nat):Int)*((10^r:Nat):Int)=((10^n:Nat):Int):=by rw [a7,← Jy,← Qt]
  have kM:=fun X v v' (hv:ak X v ((10^(18*Q):Nat):Int)) (an:ak X v' ((10^r:Nat):Int))=>uE v v' _ _ X hv an L (jc (by omega)) (by rw [hmul];exact jc hn)
  rw [hmul,HY.out] at kM;have J:Hid ((ic 18)[r]?=some (vI ((10^r:Nat):Int))):=Qa (BO r (by omega));clear a1 L hmul hQ hr a7 a8 aj hn;generalize ((10^(18*Q):Nat):Int)=h at *;generalize ((10^r:Nat):Int)=l at *;clear HY;have C:∀ r ∈ ([(B,171,ic 18)]:List (Nat × TypeId × List Value)),r.1<w1.heap.size:=fK r1.lt nA;have Z:=I.size;have u:=q1.lt
  have dH:=fC (R:=bJ _) (ax r1 aS) ⟨_,_,_,_,q1⟩ I
  have x:Hid (∀ X,fI w w1 (bJ w.heap.size) [(B,171,ic 18)] X→X.cell? ⟨B,18,none⟩=some (vI 1000000000000000000)∧fI w w1 (bJ w.heap.size) [(B,171,ic 18)] X):=Qa fun X h=>⟨h.r0.cell 18,h⟩
  have HH:=Qa (And.intro C (And.intro Z u));clear C Z u r1 q1 I D
  go_upto_region 7 with (fail)
  go_cut [6] from 17 to 27 (fun v W=>(kJ W v h∧∃ T,v=vP T∧T≠w.heap.size)∧fI w w1 (bJ w.heap.size) [(B,171,ic 18)] W)
  case first =>
   obtain ⟨C,Z,u⟩:=HH.out;have aq:=ao.out
   go_wp2_with fail
   refine bB x (bY bJ.drew dH) fun X0 d=>?_
   refine tk 0 d ?_;refine tk 1 d ?_;refine tk 2 d ?_;refine tk 4 d ?_;refine tk 5 d ?_;refine tk 6 d ?_;refine ql 3 11 (fun j f=>?_) (fun j f=>?_)
   ·have hP:=d.2
    go_wp2_with (go_at_call 143;refine (kO _).mono ?_;rintro e M ⟨b,v5,rfl,k⟩)
    refine aT f x (ag bJ.step hP b) fun d=>?_
    clear f j hP b;refine ql 7 11 (fun j f=>?_) (fun j f=>?_)
    ·have hP:=d.2
     go_wp2_with (go_at_call 159;refine (kP _ _ k).mono ?_;rintro e M ⟨b,v6,rfl,t⟩)
     replace k:=k.below b
     refine aT f x (ag bJ.step hP b) fun d=>?_
     clear f j hP b;refine tk 8 d ?_;refine tk 9 d ?_;refine ql 10 11 (fun j f=>?_) (fun j f=>?_)
     ·have hP:=d.2
      go_wp2_with (go_at_call 152;refine (eZ _ _ _ t).mono ?_;rintro e M ⟨b,v7,rfl,s⟩)
      replace k:=k.below b;replace t:=t.below b;obtain ⟨g,a,m,c,rfl⟩:=s.shape
      refine aT f x (ag bJ.step hP b) fun d=>?_
      clear f j hP b
      refine rd 11 fun j f=>?_
      have hP:=d.2;obtain ⟨V9,H,q,A,o⟩:=aL hP 24 (lN false none 0 0)
      go_wp2_with fail
      rw [H.out];clear H;replace k:=k.below o;replace t:=t.below o;replace s:=s.below o
      refine aT f x (ag bJ.step hP o) fun d=>?_
      clear f j hP o
      refine rd 12 fun j f=>?_
      have hP:=d.2;obtain ⟨N,O,U,Y⟩:=av q;obtain ⟨V8,G,E,z,F,cO⟩:=ay hP (bJ.other (Qg (Qf u A))) (bP C A) (Qd Z A) q (.bool g) (.slice a m c)
      go_wp2_with fail
      rw [G.out];replace k:=k.keep z;replace t:=t.keep z;replace s:=s.keep z;replace q:=F
      refine aT f x E fun d=>?_
      clear f j hP E G z F cO N O U Y;refine wpAnyH_done (by kernel_rfl) ?_ _;go_wp2
      go_meet
      exact ⟨⟨⟨_,_,_,_,_,rfl,q,s⟩,_,rfl,(Qg (Qf u A)).symm⟩,d.2⟩
     have hP:=d.2;obtain ⟨V9,H,q,A,o⟩:=aL hP 24 (lN false none 0 0)
     go_wp2_with fail
     rw [H.out];clear H;replace k:=k.below o;replace t:=t.below o
     refine aT f x (ag bJ.step hP o) fun d=>?_
     clear f j hP o
     refine rd 10 fun j f=>?_
     have hP:=d.2
     go_wp2_with (go_at_call 152;refine (eZ _ _ _ t).mono ?_;rintro e M ⟨b,v7,rfl,s⟩)
     replace k:=k.below b;replace t:=t.below b;replace q:=q.below b;obtain ⟨g,a,m,c,rfl⟩:=s.shape
     refine aT f x (ag bJ.step hP b) fun d=>?_
     clear f j hP b
     refine rd 12 fun j f=>?_
     have hP:=d.2;obtain ⟨N,O,U,Y⟩:=av q;obtain ⟨V8,G,E,z,F,cO⟩:=ay hP (bJ.other (Qg (Qf u A))) (bP C A) (Qd Z A) q (.bool g) (.slice a m c)
     go_wp2_with fail
     rw [G.out];replace k:=k.keep z;replace t:=t.keep z;replace s:=s.keep z;replace q:=F
     refine aT f x E fun d=>?_
     clear f j hP E G z F cO N O U Y;refine wpAnyH_done (by kernel_rfl) ?_ _;go_wp2
     go_meet
     exact ⟨⟨⟨_,_,_,_,_,rfl,q,s⟩,_,rfl,(Qg (Qf u A)).symm⟩,d.2⟩
    have hP:=d.2;obtain ⟨V9,H,q,A,o⟩:=aL hP 24 (lN false none 0 0)
    go_wp2_with fail
    rw [H.out];clear H;replace k:=k.below o
    refine aT f x (ag bJ.step hP o) fun d=>?_
    clear f j hP o
    refine rd 7 fun j f=>?_
    have hP:=d.2
    go_wp2_with (go_at_call 159;refine (kP _ _ k).mono ?_;rintro e M ⟨b,v6,rfl,t⟩)
    replace k:=k.below b;replace q:=q.below b
    refine aT f x (ag bJ.step hP b) fun d=>?_
    clear f j hP b;refine tk 8 d ?_;refine tk 9 d ?_
    refine rd 10 fun j f=>?_
    have hP:=d.2
    go_wp2_with (go_at_call 152;refine (eZ _ _ _ t).mono ?_;rintro e M ⟨b,v7,rfl,s⟩)
    replace k:=k.below b;replace q:=q.below b;replace t:=t.below b;obtain ⟨g,a,m,c,rfl⟩:=s.shape
    refine aT f x (ag bJ.step hP b) fun d=>?_
    clear f j hP b
    refine rd 12 fun j f=>?_
    have hP:=d.2;obtain ⟨N,O,U,Y⟩:=av q;obtain ⟨V8,G,E,z,F,cO⟩:=ay hP (bJ.other (Qg (Qf u A))) (bP C A) (Qd Z A) q (.bool g) (.slice a m c)
    go_wp2_with fail
    rw [G.out];replace k:=k.keep z;replace t:=t.keep z;replace s:=s.keep z;replace q:=F
    refine aT f x E fun d=>?_
    clear f j hP E G z F cO N O U Y;refine wpAnyH_done (by kernel_rfl) ?_ _;go_wp2
    go_meet
    exact ⟨⟨⟨_,_,_,_,_,rfl,q,s⟩,_,rfl,(Qg (Qf u A)).symm⟩,d.2⟩
   have hP:=d.2;obtain ⟨V9,H,q,A,o⟩:=aL hP 24 (lN false none 0 0)
   go_wp2_with fail
   rw [H.out];clear H
   refine aT f x (ag bJ.step hP o) fun d=>?_
   clear f j hP o
   refine rd 3 fun j f=>?_
   have hP:=d.2
   go_wp2_with (go_at_call 143;refine (kO _).mono ?_;rintro e M ⟨b,v5,rfl,k⟩)
   replace q:=q.below b
   refine aT f x (ag bJ.step hP b) fun d=>?_
   clear f j hP b
   refine rd 7 fun j f=>?_
   have hP:=d.2
   go_wp2_with (go_at_call 159;refine (kP _ _ k).mono ?_;rintro e M ⟨b,v6,rfl,t⟩)
   replace q:=q.below b;replace k:=k.below b
   refine aT f x (ag bJ.step hP b) fun d=>?_
   clear f j hP b;refine tk 8 d ?_;refine tk 9 d ?_
   refine rd 10 fun j f=>?_
   have hP:=d.2
   go_wp2_with (go_at_call 152;refine (eZ _ _ _ t).mono ?_;rintro e M ⟨b,v7,rfl,s⟩)
   replace q:=q.below b;replace k:=k.below b;replace t:=t.below b;obtain ⟨g,a,m,c,rfl⟩:=s.shape
   refine aT f x (ag bJ.step hP b) fun d=>?_
   clear f j hP b
   refine rd 12 fun j f=>?_
   have hP:=d.2;obtain ⟨N,O,U,Y⟩:=av q;obtain ⟨V8,G,E,z,F,cO⟩:=ay hP (bJ.other (Qg (Qf u A))) (bP C A) (Qd Z A) q (.bool g) (.slice a m c)
   go_wp2_with fail
   rw [G.out];replace k:=k.keep z;replace t:=t.keep z;replace s:=s.keep z;replace q:=F
   refine aT f x E fun d=>?_
   clear f j hP E G z F cO N O U Y;refine wpAnyH_done (by kernel_rfl) ?_ _;go_wp2
   go_meet
   exact ⟨⟨⟨_,_,_,_,_,rfl,q,s⟩,_,rfl,(Qg (Qf u A)).symm⟩,d.2⟩
  case rest =>
   obtain ⟨⟨⟨T,n6,a6,m6,c6,rfl,r6,i6⟩,b7,a4,a5⟩,a0⟩:=hcut;simp only [Value.pointer.injEq,Option.some.injEq,Addr.mk.injEq,and_true] at a4;subst a4;have ab:=Qa a5;clear a5;obtain ⟨C,Z,u⟩:=HH.out;clear dH x HH
   have ah:fI w wc (bJ w.heap.size) [(T,24,(lN n6 a6 m6 c6)),(B,171,ic 18)] wc:=⟨ax r6 a0.rows,a0.res,a0.below,fun _ _ h=>h,Qb _⟩
   have x:Hid (∀ X,fI w wc (bJ w.heap.size) [(T,24,(lN n6 a6 m6 c6)),(B,171,ic 18)] X→(X.cell? ⟨T,0,none⟩=some (.bool n6)∧X.cell? ⟨T,1,none⟩=some (.slice a6 m6 c6)∧X.cell? ⟨B,r,none⟩=some (vI l))∧fI w wc (bJ w.heap.size) [(T,24,(lN n6 a6 m6 c6)),(B,171,ic 18)] X):=Qa fun X h=>⟨⟨h.r0.cell 0,h.r0.cell 1,(h.r1.cell r).trans J.out⟩,h⟩
   have ar:=hwr.out;have am:T≠w.heap.size:=ab.out;have ap:=t.out;clear a0 C Z u J kO kP aa r6 ediv e1
   go_wp2_with fail
   refine bB x (bY bJ.drew ah) fun X0 d=>?_
   refine tk 0 d ?_;refine tk 1 d ?_;refine tk 2 d ?_;refine tk 3 d ?_;refine tk 4 d ?_;refine tk 5 d ?_
   refine rd 6 fun j f=>?_
   have hP:=d.2
   go_wp2_with (go_at_call 143;refine (kR _).mono ?_;rintro e M ⟨b,v5,rfl,k⟩)
   refine aT f x (ag bJ.step hP b) fun d=>?_
   clear f j hP b
   refine rd 7 fun j f=>?_
   have hP:=d.2
   go_wp2_with (go_at_call 156;refine (kM _ _ _ (i6.keep hP.more) k).mono ?_;rintro e M ⟨b,v6,rfl,hM⟩)
   replace k:=k.below b
   refine aT f x (ag bJ.step hP b) fun d=>?_
   clear f j hP b;refine tk 8 d ?_;refine tk 9 d ?_
   refine rd 10 fun j f=>?_
   have hP:=d.2
   go_wp2_with (go_at_call 152;refine (eZ _ _ _ hM).mono ?_;rintro e M ⟨b,v7,rfl,s⟩)
   replace k:=k.below b;replace hM:=hM.below b;obtain ⟨g,a,m,c,rfl⟩:=s.shape
   refine aT f x (ag bJ.step hP b) fun d=>?_
   clear f j hP b
   refine rd 11 fun j f=>?_
   have hP:=d.2;obtain ⟨z0,z1,gz,gB,hr,N,O,U,Y⟩:=hP.res.cells;clear kR kM k hM
   go_wp2_with fail
   refine aT f x (fM hP (aZ am (aZ (by omega) dV)) (Qb _) g a m c) fun d=>?_
   clear f j;obtain ⟨u0,u1⟩:=eB hr (.bool g) (.slice a m c);refine wpAnyH_done (by kernel_rfl) ?_ _;have hb:=d.2.below;have ad:=s.keep (aV hr (.bool g) (.slice a m c));clear d hr hP s
   go_wp2_with fail
   exact bodyPost_ret (v:=vN g a m c) (by simp [results,results147,go_sem,loadCellsFrom,u0,u1]) rfl ⟨hb,_,rfl,ad⟩
theorem lU (v:Value)(i:Int)(n:Nat)(w:World)(h:ak w v i)(s:n≤2820)(hi:i.natAbs<aj^300)(hr:(i*((10^n:Nat):Int)).natAbs<aj^300) :
 CB 108 #[v,vI n] w fun e Q=>∃ o,e=.returned o∧ak Q o (i*((10^n:Nat):Int)):=by
 obtain ⟨M,H,m1,I,rfl⟩:=h.shape
 have C:=fun X=>xw n X s
 have B:=fun X (J:bW w X) o (t:ak X o ((10^n:Nat):Int))=>uE _ o i _ X (h.below J) t hi (jc s) hr
 generalize i*((10^n:Nat):Int)=x at *;generalize ((10^n:Nat):Int)=y at *
 have D:=fun X v (t:ak X v x)=>eZ v x X t
 obtain ⟨S,A,u,E,F⟩:=yP w 24 (lN M H m1 I) 24 (lN false none 0 0);have z:=fC (R:=bJ _) (ax E aS) ⟨_,_,_,_,F⟩ u
 have l:=yO z fun X h=>(aQ h.r0:)
 clear u E F h s hi hr;go_enter func108,ntmps108
 go_upto_region 1 with (fail)
 rw [A.out];clear A
 go_wp2_with fail
 refine bB l (bY bJ.drew z) fun T d=>?_
 refine tk 0 d ?_;refine tk 1 d ?_
 refine rd 2 fun j f=>?_
 have hP:=d.2
 go_wp2_with (go_at_call 147;refine (C _).mono ?_;rintro e G ⟨b,v5,rfl,k⟩)
 refine aT f l (ag bJ.step hP b) fun d=>?_
 clear f j hP b
 refine rd 3 fun j f=>?_
 have hP:=d.2
 go_wp2_with (go_at_call 156;refine (B _ hP.below _ k).mono ?_;rintro e G ⟨b,v6,rfl,p⟩)
 replace k:=k.below b
 refine aT f l (ag bJ.step hP b) fun d=>?_
 clear f j hP b;refine tk 4 d ?_;refine tk 5 d ?_
 refine rd 6 fun j f=>?_
 have hP:=d.2
 go_wp2_with (go_at_call 152;refine (D _ _ p).mono ?_;rintro e G ⟨b,v7,rfl,q⟩)
 replace k:=k.below b;replace p:=p.below b;obtain ⟨g,a,m,c,rfl⟩:=q.shape
 refine aT f l (ag bJ.step hP b) fun d=>?_
 clear f j hP b
 refine rd 7 fun j f=>?_
 have hP:=d.2;obtain ⟨z0,z1,Z,Y,hr,y0,y1,U,V⟩:=hP.res.cells;clear C B D k p
 go_wp2_with fail
 refine aT f l (fM hP (aZ (by omega) dV) (by omega) g a m c) fun d=>?_
 clear f j;obtain ⟨N,O⟩:=eB hr (.bool g) (.slice a m c);refine wpAnyH_done (by kernel_rfl) ?_ _;have L:=d.2.below;have r:=q.keep (aV hr (.bool g) (.slice a m c));clear d hr hP q
 go_wp2_with fail
 exact bodyPost_ret (v:=vN g a m c) (by simp [results,results108,go_sem,loadCellsFrom,N,O]) rfl ⟨L,_,rfl,r⟩
theorem zU (v:Value)(i:Int)(n:Nat)(w:World)(h:ak w v i)(l:n≤2820)(hi:i.natAbs<aj^300)(hr:¬(i*((10^n:Nat):Int)).natAbs<aj^300) :
 CB 108 #[v,vI n] w fun e _=>e=pK 3:=by
 obtain ⟨F,u,m1,z,rfl⟩:=h.shape
 have D:=fun X=>xw n X l
 have C:=fun X (A:bW w X) v' (B:ak X v' ((10^n:Nat):Int))=>Kt _ v' i _ X (h.below A) B hi (jc l) hr
 generalize i*((10^n:Nat):Int)=x at *;generalize ((10^n:Nat):Int)=y at *
 have E:=fun n a m c X=>Fw n a m c 3 X (by decide)
 obtain ⟨G,q,o,r,s⟩:=yP w 24 (lN F u m1 z) 24 (lN false none 0 0);have p:=fC (R:=bJ _) (ax r aS) ⟨_,_,_,_,s⟩ o
 have k:=yO p fun X h=>(aQ h.r0:)
 clear o r s h l hi hr;go_enter func108,ntmps108
 go_upto_region 1 with (fail)
 rw [q.out];clear q
 go_wp2_with fail
 refine bB k (bY bJ.drew p) fun H d=>?_
 refine tk 0 d ?_;refine tk 1 d ?_
 refine rd 2 fun g f=>?_
 have hP:=d.2
 go_wp2_with (go_at_call 147;refine (D _).mono ?_;rintro e t ⟨b,N,rfl,j⟩)
 refine aT f k (ag bJ.step hP b) fun d=>?_
 clear f g hP b
 refine rd 3 fun g f=>?_
 have hP:=d.2
 go_wp2_with (go_at_call 156;refine (C _ hP.below _ j).mono ?_;rintro e t ⟨b,L,I,M,J,rfl⟩)
 replace j:=j.below b
 refine aT f k (ag bJ.step hP b) fun d=>?_
 clear f g hP b;refine tk 4 d ?_;refine tk 5 d ?_
 refine rd 6 fun g f=>?_
 have hP:=d.2
 go_wp2_with (go_at_call 152;refine (E _ _ _ _ _).mono ?_;rintro e t ⟨b,rfl⟩)
 exact ⟨rfl,hP.below.trans (b.mono hP.below.size),rfl⟩
theorem iF {i:Int}(hi:i.natAbs<aj^40){n:Nat}(c:n≤40):(i*((10^n:Nat):Int)).natAbs<aj^50:=by
 rw [Zl,show 50=40+10 from rfl,Qt];refine Ye hi ?_;rw [QQ,gX];have h1:10^n≤16^n:=QU (by decide) n
 have a:(16:Nat)^n=2^(4*n):=by rw [Jz]
 have b:(2:Nat)^(4*n)<2^(32*10):=JV (by decide) (by omega);omega
theorem wU (va vb:Value)(i:Int)(p:Nat)(j:Int)(q:Nat)(w:World)(h1:dB w va i p)(C:dB w vb j q) :
 CB 86 #[va,vb] w fun e w'=>∃ n a m c n' a' m' c',e=.returned (.tuple #[vN n a m c,vN n' a' m' c',vI ((max p q:Nat):Int)])∧ak w' (vN n a m c) (i*((10^(max p q - p):Nat):Int))∧ak w' (vN n' a' m' c') (j*((10^(max p q - q):Nat):Int)):=by
 have hp:=h1.hi;have L:=h1.lo;have E:=h1.abs;have hq:=C.hi;have N:=C.lo;have F:=C.abs;obtain ⟨n1,a1,m1,c1,cu,cB,rfl,hI⟩:=h1.shape;obtain ⟨n2,a2,m2,c2,gm,gp,rfl,hJ⟩:=C.shape
 obtain ⟨M,hM⟩:∃ M,max p q=M:=⟨_,rfl⟩
 have I:p≤M∧q≤M∧M≤20:=by omega
 have eM:max (p:Int) (q:Int)=(M:Int):=by omega
 rw [hM]
 have S:=fun X (J:bW w X)=>lU _ i (M - p) X (hI.below J) (by omega) (az E (by decide)) (az (iF E (by omega)) (by decide))
 have T:=fun X (J:bW w X)=>lU _ j (M - q) X (hJ.below J) (by omega) (az F (by decide)) (az (iF F (by omega)) (by decide))
 generalize i*((10^(M - p):Nat):Int)=x at *;generalize j*((10^(M - q):Nat):Int)=y at *;rw [show ((M - p:Nat):Int)=(M:Int) - (p:Int) by omega] at S;rw [show ((M - q:Nat):Int)=(M:Int) - (q:Int) by omega] at T;have O:=Qa (show IntKind.i64.wrap ((M:Int) - (p:Int))=(M:Int) - (p:Int) by rw [Qx];omega);have Q:=Qa (show IntKind.i64.wrap ((M:Int) - (q:Int))=(M:Int) - (q:Int) by rw [Qx];omega)
 clear hM I E F hp hq L N hI hJ h1 C;obtain ⟨W0,hW,b0,U,V,q3,qr⟩:=NG w 27 (lV 3 p n1 a1 m1 c1 ⟨#[]⟩ cu 0 cB) 27 (lV 3 q n2 a2 m2 c2 ⟨#[]⟩ gm 0 gp) 24 (lN false none 0 0) 24 (lN false none 0 0);have dH:=fC (R:=fo _) (ax U (ax V aS)) ⟨⟨_,_,_,_,q3⟩,_,_,_,_,qr⟩ b0
 have D:=yO dH fun X h=>(MM h.r0 (nk h.r1):)
 have d1:=Dk U;have e1:=Dk V;clear b0 U V q3 qr;go_enter func86,ntmps86
 go_upto_region 1 with (fail)
 rw [hW.out];clear hW
 go_upto_region 2 with (fail)
 have a0:=O.out;have a3:=Q.out;clear d1 e1 eM
 go_wp2_with fail
 refine bB D (bY fo.drew dH) fun X0 b=>?_
 refine tk 0 b ?_;refine tk 1 b ?_;refine tk 2 b ?_;refine tk 3 b ?_;refine tk 4 b ?_;refine tk 5 b ?_;refine tk 7 b ?_;refine tk 8 b ?_;refine tk 9 b ?_;refine tk 10 b ?_;refine tk 11 b ?_;refine tk 12 b ?_;refine tk 14 b ?_
 refine rd 6 fun o f=>?_
 have hP:=b.2
 go_wp2_with (go_at_call 108;refine (S _ hP.below).mono ?_;rintro e wk ⟨d,v5,rfl,l⟩)
 obtain ⟨g,a,m,c,rfl⟩:=l.shape
 refine aT f D (ag fo.step hP d) fun b=>?_
 clear f o hP d
 refine rd 13 fun o f=>?_
 have hP:=b.2
 go_wp2_with (go_at_call 108;refine (T _ hP.below).mono ?_;rintro e wk ⟨d,v6,rfl,u⟩)
 replace l:=l.below d;obtain ⟨t,r,z,s,rfl⟩:=u.shape;clear S T
 refine aT f D (ag fo.step hP d) fun b=>?_
 clear f o hP d
 refine rd 15 fun o f=>?_
 have hP:=b.2;obtain ⟨z0,z1,gz,gB,hr,Y,Z,G,H⟩:=hP.res.1.cells
 go_wp2_with fail
 have B:=mH hP (aZ (by omega) (aZ (by omega) dV)) (by omega) g a m c;have A:=(hr.set 0 (.bool g)).set 1 (.slice a m c);simp only [QB,Qz] at A;replace l:=l.keep (aV hr (.bool g) (.slice a m c));replace u:=u.keep (aV hr (.bool g) (.slice a m c))
 refine aT f D B fun b=>?_
 clear f o hP B hr Y Z G H
 refine rd 16 fun o f=>?_
 have hP:=b.2;obtain ⟨z0,z1,gz,gB,hr,Y,Z,G,H⟩:=hP.res.2.cells
 go_wp2_with fail
 have B:=zk hP (aZ (by omega) (aZ (by omega) dV)) (by omega) t r z s;have k:=(hr.set 0 (.bool t)).set 1 (.slice r z s);simp only [QB,Qz] at k;replace l:=l.keep (aV hr (.bool t) (.slice r z s));replace u:=u.keep (aV hr (.bool t) (.slice r z s))
 replace A:=(A.other (a:=⟨w.heap.size+1+1+1,0,none⟩) (show w.heap.size+1+1≠w.heap.size+1+1+1 by omega) (.bool t)).other (a:=⟨w.heap.size+1+1+1,1,none⟩) (show w.heap.size+1+1≠w.heap.size+1+1+1 by omega) (.slice r z s)
 refine aT f D B fun b=>?_
 clear f o hP B hr Y Z G H;refine tk 17 b ?_;refine wpAnyH_done (by kernel_rfl) ?_ _;have hb:=b.2.below
 obtain ⟨u0,u1⟩:=(⟨A.cell 0,A.cell 1⟩:_∧_)
 obtain ⟨u2,u3⟩:=(⟨k.cell 0,k.cell 1⟩:_∧_)
 simp only [Qc,Qe] at u0 u1 u2 u3;clear b A k
 go_wp2_with fail
 exact bodyPost_ret (v:=.tuple #[vN g a m c,vN t r z s,vI M]) (by simp [results,results86,go_sem,loadCellsFrom,u0,u1,u2,u3]) rfl ⟨hb,_,_,_,_,_,_,_,_,rfl,l,u⟩
end Go.Proofs.YtagjhmodblifbaaGreatDoor
