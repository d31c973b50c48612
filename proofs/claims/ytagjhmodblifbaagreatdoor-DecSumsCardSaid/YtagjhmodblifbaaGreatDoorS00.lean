/- proved lemmas -/
import Derived.Test.YtagjhmodblifbaaGreatDoorMA
import Derived.Test.YtagjhmodblifbaaGreatDoorProg
import Derived.Below
import Derived.RangeFuncNested
import Derived.RangeFuncBound
import Derived.RangeFuncCalls
import Derived.RangeFuncLeaves
import Derived.Shelf.Abstract
import Derived.Shelf.RegionOpen
import Derived.OwnWalkIn
import Derived.TacticsInMore
import Derived.LoopNIn
import Derived.LoopIn
import Derived.Outline
import Derived.WalkKit
import Derived.WalkLawsBesides
import Derived.WalkSpells
import Derived.Lib.Hide
import Derived.Maps.AppendAt
import Derived.Handy
import Derived.Deep.QuietTactic
import Derived.BigQuiet
import Derived.OrdersIn
import Derived.StillTailTactics
import Derived.Shelf.Strings.Builder1
import Derived.Shelf.Strings.Builder2
import Derived.Shelf.Strings.Trim
import Derived.Shelf.Small.Utf8
import Derived.Shelf.Small.Bits
import Derived.Shelf.Small.Strs
import Derived.Shelf.Small.Wraps
import Derived.Shelf.Strings.BuilderF
import Derived.Shelf.Strconv.Itoa0
import Derived.Shelf.Strings.Search1
import Derived.Shelf.Strings.Prefix
import Derived.Shelf.Bits.Mul64
import Derived.Shelf.Strings.Repeat
import Derived.Ground.Names2Prog
import Derived.Shelf.Slices.SearchI
import Derived.Laws.EntriesVeiled
import Derived.Deep.RegionHeld3
import Derived.Recover
import Derived.LoopN
import Derived.Lib.ItoaNum
import Derived.RegionTactic
import Derived.ChangeAlike
import Derived.Laws.OwnMore
import Derived.IntWalk
import Derived.Deep.DeepFit
import Derived.Laws.CopyOwn
import Derived.Deep.CutRange
import Derived.BigRegion
import Derived.Lib.IndexBytes
import Derived.Deep.LoopGhost
import Derived.Test.YtagjhmodblifbaaGreatDoorB00
import Derived.Test.YtagjhmodblifbaaGreatDoorB01
import Derived.Test.YtagjhmodblifbaaGreatDoorB02
import Derived.Test.YtagjhmodblifbaaGreatDoorB03
import Derived.Test.YtagjhmodblifbaaGreatDoorB04
import Derived.Test.YtagjhmodblifbaaGreatDoorB05
import Derived.Test.YtagjhmodblifbaaGreatDoorB06
import Derived.Test.YtagjhmodblifbaaGreatDoorB07
import Derived.Test.YtagjhmodblifbaaGreatDoorB08
import Derived.Test.YtagjhmodblifbaaGreatDoorB09
import Derived.Test.YtagjhmodblifbaaGreatDoorB10
import Derived.Test.YtagjhmodblifbaaGreatDoorB11
import Derived.Test.YtagjhmodblifbaaGreatDoorB12
import Derived.Test.YtagjhmodblifbaaGreatDoorB13
import Derived.Test.YtagjhmodblifbaaGreatDoorB14
import Derived.Test.YtagjhmodblifbaaGreatDoorB15
import Derived.Test.YtagjhmodblifbaaGreatDoorB16
import Derived.Test.YtagjhmodblifbaaGreatDoorB17
import Derived.Test.YtagjhmodblifbaaGreatDoorB18
import Derived.Test.YtagjhmodblifbaaGreatDoorB19
import Derived.Test.YtagjhmodblifbaaGreatDoorB20
import Derived.Test.YtagjhmodblifbaaGreatDoorB21
set_option maxHeartbeats 4000000
set_option maxRecDepth 100000
set_option exponentiation.threshold 100000
namespace Go.Proofs.YtagjhmodblifbaaGreatDoor
open Go.Proofs.Tryz
open Go Go.RowKit Go.Shelf
theorem Rx {W:World}{b:Nat}{t:TypeId}{c d f a:Value}{l:List Value}(h:af W b t (c::d::f::a::l)):W.cell? ⟨b,3,none⟩=some a:=h.cell 3
theorem Rt {W:World}{b:Nat}{t:TypeId}{f g i a c d:Value}{l:List Value}(h:af W b t (f::g::i::a::c::d::l)):W.cell? ⟨b,3,none⟩=some a∧W.cell? ⟨b,4,none⟩=some c∧W.cell? ⟨b,5,none⟩=some d:=⟨h.cell 3,h.cell 4,h.cell 5⟩
theorem Ow (s t:Value)(i j:Int)(w:World)(ha:ak w s i)(z:ak w t j)(L:Nat)(D:L≤100000)(hi:i.natAbs<aj^L)(n:j.natAbs<aj^L) :
 CB 68 #[s,t] w fun e _=>e=.returned (vI (dS i j)):=by
 obtain ⟨na,G,b,rfl,g,k,o,rfl⟩:=ha;obtain ⟨nb,H,c,rfl,h,d,p,rfl⟩:=z;rw [bM] at hi n;have la:=aA k hi;have lb:=aA d n;clear hi n;obtain ⟨u,x,rfl,q,C⟩:=g.form;obtain ⟨v,y,rfl,r,A⟩:=h.form;have a:=(dJ w (.cells #[.bool na,.slice u b.length x] 24)).alloc (by simp) (.cells #[.bool nb,.slice v c.length y] 24)
 have l:=tL _ _ b c _ (g.below a) (h.below a) k d (by omega);have m:=tL _ _ c b _ (h.below a) (g.below a) d k (by omega);have E:=dn k;have F:=dn d
 cases na <;> cases nb
 ·have e:dS (bX false (val b)) (bX false (val c))=dS (val b:Int) (val c:Int):=by simp [bX]
  rw [e];clear e m;go_enter func68,ntmps68
  go_wp2_with (go_at_call 138;refine l.mono ?_;rintro e B ⟨f,rfl⟩)
  go_ret;exact ⟨a.trans (f.mono a.size),rfl⟩
 ·have e:dS (bX false (val b)) (bX true (val c))=1:=by
   have:0<c.length:=by simpa using p
   unfold dS bX;rw [if_neg (by simp <;> omega),if_pos (by simp <;> omega)]
  rw [e];clear e l m;go_enter func68,ntmps68;go_wp2;go_ret;exact ⟨a,rfl⟩
 ·have e:dS (bX true (val b)) (bX false (val c))=-1:=by
   have:0<b.length:=by simpa using o
   unfold dS bX;rw [if_pos (by simp <;> omega)]
  rw [e];clear e l m;go_enter func68,ntmps68;go_wp2;go_ret;exact ⟨a,rfl⟩
 ·have e:dS (bX true (val b)) (bX true (val c))=dS (val c:Int) (val b:Int):=pW (by simp [bX] <;> omega) (by simp [bX] <;> omega)
  rw [e];clear e l;go_enter func68,ntmps68
  go_wp2_with (go_at_call 138;refine m.mono ?_;rintro e B ⟨f,rfl⟩)
  go_ret;exact ⟨a.trans (f.mono a.size),rfl⟩
theorem zb (a:Value)(i:Int)(w:World)(ha:ak w a i) :
 CB 65 #[a] w fun e r=>∃ v,e=.returned v∧ak r v (-i):=by
 obtain ⟨na,u,b,rfl,j,m,l,rfl⟩:=ha;obtain ⟨d,f,rfl,o,s⟩:=j.form;have c:=dJ w (.cells #[.bool na,.slice d b.length f] 24)
 have g:∀ n:Bool,n=(!na&&decide (0<b.length))→ak w (vN n d b.length f) (-(bX na (val b))):=fun n q=>by
  subst q;have t:=dn m;refine ⟨_,_,b,rfl,j,m,by simp,?_⟩
  by_cases h0:0<b.length
  ·cases na <;> simp [bX,h0]
  ·have:val b=0:=by omega
   cases na <;> simp [bX,h0,this]
 have k:=Qa g;clear g l
 cases na with
 | true =>
  have h:=k.out false (by simp);go_enter func65,ntmps65;go_wp2;exact bodyPost_ret (v:=vN false d b.length f) (by simp [results,results65,go_sem,loadCellsFrom]) rfl ⟨c.alloc c.size _,_,rfl,h.below ((Qj _ _).trans (c.alloc c.size _))⟩
 | false =>
  by_cases h0:0<b.length
  ·have h:=k.out true (by simp [h0])
   have p:decide ((0:Int)<(b.length:Int))=true:=decide_eq_true (by omega);go_enter func65,ntmps65;go_wp2;exact bodyPost_ret (v:=vN true d b.length f) (by simp [results,results65,go_sem,loadCellsFrom]) rfl ⟨c.alloc c.size _,_,rfl,h.below ((Qj _ _).trans (c.alloc c.size _))⟩
  ·have h:=k.out false (by simp [h0])
   have p:decide ((0:Int)<(b.length:Int))=false:=decide_eq_false (by omega);go_enter func65,ntmps65;go_wp2;exact bodyPost_ret (v:=vN false d b.length f) (by simp [results,results65,go_sem,loadCellsFrom]) rfl ⟨c.alloc c.size _,_,rfl,h.below ((Qj _ _).trans (c.alloc c.size _))⟩
theorem qa (n:Nat)(b:n≤3000):((10^n:Nat):Int).natAbs<aj^400:=by
 rw [QQ];have h1:10^n≤16^n:=QU (by decide) n
 have a:(16:Nat)^n=2^(4*n):=by rw [Jz]
 rw [gX];exact Qr h1 (by rw [a];exact JV (by decide) (by omega))
structure Pm (w w1:World) (n1:Bool) (a1:Option Addr) (m1 c1:Nat) (X:World):Prop where
 rr:af X w.heap.size 24 (lN false none 0 0)
 ro:af X w1.heap.size 24 (lN n1 a1 m1 c1)
 below:bW w X
 lt:w.heap.size<w1.heap.size
section
variable {w w1 X X':World} {n1:Bool} {a1:Option Addr} {m1 c1:Nat}
theorem Pm.step (h:Pm w w1 n1 a1 m1 c1 X)(a:bW X X'):Pm w w1 n1 a1 m1 c1 X':=⟨h.rr.below a,h.ro.below a,h.below.trans (a.mono h.below.size),h.lt⟩
theorem Pm.set (h:Pm w w1 n1 a1 m1 c1 X)(n:Bool)(a:Option Addr)(m c:Nat):Pm w w1 n a m c ((X.setCell ⟨w1.heap.size,0,none⟩ (.bool n)).setCell ⟨w1.heap.size,1,none⟩ (.slice a m c)):=by
 have b:=h.lt;exact ⟨(h.rr.other (show w.heap.size≠w1.heap.size by omega) _).other (show w.heap.size≠w1.heap.size by omega) _,(h.ro.set 0 (.bool n)).set 1 (.slice a m c),(h.below.setCell (show w.heap.size≤w1.heap.size by omega) _).setCell (show w.heap.size≤w1.heap.size by omega) _,h.lt⟩
end
def Rv (w w1:World)(n:Nat)(v:Value)(W:World):Prop:=∃ k n1 a1 m1 c1,k≤n∧v=vI k∧Pm w w1 n1 a1 m1 c1 W∧ak W (vN n1 a1 m1 c1) ((10^k:Nat):Int)
theorem za (n:Nat)(w:World)(t:n≤3000) :
 CB 64 #[vI n] w fun e w'=>∃ v,e=.returned v∧ak w' v ((10^n:Nat):Int):=by
 have z:=dJ w (.cells #[vF,vZ] 24);have R:=af.new w 24 (lN false none 0 0)
 have u:=fun X=>Au 1 X (by decide) (by decide)
 go_enter func64,ntmps64
 go_wp2_with (go_at_call 66;refine (u _).mono ?_;rintro e w1 ⟨d,v1,rfl,A⟩;obtain ⟨r,m,m1,o,rfl⟩:=A.shape)
 have j:=dJ w1 (.cells #[.bool r,.slice m m1 o] 24);have C:=d.trans (j.mono d.size)
 have q:Rv w w1 n (vI 0) (w1.alloc (.cells #[.bool r,.slice m m1 o] 24)):=⟨0,r,m,m1,o,QF _,rfl,⟨R.below C,af.new w1 24 (lN r m m1 o),z.trans (C.mono z.size),by have:=d.size;simp at this;omega⟩,by rw [ZO];exact A.below j⟩
 have J:=Qa q;clear q C j A d R z u;generalize w1.alloc (.cells #[.bool r,.slice m m1 o] 24)=W1 at *
 go_loopw [4] (fun v W=>Rv w w1 n v W) (fun v _=>n - (intOf v).toNat)
 case atStart=>exact J.out
 case round =>
  clear J;obtain ⟨k,n2,a2,m2,c2,s,rfl,a,l⟩:=hrel
  by_cases c:k<n
  ·have u:=fun X=>Au 10 X (by decide) (by decide)
   have hmul:((10^k:Nat):Int)*10=((10^(k+1):Nat):Int):=by rw [Qo,Jy];rfl
   have N:=fun X v S (E:ak X v ((10^k:Nat):Int)) (F:ak X S 10)=>yl v S _ _ X E F (az (qa k (by omega)) (by decide)) (show (10:Int).natAbs<aj^90000 from Qf (show 10<aj^1 by decide) (Ql aP (by decide)))
   rw [hmul] at N;have Y:decide ((k:Int)<(n:Int))=true:=decide_eq_true (by omega);have e2:decide (k<n)=true:=decide_eq_true c;replace a:=a.step ((Qj _ _).drew:bW wr wr.drew);replace l:=l.below ((Qj _ _).drew:bW wr wr.drew);have g:=a.ro.cell 0;have i:=a.ro.cell 1;have x:=a.ro.frozen 0;have y:=a.ro.frozen 1;simp only [Qc,Qe] at g i;have T:=Qa (And.intro c (And.intro s t))
   clear hmul c s t
   go_wp2_with fail
   go_region_with
    (first
     | (go_at_call 66;with_reducible refine (u _).mono ?_;rintro e wk ⟨f,vO,rfl,B⟩;replace a:=a.step f;clear g i x y;have g:=a.ro.cell 0;have i:=a.ro.cell 1;have x:=a.ro.frozen 0;have y:=a.ro.frozen 1;simp only [Qc,Qe] at g i;replace l:=l.below f)
     | (go_at_call 63;with_reducible refine (N _ _ _ l B).mono ?_;rintro e wk ⟨f,vS,rfl,p⟩;obtain ⟨Q,L,O,M,rfl⟩:=p.shape;replace a:=a.step f;clear g i x y;have g:=a.ro.cell 0;have i:=a.ro.cell 1;have x:=a.ro.frozen 0;have y:=a.ro.frozen 1;simp only [Qc,Qe] at g i))
   all_goals
    obtain ⟨c,s,t⟩:=T.out
    go_wp2_with fail
    go_roundw
    case rel=>exact ⟨k+1,Q,L,O,M,c,rfl,a.set Q L O M,p.keep fun _ _ E=>bf E g i _ _⟩
    case measure =>
     simp only [intOf];omega
  ·obtain rfl:k=n:=by omega
   have Y:decide ((k:Int)<(k:Int))=false:=decide_eq_false (by omega);have U:=a.ro.cell 0;have V:=a.ro.cell 1;have H:=a.rr.cell 0;have I:=a.rr.cell 1;have s3:=a.rr.frozen 0;have s4:=a.rr.frozen 1;simp only [Qc,Qe] at H I U V;have Z:=a.below
   have D:=fun v xs h=>bf (v:=v) (xs:=xs) (b:=w.heap.size) h H I (.bool n2) (.slice a2 m2 c2)
   have G:=l.keep D;obtain ⟨u1,u2⟩:=bA (b:=w.heap.size) H I (.bool n2) (.slice a2 m2 c2);clear s c l a t
   go_wp2_with fail
   exact bodyPost_ret (v:=vN n2 a2 m2 c2) (by simp [results,results64,go_sem,loadCellsFrom,u1,u2]) rfl ⟨(Z.setCell (Qb _) _).setCell (Qb _) _,_,rfl,G⟩
theorem PQ (v:Value)(i:Int)(w:World)(h:ak w v i) :
 CB 126 #[v] w fun e _=>e=.returned (.bool (decide (i % 2=1))):=by
 obtain ⟨neg,u,xs,rfl,hr,j,m,rfl⟩:=h;obtain ⟨a,c,rfl,k,l⟩:=hr.form;have d:=dJ w (.cells #[.bool neg,.slice a xs.length c] 24)
 have b:decide (bX neg (val xs) % 2=1)=decide (xs[0]?.getD 0 % 2=1):=by
  rw [← LW j.1]
  by_cases h:val xs % 2=1
  ·rw [decide_eq_true h,decide_eq_true ((Fs neg _).2 h)]
  ·rw [decide_eq_false h,decide_eq_false (fun g=>h ((Fs neg _).1 g))]
 rw [b]
 by_cases h0:xs.length=0
 ·have n:decide ((0:Int)<(xs.length:Int))=false:=decide_eq_false (by omega)
  have o:decide (0<xs.length)=false:=decide_eq_false (by omega);rw [Jm (by omega)];clear b hr j m k l h0;go_enter func126,ntmps126;go_wp2;go_ret;exact ⟨d,rfl⟩
 ·have n:decide ((0:Int)<(xs.length:Int))=true:=decide_eq_true (by omega)
  have o:decide (0<xs.length)=true:=decide_eq_true (by omega)
  have p:=fun W=>(hr.below d).index aG bZ (P:=prog) 0 .i64 W (by omega)
  have r:=(hr.below d).cell 0 (by omega);simp only [Xp] at p;generalize xs[0]?.getD 0=x at *
  obtain ⟨t,f⟩:∃ t:Bool,decide (x % 2=1)=t:=⟨_,rfl⟩
  have s:((x:Int) % 2 == 1)=t:=by
   rw [← f]
   by_cases h:x % 2=1
   ·rw [decide_eq_true h];simp;omega
   ·rw [decide_eq_false h];simp;omega
  rw [f];have q:=Qa f;clear b hr j m k l h0 f;go_enter func126,ntmps126;go_wp2;go_ret;exact ⟨d,rfl⟩
structure La (w w1:World) (b:Nat) (t:TypeId) (cs:List Value) (X:World):Prop where
 r:af X b t cs
 below:bW w X
 more:bW w1 X
section
variable {w w1 X X':World} {b:Nat} {t:TypeId} {cs:List Value}
theorem Ob (h:La w w1 b t cs X)(a:bW X X'):La w w1 b t cs X':=⟨h.r.below a,h.below.trans (a.mono h.below.size),h.more.trans (a.mono h.more.size)⟩
theorem Px (h:La w w1 b t cs X):La w w1 b t cs X.drew:=⟨h.r,h.below.drew,h.more.drew⟩
theorem Py (h:La w w1 b t cs X){B:Nat}(i:b<w1.heap.size)(j:w.heap.size≤b)(a:w1.heap.size≤B)(c d f g:Value):La w w1 b t cs ((((X.setCell ⟨B,0,none⟩ c).setCell ⟨B,1,none⟩ d).setCell ⟨B,2,none⟩ f).setCell ⟨B,3,none⟩ g) :=
 ⟨(((h.r.other (show b≠B by omega) _).other (show b≠B by omega) _).other (show b≠B by omega) _).other (show b≠B by omega) _,(((h.below.setCell (show w.heap.size≤B by omega) _).setCell (show w.heap.size≤B by omega) _).setCell (show w.heap.size≤B by omega) _).setCell (show w.heap.size≤B by omega) _,(((h.more.setCell a _).setCell a _).setCell a _).setCell a _⟩
end
theorem Lb {w w1 X:World}{b:Nat}{t:TypeId}{k n:Value}{neg:Bool}{a:Option Addr}{m c:Nat}{x y:Value}(h:La w w1 b t [k,n,.bool neg,.slice a m c,x,y] X):X.cell? ⟨b,2,none⟩=some (.bool neg)∧X.cell? ⟨b,3,none⟩=some (.slice a m c)∧La w w1 b t [k,n,.bool neg,.slice a m c,x,y] X:=⟨h.r.cell 2,h.r.cell 3,h⟩
theorem Pt (v:Value)(kind n:Int)(neg:Bool)(xs:List Nat)(s:ByteArray)(l:Nat)(w:World)(h:ValAt w v kind n neg xs s l) :
 CB 20 #[v] w fun e _=>e=.returned (.bool (oW kind n neg xs s l)):=by
 obtain ⟨va,la,lc,rfl,hr,d⟩:=h;obtain ⟨a,c,rfl,hc,hm⟩:=hr.form
 have u:=fun X (r:bW w X)=>Ce (vN neg a xs.length c) neg xs X ⟨_,rfl,hr.below r,d⟩
 have o:=dJ w (.cells #[vI kind,vI n,.bool neg,.slice a xs.length c,.string s,.slice la l lc] 27);have q:=af.new w 27 (lV kind n neg a xs.length c s la l lc);generalize L:w.alloc (.cells #[vI kind,vI n,.bool neg,.slice a xs.length c,.string s,.slice la l lc] 27)=W1 at *;have HW:=Qa L;clear L;obtain ⟨Q,d1,R,S,d4,d5⟩:=aD q
 obtain ⟨t,Z⟩:∃ t:Bool,(decide (kind=3)&&(decide (s=⟨#[]⟩)&&(decide (l=0)&&(decide (1≤n)&&decide (n≤20)))))=t:=⟨_,rfl⟩
 have N:=Qa Z;have y:=Qa (And.intro hr (And.intro d q));go_enter func20,ntmps20
 go_upto_region 1 with (fail)
 rw [HW.out];clear hr d hc hm q HW u
 go_cut [27] from 4 to 27 (fun v W=>v=.bool (!t)∧W1=W)
 case first =>
  subst Z;clear N y o
  by_cases h1:kind=3
  ·by_cases U:s=⟨#[]⟩
   ·subst h1
    subst U
    by_cases h3:l=0
    ·subst h3
     rcases ZR n 1 with h4 | h4
     ·have p:decide (n<1)=true:=decide_eq_true h4
      go_wp2
      go_meet
      exact ⟨by simp;omega,rfl⟩
     ·have p:decide (n<1)=false:=decide_eq_false (by omega)
      rcases ZR 20 n with h5 | h5
      ·have B:decide (20<n)=true:=decide_eq_true h5
       go_wp2
       go_meet
       exact ⟨by simp;omega,rfl⟩
      ·have B:decide (20<n)=false:=decide_eq_false (by omega)
       go_wp2
       go_meet
       exact ⟨by simp;omega,rfl⟩
    ·have p:decide ((0:Int)<(l:Int))=true:=decide_eq_true (by omega)
     have B:decide (0<l)=true:=decide_eq_true (by omega);go_wp2
     go_meet
     exact ⟨by simp [h3],rfl⟩
   ·have p:=Cy U
    subst h1;go_wp2
    go_meet
    exact ⟨by simp [U],rfl⟩
  ·have p:(kind == 3)=false:=by simp [h1]
   go_wp2
   go_meet
   exact ⟨by simp [h1],rfl⟩
 case rest =>
  have b:oW kind n neg xs s l=(t&&(au neg xs&&(decide (xs.length≤40)&&(decide (n=1) || decide (val xs % 10≠0))))):=by
   rw [← N.out];unfold oW;simp only [Bool.and_assoc]
  clear N Z;obtain ⟨rfl,rfl⟩:=hcut
  cases t with
  | false =>
   clear y
   go_wp2_with fail
   go_ret;exact ⟨o,by rw [b];rfl⟩
  | true =>
   obtain ⟨hr,d,q⟩:=y.out
   have u:=fun X (r:bW w X)=>Ce (vN neg a xs.length c) neg xs X ⟨_,rfl,hr.below r,d⟩
   rw [Jn] at b
   cases hf:au neg xs with
   | false =>
    rw [hf] at u b;clear hf hr d q y
    go_wp2_with (go_at_call 69;with_reducible refine (u _ o).mono ?_;rintro e m ⟨i,rfl⟩)
    go_ret;exact ⟨o.trans (i.mono o.size),by rw [b];rfl⟩
   | true =>
    rw [hf,Jn] at b;rw [hf] at u
    by_cases g:xs.length≤40
    ·rw [decide_eq_true g,Jn] at b
     have p:decide ((40:Int)<(xs.length:Int))=false:=decide_eq_false (by omega);have B:decide (40<xs.length)=false:=decide_eq_false (by omega)
     have hI:∀ X,bW w X→ak X (vN neg a xs.length c) (bX neg (val xs)):=fun X r=>dx.isInt ⟨_,rfl,hr.below r,d⟩ hf
     have H:(bX neg (val xs)).natAbs<aj^80000:=by
      rw [bM];exact Qf ((bS (lJ d hf).1 40).1 g) (Ql aP (by decide))
     have M:=Qa (And.intro H (And.intro hI (And.intro g hf)));clear H hI g hf hr d y
     go_upto_region 5 with (go_at_call 69;with_reducible refine (u _ o).mono ?_;rintro e m ⟨i,rfl⟩;have T:=(q.below i).cell 3;simp only [Qc,Qe] at T)
     have O:=o.trans (i.mono o.size);have z:=q.below i;clear Q d1 R S d4 d5 q o i u p B;have Q:=Dk z
     by_cases k:n=1
     ·have p:(n == 1)=true:=by simp [k]
      rw [decide_eq_true k,Bool.true_or] at b;subst k
      go_wp2_with fail
      go_ret;exact ⟨O,by rw [b];rfl⟩
     ·have p:(n == 1)=false:=by simp [k]
      rw [decide_eq_false k,Bool.false_or] at b
      go_upto_region 7 with (fail)
      have hL:La w m w.heap.size 27 (lV kind n neg a xs.length c s la l lc) m:=⟨z,O,Qj _ _⟩
      have hD:=Qa (Lb (Px hL));have hl:=Qa (show w.heap.size<m.heap.size from z.lt)
      have kO:=fun X=>Au 10 X (by decide) (by decide)
      have kV:=fun X v (r:La w m w.heap.size 27 (lV kind n neg a xs.length c s la l lc) X) (hv:ak X v 10)=>Cx _ v (bX neg (val xs)) 10 X (M.out.2.1 X r.below) hv M.out.1 (show (10:Int).natAbs<aj^80000 from Qf (show 10<aj^1 by decide) (Ql aP (by decide))) (by decide)
      have J:m.heap.size≤m.drew.heap.size:=Qb _;obtain ⟨R,S,-⟩:=Lb hL;have A:=Qa b;clear z Q p k b O T
      go_cut [3] from 42 to 45 (fun v W=>Hy W v ((bX neg (val xs)).fdiv 10) ((bX neg (val xs)).fmod 10)∧La w m w.heap.size 27 (lV kind n neg a xs.length c s la l lc) W)
      case first =>
       go_region_held3 (fun X=>X.cell? ⟨w.heap.size,2,none⟩=some (.bool neg)∧X.cell? ⟨w.heap.size,3,none⟩=some (.slice a xs.length c)∧La w m w.heap.size 27 (lV kind n neg a xs.length c s la l lc) X)
        (first | with_reducible exact hD.out | (go_split_ands;with_reducible exact Lb (Ob (by assumption) j)) | (go_split_ands;with_reducible exact Lb (Ob (by assumption) (dJ _ _))) | (go_split_ands;with_reducible exact Lb (Py (by assumption) hl.out (Qb _) x _ _ _ _)))
        (first
         | (go_at_call 66;go_split_ands;with_reducible refine (kO _).mono ?_;rintro e wk ⟨j,vO,rfl,E⟩;have Y:=Qd (La.more (by assumption)).size j.size;first | (with_reducible have I:=Fp (w1:=m) (vals:=[vF,vZ,vF,vZ]) (by first | assumption | exact Qb _) j;obtain ⟨x,f⟩:=I) | (with_reducible have I:=Kg (w1:=m) (vals:=[vF,vZ,vF,vZ]) (Qb _) j;obtain ⟨x,f⟩:=I) | skip)
         | (go_at_call 77;go_split_ands;(first | with_reducible refine (kV _ _ (by assumption) E).mono ?_ | with_reducible refine (kV _ _ (by assumption) (E.below (dJ _ _))).mono ?_);rintro e wk ⟨j,n5,a5,m5,c5,n6,a6,m6,c6,rfl,C,D⟩;have a1:=Ob (by assumption) j;have Y:=Qd (La.more (by assumption)).size j.size;first | (replace f:=f.below j;have z1:=f.cell 0;have z2:=f.cell 1;have z3:=f.cell 2;have z4:=f.cell 3;have z5:=f.frozen 0;have z6:=f.frozen 1;have z7:=f.frozen 2;have z8:=f.frozen 3;simp only [Qc,Qe] at z1 z2 z3 z4) | (with_reducible have I:=Fp (w1:=m) (vals:=[vF,vZ,vF,vZ]) (by first | assumption | exact Qb _) j;obtain ⟨x,f⟩:=I;have z1:=f.cell 0;have z2:=f.cell 1;have z3:=f.cell 2;have z4:=f.cell 3;have z5:=f.frozen 0;have z6:=f.frozen 1;have z7:=f.frozen 2;have z8:=f.frozen 3;simp only [Qc,Qe] at z1 z2 z3 z4) | skip))
       all_goals
        rename_i r;obtain ⟨-,-,O1⟩:=r;go_wp2
        go_meet
        first
         | exact ⟨Kh f C D,O1⟩
         | exact ⟨Hy.new C D,O1⟩
      case rest =>
       obtain ⟨⟨b9,n5,a5,m5,c5,n6,a6,m6,c6,rfl,r9,-,i9⟩,F⟩:=hcut;generalize wc=w4 at *;obtain ⟨g3,g4⟩:=BD r9;have kZ:=Gt _ _ w4 i9;have G:=F.below;clear hD hl kO kV J R S F r9 i9 M
       go_wp2_with (go_at_call 78;with_reducible refine kZ.mono ?_;rintro e w5 ⟨V,rfl⟩)
       go_ret;refine ⟨G.trans (V.mono G.size),?_⟩;rw [A.out]
       congr 2
       have:=uR neg (val xs)
       by_cases h0:val xs % 10=0
       ·rw [decide_eq_true (this.2 h0)];simp [h0]
       ·rw [decide_eq_false (fun h=>h0 (this.1 h))];simp [h0]
    ·have p:decide ((40:Int)<(xs.length:Int))=true:=decide_eq_true (by omega)
     have B:decide (40<xs.length)=true:=decide_eq_true (by omega);rw [decide_eq_false g,ZP] at b;have a0:=q;clear hf hr d q y g
     go_wp2_with (go_at_call 69;with_reducible refine (u _ o).mono ?_;rintro e m ⟨i,rfl⟩;have z:=a0.below i;have T:=Rx z)
     go_ret;exact ⟨o.trans (i.mono o.size),by rw [b];rfl⟩
end Go.Proofs.YtagjhmodblifbaaGreatDoor
namespace Go.Proofs.YtagjhmodblifbaaGreatDoor
open Go.Proofs.Tryz
theorem Po (n d c:Int)(f:0<c):(n*c).fdiv (d*c)=n.fdiv d∧(n*c).fmod (d*c)=n.fmod d*c:=by
 by_cases g:d=0
 ·subst g
  simp
 ·have h1:=Int.mul_fdiv_add_fmod n d
  have b:(n*c).fdiv (d*c)=n.fdiv d:=by
   rw [Yd n c,Yd d c]
   rcases Xn g with h | h
   ·have i:(c*n).fdiv (c*d)=(-(c*n)).fdiv (-(c*d)):=(YW _ _).symm
    have j:n.fdiv d=(-n).fdiv (-d):=(YW _ _).symm;rw [i,j,← Zf,← Zf]
    have a:0< -d:=by omega
    rw [Zq _ (Zy (Int.mul_pos f a)),Zq _ (Zy a)];exact Int.mul_ediv_mul_of_pos _ _ f
   ·rw [Zq _ (Zy (Int.mul_pos f h)),Zq _ (Zy h)]
    exact Int.mul_ediv_mul_of_pos _ _ f
  refine ⟨b,?_⟩;have k:=Int.mul_fdiv_add_fmod (n*c) (d*c);rw [b] at k
  have l:n*c=d*c*n.fdiv d+n.fmod d*c:=by
   conv=>lhs;rw [← h1]
   rw [Int.add_mul,Zx]
  omega
theorem Pp (n d c:Int)(i:0<c):near (n*c) (d*c)=near n d:=by
 obtain ⟨h1,g⟩:=Po n d c i;unfold near;rw [h1,g,Zl,Zl]
 have a:0<c.natAbs:=by omega
 have b:d.natAbs*c.natAbs<2*((n.fmod d).natAbs*c.natAbs)↔d.natAbs<2*(n.fmod d).natAbs:=by
  rw [← Qn];exact Nat.mul_lt_mul_right a
 have f:2*((n.fmod d).natAbs*c.natAbs)=d.natAbs*c.natAbs↔2*(n.fmod d).natAbs=d.natAbs:=by
  rw [← Qn];exact ⟨fun h=>Nat.eq_of_mul_eq_mul_right a h,fun h=>by rw [h]⟩
 simp only [b,f]
end Go.Proofs.YtagjhmodblifbaaGreatDoor
namespace Go.Proofs.YtagjhmodblifbaaGreatDoor
open Go.Proofs.Tryz
open Go Go.RowKit Go.Shelf
structure PL (w w1:World) (k p:Int) (n:Bool) (a:Option Addr) (m c:Nat) (x y:Value) (X:World):Prop where
 ra:af X w.heap.size 27 [vI k,vI p,.bool n,.slice a m c,x,y]
 res:∃ r0 r1 r2 r3,af X (w.heap.size+1) 24 (lN r0 r1 r2 r3)
 below:bW w X
 more:∀ v xs,Reads .u32 w1 v xs→Reads .u32 X v xs
@[reducible] def Rz (w w1:World) (k p:Int) (n:Bool) (a:Option Addr) (m c:Nat) (x y:Value) (X:World):Prop:=X.cell? ⟨w.heap.size,1,none⟩=some (vI p)∧X.cell? ⟨w.heap.size,2,none⟩=some (.bool n)∧X.cell? ⟨w.heap.size,3,none⟩=some (.slice a m c)∧PL w w1 k p n a m c x y X
section
variable {w w1 X X':World} {k p:Int} {n:Bool} {a:Option Addr} {m c:Nat} {x y:Value}
theorem Ps (h:PL w w1 k p n a m c x y X):Rz w w1 k p n a m c x y X:=⟨h.ra.cell 1,h.ra.cell 2,h.ra.cell 3,h⟩
theorem Rp (h:PL w w1 k p n a m c x y X):PL w w1 k p n a m c x y X.drew:=⟨h.ra,h.res,h.below.drew,fun v xs b=>h.more v xs b⟩
theorem Pv (h:PL w w1 k p n a m c x y X)(b:bW X X'):PL w w1 k p n a m c x y X' :=
 ⟨h.ra.below b,(by obtain ⟨r0,r1,r2,r3,hr⟩:=h.res;exact ⟨r0,r1,r2,r3,hr.below b⟩),h.below.trans (b.mono h.below.size),fun v xs d=>(h.more v xs d).below b⟩
theorem PR (h:PL w w1 k p n a m c x y X)(g:Bool)(b:Option Addr)(i j:Nat):PL w w1 k p n a m c x y ((X.setCell ⟨w.heap.size+1,0,none⟩ (.bool g)).setCell ⟨w.heap.size+1,1,none⟩ (.slice b i j)) :=
 ⟨(h.ra.other (show w.heap.size≠w.heap.size+1 by omega) _).other (show w.heap.size≠w.heap.size+1 by omega) _,(by obtain ⟨r0,r1,r2,r3,hr⟩:=h.res;exact ⟨g,b,i,j,(hr.set 0 (.bool g)).set 1 (.slice b i j)⟩),(h.below.setCell (show w.heap.size≤w.heap.size+1 by omega) _).setCell (show w.heap.size≤w.heap.size+1 by omega) _,fun v xs d=>by obtain ⟨r0,r1,r2,r3,hr⟩:=h.res;exact bf (b:=w.heap.size+1) (h.more v xs d) (hr.cell 0) (hr.cell 1) _ _⟩
theorem PS (h:PL w w1 k p n a m c x y X):∃ r0 r1 r2 r3,X.cell? ⟨w.heap.size+1,0,none⟩=some (.bool r0)∧X.cell? ⟨w.heap.size+1,1,none⟩=some (.slice r1 r2 r3)∧X.frozen? ⟨w.heap.size+1,0,none⟩=false∧X.frozen? ⟨w.heap.size+1,1,none⟩=false:=by
 obtain ⟨r0,r1,r2,r3,hr⟩:=h.res;exact ⟨r0,r1,r2,r3,hr.cell 0,hr.cell 1,hr.frozen 0,hr.frozen 1⟩
end
theorem kE (v:Value)(i:Int)(p:Nat)(w:World)(h:dX w v i p)(hp:p≤20)(hi:i.natAbs<aj^80000) :
 CB 92 #[v] w fun e U=>∃ g,e=.returned g∧ak U g (i*((10^(20 - p):Nat):Int)):=by
 obtain ⟨n,a,m,c,la,lc,rfl,D⟩:=h
 obtain ⟨k,G⟩:∃ k,20 - p=k:=⟨_,rfl⟩
 have R:(20:Int) - (p:Int)=(k:Int):=by omega
 have H:k≤20:=by omega
 have l:=dJ w (.cells #[vI 3,vI p,.bool n,.slice a m c,vE,.slice la 0 lc] 27);have o:=l.alloc l.size (.cells #[vF,vZ] 24);have L:=(af.new w 27 (lV 3 p n a m c ⟨#[]⟩ la 0 lc)).alloc (.cells #[vF,vZ] 24);have A:=af.new (w.alloc (.cells #[vI 3,vI p,.bool n,.slice a m c,vE,.slice la 0 lc] 27)) 24 (lN false none 0 0);simp only [Qh] at A;have r:=D.below o
 generalize F:(w.alloc (.cells #[vI 3,vI p,.bool n,.slice a m c,vE,.slice la 0 lc] 27)).alloc (.cells #[vF,vZ] 24)=W0 at *;have B:=Qa F
 have t:PL w W0 3 (p:Int) n a m c vE (.slice la 0 lc) W0:=⟨L,⟨_,_,_,_,A⟩,o,fun _ _ h=>h⟩
 have C:=Qa (Ps (Rp t));obtain ⟨Y,Z,d3,-⟩:=Ps t
 have J:=fun X=>za k X (by omega)
 have I:=fun X g (f:PL w W0 3 (p:Int) n a m c vE (.slice la 0 lc) X) (u:ak X g ((10^k:Nat):Int))=>yl _ g i ((10^k:Nat):Int) X (r.keep f.more) u (az hi (by decide)) (az (qa k (by omega)) (by decide))
 clear D t L A l o F hi;rw [G];clear G;go_enter func92,ntmps92
 go_upto_region 1 with (fail)
 rw [B.out]
 have x:IntKind.i64.wrap (k:Int)=(k:Int):=by rw [Qx];omega
 go_region_held3 (fun X=>X.cell? ⟨w.heap.size,1,none⟩=some (vI p)∧X.cell? ⟨w.heap.size,2,none⟩=some (.bool n)∧X.cell? ⟨w.heap.size,3,none⟩=some (.slice a m c)∧PL w W0 3 (p:Int) n a m c vE (.slice la 0 lc) X)
  (first | with_reducible exact C.out | (go_split_ands;with_reducible exact Ps (Pv (by assumption) d)) | (go_split_ands;with_reducible exact Ps (PR (by assumption) _ _ _ _)))
  (first
   | (go_at_call 64;go_split_ands;with_reducible refine (J _).mono ?_;rintro e V ⟨d,v5,rfl,O⟩)
   | (go_at_call 63;go_split_ands;with_reducible refine (I _ _ (by assumption) O).mono ?_;rintro e V ⟨d,v6,rfl,E⟩;obtain ⟨z,j,y,q,rfl⟩:=E.shape;obtain ⟨u0,u1,u2,u3,M,N,y3,y4⟩:=PS (Pv (by assumption) d)))
 rename_i f;obtain ⟨-,-,-,f⟩:=f;obtain ⟨S,T⟩:=bA (b:=w.heap.size+1) M N (.bool z) (.slice j y q)
 have s:=E.keep fun v xs u=>bf (b:=w.heap.size+1) u M N (.bool z) (.slice j y q)
 have Q:=f.below;clear f C J I B x
 go_wp2_with fail
 exact bodyPost_ret (v:=vN z j y q) (by simp [results,results92,go_sem,loadCellsFrom,S,T]) rfl ⟨Q,_,rfl,s⟩
structure PN (w:World) (n1:Bool) (a1:Option Addr) (m1 c1:Nat) (n2:Bool) (a2:Option Addr) (m2 c2:Nat) (X:World):Prop where
 rn:af X w.heap.size 24 (lN n1 a1 m1 c1)
 rd:af X (w.heap.size+1) 24 (lN n2 a2 m2 c2)
 rr:af X (w.heap.size+1+1) 24 (lN false none 0 0)
 below:bW w X
section
variable {w X X':World} {n1 n2:Bool} {a1 a2:Option Addr} {m1 c1 m2 c2:Nat}
theorem PN.step (h:PN w n1 a1 m1 c1 n2 a2 m2 c2 X)(a:bW X X'):PN w n1 a1 m1 c1 n2 a2 m2 c2 X':=⟨h.rn.below a,h.rd.below a,h.rr.below a,h.below.trans (a.mono h.below.size)⟩
theorem PN.set1 (h:PN w n1 a1 m1 c1 n2 a2 m2 c2 X)(n:Bool)(a:Option Addr)(m c:Nat):PN w n a m c n2 a2 m2 c2 ((X.setCell ⟨w.heap.size,0,none⟩ (.bool n)).setCell ⟨w.heap.size,1,none⟩ (.slice a m c)) :=
 ⟨(h.rn.set 0 (.bool n)).set 1 (.slice a m c),(h.rd.other (show w.heap.size+1≠w.heap.size by omega) _).other (show w.heap.size+1≠w.heap.size by omega) _,(h.rr.other (show w.heap.size+1+1≠w.heap.size by omega) _).other (show w.heap.size+1+1≠w.heap.size by omega) _,(h.below.setCell (Qb _) _).setCell (Qb _) _⟩
theorem PN.set2 (h:PN w n1 a1 m1 c1 n2 a2 m2 c2 X)(n:Bool)(a:Option Addr)(m c:Nat):PN w n1 a1 m1 c1 n a m c ((X.setCell ⟨w.heap.size+1,0,none⟩ (.bool n)).setCell ⟨w.heap.size+1,1,none⟩ (.slice a m c)) :=
 ⟨(h.rn.other (show w.heap.size≠w.heap.size+1 by omega) _).other (show w.heap.size≠w.heap.size+1 by omega) _,(h.rd.set 0 (.bool n)).set 1 (.slice a m c),(h.rr.other (show w.heap.size+1+1≠w.heap.size+1 by omega) _).other (show w.heap.size+1+1≠w.heap.size+1 by omega) _,(h.below.setCell (show w.heap.size≤w.heap.size+1 by omega) _).setCell (show w.heap.size≤w.heap.size+1 by omega) _⟩
end
structure Pw (w w1:World) (b:Nat) (n1:Bool) (a1:Option Addr) (m1 c1:Nat) (n2:Bool) (a2:Option Addr) (m2 c2:Nat) (n3:Bool) (a3:Option Addr) (m3 c3:Nat) (n4:Bool) (a4:Option Addr) (m4 c4:Nat) (X:World):Prop where
 s:PN w n1 a1 m1 c1 n2 a2 m2 c2 X
 rx:af X b 96 [.bool n3,.slice a3 m3 c3,.bool n4,.slice a4 m4 c4]
 more:bW w1 X
section
variable {w w1 X X':World} {b:Nat} {n1 n2 n3 n4:Bool} {a1 a2 a3 a4:Option Addr} {m1 c1 m2 c2 m3 c3 m4 c4:Nat}
theorem Pn (h:Pw w w1 b n1 a1 m1 c1 n2 a2 m2 c2 n3 a3 m3 c3 n4 a4 m4 c4 X):X.cell? ⟨b,2,none⟩=some (.bool n4)∧X.cell? ⟨b,3,none⟩=some (.slice a4 m4 c4)∧X.cell? ⟨w.heap.size+1,0,none⟩=some (.bool n2)∧X.cell? ⟨w.heap.size+1,1,none⟩=some (.slice a2 m2 c2)∧Pw w w1 b n1 a1 m1 c1 n2 a2 m2 c2 n3 a3 m3 c3 n4 a4 m4 c4 X:=⟨h.rx.cell 2,h.rx.cell 3,h.s.rd.cell 0,h.s.rd.cell 1,h⟩
theorem NW (h:Pw w w1 b n1 a1 m1 c1 n2 a2 m2 c2 n3 a3 m3 c3 n4 a4 m4 c4 X)(a:bW X X'):Pw w w1 b n1 a1 m1 c1 n2 a2 m2 c2 n3 a3 m3 c3 n4 a4 m4 c4 X':=⟨h.s.step a,h.rx.below a,h.more.trans (a.mono h.more.size)⟩
theorem Pg (h:Pw w w1 b n1 a1 m1 c1 n2 a2 m2 c2 n3 a3 m3 c3 n4 a4 m4 c4 X):Pw w w1 b n1 a1 m1 c1 n2 a2 m2 c2 n3 a3 m3 c3 n4 a4 m4 c4 X.drew:=⟨⟨h.s.rn,h.s.rd,h.s.rr,h.s.below.drew⟩,h.rx,h.more.drew⟩
end
theorem Rq {r d q c:Int}{u:Bool}(f:0<d)(hr:0≤r)(a:dS (r*2) d=c)(b:decide (q % 2=1)=u) :
  (if d.natAbs<2*r.natAbs∨2*r.natAbs=d.natAbs∧q % 2=1 then q+1 else q)=if (decide (c=1) || (decide (c=0)&&u))=true then q+1 else q:=by
 have h:(d.natAbs<2*r.natAbs∨2*r.natAbs=d.natAbs∧q % 2=1)↔(decide (c=1) || (decide (c=0)&&u))=true:=by
  rw [← a,← b];unfold dS;simp only [YI,Jt,decide_eq_true_eq]
  (repeat' split) <;> omega
 simp only [h]
theorem Pz (vn vd:Value)(n d:Int)(w:World)(hn:ak w vn n)(hd:ak w vd d)(bn:n.natAbs<aj^79000)(bd:d.natAbs<aj^79000)(ar:d≠0) :
 CB 118 #[vn,vd] w fun e w'=>∃ v,e=.returned v∧ak w' v (near n d):=by
 obtain ⟨n1,a1,m1,c1,rfl⟩:=hn.shape;obtain ⟨n2,a2,m2,c2,rfl⟩:=hd.shape;have a7:=Qa (tV hd);have b1:=dJ w (.cells #[.bool n1,.slice a1 m1 c1] 24);have b2:=b1.alloc b1.size (.cells #[.bool n2,.slice a2 m2 c2] 24);have b3:=b2.alloc b2.size (.cells #[vF,vZ] 24);have q1:=((af.new w 24 (lN n1 a1 m1 c1)).alloc (.cells #[.bool n2,.slice a2 m2 c2] 24)).alloc (.cells #[vF,vZ] 24)
 have q2:=(af.new (w.alloc (.cells #[.bool n1,.slice a1 m1 c1] 24)) 24 (lN n2 a2 m2 c2)).alloc (.cells #[vF,vZ] 24);have q3:=af.new ((w.alloc (.cells #[.bool n1,.slice a1 m1 c1] 24)).alloc (.cells #[.bool n2,.slice a2 m2 c2] 24)) 24 (lN false none 0 0);simp only [Qh] at q2 q3;have p:=hn.below b3;have l:=hd.below b3
 generalize hW:((w.alloc (.cells #[.bool n1,.slice a1 m1 c1] 24)).alloc (.cells #[.bool n2,.slice a2 m2 c2] 24)).alloc (.cells #[vF,vZ] 24)=W0 at *;have HW:=Qa hW
 have M:PN w n1 a1 m1 c1 n2 a2 m2 c2 W0:=⟨q1,q2,q3,b3⟩
 have HB:=Qa (And.intro bn (And.intro bd ar));clear q1 q2 q3 b1 b2 b3 hn hd hW bn bd ar;go_enter func118,ntmps118
 go_upto_region 1 with (fail)
 rw [HW.out];clear HW;have d3:=M.rd.cell 0;simp only [Qc] at d3
 go_upto_if 8 with (fail)
 have m:=a7.out;clear a7
 go_cut [] from 9 to 12 (fun W=>∃ i g o z x y I V Q S,PN w o z x y I V Q S W∧ak W (vN o z x y) i∧ak W (vN I V Q S) g∧0<g∧near i g=near n d∧i.natAbs<aj^79000∧g.natAbs<aj^79000)
 case first =>
  cases n2 with
  | false =>
   have HD:=Qa (show ¬d<0 from of_decide_eq_false m.symm);clear m;go_wp2
   go_meet
   exact ⟨n,d,n1,a1,m1,c1,false,a2,m2,c2,M,p,l,by have:=HB.out.2.2;have:=HD.out;omega,rfl,HB.out.1,HB.out.2.1⟩
  | true =>
   have au:d<0:=of_decide_eq_true m.symm;obtain ⟨d1,d2⟩:=aQ M.rn;have kM:=zb _ _ W0 p;have HD:=Qa au;clear m au
   go_upto_region 3 with (go_at_call 65;with_reducible refine kM.mono ?_;rintro e w1 ⟨ab,v1,rfl,a9⟩;obtain ⟨o,z,x,y,rfl⟩:=a9.shape;have B:=M.step ab;have s1:=B.rn.cell 0;have s2:=B.rn.cell 1;have s3:=B.rn.frozen 0;have s4:=B.rn.frozen 1;simp only [Qc,Qe] at s1 s2)
   have ae:=fun v xs h=>bf (v:=v) (xs:=xs) (b:=w.heap.size) h s1 s2 (.bool o) (.slice z x y)
   have an:=B.set1 o z x y;have b4:=a9.keep ae;have b8:=(l.below ab).keep ae;clear s1 s2 s3 s4 B a9 ae M p l d1 d2 d3 kM ab;generalize (w1.setCell ⟨w.heap.size,0,none⟩ (.bool o)).setCell ⟨w.heap.size,1,none⟩ (.slice z x y)=W2 at *;have kM:=zb _ _ W2 b8;obtain ⟨d1,d2⟩:=aQ an.rd
   go_wp2_with (go_at_call 65;with_reducible refine kM.mono ?_;rintro e w3 ⟨ap,v3,rfl,ai⟩;obtain ⟨g3,p3,i3,j3,rfl⟩:=ai.shape;have N:=an.step ap;have s1:=N.rd.cell 0;have s2:=N.rd.cell 1;have s3:=N.rd.frozen 0;have s4:=N.rd.frozen 1;simp only [Qc,Qe] at s1 s2)
   go_meet
   have aw:=fun v xs h=>bf (v:=v) (xs:=xs) (b:=w.heap.size+1) h s1 s2 (.bool g3) (.slice p3 i3 j3)
   exact ⟨-n,-d,o,z,x,y,g3,p3,i3,j3,N.set2 g3 p3 i3 j3,(b4.below ap).keep aw,ai.keep aw,by have:=HD.out;omega,Kj n d,by rw [JU];exact HB.out.1,by rw [JU];exact HB.out.2.1⟩
 case rest =>
  clear M p l d3 HB;clear m;obtain ⟨i,g,o,z,x,y,I,V,Q,S,M,p,l,f,gG,bn,bd⟩:=hcut;generalize wc=W3 at *;have HN:=Qa gG;clear gG;have kV:=Cx _ _ i g W3 p l (az bn (by decide)) (az bd (by decide)) (by omega);obtain ⟨d1,d2⟩:=aQ M.rn;obtain ⟨d3,d4⟩:=aQ M.rd;unfold iD at kV
  go_upto_region 5 with (go_at_call 77;with_reducible refine kV.mono ?_;rintro e w4 ⟨ad,A,F,D,E,J,Z,R,T,rfl,hQ,hR⟩)
  have a5:=dJ w4 (.cells #[.bool A,.slice F D E,.bool J,.slice Z R T] 96);have hg:=ad.trans (a5.mono ad.size);have rx:=af.new w4 96 [.bool A,.slice F D E,.bool J,.slice Z R T];have ao:=M.step hg;have av:=l.below hg;have a4:=hQ.below a5;have aa:=hR.below a5;clear M p l ad a5 hg hQ hR kV d1 d2 d3 d4
  generalize w4.alloc (.cells #[.bool A,.slice F D E,.bool J,.slice Z R T] 96)=W5 at *;generalize w4.heap.size=b5 at *
  have hL:Pw w W5 b5 o z x y I V Q S A F D E J Z R T W5:=⟨ao,rx,Qj _ _⟩
  clear ao rx;have hD:=Qa (Pn (Pg hL));obtain ⟨d1,d2,d3,d4,-⟩:=Pn hL
  have a6:(i.fmod g).natAbs<aj^79000:=by
   have h1:=Int.fmod_lt_of_pos i f;have h2:=Int.fmod_nonneg_of_pos i f;exact Qr (by omega) bd
  have O:0≤i.fmod g:=Int.fmod_nonneg_of_pos i f
  have ag:(i.fdiv g).natAbs<aj^79001:=by
   refine Qr (wy i g f) ?_;rw [Qo];rw [show aj^79000*aj=aj^79000*4294967296 from rfl];generalize aj^79000=Y at *;omega
  have ax:near i g=if g.natAbs<2*(i.fmod g).natAbs∨2*(i.fmod g).natAbs=g.natAbs∧i.fdiv g % 2=1 then i.fdiv g+1 else i.fdiv g:=rfl
  rw [ax] at HN
  obtain ⟨r,hr⟩:∃ r,i.fmod g=r:=⟨_,rfl⟩
  obtain ⟨q,hq⟩:∃ q,i.fdiv g=q:=⟨_,rfl⟩
  rw [hr] at aa a6 O HN;rw [hq] at a4 ag HN;clear ax hr hq bn
  have kO:=fun X=>Au 2 X (by decide) (by decide)
  have a8:∀ k,1≤k→(2:Int).natAbs<aj^k:=fun k hk=>Qf (show 2<aj^1 by decide) (Ql aP hk)
  have kT:=fun X v (hX:Pw w W5 b5 o z x y I V Q S A F D E J Z R T X) (hv:ak X v 2)=>yl _ v r 2 X (aa.below hX.more) hv (az a6 (by decide)) (a8 90000 (by decide))
  have ay:(r*2).natAbs<aj^79001:=by
   rw [Zl,Qo];exact Ye a6 (show 2<aj by decide)
  have kC:=fun X v (hX:Pw w W5 b5 o z x y I V Q S A F D E J Z R T X) (hv:ak X v (r*2))=>Ow v _ (r*2) g X hv (av.below hX.more) 79001 (by decide) ay (az bd (by decide))
  have HH:=Qa (And.intro f (And.intro O (And.intro ag (And.intro HN a8))));clear f O ag HN a6 ay bd a8;have HQ:=Qa (fun X (hX:Pw w W5 b5 o z x y I V Q S A F D E J Z R T X)=>a4.below hX.more)
  go_cut [6] from 16 to 21 (fun v W=>v=vI (dS (r*2) g)∧Pw w W5 b5 o z x y I V Q S A F D E J Z R T W)
  case first =>
   go_wp2_with fail
   go_region_held3 (fun X=>X.cell? ⟨b5,2,none⟩=some (.bool J)∧X.cell? ⟨b5,3,none⟩=some (.slice Z R T)∧X.cell? ⟨w.heap.size+1,0,none⟩=some (.bool I)∧X.cell? ⟨w.heap.size+1,1,none⟩=some (.slice V Q S)∧Pw w W5 b5 o z x y I V Q S A F D E J Z R T X)
    (first | with_reducible exact hD.out | (go_split_ands;with_reducible exact Pn (NW (by assumption) j)))
    (first
     | (go_at_call 66;go_split_ands;with_reducible refine (kO _).mono ?_;rintro e wk ⟨j,v5,rfl,hI⟩)
     | (go_at_call 63;go_split_ands;with_reducible refine (kT _ _ (by assumption) hI).mono ?_;rintro e wk ⟨j,v6,rfl,hJ⟩)
     | (go_at_call 68;go_split_ands;with_reducible refine (kC _ _ (by assumption) hJ).mono ?_;rintro e wk ⟨j,rfl⟩))
   all_goals
    rename_i hX;obtain ⟨-,-,-,-,O1⟩:=hX;go_wp2
    go_meet
    exact ⟨rfl,O1⟩
  case rest =>
   obtain ⟨rfl,a3⟩:=hcut;generalize wc=W6 at *;have am:=a4.below a3.more;have a0:=Qa a3;clear hD hL kO kT kC d1 d2 d3 d4 av a4 aa;obtain ⟨d1,d2⟩:=aQ a3.rx;clear a3;have U:=PQ _ _ W6 am
   obtain ⟨c,hc⟩:∃ c,dS (r*2) g=c:=⟨_,rfl⟩
   obtain ⟨u,hu⟩:∃ u:Bool,decide (q % 2=1)=u:=⟨_,rfl⟩
   rw [hc];rw [hu] at U
   obtain ⟨t,ht⟩:∃ t:Bool,(decide (c=1) || (decide (c=0)&&u))=t:=⟨_,rfl⟩
   have HC:=Qa (And.intro hc (And.intro hu ht))
   have aq:c=-1∨c=0∨c=1:=by rw [← hc];unfold dS;(repeat' split) <;> simp
   clear hc hu
   go_upto_region 6 with (fail)
   go_cut [32] from 22 to 32 (fun v W=>v=.bool t∧Pw w W5 b5 o z x y I V Q S A F D E J Z R T W)
   case first =>
    have C:=HC.out.2.2
    rcases aq with rfl | rfl | rfl
    ·have et:t=false:=by rw [← C];rfl
     clear ht C HC;go_wp2
     go_meet
     exact ⟨by rw [et],a0.out⟩
    ·have et:t=u:=by rw [← C];simp
     clear ht C HC
     go_wp2_with (go_at_call 126;with_reducible refine U.mono ?_;rintro e w7 ⟨b7,rfl⟩)
     go_meet
     exact ⟨by rw [et],NW a0.out b7⟩
    ·have et:t=true:=by rw [← C];rfl
     clear ht C HC;go_wp2
     go_meet
     exact ⟨by rw [et],a0.out⟩
   case rest =>
    obtain ⟨rfl,a⟩:=hcut;generalize wc=W7 at *;clear U d1 d2 a0 am ht aq
    have b0:near n d=if t=true then q+1 else q:=by
     obtain ⟨hc,hu,ht⟩:=HC.out;obtain ⟨f,O,-,HN,-⟩:=HH.out;rw [← HN.out,← ht];exact Rq f O hc hu
    have ah:=Qa b0;clear b0 HC
    cases t with
    | false =>
     have L:=HQ.out _ a;have G:=a.s.rr.cell 0;have H:=a.s.rr.cell 1;have z3:=a.s.rr.frozen 0;have z4:=a.s.rr.frozen 1;obtain ⟨x1,x2⟩:=aQ a.rx;simp only [Qc,Qe] at G H
     go_upto_region 8 with (fail)
     have hk:=fun v xs h=>bf (v:=v) (xs:=xs) (b:=w.heap.size+1+1) h G H (.bool A) (.slice F D E)
     obtain ⟨y1,y2⟩:=bA (b:=w.heap.size+1+1) G H (.bool A) (.slice F D E);have ig:=a.s.below;clear a HQ HH
     go_wp2_with fail
     refine bodyPost_ret (v:=vN A F D E) (by simp [results,results118,go_sem,loadCellsFrom,y1,y2]) rfl ⟨(ig.setCell (show w.heap.size≤w.heap.size+1+1 by omega) _).setCell (show w.heap.size≤w.heap.size+1+1 by omega) _,_,rfl,?_⟩;rw [ah.out];exact L.keep hk
    | true =>
     replace a:=Pg a;have L:=HQ.out _ a;have G:=a.s.rr.cell 0;have H:=a.s.rr.cell 1;have z3:=a.s.rr.frozen 0;have z4:=a.s.rr.frozen 1;obtain ⟨x1,x2⟩:=aQ a.rx;simp only [Qc,Qe] at G H
     have kO:=fun X=>Au 1 X (by decide) (by decide)
     have kS:=fun X v v' (hv:ak X v q) (b9:ak X v' 1)=>xN v v' q 1 79001 X hv b9 (by decide) HH.out.2.2.1 (YY (by decide) (by decide))
     go_wp2_with fail
     go_region_with
      (first
       | (go_at_call 66;with_reducible refine (kO _).mono ?_;rintro e wk ⟨j,vO,rfl,b6⟩;replace a:=NW a j;clear G H z3 z4 x1 x2;have G:=a.s.rr.cell 0;have H:=a.s.rr.cell 1;have z3:=a.s.rr.frozen 0;have z4:=a.s.rr.frozen 1;have x1:=a.rx.cell 0;have x2:=a.rx.cell 1;simp only [Qc,Qe] at G H x1 x2;replace L:=L.below j)
       | (go_at_call 67;with_reducible refine (kS _ _ _ L b6).mono ?_;rintro e wk ⟨j,vS,rfl,al⟩;obtain ⟨g9,p9,i9,j9,rfl⟩:=al.shape;replace a:=NW a j;clear G H z3 z4 x1 x2;have G:=a.s.rr.cell 0;have H:=a.s.rr.cell 1;have z3:=a.s.rr.frozen 0;have z4:=a.s.rr.frozen 1;have x1:=a.rx.cell 0;have x2:=a.rx.cell 1;simp only [Qc,Qe] at G H x1 x2))
     all_goals
      have hk:=fun v xs h=>bf (v:=v) (xs:=xs) (b:=w.heap.size+1+1) h G H (.bool g9) (.slice p9 i9 j9)
      obtain ⟨y1,y2⟩:=bA (b:=w.heap.size+1+1) G H (.bool g9) (.slice p9 i9 j9);have ig:=a.s.below;clear a HQ HH
      go_wp2_with fail
      refine bodyPost_ret (v:=vN g9 p9 i9 j9) (by simp [results,results118,go_sem,loadCellsFrom,y1,y2]) rfl ⟨(ig.setCell (show w.heap.size≤w.heap.size+1+1 by omega) _).setCell (show w.heap.size≤w.heap.size+1+1 by omega) _,_,rfl,?_⟩;rw [ah.out];exact al.keep hk
end Go.Proofs.YtagjhmodblifbaaGreatDoor
