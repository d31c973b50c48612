/- proved lemmas -/
import Derived.Test.YtagjhmodblifbaaGreatDoorMA
import Derived.Test.YtagjhmodblifbaaGreatDoorProg
import Derived.Below
import Derived.RangeFuncNested
import Derived.RangeFuncBound
import Derived.RangeFuncCalls
import Derived.RangeFuncLeaves
import Derived.Shelf.Abstract
import Derived.Shelf.RegionOpen
import Derived.OwnWalkIn
import Derived.TacticsInMore
import Derived.LoopNIn
import Derived.LoopIn
import Derived.Outline
import Derived.WalkKit
import Derived.WalkLawsBesides
import Derived.WalkSpells
import Derived.Lib.Hide
import Derived.Maps.AppendAt
import Derived.Handy
import Derived.Deep.QuietTactic
import Derived.BigQuiet
import Derived.OrdersIn
import Derived.StillTailTactics
import Derived.Shelf.Strings.Builder1
import Derived.Shelf.Strings.Builder2
import Derived.Shelf.Strings.Trim
import Derived.Shelf.Small.Utf8
import Derived.Shelf.Small.Bits
import Derived.Shelf.Small.Strs
import Derived.Shelf.Small.Wraps
import Derived.Shelf.Strings.BuilderF
import Derived.Shelf.Strconv.Itoa0
import Derived.Shelf.Strings.Search1
import Derived.Shelf.Strings.Prefix
import Derived.Shelf.Bits.Mul64
import Derived.Shelf.Strings.Repeat
import Derived.Ground.Names2Prog
import Derived.Shelf.Slices.SearchI
import Derived.Laws.EntriesVeiled
import Derived.Deep.RegionHeld3
import Derived.Recover
import Derived.LoopN
import Derived.Lib.ItoaNum
import Derived.RegionTactic
import Derived.ChangeAlike
import Derived.Laws.OwnMore
import Derived.IntWalk
import Derived.Deep.DeepFit
import Derived.Laws.CopyOwn
import Derived.Deep.CutRange
import Derived.BigRegion
import Derived.Lib.IndexBytes
import Derived.Deep.LoopGhost
import Derived.Test.YtagjhmodblifbaaGreatDoorB00
import Derived.Test.YtagjhmodblifbaaGreatDoorB01
import Derived.Test.YtagjhmodblifbaaGreatDoorB02
import Derived.Test.YtagjhmodblifbaaGreatDoorB03
import Derived.Test.YtagjhmodblifbaaGreatDoorB04
import Derived.Test.YtagjhmodblifbaaGreatDoorB05
import Derived.Test.YtagjhmodblifbaaGreatDoorB06
import Derived.Test.YtagjhmodblifbaaGreatDoorB07
import Derived.Test.YtagjhmodblifbaaGreatDoorB08
import Derived.Test.YtagjhmodblifbaaGreatDoorB09
import Derived.Test.YtagjhmodblifbaaGreatDoorB10
import Derived.Test.YtagjhmodblifbaaGreatDoorB11
import Derived.Test.YtagjhmodblifbaaGreatDoorB12
import Derived.Test.YtagjhmodblifbaaGreatDoorB13
import Derived.Test.YtagjhmodblifbaaGreatDoorB14
import Derived.Test.YtagjhmodblifbaaGreatDoorB15
import Derived.Test.YtagjhmodblifbaaGreatDoorB16
import Derived.Test.YtagjhmodblifbaaGreatDoorB17
import Derived.Test.YtagjhmodblifbaaGreatDoorB18
import Derived.Test.YtagjhmodblifbaaGreatDoorB19
import Derived.Test.YtagjhmodblifbaaGreatDoorB20
import Derived.Test.YtagjhmodblifbaaGreatDoorB21
set_option maxHeartbeats 4000000
set_option maxRecDepth 100000
set_option exponentiation.threshold 100000
namespace Go.Proofs.YtagjhmodblifbaaGreatDoor
open Go.Proofs.Tryz
open Go Go.RowKit Go.Shelf
theorem PR {W:World}{b:Nat}{t:TypeId}{c d f a:Value}{l:List Value}(h:af W b t (c::d::f::a::l)):W.cell? ⟨b,3,none⟩=some a:=h.cell 3
theorem PL {W:World}{b:Nat}{t:TypeId}{f g i a c d:Value}{l:List Value}(h:af W b t (f::g::i::a::c::d::l)):W.cell? ⟨b,3,none⟩=some a∧W.cell? ⟨b,4,none⟩=some c∧W.cell? ⟨b,5,none⟩=some d:=⟨h.cell 3,h.cell 4,h.cell 5⟩
theorem Pb (s t:Value)(i j:Int)(w:World)(ha:ak w s i)(z:ak w t j)(L:Nat)(D:L≤100000)(hi:i.natAbs<aj^L)(n:j.natAbs<aj^L) :
 CB 68 #[s,t] w fun e _=>e=.returned (vI (dS i j)):=by
 obtain ⟨na,G,b,rfl,g,k,o,rfl⟩:=ha;obtain ⟨nb,H,c,rfl,h,d,p,rfl⟩:=z;rw [bM] at hi n;have la:=aA k hi;have lb:=aA d n;clear hi n;obtain ⟨u,x,rfl,q,C⟩:=g.form;obtain ⟨v,y,rfl,r,A⟩:=h.form;have a:=(dJ w (.cells #[.bool na,.slice u b.length x] 24)).alloc (by simp) (.cells #[.bool nb,.slice v c.length y] 24)
 have l:=tL _ _ b c _ (g.below a) (h.below a) k d (by omega);have m:=tL _ _ c b _ (h.below a) (g.below a) d k (by omega);have E:=dn k;have F:=dn d
 cases na <;> cases nb
 ·have e:dS (bX false (val b)) (bX false (val c))=dS (val b:Int) (val c:Int):=by simp [bX]
  rw [e];clear e m;go_enter func68,ntmps68
  go_wp2_with (go_at_call 138;refine l.mono ?_;rintro e B ⟨f,rfl⟩)
  go_ret;exact ⟨a.trans (f.mono a.size),rfl⟩
 ·have e:dS (bX false (val b)) (bX true (val c))=1:=by
   have:0<c.length:=by simpa using p
   unfold dS bX;rw [if_neg (by simp <;> omega),if_pos (by simp <;> omega)]
  rw [e];clear e l m;go_enter func68,ntmps68;go_wp2;go_ret;exact ⟨a,rfl⟩
 ·have e:dS (bX true (val b)) (bX false (val c))=-1:=by
   have:0<b.length:=by simpa using o
   unfold dS bX;rw [if_pos (by simp <;> omega)]
  rw [e];clear e l m;go_enter func68,ntmps68;go_wp2;go_ret;exact ⟨a,rfl⟩
 ·have e:dS (bX true (val b)) (bX true (val c))=dS (val c:Int) (val b:Int):=pW (by simp [bX] <;> omega) (by simp [bX] <;> omega)
  rw [e];clear e l;go_enter func68,ntmps68
  go_wp2_with (go_at_call 138;refine m.mono ?_;rintro e B ⟨f,rfl⟩)
  go_ret;exact ⟨a.trans (f.mono a.size),rfl⟩
theorem nR (a:Value)(i:Int)(w:World)(ha:ak w a i) :
 CB 65 #[a] w fun e r=>∃ v,e=.returned v∧ak r v (-i):=by
 obtain ⟨na,u,b,rfl,j,m,l,rfl⟩:=ha;obtain ⟨d,f,rfl,o,s⟩:=j.form;have c:=dJ w (.cells #[.bool na,.slice d b.length f] 24)
 have g:∀ n:Bool,n=(!na&&decide (0<b.length))→ak w (vN n d b.length f) (-(bX na (val b))):=fun n q=>by
  subst q;have t:=dn m;refine ⟨_,_,b,rfl,j,m,by simp,?_⟩
  by_cases h0:0<b.length
  ·cases na <;> simp [bX,h0]
  ·have:val b=0:=by omega
   cases na <;> simp [bX,h0,this]
 have k:=Qa g;clear g l
 cases na with
 | true =>
  have h:=k.out false (by simp);go_enter func65,ntmps65;go_wp2;exact bodyPost_ret (v:=vN false d b.length f) (by simp [results,results65,go_sem,loadCellsFrom]) rfl ⟨c.alloc c.size _,_,rfl,h.below ((Qj _ _).trans (c.alloc c.size _))⟩
 | false =>
  by_cases h0:0<b.length
  ·have h:=k.out true (by simp [h0])
   have p:decide ((0:Int)<(b.length:Int))=true:=decide_eq_true (by omega);go_enter func65,ntmps65;go_wp2;exact bodyPost_ret (v:=vN true d b.length f) (by simp [results,results65,go_sem,loadCellsFrom]) rfl ⟨c.alloc c.size _,_,rfl,h.below ((Qj _ _).trans (c.alloc c.size _))⟩
  ·have h:=k.out false (by simp [h0])
   have p:decide ((0:Int)<(b.length:Int))=false:=decide_eq_false (by omega);go_enter func65,ntmps65;go_wp2;exact bodyPost_ret (v:=vN false d b.length f) (by simp [results,results65,go_sem,loadCellsFrom]) rfl ⟨c.alloc c.size _,_,rfl,h.below ((Qj _ _).trans (c.alloc c.size _))⟩
theorem zb (n:Nat)(b:n≤3000):((10^n:Nat):Int).natAbs<aj^400:=by
 rw [QQ];have h1:10^n≤16^n:=QU (by decide) n
 have a:(16:Nat)^n=2^(4*n):=by rw [Jz]
 rw [gX];exact Qr h1 (by rw [a];exact JV (by decide) (by omega))
structure Pg (w w1:World) (n1:Bool) (a1:Option Addr) (m1 c1:Nat) (X:World):Prop where
 rr:af X w.heap.size 24 (lN false none 0 0)
 ro:af X w1.heap.size 24 (lN n1 a1 m1 c1)
 below:bW w X
 lt:w.heap.size<w1.heap.size
section
variable {w w1 X X':World} {n1:Bool} {a1:Option Addr} {m1 c1:Nat}
theorem Pg.step (h:Pg w w1 n1 a1 m1 c1 X)(a:bW X X'):Pg w w1 n1 a1 m1 c1 X':=⟨h.rr.below a,h.ro.below a,h.below.trans (a.mono h.below.size),h.lt⟩
theorem Pg.set (h:Pg w w1 n1 a1 m1 c1 X)(n:Bool)(a:Option Addr)(m c:Nat):Pg w w1 n a m c ((X.setCell ⟨w1.heap.size,0,none⟩ (.bool n)).setCell ⟨w1.heap.size,1,none⟩ (.slice a m c)):=by
 have b:=h.lt;exact ⟨(h.rr.other (show w.heap.size≠w1.heap.size by omega) _).other (show w.heap.size≠w1.heap.size by omega) _,(h.ro.set 0 (.bool n)).set 1 (.slice a m c),(h.below.setCell (show w.heap.size≤w1.heap.size by omega) _).setCell (show w.heap.size≤w1.heap.size by omega) _,h.lt⟩
end
def PN (w w1:World)(n:Nat)(v:Value)(W:World):Prop:=∃ k n1 a1 m1 c1,k≤n∧v=vI k∧Pg w w1 n1 a1 m1 c1 W∧ak W (vN n1 a1 m1 c1) ((10^k:Nat):Int)
theorem OV (n:Nat)(w:World)(t:n≤3000) :
 CB 64 #[vI n] w fun e w'=>∃ v,e=.returned v∧ak w' v ((10^n:Nat):Int):=by
 have z:=dJ w (.cells #[vF,vZ] 24);have R:=af.new w 24 (lN false none 0 0)
 have u:=fun X=>Au 1 X (by decide) (by decide)
 go_enter func64,ntmps64
 go_wp2_with (go_at_call 66;refine (u _).mono ?_;rintro e w1 ⟨d,v1,rfl,A⟩;obtain ⟨r,m,m1,o,rfl⟩:=A.shape)
 have j:=dJ w1 (.cells #[.bool r,.slice m m1 o] 24);have C:=d.trans (j.mono d.size)
 have q:PN w w1 n (vI 0) (w1.alloc (.cells #[.bool r,.slice m m1 o] 24)):=⟨0,r,m,m1,o,QF _,rfl,⟨R.below C,af.new w1 24 (lN r m m1 o),z.trans (C.mono z.size),by have:=d.size;simp at this;omega⟩,by rw [ZO];exact A.below j⟩
 have J:=Qa q;clear q C j A d R z u;generalize w1.alloc (.cells #[.bool r,.slice m m1 o] 24)=W1 at *
 go_loopw [4] (fun v W=>PN w w1 n v W) (fun v _=>n - (intOf v).toNat)
 case atStart=>exact J.out
 case round =>
  clear J;obtain ⟨k,n2,a2,m2,c2,s,rfl,a,l⟩:=hrel
  by_cases c:k<n
  ·have u:=fun X=>Au 10 X (by decide) (by decide)
   have hmul:((10^k:Nat):Int)*10=((10^(k+1):Nat):Int):=by rw [Qo,Jy];rfl
   have N:=fun X v S (E:ak X v ((10^k:Nat):Int)) (F:ak X S 10)=>yl v S _ _ X E F (az (zb k (by omega)) (by decide)) (show (10:Int).natAbs<aj^90000 from Qf (show 10<aj^1 by decide) (Ql aP (by decide)))
   rw [hmul] at N;have Y:decide ((k:Int)<(n:Int))=true:=decide_eq_true (by omega);have e2:decide (k<n)=true:=decide_eq_true c;replace a:=a.step ((Qj _ _).drew:bW wr wr.drew);replace l:=l.below ((Qj _ _).drew:bW wr wr.drew);have g:=a.ro.cell 0;have i:=a.ro.cell 1;have x:=a.ro.frozen 0;have y:=a.ro.frozen 1;simp only [Qc,Qe] at g i;have T:=Qa (And.intro c (And.intro s t))
   clear hmul c s t
   go_wp2_with fail
   go_region_with
    (first
     | (go_at_call 66;with_reducible refine (u _).mono ?_;rintro e wk ⟨f,vO,rfl,B⟩;replace a:=a.step f;clear g i x y;have g:=a.ro.cell 0;have i:=a.ro.cell 1;have x:=a.ro.frozen 0;have y:=a.ro.frozen 1;simp only [Qc,Qe] at g i;replace l:=l.below f)
     | (go_at_call 63;with_reducible refine (N _ _ _ l B).mono ?_;rintro e wk ⟨f,vS,rfl,p⟩;obtain ⟨Q,L,O,M,rfl⟩:=p.shape;replace a:=a.step f;clear g i x y;have g:=a.ro.cell 0;have i:=a.ro.cell 1;have x:=a.ro.frozen 0;have y:=a.ro.frozen 1;simp only [Qc,Qe] at g i))
   all_goals
    obtain ⟨c,s,t⟩:=T.out
    go_wp2_with fail
    go_roundw
    case rel=>exact ⟨k+1,Q,L,O,M,c,rfl,a.set Q L O M,p.keep fun _ _ E=>bf E g i _ _⟩
    case measure =>
     simp only [intOf];omega
  ·obtain rfl:k=n:=by omega
   have Y:decide ((k:Int)<(k:Int))=false:=decide_eq_false (by omega);have U:=a.ro.cell 0;have V:=a.ro.cell 1;have H:=a.rr.cell 0;have I:=a.rr.cell 1;have s3:=a.rr.frozen 0;have s4:=a.rr.frozen 1;simp only [Qc,Qe] at H I U V;have Z:=a.below
   have D:=fun v xs h=>bf (v:=v) (xs:=xs) (b:=w.heap.size) h H I (.bool n2) (.slice a2 m2 c2)
   have G:=l.keep D;obtain ⟨u1,u2⟩:=bA (b:=w.heap.size) H I (.bool n2) (.slice a2 m2 c2);clear s c l a t
   go_wp2_with fail
   exact bodyPost_ret (v:=vN n2 a2 m2 c2) (by simp [results,results64,go_sem,loadCellsFrom,u1,u2]) rfl ⟨(Z.setCell (Qb _) _).setCell (Qb _) _,_,rfl,G⟩
structure xe (w w1:World) (b:Nat) (t:TypeId) (cs:List Value) (X:World):Prop where
 r:af X b t cs
 below:bW w X
 more:bW w1 X
section
variable {w w1 X X':World} {b:Nat} {t:TypeId} {cs:List Value}
theorem Oa (h:xe w w1 b t cs X)(a:bW X X'):xe w w1 b t cs X':=⟨h.r.below a,h.below.trans (a.mono h.below.size),h.more.trans (a.mono h.more.size)⟩
theorem Pp (h:xe w w1 b t cs X):xe w w1 b t cs X.drew:=⟨h.r,h.below.drew,h.more.drew⟩
theorem Pq (h:xe w w1 b t cs X){B:Nat}(i:b<w1.heap.size)(j:w.heap.size≤b)(a:w1.heap.size≤B)(c d f g:Value):xe w w1 b t cs ((((X.setCell ⟨B,0,none⟩ c).setCell ⟨B,1,none⟩ d).setCell ⟨B,2,none⟩ f).setCell ⟨B,3,none⟩ g) :=
 ⟨(((h.r.other (show b≠B by omega) _).other (show b≠B by omega) _).other (show b≠B by omega) _).other (show b≠B by omega) _,(((h.below.setCell (show w.heap.size≤B by omega) _).setCell (show w.heap.size≤B by omega) _).setCell (show w.heap.size≤B by omega) _).setCell (show w.heap.size≤B by omega) _,(((h.more.setCell a _).setCell a _).setCell a _).setCell a _⟩
end
theorem La {w w1 X:World}{b:Nat}{t:TypeId}{k n:Value}{neg:Bool}{a:Option Addr}{m c:Nat}{x y:Value}(h:xe w w1 b t [k,n,.bool neg,.slice a m c,x,y] X):X.cell? ⟨b,2,none⟩=some (.bool neg)∧X.cell? ⟨b,3,none⟩=some (.slice a m c)∧xe w w1 b t [k,n,.bool neg,.slice a m c,x,y] X:=⟨h.r.cell 2,h.r.cell 3,h⟩
theorem Pn (v:Value)(kind n:Int)(neg:Bool)(xs:List Nat)(s:ByteArray)(l:Nat)(w:World)(h:ValAt w v kind n neg xs s l) :
 CB 20 #[v] w fun e _=>e=.returned (.bool (oW kind n neg xs s l)):=by
 obtain ⟨va,la,lc,rfl,hr,d⟩:=h;obtain ⟨a,c,rfl,hc,hm⟩:=hr.form
 have u:=fun X (r:bW w X)=>Ce (vN neg a xs.length c) neg xs X ⟨_,rfl,hr.below r,d⟩
 have o:=dJ w (.cells #[vI kind,vI n,.bool neg,.slice a xs.length c,.string s,.slice la l lc] 27);have q:=af.new w 27 (lV kind n neg a xs.length c s la l lc);generalize L:w.alloc (.cells #[vI kind,vI n,.bool neg,.slice a xs.length c,.string s,.slice la l lc] 27)=W1 at *;have HW:=Qa L;clear L;obtain ⟨Q,d1,R,S,d4,d5⟩:=aD q
 obtain ⟨t,Z⟩:∃ t:Bool,(decide (kind=3)&&(decide (s=⟨#[]⟩)&&(decide (l=0)&&(decide (1≤n)&&decide (n≤20)))))=t:=⟨_,rfl⟩
 have N:=Qa Z;have y:=Qa (And.intro hr (And.intro d q));go_enter func20,ntmps20
 go_upto_region 1 with (fail)
 rw [HW.out];clear hr d hc hm q HW u
 go_cut [27] from 4 to 27 (fun v W=>v=.bool (!t)∧W1=W)
 case first =>
  subst Z;clear N y o
  by_cases h1:kind=3
  ·by_cases U:s=⟨#[]⟩
   ·subst h1
    subst U
    by_cases h3:l=0
    ·subst h3
     rcases ZR n 1 with h4 | h4
     ·have p:decide (n<1)=true:=decide_eq_true h4
      go_wp2
      go_meet
      exact ⟨by simp;omega,rfl⟩
     ·have p:decide (n<1)=false:=decide_eq_false (by omega)
      rcases ZR 20 n with h5 | h5
      ·have B:decide (20<n)=true:=decide_eq_true h5
       go_wp2
       go_meet
       exact ⟨by simp;omega,rfl⟩
      ·have B:decide (20<n)=false:=decide_eq_false (by omega)
       go_wp2
       go_meet
       exact ⟨by simp;omega,rfl⟩
    ·have p:decide ((0:Int)<(l:Int))=true:=decide_eq_true (by omega)
     have B:decide (0<l)=true:=decide_eq_true (by omega);go_wp2
     go_meet
     exact ⟨by simp [h3],rfl⟩
   ·have p:=Cy U
    subst h1;go_wp2
    go_meet
    exact ⟨by simp [U],rfl⟩
  ·have p:(kind == 3)=false:=by simp [h1]
   go_wp2
   go_meet
   exact ⟨by simp [h1],rfl⟩
 case rest =>
  have b:oW kind n neg xs s l=(t&&(au neg xs&&(decide (xs.length≤40)&&(decide (n=1) || decide (val xs % 10≠0))))):=by
   rw [← N.out];unfold oW;simp only [Bool.and_assoc]
  clear N Z;obtain ⟨rfl,rfl⟩:=hcut
  cases t with
  | false =>
   clear y
   go_wp2_with fail
   go_ret;exact ⟨o,by rw [b];rfl⟩
  | true =>
   obtain ⟨hr,d,q⟩:=y.out
   have u:=fun X (r:bW w X)=>Ce (vN neg a xs.length c) neg xs X ⟨_,rfl,hr.below r,d⟩
   rw [Jn] at b
   cases hf:au neg xs with
   | false =>
    rw [hf] at u b;clear hf hr d q y
    go_wp2_with (go_at_call 69;with_reducible refine (u _ o).mono ?_;rintro e m ⟨i,rfl⟩)
    go_ret;exact ⟨o.trans (i.mono o.size),by rw [b];rfl⟩
   | true =>
    rw [hf,Jn] at b;rw [hf] at u
    by_cases g:xs.length≤40
    ·rw [decide_eq_true g,Jn] at b
     have p:decide ((40:Int)<(xs.length:Int))=false:=decide_eq_false (by omega);have B:decide (40<xs.length)=false:=decide_eq_false (by omega)
     have hI:∀ X,bW w X→ak X (vN neg a xs.length c) (bX neg (val xs)):=fun X r=>dx.isInt ⟨_,rfl,hr.below r,d⟩ hf
     have H:(bX neg (val xs)).natAbs<aj^80000:=by
      rw [bM];exact Qf ((bS (lJ d hf).1 40).1 g) (Ql aP (by decide))
     have M:=Qa (And.intro H (And.intro hI (And.intro g hf)));clear H hI g hf hr d y
     go_upto_region 5 with (go_at_call 69;with_reducible refine (u _ o).mono ?_;rintro e m ⟨i,rfl⟩;have T:=(q.below i).cell 3;simp only [Qc,Qe] at T)
     have O:=o.trans (i.mono o.size);have z:=q.below i;clear Q d1 R S d4 d5 q o i u p B;have Q:=Dk z
     by_cases k:n=1
     ·have p:(n == 1)=true:=by simp [k]
      rw [decide_eq_true k,Bool.true_or] at b;subst k
      go_wp2_with fail
      go_ret;exact ⟨O,by rw [b];rfl⟩
     ·have p:(n == 1)=false:=by simp [k]
      rw [decide_eq_false k,Bool.false_or] at b
      go_upto_region 7 with (fail)
      have hL:xe w m w.heap.size 27 (lV kind n neg a xs.length c s la l lc) m:=⟨z,O,Qj _ _⟩
      have hD:=Qa (La (Pp hL));have hl:=Qa (show w.heap.size<m.heap.size from z.lt)
      have kO:=fun X=>Au 10 X (by decide) (by decide)
      have kV:=fun X v (r:xe w m w.heap.size 27 (lV kind n neg a xs.length c s la l lc) X) (hv:ak X v 10)=>Cx _ v (bX neg (val xs)) 10 X (M.out.2.1 X r.below) hv M.out.1 (show (10:Int).natAbs<aj^80000 from Qf (show 10<aj^1 by decide) (Ql aP (by decide))) (by decide)
      have J:m.heap.size≤m.drew.heap.size:=Qb _;obtain ⟨R,S,-⟩:=La hL;have A:=Qa b;clear z Q p k b O T
      go_cut [3] from 42 to 45 (fun v W=>Hy W v ((bX neg (val xs)).fdiv 10) ((bX neg (val xs)).fmod 10)∧xe w m w.heap.size 27 (lV kind n neg a xs.length c s la l lc) W)
      case first =>
       go_region_held3 (fun X=>X.cell? ⟨w.heap.size,2,none⟩=some (.bool neg)∧X.cell? ⟨w.heap.size,3,none⟩=some (.slice a xs.length c)∧xe w m w.heap.size 27 (lV kind n neg a xs.length c s la l lc) X)
        (first | with_reducible exact hD.out | (go_split_ands;with_reducible exact La (Oa (by assumption) j)) | (go_split_ands;with_reducible exact La (Oa (by assumption) (dJ _ _))) | (go_split_ands;with_reducible exact La (Pq (by assumption) hl.out (Qb _) x _ _ _ _)))
        (first
         | (go_at_call 66;go_split_ands;with_reducible refine (kO _).mono ?_;rintro e wk ⟨j,vO,rfl,E⟩;have Y:=Qd (xe.more (by assumption)).size j.size;first | (with_reducible have I:=Fp (w1:=m) (vals:=[vF,vZ,vF,vZ]) (by first | assumption | exact Qb _) j;obtain ⟨x,f⟩:=I) | (with_reducible have I:=Kg (w1:=m) (vals:=[vF,vZ,vF,vZ]) (Qb _) j;obtain ⟨x,f⟩:=I) | skip)
         | (go_at_call 77;go_split_ands;(first | with_reducible refine (kV _ _ (by assumption) E).mono ?_ | with_reducible refine (kV _ _ (by assumption) (E.below (dJ _ _))).mono ?_);rintro e wk ⟨j,n5,a5,m5,c5,n6,a6,m6,c6,rfl,C,D⟩;have a1:=Oa (by assumption) j;have Y:=Qd (xe.more (by assumption)).size j.size;first | (replace f:=f.below j;have z1:=f.cell 0;have z2:=f.cell 1;have z3:=f.cell 2;have z4:=f.cell 3;have z5:=f.frozen 0;have z6:=f.frozen 1;have z7:=f.frozen 2;have z8:=f.frozen 3;simp only [Qc,Qe] at z1 z2 z3 z4) | (with_reducible have I:=Fp (w1:=m) (vals:=[vF,vZ,vF,vZ]) (by first | assumption | exact Qb _) j;obtain ⟨x,f⟩:=I;have z1:=f.cell 0;have z2:=f.cell 1;have z3:=f.cell 2;have z4:=f.cell 3;have z5:=f.frozen 0;have z6:=f.frozen 1;have z7:=f.frozen 2;have z8:=f.frozen 3;simp only [Qc,Qe] at z1 z2 z3 z4) | skip))
       all_goals
        rename_i r;obtain ⟨-,-,O1⟩:=r;go_wp2
        go_meet
        first
         | exact ⟨Kh f C D,O1⟩
         | exact ⟨Hy.new C D,O1⟩
      case rest =>
       obtain ⟨⟨b9,n5,a5,m5,c5,n6,a6,m6,c6,rfl,r9,-,i9⟩,F⟩:=hcut;generalize wc=w4 at *;obtain ⟨g3,g4⟩:=BD r9;have kZ:=Gt _ _ w4 i9;have G:=F.below;clear hD hl kO kV J R S F r9 i9 M
       go_wp2_with (go_at_call 78;with_reducible refine kZ.mono ?_;rintro e w5 ⟨V,rfl⟩)
       go_ret;refine ⟨G.trans (V.mono G.size),?_⟩;rw [A.out]
       congr 2
       have:=uR neg (val xs)
       by_cases h0:val xs % 10=0
       ·rw [decide_eq_true (this.2 h0)];simp [h0]
       ·rw [decide_eq_false (fun h=>h0 (this.1 h))];simp [h0]
    ·have p:decide ((40:Int)<(xs.length:Int))=true:=decide_eq_true (by omega)
     have B:decide (40<xs.length)=true:=decide_eq_true (by omega);rw [decide_eq_false g,ZP] at b;have a0:=q;clear hf hr d q y g
     go_wp2_with (go_at_call 69;with_reducible refine (u _ o).mono ?_;rintro e m ⟨i,rfl⟩;have z:=a0.below i;have T:=PR z)
     go_ret;exact ⟨o.trans (i.mono o.size),by rw [b];rfl⟩
end Go.Proofs.YtagjhmodblifbaaGreatDoor
namespace Go.Proofs.YtagjhmodblifbaaGreatDoor
open Go.Proofs.Tryz
theorem Pj (n d c:Int)(f:0<c):(n*c).fdiv (d*c)=n.fdiv d∧(n*c).fmod (d*c)=n.fmod d*c:=by
 by_cases g:d=0
 ·subst g
  simp
 ·have h1:=Int.mul_fdiv_add_fmod n d
  have b:(n*c).fdiv (d*c)=n.fdiv d:=by
   rw [Yd n c,Yd d c]
   rcases Xn g with h | h
   ·have i:(c*n).fdiv (c*d)=(-(c*n)).fdiv (-(c*d)):=(YW _ _).symm
    have j:n.fdiv d=(-n).fdiv (-d):=(YW _ _).symm;rw [i,j,← Zf,← Zf]
    have a:0< -d:=by omega
    rw [Zq _ (Zy (Int.mul_pos f a)),Zq _ (Zy a)];exact Int.mul_ediv_mul_of_pos _ _ f
   ·rw [Zq _ (Zy (Int.mul_pos f h)),Zq _ (Zy h)]
    exact Int.mul_ediv_mul_of_pos _ _ f
  refine ⟨b,?_⟩;have k:=Int.mul_fdiv_add_fmod (n*c) (d*c);rw [b] at k
  have l:n*c=d*c*n.fdiv d+n.fmod d*c:=by
   conv=>lhs;rw [← h1]
   rw [Int.add_mul,Zx]
  omega
theorem Pk (n d c:Int)(i:0<c):near (n*c) (d*c)=near n d:=by
 obtain ⟨h1,g⟩:=Pj n d c i;unfold near;rw [h1,g,Zl,Zl]
 have a:0<c.natAbs:=by omega
 have b:d.natAbs*c.natAbs<2*((n.fmod d).natAbs*c.natAbs)↔d.natAbs<2*(n.fmod d).natAbs:=by
  rw [← Qn];exact Nat.mul_lt_mul_right a
 have f:2*((n.fmod d).natAbs*c.natAbs)=d.natAbs*c.natAbs↔2*(n.fmod d).natAbs=d.natAbs:=by
  rw [← Qn];exact ⟨fun h=>Nat.eq_of_mul_eq_mul_right a h,fun h=>by rw [h]⟩
 simp only [b,f]
end Go.Proofs.YtagjhmodblifbaaGreatDoor
namespace Go.Proofs.YtagjhmodblifbaaGreatDoor
open Go.Proofs.Tryz
open Go Go.RowKit Go.Shelf
structure Pw (w w1:World) (k p:Int) (n:Bool) (a:Option Addr) (m c:Nat) (x y:Value) (X:World):Prop where
 ra:af X w.heap.size 27 [vI k,vI p,.bool n,.slice a m c,x,y]
 res:∃ r0 r1 r2 r3,af X (w.heap.size+1) 24 (lN r0 r1 r2 r3)
 below:bW w X
 more:∀ v xs,Reads .u32 w1 v xs→Reads .u32 X v xs
@[reducible] def PS (w w1:World) (k p:Int) (n:Bool) (a:Option Addr) (m c:Nat) (x y:Value) (X:World):Prop:=X.cell? ⟨w.heap.size,1,none⟩=some (vI p)∧X.cell? ⟨w.heap.size,2,none⟩=some (.bool n)∧X.cell? ⟨w.heap.size,3,none⟩=some (.slice a m c)∧Pw w w1 k p n a m c x y X
section
variable {w w1 X X':World} {k p:Int} {n:Bool} {a:Option Addr} {m c:Nat} {x y:Value}
theorem Pm (h:Pw w w1 k p n a m c x y X):PS w w1 k p n a m c x y X:=⟨h.ra.cell 1,h.ra.cell 2,h.ra.cell 3,h⟩
theorem PH (h:Pw w w1 k p n a m c x y X):Pw w w1 k p n a m c x y X.drew:=⟨h.ra,h.res,h.below.drew,fun v xs b=>h.more v xs b⟩
theorem Po (h:Pw w w1 k p n a m c x y X)(b:bW X X'):Pw w w1 k p n a m c x y X' :=
 ⟨h.ra.below b,(by obtain ⟨r0,r1,r2,r3,hr⟩:=h.res;exact ⟨r0,r1,r2,r3,hr.below b⟩),h.below.trans (b.mono h.below.size),fun v xs d=>(h.more v xs d).below b⟩
theorem Px (h:Pw w w1 k p n a m c x y X)(g:Bool)(b:Option Addr)(i j:Nat):Pw w w1 k p n a m c x y ((X.setCell ⟨w.heap.size+1,0,none⟩ (.bool g)).setCell ⟨w.heap.size+1,1,none⟩ (.slice b i j)) :=
 ⟨(h.ra.other (show w.heap.size≠w.heap.size+1 by omega) _).other (show w.heap.size≠w.heap.size+1 by omega) _,(by obtain ⟨r0,r1,r2,r3,hr⟩:=h.res;exact ⟨g,b,i,j,(hr.set 0 (.bool g)).set 1 (.slice b i j)⟩),(h.below.setCell (show w.heap.size≤w.heap.size+1 by omega) _).setCell (show w.heap.size≤w.heap.size+1 by omega) _,fun v xs d=>by obtain ⟨r0,r1,r2,r3,hr⟩:=h.res;exact bf (b:=w.heap.size+1) (h.more v xs d) (hr.cell 0) (hr.cell 1) _ _⟩
theorem Py (h:Pw w w1 k p n a m c x y X):∃ r0 r1 r2 r3,X.cell? ⟨w.heap.size+1,0,none⟩=some (.bool r0)∧X.cell? ⟨w.heap.size+1,1,none⟩=some (.slice r1 r2 r3)∧X.frozen? ⟨w.heap.size+1,0,none⟩=false∧X.frozen? ⟨w.heap.size+1,1,none⟩=false:=by
 obtain ⟨r0,r1,r2,r3,hr⟩:=h.res;exact ⟨r0,r1,r2,r3,hr.cell 0,hr.cell 1,hr.frozen 0,hr.frozen 1⟩
end
theorem qa (a b:Nat):(10:Int)^(a+b)=10^a*10^b:=YC 10 a b
theorem Pz {n d:Int}{a b f i:Nat}(h:a+i=f+b):near (n*10^a) (d*10^b)=near (n*10^f) (d*10^i):=by
 have g:∀ {a b c:Nat},near (n*10^a) (d*10^b)=near (n*10^(a+c)) (d*10^(b+c)):=fun {a b c}=>by
  rw [qa,qa,← Yc,← Yc,Pk _ _ _ (YE (by decide))]
 rcases Nat.le_total a f with h1 | h1
 ·obtain ⟨c,rfl⟩:∃ c,f=a+c:=⟨f - a,by omega⟩
  obtain rfl:i=b+c:=by omega
  exact g
 ·obtain ⟨c,rfl⟩:∃ c,a=f+c:=⟨a - f,by omega⟩
  obtain rfl:b=i+c:=by omega
  exact g.symm
theorem Pd {n d e:Int}{P a b:Nat}(h:(a:Int) - (b:Int)=(P:Int) - e):near (n*10^a) (d*10^b)=fB n d e P:=Pz (by omega)
theorem dB.keep {w a:World}{v:Value}{i:Int}{p:Nat}(h:dB w v i p)(b:∀ v xs,Reads .u32 w v xs→Reads .u32 a v xs):dB a v i p:=⟨h.v.keep b,h.lo,h.hi,h.abs,h.form⟩
theorem dB.is {w:World}{v:Value}{i:Int}{p:Nat}(h:dB w v i p) :
 CB 20 #[v] w fun e _=>e=.returned (.bool true):=by
 obtain ⟨neg,xs,h1,b,-⟩:=h.at;have a:=Pn v _ _ _ _ _ _ w h1;rw [b] at a;exact a
theorem mJ.is {w:World}{v:Value}(h:mJ w v) :
 CB 20 #[v] w fun e _=>e=.returned vF:=by
 obtain ⟨kind,n,neg,xs,s,l,h1,b⟩:=h;have a:=Pn v _ _ _ _ _ _ w h1;rw [b] at a;exact a
theorem dG.below {W a:World}{k0:Int}{x:Int × Nat}{k:Int}{v:Value}(h:dG W k0 x k v)(b:bW W a):dG a k0 x k v:=h.keep fun _ _ c=>c.below b
theorem nC {i:Int}(hi:i.natAbs<aj^40){n:Nat}(a:n≤3000):(i*((10^n:Nat):Int)).natAbs<aj^440:=by
 rw [Zl,show 440=40+400 from rfl,Qt];exact Ye hi (zb n a)
end Go.Proofs.YtagjhmodblifbaaGreatDoor
