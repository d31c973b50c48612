/- proved lemmas -/
import Derived.Test.YtagjhmodblifbaaGreatDoorMA
import Derived.Test.YtagjhmodblifbaaGreatDoorProg
import Derived.Below
import Derived.WalkKit
import Derived.WalkLawsBesides
import Derived.WalkSpells
import Derived.Lib.Hide
import Derived.RangeFuncNested
import Derived.RangeFuncBound
import Derived.RangeFuncCalls
import Derived.RangeFuncLeaves
import Derived.Shelf.Abstract
import Derived.Shelf.RegionOpen
import Derived.OwnWalkIn
import Derived.TacticsInMore
import Derived.LoopNIn
import Derived.LoopIn
import Derived.Outline
import Derived.Deep.QuietTactic
import Derived.BigQuiet
import Derived.OrdersIn
import Derived.StillTailTactics
import Derived.Maps.AppendAt
import Derived.Handy
set_option maxHeartbeats 4000000
set_option maxRecDepth 100000
namespace Go.Proofs.YtagjhmodblifbaaGreatDoor
open Go.Proofs.Tryz
open Go Go.RowKit
abbrev vI (n:Int):Value:=.int .i64 n
abbrev vZ:Value:=.slice none 0 0
abbrev vF:Value:=.bool false
abbrev vE:Value:=.string ⟨#[]⟩
abbrev vP (b:Nat):Value:=.pointer (some ⟨b,0,none⟩)
abbrev vN (g:Bool) (a:Option Addr) (m c:Nat):Value:=.agg #[.bool g,.slice a m c]
abbrev lN (g:Bool) (a:Option Addr) (m c:Nat):List Value:=[.bool g,.slice a m c]
abbrev vV (k n:Int) (g:Bool) (a:Option Addr) (m c:Nat) (s:ByteArray) (l:Option Addr) (x y:Nat):Value:=.agg #[.int .i64 k,.int .i64 n,.bool g,.slice a m c,.string s,.slice l x y]
abbrev lV (k n:Int) (g:Bool) (a:Option Addr) (m c:Nat) (s:ByteArray) (l:Option Addr) (x y:Nat):List Value:=[.int .i64 k,.int .i64 n,.bool g,.slice a m c,.string s,.slice l x y]
abbrev vR (g:Bool) (a:Option Addr) (m c:Nat) (h:Bool) (b:Option Addr) (x y:Nat) (e:Int):Value:=.agg #[.bool g,.slice a m c,.bool h,.slice b x y,.int .i64 e]
abbrev lR (g:Bool) (a:Option Addr) (m c:Nat) (h:Bool) (b:Option Addr) (x y:Nat) (e:Int):List Value:=[.bool g,.slice a m c,.bool h,.slice b x y,.int .i64 e]
abbrev vG (k n:Int) (g:Bool) (a:Option Addr) (m c:Nat) (s:ByteArray) (l:Option Addr) (x y:Nat) (e:Int):Value:=.agg #[.int .i64 k,.int .i64 n,.bool g,.slice a m c,.string s,.slice l x y,.int .i64 e]
abbrev lG (k n:Int) (g:Bool) (a:Option Addr) (m c:Nat) (s:ByteArray) (l:Option Addr) (x y:Nat) (e:Int):List Value:=[.int .i64 k,.int .i64 n,.bool g,.slice a m c,.string s,.slice l x y,.int .i64 e]
abbrev bW (w v:World):Prop:=Below w.heap.size w v
abbrev pK (k:Int):Ending:=.panicked [{ v:=.iface 31 (.int .i64 k),recovered:=false }]
def kX (a:Option Addr)(j:Nat):Addr:=⟨(a.getD default).block,(a.getD default).off+j,none⟩
def Reads (k:IntKind)(w:World)(v:Value)(xs:List Nat):Prop :=
 ∃ a cap,v=.slice a xs.length cap∧xs.length≤cap∧cap≤maxLen ∧
  ∀ j,j<xs.length→(∃ b off,a=some ⟨b,off,none⟩)∧w.cell? (kX a j)=some (.int k ((xs[j]?.getD 0:Nat):Int))
theorem iY (b off j:Nat):kX (some ⟨b,off,none⟩) j=⟨b,off+j,none⟩:=rfl
theorem Reads.below {k:IntKind}{w f:World}{v:Value}{xs:List Nat}(h:Reads k w v xs)(g:bW w f):Reads k f v xs:=by
 obtain ⟨a,b,rfl,i,l,hr⟩:=h;refine ⟨a,b,rfl,i,l,fun j d=>⟨(hr j d).1,?_⟩⟩;have c:=(hr j d).2;exact (g.cell (JE w _ c)).trans c
theorem Reads.uz {k:IntKind}{B:Nat}{w i:World}{v:Value}{xs:List Nat}(h:Reads k w v xs)(m:∀ a n c,v=.slice (some a) n c→xs≠[]→a.block<B)(o:Below B w i):Reads k i v xs:=by
 obtain ⟨a,d,rfl,q,r,hr⟩:=h;refine ⟨a,d,rfl,q,r,fun j g=>⟨(hr j g).1,?_⟩⟩;obtain ⟨⟨b,off,rfl⟩,l⟩:=hr j g;have f:b<B:=m ⟨b,off,none⟩ _ _ rfl (by intro e;simp [e] at g);exact (o.cell (p:=kX (some ⟨b,off,none⟩) j) f).trans l
theorem nH {P:Program}(t e:TypeId)(f:P.underlying t=some (.slice e))(hs:∀ w,(sizeOf e).run P w=.ok 1 w)(a:Option Addr)(n c j:Nat)(h:j<n)
  (ha:∃ b off,a=some ⟨b,off,none⟩) (g:IntKind) (w:World) :
  (Instr.indexAt t (.slice a n c) (.int g (j:Int))).run P w=.ok (.pointer (some (kX a j))) w:=by
 obtain ⟨b,off,rfl⟩:=ha
 have d:P.elem t=e:=by simp [Program.elem,f]
 have h1:(sizeOf (P.elem t)).run P w=.ok 1 w:=by rw [d];exact hs w
 rw [run_indexAt_slice w t ⟨b,off,none⟩ n c g j (by rw [f,d])];rw [if_pos ⟨by omega,by omega⟩,h1];simp [Result.andThen,JO,kX]
theorem Reads.index {P:Program}{t e:TypeId}(l:P.underlying t=some (.slice e))(hs:∀ w,(sizeOf e).run P w=.ok 1 w){k:IntKind}{w:World}{a:Option Addr}{n b:Nat}{xs:List Nat}
  (h:Reads k w (.slice a n b) xs):∀ (j:Nat) (d:IntKind) (c:World),j<xs.length→(Instr.indexAt t (.slice a n b) (.int d (j:Int))).run P c=.ok (.pointer (some (kX a j))) c:=by
 obtain ⟨m,f,i,o,p,hr⟩:=h;cases i
 exact fun j d c g=>nH t e l hs a _ b j g (hr j g).1 d c
theorem Reads.cell {k:IntKind}{w:World}{a:Option Addr}{n b:Nat}{xs:List Nat}
  (h:Reads k w (.slice a n b) xs):∀ j,j<xs.length→w.cell? (kX a j)=some (.int k ((xs[j]?.getD 0:Nat):Int)):=by
 obtain ⟨g,c,d,i,l,hr⟩:=h;cases d
 exact fun j f=>(hr j f).2
theorem Reads.form {k:IntKind}{w:World}{v:Value}{xs:List Nat}(h:Reads k w v xs):∃ a b,v=.slice a xs.length b∧xs.length≤b∧b≤maxLen:=by
 obtain ⟨a,b,e,c,d,_⟩:=h;exact ⟨a,b,e,c,d⟩
theorem Reads.part {k:IntKind}{w:World}{a:Option Addr}{n c:Nat}{xs:List Nat}(h:Reads k w (.slice a n c) xs)(l m:Nat)(p:l≤m)(t:m≤xs.length) :
  Reads k w (sliced a l m c 1) ((xs.take m).drop l):=by
 obtain ⟨r,d,i,s,q,hr⟩:=h;cases i
 have hlen:((xs.take m).drop l).length=m - l:=by simp;omega
 refine ⟨if c=l then a else a.map (·.add (l*1)),c - l,?_,by omega,by omega,fun j o=>?_⟩
 ·simp only [sliced,hlen]
 ·rw [hlen] at o
  obtain ⟨⟨b,off,rfl⟩,g⟩:=hr (l+j) (by omega);rw [if_neg (by omega)];refine ⟨⟨b,off+l,by simp [JO]⟩,?_⟩
  have f:kX (Option.map (fun x:Addr=>x.add (l*1)) (some (⟨b,off,none⟩:Addr))) j=kX (some ⟨b,off,none⟩) (l+j):=by
   simp [kX,JO,QV]
  rw [f,g]
  congr 3
  simp [ZT];rw [if_pos (by omega)]
theorem Reads.ET {k:IntKind}{w:World}{a:Option Addr}{n b:Nat}{xs:List Nat}(h:Reads k w (.slice a n b) xs)(m:Nat)(o:m≤xs.length):Reads k w (.slice a m b) (xs.take m):=by
 obtain ⟨g,d,f,i,c,hr⟩:=h;cases f
 have hlen:(xs.take m).length=m:=by simp;omega
 refine ⟨a,b,by rw [hlen],by omega,c,fun j l=>⟨(hr j (by omega)).1,?_⟩⟩;rw [(hr j (by omega)).2,ZT,if_pos (by omega)]
theorem Reads.ou {k:IntKind}{w:World}{base:Nat}{e:TypeId}{v:Value}{n:Nat}{xs:List Nat}(h:w.ownsRow base e 1 v n (xs.map (fun (x:Nat)=>Value.int k (x:Int)))):Reads k w v xs:=by
 have b:xs.length=n:=by simpa using h.1
 subst b
 rcases h.2 with ⟨rfl,h0⟩ | ⟨g,cap,cur,rfl,hb,hg,hnc,hcm,hcs,htake⟩
 ·have c:xs=[]:=JP h0
  subst c;exact ⟨none,0,rfl,by simp,by simp [maxLen],fun j a=>by simp at a⟩
 ·refine ⟨some ⟨g,0,none⟩,cap,rfl,hnc,hcm,fun j a=>⟨⟨g,0,rfl⟩,?_⟩⟩
  have:=h.cells (g:=g) rfl j (.int k ((xs[j]?.getD 0:Nat):Int)) (by simp [Qs a]);rw [JO] at this;exact this
theorem Reads.nil (k:IntKind)(w:World):Reads k w vZ []:=⟨none,0,rfl,by simp,by simp [maxLen],fun j a=>by simp at a⟩
end Go.Proofs.YtagjhmodblifbaaGreatDoor
namespace Go.Proofs.YtagjhmodblifbaaGreatDoor
open Go.Proofs.Tryz
def aj:Nat:=4294967296
theorem aP:0<aj:=by unfold aj;omega
def val:List Nat→Nat
 | []=>0
 | x::xs=>x+aj*val xs
def Limbs (xs:List Nat):Prop:=∀ x ∈ xs,x<aj
def trimmed (xs:List Nat):List Nat:=(xs.reverse.dropWhile (· == 0)).reverse
theorem fZ (xs:List Nat):trimmed (xs++[0])=trimmed xs:=by simp [trimmed]
theorem jd (xs:List Nat)(x:Nat)(h:x≠0):trimmed (xs++[x])=xs++[x]:=by simp [trimmed,h]
theorem iW (xs:List Nat)(k:Nat)(h:k<xs.length):xs.take (k+1)=xs.take k++[xs[k]?.getD 0]:=by
 rw [Yj h,Qs h];rfl
theorem val_append (xs ys:List Nat):val (xs++ys)=val xs+aj^xs.length*val ys:=by
 induction xs with
 | nil=>simp [val]
 | cons x xs a=>simp only [QL,val,a,QE,Qo,Qm];rw [Qp (aj^xs.length) aj,Qn];omega
theorem jK (xs:List Nat)(x:Nat):val (xs++[x])=val xs+aj^xs.length*x:=by rw [val_append];simp [val]
theorem ko (n:Nat):val (List.replicate n 0)=0:=by
 induction n with
 | zero=>rfl
 | succ n a=>simp [Zz,val,a]
theorem fu {xs:List Nat}(h:Limbs xs):val xs<aj^xs.length:=by
 induction xs with
 | nil=>simp [val]
 | cons x xs c =>
  have h1:=c (fun y b=>h y (List.mem_cons_of_mem _ b));have d:x<aj:=h x YN;simp only [val,QE,Qo];have a:aj*(val xs+1)≤aj*aj^xs.length:=Qu _ h1;rw [Qm,QZ] at a;rw [Qp (aj^xs.length) aj];omega
theorem nZ (xs:List Nat):∃ n,xs=trimmed xs++List.replicate n 0:=by
 have b:∀ ys:List Nat,∃ n,ys=List.replicate n 0++ys.dropWhile (· == 0):=by
  intro ys
  induction ys with
  | nil=>exact ⟨0,rfl⟩
  | cons y ys d =>
   obtain ⟨n,a⟩:=d
   by_cases c:y=0
   ·subst c
    refine ⟨n+1,?_⟩;simp [Zz];exact a
   ·exact ⟨0,by simp [c]⟩
 obtain ⟨n,a⟩:=b xs.reverse;refine ⟨n,?_⟩;have:=congrArg List.reverse a;simpa [trimmed] using this
theorem uL (xs:List Nat):xs.take (trimmed xs).length=trimmed xs:=by
 obtain ⟨n,a⟩:=nZ xs
 conv=>lhs;arg 2;rw [a]
 exact List.take_left
theorem dC (xs:List Nat):val (trimmed xs)=val xs:=by
 obtain ⟨n,a⟩:=nZ xs
 conv=>rhs;rw [a]
 rw [val_append,ko];simp
theorem yR {xs:List Nat}(h:Limbs xs):Limbs (trimmed xs):=by
 obtain ⟨n,a⟩:=nZ xs;intro x b;exact h x (by rw [a];exact JY _ b)
theorem jC (xs:List Nat):(trimmed xs).length≤xs.length:=by
 obtain ⟨n,a⟩:=nZ xs;have:=congrArg List.length a;simp at this;omega
def Canon (xs:List Nat):Prop:=Limbs xs∧trimmed xs=xs
theorem Az (xs:List Nat):trimmed (trimmed xs)=trimmed xs:=by
 have a:∀ ys:List Nat,(ys.dropWhile (· == 0)).dropWhile (· == 0)=ys.dropWhile (· == 0):=by
  intro ys
  induction ys with
  | nil=>rfl
  | cons y ys c =>
   by_cases b:y=0
   ·subst b;simpa using c
   ·simp [b]
 simp [trimmed,a]
theorem dL {xs:List Nat}(h:Limbs xs):Canon (trimmed xs):=⟨yR h,Az xs⟩
theorem iU:Canon []:=⟨fun _ h=>by simp at h,rfl⟩
theorem iK {xs:List Nat}(h:Canon xs)(a:xs≠[]):xs[xs.length - 1]?.getD 0≠0:=by
 obtain ⟨ys,y,rfl⟩:∃ ys y,xs=ys++[y]:=⟨xs.dropLast,xs.getLast a,(YO a).symm⟩
 simp;intro e;have:=h.2;rw [e,fZ] at this;have b:=congrArg List.length this;have c:=jC ys;simp at b;omega
theorem jG {xs:List Nat}(h:Canon xs)(a:xs≠[]):aj^(xs.length - 1)≤val xs:=by
 have b:=iK h a
 obtain ⟨ys,y,rfl⟩:∃ ys y,xs=ys++[y]:=⟨xs.dropLast,xs.getLast a,(YO a).symm⟩
 simp at b;rw [jK];simp;have:aj^ys.length*1≤aj^ys.length*y:=Qu _ (by omega);omega
theorem zC:∀ {xs ys:List Nat},Canon xs→Canon ys→val xs=val ys→xs=ys:=by
 intro xs
 induction xs with
 | nil =>
  intro ys _ d h
  by_cases e:ys=[]
  ·exact e.symm
  ·have h1:=jG d e
   have n:0<aj^(ys.length - 1):=Qq aP;simp [val] at h;omega
 | cons x xs q =>
  intro ys f d h
  cases ys with
  | nil =>
   have h1:=jG f (by simp);have n:0<aj^((x::xs).length - 1):=Qq aP;simp only [val] at h h1;omega
  | cons y ys =>
   have g:x<aj:=f.1 x YN;have i:y<aj:=d.1 y YN
   have l:∀ {z:Nat} {a:List Nat},Canon (z::a)→Canon a:=by
    intro z a k;refine ⟨fun u o=>k.1 u (List.mem_cons_of_mem _ o),?_⟩
    by_cases e:a=[]
    ·subst e;rfl
    ·have j:=iK k (by simp)
     obtain ⟨c,w,rfl⟩:∃ c w,a=c++[w]:=⟨a.dropLast,a.getLast e,(YO e).symm⟩
     have m:(z::(c++[w]))[(z::(c++[w])).length - 1]?.getD 0=w:=by simp
     rw [m] at j;exact jd c w j
   simp only [val] at h
   have b:x=y:=by
    have:=congrArg (· % aj) h;simpa [Jo g,Jo i] using this
   subst b;have p:val xs=val ys:=Nat.eq_of_mul_eq_mul_left aP (by omega);rw [q (l f) (l d) p]
theorem fP {α:Type}{P:List α→Prop}(h0:P [])(h1:∀ l x,P l→P (l++[x]))(l:List α):P l:=by
 have a:∀ r:List α,P r.reverse:=by
  intro r
  induction r with
  | nil=>exact h0
  | cons x r b=>rw [List.reverse_cons];exact h1 _ _ b
 have:=a l.reverse
 rwa [List.reverse_reverse] at this
theorem eP (ys:List Nat)(k:Nat):val (ys.take (k+1))=val (ys.take k)+aj^k*ys[k]?.getD 0:=by
 by_cases h:k<ys.length
 ·rw [iW ys k h,jK,Jp,JS (by omega)]
 ·rw [Qv (by omega),Qv (by omega),Jm (by omega)];simp
def ah (xs:List Nat)(n:Nat):List (Nat × Nat):=(List.range n).map fun i=>(i,xs[i]?.getD 0)
theorem bL (xs:List Nat)(n:Nat):ah xs (n+1)=ah xs n++[(n,xs[n]?.getD 0)]:=by simp [ah,Yk]
theorem bR (xs:List Nat)(n:Nat):(ah xs n).length=n:=by simp [ah]
theorem lX (xs:List Nat){k n:Nat}(h:k≤n):ah xs k <+: ah xs n:=by
 obtain ⟨d,rfl⟩:=Yl h
 induction d with
 | zero=>exact List.prefix_refl _
 | succ d a=>rw [← QV,bL];exact (a (by omega)).trans (List.prefix_append _ _)
theorem aK {xs:List Nat}(h:Limbs xs)(i:Nat):xs[i]?.getD 0<aj:=by
 by_cases hi:i<xs.length
 ·rw [Qs hi];exact h _ (JZ hi)
 ·rw [Jm (by omega)];exact aP
def mK (xs:List Nat)(st:List Nat × Nat)(p:Nat × Nat):List Nat × Nat:=(st.1++[(st.2+(xs[p.1]?.getD 0+p.2)) % aj],(st.2+(xs[p.1]?.getD 0+p.2)) / aj)
def cK (xs:List Nat)(ps:List (Nat × Nat)):List Nat × Nat:=ps.foldl (mK xs) ([],0)
theorem iO (xs:List Nat)(ps:List (Nat × Nat))(p:Nat × Nat):cK xs (ps++[p])=mK xs (cK xs ps) p:=by simp [cK]
theorem nD (xs:List Nat)(ps:List (Nat × Nat)):(cK xs ps).1.length=ps.length:=by
 induction ps using fP with
 | h0=>rfl
 | h1 ps p a=>rw [iO];simp [mK,a]
theorem jV {xs:List Nat}{x:Nat}(h:Limbs xs)(b:x<aj):Limbs (xs++[x]):=by
 intro y a
 rcases ZB.1 a with h1 | h1
 ·exact h y h1
 ·have:y=x:=by simpa using h1
  omega
theorem iX {xs:List Nat}(c:Limbs xs)(ps:List (Nat × Nat))(a:∀ p ∈ ps,p.2<aj):Limbs (cK xs ps).1∧(cK xs ps).2≤1:=by
 induction ps using fP with
 | h0=>exact ⟨fun _ h=>by simp [cK] at h,by simp [cK]⟩
 | h1 ps p d =>
  obtain ⟨h1,f⟩:=d (fun q b=>a q (JY _ b));have g:=a p (by simp);have i:=aK c p.1;rw [iO];refine ⟨jV h1 (Qy _ aP),?_⟩
  show (_+(_+_)) / aj≤1
  unfold aj at *;omega
theorem nI (xs ys:List Nat)(k:Nat):val (cK xs (ah ys k)).1+aj^k*(cK xs (ah ys k)).2=val (xs.take k)+val (ys.take k):=by
 induction k with
 | zero=>simp [ah,cK,val]
 | succ k d =>
  have a:=nD xs (ah ys k);rw [bR] at a;rw [bL,iO,eP xs,eP ys];simp only [mK];rw [jK,a];generalize (cK xs (ah ys k)).2=c at *;generalize val (cK xs (ah ys k)).1=r at *;have h:=Jq (c+(xs[k]?.getD 0+ys[k]?.getD 0)) aj;generalize (c+(xs[k]?.getD 0+ys[k]?.getD 0)) / aj=q at *;generalize (c+(xs[k]?.getD 0+ys[k]?.getD 0)) % aj=m at *;have b:=congrArg (aj^k*·) h;simp only [Qm] at b;rw [Qo,Qn];omega
def nN (xs:List Nat)(st:List Nat × Nat)(p:Nat × Nat):List Nat × Nat:=(st.1++[(xs[p.1]?.getD 0+aj - (p.2+st.2)) % aj],1 - (xs[p.1]?.getD 0+aj - (p.2+st.2)) / aj)
def dw (xs:List Nat)(ps:List (Nat × Nat)):List Nat × Nat:=ps.foldl (nN xs) ([],0)
theorem jD (xs:List Nat)(ps:List (Nat × Nat))(p:Nat × Nat):dw xs (ps++[p])=nN xs (dw xs ps) p:=by simp [dw]
theorem lY (xs:List Nat)(ps:List (Nat × Nat)):(dw xs ps).1.length=ps.length:=by
 induction ps using fP with
 | h0=>rfl
 | h1 ps p a=>rw [jD];simp [nN,a]
theorem il (xs:List Nat)(ps:List (Nat × Nat)):Limbs (dw xs ps).1∧(dw xs ps).2≤1:=by
 induction ps using fP with
 | h0=>exact ⟨fun _ h=>by simp [dw] at h,by simp [dw]⟩
 | h1 ps p a =>
  rw [jD];exact ⟨jV a.1 (Qy _ aP),Nat.sub_le _ _⟩
theorem yS {xs ys:List Nat}(f:Limbs xs)(g:Limbs ys)(k:Nat):val (dw xs (ah ys k)).1+val (ys.take k)=val (xs.take k)+aj^k*(dw xs (ah ys k)).2:=by
 induction k with
 | zero=>simp [ah,dw,val]
 | succ k j =>
  have a:=lY xs (ah ys k);have i:=(il xs (ah ys k)).2;have h1:=aK f k;have h:=aK g k;rw [bR] at a;rw [bL,jD,eP xs,eP ys];simp only [nN];rw [jK,a];generalize (dw xs (ah ys k)).2=b at *;generalize val (dw xs (ah ys k)).1=r at *;generalize xs[k]?.getD 0=x at *;generalize ys[k]?.getD 0=y at *
  have c:(x+aj - (y+b)) % aj+y+b=x+aj*(1 - (x+aj - (y+b)) / aj):=by unfold aj at *;omega
  generalize (x+aj - (y+b)) % aj=m at *;generalize 1 - (x+aj - (y+b)) / aj=q at *;have d:=congrArg (aj^k*·) c;simp only [Qm] at d;rw [Qo,Qn];omega
theorem sj {xs ys:List Nat}(g:Limbs xs)(i:Limbs ys)(f:val ys≤val xs)(d:ys.length≤xs.length):val (dw xs (ah ys xs.length)).1=val xs - val ys:=by
 have h:=yS g i xs.length;have c:=il xs (ah ys xs.length);have hlen:=lY xs (ah ys xs.length);rw [bR] at hlen;have a:=fu c.1;rw [hlen] at a;rw [Qv d,Qv (Qb _)] at h
 have h0:(dw xs (ah ys xs.length)).2=0:=by
  rcases Jr (dw xs (ah ys xs.length)).2 with e | e
  ·exact e
  ·have b:(dw xs (ah ys xs.length)).2=1:=by omega
   rw [b] at h;omega
 rw [h0] at h;omega
def pG (f:Nat)(st:List Nat × Nat)(p:Nat × Nat):List Nat × Nat:=(st.1++[(st.2+p.2*f) % aj],(st.2+p.2*f) / aj)
def eG (f c0:Nat)(ps:List (Nat × Nat)):List Nat × Nat:=ps.foldl (pG f) ([],c0)
theorem lH (f a:Nat)(ps:List (Nat × Nat))(p:Nat × Nat):eG f a (ps++[p])=pG f (eG f a ps) p:=by simp [eG]
theorem wD (f a:Nat)(ps:List (Nat × Nat)):(eG f a ps).1.length=ps.length:=by
 induction ps using fP with
 | h0=>rfl
 | h1 ps p b=>rw [lH];simp [pG,b]
theorem oF {c y f:Nat}(a:c<aj)(b:y<aj)(hf:f<aj):c+y*f<aj*aj:=by
 have h1:y*f≤(aj - 1)*(aj - 1):=JI (by omega) (by omega);unfold aj at *;omega
theorem qp {f a:Nat}(hf:f<aj)(g:a<aj)(ps:List (Nat × Nat))(b:∀ p ∈ ps,p.2<aj):Limbs (eG f a ps).1∧(eG f a ps).2<aj:=by
 induction ps using fP with
 | h0=>exact ⟨fun _ h=>by simp [eG] at h,by simpa [eG] using g⟩
 | h1 ps p j =>
  obtain ⟨h1,c⟩:=j (fun q i=>b q (JY _ i));have d:=b p (by simp);rw [lH];exact ⟨jV h1 (Qy _ aP),Za (oF c d hf)⟩
theorem yT (f a:Nat)(ys:List Nat)(k:Nat):val (eG f a (ah ys k)).1+aj^k*(eG f a (ah ys k)).2=val (ys.take k)*f+a:=by
 induction k with
 | zero=>simp [ah,eG,val]
 | succ k g =>
  have b:=wD f a (ah ys k);rw [bR] at b;rw [bL,lH,eP ys];simp only [pG];rw [jK,b];generalize (eG f a (ah ys k)).2=c at *;generalize val (eG f a (ah ys k)).1=r at *;generalize ys[k]?.getD 0=y at *;have h:=Jq (c+y*f) aj;generalize (c+y*f) / aj=q at *;generalize (c+y*f) % aj=m at *;have d:=congrArg (aj^k*·) h;simp only [Qm] at d;rw [Qo,Qn,QH,Qn (aj^k) y f];omega
def vH (part:Nat)(st:List Nat × Nat)(p:Nat × Nat):List Nat × Nat:=(st.1++[(st.2+p.2*2^part) % aj],(st.2+p.2*2^part) / aj)
def iJ (whole part:Nat)(ps:List (Nat × Nat)):List Nat × Nat:=ps.foldl (vH part) (List.replicate whole 0,0)
theorem mQ (whole part:Nat)(ps:List (Nat × Nat))(p:Nat × Nat):iJ whole part (ps++[p])=vH part (iJ whole part ps) p:=by simp [iJ]
theorem yU (whole part:Nat)(ps:List (Nat × Nat)):(iJ whole part ps).1.length=whole+ps.length:=by
 induction ps using fP with
 | h0=>simp [iJ]
 | h1 ps p a=>rw [mQ];simp [vH,a];omega
theorem BF {c y part:Nat}(b:c<2^part)(a:y<aj):c+y*2^part<aj*2^part:=by
 have h1:(y+1)*2^part≤aj*2^part:=Ja _ a;rw [QH,QD] at h1;omega
theorem qg (whole:Nat){part:Nat}(ps:List (Nat × Nat))(a:∀ p ∈ ps,p.2<aj):Limbs (iJ whole part ps).1∧(iJ whole part ps).2<2^part:=by
 induction ps using fP with
 | h0 =>
  refine ⟨fun x h=>?_,by simpa [iJ] using Qq (by omega)⟩;simp only [iJ,List.foldl_nil] at h;rw [YP h];exact aP
 | h1 ps p f =>
  obtain ⟨h1,b⟩:=f (fun q d=>a q (JY _ d));have c:=a p (by simp);rw [mQ];exact ⟨jV h1 (Qy _ aP),Za (BF b c)⟩
theorem Dq (whole part:Nat)(ys:List Nat)(k:Nat):val (iJ whole part (ah ys k)).1+aj^(whole+k)*(iJ whole part (ah ys k)).2=aj^whole*(val (ys.take k)*2^part):=by
 induction k with
 | zero=>simp [ah,iJ,val,ko]
 | succ k d =>
  have a:=yU whole part (ah ys k);rw [bR] at a;rw [bL,mQ,eP ys];simp only [vH];rw [jK,a];generalize (iJ whole part (ah ys k)).2=c at *;generalize val (iJ whole part (ah ys k)).1=r at *;generalize ys[k]?.getD 0=y at *;have h:=Jq (c+y*2^part) aj;generalize (c+y*2^part) / aj=q at *;generalize (c+y*2^part) % aj=m at *;have b:=congrArg (aj^(whole+k)*·) h;simp only [Qm] at b
  rw [← QV,Qo,Qn,QH,Qm (aj^whole),← d,Qn (aj^k),← Qn (aj^whole) (aj^k),← Qt];omega
theorem gX (k:Nat):aj^k=2^(32*k):=by rw [Jz];rfl
theorem Dr {whole part:Nat}(f:part<32){ys:List Nat}(b:Limbs ys):val (iJ whole part (ah ys (ys.length+1))).1=val ys*2^(32*whole+part):=by
 have h:=Dq whole part ys (ys.length+1);rw [Qv (by omega)] at h
 have h0:(iJ whole part (ah ys (ys.length+1))).2=0:=by
  rw [bL,mQ,Jm (Qb _)];simp only [vH]
  have d:=(qg whole (part:=part) (ah ys ys.length) (fun p a=>by
   obtain ⟨i,_,rfl⟩:=Qw.1 a
   exact aK b i)).2
  have c:2^part≤2^32:=Ql (by omega) (by omega)
  show (_+(none.getD 0)*2^part) / aj=0
  rw [YQ,QI,Jk];apply QR;have:aj=2^32:=rfl;omega
 rw [h0] at h;rw [Jw,Jk] at h;rw [h,gX,Qt,← Qn,← Qn,Qp (val ys)]
def aW (xs:List Nat)(k:Nat):List (Nat × Nat):=(List.range k).map fun j=>(xs.length - 1 - j,xs[xs.length - 1 - j]?.getD 0)
theorem jE (xs:List Nat)(n:Nat):aW xs (n+1)=aW xs n++[(xs.length - 1 - n,xs[xs.length - 1 - n]?.getD 0)]:=by simp [aW,Yk]
theorem lZ (xs:List Nat)(n:Nat):(aW xs n).length=n:=by simp [aW]
theorem pQ (xs:List Nat){k n:Nat}(h:k≤n):aW xs k <+: aW xs n:=by
 obtain ⟨d,rfl⟩:=Yl h
 induction d with
 | zero=>exact List.prefix_refl _
 | succ d a=>rw [← QV,jE];exact (a (by omega)).trans (List.prefix_append _ _)
def sU (d:Nat)(st:List Nat × Nat)(p:Nat × Nat):List Nat × Nat:=(st.1.set p.1 ((st.2*aj+p.2) / d),(st.2*aj+p.2) % d)
def eH (n d:Nat)(ps:List (Nat × Nat)):List Nat × Nat:=ps.foldl (sU d) (List.replicate n 0,0)
theorem mR (n d:Nat)(ps:List (Nat × Nat))(p:Nat × Nat):eH n d (ps++[p])=sU d (eH n d ps) p:=by simp [eH]
theorem mr (n d:Nat)(ps:List (Nat × Nat)):(eH n d ps).1.length=n:=by
 induction ps using fP with
 | h0=>simp [eH]
 | h1 ps p a=>rw [mR];simp [sU,a]
theorem xI {r d x:Nat}(hr:r<d)(a:x<aj):(r*aj+x) / d<aj:=by
 apply Za;have h1:(r+1)*aj≤d*aj:=Ja _ hr;rw [QH,QD] at h1;omega
theorem kr {xs:List Nat}(h:Limbs xs)(i:Nat){y:Nat}(a:y<aj):Limbs (xs.set i y):=by
 intro z b
 rcases List.mem_or_eq_of_mem_set b with h1 | h1
 ·exact h z h1
 ·rw [h1];exact a
theorem jB (n:Nat):Limbs (List.replicate n 0):=fun x a=>by rw [YP a];exact aP
theorem nJ (n:Nat){d:Nat}(a:0<d)(ps:List (Nat × Nat))(b:∀ p ∈ ps,p.2<aj):Limbs (eH n d ps).1∧(eH n d ps).2<d:=by
 induction ps using fP with
 | h0=>exact ⟨jB n,by simpa [eH] using a⟩
 | h1 ps p g =>
  obtain ⟨h1,c⟩:=g (fun q f=>b q (JY _ f));rw [mR];exact ⟨kr h1 _ (xI c (b p (by simp))),Qy _ a⟩
theorem iP (xs:List Nat)(i:Nat)(h:i<xs.length):val (xs.drop i)=xs[i]?.getD 0+aj*val (xs.drop (i+1)):=by
 rw [Xx h,Qs h];rfl
theorem Dt {d:Nat}{xs:List Nat}(k:Nat)(g:k≤xs.length) :
  val ((eH xs.length d (aW xs k)).1.drop (xs.length - k))*d+(eH xs.length d (aW xs k)).2=val (xs.drop (xs.length - k)):=by
 induction k with
 | zero=>simp [aW,eH,val]
 | succ k a =>
  have a:=a (by omega);have f:=mr xs.length d (aW xs k);rw [jE,mR];generalize hi:xs.length - 1 - k=i
  have b:xs.length - (k+1)=i:=by omega
  have c:xs.length - k=i+1:=by omega
  rw [b];rw [c] at a;simp only [sU];generalize (eH xs.length d (aW xs k)).2=r at *;generalize (eH xs.length d (aW xs k)).1=q at *;rw [iP _ i (by simp [f];omega),iP xs i (by omega)];rw [List.drop_set_of_lt (by omega),Ym (by omega),JF];generalize xs[i]?.getD 0=x at *;rw [← a];have h:=Jq (r*aj+x) d;rw [Qp d] at h;generalize (r*aj+x) / d=q1 at *;generalize (r*aj+x) % d=m at *
  rw [QH,Qm aj,Qn aj];rw [Qp r aj] at h;omega
theorem xS {d:Nat}(b:0<d){xs:List Nat}(f:Limbs xs):val (eH xs.length d (aW xs xs.length)).1=val xs / d∧(eH xs.length d (aW xs xs.length)).2=val xs % d:=by
 have h:=Dt (d:=d) (xs:=xs) xs.length (Qb _)
 have a:=(nJ xs.length b (aW xs xs.length) (fun p c=>by
  obtain ⟨i,_,rfl⟩:=Qw.1 c
  exact aK f _)).2
 simp only [Yn,QN] at h;rw [← h];refine ⟨?_,?_⟩
 ·rw [Qp,Nat.mul_add_div b,QR a,Jk]
 ·rw [Qp,Nat.mul_add_mod,Jo a]
def dS (x y:Int):Int:=if x<y then -1 else if y<x then 1 else 0
theorem vL (x:Int):dS x x=0:=by simp [dS]
theorem pW {x y z u:Int}(h1:x<y↔z<u)(a:y<x↔u<z):dS x y=dS z u:=by simp [dS,h1,a]
theorem ku (xs:List Nat)(m:Nat)(h:m<xs.length):val xs=val (xs.take m)+aj^m*(xs[m]?.getD 0+aj*val (xs.drop (m+1))):=by
 rw [← iP xs m h];have:=val_append (xs.take m) (xs.drop m);rw [ZC,Jp,JS (by omega)] at this;exact this
theorem iL {xs:List Nat}(h:Limbs xs)(m:Nat):Limbs (xs.take m):=fun x a=>h x (YR a)
theorem Ii {xs ys:List Nat}(q:Limbs xs)(s:Limbs ys)(o:xs.length=ys.length)(m:Nat)(p:m<xs.length)(d:∀ i,m<i→i<xs.length→xs[i]?.getD 0=ys[i]?.getD 0)(c:xs[m]?.getD 0≠ys[m]?.getD 0) :
  dS (val xs:Int) (val ys:Int)=dS ((xs[m]?.getD 0:Nat):Int) ((ys[m]?.getD 0:Nat):Int):=by
 have n:xs.drop (m+1)=ys.drop (m+1):=by
  apply Yo
  ·simp [o]
  ·intro i h1 t
   have g:m+1+i<xs.length:=by simp at h1;omega
   have l:m+1+i<ys.length:=by omega
   have:=d (m+1+i) (by omega) g;rw [Qs g,Qs l] at this;simpa using this
 have b:=ku xs m p;have f:=ku ys m (by omega);rw [n] at b;have j:=fu (iL q m);have k:=fu (iL s m);rw [Jp,JS (by omega)] at j k;generalize xs[m]?.getD 0=x at *;generalize ys[m]?.getD 0=y at *;generalize val (xs.take m)=u at *;generalize val (ys.take m)=v at *;generalize aj*val (ys.drop (m+1))=D at *;generalize aj^m=P at *
 have a:∀ {u v x y:Nat},u<P→x<y→u+P*(x+D)<v+P*(y+D):=by
  intro u v x y z r;have h1:P*(x+D+1)≤P*(y+D):=Qu _ (by omega);rw [Qm P (x+D) 1,QZ] at h1;omega
 rcases YS c with h | h
 ·have h1:=a (v:=v) j h
  rw [← b,← f] at h1;exact pW (by omega) (by omega)
 ·have h1:=a (v:=u) k h
  rw [← b,← f] at h1;exact pW (by omega) (by omega)
theorem EX {xs ys:List Nat}(b:Canon xs)(c:Canon ys)(d:xs.length≠ys.length):dS (val xs:Int) (val ys:Int)=dS (xs.length:Int) (ys.length:Int):=by
 have a:∀ {xs ys:List Nat},Canon xs→Canon ys→xs.length<ys.length→val xs<val ys:=by
  intro xs ys b c h;have h1:=fu b.1;have f:=jG c (by rintro rfl;simp at h);have g:aj^xs.length≤aj^(ys.length - 1):=Ql aP (by omega);omega
 rcases YS d with h | h
 ·have:=a b c h
  exact pW (by omega) (by omega)
 ·have:=a c b h
  exact pW (by omega) (by omega)
theorem uA:∀ (r:List Nat) (k z:Nat),k<r.length→val (r.set k z)+aj^k*r[k]?.getD 0=val r+aj^k*z:=by
 intro r
 induction r with
 | nil=>intro k z h;simp at h
 | cons x r b =>
  intro k z h
  cases k with
  | zero=>simp [val];omega
  | succ k =>
   have:=b k z (by simpa using h);simp only [Qz,val,Qe,Qo];have a:=congrArg (aj*·) this;simp only [Qm] at a;rw [Qp (aj^k) aj,Qn,Qn];omega
def tlInner (y i:Nat)(ys r:List Nat):Nat→List Nat × Nat
 | 0=>(r,0)
 | j+1 =>
  let st:=tlInner y i ys r j
  let t:=st.2+(y*ys[j]?.getD 0+st.1[i+j]?.getD 0)
  (st.1.set (i+j) (t % aj),t / aj)
def vJ (ys r:List Nat)(p:Nat × Nat):List Nat :=
 (tlInner p.2 p.1 ys r ys.length).1.set (p.1+ys.length) (tlInner p.2 p.1 ys r ys.length).2
def gD (n:Nat)(ys:List Nat)(ps:List (Nat × Nat)):List Nat:=ps.foldl (vJ ys) (List.replicate n 0)
theorem mU (n:Nat)(ys:List Nat)(ps:List (Nat × Nat))(p:Nat × Nat):gD n ys (ps++[p])=vJ ys (gD n ys ps) p:=by simp [gD]
theorem jF (y i:Nat)(ys r:List Nat)(j:Nat):(tlInner y i ys r j).1.length=r.length:=by
 induction j with
 | zero=>rfl
 | succ j a=>simp [tlInner,a]
theorem xJ {c y b r:Nat}(d:c<aj)(f:y<aj)(a:b<aj)(hr:r<aj):c+(y*b+r)<aj*aj:=by
 have h1:y*b≤(aj - 1)*(aj - 1):=JI (by omega) (by omega);unfold aj at *;omega
theorem oJ {y:Nat}(c:y<aj)(i:Nat){ys r:List Nat}(a:Limbs ys)(hr:Limbs r)(j:Nat):Limbs (tlInner y i ys r j).1∧(tlInner y i ys r j).2<aj:=by
 induction j with
 | zero=>exact ⟨hr,aP⟩
 | succ j d =>
  obtain ⟨h1,b⟩:=d;exact ⟨kr h1 _ (Qy _ aP),Za (xJ b c (aK a j) (aK h1 _))⟩
theorem Ca (y i:Nat)(ys r:List Nat)(j:Nat)(f:i+j≤r.length):val (tlInner y i ys r j).1+aj^(i+j)*(tlInner y i ys r j).2=val r+aj^i*(y*val (ys.take j)):=by
 induction j with
 | zero=>simp [tlInner,val]
 | succ j a =>
  have a:=a (by omega);have g:=jF y i ys r j;simp only [tlInner];have hs:=uA (tlInner y i ys r j).1 (i+j) (((tlInner y i ys r j).2+(y*ys[j]?.getD 0+(tlInner y i ys r j).1[i+j]?.getD 0)) % aj) (by omega);generalize (tlInner y i ys r j).1=q at *;generalize (tlInner y i ys r j).2=c at *;generalize q[i+j]?.getD 0=z at *;rw [eP];generalize ys[j]?.getD 0=b at *;have h:=Jq (c+(y*b+z)) aj
  generalize (c+(y*b+z)) / aj=t1 at *;generalize (c+(y*b+z)) % aj=t0 at *;generalize val (q.set (i+j) t0)=V at *;have d:=congrArg (aj^(i+j)*·) h;simp only [Qm] at d;rw [← QV,Qo,Qn,Qm y,Qm (aj^i)]
  have e:aj^i*(y*(aj^j*b))=aj^(i+j)*(y*b):=by
   rw [Qt,Jb y,Qn]
  rw [e];omega
theorem su (y i:Nat)(ys r:List Nat)(j m:Nat)(b:i+j≤m):(tlInner y i ys r j).1[m]?=r[m]?:=by
 induction j with
 | zero=>rfl
 | succ j a =>
  simp only [tlInner];rw [ZE (by omega)];exact a (by omega)
theorem mD (n:Nat)(ys:List Nat)(ps:List (Nat × Nat)):(gD n ys ps).length=n:=by
 induction ps using fP with
 | h0=>simp [gD]
 | h1 ps p a=>rw [mU];simp [vJ,jF,a]
theorem qh (n:Nat){ys:List Nat}(a:Limbs ys)(ps:List (Nat × Nat))(c:∀ p ∈ ps,p.2<aj):Limbs (gD n ys ps):=by
 induction ps using fP with
 | h0=>exact jB n
 | h1 ps p f =>
  have h1:=f (fun q d=>c q (JY _ d));have b:=oJ (c p (by simp)) p.1 a h1 ys.length;rw [mU];exact kr b.1 _ b.2
theorem xU (xs ys:List Nat)(k:Nat)(j:k≤xs.length) :
  val (gD (xs.length+ys.length) ys (ah xs k))=val (xs.take k)*val ys∧∀ m,k+ys.length≤m→(gD (xs.length+ys.length) ys (ah xs k))[m]?.getD 0=0:=by
 induction k with
 | zero =>
  refine ⟨by simp [ah,gD,ko,val],fun m _=>?_⟩;simp only [ah,gD,List.range_zero,List.map_nil,List.foldl_nil]
  by_cases h:m<xs.length+ys.length
  ·simp [h]
  ·rw [Jm (by simp;omega)];rfl
 | succ k i =>
  obtain ⟨h1,b⟩:=i (by omega);have l:=mD (xs.length+ys.length) ys (ah xs k);rw [bL,mU];generalize gD (xs.length+ys.length) ys (ah xs k)=r at *;simp only [vJ];have g:=Ca (xs[k]?.getD 0) k ys r ys.length (by omega);have ha:=su (xs[k]?.getD 0) k ys r ys.length (k+ys.length) (Qb _)
  have a:∀ m,k+ys.length≤m→(tlInner (xs[k]?.getD 0) k ys r ys.length).1[m]?=r[m]?:=fun m d=>su _ k ys r ys.length m d
  have f:=jF (xs[k]?.getD 0) k ys r ys.length;generalize (tlInner (xs[k]?.getD 0) k ys r ys.length).1=q at *;generalize (tlInner (xs[k]?.getD 0) k ys r ys.length).2=c at *;have hs:=uA q (k+ys.length) c (by omega);rw [ha,b _ (Qb _)] at hs;refine ⟨?_,fun m d=>?_⟩
  ·rw [eP,QH,← h1]
   rw [Qv (Qb _)] at g;rw [Qn];omega
  ·rw [ZE (by omega),a m (by omega)]
   exact b m (by omega)
end Go.Proofs.YtagjhmodblifbaaGreatDoor
namespace Go.Proofs.YtagjhmodblifbaaGreatDoor
open Go.Proofs.Tryz
open Go Go.RowKit Go.Shelf
attribute [local go_sem] Jc
theorem aG:prog.underlying 22=some (.slice 128):=by kernel_rfl
theorem fV:(prog.info? 128).map (fun i=>(i.zero,i.size,i.bytes))=some (some (.int .u32 0),1,4):=by kernel_rfl
theorem bZ (w:World):(sizeOf 128).run prog w=.ok 1 w:=by kernel_rfl
def zeros (n:Nat):Array Value:=Array.replicate n (.int .u32 0)
theorem fw (i j:Int)(h0:0≤i)(b:i≤j)(h:j≤10000000)(w:World) :
  (Instr.makeSlice 22 (vI i) (vI j)).run prog w=.ok (.slice (some ⟨w.heap.size,0,none⟩) i.toNat j.toNat) (w.alloc (.cells (zeros j.toNat) 128)):=by
 obtain ⟨c,hi,a⟩:=Js.1 fV;simp only [Prod.mk.injEq] at a;obtain ⟨f,hs,d⟩:=a;rw [run_make w _ _ c (.int .u32 0) aG hi f .i64 .i64 i j h0 b (by rw [d];omega) (by omega),hs,QZ]
 have e:madeCells (Value.int .u32 0).cells j.toNat=zeros j.toNat:=by
  apply Array.ext
  ·simp [madeCells,zeros]
  ·intro k h1 g
   simp [madeCells,zeros,Value.cells,Nat.mod_one]
 rw [e]
theorem lI (w:World)(base m:Nat)(a:base≤w.heap.size)(b:m≤10000000) :
  (w.alloc (.cells (zeros m) 128)).ownsRow base 128 1 (.slice (some ⟨w.heap.size,0,none⟩) 0 m) 0 [] :=
 YT w (zeros m) m a (by unfold maxLen;omega) (by simp [zeros])
theorem xc (w:World)(base l m:Nat)(a:l≤m)(b:base≤w.heap.size)(c:m≤10000000) :
  (w.alloc (.cells (zeros m) 128)).ownsRow base 128 1 (.slice (some ⟨w.heap.size,0,none⟩) l m) l ((List.replicate l 0).map fun (x:Nat)=>Value.int .u32 (x:Int)):=by
 refine ⟨by simp,.inr ⟨w.heap.size,m,zeros m,rfl,b,ZF w _,a,by unfold maxLen;omega,by simp [zeros],?_⟩⟩;simp [zeros,List.take_replicate];omega
def aF (xs:List Nat):List Value:=xs.map fun (x:Nat)=>Value.int .u32 (x:Int)
theorem jA (xs:List Nat)(x:Nat):aF (xs++[x])=aF xs++[.int .u32 (x:Int)]:=by simp [aF]
theorem iG (xs:List Nat):(aF xs).length=xs.length:=by simp [aF]
abbrev dA (n:Nat):={ p:Nat × Nat // p.1<n∧p.2<aj }
def ow {n:Nat}(p:dA n):Array Value:=#[vI (p.1.1:Int),.int .u32 (p.1.2:Int)]
def oh (n0 Ba:Nat)(W W':World):Prop:=Below n0 W W'∧W'.heap[Ba]?=W.heap[Ba]?
theorem oh.refl (n0 a:Nat)(W:World):oh n0 a W W:=⟨Qj _ _,rfl⟩
theorem oh.trans {n0 a:Nat}{A B C:World}(h:oh n0 a A B)(k:oh n0 a B C):oh n0 a A C:=⟨h.1.trans k.1,k.2.trans h.2⟩
theorem oh.book {n0 a:Nat}{w:World}(g:n0≤w.heap.size)(c:a<w.heap.size)(W:World)(l:Nat)(o b:Obj)(f:w.heap.size≤l)(h:W.heap[l]?=some o)(d:o.isCells=false)(i:o.isWalk=false):oh n0 a W (W.putObj l b) :=
 ⟨belowK_b g W l o b f h d i,QS (by omega)⟩
theorem oh.boxed {n0 a:Nat}{A B:World}{t:TypeId}{v:Value}(h:Below n0 A B)(ha:Boxed A a t v)(b:Boxed B a t v):oh n0 a A B:=⟨h,Eq.trans b ha.symm⟩
theorem oh.cell {n0 a:Nat}{A B:World}(h:oh n0 a A B):B.cell? ⟨a,0,none⟩=A.cell? ⟨a,0,none⟩:=Jd h.2
theorem FN (F:Fence)(n:Nat)(R:F.fn 244)(G:F.round=none)(hn:1≤n)(l I t n0 many:Nat)(v:Value)(xs:List Nat)(V:Limbs xs)(D:many≤1000000)
  (J L:List (dA many)→World→Prop)
  (S:∀ b x W,J b W→b.length<many→YieldAt F (n - 1) prog l (ow x) W fun e s =>
   (e=.returned (.bool true)∧J (b++[x]) s∧oh n0 t W s)∨(e=.returned vF∧L (b++[x]) s))
  (W:World) (hm:W.cell? ⟨I,0,none⟩=some (vI many)) (ha:W.cell? ⟨t,0,none⟩=some v) (N:Reads .u32 W v xs)
  (H:∀ a n c,v=.slice (some a) n c→xs≠[]→a.block<n0) (h0:J [] W) :
  CallsIn F n prog 244 #[.func (.yield l) #[] #[],vP I,vP t] W fun e s=>(∃ v,e=.returned v) ∧
   ((∃ ys:List (dA many),ys.map (·.1)=ah xs many∧J ys s)∨(∃ b:List (dA many),b.map (·.1) <+: ah xs many∧L b s)):=by
 obtain ⟨a,B,rfl,Y,E⟩:=N.form;unfold maxLen at E;refine callsIn_of_wp func244 rfl R ?_ G;simp only [ntmps244,Je,QE,QG,Nat.reduceAdd,Nat.reduceSub,Jf,Jg,Jh,Ji,QW,QL]
 gi_wp2
 gi_loopw [7] (fun i wr=>∃ (k:Nat) (b:List (dA many)),k≤many∧i=vI k∧b.map (·.1)=ah xs k∧J b wr∧oh n0 t W wr)
  (fun i _=>many - (intOf i).toNat)
 case atStart=>exact ⟨0,[],QF _,rfl,rfl,h0,oh.refl _ _ _⟩
 case round =>
  obtain ⟨k,b,Z,rfl,d,u,m⟩:=hrel
  have r:b.length=k:=by have:=congrArg List.length d;simpa [bR] using this
  have T:wr.cell? ⟨t,0,none⟩=some (.slice a xs.length B):=m.cell.trans ha
  by_cases j:k<many
  ·obtain ⟨x,f⟩:∃ x,xs[k]?.getD 0=x:=⟨_,rfl⟩
   have z:x<aj:=by rw [← f];exact aK V k
   obtain ⟨fn,tmps,assign,body,O,M⟩:=S b ⟨(k,x),j,z⟩ wr u (by omega)
   have h:(b++[(⟨(k,x),j,z⟩:dA many)]).map (·.1)=ah xs (k+1):=by
    rw [JJ,d,bL,f];rfl
   simp only [ow] at O;have y:=N.uz H m.1;clear d r;have A:=Qa h;clear h
   by_cases C:k<xs.length
   ·have U:=y.index aG bZ k .i64
    have p:=y.cell k C;rw [f] at p;clear f
    gi_wp2
    refine M.mono ?_;rintro e Q (⟨rfl,o,q⟩ | ⟨rfl,g⟩)
    ·gi_wp2
     go_roundw
     case rel=>exact ⟨k+1,_,by omega,by simp,A.out,o,m.trans q⟩
     case measure=>simp [intOf];omega
    ·gi_wp2
     refine bodyPost_ret (results_none rfl _ _ _) rfl ?_;exact ⟨⟨_,rfl⟩,.inr ⟨_,by rw [A.out];exact lX xs j,g⟩⟩
   ·have X:x=0:=by rw [← f,Jm (by omega)];rfl
    subst X;clear f;rw [show ((0:Nat):Int)=0 from rfl] at O
    gi_wp2
    refine M.mono ?_;rintro e Q (⟨rfl,o,q⟩ | ⟨rfl,g⟩)
    ·gi_wp2
     go_roundw
     case rel=>exact ⟨k+1,_,by omega,by simp,A.out,o,m.trans q⟩
     case measure=>simp [intOf];omega
    ·gi_wp2
     refine bodyPost_ret (results_none rfl _ _ _) rfl ?_;exact ⟨⟨_,rfl⟩,.inr ⟨_,by rw [A.out];exact lX xs j,g⟩⟩
  ·obtain rfl:k=many:=by omega
   gi_wp2
   go_end0
   exact ⟨⟨_,rfl⟩,.inl ⟨_,d,u⟩⟩
theorem jH (v:Value)(many:Int)(w:World)(c:∃ a n b,v=.slice a n b) :
  Calls prog 218 #[v,vI many] w fun e d =>
   e=.returned (.func (.func 244) #[] #[vP (w.heap.size+1),vP w.heap.size]) ∧
   (w.alloc (.cells #[v] 22)).alloc (.cells #[vI many] 3)=d:=by
 obtain ⟨a,n,b,rfl⟩:=c;go_enter func218,ntmps218;go_wp2;go_ret;exact ⟨rfl,rfl⟩
def cZ (a:Act)(p1 p2 d1 d2:Nat)(x y:Value):Act:={ tmps:=(((a.tmps.setIfInBounds p1 x).setIfInBounds p2 y).setIfInBounds d1 x).setIfInBounds d2 y,defers:=[] }
theorem Cb (F:Fence)(n:Nat)(s:F.fn 244)(o:F.round=none)(x:1≤n)(f d n0 many:Nat)(v:Value)(xs:List Nat)(z:Limbs xs)(b:many≤1000000)
  (w:World) (j:f<w.heap.size) (i:d<w.heap.size) (m:n0≤w.heap.size) (u:w.cell? ⟨f,0,none⟩=some (vI many)) (ha:w.cell? ⟨d,0,none⟩=some v) (y:Reads .u32 w v xs)
  (g:∀ a n c,v=.slice (some a) n c→xs≠[]→a.block<n0) :
  SeqStopsK F n prog 244 #[vP f,vP d] (ow (n:=many)) (oh n0 d)
   (fun ys=>ys.map (·.1)=ah xs many) (fun q=>q.map (·.1) <+: ah xs many) many w:=fun l J r W k _ _ t h0=>by
 have h:=k.mono m;exact FN F n s o x l f d n0 many v xs z b J r t W ((k.cell (p:=⟨f,0,none⟩) j).trans u) ((k.cell (p:=⟨d,0,none⟩) i).trans ha) (y.uz g h) g h0
theorem iE {g:Operand}{q r:Tmp}{assign body:Code}{Q:Exit→Act→World→Prop}{a:Act}{w:World}(t u m k n0 many:Nat)(v:Value)(xs:List Nat)
  (C:a.eval g=.func (.func 244) #[] #[vP m,vP k])
  (H:Limbs xs) (i:many≤1000000) (y:m<w.heap.size) (o:k<w.heap.size) (p:n0≤w.heap.size) (E:w.cell? ⟨m,0,none⟩=some (vI many)) (ha:w.cell? ⟨k,0,none⟩=some v) (G:Reads .u32 w v xs)
  (A:∀ a n c,v=.slice (some a) n c→xs≠[]→a.block<n0)
  (I:List (dA many)→World→Prop) (s:Code→List (dA many)→World→Prop) (B:OwnFrom w.heap.size I) (z:∀ c,OwnFrom w.heap.size (s c)) (h0:I [] w)
  (d:∀ (l:Nat) (x:dA many) (W:World) (K:Act→World→Prop),K (cZ a q r t u (vI (x.1.1:Int)) (.int .u32 (x.1.2:Int))) W →
   assign.wpIn (Fence.wide.inRound l) 7 prog (Exit.then K (fun _ _ _=>False)) { tmps:=(a.tmps.setIfInBounds q (vI (x.1.1:Int))).setIfInBounds r (.int .u32 (x.1.2:Int)),defers:=[] } W)
  (f:∀ (l:Nat) (b:List (dA many)) (x:dA many) (W:World),I b W→b.length<many→body.wpIn (Fence.wide.inRound l) 7 prog (ownPostG w.heap.size (oh n0 k) I s (b++[x]) W) (cZ a q r t u (vI (x.1.1:Int)) (.int .u32 (x.1.2:Int))) W)
  (h:∀ (D:Nat) (ys:List (dA many)) (W:World),w.heap.size≤D→ys.map (·.1)=ah xs many→I ys W→W.heap[D]?=some (.deferred (some []))→Q .normal { a with defers:={ target:=.collected D,args:=#[] }::a.defers } W)
  (j:∀ (D:Nat) (c:Code) (b:List (dA many)) (W:World),w.heap.size≤D→b.map (·.1) <+: ah xs many→s c b W→W.heap[D]?=some (.deferred (some []))→c.wpIn Fence.wide 9 prog Q { a with defers:={ target:=.collected D,args:=#[] }::a.defers } W) :
  (Code.rangeFunc g #[q,r] assign body).wpIn Fence.wide 9 prog Q a w :=
 wpIn_rangeFunc_ownG (n:=9) (F:=Fence.wide) rfl (by omega) (gf:=244) (lb:=#[vP m,vP k]) C trivial (enters_of func244 (by kernel_rfl) rfl)
  (Cb Fence.wide (9 - 1) trivial rfl (by omega) m k n0 many v xs H i w y o p E ha G A) oh.trans (oh.book p o) (Qj _ _) (fun _=>rfl) I s B z h0
  (fun x=>cZ a q r t u (vI (x.1.1:Int)) (.int .u32 (x.1.2:Int))) (fun l x W K hK=>by simpa [ow] using d l x W K hK) f h j
end Go.Proofs.YtagjhmodblifbaaGreatDoor
namespace Go.Proofs.YtagjhmodblifbaaGreatDoor
open Go.Proofs.Tryz
open Go
def gT (F:Fence):Prop:=F=Fence.wide∨∃ l,F=Fence.wide.inRound l
theorem gT.fn {F:Fence}(h:gT F)(f:FuncId):F.fn f:=by rcases h with rfl | ⟨l,rfl⟩ <;> trivial
theorem gT.depth {F:Fence}(h:gT F):F.depth.isSome=true→False:=by rcases h with rfl | ⟨l,rfl⟩ <;> simp [Fence.wide]
theorem gT.calls {F:Fence}(h:gT F){n:Nat}{P:Program}{f:FuncId}{args:Array Value}{w:World}{R:Ending→World→Prop}(a:Calls P f args w R):CallsIn F n P f args w R:=by
 rcases h with rfl | ⟨l,rfl⟩
 ·exact callsIn_wide.2 a
 ·exact CallsIn.inRound l (callsIn_wide.2 a)
theorem yE {P:Program}{C:World→Prop}{o:Oper}{a:Act}{v:Value}{w:World}(h:o.quietAt P a C w v):∀ c,o.op≠.defer c:=by
 intro c b;unfold Oper.quietAt at h;simp only [execOp,b,Sem.run_bind] at h;generalize (resolve a.eval c o.type).run P w=r at h
 cases r <;> simp [Result.andThen,Oper.quietUpon] at h
theorem wpIn_of_quiet {P:Program}{C:World→Prop}{F:Fence}(k:gT F){n:Nat}{o:Oper}{a:Act}{K:Act→Prop}{p:Act→World→Prop}{Q':Exit→Act→World→Prop}{w:World}(m:C w)(h:∀ a g,C g→K a→p a g)
  (y:o.quiet P a C K):o.wpIn F n P a w p Q':=by
 obtain ⟨v,h1,j⟩:=y;have b:=h1 w m;have l:=yE b;refine ⟨fun _ _=>k.fn _,?_⟩;rw [Oper.semAt_plain _ _ _ l];unfold Oper.quietAt at b;generalize (execOp a.eval o).run P w=r at *
 cases r with
 | ok x g =>
  cases x <;> simp only [Oper.quietUpon] at b <;> simp only [Oper.uponIn]
  case value u =>
   obtain ⟨c,i⟩:=b;rw [c,i];exact h _ _ m j
  case skip =>
   obtain ⟨c,i⟩:=b;rw [c,← i];exact h _ _ m j
  case enter f args =>
   obtain ⟨c,q⟩:=b;rw [c];refine ⟨fun s=>(k.depth s).elim,?_⟩;exact k.calls (q.mono fun e z ⟨t,d⟩=>by subst t;exact h _ _ d j)
 | halt x g=>simp only [Oper.quietUpon] at b
theorem yV {P:Program}{C:World→Prop}{F:Fence}(k:gT F){n:Nat}{c:Array Oper}{i:Nat}{a:Act}{K:Act→Prop}{j:Act→World→Prop}{Q':Exit→Act→World→Prop}{w:World}(d:C w)(h:∀ a l,C l→K a→j a l)
  (b:qOp P c C i K a):wpOpIn F n P c Q' i j a w:=by
 unfold qOp at b;unfold wpOpIn;split
 ·rename_i f;simp only [f] at b;exact h _ _ d b
 ·rename_i o f
  simp only [f] at b;split
  ·rename_i g;simp only [g,if_true] at b;exact wpIn_of_quiet k d h b
  ·rename_i g;simp only [g] at b;exact ⟨fun _ _=>k.fn _,h _ _ d b⟩
theorem wpAnyIn_of_quiet {P:Program}{md:Region.Mode}{C:World→Prop}{F:Fence}(f:gT F){n:Nat}{b:Array Oper}{Q:Act→Prop}{Q':Exit→Act→World→Prop}(c:∀ a w,C w→Q a→Q' .normal a w):∀ (fuel:Nat) (listed:Array Bool) (a:Act) (w:World),C w →
  wpAnyQ P md b C Q fuel listed a→wpAnyIn F n P md b Q' fuel listed a w
 | 0,_,_,_,hw,h=>⟨h.1,c _ _ hw h.2⟩
 | fuel+1,_,_,_,hw,h=>⟨fun h0=>c _ _ hw (h.1 h0),fun i hi=>yV f hw (fun g j d=>wpAnyIn_of_quiet f c fuel _ g j d) (h.2 i hi)⟩
theorem uM {P:Program}{F:Fence}(i:gT F){n:Nat}{id:Nat}{Q:Exit→Act→World→Prop}{a:Act}{w:World}{c:List Oper}(j:P.follows .mixedOrders=true)(f:Region.lexB .any c.toArray=true)
  (h:wpQuiet P c.toArray (fun b=>∃ n,b=w.drewN n) (fun d=>∀ b,(∃ n,b=w.drewN n)→Q .normal d b) c a):(Code.region id c.toArray true).wpIn F n P Q a w:=by
 simp only [Region.lexB,Jt] at f;refine wpIn_region_any j (wpAnyIn_of_quiet i (C:=fun b=>∃ n,b=w.drewN n) (Q:=fun d=>∀ b,(∃ n,b=w.drewN n)→Q .normal d b) (fun _ b g h=>h b g) _ _ _ _ ⟨1,rfl⟩ ?_);have:=wpAnyQ_lex (C:=fun b=>∃ n,b=w.drewN n) (md:=.any) f.1 c.toArray.toList 0 (Array.replicate c.toArray.size false) a (by simp) (by simpa using f.2) (by simpa using h)
 simpa using this
theorem yF {P:Program}{o:Oper}{a:Act}{w:World}{K:Act→Prop}(h:o.still P a w K):∀ c,o.op≠.defer c:=by
 intro c b;unfold Oper.still at h;simp only [execOp,b,Sem.run_bind] at h;generalize (resolve a.eval c o.type).run P w=r at h
 cases r <;> simp [Result.andThen,Oper.stillUpon] at h
theorem yX {P:Program}{F:Fence}(d:gT F){n:Nat}{o:Oper}{a:Act}{w:World}{K:Act→Prop}{i:Act→World→Prop}{Q':Exit→Act→World→Prop}(h:∀ a,K a→i a w)(b:o.still P a w K):o.wpIn F n P a w i Q':=by
 have g:=yF b;refine ⟨fun _ _=>d.fn _,?_⟩;rw [Oper.semAt_plain _ _ _ g];unfold Oper.still at b;generalize (execOp a.eval o).run P w=r at *
 cases r with
 | ok x p =>
  cases x <;> simp only [Oper.stillUpon] at b <;> simp only [Oper.uponIn]
  case value u=>obtain ⟨rfl,c⟩:=b;exact h _ c
  case skip=>obtain ⟨rfl,c⟩:=b;exact h _ c
  case enter f args =>
   obtain ⟨rfl,v,j,c⟩:=b;refine ⟨fun k=>(d.depth k).elim,?_⟩;exact d.calls (j.mono fun e q ⟨l,m⟩=>by subst l;subst m;exact h _ c)
 | halt x p=>simp only [Oper.stillUpon] at b
theorem yG {P:Program}{F:Fence}(j:gT F){n:Nat}{c:Array Oper}{i:Nat}{a:Act}{w:World}{K:Act→Prop}{g:Act→World→Prop}{Q':Exit→Act→World→Prop}(h:∀ a,K a→g a w)
  (b:stOp P c w i K a):wpOpIn F n P c Q' i g a w:=by
 unfold stOp at b;unfold wpOpIn;split
 ·rename_i d;simp only [d] at b;exact h _ b
 ·rename_i o d
  simp only [d] at b;split
  ·rename_i f;simp only [f,if_true] at b;exact yX j h b
  ·rename_i f;simp only [f] at b;exact ⟨fun _ _=>j.fn _,h _ b⟩
theorem qw {P:Program}{md:Region.Mode}{F:Fence}(c:gT F){k:Nat}{b:Array Oper}{w:World}{n g:Nat}{L:Array Bool→Act→Prop}{Q':Exit→Act→World→Prop}
  (d:∀ listed a,L listed a→wpAnyIn F k P md b Q' g listed a w) :
  ∀ (f:Nat) (listed:Array Bool) (a:Act),wpAnyL P md b w n L f listed a→wpAnyIn F k P md b Q' (f+g) listed a w
 | 0,listed,a,h=>by rw [QJ];exact d _ _ h
 | f+1,listed,a,h=>by
  rw [show f+1+g=(f+g)+1 by omega];exact ⟨fun h0=>absurd h0 h.1,fun i hi=>yG c (fun j l=>qw c d f _ j l) (h.2 i hi).2⟩
theorem rf {P:Program}{md:Region.Mode}{F:Fence}(m:gT F){k0:Nat}{b:Array Oper}{Q':Exit→Act→World→Prop}:∀ (l:List Oper) (k:Nat) (listed:Array Bool) (a:Act) (w:World),(∀ j,l[j]?=b[k+j]?) →
  Region.seqB md b l.length k listed=true→wpListIn F k0 P b Q' l a w→wpAnyIn F k0 P md b Q' l.length listed a w
 | [],_,_,_,_,_,hB,h=>⟨by simpa [Region.seqB] using hB,h⟩
 | o::l,k,listed,a,w,hl,hB,h=>by
  have h0:b[k]?=some o:=by simpa using (hl 0).symm
  simp only [QE,Region.seqB,Jt,decide_eq_true_eq] at hB;refine ⟨fun h1=>(by rw [hB.1] at h1;cases h1),fun i hi=>?_⟩;rw [hB.1] at hi
  have c:i=k:=by simpa using hi
  subst c
  have n:wpOpIn F k0 P b Q' i (wpListIn F k0 P b Q' l) a w:=by
   unfold wpOpIn;simp only [h0];unfold wpListIn at h;split at h
   ·rename_i d;rw [if_pos d];exact h
   ·rename_i d;rw [if_neg d];exact h
  exact wpOpIn_mono (fun f p g=>rf m l (i+1) _ f p (fun j=>by have:=hl (j+1);simpa [QV,Zn 1 j] using this) hB.2 g) n
theorem gH {P:Program}{F:Fence}(q:gT F){k:Nat}{id:Nat}{Q:Exit→Act→World→Prop}{a:Act}{w:World}{l:List Oper}(n:Nat)(y:P.follows .mixedOrders=true)(p:Region.lexTailB .any l.toArray n=true)
  (h:wpStill P l.toArray w.drew (fun m=>wpListIn F k P l.toArray Q (l.drop n) m w.drew) (l.take n) a):(Code.region id l.toArray true).wpIn F k P Q a w:=by
 simp only [Region.lexTailB,Jt,decide_eq_true_eq] at p;obtain ⟨⟨⟨⟨f,v⟩,hs⟩,x⟩,d⟩:=p
 have z:n<l.length:=by simpa using v
 have b:(l.take n).length=n:=by simp;omega
 have c:(l.drop n).length=l.toArray.size - n:=by simp
 have i:HeadInv .any l.toArray n (Array.replicate l.toArray.size false) :=
  ⟨by simp,fun j B _ u=>(by rw [getD_replicate_false] at u;cases u),fun t _ A=>getD_in (by simpa using A) (getD_replicate_false _ _)⟩
 have H:=wpAnyL_lex (md:=.any) (g:=l.toArray.size - n) f hs x v (l.take n) 0 _ a (fun j s=>by
  have o:j<n:=by rw [b] at s;exact s
  simp [o]) (by simpa using b) i (by rw [b];exact d) h
 refine wpIn_region_any y ?_
 have:=qw q (Q':=Q) (g:=l.toArray.size - n) (fun listed m r=>by
  have:=rf (md:=.any) q (Q':=Q) (l.drop n) n listed m w.drew (fun j=>by simp) (by rw [c];exact r.1) r.2
  rwa [c] at this) _ _ _ H
 rw [b,show n+(l.toArray.size - n)=l.toArray.size by omega] at this;exact this
end Go.Proofs.YtagjhmodblifbaaGreatDoor
namespace Go.Proofs.YtagjhmodblifbaaGreatDoor
open Go.Proofs.Tryz
open Go Go.RowKit
structure dF (S:Nat→Prop) (W W':World):Prop where
 os:W'.os=W.os
 tape:W'.tape=W.tape
 output:W'.output=W.output
 size:W.heap.size≤W'.heap.size
 block:∀ k,k<W.heap.size→¬S k→W'.heap[k]?=W.heap[k]?
section
variable {S:Nat→Prop} {A W W':World}
theorem dF.refl (S:Nat→Prop)(W:World):dF S W W:=⟨rfl,rfl,rfl,Qb _,fun _ _ _=>rfl⟩
theorem dF.trans {B:World}(h:dF S A B)(k:dF S B W):dF S A W :=
 ⟨k.os.trans h.os,k.tape.trans h.tape,k.output.trans h.output,Qd h.size k.size,fun i hi hs=>(k.block i (Qf hi h.size) hs).trans (h.block i hi hs)⟩
theorem dF.mono {a:Nat→Prop}(h:dF S A W)(hs:∀ k,S k→a k):dF a A W:=⟨h.os,h.tape,h.output,h.size,fun k b c=>h.block k b (fun e=>c (hs k e))⟩
theorem dF.drew (h:dF S A W):dF S A W.drew:=⟨h.os,h.tape,h.output,h.size,h.block⟩
theorem dF.alloc (h:dF S A W)(o:Obj):dF S A (W.alloc o) :=
 ⟨h.os,h.tape,h.output,by have:=h.size;simp;omega,fun k a hs=>(Zo W o k (Qf a h.size)).trans (h.block k a hs)⟩
theorem dF.setCell (h:dF S A W){p:Addr}(b:S p.block∨A.heap.size≤p.block)(u:Value):dF S A (W.setCell p u) :=
 ⟨h.os,h.tape,h.output,by have:=h.size;simp;omega,fun k a hs=>(JG W p u k (by rintro rfl;rcases b with h1 | h1;exact hs h1;omega)).trans (h.block k a hs)⟩
theorem dF.grown (h:dF S A W){row:Option Nat}(a:W.grownBy W' row)(hr:∀ k,row=some k→S k∨A.heap.size≤k):dF S A W' :=
 ⟨a.os.trans h.os,a.tape.trans h.tape,a.output.trans h.output,Qd h.size a.size,fun k b hs =>
  (a.block k (Qf b h.size) (fun e=>by rcases hr k e.symm with h1 | h1;exact hs h1;omega)).trans (h.block k b hs)⟩
theorem dF.uB {B:Nat}(h:Below B A W):dF (fun k=>B≤k) A W:=⟨h.os,h.tape,h.output,h.size,fun k _ hs=>h.block k (by omega)⟩
theorem dF.aU (h:dF S A W)(a:bW W W'):dF S A W' :=
 ⟨a.os.trans h.os,a.tape.trans h.tape,a.output.trans h.output,Qd h.size a.size,fun k b hs=>(a.block k (Qf b h.size)).trans (h.block k b hs)⟩
theorem dF.below {B:Nat}(h:dF S A W)(hs:∀ k,S k→B≤k)(a:B≤A.heap.size):Below B A W:=⟨h.os,h.tape,h.output,h.size,fun k b=>h.block k (by omega) (fun e=>by have:=hs k e;omega)⟩
theorem dF.boxed (h:dF S A W){B:Nat}{t:TypeId}{v:Value}(a:Boxed A B t v)(hs:¬S B):Boxed W B t v:=(h.block B a.lt hs).trans a
theorem dF.fH (h:dF S A W)(B:Nat)(hs:∀ k,S k→∀ o,A.heap[k]?=some o→o.isCells=true):KeepsFrom B A W :=
 ⟨h.size,fun k o _ a b=>(h.block k (QT.1 a).1 (fun e=>by rw [hs k e o a] at b;cases b)).trans a⟩
theorem dF.cell (h:dF S A W){p:Addr}{v:Value}(a:A.cell? p=some v)(hs:¬S p.block):W.cell? p=some v :=
 (Jd (h.block p.block (JE A p a) hs)).trans a
end
def Off (S:Nat→Prop)(v:Value)(xs:List Nat):Prop:=∀ a n c,v=.slice (some a) n c→xs≠[]→¬S a.block
theorem dF.reads {S:Nat→Prop}{A W:World}(h:dF S A W){k:IntKind}{v:Value}{xs:List Nat}(hr:Reads k A v xs)(hs:Off S v xs):Reads k W v xs:=by
 obtain ⟨a,d,rfl,i,l,f⟩:=hr;refine ⟨a,d,rfl,i,l,fun j c=>⟨(f j c).1,?_⟩⟩;obtain ⟨⟨b,off,rfl⟩,g⟩:=f j c;exact h.cell g (hs ⟨b,off,none⟩ _ _ rfl (by intro e;simp [e] at c))
theorem Reads.lt {k:IntKind}{w:World}{v:Value}{xs:List Nat}(h:Reads k w v xs):∀ a n c,v=.slice (some a) n c→xs≠[]→a.block<w.heap.size:=by
 intro a n c l m;obtain ⟨o,d,rfl,p,q,i⟩:=h;cases l;have j:0<xs.length:=Zb.2 m;obtain ⟨⟨b,off,g⟩,f⟩:=i 0 j;cases g;exact JE w _ f
theorem Boxed.isCells {W:World}{B:Nat}{t:TypeId}{v:Value}(h:Boxed W B t v):∀ o,W.heap[B]?=some o→o.isCells=true:=fun o a=>by rw [show W.heap[B]?=_ from h] at a;cases a;rfl
theorem jR {W:World}{base:Nat}{e:TypeId}{size:Nat}{v:Value}{n:Nat}{xs:List Value}(h:W.ownsRow base e size v n xs){g:Nat}(a:v.ownBlock=some g):∀ o,W.heap[g]?=some o→o.isCells=true:=by
 rcases h.2 with ⟨rfl,_⟩ | ⟨g',cap,cur,rfl,_,hgb,_⟩
 ·simp [Value.ownBlock] at a
 ·obtain rfl:g'=g:=by simpa [Value.ownBlock] using a
  intro o b;rw [hgb] at b;cases b;rfl
theorem mE (w:World)(x:Value)(t:TypeId)(b:Nat)(a:b=w.heap.size):∀ j u,[x][j]?=some u→((w.alloc (.cells #[x] t)).drew).cell? ((⟨b,0,none⟩:Addr).add j)=some u:=by
 subst a;exact cell_one_new w x t
theorem dI (w:World)(x:Value)(t:TypeId)(b:Nat)(a:b=w.heap.size):∀ j u,[x][j]?=some u→(w.alloc (.cells #[x] t)).cell? ((⟨b,0,none⟩:Addr).add j)=some u:=by
 subst a;exact cell_one_new w x t
theorem Boxed.at {W:World}{B B':Nat}{t:TypeId}{v:Value}(h:Boxed W B t v)(e:B=B'):Boxed W B' t v:=e ▸ h
theorem Boxed.drew {W:World}{B:Nat}{t:TypeId}{v:Value}(h:Boxed W B t v):Boxed W.drew B t v:=h
theorem iM {β γ:Type}{B:Nat}{I:γ→β→World→Prop}(h:∀ v,OwnFrom B (I v)):OwnFrom B (fun s W=>∃ v,I v s W):=fun s W a row ⟨v,c⟩ b hr=>⟨v,h v s W a row c b hr⟩
theorem aB {β:Type}{B':Nat}(B:Nat)(t:TypeId)(f:β→Value):OwnFrom B' (fun s W=>Boxed W B t (f s)):=Own.from (boxed_own B t f) _
theorem mV {β:Type}{B':Nat}(n0:Nat)(e:TypeId)(size:Nat)(v:Value)(k:β→Nat)(f:β→List Value):OwnFrom B' (fun s W=>W.ownsRow n0 e size v (k s) (f s)):=fun s W h row hs d hr =>
 hs.kept d (by
  rcases hs.2 with ⟨rfl,_⟩ | ⟨g,cap,cur,rfl,_,hgb,_⟩
  ·exact .inl rfl
  ·refine .inr fun b=>?_
   obtain ⟨_,o,a,c⟩:=hr g b.symm
   rw [hgb] at a;cases a;cases c)
theorem yY {β:Type}{B':Nat}(k:IntKind)(v:Value)(f:β→List Nat):OwnFrom B' (fun s W=>Reads k W v (f s)):=fun s W p row hs l hr=>by
 obtain ⟨a,c,rfl,i,m,h⟩:=hs;refine ⟨a,c,rfl,i,m,fun j b=>⟨(h j b).1,?_⟩⟩;refine l.cell (h j b).2 (fun e=>?_);obtain ⟨_,o,n,g⟩:=hr _ e.symm;have d:=(h j b).2;unfold World.cell? at d;rw [n] at d
 cases o <;> simp [Obj.isCells] at g d
theorem Reads.drewN {k:IntKind}{W:World}{v:Value}{xs:List Nat}(h:Reads k W v xs)(n:Nat):Reads k (W.drewN n) v xs:=h
theorem Reads.putObj {k:IntKind}{W:World}{v:Value}{xs:List Nat}(h:Reads k W v xs){D:Nat}{o:Obj}(b:W.heap[D]?=some o)(c:o.isCells=false)(a:Obj):Reads k (W.putObj D a) v xs :=
 (yY (β:=Unit) (B':=0) k v (fun _=>xs)).putObj (s:=()) a h (QF _) b c
theorem nE {W:World}{base:Nat}{e:TypeId}{size:Nat}{v:Value}{n:Nat}{xs:List Value}(h:W.ownsRow base e size v n xs){D:Nat}{o:Obj}(c:W.heap[D]?=some o)(a:o.isCells=false):some D≠v.ownBlock:=fun b=>by
 have:=jR h b.symm o c;rw [this] at a;cases a
structure FO (n0 nb Br Bc:Nat) (tr tc e:TypeId) (W w1:World) (v v' c1:Value) (m:Nat) (ys:List Value):Prop where
 boxR:Boxed w1 Br tr v
 boxC:Boxed w1 Bc tc c1
 fin:∀ c2:Value,Boxed ((w1.setCell ⟨Br,0,none⟩ v').setCell ⟨Bc,0,none⟩ c2) Br tr v'∧Boxed ((w1.setCell ⟨Br,0,none⟩ v').setCell ⟨Bc,0,none⟩ c2) Bc tc c2 ∧
  ((w1.setCell ⟨Br,0,none⟩ v').setCell ⟨Bc,0,none⟩ c2).ownsRow nb e 1 v' m ys∧Below n0 W ((w1.setCell ⟨Br,0,none⟩ v').setCell ⟨Bc,0,none⟩ c2) ∧
  (∀ B,KeepsFrom B W ((w1.setCell ⟨Br,0,none⟩ v').setCell ⟨Bc,0,none⟩ c2)) ∧
  (∀ B t u,(t≠e∨B<nb)→B≠Br→B≠Bc→Boxed W B t u→Boxed ((w1.setCell ⟨Br,0,none⟩ v').setCell ⟨Bc,0,none⟩ c2) B t u)
theorem tC {n0 nb c b:Nat}{s o e:TypeId}{W x w1:World}{v q I A:Value}{k m:Nat}{xs ys:List Value}(g:c≠b)(h0:n0≤nb)(h1:n0≤c)(J:n0≤b)(L:n0≤W.heap.size)(n:s≠e)(l:o≠e)
  (z:Boxed W c s v) (F:Boxed W b o I) (i:W.ownsRow nb e 1 v k xs) (G:dF (fun j=>j=b) W x) (y:Boxed x b o A)
  (a:x.grownBy w1 v.ownBlock) (hown:w1.ownsRow nb e 1 q m ys):FO n0 nb c b s o e W w1 v q A m ys:=by
 have N:some c≠v.ownBlock:=z.not_row n i;have M:some b≠v.ownBlock:=F.not_row l i;have f:Boxed w1 c s v:=(G.boxed z g).kept a N;have d:Boxed w1 b o A:=y.kept a M;refine ⟨f,d,fun c2=>?_⟩
 have E:dF (fun j=>j=c∨j=b∨v.ownBlock=some j) W ((w1.setCell ⟨c,0,none⟩ q).setCell ⟨b,0,none⟩ c2) :=
  ((((G.mono (fun j h=>.inr (.inl h))).grown a (fun j h=>.inl (.inr (.inr h)))).setCell (p:=⟨c,0,none⟩) (.inl (.inl rfl)) q).setCell (p:=⟨b,0,none⟩) (.inl (.inr (.inl rfl))) c2)
 refine ⟨Yp (f.set _) g _,QO _ (d.other g.symm _),?_,E.below ?_ L,fun B=>E.fH B ?_,fun B t u r C D H=>E.boxed H ?_⟩
 ·exact (hown.kept (grownBy_setCell' w1 c q) (.inr (f.not_row n hown).symm)).kept (grownBy_setCell' _ b c2) (.inr (d.not_row l hown).symm)
 ·rintro j (rfl | rfl | h)
  ·exact h1
  ·exact J
  ·exact Qd h0 (i.lt j h).1
 ·rintro j (rfl | rfl | h)
  ·exact Boxed.isCells z
  ·exact Boxed.isCells F
  ·exact jR i h
 ·rintro (h | h | h)
  ·exact C h
  ·exact D h
  ·rcases r with r | r
   ·exact H.not_row r i h.symm
   ·have:=(i.lt B h).1;omega
def af (W:World)(b:Nat)(t:TypeId)(cs:List Value):Prop:=W.heap[b]?=some (.cells cs.toArray t (0,0))
theorem af.lt {W:World}{b:Nat}{t:TypeId}{a:List Value}(h:af W b t a):b<W.heap.size:=(QT.1 h).1
theorem af.cell {W:World}{b:Nat}{t:TypeId}{a:List Value}(h:af W b t a)(i:Nat):W.cell? ⟨b,i,none⟩=a[i]?:=by simp [World.cell?,show W.heap[b]?=_ from h]
theorem mI {W:World}{b:Nat}{t:TypeId}{a:Value}{l:List Value}(h:af W b t (a::l)):W.cell? ⟨b,0,none⟩=some a:=h.cell 0
theorem MK {W:World}{b:Nat}{t:TypeId}{a:Value}{l:List Value}{C:Prop}(h:af W b t (a::l))(c:C):W.cell? ⟨b,0,none⟩=some a∧C:=⟨h.cell 0,c⟩
theorem aQ {W:World}{b:Nat}{t:TypeId}{a c:Value}{l:List Value}(h:af W b t (a::c::l)):W.cell? ⟨b,0,none⟩=some a∧W.cell? ⟨b,1,none⟩=some c:=⟨h.cell 0,h.cell 1⟩
theorem Mw {W:World}{b:Nat}{t:TypeId}{a d:Value}{l:List Value}{C:Prop}(h:af W b t (a::d::l))(c:C):W.cell? ⟨b,0,none⟩=some a∧W.cell? ⟨b,1,none⟩=some d∧C:=⟨h.cell 0,h.cell 1,c⟩
theorem EY {W:World}{b:Nat}{t:TypeId}{a c d f:Value}{l:List Value}(h:af W b t (a::c::d::f::l)):W.cell? ⟨b,0,none⟩=some a∧W.cell? ⟨b,1,none⟩=some c∧W.cell? ⟨b,2,none⟩=some d∧W.cell? ⟨b,3,none⟩=some f:=⟨h.cell 0,h.cell 1,h.cell 2,h.cell 3⟩
theorem Iq {W:World}{b:Nat}{t:TypeId}{a c d f g:Value}{l:List Value}(h:af W b t (a::c::d::f::g::l)):W.cell? ⟨b,0,none⟩=some a∧W.cell? ⟨b,1,none⟩=some c∧W.cell? ⟨b,2,none⟩=some d∧W.cell? ⟨b,3,none⟩=some f∧W.cell? ⟨b,4,none⟩=some g:=⟨h.cell 0,h.cell 1,h.cell 2,h.cell 3,h.cell 4⟩
theorem BG {W:World}{b:Nat}{t:TypeId}{a d f g i:Value}{l:List Value}{C:Prop}(h:af W b t (a::d::f::g::i::l))(c:C):W.cell? ⟨b,0,none⟩=some a∧W.cell? ⟨b,1,none⟩=some d∧W.cell? ⟨b,2,none⟩=some f∧W.cell? ⟨b,3,none⟩=some g∧W.cell? ⟨b,4,none⟩=some i∧C:=⟨h.cell 0,h.cell 1,h.cell 2,h.cell 3,h.cell 4,c⟩
theorem aD {W:World}{b:Nat}{t:TypeId}{a c d f g i:Value}{l:List Value}(h:af W b t (a::c::d::f::g::i::l)):W.cell? ⟨b,0,none⟩=some a∧W.cell? ⟨b,1,none⟩=some c∧W.cell? ⟨b,2,none⟩=some d∧W.cell? ⟨b,3,none⟩=some f∧W.cell? ⟨b,4,none⟩=some g∧W.cell? ⟨b,5,none⟩=some i:=⟨h.cell 0,h.cell 1,h.cell 2,h.cell 3,h.cell 4,h.cell 5⟩
theorem ik {W:World}{b:Nat}{t:TypeId}{a d f g i j:Value}{l:List Value}{C:Prop}(h:af W b t (a::d::f::g::i::j::l))(c:C):W.cell? ⟨b,0,none⟩=some a∧W.cell? ⟨b,1,none⟩=some d∧W.cell? ⟨b,2,none⟩=some f∧W.cell? ⟨b,3,none⟩=some g∧W.cell? ⟨b,4,none⟩=some i∧W.cell? ⟨b,5,none⟩=some j∧C:=⟨h.cell 0,h.cell 1,h.cell 2,h.cell 3,h.cell 4,h.cell 5,c⟩
theorem jW {W:World}{b:Nat}{t:TypeId}{a c d f g i j:Value}{l:List Value}(h:af W b t (a::c::d::f::g::i::j::l)):W.cell? ⟨b,0,none⟩=some a∧W.cell? ⟨b,1,none⟩=some c∧W.cell? ⟨b,2,none⟩=some d∧W.cell? ⟨b,3,none⟩=some f∧W.cell? ⟨b,4,none⟩=some g∧W.cell? ⟨b,5,none⟩=some i∧W.cell? ⟨b,6,none⟩=some j:=⟨h.cell 0,h.cell 1,h.cell 2,h.cell 3,h.cell 4,h.cell 5,h.cell 6⟩
theorem Dk {W:World}{b:Nat}{t:TypeId}{c a:Value}{l:List Value}(h:af W b t (c::a::l)):W.cell? ⟨b,1,none⟩=some a:=h.cell 1
theorem nk {W:World}{b:Nat}{t:TypeId}{f a c d:Value}{l:List Value}(h:af W b t (f::a::c::d::l)):W.cell? ⟨b,1,none⟩=some a∧W.cell? ⟨b,2,none⟩=some c∧W.cell? ⟨b,3,none⟩=some d:=⟨h.cell 1,h.cell 2,h.cell 3⟩
theorem MM {W:World}{b:Nat}{t:TypeId}{g a d f:Value}{l:List Value}{C:Prop}(h:af W b t (g::a::d::f::l))(c:C):W.cell? ⟨b,1,none⟩=some a∧W.cell? ⟨b,2,none⟩=some d∧W.cell? ⟨b,3,none⟩=some f∧C:=⟨h.cell 1,h.cell 2,h.cell 3,c⟩
theorem BD {W:World}{b:Nat}{t:TypeId}{d f a c:Value}{l:List Value}(h:af W b t (d::f::a::c::l)):W.cell? ⟨b,2,none⟩=some a∧W.cell? ⟨b,3,none⟩=some c:=⟨h.cell 2,h.cell 3⟩
theorem NI {W:World}{b:Nat}{t:TypeId}{d f g a:Value}{l:List Value}{C:Prop}(h:af W b t (d::f::g::a::l))(c:C):W.cell? ⟨b,3,none⟩=some a∧C:=⟨h.cell 3,c⟩
theorem FJ {W:World}{b:Nat}{t:TypeId}{c d f g a:Value}{l:List Value}(h:af W b t (c::d::f::g::a::l)):W.cell? ⟨b,4,none⟩=some a:=h.cell 4
theorem af.frozen {W:World}{b:Nat}{t:TypeId}{a:List Value}(h:af W b t a)(i:Nat):W.frozen? ⟨b,i,none⟩=false:=by simp [World.frozen?,show W.heap[b]?=_ from h]
theorem af.isCells {W:World}{b:Nat}{t:TypeId}{c:List Value}(h:af W b t c):∀ o,W.heap[b]?=some o→o.isCells=true:=fun o a=>by rw [show W.heap[b]?=_ from h] at a;cases a;rfl
theorem af.set {W:World}{b:Nat}{t:TypeId}{c:List Value}(h:af W b t c)(i:Nat)(v:Value):af (W.setCell ⟨b,i,none⟩ v) b t (c.set i v):=by
 obtain ⟨a,d⟩:=QT.1 h
 show (W.heap.modify b _)[b]?=_
 rw [Xy (by rw [Array.size_modify];exact a),Array.getElem_modify_self,d];simp
theorem af.other {W:World}{b:Nat}{t:TypeId}{d:List Value}(h:af W b t d){a:Addr}(c:b≠a.block)(u:Value):af (W.setCell a u) b t d:=(JG W a u b c).trans h
theorem af.alloc {W:World}{b:Nat}{t:TypeId}{a:List Value}(h:af W b t a)(o:Obj):af (W.alloc o) b t a:=(Zo W o b h.lt).trans h
theorem af.drew {W:World}{b:Nat}{t:TypeId}{a:List Value}(h:af W b t a):af W.drew b t a:=h
theorem af.at {W:World}{B B':Nat}{t:TypeId}{v:List Value}(h:af W B t v)(e:B=B'):af W B' t v:=e ▸ h
theorem af.new (W:World)(t:TypeId)(a:List Value):af (W.alloc (.cells a.toArray t)) W.heap.size t a:=ZF W _
theorem dF.row {S:Nat→Prop}{A W:World}(h:dF S A W){b:Nat}{t:TypeId}{a:List Value}(c:af A b t a)(hs:¬S b):af W b t a:=(h.block b c.lt hs).trans c
theorem jq {β:Type}{B':Nat}(b:Nat)(t:TypeId)(f:β→List Value):OwnFrom B' (fun s W=>af W b t (f s)):=fun s X Y row hs g hr=>by
 have a:af X b t (f s):=hs;refine (g.block b a.lt (fun e=>?_)).trans a;obtain ⟨_,o,c,d⟩:=hr b e.symm;rw [show X.heap[b]?=_ from a] at c;cases c;cases d
theorem Boxed.oz {W:World}{B:Nat}{t:TypeId}{v:Value}(h:Boxed W B t v){a:Addr}(b:B≠a.block)(u:Value):Boxed (W.setCell a u) B t v:=(JG W a u B b).trans h
theorem af.reads {k:IntKind}{W:World}{b:Nat}{t:TypeId}{xs:List Nat}(h:af W b t (xs.map fun (x:Nat)=>Value.int k (x:Int)))(n a:Nat)(g:n=xs.length)(c:n≤a)(f:a≤maxLen):Reads k W (.slice (some ⟨b,0,none⟩) n a) xs:=by
 subst g;refine ⟨_,a,rfl,c,f,fun j d=>⟨⟨b,0,rfl⟩,?_⟩⟩;rw [iY,QJ,h.cell];simp [Qs d]
end Go.Proofs.YtagjhmodblifbaaGreatDoor
namespace Go.Proofs.YtagjhmodblifbaaGreatDoor
open Go.Proofs.Tryz
open Go Go.RowKit Go.Shelf
attribute [local go_sem] Jc
theorem trim_eq (a:Option Addr)(n b:Nat)(xs:List Nat)(w:World)(h:Reads .u32 w (.slice a n b) xs) :
  Calls prog 188 #[.slice a n b] w fun e u=>w=u∧e=.returned (.slice a (trimmed xs).length b):=by
 obtain ⟨v,j,m,x,t⟩:=h.form;cases m;unfold maxLen at t;go_enter func188,ntmps188;go_wp2
 go_loop [0] (fun s=>∃ k:Nat,k≤xs.length∧s=.slice a k b∧trimmed (xs.take k)=trimmed xs) (fun s=>match s with | .slice _ n _=>n | _=>0)
 case atStart=>exact ⟨xs.length,Qb _,rfl,by simp⟩
 case round =>
  obtain ⟨k,p,rfl,d⟩:=hrel
  cases k with
  | zero =>
   go_wp2;go_ret
   have i:(trimmed xs).length=0:=by rw [← d];simp [trimmed]
   exact ⟨rfl,by rw [i];rfl⟩
  | succ k =>
   have o:=(h.ET (k+1) p).index aG bZ k .i64;have g:=h.cell k (by omega)
   have r:k<(List.take (k+1) xs).length:=by simp;omega
   have c:k<xs.length:=by omega
   have q:k≤b:=by omega
   have l:=iW xs k c;have f:=Qa l;clear l;go_wp2
   ·go_round
    case rel =>
     have h0:(↑xs[k] == (0:Int))=true:=by assumption
     have h1:xs[k]?.getD 0=0:=by rw [Qs c];simpa using h0
     exact ⟨k,by omega,rfl,by rw [← d,f.out,h1,fZ]⟩
    case measure=>simp
   ·go_ret
    have h0:(↑xs[k] == (0:Int))=false:=by assumption
    have h1:xs[k]?.getD 0≠0:=by rw [Qs c];simpa using h0
    have i:(trimmed xs).length=k+1:=by rw [← d,f.out,jd _ _ h1,← f.out];simp;omega
    exact ⟨rfl,by rw [i];rfl⟩
theorem tF {w:World}{a:Option Addr}{n b:Nat}{xs:List Nat}(h:Reads .u32 w (.slice a n b) xs):Reads .u32 w (.slice a (trimmed xs).length b) (trimmed xs):=by
 have:=h.ET (trimmed xs).length (jC xs)
 rwa [uL] at this
theorem jf (v:Value)(xs:List Nat)(w:World)(h:Reads .u32 w v xs) :
  Calls prog 188 #[v] w fun e d=>w=d∧∃ c,e=.returned c∧Reads .u32 w c (trimmed xs):=by
 obtain ⟨a,b,rfl,g,i⟩:=h.form
 exact (trim_eq a _ b xs w h).mono fun e d ⟨h1,f⟩=>⟨h1,_,f,tF h⟩
theorem Ll (va vb:Value)(s b:List Nat)(w:World)(ha:Reads .u32 w va s)(hb:Reads .u32 w vb b)(a7:Limbs s)(J:Limbs b)(na:s.length≤100000)(nb:b.length≤100000)(hl:s.length<b.length) :
 CB 185 #[va,vb] w fun e w'=>∃ v cs,e=.returned v∧Reads .u32 w' v cs∧Canon cs∧val cs=val s+val b:=by
 obtain ⟨aa,ca,rfl,fA,gy⟩:=ha.form;obtain ⟨ab,cb,rfl,au,a9⟩:=hb.form;unfold maxLen at gy a9;obtain ⟨a1,hi,a0⟩:=Js.1 fV;simp only [Prod.mk.injEq] at a0;obtain ⟨X,Y,Z⟩:=a0;refine (callsIn_wide (n:=9)).1 ?_;refine callsIn_of_wp_marks func185 rfl trivial ?_ rfl;simp only [ntmps185,Je,QE,QG,Nat.reduceAdd,Nat.reduceSub,Jf,Jg,Jh,Ji,QW,QL]
 have ad:∀ w,(Instr.makeSlice 22 (vI 0) (vI ((b.length:Int)+1))).run prog w=.ok (.slice (some ⟨w.heap.size,0,none⟩) 0 (b.length+1)) (w.alloc (.cells (zeros (b.length+1)) 128)):=fun w=>by
  simpa using fw 0 ((b.length:Int)+1) (by omega) (by omega) (by omega) w
 gi_wp2_with (refine ⟨trivial,?_⟩;gi_at_call 218;refine (callsIn_wide.2 (jH _ _ _ ⟨_,_,_,rfl⟩)).mono ?_;rintro e w' ⟨rfl,rfl⟩)
 clear ad;have r0:=lI (w.alloc (.cells #[(Value.slice ab b.length cb)] 22)) w.heap.size (b.length+1) (by simp) (by omega);have r1:=(((r0.alloc (.cells #[.slice (some ⟨w.heap.size+1,0,none⟩) 0 (b.length+1)] 22)).alloc (.cells #[.int .u64 0] 138)).alloc (.cells #[(Value.slice aa s.length ca)] 22)).alloc (.cells #[vI (b.length:Int)] 3)
 rw [show (w.alloc (.cells #[(Value.slice ab b.length cb)] 22)).heap.size=w.heap.size+1 by simp] at r1;clear r0;have b0:bW w w:=Qj _ _
 refine iE 7 8 (w.heap.size+5) (w.heap.size+4) w.heap.size b.length (Value.slice aa s.length ca) s (by exact rfl) a7 (by omega) (by simp) (by simp) (by simp;omega) ?m1 ?m2 (ha.below ?m3) ha.lt
  (fun a W=>∃ v,Boxed W (w.heap.size+2) 22 v∧W.ownsRow w.heap.size 128 1 v a.length (aF (cK b (a.map (·.1))).1)∧Boxed W (w.heap.size+3) 138 (.int .u64 ((cK b (a.map (·.1))).2:Int)) ∧
   Boxed W (w.heap.size+4) 22 (Value.slice aa s.length ca)∧Boxed W w.heap.size 22 (Value.slice ab b.length cb)∧bW w W)
  (fun _ _ _=>False)
  (iM fun v=>(aB _ _ _).and ((mV _ _ _ _ _ _).and ((aB _ _ _).and ((aB _ _ _).and ((aB _ _ _).and (ownFrom_below (Qb _) ?mB))))))
  (fun _ _ _ _ _ h _ _=>h.elim) ?start ?assign ?body ?done ?stop
 case mB=>simp;omega
 case m1=>go_simp
 case m2=>go_simp
 case m3=>exact (((((b0.alloc (Qb _) _).alloc (by simp) _).alloc (by simp;omega) _).alloc (by simp;omega) _).alloc (by simp;omega) _).alloc (by simp;omega) _
 case start =>
  refine ⟨_,?_,by simpa [cK,aF] using r1,?_,?_,?_,?_⟩
  ·exact Boxed.at ((((Qi _ _ _).alloc _).alloc _).alloc _) (by simp)
  ·exact Boxed.at (((Qi _ _ _).alloc _).alloc _) (by simp)
  ·exact Boxed.at ((Qi _ _ _).alloc _) (by simp)
  ·exact (((((Qi _ _ _).alloc _).alloc _).alloc _).alloc _).alloc _
  ·exact (((((b0.alloc (Qb _) _).alloc (by simp) _).alloc (by simp;omega) _).alloc (by simp;omega) _).alloc (by simp;omega) _).alloc (by simp;omega) _
 case assign =>
  intro l x W K hK
  gi_wp2
  exact hK
 case body =>
  rintro l a x W ⟨v,H,o,C,bs,bl,M⟩ ay;simp only [cZ]
  gi_wp2
  have L:=C.not_row (by decide) o;have U:=H.not_row (by decide) o;have sI:=M.size;obtain ⟨⟨i,y⟩,O,Q⟩:=x
  have V:∀ p ∈ a.map (·.1),p.2<aj:=fun p hp=>by
   obtain ⟨q,_,rfl⟩:=Qw.1 hp;exact q.2.2
  have al:=(iX J (a.map (·.1)) V).2;have j:=iO b (a.map (·.1)) (i,y)
  have F:(a++[(⟨(i,y),O,Q⟩:dA b.length)]).map (·.1)=a.map (·.1)++[(i,y)]:=by simp
  have hd:=aK J i;dsimp only at *;have a5:=(hb.below M).cell i O;generalize af:cK b (a.map (·.1))=st at *;obtain ⟨r,c⟩:=st;simp only [mK] at j;dsimp only at *;generalize b[i]?.getD 0=d at *;clear af V;have HN:=Qa j;have HM:=Qa F;clear j F;unfold aj at Q hd;have ax:=hb.index aG bZ i .i64;have a3:=C.cell;have av:=C.frozen;have aq:=bl.cell;have a4:=H.cell
  have aw:=H.frozen;refine gH (.inr ⟨_,rfl⟩) 10 (by kernel_rfl) (by kernel_rfl) ?_;simp only [JA,JB,JC,QN]
  repeat still_step
  refine wpStill_nil ?_;change wpListIn _ _ _ _ _ _ _ W.drew;have m:=(((o.kept (grownBy_setCell' W (w.heap.size+3) (.int .u64 ((c:Int)+((d:Int)+(y:Int))))) (.inr L.symm)).alloc (.cells #[.int .u32 (((c:Int)+((d:Int)+(y:Int))) % 4294967296)] 128))).drew;have HR:=Qa L;have HV:=Qa U;clear L U
  gi_wp2_with (gi_at_builtin;refine wpListIn_append_own _ rfl _ _ 22 rfl w.heap.size 128 a1 (.int .u32 0) 1 4 aG hi X Y Z rfl (by decide) _ _ _ rfl m ⟨W.heap.size,0,none⟩ 1 1 [.int .u32 (((c:Int)+((d:Int)+(y:Int))) % 4294967296)] rfl rfl (mE _ _ _ _ (by simp)) (by simp [Value.oneCell']) (by unfold maxLen;omega) (by omega) (by simp;omega) ?_;intro v' w1 f g _;obtain ⟨g',u,rfl⟩:=ownsRow_succ f;have A:=Yq (Boxed.drew (Zp (C.set (.int .u64 ((c:Int)+((d:Int)+(y:Int))))) (.cells #[.int .u32 (((c:Int)+((d:Int)+(y:Int))) % 4294967296)] 128))) g HR.out;have t:=Yq (Boxed.drew (Zp (H.other (B':=w.heap.size+3) (by omega) (.int .u64 ((c:Int)+((d:Int)+(y:Int))))) (.cells #[.int .u32 (((c:Int)+((d:Int)+(y:Int))) % 4294967296)] 128))) g HV.out;have ak:=A.cell;have am:=t.cell;have an:=A.frozen;have ao:=t.frozen)
  have hS:dF (fun k=>k=w.heap.size+2∨k=w.heap.size+3∨v.ownBlock=some k) W w1:=(((((dF.refl _ W).setCell (p:=⟨w.heap.size+3,0,none⟩) (.inl (.inr (.inl rfl))) _).alloc _).drew).grown g (fun k e=>.inl (.inr (.inr e))))
  have N:=(hS.setCell (p:=⟨w.heap.size+2,0,none⟩) (.inl (.inl rfl)) (Value.slice (some ⟨g',0,none⟩) (a.length+1) u)).setCell (p:=⟨w.heap.size+3,0,none⟩) (.inl (.inr (.inl rfl))) (.int .u64 (((c:Int)+((d:Int)+(y:Int))) / 4294967296))
  have a6:∀ k,(k=w.heap.size+2∨k=w.heap.size+3∨v.ownBlock=some k)→w.heap.size≤k:=by
   rintro k (e | e | e)
   ·omega
   ·omega
   ·exact (o.lt k e).1
  have n4:¬(w.heap.size+4=w.heap.size+2∨w.heap.size+4=w.heap.size+3∨v.ownBlock=some (w.heap.size+4)):=by
   rintro (e | e | e)
   ·omega
   ·omega
   ·exact bs.not_row (by decide) o e.symm
  have n0:¬(w.heap.size=w.heap.size+2∨w.heap.size=w.heap.size+3∨v.ownBlock=some w.heap.size):=by
   rintro (e | e | e)
   ·omega
   ·omega
   ·exact bl.not_row (by decide) o e.symm
  have E:=N.below a6 sI;refine ⟨N.fH _ ?_,oh.boxed E bs (N.boxed bs n4),_,Yp (t.set _) (by omega) _,?_,?_,N.boxed bs n4,N.boxed bl n0,M.trans E⟩
  ·rintro k (rfl | rfl | e)
   ·exact Boxed.isCells H
   ·exact Boxed.isCells C
   ·exact jR o e
  ·have ag:Value.int .u32 (((c+(d+y)) % aj:Nat):Int)=.int .u32 (((c:Int)+((d:Int)+(y:Int))) % 4294967296):=congrArg _ (by unfold aj;omega)
   rw [HM.out,HN.out,jA,ag,QX];have ap:=t.set (Value.slice (some ⟨g',0,none⟩) (a.length+1) u);have r2:=f.kept (grownBy_setCell' w1 (w.heap.size+2) (Value.slice (some ⟨g',0,none⟩) (a.length+1) u)) (.inr (t.not_row (by decide) f).symm);exact r2.kept (grownBy_setCell' _ (w.heap.size+3) _) (.inr (A.not_row (by decide) f).symm)
  ·have ai:Value.int .u64 (((c+(d+y)) / aj:Nat):Int)=.int .u64 (((c:Int)+((d:Int)+(y:Int))) / 4294967296):=congrArg _ (by unfold aj;omega)
   rw [HM.out,HN.out,ai];exact QO _ (A.other (by omega) _)
 case done =>
  rintro D ys W hD B ⟨v,H,o,C,bs,bl,M⟩ hK
  have R:=iX J (ah s b.length) (fun p hp=>by
   obtain ⟨q,_,rfl⟩:=Qw.1 (B ▸ hp)
   exact q.2.2)
  have G:=nI b s b.length
  have z:ys.length=b.length:=by have:=congrArg List.length B;simpa [bR] using this
  rw [B] at o C;rw [z] at o;clear B z;generalize cK b (ah s b.length)=st at *;obtain ⟨r,c⟩:=st;obtain ⟨a8,ar⟩:=R;dsimp only at *;have HV:=Qa G;clear G;have m:=o.alloc (.cells #[.int .u32 (c:Int)] 128);have sI:=M.size;have a3:=C.cell;have a4:=H.cell;have T:=nE o hK rfl;have HD:=Qa T;clear T
  gi_wp2_with (first | (gi_at_builtin;go_loud (refine wpListIn_append_own _ rfl _ _ 22 rfl w.heap.size 128 a1 (.int .u32 0) 1 4 aG hi X Y Z rfl (by decide) _ _ _ rfl m ⟨W.heap.size,0,none⟩ 1 1 [.int .u32 (c:Int)] rfl rfl (dI _ _ _ _ rfl) (by simp [Value.oneCell']) (by unfold maxLen;omega) (by omega) (by simp;omega) ?_);intro v' w1 f g _;have az:Reads .u32 w1 v' (r++[c]):=Reads.ou (by simpa [aF] using f)) | (refine ⟨trivial,?_⟩;gi_at_call 188;refine (callsIn_wide.2 (jf _ _ _ (by assumption))).mono ?_;rintro e w' ⟨rfl,v3,rfl,ae⟩))
  have hg:(W.alloc (.cells #[.int .u32 (c:Int)] 128)).grownBy w1 v.ownBlock:=g;have I:w1.heap[D]?=some (.deferred (some [])):=(hg.block D (by have:=(QT.1 hK).1;simp;omega) HD.out).trans ((Zo W _ D (QT.1 hK).1).trans hK);have a2:Below w.heap.size W w1:=((Qj _ W).alloc sI _).grown hg (by simp;omega) (fun k e=>(o.lt k e).1)
  have S:r.length=b.length:=by have:=o.1;simpa [aF] using this
  refine ⟨by simp,.inl ⟨_,_,rfl,run_takeDeferred I,?_⟩⟩;refine ⟨_,results_tmp rfl _ _ _,(M.trans a2).trans (belowK_b (w:=w) (Qb _) w1 D _ _ (by simp at hD;omega) I rfl rfl),v3,_,rfl,ae.putObj I rfl _,dL (jV a8 (by unfold aj;omega)),?_⟩;rw [dC,jK,S,HV.out,Qv (by omega),Qv (by omega)];omega
 case stop =>
  rintro D c a W _ _ h _;exact h.elim
theorem Lm (va vb:Value)(b s:List Nat)(w:World)(ha:Reads .u32 w va b)(hb:Reads .u32 w vb s)(J:Limbs b)(a7:Limbs s)(na:b.length≤100000)(_nb:s.length≤100000)(hl:¬b.length<s.length) :
 CB 185 #[va,vb] w fun e w'=>∃ v cs,e=.returned v∧Reads .u32 w' v cs∧Canon cs∧val cs=val b+val s:=by
 obtain ⟨aa,ca,rfl,fA,gy⟩:=ha.form;obtain ⟨ab,cb,rfl,au,a9⟩:=hb.form;unfold maxLen at gy a9;obtain ⟨a1,hi,a0⟩:=Js.1 fV;simp only [Prod.mk.injEq] at a0;obtain ⟨X,Y,Z⟩:=a0;refine (callsIn_wide (n:=9)).1 ?_;refine callsIn_of_wp_marks func185 rfl trivial ?_ rfl;simp only [ntmps185,Je,QE,QG,Nat.reduceAdd,Nat.reduceSub,Jf,Jg,Jh,Ji,QW,QL]
 have ad:∀ w,(Instr.makeSlice 22 (vI 0) (vI ((b.length:Int)+1))).run prog w=.ok (.slice (some ⟨w.heap.size,0,none⟩) 0 (b.length+1)) (w.alloc (.cells (zeros (b.length+1)) 128)):=fun w=>by
  simpa using fw 0 ((b.length:Int)+1) (by omega) (by omega) (by omega) w
 gi_wp2_with (refine ⟨trivial,?_⟩;gi_at_call 218;refine (callsIn_wide.2 (jH _ _ _ ⟨_,_,_,rfl⟩)).mono ?_;rintro e w' ⟨rfl,rfl⟩)
 clear ad;have r0:=lI (w.alloc (.cells #[(Value.slice aa b.length ca)] 22)) w.heap.size (b.length+1) (by simp) (by omega);have r1:=(((r0.alloc (.cells #[.slice (some ⟨w.heap.size+1,0,none⟩) 0 (b.length+1)] 22)).alloc (.cells #[.int .u64 0] 138)).alloc (.cells #[(Value.slice ab s.length cb)] 22)).alloc (.cells #[vI (b.length:Int)] 3)
 rw [show (w.alloc (.cells #[(Value.slice aa b.length ca)] 22)).heap.size=w.heap.size+1 by simp] at r1;clear r0;have b0:bW w w:=Qj _ _
 refine iE 7 8 (w.heap.size+5) (w.heap.size+4) w.heap.size b.length (Value.slice ab s.length cb) s (by exact rfl) a7 (by omega) (by simp) (by simp) (by simp;omega) ?m1 ?m2 (hb.below ?m3) hb.lt
  (fun a W=>∃ v,Boxed W (w.heap.size+2) 22 v∧W.ownsRow w.heap.size 128 1 v a.length (aF (cK b (a.map (·.1))).1)∧Boxed W (w.heap.size+3) 138 (.int .u64 ((cK b (a.map (·.1))).2:Int)) ∧
   Boxed W (w.heap.size+4) 22 (Value.slice ab s.length cb)∧Boxed W w.heap.size 22 (Value.slice aa b.length ca)∧bW w W)
  (fun _ _ _=>False)
  (iM fun v=>(aB _ _ _).and ((mV _ _ _ _ _ _).and ((aB _ _ _).and ((aB _ _ _).and ((aB _ _ _).and (ownFrom_below (Qb _) ?mB))))))
  (fun _ _ _ _ _ h _ _=>h.elim) ?start ?assign ?body ?done ?stop
 case mB=>simp;omega
 case m1=>go_simp
 case m2=>go_simp
 case m3=>exact (((((b0.alloc (Qb _) _).alloc (by simp) _).alloc (by simp;omega) _).alloc (by simp;omega) _).alloc (by simp;omega) _).alloc (by simp;omega) _
 case start =>
  refine ⟨_,?_,by simpa [cK,aF] using r1,?_,?_,?_,?_⟩
  ·exact Boxed.at ((((Qi _ _ _).alloc _).alloc _).alloc _) (by simp)
  ·exact Boxed.at (((Qi _ _ _).alloc _).alloc _) (by simp)
  ·exact Boxed.at ((Qi _ _ _).alloc _) (by simp)
  ·exact (((((Qi _ _ _).alloc _).alloc _).alloc _).alloc _).alloc _
  ·exact (((((b0.alloc (Qb _) _).alloc (by simp) _).alloc (by simp;omega) _).alloc (by simp;omega) _).alloc (by simp;omega) _).alloc (by simp;omega) _
 case assign =>
  intro l x W K hK
  gi_wp2
  exact hK
 case body =>
  rintro l a x W ⟨v,H,o,C,bs,bl,M⟩ ay;simp only [cZ]
  gi_wp2
  have L:=C.not_row (by decide) o;have U:=H.not_row (by decide) o;have sI:=M.size;obtain ⟨⟨i,y⟩,O,Q⟩:=x
  have V:∀ p ∈ a.map (·.1),p.2<aj:=fun p hp=>by
   obtain ⟨q,_,rfl⟩:=Qw.1 hp;exact q.2.2
  have al:=(iX J (a.map (·.1)) V).2;have j:=iO b (a.map (·.1)) (i,y)
  have F:(a++[(⟨(i,y),O,Q⟩:dA b.length)]).map (·.1)=a.map (·.1)++[(i,y)]:=by simp
  have hd:=aK J i;dsimp only at *;have a5:=(ha.below M).cell i O;generalize af:cK b (a.map (·.1))=st at *;obtain ⟨r,c⟩:=st;simp only [mK] at j;dsimp only at *;generalize b[i]?.getD 0=d at *;clear af V;have HN:=Qa j;have HM:=Qa F;clear j F;unfold aj at Q hd;have ax:=ha.index aG bZ i .i64;have a3:=C.cell;have av:=C.frozen;have aq:=bl.cell;have a4:=H.cell
  have aw:=H.frozen;refine gH (.inr ⟨_,rfl⟩) 10 (by kernel_rfl) (by kernel_rfl) ?_;simp only [JA,JB,JC,QN]
  repeat still_step
  refine wpStill_nil ?_;change wpListIn _ _ _ _ _ _ _ W.drew;have m:=(((o.kept (grownBy_setCell' W (w.heap.size+3) (.int .u64 ((c:Int)+((d:Int)+(y:Int))))) (.inr L.symm)).alloc (.cells #[.int .u32 (((c:Int)+((d:Int)+(y:Int))) % 4294967296)] 128))).drew;have HR:=Qa L;have HV:=Qa U;clear L U
  gi_wp2_with (gi_at_builtin;refine wpListIn_append_own _ rfl _ _ 22 rfl w.heap.size 128 a1 (.int .u32 0) 1 4 aG hi X Y Z rfl (by decide) _ _ _ rfl m ⟨W.heap.size,0,none⟩ 1 1 [.int .u32 (((c:Int)+((d:Int)+(y:Int))) % 4294967296)] rfl rfl (mE _ _ _ _ (by simp)) (by simp [Value.oneCell']) (by unfold maxLen;omega) (by omega) (by simp;omega) ?_;intro v' w1 f g _;obtain ⟨g',u,rfl⟩:=ownsRow_succ f;have A:=Yq (Boxed.drew (Zp (C.set (.int .u64 ((c:Int)+((d:Int)+(y:Int))))) (.cells #[.int .u32 (((c:Int)+((d:Int)+(y:Int))) % 4294967296)] 128))) g HR.out;have t:=Yq (Boxed.drew (Zp (H.other (B':=w.heap.size+3) (by omega) (.int .u64 ((c:Int)+((d:Int)+(y:Int))))) (.cells #[.int .u32 (((c:Int)+((d:Int)+(y:Int))) % 4294967296)] 128))) g HV.out;have ak:=A.cell;have am:=t.cell;have an:=A.frozen;have ao:=t.frozen)
  have hS:dF (fun k=>k=w.heap.size+2∨k=w.heap.size+3∨v.ownBlock=some k) W w1:=(((((dF.refl _ W).setCell (p:=⟨w.heap.size+3,0,none⟩) (.inl (.inr (.inl rfl))) _).alloc _).drew).grown g (fun k e=>.inl (.inr (.inr e))))
  have N:=(hS.setCell (p:=⟨w.heap.size+2,0,none⟩) (.inl (.inl rfl)) (Value.slice (some ⟨g',0,none⟩) (a.length+1) u)).setCell (p:=⟨w.heap.size+3,0,none⟩) (.inl (.inr (.inl rfl))) (.int .u64 (((c:Int)+((d:Int)+(y:Int))) / 4294967296))
  have a6:∀ k,(k=w.heap.size+2∨k=w.heap.size+3∨v.ownBlock=some k)→w.heap.size≤k:=by
   rintro k (e | e | e)
   ·omega
   ·omega
   ·exact (o.lt k e).1
  have n4:¬(w.heap.size+4=w.heap.size+2∨w.heap.size+4=w.heap.size+3∨v.ownBlock=some (w.heap.size+4)):=by
   rintro (e | e | e)
   ·omega
   ·omega
   ·exact bs.not_row (by decide) o e.symm
  have n0:¬(w.heap.size=w.heap.size+2∨w.heap.size=w.heap.size+3∨v.ownBlock=some w.heap.size):=by
   rintro (e | e | e)
   ·omega
   ·omega
   ·exact bl.not_row (by decide) o e.symm
  have E:=N.below a6 sI;refine ⟨N.fH _ ?_,oh.boxed E bs (N.boxed bs n4),_,Yp (t.set _) (by omega) _,?_,?_,N.boxed bs n4,N.boxed bl n0,M.trans E⟩
  ·rintro k (rfl | rfl | e)
   ·exact Boxed.isCells H
   ·exact Boxed.isCells C
   ·exact jR o e
  ·have ag:Value.int .u32 (((c+(d+y)) % aj:Nat):Int)=.int .u32 (((c:Int)+((d:Int)+(y:Int))) % 4294967296):=congrArg _ (by unfold aj;omega)
   rw [HM.out,HN.out,jA,ag,QX];have ap:=t.set (Value.slice (some ⟨g',0,none⟩) (a.length+1) u);have r2:=f.kept (grownBy_setCell' w1 (w.heap.size+2) (Value.slice (some ⟨g',0,none⟩) (a.length+1) u)) (.inr (t.not_row (by decide) f).symm);exact r2.kept (grownBy_setCell' _ (w.heap.size+3) _) (.inr (A.not_row (by decide) f).symm)
  ·have ai:Value.int .u64 (((c+(d+y)) / aj:Nat):Int)=.int .u64 (((c:Int)+((d:Int)+(y:Int))) / 4294967296):=congrArg _ (by unfold aj;omega)
   rw [HM.out,HN.out,ai];exact QO _ (A.other (by omega) _)
 case done =>
  rintro D ys W hD B ⟨v,H,o,C,bs,bl,M⟩ hK
  have R:=iX J (ah s b.length) (fun p hp=>by
   obtain ⟨q,_,rfl⟩:=Qw.1 (B ▸ hp)
   exact q.2.2)
  have G:=nI b s b.length
  have z:ys.length=b.length:=by have:=congrArg List.length B;simpa [bR] using this
  rw [B] at o C;rw [z] at o;clear B z;generalize cK b (ah s b.length)=st at *;obtain ⟨r,c⟩:=st;obtain ⟨a8,ar⟩:=R;dsimp only at *;have HV:=Qa G;clear G;have m:=o.alloc (.cells #[.int .u32 (c:Int)] 128);have sI:=M.size;have a3:=C.cell;have a4:=H.cell;have T:=nE o hK rfl;have HD:=Qa T;clear T
  gi_wp2_with (first | (gi_at_builtin;go_loud (refine wpListIn_append_own _ rfl _ _ 22 rfl w.heap.size 128 a1 (.int .u32 0) 1 4 aG hi X Y Z rfl (by decide) _ _ _ rfl m ⟨W.heap.size,0,none⟩ 1 1 [.int .u32 (c:Int)] rfl rfl (dI _ _ _ _ rfl) (by simp [Value.oneCell']) (by unfold maxLen;omega) (by omega) (by simp;omega) ?_);intro v' w1 f g _;have az:Reads .u32 w1 v' (r++[c]):=Reads.ou (by simpa [aF] using f)) | (refine ⟨trivial,?_⟩;gi_at_call 188;refine (callsIn_wide.2 (jf _ _ _ (by assumption))).mono ?_;rintro e w' ⟨rfl,v3,rfl,ae⟩))
  have hg:(W.alloc (.cells #[.int .u32 (c:Int)] 128)).grownBy w1 v.ownBlock:=g;have I:w1.heap[D]?=some (.deferred (some [])):=(hg.block D (by have:=(QT.1 hK).1;simp;omega) HD.out).trans ((Zo W _ D (QT.1 hK).1).trans hK);have a2:Below w.heap.size W w1:=((Qj _ W).alloc sI _).grown hg (by simp;omega) (fun k e=>(o.lt k e).1)
  have S:r.length=b.length:=by have:=o.1;simpa [aF] using this
  refine ⟨by simp,.inl ⟨_,_,rfl,run_takeDeferred I,?_⟩⟩;refine ⟨_,results_tmp rfl _ _ _,(M.trans a2).trans (belowK_b (w:=w) (Qb _) w1 D _ _ (by simp at hD;omega) I rfl rfl),v3,_,rfl,ae.putObj I rfl _,dL (jV a8 (by unfold aj;omega)),?_⟩;rw [dC,jK,S,HV.out,Qv (by omega),Qv (by omega)]
 case stop =>
  rintro D c a W _ _ h _;exact h.elim
theorem nY (f g:Value)(a b:List Nat)(w:World)(ha:Reads .u32 w f a)(i:Reads .u32 w g b)(c:Limbs a)(d:Limbs b)(na:a.length≤100000)(nb:b.length≤100000) :
 CB 185 #[f,g] w fun e k=>∃ v h,e=.returned v∧Reads .u32 k v h∧Canon h∧val h=val a+val b:=by
 by_cases j:a.length<b.length
 ·exact Ll f g a b w ha i c d na nb j
 ·exact Lm f g a b w ha i c d na nb j
end Go.Proofs.YtagjhmodblifbaaGreatDoor
namespace Go.Proofs.YtagjhmodblifbaaGreatDoor
open Go.Proofs.Tryz
open Go Go.RowKit Go.Shelf
attribute [local go_sem] Jc
def Mx (w:World)(va vb:Value)(xa xb:List Nat)(ps:List (Nat × Nat))(W:World):Prop :=
 Boxed W (w.heap.size+2) 22 (.slice (some ⟨w.heap.size+1,0,none⟩) (xa.length+xb.length) (xa.length+xb.length))∧af W (w.heap.size+1) 128 (aF (gD (xa.length+xb.length) xb ps)) ∧
 Boxed W (w.heap.size+3) 22 va∧Boxed W w.heap.size 22 vb∧bW w W
theorem FP (B:Nat){w:World}(c:w.heap.size≤B)(d g:Value)(b a:List Nat){α:Type}(f:α→List (Nat × Nat)):OwnFrom B (fun s W=>Mx w d g b a (f s) W) :=
 (aB _ _ _).and ((jq _ _ (fun s=>aF (gD (b.length+a.length) a (f s)))).and ((aB _ _ _).and ((aB _ _ _).and (ownFrom_below (Qb _) c))))
theorem yH (va vb:Value)(d a:List Nat)(w:World)(ha:Reads .u32 w va d)(hb:Reads .u32 w vb a)(a7:Limbs d)(A:Limbs a)(na:d.length≤100000)(nb:a.length≤100000) :
 CB 247 #[va,vb] w fun e w'=>∃ v cs,e=.returned v∧Reads .u32 w' v cs∧Canon cs∧val cs=val d*val a:=by
 obtain ⟨aa,ca,rfl,fA,gy⟩:=ha.form;obtain ⟨ab,cb,rfl,am,a9⟩:=hb.form;unfold maxLen at gy a9;refine (callsIn_wide (n:=9)).1 ?_;refine callsIn_of_wp_marks func247 rfl trivial ?_ rfl;simp only [ntmps247,Je,QE,QG,Nat.reduceAdd,Nat.reduceSub,Jf,Jg,Jh,Ji,QW,QL]
 have ad:∀ w,(Instr.makeSlice 22 (vI ((d.length:Int)+(a.length:Int))) (vI ((d.length:Int)+(a.length:Int)))).run prog w=.ok (.slice (some ⟨w.heap.size,0,none⟩) (d.length+a.length) (d.length+a.length)) (w.alloc (.cells (zeros (d.length+a.length)) 128)):=fun w=>by
  rw [fw _ _ (by omega) (by omega) (by omega) w,show ((d.length:Int)+(a.length:Int)).toNat=d.length+a.length by omega]
 gi_wp2_with (refine ⟨trivial,?_⟩;gi_at_call 218;refine (callsIn_wide.2 (jH _ _ _ ⟨_,_,_,rfl⟩)).mono ?_;rintro e w' ⟨rfl,rfl⟩)
 clear ad;have b0:bW w w:=Qj _ _
 refine iE 6 7 (w.heap.size+4) (w.heap.size+3) w.heap.size d.length (.slice aa d.length ca) d (by exact rfl) a7 (by omega) (by simp) (by simp) (by simp;omega) ?m1 ?m2 (ha.below ?m3) ha.lt
  (fun f W=>Mx w (.slice aa d.length ca) (.slice ab a.length cb) d a (f.map (·.1)) W)
  (fun _ _ _=>False) (FP _ ?mB _ _ _ _ _) (fun _ _ _ _ _ h _ _=>h.elim) ?start ?assign ?body ?done ?stop
 case mB=>simp;omega
 case m1=>go_simp
 case m2=>go_simp
 case m3=>exact ((((b0.alloc (Qb _) _).alloc (by simp) _).alloc (by simp;omega) _).alloc (by simp;omega) _).alloc (by simp;omega) _
 case start =>
  refine ⟨?_,?_,?_,?_,?_⟩
  ·exact Boxed.at (((Qi _ _ _).alloc _).alloc _) (by simp)
  ·have e:aF (gD (d.length+a.length) a (([]:List (dA d.length)).map (·.1)))=(zeros (d.length+a.length)).toList:=by simp [gD,aF,zeros]
   rw [e];exact af.at ((((af.new _ _ _).alloc _).alloc _).alloc _) (by simp)
  ·exact Boxed.at ((Qi _ _ _).alloc _) (by simp)
  ·exact ((((Qi _ _ _).alloc _).alloc _).alloc _).alloc _
  ·exact ((((b0.alloc (Qb _) _).alloc (by simp) _).alloc (by simp;omega) _).alloc (by simp;omega) _).alloc (by simp;omega) _
 case assign =>
  intro l x W K hK
  gi_wp2
  exact hK
 case body =>
  rintro l f x W ⟨R,rv,bs,bl,S⟩ ap;have sI:=S.size;obtain ⟨⟨i,y⟩,a4,u⟩:=x
  have Y:∀ p ∈ f.map (·.1),p.2<aj:=fun p hp=>by
   obtain ⟨q,_,rfl⟩:=Qw.1 hp;exact q.2.2
  have a8:=qh (d.length+a.length) A (f.map (·.1)) Y;have hlen:=mD (d.length+a.length) a (f.map (·.1));have g:=mU (d.length+a.length) a (f.map (·.1)) (i,y)
  have E:(f++[(⟨(i,y),a4,u⟩:dA d.length)]).map (·.1)=f.map (·.1)++[(i,y)]:=by simp
  generalize gD (d.length+a.length) a (f.map (·.1))=r at *;simp only [vJ] at g;dsimp only at *;clear Y;have HN:=Qa g;have HM:=Qa E;have HL:=Qa hlen;clear g E hlen;have a5:=u;unfold aj at a5;have a2:=R.cell;have an:=bl.cell;simp only [cZ]
  gi_wp2_with fail
  gi_loopw [8,25] (fun s8 O wr=>∃ j:Nat,j≤a.length∧O=vI j∧s8=.int .u64 ((tlInner y i a r j).2:Int)∧af wr (w.heap.size+1) 128 (aF (tlInner y i a r j).1)∧dF (fun k=>k=w.heap.size+1) W wr)
   (fun _ O _=>a.length - (intOf O).toNat)
  case atStart=>exact ⟨0,QF _,rfl,rfl,rv,dF.refl _ _⟩
  case round =>
   obtain ⟨j,hj,rfl,rfl,m,o⟩:=hrel;have a1:=o.boxed R (by omega);have a0:=o.boxed bl (by omega);have al:=a1.cell;have ak:=a0.cell;obtain ⟨ae,H⟩:=oJ u i A a8 j;have s:=jF y i a r j;rw [HL.out] at s
   have hstep:tlInner y i a r (j+1)=((tlInner y i a r j).1.set (i+j) (((tlInner y i a r j).2+(y*a[j]?.getD 0+(tlInner y i a r j).1[i+j]?.getD 0)) % aj),((tlInner y i a r j).2+(y*a[j]?.getD 0+(tlInner y i a r j).1[i+j]?.getD 0)) / aj):=rfl;have Q:=Qa hstep;clear hstep;generalize Z:tlInner y i a r j=st at *;obtain ⟨q,c⟩:=st;have HT:=Qa Z;clear Z;dsimp only at *
   by_cases a6:j<a.length
   ·have ao:=hb.index aG bZ j .i64
    have I:=((hb.below S).uz (B:=w.heap.size) hb.lt (o.below (by omega) sI)).cell j a6;have F:=aK A j
    obtain ⟨b,V⟩:∃ b,a[j]?.getD 0=b:=⟨_,rfl⟩
    obtain ⟨z,N⟩:∃ z,q[i+j]?.getD 0=z:=⟨_,rfl⟩
    have M:=aK ae (i+j);rw [N] at M Q;rw [V] at I F Q;have G:=xJ H u F M
    obtain ⟨P,hP⟩:∃ P,y*b=P:=⟨_,rfl⟩
    rw [hP] at G Q
    obtain ⟨T,hT⟩:∃ T,c+(P+z)=T:=⟨_,rfl⟩
    rw [hT] at Q;unfold aj at G F M H
    have hmul:IntKind.u64.wrap ((y:Int)*(b:Int))=(P:Int):=by
     rw [← Jy,hP,Qk];omega
    have aq:IntKind.u64.wrap ((P:Int)+(z:Int))=(P:Int)+(z:Int):=by rw [Qk];omega
    have ar:IntKind.u64.wrap ((c:Int)+((P:Int)+(z:Int)))=(T:Int):=by rw [Qk];omega
    have J:wr.cell? ⟨w.heap.size+1,i+j,none⟩=some (.int .u32 (z:Int)):=by
     rw [m.cell];simp [aF,Qs (show i+j<q.length by omega)];rw [← N,Qs (show i+j<q.length by omega)];rfl
    have a3:=m.frozen (i+j);clear hP hT V N G;have HQ:=Qa s;clear s
    gi_wp2_with fail
    go_roundw
    case rel =>
     refine ⟨j+1,by omega,by go_num,?_,?_,o.setCell (.inl rfl) _⟩
     ·rw [Q.out]
      exact congrArg _ (by show _=((T / aj:Nat):Int);unfold aj;omega)
     ·rw [Q.out]
      have hv:Value.int .u32 ((T:Int) % 4294967296)=.int .u32 ((T % aj:Nat):Int):=congrArg _ (by unfold aj;omega);rw [hv]
      have e:aF (q.set (i+j) (T % aj))=(aF q).set (i+j) (.int .u32 ((T % aj:Nat):Int)):=by simp [aF]
      rw [e];exact m.set (i+j) _
    case measure=>simp [intOf];omega
   ·obtain rfl:j=a.length:=by omega
    have J:∃ z:Value,wr.cell? ⟨w.heap.size+1,i+a.length,none⟩=some z:=by
     rw [m.cell];exact ⟨_,Qs (by simp [aF];omega)⟩
    obtain ⟨z,J⟩:=J;have a3:=m.frozen (i+a.length);unfold aj at H;have HQ:=Qa s;clear s
    gi_wp2_with fail
    have U:=o.setCell (p:=⟨w.heap.size+1,i+a.length,none⟩) (.inl rfl) (.int .u32 (c:Int));have C:=U.below (B:=w.heap.size) (by rintro k rfl;omega) sI;have f4:=U.boxed bs (by omega);refine ⟨U.fH _ ?_,oh.boxed C bs f4,U.boxed R (by omega),?_,f4,U.boxed bl (by omega),S.trans C⟩
    ·rintro k rfl
     exact rv.isCells
    ·rw [HM.out,HN.out,HT.out]
     have e:aF (q.set (i+a.length) c)=(aF q).set (i+a.length) (.int .u32 (c:Int)):=by simp [aF]
     rw [e];exact m.set (i+a.length) _
 case done =>
  rintro D ys W hD L ⟨R,rv,bs,bl,S⟩ hK
  have X:=qh (d.length+a.length) A (ah d d.length) (fun p hp=>by
   obtain ⟨q,_,rfl⟩:=Qw.1 (L ▸ hp)
   exact q.2.2)
  have t:=(xU d a d.length (Qb _)).1;have hlen:=mD (d.length+a.length) a (ah d d.length);rw [Qv (Qb _)] at t;rw [L] at rv;clear L;generalize gD (d.length+a.length) a (ah d d.length)=r at *;have HV:=Qa t;have ai:Reads .u32 W (.slice (some ⟨w.heap.size+1,0,none⟩) (d.length+a.length) (d.length+a.length)) r:=af.reads rv _ _ hlen.symm (Qb _) (by unfold maxLen;omega)
  clear t hlen;have a2:=R.cell
  gi_wp2_with (refine ⟨trivial,?_⟩;gi_at_call 188;refine (callsIn_wide.2 (jf _ _ _ ai)).mono ?_;rintro e w' ⟨rfl,v3,rfl,ag⟩)
  refine ⟨by simp,.inl ⟨_,_,rfl,run_takeDeferred hK,?_⟩⟩;refine ⟨_,results_tmp rfl _ _ _,S.trans (belowK_b (w:=w) (Qb _) W D _ _ (by simp at hD;omega) hK rfl rfl),v3,_,rfl,ag.putObj hK rfl _,dL X,?_⟩;rw [dC,HV.out]
 case stop =>
  rintro D c f W _ _ h _;exact h.elim
end Go.Proofs.YtagjhmodblifbaaGreatDoor
