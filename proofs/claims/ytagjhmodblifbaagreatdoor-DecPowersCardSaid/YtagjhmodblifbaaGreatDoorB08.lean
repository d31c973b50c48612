/- proved lemmas -/
import Derived.Test.YtagjhmodblifbaaGreatDoorMA
import Derived.Test.YtagjhmodblifbaaGreatDoorB00
import Derived.Test.YtagjhmodblifbaaGreatDoorB07
import Derived.Test.YtagjhmodblifbaaGreatDoorB06
import Derived.Test.YtagjhmodblifbaaGreatDoorB04
import Derived.Lib.IndexBytes
import Derived.Test.YtagjhmodblifbaaGreatDoorB01
import Derived.Deep.CutRange
import Derived.Test.YtagjhmodblifbaaGreatDoorB02
set_option maxHeartbeats 4000000
set_option maxRecDepth 100000
set_option exponentiation.threshold 100000
namespace Go.Proofs.YtagjhmodblifbaaGreatDoor
open Go.Proofs.Tryz
open Go Go.RowKit Go.Shelf
attribute [local go_sem] Jc
def di (b:Nat)(l:List UInt8):Nat:=l.foldl (fun v c=>v*b+digitVal c.toNat) 0
theorem Na (b:Nat)(l:List UInt8)(z:Nat):l.foldl (fun v c=>v*b+digitVal c.toNat) z=z*b^l.length+di b l:=by
 unfold di
 induction l generalizing z with
 | nil=>simp
 | cons c l a =>
  simp only [List.foldl_cons,QE];rw [a,a (0*b+digitVal c.toNat),Qo];simp only [QI,QJ,QH];rw [Qn z b,Qp b,QV]
theorem qi (b:Nat)(xs ys:List UInt8):di b (xs++ys)=di b xs*b^ys.length+di b ys:=by
 rw [di,List.foldl_append];exact Na b ys _
theorem tO (b:Nat)(xs:List UInt8)(c:UInt8):di b (xs++[c])=di b xs*b+digitVal c.toNat:=by
 rw [qi];simp [di]
theorem uJ {b:Nat}(l:List UInt8)(h:∀ c ∈ l,digitVal c.toNat<b):di b l<b^l.length:=by
 induction l using fP with
 | h0=>simp [di]
 | h1 l c d =>
  have h1:=d (fun x a=>h x (by simp [a]));have f:=h c (by simp);rw [tO,QX,JM,Qo]
  calc di b l*b+digitVal c.toNat<di b l*b+b:=by omega
   _=(di b l+1)*b:=by rw [QH,QD]
   _≤b^l.length*b:=Ja _ h1
def mh (m:Nat)(l:List UInt8)(k:Nat):List UInt8:=(l.drop (m*k)).take m
theorem Eb (m:Nat)(l:List UInt8)(k:Nat):l.take (m*(k+1))=l.take (m*k)++mh m l k:=by
 rw [mh,YA,List.take_add]
theorem Bf (m:Nat)(l:List UInt8)(k:Nat):(mh m l k).length=min m (l.length - m*k):=by simp [mh]
abbrev iC:={ p:Nat × Nat // p.1<aj∧p.2<aj }
def uK (p:iC):Array Value:=#[.int .u32 (p.1.1:Int),.int .u32 (p.1.2:Int)]
def lg (b m:Nat)(l:List UInt8)(k:Nat):Nat × Nat:=(b^(mh m l k).length,di b (mh m l k))
def pU:Option Value→Nat
 | some (.string s)=>s.size
 | _=>0
def fE (m:Nat)(l:List UInt8)(k:Nat):ByteArray:=⟨(l.drop (m*k)).toArray⟩
theorem qX (m:Nat)(l:List UInt8)(k:Nat):(fE m l k).size=l.length - m*k:=by simp [fE,ByteArray.size]
theorem iQ (m:Nat)(l:List UInt8)(k:Nat):(fE m l k).data.toList=l.drop (m*k):=by simp [fE]
theorem ky {s t:ByteArray}(h:s.data.toList=t.data.toList):s=t:=by
 obtain ⟨⟨a⟩⟩:=s;obtain ⟨⟨c⟩⟩:=t;simp at h;rw [h]
theorem Cu (m:Nat)(l:List UInt8)(k:Nat):(fE m l k).extract (min m (l.length - m*k)) (l.length - m*k)=fE m l (k+1):=by
 apply ky;have h:=YB (fE m l k) (min m (l.length - m*k));rw [qX] at h;rw [h,iQ,iQ,List.drop_drop,YA]
 by_cases a:m≤l.length - m*k
 ·rw [JS a]
 ·rw [Nat.min_eq_right (by omega),List.drop_eq_nil_of_le (by omega),List.drop_eq_nil_of_le (by omega)]
theorem Ec (b m:Nat)(l:List UInt8)(h2:2≤b)(om:b≤36)(ax:1≤m)(hM:b^m<aj)(a6:aj≤b^(m+1))(hl:l.length≤1000000)(aq:∀ c ∈ l,digitVal c.toNat<b)(y Z h:Nat)
  (J:List iC→World→Prop) (hJ:∀ s A A',J s A→A.grownBy A' (some h)→J s A')
  (hY:∀ a x A,J a A→Boxed A h 9 (.string (fE m l (a++[x]).length))→a.length<1000000→((a++[x]).map (·.1)=(List.range (a++[x]).length).map (lg b m l))→YieldAt Fence.wide (8 - 1) prog y (uK x) A fun e A'=>e=.returned (.bool true)∧J (a++[x]) A'∧A'.heap[Z]?=A.heap[Z]?∧A'.heap[h]?=A.heap[h]?)
  (W:World) (hb:Boxed W Z 3 (vI b)) (hs:Boxed W h 9 (.string (fE m l 0))) (bc:Z≠h) (h0:J [] W) :
  CallsIn Fence.wide 8 prog 259 #[.func (.yield y) #[] #[],vP Z,vP h] W fun e W'=>(∃ v,e=.returned v) ∧
   ∃ xs:List iC,(xs.map (·.1)=(List.range xs.length).map (lg b m l)∧l.length≤m*xs.length)∧J xs W':=by
 have bj:=hb.cell;refine callsIn_of_wp func259 rfl trivial ?_ rfl;simp only [ntmps259,Je,QE,QG,Nat.reduceAdd,Nat.reduceSub,Jf,Jg,Jh,Ji,QW,QL];have HM:=Qa (And.intro hM a6)
 obtain ⟨U,hU⟩:∃ U,b^m=U:=⟨_,rfl⟩
 have a9:=IG b m W h2 om hM a6;rw [hU] at a9;have HC:=Qa a9;clear a9 hM a6 hU
 gi_wp2_with (refine ⟨trivial,?_⟩;gi_at_call 229;refine (callsIn_wide.2 HC.out).mono ?_;rintro e w' ⟨rfl,rfl⟩)
 gi_loopw [6] (fun _ wr=>∃ a:List iC,a.map (·.1)=(List.range a.length).map (lg b m l)∧a.length≤l.length∧J a wr∧Boxed wr Z 3 (vI b)∧Boxed wr h 9 (.string (fE m l a.length))) (fun _ W=>pU (W.cell? ⟨h,0,none⟩))
 case atStart=>exact ⟨[],rfl,by simp,h0,hb,hs⟩
 case round =>
  obtain ⟨a,D,bd,ak,an,X⟩:=hrel
  obtain ⟨k,hk⟩:∃ k,a.length=k:=⟨_,rfl⟩
  rw [hk] at X bd
  obtain ⟨L,hL⟩:∃ L,l.length - m*k=L:=⟨_,rfl⟩
  have E:(fE m l k).size=L:=by rw [qX,hL]
  have ae:=iQ m l k;have a3:=Cu m l k;rw [hL] at a3;have C:=Bf m l k;rw [hL] at C;have a1:=X.cell;have b8:=X.frozen;have b7:=an.cell
  by_cases bl:0<L
  ·have H:=Qa (And.intro D (And.intro hk (And.intro hL (And.intro a3 (And.intro C ae)))))
   have HS:=Qa E;clear D hk hL a3 C ae
   obtain ⟨r,hr⟩:∃ r,fE m l k=r:=⟨_,rfl⟩
   rw [hr] at a1 E;have HR:=Qa hr;have bf:r.size=L:=E;clear hr E
   have bi:L≤1000000:=by have:=H.out.2.2.1;omega
   have az:min m L≤1000000:=by omega
   gi_wp2
   rw [show min (m:Int) (L:Int)=((min m L:Nat):Int) by omega]
   obtain ⟨Y,a2⟩:∃ Y,min m L=Y:=⟨_,rfl⟩
   rw [a2] at az ⊢
   have bh:Y≤L:=by omega
   have a0:=Qa a2
   obtain ⟨f,T⟩:∃ f,mh m l k=f:=⟨_,rfl⟩
   have V:f.length=Y:=by rw [← T,H.out.2.2.2.2.1,a2]
   have a4:∀ c ∈ f,digitVal c.toNat<b:=fun c hc=>aq c (by rw [← T,mh] at hc;exact Xh (YR hc))
   have a5:∀ j,j<Y→∃ hj:j<r.size,r[j]=f[j]!:=fun j hj=>by
    refine ⟨by omega,?_⟩
    have e1:r.data.toList=l.drop (m*k):=by rw [← HR.out];exact H.out.2.2.2.2.2
    have e2:r.data.toList[j]?=some (r[j]'(by omega)):=by
     have hs:j<r.data.size:=by have:r.data.size=r.size:=rfl;omega
     rw [Array.getElem?_toList,Xy hs];rfl
    have e4:(mh m l k)[j]?=r.data.toList[j]?:=by
     rw [mh,ZT,if_pos (by omega),← e1]
    have e3:f[j]?=some (r[j]'(by omega)):=by
     rw [T] at e4;exact e4.trans e2
    have ar:j<f.length:=by rw [V];exact hj
    rw [getElem!_pos f j ar];rw [Qs ar] at e3;exact (Option.some.inj e3).symm
   have g:=Qa (And.intro T (And.intro V (And.intro a4 a5)));clear a2 T V a4 a5
   gi_loopw [6,7,21] (fun u v i W=>∃ j:Nat,j≤Y∧i=vI j∧u=.int .u64 ((b^j:Nat):Int)∧v=.int .u64 ((di b (f.take j):Nat):Int)∧∃ nq,W=wr.drewN nq) (fun _ _ i _=>Y - (intOf i).toNat)
   case atStart=>exact ⟨0,QF _,rfl,by simp,by simp [di],0,rfl⟩
   case round =>
    obtain ⟨j,hj,rfl,rfl,rfl,nq,rfl⟩:=hrel;have c1:(wr.drewN nq).cell? ⟨h,0,none⟩=some (.string r):=a1;have c2:(wr.drewN nq).cell? ⟨Z,0,none⟩=some (vI b):=b7
    by_cases ba:j<Y
    ·obtain ⟨au,ad⟩:=g.out.2.2.2 j ba
     obtain ⟨t,o⟩:∃ t,b^j=t:=⟨_,rfl⟩
     obtain ⟨z,p⟩:∃ z,di b (f.take j)=z:=⟨_,rfl⟩
     rw [o,p]
     have b0:Y≤m:=by have:=a0.out;omega
     have M:b^(j+1)<aj:=Qr (Ql (by omega) (by omega)) HM.out.1
     have ap:f[j]! ∈ f:=by
      have:=g.out.2.1;rw [getElem!_pos f j (by omega)];exact JZ _
     have B:=g.out.2.2.1 _ ap
     have F:f.take (j+1)=f.take j++[f[j]!]:=by
      have:=g.out.2.1;rw [Yj (by omega),getElem!_pos f j (by omega)]
     have O:di b (f.take (j+1))=z*b+digitVal r[j].toNat:=by rw [F,tO,p,ad]
     have N:di b (f.take (j+1))<aj:=by
      refine Qf (uJ _ (fun c hc=>g.out.2.2.1 c (YR hc))) (Ju (Qr (Ql (by omega) ?_) M));have:=List.length_take_le (j+1) f;omega
     rw [← ad] at B
     have a7:b^(j+1)=t*b:=by rw [← o,Qo]
     have b9:∀ W,(Instr.index 9 (.string r) (vI j)).run prog W=.ok (.int .u8 ((r[j].toNat:Nat):Int)) W:=fun W=>by
      simp [go_sem,au]
     obtain ⟨c,hc⟩:∃ c,r[j].toNat=c:=⟨_,rfl⟩
     have Q:c<256:=by rw [← hc];exact r[j].toNat_lt
     rw [hc] at b9 O B
     obtain ⟨d,aa⟩:∃ d,digitVal c=d:=⟨_,rfl⟩
     rw [aa] at O B
     obtain ⟨P2,I⟩:∃ P2,t*b=P2:=⟨_,rfl⟩
     obtain ⟨V2,a8⟩:∃ V2,z*b=V2:=⟨_,rfl⟩
     rw [I] at a7;rw [a8] at O
     have w1:IntKind.u64.wrap ((t:Int)*(b:Int))=(P2:Int):=by rw [← Jy,I,Qk];unfold aj at M;omega
     have w2:IntKind.u64.wrap ((z:Int)*(b:Int))=(V2:Int):=by rw [← Jy,a8,Qk];unfold aj at N;omega
     have w3:IntKind.u64.wrap (d:Int)=(d:Int):=by rw [Qk];omega
     have w4:IntKind.u64.wrap ((V2:Int)+(d:Int))=((V2+d:Nat):Int):=by rw [Qk];unfold aj at N;omega
     have ab:=fun W=>qW c W Q
     rw [aa] at ab;have b2:=Qa ab;have ag:=Qa (And.intro a7 O);clear ad b0 M ap B F O N a7 hc Q aa I a8 ab o p au
     gi_wp2_with fail
     refine uM (.inl rfl) (by kernel_rfl) (by kernel_rfl) ?_
     repeat (go_big_quiet_step (exact (b2.out _).mono (fun e w' ⟨h1,h2⟩=>⟨h2,_,h1.symm⟩)))
     refine wpQuiet_nil ?_;rintro _ ⟨bn,rfl⟩
     gi_wp2
     exact ⟨⟨j+1,by omega,by go_num,by rw [ag.out.1],by rw [ag.out.2,ZJ],_,rfl⟩,by simp [intOf];omega⟩
    ·obtain rfl:j=Y:=by omega
     have ay:=a0.out;have q:b^j<aj:=Qr (Ql (by omega) (by omega)) HM.out.1;have F:f.take j=f:=Qv (by rw [g.out.2.1];exact Qb _);have G:di b f<aj:=Yt (uJ _ g.out.2.2.1) (by rw [g.out.2.1];exact q)
     have R:lg b m l k=(b^j,di b f):=by rw [lg,g.out.1,g.out.2.1]
     have bm:r.extract j L=fE m l (k+1):=by rw [← HR.out,← H.out.2.2.2.1,a0.out]
     have n:=H.out.2.1;have av:=H.out.2.2.1;rw [F]
     obtain ⟨t,o⟩:∃ t,b^j=t:=⟨_,rfl⟩
     obtain ⟨z,p⟩:∃ z,di b f=z:=⟨_,rfl⟩
     rw [o] at q R ⊢;rw [p] at G R ⊢;have al:J a ((wr.drewN nq).setCell ⟨h,0,none⟩ (.string (fE m l (k+1)))):=hJ _ (wr.drewN nq) _ (hJ _ wr (wr.drewN nq) ak ⟨rfl,rfl,rfl,Qb _,fun _ _ _=>rfl⟩) (grownBy_setCell' _ _ _)
     have ah:Boxed ((wr.drewN nq).setCell ⟨h,0,none⟩ (.string (fE m l (k+1)))) h 9 (.string (fE m l (a++[(⟨(t,z),q,G⟩:iC)]).length)):=by
      rw [QX,JM,n];exact QO _ (show Boxed (wr.drewN nq) h _ _ from X)
     have aw:k≤m*k:=ZZ k ax
     have S:(a++[(⟨(t,z),q,G⟩:iC)]).map (·.1)=(List.range (a++[(⟨(t,z),q,G⟩:iC)]).length).map (lg b m l):=by
      rw [JJ,H.out.1,QX,JM,Yk,JJ,n];simp only [List.map_cons,List.map_nil];rw [R]
     obtain ⟨fn,tmps,assign,body,hy,am⟩:=hY a ⟨(t,z),q,G⟩ _ al ah (by rw [n];omega) S;have af:=Qa S;clear S;simp only [uK] at hy
     have w1:IntKind.u32.wrap (t:Int)=(t:Int):=by rw [Jj];unfold aj at q;omega
     have w2:IntKind.u32.wrap (z:Int)=(z:Int):=by rw [Jj];unfold aj at G;omega
     have bk:(wr.drewN nq).frozen? ⟨h,0,none⟩=false:=b8
     have bg:min (m:Int) (L:Int)=(j:Int):=by omega
     have HX:=Qa (And.intro ay (And.intro F (And.intro R (And.intro n (And.intro av (And.intro o p))))));have b3:=Qa am;clear ay F R n av o p aw ah al am g a0 HR
     gi_wp2_with fail
     refine b3.out.mono ?_;rintro e W3 ⟨rfl,b4,eF,b1⟩;have ai:Boxed W3 h 9 (.string (fE m l (k+1))):=b1.trans (QO _ (show Boxed (wr.drewN nq) h _ _ from X));have b6:Boxed W3 Z 3 (vI b):=eF.trans (Yp (show Boxed (wr.drewN nq) Z _ _ from an) bc _);have ao:=ai.cell
     have bb:pU (W3.cell? ⟨h,0,none⟩)<pU (wr.cell? ⟨h,0,none⟩):=by
      rw [ao,a1]
      show (fE m l (k+1)).size<r.size
      have:=HX.out.2.2.2.2.1;rw [qX,bf,← this,YA];omega
     clear ao b1
     gi_wp2_with fail
     have n:=HX.out.2.2.2.1;refine ⟨⟨a++[_],?_,?_,b4,b6,?_⟩,bb⟩
     ·exact af.out
     ·rw [QX,JM,n]
      have aw:k≤m*k:=ZZ k ax;have:=HX.out.2.2.2.2.1;omega
     ·rw [QX,JM,n]
      exact ai
  ·have b5:L=0:=by omega
   have be:(fE m l k).size=0:=by rw [E,b5]
   have H:=Qa (And.intro D (And.intro hk hL));clear D hk hL E ae a3 C
   obtain ⟨r,hr⟩:∃ r,fE m l k=r:=⟨_,rfl⟩
   rw [hr] at a1 be;clear hr
   gi_wp2
   go_end0
   exact ⟨⟨_,rfl⟩,a,⟨H.out.1,by have h1:=H.out.2.2;have h2:=H.out.2.1;rw [h2];omega⟩,ak⟩
def MH (Bb Bs:Nat)(A A':World):Prop:=A'.heap[Bb]?=A.heap[Bb]?∧A'.heap[Bs]?=A.heap[Bs]?
theorem MH.trans {a b:Nat}{A B C:World}(h:MH a b A B)(k:MH a b B C):MH a b A C:=⟨k.1.trans h.1,k.2.trans h.2⟩
theorem pX (s:ByteArray)(b:Int)(w:World) :
  Calls prog 242 #[.string s,vI b] w fun e a =>
   e=.returned (.func (.func 259) #[] #[vP (w.heap.size+1),vP w.heap.size]) ∧
   (w.alloc (.cells #[.string s] 9)).alloc (.cells #[vI b] 3)=a:=by
 go_enter func242,ntmps242;go_wp2;go_ret;exact ⟨rfl,rfl⟩
theorem Bg (b m:Nat)(l:List UInt8)(o:2≤b)(u:b≤36)(k:1≤m)(q:b^m<aj)(h:aj≤b^(m+1))(t:l.length≤1000000)(g:∀ c ∈ l,digitVal c.toNat<b)(f d:Nat)(w:World)
  (s:Boxed w f 3 (vI b)) (hs:Boxed w d 9 (.string (fE m l 0))) (n:f≠d) :
  MC Fence.wide (9 - 1) prog 259 #[vP f,vP d] uK (MH f d)
   (fun xs=>xs.map (·.1)=(List.range xs.length).map (lg b m l)∧l.length≤m*xs.length) (fun ys=>ys.map (·.1)=(List.range ys.length).map (lg b m l)) 1000000 d 9 (fun ys=>.string (fE m l ys.length)) w :=
 fun y J W a p r h0=>Ec b m l o u k q h t g y f d J p r W (s.kept (row:=none) ⟨a.os,a.tape,a.output,a.size,fun j i _=>a.block j i⟩ (by simp)) (hs.kept (row:=none) ⟨a.os,a.tape,a.output,a.size,fun j i _=>a.block j i⟩ (by simp)) n h0
theorem nL {g:Operand}{t u:Tmp}{assign body:Code}{Q:Exit→Act→World→Prop}{a:Act}{w:World}(v z b m:Nat)(l:List UInt8)(J:2≤b)(R:b≤36)(C:1≤m)(M:b^m<aj)(B:aj≤b^(m+1))(O:l.length≤1000000)(q:∀ c ∈ l,digitVal c.toNat<b)(p i:Nat)
  (N:a.eval g=.func (.func 259) #[] #[vP p,vP i])
  (H:Boxed w p 3 (vI b)) (hs:Boxed w i 9 (.string (fE m l 0))) (E:p≠i)
  (I:List iC→World→Prop) (L:∀ s A G row,I s A→A.grownBy G row→(∀ r,row=some r→r=i∨(w.heap.size≤r∧∃ o:Obj,A.heap[r]?=some o∧o.isCells=false))→I s G) (h0:I [] w)
  (f:∀ (l:Nat) (x:iC) (W:World) (K:Act→World→Prop),K (cZ a t u v z (.int .u32 (x.1.1:Int)) (.int .u32 (x.1.2:Int))) W →
   assign.wpIn (Fence.wide.inRound l) 7 prog (Exit.then K (fun _ _ _=>False)) { tmps:=(a.tmps.setIfInBounds t (.int .u32 (x.1.1:Int))).setIfInBounds u (.int .u32 (x.1.2:Int)),defers:=[] } W)
  (j:∀ (y:Nat) (d:List iC) (x:iC) (W:World),I d W→Boxed W i 9 (.string (fE m l (d++[x]).length))→d.length<1000000→(d++[x]).map (·.1)=(List.range (d++[x]).length).map (lg b m l) →
   body.wpIn (Fence.wide.inRound y) 7 prog (Il w.heap.size (MH p i) I (d++[x]) W) (cZ a t u v z (.int .u32 (x.1.1:Int)) (.int .u32 (x.1.2:Int))) W)
  (k:∀ (D:Nat) (xs:List iC) (W:World),w.heap.size≤D→(xs.map (·.1)=(List.range xs.length).map (lg b m l)∧l.length≤m*xs.length)→I xs W→W.heap[D]?=some (.deferred (some []))→Q .normal { a with defers:={ target:=.collected D,args:=#[] }::a.defers } W) :
  (Code.rangeFunc g #[t,u] assign body).wpIn Fence.wide 9 prog Q a w :=
 uW (n:=9) (F:=Fence.wide) rfl (by omega) (gf:=259) (lb:=#[vP p,vP i]) N trivial (enters_of func259 (by kernel_rfl) rfl)
  (Bg b m l J R C M B O q p i w H hs E) MH.trans (fun W l o V S h T U=>⟨QS (by have:=H.lt;omega),QS (by have:=hs.lt;omega)⟩) (Qj _ _) (fun _=>rfl) hs.lt I L h0
  (fun x=>cZ a t u v z (.int .u32 (x.1.1:Int)) (.int .u32 (x.1.2:Int))) (fun l x W K hK=>by simpa [uK] using f l x W K hK) j k
end Go.Proofs.YtagjhmodblifbaaGreatDoor
namespace Go.Proofs.YtagjhmodblifbaaGreatDoor
open Go.Proofs.Tryz
open Go Go.RowKit Go.Shelf
attribute [local go_sem] Jc
theorem bU (s:ByteArray):s.data.toList.length=s.size:=by
 rw [Array.length_toList];rfl
theorem dN (r:ByteArray)(j:Nat)(l:List UInt8)(b:r.data.toList=l)(a:j<l.length)(W:World) :
  (Instr.index 9 (.string r) (vI j)).run prog W=.ok (.int .u8 (((l[j]'a).toNat:Nat):Int)) W:=by
 subst b
 have hs:j<r.size:=by have:=bU r;omega
 have e:r[j]=r.data.toList[j]:=by
  rw [Array.getElem_toList];rfl
 simp [go_sem,hs,e]
theorem yj (b:Nat)(c:UInt8)(l:List UInt8)(h:c.toNat=48):di b (c::l)=di b l:=by
 have h0:0*b+digitVal 48=0:=by simp [digitVal]
 rw [di,List.foldl_cons,h,h0];rfl
theorem fq (b:Nat)(a:0<b)(n:Nat)(l:List UInt8):di b (l.take n)≤di b l:=by
 conv=>rhs;rw [← ZC n l,qi]
 exact Qd (Xi _ (Qq a)) (Yv _ _)
def Nr (B:Nat)(v:Value)(xs:List Nat):Prop:=∀ a n c,v=.slice (some a) n c→xs≠[]→a.block≠B
theorem xq {W:World}{B:Nat}{t:TypeId}{s:ByteArray}{v:Value}{xs:List Nat}(hr:Reads .u32 W v xs)(j:Boxed W B t (.string s)):Nr B v xs:=by
 obtain ⟨a,i,rfl,o,p,d⟩:=hr;intro m n c e l h;simp only [Value.slice.injEq] at e;obtain ⟨rfl,-,-⟩:=e;obtain ⟨⟨b,off,f⟩,g⟩:=d 0 (Zb.2 l);simp only [Option.some.injEq] at f;subst f;simp only at h;subst h;rw [iY] at g;simp only [World.cell?,show W.heap[b]?=_ from j] at g
 cases off with
 | zero=>simp at g
 | succ k=>simp at g
theorem Cv {W g:World}{v:Value}{xs:List Nat}{row:Option Nat}(hr:Reads .u32 W v xs)(s:W.grownBy g row)(f:∀ r,row=some r→(∀ a n c,v=.slice (some a) n c→xs≠[]→a.block≠r)∨∃ o:Obj,W.heap[r]?=some o∧o.isCells=false):Reads .u32 g v xs:=by
 obtain ⟨a,i,rfl,q,t,d⟩:=hr;refine ⟨a,i,rfl,q,t,fun j l=>⟨(d j l).1,?_⟩⟩;obtain ⟨⟨b,off,rfl⟩,k⟩:=d j l;have m:=JE W _ k
 have u:xs≠[]:=by intro e;simp [e] at l
 have p:g.heap[b]?=W.heap[b]?:=s.block b m (fun e=>by
  rcases f b e.symm with h | ⟨o,ho,hoc⟩
  ·exact h ⟨b,off,none⟩ _ _ rfl u rfl
  ·rw [iY] at k
   cases o <;> simp_all [World.cell?,Obj.isCells])
 rw [← k];exact Jd p
def oo (W0:World)(b m:Nat)(lx:List UInt8)(pre:List iC)(W:World):Prop :=
 ∃ v xs,Boxed W W0.heap.size 22 v∧Reads .u32 W v xs∧Nr (W0.heap.size+1) v xs∧Canon xs∧val xs=di b (lx.take (m*pre.length))∧bW W0 W∧W0.heap.size+3≤W.heap.size
theorem oo.own {c:World}{b m n:Nat}{l:List UInt8}(t:c.heap.size+1≤n):∀ (s:List iC) (A g:World) (row:Option Nat),oo c b m l s A→A.grownBy g row→(∀ r,row=some r→r=c.heap.size+1∨(n≤r∧∃ o:Obj,A.heap[r]?=some o∧o.isCells=false))→oo c b m l s g:=by
 rintro s A g row ⟨v,xs,j,hr,k,p,q,d,i⟩ f a;refine ⟨v,xs,j.kept f (fun e=>?_),Cv hr f (fun r e=>?_),k,p,q,d.grown f d.size (fun r e=>?_),Qd i f.size⟩
 ·rcases a _ e.symm with h | ⟨_,o,h,hoc⟩
  ·omega
  ·rw [show A.heap[c.heap.size]?=_ from j] at h
   cases h;simp [Obj.isCells] at hoc
 ·rcases a r e with h | ⟨_,h⟩
  ·subst h;exact .inl k
  ·exact .inr h
 ·rcases a r e with h | ⟨h,_⟩ <;> omega
theorem oo.start {d:World}(b m:Nat)(f:List UInt8)(g h:Obj):oo d b m f [] (((d.alloc (.cells #[vZ] 22)).alloc g).alloc h) :=
 ⟨vZ,[],((Qi d _ _).alloc _).alloc _,Reads.nil _ _,fun a n c e=>by simp at e,iU,by simp [val,di],((dJ d _).alloc (by simp) _).alloc (by simp;omega) _,by simp⟩
theorem oo.next {b m k:Nat}{c:List UInt8}{ps:List (Nat × Nat)}{q:Nat × Nat}(a:ps.length=k)(h:ps++[q]=(List.range (k+1)).map (lg b m c))(V:Nat)(d:V=di b (c.take (m*k))*q.1+q.2):V=di b (c.take (m*(k+1))):=by
 have h1:=congrArg (fun z:List (Nat × Nat)=>z[k]?) h;rw [List.getElem?_append_right (by omega),a,Yn] at h1;simp at h1;rw [d,h1,Eb,qi];rfl
theorem IW (s:ByteArray)(b:Nat)(w:World)(h2:2≤b)(om:b≤36)(neg:Bool)(l:List UInt8)(hs:s.data.toList=(if neg then [45] else [])++l)(bi:l≠[])(hlen:l.length≤100000)(a2:∀ c ∈ l,digitVal c.toNat<b)(b3:di b l<aj^300) :
 CB 217 #[.string s,vI b] w fun e w'=>∃ v,e=.returned v∧ak w' v (bX neg (di b l)):=by
 have b1:0<l.length:=Zb.2 bi
 obtain ⟨t,ht⟩:∃ t:ByteArray,t.data.toList=l:=⟨⟨l.toArray⟩,by simp⟩
 have ae:t.size=l.length:=by rw [← ht,bU]
 have hcut:neg=true→s.extract 1 s.size=t:=fun hn=>by
  subst hn;apply ky;rw [YB,hs,ht];rfl
 have ad:neg=false→s=t:=fun hn=>by
  subst hn;apply ky;rw [hs,ht];rfl
 have E:s.size=(if neg then 1 else 0)+l.length:=by
  rw [← bU,hs]
  cases neg <;> simp [Zn]
 have az:∀ W,(Instr.index 9 (.string s) (vI 0)).run prog W=.ok (.int .u8 (if neg then 45 else (((l[0]'b1).toNat:Nat):Int))) W:=fun W=>by
  have h0:0<((if neg then [45] else [])++l).length:=by cases neg <;> simp <;> omega
  have:=dN s 0 _ hs h0 W;rw [QC] at this;rw [this]
  cases neg <;> rfl
 have au:neg=false→((((l[0]'b1).toNat:Nat):Int) == 45)=false:=fun _=>by
  have h1:=a2 (l[0]'b1) (JZ _)
  refine beq_eq_false_iff_ne.2 fun e=>?_
  have e':(l[0]'b1).toNat=45:=by omega
  rw [e'] at h1;simp [digitVal] at h1;omega
 have av:0<s.size:=by rw [E];omega
 obtain ⟨m,b2,hM,ax⟩:=AV b h2 om;have HL:=Qa (And.intro ht (And.intro ae (And.intro hs E)));refine (callsIn_wide (n:=9)).1 ?_;refine callsIn_of_wp_marks func217 rfl trivial ?_ rfl;simp only [ntmps217,Je,QE,QG,Nat.reduceAdd,Nat.reduceSub,Jf,Jg,Jh,Ji,QW,QL]
 have bq:l.length≤9223372036854775807:=by omega
 have J:=Qa b3;clear ht ae hs E bi b3;have Z:=dJ w (.cells #[vF,vZ] 24);have r0:=af.new w 24 (lN false none 0 0)
 obtain ⟨r,b5⟩:∃ r,w.alloc (.cells #[vF,vZ] 24)=r:=⟨_,rfl⟩
 rw [b5] at Z r0;have HW:=Qa b5;clear b5;have ae:=HL.out.2.1
 have ay:decide ((0:Int)<(l.length:Int))=true:=by simp;omega
 have bj:s.size=s.size:=rfl;cases neg
 ·have e0:=ad rfl
  have bl:=au rfl;simp only [Zr,if_false] at az;clear ad hcut au;subst e0
  gi_wp2_with (refine ⟨trivial,?_⟩;gi_at_call 106;refine (callsIn_wide.2 (aC _ _ _ (by first | rfl | (simp;omega)))).mono ?_;rintro e w2 ⟨rfl,rfl⟩)
  generalize s=t at *;clear az bl av bj;rw [HW.out]
  gi_loop [27] (fun i=>∃ j:Nat,j≤l.length∧i=vI j) (fun i=>l.length - (intOf i).toNat)
  case atStart=>exact ⟨0,QF _,rfl⟩
  case round =>
   obtain ⟨j,hj,rfl⟩:=hrel
   by_cases a1:j<l.length
   ·have S:=fun W=>dN t j l HL.out.1 a1 W
    have b7:=a2 (l[j]'a1) (JZ _)
    obtain ⟨c,G⟩:∃ c,(l[j]'a1).toNat=c:=⟨_,rfl⟩
    have a9:c<256:=by rw [← G];exact (l[j]'a1).toNat_lt
    rw [G] at S b7
    have bm:decide (((digitVal c:Nat):Int)<(b:Int))=true:=by simp;omega
    clear G
    gi_wp2_with (first
     | (refine ⟨trivial,?_⟩;gi_at_call 241;refine (callsIn_wide.2 (qW c _ a9)).mono ?_;rintro e w2 ⟨rfl,rfl⟩)
     | (refine ⟨trivial,?_⟩;gi_at_call 106;refine (callsIn_wide.2 (aC _ _ _ (by first | rfl | (simp;omega)))).mono ?_;rintro e w2 ⟨rfl,rfl⟩))
    exact ⟨⟨j+1,by omega,by go_num⟩,by simp [intOf];omega⟩
   ·have bn:decide ((j:Int)<(l.length:Int))=false:=by simp;omega
    have bk:=Qa (And.intro ae ay);clear ae ay
    gi_wp2_with fail
    gi_loop [0] (fun v=>∃ (u:ByteArray) (l':List UInt8),v=.string u∧u.data.toList=l'∧di b l'=di b l∧(∀ c ∈ l',digitVal c.toNat<b)∧l'.length≤100000) (fun v=>pU (some v))
    case atStart=>exact ⟨t,l,rfl,HL.out.1,rfl,a2,hlen⟩
    case round =>
     obtain ⟨u,l',rfl,hu,a3,R,V⟩:=hrel
     have H:u.size=l'.length:=by rw [← hu,bU]
     have a0:(l'=[])∨(∃ c d,l'=c::d∧c.toNat=48)∨(∃ c d,l'=c::d∧c.toNat≠48):=by
      cases l' with
      | nil=>exact .inl rfl
      | cons c d =>
       by_cases h:c.toNat=48
       ·exact .inr (.inl ⟨c,d,rfl,h⟩)
       ·exact .inr (.inr ⟨c,d,rfl,h⟩)
     have z:=Qa (And.intro hu (And.intro a3 (And.intro R V)))
     have bp:u.size≤100000:=by omega
     clear hu a3 R V
     rcases a0 with hg | ⟨c,d,hg,hc48⟩ | ⟨c,d,hg,hc48⟩
     ·subst hg
      simp only [QG] at H
      gi_wp2_with (refine ⟨trivial,?_⟩;gi_at_call 242;refine (callsIn_wide.2 (pX _ _ _)).mono ?_;rintro e w' ⟨rfl,rfl⟩)
      refine nL 8 9 b m [] h2 om b2 hM ax (by have:=z.out.2.2.2;omega) z.out.2.2.1 (r.heap.size+2) (r.heap.size+1) (by exact rfl) ?bb ?bs (by omega)
       (oo r b m []) (oo.own (by simp)) (oo.start b m [] _ _) ?assign ?body ?done
      case bb=>exact Boxed.at (Qi _ _ _) (by simp)
      case bs =>
       have ag:fE m [] 0=u:=ky (by rw [iQ,Jw,QN];exact z.out.1.symm);rw [ag];exact Boxed.at ((Qi _ _ _).alloc _) (by simp)
      case assign =>
       intro y x W K hK
       gi_wp2
       exact hK
      case body =>
       rintro y F x W ⟨v,xs,B,hr,ho,G,I,a,E⟩ O bc X;obtain ⟨⟨P1,V1⟩,al,am⟩:=x;obtain ⟨f,g,rfl,ah,ai⟩:=hr.form;have a8:=B.cell;have ba:=B.frozen;have U:=fq b (by omega) (m*(F.length+1)) [];have bd:xs.length≤300:=aA G (by rw [I];exact Qr (fq b (by omega) _ _) (by rw [z.out.2.1];exact J.out))
       have htp:=jP (.slice f xs.length g) xs P1 V1 W hr G.1 (by omega) al am;have a6:=Qa htp;have HH:=Qa (And.intro I (And.intro U X));clear I U X htp;simp only [cZ]
       gi_wp2_with (first
        | (refine ⟨trivial,?_⟩;gi_at_call 243;refine (callsIn_wide.2 a6.out).mono ?_;rintro e w5 ⟨jS,v5,L,rfl,h5,k5,e5⟩;obtain ⟨a5,c5,rfl,b6,be⟩:=h5.form;have C:Boxed w5 r.heap.size 22 (.slice f xs.length g):=(jS.block _ B.lt).trans B;have Q:Boxed w5 (r.heap.size+1) 9 _:=(jS.block _ O.lt).trans O;have q1:=C.cell;have q2:=C.frozen;have zz:val L=di b (([]:List UInt8).take (m*(F.length+1))):=oo.next (ps:=F.map (·.1)) (q:=(P1,V1)) (by simp) (by simpa using HH.out.2.2) _ (by rw [e5,HH.out.1]);have b8:L.length≤300:=aA k5 (by rw [zz];exact Qr HH.out.2.1 (by rw [z.out.2.1];exact J.out));have b9:decide ((L.length:Int)≤300)=true:=(by simp;omega);have HV:=Qa zz;clear zz e5)
        | (refine ⟨trivial,?_⟩;gi_at_call 106;refine (callsIn_wide.2 (aC _ _ _ (by first | rfl | (simp;omega)))).mono ?_;rintro e w2 ⟨rfl,rfl⟩))
       have N:dF (fun k=>k=r.heap.size) W (w5.setCell ⟨r.heap.size,0,none⟩ (.slice a5 L.length c5)):=((dF.refl (fun k=>k=r.heap.size) W).aU jS).setCell (p:=⟨r.heap.size,0,none⟩) (.inl rfl) _
       refine ⟨N.fH _ (by rintro k rfl;exact Boxed.isCells B),⟨N.block _ (by omega) (by omega),N.block _ (by omega) (by omega)⟩,_,L,QO _ C,h5.setOther q1 (by simp) _,xq h5 Q,k5,?_,a.trans (N.below (fun k hk=>by omega) a.size),?_⟩
       ·rw [QX,JM]
        exact HV.out
       ·exact Qd E N.size
      case done =>
       rintro D ys W hD ⟨ao,an⟩ ⟨v,xs,B,hr,ho,G,I,a,E⟩ hK;obtain ⟨f,g,rfl,ah,ai⟩:=hr.form;have a8:=B.cell
       have A:val xs=di b l:=by rw [I,Qv an];exact z.out.2.1
       have HV:=Qa A;have ab:=r0.below a;clear I A ao
       gi_wp2_with (refine ⟨trivial,?_⟩;gi_at_call 184;refine (callsIn_wide.2 (dK _ _ _ _ _)).mono ?_;rintro e w6 ⟨iZ,rfl⟩;have rr:=ab.below iZ;have o1:=rr.cell 0;have o2:=rr.cell 1;have o3:=rr.frozen 0;have o4:=rr.frozen 1;simp only [Qc,Qe] at o1 o2)
       obtain ⟨s1,s2⟩:=bA (b:=w.heap.size) o1 o2 (.bool (false&&decide (0<xs.length))) (.slice f xs.length g);have T:=bf (b:=w.heap.size) (hr.below iZ) o1 o2 (.bool (false&&decide (0<xs.length))) (.slice f xs.length g)
       have qj:bW w ((w6.setCell ⟨w.heap.size,0,none⟩ (.bool (false&&decide (0<xs.length)))).setCell ⟨w.heap.size,1,none⟩ (.slice f xs.length g)):=(((Z.trans (a.mono Z.size)).trans (iZ.mono (Z.trans (a.mono Z.size)).size)).setCell (p:=⟨w.heap.size,0,none⟩) (Qb _) _).setCell (p:=⟨w.heap.size,1,none⟩) (Qb _) _;have M:D<W.heap.size:=(QT.1 hK).1
       have b4:w.heap.size<D:=by
        have h1:=Z.size;have h2:=r0.lt;simp only [Qh] at hD;omega
       have o:((w6.setCell ⟨w.heap.size,0,none⟩ (.bool (false&&decide (0<xs.length)))).setCell ⟨w.heap.size,1,none⟩ (.slice f xs.length g)).heap[D]?=some (.deferred (some [])):=by
        exact (JG _ _ _ _ (by simp;omega)).trans ((JG _ _ _ _ (by simp;omega)).trans ((iZ.block D M).trans hK))
       simp only [ZP] at s1 s2 T qj o;generalize ((w6.setCell ⟨w.heap.size,0,none⟩ vF).setCell ⟨w.heap.size,1,none⟩ (.slice f xs.length g))=W8 at *;have ap:(W8.putObj D (.deferred none)).cell? ⟨w.heap.size,0,none⟩=some vF:=(Jd (QS (by simp;omega))).trans s1
       have aq:(W8.putObj D (.deferred none)).cell? ⟨w.heap.size,1,none⟩=some (.slice f xs.length g):=(Jd (QS (by simp;omega))).trans s2;refine ⟨by simp,.inl ⟨_,_,rfl,run_takeDeferred o,?_⟩⟩;refine ⟨vN false f xs.length g,by simp [results,results217,go_sem,loadCellsFrom,ap,aq],?_,_,rfl,?_⟩
       ·exact qj.trans (belowK_b (w:=w) (Qb _) W8 D _ _ (by omega) o rfl rfl)
       ·have h9:=dm false (T.putObj o rfl (.deferred none)) G (i:=bX false (di b l)) (by rw [HV.out])
        simpa using h9
     ·subst hg
      have a7:0<(c::d).length:=by simp
      have S:=fun W=>dN u 0 (c::d) z.out.1 a7 W
      simp only [QC,Ya,hc48] at S
      have aw:0<u.size:=by rw [H];simp
      have aa:∃ u2:ByteArray,u.extract 1 u.size=u2∧u2.data.toList=d:=⟨_,rfl,by rw [YB,z.out.1];rfl⟩
      obtain ⟨u2,bo,Y⟩:=aa
      have a4:u2.size<u.size:=by rw [H,← bU u2,Y];simp
      have bh:pU (some (.string u2))<pU (some (.string u)):=a4;have H2:=Qa Y;have ar:=Qa hc48;clear H Y a4 hc48
      gi_wp2_with fail
      refine ⟨⟨u2,d,rfl,H2.out,?_,fun x hx=>z.out.2.2.1 x (by simp [hx]),by have:=z.out.2.2.2;simp at this;omega⟩,bh⟩;rw [← z.out.2.1,yj b c d ar.out]
     ·subst hg
      have a7:0<(c::d).length:=by simp
      have S:=fun W=>dN u 0 (c::d) z.out.1 a7 W
      simp only [QC,Ya] at S;have bg:(((c.toNat:Nat):Int) == 48)=false:=beq_eq_false_iff_ne.2 (by omega)
      have aw:0<u.size:=by rw [H];simp
      clear H hc48
      gi_wp2_with (refine ⟨trivial,?_⟩;gi_at_call 242;refine (callsIn_wide.2 (pX _ _ _)).mono ?_;rintro e w' ⟨rfl,rfl⟩)
      refine nL 8 9 b m (c::d) h2 om b2 hM ax (by have:=z.out.2.2.2;omega) z.out.2.2.1 (r.heap.size+2) (r.heap.size+1) (by exact rfl) ?bb ?bs (by omega)
       (oo r b m (c::d)) (oo.own (by simp)) (oo.start b m (c::d) _ _) ?assign ?body ?done
      case bb=>exact Boxed.at (Qi _ _ _) (by simp)
      case bs =>
       have ag:fE m (c::d) 0=u:=ky (by rw [iQ,Jw,QN];exact z.out.1.symm);rw [ag];exact Boxed.at ((Qi _ _ _).alloc _) (by simp)
      case assign =>
       intro y x W K hK
       gi_wp2
       exact hK
      case body =>
       rintro y F x W ⟨v,xs,B,hr,ho,G,I,a,E⟩ O bc X;obtain ⟨⟨P1,V1⟩,al,am⟩:=x;obtain ⟨f,g,rfl,ah,ai⟩:=hr.form;have a8:=B.cell;have ba:=B.frozen;have U:=fq b (by omega) (m*(F.length+1)) (c::d);have bd:xs.length≤300:=aA G (by rw [I];exact Qr (fq b (by omega) _ _) (by rw [z.out.2.1];exact J.out))
       have htp:=jP (.slice f xs.length g) xs P1 V1 W hr G.1 (by omega) al am;have a6:=Qa htp;have HH:=Qa (And.intro I (And.intro U X));clear I U X htp;simp only [cZ]
       gi_wp2_with (first
        | (refine ⟨trivial,?_⟩;gi_at_call 243;refine (callsIn_wide.2 a6.out).mono ?_;rintro e w5 ⟨jS,v5,L,rfl,h5,k5,e5⟩;obtain ⟨a5,c5,rfl,b6,be⟩:=h5.form;have C:Boxed w5 r.heap.size 22 (.slice f xs.length g):=(jS.block _ B.lt).trans B;have Q:Boxed w5 (r.heap.size+1) 9 _:=(jS.block _ O.lt).trans O;have q1:=C.cell;have q2:=C.frozen;have zz:val L=di b ((c::d:List UInt8).take (m*(F.length+1))):=oo.next (ps:=F.map (·.1)) (q:=(P1,V1)) (by simp) (by simpa using HH.out.2.2) _ (by rw [e5,HH.out.1]);have b8:L.length≤300:=aA k5 (by rw [zz];exact Qr HH.out.2.1 (by rw [z.out.2.1];exact J.out));have b9:decide ((L.length:Int)≤300)=true:=(by simp;omega);have HV:=Qa zz;clear zz e5)
        | (refine ⟨trivial,?_⟩;gi_at_call 106;refine (callsIn_wide.2 (aC _ _ _ (by first | rfl | (simp;omega)))).mono ?_;rintro e w2 ⟨rfl,rfl⟩))
       have N:dF (fun k=>k=r.heap.size) W (w5.setCell ⟨r.heap.size,0,none⟩ (.slice a5 L.length c5)):=((dF.refl (fun k=>k=r.heap.size) W).aU jS).setCell (p:=⟨r.heap.size,0,none⟩) (.inl rfl) _
       refine ⟨N.fH _ (by rintro k rfl;exact Boxed.isCells B),⟨N.block _ (by omega) (by omega),N.block _ (by omega) (by omega)⟩,_,L,QO _ C,h5.setOther q1 (by simp) _,xq h5 Q,k5,?_,a.trans (N.below (fun k hk=>by omega) a.size),?_⟩
       ·rw [QX,JM]
        exact HV.out
       ·exact Qd E N.size
      case done =>
       rintro D ys W hD ⟨ao,an⟩ ⟨v,xs,B,hr,ho,G,I,a,E⟩ hK;obtain ⟨f,g,rfl,ah,ai⟩:=hr.form;have a8:=B.cell
       have A:val xs=di b l:=by rw [I,Qv an];exact z.out.2.1
       have HV:=Qa A;have ab:=r0.below a;clear I A ao
       gi_wp2_with (refine ⟨trivial,?_⟩;gi_at_call 184;refine (callsIn_wide.2 (dK _ _ _ _ _)).mono ?_;rintro e w6 ⟨iZ,rfl⟩;have rr:=ab.below iZ;have o1:=rr.cell 0;have o2:=rr.cell 1;have o3:=rr.frozen 0;have o4:=rr.frozen 1;simp only [Qc,Qe] at o1 o2)
       obtain ⟨s1,s2⟩:=bA (b:=w.heap.size) o1 o2 (.bool (false&&decide (0<xs.length))) (.slice f xs.length g);have T:=bf (b:=w.heap.size) (hr.below iZ) o1 o2 (.bool (false&&decide (0<xs.length))) (.slice f xs.length g)
       have qj:bW w ((w6.setCell ⟨w.heap.size,0,none⟩ (.bool (false&&decide (0<xs.length)))).setCell ⟨w.heap.size,1,none⟩ (.slice f xs.length g)):=(((Z.trans (a.mono Z.size)).trans (iZ.mono (Z.trans (a.mono Z.size)).size)).setCell (p:=⟨w.heap.size,0,none⟩) (Qb _) _).setCell (p:=⟨w.heap.size,1,none⟩) (Qb _) _;have M:D<W.heap.size:=(QT.1 hK).1
       have b4:w.heap.size<D:=by
        have h1:=Z.size;have h2:=r0.lt;simp only [Qh] at hD;omega
       have o:((w6.setCell ⟨w.heap.size,0,none⟩ (.bool (false&&decide (0<xs.length)))).setCell ⟨w.heap.size,1,none⟩ (.slice f xs.length g)).heap[D]?=some (.deferred (some [])):=by
        exact (JG _ _ _ _ (by simp;omega)).trans ((JG _ _ _ _ (by simp;omega)).trans ((iZ.block D M).trans hK))
       simp only [ZP] at s1 s2 T qj o;generalize ((w6.setCell ⟨w.heap.size,0,none⟩ vF).setCell ⟨w.heap.size,1,none⟩ (.slice f xs.length g))=W8 at *;have ap:(W8.putObj D (.deferred none)).cell? ⟨w.heap.size,0,none⟩=some vF:=(Jd (QS (by simp;omega))).trans s1
       have aq:(W8.putObj D (.deferred none)).cell? ⟨w.heap.size,1,none⟩=some (.slice f xs.length g):=(Jd (QS (by simp;omega))).trans s2;refine ⟨by simp,.inl ⟨_,_,rfl,run_takeDeferred o,?_⟩⟩;refine ⟨vN false f xs.length g,by simp [results,results217,go_sem,loadCellsFrom,ap,aq],?_,_,rfl,?_⟩
       ·exact qj.trans (belowK_b (w:=w) (Qb _) W8 D _ _ (by omega) o rfl rfl)
       ·have h9:=dm false (T.putObj o rfl (.deferred none)) G (i:=bX false (di b l)) (by rw [HV.out])
        simpa using h9
 ·have e0:=hcut rfl
  simp only [if_true] at az;clear ad hcut au
  gi_wp2_with (refine ⟨trivial,?_⟩;gi_at_call 106;refine (callsIn_wide.2 (aC _ _ _ (by first | rfl | (simp;omega)))).mono ?_;rintro e w2 ⟨rfl,rfl⟩)
  clear az e0 av bj;rw [HW.out]
  gi_loop [27] (fun i=>∃ j:Nat,j≤l.length∧i=vI j) (fun i=>l.length - (intOf i).toNat)
  case atStart=>exact ⟨0,QF _,rfl⟩
  case round =>
   obtain ⟨j,hj,rfl⟩:=hrel
   by_cases a1:j<l.length
   ·have S:=fun W=>dN t j l HL.out.1 a1 W
    have b7:=a2 (l[j]'a1) (JZ _)
    obtain ⟨c,G⟩:∃ c,(l[j]'a1).toNat=c:=⟨_,rfl⟩
    have a9:c<256:=by rw [← G];exact (l[j]'a1).toNat_lt
    rw [G] at S b7
    have bm:decide (((digitVal c:Nat):Int)<(b:Int))=true:=by simp;omega
    clear G
    gi_wp2_with (first
     | (refine ⟨trivial,?_⟩;gi_at_call 241;refine (callsIn_wide.2 (qW c _ a9)).mono ?_;rintro e w2 ⟨rfl,rfl⟩)
     | (refine ⟨trivial,?_⟩;gi_at_call 106;refine (callsIn_wide.2 (aC _ _ _ (by first | rfl | (simp;omega)))).mono ?_;rintro e w2 ⟨rfl,rfl⟩))
    exact ⟨⟨j+1,by omega,by go_num⟩,by simp [intOf];omega⟩
   ·have bn:decide ((j:Int)<(l.length:Int))=false:=by simp;omega
    have bk:=Qa (And.intro ae ay);clear ae ay
    gi_wp2_with fail
    gi_loop [0] (fun v=>∃ (u:ByteArray) (l':List UInt8),v=.string u∧u.data.toList=l'∧di b l'=di b l∧(∀ c ∈ l',digitVal c.toNat<b)∧l'.length≤100000) (fun v=>pU (some v))
    case atStart=>exact ⟨t,l,rfl,HL.out.1,rfl,a2,hlen⟩
    case round =>
     obtain ⟨u,l',rfl,hu,a3,R,V⟩:=hrel
     have H:u.size=l'.length:=by rw [← hu,bU]
     have a0:(l'=[])∨(∃ c d,l'=c::d∧c.toNat=48)∨(∃ c d,l'=c::d∧c.toNat≠48):=by
      cases l' with
      | nil=>exact .inl rfl
      | cons c d =>
       by_cases h:c.toNat=48
       ·exact .inr (.inl ⟨c,d,rfl,h⟩)
       ·exact .inr (.inr ⟨c,d,rfl,h⟩)
     have z:=Qa (And.intro hu (And.intro a3 (And.intro R V)))
     have bp:u.size≤100000:=by omega
     clear hu a3 R V
     rcases a0 with hg | ⟨c,d,hg,hc48⟩ | ⟨c,d,hg,hc48⟩
     ·subst hg
      simp only [QG] at H
      gi_wp2_with (refine ⟨trivial,?_⟩;gi_at_call 242;refine (callsIn_wide.2 (pX _ _ _)).mono ?_;rintro e w' ⟨rfl,rfl⟩)
      refine nL 8 9 b m [] h2 om b2 hM ax (by have:=z.out.2.2.2;omega) z.out.2.2.1 (r.heap.size+2) (r.heap.size+1) (by exact rfl) ?bb ?bs (by omega)
       (oo r b m []) (oo.own (by simp)) (oo.start b m [] _ _) ?assign ?body ?done
      case bb=>exact Boxed.at (Qi _ _ _) (by simp)
      case bs =>
       have ag:fE m [] 0=u:=ky (by rw [iQ,Jw,QN];exact z.out.1.symm);rw [ag];exact Boxed.at ((Qi _ _ _).alloc _) (by simp)
      case assign =>
       intro y x W K hK
       gi_wp2
       exact hK
      case body =>
       rintro y F x W ⟨v,xs,B,hr,ho,G,I,a,E⟩ O bc X;obtain ⟨⟨P1,V1⟩,al,am⟩:=x;obtain ⟨f,g,rfl,ah,ai⟩:=hr.form;have a8:=B.cell;have ba:=B.frozen;have U:=fq b (by omega) (m*(F.length+1)) [];have bd:xs.length≤300:=aA G (by rw [I];exact Qr (fq b (by omega) _ _) (by rw [z.out.2.1];exact J.out))
       have htp:=jP (.slice f xs.length g) xs P1 V1 W hr G.1 (by omega) al am;have a6:=Qa htp;have HH:=Qa (And.intro I (And.intro U X));clear I U X htp;simp only [cZ]
       gi_wp2_with (first
        | (refine ⟨trivial,?_⟩;gi_at_call 243;refine (callsIn_wide.2 a6.out).mono ?_;rintro e w5 ⟨jS,v5,L,rfl,h5,k5,e5⟩;obtain ⟨a5,c5,rfl,b6,be⟩:=h5.form;have C:Boxed w5 r.heap.size 22 (.slice f xs.length g):=(jS.block _ B.lt).trans B;have Q:Boxed w5 (r.heap.size+1) 9 _:=(jS.block _ O.lt).trans O;have q1:=C.cell;have q2:=C.frozen;have zz:val L=di b (([]:List UInt8).take (m*(F.length+1))):=oo.next (ps:=F.map (·.1)) (q:=(P1,V1)) (by simp) (by simpa using HH.out.2.2) _ (by rw [e5,HH.out.1]);have b8:L.length≤300:=aA k5 (by rw [zz];exact Qr HH.out.2.1 (by rw [z.out.2.1];exact J.out));have b9:decide ((L.length:Int)≤300)=true:=(by simp;omega);have HV:=Qa zz;clear zz e5)
        | (refine ⟨trivial,?_⟩;gi_at_call 106;refine (callsIn_wide.2 (aC _ _ _ (by first | rfl | (simp;omega)))).mono ?_;rintro e w2 ⟨rfl,rfl⟩))
       have N:dF (fun k=>k=r.heap.size) W (w5.setCell ⟨r.heap.size,0,none⟩ (.slice a5 L.length c5)):=((dF.refl (fun k=>k=r.heap.size) W).aU jS).setCell (p:=⟨r.heap.size,0,none⟩) (.inl rfl) _
       refine ⟨N.fH _ (by rintro k rfl;exact Boxed.isCells B),⟨N.block _ (by omega) (by omega),N.block _ (by omega) (by omega)⟩,_,L,QO _ C,h5.setOther q1 (by simp) _,xq h5 Q,k5,?_,a.trans (N.below (fun k hk=>by omega) a.size),?_⟩
       ·rw [QX,JM]
        exact HV.out
       ·exact Qd E N.size
      case done =>
       rintro D ys W hD ⟨ao,an⟩ ⟨v,xs,B,hr,ho,G,I,a,E⟩ hK;obtain ⟨f,g,rfl,ah,ai⟩:=hr.form;have a8:=B.cell
       have A:val xs=di b l:=by rw [I,Qv an];exact z.out.2.1
       have HV:=Qa A;have ab:=r0.below a;clear I A ao
       gi_wp2_with (refine ⟨trivial,?_⟩;gi_at_call 184;refine (callsIn_wide.2 (dK _ _ _ _ _)).mono ?_;rintro e w6 ⟨iZ,rfl⟩;have rr:=ab.below iZ;have o1:=rr.cell 0;have o2:=rr.cell 1;have o3:=rr.frozen 0;have o4:=rr.frozen 1;simp only [Qc,Qe] at o1 o2)
       obtain ⟨s1,s2⟩:=bA (b:=w.heap.size) o1 o2 (.bool (true&&decide (0<xs.length))) (.slice f xs.length g);have T:=bf (b:=w.heap.size) (hr.below iZ) o1 o2 (.bool (true&&decide (0<xs.length))) (.slice f xs.length g)
       have qj:bW w ((w6.setCell ⟨w.heap.size,0,none⟩ (.bool (true&&decide (0<xs.length)))).setCell ⟨w.heap.size,1,none⟩ (.slice f xs.length g)):=(((Z.trans (a.mono Z.size)).trans (iZ.mono (Z.trans (a.mono Z.size)).size)).setCell (p:=⟨w.heap.size,0,none⟩) (Qb _) _).setCell (p:=⟨w.heap.size,1,none⟩) (Qb _) _;have M:D<W.heap.size:=(QT.1 hK).1
       have b4:w.heap.size<D:=by
        have h1:=Z.size;have h2:=r0.lt;simp only [Qh] at hD;omega
       have o:((w6.setCell ⟨w.heap.size,0,none⟩ (.bool (true&&decide (0<xs.length)))).setCell ⟨w.heap.size,1,none⟩ (.slice f xs.length g)).heap[D]?=some (.deferred (some [])):=by
        exact (JG _ _ _ _ (by simp;omega)).trans ((JG _ _ _ _ (by simp;omega)).trans ((iZ.block D M).trans hK))
       simp only [Jn] at s1 s2 T qj o;generalize ((w6.setCell ⟨w.heap.size,0,none⟩ (.bool (decide (0<xs.length)))).setCell ⟨w.heap.size,1,none⟩ (.slice f xs.length g))=W8 at *;have ap:(W8.putObj D (.deferred none)).cell? ⟨w.heap.size,0,none⟩=some (.bool (decide (0<xs.length))):=(Jd (QS (by simp;omega))).trans s1
       have aq:(W8.putObj D (.deferred none)).cell? ⟨w.heap.size,1,none⟩=some (.slice f xs.length g):=(Jd (QS (by simp;omega))).trans s2;refine ⟨by simp,.inl ⟨_,_,rfl,run_takeDeferred o,?_⟩⟩;refine ⟨vN (decide (0<xs.length)) f xs.length g,by simp [results,results217,go_sem,loadCellsFrom,ap,aq],?_,_,rfl,?_⟩
       ·exact qj.trans (belowK_b (w:=w) (Qb _) W8 D _ _ (by omega) o rfl rfl)
       ·have h9:=dm true (T.putObj o rfl (.deferred none)) G (i:=bX true (di b l)) (by rw [HV.out])
        simpa using h9
     ·subst hg
      have a7:0<(c::d).length:=by simp
      have S:=fun W=>dN u 0 (c::d) z.out.1 a7 W
      simp only [QC,Ya,hc48] at S
      have aw:0<u.size:=by rw [H];simp
      have aa:∃ u2:ByteArray,u.extract 1 u.size=u2∧u2.data.toList=d:=⟨_,rfl,by rw [YB,z.out.1];rfl⟩
      obtain ⟨u2,bo,Y⟩:=aa
      have a4:u2.size<u.size:=by rw [H,← bU u2,Y];simp
      have bh:pU (some (.string u2))<pU (some (.string u)):=a4;have H2:=Qa Y;have ar:=Qa hc48;clear H Y a4 hc48
      gi_wp2_with fail
      refine ⟨⟨u2,d,rfl,H2.out,?_,fun x hx=>z.out.2.2.1 x (by simp [hx]),by have:=z.out.2.2.2;simp at this;omega⟩,bh⟩;rw [← z.out.2.1,yj b c d ar.out]
     ·subst hg
      have a7:0<(c::d).length:=by simp
      have S:=fun W=>dN u 0 (c::d) z.out.1 a7 W
      simp only [QC,Ya] at S;have bg:(((c.toNat:Nat):Int) == 48)=false:=beq_eq_false_iff_ne.2 (by omega)
      have aw:0<u.size:=by rw [H];simp
      clear H hc48
      gi_wp2_with (refine ⟨trivial,?_⟩;gi_at_call 242;refine (callsIn_wide.2 (pX _ _ _)).mono ?_;rintro e w' ⟨rfl,rfl⟩)
      refine nL 8 9 b m (c::d) h2 om b2 hM ax (by have:=z.out.2.2.2;omega) z.out.2.2.1 (r.heap.size+2) (r.heap.size+1) (by exact rfl) ?bb ?bs (by omega)
       (oo r b m (c::d)) (oo.own (by simp)) (oo.start b m (c::d) _ _) ?assign ?body ?done
      case bb=>exact Boxed.at (Qi _ _ _) (by simp)
      case bs =>
       have ag:fE m (c::d) 0=u:=ky (by rw [iQ,Jw,QN];exact z.out.1.symm);rw [ag];exact Boxed.at ((Qi _ _ _).alloc _) (by simp)
      case assign =>
       intro y x W K hK
       gi_wp2
       exact hK
      case body =>
       rintro y F x W ⟨v,xs,B,hr,ho,G,I,a,E⟩ O bc X;obtain ⟨⟨P1,V1⟩,al,am⟩:=x;obtain ⟨f,g,rfl,ah,ai⟩:=hr.form;have a8:=B.cell;have ba:=B.frozen;have U:=fq b (by omega) (m*(F.length+1)) (c::d);have bd:xs.length≤300:=aA G (by rw [I];exact Qr (fq b (by omega) _ _) (by rw [z.out.2.1];exact J.out))
       have htp:=jP (.slice f xs.length g) xs P1 V1 W hr G.1 (by omega) al am;have a6:=Qa htp;have HH:=Qa (And.intro I (And.intro U X));clear I U X htp;simp only [cZ]
       gi_wp2_with (first
        | (refine ⟨trivial,?_⟩;gi_at_call 243;refine (callsIn_wide.2 a6.out).mono ?_;rintro e w5 ⟨jS,v5,L,rfl,h5,k5,e5⟩;obtain ⟨a5,c5,rfl,b6,be⟩:=h5.form;have C:Boxed w5 r.heap.size 22 (.slice f xs.length g):=(jS.block _ B.lt).trans B;have Q:Boxed w5 (r.heap.size+1) 9 _:=(jS.block _ O.lt).trans O;have q1:=C.cell;have q2:=C.frozen;have zz:val L=di b ((c::d:List UInt8).take (m*(F.length+1))):=oo.next (ps:=F.map (·.1)) (q:=(P1,V1)) (by simp) (by simpa using HH.out.2.2) _ (by rw [e5,HH.out.1]);have b8:L.length≤300:=aA k5 (by rw [zz];exact Qr HH.out.2.1 (by rw [z.out.2.1];exact J.out));have b9:decide ((L.length:Int)≤300)=true:=(by simp;omega);have HV:=Qa zz;clear zz e5)
        | (refine ⟨trivial,?_⟩;gi_at_call 106;refine (callsIn_wide.2 (aC _ _ _ (by first | rfl | (simp;omega)))).mono ?_;rintro e w2 ⟨rfl,rfl⟩))
       have N:dF (fun k=>k=r.heap.size) W (w5.setCell ⟨r.heap.size,0,none⟩ (.slice a5 L.length c5)):=((dF.refl (fun k=>k=r.heap.size) W).aU jS).setCell (p:=⟨r.heap.size,0,none⟩) (.inl rfl) _
       refine ⟨N.fH _ (by rintro k rfl;exact Boxed.isCells B),⟨N.block _ (by omega) (by omega),N.block _ (by omega) (by omega)⟩,_,L,QO _ C,h5.setOther q1 (by simp) _,xq h5 Q,k5,?_,a.trans (N.below (fun k hk=>by omega) a.size),?_⟩
       ·rw [QX,JM]
        exact HV.out
       ·exact Qd E N.size
      case done =>
       rintro D ys W hD ⟨ao,an⟩ ⟨v,xs,B,hr,ho,G,I,a,E⟩ hK;obtain ⟨f,g,rfl,ah,ai⟩:=hr.form;have a8:=B.cell
       have A:val xs=di b l:=by rw [I,Qv an];exact z.out.2.1
       have HV:=Qa A;have ab:=r0.below a;clear I A ao
       gi_wp2_with (refine ⟨trivial,?_⟩;gi_at_call 184;refine (callsIn_wide.2 (dK _ _ _ _ _)).mono ?_;rintro e w6 ⟨iZ,rfl⟩;have rr:=ab.below iZ;have o1:=rr.cell 0;have o2:=rr.cell 1;have o3:=rr.frozen 0;have o4:=rr.frozen 1;simp only [Qc,Qe] at o1 o2)
       obtain ⟨s1,s2⟩:=bA (b:=w.heap.size) o1 o2 (.bool (true&&decide (0<xs.length))) (.slice f xs.length g);have T:=bf (b:=w.heap.size) (hr.below iZ) o1 o2 (.bool (true&&decide (0<xs.length))) (.slice f xs.length g)
       have qj:bW w ((w6.setCell ⟨w.heap.size,0,none⟩ (.bool (true&&decide (0<xs.length)))).setCell ⟨w.heap.size,1,none⟩ (.slice f xs.length g)):=(((Z.trans (a.mono Z.size)).trans (iZ.mono (Z.trans (a.mono Z.size)).size)).setCell (p:=⟨w.heap.size,0,none⟩) (Qb _) _).setCell (p:=⟨w.heap.size,1,none⟩) (Qb _) _;have M:D<W.heap.size:=(QT.1 hK).1
       have b4:w.heap.size<D:=by
        have h1:=Z.size;have h2:=r0.lt;simp only [Qh] at hD;omega
       have o:((w6.setCell ⟨w.heap.size,0,none⟩ (.bool (true&&decide (0<xs.length)))).setCell ⟨w.heap.size,1,none⟩ (.slice f xs.length g)).heap[D]?=some (.deferred (some [])):=by
        exact (JG _ _ _ _ (by simp;omega)).trans ((JG _ _ _ _ (by simp;omega)).trans ((iZ.block D M).trans hK))
       simp only [Jn] at s1 s2 T qj o;generalize ((w6.setCell ⟨w.heap.size,0,none⟩ (.bool (decide (0<xs.length)))).setCell ⟨w.heap.size,1,none⟩ (.slice f xs.length g))=W8 at *;have ap:(W8.putObj D (.deferred none)).cell? ⟨w.heap.size,0,none⟩=some (.bool (decide (0<xs.length))):=(Jd (QS (by simp;omega))).trans s1
       have aq:(W8.putObj D (.deferred none)).cell? ⟨w.heap.size,1,none⟩=some (.slice f xs.length g):=(Jd (QS (by simp;omega))).trans s2;refine ⟨by simp,.inl ⟨_,_,rfl,run_takeDeferred o,?_⟩⟩;refine ⟨vN (decide (0<xs.length)) f xs.length g,by simp [results,results217,go_sem,loadCellsFrom,ap,aq],?_,_,rfl,?_⟩
       ·exact qj.trans (belowK_b (w:=w) (Qb _) W8 D _ _ (by omega) o rfl rfl)
       ·have h9:=dm true (T.putObj o rfl (.deferred none)) G (i:=bX true (di b l)) (by rw [HV.out])
        simpa using h9
end Go.Proofs.YtagjhmodblifbaaGreatDoor
namespace Go.Proofs.YtagjhmodblifbaaGreatDoor
open Go.Proofs.Tryz
open Go Go.RowKit Go.Shelf
theorem IX (s:ByteArray)(b:Nat)(w:World)(A:2≤b)(E:b≤36)(neg:Bool)(l:List UInt8)(hs:s.data.toList=(if neg then [45] else [])++l)(q:l≠[])(hlen:l.length≤100000)(d:∀ c ∈ l,digitVal c.toNat<b)(a:di b l<aj^300) :
 CB 179 #[.string s,vI b] w fun e M=>∃ v,e=.returned (.tuple #[v,vI 0])∧ak M v (bX neg (di b l)):=by
 refine (IP s (b:Int) w (fun k W v=>k=0∧ak W v (bX neg (di b l))) (fun _ _ _ _ h o=>⟨h.1,h.2.keep o⟩) ?_).mono ?_
 ·intro B G H u r t
  have f:=fun W=>IW s b W A E neg l hs q hlen d a
  have F:=Qa f;have L:=u.cell 0;have n0:=r.cell 0;simp only [Qc] at L n0;clear f hs a;go_enter func216,ntmps216
  go_wp2_with (first
   | (go_at_call 202;refine (sF _ _ A E).mono ?_;rintro e R ⟨rfl,rfl⟩)
   | (go_at_call 217;refine (F.out _).mono ?_;rintro e S ⟨y,v,rfl,i,Q,j,rfl,z,I,J,m1⟩;obtain ⟨x,m,rfl,-,-⟩:=z.form;have g:=t.below y;have C:=g.cell 0;have D:=g.cell 1;have N:=g.frozen 0;have O:=g.frozen 1;simp only [Qc,Qe] at C D))
  have o:=bf (b:=B+2) z C D (.bool i) (.slice x j.length m)
  go_end0
  refine ⟨0,.inl ⟨rfl,rfl⟩,(((dF.refl (fun k=>k=B+2) G).aU y).setCell (p:=⟨B+2,0,none⟩) (.inl rfl) _).setCell (p:=⟨B+2,1,none⟩) (.inl rfl) _,i,x,j.length,m,(g.set 0 (.bool i)).set 1 (.slice x j.length m),rfl,i,_,j,rfl,o,I,J,m1⟩
 ·rintro e W ⟨n,r0,k,rfl,rfl,hi⟩
  exact ⟨n,_,rfl,hi⟩
theorem rP {x:Nat}(h0:0<x)(b:x<aj):Canon [x]:=by
 refine ⟨fun y a=>?_,?_⟩
 ·simp only [Xk] at a
  subst a;exact b
 ·have:=jd [] x (by omega)
  simpa using this
def kJ (W:World)(v:Value)(i:Int):Prop:=∃ b n a m c,v=vP b∧af W b 24 (lN n a m c)∧ak W (vN n a m c) i
theorem kJ.new {W:World}{n:Bool}{a:Option Addr}{m c:Nat}{i:Int}(h:ak W (vN n a m c) i):kJ (W.alloc (.cells #[.bool n,.slice a m c] 24)) (vP W.heap.size) i :=
 ⟨_,n,a,m,c,rfl,af.new W 24 (lN n a m c),h.below (dJ _ _)⟩
theorem BN (a b:Value)(i:Int)(w:World)(ha:ak w a i)(d:ak w b i) :
 CB 52 #[a,b] w fun e _=>e=.returned (.bool true) :=
 (Gr a b i i w ha d).mono fun _ _ ⟨h1,c⟩=>⟨h1,by rw [c];simp⟩
section
variable {w w1 X:World} {b1:Nat} {n1:Bool} {a1:Option Addr} {m1 c1:Nat} {b2:Nat} {n2:Bool} {a2:Option Addr} {m2 c2:Nat} {b4:Nat} {n4:Bool} {a4:Option Addr} {m4 c4:Nat} {b6:Nat} {n6:Bool} {a6:Option Addr} {m6 c6:Nat} {b12:Nat} {n12:Bool} {a12:Option Addr} {m12 c12:Nat} {b14:Nat} {n14:Bool} {a14:Option Addr} {m14 c14:Nat}
end
theorem wL (a b:Value)(i j:Int)(w:World)(ha:ak w a i)(h:ak w b j)(hi:i.natAbs<aj^300)(k:j.natAbs<aj^300) :
 CB 87 #[a,b] w fun e _=>e=.returned (vI (dS i j)):=by
 obtain ⟨na,l,f,c,rfl,-,-⟩:=ha.at hi;obtain ⟨nb,m,g,d,rfl,-,-⟩:=h.at k;have:=Cf a b na nb l m w f g;rw [c,d] at this;simpa using this
section
variable {w w1 X:World} {b1:Nat} {n1:Bool} {a1:Option Addr} {m1 c1:Nat} {b2:Nat} {n2:Bool} {a2:Option Addr} {m2 c2:Nat} {b3:Nat} {n3:Bool} {a3:Option Addr} {m3 c3:Nat}
end
theorem LK (a b:Value)(na nb:Bool)(i j:List Nat)(w:World)(ha:dx w a na i)(l:dx w b nb j) :
 CB 96 #[a,b] w fun e Q=>∃ v k,e=.returned (.tuple #[v,vI k])∧fU (au na i) (au nb j) (bX na (val i) - bX nb (val j)) k Q v:=by
 have s:=fun G (d:bW w G)=>xK 153 a b na nb i j G (ha.below d) (l.below d) (bX na (val i) - bX nb (val j)) (fun W args=>by simp [go_sem])
  (fun C D W E=>yI a b _ _ 300 W (((ha.below d).isInt C).below E) (((l.below d).isInt D).below E) (by omega) (ha.jI C) (l.jI D))
 obtain ⟨V,rfl,q,I⟩:=ha;obtain ⟨X,rfl,r,J⟩:=l;obtain ⟨y,A,rfl,R,S⟩:=q.form;obtain ⟨z,B,rfl,H,L⟩:=r.form
 have p:=(((dJ w (.cells #[.bool na,.slice y i.length A] 24)).alloc (by simp) (.cells #[.bool nb,.slice z j.length B] 24)).alloc (by simp;omega) (.cells #[vF,vZ] 24))
 have F:=af.new ((w.alloc (.cells #[.bool na,.slice y i.length A] 24)).alloc (.cells #[.bool nb,.slice z j.length B] 24)) 24 (lN false none 0 0);simp only [Qh] at F;go_enter func96,ntmps96
 go_wp2_with (refine (s _ p).mono ?_;rintro e w1 ⟨x,v,k,rfl,f⟩;obtain ⟨n,a,m,c,rfl⟩:=f.form;have o:=F.below x;have t:=o.cell 0;have u:=o.cell 1;have T:=o.frozen 0;have U:=o.frozen 1;simp only [Qc,Qe] at t u)
 obtain ⟨N,O⟩:=bA (b:=w.heap.size+1+1) t u (.bool n) (.slice a m c)
 have g:∀ v xs,Reads .u32 w1 v xs→Reads .u32 ((w1.setCell ⟨w.heap.size+1+1,0,none⟩ (.bool n)).setCell ⟨w.heap.size+1+1,1,none⟩ (.slice a m c)) v xs :=
  fun v xs h=>bf (b:=w.heap.size+1+1) h t u _ _
 refine bodyPost_ret (v:=.tuple #[vN n a m c,vI k]) (by simp [results,results96,go_sem,loadCellsFrom,N,O]) rfl ⟨?_,_,k,rfl,f.keep g⟩;have M:bW w w1:=p.trans (x.mono p.size);exact (M.setCell (by simp;omega) _).setCell (by simp;omega) _
theorem tQ {a b:Bool}{r k:Int}{W:World}{v:Value}(h:fU a b r k W v)(ha:a=true)(c:b=true)(hr:r.natAbs<aj^300):k=0∧ak W v r:=by
 unfold fU at h;rw [ha,c,if_pos (by rfl),if_pos hr] at h;exact h
theorem Fj (a b:Value)(i j:Int)(w:World)(ha:ak w a i)(m:ak w b j)(hi:i.natAbs<aj^300)(n:j.natAbs<aj^300)(hr:(i - j).natAbs<aj^300) :
 CB 96 #[a,b] w fun e o=>∃ v,e=.returned (.tuple #[v,vI 0])∧ak o v (i - j):=by
 obtain ⟨na,p,h,c,rfl,-,-⟩:=ha.at hi;obtain ⟨nb,q,l,d,rfl,-,-⟩:=m.at n;refine (LK a b na nb p q w h l).mono ?_;rintro e r ⟨h1,v,k,rfl,f⟩;obtain ⟨rfl,g⟩:=tQ f c d hr;exact ⟨h1,v,rfl,g⟩
theorem uD (a b:Value)(i j:Int)(w:World)(ha:ak w a i)(m:ak w b j)(hi:i.natAbs<aj^300)(n:j.natAbs<aj^300)(hr:(i+j).natAbs<aj^300) :
 CB 70 #[a,b] w fun e o=>∃ v,e=.returned (.tuple #[v,vI 0])∧ak o v (i+j):=by
 obtain ⟨na,p,h,c,rfl,-,-⟩:=ha.at hi;obtain ⟨nb,q,l,d,rfl,-,-⟩:=m.at n;refine (Ls a b na nb p q w h l).mono ?_;rintro e r ⟨h1,v,k,rfl,f⟩;obtain ⟨rfl,g⟩:=tQ f c d hr;exact ⟨h1,v,rfl,g⟩
end Go.Proofs.YtagjhmodblifbaaGreatDoor
