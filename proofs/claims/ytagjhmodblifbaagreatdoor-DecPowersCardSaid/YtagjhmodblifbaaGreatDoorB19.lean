/- proved lemmas -/
import Derived.Test.YtagjhmodblifbaaGreatDoorMA
import Derived.Test.YtagjhmodblifbaaGreatDoorB00
import Derived.Test.YtagjhmodblifbaaGreatDoorB13
import Derived.Test.YtagjhmodblifbaaGreatDoorB12
import Derived.Test.YtagjhmodblifbaaGreatDoorB18
import Derived.Test.YtagjhmodblifbaaGreatDoorB08
import Derived.Test.YtagjhmodblifbaaGreatDoorB15
import Derived.Test.YtagjhmodblifbaaGreatDoorB14
import Derived.Test.YtagjhmodblifbaaGreatDoorB02
set_option maxHeartbeats 4000000
set_option maxRecDepth 100000
set_option exponentiation.threshold 100000
namespace Go.Proofs.YtagjhmodblifbaaGreatDoor
open Go.Proofs.Tryz
open Go Go.RowKit Go.Shelf
theorem BZ (s:ByteArray)(w:World) :
  Calls prog 170 #[.string s,vI 0] w fun e a=>w=a∧e=.returned (.string s):=by
 go_enter func170,ntmps170
 go_wp2_with (go_at_call 106;refine (aC _ _ _ (by rfl)).mono ?_;rintro e b ⟨rfl,rfl⟩)
 go_ret;exact ⟨rfl,rfl⟩
theorem EJ {neg:Bool}{x A:Nat}(h:bX neg x=(A:Int)):x=A∧textOf neg 10 x=textOf false 10 A:=by
 cases neg with
 | false =>
  have a:(x:Int)=(A:Int):=by simpa [bX] using h
  obtain rfl:x=A:=by omega
  exact ⟨rfl,rfl⟩
 | true =>
  have a:-(x:Int)=(A:Int):=by simpa [bX] using h
  obtain rfl:x=0:=by omega
  obtain rfl:A=0:=by omega
  exact ⟨rfl,rfl⟩
theorem GX (v:Value)(A:Nat)(w:World)(h:ak w v (A:Int))(f:A<aj^300)(g:gU w) :
 CB 171 #[v,vI 10] w fun e _=>∃ s:ByteArray,e=.returned (.tuple #[.string s,vI 0])∧s.data.toList.map (·.toNat)=textOf false 10 A:=by
 obtain ⟨na,l,h1,b,hi,-,-⟩:=h.at (by rw [QQ];exact f);refine (KT v na l 10 w h1 g).mono ?_;rintro e m ⟨i,s,k,rfl,a⟩;unfold xz at a;rw [if_pos ⟨b,by decide,by decide⟩] at a;obtain ⟨rfl,j,e,c⟩:=a
 obtain rfl:s=j:=by simpa using e
 obtain ⟨rfl,d⟩:=EJ hi.symm;exact ⟨i,s,rfl,by rw [c];exact d⟩
theorem Ad {neg:Bool}{A p q:Nat}{d r s t:ByteArray}(b:d=⟨if neg then #[45] else #[]⟩)(hs:s.data.toList.map (·.toNat)=textOf false 10 A)(hr:r.data.toList.map (·.toNat)=List.replicate (p+1 - s.size) 48)
  (c:s.size=(textOf false 10 A).length) (_:r.size=p+1 - s.size) (l:r++s=t) (m:t.size=q+p) :
  (d++t.extract 0 q++⟨#[46]⟩++t.extract q (q+p)).data.toList.map (·.toNat)=xy neg A p:=by
 obtain ⟨N,h1,h,i,j⟩:=GU p A
 have a:t.data.toList.map (·.toNat)=nW N A:=by
  rw [← l,YK,YL,JJ,hr,hs,c,h]
 have n:N=q+p:=by
  have:=congrArg List.length a;rw [Xq,bU,mY] at this;omega
 have f:(t.extract 0 q).data.toList.map (·.toNat)=textOf false 10 (A / 10^p):=by
  rw [Xr,Xt,Xu,QN,List.map_take,a,← i]
  congr 1
  omega
 have g:(t.extract q (q+p)).data.toList.map (·.toNat)=nW p A:=by
  rw [Xr,Xt,Xu,List.map_take,List.map_drop,a,← j,show N - p=q by omega,show q+p - q=p by omega];exact Qv (by rw [JH,mY];omega)
 subst b;simp only [YK,YL,JJ,f,g];unfold xy
 cases neg <;> simp
theorem GY {A:Nat}(h:A<aj^40):(textOf false 10 A).length≤1000:=by
 refine Qd (GV (N:=500) (Qf h ?_)) (by decide);rw [gX];have h1:(8:Nat)^500≤10^500:=QU (by decide) _
 have a:(8:Nat)^500=2^(3*500):=by rw [Jz]
 have b:(2:Nat)^(32*40)≤2^(3*500):=Ql (by decide) (by decide);omega
theorem uV (l:List UInt8):∀ c,(Lib.repeatL [48] c).map (·.toNat)=List.replicate c 48
 | 0=>rfl
 | c+1=>by rw [Lib.repeatL,JJ,uV l c,Zz];rfl
theorem Nu (c:Nat)(w:World)(b:c≤100000) :
 CB 173 #[.string ⟨#[48]⟩,vI c] w fun e _=>∃ r:ByteArray,e=.returned (.string r)∧r.data.toList.map (·.toNat)=List.replicate c 48∧r.size=c:=by
 refine (strings_Repeat ⟨#[48]⟩ c w (by omega) (by show 1*_≤_;omega)).mono ?_;rintro e d ⟨rfl,a⟩;refine ⟨a,_,rfl,uV [] c,?_⟩;rw [← bU]
 show (Lib.repeatL [48] c).length=c
 rw [Lib.repeatL_length];exact QZ c
theorem KU (T:Value)(i:Int)(p:Nat)(w:World)(h1:dB w T i p)(N:gU w) :
 CB 129 #[T] w fun e _=>∃ s:ByteArray,e=.returned (.string s)∧s.data.toList.map (·.toNat)=xy (decide (i<0)) i.natAbs p:=by
 have hp:=h1.hi;have a0:=h1.lo;obtain ⟨S,V,m1,m,Z,Y,rfl,B⟩:=h1.shape;have l:=tV B
 have Q:=fun X (D:bW w X)=>Av _ i X (B.below D)
 have R:=fun X v (D:bW w X) (hv:ak X v (i.natAbs:Int))=>GX v i.natAbs X hv (az h1.abs (by decide)) (N.below D)
 have a2:=GY h1.abs;obtain ⟨W0,O,d,x⟩:=Lf w 27 (lV 3 p S V m1 m ⟨#[]⟩ Z 0 Y);obtain ⟨d1,d2,d3⟩:=nk x;rw [← l];clear h1 B N l;go_enter func129,ntmps129
 go_upto_region 1 with (fail)
 rw [O.out];clear O
 cases S with
 | false =>
  go_wp2_with (first | (go_at_call 172;refine (Q _ d).mono ?_;rintro e w1 ⟨a,v1,rfl,A⟩) | (go_at_call 171;(refine (R _ _ (d.trans (a.mono d.size)) A).mono ?_;rintro e w2 ⟨c,s,rfl,hs⟩;have j:s.size=(textOf false 10 i.natAbs).length:=(bU s).symm.trans (by rw [← hs,Xq]);have J:s.size≤1000:=(by omega);have y:=Qa j;clear j;have m:=((x.below a).below c).cell 1;simp only [Qc,Qe] at m;have o:max 0 ((p:Int)+1 - (s.size:Int))=((p+1 - s.size:Nat):Int):=by omega)) | (go_at_call 170;refine (BZ _ _).mono ?_;rintro e w9 ⟨rfl,rfl⟩) | (go_at_call 173;refine (Nu (p+1 - s.size) _ (by omega)).mono ?_;rintro e w3 ⟨f,r,rfl,hr,g⟩;have c2:=(((x.below a).below c).below f).cell 1;simp only [Qc,Qe] at c2))
  obtain ⟨q,I⟩:∃ q:Nat,(p+1 - s.size)+s.size=q+p:=⟨(p+1 - s.size)+s.size - p,by omega⟩
  rw [show (((p+1 - s.size:Nat):Int)+(s.size:Int) - (p:Int))=(q:Int) by omega]
  have k:(r++s).size=q+p:=by rw [ByteArray.size_append,g,I]
  obtain ⟨t,u⟩:∃ t,r++s=t:=⟨_,rfl⟩
  rw [u] at k ⊢;have z:=Qa u;clear u
  have L:(t.extract 0 q).size=q:=by rw [YM];omega
  have M:(t.extract q (q+p)).size=p:=by rw [YM];omega
  have n:=((d.trans (a.mono d.size)).trans (c.mono (Qd d.size a.size))).trans (f.mono (Qd (Qd d.size a.size) c.size));clear m c2 o
  have H:(q:Int)≤(q:Int)+(p:Int):=by omega
  have E:¬9223372036854775807<q:=by omega
  have F:¬9223372036854775807<q+1:=by omega
  have G:¬9223372036854775807<q+1+p:=by omega
  have C:Hid (∀ X,bW w X→True∧bW w X):=Qa fun X h=>⟨trivial,h⟩
  go_wp2_with fail
  refine bB C n.drew fun U b=>?_
  refine tk 0 b ?_;refine tk 1 b ?_;refine tk 2 b ?_;refine tk 3 b ?_;refine tk 4 b ?_;refine tk 5 b ?_;refine tk 6 b ?_;refine tk 7 b ?_;refine tk 8 b ?_;refine tk 9 b ?_;refine tk 10 b ?_;refine wpAnyH_done (by kernel_rfl) ?_ _;go_wp2;go_ret;exact ⟨b.2,_,rfl,Ad (neg:=false) rfl hs hr y.out g z.out k⟩
 | true =>
  go_wp2_with (first | (go_at_call 172;refine (Q _ d).mono ?_;rintro e w1 ⟨a,v1,rfl,A⟩) | (go_at_call 171;(refine (R _ _ (d.trans (a.mono d.size)) A).mono ?_;rintro e w2 ⟨c,s,rfl,hs⟩;have j:s.size=(textOf false 10 i.natAbs).length:=(bU s).symm.trans (by rw [← hs,Xq]);have J:s.size≤1000:=(by omega);have y:=Qa j;clear j;have m:=((x.below a).below c).cell 1;simp only [Qc,Qe] at m;have o:max 0 ((p:Int)+1 - (s.size:Int))=((p+1 - s.size:Nat):Int):=by omega)) | (go_at_call 170;refine (BZ _ _).mono ?_;rintro e w9 ⟨rfl,rfl⟩) | (go_at_call 173;refine (Nu (p+1 - s.size) _ (by omega)).mono ?_;rintro e w3 ⟨f,r,rfl,hr,g⟩;have c2:=(((x.below a).below c).below f).cell 1;simp only [Qc,Qe] at c2))
  obtain ⟨q,I⟩:∃ q:Nat,(p+1 - s.size)+s.size=q+p:=⟨(p+1 - s.size)+s.size - p,by omega⟩
  rw [show (((p+1 - s.size:Nat):Int)+(s.size:Int) - (p:Int))=(q:Int) by omega]
  have k:(r++s).size=q+p:=by rw [ByteArray.size_append,g,I]
  obtain ⟨t,u⟩:∃ t,r++s=t:=⟨_,rfl⟩
  rw [u] at k ⊢;have z:=Qa u;clear u
  have L:(t.extract 0 q).size=q:=by rw [YM];omega
  have M:(t.extract q (q+p)).size=p:=by rw [YM];omega
  have n:=((d.trans (a.mono d.size)).trans (c.mono (Qd d.size a.size))).trans (f.mono (Qd (Qd d.size a.size) c.size));clear m c2 o
  have H:(q:Int)≤(q:Int)+(p:Int):=by omega
  have E:¬9223372036854775807<1+q:=by omega
  have F:¬9223372036854775807<1+q+1:=by omega
  have G:¬9223372036854775807<1+q+1+p:=by omega
  have C:Hid (∀ X,bW w X→True∧bW w X):=Qa fun X h=>⟨trivial,h⟩
  go_wp2_with fail
  refine bB C n.drew fun U b=>?_
  refine tk 0 b ?_;refine tk 1 b ?_;refine tk 2 b ?_;refine tk 3 b ?_;refine tk 4 b ?_;refine tk 5 b ?_;refine tk 6 b ?_;refine tk 7 b ?_;refine tk 8 b ?_;refine tk 9 b ?_;refine tk 10 b ?_;refine wpAnyH_done (by kernel_rfl) ?_ _;go_wp2;go_ret;exact ⟨b.2,_,rfl,Ad (neg:=true) rfl hs hr y.out g z.out k⟩
def qM (f:Option (Int × Nat))(k:Int)(v:Value):Prop:=match f with
 | some x=>k=0∧∃ s:ByteArray,v=.string s∧s.data.toList.map (·.toNat)=xy (decide (x.1<0)) x.1.natAbs x.2
 | none=>k=2∧v=vE
theorem Mh (A:Nat){h:Bool}{b f:Option Addr}{m1 c d p:Nat}{i:Int}(w:World)(g:af w A 27 (lV 3 p h b m1 c ⟨#[]⟩ f 0 d))(h1:dB w (vV 3 p h b m1 c ⟨#[]⟩ f 0 d) i p)(j:gU w) :
 CB 128 #[vP A] w fun e _=>∃ v,e=.returned v∧qM (some (i,p)) 0 v:=by
 have k:=KU _ i p w h1 j;obtain ⟨l,m,n,o,q,r⟩:=aD g;clear h1 g;go_enter func128,ntmps128
 go_wp2_with (go_at_call 129;refine k.mono ?_;rintro e w1 ⟨a,s,rfl,hs⟩)
 go_ret;exact ⟨a,_,rfl,rfl,s,rfl,hs⟩
theorem GZ (M:Value)(o:Option (Int × Nat))(w:World)(h1:Fm w M o)(J:gU w) :
 CB 55 #[M] w fun e _=>∃ a:ByteArray,∃ k:Int,e=.returned (.tuple #[.string a,vI k])∧qM o k (.string a):=by
 obtain ⟨p,t,f,j,m1,l,g,n,r,m,rfl⟩:=h1.kY
 have q:∀ c b,bW w c→af c w.heap.size 27 (lV p t f j m1 l g n r m)→af c b 27 (lV p t f j m1 l g n r m)→Calls prog 127 #[.func (.func 128) #[] #[vP w.heap.size],.slice (some ⟨b,0,none⟩) 1 1] c fun e T=>bW c T∧∃ a:ByteArray,∃ k:Int,e=.returned (.tuple #[.string a,vI k])∧qM o k (.string a):=by
  intro c b z r1 row;refine CP _ _ b 1 c (fun k _ v=>qM o k v) (fun _ _ _ _ h _=>h) (fun u y f I C=>?_);have L:=row.below y;have g:=r1.below y;have i:=h1.below (z.trans (y.mono z.size));have N:=J.below (z.trans (y.mono z.size))
  cases o with
  | none =>
   refine (zn c.heap.size b 128 #[vP w.heap.size] u f I C L i).mono ?_;rintro e W ⟨d,rfl⟩;exact ⟨2,.inr rfl,(dF.refl _ u).aU d,_,C.below d,rfl,rfl⟩
  | some x =>
   have i:dB u _ x.1 x.2:=i;obtain ⟨n5,U,m5,V,R,S,H,-⟩:=i.shape;simp only [Value.agg.injEq,Array.mk.injEq,List.cons.injEq,Value.int.injEq,Value.bool.injEq,Value.slice.injEq,Value.string.injEq,and_true,true_and] at H;obtain ⟨rfl,rfl,rfl,⟨rfl,rfl,rfl⟩,rfl,rfl,rfl,rfl⟩:=H
   refine (zm c.heap.size b 128 #[vP w.heap.size] u f I C L i (fun _ v=>qM (some x) 0 v) (fun _ _ _ h _=>h) (fun W v h=>?_) (fun W=>by simp [go_sem]) (fun W d=>Mh _ W (g.below d) (i.below d) (N.below d))).mono ?_
   ·obtain ⟨-,s,h,-⟩:=h
    exact ⟨s,h⟩
   ·rintro e W ⟨rfl,D,a,hr,Q⟩
    exact ⟨0,.inl ⟨rfl,rfl⟩,D,a,hr,Q⟩
 obtain ⟨G,d,A,F⟩:=Lf w 27 (lV p t f j m1 l g n r m);obtain ⟨X,Y,Z,d3,d4,d5⟩:=aD F;have B:=A.alloc A.size (.cells #[vI p,vI t,.bool f,.slice j m1 l,.string g,.slice n r m] 27);have O:=q _ G.heap.size B (F.alloc _) (af.new G 27 (lV p t f j m1 l g n r m));have uZ:=lK;clear q h1 A F J;go_enter func55,ntmps55
 go_upto_region 1 with (fail)
 rw [d.out];clear d
 go_wp2_with (refine O.mono ?_;rintro e w3 ⟨E,a,k,rfl,D⟩)
 exact bodyPost_ret (v:=.tuple #[.string a,vI k]) (by simp [results,results55,go_sem]) rfl ⟨B.trans (E.mono B.size),a,k,rfl,D⟩
end Go.Proofs.YtagjhmodblifbaaGreatDoor
namespace Go.Proofs.YtagjhmodblifbaaGreatDoor
open Go.Proofs.Tryz
open Go Go.RowKit Go.Shelf
attribute [local go_sem] Jc
def iy (c:UInt8):Bool:=decide (48≤c.toNat)&&decide (c.toNat≤57)
def fG (l:List UInt8):Nat:=(l.takeWhile iy).length
def Lj (x:UInt8):Array Value:=#[.int .u8 (x.toNat:Int)]
theorem Ae {l:List UInt8}{k:Nat}(h:k<l.length):l.take (k+1)=l.take k++[l[k]]:=by rw [Yj h]
theorem sG {l:List UInt8}(h:∀ c ∈ l,iy c=true):l.takeWhile iy=l:=by
 have:=XA (l₂:=[]) h;simpa using this
theorem rC {l:List UInt8}{k:Nat}(a:k<l.length)(h:∀ c ∈ l.take k,iy c=true)(hs:iy l[k]=false):l.takeWhile iy=l.take k:=by
 conv=>lhs;rw [← ZC k l,XA h,Xx a]
 rw [List.takeWhile_cons_of_neg (by simp [hs]),List.append_nil]
theorem EK (F:Fence)(n:Nat)(M:F.fn 255)(D:F.round=none)(Z:1≤n)(l r n0:Nat)(s:ByteArray)(b:List UInt8)(z:s.data.toList=b)(S:b.length≤1000000)
  (J E:List UInt8→World→Prop)
  (N:∀ h x W,J h W→h.length<b.length→YieldAt F (n - 1) prog l (Lj x) W fun e q =>
   (e=.returned (.bool true)∧J (h++[x]) q∧oh n0 r W q)∨(e=.returned vF∧E (h++[x]) q))
  (W:World) (ha:W.cell? ⟨r,0,none⟩=some (.string s)) (h0:J [] W) :
  CallsIn F n prog 255 #[.func (.yield l) #[] #[],vP r] W fun e q=>(∃ v,e=.returned v) ∧
   ((∃ ys:List UInt8,ys=b.takeWhile iy∧J ys q)∨(∃ h:List UInt8,h <+: b∧E h q)):=by
 refine callsIn_of_wp func255 rfl M ?_ D;simp only [ntmps255,Je,QE,QG,Nat.reduceAdd,Nat.reduceSub,Jf,Jg,Jh,Ji,QW,QL]
 have R:s.size=b.length:=by rw [← z];exact (bU s).symm
 gi_wp2
 gi_loopw [6] (fun i wr=>∃ k:Nat,k≤b.length∧i=vI k∧(∀ c ∈ b.take k,iy c=true)∧J (b.take k) wr∧oh n0 r W wr)
  (fun i _=>b.length - (intOf i).toNat)
 case atStart=>exact ⟨0,QF _,rfl,by simp,h0,oh.refl _ _ _⟩
 case round =>
  obtain ⟨k,Y,rfl,a,g,A⟩:=hrel;have O:wr.cell? ⟨r,0,none⟩=some (.string s):=A.cell.trans ha
  by_cases p:k<b.length
  ·have Q:=dN s k b z p
   have m:=Ae p;have o:=rC p a;have X:=UInt8.toNat_lt b[k];have d:iy b[k]=(decide (48≤b[k].toNat)&&decide (b[k].toNat≤57)):=rfl;obtain ⟨fn,tmps,assign,body,T,G⟩:=N (b.take k) b[k] wr g (by rw [Jp];omega);simp only [Lj] at T;generalize b[k]=x at *
   by_cases h1:x.toNat<48
   ·have I:decide ((x.toNat:Int)<48)=true:=decide_eq_true (by omega)
    have y:iy x=false:=by rw [d,decide_eq_false (by omega)];rfl
    rw [← o y] at g;clear o d a m
    gi_wp2
    refine ⟨(fun f hf=>nomatch hf),?_⟩
    gi_wp2
    refine bodyPost_ret (results_none rfl _ _ _) rfl ?_;exact ⟨⟨_,rfl⟩,.inl ⟨_,rfl,g⟩⟩
   ·have I:decide ((x.toNat:Int)<48)=false:=decide_eq_false (by omega)
    by_cases V:57<x.toNat
    ·have L:decide (57<(x.toNat:Int))=true:=decide_eq_true (by omega)
     have y:iy x=false:=by rw [d,decide_eq_true (by omega),decide_eq_false (by omega)];rfl
     rw [← o y] at g;clear o d a m
     gi_wp2
     refine ⟨(fun f hf=>nomatch hf),?_⟩
     gi_wp2
     refine bodyPost_ret (results_none rfl _ _ _) rfl ?_;exact ⟨⟨_,rfl⟩,.inl ⟨_,rfl,g⟩⟩
    ·have L:decide (57<(x.toNat:Int))=false:=decide_eq_false (by omega)
     have y:iy x=true:=by rw [d,decide_eq_true (by omega),decide_eq_true (by omega)];rfl
     have j:∀ c ∈ b.take (k+1),iy c=true:=by
      rw [m];intro c u
      rcases ZB.1 u with u | u
      ·exact a c u
      ·rw [Xk.1 u];exact y
     rw [← m] at G;have H:=Qa j;clear o d a m j
     gi_wp2
     refine G.mono ?_;rintro e U (⟨rfl,B,C⟩ | ⟨rfl,t⟩)
     ·gi_wp2
      go_roundw
      case rel=>exact ⟨k+1,by omega,by simp,H.out,B,A.trans C⟩
      case measure=>simp [intOf];omega
     ·gi_wp2
      refine bodyPost_ret (results_none rfl _ _ _) rfl ?_;exact ⟨⟨_,rfl⟩,.inr ⟨_,List.take_prefix _ _,t⟩⟩
  ·obtain rfl:k=b.length:=by omega
   rw [ZL] at a g
   gi_wp2
   go_end0
   exact ⟨⟨_,rfl⟩,.inl ⟨_,(sG a).symm,g⟩⟩
theorem Ha (s:ByteArray)(w:World) :
  Calls prog 237 #[.string s] w fun e a =>
   e=.returned (.func (.func 255) #[] #[vP w.heap.size])∧w.alloc (.cells #[.string s] 9)=a:=by
 have b:=lK;go_enter func237,ntmps237;go_wp2;go_ret;exact ⟨rfl,rfl⟩
theorem Bv (F:Fence)(n:Nat)(j:F.fn 255)(f:F.round=none)(o:1≤n)(a n0:Nat)(s:ByteArray)(b:List UInt8)(d:s.data.toList=b)(g:b.length≤1000000)
  (w:World) (c:a<w.heap.size) (ha:w.cell? ⟨a,0,none⟩=some (.string s)) :
  SeqStopsK F n prog 255 #[vP a] Lj (oh n0 a)
   (fun ys=>ys=b.takeWhile iy) (fun h=>h <+: b) b.length w:=fun l J i W k _ _ m h0 =>
 EK F n j f o l a n0 s b d g J i m W ((k.cell (p:=⟨a,0,none⟩) c).trans ha) h0
theorem qA (s:ByteArray)(i:List UInt8)(m:s.data.toList=i)(o:i.length≤1000000)(w:World) :
 CB 211 #[.string s] w fun e _=>e=.returned (vI (fG i:Int)):=by
 refine (callsIn_wide (n:=9)).1 ?_;refine callsIn_of_wp_marks func211 rfl trivial ?_ rfl;simp only [ntmps211,Je,QE,QG,Nat.reduceAdd,Nat.reduceSub,Jf,Jg,Jh,Ji,QW,QL];have r:bW w w:=Qj _ _
 gi_wp2_with (refine ⟨trivial,?_⟩;gi_at_call 237;refine (callsIn_wide.2 (Ha _ _)).mono ?_;rintro e z ⟨rfl,rfl⟩)
 refine wpIn_rangeFunc_ownG (n:=9) (F:=Fence.wide) rfl (by omega) (gf:=255) (lb:=#[vP (w.heap.size+1)]) (by exact rfl) trivial (enters_of func255 (by kernel_rfl) rfl)
  (Bv Fence.wide (9 - 1) trivial rfl (by omega) (w.heap.size+1) w.heap.size s i m o _ (by simp) ?ha) oh.trans (oh.book (by simp;omega) (by simp)) (Qj _ _) (fun _=>rfl)
  (fun a W=>Boxed W w.heap.size 3 (vI (a.length:Int))∧Boxed W (w.heap.size+1) 9 (.string s)∧bW w W)
  (fun _ _ _=>False)
  ((aB _ _ _).and ((aB _ _ _).and (ownFrom_below (Qb _) (by simp;omega))))
  (fun _ _ _ _ _ h _ _=>h.elim) ?start (fun x=>{ tmps:=#[.string s,undef,vI 0,vP w.heap.size,.string s,.func (.func 255) #[] #[vP (w.heap.size+1)],.int .u8 (x.toNat:Int),undef,undef,undef],defers:=[] }) ?assign ?body ?done ?stop
 case ha=>go_simp
 case start =>
  refine ⟨(Qi _ _ _).alloc _,Boxed.at (Qi _ _ _) (by simp),(r.alloc (Qb _) _).alloc (by simp) _⟩
 case assign =>
  intro l x W K hK
  gi_wp2
  simpa [Lj] using hK
 case body =>
  rintro l a x W ⟨d,bs,f⟩ v;have j:=d.cell;have u:=d.frozen
  gi_wp2
  have g:=(dF.refl (fun k=>k=w.heap.size) W).setCell (p:=⟨w.heap.size,0,none⟩) (.inl rfl) (vI ((a.length:Int)+1));have b:=g.below (B:=w.heap.size) (fun k y=>by omega) f.size;refine ⟨g.fH _ ?_,oh.boxed b bs (g.boxed bs (by omega)),?_,g.boxed bs (by omega),f.trans b⟩
  ·rintro k rfl
   exact Boxed.isCells d
  ·rw [QX,JM,show ((a.length+1:Nat):Int)=(a.length:Int)+1 by omega]
   exact d.set _
 case done =>
  rintro D ys W t q ⟨d,bs,f⟩ hK;have j:=d.cell;subst q
  gi_wp2
  refine ⟨by simp,.inl ⟨_,_,rfl,run_takeDeferred hK,?_⟩⟩;exact ⟨_,results_tmp rfl _ _ _,f.trans (belowK_b (w:=w) (Qb _) W D _ _ (by simp at t;omega) hK rfl rfl),rfl⟩
 case stop =>
  rintro D c a W _ _ h _;exact h.elim
end Go.Proofs.YtagjhmodblifbaaGreatDoor
namespace Go.Proofs.YtagjhmodblifbaaGreatDoor
open Go.Proofs.Tryz
open Go Go.RowKit Go.Shelf
def jy (l:List UInt8):Option (List UInt8 × List UInt8) :=
 if 0<fG l∧l[fG l]?=some 46∧0<(l.drop (fG l+1)).length∧fG (l.drop (fG l+1))=(l.drop (fG l+1)).length then some (l.take (fG l),l.drop (fG l+1)) else none
theorem FH (l:List UInt8):fG l≤l.length:=(Xv _).length_le
theorem nM (s:ByteArray){c:List UInt8}(h:s.data.toList=c)(a b:Nat):(s.extract a b).data.toList=(c.drop a).take (b - a):=by
 rw [Xr,Xt,Xu,h]
def Hd (o:Option (List UInt8 × List UInt8))(e:Ending):Prop:=match o with
 | some x=>∃ s1 s2:ByteArray,e=.returned (.tuple #[.string s1,.string s2])∧s1.data.toList=x.1∧s2.data.toList=x.2
 | none=>e=pK 2
theorem Af (s:ByteArray)(a:List UInt8)(b:s.data.toList=a)(r:a.length≤100000)(w:World) :
 CB 177 #[.string s] w fun e _=>Hd (jy a) e:=by
 have H:=qA s a b (by omega) w;have m:=FH a
 have q:s.size=a.length:=by rw [← b];exact (bU s).symm
 have a1:s.size≤100000:=by omega
 by_cases h1:0<fG a∧a[fG a]?=some 46
 case neg =>
  have I:jy a=none:=if_neg fun h=>h1 ⟨h.1,h.2.1⟩
  rw [I]
  by_cases y:0<fG a
  ·have M:0<fG a:=y
   by_cases D:fG a<a.length
   ·have J:a[fG a]≠46:=fun h=>h1 ⟨y,by rw [Qs D,h]⟩
    have N:fG a<s.size:=by omega
    have n:=dN s (fG a) a b D
    have a2:a[fG a].toNat≠46:=fun h=>J (UInt8.toNat_inj.1 h)
    generalize a[fG a]=x at *
    have e3:((x.toNat:Int) == 46)=false:=by simp;omega
    generalize fG a=c at *;clear h1 I q r b m;go_enter func177,ntmps177
    go_wp2_with (first | (go_at_call 211;refine H.mono ?_;rintro e w1 ⟨d,rfl⟩) | (go_at_call 106;refine (bD _ _ _ (by rfl)).mono ?_;rintro e B ⟨rfl,rfl⟩))
    exact ⟨rfl,d,rfl⟩
   ·have N:¬fG a<s.size:=by omega
    generalize fG a=c at *;clear h1 I q r b m;go_enter func177,ntmps177
    go_wp2_with (first | (go_at_call 211;refine H.mono ?_;rintro e w1 ⟨d,rfl⟩) | (go_at_call 106;refine (bD _ _ _ (by rfl)).mono ?_;rintro e B ⟨rfl,rfl⟩))
    exact ⟨rfl,d,rfl⟩
  ·have M:¬0<fG a:=y
   generalize fG a=c at *;clear h1 I q r b m;go_enter func177,ntmps177
   go_wp2_with (first | (go_at_call 211;refine H.mono ?_;rintro e w1 ⟨d,rfl⟩) | (go_at_call 106;refine (bD _ _ _ (by rfl)).mono ?_;rintro e B ⟨rfl,rfl⟩))
   exact ⟨rfl,d,rfl⟩
 case pos =>
  obtain ⟨y,R⟩:=h1;obtain ⟨D,J⟩:=ZH.1 R
  have U:jy a=if 0<(a.drop (fG a+1)).length∧fG (a.drop (fG a+1))=(a.drop (fG a+1)).length then some (a.take (fG a),a.drop (fG a+1)) else none:=by
   unfold jy;simp only [y,R,true_and]
  have M:0<fG a:=y
  have N:fG a<s.size:=by omega
  have n:=dN s (fG a) a b D;rw [J] at n;have F:∀ W,(Instr.index 9 (.string s) (vI (fG a:Int))).run prog W=.ok (.int .u8 46) W:=n;clear n;rw [U];have p:=nM s b 0 (fG a);have f:=nM s b (fG a+1) s.size;rw [QN,Nat.sub_zero] at p;rw [Qv (by rw [JH];omega)] at f
  have hlen:(a.drop (fG a+1)).length≤100000:=by rw [JH];omega
  have j:(s.extract (fG a+1) s.size).size=(a.drop (fG a+1)).length:=by rw [← f];exact (bU _).symm
  have z:=fun W=>qA _ _ f (by omega) W
  generalize a.take (fG a)=l1 at *;generalize a.drop (fG a+1)=l2 at *;generalize fG a=c at *;generalize fG l2=c2 at *
  obtain ⟨o,T⟩:∃ o,(if 0<l2.length∧c2=l2.length then some (l1,l2) else none)=o:=⟨_,rfl⟩
  rw [T];have C:=Qa T;clear T
  obtain ⟨L,t⟩:∃ L,s.extract 0 c=L:=⟨_,rfl⟩
  obtain ⟨k,u⟩:∃ k,s.extract (c+1) s.size=k:=⟨_,rfl⟩
  rw [t] at p;rw [u] at f j z
  have S:(c:Int)≤(s.size:Int):=by omega
  have G:(c:Int)+1≤(s.size:Int):=by omega
  have Y:0≤(c:Int)+1:=by omega
  have HH:=Qa (And.intro p (And.intro f j))
  have a0:k.size≤100000:=by omega
  have hw:IntKind.i64.wrap ((c:Int)+1)=(c:Int)+1:=by rw [Qx];omega
  clear U p f J R q r b m y D;go_enter func177,ntmps177
  go_upto_region 3 with (first | (go_at_call 211;refine H.mono ?_;rintro e w1 ⟨d,rfl⟩) | (go_at_call 106;refine (aC _ _ _ (by rfl)).mono ?_;rintro e B ⟨rfl,rfl⟩))
  have V:Hid (∀ X,bW w X→True∧bW w X):=Qa fun X h=>⟨trivial,h⟩
  go_wp2_with fail
  refine bB V d.drew fun X0 g=>?_
  refine tk 0 g ?_;refine tk 1 g ?_;refine tk 2 g ?_;refine tk 3 g ?_;refine tk 4 g ?_;refine tk 5 g ?_;refine tk 6 g ?_;refine tk 7 g ?_;refine tk 8 g ?_;refine wpAnyH_done (by kernel_rfl) ?_ _;have i:=g.2;have A:=z X0;obtain ⟨g1,g2,Q⟩:=HH.out;clear g V H z F hlen t u M N S G
  by_cases E:0<l2.length∧c2=l2.length
  ·obtain rfl:=(if_pos E).symm.trans C.out
   have e5:0<k.size:=by omega
   have O:c2=k.size:=by omega
   clear E Q j C;subst O
   go_wp2_with (first | (go_at_call 211;refine A.mono ?_;rintro e Z ⟨l,rfl⟩) | (go_at_call 106;refine (aC _ _ _ (by rfl)).mono ?_;rintro e B ⟨rfl,rfl⟩))
   exact bodyPost_ret (v:=.tuple #[.string L,.string k]) (by simp [results,results177,go_sem]) rfl ⟨i.trans (l.mono i.size),L,k,rfl,g1,g2⟩
  ·obtain rfl:=(if_neg E).symm.trans C.out
   by_cases e5:0<k.size
   ·have O:¬(c2:Int)=(k.size:Int):=by omega
    have e7:((c2:Int) == (k.size:Int))=false:=by simpa using O
    clear E Q j C
    go_wp2_with (first | (go_at_call 211;refine A.mono ?_;rintro e Z ⟨l,rfl⟩) | (go_at_call 106;refine (bD _ _ _ (by rfl)).mono ?_;rintro e B ⟨rfl,rfl⟩))
    exact ⟨rfl,i.trans (l.mono i.size),rfl⟩
   ·clear E Q j C
    go_wp2_with (first | (go_at_call 211;refine A.mono ?_;rintro e Z ⟨l,rfl⟩) | (go_at_call 106;refine (bD _ _ _ (by rfl)).mono ?_;rintro e B ⟨rfl,rfl⟩))
    exact ⟨rfl,i,rfl⟩
theorem Mi (v:Value)(i:Int)(w:World)(h:ak w v i) :
 CB 90 #[v] w fun e Z=>∃ N,e=.returned N∧ak Z N (-i):=by
 have s:=fun X (V:bW w X)=>jh v i X (h.below V)
 obtain ⟨na,va,k,rfl,o,C,y,rfl⟩:=h;obtain ⟨d,f,rfl,x,U⟩:=o.form;have z:bX na (val k)=0↔k.length=0:=(og (⟨na,_,k,rfl,o,C,y,rfl⟩:ak w (vN na d k.length f) _)).symm
 have c:∀ n:Bool,n=(!na&&decide (0<k.length))→ak w (vN n d k.length f) (-(bX na (val k))):=fun n Y=>by
  subst Y;have hp:=dn C;refine ⟨_,_,k,rfl,o,C,by simp,?_⟩
  by_cases h0:0<k.length
  ·cases na <;> simp [bX,h0]
  ·have:val k=0:=by omega
   cases na <;> simp [bX,h0,this]
 generalize D:k.length=m at *;obtain ⟨W0,t,F,L,M⟩:=yP w 24 (lN na d m f) 24 (lN false none 0 0);have r:=fC (R:=bJ _) (ax L aS) ⟨_,_,_,_,M⟩ F
 have q:=yO r fun X h=>(aQ h.r0:)
 clear F L M o C y x U
 cases na with
 | true =>
  have p:=(c false (by simp)).below r.below;clear c z D;go_enter func90,ntmps90
  go_upto_region 1 with (fail)
  rw [t.out];clear t
  go_wp2_with fail
  refine bB q (bY bJ.drew r) fun E a=>?_
  refine tk 0 a ?_;refine tk 1 a ?_;refine tk 2 a ?_;refine tk 3 a ?_;refine sk 4 a ?_;refine sk 5 a ?_;refine sk 6 a ?_;refine tk 7 a ?_;refine tk 8 a ?_;refine tk 9 a ?_;refine tk 10 a ?_
  refine rd 11 fun l b=>?_
  have hP:=a.2;obtain ⟨S,T,J,I,hr,O,Q,G,H⟩:=hP.res.cells;clear s
  go_wp2_with fail
  refine aT b q (fM hP (aZ (by omega) dV) (by omega) false d m f) fun a=>?_
  clear b l;obtain ⟨A,B⟩:=eB hr vF (.slice d m f);refine wpAnyH_done (by kernel_rfl) ?_ _;have u:=a.2.below;have g:=p.keep a.2.more;clear a hr hP p
  go_wp2_with fail
  exact bodyPost_ret (v:=vN false d m f) (by simp [results,results90,go_sem,loadCellsFrom,A,B]) rfl ⟨u,_,rfl,g⟩
 | false =>
  by_cases h0:m=0
  ·rw [decide_eq_true (z.2 h0)] at s
   have p:=(c false (by simp;omega)).below r.below;clear c z D h0;go_enter func90,ntmps90
   go_upto_region 1 with (fail)
   rw [t.out];clear t
   go_wp2_with fail
   refine bB q (bY bJ.drew r) fun E a=>?_
   refine tk 0 a ?_;refine tk 1 a ?_;refine tk 2 a ?_;refine tk 3 a ?_;refine tk 4 a ?_;refine tk 8 a ?_;refine tk 9 a ?_
   refine rd 5 fun l b=>?_
   have hP:=a.2
   go_wp2_with (go_at_call 144;refine (s _ hP.below).mono ?_;rintro e wk ⟨j,rfl⟩)
   refine aT b q (ag bJ.step hP j) fun a=>?_
   clear b l hP j;refine tk 6 a ?_;refine tk 7 a ?_;refine tk 10 a ?_
   refine rd 11 fun l b=>?_
   have hP:=a.2;obtain ⟨S,T,J,I,hr,O,Q,G,H⟩:=hP.res.cells;clear s
   go_wp2_with fail
   refine aT b q (fM hP (aZ (by omega) dV) (by omega) false d m f) fun a=>?_
   clear b l;obtain ⟨A,B⟩:=eB hr vF (.slice d m f);refine wpAnyH_done (by kernel_rfl) ?_ _;have u:=a.2.below;have g:=p.keep a.2.more;clear a hr hP p
   go_wp2_with fail
   exact bodyPost_ret (v:=vN false d m f) (by simp [results,results90,go_sem,loadCellsFrom,A,B]) rfl ⟨u,_,rfl,g⟩
  ·rw [decide_eq_false (fun e=>h0 (z.1 e))] at s
   have p:=(c true (by simp;omega)).below r.below;clear c z D h0;go_enter func90,ntmps90
   go_upto_region 1 with (fail)
   rw [t.out];clear t
   go_wp2_with fail
   refine bB q (bY bJ.drew r) fun E a=>?_
   refine tk 0 a ?_;refine tk 1 a ?_;refine tk 2 a ?_;refine tk 3 a ?_;refine tk 4 a ?_;refine tk 8 a ?_;refine tk 9 a ?_
   refine rd 5 fun l b=>?_
   have hP:=a.2
   go_wp2_with (go_at_call 144;refine (s _ hP.below).mono ?_;rintro e wk ⟨j,rfl⟩)
   refine aT b q (ag bJ.step hP j) fun a=>?_
   clear b l hP j;refine tk 6 a ?_;refine tk 7 a ?_;refine tk 10 a ?_
   refine rd 11 fun l b=>?_
   have hP:=a.2;obtain ⟨S,T,J,I,hr,O,Q,G,H⟩:=hP.res.cells;clear s
   go_wp2_with fail
   refine aT b q (fM hP (aZ (by omega) dV) (by omega) true d m f) fun a=>?_
   clear b l;obtain ⟨A,B⟩:=eB hr (.bool true) (.slice d m f);refine wpAnyH_done (by kernel_rfl) ?_ _;have u:=a.2.below;have g:=p.keep a.2.more;clear a hr hP p
   go_wp2_with fail
   exact bodyPost_ret (v:=vN true d m f) (by simp [results,results90,go_sem,loadCellsFrom,A,B]) rfl ⟨u,_,rfl,g⟩
def nX (l:List UInt8):List UInt8:=Lib.trimPrefix l [45]
def dZ (l:List UInt8):List UInt8:=Lib.trimRightB l 48
def FL (l:List UInt8):Int:=match jy (nX l) with
 | none=>2
 | some x=>if 20<(dZ x.2).length then 3 else 0
def vD (l:List UInt8):Int × Nat:=match jy (nX l) with
 | none=>(0,0)
 | some x=>least (bX (Lib.hasPrefix l [45]) (di 10 (x.1++dZ x.2))) (dZ x.2).length
def FM (W:World)(x:Int × Nat)(e:Ending):Prop:=if x.1.natAbs<aj^40 then ∃ v,e=.returned v∧dX W v x.1 x.2 else e=pK 3
theorem He {c:UInt8}(h:iy c=true):digitVal c.toNat<10:=by
 unfold iy at h;simp only [Jt,decide_eq_true_eq] at h;unfold digitVal;rw [if_pos h];omega
theorem CZ {l:List UInt8}{c:UInt8}(h:c ∈ dZ l):c ∈ l:=by
 unfold dZ Lib.trimRightB at h;rw [Xc] at h;exact Xc.1 ((List.dropWhile_sublist _).mem h)
theorem Da (l:List UInt8):(dZ l).length≤l.length:=by
 unfold dZ Lib.trimRightB;have:=(List.dropWhile_sublist (l:=l.reverse) (fun x=>x == 48)).length_le;rw [Xb] at this ⊢;exact this
theorem wV (s:ByteArray)(l:List UInt8)(w:World)(hs:s.data.toList=l)(b:l.length≤100000) :
  Calls prog 178 #[.string s,.string ⟨#[48]⟩] w fun e a=>w=a∧∃ p:ByteArray,e=.returned (.string p)∧p.data.toList=dZ l∧p.size=(dZ l).length:=by
 refine (strings_TrimRight_one s 48 (by decide) w (by rw [← bU,hs];omega)).mono ?_;rintro e c ⟨rfl,rfl⟩;rw [hs];exact ⟨rfl,_,rfl,rfl,(bU _).symm⟩
theorem sH {l:List UInt8}{c:UInt8}(h:c ∈ l.takeWhile iy):iy c=true:=by
 induction l with
 | nil=>cases h
 | cons x l b =>
  rw [List.takeWhile_cons] at h;split at h
  ·rename_i a
   rcases Yy.1 h with rfl | h
   ·exact a
   ·exact b h
  ·cases h
theorem qB {l a b:List UInt8}(h:jy l=some (a,b)):a≠[]∧(∀ c ∈ a++dZ b,digitVal c.toNat<10)∧a.length+b.length≤l.length:=by
 unfold jy at h;split at h
 ·rename_i d
  obtain ⟨h1,n,o,j⟩:=d;simp only [Option.some.injEq,Prod.mk.injEq] at h;obtain ⟨rfl,rfl⟩:=h;have k:=FH l
  have i:l.take (fG l)=l.takeWhile iy:=ZI.1 (Xv iy) |>.symm
  refine ⟨fun h=>?_,fun c d=>?_,?_⟩
  ·have:=congrArg List.length h
   rw [Jp] at this;simp only [QG] at this;omega
  ·refine He ?_
   rcases ZB.1 d with d | d
   ·rw [i] at d
    exact sH d
   ·have f:=CZ d
    generalize l.drop (fG l+1)=m at *
    have g:m.takeWhile iy=m:=by
     have:=ZI.1 (Xv (l:=m) iy);rw [show (m.takeWhile iy).length=m.length from j,ZL] at this;exact this
    rw [← g] at f;exact sH f
  ·rw [Jp,JH]
   omega
 ·cases h
theorem zu (l:List UInt8)(h:∀ c ∈ l,digitVal c.toNat<10)(f:l.length≤2100):di 10 l<aj^290:=by
 have h1:=uJ l h;have a:10^l.length≤16^l.length:=QU (by decide) _;have b:16^l.length≤16^2100:=Ql (by decide) f
 have d:(16:Nat)^2100<aj^290:=by
  rw [gX,show (16:Nat)=2^4 by rfl,← Jz];exact JV (by decide) (by decide)
 exact Qf h1 (Qd a (Qd b (Ju d)))
theorem KV (s:ByteArray)(a:List UInt8)(c:s.data.toList=a)(d:a.length≤2000)(w:World)(hK:FL a≠0) :
  Calls prog 133 #[.string s] w fun e k=>bW w k∧e=pK (FL a):=by
 have i:=fun W=>strings_CutPrefix s ⟨#[45]⟩ W
 rw [c] at i
 have g:(nX a).length≤2000:=by
  unfold nX Lib.trimPrefix;split
  ·rw [JH];omega
  ·exact d
 have m:=fun W=>Af ⟨(nX a).toArray⟩ (nX a) rfl (by omega) W
 replace i:∀ W,Calls prog 176 #[.string s,.string ⟨#[45]⟩] W fun e k=>e=.returned (.tuple #[.string ⟨(nX a).toArray⟩,.bool (Lib.hasPrefix a [45])])∧k=W:=i
 have f:FL a=match jy (nX a) with
  | none=>2
  | some x=>if 20<(dZ x.2).length then 3 else 0:=rfl
 rw [f] at hK ⊢;clear f;obtain ⟨B,q,l,r⟩:=qD w;generalize Lib.hasPrefix a [45]=neg at *;generalize nX a=rs at *
 cases hd:jy rs with
 | none =>
  rw [hd] at m;clear c d g r hK;go_enter func133,ntmps133
  go_upto_region 1 with (fail)
  rw [q.out]
  go_wp2_with (first | (go_at_call 176;refine (i _).mono ?_;rintro e w1 ⟨rfl,rfl⟩) | (go_at_call 177;refine (m _).mono ?_;rintro e A ⟨b,rfl⟩))
  exact ⟨rfl,l.trans (b.mono l.size),rfl⟩
 | some x =>
  rw [hd] at m hK;obtain ⟨E,j⟩:=x;have hlen:=(qB hd).2.2
  have t:20<(dZ j).length:=Zc fun h=>hK (if_neg h)
  show Calls _ _ _ _ fun e k=>bW w k∧e=.panicked [{ v:=.iface 31 (vI (if 20<(dZ j).length then 3 else 0)),recovered:=false }]
  rw [if_pos t]
  have n:j.length≤100000:=by omega
  have C:decide (((dZ j).length:Int)≤20)=false:=decide_eq_false (by omega);clear c d g r hK;go_enter func133,ntmps133
  go_upto_region 1 with (fail)
  rw [q.out]
  go_wp2_with (first | (go_at_call 176;refine (i _).mono ?_;rintro e w1 ⟨rfl,rfl⟩) | (go_at_call 177;refine (m _).mono ?_;rintro e A ⟨b,F,z,rfl,y,o⟩) | (go_at_call 178;refine (wV z j _ o n).mono ?_;rintro e G ⟨rfl,p,rfl,D,u⟩) | (go_at_call 106;refine (bD _ _ _ (by rfl)).mono ?_;rintro e H ⟨rfl,rfl⟩))
  exact ⟨rfl,l.trans (b.mono l.size),rfl⟩
theorem Ag (s:ByteArray)(k:List UInt8)(R:s.data.toList=k)(V:k.length≤2000)(w:World)(hK:FL k=0) :
  Calls prog 133 #[.string s] w fun e F=>bW w F∧FM F (vD k) e:=by
 have X:=fun W=>strings_CutPrefix s ⟨#[45]⟩ W
 rw [R] at X
 have a4:(nX k).length≤2000:=by
  unfold nX Lib.trimPrefix;split
  ·rw [JH];omega
  ·exact V
 have kP:=fun W=>Af ⟨(nX k).toArray⟩ (nX k) rfl (by omega) W
 replace X:∀ W,Calls prog 176 #[.string s,.string ⟨#[45]⟩] W fun e F=>e=.returned (.tuple #[.string ⟨(nX k).toArray⟩,.bool (Lib.hasPrefix k [45])])∧F=W:=X
 unfold FL at hK;unfold vD;obtain ⟨W0,hW,b0,I⟩:=qD w;generalize Lib.hasPrefix k [45]=neg at *;generalize nX k=rs at *
 cases hd:jy rs with
 | none=>rw [hd] at hK;cases hK
 | some x =>
  rw [hd] at kP hK;obtain ⟨y,b⟩:=x;obtain ⟨T,j,hlen⟩:=qB hd
  have hk:¬20<(dZ b).length:=fun h=>by
   have M:(if 20<(dZ b).length then (3:Int) else 0)=0:=hK;rw [if_pos h] at M;exact absurd M (by decide)
  have Q:b.length≤100000:=by omega
  have a2:=Da b;have f:=zu (y++dZ b) j (by rw [QX];omega)
  have z:y++dZ b≠[]:=fun h=>T (List.append_eq_nil_iff.1 h).1
  have kN:=fun (t:ByteArray) (ht:t.data.toList=y++dZ b) W=>IX t 10 W (by decide) (by decide) false (y++dZ b) ht z (by rw [QX];omega) j (Qf f (Ql aP (by decide)))
  have N:∀ l p:ByteArray,l.data.toList=y→p.data.toList=dZ b→(l++p).data.toList=y++dZ b:=fun l p h1 h2=>by rw [YK,YL,h1,h2]
  have e1:decide (((dZ b).length:Int)≤20)=true:=decide_eq_true (by omega)
  have A:∀ l:ByteArray,l.data.toList=y→l.size≤3000:=fun l h=>by rw [← bU,h];omega
  show Calls _ _ _ _ fun e F=>bW w F∧FM F (least (bX neg (di 10 (y++dZ b))) (dZ b).length) e
  generalize hn:di 10 (y++dZ b)=n at *;generalize hL:(dZ b).length=L at *;clear R V a4 j hlen T z hK hn hd;go_enter func133,ntmps133
  go_upto_region 1 with (fail)
  rw [hW.out];clear hW
  go_upto_region 5 with (first | (go_at_call 176;refine (X _).mono ?_;rintro e w1 ⟨rfl,rfl⟩) | (go_at_call 177;refine (kP _).mono ?_;rintro e w2 ⟨B,l,s2,rfl,E,U⟩) | (go_at_call 178;refine (wV s2 b _ U Q).mono ?_;rintro e w3 ⟨rfl,p,rfl,hp,a3⟩;rw [hL] at a3) | (go_at_call 106;refine (aC _ _ _ (by rfl)).mono ?_;rintro e w9 ⟨rfl,rfl⟩))
  rw [show ((10:Nat):Int)=10 from rfl] at kN
  have a1:¬9223372036854775807<l.size+L:=by have:=A l E;omega
  have ht:=N l p E hp;have q2:=I.below B;have b2:=b0.trans (B.mono b0.size);clear X kP Q N A E U hp a2 e1 hL b0 I B
  go_cut [7] from 8 to 30 (fun v7 W=>∃ d,v7=vP d∧w.heap.size<d∧gQ W d (bX false n)∧af W w.heap.size 27 (lV 0 0 false none 0 0 ⟨#[]⟩ none 0 0)∧bW w W)
  case first =>
   have S:=q2.lt;have HL:=Qa S;clear S
   go_wp2_with (first | (go_at_call 179;refine (kN _ ht _).mono ?_;rintro e w3 ⟨O,v3,rfl,Z⟩) | (go_at_call 152;refine (eZ _ _ _ Z).mono ?_;rintro e w4 ⟨a0,v4,rfl,hJ⟩;obtain ⟨g,a,m,c,rfl⟩:=hJ.shape;have r4:=af.new w4 24 (lN false none 0 0);obtain ⟨y0,y1,f0,f1⟩:=av r4))
   go_meet
   have i:=O.trans (a0.mono O.size);have o1:=dJ w4 (.cells #[.bool g,.slice a m c] 24);have o2:=i.trans (o1.mono i.size);exact ⟨_,rfl,Qf HL.out i.size,⟨_,_,_,_,af.new w4 24 (lN g a m c),hJ.below o1⟩,q2.below o2,b2.trans (o2.mono b2.size)⟩
  case rest =>
   obtain ⟨d,rfl,l7,J,I,o⟩:=hcut;clear kN a1 ht q2 b2
   go_upto_if 31 with (fail)
   go_cut [7] from 31 to 33 (fun v7 W=>v7=vP d∧gQ W d (bX neg n)∧af W w.heap.size 27 (lV 0 0 false none 0 0 ⟨#[]⟩ none 0 0)∧bW w W)
   case first =>
    cases neg with
    | false =>
     go_wp2_with fail
     go_meet
     exact ⟨rfl,J,I,o⟩
    | true =>
     obtain ⟨n7,a7,m7,c7,r7,G,x0,x1,-,-⟩:=J.cells;have kG:=Mi _ _ _ G;rw [show -(bX false n)=bX true n by simp [bX]] at kG;have HG:=Qa J;clear J
     go_wp2_with (go_at_call 90;refine kG.mono ?_;rintro e w6 ⟨C,v6,rfl,Z⟩;obtain ⟨g,a,m,c,rfl⟩:=Z.shape;have r8:=r7.below C;obtain ⟨y0,y1,f0,f1⟩:=av r8)
     go_meet
     have b6:=o.trans (C.mono o.size);exact ⟨rfl,pF r8 Z,((I.below C).other (a:=⟨d,0,none⟩) (by show w.heap.size≠d;omega) _).other (a:=⟨d,1,none⟩) (by show w.heap.size≠d;omega) _,(b6.setCell (p:=⟨d,0,none⟩) (show w.heap.size≤d by omega) _).setCell (p:=⟨d,1,none⟩) (show w.heap.size≤d by omega) _⟩
   case rest =>
    obtain ⟨rfl,h7,hr,qj⟩:=hcut;clear J I o;obtain ⟨n7,a7,m7,c7,r7,G,x0,x1,-,-⟩:=h7.cells
    have q:(bX neg n).natAbs<aj^300:=by rw [bM];exact Qf f (Ql aP (by decide))
    by_cases hf:(least (bX neg n) L).1.natAbs<aj^40
    ·obtain ⟨r,H,u⟩:∃ r H,least (bX neg n) L=(r,H):=⟨_,_,rfl⟩
     have D:=hf;rw [u] at D;have kM:=mO _ (bX neg n) L r H _ G (by omega) q u D;have Y:=Qa (And.intro hf u);clear hf u D q f hk h7 r7 G
     go_wp2_with (go_at_call 83;refine kM.mono ?_;rintro e w9 ⟨ig,g,a,m,c,la,lc,rfl,hC⟩;have q1:=hr.below ig;obtain ⟨y0,y1,y2,y3,y4,y5,f0,f1,f2,f3,f4,f5⟩:=df q1)
     obtain ⟨u0,u1,u2,u3,u4,u5⟩:=dD q1 (vI 3) (vI H) (.bool g) (.slice a m c) vE (.slice la 0 lc);have b9:=qj.trans (ig.mono qj.size)
     have hb:=((((((b9.setCell (Qb _) (p:=⟨w.heap.size,0,none⟩) (vI 3)).setCell (Qb _) (p:=⟨w.heap.size,1,none⟩) (vI H)).setCell (Qb _) (p:=⟨w.heap.size,2,none⟩) (.bool g)).setCell (Qb _) (p:=⟨w.heap.size,3,none⟩) (.slice a m c)).setCell (Qb _) (p:=⟨w.heap.size,4,none⟩) vE).setCell (Qb _) (p:=⟨w.heap.size,5,none⟩) (.slice la 0 lc))
     refine bodyPost_ret (v:=vV 3 H g a m c ⟨#[]⟩ la 0 lc) (by simp [results,results133,go_sem,loadCellsFrom,u0,u1,u2,u3,u4,u5]) rfl ⟨hb,?_⟩;unfold FM;rw [if_pos Y.out.1,Y.out.2];exact ⟨_,rfl,g,a,m,c,la,lc,rfl,hC.keep (bQ q1 _ _ _ _ _ _)⟩
    ·have kM:=lS _ (bX neg n) L _ G (by omega) q hf
     have Y:=Qa hf;clear hf q f hk h7 r7 G
     go_wp2_with (go_at_call 83;refine kM.mono ?_;rintro e w9 ⟨ig,rfl⟩)
     exact ⟨rfl,qj.trans (ig.mono qj.size),by unfold FM;rw [if_neg Y.out]⟩
def qo (l:List UInt8):Int:=if 2000<l.length then 3 else FL l
theorem Db (A:Nat)(s:ByteArray)(b:List UInt8)(w:World)(i:af w A 9 [.string s])(_hr:af w (A+1) 27 (lV 0 0 false none 0 0 ⟨#[]⟩ none 0 0))(a:s.data.toList=b)(hK:qo b≠0) :
 CB 132 #[vP A,vP (A+1)] w fun e _=>e=pK (qo b):=by
 have g:=i.cell 0;simp only [Qc] at g
 have c:s.size=b.length:=by rw [← a];exact (bU s).symm
 unfold qo at hK ⊢
 by_cases f:2000<b.length
 ·rw [if_pos f]
  have h:decide ((s.size:Int)≤2000)=false:=decide_eq_false (by omega);clear c hK a;go_enter func132,ntmps132
  go_wp2_with (go_at_call 106;refine (bD _ _ _ (by rfl)).mono ?_;rintro e k ⟨rfl,rfl⟩)
  exact ⟨by first | rfl | trivial,Qj _ _,rfl⟩
 ·rw [if_neg f] at hK ⊢
  have j:=fun W=>KV s b a (by omega) W hK
  have h:decide ((s.size:Int)≤2000)=true:=decide_eq_true (by omega);clear c a;go_enter func132,ntmps132
  go_wp2_with (first | (go_at_call 106;refine (aC _ _ _ (by rfl)).mono ?_;rintro e k ⟨rfl,rfl⟩) | (go_at_call 133;refine (j _).mono ?_;rintro e w1 ⟨d,rfl⟩))
  exact ⟨by first | rfl | trivial,d,rfl⟩
theorem zw (A:Nat)(s:ByteArray)(b:List UInt8)(w:World)(i:af w A 9 [.string s])(_hr:af w (A+1) 27 (lV 0 0 false none 0 0 ⟨#[]⟩ none 0 0))(a:s.data.toList=b)(hK:qo b=0)(hf:¬(vD b).1.natAbs<aj^40) :
 CB 132 #[vP A,vP (A+1)] w fun e _=>e=pK 3:=by
 have g:=i.cell 0;simp only [Qc] at g
 have d:s.size=b.length:=by rw [← a];exact (bU s).symm
 unfold qo at hK
 have j:¬2000<b.length:=fun h=>by rw [if_pos h] at hK;exact absurd hK (by decide)
 rw [if_neg j] at hK
 have f:=fun W=>Ag s b a (by omega) W hK
 unfold FM at f;simp only [if_neg hf] at f;have k:decide ((s.size:Int)≤2000)=true:=decide_eq_true (by omega);clear d a hf hK;generalize vD b=x at *;go_enter func132,ntmps132
 go_wp2_with (first | (go_at_call 106;refine (aC _ _ _ (by rfl)).mono ?_;rintro e l ⟨rfl,rfl⟩) | (go_at_call 133;refine (f _).mono ?_;rintro e w1 ⟨c,rfl⟩))
 exact ⟨by first | rfl | trivial,c,rfl⟩
theorem Bw (A:Nat)(s:ByteArray)(a:List UInt8)(w:World)(E:af w A 9 [.string s])(hr:af w (A+1) 27 (lV 0 0 false none 0 0 ⟨#[]⟩ none 0 0))(b:s.data.toList=a)(hK:qo a=0)(hf:(vD a).1.natAbs<aj^40) :
  Calls prog 132 #[vP A,vP (A+1)] w fun e k=>e=.returned (.tuple #[])∧dF (fun i=>i=A+1) w k∧∃ u v y z m n B C o q,af k (A+1) 27 (lV u v y z m n B C o q)∧dX k (vV u v y z m n B C o q) (vD a).1 (vD a).2:=by
 have D:=E.cell 0;simp only [Qc] at D
 have d:s.size=a.length:=by rw [← b];exact (bU s).symm
 unfold qo at hK
 have H:¬2000<a.length:=fun h=>by rw [if_pos h] at hK;exact absurd hK (by decide)
 rw [if_neg H] at hK
 have f:=fun W=>Ag s a b (by omega) W hK
 unfold FM at f;simp only [if_pos hf] at f;have I:decide ((s.size:Int)≤2000)=true:=decide_eq_true (by omega);clear d b hf hK;generalize vD a=x at *;go_enter func132,ntmps132
 go_wp2_with (first | (go_at_call 106;refine (aC _ _ _ (by rfl)).mono ?_;rintro e T ⟨rfl,rfl⟩) | (go_at_call 133;refine (f _).mono ?_;rintro e S ⟨c,R,rfl,G⟩;obtain ⟨g,l,t,r,la,lc,rfl,F⟩:=G;have j:=hr.below c;obtain ⟨U,V,X,Y,Z,y5,J,L,M,N,O,Q⟩:=df j))
 go_end0
 exact ⟨rfl,((((((((dF.refl (fun i=>i=A+1) w).aU c).setCell (p:=⟨A+1,0,none⟩) (.inl rfl) _).setCell (p:=⟨A+1,1,none⟩) (.inl rfl) _).setCell (p:=⟨A+1,2,none⟩) (.inl rfl) _).setCell (p:=⟨A+1,3,none⟩) (.inl rfl) _).setCell (p:=⟨A+1,4,none⟩) (.inl rfl) _).setCell (p:=⟨A+1,5,none⟩) (.inl rfl) _),_,_,_,_,_,_,_,_,_,_,((((((j.set 0 (vI 3)).set 1 (vI (x.2:Int))).set 2 (.bool g)).set 3 (.slice l t r)).set 4 vE).set 5 (.slice la 0 lc)),g,l,t,r,la,lc,rfl,F.keep (bQ j _ _ _ _ _ _)⟩
theorem EL (s:ByteArray)(r:List UInt8)(x:s.data.toList=r)(w:World) :
  Calls prog 57 #[.string s] w fun e H=>bW w H∧∃ g j l m b c n o d f,∃ k:Int,e=.returned (.tuple #[vV g j l m b c n o d f,vI k])∧dG H (qo r) (vD r) k (vV g j l m b c n o d f):=by
 have uZ:=lK;obtain ⟨y,L,J,X,Y⟩:=vk w 9 [.string s]
 have q:y.heap.size=w.heap.size+1+1:=by rw [← L.out];simp only [Qh]
 have G:=Qi y 31 (vI 0);have C:=J.alloc J.size (.cells #[vI 0] 31);have I:=X.alloc (.cells #[vI 0] 31);have z:=Y.alloc (.cells #[vI 0] 31)
 have F:Calls prog 132 #[vP w.heap.size,vP (w.heap.size+1)] (y.alloc (.cells #[vI 0] 31)) fun e W=>∃ k,(k=0∧e=.returned (.tuple #[])∨e=pK k)∧dF (fun i=>i=w.heap.size+1) (y.alloc (.cells #[vI 0] 31)) W∧∃ g j l m b c n o d f,af W (w.heap.size+1) 27 (lV g j l m b c n o d f)∧dG W (qo r) (vD r) k (vV g j l m b c n o d f):=by
  by_cases hK:qo r=0
  case neg =>
   refine (Db w.heap.size s r _ I z x hK).mono ?_;rintro e W ⟨t,rfl⟩;exact ⟨_,.inr rfl,(dF.refl _ _).aU t,0,0,false,none,0,0,⟨#[]⟩,none,0,0,z.below t,jX hK⟩
  case pos =>
   rw [hK]
   by_cases hf:(vD r).1.natAbs<aj^40
   ·refine (Bw w.heap.size s r _ I z x hK hf).mono ?_
    rintro e W ⟨rfl,hC,g,j,l,m,b,c,n,o,d,f,hr,hD⟩;refine ⟨0,.inl ⟨rfl,rfl⟩,hC,g,j,l,m,b,c,n,o,d,f,hr,lQ ?_⟩;unfold dP;rw [if_pos hf];exact ⟨rfl,hD⟩
   ·refine (zw w.heap.size s r _ I z x hK hf).mono ?_
    rintro e W ⟨t,rfl⟩;refine ⟨3,.inr rfl,(dF.refl _ _).aU t,0,0,false,none,0,0,⟨#[]⟩,none,0,0,z.below t,lQ ?_⟩;unfold dP;rw [if_neg hf];exact ⟨rfl,rfl⟩
 have R:=fT 132 #[vP w.heap.size,vP (w.heap.size+1)] y (fun k W=>dF (fun i=>i=w.heap.size+1) (y.alloc (.cells #[vI 0] 31)) W∧∃ g j l m b c n o d f,af W (w.heap.size+1) 27 (lV g j l m b c n o d f)∧dG W (qo r) (vD r) k (vV g j l m b c n o d f))
  (fun W=>by simp [go_sem])
  (fun k W h=>h.1.boxed G (by rw [q];omega))
  (by
   refine F.mono ?_;rintro e W ⟨k,h1,U⟩
   rcases h1 with ⟨rfl,rfl⟩ | rfl
   ·exact .inl ⟨rfl,U⟩
   ·exact .inr ⟨k,rfl,U⟩)
 obtain ⟨Q,u⟩:∃ Q:World→Int→Value→Prop,Q=fun W k v=>dG W (qo r) (vD r) k (v):=⟨_,rfl⟩
 have V:∀ W A k v,Q W k v→(∀ v xs,Reads .u32 W v xs→Reads .u32 A v xs)→Q A k v:=by
  rw [u]
  exact fun _ _ _ _ h hk=>h.keep hk
 replace R:=R.mono (R':=fun e A=>∃ k W,(dF (fun i=>i=w.heap.size+1) (y.alloc (.cells #[vI 0] 31)) W∧∃ g j l m b c n o d f,af W (w.heap.size+1) 27 (lV g j l m b c n o d f)∧Q W k (vV g j l m b c n o d f))∧e=.returned (vI k)∧A=W.setCell ⟨y.heap.size,0,none⟩ (vI k)) (fun e w9 h=>by rw [u];exact h)
 suffices main:Calls prog 57 #[.string s] w fun e H=>bW w H∧∃ g j l m b c n o d f,∃ k:Int,e=.returned (.tuple #[vV g j l m b c n o d f,vI k])∧Q H k (vV g j l m b c n o d f) by
  refine main.mono ?_;rintro e w9 ⟨M,g,j,l,m,b,c,n,o,d,f,k,he,hr⟩;rw [u] at hr;exact ⟨M,g,j,l,m,b,c,n,o,d,f,k,he,hr⟩
 have Z:=Qa (And.intro C (And.intro G q));clear F X Y I z J C G q u x;go_enter func57,ntmps57
 go_upto_region 1 with (fail)
 rw [L.out];clear L
 go_wp2_with (refine R.mono ?_;rintro e A ⟨k,W,⟨D,g,j,l,m,b,c,n,o,d,f,O,E⟩,rfl,rfl⟩;obtain ⟨C,G,q⟩:=Z.out;rw [q];have S:=O.other (a:=⟨w.heap.size+1+1,0,none⟩) (by simp) (vI k);obtain ⟨y0,y1,y2,y3,y4,y5,f0,f1,f2,f3,f4,f5⟩:=df S)
 have T:=(D.boxed G (by rw [q];omega)).cell;rw [q] at T;have ig:bW w W:=C.trans (D.below (B:=w.heap.size) (fun i hi=>by omega) C.size)
 have N:∀ v xs,Reads .u32 W v xs→Reads .u32 (W.setCell ⟨w.heap.size+1+1,0,none⟩ (vI k)) v xs:=fun v xs h=>h.setOther T (by simp) _
 have M:=((((((ig.setCell (p:=⟨w.heap.size+1+1,0,none⟩) (by simp;omega) (vI k)).setCell (p:=⟨w.heap.size+1,0,none⟩) (by simp) (vI g)).setCell (p:=⟨w.heap.size+1,1,none⟩) (by simp) (vI j)).setCell (p:=⟨w.heap.size+1,2,none⟩) (by simp) (.bool l)).setCell (p:=⟨w.heap.size+1,3,none⟩) (by simp) (.slice m b c)).setCell (p:=⟨w.heap.size+1,4,none⟩) (by simp) (.string n)).setCell (p:=⟨w.heap.size+1,5,none⟩) (by simp) (.slice o d f)
 have hO:=V _ _ _ _ (V _ _ _ _ E N) (bQ S (vI g) (vI j) (.bool l) (.slice m b c) (.string n) (.slice o d f));obtain ⟨u0,u1,u2,u3,u4,u5⟩:=dD S (vI g) (vI j) (.bool l) (.slice m b c) (.string n) (.slice o d f)
 exact bodyPost_ret (v:=.tuple #[vV g j l m b c n o d f,vI k]) (by simp [results,results57,go_sem,loadCellsFrom,u0,u1,u2,u3,u4,u5]) rfl ⟨M,g,j,l,m,b,c,n,o,d,f,k,rfl,hO⟩
theorem MG (b:Nat)(na:Bool)(c:Option Addr)(d:Nat)(a:List Nat)(w:World)(hr:af w b 24 (lN na c a.length d))(ha:Reads .u32 w (.slice c a.length d) a)(f:Limbs a)(j:au na a=true) :
 CB 81 #[.slice (some ⟨b,0,none⟩) 1 1] w fun e _=>e=.returned (.tuple #[]):=by
 obtain ⟨l,m⟩:=aQ hr;have k:=eX b 1 0 (by decide);simp only [QC,QI] at k;have g:=dJ w (.cells #[.bool na,.slice c a.length d] 24);go_enter func81,ntmps81
 go_wp2_with fail
 refine wp_loop_rounds 3 ?_;rw [rounds_succ]
 go_wp2_with (first | (go_at_call 75;refine (fF _ na a _ ⟨_,rfl,ha.below g,f⟩ j).mono ?_;rintro e w1 ⟨h,rfl⟩;have i:=g.trans (h.mono (by simp))) | (go_at_call 106;refine (aC _ _ _ (by rfl)).mono ?_;rintro e n ⟨rfl,rfl⟩))
 rw [rounds_succ]
 go_wp2_with fail
 go_end0
 exact ⟨i,rfl⟩
theorem oN (b:Nat)(na nb:Bool)(f g:Option Addr)(h i:Nat)(a c:List Nat)(w:World)(hr:af w b 24 [.bool na,.slice f a.length h,.bool nb,.slice g c.length i])(ha:Reads .u32 w (.slice f a.length h) a)(j:Limbs a)(p:au na a=true)(r:Reads .u32 w (.slice g c.length i) c)(k:Limbs c)(q:au nb c=true) :
 CB 81 #[.slice (some ⟨b,0,none⟩) 2 2] w fun e _=>e=.returned (.tuple #[]):=by
 obtain ⟨v,x⟩:=aQ hr;have s:=eX b 2 0 (by decide);simp only [QC,QI] at s;have t:=eX b 2 1 (by decide);simp only [JK,QD] at t;have l:=dJ w (.cells #[.bool na,.slice f a.length h] 24);go_enter func81,ntmps81
 go_wp2_with fail
 refine wp_loop_rounds 3 ?_;rw [rounds_succ]
 go_wp2_with (first | (go_at_call 75;refine (fF _ na a _ ⟨_,rfl,ha.below l,j⟩ p).mono ?_;rintro e w1 ⟨m,rfl⟩;have d:=l.trans (m.mono (by simp));have r1:=hr.below d;obtain ⟨c2,y⟩:=BD r1) | (go_at_call 106;refine (aC _ _ _ (by rfl)).mono ?_;rintro e u ⟨rfl,rfl⟩))
 rw [rounds_succ]
 go_wp2_with (first | (go_at_call 75;refine (fF _ nb c _ ⟨_,rfl,r.below (d.alloc d.size _),k⟩ q).mono ?_;rintro e z ⟨o,rfl⟩;have n:=(d.alloc d.size (.cells #[.bool nb,.slice g c.length i] 24)).trans (o.mono (by have:=d.size;simp;omega))) | (go_at_call 106;refine (aC _ _ _ (by rfl)).mono ?_;rintro e u ⟨rfl,rfl⟩))
 rw [rounds_succ]
 go_wp2_with fail
 go_end0
 exact ⟨n,rfl⟩
theorem zx (b:Nat)(na nb:Bool)(f g:Option Addr)(h i:Nat)(a c:List Nat)(w:World)(hr:af w b 24 [.bool na,.slice f a.length h,.bool nb,.slice g c.length i])(ha:Reads .u32 w (.slice f a.length h) a)(j:Limbs a)(p:au na a=true)(r:Reads .u32 w (.slice g c.length i) c)(k:Limbs c)(q:au nb c=false) :
 CB 81 #[.slice (some ⟨b,0,none⟩) 2 2] w fun e _=>e=pK 2:=by
 obtain ⟨v,x⟩:=aQ hr;have s:=eX b 2 0 (by decide);simp only [QC,QI] at s;have t:=eX b 2 1 (by decide);simp only [JK,QD] at t;have l:=dJ w (.cells #[.bool na,.slice f a.length h] 24);go_enter func81,ntmps81
 go_wp2_with fail
 refine wp_loop_rounds 3 ?_;rw [rounds_succ]
 go_wp2_with (first | (go_at_call 75;refine (fF _ na a _ ⟨_,rfl,ha.below l,j⟩ p).mono ?_;rintro e w1 ⟨m,rfl⟩;have d:=l.trans (m.mono (by simp));have r1:=hr.below d;obtain ⟨c2,y⟩:=BD r1) | (go_at_call 106;refine (aC _ _ _ (by rfl)).mono ?_;rintro e u ⟨rfl,rfl⟩))
 rw [rounds_succ]
 go_wp2_with (first | (go_at_call 75;refine (mM _ nb c _ ⟨_,rfl,r.below (d.alloc d.size _),k⟩ q).mono ?_;rintro e z ⟨o,rfl⟩;have n:=(d.alloc d.size (.cells #[.bool nb,.slice g c.length i] 24)).trans (o.mono (by have:=d.size;simp;omega))) | (go_at_call 106;refine (bD _ _ _ (by rfl)).mono ?_;rintro e u ⟨rfl,rfl⟩))
 exact ⟨rfl,n,rfl⟩
theorem Dc (b:Nat)(na nb:Bool)(c i:Option Addr)(d k:Nat)(a o:List Nat)(w:World)(hr:af w b 24 [.bool na,.slice c a.length d,.bool nb,.slice i o.length k])(ha:Reads .u32 w (.slice c a.length d) a)(f:Limbs a)(l:au na a=false) :
 CB 81 #[.slice (some ⟨b,0,none⟩) 2 2] w fun e _=>e=pK 2:=by
 obtain ⟨p,q⟩:=aQ hr;have m:=eX b 2 0 (by decide);simp only [QC,QI] at m;have n:=eX b 2 1 (by decide);simp only [JK,QD] at n;have g:=dJ w (.cells #[.bool na,.slice c a.length d] 24);go_enter func81,ntmps81
 go_wp2_with fail
 refine wp_loop_rounds 3 ?_;rw [rounds_succ]
 go_wp2_with (first | (go_at_call 75;refine (mM _ na a _ ⟨_,rfl,ha.below g,f⟩ l).mono ?_;rintro e w1 ⟨h,rfl⟩;have j:=g.trans (h.mono (by simp))) | (go_at_call 106;refine (bD _ _ _ (by rfl)).mono ?_;rintro e r ⟨rfl,rfl⟩))
 exact ⟨rfl,j,rfl⟩
end Go.Proofs.YtagjhmodblifbaaGreatDoor
