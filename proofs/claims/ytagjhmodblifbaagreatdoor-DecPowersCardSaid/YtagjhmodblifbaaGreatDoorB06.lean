/- proved lemmas -/
import Derived.Test.YtagjhmodblifbaaGreatDoorMA
import Derived.Test.YtagjhmodblifbaaGreatDoorB00
import Derived.Test.YtagjhmodblifbaaGreatDoorB05
import Derived.Test.YtagjhmodblifbaaGreatDoorB03
import Derived.Laws.CopyOwn
import Derived.Test.YtagjhmodblifbaaGreatDoorB01
import Derived.Test.YtagjhmodblifbaaGreatDoorB02
import Derived.Test.YtagjhmodblifbaaGreatDoorB04
set_option maxHeartbeats 4000000
set_option maxRecDepth 100000
namespace Go.Proofs.YtagjhmodblifbaaGreatDoor
open Go.Proofs.Tryz
open Go Go.RowKit Go.Shelf
structure ML (W0:World) (BL BQ:Nat) (ys:List Nat) (A0 m d j:Nat) (L Q:List Nat) (W:World):Prop where
 rl:af W BL 128 (aF L)
 rq:af W BQ 128 (aF Q)
 ll:Limbs L
 lq:Limbs Q
 len:L.length=m+1
 qlen:Q.length=d
 sum:val L+val ys*(aj^j*val (Q.drop j))=A0
 lt:val L<val ys*aj^j
 sK:dF (fun k=>k=BL∨k=BQ) W0 W
theorem LC (v:Value)(xs:List Nat)(s:Nat)(w:World)(h:Reads .u32 w v xs)(i:Canon xs)(j:xs.length≤100000)(hs:s<32) :
 CB 252 #[v,vI s] w fun e d=>∃ c a,e=.returned c∧Reads .u32 d c a∧Canon a∧val a=val xs / 2^s:=by
 by_cases k:xs.length=0
 ·have:xs=[]:=JP k
  subst this;refine (qy v [] s w h (by omega) (by simp)).mono ?_;rintro e d ⟨b,rfl⟩;exact ⟨b,_,[],rfl,Reads.nil _ _,iU,by simp [val]⟩
 ·refine (qz v xs s w h i.1 j (by omega) (by omega)).mono ?_
  rintro e d ⟨b,c,a,rfl,h1,f,g⟩;refine ⟨b,_,_,rfl,h1,f,?_⟩;rw [g,QR hs,Jo hs];rfl
theorem AZ (a:List Nat)(n:Nat):splice (zeros n).toList 0 (aF a)=aF (a++List.replicate (n - a.length) 0):=by
 simp [splice,zeros,aF,List.drop_replicate]
theorem MV {f W:World}{b c a m d o k:Nat}{ys L Q:List Nat}(h:ML f b c ys a m d (o+1) L Q W)(l:Limbs ys)(g:ys.length=k+2)(j:2147483648≤ys[k+1]?.getD 0)(i:o+k+3≤m+1):uu L ys o k :=
 ⟨h.ll,l,by rw [h.len];exact i,g,j,h.lt⟩
theorem Gl (b m o l:Nat)(h:o+l+1≤m)(W:World):(Instr.slice 22 (.slice (some ⟨b,0,none⟩) m m) (some (vI o)) (some (vI ((o:Int)+(l:Int)+1))) none).run prog W=.ok (.slice (some ⟨b,o,none⟩) (l+1) (m - o)) W:=by
 have a:((o:Int)+(l:Int)+1).toNat=o+l+1:=by omega
 have c:o+l+1 - o=l+1:=by omega
 go_simp
 rw [if_pos ⟨by omega,by omega⟩,if_pos (by omega),if_neg (by omega)]
def Dm (W0:World)(BL BQ:Nat)(ys:List Nat)(A0 m d:Nat)(v:Value)(W:World):Prop:=∃ (j:Nat) (i:Int) (L Q:List Nat),v=vI i∧i+1=j∧j≤d∧ML W0 BL BQ ys A0 m d j L Q W
theorem zK {W c:World}{b B:Nat}{t:TypeId}{d:List Value}(h:af W b t d)(f:Below B W c)(a:b<B):af c b t d:=(f.block b a).trans h
theorem pO {S:Nat→Prop}{A W:World}{v:Value}{xs:List Nat}{B:Nat}(h:dF S A W)(hr:Reads .u32 A v xs)(d:∀ a n c,v=.slice (some a) n c→xs≠[]→a.block<B)(hs:∀ k,S k→B≤k):Reads .u32 W v xs :=
 h.reads hr (fun a n c e f b=>by have h1:=d a n c e f;have g:=hs _ b;omega)
theorem Gm {W:World}{a:Option Addr}{n c:Nat}{xs:List Nat}(h:Reads .u32 W (.slice a n c) xs)(k:0<(aF xs).length):∃ ad,a=some ad∧∀ j v,(aF xs)[j]?=some v→W.cell? (ad.add j)=some v:=by
 obtain ⟨m,f,l,-,-,g⟩:=h;cases l;rw [iG] at k;obtain ⟨⟨b,off,rfl⟩,-⟩:=g 0 k;refine ⟨_,rfl,fun j v d=>?_⟩
 have i:j<xs.length:=by
  have:=(ZH.1 d).1
  rwa [iG] at this
 rw [jw i] at d;cases d;rw [JO];exact (g j i).2
theorem Bd:(prog.info? 128).map (·.size)=some 1:=by
 have:=fV
 cases h:prog.info? 128 with
 | none=>rw [h] at this;cases this
 | some i =>
  rw [h] at this;simp at this ⊢;exact this.2.1
theorem Cr (va vb:Value)(l n:List Nat)(k:Nat)(w:World)(ha:Reads .u32 w va l)(hb:Reads .u32 w vb n)(V:Canon l)(t:Canon n)(la:l.length≤90000)(c:n.length=k+2)(bf:val n≤val l) :
  Calls prog 245 #[va,vb] w fun e w'=>qI w w' l n e:=by
 have b9:(0:Int)≤dS (val l:Int) (val n:Int):=by unfold dS;(repeat' split) <;> omega
 have cx:n.length≤l.length:=bE V t bf;have N:0<val n:=(dn t).2 (by omega)
 obtain ⟨x,hx⟩:∃ x,n[k+1]?.getD 0=x:=⟨_,rfl⟩
 have a6:=aK t.1 (k+1)
 have bq:x≠0:=by
  have:=iK t (by rintro rfl;simp at c)
  rwa [c,show k+2 - 1=k+1 by omega,hx] at this
 rw [hx] at a6;obtain ⟨bz,c0,-,-⟩:=mF bq a6
 obtain ⟨s,hs⟩:∃ s,s+Lib.bitLen x=32:=⟨32 - Lib.bitLen x,by omega⟩
 have bp:s<32:=by omega
 have g:=fun ys hy Y=>IM (ys:=ys) (s:=s) t c hy (by rw [hx];exact hs) Y
 obtain ⟨aa,ca,rfl,fA,gy⟩:=ha.form;obtain ⟨ab,cb,rfl,cu,cf⟩:=hb.form;unfold maxLen at gy cf
 have E:=fun W (hW:bW w W)=>(hb.below hW).cell (k+1) (by omega)
 rw [hx] at E
 have bd:=fun W=>hb.index aG bZ (P:=prog) (k+1) .i64 W (by omega)
 rw [show ((k+1:Nat):Int)=(n.length:Int) - 1 by omega] at bd
 have bg:∀ W,Calls prog 261 #[.int .u32 (x:Int)] W fun e w'=>e=.returned (vI s)∧w'=W:=fun W=>by
  refine (bits_LeadingZeros32 (x:Int) W (by omega) (by unfold aj at a6;omega)).mono ?_;rintro e w' ⟨rfl,rfl⟩;refine ⟨?_,rfl⟩;rw [QP,show (32:Int) - (Lib.bitLen x:Int)=(s:Int) by omega]
 have bu:=fun W (hW:bW w W)=>oL _ n s W (hb.below hW) t.1 (by omega) (by omega)
 have bv:=fun W (hW:bW w W)=>oL _ l s W (ha.below hW) V.1 (by omega) (by omega)
 obtain ⟨m,hm⟩:∃ m,l.length=m:=⟨_,rfl⟩
 obtain ⟨d,hd⟩:∃ d,m+1=d+n.length:=⟨m+1 - n.length,by omega⟩
 have bh:∀ W,(Instr.makeSlice 22 (vI ((l.length:Int)+1)) (vI ((l.length:Int)+1))).run prog W=.ok (.slice (some ⟨W.heap.size,0,none⟩) (m+1) (m+1)) (W.alloc (.cells (zeros (m+1)) 128)):=fun W=>by
  rw [fw _ _ (by omega) (by omega) (by omega) W,show ((l.length:Int)+1).toNat=m+1 by omega]
 have bi:∀ W,(Instr.makeSlice 22 (vI d) (vI d)).run prog W=.ok (.slice (some ⟨W.heap.size,0,none⟩) d d) (W.alloc (.cells (zeros d) 128)):=fun W=>by
  simpa using fw (d:Int) (d:Int) (by omega) (by omega) (by omega) W
 have c6:(l.length:Int) - (n.length:Int)=(d:Int) - 1:=by omega
 have HZ:∀ C,Canon C→val C=val l*2^s→C.length≤m+1:=fun C hc Y=>aA hc (by
  rw [Y,Qo,← hm]
  exact Nat.mul_lt_mul_of_lt_of_le (fu V.1) (Ql (by omega) (show s≤32 by omega)) (by decide))
 have HC:∃ cv,Hid (dS (val l:Int) (val n:Int)=cv)∧0≤cv:=⟨_,Qa rfl,b9⟩
 obtain ⟨cv,HC,co⟩:=HC;have HF:=Qa (And.intro g (And.intro N (And.intro c (And.intro hm hd))))
 have bj:¬(n.length:Int)=1:=by omega
 clear b9 g N hx bz c0 hs a6 bq bf hm hd c;go_enter func245,ntmps245
 go_wp2_with (first
  | (go_at_call 150;refine (gI _ _ l n _ ha hb V t (by omega)).mono ?_;rintro e w1 ⟨aM,rfl⟩;rw [HC.out];have ct:=E _ aM)
  | (go_at_call 261;refine (bg _).mono ?_;rintro e w2 ⟨rfl,rfl⟩)
  | (go_at_call 251;refine (bu _ aM).mono ?_;clear bu;rintro e b ⟨eF,v3,ys,rfl,h3,c3,e3⟩;obtain ⟨a3,p3,rfl,d1,cy⟩:=h3.form;have b3:=aM.trans (eF.mono aM.size);have b4:=b3.alloc b3.size (.cells (zeros (m+1)) 128))
  | (go_at_call 251;refine (bv _ b4).mono ?_;clear bv;rintro e w5 ⟨jS,v5,C,rfl,h5,c5,e5⟩;obtain ⟨a5,p5,rfl,d2,cz⟩:=h5.form;have cm:=HZ C c5 e5;have ba:w5.heap[b.heap.size]?=some (.cells (zeros (m+1)).toList.toArray 128 (0,0)):=(jS.block b.heap.size (by simp)).trans (by simpa using ZF b (.cells (zeros (m+1)) 128));have bb:=Qa ba;clear ba;have bk:=Qa (show (aF C).length=Nat.min C.length (m+1) by rw [iG];exact (JS cm).symm);have bl:=Qa (show 0<(aF C).length→∃ ad,a5=some ad∧∀ j v,(aF C)[j]?=some v→w5.cell? (ad.add j)=some v from fun hp=>Gm h5 hp);have bm:=Qa (show 0+(aF C).length≤(zeros (m+1)).toList.length by rw [iG];simp [zeros];omega);have bn:=Qa (show ∀ v ∈ aF C,v.oneCell'=true from fun v Y=>by obtain ⟨z,_,rfl⟩:=Qw.1 Y;rfl))
  | ((with_reducible refine wpList_copy_splice rfl (.tmp 51) (.tmp 54) 22 22 rfl 128 aG Bd _ _ _ _ _ _ rfl rfl b.heap.size 0 (zeros (m+1)).toList 128 bb.out (aF C) bk.out (fun hp=>⟨rfl,bl.out hp⟩) bm.out bn.out b.heap.size w5 (Qj _ _) (Qb _) ?_);intro f bc ai))
 obtain ⟨g,N,c,hm,hd⟩:=HF.out;obtain ⟨I,br⟩:=g ys c3 e3;have b5:=b4.trans (jS.mono b4.size);have b6:bW w f:=b5.trans (ai.mono b3.size)
 have ce:b.heap.size<w5.heap.size:=by have:=jS.size;simp at this;omega
 have cq:b.heap.size<f.heap.size:=by have:=ai.size;omega
 have bx:bW b f:=((dJ b (.cells (zeros (m+1)) 128)).trans (jS.mono (by simp))).trans ai
 have r6:af f b.heap.size 128 (aF (C++List.replicate (m+1 - C.length) 0)):=by rw [← AZ];exact bc.out
 have cl:=(h3.below bx).below (dJ f (.cells (zeros d) 128));have M:=h3.lt
 have J:ML (f.alloc (.cells (zeros d) 128)) b.heap.size f.heap.size ys (val l*2^s) m d d (C++List.replicate (m+1 - C.length) 0) (List.replicate d 0) (f.alloc (.cells (zeros d) 128)):={
  rl:=r6.alloc _
  rq:=by
   have:=af.new f 128 (aF (List.replicate d 0))
   have e:(aF (List.replicate d 0)).toArray=zeros d:=by simp [aF,zeros]
   rwa [e] at this
  ll:=by
   intro x hx
   rcases ZB.1 hx with h | h
   ·exact c5.1 x h
   ·rw [YP h];exact aP
  lq:=jB d
  len:=by simp;omega
  qlen:=by simp
  sum:=by rw [val_append,ko,List.drop_replicate,Yn,e5];simp [val]
  lt:=by
   rw [val_append,ko,Jw,Jk];exact Gj V.1 t (by rintro rfl;simp at c) (by omega) e5 e3
  sK:=dF.refl _ _ }
 have y:Dm (f.alloc (.cells (zeros d) 128)) b.heap.size f.heap.size ys (val l*2^s) m d (vI ((d:Int) - 1)) (f.alloc (.cells (zeros d) 128)):=⟨d,_,_,_,rfl,by omega,Qb _,J⟩
 have HS:=Qa y;have b7:=b6.alloc b6.size (.cells (zeros d) 128)
 have a4:(f.alloc (.cells (zeros d) 128)).heap.size=f.heap.size+1:=by simp
 have D:=Qa (And.intro I (And.intro e3 (And.intro c (And.intro hm (And.intro hd a4)))));clear g I e3 e5 c hm hd a4 J y bh bi bk bl bm bn bb bc HF r6 h5 c6 bd E bg bj;generalize b2:f.alloc (.cells (zeros d) 128)=W0 at *;have cr:=Qa b2;clear b2
 go_loopw [11] (fun au wr=>Dm W0 b.heap.size f.heap.size ys (val l*2^s) m d au wr) (fun au _=>(intOf au+1).toNat)
 case atStart=>exact HS.out
 case round =>
  obtain ⟨j,i,L,Q,rfl,c8,cw,a⟩:=hrel
  rcases Jr j with hj | hj
  ·subst hj
   obtain rfl:i=-1:=by omega
   have a9:=LA (X:=val L) (A:=val l) (B:=val n) (s:=s) (Q:=val Q) (by
    have h1:=a.sum;rw [D.out.2.1,ZO,QD,QN] at h1
    exact h1) (by
    have h1:=a.lt;rw [D.out.2.1,ZO,QZ] at h1
    exact h1) N
   have HE:=Qa a9;have bs:Reads .u32 wr (.slice (some ⟨b.heap.size,0,none⟩) (m+1) (m+1)) L:=af.reads a.rl _ _ a.len.symm (Qb _) (by have:=D.out.2.2.2.1;unfold maxLen;omega);have bt:Reads .u32 wr (.slice (some ⟨f.heap.size,0,none⟩) d d) Q:=af.reads a.rq _ _ a.qlen.symm (Qb _) (by have:=D.out.2.2.2.2.1;have:=D.out.2.2.2.1;unfold maxLen;omega)
   have c9:(trimmed L).length≤100000:=by
    have h1:=jC L;have:=D.out.2.2.2.1;rw [a.len] at h1;omega
   have ay:bW w wr:=b7.trans (a.sK.below (B:=w.heap.size) (by rintro k (e | e) <;> (have:=b3.size;omega)) b7.size);have cc:=a.lq;have be:=a.ll;clear a9 N a
   go_wp2_with (first
    | (go_at_call 188;refine (jf _ Q _ bt).mono ?_;clear bt;rintro e w8 ⟨rfl,v8,rfl,h8⟩;have d3:=h8)
    | (go_at_call 188;refine (jf _ L _ bs).mono ?_;clear bs;rintro e w9 ⟨rfl,v9,rfl,h9⟩)
    | (go_at_call 252;refine (LC _ (trimmed L) s _ h9 (dL be) c9 bp).mono ?_;rintro e av ⟨O,bw,rs,rfl,c4,c1,c2⟩))
   exact bodyPost_ret (v:=.tuple #[v8,bw]) (by simp [results,results245,go_sem]) rfl
    ⟨ay.trans (O.mono ay.size),v8,bw,trimmed Q,rs,rfl,h8.below O,c4,dL cc,c1,by rw [dC];exact HE.out.1,by rw [c2,dC];exact HE.out.2⟩
  ·obtain ⟨o,rfl⟩:∃ o,j=o+1:=⟨j - 1,by omega⟩
   obtain rfl:i=(o:Int):=by omega
   obtain ⟨I,e3,c,hm,hd,a4⟩:=D.out;have F:uu L ys o k:=MV a c3.1 I br (by omega);have H:=F.round
   have am:=fun R hR=>uu.next (Q:=Q) (R:=R) F (by rw [a.qlen];omega) a.sum hR
   have bo:=F.NK;have a0:sN L ys o k<aj:=pM _ _;rw [show k+3=ys.length+1 by omega] at H;have cs:=b3.size;have aq:Reads .u32 wr (.slice a3 ys.length p3) ys:=pO a.sK cl M (by rintro k (e | e) <;> omega);have kg:=Gi _ ys L k (ys.length+1) o b.heap.size (m+1 - o) wr a.rl a.ll aq c3.1 I (by omega) (by rw [a.len];omega) (by omega) br F.le_top
   obtain ⟨G,hG⟩:∃ G,sN L ys o k=G:=⟨_,rfl⟩
   obtain ⟨q,hq⟩:∃ q,sO L ys o=q:=⟨_,rfl⟩
   rw [hG] at kg H a0;rw [hq] at H bo;simp only [hq] at am;have ck:b.heap.size<wr.heap.size:=a.rl.lt
   have Z:=fun W (hW:bW wr W)=>zg _ ys L G (ys.length+1) o b.heap.size (m+1 - o) W (zK a.rl hW ck) a.ll (aq.below hW) c3.1 (by rw [a.len];omega) (by omega) M a0
   have a1:=(iH (o:=o) a0 a.ll (ah ys (ys.length+1)) (F.pairs _)).1;have a2:=jN o G L (ah ys (ys.length+1))
   obtain ⟨st,ao⟩:∃ st,eO o G L (ah ys (ys.length+1))=st:=⟨_,rfl⟩
   rw [ao] at H a1 a2;simp only [ao] at Z
   have a7:=fun ax W (hW:bW wr ax) (hc:dF (fun k=>k=b.heap.size) ax W) (hr:af W b.heap.size 128 (aF st.1))=>rO (.slice a3 ys.length p3) ys st.1 (ys.length+1) 0 (ys.length+1) o b.heap.size (m+1 - o) W hr a1 (pO hc (aq.below hW) M (by rintro k rfl;omega)) c3.1 (by omega) (by rw [a2,a.len];omega) (by omega) M
   simp only [Jk,QC] at a7;have ak:=(lC (o:=o) a1 (ah ys (ys.length+1)) (F.pairs _)).1;have al:=jO o st.1 (ah ys (ys.length+1))
   obtain ⟨R2,ag⟩:∃ R2,(dY o st.1 (ah ys (ys.length+1))).1=R2:=⟨_,rfl⟩
   rw [ag] at H ak al;simp only [ag] at a7
   have d4:∀ W,(Instr.slice 22 (.slice (some ⟨b.heap.size,0,none⟩) (m+1) (m+1)) (some (vI o)) (some (vI ((o:Int)+(ys.length:Int)+1))) none).run prog W=.ok (.slice (some ⟨b.heap.size,o,none⟩) (ys.length+1) (m+1 - o)) W:=fun W=>Gl _ _ _ _ (by omega) W
   have cp:∀ W,(Instr.indexAt 22 (.slice (some ⟨f.heap.size,0,none⟩) d d) (vI o)).run prog W=.ok (.pointer (some ⟨f.heap.size,o,none⟩)) W:=fun W=>by
    simpa using jk f.heap.size 0 d d o (by omega) .i64 W
   have an:∀ W1 W,bW wr W1→dF (fun k=>k=b.heap.size) W1 W→af W f.heap.size 128 (aF Q):=fun W1 W h1 h2=>h2.row (zK a.rq h1 a.rq.lt) (by omega)
   have az:∀ W1 W R,bW wr W1→dF (fun k=>k=b.heap.size) W1 W→af W b.heap.size 128 (aF R)→Limbs R→R.length=L.length→val R+aj^o*(q*val ys)=val L →
     Dm W0 b.heap.size f.heap.size ys (val l*2^s) m d (vI ((o:Int) - 1)) (W.setCell ⟨f.heap.size,o,none⟩ (.int .u32 (q:Int))):=fun W1 W R h1 h2 hr cd cg cj=>by
    refine ⟨o,(o:Int) - 1,R,Q.set o q,rfl,by omega,by omega,?_⟩;obtain ⟨n1,n2⟩:=am R cj
    exact {
     rl:=af.other hr (show b.heap.size≠f.heap.size by omega) _
     rq:=by rw [lM];exact af.set (an W1 W h1 h2) o _
     ll:=cd
     lq:=kr a.lq o bo
     len:=cg.trans a.len
     qlen:=by simpa using a.qlen
     sum:=n1
     lt:=n2
     sK:=(((a.sK.aU h1).trans (h2.mono fun k e=>.inl e)).setCell (p:=⟨f.heap.size,o,none⟩) (.inl (.inr rfl)) _) }
   have HR:=Qa H;have aw:=Qa (And.intro (al.trans a2) ak);have HQ:=Qa (And.intro hm (And.intro hd (And.intro I c)))
   have ch:o<d:=by omega
   have d0:o≤100000:=by omega
   have d6:ys.length≤100002:=by omega
   have ci:∃ z:Value,(aF Q)[o]?=some z:=⟨_,jw (by rw [a.qlen];exact ch)⟩
   obtain ⟨z,hz⟩:=ci;clear H am ao hG hq ag hm hd I c F e3 a4 ak al c8
   by_cases S:st.2.2=0
   ·obtain ⟨ae,Y⟩:=HR.out.1 S
    subst ae
    have r:decide (0<st.2.2)=false:=by rw [S];rfl
    rw [r] at Z;have ap:=Qa Y;clear Y r S a7
    go_wp2_with (first
     | (go_at_call 262;refine kg.mono ?_;rintro e w8 ⟨qj,rfl⟩;have ar:=Z w8 qj)
     | (go_at_call 263;refine ar.mono ?_;rintro e w9 ⟨T,r9,rfl⟩;have u:=an w8 w9 qj T;have hc:=u.cell o;rw [hz] at hc;have c7:=u.frozen o;have U:=az w8 w9 st.1 qj T r9 a1 a2 ap.out))
    refine ⟨U,?_⟩;simp [intOf]
   ·obtain ⟨ae,Y⟩:=HR.out.2 S
    have r:decide (0<st.2.2)=true:=by simp;omega
    rw [r] at Z
    have d5:IntKind.u32.wrap ((G:Int) - 1)=(q:Int):=by
     rw [Jj];unfold aj at a0;omega
    have ap:=Qa Y;have b0:=aw.out.2;have b1:=aw.out.1;clear Y r S ae
    go_wp2_with (first
     | (go_at_call 262;refine kg.mono ?_;rintro e w8 ⟨qj,rfl⟩;have ar:=Z w8 qj)
     | (go_at_call 263;refine ar.mono ?_;rintro e w9 ⟨T,r9,rfl⟩;have cn:=a7 w8 w9 qj T r9)
     | (go_at_call 249;with_reducible refine cn.mono ?_;rintro e av ⟨b8,r10,vv,rfl⟩;have a8:=T.trans b8;have u:=an w8 av qj a8;have hc:=u.cell o;rw [hz] at hc;have c7:=u.frozen o;have U:=az w8 av R2 qj a8 r10 b0 b1 ap.out))
    refine ⟨U,?_⟩;simp [intOf]
theorem DZ (g h:Value)(c i:List Nat)(w:World)(ha:Reads .u32 w g c)(f:Reads .u32 w h i)(b:Canon c)(a:Canon i)(la:c.length≤90000)(j:i≠[]) :
  Calls prog 245 #[g,h] w fun e l=>qI w l c i e:=by
 match i,f,a,j with
 | [d],f,a,_=>exact AJ g h c d w ha f b a (by omega)
 | x::y::zs,f,a,_ =>
  rcases QK (val c) (val (x::y::zs)) with hlt | hge
  ·refine (zD g h c _ w ha f b a (by omega) hlt).mono ?_
   rintro e l ⟨k,r,rfl,h1⟩;exact ⟨k,_,r,[],c,rfl,Reads.nil _ _,h1,iU,b,by rw [QR hlt];rfl,by rw [Jo hlt]⟩
  ·exact Cr g h c _ zs.length w ha f b a la (by simp) hge
theorem zL (m:Nat)(h:m<18446744073709551616):val [m % 4294967296,m / 4294967296]=m∧Limbs [m % 4294967296,m / 4294967296]:=by
 constructor
 ·simp only [val,aj];omega
 ·intro x a;simp at a;unfold aj;rcases a with rfl | rfl <;> omega
theorem BJ (m:Nat)(h:m<18446744073709551616)(w:World):Calls prog 188 #[.slice (some ⟨w.heap.size,0,none⟩) 2 2] (w.alloc (.cells #[.int .u32 ((m:Int) % 4294967296),.int .u32 ((m:Int) / 4294967296)] 128)) fun e b=>Below w.heap.size w b∧∃ v a,e=.returned v∧Reads .u32 b v a∧Canon a∧val a=m:=by
 obtain ⟨g,f⟩:=zL m h;have r:=af.reads (xs:=[m % 4294967296,m / 4294967296]) (af.new w 128 [.int .u32 ((m % 4294967296:Nat):Int),.int .u32 ((m / 4294967296:Nat):Int)]) 2 2 rfl (by simp) (by simp [maxLen])
 have c:((m % 4294967296:Nat):Int)=(m:Int) % 4294967296:=by omega
 have d:((m / 4294967296:Nat):Int)=(m:Int) / 4294967296:=by omega
 rw [c,d] at r;refine (jf _ _ _ r).mono ?_;rintro e b ⟨rfl,v,rfl,h1⟩;exact ⟨dJ _ _,v,_,rfl,h1,dL f,by rw [dC,g]⟩
theorem Gn (n:Nat)(w:World)(z:n<9223372036854775808) :
 CB 143 #[vI n] w fun e x=>∃ v,e=.returned v∧ak x v n:=by
 have h:=BJ n (by omega) (w.alloc (.cells #[vF,vZ] 24));have r0:=af.new w 24 (lN false none 0 0);have o:=dJ w (.cells #[vF,vZ] 24);simp only [Qh] at h;go_enter func143,ntmps143
 go_wp2_with (first | (go_at_call 188;refine h.mono ?_;rintro e y ⟨i,v,a,rfl,h1,q,r⟩;clear h;obtain ⟨a2,c2,rfl,s,u⟩:=h1.form;have m:=o.trans (i.mono (by omega));have r2:af y w.heap.size 24 (lN false none 0 0):=(i.block _ (by omega)).trans r0) | (go_at_call 184;refine (dK _ _ _ _ _).mono ?_;rintro e C ⟨d,rfl⟩;have r3:=r2.below d;have f:=r3.cell 0;have g:=r3.cell 1;have A:=r3.frozen 0;have B:=r3.frozen 1;simp only [Qc,Qe] at f g))
 obtain ⟨k,l⟩:=bA (b:=w.heap.size) f g (.bool (false&&decide (0<a.length))) (.slice a2 a.length c2);have j:=bf (b:=w.heap.size) (h1.below d) f g (.bool (false&&decide (0<a.length))) (.slice a2 a.length c2)
 have c:=((m.trans (d.mono m.size)).setCell (p:=⟨w.heap.size,0,none⟩) (Qb _) (.bool (false&&decide (0<a.length)))).setCell (p:=⟨w.heap.size,1,none⟩) (Qb _) (.slice a2 a.length c2);simp only [ZP] at k l j c
 have t:decide ((n:Int)<0)=false:=by simp
 simp only [t,ZP];exact bodyPost_ret (v:=vN (false&&decide (0<a.length)) a2 a.length c2) (by simp [results,results143,go_sem,loadCellsFrom,k,l]) rfl ⟨c,_,rfl,dm false j q (by rw [r];rfl)⟩
theorem MW (n:Nat)(w:World)(h0:0<n)(y:n≤9223372036854775808) :
 CB 143 #[vI (-(n:Int))] w fun e u=>∃ v,e=.returned v∧ak u v (-(n:Int)):=by
 have h:=BJ n (by omega) (w.alloc (.cells #[vF,vZ] 24));have r0:=af.new w 24 (lN false none 0 0);have o:=dJ w (.cells #[vF,vZ] 24);simp only [Qh] at h
 have A:IntKind.u64.wrap (-IntKind.u64.wrap (-(n:Int)))=n:=by simp only [Qk];omega
 have z:(n:Int) / 4294967296 % 4294967296=(n:Int) / 4294967296:=by omega
 go_enter func143,ntmps143
 go_wp2_with (first | (go_at_call 188;refine h.mono ?_;rintro e x ⟨i,v,a,rfl,h1,q,r⟩;clear h;obtain ⟨a2,c2,rfl,s,t⟩:=h1.form;have m:=o.trans (i.mono (by omega));have r2:af x w.heap.size 24 (lN false none 0 0):=(i.block _ (by omega)).trans r0) | (go_at_call 184;refine (dK _ _ _ _ _).mono ?_;rintro e D ⟨d,rfl⟩;have r3:=r2.below d;have f:=r3.cell 0;have g:=r3.cell 1;have B:=r3.frozen 0;have C:=r3.frozen 1;simp only [Qc,Qe] at f g))
 obtain ⟨k,l⟩:=bA (b:=w.heap.size) f g (.bool (true&&decide (0<a.length))) (.slice a2 a.length c2);have j:=bf (b:=w.heap.size) (h1.below d) f g (.bool (true&&decide (0<a.length))) (.slice a2 a.length c2)
 have c:=((m.trans (d.mono m.size)).setCell (p:=⟨w.heap.size,0,none⟩) (Qb _) (.bool (true&&decide (0<a.length)))).setCell (p:=⟨w.heap.size,1,none⟩) (Qb _) (.slice a2 a.length c2);simp only [Jn] at k l j c;exact bodyPost_ret (v:=vN (true&&decide (0<a.length)) a2 a.length c2) (by simp [results,results143,go_sem,loadCellsFrom,k,l]) rfl ⟨c,_,rfl,dm true j q (by rw [r];rfl)⟩
theorem jg (neg:Bool)(v:Value)(xs:List Nat)(w:World)(h:Reads .u32 w v xs)(hl:Limbs xs)(hn:xs.length≤1000000) :
 CB 136 #[.bool neg,v] w fun e w'=>∃ v',e=.returned v'∧ak w' v' (bX neg (val xs)):=by
 obtain ⟨a,c,rfl,hc,hm⟩:=h.form;unfold maxLen at hm;obtain ⟨Y,hi,X⟩:=Js.1 fV;simp only [Prod.mk.injEq] at X;obtain ⟨T,U,V⟩:=X;have M:=Qa (And.intro T (And.intro U V));clear T U V;have H:=dJ w (.cells #[vF,vZ] 24);have r0:=af.new w 24 (lN false none 0 0);have h0:=h.below H
 obtain ⟨m,F⟩:∃ m,w.alloc (.cells #[vF,vZ] 24)=m:=⟨_,rfl⟩
 have Q:m.heap.size=w.heap.size+1:=by rw [← F];simp
 rw [F] at H r0 h0;have HW:=Qa (And.intro F Q)
 have aa:∀ (x:Addr) (W:World),(storeCells x []).run prog W=.ok () W:=fun x W=>by simp [storeCells]
 have a4:∀ (x:Addr) (W:World),(loadCellsFrom x 0 0 #[]).run prog W=.ok #[] W:=fun x W=>by simp [loadCellsFrom]
 clear F Q;go_enter func136,ntmps136;go_wp2;rw [HW.out.1]
 go_loop [5] (fun i=>∃ k:Nat,i=vI k∧k≤xs.length∧trimmed (xs.take k)=trimmed xs) (fun i=>(intOf i).toNat)
 case atStart=>exact ⟨xs.length,rfl,Qb _,by simp⟩
 case round =>
  obtain ⟨k,rfl,hk,q⟩:=hrel
  by_cases a2:k=0
  ·subst a2
   have ht:trimmed xs=[]:=by rw [← q];rfl
   have R:=HW.out.2;have HT:=Qa (And.intro ht R);have o:=r0.alloc (.cells #[] 128);have B:=o.cell 0;have C:=o.cell 1;have o3:=o.frozen 0;have o4:=o.frozen 1;simp only [Qc,Qe] at B C
   have a9:(neg&&decide ((0:Int)<0))=false:=by simp
   clear ht R q;cases a
   all_goals cases neg
   all_goals go_wp2
   all_goals
    obtain ⟨Z,s2⟩:=bA (b:=w.heap.size) B C vF (.slice (some ⟨m.heap.size,0,none⟩) 0 0);refine bodyPost_ret (v:=vN false (some ⟨m.heap.size,0,none⟩) 0 0) (by simp [results,results136,go_sem,loadCellsFrom,Z,s2]) rfl ⟨?_,_,rfl,⟨false,_,[],rfl,⟨_,0,rfl,by simp,by simp [maxLen],fun j hj=>by simp at hj⟩,iU,rfl,?_⟩⟩
    ·exact ((H.alloc (by have:=HW.out.2;omega) _).setCell (Qb _) _).setCell (Qb _) _
    ·rw [← dC,HT.out.1];first | done | rfl
  ·have HA:=Qa h0
   have I:=h0.cell (k - 1) (by omega)
   have a1:=fun W=>h0.index aG bZ (P:=prog) (k - 1) .i64 W (by omega)
   rw [show ((k - 1:Nat):Int)=(k:Int) - 1 by omega] at a1
   obtain ⟨r,hT⟩:∃ r,xs[k - 1]?.getD 0=r:=⟨_,rfl⟩
   rw [hT] at I
   have a7:((0:Int)<(k:Int)):=by omega
   have f:trimmed (xs.take k)=if r=0 then trimmed (xs.take (k - 1)) else xs.take k:=by
    have e:=iW xs (k - 1) (by omega);rw [show k - 1+1=k by omega,hT] at e;rw [e]
    by_cases p:r=0
    ·subst p;rw [if_pos rfl,fZ]
    ·rw [if_neg p,jd _ _ p]
   by_cases p:r=0
   ·subst p
    rw [if_pos rfl] at f;have D:=Qa (And.intro q f);clear q f hT;go_wp2;exact ⟨⟨k - 1,by congr 1;omega,by omega,by rw [← D.out.2];exact D.out.1⟩,by simp [intOf];omega⟩
   ·rw [if_neg p] at f
    have a8:(((r:Nat):Int) == 0)=false:=by simp;omega
    have D:=Qa (And.intro q f);clear q f hT
    obtain ⟨b,off,rfl⟩:∃ b off,a=some ⟨b,off,none⟩:=by
     obtain ⟨a',a5,he,_,_,hr⟩:=h0;cases he;exact (hr 0 (by omega)).1
    have S:m.heap.size=w.heap.size+1:=HW.out.2
    have hlen:(xs.take k).length=k:=by simp;omega
    have y:∀ j u,(aF (xs.take k))[j]?=some u→(m.alloc (.cells #[] 128)).cell? ((⟨b,off,none⟩:Addr).add j)=some u:=by
     intro j u N
     have hj:j<k:=by
      have:=(ZH.1 N).1;rw [iG,hlen] at this;exact this
     have h1:=(h0.below (dJ m (.cells #[] 128))).cell j (by omega);rw [iY] at h1;rw [JO,h1];simp only [aF,JX,ZT,hj,if_true] at N;simp [Qs (show j<xs.length by omega)] at N ⊢;exact N
    have O:(aF (xs.take k)).length=k*1:=by rw [iG,hlen];omega
    have G:∀ u ∈ aF (xs.take k),u.oneCell'=true:=fun u N=>by
     obtain ⟨x,_,rfl⟩:=Qw.1 N;rfl
    have z:=YT (e:=128) (size:=1) (base:=m.heap.size) m #[] 0 (Qb _) (by simp [maxLen]) rfl;have L:=Qa (And.intro y (And.intro O G));have HS:=Qa (And.intro S (And.intro hlen z))
    have a6:decide ((0:Int)<(k:Int))=true:=by simp;omega
    clear y O G hlen z S;cases neg
    ·go_wp2_with (at_builtin;go_loud (refine wpList_append_own _ rfl _ _ 22 rfl m.heap.size 128 Y (.int .u32 0) 1 4 aG hi M.out.1 M.out.2.1 M.out.2.2 rfl (by decide) _ _ _ rfl HS.out.2.2 ⟨b,off,none⟩ k c (aF (xs.take k)) rfl L.out.2.1 L.out.1 L.out.2.2 (by unfold maxLen;omega) (by omega) (by simp) ?_);intro v' w1 d n _;obtain ⟨g,E,rfl,a0,a3⟩:=je d (by omega);have s:bW m w1:=(dJ m _).grown n (by simp) (fun k e=>by cases e;exact Qb _);have o:=r0.below s;have B:=o.cell 0;have C:=o.cell 1;have o3:=o.frozen 0;have o4:=o.frozen 1;simp only [Qc,Qe] at B C)
     obtain ⟨Z,s2⟩:=bA (b:=w.heap.size) B C vF (.slice (some ⟨g,0,none⟩) k E);have l:Reads .u32 w1 (.slice (some ⟨g,0,none⟩) (0+k) E) (xs.take k):=Reads.ou (by simpa [aF] using d);rw [QJ] at l;have J:=bf (b:=w.heap.size) l B C vF (.slice (some ⟨g,0,none⟩) k E)
     have t:Canon (xs.take k):=⟨iL hl k,D.out.2⟩
     have A:val (xs.take k)=val xs:=by rw [← D.out.2,D.out.1,dC]
     refine bodyPost_ret (v:=vN false (some ⟨g,0,none⟩) k E) (by simp [results,results136,go_sem,loadCellsFrom,Z,s2]) rfl ⟨?_,_,rfl,false,_,xs.take k,rfl,J,t,by simp [HS.out.2.1];try omega,by rw [A]⟩;exact (((H.trans (s.mono H.size))).setCell (Qb _) _).setCell (Qb _) _
    ·go_wp2_with (at_builtin;go_loud (refine wpList_append_own _ rfl _ _ 22 rfl m.heap.size 128 Y (.int .u32 0) 1 4 aG hi M.out.1 M.out.2.1 M.out.2.2 rfl (by decide) _ _ _ rfl HS.out.2.2 ⟨b,off,none⟩ k c (aF (xs.take k)) rfl L.out.2.1 L.out.1 L.out.2.2 (by unfold maxLen;omega) (by omega) (by simp) ?_);intro v' w1 d n _;obtain ⟨g,E,rfl,a0,a3⟩:=je d (by omega);have s:bW m w1:=(dJ m _).grown n (by simp) (fun k e=>by cases e;exact Qb _);have o:=r0.below s;have B:=o.cell 0;have C:=o.cell 1;have o3:=o.frozen 0;have o4:=o.frozen 1;simp only [Qc,Qe] at B C)
     obtain ⟨Z,s2⟩:=bA (b:=w.heap.size) B C (.bool true) (.slice (some ⟨g,0,none⟩) k E);have l:Reads .u32 w1 (.slice (some ⟨g,0,none⟩) (0+k) E) (xs.take k):=Reads.ou (by simpa [aF] using d);rw [QJ] at l;have J:=bf (b:=w.heap.size) l B C (.bool true) (.slice (some ⟨g,0,none⟩) k E)
     have t:Canon (xs.take k):=⟨iL hl k,D.out.2⟩
     have A:val (xs.take k)=val xs:=by rw [← D.out.2,D.out.1,dC]
     refine bodyPost_ret (v:=vN true (some ⟨g,0,none⟩) k E) (by simp [results,results136,go_sem,loadCellsFrom,Z,s2]) rfl ⟨?_,_,rfl,true,_,xs.take k,rfl,J,t,by simp [HS.out.2.1];try omega,by rw [A]⟩;exact (((H.trans (s.mono H.size))).setCell (Qb _) _).setCell (Qb _) _
theorem BK (neg:Bool)(m:Nat)(h:m<18446744073709551616)(w:World):Calls prog 136 #[.bool neg,.slice (some ⟨w.heap.size,0,none⟩) 2 2] (w.alloc (.cells #[.int .u32 ((m:Int) % 4294967296),.int .u32 ((m:Int) / 4294967296)] 128)) fun e b=>Below w.heap.size w b∧∃ v,e=.returned v∧ak b v (bX neg m):=by
 obtain ⟨g,f⟩:=zL m h;have r:=af.reads (xs:=[m % 4294967296,m / 4294967296]) (af.new w 128 [.int .u32 ((m % 4294967296:Nat):Int),.int .u32 ((m / 4294967296:Nat):Int)]) 2 2 rfl (by simp) (by simp [maxLen])
 have c:((m % 4294967296:Nat):Int)=(m:Int) % 4294967296:=by omega
 have d:((m / 4294967296:Nat):Int)=(m:Int) / 4294967296:=by omega
 rw [c,d] at r;refine (jg neg _ _ _ r f (by simp)).mono ?_;rintro e b ⟨a,v,rfl,h1⟩;rw [g] at h1;exact ⟨(dJ _ _).trans (a.mono (by simp)),v,rfl,h1⟩
theorem yf (n:Nat)(w:World)(z:n<9223372036854775808) :
 CB 66 #[vI n] w fun e x=>∃ v,e=.returned v∧ak x v n:=by
 have h:=BK false n (by omega) (w.alloc (.cells #[vF,vZ] 24));have r0:=af.new w 24 (lN false none 0 0);have j:=dJ w (.cells #[vF,vZ] 24);simp only [Qh] at h;go_enter func66,ntmps66
 go_wp2_with (go_at_call 136;refine h.mono ?_;rintro e y ⟨i,v,rfl,c,C,d,rfl,h1,k,l,m⟩;clear h;obtain ⟨a2,c2,rfl,o,r⟩:=h1.form;have u:=j.trans (i.mono (by omega));have r2:af y w.heap.size 24 (lN false none 0 0):=(i.block _ (by omega)).trans r0;have f:=r2.cell 0;have g:=r2.cell 1;have A:=r2.frozen 0;have B:=r2.frozen 1;simp only [Qc,Qe] at f g)
 obtain ⟨s,t⟩:=bA (b:=w.heap.size) f g (.bool c) (.slice a2 d.length c2);have q:=bf (b:=w.heap.size) h1 f g (.bool c) (.slice a2 d.length c2);have a:=(u.setCell (p:=⟨w.heap.size,0,none⟩) (Qb _) (.bool c)).setCell (p:=⟨w.heap.size,1,none⟩) (Qb _) (.slice a2 d.length c2)
 exact bodyPost_ret (v:=vN c a2 d.length c2) (by simp [results,results66,go_sem,loadCellsFrom,s,t]) rfl ⟨a,_,rfl,c,_,d,rfl,q,k,l,by rw [← m];rfl⟩
theorem Fe (n:Nat)(w:World)(h0:0<n)(A:n≤9223372036854775808) :
 CB 66 #[vI (-(n:Int))] w fun e y=>∃ v,e=.returned v∧ak y v (-(n:Int)):=by
 have h:=BK true n (by omega) (w.alloc (.cells #[vF,vZ] 24));have r0:=af.new w 24 (lN false none 0 0);have j:=dJ w (.cells #[vF,vZ] 24);simp only [Qh] at h
 have C:IntKind.u64.wrap (-IntKind.u64.wrap (-(n:Int)))=n:=by simp only [Qk];omega
 have s:IntKind.u64.wrap (0 - IntKind.u64.wrap (-(n:Int)))=n:=by simp only [Qk];omega
 have B:(n:Int) / 4294967296 % 4294967296=(n:Int) / 4294967296:=by omega
 go_enter func66,ntmps66
 go_wp2_with (go_at_call 136;refine h.mono ?_;rintro e z ⟨i,v,rfl,c,F,d,rfl,h1,k,l,m⟩;clear h;obtain ⟨a2,c2,rfl,o,r⟩:=h1.form;have x:=j.trans (i.mono (by omega));have r2:af z w.heap.size 24 (lN false none 0 0):=(i.block _ (by omega)).trans r0;have f:=r2.cell 0;have g:=r2.cell 1;have D:=r2.frozen 0;have E:=r2.frozen 1;simp only [Qc,Qe] at f g)
 obtain ⟨t,u⟩:=bA (b:=w.heap.size) f g (.bool c) (.slice a2 d.length c2);have q:=bf (b:=w.heap.size) h1 f g (.bool c) (.slice a2 d.length c2);have a:=(x.setCell (p:=⟨w.heap.size,0,none⟩) (Qb _) (.bool c)).setCell (p:=⟨w.heap.size,1,none⟩) (Qb _) (.slice a2 d.length c2)
 exact bodyPost_ret (v:=vN c a2 d.length c2) (by simp [results,results66,go_sem,loadCellsFrom,t,u]) rfl ⟨a,_,rfl,c,_,d,rfl,q,k,l,by rw [← m];rfl⟩
def digitVal (c:Nat):Nat:=if 48≤c∧c≤57 then c - 48 else if 97≤c∧c≤122 then c - 87 else if 65≤c∧c≤90 then c - 55 else 36
theorem qW (c:Nat)(w:World)(h:c<256) :
  Calls prog 241 #[.int .u8 c] w fun e g=>w=g∧e=.returned (vI (digitVal c)):=by
 have b:(48≤c∧c≤57∧digitVal c=c - 48)∨(97≤c∧c≤122∧digitVal c=c - 87)∨(65≤c∧c≤90∧digitVal c=c - 55)∨((c<48∨57<c)∧(c<97∨122<c)∧(c<65∨90<c)∧digitVal c=36):=by
  unfold digitVal;(repeat' split) <;> omega
 rcases b with ⟨h1,f,d⟩ | ⟨h1,f,d⟩ | ⟨h1,f,d⟩ | ⟨h1,f,h4,d⟩
 ·have a:((digitVal c:Nat):Int)=(c:Int) - 48:=by omega
  rw [a];clear d a;go_enter func241,ntmps241;go_wp2
  all_goals exact bodyPost_ret (v:=vI ((c:Int) - 48)) (by simp [results,results241,go_sem]) rfl ⟨rfl,rfl⟩
 ·have a:((digitVal c:Nat):Int)=(c:Int) - 97+10:=by omega
  rw [a];clear d a;go_enter func241,ntmps241;go_wp2
  all_goals exact bodyPost_ret (v:=vI ((c:Int) - 97+10)) (by simp [results,results241,go_sem]) rfl ⟨rfl,rfl⟩
 ·have a:((digitVal c:Nat):Int)=(c:Int) - 65+10:=by omega
  rw [a];clear d a;go_enter func241,ntmps241;go_wp2
  all_goals exact bodyPost_ret (v:=vI ((c:Int) - 65+10)) (by simp [results,results241,go_sem]) rfl ⟨rfl,rfl⟩
 ·have a:((digitVal c:Nat):Int)=36:=by omega
  rw [a];clear d a;go_enter func241,ntmps241;go_wp2
  all_goals exact bodyPost_ret (v:=vI (36)) (by simp [results,results241,go_sem]) rfl ⟨rfl,rfl⟩
theorem sF (b:Nat)(w:World)(c:2≤b)(d:b≤36) :
  Calls prog 202 #[vI b] w fun e a=>w=a∧e=.returned (.tuple #[]):=by
 go_enter func202,ntmps202
 go_wp2_with (go_at_call 106;refine (aC _ _ _ (by simp;try omega)).mono ?_;rintro e a ⟨rfl,rfl⟩)
 go_end0
 exact ⟨rfl,rfl⟩
theorem MX (I:Value)(na:Bool)(j:List Nat)(n:Int)(w:World)(ha:dx w I na j)(d:Int→World→Value→Prop)(E:∀ k W A O,d k W O→(∀ v xs,Reads .u32 W v xs→Reads .u32 A v xs)→d k A O)
  (D:∀ (B:Nat) (f:Option Addr) (g:Nat) (l:World),bW w l→af l B 24 (lN na f j.length g)→af l (B+1) 3 [vI n]→af l (B+2) 24 (lN false none 0 0)→Reads .u32 l (.slice f j.length g) j→I=vN na f j.length g→Calls prog 196 #[vP B,vP (B+1),vP (B+2)] l fun e W=>∃ k,(k=0∧e=.returned (.tuple #[])∨e=pK k)∧dF (fun i=>i=B+2) l W∧(∃ n0 p y r,af W (B+2) 24 (lN n0 p y r)∧d k W (vN n0 p y r))) :
  Calls prog 159 #[I,vI n] w fun e Q=>bW w Q∧∃ r0 k,e=.returned (.tuple #[r0,vI k])∧d k Q r0:=by
 obtain ⟨sa,rfl,t,S⟩:=ha;obtain ⟨f,g,rfl,Y,Z⟩:=t.form;have uZ:=lK;have L:=(((af.new w 24 (lN na f j.length g)).alloc (.cells #[vI n] 3)).alloc (.cells #[vF,vZ] 24)).alloc (.cells #[vI 0] 31);have G:=((af.new (w.alloc (.cells #[.bool na,.slice f j.length g] 24)) 3 [vI n]).alloc (.cells #[vF,vZ] 24)).alloc (.cells #[vI 0] 31)
 have H:=(af.new ((w.alloc (.cells #[.bool na,.slice f j.length g] 24)).alloc (.cells #[vI n] 3)) 24 (lN false none 0 0)).alloc (.cells #[vI 0] 31);have z:=Qi (((w.alloc (.cells #[.bool na,.slice f j.length g] 24)).alloc (.cells #[vI n] 3)).alloc (.cells #[vF,vZ] 24)) 31 (vI 0)
 have q:=((((dJ w (.cells #[.bool na,.slice f j.length g] 24)).alloc (by simp) (.cells #[vI n] 3)).alloc (by simp;omega) (.cells #[vF,vZ] 24)).alloc (by simp;omega) (.cells #[vI 0] 31))
 simp only [Qh] at G H z;generalize C:((((w.alloc (.cells #[.bool na,.slice f j.length g] 24)).alloc (.cells #[vI n] 3)).alloc (.cells #[vF,vZ] 24)).alloc (.cells #[vI 0] 31))=l at L G H z q;have x:=D w.heap.size f g l q L G H (t.below q) rfl
 have X:=fT 196 #[vP w.heap.size,vP (w.heap.size+1),vP (w.heap.size+1+1)]
  (((w.alloc (.cells #[.bool na,.slice f j.length g] 24)).alloc (.cells #[vI n] 3)).alloc (.cells #[vF,vZ] 24))
  (fun k W=>dF (fun i=>i=w.heap.size+2) l W∧(∃ n0 p y r,af W (w.heap.size+2) 24 (lN n0 p y r)∧d k W (vN n0 p y r)))
  (fun W=>by simp [go_sem])
  (fun k W h=>by simp only [Qh];exact h.1.boxed z (by omega))
  (by
   rw [C];refine x.mono ?_;rintro e W ⟨k,h1,J⟩
   rcases h1 with ⟨rfl,rfl⟩ | rfl
   ·exact .inl ⟨rfl,J⟩
   ·exact .inr ⟨k,rfl,J⟩)
 clear x;go_enter func159,ntmps159
 go_wp2_with (refine X.mono ?_;rintro e A ⟨k,W,⟨s,n,a,m,c,hr,u⟩,rfl,rfl⟩;simp only [Qh];have F:=hr.other (a:=⟨w.heap.size+1+1+1,0,none⟩) (by simp) (vI k);have s3:=hr.frozen 0;have s4:=hr.frozen 1;obtain ⟨M,N⟩:=aQ F)
 obtain ⟨U,V⟩:=bA (b:=w.heap.size+1+1) M N (.bool n) (.slice a m c);have R:=(s.boxed z (by omega)).cell
 have o:∀ v xs,Reads .u32 W v xs→Reads .u32 (((W.setCell ⟨w.heap.size+1+1+1,0,none⟩ (vI k)).setCell ⟨w.heap.size+1+1,0,none⟩ (.bool n)).setCell ⟨w.heap.size+1+1,1,none⟩ (.slice a m c)) v xs :=
  fun v xs h=>bf (b:=w.heap.size+1+1) (h.setOther R (by simp) _) M N _ _
 refine bodyPost_ret (v:=.tuple #[vN n a m c,vI k]) (by simp [results,results159,go_sem,loadCellsFrom,U,V]) rfl ⟨?_,_,k,rfl,E _ _ _ _ u o⟩;have T:bW w W:=q.trans (s.below (B:=w.heap.size) (fun i hi=>by omega) q.size);exact ((T.setCell (by simp;omega) _).setCell (by simp;omega) _).setCell (by simp;omega) _
theorem Aq (I:Value)(na:Bool)(j:List Nat)(n:Int)(w:World)(ha:dx w I na j)(d:Int→World→Value→Prop)(E:∀ k W A O,d k W O→(∀ v xs,Reads .u32 W v xs→Reads .u32 A v xs)→d k A O)
  (D:∀ (B:Nat) (f:Option Addr) (g:Nat) (l:World),bW w l→af l B 24 (lN na f j.length g)→af l (B+1) 3 [vI n]→af l (B+2) 24 (lN false none 0 0)→Reads .u32 l (.slice f j.length g) j→I=vN na f j.length g→Calls prog 199 #[vP B,vP (B+1),vP (B+2)] l fun e W=>∃ k,(k=0∧e=.returned (.tuple #[])∨e=pK k)∧dF (fun i=>i=B+2) l W∧(∃ n0 p y r,af W (B+2) 24 (lN n0 p y r)∧d k W (vN n0 p y r))) :
  Calls prog 160 #[I,vI n] w fun e Q=>bW w Q∧∃ r0 k,e=.returned (.tuple #[r0,vI k])∧d k Q r0:=by
 obtain ⟨sa,rfl,t,S⟩:=ha;obtain ⟨f,g,rfl,Y,Z⟩:=t.form;have uZ:=lK;have L:=(((af.new w 24 (lN na f j.length g)).alloc (.cells #[vI n] 3)).alloc (.cells #[vF,vZ] 24)).alloc (.cells #[vI 0] 31);have G:=((af.new (w.alloc (.cells #[.bool na,.slice f j.length g] 24)) 3 [vI n]).alloc (.cells #[vF,vZ] 24)).alloc (.cells #[vI 0] 31)
 have H:=(af.new ((w.alloc (.cells #[.bool na,.slice f j.length g] 24)).alloc (.cells #[vI n] 3)) 24 (lN false none 0 0)).alloc (.cells #[vI 0] 31);have z:=Qi (((w.alloc (.cells #[.bool na,.slice f j.length g] 24)).alloc (.cells #[vI n] 3)).alloc (.cells #[vF,vZ] 24)) 31 (vI 0)
 have q:=((((dJ w (.cells #[.bool na,.slice f j.length g] 24)).alloc (by simp) (.cells #[vI n] 3)).alloc (by simp;omega) (.cells #[vF,vZ] 24)).alloc (by simp;omega) (.cells #[vI 0] 31))
 simp only [Qh] at G H z;generalize C:((((w.alloc (.cells #[.bool na,.slice f j.length g] 24)).alloc (.cells #[vI n] 3)).alloc (.cells #[vF,vZ] 24)).alloc (.cells #[vI 0] 31))=l at L G H z q;have x:=D w.heap.size f g l q L G H (t.below q) rfl
 have X:=fT 199 #[vP w.heap.size,vP (w.heap.size+1),vP (w.heap.size+1+1)]
  (((w.alloc (.cells #[.bool na,.slice f j.length g] 24)).alloc (.cells #[vI n] 3)).alloc (.cells #[vF,vZ] 24))
  (fun k W=>dF (fun i=>i=w.heap.size+2) l W∧(∃ n0 p y r,af W (w.heap.size+2) 24 (lN n0 p y r)∧d k W (vN n0 p y r)))
  (fun W=>by simp [go_sem])
  (fun k W h=>by simp only [Qh];exact h.1.boxed z (by omega))
  (by
   rw [C];refine x.mono ?_;rintro e W ⟨k,h1,J⟩
   rcases h1 with ⟨rfl,rfl⟩ | rfl
   ·exact .inl ⟨rfl,J⟩
   ·exact .inr ⟨k,rfl,J⟩)
 clear x;go_enter func160,ntmps160
 go_wp2_with (refine X.mono ?_;rintro e A ⟨k,W,⟨s,n,a,m,c,hr,u⟩,rfl,rfl⟩;simp only [Qh];have F:=hr.other (a:=⟨w.heap.size+1+1+1,0,none⟩) (by simp) (vI k);have s3:=hr.frozen 0;have s4:=hr.frozen 1;obtain ⟨M,N⟩:=aQ F)
 obtain ⟨U,V⟩:=bA (b:=w.heap.size+1+1) M N (.bool n) (.slice a m c);have R:=(s.boxed z (by omega)).cell
 have o:∀ v xs,Reads .u32 W v xs→Reads .u32 (((W.setCell ⟨w.heap.size+1+1+1,0,none⟩ (vI k)).setCell ⟨w.heap.size+1+1,0,none⟩ (.bool n)).setCell ⟨w.heap.size+1+1,1,none⟩ (.slice a m c)) v xs :=
  fun v xs h=>bf (b:=w.heap.size+1+1) (h.setOther R (by simp) _) M N _ _
 refine bodyPost_ret (v:=.tuple #[vN n a m c,vI k]) (by simp [results,results160,go_sem,loadCellsFrom,U,V]) rfl ⟨?_,_,k,rfl,E _ _ _ _ u o⟩;have T:bW w W:=q.trans (s.below (B:=w.heap.size) (fun i hi=>by omega) q.size);exact ((T.setCell (by simp;omega) _).setCell (by simp;omega) _).setCell (by simp;omega) _
theorem Ff (D:Value)(na:Bool)(f:List Nat)(base:Int)(w:World)(ha:dx w D na f)(b:Int→World→Value→Prop)(x:∀ k W s H,b k W H→(∀ v xs,Reads .u32 W v xs→Reads .u32 s v xs)→b k s H)
  (u:∀ (B:Nat) (c:Option Addr) (d:Nat) (g:World),bW w g→af g B 24 (lN na c f.length d)→af g (B+1) 3 [vI base]→af g (B+2) 9 [.string ByteArray.empty]→Reads .u32 g (.slice c f.length d) f→D=vN na c f.length d→Calls prog 201 #[vP B,vP (B+1),vP (B+2)] g fun e W=>∃ k,(k=0∧e=.returned (.tuple #[])∨e=pK k)∧dF (fun i=>i=B+2) g W∧(∃ q,af W (B+2) 9 [.string q]∧b k W (.string q))) :
  Calls prog 171 #[D,vI base] w fun e I=>bW w I∧∃ r0 k,e=.returned (.tuple #[r0,vI k])∧b k I r0:=by
 obtain ⟨T,rfl,n,L⟩:=ha;obtain ⟨c,d,rfl,Q,R⟩:=n.form;have U:=lK;have F:=(((af.new w 24 (lN na c f.length d)).alloc (.cells #[vI base] 3)).alloc (.cells #[.string ByteArray.empty] 9)).alloc (.cells #[vI 0] 31);have A:=((af.new (w.alloc (.cells #[.bool na,.slice c f.length d] 24)) 3 [vI base]).alloc (.cells #[.string ByteArray.empty] 9)).alloc (.cells #[vI 0] 31)
 have C:=(af.new ((w.alloc (.cells #[.bool na,.slice c f.length d] 24)).alloc (.cells #[vI base] 3)) 9 [.string ByteArray.empty]).alloc (.cells #[vI 0] 31);have r:=Qi (((w.alloc (.cells #[.bool na,.slice c f.length d] 24)).alloc (.cells #[vI base] 3)).alloc (.cells #[.string ByteArray.empty] 9)) 31 (vI 0)
 have l:=((((dJ w (.cells #[.bool na,.slice c f.length d] 24)).alloc (by simp) (.cells #[vI base] 3)).alloc (by simp;omega) (.cells #[.string ByteArray.empty] 9)).alloc (by simp;omega) (.cells #[vI 0] 31))
 simp only [Qh] at A C r;generalize t:((((w.alloc (.cells #[.bool na,.slice c f.length d] 24)).alloc (.cells #[vI base] 3)).alloc (.cells #[.string ByteArray.empty] 9)).alloc (.cells #[vI 0] 31))=g at F A C r l;have p:=u w.heap.size c d g l F A C (n.below l) rfl
 have O:=fT 201 #[vP w.heap.size,vP (w.heap.size+1),vP (w.heap.size+1+1)]
  (((w.alloc (.cells #[.bool na,.slice c f.length d] 24)).alloc (.cells #[vI base] 3)).alloc (.cells #[.string ByteArray.empty] 9))
  (fun k W=>dF (fun i=>i=w.heap.size+2) g W∧(∃ q,af W (w.heap.size+2) 9 [.string q]∧b k W (.string q)))
  (fun W=>by simp [go_sem])
  (fun k W h=>by simp only [Qh];exact h.1.boxed r (by omega))
  (by
   rw [t];refine p.mono ?_;rintro e W ⟨k,h1,E⟩
   rcases h1 with ⟨rfl,rfl⟩ | rfl
   ·exact .inl ⟨rfl,E⟩
   ·exact .inr ⟨k,rfl,E⟩)
 clear p;go_enter func171,ntmps171
 go_wp2_with (refine O.mono ?_;rintro e s ⟨k,W,⟨m,z,hr,o⟩,rfl,rfl⟩;simp only [Qh];have y:=hr.other (a:=⟨w.heap.size+1+1+1,0,none⟩) (by simp) (vI k);have S:=hr.frozen 0;have G:=mI y)
 have N:=ZV _ _ (.string z) G;have J:=(m.boxed r (by omega)).cell
 have j:∀ v xs,Reads .u32 W v xs→Reads .u32 ((W.setCell ⟨w.heap.size+1+1+1,0,none⟩ (vI k)).setCell ⟨w.heap.size+1+1,0,none⟩ (.string z)) v xs :=
  fun v xs h=>(h.setOther J (by simp) _).setOther G (by simp) _
 refine bodyPost_ret (v:=.tuple #[.string z,vI k]) (by simp [results,results171,go_sem,loadCellsFrom,N]) rfl ⟨?_,_,k,rfl,x _ _ _ _ o j⟩;have M:bW w W:=l.trans (m.below (B:=w.heap.size) (fun i hi=>by omega) l.size);exact (M.setCell (by simp;omega) _).setCell (by simp;omega) _
theorem IP (s:ByteArray)(base:Int)(w:World)  (d:Int→World→Value→Prop)(A:∀ k W x J,d k W J→(∀ v xs,Reads .u32 W v xs→Reads .u32 x v xs)→d k x J)
  (z:∀ (B:Nat)  (f:World),bW w f→af f B 9 [.string s]→af f (B+1) 3 [vI base]→af f (B+2) 24 (lN false none 0 0)→Calls prog 216 #[vP (B+1),vP B,vP (B+2)] f fun e W=>∃ k,(k=0∧e=.returned (.tuple #[])∨e=pK k)∧dF (fun i=>i=B+2) f W∧(∃ n0 j r l,af W (B+2) 24 (lN n0 j r l)∧d k W (vN n0 j r l))) :
  Calls prog 179 #[.string s,vI base] w fun e L=>bW w L∧∃ r0 k,e=.returned (.tuple #[r0,vI k])∧d k L r0:=by
 have U:=lK;have G:=(((af.new w 9 [.string s]).alloc (.cells #[vI base] 3)).alloc (.cells #[vF,vZ] 24)).alloc (.cells #[vI 0] 31);have D:=((af.new (w.alloc (.cells #[.string s] 9)) 3 [vI base]).alloc (.cells #[vF,vZ] 24)).alloc (.cells #[vI 0] 31);have E:=(af.new ((w.alloc (.cells #[.string s] 9)).alloc (.cells #[vI base] 3)) 24 (lN false none 0 0)).alloc (.cells #[vI 0] 31)
 have u:=Qi (((w.alloc (.cells #[.string s] 9)).alloc (.cells #[vI base] 3)).alloc (.cells #[vF,vZ] 24)) 31 (vI 0)
 have t:=((((dJ w (.cells #[.string s] 9)).alloc (by simp) (.cells #[vI base] 3)).alloc (by simp;omega) (.cells #[vF,vZ] 24)).alloc (by simp;omega) (.cells #[vI 0] 31))
 simp only [Qh] at D E u;generalize y:((((w.alloc (.cells #[.string s] 9)).alloc (.cells #[vI base] 3)).alloc (.cells #[vF,vZ] 24)).alloc (.cells #[vI 0] 31))=f at G D E u t;have q:=z w.heap.size  f t G D E
 have R:=fT 216 #[vP (w.heap.size+1),vP w.heap.size,vP (w.heap.size+1+1)]
  (((w.alloc (.cells #[.string s] 9)).alloc (.cells #[vI base] 3)).alloc (.cells #[vF,vZ] 24))
  (fun k W=>dF (fun i=>i=w.heap.size+2) f W∧(∃ n0 j r l,af W (w.heap.size+2) 24 (lN n0 j r l)∧d k W (vN n0 j r l)))
  (fun W=>by simp [go_sem])
  (fun k W h=>by simp only [Qh];exact h.1.boxed u (by omega))
  (by
   rw [y];refine q.mono ?_;rintro e W ⟨k,h1,F⟩
   rcases h1 with ⟨rfl,rfl⟩ | rfl
   ·exact .inl ⟨rfl,F⟩
   ·exact .inr ⟨k,rfl,F⟩)
 clear q;go_enter func179,ntmps179
 go_wp2_with (refine R.mono ?_;rintro e x ⟨k,W,⟨o,n,a,m,c,hr,p⟩,rfl,rfl⟩;simp only [Qh];have C:=hr.other (a:=⟨w.heap.size+1+1+1,0,none⟩) (by simp) (vI k);have S:=hr.frozen 0;have T:=hr.frozen 1;obtain ⟨H,I⟩:=aQ C)
 obtain ⟨O,Q⟩:=bA (b:=w.heap.size+1+1) H I (.bool n) (.slice a m c);have M:=(o.boxed u (by omega)).cell
 have g:∀ v xs,Reads .u32 W v xs→Reads .u32 (((W.setCell ⟨w.heap.size+1+1+1,0,none⟩ (vI k)).setCell ⟨w.heap.size+1+1,0,none⟩ (.bool n)).setCell ⟨w.heap.size+1+1,1,none⟩ (.slice a m c)) v xs :=
  fun v xs h=>bf (b:=w.heap.size+1+1) (h.setOther M (by simp) _) H I _ _
 refine bodyPost_ret (v:=.tuple #[vN n a m c,vI k]) (by simp [results,results179,go_sem,loadCellsFrom,O,Q]) rfl ⟨?_,_,k,rfl,A _ _ _ _ p g⟩;have N:bW w W:=t.trans (o.below (B:=w.heap.size) (fun i hi=>by omega) t.size);exact ((N.setCell (by simp;omega) _).setCell (by simp;omega) _).setCell (by simp;omega) _
theorem zh (b:Int)(w:World)(h:b<2∨36<b) :
  Calls prog 202 #[vI b] w fun e a=>w=a∧e=pK 1:=by
 by_cases c:b<2
 ·have d:decide (2≤b)=false:=by simp;omega
  go_enter func202,ntmps202
  go_wp2_with (go_at_call 106;refine (bD _ _ _ (by simp;try omega)).mono ?_;rintro e a ⟨rfl,rfl⟩)
  exact ⟨rfl,rfl,rfl⟩
 ·have g:36<b:=h.resolve_left c
  have d:decide (2≤b)=true:=by simp;omega
  have f:decide (b≤36)=false:=by simp;omega
  go_enter func202,ntmps202
  go_wp2_with (go_at_call 106;refine (bD _ _ _ (by simp;try omega)).mono ?_;rintro e a ⟨rfl,rfl⟩)
  exact ⟨rfl,rfl,rfl⟩
theorem IQ (B:Nat)(na:Bool)(f:Option Addr)(h:Nat)(a:List Nat)(b:Nat)(G:ByteArray)(w:World)(d:af w B 24 (lN na f a.length h))(j:af w (B+1) 3 [vI b])(n:af w (B+2) 9 [.string G])
  (ha:Reads .u32 w (.slice f a.length h) a) (i:Limbs a) (l:au na a=true) (u:2≤b) (v:b≤36) (A:gU w) :
  Calls prog 201 #[vP B,vP (B+1),vP (B+2)] w fun e x=>e=.returned (.tuple #[])∧dF (fun k=>k=B+2) w x∧∃ s:ByteArray,af x (B+2) 9 [.string s]∧s.data.toList.map (·.toNat)=textOf na b (val a):=by
 obtain ⟨H,I⟩:=aQ d;have n0:=mI j;have q:=af.new w 24 (lN na f a.length h);have t:=dJ w (.cells #[.bool na,.slice f a.length h] 24)
 obtain ⟨m,o⟩:Canon a∧a.length≤300:=by
  simp only [au,Jt,decide_eq_true_eq] at l;exact ⟨⟨i,l.1.2⟩,l.1.1⟩
 go_enter func201,ntmps201
 go_wp2_with (first
  | (go_at_call 182;refine (gV _ _ f h a _ q (ha.below t) i l).mono ?_;rintro e w1 ⟨y,rfl⟩;have c:=t.trans (y.mono (by simp));have D:=(d.below c).cell 0;have F:=(d.below c).cell 1;have E:=(j.below c).cell 0;simp only [Qc,Qe] at D E F)
  | (go_at_call 202;refine (sF _ _ u v).mono ?_;rintro e L ⟨rfl,rfl⟩)
  | (go_at_call 203;refine (IK na _ a b _ (ha.below c) m o u v (A.below c)).mono ?_;rintro e M ⟨z,s,rfl,hs⟩;have g:=c.trans (z.mono c.size);have r:=n.below g;have C:=r.cell 0;have J:=r.frozen 0;simp only [Qc] at C))
 go_end0
 exact ⟨rfl,((dF.refl (fun k=>k=B+2) w).aU g).setCell (p:=⟨B+2,0,none⟩) (.inl rfl) _,s,r.set 0 (.string s),hs⟩
theorem LD (B:Nat)(na:Bool)(b:Option Addr)(c:Nat)(a:List Nat)(w:World)(f:af w B 24 (lN na b a.length c))(ha:Reads .u32 w (.slice b a.length c) a)(d:Limbs a)(k:au na a=false) :
 CB 196 #[vP B,vP (B+1),vP (B+2)] w fun e _=>e=pK 1:=by
 obtain ⟨l,m⟩:=aQ f;have g:=af.new w 24 (lN na b a.length c);have h:=dJ w (.cells #[.bool na,.slice b a.length c] 24);go_enter func196,ntmps196
 go_wp2_with (go_at_call 182;refine (tH _ na b c a _ g (ha.below h) d k).mono ?_;rintro e w1 ⟨i,rfl⟩;have j:=h.trans (i.mono (by simp)))
 exact ⟨rfl,j,rfl⟩
theorem IU (B:Nat)(na:Bool)(b:Option Addr)(c:Nat)(a:List Nat)(n:Int)(w:World)(g:af w B 24 (lN na b a.length c))(d:af w (B+1) 3 [vI n])(ha:Reads .u32 w (.slice b a.length c) a)(f:Limbs a)(o:au na a=true)(k:¬(0≤n∧n≤9600)) :
 CB 196 #[vP B,vP (B+1),vP (B+2)] w fun e _=>e=pK 1:=by
 obtain ⟨q,r⟩:=aQ g;have n0:=mI d;have h:=af.new w 24 (lN na b a.length c);have i:=dJ w (.cells #[.bool na,.slice b a.length c] 24);have l:=Qa k;clear k;go_enter func196,ntmps196
 go_wp2_with (first | (go_at_call 182;refine (gV _ na b c a _ h (ha.below i) f o).mono ?_;rintro e w1 ⟨m,rfl⟩;have j:=i.trans (m.mono (by simp));have p:=(d.below j).cell 0;simp only [Qc] at p) | (go_at_call 106;refine (bD _ _ _ (by first | rfl | (have:=l.out;simp;omega))).mono ?_;rintro e s ⟨rfl,rfl⟩))
 all_goals exact ⟨rfl,j,rfl⟩
structure sP (w:World) (B:Nat) (na:Bool) (aa:Option Addr) (xa:List Nat) (ca:Nat) (n:Int) (X:World):Prop where
 a:af X B 24 (lN na aa xa.length ca)
 ra:Reads .u32 X (.slice aa xa.length ca) xa
 n:af X (B+1) 3 [vI n]
 sK:dF (fun k=>k=B+2) w X
 res:∃ r0 r1 r2 r3,af X (B+2) 24 (lN r0 r1 r2 r3)
@[reducible] def Li (w:World) (B:Nat) (na:Bool) (aa:Option Addr) (xa:List Nat) (ca:Nat) (n:Int) (X:World):Prop :=
 X.cell? ⟨B,0,none⟩=some (.bool na)∧X.cell? ⟨B,1,none⟩=some (.slice aa xa.length ca)∧X.cell? ⟨B+1,0,none⟩=some (vI n)∧sP w B na aa xa ca n X
section
variable {w X:World} {B:Nat} {na:Bool} {aa:Option Addr} {xa:List Nat} {ca:Nat} {n:Int}
theorem tq (h:sP w B na aa xa ca n X):Li w B na aa xa ca n X:=⟨h.a.cell 0,h.a.cell 1,h.n.cell 0,h⟩
theorem uI (h:sP w B na aa xa ca n X):Li w B na aa xa ca n X.drew:=tq ⟨h.a,h.ra,h.n,h.sK.drew,h.res⟩
theorem lh {c:World}(h:sP w B na aa xa ca n X)(b:bW X c):Li w B na aa xa ca n c :=
 tq ⟨h.a.below b,h.ra.below b,h.n.below b,h.sK.aU b,(by obtain ⟨r0,r1,r2,r3,hr⟩:=h.res;exact ⟨r0,r1,r2,r3,hr.below b⟩)⟩
theorem zM (h:sP w B na aa xa ca n X)(x:Bool)(b:Option Addr)(m c:Nat):Li w B na aa xa ca n ((X.setCell ⟨B+2,0,none⟩ (.bool x)).setCell ⟨B+2,1,none⟩ (.slice b m c)) :=
 tq ⟨(h.a.other (by simp) _).other (by simp) _,(by obtain ⟨r0,r1,r2,r3,hr⟩:=h.res;exact bf (b:=B+2) h.ra (hr.cell 0) (hr.cell 1) _ _),(h.n.other (by simp) _).other (by simp) _,(h.sK.setCell (.inl rfl) _).setCell (.inl rfl) _,(by obtain ⟨r0,r1,r2,r3,hr⟩:=h.res;exact ⟨x,b,m,c,(hr.set 0 (.bool x)).set 1 (.slice b m c)⟩)⟩
theorem zN (h:sP w B na aa xa ca n X):∃ r0 r1 r2 r3,X.cell? ⟨B+2,0,none⟩=some (.bool r0)∧X.cell? ⟨B+2,1,none⟩=some (.slice r1 r2 r3)∧X.frozen? ⟨B+2,0,none⟩=false∧X.frozen? ⟨B+2,1,none⟩=false∧af X (B+2) 24 (lN r0 r1 r2 r3):=by
 obtain ⟨r0,r1,r2,r3,hr⟩:=h.res;exact ⟨r0,r1,r2,r3,hr.cell 0,hr.cell 1,hr.frozen 0,hr.frozen 1,hr⟩
end
theorem LF (B:Nat)(g:Option Addr)(p:Nat)(f:List Nat)(n:Nat)(r0:Bool)(r1:Option Addr)(r2 r3 K:Nat)(hT:gP K)(hK:0<K)(w:World)(r:af w B 24 (lN false g f.length p))(u:af w (B+1) 3 [vI n])(E:af w (B+2) 24 (lN r0 r1 r2 r3))
  (ha:Reads .u32 w (.slice g f.length p) f) (D:Canon f) (fa:au false f=true) (hn:n≤9600) (a5:f.length≤300) (gG:((bitsOf f:Int) - 1)*n<9600) (T:bitsOf f≤9600) (q:val f^n<aj^K) (x:val f^n<aj^300) :
  Calls prog 196 #[vP B,vP (B+1),vP (B+2)] w fun e G=>e=.returned (.tuple #[])∧dF (fun k=>k=B+2) w G∧∃ m a l c,af G (B+2) 24 (lN m a l c)∧ak G (vN m a l c) (bX false (val f)^n):=by
 obtain ⟨a0,a1⟩:=aQ r;have n0:=mI u;have z:=D.1;have F:=af.new w 24 (lN false g f.length p);have H:=dJ w (.cells #[vF,.slice g f.length p] 24)
 have V:=fun W (h:bW w W)=>gW (.slice g f.length p) f W (ha.below h) z (by omega)
 obtain ⟨P,hP⟩:∃ P:Int,((bitsOf f:Int) - 1)*n=P:=⟨_,rfl⟩
 have O:-9600≤P:=by
  rw [← hP];have h1:(-1:Int)*n≤((bitsOf f:Int) - 1)*n:=Zj (by omega) (by omega);omega
 rw [hP] at gG
 have Q:IntKind.i64.wrap P=P:=by rw [Qx];omega
 have HF:=Qa x;have HK:=Qa q;clear x q;go_enter func196,ntmps196
 go_wp2_with (first
  | (go_at_call 182;refine (gV _ false g p f _ F (ha.below H) z fa).mono ?_;rintro e w1 ⟨Z,rfl⟩;have s:=H.trans (Z.mono (by simp));have p0:=(r.below s).cell 0;have p2:=(r.below s).cell 1;have p1:=(u.below s).cell 0;simp only [Qc,Qe] at p0 p1 p2)
  | (go_at_call 106;refine (aC _ _ _ (by simp;omega)).mono ?_;rintro e w2 ⟨rfl,rfl⟩))
 go_quiet (first
  | (go_at_call 197;exact (gW (.slice g f.length p) f _ ((ha.below s).drewN _) z (by omega)).mono (fun e G ⟨h1,J⟩=>⟨J,_,h1.symm⟩))
  | (go_at_call 106;exact (aC _ _ _ (by first | rfl | (simp;omega))).mono (fun e G ⟨h1,J⟩=>⟨J,_,h1.symm⟩)))
 have R:sP w B false g f p n (w1.drewN nq):=by
  have h1:bW w (w1.drewN nq):=⟨s.os,s.tape,s.output,s.size,s.block⟩
  exact ⟨r.below h1,ha.below h1,u.below h1,(dF.refl (fun k=>k=B+2) w).aU h1,⟨r0,r1,r2,r3,E.below h1⟩⟩
 generalize w1.drewN nq=W2 at *;clear r u E V hP Q O gG a0 a1 n0 F H s Z p0 p1 p2 T ha;have hD:=Qa (uI R);obtain ⟨d1,d2,d3,-⟩:=tq R;clear R
 go_wp2_with fail
 refine wp_region_held_drew (S:=(fun X=>X.cell? ⟨B,0,none⟩=some vF∧X.cell? ⟨B,1,none⟩=some (.slice g f.length p)∧X.cell? ⟨B+1,0,none⟩=some (vI n)∧sP w B false g f p n X)) (by kernel_rfl) hD.out (fun t=>?_)
 refine wpAnyH_take (i:=0) (oi:=_) (v:=vP B) rfl (by kernel_rfl) (by kernel_rfl) (by kernel_rfl) (fun _ _ _ h=>h) (Or.inl ⟨by rfl,fun w d=>by dsimp only at d;go_simp⟩) (by assumption) ?_;refine wpAnyH_take (i:=1) (oi:=_) (v:=vF) rfl (by kernel_rfl) (by kernel_rfl) (by kernel_rfl) (fun _ _ _ h=>h) (Or.inl ⟨by rfl,fun w d=>by dsimp only at d;go_simp⟩) (by assumption) ?_
 refine wpAnyH_take (i:=2) (oi:=_) (v:=vF) rfl (by kernel_rfl) (by kernel_rfl) (by kernel_rfl) (fun _ _ _ h=>h) (Or.inl ⟨by rfl,fun w d=>by dsimp only at d;go_simp⟩) (by assumption) ?_;refine wpAnyH_take (i:=3) (oi:=_) (v:=undef) rfl (by kernel_rfl) (by kernel_rfl) (by kernel_rfl) (fun _ _ _ h=>h) (Or.inr ⟨by rfl,rfl⟩) (by assumption) ?_
 refine wpAnyH_take (i:=4) (oi:=_) (v:=undef) rfl (by kernel_rfl) (by kernel_rfl) (by kernel_rfl) (fun _ _ _ h=>h) (Or.inr ⟨by rfl,rfl⟩) (by assumption) ?_;refine wpAnyH_take (i:=5) (oi:=_) (v:=undef) rfl (by kernel_rfl) (by kernel_rfl) (by kernel_rfl) (fun _ _ _ h=>h) (Or.inr ⟨by rfl,rfl⟩) (by assumption) ?_
 refine wpAnyH_take (i:=6) (oi:=_) (v:=vF) rfl (by kernel_rfl) (by kernel_rfl) (by kernel_rfl) (fun _ _ _ h=>h) (Or.inl ⟨by rfl,fun w d=>by dsimp only at d;go_simp⟩) (by assumption) ?_
 refine wpAnyH_take (i:=7) (oi:=_) (v:=.pointer (some ⟨B,1,none⟩)) rfl (by kernel_rfl) (by kernel_rfl) (by kernel_rfl) (fun _ _ _ h=>h) (Or.inl ⟨by rfl,fun w d=>by dsimp only at d;go_simp⟩) (by assumption) ?_
 refine wpAnyH_take (i:=8) (oi:=_) (v:=.slice g f.length p) rfl (by kernel_rfl) (by kernel_rfl) (by kernel_rfl) (fun _ _ _ h=>h) (Or.inl ⟨by rfl,fun w d=>by dsimp only at d;go_simp⟩) (by assumption) ?_;refine wpAnyH_take (i:=9) (oi:=_) (v:=vI n) rfl (by kernel_rfl) (by kernel_rfl) (by kernel_rfl) (fun _ _ _ h=>h) (Or.inl ⟨by rfl,fun w d=>by dsimp only at d;go_simp⟩) (by assumption) ?_
 simp only [Act.put,Zw];refine wpAnyH_ready (rs:=[10]) (by kernel_rfl) (by simp) ?_;refine QA (o:=_) rfl (fun y j=>?_) QM;rw [if_pos (by rfl)];obtain ⟨-,-,-,A⟩:=t
 go_wp2_with (go_at_call 198;refine (lL K hT hK _ f n _ A.ra D hn HK.out).mono ?_;rintro e w9 ⟨U,v,I,rfl,h1,k1,e1⟩;obtain ⟨Y,c3,rfl,a2,a4⟩:=h1.form)
 refine j.out _ _ ?_ (fun t=>?_)
 ·exact lh A U
 clear j y;refine wpAnyH_ready (rs:=[11]) (by kernel_rfl) (by simp) ?_;refine QA (o:=_) rfl (fun y j=>?_) QM;rw [if_pos (by rfl)];obtain ⟨-,-,-,L⟩:=t
 go_wp2_with (go_at_call 184;refine (dK _ _ _ _ _).mono ?_;rintro e a6 ⟨dz,rfl⟩)
 refine j.out _ _ ?_ (fun t=>?_)
 ·exact lh L dz
 clear j y;refine wpAnyH_ready (rs:=[12]) (by kernel_rfl) (by simp) ?_;refine QA (o:=_) rfl (fun y j=>?_) QM;rw [if_pos (by rfl)];obtain ⟨-,-,-,M⟩:=t
 go_wp2_with (go_at_call 183;refine (qO _ _ _ _ _ (by rw [bS k1,e1];exact HF.out)).mono ?_;rintro e a7 ⟨eF,rfl⟩)
 refine j.out _ _ ?_ (fun t=>?_)
 ·exact lh M eF
 clear j y;refine wpAnyH_ready (rs:=[13]) (by kernel_rfl) (by simp) ?_;refine QA (o:=_) rfl (fun y j=>?_) QM;rw [if_pos (by rfl)];obtain ⟨-,-,-,C⟩:=t;obtain ⟨u0,u1,u2,u3,q1,q2,q3,q4,q5⟩:=zN C
 go_wp2_with fail
 refine j.out _ _ ?_ (fun t=>?_)
 ·exact zM C _ _ _ _
 clear j y;refine wpAnyH_done (by kernel_rfl) ?_ _;obtain ⟨-,-,-,N⟩:=t
 go_end0
 exact ⟨rfl,N.sK,false,Y,I.length,c3,(q5.set 0 vF).set 1 (.slice Y I.length c3),false,_,I,rfl,bf (b:=B+2) ((h1.below dz).below eF) q1 q2 _ _,k1,rfl,by rw [e1];simp [bX]⟩
end Go.Proofs.YtagjhmodblifbaaGreatDoor
