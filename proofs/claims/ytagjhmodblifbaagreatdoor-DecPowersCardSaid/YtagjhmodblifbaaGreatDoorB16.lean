/- proved lemmas -/
import Derived.Test.YtagjhmodblifbaaGreatDoorMA
import Derived.Test.YtagjhmodblifbaaGreatDoorB00
import Derived.Test.YtagjhmodblifbaaGreatDoorB15
import Derived.Test.YtagjhmodblifbaaGreatDoorB14
set_option maxHeartbeats 4000000
set_option maxRecDepth 100000
set_option exponentiation.threshold 100000
namespace Go.Proofs.YtagjhmodblifbaaGreatDoor
open Go.Proofs.Tryz
open Go Go.RowKit Go.Shelf
theorem jm {x y e:Int}{k K:Nat}(b:y≠0)(a:(x*((10^((k:Int) - e).toNat:Nat):Int)).natAbs<K):(fB x y e k).natAbs<K:=by
 unfold fB;rw [xH] at a;refine Qr (Fv _ _ (Int.mul_ne_zero b ?_)) a;have:=rR ((e - (k:Int)).toNat);omega
theorem uX (D:Value)(i:Int)(p B:Nat)(x y e:Int)(k:Nat)(r:Int)(f:Nat)(w:World)(h1:dB w D i p)(j:∀ W v,bW w W→eu W v i 1 (p:Int)→Calls prog 155 #[v,vP B] W fun n F=>bW W F∧∃ v',n=.returned v'∧eu F v' x y e)
  (Q:k≤20) (O:-2800≤e∧e≤2800) (I:x.natAbs<aj^300) (Z:y.natAbs<aj^300) (A:y≠0) (l:(x*((10^((k:Int) - e).toNat:Nat):Int)).natAbs<aj^300) (H:(y*((10^(e - (k:Int)).toNat:Nat):Int)).natAbs<aj^300) (S:least (fB x y e k) k=(r,f)) (hf:r.natAbs<aj^40) :
  Calls prog 98 #[D,.func (.func 155) #[] #[vP B],vI k] w fun n w'=>bW w w'∧∃ g a m c la lc,n=.returned (vV 3 f g a m c ⟨#[]⟩ la 0 lc)∧ak w' (vN g a m c) r:=by
 have T:=fun X (hX:bW w X)=>jl D i p X (h1.below hX)
 have U:=fun (X:World) v (u:eu X v x y e)=>gK v x y e k X u Q O I Z A l H
 have J:=jm A l;generalize x*((10^((k:Int) - e).toNat:Nat):Int) - fB x y e k*(y*((10^(e - (k:Int)).toNat:Nat):Int))=rest at *;generalize fB x y e k=z at *
 have kM:=fun (X:World) v (u:ak X v z)=>mO v z k r f X u (by omega) J S hf
 obtain ⟨n1,a1,m1,c1,cu,cB,rfl,-⟩:=h1.shape;obtain ⟨W0,N,G,C,qr⟩:=vk w 27 (lV 3 p n1 a1 m1 c1 ⟨#[]⟩ cu 0 cB);have L:=fC (R:=bI _) (ax C aS) ⟨_,_,_,_,_,_,_,_,_,_,qr⟩ G;obtain ⟨d0,d1,d2,d3,d4,d5⟩:=aD C;have hP:=L.nil;clear h1 Q O I Z A l H J S hf G C qr L;go_enter func98,ntmps98
 go_upto_region 1 with (fail)
 rw [N.out];clear N
 go_cut [7] from 8 to 17 (fun v7 W=>kJ W v7 z∧fI w W0 (bI (w.heap.size+1)) [] W)
 case first =>
  go_wp2_with (first | (go_at_call 121;refine (U _ _ hB).mono ?_;rintro M E ⟨d,g,a,m,c,g9,a9,m9,c9,rfl,o,a0⟩;have b:=ag bI.step q d) | (go_at_call 155;refine (j _ _ h.below hA).mono ?_;rintro M w2 ⟨t,v6,rfl,hB⟩;have q:=ag bI.step h t) | (go_at_call 154;refine (T _ hP.below).mono ?_;rintro M w1 ⟨s,v5,rfl,hA⟩;have h:=ag bI.step hP s))
  go_meet
  have V:=dJ E (.cells #[.bool g,.slice a m c] 24);have Y:=V.alloc V.size (.cells #[.bool g9,.slice a9 m9 c9] 24);exact ⟨⟨_,_,_,_,_,rfl,(af.new E 24 (lN g a m c)).alloc _,o.below Y⟩,ag bI.step b Y⟩
 case rest =>
  obtain ⟨⟨b7,n7,a7,m7,c7,rfl,r7,i7⟩,sM⟩:=hcut;obtain ⟨x0,x1⟩:=aQ r7;clear T U j d0 d1 d2 d3 d4 d5 r7 hP
  go_wp2_with (go_at_call 83;refine (kM _ _ i7).mono ?_;rintro e3 E ⟨d,g,a,m,c,la,lc,rfl,o⟩;have b:=ag bI.step sM d;obtain ⟨z0,z1,z2,z3,aI,aJ,z4,z5,aN,aO,hr,y0,y1,y2,y3,y4,y5,f0,f1,f2,f3,f4,f5⟩:=b.res.cells)
  obtain ⟨u0,u1,u2,u3,u4,u5⟩:=dD hr (vI 3) (vI f) (.bool g) (.slice a m c) vE (.slice la 0 lc);have hb:=(gF b dV (show w.heap.size≤w.heap.size+1 by omega) 3 (f:Int) g a m c ⟨#[]⟩ la 0 lc).below;have hO:=o.keep (bQ hr (vI 3) (vI f) (.bool g) (.slice a m c) vE (.slice la 0 lc))
  exact bodyPost_ret (v:=vV 3 f g a m c ⟨#[]⟩ la 0 lc) (by simp [results,results98,go_sem,loadCellsFrom,u0,u1,u2,u3,u4,u5]) rfl ⟨hb,_,_,_,_,_,_,rfl,hO⟩
theorem uj (u:Value)(i:Int)(p B:Nat)(x y e:Int)(k:Nat)(w:World)(h1:dB w u i p)(h:∀ W v,bW w W→eu W v i 1 (p:Int)→Calls prog 155 #[v,vP B] W fun l C=>bW W C∧∃ V,l=.returned V∧eu C V x y e)
  (M:k≤20) (L:-2800≤e∧e≤2800) (F:x.natAbs<aj^300) (T:y.natAbs<aj^300) (s:y≠0) (j:(x*((10^((k:Int) - e).toNat:Nat):Int)).natAbs<aj^300) (E:(y*((10^(e - (k:Int)).toNat:Nat):Int)).natAbs<aj^300) (hf:¬(least (fB x y e k) k).1.natAbs<aj^40) :
  Calls prog 98 #[u,.func (.func 155) #[] #[vP B],vI k] w fun l w'=>bW w w'∧l=pK 3:=by
 have N:=fun X (hX:bW w X)=>jl u i p X (h1.below hX)
 have O:=fun (X:World) v (r:eu X v x y e)=>gK v x y e k X r M L F T s j E
 have G:=jm s j;generalize x*((10^((k:Int) - e).toNat:Nat):Int) - fB x y e k*(y*((10^(e - (k:Int)).toNat:Nat):Int))=rest at *;generalize fB x y e k=z at *
 have kM:=fun (X:World) v (r:ak X v z)=>lS v z k X r (by omega) G hf
 obtain ⟨n1,Z,m1,c1,cu,cB,rfl,-⟩:=h1.shape;obtain ⟨Y,J,D,t,U⟩:=vk w 27 (lV 3 p n1 Z m1 c1 ⟨#[]⟩ cu 0 cB);have H:=fC (R:=bI _) (ax t aS) ⟨_,_,_,_,_,_,_,_,_,_,U⟩ D;obtain ⟨d0,d1,d2,d3,d4,d5⟩:=aD t;have hP:=H.nil;clear h1 M L F T s j E G hf D t U H;go_enter func98,ntmps98
 go_upto_region 1 with (fail)
 rw [J.out];clear J
 go_cut [7] from 8 to 17 (fun v7 W=>kJ W v7 z∧fI w Y (bI (w.heap.size+1)) [] W)
 case first =>
  go_wp2_with (first | (go_at_call 121;refine (O _ _ hB).mono ?_;rintro I A ⟨d,g,a,m,c,g9,a9,m9,c9,rfl,hC,a0⟩;have b:=ag bI.step n d) | (go_at_call 155;refine (h _ _ f.below hA).mono ?_;rintro I w2 ⟨q,v6,rfl,hB⟩;have n:=ag bI.step f q) | (go_at_call 154;refine (N _ hP.below).mono ?_;rintro I w1 ⟨o,v5,rfl,hA⟩;have f:=ag bI.step hP o))
  go_meet
  have Q:=dJ A (.cells #[.bool g,.slice a m c] 24);have S:=Q.alloc Q.size (.cells #[.bool g9,.slice a9 m9 c9] 24);exact ⟨⟨_,_,_,_,_,rfl,(af.new A 24 (lN g a m c)).alloc _,hC.below S⟩,ag bI.step b S⟩
 case rest =>
  obtain ⟨⟨b7,n7,a7,m7,c7,rfl,r7,i7⟩,sM⟩:=hcut;obtain ⟨x0,x1⟩:=aQ r7;clear N O h d0 d1 d2 d3 d4 d5 r7 hP
  go_wp2_with (go_at_call 83;refine (kM _ _ i7).mono ?_;rintro e3 A ⟨d,rfl⟩;have b:=ag bI.step sM d)
  exact ⟨rfl,b.below,rfl⟩
theorem wE (D:Value)(i:Int)(p B:Nat)(x y e:Int)(k:Nat)(r:Int)(f:Nat)(w:World)(h1:dB w D i p)(j:∀ W v,bW w W→eu W v i 1 (p:Int)→Calls prog 157 #[v,vP B] W fun n F=>bW W F∧∃ v',n=.returned v'∧eu F v' x y e)
  (Q:k≤20) (O:-2800≤e∧e≤2800) (I:x.natAbs<aj^300) (Z:y.natAbs<aj^300) (A:y≠0) (l:(x*((10^((k:Int) - e).toNat:Nat):Int)).natAbs<aj^300) (H:(y*((10^(e - (k:Int)).toNat:Nat):Int)).natAbs<aj^300) (S:least (fB x y e k) k=(r,f)) (hf:r.natAbs<aj^40) :
  Calls prog 98 #[D,.func (.func 157) #[] #[vP B],vI k] w fun n w'=>bW w w'∧∃ g a m c la lc,n=.returned (vV 3 f g a m c ⟨#[]⟩ la 0 lc)∧ak w' (vN g a m c) r:=by
 have T:=fun X (hX:bW w X)=>jl D i p X (h1.below hX)
 have U:=fun (X:World) v (u:eu X v x y e)=>gK v x y e k X u Q O I Z A l H
 have J:=jm A l;generalize x*((10^((k:Int) - e).toNat:Nat):Int) - fB x y e k*(y*((10^(e - (k:Int)).toNat:Nat):Int))=rest at *;generalize fB x y e k=z at *
 have kM:=fun (X:World) v (u:ak X v z)=>mO v z k r f X u (by omega) J S hf
 obtain ⟨n1,a1,m1,c1,cu,cB,rfl,-⟩:=h1.shape;obtain ⟨W0,N,G,C,qr⟩:=vk w 27 (lV 3 p n1 a1 m1 c1 ⟨#[]⟩ cu 0 cB);have L:=fC (R:=bI _) (ax C aS) ⟨_,_,_,_,_,_,_,_,_,_,qr⟩ G;obtain ⟨d0,d1,d2,d3,d4,d5⟩:=aD C;have hP:=L.nil;clear h1 Q O I Z A l H J S hf G C qr L;go_enter func98,ntmps98
 go_upto_region 1 with (fail)
 rw [N.out];clear N
 go_cut [7] from 8 to 17 (fun v7 W=>kJ W v7 z∧fI w W0 (bI (w.heap.size+1)) [] W)
 case first =>
  go_wp2_with (first | (go_at_call 121;refine (U _ _ hB).mono ?_;rintro M E ⟨d,g,a,m,c,g9,a9,m9,c9,rfl,o,a0⟩;have b:=ag bI.step q d) | (go_at_call 157;refine (j _ _ h.below hA).mono ?_;rintro M w2 ⟨t,v6,rfl,hB⟩;have q:=ag bI.step h t) | (go_at_call 154;refine (T _ hP.below).mono ?_;rintro M w1 ⟨s,v5,rfl,hA⟩;have h:=ag bI.step hP s))
  go_meet
  have V:=dJ E (.cells #[.bool g,.slice a m c] 24);have Y:=V.alloc V.size (.cells #[.bool g9,.slice a9 m9 c9] 24);exact ⟨⟨_,_,_,_,_,rfl,(af.new E 24 (lN g a m c)).alloc _,o.below Y⟩,ag bI.step b Y⟩
 case rest =>
  obtain ⟨⟨b7,n7,a7,m7,c7,rfl,r7,i7⟩,sM⟩:=hcut;obtain ⟨x0,x1⟩:=aQ r7;clear T U j d0 d1 d2 d3 d4 d5 r7 hP
  go_wp2_with (go_at_call 83;refine (kM _ _ i7).mono ?_;rintro e3 E ⟨d,g,a,m,c,la,lc,rfl,o⟩;have b:=ag bI.step sM d;obtain ⟨z0,z1,z2,z3,aI,aJ,z4,z5,aN,aO,hr,y0,y1,y2,y3,y4,y5,f0,f1,f2,f3,f4,f5⟩:=b.res.cells)
  obtain ⟨u0,u1,u2,u3,u4,u5⟩:=dD hr (vI 3) (vI f) (.bool g) (.slice a m c) vE (.slice la 0 lc);have hb:=(gF b dV (show w.heap.size≤w.heap.size+1 by omega) 3 (f:Int) g a m c ⟨#[]⟩ la 0 lc).below;have hO:=o.keep (bQ hr (vI 3) (vI f) (.bool g) (.slice a m c) vE (.slice la 0 lc))
  exact bodyPost_ret (v:=vV 3 f g a m c ⟨#[]⟩ la 0 lc) (by simp [results,results98,go_sem,loadCellsFrom,u0,u1,u2,u3,u4,u5]) rfl ⟨hb,_,_,_,_,_,_,rfl,hO⟩
theorem uY (u:Value)(i:Int)(p B:Nat)(x y e:Int)(k:Nat)(w:World)(h1:dB w u i p)(h:∀ W v,bW w W→eu W v i 1 (p:Int)→Calls prog 157 #[v,vP B] W fun l C=>bW W C∧∃ V,l=.returned V∧eu C V x y e)
  (M:k≤20) (L:-2800≤e∧e≤2800) (F:x.natAbs<aj^300) (T:y.natAbs<aj^300) (s:y≠0) (j:(x*((10^((k:Int) - e).toNat:Nat):Int)).natAbs<aj^300) (E:(y*((10^(e - (k:Int)).toNat:Nat):Int)).natAbs<aj^300) (hf:¬(least (fB x y e k) k).1.natAbs<aj^40) :
  Calls prog 98 #[u,.func (.func 157) #[] #[vP B],vI k] w fun l w'=>bW w w'∧l=pK 3:=by
 have N:=fun X (hX:bW w X)=>jl u i p X (h1.below hX)
 have O:=fun (X:World) v (r:eu X v x y e)=>gK v x y e k X r M L F T s j E
 have G:=jm s j;generalize x*((10^((k:Int) - e).toNat:Nat):Int) - fB x y e k*(y*((10^(e - (k:Int)).toNat:Nat):Int))=rest at *;generalize fB x y e k=z at *
 have kM:=fun (X:World) v (r:ak X v z)=>lS v z k X r (by omega) G hf
 obtain ⟨n1,Z,m1,c1,cu,cB,rfl,-⟩:=h1.shape;obtain ⟨Y,J,D,t,U⟩:=vk w 27 (lV 3 p n1 Z m1 c1 ⟨#[]⟩ cu 0 cB);have H:=fC (R:=bI _) (ax t aS) ⟨_,_,_,_,_,_,_,_,_,_,U⟩ D;obtain ⟨d0,d1,d2,d3,d4,d5⟩:=aD t;have hP:=H.nil;clear h1 M L F T s j E G hf D t U H;go_enter func98,ntmps98
 go_upto_region 1 with (fail)
 rw [J.out];clear J
 go_cut [7] from 8 to 17 (fun v7 W=>kJ W v7 z∧fI w Y (bI (w.heap.size+1)) [] W)
 case first =>
  go_wp2_with (first | (go_at_call 121;refine (O _ _ hB).mono ?_;rintro I A ⟨d,g,a,m,c,g9,a9,m9,c9,rfl,hC,a0⟩;have b:=ag bI.step n d) | (go_at_call 157;refine (h _ _ f.below hA).mono ?_;rintro I w2 ⟨q,v6,rfl,hB⟩;have n:=ag bI.step f q) | (go_at_call 154;refine (N _ hP.below).mono ?_;rintro I w1 ⟨o,v5,rfl,hA⟩;have f:=ag bI.step hP o))
  go_meet
  have Q:=dJ A (.cells #[.bool g,.slice a m c] 24);have S:=Q.alloc Q.size (.cells #[.bool g9,.slice a9 m9 c9] 24);exact ⟨⟨_,_,_,_,_,rfl,(af.new A 24 (lN g a m c)).alloc _,hC.below S⟩,ag bI.step b S⟩
 case rest =>
  obtain ⟨⟨b7,n7,a7,m7,c7,rfl,r7,i7⟩,sM⟩:=hcut;obtain ⟨x0,x1⟩:=aQ r7;clear N O h d0 d1 d2 d3 d4 d5 r7 hP
  go_wp2_with (go_at_call 83;refine (kM _ _ i7).mono ?_;rintro e3 A ⟨d,rfl⟩;have b:=ag bI.step sM d)
  exact ⟨rfl,b.below,rfl⟩
theorem uk (C:Value)(i:Int)(p:Nat)(x y e:Int)(k:Nat)(r:Int)(f:Nat)(w:World)(h1:dB w C i p)(j:∀ W v,bW w W→eu W v i 1 (p:Int)→Calls prog 112 #[v] W fun n E=>bW W E∧∃ v',n=.returned v'∧eu E v' x y e)
  (O:k≤20) (N:-2800≤e∧e≤2800) (H:x.natAbs<aj^300) (Y:y.natAbs<aj^300) (A:y≠0) (l:(x*((10^((k:Int) - e).toNat:Nat):Int)).natAbs<aj^300) (G:(y*((10^(e - (k:Int)).toNat:Nat):Int)).natAbs<aj^300) (Q:least (fB x y e k) k=(r,f)) (hf:r.natAbs<aj^40) :
  Calls prog 98 #[C,.func (.func 112) #[] #[],vI k] w fun n w'=>bW w w'∧∃ g a m c la lc,n=.returned (vV 3 f g a m c ⟨#[]⟩ la 0 lc)∧ak w' (vN g a m c) r:=by
 have S:=fun X (hX:bW w X)=>jl C i p X (h1.below hX)
 have T:=fun (X:World) v (u:eu X v x y e)=>gK v x y e k X u O N H Y A l G
 have I:=jm A l;generalize x*((10^((k:Int) - e).toNat:Nat):Int) - fB x y e k*(y*((10^(e - (k:Int)).toNat:Nat):Int))=rest at *;generalize fB x y e k=z at *
 have kM:=fun (X:World) v (u:ak X v z)=>mO v z k r f X u (by omega) I Q hf
 obtain ⟨n1,a1,m1,c1,cu,cB,rfl,-⟩:=h1.shape;obtain ⟨W0,M,F,B,Z⟩:=vk w 27 (lV 3 p n1 a1 m1 c1 ⟨#[]⟩ cu 0 cB);have J:=fC (R:=bI _) (ax B aS) ⟨_,_,_,_,_,_,_,_,_,_,Z⟩ F;obtain ⟨d0,d1,d2,d3,d4,d5⟩:=aD B;have hP:=J.nil;clear h1 O N H Y A l G I Q hf F B Z J;go_enter func98,ntmps98
 go_upto_region 1 with (fail)
 rw [M.out];clear M
 go_cut [7] from 8 to 17 (fun v7 W=>kJ W v7 z∧fI w W0 (bI (w.heap.size+1)) [] W)
 case first =>
  go_wp2_with (first | (go_at_call 121;refine (T _ _ hB).mono ?_;rintro L D ⟨d,g,a,m,c,g9,a9,m9,c9,rfl,o,a0⟩;have b:=ag bI.step q d) | (go_at_call 112;refine (j _ _ h.below hA).mono ?_;rintro L w2 ⟨t,v6,rfl,hB⟩;have q:=ag bI.step h t) | (go_at_call 154;refine (S _ hP.below).mono ?_;rintro L w1 ⟨s,v5,rfl,hA⟩;have h:=ag bI.step hP s))
  go_meet
  have U:=dJ D (.cells #[.bool g,.slice a m c] 24);have V:=U.alloc U.size (.cells #[.bool g9,.slice a9 m9 c9] 24);exact ⟨⟨_,_,_,_,_,rfl,(af.new D 24 (lN g a m c)).alloc _,o.below V⟩,ag bI.step b V⟩
 case rest =>
  obtain ⟨⟨b7,n7,a7,m7,c7,rfl,r7,i7⟩,sM⟩:=hcut;obtain ⟨x0,x1⟩:=aQ r7;clear S T j d0 d1 d2 d3 d4 d5 r7 hP
  go_wp2_with (go_at_call 83;refine (kM _ _ i7).mono ?_;rintro e3 D ⟨d,g,a,m,c,la,lc,rfl,o⟩;have b:=ag bI.step sM d;obtain ⟨z0,z1,z2,z3,aI,aJ,z4,z5,aN,aO,hr,y0,y1,y2,y3,y4,y5,f0,f1,f2,f3,f4,f5⟩:=b.res.cells)
  obtain ⟨u0,u1,u2,u3,u4,u5⟩:=dD hr (vI 3) (vI f) (.bool g) (.slice a m c) vE (.slice la 0 lc);have hb:=(gF b dV (show w.heap.size≤w.heap.size+1 by omega) 3 (f:Int) g a m c ⟨#[]⟩ la 0 lc).below;have hO:=o.keep (bQ hr (vI 3) (vI f) (.bool g) (.slice a m c) vE (.slice la 0 lc))
  exact bodyPost_ret (v:=vV 3 f g a m c ⟨#[]⟩ la 0 lc) (by simp [results,results98,go_sem,loadCellsFrom,u0,u1,u2,u3,u4,u5]) rfl ⟨hb,_,_,_,_,_,_,rfl,hO⟩
theorem rX (u:Value)(i:Int)(p:Nat)(x y e:Int)(k:Nat)(w:World)(h1:dB w u i p)(h:∀ W v,bW w W→eu W v i 1 (p:Int)→Calls prog 112 #[v] W fun l B=>bW W B∧∃ U,l=.returned U∧eu B U x y e)
  (L:k≤20) (J:-2800≤e∧e≤2800) (E:x.natAbs<aj^300) (S:y.natAbs<aj^300) (s:y≠0) (j:(x*((10^((k:Int) - e).toNat:Nat):Int)).natAbs<aj^300) (D:(y*((10^(e - (k:Int)).toNat:Nat):Int)).natAbs<aj^300) (hf:¬(least (fB x y e k) k).1.natAbs<aj^40) :
  Calls prog 98 #[u,.func (.func 112) #[] #[],vI k] w fun l w'=>bW w w'∧l=pK 3:=by
 have M:=fun X (hX:bW w X)=>jl u i p X (h1.below hX)
 have N:=fun (X:World) v (r:eu X v x y e)=>gK v x y e k X r L J E S s j D
 have F:=jm s j;generalize x*((10^((k:Int) - e).toNat:Nat):Int) - fB x y e k*(y*((10^(e - (k:Int)).toNat:Nat):Int))=rest at *;generalize fB x y e k=z at *
 have kM:=fun (X:World) v (r:ak X v z)=>lS v z k X r (by omega) F hf
 obtain ⟨n1,Y,m1,c1,cu,cB,rfl,-⟩:=h1.shape;obtain ⟨V,I,C,t,T⟩:=vk w 27 (lV 3 p n1 Y m1 c1 ⟨#[]⟩ cu 0 cB);have G:=fC (R:=bI _) (ax t aS) ⟨_,_,_,_,_,_,_,_,_,_,T⟩ C;obtain ⟨d0,d1,d2,d3,d4,d5⟩:=aD t;have hP:=G.nil;clear h1 L J E S s j D F hf C t T G;go_enter func98,ntmps98
 go_upto_region 1 with (fail)
 rw [I.out];clear I
 go_cut [7] from 8 to 17 (fun v7 W=>kJ W v7 z∧fI w V (bI (w.heap.size+1)) [] W)
 case first =>
  go_wp2_with (first | (go_at_call 121;refine (N _ _ hB).mono ?_;rintro H A ⟨d,g,a,m,c,g9,Z,m9,c9,rfl,hC,a0⟩;have b:=ag bI.step n d) | (go_at_call 112;refine (h _ _ f.below hA).mono ?_;rintro H w2 ⟨q,v6,rfl,hB⟩;have n:=ag bI.step f q) | (go_at_call 154;refine (M _ hP.below).mono ?_;rintro H w1 ⟨o,v5,rfl,hA⟩;have f:=ag bI.step hP o))
  go_meet
  have O:=dJ A (.cells #[.bool g,.slice a m c] 24);have Q:=O.alloc O.size (.cells #[.bool g9,.slice Z m9 c9] 24);exact ⟨⟨_,_,_,_,_,rfl,(af.new A 24 (lN g a m c)).alloc _,hC.below Q⟩,ag bI.step b Q⟩
 case rest =>
  obtain ⟨⟨b7,n7,a7,m7,c7,rfl,r7,i7⟩,sM⟩:=hcut;obtain ⟨x0,x1⟩:=aQ r7;clear M N h d0 d1 d2 d3 d4 d5 r7 hP
  go_wp2_with (go_at_call 83;refine (kM _ _ i7).mono ?_;rintro e3 A ⟨d,rfl⟩;have b:=ag bI.step sM d)
  exact ⟨rfl,b.below,rfl⟩
theorem um (E:Value)(i:Int)(p B C:Nat)(x y e:Int)(k:Nat)(r:Int)(f:Nat)(w:World)(h1:dB w E i p)(j:∀ W v,bW w W→eu W v i 1 (p:Int)→Calls prog 158 #[v,vP B,vP C] W fun n G=>bW W G∧∃ v',n=.returned v'∧eu G v' x y e)
  (S:k≤20) (Q:-2800≤e∧e≤2800) (J:x.natAbs<aj^300) (oP:y.natAbs<aj^300) (A:y≠0) (l:(x*((10^((k:Int) - e).toNat:Nat):Int)).natAbs<aj^300) (I:(y*((10^(e - (k:Int)).toNat:Nat):Int)).natAbs<aj^300) (T:least (fB x y e k) k=(r,f)) (hf:r.natAbs<aj^40) :
  Calls prog 98 #[E,.func (.func 158) #[] #[vP B,vP C],vI k] w fun n w'=>bW w w'∧∃ g a m c la lc,n=.returned (vV 3 f g a m c ⟨#[]⟩ la 0 lc)∧ak w' (vN g a m c) r:=by
 have U:=fun X (hX:bW w X)=>jl E i p X (h1.below hX)
 have V:=fun (X:World) v (u:eu X v x y e)=>gK v x y e k X u S Q J oP A l I
 have L:=jm A l;generalize x*((10^((k:Int) - e).toNat:Nat):Int) - fB x y e k*(y*((10^(e - (k:Int)).toNat:Nat):Int))=rest at *;generalize fB x y e k=z at *
 have kM:=fun (X:World) v (u:ak X v z)=>mO v z k r f X u (by omega) L T hf
 obtain ⟨n1,a1,m1,c1,cu,cB,rfl,-⟩:=h1.shape;obtain ⟨W0,O,H,D,qr⟩:=vk w 27 (lV 3 p n1 a1 m1 c1 ⟨#[]⟩ cu 0 cB);have M:=fC (R:=bI _) (ax D aS) ⟨_,_,_,_,_,_,_,_,_,_,qr⟩ H;obtain ⟨d0,d1,d2,d3,d4,d5⟩:=aD D;have hP:=M.nil;clear h1 S Q J oP A l I L T hf H D qr M;go_enter func98,ntmps98
 go_upto_region 1 with (fail)
 rw [O.out];clear O
 go_cut [7] from 8 to 17 (fun v7 W=>kJ W v7 z∧fI w W0 (bI (w.heap.size+1)) [] W)
 case first =>
  go_wp2_with (first | (go_at_call 121;refine (V _ _ hB).mono ?_;rintro N F ⟨d,g,a,m,c,g9,a9,m9,c9,rfl,o,a0⟩;have b:=ag bI.step q d) | (go_at_call 158;refine (j _ _ h.below hA).mono ?_;rintro N w2 ⟨t,v6,rfl,hB⟩;have q:=ag bI.step h t) | (go_at_call 154;refine (U _ hP.below).mono ?_;rintro N w1 ⟨s,v5,rfl,hA⟩;have h:=ag bI.step hP s))
  go_meet
  have Y:=dJ F (.cells #[.bool g,.slice a m c] 24);have Z:=Y.alloc Y.size (.cells #[.bool g9,.slice a9 m9 c9] 24);exact ⟨⟨_,_,_,_,_,rfl,(af.new F 24 (lN g a m c)).alloc _,o.below Z⟩,ag bI.step b Z⟩
 case rest =>
  obtain ⟨⟨b7,n7,a7,m7,c7,rfl,r7,i7⟩,sM⟩:=hcut;obtain ⟨x0,x1⟩:=aQ r7;clear U V j d0 d1 d2 d3 d4 d5 r7 hP
  go_wp2_with (go_at_call 83;refine (kM _ _ i7).mono ?_;rintro e3 F ⟨d,g,a,m,c,la,lc,rfl,o⟩;have b:=ag bI.step sM d;obtain ⟨z0,z1,z2,z3,aI,aJ,z4,z5,aN,aO,hr,y0,y1,y2,y3,y4,y5,f0,f1,f2,f3,f4,f5⟩:=b.res.cells)
  obtain ⟨u0,u1,u2,u3,u4,u5⟩:=dD hr (vI 3) (vI f) (.bool g) (.slice a m c) vE (.slice la 0 lc);have hb:=(gF b dV (show w.heap.size≤w.heap.size+1 by omega) 3 (f:Int) g a m c ⟨#[]⟩ la 0 lc).below;have hO:=o.keep (bQ hr (vI 3) (vI f) (.bool g) (.slice a m c) vE (.slice la 0 lc))
  exact bodyPost_ret (v:=vV 3 f g a m c ⟨#[]⟩ la 0 lc) (by simp [results,results98,go_sem,loadCellsFrom,u0,u1,u2,u3,u4,u5]) rfl ⟨hb,_,_,_,_,_,_,rfl,hO⟩
theorem rY (u:Value)(i:Int)(p B C:Nat)(x y e:Int)(k:Nat)(w:World)(h1:dB w u i p)(h:∀ W v,bW w W→eu W v i 1 (p:Int)→Calls prog 158 #[v,vP B,vP C] W fun l D=>bW W D∧∃ Y,l=.returned Y∧eu D Y x y e)
  (N:k≤20) (M:-2800≤e∧e≤2800) (G:x.natAbs<aj^300) (U:y.natAbs<aj^300) (s:y≠0) (j:(x*((10^((k:Int) - e).toNat:Nat):Int)).natAbs<aj^300) (F:(y*((10^(e - (k:Int)).toNat:Nat):Int)).natAbs<aj^300) (hf:¬(least (fB x y e k) k).1.natAbs<aj^40) :
  Calls prog 98 #[u,.func (.func 158) #[] #[vP B,vP C],vI k] w fun l w'=>bW w w'∧l=pK 3:=by
 have O:=fun X (hX:bW w X)=>jl u i p X (h1.below hX)
 have Q:=fun (X:World) v (r:eu X v x y e)=>gK v x y e k X r N M G U s j F
 have H:=jm s j;generalize x*((10^((k:Int) - e).toNat:Nat):Int) - fB x y e k*(y*((10^(e - (k:Int)).toNat:Nat):Int))=rest at *;generalize fB x y e k=z at *
 have kM:=fun (X:World) v (r:ak X v z)=>lS v z k X r (by omega) H hf
 obtain ⟨n1,a1,m1,c1,cu,cB,rfl,-⟩:=h1.shape;obtain ⟨Z,L,E,t,V⟩:=vk w 27 (lV 3 p n1 a1 m1 c1 ⟨#[]⟩ cu 0 cB);have I:=fC (R:=bI _) (ax t aS) ⟨_,_,_,_,_,_,_,_,_,_,V⟩ E;obtain ⟨d0,d1,d2,d3,d4,d5⟩:=aD t;have hP:=I.nil;clear h1 N M G U s j F H hf E t V I;go_enter func98,ntmps98
 go_upto_region 1 with (fail)
 rw [L.out];clear L
 go_cut [7] from 8 to 17 (fun v7 W=>kJ W v7 z∧fI w Z (bI (w.heap.size+1)) [] W)
 case first =>
  go_wp2_with (first | (go_at_call 121;refine (Q _ _ hB).mono ?_;rintro J A ⟨d,g,a,m,c,g9,a9,m9,c9,rfl,hC,a0⟩;have b:=ag bI.step n d) | (go_at_call 158;refine (h _ _ f.below hA).mono ?_;rintro J w2 ⟨q,v6,rfl,hB⟩;have n:=ag bI.step f q) | (go_at_call 154;refine (O _ hP.below).mono ?_;rintro J w1 ⟨o,v5,rfl,hA⟩;have f:=ag bI.step hP o))
  go_meet
  have S:=dJ A (.cells #[.bool g,.slice a m c] 24);have T:=S.alloc S.size (.cells #[.bool g9,.slice a9 m9 c9] 24);exact ⟨⟨_,_,_,_,_,rfl,(af.new A 24 (lN g a m c)).alloc _,hC.below T⟩,ag bI.step b T⟩
 case rest =>
  obtain ⟨⟨b7,n7,a7,m7,c7,rfl,r7,i7⟩,sM⟩:=hcut;obtain ⟨x0,x1⟩:=aQ r7;clear O Q h d0 d1 d2 d3 d4 d5 r7 hP
  go_wp2_with (go_at_call 83;refine (kM _ _ i7).mono ?_;rintro e3 A ⟨d,rfl⟩;have b:=ag bI.step sM d)
  exact ⟨rfl,b.below,rfl⟩
def mulL (x y:Int × Nat):Int × Nat:=least (fB (x.1*y.1) 1 ((x.2:Int)+(y.2:Int)) 20) 20
def vz (x y:Int × Nat):Int × Nat:=least (fB x.1 y.1 ((x.2:Int) - (y.2:Int)) 20) 20
theorem qm {n:Nat}(a:n≤40):((10^n:Nat):Int).natAbs<aj^50:=by
 have h:=iF (i:=1) (show (1:Int).natAbs<aj^40 from Qf (show 1<aj^1 by decide) (Ql aP (by decide))) a;rw [QY] at h;exact h
theorem oD:(1:Int).natAbs<aj^200:=Qf (show 1<aj^1 by decide) (Ql aP (by decide))
theorem jY {W:World}{k0:Int}{x:Int × Nat}{k:Int}{v:Value}(h0:k0=0)(h:dP W x.1 x.2 k v):dG W k0 x k v:=by
 subst h0;exact lQ h
theorem BR {n2:Bool}{a2 gm:Option Addr}{m2 c2 gp q:Nat}(w:World) :
 CB 99 #[vV 3 q n2 a2 m2 c2 ⟨#[]⟩ gm 0 gp] w fun e c=>∃ B,e=.returned (.func (.func 155) #[] #[vP B])∧af c B 27 (lV 3 q n2 a2 m2 c2 ⟨#[]⟩ gm 0 gp):=by
 have a:=dJ w (.cells #[vI 3,vI q,.bool n2,.slice a2 m2 c2,vE,.slice gm 0 gp] 27);have b:=af.new w 27 (lV 3 q n2 a2 m2 c2 ⟨#[]⟩ gm 0 gp);have d:=lK;go_enter func99,ntmps99
 go_wp2_with fail
 go_ret;exact ⟨a,_,rfl,b⟩
theorem Fx {n2:Bool}{a2 gm:Option Addr}{m2 c2 gp q:Nat}{j:Int}(w:World)(d:dB w (vV 3 q n2 a2 m2 c2 ⟨#[]⟩ gm 0 gp) j q)(g:j≠0) :
 CB 101 #[vV 3 q n2 a2 m2 c2 ⟨#[]⟩ gm 0 gp] w fun e n=>∃ B,e=.returned (.func (.func 157) #[] #[vP B])∧af n B 27 (lV 3 q n2 a2 m2 c2 ⟨#[]⟩ gm 0 gp):=by
 obtain ⟨s,o,r,p,k,l,c,f⟩:=d.shape;simp only [Value.agg.injEq,Array.mk.injEq,List.cons.injEq,Value.bool.injEq,Value.slice.injEq,and_true,true_and] at c;obtain ⟨rfl,⟨rfl,rfl,rfl⟩,rfl,rfl⟩:=c
 have h:=fun X (i:bW w X)=>jh _ j X (f.below i)
 rw [decide_eq_false g] at h;have b:=dJ w (.cells #[vI 3,vI q,.bool n2,.slice a2 m2 c2,vE,.slice gm 0 gp] 27);have m:=af.new w 27 (lV 3 q n2 a2 m2 c2 ⟨#[]⟩ gm 0 gp);have t:=lK;clear d f g;go_enter func101,ntmps101
 go_wp2_with (first | (go_at_call 144;refine (h _ b).mono ?_;rintro e w1 ⟨a,rfl⟩) | (go_at_call 106;refine (aC _ _ _ (by rfl)).mono ?_;rintro e u ⟨rfl,rfl⟩))
 go_ret;exact ⟨b.trans (a.mono b.size),_,rfl,m.below a⟩
theorem Mc {n2:Bool}{a2 gm:Option Addr}{m2 c2 gp q:Nat}{j:Int}(w:World)(d:dB w (vV 3 q n2 a2 m2 c2 ⟨#[]⟩ gm 0 gp) j q)(g:j=0) :
 CB 101 #[vV 3 q n2 a2 m2 c2 ⟨#[]⟩ gm 0 gp] w fun e _=>e=pK 20:=by
 obtain ⟨p,m,o,n,k,l,c,f⟩:=d.shape;simp only [Value.agg.injEq,Array.mk.injEq,List.cons.injEq,Value.bool.injEq,Value.slice.injEq,and_true,true_and] at c;obtain ⟨rfl,⟨rfl,rfl,rfl⟩,rfl,rfl⟩:=c
 have h:=fun X (i:bW w X)=>jh _ j X (f.below i)
 rw [decide_eq_true g] at h;have a:=dJ w (.cells #[vI 3,vI q,.bool n2,.slice a2 m2 c2,vE,.slice gm 0 gp] 27);have r:=af.new w 27 (lV 3 q n2 a2 m2 c2 ⟨#[]⟩ gm 0 gp);have s:=lK;clear d f g;go_enter func101,ntmps101
 go_wp2_with (first | (go_at_call 144;refine (h _ a).mono ?_;rintro e w1 ⟨b,rfl⟩) | (go_at_call 106;refine (bD _ _ _ (by rfl)).mono ?_;rintro e t ⟨rfl,rfl⟩))
 exact ⟨rfl,a.trans (b.mono a.size),rfl⟩
theorem EB (A B:Nat){T n2:Bool}{H a2 M gm:Option Addr}{m1 J L m2 c2 gp p q:Nat}{i j:Int}{r:Int}{n:Nat}(w:World)(E:af w A 27 (lV 3 p T H m1 J ⟨#[]⟩ M 0 L))(F:af w B 27 (lV 3 q n2 a2 m2 c2 ⟨#[]⟩ gm 0 gp))(h1:dB w (vV 3 p T H m1 J ⟨#[]⟩ M 0 L) i p)(y:dB w (vV 3 q n2 a2 m2 c2 ⟨#[]⟩ gm 0 gp) j q)(hl:mulL (i,p) (j,q)=(r,n))(hf:r.natAbs<aj^40) :
 CB 97 #[vP A,vP B] w fun e w'=>∃ v,e=.returned v∧dX w' v r n:=by
 have hp:=h1.hi;have hq:=y.hi;have C:=h1.abs;have I:=y.abs;have D:=jb C I
 have Q:=fun X (G:bW w X) u (Z:af X u 27 (lV 3 q n2 a2 m2 c2 ⟨#[]⟩ gm 0 gp))=>uX _ i p u (i*j) 1 ((p:Int)+(q:Int)) 20 r n X (h1.below G) (fun W v s hv=>yz v u W hv (Z.below s) (y.below (G.trans (s.mono G.size))) (az C (by decide)) oD (by omega)) (by decide) (by omega) (az D (by decide)) (az oD (by decide)) (by decide) (az (jb D (qm (by omega))) (by decide)) (by rw [QY];exact az (qm (by omega)) (by decide)) hl hf
 have S:=fun (X:World) (_:bW w X)=>BR (n2:=n2) (a2:=a2) (gm:=gm) (m2:=m2) (c2:=c2) (gp:=gp) (q:=q) X
 obtain ⟨W0,s,x,V⟩:=qD w;have U:=E.lt;have k:=F.lt;have N:=fC (R:=bI _) (ax (E.below x) (ax (F.below x) aS)) ⟨_,_,_,_,_,_,_,_,_,_,V⟩ x
 have z:=yO N fun X h=>(ik h.r0 (aD h.r1):)
 have t:Hid (A≠w.heap.size):=Qa (Qg U);have iR:Hid (B≠w.heap.size):=Qa (Qg k);clear E F V x U k h1 hp hq C I y D;go_enter func97,ntmps97
 go_upto_region 1 with (fail)
 rw [s.out];clear s
 go_wp2_with fail
 refine bB z (bY bI.drew N) fun X0 d=>?_
 refine tk 0 d ?_;refine tk 1 d ?_
 refine rd 2 fun o f=>?_
 have hP:=d.2
 go_wp2_with (go_at_call 99;refine (S _ hP.below).mono ?_;rintro e wk ⟨b,u,rfl,l⟩)
 refine aT f z (ag bI.step hP b) fun d=>?_
 clear f o hP b
 refine rd 3 fun o f=>?_
 have hP:=d.2
 go_wp2_with (go_at_call 98;refine (Q _ hP.below _ l).mono ?_;rintro e wk ⟨b,g,a,m,c,la,lc,rfl,O⟩)
 replace l:=l.below b
 refine aT f z (ag bI.step hP b) fun d=>?_
 clear f o hP b
 refine rd 4 fun o f=>?_
 have hP:=d.2;obtain ⟨z0,z1,z2,z3,aI,aJ,z4,z5,aN,aO,hr,y0,y1,y2,y3,y4,y5,f0,f1,f2,f3,f4,f5⟩:=hP.res.cells;clear S Q
 go_wp2_with fail
 refine aT f z (gF hP (aZ t.out (aZ iR.out dV)) (Qb _) 3 (n:Int) g a m c ⟨#[]⟩ la 0 lc) fun d=>?_
 clear f o;obtain ⟨u0,u1,u2,u3,u4,u5⟩:=dD hr (vI 3) (vI n) (.bool g) (.slice a m c) vE (.slice la 0 lc);refine wpAnyH_done (by kernel_rfl) ?_ _;have hb:=d.2.below;have Y:=O.keep (bQ hr (vI 3) (vI n) (.bool g) (.slice a m c) vE (.slice la 0 lc));clear d hP O
 go_wp2_with fail
 exact bodyPost_ret (v:=vV 3 n g a m c ⟨#[]⟩ la 0 lc) (by simp [results,results97,go_sem,loadCellsFrom,u0,u1,u2,u3,u4,u5]) rfl ⟨hb,_,rfl,g,a,m,c,la,lc,rfl,Y⟩
theorem CR (A B:Nat){H n2:Bool}{x a2 D gm:Option Addr}{m1 z C m2 c2 gp p q:Nat}{i j:Int}(w:World)(o:af w A 27 (lV 3 p H x m1 z ⟨#[]⟩ D 0 C))(r:af w B 27 (lV 3 q n2 a2 m2 c2 ⟨#[]⟩ gm 0 gp))(h1:dB w (vV 3 p H x m1 z ⟨#[]⟩ D 0 C) i p)(k:dB w (vV 3 q n2 a2 m2 c2 ⟨#[]⟩ gm 0 gp) j q)(hf:¬(mulL (i,p) (j,q)).1.natAbs<aj^40) :
 CB 97 #[vP A,vP B] w fun e _=>e=pK 3:=by
 have M:=h1.hi;have N:=k.hi;have m:=h1.abs;have y:=k.abs;have n:=jb m y
 have Q:=fun X (t:bW w X) f (L:af X f 27 (lV 3 q n2 a2 m2 c2 ⟨#[]⟩ gm 0 gp))=>uj _ i p f (i*j) 1 ((p:Int)+(q:Int)) 20 X (h1.below t) (fun W v d O=>yz v f W O (L.below d) (k.below (t.trans (d.mono t.size))) (az m (by decide)) oD (by omega)) (by decide) (by omega) (az n (by decide)) (az oD (by decide)) (by decide) (az (jb n (qm (by omega))) (by decide)) (by rw [QY];exact az (qm (by omega)) (by decide)) hf
 have S:=fun (X:World) (_:bW w X)=>BR (n2:=n2) (a2:=a2) (gm:=gm) (m2:=m2) (c2:=c2) (gp:=gp) (q:=q) X
 obtain ⟨U,d,g,J⟩:=qD w;have I:=o.lt;have b:=r.lt;have E:=fC (R:=bI _) (ax (o.below g) (ax (r.below g) aS)) ⟨_,_,_,_,_,_,_,_,_,_,J⟩ g
 have F:=yO E fun X h=>(ik h.r0 (aD h.r1):)
 have G:Hid (A≠w.heap.size):=Qa (Qg I);have Y:Hid (B≠w.heap.size):=Qa (Qg b);clear o r J g I b h1 M N m y k n;go_enter func97,ntmps97
 go_upto_region 1 with (fail)
 rw [d.out];clear d
 go_wp2_with fail
 refine bB F (bY bI.drew E) fun V c=>?_
 refine tk 0 c ?_;refine tk 1 c ?_
 refine rd 2 fun u l=>?_
 have hP:=c.2
 go_wp2_with (go_at_call 99;refine (S _ hP.below).mono ?_;rintro e T ⟨a,f,rfl,s⟩)
 refine aT l F (ag bI.step hP a) fun c=>?_
 clear l u hP a
 refine rd 3 fun u l=>?_
 have hP:=c.2
 go_wp2_with (go_at_call 98;refine (Q _ hP.below _ s).mono ?_;rintro e T ⟨a,rfl⟩)
 exact ⟨rfl,hP.below.trans (a.mono hP.below.size),rfl⟩
theorem EC (A B:Nat){T n2:Bool}{H a2 L gm:Option Addr}{m1 I J m2 c2 gp p q:Nat}{i j:Int}{r:Int}{n:Nat}(w:World)(F:af w A 27 (lV 3 p T H m1 I ⟨#[]⟩ L 0 J))(G:af w B 27 (lV 3 q n2 a2 m2 c2 ⟨#[]⟩ gm 0 gp))(h1:dB w (vV 3 p T H m1 I ⟨#[]⟩ L 0 J) i p)(s:dB w (vV 3 q n2 a2 m2 c2 ⟨#[]⟩ gm 0 gp) j q)(O:j≠0)(hl:vz (i,p) (j,q)=(r,n))(hf:r.natAbs<aj^40) :
 CB 100 #[vP A,vP B] w fun e w'=>∃ v,e=.returned v∧dX w' v r n:=by
 have hp:=h1.hi;have hq:=s.hi;have C:=h1.abs;have E:=s.abs
 have Q:=fun X (u:bW w X) y (Z:af X y 27 (lV 3 q n2 a2 m2 c2 ⟨#[]⟩ gm 0 gp))=>wE _ i p y i (1*j) ((p:Int) - (q:Int)) 20 r n X (h1.below u) (fun W v t hv=>zW v y W hv (Z.below t) (s.below (u.trans (t.mono u.size))) (az C (by decide)) oD (by omega)) (by decide) (by omega) (az C (by decide)) (by rw [QY];exact az E (by decide)) (by rw [QY];exact O) (az (jb C (qm (by omega))) (by decide)) (by rw [QY];exact az (jb E (qm (by omega))) (by decide)) (by rw [QY];exact hl) hf
 have S:=fun (X:World) (u:bW w X)=>Fx X (s.below u) O
 obtain ⟨W0,t,z,V⟩:=qD w;have U:=F.lt;have k:=G.lt;have M:=fC (R:=bI _) (ax (F.below z) (ax (G.below z) aS)) ⟨_,_,_,_,_,_,_,_,_,_,V⟩ z
 have D:=yO M fun X h=>(ik h.r0 (aD h.r1):)
 have x:Hid (A≠w.heap.size):=Qa (Qg U);have iR:Hid (B≠w.heap.size):=Qa (Qg k);clear F G V z U k h1 hp hq C E s;go_enter func100,ntmps100
 go_upto_region 1 with (fail)
 rw [t.out];clear t
 go_wp2_with fail
 refine bB D (bY bI.drew M) fun X0 d=>?_
 refine tk 0 d ?_;refine tk 1 d ?_
 refine rd 2 fun o f=>?_
 have hP:=d.2
 go_wp2_with (go_at_call 101;refine (S _ hP.below).mono ?_;rintro e wk ⟨b,y,rfl,l⟩)
 refine aT f D (ag bI.step hP b) fun d=>?_
 clear f o hP b
 refine rd 3 fun o f=>?_
 have hP:=d.2
 go_wp2_with (go_at_call 98;refine (Q _ hP.below _ l).mono ?_;rintro e wk ⟨b,g,a,m,c,la,lc,rfl,N⟩)
 replace l:=l.below b
 refine aT f D (ag bI.step hP b) fun d=>?_
 clear f o hP b
 refine rd 4 fun o f=>?_
 have hP:=d.2;obtain ⟨z0,z1,z2,z3,aI,aJ,z4,z5,aN,aO,hr,y0,y1,y2,y3,y4,y5,f0,f1,f2,f3,f4,f5⟩:=hP.res.cells;clear S Q
 go_wp2_with fail
 refine aT f D (gF hP (aZ x.out (aZ iR.out dV)) (Qb _) 3 (n:Int) g a m c ⟨#[]⟩ la 0 lc) fun d=>?_
 clear f o;obtain ⟨u0,u1,u2,u3,u4,u5⟩:=dD hr (vI 3) (vI n) (.bool g) (.slice a m c) vE (.slice la 0 lc);refine wpAnyH_done (by kernel_rfl) ?_ _;have hb:=d.2.below;have Y:=N.keep (bQ hr (vI 3) (vI n) (.bool g) (.slice a m c) vE (.slice la 0 lc));clear d hP N
 go_wp2_with fail
 exact bodyPost_ret (v:=vV 3 n g a m c ⟨#[]⟩ la 0 lc) (by simp [results,results100,go_sem,loadCellsFrom,u0,u1,u2,u3,u4,u5]) rfl ⟨hb,_,rfl,g,a,m,c,la,lc,rfl,Y⟩
theorem CS (A B:Nat){H n2:Bool}{x a2 C gm:Option Addr}{m1 y z m2 c2 gp p q:Nat}{i j:Int}(w:World)(r:af w A 27 (lV 3 p H x m1 y ⟨#[]⟩ C 0 z))(s:af w B 27 (lV 3 q n2 a2 m2 c2 ⟨#[]⟩ gm 0 gp))(h1:dB w (vV 3 p H x m1 y ⟨#[]⟩ C 0 z) i p)(d:dB w (vV 3 q n2 a2 m2 c2 ⟨#[]⟩ gm 0 gp) j q)(F:j≠0)(hf:¬(vz (i,p) (j,q)).1.natAbs<aj^40) :
 CB 100 #[vP A,vP B] w fun e _=>e=pK 3:=by
 have M:=h1.hi;have N:=d.hi;have m:=h1.abs;have o:=d.abs
 have Q:=fun X (g:bW w X) k (L:af X k 27 (lV 3 q n2 a2 m2 c2 ⟨#[]⟩ gm 0 gp))=>uY _ i p k i (1*j) ((p:Int) - (q:Int)) 20 X (h1.below g) (fun W v f O=>zW v k W O (L.below f) (d.below (g.trans (f.mono g.size))) (az m (by decide)) oD (by omega)) (by decide) (by omega) (az m (by decide)) (by rw [QY];exact az o (by decide)) (by rw [QY];exact F) (az (jb m (qm (by omega))) (by decide)) (by rw [QY];exact az (jb o (qm (by omega))) (by decide)) (by rw [QY];exact hf)
 have S:=fun (X:World) (g:bW w X)=>Fx X (d.below g) F
 obtain ⟨U,f,l,J⟩:=qD w;have I:=r.lt;have b:=s.lt;have D:=fC (R:=bI _) (ax (r.below l) (ax (s.below l) aS)) ⟨_,_,_,_,_,_,_,_,_,_,J⟩ l
 have E:=yO D fun X h=>(ik h.r0 (aD h.r1):)
 have G:Hid (A≠w.heap.size):=Qa (Qg I);have Y:Hid (B≠w.heap.size):=Qa (Qg b);clear r s J l I b h1 M N m o d;go_enter func100,ntmps100
 go_upto_region 1 with (fail)
 rw [f.out];clear f
 go_wp2_with fail
 refine bB E (bY bI.drew D) fun V c=>?_
 refine tk 0 c ?_;refine tk 1 c ?_
 refine rd 2 fun u n=>?_
 have hP:=c.2
 go_wp2_with (go_at_call 101;refine (S _ hP.below).mono ?_;rintro e T ⟨a,k,rfl,t⟩)
 refine aT n E (ag bI.step hP a) fun c=>?_
 clear n u hP a
 refine rd 3 fun u n=>?_
 have hP:=c.2
 go_wp2_with (go_at_call 98;refine (Q _ hP.below _ t).mono ?_;rintro e T ⟨a,rfl⟩)
 exact ⟨rfl,hP.below.trans (a.mono hP.below.size),rfl⟩
theorem CU (A B:Nat){u n2:Bool}{k a2 n gm:Option Addr}{m1 l m m2 c2 gp p q:Nat}{i j:Int}(w:World)(d:af w A 27 (lV 3 p u k m1 l ⟨#[]⟩ n 0 m))(f:af w B 27 (lV 3 q n2 a2 m2 c2 ⟨#[]⟩ gm 0 gp))(_h1:dB w (vV 3 p u k m1 l ⟨#[]⟩ n 0 m) i p)(r:dB w (vV 3 q n2 a2 m2 c2 ⟨#[]⟩ gm 0 gp) j q)(C:j=0)  :
 CB 100 #[vP A,vP B] w fun e _=>e=pK 20:=by
 have D:=fun (X:World) (z:bW w X)=>Mc X (r.below z) C
 obtain ⟨F,s,b,x⟩:=qD w;have v:=d.lt;have a:=f.lt;have o:=fC (R:=bI _) (ax (d.below b) (ax (f.below b) aS)) ⟨_,_,_,_,_,_,_,_,_,_,x⟩ b
 have y:=yO o fun X h=>(ik h.r0 (aD h.r1):)
 have t:Hid (A≠w.heap.size):=Qa (Qg v);have I:Hid (B≠w.heap.size):=Qa (Qg a);clear d f x b v a _h1 r;go_enter func100,ntmps100
 go_upto_region 1 with (fail)
 rw [s.out];clear s
 go_wp2_with fail
 refine bB y (bY bI.drew o) fun G c=>?_
 refine tk 0 c ?_;refine tk 1 c ?_
 refine rd 2 fun E H=>?_
 have hP:=c.2
 go_wp2_with (go_at_call 101;refine (D _ hP.below).mono ?_;rintro e J ⟨g,rfl⟩)
 exact ⟨rfl,hP.below.trans (g.mono hP.below.size),rfl⟩
theorem NA (va vb:Value)(D E:Option (Int × Nat))(w:World)(h1:Fm w va D)(h2:Fm w vb E) :
  Calls prog 30 #[va,vb] w fun e H=>bW w H∧∃ l o q s d f t u g j,∃ k:Int,e=.returned (.tuple #[vV l o q s d f t u g j,vI k])∧dG H (qE (fun _ _=>0) D E) (sQ mulL D E) k (vV l o q s d f t u g j):=by
 obtain ⟨O,U,A,J,m1,L,F,N,S,M,rfl⟩:=h1.kY;obtain ⟨Q,n2,B,a2,m2,c2,G,gm,T,gp,rfl⟩:=h2.kY
 have a7:∀ C b,bW w C→af C w.heap.size 27 (lV O U A J m1 L F N S M)→af C (w.heap.size+1) 27 (lV Q n2 B a2 m2 c2 G gm T gp)→af C b 27 [vI O,vI U,.bool A,.slice J m1 L,.string F,.slice N S M,vI Q,vI n2,.bool B,.slice a2 m2 c2,.string G,.slice gm T gp]→Calls prog 88 #[.func (.func 97) #[] #[vP w.heap.size,vP (w.heap.size+1)],.slice (some ⟨b,0,none⟩) 2 2] C fun e H=>bW C H∧∃ l o q s d f t u g j,∃ k:Int,e=.returned (.tuple #[vV l o q s d f t u g j,vI k])∧dG H (qE (fun _ _=>0) D E) (sQ mulL D E) k (vV l o q s d f t u g j):=by
  intro C b Z r1 r2 row;refine pE _ _ b 2 C (fun k W v=>dG W (qE (fun _ _=>0) D E) (sQ mulL D E) k v) (fun _ _ _ _ h hk=>h.keep hk) (fun I h4 A B g3=>?_)
  have hz:∀ K:Int,K≠0→(qE (fun _ _=>0) D E)=K→∀ W,bW I W→∃ k,(k=0∧pK K=.returned (.tuple #[])∨pK K=pK k)∧dF (fun i=>i=C.heap.size+1+1) I W∧∃ l o q s d f t u g j,af W (C.heap.size+1+1) 27 (lV l o q s d f t u g j)∧dG W (qE (fun _ _=>0) D E) (sQ mulL D E) k (vV l o q s d f t u g j):=fun K hK hk W z=>⟨K,.inr rfl,(dF.refl _ I).aU z,0,0,false,none,0,0,⟨#[]⟩,none,0,0,g3.below z,by rw [hk];exact jX hK⟩
  have ja:=row.below h4;have F:=r1.below h4;have G:=r2.below h4;have V:=h1.below (Z.trans (h4.mono Z.size));have X:=h2.below (Z.trans (h4.mono Z.size))
  cases D with
  | none =>
   refine (ug C.heap.size b 97 #[vP w.heap.size,vP (w.heap.size+1)] I A B g3 ja V).mono ?_;rintro e W ⟨z,rfl⟩;exact hz 2 (by decide) rfl W z
  | some x =>
   cases E with
   | none =>
    refine (uh C.heap.size b 97 #[vP w.heap.size,vP (w.heap.size+1)] I A B g3 ja V X).mono ?_;rintro e W ⟨z,rfl⟩;exact hz 2 (by decide) rfl W z
   | some y =>
    have V:dB I _ x.1 x.2:=V;have X:dB I _ y.1 y.2:=X;obtain ⟨n5,a5,m5,c5,ab,ae,e1,-⟩:=V.shape;obtain ⟨n6,a6,m6,c6,ad,ag,e2,-⟩:=X.shape;simp only [Value.agg.injEq,Array.mk.injEq,List.cons.injEq,Value.int.injEq,Value.bool.injEq,Value.slice.injEq,Value.string.injEq,and_true,true_and] at e1 e2;obtain ⟨rfl,rfl,rfl,⟨rfl,rfl,rfl⟩,rfl,rfl,rfl,rfl⟩:=e1
    obtain ⟨rfl,rfl,rfl,⟨rfl,rfl,rfl⟩,rfl,rfl,rfl,rfl⟩:=e2
    by_cases hf:(mulL x y).1.natAbs<aj^40
    ·obtain ⟨r,q9,a0⟩:∃ r q9,mulL x y=(r,q9):=⟨_,_,rfl⟩
     rw [a0] at hf;refine (uf C.heap.size b 97 #[vP w.heap.size,vP (w.heap.size+1)] I A B g3 ja V X (fun W v=>dX W v r q9) (fun _ _ _ h hk=>h.keep hk) (fun W v h=>?_) (fun W=>by simp [go_sem]) (fun W z=>EB _ _ W (F.below z) (G.below z) (V.below z) (X.below z) a0 hf)).mono ?_
     ·obtain ⟨n,a,m,c,la,lc,rfl,-⟩:=h
      exact ⟨_,_,_,_,_,_,_,_,_,_,rfl⟩
     ·rintro e W ⟨rfl,hC,l,o,q,s,d,f,t,u,g,j,hr,hD⟩
      refine ⟨0,.inl ⟨rfl,rfl⟩,hC,l,o,q,s,d,f,t,u,g,j,hr,?_⟩;refine lQ ?_
      show dP W (mulL x y).1 (mulL x y).2 0 _
      rw [a0];unfold dP;rw [if_pos hf];exact ⟨rfl,hD⟩
    ·refine (qc C.heap.size b 97 #[vP w.heap.size,vP (w.heap.size+1)] I A B g3 ja V X (fun W=>by simp [go_sem]) 3 (fun W z=>CR _ _ W (F.below z) (G.below z) (V.below z) (X.below z) hf)).mono ?_
     rintro e W ⟨z,rfl⟩;refine ⟨3,.inr rfl,(dF.refl _ I).aU z,0,0,false,none,0,0,⟨#[]⟩,none,0,0,g3.below z,?_⟩;refine lQ ?_
     show dP W (mulL x y).1 (mulL x y).2 3 _
     unfold dP;rw [if_neg hf];exact ⟨rfl,rfl⟩
 obtain ⟨Y,z,b0,q1,q2,qr⟩:=BC w 27 (lV O U A J m1 L F N S M) 27 (lV Q n2 B a2 m2 c2 G gm T gp);have dH:=fC (R:=bI _) (ax q1 (ax q2 aS)) ⟨_,_,_,_,_,_,_,_,_,_,qr⟩ b0;obtain ⟨d0,d1,d2,d3,d4,d5⟩:=aD q1;obtain ⟨e0,e1,e2,e3,e4,e5⟩:=aD q2
 have b5:=b0.alloc b0.size (.cells #[vI O,vI U,.bool A,.slice J m1 L,.string F,.slice N S M,vI Q,vI n2,.bool B,.slice a2 m2 c2,.string G,.slice gm T gp] 27);have gY:=a7 _ Y.heap.size b5 (q1.alloc _) (q2.alloc _) (af.new Y 27 [vI O,vI U,.bool A,.slice J m1 L,.string F,.slice N S M,vI Q,vI n2,.bool B,.slice a2 m2 c2,.string G,.slice gm T gp]);have uZ:=lK
 obtain ⟨R,hR⟩:∃ R:World→Int→Value→Prop,R=fun W k v=>dG W (qE (fun _ _=>0) D E) (sQ mulL D E) k v:=⟨_,rfl⟩
 have a8:∀ W W' k v,R W k v→(∀ v xs,Reads .u32 W v xs→Reads .u32 W' v xs)→R W' k v:=by
  rw [hR]
  exact fun _ _ _ _ h hk=>h.keep hk
 replace gY:Calls prog 88 #[.func (.func 97) #[] #[vP w.heap.size,vP (w.heap.size+1)],.slice (some ⟨Y.heap.size,0,none⟩) 2 2] (Y.alloc (.cells ([vI O,vI U,.bool A,.slice J m1 L,.string F,.slice N S M,vI Q,vI n2,.bool B,.slice a2 m2 c2,.string G,.slice gm T gp]:List Value).toArray 27)) fun e H=>Below (Y.alloc (.cells ([vI O,vI U,.bool A,.slice J m1 L,.string F,.slice N S M,vI Q,vI n2,.bool B,.slice a2 m2 c2,.string G,.slice gm T gp]:List Value).toArray 27)).heap.size (Y.alloc (.cells ([vI O,vI U,.bool A,.slice J m1 L,.string F,.slice N S M,vI Q,vI n2,.bool B,.slice a2 m2 c2,.string G,.slice gm T gp]:List Value).toArray 27)) H∧∃ l o q s d f t u g j,∃ k:Int,e=.returned (.tuple #[vV l o q s d f t u g j,vI k])∧R H k (vV l o q s d f t u g j):=by
  refine gY.mono ?_;rintro e w9 ⟨Z,l,o,q,s,d,f,t,u,g,j,k,he,hr⟩;rw [hR];exact ⟨Z,l,o,q,s,d,f,t,u,g,j,k,he,hr⟩
 suffices main:Calls prog 30 #[vV O U A J m1 L F N S M,vV Q n2 B a2 m2 c2 G gm T gp] w fun e H=>bW w H∧∃ l o q s d f t u g j,∃ k:Int,e=.returned (.tuple #[vV l o q s d f t u g j,vI k])∧R H k (vV l o q s d f t u g j) by
  refine main.mono ?_;rintro e w9 ⟨Z,l,o,q,s,d,f,t,u,g,j,k,he,hr⟩;rw [hR] at hr;exact ⟨Z,l,o,q,s,d,f,t,u,g,j,k,he,hr⟩
 have aa:fI w Y (bI (w.heap.size+1+1)) [(w.heap.size,27,(lV O U A J m1 L F N S M)),(w.heap.size+1,27,(lV Q n2 B a2 m2 c2 G gm T gp))] Y:=dH;clear a7 hR h1 h2 b0 q1 q2 dH;go_enter func30,ntmps30
 go_upto_region 1 with (fail)
 rw [z.out];clear z
 go_wp2_with (refine gY.mono ?_;rintro e w3 ⟨a3,l,o,q,s,d,f,t,u,g,j,k,rfl,a4⟩;have b6:=b5.trans (a3.mono b5.size);have q3:=(qr.alloc _).below a3;obtain ⟨y0,y1,y2,y3,y4,y5,f0,D,E,f3,f4,f5⟩:=df q3)
 obtain ⟨u0,u1,u2,u3,u4,u5⟩:=dD q3 (vI l) (vI o) (.bool q) (.slice s d f) (.string t) (.slice u g j)
 have a9:=((((((b6.setCell (show w.heap.size≤w.heap.size+1+1 by omega) (p:=⟨w.heap.size+1+1,0,none⟩) (vI l)).setCell (show w.heap.size≤w.heap.size+1+1 by omega) (p:=⟨w.heap.size+1+1,1,none⟩) (vI o)).setCell (show w.heap.size≤w.heap.size+1+1 by omega) (p:=⟨w.heap.size+1+1,2,none⟩) (.bool q)).setCell (show w.heap.size≤w.heap.size+1+1 by omega) (p:=⟨w.heap.size+1+1,3,none⟩) (.slice s d f)).setCell (show w.heap.size≤w.heap.size+1+1 by omega) (p:=⟨w.heap.size+1+1,4,none⟩) (.string t)).setCell (show w.heap.size≤w.heap.size+1+1 by omega) (p:=⟨w.heap.size+1+1,5,none⟩) (.slice u g j))
 exact bodyPost_ret (v:=.tuple #[vV l o q s d f t u g j,vI k]) (by simp [results,results30,go_sem,loadCellsFrom,u0,u1,u2,u3,u4,u5]) rfl ⟨a9,l,o,q,s,d,f,t,u,g,j,k,rfl,a8 _ _ _ _ a4 (bQ q3 (vI l) (vI o) (.bool q) (.slice s d f) (.string t) (.slice u g j))⟩
theorem BS (va vb:Value)(D E:Option (Int × Nat))(w:World)(h1:Fm w va D)(h2:Fm w vb E) :
  Calls prog 31 #[va,vb] w fun e L=>bW w L∧∃ o q s t f g u z j l,∃ k:Int,e=.returned (.tuple #[vV o q s t f g u z j l,vI k])∧dG L (qE (fun _ y=>if y.1=0 then 20 else 0) D E) (sQ vz D E) k (vV o q s t f g u z j l):=by
 obtain ⟨T,Y,A,N,m1,O,F,S,V,Q,rfl⟩:=h1.kY;obtain ⟨U,n2,B,a2,m2,c2,G,gm,X,gp,rfl⟩:=h2.kY
 have a8:∀ C b,bW w C→af C w.heap.size 27 (lV T Y A N m1 O F S V Q)→af C (w.heap.size+1) 27 (lV U n2 B a2 m2 c2 G gm X gp)→af C b 27 [vI T,vI Y,.bool A,.slice N m1 O,.string F,.slice S V Q,vI U,vI n2,.bool B,.slice a2 m2 c2,.string G,.slice gm X gp]→Calls prog 88 #[.func (.func 100) #[] #[vP w.heap.size,vP (w.heap.size+1)],.slice (some ⟨b,0,none⟩) 2 2] C fun e L=>bW C L∧∃ o q s t f g u z j l,∃ k:Int,e=.returned (.tuple #[vV o q s t f g u z j l,vI k])∧dG L (qE (fun _ y=>if y.1=0 then 20 else 0) D E) (sQ vz D E) k (vV o q s t f g u z j l):=by
  intro C b hb r1 r2 row;refine pE _ _ b 2 C (fun k W v=>dG W (qE (fun _ y=>if y.1=0 then 20 else 0) D E) (sQ vz D E) k v) (fun _ _ _ _ h hk=>h.keep hk) (fun I h4 A B g3=>?_)
  have hz:∀ K:Int,K≠0→(qE (fun _ y=>if y.1=0 then 20 else 0) D E)=K→∀ W,bW I W→∃ k,(k=0∧pK K=.returned (.tuple #[])∨pK K=pK k)∧dF (fun i=>i=C.heap.size+1+1) I W∧∃ o q s t f g u z j l,af W (C.heap.size+1+1) 27 (lV o q s t f g u z j l)∧dG W (qE (fun _ y=>if y.1=0 then 20 else 0) D E) (sQ vz D E) k (vV o q s t f g u z j l):=fun K hK hk W d=>⟨K,.inr rfl,(dF.refl _ I).aU d,0,0,false,none,0,0,⟨#[]⟩,none,0,0,g3.below d,by rw [hk];exact jX hK⟩
  have ja:=row.below h4;have F:=r1.below h4;have G:=r2.below h4;have H:=h1.below (hb.trans (h4.mono hb.size));have M:=h2.below (hb.trans (h4.mono hb.size))
  cases D with
  | none =>
   refine (ug C.heap.size b 100 #[vP w.heap.size,vP (w.heap.size+1)] I A B g3 ja H).mono ?_;rintro e W ⟨d,rfl⟩;exact hz 2 (by decide) rfl W d
  | some x =>
   cases E with
   | none =>
    refine (uh C.heap.size b 100 #[vP w.heap.size,vP (w.heap.size+1)] I A B g3 ja H M).mono ?_;rintro e W ⟨d,rfl⟩;exact hz 2 (by decide) rfl W d
   | some y =>
    have H:dB I _ x.1 x.2:=H;have M:dB I _ y.1 y.2:=M;obtain ⟨n5,a5,m5,c5,ad,ag,e1,-⟩:=H.shape;obtain ⟨n6,a6,m6,c6,ae,ah,e2,-⟩:=M.shape;simp only [Value.agg.injEq,Array.mk.injEq,List.cons.injEq,Value.int.injEq,Value.bool.injEq,Value.slice.injEq,Value.string.injEq,and_true,true_and] at e1 e2;obtain ⟨rfl,rfl,rfl,⟨rfl,rfl,rfl⟩,rfl,rfl,rfl,rfl⟩:=e1
    obtain ⟨rfl,rfl,rfl,⟨rfl,rfl,rfl⟩,rfl,rfl,rfl,rfl⟩:=e2
    by_cases J:y.1=0
    ·refine (qc C.heap.size b 100 #[vP w.heap.size,vP (w.heap.size+1)] I A B g3 ja H M (fun W=>by simp [go_sem]) 20 (fun W d=>CU _ _ W (F.below d) (G.below d) (H.below d) (M.below d) J)).mono ?_
     rintro e W ⟨d,rfl⟩;exact hz 20 (by decide) (if_pos J) W d
    have a4:(if y.1=0 then (20:Int) else 0)=0:=if_neg J
    by_cases hf:(vz x y).1.natAbs<aj^40
    ·obtain ⟨r,q9,a0⟩:∃ r q9,vz x y=(r,q9):=⟨_,_,rfl⟩
     rw [a0] at hf;refine (uf C.heap.size b 100 #[vP w.heap.size,vP (w.heap.size+1)] I A B g3 ja H M (fun W v=>dX W v r q9) (fun _ _ _ h hk=>h.keep hk) (fun W v h=>?_) (fun W=>by simp [go_sem]) (fun W d=>EC _ _ W (F.below d) (G.below d) (H.below d) (M.below d) J a0 hf)).mono ?_
     ·obtain ⟨n,a,m,c,la,lc,rfl,-⟩:=h
      exact ⟨_,_,_,_,_,_,_,_,_,_,rfl⟩
     ·rintro e W ⟨rfl,hC,o,q,s,t,f,g,u,z,j,l,hr,hD⟩
      refine ⟨0,.inl ⟨rfl,rfl⟩,hC,o,q,s,t,f,g,u,z,j,l,hr,?_⟩;refine jY a4 ?_
      show dP W (vz x y).1 (vz x y).2 0 _
      rw [a0];unfold dP;rw [if_pos hf];exact ⟨rfl,hD⟩
    ·refine (qc C.heap.size b 100 #[vP w.heap.size,vP (w.heap.size+1)] I A B g3 ja H M (fun W=>by simp [go_sem]) 3 (fun W d=>CS _ _ W (F.below d) (G.below d) (H.below d) (M.below d) J hf)).mono ?_
     rintro e W ⟨d,rfl⟩;refine ⟨3,.inr rfl,(dF.refl _ I).aU d,0,0,false,none,0,0,⟨#[]⟩,none,0,0,g3.below d,?_⟩;refine jY a4 ?_
     show dP W (vz x y).1 (vz x y).2 3 _
     unfold dP;rw [if_neg hf];exact ⟨rfl,rfl⟩
 obtain ⟨Z,d,b0,q1,q2,qr⟩:=BC w 27 (lV T Y A N m1 O F S V Q) 27 (lV U n2 B a2 m2 c2 G gm X gp);have dH:=fC (R:=bI _) (ax q1 (ax q2 aS)) ⟨_,_,_,_,_,_,_,_,_,_,qr⟩ b0;obtain ⟨d0,d1,d2,d3,d4,d5⟩:=aD q1;obtain ⟨e0,e1,e2,e3,e4,e5⟩:=aD q2
 have b5:=b0.alloc b0.size (.cells #[vI T,vI Y,.bool A,.slice N m1 O,.string F,.slice S V Q,vI U,vI n2,.bool B,.slice a2 m2 c2,.string G,.slice gm X gp] 27);have gY:=a8 _ Z.heap.size b5 (q1.alloc _) (q2.alloc _) (af.new Z 27 [vI T,vI Y,.bool A,.slice N m1 O,.string F,.slice S V Q,vI U,vI n2,.bool B,.slice a2 m2 c2,.string G,.slice gm X gp]);have uZ:=lK
 obtain ⟨R,hR⟩:∃ R:World→Int→Value→Prop,R=fun W k v=>dG W (qE (fun _ y=>if y.1=0 then 20 else 0) D E) (sQ vz D E) k v:=⟨_,rfl⟩
 have a9:∀ W W' k v,R W k v→(∀ v xs,Reads .u32 W v xs→Reads .u32 W' v xs)→R W' k v:=by
  rw [hR]
  exact fun _ _ _ _ h hk=>h.keep hk
 replace gY:Calls prog 88 #[.func (.func 100) #[] #[vP w.heap.size,vP (w.heap.size+1)],.slice (some ⟨Z.heap.size,0,none⟩) 2 2] (Z.alloc (.cells ([vI T,vI Y,.bool A,.slice N m1 O,.string F,.slice S V Q,vI U,vI n2,.bool B,.slice a2 m2 c2,.string G,.slice gm X gp]:List Value).toArray 27)) fun e L=>Below (Z.alloc (.cells ([vI T,vI Y,.bool A,.slice N m1 O,.string F,.slice S V Q,vI U,vI n2,.bool B,.slice a2 m2 c2,.string G,.slice gm X gp]:List Value).toArray 27)).heap.size (Z.alloc (.cells ([vI T,vI Y,.bool A,.slice N m1 O,.string F,.slice S V Q,vI U,vI n2,.bool B,.slice a2 m2 c2,.string G,.slice gm X gp]:List Value).toArray 27)) L∧∃ o q s t f g u z j l,∃ k:Int,e=.returned (.tuple #[vV o q s t f g u z j l,vI k])∧R L k (vV o q s t f g u z j l):=by
  refine gY.mono ?_;rintro e w9 ⟨hb,o,q,s,t,f,g,u,z,j,l,k,he,hr⟩;rw [hR];exact ⟨hb,o,q,s,t,f,g,u,z,j,l,k,he,hr⟩
 suffices main:Calls prog 31 #[vV T Y A N m1 O F S V Q,vV U n2 B a2 m2 c2 G gm X gp] w fun e L=>bW w L∧∃ o q s t f g u z j l,∃ k:Int,e=.returned (.tuple #[vV o q s t f g u z j l,vI k])∧R L k (vV o q s t f g u z j l) by
  refine main.mono ?_;rintro e w9 ⟨hb,o,q,s,t,f,g,u,z,j,l,k,he,hr⟩;rw [hR] at hr;exact ⟨hb,o,q,s,t,f,g,u,z,j,l,k,he,hr⟩
 have ab:fI w Z (bI (w.heap.size+1+1)) [(w.heap.size,27,(lV T Y A N m1 O F S V Q)),(w.heap.size+1,27,(lV U n2 B a2 m2 c2 G gm X gp))] Z:=dH;clear a8 hR h1 h2 b0 q1 q2 dH;go_enter func31,ntmps31
 go_upto_region 1 with (fail)
 rw [d.out];clear d
 go_wp2_with (refine gY.mono ?_;rintro e w3 ⟨a3,o,q,s,t,f,g,u,z,j,l,k,rfl,a7⟩;have b6:=b5.trans (a3.mono b5.size);have q3:=(qr.alloc _).below a3;obtain ⟨y0,y1,y2,y3,y4,y5,f0,D,E,f3,f4,f5⟩:=df q3)
 obtain ⟨u0,u1,u2,u3,u4,u5⟩:=dD q3 (vI o) (vI q) (.bool s) (.slice t f g) (.string u) (.slice z j l)
 have aa:=((((((b6.setCell (show w.heap.size≤w.heap.size+1+1 by omega) (p:=⟨w.heap.size+1+1,0,none⟩) (vI o)).setCell (show w.heap.size≤w.heap.size+1+1 by omega) (p:=⟨w.heap.size+1+1,1,none⟩) (vI q)).setCell (show w.heap.size≤w.heap.size+1+1 by omega) (p:=⟨w.heap.size+1+1,2,none⟩) (.bool s)).setCell (show w.heap.size≤w.heap.size+1+1 by omega) (p:=⟨w.heap.size+1+1,3,none⟩) (.slice t f g)).setCell (show w.heap.size≤w.heap.size+1+1 by omega) (p:=⟨w.heap.size+1+1,4,none⟩) (.string u)).setCell (show w.heap.size≤w.heap.size+1+1 by omega) (p:=⟨w.heap.size+1+1,5,none⟩) (.slice z j l))
 exact bodyPost_ret (v:=.tuple #[vV o q s t f g u z j l,vI k]) (by simp [results,results31,go_sem,loadCellsFrom,u0,u1,u2,u3,u4,u5]) rfl ⟨aa,o,q,s,t,f,g,u,z,j,l,k,rfl,a9 _ _ _ _ a7 (bQ q3 (vI o) (vI q) (.bool s) (.slice t f g) (.string u) (.slice z j l))⟩
end Go.Proofs.YtagjhmodblifbaaGreatDoor
