/- the law -/
import Derived.Test.YtagjhmodblifbaaGreatDoorMA
import Derived.Test.YtagjhmodblifbaaGreatDoorB00
import Derived.Test.YtagjhmodblifbaaGreatDoorB09
import Derived.Test.YtagjhmodblifbaaGreatDoorB08
import Derived.Test.YtagjhmodblifbaaGreatDoorB20
import Derived.Test.YtagjhmodblifbaaGreatDoorB15
import Derived.Test.YtagjhmodblifbaaGreatDoorRows
import Derived.Test.YtagjhmodblifbaaGreatDoorB18
import Derived.Lay
import Derived.ProofKit
import Derived.LaidMore
import Derived.OpenShut
import Derived.LaidHandle
import Derived.MakeChecks
import Derived.Lib.SmallJoins
import Derived.Deep.Slices
import Derived.SevenTiedAt
set_option maxHeartbeats 4000000
set_option maxRecDepth 100000
set_option exponentiation.threshold 100000
namespace Go.Proofs.YtagjhmodblifbaaGreatDoor
open Go.Proofs.Tryz
open Go Go.RowKit Go.Shelf
theorem Ho (k n:Int)(s:ByteArray)(l:Nat)(g:Bool)(a:Option Addr)(m1 d:Nat)(la:Option Addr)(lc:Nat)(n2:Bool)(a2:Option Addr)(m2 c2:Nat)(lb:Option Addr)(m:Nat)(i:Int)(w:World)(h1:ak w (vN g a m1 d) i)(h:ak w (vN n2 a2 m2 c2) i) :
 CB 51 #[vV k n g a m1 d s la l lc,vV k n n2 a2 m2 c2 s lb l m] w fun e _=>e=.returned (.bool true):=by
 have b:=dJ w (.cells #[vI k,vI n,.bool g,.slice a m1 d,.string s,.slice la l lc] 27);have c:=b.alloc b.size (.cells #[vI k,vI n,.bool n2,.slice a2 m2 c2,.string s,.slice lb l m] 27)
 have o:=fun X (j:bW w X)=>BN _ _ i X (h1.below j) (h.below j)
 clear h1 h b;go_enter func51,ntmps51
 go_wp2_with (go_at_call 52;refine (o _ c).mono ?_;rintro e p ⟨f,rfl⟩)
 go_ret;exact ⟨c.trans (f.mono c.size),rfl⟩
theorem fI.r5 {w w1 X:World}{R:World→Prop}{b:Nat}{t:TypeId}{a:List Value}{l:List (Nat × TypeId × List Value)}{c d f g i:Nat × TypeId × List Value}(h:fI w w1 R (c::d::f::g::i::(b,t,a)::l) X):af X b t a:=h.rows _ (.tail _ (.tail _ (.tail _ (.tail _ (.tail _ (.head _))))))
theorem fI.r6 {w w1 X:World}{R:World→Prop}{b:Nat}{t:TypeId}{a:List Value}{l:List (Nat × TypeId × List Value)}{c d f g i j:Nat × TypeId × List Value}(h:fI w w1 R (c::d::f::g::i::j::(b,t,a)::l) X):af X b t a:=h.rows _ (.tail _ (.tail _ (.tail _ (.tail _ (.tail _ (.tail _ (.head _)))))))
theorem fI.r7 {w w1 X:World}{R:World→Prop}{b:Nat}{t:TypeId}{a:List Value}{l:List (Nat × TypeId × List Value)}{c d f g i j k:Nat × TypeId × List Value}(h:fI w w1 R (c::d::f::g::i::j::k::(b,t,a)::l) X):af X b t a:=h.rows _ (.tail _ (.tail _ (.tail _ (.tail _ (.tail _ (.tail _ (.tail _ (.head _))))))))
theorem fI.r8 {w w1 X:World}{R:World→Prop}{b:Nat}{t:TypeId}{a:List Value}{l:List (Nat × TypeId × List Value)}{c d f g i j k m:Nat × TypeId × List Value}(h:fI w w1 R (c::d::f::g::i::j::k::m::(b,t,a)::l) X):af X b t a:=h.rows _ (.tail _ (.tail _ (.tail _ (.tail _ (.tail _ (.tail _ (.tail _ (.tail _ (.head _)))))))))
theorem fI.r9 {w w1 X:World}{R:World→Prop}{b:Nat}{t:TypeId}{a:List Value}{l:List (Nat × TypeId × List Value)}{c d f g i j k m n:Nat × TypeId × List Value}(h:fI w w1 R (c::d::f::g::i::j::k::m::n::(b,t,a)::l) X):af X b t a:=h.rows _ (.tail _ (.tail _ (.tail _ (.tail _ (.tail _ (.tail _ (.tail _ (.tail _ (.tail _ (.head _))))))))))
def gu (X:World)(b:Nat)(i:Int)(p:Nat):Prop:=∃ z0 z1 z2 z3 aI aJ z4 z5 aN aO,af X b 27 (lV z0 z1 z2 z3 aI aJ z4 z5 aN aO)∧dX X (vV z0 z1 z2 z3 aI aJ z4 z5 aN aO) i p
theorem gu.below {X a:World}{b:Nat}{i:Int}{p:Nat}(h:gu X b i p)(c:bW X a):gu a b i p:=by
 obtain ⟨l,m,n,o,d,f,q,r,g,j,h1,k⟩:=h;exact ⟨l,m,n,o,d,f,q,r,g,j,h1.below c,k.below c⟩
theorem xD (a b:Value)(i:Int)(p:Nat)(w:World)(h1:dX w a i p)(f:dX w b i p) :
 CB 51 #[a,b] w fun e _=>e=.returned (.bool true):=by
 obtain ⟨k,c,m1,d,la,lc,rfl,g⟩:=h1;obtain ⟨n2,a2,m2,c2,lb,j,rfl,h⟩:=f;exact Ho 3 p ⟨#[]⟩ 0 k c m1 d la lc n2 a2 m2 c2 lb j i w g h
theorem qG (n:Int)(p:Nat)(i:Int)(q:Nat)(c:n.natAbs<4294967296)(d:p≤20)(b:least n p=(i,q))(hi:i.natAbs<aj^3)(w:World) :
 CB 74 #[vI n,vI p] w fun e f=>∃ v,e=.returned v∧dX f v i q :=
 (Nc n p i q w c d b hi).mono fun _ _ ⟨a,_,_,_,_,_,_,_,_,_,_,e,h⟩=>⟨a,_,e,h⟩
theorem Hq (v:Value)(w:World)(h:ak w v 20):∃ g a m c,v=vN g a m c∧Calls prog 19 #[vV 3 2 g a m c ⟨#[]⟩ none 0 0] w fun e f=>bW w f∧e=.returned (vI 2):=by
 obtain ⟨neg,xs,⟨l,rfl,hr,b⟩,hf,hi,k,-⟩:=h.at (EW (by decide));obtain ⟨a,c,rfl,i,j⟩:=hr.form;refine ⟨neg,a,xs.length,c,rfl,mJ.check ⟨3,2,neg,xs,⟨#[]⟩,0,⟨_,none,0,rfl,hr,b⟩,?_⟩⟩;unfold oW
 have d:val xs=20:=by
  have:=congrArg Int.natAbs hi;rw [bM] at this;exact this.symm
 rw [d];simp
theorem NB (w:World)(hT:gU w) :
 CB 16 #[] w fun e _=>e=.returned (.bool true):=by
 have ad:=Qj w.heap.size w;go_enter func16,ntmps16
 go_upto_region 1 with (fail)
 have f:=ad;have au:=hT
 go_cut [1,2] from 24 to 29 (fun v1 v2 W=>∃ b1,v1=vP b1∧v2=vI 0∧gu W b1 3 1∧bW w W)
 case first =>
  have i:=qG (1) 1 (1) 1 (by decide) (by decide) (by decide) (by decide)
  replace i:∀ W,Calls prog 74 #[vI (1),vI 1] W fun e p=>bW W p∧∃ v,e=.returned v∧dX p v (1) 1:=i
  have N:=qG (2) 1 (2) 1 (by decide) (by decide) (by decide) (by decide)
  replace N:∀ W,Calls prog 74 #[vI (2),vI 1] W fun e p=>bW W p∧∃ v,e=.returned v∧dX p v (2) 1:=N
  go_wp2_with (first | (go_at_call 28;refine (Nv _ _ _ (s.below r) a3).mono ?_;rintro e Z ⟨a4,D,E,F,G,z,A,H,I,B,C,rfl,Y⟩;have r5:=af.new Z 27 (lV 0 0 false none 0 0 ⟨#[]⟩ none 0 0);obtain ⟨y0,y1,y2,y3,y4,y5,f0,f1,f2,f3,f4,f5⟩:=df r5) | (go_at_call 74;have a6:=s;refine (N _).mono ?_;rintro e S ⟨r,v2,rfl,a3⟩) | (go_at_call 74;refine (i _).mono ?_;rintro e w1 ⟨q,v1,rfl,s⟩;clear i))
  go_meet
  have k:=q;replace k:=k.trans (r.mono k.size);replace k:=k.trans (a4.mono k.size);have L:=dJ Z (.cells #[vI D,vI E,.bool F,.slice G z A,.string H,.slice I B C] 27);have l:=k.trans (L.mono k.size);exact ⟨_,rfl,rfl,⟨_,_,_,_,_,_,_,_,_,_,af.new Z 27 (lV D E F G z A H I B C),Y.below L⟩,f.trans (l.mono f.size)⟩
 case rest =>
  clear f;obtain ⟨b1,rfl,rfl,y,f⟩:=hcut
  go_upto_region 2 with (fail)
  go_cut [3,4] from 30 to 35 (fun v3 v4 W=>∃ b3,v3=vP b3∧v4=vI 0∧gu W b3 66666666666666666667 20∧gu W b1 3 1∧bW w W)
  case first =>
   have i:=qG (2) 0 (20) 1 (by decide) (by decide) (by decide) (by decide)
   replace i:∀ W,Calls prog 74 #[vI (2),vI 0] W fun e p=>bW W p∧∃ v,e=.returned v∧dX p v (20) 1:=i
   have N:=qG (3) 0 (30) 1 (by decide) (by decide) (by decide) (by decide)
   replace N:∀ W,Calls prog 74 #[vI (3),vI 0] W fun e p=>bW W p∧∃ v,e=.returned v∧dX p v (30) 1:=N
   go_wp2_with (first | (go_at_call 31;refine (Nw _ _ _ (s.below r) a3).mono ?_;rintro e Z ⟨a4,D,E,F,G,z,A,H,I,B,C,rfl,Y⟩;have r5:=af.new Z 27 (lV 0 0 false none 0 0 ⟨#[]⟩ none 0 0);obtain ⟨y0,y1,y2,y3,y4,y5,f0,f1,f2,f3,f4,f5⟩:=df r5) | (go_at_call 74;have a6:=s;refine (N _).mono ?_;rintro e S ⟨r,v2,rfl,a3⟩) | (go_at_call 74;refine (i _).mono ?_;rintro e w1 ⟨q,v1,rfl,s⟩;clear i))
   go_meet
   have k:=q;replace k:=k.trans (r.mono k.size);replace k:=k.trans (a4.mono k.size);have L:=dJ Z (.cells #[vI D,vI E,.bool F,.slice G z A,.string H,.slice I B C] 27);have l:=k.trans (L.mono k.size);exact ⟨_,rfl,rfl,⟨_,_,_,_,_,_,_,_,_,_,af.new Z 27 (lV D E F G z A H I B C),Y.below L⟩,y.below l,f.trans (l.mono f.size)⟩
  case rest =>
   clear f y;obtain ⟨b3,rfl,rfl,J,y,f⟩:=hcut
   go_upto_region 3 with (fail)
   go_cut [5,6] from 36 to 41 (fun v5 v6 W=>(∃ b:Nat,v5=vP b)∧v6=vI 20∧gu W b3 66666666666666666667 20∧gu W b1 3 1∧bW w W)
   case first =>
    have i:=qG (1) 0 (10) 1 (by decide) (by decide) (by decide) (by decide)
    replace i:∀ W,Calls prog 74 #[vI (1),vI 0] W fun e p=>bW W p∧∃ v,e=.returned v∧dX p v (10) 1:=i
    have N:=qG (0) 0 (0) 1 (by decide) (by decide) (by decide) (by decide)
    replace N:∀ W,Calls prog 74 #[vI (0),vI 0] W fun e p=>bW W p∧∃ v,e=.returned v∧dX p v (0) 1:=N
    go_wp2_with (first | (go_at_call 31;refine (Ni _ _ _ (s.below r) a3).mono ?_;rintro e Z ⟨a4,D,E,F,G,z,A,H,I,B,C,rfl⟩;have r5:=af.new Z 27 (lV 0 0 false none 0 0 ⟨#[]⟩ none 0 0);obtain ⟨y0,y1,y2,y3,y4,y5,f0,f1,f2,f3,f4,f5⟩:=df r5) | (go_at_call 74;have a6:=s;refine (N _).mono ?_;rintro e S ⟨r,v2,rfl,a3⟩) | (go_at_call 74;refine (i _).mono ?_;rintro e w1 ⟨q,v1,rfl,s⟩;clear i))
    go_meet
    have k:=q;replace k:=k.trans (r.mono k.size);replace k:=k.trans (a4.mono k.size);have L:=dJ Z (.cells #[vI D,vI E,.bool F,.slice G z A,.string H,.slice I B C] 27);have l:=k.trans (L.mono k.size);exact ⟨⟨_,rfl⟩,rfl,J.below l,y.below l,f.trans (l.mono f.size)⟩
   case rest =>
    clear f J y;obtain ⟨⟨b5,rfl⟩,rfl,J,y,f⟩:=hcut
    go_upto_region 4 with (fail)
    go_cut [7,8] from 42 to 46 (fun v7 v8 W=>∃ b7,v7=vP b7∧v8=vI 0∧gu W b7 25 2∧gu W b3 66666666666666666667 20∧gu W b1 3 1∧bW w W)
    case first =>
     have i:=qG (2) 0 (20) 1 (by decide) (by decide) (by decide) (by decide)
     replace i:∀ W,Calls prog 74 #[vI (2),vI 0] W fun e p=>bW W p∧∃ v,e=.returned v∧dX p v (20) 1:=i
     go_wp2_with (first | (go_at_call 36;refine (Ny _ _ s).mono ?_;rintro e S ⟨r,D,E,F,G,z,A,H,I,B,C,rfl,Y⟩;have r5:=af.new S 27 (lV 0 0 false none 0 0 ⟨#[]⟩ none 0 0);obtain ⟨y0,y1,y2,y3,y4,y5,f0,f1,f2,f3,f4,f5⟩:=df r5) | (go_at_call 74;refine (i _).mono ?_;rintro e w1 ⟨q,v1,rfl,s⟩;clear i))
     go_meet
     have k:=q;replace k:=k.trans (r.mono k.size);have L:=dJ S (.cells #[vI D,vI E,.bool F,.slice G z A,.string H,.slice I B C] 27);have l:=k.trans (L.mono k.size);exact ⟨_,rfl,rfl,⟨_,_,_,_,_,_,_,_,_,_,af.new S 27 (lV D E F G z A H I B C),Y.below L⟩,J.below l,y.below l,f.trans (l.mono f.size)⟩
    case rest =>
     clear f J y;obtain ⟨b7,rfl,rfl,O,J,y,f⟩:=hcut
     go_upto_region 5 with (fail)
     go_cut [9,10] from 47 to 51 (fun v9 bg W=>∃ b9,v9=vP b9∧bg=vI 0∧gu W b9 15 1∧gu W b7 25 2∧gu W b3 66666666666666666667 20∧gu W b1 3 1∧bW w W)
     case first =>
      have i:=qG (225) 2 (225) 2 (by decide) (by decide) (by decide) (by decide)
      replace i:∀ W,Calls prog 74 #[vI (225),vI 2] W fun e p=>bW W p∧∃ v,e=.returned v∧dX p v (225) 2:=i
      go_wp2_with (first | (go_at_call 37;refine (Nh _ _ s).mono ?_;rintro e S ⟨r,D,E,F,G,z,A,H,I,B,C,rfl,Y⟩;have r5:=af.new S 27 (lV 0 0 false none 0 0 ⟨#[]⟩ none 0 0);obtain ⟨y0,y1,y2,y3,y4,y5,f0,f1,f2,f3,f4,f5⟩:=df r5) | (go_at_call 74;refine (i _).mono ?_;rintro e w1 ⟨q,v1,rfl,s⟩;clear i))
      go_meet
      have k:=q;replace k:=k.trans (r.mono k.size);have L:=dJ S (.cells #[vI D,vI E,.bool F,.slice G z A,.string H,.slice I B C] 27);have l:=k.trans (L.mono k.size);exact ⟨_,rfl,rfl,⟨_,_,_,_,_,_,_,_,_,_,af.new S 27 (lV D E F G z A H I B C),Y.below L⟩,O.below l,J.below l,y.below l,f.trans (l.mono f.size)⟩
     case rest =>
      clear f O J y;obtain ⟨b9,rfl,rfl,T,O,J,y,f⟩:=hcut
      go_upto_region 6 with (fail)
      go_cut [11,12] from 52 to 56 (fun bh bi W=>∃ V,bh=vP V∧bi=vI 0∧gu W V 2 1∧gu W b9 15 1∧gu W b7 25 2∧gu W b3 66666666666666666667 20∧gu W b1 3 1∧bW w W)
      case first =>
       have i:=qG (25) 2 (25) 2 (by decide) (by decide) (by decide) (by decide)
       replace i:∀ W,Calls prog 74 #[vI (25),vI 2] W fun e p=>bW W p∧∃ v,e=.returned v∧dX p v (25) 2:=i
       go_wp2_with (first | (go_at_call 40;refine (Mj _ _ s).mono ?_;rintro e S ⟨r,D,E,F,G,z,A,H,I,B,C,rfl,Y⟩;have r5:=af.new S 27 (lV 0 0 false none 0 0 ⟨#[]⟩ none 0 0);obtain ⟨y0,y1,y2,y3,y4,y5,f0,f1,f2,f3,f4,f5⟩:=df r5) | (go_at_call 74;refine (i _).mono ?_;rintro e w1 ⟨q,v1,rfl,s⟩;clear i))
       go_meet
       have k:=q;replace k:=k.trans (r.mono k.size);have L:=dJ S (.cells #[vI D,vI E,.bool F,.slice G z A,.string H,.slice I B C] 27);have l:=k.trans (L.mono k.size);exact ⟨_,rfl,rfl,⟨_,_,_,_,_,_,_,_,_,_,af.new S 27 (lV D E F G z A H I B C),Y.below L⟩,T.below l,O.below l,J.below l,y.below l,f.trans (l.mono f.size)⟩
      case rest =>
       clear f T O J y;obtain ⟨V,rfl,rfl,u,T,O,J,y,f⟩:=hcut
       go_upto_region 7 with (fail)
       go_cut [13,14] from 57 to 61 (fun bj bk W=>∃ a0,bj=vP a0∧bk=vI 0∧gQ W a0 (-2)∧gu W V 2 1∧gu W b9 15 1∧gu W b7 25 2∧gu W b3 66666666666666666667 20∧gu W b1 3 1∧bW w W)
       case first =>
        have i:=qG (-25) 1 (-25) 1 (by decide) (by decide) (by decide) (by decide)
        replace i:∀ W,Calls prog 74 #[vI (-25),vI 1] W fun e p=>bW W p∧∃ v,e=.returned v∧dX p v (-25) 1:=i
        go_wp2_with (first | (go_at_call 43;refine (Nj _ _ s).mono ?_;rintro e S ⟨r,g,a,m,c,rfl,Y⟩;have r5:=af.new S 24 (lN false none 0 0);obtain ⟨y0,y1,f0,f1⟩:=av r5) | (go_at_call 74;refine (i _).mono ?_;rintro e w1 ⟨q,v1,rfl,s⟩;clear i))
        go_meet
        have k:=q;replace k:=k.trans (r.mono k.size);have L:=dJ S (.cells #[.bool g,.slice a m c] 24);have l:=k.trans (L.mono k.size);exact ⟨_,rfl,rfl,⟨_,_,_,_,af.new S 24 (lN g a m c),Y.below L⟩,u.below l,T.below l,O.below l,J.below l,y.below l,f.trans (l.mono f.size)⟩
       case rest =>
        clear f u T O J y;obtain ⟨a0,rfl,rfl,M,u,T,O,J,y,f⟩:=hcut
        go_upto_region 8 with (fail)
        go_cut [15,16] from 62 to 66 (fun bl bm W=>bl=.string ⟨#[45,48,46,48,53]⟩∧bm=vI 0∧gQ W a0 (-2)∧gu W V 2 1∧gu W b9 15 1∧gu W b7 25 2∧gu W b3 66666666666666666667 20∧gu W b1 3 1∧bW w W)
        case first =>
         have i:=qG (-5) 2 (-5) 2 (by decide) (by decide) (by decide) (by decide)
         replace i:∀ W,Calls prog 74 #[vI (-5),vI 2] W fun e p=>bW W p∧∃ v,e=.returned v∧dX p v (-5) 2:=i
         go_wp2_with (first | (go_at_call 55;refine (Nk _ _ s (hT.below (f.trans (q.mono f.size)))).mono ?_;rintro e S ⟨r,rfl⟩) | (go_at_call 74;refine (i _).mono ?_;rintro e w1 ⟨q,v1,rfl,s⟩;clear i))
         go_meet
         have k:=q;replace k:=k.trans (r.mono k.size);exact ⟨rfl,rfl,M.below k,u.below k,T.below k,O.below k,J.below k,y.below k,f.trans (k.mono f.size)⟩
        case rest =>
         clear f M u T O J y;obtain ⟨rfl,rfl,M,u,T,O,J,y,f⟩:=hcut
         go_upto_region 9 with (fail)
         go_cut [17,18] from 67 to 70 (fun bn bo W=>∃ a5,bn=vP a5∧bo=vI 0∧gu W a5 75 1∧gQ W a0 (-2)∧gu W V 2 1∧gu W b9 15 1∧gu W b7 25 2∧gu W b3 66666666666666666667 20∧gu W b1 3 1∧bW w W)
         case first =>
          go_wp2_with (go_at_call 57;refine (Mk _).mono ?_;rintro e w1 ⟨q,D,E,F,G,z,A,H,I,B,C,rfl,Y⟩;have r5:=af.new w1 27 (lV 0 0 false none 0 0 ⟨#[]⟩ none 0 0);obtain ⟨y0,y1,y2,y3,y4,y5,f0,f1,f2,f3,f4,f5⟩:=df r5)
          go_meet
          have k:=q;have L:=dJ w1 (.cells #[vI D,vI E,.bool F,.slice G z A,.string H,.slice I B C] 27);have l:=k.trans (L.mono k.size);exact ⟨_,rfl,rfl,⟨_,_,_,_,_,_,_,_,_,_,af.new w1 27 (lV D E F G z A H I B C),Y.below L⟩,M.below l,u.below l,T.below l,O.below l,J.below l,y.below l,f.trans (l.mono f.size)⟩
         case rest =>
          clear f M u T O J y;obtain ⟨a5,rfl,rfl,a1,M,u,T,O,J,y,f⟩:=hcut
          go_upto_region 10 with (fail)
          go_cut [19,20,21] from 71 to 77 (fun bp bq br W=>∃ a7 a8,bp=vP a7∧bq=vP a8∧br=vI 0∧gu W a7 25 2∧(∃ x0 x1 oQ oU x2 x3 oV,af W a8 59 [.bool x0,.slice x1 oQ oU,.bool x2,.slice x3 0 oV])∧gu W a5 75 1∧gQ W a0 (-2)∧gu W V 2 1∧gu W b9 15 1∧gu W b7 25 2∧gu W b3 66666666666666666667 20∧gu W b1 3 1∧bW w W)
          case first =>
           have i:=fun W=>uF 1 W (by decide)
           have N:=fun W=>uF 4 W (by decide)
           go_wp2_with (first | (go_at_call 49;refine (Ml _ _ _ (s.below r) a3).mono ?_;rintro e Z ⟨a4,D,E,F,G,z,A,H,I,B,C,n,a,m,c,g,a2,m2,c2,rfl,Y,hJ⟩;obtain rfl:=(og hJ).2 rfl;have r5:=af.new Z 27 (lV 0 0 false none 0 0 ⟨#[]⟩ none 0 0);have r6:=af.new (Z.alloc (.cells #[vI 0,vI 0,vF,vZ,vE,vZ] 27)) 59 [vF,vZ,vF,vZ];have bf:=r5.alloc (.cells #[vF,vZ,vF,vZ] 59);simp only [Qh] at r6;obtain ⟨y0,y1,y2,y3,y4,y5,f0,f1,f2,f3,f4,f5⟩:=df bf;obtain ⟨t0,t1,t2,t3,l0,l1,l2,l3⟩:=qZ r6) | (go_at_call 66;have a6:=s;refine (N _).mono ?_;rintro e S ⟨r,v2,rfl,a3⟩) | (go_at_call 66;refine (i _).mono ?_;rintro e w1 ⟨q,v1,rfl,s⟩;clear i))
           go_meet
           have k:=(q.trans (r.mono q.size)).trans (a4.mono (Qd q.size r.size));have L:=dJ Z (.cells #[vI D,vI E,.bool F,.slice G z A,.string H,.slice I B C] 27);have o2:=L.alloc L.size (.cells #[.bool n,.slice a m c,.bool g,.slice a2 0 c2] 59);have l:=k.trans (o2.mono k.size)
           exact ⟨_,_,rfl,rfl,rfl,⟨_,_,_,_,_,_,_,_,_,_,(af.new Z 27 (lV D E F G z A H I B C)).alloc _,Y.below o2⟩,⟨_,_,_,_,_,_,_,(af.new (Z.alloc (.cells #[vI D,vI E,.bool F,.slice G z A,.string H,.slice I B C] 27)) 59 [.bool n,.slice a m c,.bool g,.slice a2 0 c2]).at (by simp)⟩,a1.below l,M.below l,u.below l,T.below l,O.below l,J.below l,y.below l,f.trans (l.mono f.size)⟩
          case rest =>
           clear f a1 M u T O J y;obtain ⟨a7,a8,rfl,rfl,rfl,a9,aa,a1,M,u,T,O,J,y,f⟩:=hcut
           go_upto_region 14 with (fail)
           go_cut [23] from 116 to 117 (fun bs W=>∃ ab,∃ D E F G z A H I B C,bs=vP ab∧af W ab 41 (lG D E F G z A H I B C 0)∧dX W (vV D E F G z A H I B C) 66666666666666666667 20∧gu W a7 25 2∧(∃ x0 x1 oQ oU x2 x3 oV,af W a8 59 [.bool x0,.slice x1 oQ oU,.bool x2,.slice x3 0 oV])∧gu W a5 75 1∧gQ W a0 (-2)∧gu W V 2 1∧gu W b9 15 1∧gu W b7 25 2∧gu W b3 66666666666666666667 20∧gu W b1 3 1∧bW w W)
           case first =>
            go_wp2_with (go_at_call 58;refine (Nl _ rfl _).mono ?_;rintro e w1 ⟨q,v9,D,E,F,G,z,A,H,I,B,C,rfl,rfl,Y⟩;have r5:=af.new w1 41 (lG 0 0 false none 0 0 ⟨#[]⟩ none 0 0 0);obtain ⟨y0,y1,y2,y3,y4,y5,y6,f0,f1,f2,f3,f4,f5,f6⟩:=wP r5)
            go_meet
            have L:=dJ w1 (.cells #[vI D,vI E,.bool F,.slice G z A,.string H,.slice I B C,vI 0] 41);have l:=q.trans (L.mono q.size)
            exact ⟨_,_,_,_,_,_,_,_,_,_,_,rfl,af.new w1 41 (lG D E F G z A H I B C 0),Y.below L,a9.below l,(by obtain ⟨x0,x1,oQ,oU,x2,x3,oV,hx⟩:=aa;exact ⟨x0,x1,oQ,oU,x2,x3,oV,hx.below l⟩),a1.below l,M.below l,u.below l,T.below l,O.below l,J.below l,y.below l,f.trans (l.mono f.size)⟩
           case rest =>
            clear f a9 aa a1 M u T O J y;obtain ⟨ab,D,E,F,G,z,A,H,I,B,C,rfl,am,ar,a9,aa,a1,M,u,T,O,J,y,f⟩:=hcut;obtain ⟨c7,c8,c9,ca,bd,b4,cb,cc,be,b6,ak,aq⟩:=a9;obtain ⟨x0,x1,oQ,oU,x2,x3,oV,al⟩:=aa;obtain ⟨c0,c1,c3,c4,bb,b0,c5,c6,bc,b2,aj,ap⟩:=a1;obtain ⟨cw,ct,cv,cu,ah,ao⟩:=M
            obtain ⟨bt,bu,bv,bw,b8,ay,bx,bz,ba,az,r11,an⟩:=u;obtain ⟨dg,dh,di,dj,cr,cj,dk,dl,cs,ck,r9,h9⟩:=T;obtain ⟨d9,da,db,dc,cp,ch,dd,de,cq,ci,r7,h7⟩:=O;obtain ⟨d3,d4,d5,d6,cn,cf,d7,d8,co,cg,r3,h3⟩:=J;obtain ⟨cx,cy,cz,d0,cl,cd,d1,d2,cm,ce,r1,h1⟩:=y
            have dH:=fC (R:=dR) (ax am (ax ak (ax al (ax aj (ax ah (ax r11 (ax r9 (ax r7 (ax r3 (ax r1 aS)))))))))) trivial f
            have Q:=yO dH fun X h=>(ik h.r0 (ik h.r1 (NI h.r2 (ik h.r3 (Mw h.r4 (ik h.r5 (ik h.r6 (ik h.r7 (ik h.r8 (aD h.r9))))))))):)
            clear am ak al aj ah r11 r9 r7 r3 r1 f hT au ad
            go_upto_region 15 with (fail)
            go_wp2_with fail
            refine bB Q (bY dR.drew dH) fun X0 j=>?_
            refine tk 0 j ?_
            refine rd 1 fun t o=>?_
            have hP:=j.2
            go_wp2_with (go_at_call 74;refine ((show ∀ W,Calls prog 74 #[vI (3),vI 1] W fun e p=>bW W p∧∃ v,e=.returned v∧dX p v (3) 1 from qG (3) 1 (3) 1 (by decide) (by decide) (by decide) (by decide)) _).mono ?_;rintro e U ⟨d,v5,rfl,x⟩)
            refine aT o Q (ag dR.step hP d) fun j=>?_
            clear o t hP d
            refine rd 2 fun t o=>?_
            have hP:=j.2
            go_wp2_with (go_at_call 51;refine (xD _ _ _ _ _ (h1.keep hP.more) x).mono ?_;rintro e U ⟨d,rfl⟩)
            replace x:=x.below d
            refine aT o Q (ag dR.step hP d) fun j=>?_
            clear o t hP d;refine tk 3 j ?_;refine tk 4 j ?_;refine tk 5 j ?_;refine tk 6 j ?_
            refine rd 7 fun t o=>?_
            have hP:=j.2
            go_wp2_with (go_at_call 51;refine (xD _ _ _ _ _ (h3.keep hP.more) (ar.keep hP.more)).mono ?_;rintro e U ⟨d,rfl⟩)
            refine aT o Q (ag dR.step hP d) fun j=>?_
            clear o t hP d;refine tk 8 j ?_;refine tk 9 j ?_;refine tk 10 j ?_
            refine rd 11 fun t o=>?_
            have hP:=j.2
            go_wp2_with (go_at_call 74;refine ((show ∀ W,Calls prog 74 #[vI (25),vI 2] W fun e p=>bW W p∧∃ v,e=.returned v∧dX p v (25) 2 from qG (25) 2 (25) 2 (by decide) (by decide) (by decide) (by decide)) _).mono ?_;rintro e U ⟨d,v5,rfl,x⟩)
            refine aT o Q (ag dR.step hP d) fun j=>?_
            clear o t hP d
            refine rd 12 fun t o=>?_
            have hP:=j.2
            go_wp2_with (go_at_call 51;refine (xD _ _ _ _ _ (h7.keep hP.more) x).mono ?_;rintro e U ⟨d,rfl⟩)
            replace x:=x.below d
            refine aT o Q (ag dR.step hP d) fun j=>?_
            clear o t hP d;refine tk 13 j ?_;refine tk 14 j ?_;refine tk 15 j ?_
            refine rd 16 fun t o=>?_
            have hP:=j.2
            go_wp2_with (go_at_call 74;refine ((show ∀ W,Calls prog 74 #[vI (15),vI 1] W fun e p=>bW W p∧∃ v,e=.returned v∧dX p v (15) 1 from qG (15) 1 (15) 1 (by decide) (by decide) (by decide) (by decide)) _).mono ?_;rintro e U ⟨d,v5,rfl,x⟩)
            refine aT o Q (ag dR.step hP d) fun j=>?_
            clear o t hP d
            refine rd 17 fun t o=>?_
            have hP:=j.2
            go_wp2_with (go_at_call 51;refine (xD _ _ _ _ _ (h9.keep hP.more) x).mono ?_;rintro e U ⟨d,rfl⟩)
            replace x:=x.below d
            refine aT o Q (ag dR.step hP d) fun j=>?_
            clear o t hP d;refine tk 18 j ?_;refine tk 19 j ?_;refine tk 20 j ?_
            refine rd 21 fun t o=>?_
            have hP:=j.2
            go_wp2_with (go_at_call 74;refine ((show ∀ W,Calls prog 74 #[vI (2),vI 1] W fun e p=>bW W p∧∃ v,e=.returned v∧dX p v (2) 1 from qG (2) 1 (2) 1 (by decide) (by decide) (by decide) (by decide)) _).mono ?_;rintro e U ⟨d,v5,rfl,x⟩)
            refine aT o Q (ag dR.step hP d) fun j=>?_
            clear o t hP d
            refine rd 22 fun t o=>?_
            have hP:=j.2
            go_wp2_with (go_at_call 51;refine (xD _ _ _ _ _ (an.keep hP.more) x).mono ?_;rintro e U ⟨d,rfl⟩)
            replace x:=x.below d
            refine aT o Q (ag dR.step hP d) fun j=>?_
            clear o t hP d;refine tk 23 j ?_;refine tk 24 j ?_;refine tk 25 j ?_
            refine rd 26 fun t o=>?_
            have hP:=j.2
            go_wp2_with (go_at_call 66;refine (uF (-2) _ (by decide)).mono ?_;rintro e U ⟨d,v5,rfl,x⟩)
            refine aT o Q (ag dR.step hP d) fun j=>?_
            clear o t hP d
            refine rd 27 fun t o=>?_
            have hP:=j.2
            go_wp2_with (go_at_call 52;refine (BN _ _ (-2) _ (ao.keep hP.more) x).mono ?_;rintro e U ⟨d,rfl⟩)
            replace x:=x.below d
            refine aT o Q (ag dR.step hP d) fun j=>?_
            clear o t hP d;refine tk 28 j ?_;refine tk 29 j ?_;refine tk 30 j ?_;refine tk 31 j ?_;refine tk 32 j ?_;refine tk 33 j ?_;refine tk 34 j ?_
            refine rd 35 fun t o=>?_
            have hP:=j.2
            go_wp2_with (go_at_call 74;refine ((show ∀ W,Calls prog 74 #[vI (75),vI 1] W fun e p=>bW W p∧∃ v,e=.returned v∧dX p v (75) 1 from qG (75) 1 (75) 1 (by decide) (by decide) (by decide) (by decide)) _).mono ?_;rintro e U ⟨d,v5,rfl,x⟩)
            refine aT o Q (ag dR.step hP d) fun j=>?_
            clear o t hP d
            refine rd 36 fun t o=>?_
            have hP:=j.2
            go_wp2_with (go_at_call 51;refine (xD _ _ _ _ _ (ap.keep hP.more) x).mono ?_;rintro e U ⟨d,rfl⟩)
            replace x:=x.below d
            refine aT o Q (ag dR.step hP d) fun j=>?_
            clear o t hP d;refine tk 37 j ?_;refine tk 38 j ?_;refine tk 39 j ?_
            refine rd 40 fun t o=>?_
            have hP:=j.2
            go_wp2_with (go_at_call 74;refine ((show ∀ W,Calls prog 74 #[vI (25),vI 2] W fun e p=>bW W p∧∃ v,e=.returned v∧dX p v (25) 2 from qG (25) 2 (25) 2 (by decide) (by decide) (by decide) (by decide)) _).mono ?_;rintro e U ⟨d,v5,rfl,x⟩)
            refine aT o Q (ag dR.step hP d) fun j=>?_
            clear o t hP d
            refine rd 41 fun t o=>?_
            have hP:=j.2
            go_wp2_with (go_at_call 51;refine (xD _ _ _ _ _ (aq.keep hP.more) x).mono ?_;rintro e U ⟨d,rfl⟩)
            replace x:=x.below d
            refine aT o Q (ag dR.step hP d) fun j=>?_
            clear o t hP d;refine tk 42 j ?_;refine tk 43 j ?_;refine tk 44 j ?_;refine tk 45 j ?_;refine tk 46 j ?_;refine tk 47 j ?_;refine tk 48 j ?_;refine tk 49 j ?_;refine tk 50 j ?_
            refine rd 51 fun t o=>?_
            have hP:=j.2
            go_wp2_with (go_at_call 74;refine ((show ∀ W,Calls prog 74 #[vI (2),vI 0] W fun e p=>bW W p∧∃ v,e=.returned v∧dX p v (20) 1 from qG (2) 0 (20) 1 (by decide) (by decide) (by decide) (by decide)) _).mono ?_;rintro e U ⟨d,v5,rfl,x⟩)
            refine aT o Q (ag dR.step hP d) fun j=>?_
            clear o t hP d
            refine rd 52 fun t o=>?_
            have hP:=j.2
            go_wp2_with (go_at_call 19;refine (dB.check (jQ x (by decide) (by decide) (by decide) (by decide):dB _ _ (20) 1)).mono ?_;rintro e U ⟨d,rfl⟩)
            replace x:=x.below d
            refine aT o Q (ag dR.step hP d) fun j=>?_
            clear o t hP d;refine tk 53 j ?_;refine tk 54 j ?_;refine tk 55 j ?_
            refine rd 56 fun t o=>?_
            have hP:=j.2
            go_wp2_with (go_at_call 66;refine (uF 20 _ (by decide)).mono ?_;rintro e U ⟨d,v5,rfl,x⟩)
            obtain ⟨g,a,m,c,rfl,kB⟩:=Hq _ _ x
            refine aT o Q (ag dR.step hP d) fun j=>?_
            clear o t hP d;refine tk 57 j ?_
            refine rd 58 fun t o=>?_
            have hP:=j.2
            go_wp2_with (go_at_call 19;refine (kB).mono ?_;rintro e U ⟨d,rfl⟩)
            refine aT o Q (ag dR.step hP d) fun j=>?_
            clear o t hP d;refine tk 59 j ?_;refine tk 60 j ?_;refine tk 61 j ?_;refine wpAnyH_done (by kernel_rfl) ?_ _;have aw:=j.2.below;clear j
            go_wp2_with fail
            go_ret;exact ⟨aw,rfl⟩
end Go.Proofs.YtagjhmodblifbaaGreatDoor
namespace Go.Proofs.YtagjhmodblifbaaGreatDoor
open Go.Proofs.Tryz
open Go.ChangeShapes Go.WideShapes Go.ChangeAt Go.RowKit Go.Joins
theorem own:ownKnob prog.godebug=none:=by kernel_rfl
theorem laidOut:laidOutB prog=true:=by kernel_rfl
theorem Hr:prog.cellsOf 24=2:=by kernel_rfl
theorem Mr:prog.globalNamed "zermelo/num.digits" = some 0:=by kernel_rfl
theorem Ms:(prog.globals[0]?).map (·.type)=some 210:=by kernel_rfl
theorem EP:prog.cellsOf 5=1:=by kernel_rfl
theorem Ht:prog.cellsOf 128=1:=by kernel_rfl
theorem Nn:prog.underlying 210=some (.array 36 5):=by kernel_rfl
theorem Nz:prog.underlying 5=some (.int .u8):=by kernel_rfl
theorem Dj {H:Type}:(Rows.laid_zermelo_num_digits:DataW H)=.agg ((List.range 36).map fun i=>.lit (.int .u8 ((fJ i:Nat):Int))):=by rfl
abbrev Mt:List (String × DataW Unit):=[("unicode/utf8.acceptRanges",Rows.laid_unicode_utf8_acceptRanges),("zermelo/num.digits",Rows.laid_zermelo_num_digits),("unicode/utf8.first",Rows.laid_unicode_utf8_first)]
theorem ND {W:World}(h:laidMetH prog Mt W):gU W:=by
 rw [MakeChecks.laidMetH_plain _ _ _ (by kernel_rfl)] at h;obtain ⟨ps,⟨_,_,_,_,_,_,_,_,_,_,⟨s,x,c,r,u,v,b,g,j,d,_⟩,_⟩,_⟩:=h;obtain rfl:=Option.some.inj (Mr.symm.trans b);obtain rfl:=Option.some.inj (Ms.symm.trans g);obtain ⟨xs,m,rfl,n,hlen,t,f⟩:=DataW.trod_array Nn d;intro i hi;have h1:=f i hi;rw [EP,QZ] at h1;simp only [Prod.mk.injEq] at n;have l:=n.1
 rw [Dj,DataW.agg.injEq] at l
 have a:(xs.map (·.1))[i]?=some (.lit (.int .u8 ((fJ i:Nat):Int))):=by
  rw [← l];simp [hi]
 rw [JX] at a
 cases hxi:xs[i]? with
 | none=>rw [hxi] at a;simp at a
 | some y =>
  rw [hxi] at h1 a;simp only [Option.map_some,Option.some.injEq] at a;obtain ⟨k,o,p,_⟩:=Xw Nz h1;rw [p] at a;simp only [DataW.lit.injEq,Lit.int.injEq,true_and] at a;subst a;have q:=World.var?_cell b j i;rw [q]
  have:(c.toList.drop i)[0]?=some (.int .u8 ((fJ i:Nat):Int)):=by
   have:=congrArg (·[0]?) o;simpa using this
  simpa using this
theorem ER {H:Type}{enc:TypeId × Value→H}{W:World}{n:Nat}{v z:Value}{x:DataW H × List MemPlace}(h:DataW.trod enc prog W 0 (fun _=>true) true n 24 [v,z]=some x):∃ neg xs,dx W (.agg #[v,z]) neg xs:=by
 obtain ⟨C,D,m,-,-,p,q⟩:=trod_struct2 underlying24 h;simp only [QN,JC,show prog.cellsOf 4=1 from by kernel_rfl,show prog.cellsOf 22=1 from by kernel_rfl,JA,JB] at p q;obtain ⟨neg,s,-⟩:=DataW.trod_bool underlying4 p;simp only [List.cons.injEq,and_true] at s;subst s;refine ⟨neg,?_⟩
 rcases open_ints underlying22 underlying128 Ht q with ⟨d,-⟩ | ⟨x,l,c,zs,d,_,hl,hm,hz,_,hcell,hwz⟩
 ·simp only [List.cons.injEq,and_true] at d
  subst d;exact ⟨[],_,rfl,⟨none,0,rfl,Qb _,QF _,fun j a=>absurd a (Nat.not_lt_zero _)⟩,fun x A=>absurd A (List.not_mem_nil)⟩
 ·simp only [List.cons.injEq,and_true] at d
  subst d;simp only [if_pos] at hz
  have g:∀ j,j<l→∃ n:Nat,zs.getD j 0=(n:Int)∧n<aj:=by
   intro j a
   have f:j<zs.length:=by omega
   have r:=hwz (zs.getD j 0) (by rw [List.getD_eq_getElem?_getD,Qs f,JF];exact JZ f);simp only [Lit.wf,Jt,decide_eq_true_eq] at r;have h1:(0:Int)≤zs.getD j 0:=r.1;have k:zs.getD j 0≤(4294967295:Int):=r.2;obtain ⟨n,u⟩:=JW h1;refine ⟨n,u,?_⟩;rw [u] at k
   show n<4294967296
   omega
  have hlen:((zs.take l).map Int.toNat).length=l:=by simp;omega
  have o:∀ j,j<l→((zs.take l).map Int.toNat)[j]?=some (zs.getD j 0).toNat:=by
   intro j a
   have f:j<zs.length:=by omega
   simp [a,Qs f]
  refine ⟨(zs.take l).map Int.toNat,.slice (some x) l c,rfl,⟨some x,c,by rw [hlen],by rw [hlen];exact hl,hm,fun j a=>?_⟩,?_⟩
  ·rw [hlen] at a
   obtain ⟨n,h1,-⟩:=g j a;have k:=hcell j (by omega);obtain ⟨b,off,spot⟩:=x;have h0:=hcell 0 (by omega)
   have i:spot=none:=by simpa [Addr.add] using World.cell?_spot h0
   subst i;refine ⟨⟨b,off,rfl⟩,?_⟩;rw [o j a,iY];rw [h1] at k ⊢;simp only [JF,QP];rw [← k]
   congr 1
   unfold Addr.add;split
   ·rename_i e;subst e;rfl
   ·rfl
  ·intro y B
   obtain ⟨j,a,rfl⟩:=List.mem_iff_getElem.1 B;rw [hlen] at a;obtain ⟨n,h1,k⟩:=g j a;have t:=o j a;rw [Qs (by rw [hlen];exact a)] at t;rw [Option.some.inj t,h1];simpa using k
theorem Hu:prog.cellsOf 27=6:=by kernel_rfl
theorem NC {H:Type}{enc:TypeId × Value→H}{W:World}{base:Nat}{v:Value}{d:DataW H}{p:List MemPlace}(G:Value.okWide prog W .any base 27 v)(h:DataW.Trod enc prog W 0 (fun _=>true) true 27 v d p):∃ f,Fm W v f:=by
 obtain ⟨g,rfl,q⟩:=okWide_struct underlying27 G;obtain ⟨fuel,hf⟩:=h;have o:g.size=6:=q.trans Hu
 obtain ⟨l,rfl⟩:∃ l:List Value,g=l.toArray:=⟨g.toList,by simp⟩
 have j:l.length=6:=by simpa using o
 match l,j with
 | [c0,c1,c2,c3,c4,c5],_ =>
  obtain ⟨xs,n,_,M,L,hlen,b⟩:=DataW.trod_struct underlying27 hf
  have F:(Value.agg #[c0,c1,c2,c3,c4,c5]).cells.toList=[c0,c1,c2,c3,c4,c5]:=by simp [Value.cells]
  rw [F] at b
  match xs,hlen with
  | [y0,y1,y2,y3,y4],_ =>
   have k0:=b 0 _ rfl;have r:=b 1 _ rfl;have s:=b 2 _ rfl;have t:=b 3 _ rfl;have u:=b 4 _ rfl;simp only [List.getElem_toArray,Ya,List.getElem_cons_succ] at k0 r s t u;simp only [QN,JC,show prog.cellsOf 3=1 from by kernel_rfl,show prog.cellsOf 9=1 from by kernel_rfl,show prog.cellsOf 25=1 from by kernel_rfl,Hr,JA,JB,Qc,Qe] at k0 r s t u;obtain ⟨I,y,-,-⟩:=Xw underlying3 k0
   obtain ⟨C,z,-,-⟩:=Xw underlying3 r;obtain ⟨J,B,-,-⟩:=DataW.trod_string underlying9 t;obtain ⟨neg,E,N,A,hr,k⟩:=ER s;simp only [Value.agg.injEq,Array.mk.injEq,List.cons.injEq,and_true] at y z A B;obtain ⟨rfl,rfl⟩:=A;subst y z B
   obtain ⟨la,x,lc,rfl⟩:∃ la x lc,c5=.slice la x lc:=by
    rcases Go.Deep.open_slice underlying25 u with ⟨c,-⟩ | ⟨a,len,cap,m,n,D,Pl,c,-⟩
    ·simp only [List.cons.injEq,and_true] at c
     exact ⟨_,_,_,c⟩
    ·simp only [List.cons.injEq,and_true] at c
     exact ⟨_,_,_,c⟩
   rcases Kr (⟨_,la,lc,rfl,hr,k⟩:ValAt W _ I C neg E J x) with ⟨-,i⟩ | ⟨-,i⟩
   ·exact ⟨some (bX neg (val E),C.toNat),i⟩
   ·exact ⟨none,i⟩
end Go.Proofs.YtagjhmodblifbaaGreatDoor
namespace Go.Proofs.YtagjhmodblifbaaGreatDoor
open Go.Proofs.Tryz
open Go.ChangeShapes Go.WideShapes
theorem NP {a b:Bool}(ha:a=true)(c:b=true):(a&&b)=true:=by rw [ha,c];rfl
theorem NQ:(laidOutB prog)=true:=by kernel_rfl
theorem NR:(mapsRowed prog)=true:=by kernel_rfl
theorem NS:(prog.stopsHeard)=true:=by kernel_rfl
theorem NT:(prog.mayEnter)=true:=by kernel_rfl
theorem NU:((Rows.decTellsRow.lifted == prog.liftsFinal))=true:=by kernel_rfl
theorem NV:((prog.make == some Rows.decTellsRow.make))=true:=by kernel_rfl
end Go.Proofs.YtagjhmodblifbaaGreatDoor
