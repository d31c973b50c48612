/- proved lemmas -/
import Derived.Test.YtagjhmodblifbaaGreatDoorMA
import Derived.Test.YtagjhmodblifbaaGreatDoorProg
import Derived.Below
import Derived.Test.YtagjhmodblifbaaGreatDoorS01
import Derived.WalkKit
import Derived.RangeFuncNested
import Derived.RangeFuncBound
import Derived.RangeFuncCalls
import Derived.RangeFuncLeaves
import Derived.Shelf.Abstract
import Derived.Shelf.RegionOpen
import Derived.OwnWalkIn
import Derived.TacticsInMore
import Derived.LoopNIn
import Derived.LoopIn
import Derived.Outline
import Derived.WalkLawsBesides
import Derived.WalkSpells
import Derived.Lib.Hide
import Derived.Maps.AppendAt
import Derived.Handy
import Derived.Deep.QuietTactic
import Derived.BigQuiet
import Derived.OrdersIn
import Derived.StillTailTactics
import Derived.Shelf.Strings.Builder1
import Derived.Shelf.Strings.Builder2
import Derived.Shelf.Strings.Trim
import Derived.Shelf.Small.Utf8
import Derived.Shelf.Small.Bits
import Derived.Shelf.Small.Strs
import Derived.Shelf.Small.Wraps
import Derived.Shelf.Strings.BuilderF
import Derived.Shelf.Strconv.Itoa0
import Derived.Shelf.Strings.Search1
import Derived.Shelf.Strings.Prefix
import Derived.Shelf.Bits.Mul64
import Derived.Shelf.Strings.Repeat
import Derived.Ground.Names2Prog
import Derived.Shelf.Slices.SearchI
import Derived.Laws.EntriesVeiled
import Derived.Deep.RegionHeld3
import Derived.Recover
import Derived.LoopN
import Derived.Lib.ItoaNum
import Derived.Laws.CopyOwn
import Derived.Deep.CutRange
import Derived.RegionTactic
import Derived.BigRegion
import Derived.ChangeAlike
import Derived.Laws.OwnMore
import Derived.IntWalk
import Derived.Deep.DeepFit
import Derived.Lib.IndexBytes
import Derived.Test.YtagjhmodblifbaaGreatDoorS00
import Derived.Deep.LoopGhost
import Derived.Deep.MidRow
import Derived.Test.YtagjhmodblifbaaGreatDoorB00
import Derived.Test.YtagjhmodblifbaaGreatDoorB01
import Derived.Test.YtagjhmodblifbaaGreatDoorB02
import Derived.Test.YtagjhmodblifbaaGreatDoorB03
import Derived.Test.YtagjhmodblifbaaGreatDoorB04
import Derived.Test.YtagjhmodblifbaaGreatDoorB05
import Derived.Test.YtagjhmodblifbaaGreatDoorB06
import Derived.Test.YtagjhmodblifbaaGreatDoorB07
import Derived.Test.YtagjhmodblifbaaGreatDoorB08
import Derived.Test.YtagjhmodblifbaaGreatDoorB09
import Derived.Test.YtagjhmodblifbaaGreatDoorB10
import Derived.Test.YtagjhmodblifbaaGreatDoorB11
import Derived.Test.YtagjhmodblifbaaGreatDoorB12
import Derived.Test.YtagjhmodblifbaaGreatDoorB13
import Derived.Test.YtagjhmodblifbaaGreatDoorB14
import Derived.Test.YtagjhmodblifbaaGreatDoorB15
import Derived.Test.YtagjhmodblifbaaGreatDoorB16
import Derived.Test.YtagjhmodblifbaaGreatDoorB17
import Derived.Test.YtagjhmodblifbaaGreatDoorB18
import Derived.Test.YtagjhmodblifbaaGreatDoorB19
import Derived.Test.YtagjhmodblifbaaGreatDoorB20
import Derived.Test.YtagjhmodblifbaaGreatDoorB21
set_option maxHeartbeats 4000000
set_option maxRecDepth 100000
set_option exponentiation.threshold 100000
namespace Go.Proofs.YtagjhmodblifbaaGreatDoor
open Go.Proofs.Tryz
open Go Go.RowKit Go.Shelf
theorem Rw (i:Value)(w:World)(h1:mJ w i) :
 CB 26 #[i] w fun e _=>e=.returned (vG 0 0 false none 0 0 ⟨#[]⟩ none 0 0 2):=by
 have r:=fun X (o:bW w X)=>(h1.below o).is
 obtain ⟨q,t,n,j,m1,k,u,m,s,l,rfl⟩:=h1.shape;obtain ⟨E,g,c,b,h⟩:=yP w 27 (lV q t n j m1 k u m s l) 41 (lG 0 0 false none 0 0 ⟨#[]⟩ none 0 0 0);have d:=fC (R:=ni _) (ax b aS) ⟨_,_,_,_,_,_,_,_,_,_,_,h⟩ c;obtain ⟨J,L,M,N,O,Q⟩:=aD b;clear h1 c h b;go_enter func26,ntmps26
 go_upto_region 1 with (fail)
 rw [g.out];clear g
 go_wp2_with (go_at_call 20;with_reducible refine (r _ d.below).mono ?_;rintro e w1 ⟨a,rfl⟩;have f:=ag ni.step d a;obtain ⟨z0,z1,z2,z3,F,G,z4,z5,H,I,z6,hr,y0,y1,y2,y3,y4,y5,y6,S,T,U,V,Y,Z,f6⟩:=f.res.cells)
 obtain ⟨x,y,z,A,B,C,D⟩:=wO hr (vI 0) (vI 0) vF vZ vE vZ (vI 2);have p:=(uS f (aZ (by omega) dV) (by omega) 0 0 false none 0 0 ⟨#[]⟩ none 0 0 2).below;exact bodyPost_ret (v:=vG 0 0 false none 0 0 ⟨#[]⟩ none 0 0 2) (by simp [results,results26,go_sem,loadCellsFrom,x,y,z,A,B,C,D]) rfl ⟨p,rfl⟩
theorem PX (j k:Value)(w:World)(h1:mJ w j)(r:Dp k) :
 CB 32 #[j,k] w fun e _=>e=.returned (vG 0 0 false none 0 0 ⟨#[]⟩ none 0 0 2):=by
 have y:=fun X (s:bW w X)=>(h1.below s).is
 obtain ⟨u,B,p,l,m1,m,C,o,z,n,rfl⟩:=h1.shape;obtain ⟨x,n2,q,a2,m2,c2,D,gm,A,gp,rfl⟩:=r;obtain ⟨M,g,c,b,h,i⟩:=MJ w 27 (lV u B p l m1 m C o z n) 27 (lV x n2 q a2 m2 c2 D gm A gp) 41 (lG 0 0 false none 0 0 ⟨#[]⟩ none 0 0 0);have d:=fC (R:=ni _) (ax b (ax h aS)) ⟨_,_,_,_,_,_,_,_,_,_,_,i⟩ c;obtain ⟨T,U,V,Y,Z,d5⟩:=aD b;clear h1 c i b h
 go_enter func32,ntmps32
 go_upto_region 1 with (fail)
 rw [g.out];clear g
 go_wp2_with (go_at_call 20;with_reducible refine (y _ d.below).mono ?_;rintro e w1 ⟨a,rfl⟩;have f:=ag ni.step d a;obtain ⟨z0,z1,z2,z3,N,O,z4,z5,Q,S,z6,hr,y0,y1,y2,y3,y4,y5,y6,f0,f1,f2,f3,f4,f5,f6⟩:=f.res.cells)
 obtain ⟨E,F,G,H,I,J,L⟩:=wO hr (vI 0) (vI 0) vF vZ vE vZ (vI 2);have t:=(uS f (aZ (by omega) (aZ (by omega) dV)) (by omega) 0 0 false none 0 0 ⟨#[]⟩ none 0 0 2).below;exact bodyPost_ret (v:=vG 0 0 false none 0 0 ⟨#[]⟩ none 0 0 2) (by simp [results,results32,go_sem,loadCellsFrom,E,F,G,H,I,J,L]) rfl ⟨t,rfl⟩
theorem PY (o q:Value)(i:Int)(p:Nat)(w:World)(h1:dB w o i p)(c:mJ w q) :
 CB 32 #[o,q] w fun e _=>e=.returned (vG 0 0 false none 0 0 ⟨#[]⟩ none 0 0 2):=by
 have C:=fun X (d:bW w X)=>(h1.below d).is
 have kJ:=fun X (d:bW w X)=>(c.below d).is
 obtain ⟨A,F,x,r,m1,s,G,u,D,t,rfl⟩:=h1.kY;obtain ⟨B,n2,y,a2,m2,c2,H,gm,E,gp,rfl⟩:=c.shape;obtain ⟨S,l,j,h,m,n⟩:=MJ w 27 (lV A F x r m1 s G u D t) 27 (lV B n2 y a2 m2 c2 H gm E gp) 41 (lG 0 0 false none 0 0 ⟨#[]⟩ none 0 0 0);have k:=fC (R:=ni _) (ax h (ax m aS)) ⟨_,_,_,_,_,_,_,_,_,_,_,n⟩ j;obtain ⟨Z,d1,d2,d3,d4,d5⟩:=aD h;clear h1 c j n h m
 go_enter func32,ntmps32
 go_upto_region 1 with (fail)
 rw [l.out];clear l
 go_wp2_with (first | (go_at_call 20;with_reducible refine (kJ _ a.below).mono ?_;rintro e w2 ⟨g,rfl⟩;have b:=ag ni.step a g;obtain ⟨z0,z1,z2,z3,T,U,z4,z5,V,Y,z6,hr,y0,y1,y2,y3,y4,y5,y6,f0,f1,f2,f3,f4,f5,f6⟩:=b.res.cells) | (go_at_call 20;with_reducible refine (C _ k.below).mono ?_;rintro e w1 ⟨f,rfl⟩;have b:=ag ni.step k f;have a:=b;clear b;obtain ⟨x0,x1,x2,x3,x4,x5⟩:=aD a.r1))
 obtain ⟨I,J,L,M,N,O,Q⟩:=wO hr (vI 0) (vI 0) vF vZ vE vZ (vI 2);have z:=(uS b (aZ (by omega) (aZ (by omega) dV)) (by omega) 0 0 false none 0 0 ⟨#[]⟩ none 0 0 2).below;exact bodyPost_ret (v:=vG 0 0 false none 0 0 ⟨#[]⟩ none 0 0 2) (by simp [results,results32,go_sem,loadCellsFrom,I,J,L,M,N,O,Q]) rfl ⟨z,rfl⟩
theorem PZ (j k:Value)(w:World)(h1:mJ w j)(r:Dp k) :
 CB 33 #[j,k] w fun e _=>e=.returned (vG 0 0 false none 0 0 ⟨#[]⟩ none 0 0 2):=by
 have y:=fun X (s:bW w X)=>(h1.below s).is
 obtain ⟨u,B,p,l,m1,m,C,o,z,n,rfl⟩:=h1.shape;obtain ⟨x,n2,q,a2,m2,c2,D,gm,A,gp,rfl⟩:=r;obtain ⟨M,g,c,b,h,i⟩:=MJ w 27 (lV u B p l m1 m C o z n) 27 (lV x n2 q a2 m2 c2 D gm A gp) 41 (lG 0 0 false none 0 0 ⟨#[]⟩ none 0 0 0);have d:=fC (R:=ni _) (ax b (ax h aS)) ⟨_,_,_,_,_,_,_,_,_,_,_,i⟩ c;obtain ⟨T,U,V,Y,Z,d5⟩:=aD b;clear h1 c i b h
 go_enter func33,ntmps33
 go_upto_region 1 with (fail)
 rw [g.out];clear g
 go_wp2_with (go_at_call 20;with_reducible refine (y _ d.below).mono ?_;rintro e w1 ⟨a,rfl⟩;have f:=ag ni.step d a;obtain ⟨z0,z1,z2,z3,N,O,z4,z5,Q,S,z6,hr,y0,y1,y2,y3,y4,y5,y6,f0,f1,f2,f3,f4,f5,f6⟩:=f.res.cells)
 obtain ⟨E,F,G,H,I,J,L⟩:=wO hr (vI 0) (vI 0) vF vZ vE vZ (vI 2);have t:=(uS f (aZ (by omega) (aZ (by omega) dV)) (by omega) 0 0 false none 0 0 ⟨#[]⟩ none 0 0 2).below;exact bodyPost_ret (v:=vG 0 0 false none 0 0 ⟨#[]⟩ none 0 0 2) (by simp [results,results33,go_sem,loadCellsFrom,E,F,G,H,I,J,L]) rfl ⟨t,rfl⟩
theorem Ra (o q:Value)(i:Int)(p:Nat)(w:World)(h1:dB w o i p)(c:mJ w q) :
 CB 33 #[o,q] w fun e _=>e=.returned (vG 0 0 false none 0 0 ⟨#[]⟩ none 0 0 2):=by
 have C:=fun X (d:bW w X)=>(h1.below d).is
 have kJ:=fun X (d:bW w X)=>(c.below d).is
 obtain ⟨A,F,x,r,m1,s,G,u,D,t,rfl⟩:=h1.kY;obtain ⟨B,n2,y,a2,m2,c2,H,gm,E,gp,rfl⟩:=c.shape;obtain ⟨S,l,j,h,m,n⟩:=MJ w 27 (lV A F x r m1 s G u D t) 27 (lV B n2 y a2 m2 c2 H gm E gp) 41 (lG 0 0 false none 0 0 ⟨#[]⟩ none 0 0 0);have k:=fC (R:=ni _) (ax h (ax m aS)) ⟨_,_,_,_,_,_,_,_,_,_,_,n⟩ j;obtain ⟨Z,d1,d2,d3,d4,d5⟩:=aD h;clear h1 c j n h m
 go_enter func33,ntmps33
 go_upto_region 1 with (fail)
 rw [l.out];clear l
 go_wp2_with (first | (go_at_call 20;with_reducible refine (kJ _ a.below).mono ?_;rintro e w2 ⟨g,rfl⟩;have b:=ag ni.step a g;obtain ⟨z0,z1,z2,z3,T,U,z4,z5,V,Y,z6,hr,y0,y1,y2,y3,y4,y5,y6,f0,f1,f2,f3,f4,f5,f6⟩:=b.res.cells) | (go_at_call 20;with_reducible refine (C _ k.below).mono ?_;rintro e w1 ⟨f,rfl⟩;have b:=ag ni.step k f;have a:=b;clear b;obtain ⟨x0,x1,x2,x3,x4,x5⟩:=aD a.r1))
 obtain ⟨I,J,L,M,N,O,Q⟩:=wO hr (vI 0) (vI 0) vF vZ vE vZ (vI 2);have z:=(uS b (aZ (by omega) (aZ (by omega) dV)) (by omega) 0 0 false none 0 0 ⟨#[]⟩ none 0 0 2).below;exact bodyPost_ret (v:=vG 0 0 false none 0 0 ⟨#[]⟩ none 0 0 2) (by simp [results,results33,go_sem,loadCellsFrom,I,J,L,M,N,O,Q]) rfl ⟨z,rfl⟩
theorem Rb (j k:Value)(w:World)(h1:mJ w j)(r:Dp k) :
 CB 34 #[j,k] w fun e _=>e=.returned (vG 0 0 false none 0 0 ⟨#[]⟩ none 0 0 2):=by
 have y:=fun X (s:bW w X)=>(h1.below s).is
 obtain ⟨u,B,p,l,m1,m,C,o,z,n,rfl⟩:=h1.shape;obtain ⟨x,n2,q,a2,m2,c2,D,gm,A,gp,rfl⟩:=r;obtain ⟨M,g,c,b,h,i⟩:=MJ w 27 (lV u B p l m1 m C o z n) 27 (lV x n2 q a2 m2 c2 D gm A gp) 41 (lG 0 0 false none 0 0 ⟨#[]⟩ none 0 0 0);have d:=fC (R:=ni _) (ax b (ax h aS)) ⟨_,_,_,_,_,_,_,_,_,_,_,i⟩ c;obtain ⟨T,U,V,Y,Z,d5⟩:=aD b;clear h1 c i b h
 go_enter func34,ntmps34
 go_upto_region 1 with (fail)
 rw [g.out];clear g
 go_wp2_with (go_at_call 20;with_reducible refine (y _ d.below).mono ?_;rintro e w1 ⟨a,rfl⟩;have f:=ag ni.step d a;obtain ⟨z0,z1,z2,z3,N,O,z4,z5,Q,S,z6,hr,y0,y1,y2,y3,y4,y5,y6,f0,f1,f2,f3,f4,f5,f6⟩:=f.res.cells)
 obtain ⟨E,F,G,H,I,J,L⟩:=wO hr (vI 0) (vI 0) vF vZ vE vZ (vI 2);have t:=(uS f (aZ (by omega) (aZ (by omega) dV)) (by omega) 0 0 false none 0 0 ⟨#[]⟩ none 0 0 2).below;exact bodyPost_ret (v:=vG 0 0 false none 0 0 ⟨#[]⟩ none 0 0 2) (by simp [results,results34,go_sem,loadCellsFrom,E,F,G,H,I,J,L]) rfl ⟨t,rfl⟩
theorem Rc (o q:Value)(i:Int)(p:Nat)(w:World)(h1:dB w o i p)(c:mJ w q) :
 CB 34 #[o,q] w fun e _=>e=.returned (vG 0 0 false none 0 0 ⟨#[]⟩ none 0 0 2):=by
 have C:=fun X (d:bW w X)=>(h1.below d).is
 have kJ:=fun X (d:bW w X)=>(c.below d).is
 obtain ⟨A,F,x,r,m1,s,G,u,D,t,rfl⟩:=h1.kY;obtain ⟨B,n2,y,a2,m2,c2,H,gm,E,gp,rfl⟩:=c.shape;obtain ⟨S,l,j,h,m,n⟩:=MJ w 27 (lV A F x r m1 s G u D t) 27 (lV B n2 y a2 m2 c2 H gm E gp) 41 (lG 0 0 false none 0 0 ⟨#[]⟩ none 0 0 0);have k:=fC (R:=ni _) (ax h (ax m aS)) ⟨_,_,_,_,_,_,_,_,_,_,_,n⟩ j;obtain ⟨Z,d1,d2,d3,d4,d5⟩:=aD h;clear h1 c j n h m
 go_enter func34,ntmps34
 go_upto_region 1 with (fail)
 rw [l.out];clear l
 go_wp2_with (first | (go_at_call 20;with_reducible refine (kJ _ a.below).mono ?_;rintro e w2 ⟨g,rfl⟩;have b:=ag ni.step a g;obtain ⟨z0,z1,z2,z3,T,U,z4,z5,V,Y,z6,hr,y0,y1,y2,y3,y4,y5,y6,f0,f1,f2,f3,f4,f5,f6⟩:=b.res.cells) | (go_at_call 20;with_reducible refine (C _ k.below).mono ?_;rintro e w1 ⟨f,rfl⟩;have b:=ag ni.step k f;have a:=b;clear b;obtain ⟨x0,x1,x2,x3,x4,x5⟩:=aD a.r1))
 obtain ⟨I,J,L,M,N,O,Q⟩:=wO hr (vI 0) (vI 0) vF vZ vE vZ (vI 2);have z:=(uS b (aZ (by omega) (aZ (by omega) dV)) (by omega) 0 0 false none 0 0 ⟨#[]⟩ none 0 0 2).below;exact bodyPost_ret (v:=vG 0 0 false none 0 0 ⟨#[]⟩ none 0 0 2) (by simp [results,results34,go_sem,loadCellsFrom,I,J,L,M,N,O,Q]) rfl ⟨z,rfl⟩
theorem Re (j k:Value)(w:World)(h1:mJ w j)(r:Dp k) :
 CB 35 #[j,k] w fun e _=>e=.returned (vG 0 0 false none 0 0 ⟨#[]⟩ none 0 0 2):=by
 have y:=fun X (s:bW w X)=>(h1.below s).is
 obtain ⟨u,B,p,l,m1,m,C,o,z,n,rfl⟩:=h1.shape;obtain ⟨x,n2,q,a2,m2,c2,D,gm,A,gp,rfl⟩:=r;obtain ⟨M,g,c,b,h,i⟩:=MJ w 27 (lV u B p l m1 m C o z n) 27 (lV x n2 q a2 m2 c2 D gm A gp) 41 (lG 0 0 false none 0 0 ⟨#[]⟩ none 0 0 0);have d:=fC (R:=ni _) (ax b (ax h aS)) ⟨_,_,_,_,_,_,_,_,_,_,_,i⟩ c;obtain ⟨T,U,V,Y,Z,d5⟩:=aD b;clear h1 c i b h
 go_enter func35,ntmps35
 go_upto_region 1 with (fail)
 rw [g.out];clear g
 go_wp2_with (go_at_call 20;with_reducible refine (y _ d.below).mono ?_;rintro e w1 ⟨a,rfl⟩;have f:=ag ni.step d a;obtain ⟨z0,z1,z2,z3,N,O,z4,z5,Q,S,z6,hr,y0,y1,y2,y3,y4,y5,y6,f0,f1,f2,f3,f4,f5,f6⟩:=f.res.cells)
 obtain ⟨E,F,G,H,I,J,L⟩:=wO hr (vI 0) (vI 0) vF vZ vE vZ (vI 2);have t:=(uS f (aZ (by omega) (aZ (by omega) dV)) (by omega) 0 0 false none 0 0 ⟨#[]⟩ none 0 0 2).below;exact bodyPost_ret (v:=vG 0 0 false none 0 0 ⟨#[]⟩ none 0 0 2) (by simp [results,results35,go_sem,loadCellsFrom,E,F,G,H,I,J,L]) rfl ⟨t,rfl⟩
theorem Rf (o q:Value)(i:Int)(p:Nat)(w:World)(h1:dB w o i p)(c:mJ w q) :
 CB 35 #[o,q] w fun e _=>e=.returned (vG 0 0 false none 0 0 ⟨#[]⟩ none 0 0 2):=by
 have C:=fun X (d:bW w X)=>(h1.below d).is
 have kJ:=fun X (d:bW w X)=>(c.below d).is
 obtain ⟨A,F,x,r,m1,s,G,u,D,t,rfl⟩:=h1.kY;obtain ⟨B,n2,y,a2,m2,c2,H,gm,E,gp,rfl⟩:=c.shape;obtain ⟨S,l,j,h,m,n⟩:=MJ w 27 (lV A F x r m1 s G u D t) 27 (lV B n2 y a2 m2 c2 H gm E gp) 41 (lG 0 0 false none 0 0 ⟨#[]⟩ none 0 0 0);have k:=fC (R:=ni _) (ax h (ax m aS)) ⟨_,_,_,_,_,_,_,_,_,_,_,n⟩ j;obtain ⟨Z,d1,d2,d3,d4,d5⟩:=aD h;clear h1 c j n h m
 go_enter func35,ntmps35
 go_upto_region 1 with (fail)
 rw [l.out];clear l
 go_wp2_with (first | (go_at_call 20;with_reducible refine (kJ _ a.below).mono ?_;rintro e w2 ⟨g,rfl⟩;have b:=ag ni.step a g;obtain ⟨z0,z1,z2,z3,T,U,z4,z5,V,Y,z6,hr,y0,y1,y2,y3,y4,y5,y6,f0,f1,f2,f3,f4,f5,f6⟩:=b.res.cells) | (go_at_call 20;with_reducible refine (C _ k.below).mono ?_;rintro e w1 ⟨f,rfl⟩;have b:=ag ni.step k f;have a:=b;clear b;obtain ⟨x0,x1,x2,x3,x4,x5⟩:=aD a.r1))
 obtain ⟨I,J,L,M,N,O,Q⟩:=wO hr (vI 0) (vI 0) vF vZ vE vZ (vI 2);have z:=(uS b (aZ (by omega) (aZ (by omega) dV)) (by omega) 0 0 false none 0 0 ⟨#[]⟩ none 0 0 2).below;exact bodyPost_ret (v:=vG 0 0 false none 0 0 ⟨#[]⟩ none 0 0 2) (by simp [results,results35,go_sem,loadCellsFrom,I,J,L,M,N,O,Q]) rfl ⟨z,rfl⟩
theorem Rh (va vb:Value)(i:Int)(p:Nat)(j:Int)(q:Nat)(w:World)(h1:dB w va i p)(r:dB w vb j q) :
 CB 32 #[va,vb] w fun e w'=>∃ k0 n0 g a m c s l A B k,e=.returned (vG k0 n0 g a m c s l A B k)∧dP w' (least (i*((10^(20 - p):Nat):Int)+j*((10^(20 - q):Nat):Int)) 20).1 (least (i*((10^(20 - p):Nat):Int)+j*((10^(20 - q):Nat):Int)) 20).2 k (vV k0 n0 g a m c s l A B):=by
 have kI:=fun X (u:bW w X)=>(h1.below u).is
 have kJ:=fun X (u:bW w X)=>(r.below u).is
 have hV:=h1.v;have hp:=h1.hi;have Q:=h1.lo;have G:=h1.abs;have E:=r.v;have hq:=r.hi;have S:=r.lo;have H:=r.abs;obtain ⟨n1,a1,m1,c1,cu,cB,rfl,hI⟩:=h1.shape;obtain ⟨n2,a2,m2,c2,gm,gp,rfl,hJ⟩:=r.shape
 have kA:=fun X (u:bW w X)=>kE _ i p X (hV.below u) hp (az G (by decide))
 have kB:=fun X (u:bW w X)=>kE _ j q X (E.below u) hq (az H (by decide))
 have I:=xe G (show 20 - p≤3000 by omega);have V:=xe H (show 20 - q≤3000 by omega);generalize i*((10^(20 - p):Nat):Int)=x at *;generalize j*((10^(20 - q):Nat):Int)=y at *
 have kS:=fun X v v' (T:ak X v x) (U:ak X v' y)=>xN v v' x y 440 X T U (by decide) I V
 have bs:=xu I V;generalize x+y=z at *
 have kL:=fun X v (T:ak X v z)=>yo v z 20 X T (az bs (by decide)) (by decide)
 obtain ⟨W0,hW,b0,Y,q2,qr⟩:=MJ w 27 (lV 3 p n1 a1 m1 c1 ⟨#[]⟩ cu 0 cB) 27 (lV 3 q n2 a2 m2 c2 ⟨#[]⟩ gm 0 gp) 41 (lG 0 0 false none 0 0 ⟨#[]⟩ none 0 0 0);have J:=fC (R:=ni _) (ax Y (ax q2 aS)) ⟨_,_,_,_,_,_,_,_,_,_,_,qr⟩ b0
 have D:=yO J fun X h=>(ik h.r0 (aD h.r1):)
 obtain ⟨d0,d1,d2,d3,d4,d5⟩:=aD Y;clear h1 Q r S hq H b0 qr hp G Y q2;clear hI hJ hV E I V bs;go_enter func32,ntmps32
 go_upto_region 1 with (fail)
 rw [hW.out];clear hW
 go_upto_region 3 with (first | (go_at_call 20;with_reducible refine (kJ _ t.below).mono ?_;rintro e w2 ⟨O,rfl⟩;have M:=ag ni.step t O) | (go_at_call 20;with_reducible refine (kI _ J.below).mono ?_;rintro e w1 ⟨N,rfl⟩;have t:=ag ni.step J N;obtain ⟨x0,x1,x2,x3,x4,x5⟩:=aD t.r1))
 clear kI d0 d1 d2 d3 d4 d5 kJ x0 x1 x2 x3 x4 x5
 go_wp2_with fail
 refine bB D (bY ni.drew M) fun X0 d=>?_
 refine tk 0 d ?_;refine tk 2 d ?_
 refine rd 1 fun n f=>?_
 have hP:=d.2
 go_wp2_with (go_at_call 92;refine (kA _ hP.below).mono ?_;rintro e Z ⟨b,v5,rfl,o⟩)
 refine aT f D (ag ni.step hP b) fun d=>?_
 clear f n hP b
 refine rd 3 fun n f=>?_
 have hP:=d.2
 go_wp2_with (go_at_call 92;refine (kB _ hP.below).mono ?_;rintro e Z ⟨b,v6,rfl,C⟩)
 replace o:=o.below b
 refine aT f D (ag ni.step hP b) fun d=>?_
 clear f n hP b
 refine rd 4 fun n f=>?_
 have hP:=d.2
 go_wp2_with (go_at_call 67;refine (kS _ _ _ o C).mono ?_;rintro e Z ⟨b,v7,rfl,F⟩)
 replace o:=o.below b;replace C:=C.below b
 refine aT f D (ag ni.step hP b) fun d=>?_
 clear f n hP b
 refine rd 5 fun n f=>?_
 have hP:=d.2
 go_wp2_with (go_at_call 91;refine (kL _ _ F).mono ?_;rintro e Z ⟨b,k0,n0,g,a,m,c,s,l,A,B,k,rfl,hO⟩)
 replace o:=o.below b;replace C:=C.below b;replace F:=F.below b
 refine aT f D (ag ni.step hP b) fun d=>?_
 clear f n hP b
 refine rd 6 fun n f=>?_
 have hP:=d.2;obtain ⟨z0,z1,z2,z3,aI,aJ,z4,z5,aN,aO,z6,hr,y0,y1,y2,y3,y4,y5,y6,f0,f1,f2,f3,f4,f5,f6⟩:=hP.res.cells;clear kA kB kS kL o C F
 go_wp2_with fail
 refine aT f D (uS hP (aZ (by omega) (aZ (by omega) dV)) (by omega) k0 n0 g a m c s l A B k) fun d=>?_
 clear f n;obtain ⟨u0,u1,u2,u3,u4,u5,u6⟩:=wO hr (vI k0) (vI n0) (.bool g) (.slice a m c) (.string s) (.slice l A B) (vI k);refine wpAnyH_done (by kernel_rfl) ?_ _;have hb:=d.2.below;have L:=hO.keep (nP hr (vI k0) (vI n0) (.bool g) (.slice a m c) (.string s) (.slice l A B) (vI k));clear d hr hP hO
 go_wp2_with fail
 exact bodyPost_ret (v:=vG k0 n0 g a m c s l A B k) (by simp [results,results32,go_sem,loadCellsFrom,u0,u1,u2,u3,u4,u5,u6]) rfl ⟨hb,_,_,_,_,_,_,_,_,_,_,_,rfl,L⟩
theorem Ri (va vb:Value)(i:Int)(p:Nat)(j:Int)(q:Nat)(w:World)(h1:dB w va i p)(r:dB w vb j q) :
 CB 33 #[va,vb] w fun e w'=>∃ k0 n0 g a m c s l C D k,e=.returned (vG k0 n0 g a m c s l C D k)∧dP w' (least (i*((10^(20 - p):Nat):Int)+-(j*((10^(20 - q):Nat):Int))) 20).1 (least (i*((10^(20 - p):Nat):Int)+-(j*((10^(20 - q):Nat):Int))) 20).2 k (vV k0 n0 g a m c s l C D):=by
 have kI:=fun X (B:bW w X)=>(h1.below B).is
 have kJ:=fun X (B:bW w X)=>(r.below B).is
 have hV:=h1.v;have hp:=h1.hi;have Y:=h1.lo;have L:=h1.abs;have F:=r.v;have hq:=r.hi;have Z:=r.lo;have M:=r.abs;obtain ⟨n1,a1,m1,c1,cu,cB,rfl,hI⟩:=h1.shape;obtain ⟨n2,a2,m2,c2,gm,gp,rfl,hJ⟩:=r.shape
 have kA:=fun X (B:bW w X)=>kE _ i p X (hV.below B) hp (az L (by decide))
 have kB:=fun X (B:bW w X)=>kE _ j q X (F.below B) hq (az M (by decide))
 have O:=xe L (show 20 - p≤3000 by omega);have oP:=xe M (show 20 - q≤3000 by omega);generalize i*((10^(20 - p):Nat):Int)=x at *;generalize j*((10^(20 - q):Nat):Int)=y at *
 have kN:=fun X v (G:ak X v y)=>zb v y X G
 have N:(-y).natAbs<aj^440:=by rw [JU];exact oP
 generalize -y=J at *
 have kS:=fun X v v' (G:ak X v x) (a0:ak X v' J)=>xN v v' x J 440 X G a0 (by decide) O N
 have bs:=xu O N;generalize x+J=z at *
 have kL:=fun X v (G:ak X v z)=>yo v z 20 X G (az bs (by decide)) (by decide)
 obtain ⟨W0,hW,b0,q1,q2,qr⟩:=MJ w 27 (lV 3 p n1 a1 m1 c1 ⟨#[]⟩ cu 0 cB) 27 (lV 3 q n2 a2 m2 c2 ⟨#[]⟩ gm 0 gp) 41 (lG 0 0 false none 0 0 ⟨#[]⟩ none 0 0 0);have Q:=fC (R:=ni _) (ax q1 (ax q2 aS)) ⟨_,_,_,_,_,_,_,_,_,_,_,qr⟩ b0
 have A:=yO Q fun X h=>(ik h.r0 (aD h.r1):)
 obtain ⟨d0,d1,d2,d3,d4,d5⟩:=aD q1;clear h1 Y r Z hq M b0 qr hp L q1 q2;clear hI hJ hV F O oP bs N;go_enter func33,ntmps33
 go_upto_region 1 with (fail)
 rw [hW.out];clear hW
 go_upto_region 3 with (first | (go_at_call 20;with_reducible refine (kJ _ u.below).mono ?_;rintro e w2 ⟨V,rfl⟩;have T:=ag ni.step u V) | (go_at_call 20;with_reducible refine (kI _ Q.below).mono ?_;rintro e w1 ⟨U,rfl⟩;have u:=ag ni.step Q U;obtain ⟨x0,x1,x2,x3,x4,x5⟩:=aD u.r1))
 clear kI d0 d1 d2 d3 d4 d5 kJ x0 x1 x2 x3 x4 x5
 go_wp2_with fail
 refine bB A (bY ni.drew T) fun X0 f=>?_
 refine tk 0 f ?_;refine tk 2 f ?_
 refine rd 1 fun n d=>?_
 have hP:=f.2
 go_wp2_with (go_at_call 92;refine (kA _ hP.below).mono ?_;rintro e I ⟨b,v5,rfl,o⟩)
 refine aT d A (ag ni.step hP b) fun f=>?_
 clear d n hP b
 refine rd 3 fun n d=>?_
 have hP:=f.2
 go_wp2_with (go_at_call 92;refine (kB _ hP.below).mono ?_;rintro e I ⟨b,v6,rfl,t⟩)
 replace o:=o.below b
 refine aT d A (ag ni.step hP b) fun f=>?_
 clear d n hP b
 refine rd 4 fun n d=>?_
 have hP:=f.2
 go_wp2_with (go_at_call 65;refine (kN _ _ t).mono ?_;rintro e I ⟨b,v8,rfl,E⟩)
 replace o:=o.below b;replace t:=t.below b
 refine aT d A (ag ni.step hP b) fun f=>?_
 clear d n hP b
 refine rd 5 fun n d=>?_
 have hP:=f.2
 go_wp2_with (go_at_call 67;refine (kS _ _ _ o E).mono ?_;rintro e I ⟨b,v7,rfl,H⟩)
 replace o:=o.below b;replace t:=t.below b;replace E:=E.below b
 refine aT d A (ag ni.step hP b) fun f=>?_
 clear d n hP b
 refine rd 6 fun n d=>?_
 have hP:=f.2
 go_wp2_with (go_at_call 91;refine (kL _ _ H).mono ?_;rintro e I ⟨b,k0,n0,g,a,m,c,s,l,C,D,k,rfl,hO⟩)
 replace o:=o.below b;replace t:=t.below b;replace E:=E.below b;replace H:=H.below b
 refine aT d A (ag ni.step hP b) fun f=>?_
 clear d n hP b
 refine rd 7 fun n d=>?_
 have hP:=f.2;obtain ⟨z0,z1,z2,z3,aI,aJ,z4,z5,aN,aO,z6,hr,y0,y1,J,y3,y4,y5,y6,f0,f1,f2,f3,f4,f5,f6⟩:=hP.res.cells;clear kA kB kN kS kL o E H
 go_wp2_with fail
 refine aT d A (uS hP (aZ (by omega) (aZ (by omega) dV)) (by omega) k0 n0 g a m c s l C D k) fun f=>?_
 clear d n;obtain ⟨u0,u1,u2,u3,u4,u5,u6⟩:=wO hr (vI k0) (vI n0) (.bool g) (.slice a m c) (.string s) (.slice l C D) (vI k);refine wpAnyH_done (by kernel_rfl) ?_ _;have hb:=f.2.below;have S:=hO.keep (nP hr (vI k0) (vI n0) (.bool g) (.slice a m c) (.string s) (.slice l C D) (vI k));clear f hr hP hO
 go_wp2_with fail
 exact bodyPost_ret (v:=vG k0 n0 g a m c s l C D k) (by simp [results,results33,go_sem,loadCellsFrom,u0,u1,u2,u3,u4,u5,u6]) rfl ⟨hb,_,_,_,_,_,_,_,_,_,_,_,rfl,S⟩
theorem Rj (va vb:Value)(i:Int)(p:Nat)(j:Int)(q:Nat)(w:World)(h1:dB w va i p)(r:dB w vb j q) :
 CB 34 #[va,vb] w fun e w'=>∃ k0 n0 g a m c s l u z k,e=.returned (vG k0 n0 g a m c s l u z k)∧dP w' (least (near (i*j*((10^20:Nat):Int)) ((10^(p+q):Nat):Int)) 20).1 (least (near (i*j*((10^20:Nat):Int)) ((10^(p+q):Nat):Int)) 20).2 k (vV k0 n0 g a m c s l u z):=by
 have kI:=fun X (B:bW w X)=>(h1.below B).is
 have kJ:=fun X (B:bW w X)=>(r.below B).is
 have hV:=h1.v;have hp:=h1.hi;have N:=h1.lo;have E:=h1.abs;have J:=r.v;have hq:=r.hi;have Q:=r.lo;have F:=r.abs;obtain ⟨n1,a1,m1,c1,cu,cB,rfl,hI⟩:=h1.shape;obtain ⟨n2,a2,m2,c2,gm,gp,rfl,hJ⟩:=r.shape
 have kA:=fun X (B:bW w X)=>yl _ _ i j X (hI.below B) (hJ.below B) (az E (by decide)) (az F (by decide))
 have U:=fun X=>za (p+q) X (by omega)
 rw [show ((p+q:Nat):Int)=(p:Int)+(q:Int) by omega] at U;have Z:=jb E F;have bt:=qa (p+q) (by omega)
 have t0:((10^(p+q):Nat):Int)≠0:=by have:=Qq (n:=p+q) (show 0<10 by decide);omega
 have O:(p:Int)≤20:=by omega
 have S:(q:Int)≤20:=by omega
 generalize i*j=x at *;generalize ((10^(p+q):Nat):Int)=y at *
 have kU:=fun X v v' (hv:ak X v x) (T:ak X v' y)=>Ol v v' x y X hv T (az Z (by decide)) (az bt (by decide)) t0
 obtain ⟨W0,hW,Y,V,q2,qr⟩:=MJ w 27 (lV 3 p n1 a1 m1 c1 ⟨#[]⟩ cu 0 cB) 27 (lV 3 q n2 a2 m2 c2 ⟨#[]⟩ gm 0 gp) 41 (lG 0 0 false none 0 0 ⟨#[]⟩ none 0 0 0);have G:=fC (R:=ni _) (ax V (ax q2 aS)) ⟨_,_,_,_,_,_,_,_,_,_,_,qr⟩ Y
 have C:=yO G fun X h=>(MM h.r0 (nk h.r1):)
 obtain ⟨d0,d1,d2,d3,d4,d5⟩:=aD V;clear h1 N r Q hq F Y qr hp E V q2;clear hI hJ hV J Z bt t0;go_enter func34,ntmps34
 go_upto_region 1 with (fail)
 rw [hW.out];clear hW
 go_upto_region 3 with (first | (go_at_call 20;with_reducible refine (kJ _ t.below).mono ?_;rintro e w2 ⟨M,rfl⟩;have I:=ag ni.step t M) | (go_at_call 20;with_reducible refine (kI _ G.below).mono ?_;rintro e w1 ⟨L,rfl⟩;have t:=ag ni.step G L;obtain ⟨x0,x1,x2,x3,x4,x5⟩:=aD t.r1))
 clear kI d0 d1 d2 d3 d4 d5 kJ x0 x1 x2 x3 x4 x5
 go_wp2_with fail
 refine bB C (bY ni.drew I) fun X0 d=>?_
 refine tk 0 d ?_;refine tk 1 d ?_;refine tk 2 d ?_;refine tk 3 d ?_;refine tk 5 d ?_;refine tk 6 d ?_;refine tk 7 d ?_;refine tk 8 d ?_;refine tk 9 d ?_
 refine rd 4 fun o f=>?_
 have hP:=d.2
 go_wp2_with (go_at_call 63;refine (kA _ hP.below).mono ?_;rintro e wk ⟨b,v5,rfl,A⟩)
 refine aT f C (ag ni.step hP b) fun d=>?_
 clear f o hP b
 refine rd 10 fun o f=>?_
 have hP:=d.2
 go_wp2_with (go_at_call 64;refine (U _).mono ?_;rintro e wk ⟨b,v6,rfl,D⟩)
 replace A:=A.below b
 refine aT f C (ag ni.step hP b) fun d=>?_
 clear f o hP b
 refine rd 11 fun o f=>?_
 have hP:=d.2
 go_wp2_with (go_at_call 102;refine (kU _ _ _ A D).mono ?_;rintro e wk ⟨b,k0,n0,g,a,m,c,s,l,u,z,k,rfl,hO⟩)
 replace A:=A.below b;replace D:=D.below b
 refine aT f C (ag ni.step hP b) fun d=>?_
 clear f o hP b
 refine rd 12 fun o f=>?_
 have hP:=d.2;obtain ⟨z0,z1,z2,z3,aI,aJ,z4,z5,aN,aO,z6,hr,y0,y1,y2,y3,y4,y5,y6,f0,f1,f2,f3,f4,f5,f6⟩:=hP.res.cells;clear kA U kU A D O S
 go_wp2_with fail
 refine aT f C (uS hP (aZ (by omega) (aZ (by omega) dV)) (by omega) k0 n0 g a m c s l u z k) fun d=>?_
 clear f o;obtain ⟨u0,u1,u2,u3,u4,u5,u6⟩:=wO hr (vI k0) (vI n0) (.bool g) (.slice a m c) (.string s) (.slice l u z) (vI k);refine wpAnyH_done (by kernel_rfl) ?_ _;have hb:=d.2.below;have H:=hO.keep (nP hr (vI k0) (vI n0) (.bool g) (.slice a m c) (.string s) (.slice l u z) (vI k));clear d hr hP hO
 go_wp2_with fail
 exact bodyPost_ret (v:=vG k0 n0 g a m c s l u z k) (by simp [results,results34,go_sem,loadCellsFrom,u0,u1,u2,u3,u4,u5,u6]) rfl ⟨hb,_,_,_,_,_,_,_,_,_,_,_,rfl,H⟩
theorem Rk (va vb:Value)(i:Int)(p:Nat)(j:Int)(q:Nat)(w:World)(h1:dB w va i p)(A:dB w vb j q)(G:j≠0) :
 CB 35 #[va,vb] w fun e w'=>∃ k0 n0 g a m c s l E F k,e=.returned (vG k0 n0 g a m c s l E F k)∧dP w' (least (near (i*((10^q:Nat):Int)*((10^20:Nat):Int)) (j*((10^p:Nat):Int))) 20).1 (least (near (i*((10^q:Nat):Int)*((10^20:Nat):Int)) (j*((10^p:Nat):Int))) 20).2 k (vV k0 n0 g a m c s l E F):=by
 have kI:=fun X (u:bW w X)=>(h1.below u).is
 have kJ:=fun X (u:bW w X)=>(A.below u).is
 have hV:=h1.v;have hp:=h1.hi;have a0:=h1.lo;have L:=h1.abs;have U:=A.v;have hq:=A.hi;have a3:=A.lo;have M:=A.abs;obtain ⟨n1,a1,m1,c1,cu,cB,rfl,hI⟩:=h1.shape;obtain ⟨n2,a2,m2,c2,gm,gp,rfl,Q⟩:=A.shape
 have kZ:=fun X (u:bW w X)=>Gt _ j X (Q.below u)
 rw [decide_eq_false G] at kZ
 have kT:=fun X=>za q X (by omega)
 have kS:=fun X=>za p X (by omega)
 have N:=qa q (by omega);have bs:=qa p (by omega);have t0:j*((10^p:Nat):Int)≠0:=Int.mul_ne_zero G (by have:=Qq (n:=p) (show 0<10 by decide);omega);have bx:=jb L N;have oP:=jb M bs;generalize ((10^q:Nat):Int)=tq at *;generalize ((10^p:Nat):Int)=tp at *
 have kA:=fun X (u:bW w X) v (H:ak X v tq)=>yl _ v i tq X (hI.below u) H (az L (by decide)) (az N (by decide))
 have kB:=fun X (u:bW w X) v (H:ak X v tp)=>yl _ v j tp X (Q.below u) H (az M (by decide)) (az bs (by decide))
 generalize i*tq=x at *;generalize j*tp=y at *
 have kU:=fun X v v' (H:ak X v x) (a4:ak X v' y)=>Ol v v' x y X H a4 (az bx (by decide)) (az oP (by decide)) t0
 obtain ⟨W0,hW,b0,q1,q2,qr⟩:=MJ w 27 (lV 3 p n1 a1 m1 c1 ⟨#[]⟩ cu 0 cB) 27 (lV 3 q n2 a2 m2 c2 ⟨#[]⟩ gm 0 gp) 41 (lG 0 0 false none 0 0 ⟨#[]⟩ none 0 0 0);have O:=fC (R:=ni _) (ax q1 (ax q2 aS)) ⟨_,_,_,_,_,_,_,_,_,_,_,qr⟩ b0
 have D:=yO O fun X h=>(MM h.r0 (nk h.r1):)
 obtain ⟨d0,d1,d2,d3,d4,d5⟩:=aD q1;clear h1 a0 A a3 hq M b0 qr hp L q1 q2;clear hI Q hV U N bs t0 bx oP;go_enter func35,ntmps35
 go_upto_region 1 with (fail)
 rw [hW.out];clear hW
 go_upto_region 5 with (first | (go_at_call 78;with_reducible refine (kZ _ C.below).mono ?_;rintro e w3 ⟨Z,rfl⟩;have T:=ag ni.step C Z) | (go_at_call 20;with_reducible refine (kJ _ B.below).mono ?_;rintro e w2 ⟨Y,rfl⟩;have C:=ag ni.step B Y;obtain ⟨g2,g3⟩:=BD C.r1) | (go_at_call 20;with_reducible refine (kI _ O.below).mono ?_;rintro e w1 ⟨V,rfl⟩;have B:=ag ni.step O V;obtain ⟨x0,x1,x2,x3,x4,x5⟩:=aD B.r1))
 clear kI d0 d1 d2 d3 d4 d5 kJ x0 x1 x2 x3 x4 x5 g2 g3 kZ
 go_wp2_with fail
 refine bB D (bY ni.drew T) fun X0 d=>?_
 refine tk 0 d ?_;refine tk 1 d ?_;refine tk 2 d ?_;refine tk 3 d ?_;refine tk 6 d ?_;refine tk 7 d ?_;refine tk 8 d ?_;refine tk 9 d ?_
 refine rd 4 fun r f=>?_
 have hP:=d.2
 go_wp2_with (go_at_call 64;refine (kT _).mono ?_;rintro e J ⟨b,v5,rfl,t⟩)
 refine aT f D (ag ni.step hP b) fun d=>?_
 clear f r hP b
 refine rd 5 fun r f=>?_
 have hP:=d.2
 go_wp2_with (go_at_call 63;refine (kA _ hP.below _ t).mono ?_;rintro e J ⟨b,v6,rfl,z⟩)
 replace t:=t.below b
 refine aT f D (ag ni.step hP b) fun d=>?_
 clear f r hP b
 refine rd 10 fun r f=>?_
 have hP:=d.2
 go_wp2_with (go_at_call 64;refine (kS _).mono ?_;rintro e J ⟨b,v7,rfl,o⟩)
 replace t:=t.below b;replace z:=z.below b
 refine aT f D (ag ni.step hP b) fun d=>?_
 clear f r hP b
 refine rd 11 fun r f=>?_
 have hP:=d.2
 go_wp2_with (go_at_call 63;refine (kB _ hP.below _ o).mono ?_;rintro e J ⟨b,v8,rfl,I⟩)
 replace t:=t.below b;replace z:=z.below b;replace o:=o.below b
 refine aT f D (ag ni.step hP b) fun d=>?_
 clear f r hP b
 refine rd 12 fun r f=>?_
 have hP:=d.2
 go_wp2_with (go_at_call 102;refine (kU _ _ _ z I).mono ?_;rintro e J ⟨b,k0,n0,g,a,m,c,s,l,E,F,k,rfl,hO⟩)
 replace t:=t.below b;replace z:=z.below b;replace o:=o.below b;replace I:=I.below b
 refine aT f D (ag ni.step hP b) fun d=>?_
 clear f r hP b
 refine rd 13 fun r f=>?_
 have hP:=d.2;obtain ⟨z0,z1,z2,z3,aI,aJ,z4,z5,aN,aO,z6,hr,y0,y1,y2,y3,y4,y5,y6,f0,f1,f2,f3,f4,f5,f6⟩:=hP.res.cells;clear kA kB kT kS kU z I t o
 go_wp2_with fail
 refine aT f D (uS hP (aZ (by omega) (aZ (by omega) dV)) (by omega) k0 n0 g a m c s l E F k) fun d=>?_
 clear f r;obtain ⟨u0,u1,u2,u3,u4,u5,u6⟩:=wO hr (vI k0) (vI n0) (.bool g) (.slice a m c) (.string s) (.slice l E F) (vI k);refine wpAnyH_done (by kernel_rfl) ?_ _;have hb:=d.2.below;have S:=hO.keep (nP hr (vI k0) (vI n0) (.bool g) (.slice a m c) (.string s) (.slice l E F) (vI k));clear d hr hP hO
 go_wp2_with fail
 exact bodyPost_ret (v:=vG k0 n0 g a m c s l E F k) (by simp [results,results35,go_sem,loadCellsFrom,u0,u1,u2,u3,u4,u5,u6]) rfl ⟨hb,_,_,_,_,_,_,_,_,_,_,_,rfl,S⟩
theorem PK (t u:Value)(i:Int)(p q:Nat)(w:World)(h1:dB w t i p)(f:dB w u 0 q) :
 CB 35 #[t,u] w fun e _=>e=.returned (vG 0 0 false none 0 0 ⟨#[]⟩ none 0 0 20):=by
 have G:=fun X (d:bW w X)=>(h1.below d).is
 have kJ:=fun X (d:bW w X)=>(f.below d).is
 obtain ⟨F,I,B,x,m1,y,J,A,H,z,rfl⟩:=h1.kY;obtain ⟨C,a2,m2,c2,gm,gp,rfl,D⟩:=f.shape
 have o:=fun X (d:bW w X)=>Gt _ 0 X (D.below d)
 rw [decide_eq_true rfl] at o;obtain ⟨U,n,l,k,r,s⟩:=MJ w 27 (lV F I B x m1 y J A H z) 27 (lV 3 q C a2 m2 c2 ⟨#[]⟩ gm 0 gp) 41 (lG 0 0 false none 0 0 ⟨#[]⟩ none 0 0 0);have m:=fC (R:=ni _) (ax k (ax r aS)) ⟨_,_,_,_,_,_,_,_,_,_,_,s⟩ l;obtain ⟨d0,d1,d2,d3,d4,d5⟩:=aD k;clear h1 f l s k r;go_enter func35,ntmps35
 go_upto_region 1 with (fail)
 rw [n.out];clear n
 go_wp2_with (first | (go_at_call 78;refine (o _ b.below).mono ?_;rintro e w3 ⟨j,rfl⟩;have c:=ag ni.step b j;obtain ⟨z0,z1,z2,z3,V,Y,z4,z5,Z,aO,z6,hr,y0,y1,y2,y3,y4,y5,y6,f0,f1,f2,f3,f4,f5,f6⟩:=c.res.cells) | (go_at_call 20;with_reducible refine (kJ _ a.below).mono ?_;rintro e w2 ⟨h,rfl⟩;have b:=ag ni.step a h;obtain ⟨m3,m4⟩:=BD b.r1) | (go_at_call 20;with_reducible refine (G _ m.below).mono ?_;rintro e w1 ⟨g,rfl⟩;have c:=ag ni.step m g;have a:=c;clear c;obtain ⟨x0,x1,x2,x3,x4,x5⟩:=aD a.r1))
 obtain ⟨L,M,N,O,Q,S,T⟩:=wO hr (vI 0) (vI 0) vF vZ vE vZ (vI 20);have E:=(uS c (aZ (by omega) (aZ (by omega) dV)) (by omega) 0 0 false none 0 0 ⟨#[]⟩ none 0 0 20).below;exact bodyPost_ret (v:=vG 0 0 false none 0 0 ⟨#[]⟩ none 0 0 20) (by simp [results,results35,go_sem,loadCellsFrom,L,M,N,O,Q,S,T]) rfl ⟨E,rfl⟩
theorem Rl (f h:Value)(o b:Option (Int × Nat))(w:World)(h1:Fm w f o)(d:Fm w h b) :
 CB 32 #[f,h] w fun e z=>∃ k0 n0 g a m c s l r t k,e=.returned (vG k0 n0 g a m c s l r t k)∧dG z (qE (fun _ _=>0) o b) (sQ vo o b) k (vV k0 n0 g a m c s l r t):=by
 cases o with
 | none =>
  refine (PX f h w h1 d.kY).mono ?_;rintro e u ⟨n,rfl⟩;exact ⟨n,_,_,_,_,_,_,_,_,_,_,_,rfl,by first | exact jX (k0:=2) (by decide) | (cases b <;> exact jX (k0:=2) (by decide))⟩
 | some x =>
  obtain ⟨i,p⟩:=x;have h1:dB w f i p:=h1
  cases b with
  | none =>
   refine (PY f h i p w h1 d).mono ?_;rintro e u ⟨n,rfl⟩;exact ⟨n,_,_,_,_,_,_,_,_,_,_,_,rfl,by first | exact jX (k0:=2) (by decide) | (cases b <;> exact jX (k0:=2) (by decide))⟩
  | some y =>
   obtain ⟨j,q⟩:=y;have d:dB w h j q:=d;refine (Rh f h i p j q w h1 d).mono ?_;rintro e u ⟨n,k0,n0,g,a,m,c,s,l,r,t,k,rfl,hf⟩;refine ⟨n,_,_,_,_,_,_,_,_,_,_,_,rfl,lQ ?_⟩
   have v:least (i*((10^(20 - p):Nat):Int)+j*((10^(20 - q):Nat):Int)) 20=vo (i,p) (j,q):=by
    unfold vo;rw [xH,xH,xH,xH];exact PD h1.hi d.hi
   rw [v] at hf;exact hf
theorem Rm (f h:Value)(o b:Option (Int × Nat))(w:World)(h1:Fm w f o)(d:Fm w h b) :
 CB 33 #[f,h] w fun e z=>∃ k0 n0 g a m c s l r t k,e=.returned (vG k0 n0 g a m c s l r t k)∧dG z (qE (fun _ _=>0) o b) (sQ nR o b) k (vV k0 n0 g a m c s l r t):=by
 cases o with
 | none =>
  refine (PZ f h w h1 d.kY).mono ?_;rintro e u ⟨n,rfl⟩;exact ⟨n,_,_,_,_,_,_,_,_,_,_,_,rfl,by first | exact jX (k0:=2) (by decide) | (cases b <;> exact jX (k0:=2) (by decide))⟩
 | some x =>
  obtain ⟨i,p⟩:=x;have h1:dB w f i p:=h1
  cases b with
  | none =>
   refine (Ra f h i p w h1 d).mono ?_;rintro e u ⟨n,rfl⟩;exact ⟨n,_,_,_,_,_,_,_,_,_,_,_,rfl,by first | exact jX (k0:=2) (by decide) | (cases b <;> exact jX (k0:=2) (by decide))⟩
  | some y =>
   obtain ⟨j,q⟩:=y;have d:dB w h j q:=d;refine (Ri f h i p j q w h1 d).mono ?_;rintro e u ⟨n,k0,n0,g,a,m,c,s,l,r,t,k,rfl,hf⟩;refine ⟨n,_,_,_,_,_,_,_,_,_,_,_,rfl,lQ ?_⟩
   have v:least (i*((10^(20 - p):Nat):Int)+-(j*((10^(20 - q):Nat):Int))) 20=nR (i,p) (j,q):=by
    unfold nR;rw [xH,xH,xH,xH];exact PE h1.hi d.hi
   rw [v] at hf;exact hf
theorem Rn (d f:Value)(o b:Option (Int × Nat))(w:World)(h1:Fm w d o)(h:Fm w f b) :
 CB 34 #[d,f] w fun e z=>∃ k0 n0 g a m c s l r t k,e=.returned (vG k0 n0 g a m c s l r t k)∧dG z (qE (fun _ _=>0) o b) (sQ mulL o b) k (vV k0 n0 g a m c s l r t):=by
 cases o with
 | none =>
  refine (Rb d f w h1 h.kY).mono ?_;rintro e u ⟨n,rfl⟩;exact ⟨n,_,_,_,_,_,_,_,_,_,_,_,rfl,by first | exact jX (k0:=2) (by decide) | (cases b <;> exact jX (k0:=2) (by decide))⟩
 | some x =>
  obtain ⟨i,p⟩:=x;have h1:dB w d i p:=h1
  cases b with
  | none =>
   refine (Rc d f i p w h1 h).mono ?_;rintro e u ⟨n,rfl⟩;exact ⟨n,_,_,_,_,_,_,_,_,_,_,_,rfl,by first | exact jX (k0:=2) (by decide) | (cases b <;> exact jX (k0:=2) (by decide))⟩
  | some y =>
   obtain ⟨j,q⟩:=y;have h:dB w f j q:=h;refine (Rj d f i p j q w h1 h).mono ?_;rintro e u ⟨n,k0,n0,g,a,m,c,s,l,r,t,k,rfl,hf⟩;refine ⟨n,_,_,_,_,_,_,_,_,_,_,_,rfl,lQ ?_⟩
   have v:least (near (i*j*((10^20:Nat):Int)) ((10^(p+q):Nat):Int)) 20=mulL (i,p) (j,q):=by
    unfold mulL;rw [xH,xH,PG]
   rw [v] at hf;exact hf
theorem Ro (d f:Value)(o h:Option (Int × Nat))(w:World)(h1:Fm w d o)(n:Fm w f h) :
 CB 35 #[d,f] w fun e B=>∃ k0 n0 g a m c s l v z k,e=.returned (vG k0 n0 g a m c s l v z k)∧dG B (qE (fun _ y=>if y.1=0 then 20 else 0) o h) (sQ vz o h) k (vV k0 n0 g a m c s l v z):=by
 cases o with
 | none =>
  refine (Re d f w h1 n.kY).mono ?_;rintro e u ⟨b,rfl⟩;exact ⟨b,_,_,_,_,_,_,_,_,_,_,_,rfl,by first | exact jX (k0:=2) (by decide) | (cases h <;> exact jX (k0:=2) (by decide))⟩
 | some x =>
  obtain ⟨i,p⟩:=x;have h1:dB w d i p:=h1
  cases h with
  | none =>
   refine (Rf d f i p w h1 n).mono ?_;rintro e u ⟨b,rfl⟩;exact ⟨b,_,_,_,_,_,_,_,_,_,_,_,rfl,by first | exact jX (k0:=2) (by decide) | (cases h <;> exact jX (k0:=2) (by decide))⟩
  | some y =>
   obtain ⟨j,q⟩:=y;have n:dB w f j q:=n
   by_cases r:j=0
   ·subst r
    refine (PK d f i p q w h1 n).mono ?_;rintro e u ⟨b,rfl⟩;exact ⟨b,_,_,_,_,_,_,_,_,_,_,_,rfl,jX (k0:=20) (by decide)⟩
   have t:(if (j,q).1=0 then (20:Int) else 0)=0:=if_neg r;refine (Rk d f i p j q w h1 n r).mono ?_;rintro e u ⟨b,k0,n0,g,a,m,c,s,l,v,z,k,rfl,hf⟩;refine ⟨b,_,_,_,_,_,_,_,_,_,_,_,rfl,jY t ?_⟩
   have A:least (near (i*((10^q:Nat):Int)*((10^20:Nat):Int)) (j*((10^p:Nat):Int))) 20=vz (i,p) (j,q):=by
    unfold vz;rw [xH,xH,xH,PH]
   rw [A] at hf;exact hf
end Go.Proofs.YtagjhmodblifbaaGreatDoor
