/- DecNearest: no decimal lies nearer to a product or a quotient than what Mul and Div return (any two decimals of at most 60 limbs) -/
import Derived.Test.YtagjhmodblifbaaGreatDoorN02
import Derived.Test.YtagjhmodblifbaaGreatDoorRows
import Derived.Test.YtagjhmodblifbaaGreatDoorTie
import Derived.SevenTiedAt
import Derived.Test.YtagjhmodblifbaaGreatDoorCards
import Derived.Carry
set_option maxHeartbeats 4000000
set_option maxRecDepth 100000
set_option exponentiation.threshold 100000
namespace Go.Proofs.YtagjhmodblifbaaGreatDoor
open Go.Proofs.Tryz
open Go.ChangeShapes Go.WideShapes Go.ChangeAt Go.RowKit Go.Joins
theorem NW (os:Os)(started:os.Started)(H:Type)(enc:TypeId × Value→H) :
  ReturnsInHanded {} checked os 10 .any (fun w args=>(Rows.decNearestSpec.pre enc prog f10 [] false w args∧laidMetH prog Mt w)∧sizedMet enc prog f10 (OpenSpec.ofChange Rows.decNearestSpec) false w args)
   (Rows.decNearestSpec.post enc prog f10 false true false false):=by
 refine returnsInHanded_of_change_and (C:=checked) (X:=fun w _=>laidMetH prog Mt w) (fun _ _ _ M h=>h.of_heap M) own started (by kernel_rfl) func10
  (ChangeSpec.witness_shaped (enc:=enc) (C:=checked) (os:=os) (X:=fun w _=>laidMetH prog Mt w) false (World.laidAll prog os Mt) #[vV 0 0 false none 0 0 ByteArray.empty none 0 0,vV 0 0 false none 0 0 ByteArray.empty none 0 0] 8 (World.laidAll_os _ _ _) (World.shaped_of_ZipB (by kernel_rfl) (by kernel_rfl)) (by kernel_rfl) (by kernel_rfl) (by kernel_rfl) (by rw [MakeChecks.laidMetH_plain _ _ _ (by kernel_rfl)];exact laidMet_laidAll _ (by kernel_rfl) (by kernel_rfl))) ?_
 intro W base args z Y before b s _ _ F _;have a:∀ (j:Nat) t v,f10.params[j]?=some t→args[j]?=some v→Value.okWide prog W .any base t v:=b;have f:=s;obtain ⟨p,q,d,I,rfl,L,N⟩:=s;have r:DataW.TrodAll enc prog W 0 (fun _=>true) true f10.params.toList args.toList z p:=d;rw [params10] at r a;obtain ⟨n,R,U,A,O,Z,g,rfl,rfl,h0,r0⟩:=trodAll_cons r
 obtain ⟨o,S,V,B,Q,q1,rfl,rfl,rfl,h1,r1⟩:=trodAll_cons r0;obtain ⟨rfl,rfl,rfl⟩:=trodAll_nil r1
 obtain rfl:args=#[n,o]:=by cases args;simp_all
 obtain ⟨rfl,rfl⟩:=trodVars_none I
 have k:∀ x ∈ O,x.block<W.heap.size:=by obtain ⟨m,i⟩:=h0;exact DataW.trod_lt m _ _ _ i
 have l:∀ x ∈ Q,x.block<W.heap.size:=by obtain ⟨m,i⟩:=h1;exact DataW.trod_lt m _ _ _ i
 obtain ⟨D,u⟩:=NC (a 0 27 n rfl rfl) h0;obtain ⟨E,y⟩:=NC (a 1 27 o rfl rfl) h1;have G:=ND F;clear d b
 refine (OY n o D E W u y G).mono fun e T ⟨c,J⟩=>?_
 subst J;exact ⟨_,rfl,_,_,_,[],_,[],f,trodAll_mk1 (shut_bool underlying4 _),(trodAll_cons_mk (Below.trod laidOut (by kernel_rfl) (of_decide_eq_true (by kernel_rfl)) h0 c k) (trodAll_cons_mk (Below.trod laidOut (by kernel_rfl) (of_decide_eq_true (by kernel_rfl)) h1 c l) trodAll_mk0)),rfl,c.frame _,fun h=>by cases h⟩
theorem Od:(Rows.decNearestRow.wf (OpenSpec.ofChange Rows.decNearestSpec))=true:=by kernel_rfl
theorem Oe:(f10.params.all (prog.readableRec ·))=true:=by kernel_rfl
theorem Og:(namedTie prog Rows.decNearestRow.named Rows.decNearestSpec.vars)=true:=by kernel_rfl
theorem Oh:((Rows.decNearestRow.stops == []))=true:=by kernel_rfl
theorem Oi:((prog.stops == []))=true:=by kernel_rfl
theorem Oj:((Rows.decNearestRow.knobs == []))=true:=by kernel_rfl
theorem Ol:((prog.stopKnobs == []))=true:=by kernel_rfl
theorem Om:((Rows.decNearestRow.inPlace == prog.inPlace 10))=true:=by kernel_rfl
theorem Oo:((Rows.decNearestRow.unfollowed == prog.unfollowed 10))=true:=by kernel_rfl
theorem Oq:((Rows.decNearestRow.recurses == prog.recurses 10))=true:=by kernel_rfl
theorem Ot:((Rows.decNearestRow.named == prog.varsNamed 10))=true:=by kernel_rfl
theorem Ou:((Rows.decNearestRow.maps == (f10.params.toList++Rows.decNearestSpec.plain.varTypes prog).any (prog.mapsRec ·)))=true:=by kernel_rfl
theorem Ov:((Rows.decNearestRow.ifaces == (f10.params.toList++Rows.decNearestSpec.plain.varTypes prog).any (prog.ifacesRec ·)))=true:=by kernel_rfl
theorem Ow:((Rows.decNearestRow.mapsOut == prog.mapsAmong f10.resultTypes.toList))=true:=by kernel_rfl
theorem Ox:((Rows.decNearestRow.loops == (f10.params.toList++Rows.decNearestSpec.plain.varTypes prog).any (prog.loopsFrom ·)))=true:=by kernel_rfl
theorem Oy:((Rows.decNearestRow.wideKeys == (f10.params.toList++Rows.decNearestSpec.plain.varTypes prog++f10.resultTypes.toList).any (prog.wideKeysFrom ·)))=true:=by kernel_rfl
theorem Oz:(Rows.decNearestSpec.vars.all (prog.varReadable ·))=true:=by kernel_rfl
theorem OA:(f10.resultTypes.all (fun t=>prog.readableRec t&&decide (t<prog.types.size)))=true:=by kernel_rfl
theorem OB:((Rows.decNearestRow.ifacesOut == f10.resultTypes.toList.any (prog.ifacesRec ·)))=true:=by kernel_rfl
theorem OC:((Rows.decNearestRow.loopsOut == f10.resultTypes.toList.any (prog.loopsFrom ·)))=true:=by kernel_rfl
theorem OD:((Rows.decNearestRow.plainKeys == prog.plainKeys))=true:=by kernel_rfl
theorem OE:(Rows.decNearestRow.shortTexts.isNone)=true:=by kernel_rfl
theorem OG:((Rows.decNearestRow.kinds == (if Rows.decNearestRow.domain.isEmpty then [] else f10.params.toList.map fun t=>match prog.underlying t with | some (.int k)=>some k | _=>none)))=true:=by kernel_rfl
theorem OH:((Rows.decNearestRow.pinned == Rows.decNearestRow.pinnedBy))=true:=by kernel_rfl
theorem OI:((Rows.decNearestRow.veiled == (f10.params.toList++Rows.decNearestSpec.plain.varTypes prog++f10.resultTypes.toList).any (prog.veiledRec ·)))=true:=by kernel_rfl
theorem OJ:(Rows.decNearestRow.veiledFits prog f10.params.toList (f10.params.toList++Rows.decNearestSpec.plain.varTypes prog++f10.resultTypes.toList))=true:=by kernel_rfl
theorem NY:joinedFacts prog 10 f10 Rows.decNearestSpec Rows.decNearestRow=true:=by
 unfold joinedFacts;exact (NP (NP (NP (NP (NP (NP (NP (NP (NP (NP (NP (NP (NP (NP (NP (NP (NP (NP (NP (NP (NP (NP (NP (NP (NP (NP (NP (NP (NP (NP (NP Od NQ) NR) Oe) Og) Oh) Oi) Oj) Ol) Om) Oo) Oq) Ot) Ou) Ov) Ow) Ox) Oy) Oz) OA) OB) OC) OD) OE) NS) NT) NU) NV) OG) OH) OI) OJ)
theorem Ob:Rows.DecNearestSaid :=
 OpenClaim.holds_of_wide 10 f10 rfl rfl rfl rfl rfl rfl rfl ⟨rfl,rfl,rfl,rfl,rfl⟩ rfl rfl rfl rfl rfl (by kernel_rfl) func10 NY
  (of_decide_eq_true (by kernel_rfl)) (by unfold Func.isWrapper;first | (rw [if_pos (by decide +kernel)];kernel_rfl) | (rw [if_neg (by decide +kernel)];exact ⟨rfl,rfl⟩))
  (fun os started H enc _=>NW os started H enc)
theorem OL:Rows.DecNearestCardSaid :=
 Claim7.holds_tied_plain_at .later [] [.data,.data,.pinned] true (true, "5a3eb988aab4a33965eb6ea46822f7ba40abd1d5151231f2e831e2d8ad74e7c3") true
  Ob (fun _ h=>by cases h) (by kernel_rfl) (fun _ h=>by cases h) decNearest_row_tie rfl ⟨rfl,rfl⟩ (by kernel_rfl) rfl
  (fun f fn hf b=>by
   obtain rfl:f=10:=Option.some.inj ((show prog.funcNamed "zermelo/zermelolaw02.DecNearest" = some 10 by kernel_rfl).symm.trans hf) |>.symm
   obtain rfl:fn=f10:=(Option.some.inj (func10.symm.trans b)).symm
   exact ⟨by kernel_rfl,fun j t c=>by
    rw [params10] at c
    have d:t ∈ [27,27]:=by simpa using Array.mem_of_getElem? c
    have a:([27,27].all fun u=>!prog.wantsStandIn u)=true:=by kernel_rfl
    exact (show prog.wantsStandIn t=false by simpa using List.all_eq_true.1 a t d)⟩)
  (by kernel_rfl)
#print axioms OL
end Go.Proofs.YtagjhmodblifbaaGreatDoor
