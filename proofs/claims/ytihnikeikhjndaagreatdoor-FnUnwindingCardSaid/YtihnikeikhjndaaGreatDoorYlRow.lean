import Derived.Test.YtihnikeikhjndaaGreatDoorYqE
import Derived.LaidHandle
import Derived.LaidMore
import Derived.LaidSub
import Derived.OpenVars
import Derived.Test.YtihnikeikhjndaaGreatDoorYuC
import Derived.Stop.Joined
import Derived.LaidOnce
import Derived.SevenTiedAt
import Derived.Test.YtihnikeikhjndaaGreatDoorCards
set_option maxRecDepth 100000
set_option maxHeartbeats 16000000
namespace Go.Proofs.YtihnikeikhjndaaGreatDoor
section
open Go.ChangeShapes Go.WideShapes Go.ChangeAt Go.RowKit
def jT:List (String×DataW Unit):=[("errors.errorType",Rows.laid_errors_errorType),("internal/strconv.uint64pow10",Rows.laid_internal_strconv_uint64pow10),("math/bits.deBruijn32tab",Rows.laid_math_bits_deBruijn32tab),("math/bits.deBruijn64tab",Rows.laid_math_bits_deBruijn64tab),("loop.example/meaning/impl.typeNames",Rows.laid_loop_example_meaning_impl_typeNames),("loop.example/meaning/impl.stateNames",Rows.laid_loop_example_meaning_impl_stateNames),("loop.example/meaning/impl.handlerNames",Rows.laid_loop_example_meaning_impl_handlerNames)]
theorem Gi:(Tryz.prog.globals[6]?).map (·.type)=some 460:=by kernel_rfl
theorem Ze(os:Os)(args:Array Value):laidMetH Tryz.prog jT ((World.doorLaid Tryz.prog 400 os).forCall (fun _ _=>0) ⟨#[],args,[]⟩).memory:=
 laidMetH_of_parts3 (fuel:=8) (laidMet_of_run' 8 (by kernel_rfl) (by kernel_rfl)) (by kernel_rfl) (by kernel_rfl)
theorem yp4:jT.filter (fun x=>x.1 == "internal/strconv.uint64pow10")=[("internal/strconv.uint64pow10",Rows.laid_internal_strconv_uint64pow10)]:=by kernel_rfl
theorem qz7{W:World}(h:laidMetH Tryz.prog jT W):eU W:=by
 have h':=h.filter (fun x=>x.1 == "internal/strconv.uint64pow10");rw[yp4] at h';rw[MakeChecks.laidMetH_plain _ _ _ (by kernel_rfl)] at h';obtain⟨ps,⟨g2,t2,cs2,f2,p2,q2,hg2,ht2,hv2,hd2,_,_⟩,_⟩:=h';obtain rfl:=Option.some.inj (J4.symm.trans hg2);obtain rfl:=Option.some.inj (Gi.symm.trans ht2);have hd:=hd2;unfold eU Lib.TabIs;rw[hv2,<-Lib.cells_of_tab (k:=.u64) (zs:=Lib.pow10Tab) Tryz.underlying460 Tryz.underlying70 (by kernel_rfl) (by kernel_rfl) hd]
theorem Rh:Tryz.prog.globalNamed "errors.errorType" = some 0:=by kernel_rfl
theorem rtC:(Tryz.prog.cutTypes.find? (·.1 == "internal/reflectlite.rtype")).map (·.2)=some 227:=by kernel_rfl
theorem szC:Tryz.prog.types.size=510:=by kernel_rfl
theorem Q8:((List.range 510).filter fun t=>Tryz.prog.rowNamed t [101,114,114,111,114])=[128]:=by kernel_rfl
theorem yp5:jT.filter (fun x=>x.1 == "errors.errorType")=[("errors.errorType",Rows.laid_errors_errorType)]:=by kernel_rfl
theorem z90{W:World}(h:laidMetH Tryz.prog jT W):kJ W:=by
 have h1:=h.filter (fun x=>x.1 == "errors.errorType");rw[yp5] at h1;have h':laidMet Tryz.prog [] W/\handlesMet Tryz.prog [("errors.errorType",Rows.laid_errors_errorType)] W:=h1;obtain⟨name,u,ty,e1,e2,e3,e4,e5⟩:=h'.2 _ (List.mem_singleton.2 rfl);have en:name=[101,114,114,111,114]:=(Option.some.inj e1).symm;subst en;obtain rfl:=Option.some.inj (rtC.symm.trans e2);have hm:ty∈(List.range 510).filter fun t=>Tryz.prog.rowNamed t [101,114,114,111,114]:=List.mem_filter.2 ⟨List.mem_range.2 (by rw[<-szC];exact e3),e4⟩;rw[Q8] at hm;obtain rfl:=List.mem_singleton.1 hm;have hh:typeHandle Tryz.prog 128=hT 128:=by kernel_rfl
 rw[hh] at e5;show W.cell? ⟨0,0,none⟩=_;simpa using World.var?_cell Rh e5 0
theorem qj0(os:Os)(started:os.Started)(H:Type)(enc:TypeId×Value->H):ReturnsInHanded {} Tryz.checked os 3 .any (fun w args=>(Rows.fnUnwindingSpec.pre enc Tryz.prog Tryz.f3 [] false w args/\laidMetH Tryz.prog jT w)/\sizedMet enc Tryz.prog Tryz.f3 (OpenSpec.ofChange Rows.fnUnwindingSpec) false w args) (Rows.fnUnwindingSpec.post enc Tryz.prog Tryz.f3 false true false false):=by
 refine returnsInHanded_of_change_and (C:=Tryz.checked) (X:=fun w _=>laidMetH Tryz.prog jT w) (fun _ _ _ hh h=>laidMetH.of_heap hh h) Tryz.own started (by kernel_rfl) Tryz.func3
  (ChangeSpec.witness_shaped (enc:=enc) (C:=Tryz.checked) (os:=os) (X:=fun w _=>laidMetH Tryz.prog jT w) false (World.doorLaid Tryz.prog 400 os) #[.slice none 0 0] 8 rfl (World.shaped_of_RefB (by kernel_rfl) (by kernel_rfl)) (by kernel_rfl) (by kernel_rfl) (by kernel_rfl) (Ze os _)) ?_
 intro W base args ds gs before hval0 hW _ _ hL _;have hval:∀(j:Nat) t v,Tryz.f3.params[j]?=some t->args[j]?=some v->Value.okWide Tryz.prog W .any base t v:=hval0;have hW':=hW;obtain⟨p,q,hA0,hV,rfl,_,_⟩:=hW;have hA:DataW.TrodAll enc Tryz.prog W 0 (fun _=>true) true Tryz.f3.params.toList args.toList ds p:=hA0;rw[Tryz.params3] at hA hval;obtain⟨v0,vs0,d0,ds0,p0,q0,hargs,rfl,rfl,h0,AP⟩:=trodAll_cons hA;obtain⟨rfl,rfl,rfl⟩:=trodAll_nil AP;obtain rfl:args = #[v0]:=by cases args;simp_all
 obtain⟨g1,g2,g3,rfl⟩:∃g1 g2 g3,gs=[g1,g2,g3]:=by
  rcases gs with _|⟨g1,gs⟩
  ·exact hV.elim
  ·rcases gs with _|⟨g2,gs⟩
   ·obtain⟨_,_,_,_,_,_,_,_,_,_,h,_⟩:=hV;exact h.elim
   ·rcases gs with _|⟨g3,gs⟩
    ·obtain⟨_,_,_,_,_,_,_,_,_,_,⟨_,_,_,_,_,_,_,_,_,_,h,_⟩,_⟩:=hV;exact h.elim
    ·rcases gs with _|⟨g4,gs⟩
     ·exact⟨g1,g2,g3,rfl⟩
     ·obtain⟨_,_,_,_,_,_,_,_,_,_,⟨_,_,_,_,_,_,_,_,_,_,⟨_,_,_,_,_,_,_,_,_,_,h,_⟩,_⟩,_⟩:=hV;exact h.elim
 have Xn:=h0;have lt0:∀x∈p0,x.block<W.heap.size:=by obtain⟨m,hm⟩:=Xn;exact DataW.trod_lt m _ _ _ hm
 obtain⟨a0,len0,cap0,rfl⟩:=okWide_slice Tryz.underlying22 (hval 0 22 v0 rfl rfl);obtain⟨z0,row0⟩:=zl9 h0;clear hA0 hval0;have hP:eU W:=qz7 hL;refine(qn4 a0 len0 cap0 z0 W row0 hP (z90 hL)).mono fun e W' ⟨he,bel⟩=>?_;subst he;exact⟨_,rfl,_,_,_,[],_,_,hW',trodAll_mk1 (shut_bool Tryz.underlying4 _),(trodAll_cons_mk (Below.trod Tryz.laidOut (by kernel_rfl) (of_decide_eq_true (by kernel_rfl)) Xn bel lt0) trodAll_mk0),Below.trodVars Tryz.laidOut bel (by kernel_rfl) hV,bel.frame _,fun h=>by cases h⟩
end
section
open Go
theorem jfA:(Rows.fnUnwindingRow.inPlace==Tryz.pinned.checked.prog.inPlace 3)=true:=by kernel_rfl
theorem jfB:(Rows.fnUnwindingRow.unfollowed==Tryz.pinned.checked.prog.unfollowed 3)=true:=by kernel_rfl
theorem jfC:(Rows.fnUnwindingRow.recurses==Tryz.pinned.checked.prog.recurses 3)=true:=by kernel_rfl
theorem jfD:(Rows.fnUnwindingRow.named==Tryz.pinned.checked.prog.varsNamed 3)=true:=by kernel_rfl
theorem jfE:(laidOutB Tryz.pinned.checked.prog)=true:=by kernel_rfl
theorem jfF:(mapsRowed Tryz.pinned.checked.prog)=true:=by kernel_rfl
theorem jf:joinedFacts Tryz.pinned.checked.prog 3 Tryz.f3 Rows.fnUnwindingSpec Rows.fnUnwindingRow=true:=by
 unfold joinedFacts;rw[jfA,jfB,jfC,jfD,jfE,jfF]
 kernel_rfl
end
section
open Go.ChangeShapes Go.WideShapes Go.ChangeAt Go.RowKit
theorem sZ:Tryz.pinned.checked.prog.funcNamed Rows.fnUnwindingRow.func=some 3:=by kernel_rfl
theorem qd7:Rows.FnUnwindingSaid:=
 OpenClaim.holds_of_wide 3 Tryz.f3 rfl rfl rfl rfl rfl rfl rfl ⟨rfl,rfl,rfl,rfl,rfl⟩ rfl rfl rfl rfl rfl sZ Tryz.func3 jf
  (of_decide_eq_true (by kernel_rfl)) (by unfold Func.isWrapper;first|(rw[if_pos (by decide +kernel)];kernel_rfl)|(rw[if_neg (by decide +kernel)];exact⟨rfl,rfl⟩))
  (fun os started H enc _=>qj0 os started H enc)
end
section
open Go
abbrev ny:List (String×DataW Unit):=[("errors.errorType",Rows.laid_errors_errorType),("internal/strconv.uint64pow10",Rows.laid_internal_strconv_uint64pow10),("math/bits.deBruijn32tab",Rows.laid_math_bits_deBruijn32tab),("math/bits.deBruijn64tab",Rows.laid_math_bits_deBruijn64tab),("loop.example/meaning/impl.typeNames",Rows.laid_loop_example_meaning_impl_typeNames),("loop.example/meaning/impl.stateNames",Rows.laid_loop_example_meaning_impl_stateNames),("loop.example/meaning/impl.handlerNames",Rows.laid_loop_example_meaning_impl_handlerNames)]
theorem vtA:Tryz.prog.worded (varsWordLater true)=true:=by kernel_rfl
theorem vtB:Tryz.prog.worded (varsWordLater !true)=false:=by kernel_rfl
theorem vtC:Tryz.prog.worded rootWordLater=true:=by kernel_rfl
theorem vtD:ny.map (fun x=>Tryz.prog.kindOfLater x.1)=([.handle,.data,.data,.data,.data,.data,.data]:List LaidKind).map some:=by kernel_rfl
theorem vtE:(Tryz.prog.funcNamed "gosem.cut.vars").isSome=true:=by kernel_rfl
theorem vtF:varsNamedLaterB Tryz.prog (varsId Tryz.prog) ny=true:=by kernel_rfl
theorem vtG(os:Os)(tape):doorLeaves Tryz.prog 46 8 65 ny os tape=some (ny.filter fun x=>x.2.handleName?.isNone,(funcsListed ny).map (·.2.funcsOut)):=by kernel_rfl
theorem yn7:Tryz.prog.laidByTextLater ny [.handle,.data,.data,.data,.data,.data,.data] true:=Program.laidByTextLater_by_one 46 8 65 vtA vtB vtC vtD vtE vtF vtG
theorem Ov:Tryz.pinned.checked.prog.headLifts.contains "ownunsafe" = false:=by kernel_rfl
theorem qn5:Rows.fnUnwindingRow.laidByTextAt .later Tryz.pinned [.handle,.data,.data,.data,.data,.data,.data] true:=OpenClaim.laidByTextAt_later rfl rfl yn7 Ov
theorem ym6:true=Rows.fnUnwindingRow.goesBy Tryz.pinned.checked.prog:=by kernel_rfl
theorem Rl:Rows.fnUnwindingRow.wfByText (OpenSpec.ofChange Rows.fnUnwindingSpec)=true:=by kernel_rfl
theorem ym5:Tryz.pinned.checked.prog.mainIs=some (true,"ad58ef3dde83269faea5e651cc95954955b46e39e02dbd599f3d0d3120c7e354".toList):=by kernel_rfl
theorem yg1:true=Tryz.pinned.checked.prog.looks []:=by kernel_rfl
theorem fnUnwinding_card:Rows.FnUnwindingCardSaid:=by
 refine⟨Claim7.tied_new_at .later [.handle,.data,.data,.data,.data,.data,.data] true (Claim7.new_of_sixth qd7 (true,"ad58ef3dde83269faea5e651cc95954955b46e39e02dbd599f3d0d3120c7e354") true rfl ⟨rfl,rfl⟩ ym5 (by simp[Claim7.isSixth]) (fun f fn hf hfn=>?_)) Rl,(fun D hD=>by cases hD),qn5,(fun h=>by cases h),ym6⟩;obtain rfl:f=3:=Option.some.inj (sZ.symm.trans hf) |>.symm;obtain rfl:fn=Tryz.f3:=(Option.some.inj (Tryz.func3.symm.trans hfn)).symm;exact⟨yg1,fun j t ht=>by
  rw[Tryz.params3] at ht;have h3:t=22:=by
   rcases j with _|j
   ·simpa using ht.symm
   ·simp at ht
  subst h3;exact(show Tryz.prog.wantsStandIn 22=false by kernel_rfl)⟩
end
end Go.Proofs.YtihnikeikhjndaaGreatDoor
