import Derived.Test.YthnkncpegihbhaaGreatDoorXcD
import Derived.LaidHandle
import Derived.LaidMore
import Derived.LaidSub
import Derived.OpenVars
import Derived.Test.YthnkncpegihbhaaGreatDoorXfH
import Derived.Stop.Joined
import Derived.Test.YthnkncpegihbhaaGreatDoorVlTie
import Derived.Test.YthnkncpegihbhaaGreatDoorCards
import Derived.Test.YthnkncpegihbhaaGreatDoorVlFx
set_option maxRecDepth 100000
set_option maxHeartbeats 16000000
namespace Go.Proofs.YthnkncpegihbhaaGreatDoor
section
open Go.ChangeShapes Go.WideShapes Go.ChangeAt Go.RowKit
def uw:List (String×DataW Unit):=[("errors.errorType",Rows.laid_errors_errorType),("internal/strconv.uint64pow10",Rows.laid_internal_strconv_uint64pow10),("math/bits.deBruijn32tab",Rows.laid_math_bits_deBruijn32tab),("math/bits.deBruijn64tab",Rows.laid_math_bits_deBruijn64tab),("loop.example/meaning/impl.typeNames",Rows.laid_loop_example_meaning_impl_typeNames),("loop.example/meaning/impl.stateNames",Rows.laid_loop_example_meaning_impl_stateNames),("loop.example/meaning/impl.handlerNames",Rows.laid_loop_example_meaning_impl_handlerNames)]
theorem Nl:(Tryz.prog.globals[6]?).map (·.type)=some 460:=by kernel_rfl
theorem ye0(os:Os)(args:Array Value):laidMetH Tryz.prog uw ((World.doorLaid Tryz.prog 400 os).forCall (fun _ _=>0) ⟨#[],args,[]⟩).memory:=
 laidMetH_of_parts3 (fuel:=8) (laidMet_of_run' 8 (by kernel_rfl) (by kernel_rfl)) (by kernel_rfl) (by kernel_rfl)
theorem jd3:uw.filter (fun x=>x.1 == "internal/strconv.uint64pow10")=[("internal/strconv.uint64pow10",Rows.laid_internal_strconv_uint64pow10)]:=by kernel_rfl
theorem z78{W:World}(h:laidMetH Tryz.prog uw W):lN W:=by
 have h':=h.filter (fun x=>x.1 == "internal/strconv.uint64pow10");rw[jd3] at h';rw[MakeChecks.laidMetH_plain _ _ _ (by kernel_rfl)] at h';obtain⟨ps,⟨g2,t2,cs2,f2,p2,q2,hg2,ht2,hv2,hd2,_,_⟩,_⟩:=h';obtain rfl:=aQ (Pn.symm.trans hg2);obtain rfl:=aQ (Nl.symm.trans ht2);have hd:=hd2;unfold lN Lib.TabIs;rw[hv2,<-Lib.cells_of_tab (k:=.u64) (zs:=Lib.pow10Tab) Tryz.underlying460 Tryz.underlying78 (by kernel_rfl) (by kernel_rfl) hd]
theorem z06(os:Os)(started:os.Started)(H:Type)(enc:TypeId×Value->H):ReturnsInHanded {} Tryz.checked os 3 .any (fun w args=>(Rows.fnLetGoSpec.pre enc Tryz.prog Tryz.f3 [] false w args/\laidMetH Tryz.prog uw w)/\sizedMet enc Tryz.prog Tryz.f3 (OpenSpec.ofChange Rows.fnLetGoSpec) false w args) (Rows.fnLetGoSpec.post enc Tryz.prog Tryz.f3 false true false false):=by
 refine returnsInHanded_of_change_and (C:=Tryz.checked) (X:=fun w _=>laidMetH Tryz.prog uw w) (fun _ _ _ hh h=>laidMetH.of_heap hh h) Tryz.own started (by kernel_rfl) Tryz.func3
  (ChangeSpec.witness_shaped (enc:=enc) (C:=Tryz.checked) (os:=os) (X:=fun w _=>laidMetH Tryz.prog uw w) false (World.doorLaid Tryz.prog 400 os) #[.slice none 0 0] 8 rfl (World.shaped_of_RefB (by kernel_rfl) (by kernel_rfl)) (by kernel_rfl) (by kernel_rfl) (by kernel_rfl) (ye0 os _)) ?_
 intro W base args ds gs before hval0 hW _ _ hL _;have hval:∀(j:Nat) t v,Tryz.f3.params[j]?=some t->args[j]?=some v->Value.okWide Tryz.prog W .any base t v:=hval0;have hW':=hW;obtain⟨p,q,hA0,hV,rfl,_,_⟩:=hW;have hA:DataW.TrodAll enc Tryz.prog W 0 (fun _=>true) true Tryz.f3.params.toList args.toList ds p:=hA0;rw[Tryz.params3] at hA hval;obtain⟨v0,vs0,d0,ds0,p0,q0,hargs,rfl,rfl,h0,Nv⟩:=trodAll_cons hA;obtain⟨rfl,rfl,rfl⟩:=trodAll_nil Nv;obtain rfl:args = #[v0]:=by cases args;simp_all
 obtain⟨g1,g2,g3,rfl⟩:∃g1 g2 g3,gs=[g1,g2,g3]:=by
  rcases gs with _|⟨g1,gs⟩
  ·exact hV.elim
  ·rcases gs with _|⟨g2,gs⟩
   ·obtain⟨_,_,_,_,_,_,_,_,_,_,h,_⟩:=hV;exact h.elim
   ·rcases gs with _|⟨g3,gs⟩
    ·obtain⟨_,_,_,_,_,_,_,_,_,_,⟨_,_,_,_,_,_,_,_,_,_,h,_⟩,_⟩:=hV;exact h.elim
    ·rcases gs with _|⟨g4,gs⟩
     ·exact⟨g1,g2,g3,rfl⟩
     ·obtain⟨_,_,_,_,_,_,_,_,_,_,⟨_,_,_,_,_,_,_,_,_,_,⟨_,_,_,_,_,_,_,_,_,_,h,_⟩,_⟩,_⟩:=hV;exact h.elim
 have kk0:=h0;have lt0:∀x∈p0,x.block<W.heap.size:=by obtain⟨m,hm⟩:=kk0;exact DataW.trod_lt m _ _ _ hm
 obtain⟨a0,len0,cap0,rfl⟩:=okWide_slice Tryz.underlying22 (hval 0 22 v0 rfl rfl);obtain⟨z0,row0⟩:=zz5 h0;clear hA0 hval0;have hP:lN W:=z78 hL;refine(zh8 a0 len0 cap0 z0 W row0 hP).mono fun e W' ⟨he,bel⟩=>?_;subst he;exact⟨_,rfl,_,_,_,[],_,_,hW',trodAll_mk1 (shut_bool Tryz.underlying4 _),(trodAll_cons_mk (Below.trod Tryz.laidOut (by kernel_rfl) (of_decide_eq_true (by kernel_rfl)) kk0 bel lt0) trodAll_mk0),Below.trodVars Tryz.laidOut bel (by kernel_rfl) hV,bel.frame _,fun h=>by cases h⟩
end
section
open Go
end
section
open Go.ChangeShapes Go.WideShapes Go.ChangeAt Go.RowKit
theorem zi:Tryz.pinned.checked.prog.funcNamed Rows.fnLetGoRow.func=some 3:=by kernel_rfl
theorem qp3:Rows.FnLetGoSaid:=
 OpenClaim.holds_of_wide 3 Tryz.f3 rfl rfl rfl rfl rfl rfl rfl ⟨rfl,rfl,rfl,rfl,rfl⟩ rfl rfl rfl rfl rfl zi Tryz.func3 jf
  (of_decide_eq_true (by kernel_rfl)) (by unfold Func.isWrapper;first|(rw[aO (by decide +kernel)];kernel_rfl)|(rw[au (by decide +kernel)];exact⟨rfl,rfl⟩))
  (fun os started H enc _=>z06 os started H enc)
end
section
open Go
theorem j96:true=Rows.fnLetGoRow.goesBy Tryz.pinned.checked.prog:=by kernel_rfl
theorem Ya:Rows.fnLetGoRow.wfByText (OpenSpec.ofChange Rows.fnLetGoSpec)=true:=by kernel_rfl
theorem j95:Tryz.pinned.checked.prog.mainIs=some (true,"a4be6448eb5d49e34acdb3fb0193da2f38591cabcd66b66ea0b5d67eb6ca84d0".toList):=by kernel_rfl
theorem j14:true=Tryz.pinned.checked.prog.looks []:=by kernel_rfl
theorem fnLetGo_card:Rows.FnLetGoCardSaid:=by
 refine⟨Claim7.tied_new_at .later [.handle,.data,.data,.data,.data,.data,.data] true (Claim7.new_of_sixth qp3 (true,"a4be6448eb5d49e34acdb3fb0193da2f38591cabcd66b66ea0b5d67eb6ca84d0") true rfl ⟨rfl,rfl⟩ j95 (by simp[Claim7.isSixth]) (fun f fn hf hfn=>?_)) Ya,(fun D hD=>by cases hD),zh9,(fun h=>by cases h),j96⟩;obtain rfl:f=3:=aQ (zi.symm.trans hf) |>.symm;obtain rfl:fn=Tryz.f3:=(aQ (Tryz.func3.symm.trans hfn)).symm;exact⟨j14,fun j t ht=>by
  rw[Tryz.params3] at ht;have h3:t=22:=by
   rcases j with _|j
   ·simpa using ht.symm
   ·simp at ht
  subst h3;exact(show Tryz.prog.wantsStandIn 22=false by kernel_rfl)⟩
end
end Go.Proofs.YthnkncpegihbhaaGreatDoor
