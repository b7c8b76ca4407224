import Derived.Test.YtaimofjekgnieaaGreatDoorFlRow
import Derived.Test.YtaimofjekgnieaaGreatDoorLlB
import Derived.Stop.Joined
import Derived.Test.YtaimofjekgnieaaGreatDoorFlFx
import Derived.SevenTiedAt
import Derived.Test.YtaimofjekgnieaaGreatDoorCards
import Derived.Test.YtaimofjekgnieaaGreatDoorTie
set_option maxRecDepth 100000
set_option maxHeartbeats 16000000
namespace Go.Proofs.YtaimofjekgnieaaGreatDoor
open Go.ChangeShapes Go.WideShapes Go.ChangeAt Go.RowKit
theorem qu6 (os:Os) (started:os.Started) (H:Type) (enc:TypeId×Value->H) :
  ReturnsInHanded {} Tryz.checked os 3 .any (fun w args=>(Rows.fnListsSpec.pre enc Tryz.prog Tryz.f3 [] false w args/\laidMetH Tryz.prog laidC w)/\sizedMet enc Tryz.prog Tryz.f3 (OpenSpec.ofChange Rows.fnListsSpec) false w args) (Rows.fnListsSpec.post enc Tryz.prog Tryz.f3 false true false false):=by
 refine returnsInHanded_of_change_and (C:=Tryz.checked) (X:=fun w _=>laidMetH Tryz.prog laidC w) (fun _ _ _ hh h=>laidMetH.of_heap hh h) Tryz.own started (by kernel_rfl) Tryz.func3
  (ChangeSpec.witness_shaped (enc:=enc) (C:=Tryz.checked) (os:=os) (X:=fun w _=>laidMetH Tryz.prog laidC w) false (World.doorLaid Tryz.prog 400 os) #[.slice none 0 0] 8 rfl (World.shaped_of_RefB (by kernel_rfl) (by kernel_rfl)) (by kernel_rfl) (by kernel_rfl) (by kernel_rfl) (y17 os _)) ?_
 intro W base args ds gs before hval0 hW _ _ hL _
 have hval:∀ (j:Nat) t v,Tryz.f3.params[j]?=some t->args[j]?=some v->Value.okWide Tryz.prog W .any base t v:=hval0
 have hW':=hW
 obtain ⟨p,q,hA0,hV,rfl,_,_⟩:=hW
 have hA:DataW.TrodAll enc Tryz.prog W 0 (fun _=>true) true Tryz.f3.params.toList args.toList ds p:=hA0
 rw[Tryz.params3] at hA hval
 obtain ⟨v0,vs0,d0,ds0,p0,q0,hargs,rfl,rfl,h0,rest0⟩:=trodAll_cons hA
 obtain ⟨rfl,rfl,rfl⟩:=trodAll_nil rest0
 obtain rfl:args = #[v0]:=by cases args;simp_all
 obtain ⟨g1,g2,g3,rfl⟩:∃ g1 g2 g3,gs=[g1,g2,g3]:=by
  rcases gs with _|⟨g1,gs⟩
  ·exact hV.elim
  ·rcases gs with _|⟨g2,gs⟩
   ·obtain ⟨_,_,_,_,_,_,_,_,_,_,h,_⟩:=hV
    exact h.elim
   ·rcases gs with _|⟨g3,gs⟩
    ·obtain ⟨_,_,_,_,_,_,_,_,_,_,⟨_,_,_,_,_,_,_,_,_,_,h,_⟩,_⟩:=hV
     exact h.elim
    ·rcases gs with _|⟨g4,gs⟩
     ·exact ⟨g1,g2,g3,rfl⟩
     ·obtain ⟨_,_,_,_,_,_,_,_,_,_,⟨_,_,_,_,_,_,_,_,_,_,⟨_,_,_,_,_,_,_,_,_,_,h,_⟩,_⟩,_⟩:=hV
      exact h.elim
 have kk0:=h0
 have lt0:∀ x∈p0,x.block<W.heap.size:=by obtain ⟨m,hm⟩:=kk0;exact DataW.trod_lt m _ _ _ hm
 obtain ⟨a0,len0,cap0,rfl⟩:=okWide_slice Tryz.underlying22 (hval 0 22 v0 rfl rfl)
 obtain ⟨z0,row0⟩:=zp1 h0
 clear hA0 hval0
 have hP:TabP W:=qz2 hL
 refine (za3 a0 len0 cap0 z0 W row0 hP (zb2 hL)).mono fun e W' ⟨he,bel⟩=>?_
 subst he
 exact ⟨_,rfl,_,_,_,[],_,_,hW',trodAll_mk1 (shut_bool Tryz.underlying4 _),(trodAll_cons_mk (Below.trod Tryz.laidOut (by kernel_rfl) (of_decide_eq_true (by kernel_rfl)) kk0 bel lt0) trodAll_mk0),Below.trodVars Tryz.laidOut bel (by kernel_rfl) hV,bel.frame _,fun h=>by cases h⟩
theorem ctNamed:Tryz.pinned.checked.prog.funcNamed Rows.fnListsRow.func=some 3:=by kernel_rfl
theorem qk5:Rows.FnListsSaid:=
 OpenClaim.holds_of_wide 3 Tryz.f3 rfl rfl rfl rfl rfl rfl rfl ⟨rfl,rfl,rfl,rfl,rfl⟩ rfl rfl rfl rfl rfl ctNamed Tryz.func3 jf
  (of_decide_eq_true (by kernel_rfl)) (by unfold Func.isWrapper;first|(rw[if_pos (by decide +kernel)];kernel_rfl)|(rw[if_neg (by decide +kernel)];exact ⟨rfl,rfl⟩))
  (fun os started H enc _=>qu6 os started H enc)
end Go.Proofs.YtaimofjekgnieaaGreatDoor
namespace Go.Proofs.YtaimofjekgnieaaGreatDoor
open Go
theorem yn2:true=Rows.fnListsRow.goesBy Tryz.pinned.checked.prog:=by kernel_rfl
theorem ctWf:Rows.fnListsRow.wfByText (OpenSpec.ofChange Rows.fnListsSpec)=true:=by kernel_rfl
theorem yn1:Tryz.pinned.checked.prog.mainIs=some (true,"a69af5750a132eb6c8c0f51e4203d9e8a7e02d7b8193ef16ef6e8a3d5c01654c".toList):=by kernel_rfl
theorem yg5:true=Tryz.pinned.checked.prog.looks []:=by kernel_rfl
theorem fnLists_card:Rows.FnListsCardSaid:=by
 refine ⟨Claim7.tied_new_at .later [.data,.data,.data,.handle,.data,.data,.data] true (Claim7.new_of_sixth qk5 (true,"a69af5750a132eb6c8c0f51e4203d9e8a7e02d7b8193ef16ef6e8a3d5c01654c") true rfl ⟨rfl,rfl⟩ yn1 (by simp[Claim7.isSixth]) (fun f fn hf hfn=>?_)) ctWf,(fun D hD=>by cases hD),fnLists_row_tie,(fun h=>by cases h),yn2⟩
 obtain rfl:f=3:=Option.some.inj (ctNamed.symm.trans hf) |>.symm
 obtain rfl:fn=Tryz.f3:=(Option.some.inj (Tryz.func3.symm.trans hfn)).symm
 exact ⟨yg5,fun j t ht=>by
  rw[Tryz.params3] at ht
  have h3:t=22:=by
   rcases j with _|j
   ·simpa using ht.symm
   ·simp at ht
  subst h3
  exact (show Tryz.prog.wantsStandIn 22=false by kernel_rfl)⟩
end Go.Proofs.YtaimofjekgnieaaGreatDoor
