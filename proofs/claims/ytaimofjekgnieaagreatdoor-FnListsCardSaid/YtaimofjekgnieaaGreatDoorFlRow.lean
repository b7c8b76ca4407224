import Derived.Test.YtaimofjekgnieaaGreatDoorGpV
import Derived.Test.YtaimofjekgnieaaGreatDoorRowB
import Derived.LaidHandle
import Derived.LaidLaws
import Derived.LaidMore
import Derived.LaidSub
import Derived.MakeChecks
import Derived.OpenVars
set_option maxRecDepth 100000
set_option maxHeartbeats 16000000
namespace Go.Proofs.YtaimofjekgnieaaGreatDoor
open Go.ChangeShapes Go.WideShapes Go.ChangeAt Go.RowKit
def laidC:List (String×DataW Unit):=[("math/bits.deBruijn32tab",Rows.laid_math_bits_deBruijn32tab),("math/bits.deBruijn64tab",Rows.laid_math_bits_deBruijn64tab),("internal/strconv.uint64pow10",Rows.laid_internal_strconv_uint64pow10),("errors.errorType",Rows.laid_errors_errorType),("loop.example/meaning/impl.stateNames",Rows.laid_loop_example_meaning_impl_stateNames),("loop.example/meaning/impl.typeNames",Rows.laid_loop_example_meaning_impl_typeNames),("loop.example/meaning/impl.handlerNames",Rows.laid_loop_example_meaning_impl_handlerNames)]
theorem tPowC:(Tryz.prog.globals[6]?).map (·.type)=some 458:=by kernel_rfl
theorem y17 (os:Os) (args:Array Value):laidMetH Tryz.prog laidC ((World.doorLaid Tryz.prog 400 os).forCall (fun _ _=>0) ⟨#[],args,[]⟩).memory:=
 laidMetH_of_parts3 (fuel:=8) (laidMet_of_run' 8 (by kernel_rfl) (by kernel_rfl)) (by kernel_rfl) (by kernel_rfl)
theorem yp7:laidC.filter (fun x=>x.1 == "internal/strconv.uint64pow10")=[("internal/strconv.uint64pow10",Rows.laid_internal_strconv_uint64pow10)]:=by kernel_rfl
theorem qz2 {W:World} (h:laidMetH Tryz.prog laidC W):TabP W:=by
 have h':=h.filter (fun x=>x.1 == "internal/strconv.uint64pow10")
 rw[yp7] at h'
 rw[MakeChecks.laidMetH_plain _ _ _ (by kernel_rfl)] at h'
 obtain ⟨ps,⟨g2,t2,cs2,f2,p2,q2,hg2,ht2,hv2,hd2,_,_⟩,_⟩:=h'
 obtain rfl:=Option.some.inj (gPow.symm.trans hg2)
 obtain rfl:=Option.some.inj (tPowC.symm.trans ht2)
 have hd:=hd2
 unfold TabP Lib.TabIs
 rw[hv2,<-Lib.cells_of_tab (k:=.u64) (zs:=Lib.pow10Tab) Tryz.underlying458 Tryz.underlying74 (by kernel_rfl) (by kernel_rfl) hd]
theorem gEtC:Tryz.prog.globalNamed "errors.errorType" = some 0:=by kernel_rfl
theorem rtC:(Tryz.prog.cutTypes.find? (·.1 == "internal/reflectlite.rtype")).map (·.2)=some 222:=by kernel_rfl
theorem szC:Tryz.prog.types.size=509:=by kernel_rfl
theorem oneC:((List.range 509).filter fun t=>Tryz.prog.rowNamed t [101,114,114,111,114])=[128]:=by kernel_rfl
theorem yp8:laidC.filter (fun x=>x.1 == "errors.errorType")=[("errors.errorType",Rows.laid_errors_errorType)]:=by kernel_rfl
theorem zb2 {W:World} (h:laidMetH Tryz.prog laidC W):EtP W:=by
 have h1:=h.filter (fun x=>x.1 == "errors.errorType")
 rw[yp8] at h1
 have h':laidMet Tryz.prog [] W/\handlesMet Tryz.prog [("errors.errorType",Rows.laid_errors_errorType)] W:=h1
 obtain ⟨name,u,ty,e1,e2,e3,e4,e5⟩:=h'.2 _ (List.mem_singleton.2 rfl)
 have en:name=[101,114,114,111,114]:=(Option.some.inj e1).symm
 subst en
 obtain rfl:=Option.some.inj (rtC.symm.trans e2)
 have hm:ty∈(List.range 509).filter fun t=>Tryz.prog.rowNamed t [101,114,114,111,114]:=List.mem_filter.2 ⟨List.mem_range.2 (by rw[<-szC];exact e3),e4⟩
 rw[oneC] at hm
 obtain rfl:=List.mem_singleton.1 hm
 have hh:typeHandle Tryz.prog 128=hT 128:=by kernel_rfl
 rw[hh] at e5
 show W.cell? ⟨0,0,none⟩=_
 simpa using World.var?_cell gEtC e5 0
end Go.Proofs.YtaimofjekgnieaaGreatDoor
