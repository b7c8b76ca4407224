import Derived.LaidByTextLater
import Derived.LaidOnce
import Derived.LaidSub
import Derived.SevenTiedAt
import Derived.Test.YthnkncpegihbhaaGreatDoorRows
set_option maxRecDepth 100000
set_option maxHeartbeats 16000000
namespace Go.Proofs.YthnkncpegihbhaaGreatDoor
section
open Go
abbrev uq:List (String×DataW Unit):=[("errors.errorType",Rows.laid_errors_errorType),("internal/strconv.uint64pow10",Rows.laid_internal_strconv_uint64pow10),("math/bits.deBruijn32tab",Rows.laid_math_bits_deBruijn32tab),("math/bits.deBruijn64tab",Rows.laid_math_bits_deBruijn64tab),("loop.example/meaning/impl.typeNames",Rows.laid_loop_example_meaning_impl_typeNames),("loop.example/meaning/impl.stateNames",Rows.laid_loop_example_meaning_impl_stateNames),("loop.example/meaning/impl.handlerNames",Rows.laid_loop_example_meaning_impl_handlerNames)]
theorem vtA:Tryz.prog.worded (varsWordLater true)=true:=by kernel_rfl
theorem vtB:Tryz.prog.worded (varsWordLater !true)=false:=by kernel_rfl
theorem vtC:Tryz.prog.worded rootWordLater=true:=by kernel_rfl
theorem vtD:uq.map (fun x=>Tryz.prog.kindOfLater x.1)=([.handle,.data,.data,.data,.data,.data,.data]:List LaidKind).map some:=by kernel_rfl
theorem vtE:(Tryz.prog.funcNamed "gosem.cut.vars").isSome=true:=by kernel_rfl
theorem vtF:varsNamedLaterB Tryz.prog (varsId Tryz.prog) uq=true:=by kernel_rfl
theorem vtG(os:Os)(tape):doorLeaves Tryz.prog 46 8 65 uq os tape=some (uq.filter fun x=>x.2.handleName?.isNone,(funcsListed uq).map (·.2.funcsOut)):=by kernel_rfl
theorem jb6:Tryz.prog.laidByTextLater uq [.handle,.data,.data,.data,.data,.data,.data] true:=Program.laidByTextLater_by_one 46 8 65 vtA vtB vtC vtD vtE vtF vtG
theorem Vo:Tryz.pinned.checked.prog.headLifts.contains "ownunsafe" = false:=by kernel_rfl
theorem zh9:Rows.fnLetGoRow.laidByTextAt .later Tryz.pinned [.handle,.data,.data,.data,.data,.data,.data] true:=OpenClaim.laidByTextAt_later rfl rfl jb6 Vo
end
end Go.Proofs.YthnkncpegihbhaaGreatDoor
