import Derived.Test.YthnkncpegihbhaaGreatDoorRows
import Derived.JoinedOf
set_option maxRecDepth 100000
set_option maxHeartbeats 16000000
namespace Go.Proofs.YthnkncpegihbhaaGreatDoor
open Go
theorem jfA:(Rows.fnLetGoRow.inPlace==Tryz.pinned.checked.prog.inPlace 3)=true:=by kernel_rfl
theorem jfB:(Rows.fnLetGoRow.unfollowed==Tryz.pinned.checked.prog.unfollowed 3)=true:=by kernel_rfl
theorem jfC:(Rows.fnLetGoRow.recurses==Tryz.pinned.checked.prog.recurses 3)=true:=by kernel_rfl
theorem jfD:(Rows.fnLetGoRow.named==Tryz.pinned.checked.prog.varsNamed 3)=true:=by kernel_rfl
theorem jfE:(laidOutB Tryz.pinned.checked.prog)=true:=by kernel_rfl
theorem jfF:(mapsRowed Tryz.pinned.checked.prog)=true:=by kernel_rfl
theorem jf:joinedFacts Tryz.pinned.checked.prog 3 Tryz.f3 Rows.fnLetGoSpec Rows.fnLetGoRow=true:=by
 unfold joinedFacts;rw[jfA,jfB,jfC,jfD,jfE,jfF]
 kernel_rfl
end Go.Proofs.YthnkncpegihbhaaGreatDoor
