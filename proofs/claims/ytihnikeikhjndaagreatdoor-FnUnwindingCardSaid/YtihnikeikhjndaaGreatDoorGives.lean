import Derived.Test.YtihnikeikhjndaaGreatDoorPlain
set_option maxRecDepth 100000
set_option maxHeartbeats 16000000
namespace Go.Proofs.YtihnikeikhjndaaGreatDoor
section
open Go.RowKit
attribute [local go_sem] aN
theorem WS(n:Int)(w:World):Calls Tryz.prog 285 #[.int .i64 n] w fun e w'=>e=.returned (dI 2 n 0 ⟨#[]⟩ 0)/\ah w w':=by
 go_in;go_wp2;exact bodyPost_ret (v:=dI 2 n 0 ⟨#[]⟩ 0) (by simp[results,Tryz.results285,go_sem]) rfl ⟨rfl,q01 _ _⟩
theorem zk5(s:ByteArray)(w:World):Calls Tryz.prog 87 #[.string s] w fun e w'=>e=.returned (dI 4 0 0 s 0)/\ah w w':=by
 go_in;go_wp2;exact bodyPost_ret (v:=dI 4 0 0 s 0) (by simp[results,Tryz.results87,go_sem]) rfl ⟨rfl,q01 _ _⟩
end
end Go.Proofs.YtihnikeikhjndaaGreatDoor
