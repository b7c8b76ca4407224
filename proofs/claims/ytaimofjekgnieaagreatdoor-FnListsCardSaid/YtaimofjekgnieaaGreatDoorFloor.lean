import Derived.Laws.FloatArith
import Derived.Laws.FloatBits
import Ieee.Arith
import Derived.Test.YtaimofjekgnieaaGreatDoorPlain
import Derived.Test.YtaimofjekgnieaaGreatDoorGives
import Derived.Laws.Externs
set_option maxRecDepth 100000
set_option maxHeartbeats 16000000
namespace Go.Proofs.YtaimofjekgnieaaGreatDoor.Fl
open Ieee
def floorW (x:Nat):Nat:=double.write ((double.read x).integral .down)
end Go.Proofs.YtaimofjekgnieaaGreatDoor.Fl
namespace Go.Proofs.YtaimofjekgnieaaGreatDoor
open Go.RowKit
abbrev two63:Nat:=4890909195324358656
abbrev ntwo63:Nat:=14114281232179134464
theorem zh3 (f:Nat) (w:World):Calls Tryz.prog 153 #[.float .f64 f] w fun e w'=>e=.returned (.bool (FloatKind.f64.format.order f f != some .eq))/\w'=w:=by
 go_enter Tryz.func153,Tryz.ntmps153;go_wp2
 go_ret;exact ⟨rfl,rfl⟩
end Go.Proofs.YtaimofjekgnieaaGreatDoor
