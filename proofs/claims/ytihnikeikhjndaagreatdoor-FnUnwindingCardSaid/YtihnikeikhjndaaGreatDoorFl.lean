import Derived.Laws.FloatBits
import Derived.Laws.FloatArith
import Derived.Test.YtihnikeikhjndaaGreatDoorPlain
import Derived.Test.YtihnikeikhjndaaGreatDoorGives
set_option maxRecDepth 100000
set_option maxHeartbeats 16000000
namespace Go.Proofs.YtihnikeikhjndaaGreatDoor.Fl
section
open Ieee
theorem bn:double.binade=2 ^ 52:=rfl
def enc(neg:Bool)(M:Nat):Nat:=double.nearest neg M (-1074)
def sv(s:Bool)(M:Nat):Int:=if s then -(M:Int) else(M:Int)
def DZ(x:Nat):Nat:=double.write ((double.read x).integral .down)
end
end Go.Proofs.YtihnikeikhjndaaGreatDoor.Fl
namespace Go.Proofs.YtihnikeikhjndaaGreatDoor
section
open Go.RowKit
abbrev two63:Nat:=4890909195324358656
abbrev wJ:Nat:=14114281232179134464
theorem zd7(f:Nat)(w:World):Calls Tryz.prog 160 #[.float .f64 f] w fun e w'=>e=.returned (.bool (FloatKind.f64.format.order f f != some .eq))/\w'=w:=by
 go_in;go_wp2;go_ret;exact⟨rfl,rfl⟩
end
end Go.Proofs.YtihnikeikhjndaaGreatDoor
