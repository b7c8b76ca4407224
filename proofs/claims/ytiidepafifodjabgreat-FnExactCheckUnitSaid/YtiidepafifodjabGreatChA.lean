import Derived.Test.YtiidepafifodjabGreatImX
import Derived.Test.YtiidepafifodjabGreatDepA
import Derived.Test.YtiidepafifodjabGreatImT
/-! The program's CheckUnit, whole. -/
namespace Go.Proofs.YtiidepafifodjabGreat
open Go.RowKit

theorem scopeSays : ScopeSays := fun L u a cap fas w hs h5 _ hc hT => scopeFault_calls L u a cap fas w hs h5 hc hT
theorem implCheck_calls (L : Nat) (u : UD) (a : Option Addr) (cap : Nat) (fas : Nat → FA) (w : World) (hs : u.sm) (hc : ∀ i, i < u.n → CapF (u.fn i) (fas i)) (hT : FnsAt L w u.n u.fn a fas) :
    Calls Tryz.prog 10 #[unV u a cap] w fun e w' => FtPost (BadU u) w e w' := checkUnit_of depSays scopeSays L u a cap fas w hs hc hT
end Go.Proofs.YtiidepafifodjabGreat
