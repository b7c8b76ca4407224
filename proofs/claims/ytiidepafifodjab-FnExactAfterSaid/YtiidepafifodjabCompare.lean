import Derived.Test.YtiidepafifodjabOrder
import Derived.Test.YtiidepafifodjabSet
import Derived.Deep.RegionWith
/-! impl.Compare. -/
namespace Go.Proofs.Ytiidepafifodjab
open Go.RowKit

def cmG (k n : Int) (f : Nat) (s : ByteArray) (r : Int) (k' n' : Int) (f' : Nat) (s' : ByteArray) (r' : Int) : Int :=
  if okB k n f s r = false ∨ okB k' n' f' s' r' = false then 3
  else if k = 4 ∧ k' = 4 then cbs s s'
  else if k = 2 ∧ k' = 2 then cmpI n n'
  else if k = 2 ∧ k' = 3 then mixG n f'
  else if k = 3 ∧ k' = 2 then mixR n' f
  else if k = 3 ∧ k' = 3 then fltG f f'
  else 3

end Go.Proofs.Ytiidepafifodjab
