import Derived.Test.YtdialodjllpgaaaGreatDoorPlain
import Derived.Test.YtdialodjllpgaaaGreatDoorUnB
import Derived.Test.YtdialodjllpgaaaGreatDoorSet
/-! A value as plain data. -/
namespace Go.Proofs.YtdialodjllpgaaaGreatDoor
open Go.RowKit

/-- a value's five fields -/
structure VD where
  k : Int
  n : Int
  f : Nat
  s : ByteArray
  r : Int
def vz : VD := ⟨0, 0, 0, ⟨#[]⟩, 0⟩
abbrev VD.v (x : VD) : Value := vOf x.k x.n x.f x.s x.r
end Go.Proofs.YtdialodjllpgaaaGreatDoor

/-! Units copied by the laws: lists of ints, strings, ups. -/
namespace Go.Proofs.YtdialodjllpgaaaGreatDoor
open Go.RowKit
attribute [local go_sem] run_store_float

theorem infoInt : (Tryz.prog.info? 3).map (fun i => (i.zero, i.size, i.bytes)) = some (some (.int .i64 0), 1, 8) := by kernel_rfl
end Go.Proofs.YtdialodjllpgaaaGreatDoor

/-! Comparing numbers: cmp.Compare, spec.l1intflt, impl.orderMixed and their kin. -/
namespace Go.Proofs.YtdialodjllpgaaaGreatDoor
open Go.RowKit

def cmpI (n m : Int) : Int := if n < m then -1 else if m < n then 1 else 0
def cmpF (f g : Nat) : Int := if FloatKind.f64.format.order f g = some .lt then -1 else if FloatKind.f64.format.order f g = some .gt then 1 else 0
def flI (f : Nat) : Int := (floatToIntVal .f64 (Fl.floorW f) .i64).getD 0
def cmpIF (n : Int) (f : Nat) : Int :=
  if FloatKind.f64.format.order f two63 ≠ some .lt then -1
  else if FloatKind.f64.format.order f ntwo63 = some .lt then 1
  else if n < flI f then -1 else if flI f < n then 1
  else if FloatKind.f64.format.order f (Fl.floorW f) = some .gt then -1 else 0

end Go.Proofs.YtdialodjllpgaaaGreatDoor

/-! impl.order and what it calls. -/
namespace Go.Proofs.YtdialodjllpgaaaGreatDoor
open Go.RowKit
attribute [local go_sem] ta_nil_absent ta_absent_absent ta_flag_absent ta_whole_absent ta_float_absent ta_word_absent ta_builtin_absent ta_made_absent ta_nil_flag ta_absent_flag ta_flag_flag ta_whole_flag ta_float_flag ta_word_flag ta_builtin_flag ta_made_flag ta_nil_whole ta_absent_whole ta_flag_whole ta_whole_whole ta_float_whole ta_word_whole ta_builtin_whole ta_made_whole ta_nil_float ta_absent_float ta_flag_float ta_whole_float ta_float_float ta_word_float ta_builtin_float ta_made_float ta_nil_word ta_absent_word ta_flag_word ta_whole_word ta_float_word ta_word_word ta_builtin_word ta_made_word

def nanB (f : Nat) : Bool := FloatKind.f64.format.order f f != some .eq
def mixG (n : Int) (f : Nat) : Int := if nanB f then 2 else cmpIF n f
def mixR (n : Int) (f : Nat) : Int := if nanB f then 2 else -(cmpIF n f)
def fltG (f g : Nat) : Int := if nanB f || nanB g then 2 else cmpF f g

end Go.Proofs.YtdialodjllpgaaaGreatDoor
