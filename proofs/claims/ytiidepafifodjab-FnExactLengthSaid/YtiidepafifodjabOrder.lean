import Derived.Test.YtiidepafifodjabCmp
import Derived.Test.YtiidepafifodjabStrings
import Derived.Test.YtiidepafifodjabCases
/-! impl.order and what it calls. -/
namespace Go.Proofs.Ytiidepafifodjab
open Go.RowKit
attribute [local go_sem] ta_nil_absent ta_absent_absent ta_flag_absent ta_whole_absent ta_float_absent ta_word_absent ta_builtin_absent ta_made_absent ta_nil_flag ta_absent_flag ta_flag_flag ta_whole_flag ta_float_flag ta_word_flag ta_builtin_flag ta_made_flag ta_nil_whole ta_absent_whole ta_flag_whole ta_whole_whole ta_float_whole ta_word_whole ta_builtin_whole ta_made_whole ta_nil_float ta_absent_float ta_flag_float ta_whole_float ta_float_float ta_word_float ta_builtin_float ta_made_float ta_nil_word ta_absent_word ta_flag_word ta_whole_word ta_float_word ta_word_word ta_builtin_word ta_made_word

def nanB (f : Nat) : Bool := FloatKind.f64.format.order f f != some .eq
theorem nanB_false {f : Nat} (h : nanB f = false) : FloatKind.f64.format.order f f = some .eq := by simpa [nanB] using h
theorem nanB_true {f : Nat} (hf : f < 2 ^ 64) (h : nanB f = true) : FloatKind.f64.format.order f f = none := by
  rcases order_self hf with h' | h'
  · simp [nanB, h'] at h
  · exact h'

def mixG (n : Int) (f : Nat) : Int := if nanB f then 2 else cmpIF n f
def mixR (n : Int) (f : Nat) : Int := if nanB f then 2 else -(cmpIF n f)
def fltG (f g : Nat) : Int := if nanB f || nanB g then 2 else cmpF f g

end Go.Proofs.Ytiidepafifodjab
