import Derived.Test.YtfkpplgcakhpfabThing
import Derived.Test.YtfkpplgcakhpfabCmp
import Derived.Test.YtfkpplgcakhpfabPlain
/-! The makes of a thing. -/
namespace Go.Proofs.Ytfkpplgcakhpfab
open Go.RowKit

theorem iface_ne_nil (k n : Int) (f : Nat) (s : ByteArray) (r : Int) (h : okB k n f s r = true) : ∃ t v, thW k n f s r = .iface t v := by
  simp only [thW, h, if_true]
  unfold thV
  (repeat' split) <;> exact ⟨_, _, rfl⟩

/-- the seven makes of a thing, and nothing -/
theorem th_cases (k n : Int) (f : Nat) (s : ByteArray) (r : Int) :
    (okB k n f s r = false ∧ thW k n f s r = .nilIface) ∨
    (okB k n f s r = true ∧ k = 0 ∧ thW k n f s r = .iface 107 (.agg #[])) ∨
    (okB k n f s r = true ∧ k = 1 ∧ (n = 0 ∨ n = 1) ∧ thW k n f s r = .iface 110 (.bool (n == 1))) ∨
    (okB k n f s r = true ∧ k = 2 ∧ thW k n f s r = .iface 111 (.int .i64 n)) ∨
    (okB k n f s r = true ∧ k = 3 ∧ thW k n f s r = .iface 108 (.float .f64 f)) ∨
    (okB k n f s r = true ∧ k = 4 ∧ s.size ≤ 4000 ∧ thW k n f s r = .iface 112 (.string s)) ∨
    (okB k n f s r = true ∧ k = 8 ∧ 0 ≤ n ∧ n < 15 ∧ thW k n f s r = .iface 115 (.int .i64 n)) ∨
    (okB k n f s r = true ∧ (k = 5 ∨ k = 6 ∨ k = 7) ∧ 0 ≤ r ∧ thW k n f s r = .iface 114 (.agg #[.int .i64 k, .int .i64 r])) := by
  cases h : okB k n f s r
  · exact .inl ⟨rfl, by simp [thW, h]⟩
  · right
    have hu : usB k n s r = true := by simp only [okB, Bool.and_eq_true] at h; exact h.2
    have ht : thW k n f s r = thV k n f s r := by simp [thW, h]
    rw [ht]
    unfold usB at hu
    by_cases c0 : k = 0
    · exact .inl ⟨rfl, c0, by simp [thV, c0]⟩
    right
    rw [if_neg c0] at hu
    by_cases c1 : k = 1
    · rw [if_pos c1] at hu
      exact .inl ⟨rfl, c1, by simpa using hu, by simp [thV, c1]⟩
    right
    rw [if_neg c1] at hu
    by_cases c2 : k = 2
    · exact .inl ⟨rfl, c2, by simp [thV, c2]⟩
    right
    rw [if_neg c2] at hu
    by_cases c3 : k = 3
    · exact .inl ⟨rfl, c3, by simp [thV, c3]⟩
    right
    rw [if_neg c3] at hu
    by_cases c4 : k = 4
    · rw [if_pos c4] at hu
      exact .inl ⟨rfl, c4, by simp at hu; omega, by simp [thV, c4]⟩
    right
    rw [if_neg c4] at hu
    by_cases c8 : k = 8
    · rw [if_neg (by omega), if_pos c8] at hu
      simp at hu
      exact .inl ⟨rfl, c8, hu.1, hu.2, by simp [thV, c8]⟩
    right
    by_cases c5 : k = 5 ∨ k = 6 ∨ k = 7
    · rw [if_pos c5] at hu
      refine ⟨rfl, c5, by simpa using hu, ?_⟩
      unfold thV
      rw [if_neg c0, if_neg c1, if_neg c2, if_neg c3, if_neg c4, if_neg c8]
    · rw [if_neg c5, if_neg c8] at hu
      cases hu

end Go.Proofs.Ytfkpplgcakhpfab

/-! impl.order and what it calls. -/
namespace Go.Proofs.Ytfkpplgcakhpfab
open Go.RowKit
attribute [local go_sem] ta_nil_absent ta_absent_absent ta_flag_absent ta_whole_absent ta_float_absent ta_word_absent ta_builtin_absent ta_made_absent ta_nil_flag ta_absent_flag ta_flag_flag ta_whole_flag ta_float_flag ta_word_flag ta_builtin_flag ta_made_flag ta_nil_whole ta_absent_whole ta_flag_whole ta_whole_whole ta_float_whole ta_word_whole ta_builtin_whole ta_made_whole ta_nil_float ta_absent_float ta_flag_float ta_whole_float ta_float_float ta_word_float ta_builtin_float ta_made_float ta_nil_word ta_absent_word ta_flag_word ta_whole_word ta_float_word ta_word_word ta_builtin_word ta_made_word

def nanB (f : Nat) : Bool := FloatKind.f64.format.order f f != some .eq
theorem nanB_false {f : Nat} (h : nanB f = false) : FloatKind.f64.format.order f f = some .eq := by simpa [nanB] using h
theorem nanB_true {f : Nat} (hf : f < 2 ^ 64) (h : nanB f = true) : FloatKind.f64.format.order f f = none := by
  rcases order_self hf with h' | h'
  · simp [nanB, h'] at h
  · exact h'

def mixG (n : Int) (f : Nat) : Int := if nanB f then 2 else cmpIF n f
def mixR (n : Int) (f : Nat) : Int := if nanB f then 2 else -(cmpIF n f)
def fltG (f g : Nat) : Int := if nanB f || nanB g then 2 else cmpF f g

end Go.Proofs.Ytfkpplgcakhpfab

/-! Six stores into one's own result, and the frame. -/
namespace Go.Proofs.Ytfkpplgcakhpfab
open Go.RowKit
theorem set6 {B blk : Nat} {a w : World} (h : Below B a w) (hp : B ≤ blk) (v0 v1 v2 v3 v4 v5 : Value) :
    Below B a ((((((w.setCell ⟨blk, 0, none⟩ v0).setCell ⟨blk, 1, none⟩ v1).setCell ⟨blk, 2, none⟩ v2).setCell ⟨blk, 3, none⟩ v3).setCell ⟨blk, 4, none⟩ v4).setCell ⟨blk, 5, none⟩ v5) :=
  (((((h.setCell (p := ⟨blk, 0, none⟩) hp v0).setCell (p := ⟨blk, 1, none⟩) hp v1).setCell (p := ⟨blk, 2, none⟩) hp v2).setCell (p := ⟨blk, 3, none⟩) hp v3).setCell (p := ⟨blk, 4, none⟩) hp v4).setCell (p := ⟨blk, 5, none⟩) hp v5
theorem set5 {B blk : Nat} {a w : World} (h : Below B a w) (hp : B ≤ blk) (v0 v1 v2 v3 v4 : Value) :
    Below B a (((((w.setCell ⟨blk, 0, none⟩ v0).setCell ⟨blk, 1, none⟩ v1).setCell ⟨blk, 2, none⟩ v2).setCell ⟨blk, 3, none⟩ v3).setCell ⟨blk, 4, none⟩ v4) :=
  ((((h.setCell (p := ⟨blk, 0, none⟩) hp v0).setCell (p := ⟨blk, 1, none⟩) hp v1).setCell (p := ⟨blk, 2, none⟩) hp v2).setCell (p := ⟨blk, 3, none⟩) hp v3).setCell (p := ⟨blk, 4, none⟩) hp v4
theorem below_alloc2 (w : World) (o o' : Obj) : Below w.heap.size w ((w.alloc o).alloc o') := (below_alloc w o).alloc (by simp) _
theorem below_alloc3 (w : World) (o o' o'' : Obj) : Below w.heap.size w (((w.alloc o).alloc o').alloc o'') := (below_alloc2 w o o').alloc (by simp; omega) _
theorem below_a {w u : World} (h : Below w.heap.size w u) (o : Obj) : Below w.heap.size w (u.alloc o) := h.alloc h.size _
end Go.Proofs.Ytfkpplgcakhpfab
