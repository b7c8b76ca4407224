import Derived.Test.YtiidepafifodjaaDoorPlain
/-! Six stores into one's own result, and the frame. -/
namespace Go.Proofs.YtiidepafifodjaaDoor
open Go.RowKit
theorem set6 {B blk : Nat} {a w : World} (h : Below B a w) (hp : B ≤ blk) (v0 v1 v2 v3 v4 v5 : Value) :
    Below B a ((((((w.setCell ⟨blk, 0, none⟩ v0).setCell ⟨blk, 1, none⟩ v1).setCell ⟨blk, 2, none⟩ v2).setCell ⟨blk, 3, none⟩ v3).setCell ⟨blk, 4, none⟩ v4).setCell ⟨blk, 5, none⟩ v5) :=
  (((((h.setCell (p := ⟨blk, 0, none⟩) hp v0).setCell (p := ⟨blk, 1, none⟩) hp v1).setCell (p := ⟨blk, 2, none⟩) hp v2).setCell (p := ⟨blk, 3, none⟩) hp v3).setCell (p := ⟨blk, 4, none⟩) hp v4).setCell (p := ⟨blk, 5, none⟩) hp v5
theorem set5 {B blk : Nat} {a w : World} (h : Below B a w) (hp : B ≤ blk) (v0 v1 v2 v3 v4 : Value) :
    Below B a (((((w.setCell ⟨blk, 0, none⟩ v0).setCell ⟨blk, 1, none⟩ v1).setCell ⟨blk, 2, none⟩ v2).setCell ⟨blk, 3, none⟩ v3).setCell ⟨blk, 4, none⟩ v4) :=
  ((((h.setCell (p := ⟨blk, 0, none⟩) hp v0).setCell (p := ⟨blk, 1, none⟩) hp v1).setCell (p := ⟨blk, 2, none⟩) hp v2).setCell (p := ⟨blk, 3, none⟩) hp v3).setCell (p := ⟨blk, 4, none⟩) hp v4
theorem below_alloc2 (w : World) (o o' : Obj) : Below w.heap.size w ((w.alloc o).alloc o') := (below_alloc w o).alloc (by simp) _
theorem below_alloc3 (w : World) (o o' o'' : Obj) : Below w.heap.size w (((w.alloc o).alloc o').alloc o'') := (below_alloc2 w o o').alloc (by simp; omega) _
theorem below_a {w u : World} (h : Below w.heap.size w u) (o : Obj) : Below w.heap.size w (u.alloc o) := h.alloc h.size _
end Go.Proofs.YtiidepafifodjaaDoor
