import Derived.Test.YtiidepafifodjaaFtD
/-! FnTables: the state of its loop. -/
namespace Go.Proofs.Ytiidepafifodjaa
open Go.RowKit

theorem infoInt : (Try.prog.info? 3).map (fun i => (i.zero, i.size, i.bytes)) = some (some (.int .i64 0), 1, 8) := by kernel_rfl

theorem Tab.block {u w : World} {a : Option Addr} {n : Nat} {q : Nat → PD} (h : Tab u a n q) (hs : u.heap.size ≤ w.heap.size) (hk : ∀ k, bOf a = some k → k < u.heap.size → w.heap[k]? = u.heap[k]?) : Tab w a n q := fun hn => by
  obtain ⟨b, off, e, h1, h2⟩ := h hn
  have hb := hk b (by rw [e]; rfl) h1
  exact ⟨b, off, e, Nat.lt_of_lt_of_le h1 hs, fun i hi j hj => (World.cell?_of_block (a := ⟨b, off + i * 11 + j, none⟩) hb).trans (h2 i hi j hj)⟩
theorem Has.far {u w : World} {B : Nat} {A : Array Value} (h : Has u B A) (hs : u.heap.size ≤ w.heap.size) (hk : w.heap[B]? = u.heap[B]?) : Has w B A := ⟨Nat.lt_of_lt_of_le h.1 hs, fun o => (World.cell?_of_block (a := ⟨B, o, none⟩) hk).trans (h.2 o)⟩
theorem Has.set2 {w : World} {B : Nat} {x y : Value} (h : Has w B #[x, y]) (v0 v1 : Value) : Has ((w.setCell ⟨B, 0, none⟩ v0).setCell ⟨B, 1, none⟩ v1) B #[v0, v1] := by
  have h0 : w.cell? ⟨B, 0, none⟩ = some x := h.at 0
  have h1 : w.cell? ⟨B, 1, none⟩ = some y := h.at 1
  have h2 : ∀ o, w.cell? ⟨B, o + 2, none⟩ = none := fun o => h.at (o + 2)
  refine ⟨by have := h.lt; simpa using this, fun o => ?_⟩
  rcases o with _ | _ | o
  · simp [go_sem, h0]
  · simp [go_sem, h1]
  · simp [go_sem, h2]

/-- two rows of ints, apart from each other -/
structure TR (N : Nat) (ka : Option Addr) (kc nk : Nat) (K : Nat → Int) (va : Option Addr) (vc nv : Nat) (V : Nat → Int) (u : World) : Prop where
  ko : OI u N ka nk kc K
  vo : OI u N va nv vc V
  d1 : ∀ k, bOf ka = some k → bOf va ≠ some k
theorem TR.none (N : Nat) (K V : Nat → Int) (u : World) : TR N none 0 0 K none 0 0 V u := ⟨OI_none u N K, OI_none u N V, fun k e => by cases e⟩
theorem TR.call {N : Nat} {ka : Option Addr} {kc nk : Nat} {K : Nat → Int} {va : Option Addr} {vc nv : Nat} {V : Nat → Int} {u w : World} (h : TR N ka kc nk K va vc nv V u) (hb : Below u.heap.size u w) : TR N ka kc nk K va vc nv V w := ⟨h.ko.below hb, h.vo.below hb, h.d1⟩
theorem TR.alloc {N : Nat} {ka : Option Addr} {kc nk : Nat} {K : Nat → Int} {va : Option Addr} {vc nv : Nat} {V : Nat → Int} {u : World} (h : TR N ka kc nk K va vc nv V u) (o : Obj) : TR N ka kc nk K va vc nv V (u.alloc o) := h.call (below_alloc u o)
theorem TR.newK {N : Nat} {ka : Option Addr} {kc nk : Nat} {K : Nat → Int} {va : Option Addr} {vc nv : Nat} {V : Nat → Int} {u w : World} (h : TR N ka kc nk K va vc nv V u) (hg : u.grownBy w (bOf ka)) {ka' : Option Addr} {kc' nk' : Nat} {K' : Nat → Int} (ho : OI w N ka' nk' kc' K') (hn : bOf ka' = bOf ka ∨ bOf ka' = some u.heap.size) : TR N ka' kc' nk' K' va vc nv V w := by
  refine ⟨ho, h.vo.grown hg ?_, fun k e => ?_⟩
  · cases e : bOf ka with
    | none =>
      by_cases c : bOf va = Option.none
      · exact .inr c
      · exact .inl c
    | some k => exact .inl (h.d1 k e)
  · rcases hn with hn | hn
    · exact h.d1 k (hn ▸ e)
    · rw [hn] at e
      cases e
      exact fun c => Nat.lt_irrefl _ (h.vo.ge c).2
theorem TR.newV {N : Nat} {ka : Option Addr} {kc nk : Nat} {K : Nat → Int} {va : Option Addr} {vc nv : Nat} {V : Nat → Int} {u w : World} (h : TR N ka kc nk K va vc nv V u) (hg : u.grownBy w (bOf va)) {va' : Option Addr} {vc' nv' : Nat} {V' : Nat → Int} (ho : OI w N va' nv' vc' V') (hn : bOf va' = bOf va ∨ bOf va' = some u.heap.size) : TR N ka kc nk K va' vc' nv' V' w := by
  refine ⟨h.ko.grown hg ?_, ho, fun k e => ?_⟩
  · cases e : bOf ka with
    | none => exact .inr rfl
    | some k => exact .inl fun c => h.d1 k e c.symm
  · rcases hn with hn | hn
    · rw [hn]; exact h.d1 k e
    · rw [hn]
      exact fun c => by have := (h.ko.ge e).2; cases c; omega

/-- the law's loop: its table, its two lists -/
structure FS (w : World) (D : TD) (a : Option Addr) (c : Nat) (ka : Option Addr) (kc nk : Nat) (K : Nat → Int) (va : Option Addr) (vc nv : Nat) (V : Nat → Int) (u : World) : Prop where
  tb : Has u w.heap.size #[.slice a D.n c, .int .i64 D.t]
  fr : ∀ o, u.frozen? ⟨w.heap.size, o, none⟩ = false
  tt : Tab u a D.n D.q
  tr : TR (w.heap.size + 1) ka kc nk K va vc nv V u
  b : Below w.heap.size w u
  d2 : ∀ k, bOf a = some k → w.heap.size < k ∧ k < u.heap.size ∧ bOf ka ≠ some k ∧ bOf va ≠ some k
theorem FS.call {w : World} {D : TD} {a : Option Addr} {c : Nat} {ka : Option Addr} {kc nk : Nat} {K : Nat → Int} {va : Option Addr} {vc nv : Nat} {V : Nat → Int} {u u' : World} (h : FS w D a c ka kc nk K va vc nv V u) (hb : Below u.heap.size u u') : FS w D a c ka kc nk K va vc nv V u' :=
  ⟨h.tb.call hb, fun o => (hb.frozen (p := ⟨w.heap.size, o, none⟩) h.tb.lt).trans (h.fr o), h.tt.below hb, h.tr.call hb, below_call h.b hb, fun k e => by have h1 := h.d2 k e; have h2 := hb.size; exact ⟨h1.1, by omega, h1.2.2.1, h1.2.2.2⟩⟩
theorem FS.drew {w : World} {D : TD} {a : Option Addr} {c : Nat} {ka : Option Addr} {kc nk : Nat} {K : Nat → Int} {va : Option Addr} {vc nv : Nat} {V : Nat → Int} {u : World} (h : FS w D a c ka kc nk K va vc nv V u) : FS w D a c ka kc nk K va vc nv V u.drew := ⟨h.tb, h.fr, h.tt.drew, ⟨h.tr.ko, h.tr.vo, h.tr.d1⟩, h.b.drew, h.d2⟩
theorem FS.alloc {w : World} {D : TD} {a : Option Addr} {c : Nat} {ka : Option Addr} {kc nk : Nat} {K : Nat → Int} {va : Option Addr} {vc nv : Nat} {V : Nat → Int} {u : World} (h : FS w D a c ka kc nk K va vc nv V u) (o : Obj) : FS w D a c ka kc nk K va vc nv V (u.alloc o) := h.call (below_alloc u o)
theorem FS.c {w : World} {D : TD} {a : Option Addr} {c : Nat} {ka : Option Addr} {kc nk : Nat} {K : Nat → Int} {va : Option Addr} {vc nv : Nat} {V : Nat → Int} {u : World} (h : FS w D a c ka kc nk K va vc nv V u) : u.cell? ⟨w.heap.size, 0, none⟩ = some (.slice a D.n c) ∧ u.cell? ⟨w.heap.size, 1, none⟩ = some (.int .i64 D.t) := ⟨h.tb.at 0, h.tb.at 1⟩
def D0 : TD := ⟨0, 0, fun _ => pz⟩
theorem FS.new (w : World) (K V : Nat → Int) : FS w D0 none 0 none 0 0 K none 0 0 V (w.alloc (.cells #[.slice none 0 0, .int .i64 0] 59)) :=
  ⟨Has.new _ _ _, fun o => by simp, fun hn => absurd hn (Nat.lt_irrefl 0), TR.none _ _ _ _, below_alloc _ _, fun k e => by cases e⟩
theorem FS.put {w : World} {D : TD} {a : Option Addr} {c : Nat} {ka : Option Addr} {kc nk : Nat} {K : Nat → Int} {va : Option Addr} {vc nv : Nat} {V : Nat → Int} {u w7 : World} (h : FS w D a c ka kc nk K va vc nv V u) (hb : Below u.heap.size u w7) {D7 : TD} {a7 : Option Addr} {c7 : Nat} (ht : Tab w7 a7 D7.n D7.q) (hge : ∀ b off sp, a7 = some ⟨b, off, sp⟩ → u.heap.size ≤ b ∧ b < w7.heap.size) :
    FS w D7 a7 c7 ka kc nk K va vc nv V ((w7.setCell ⟨w.heap.size, 0, none⟩ (.slice a7 D7.n c7)).setCell ⟨w.heap.size, 1, none⟩ (.int .i64 D7.t)) := by
  have h7 := h.call hb
  have lt := h.tb.lt
  have hge' : ∀ k, bOf a7 = some k → u.heap.size ≤ k ∧ k < w7.heap.size := fun k e => by
    cases a7 with
    | none => cases e
    | some x => obtain ⟨b, off, sp⟩ := x; cases e; exact hge b off sp rfl
  have hk : ∀ k, k ≠ w.heap.size → ((w7.setCell ⟨w.heap.size, 0, none⟩ (.slice a7 D7.n c7)).setCell ⟨w.heap.size, 1, none⟩ (.int .i64 D7.t)).heap[k]? = w7.heap[k]? := fun k hk =>
    (Below.heap_setCell _ ⟨w.heap.size, 1, none⟩ _ k hk).trans (Below.heap_setCell _ ⟨w.heap.size, 0, none⟩ _ k hk)
  have hf := h7.fr
  refine ⟨h7.tb.set2 _ _, fun o => by simp [go_sem, hf], ht.block (by simp) (fun k e _ => hk k (by have := hge' k e; omega)), ⟨h7.tr.ko.block (fun k e => hk k (by have := (h7.tr.ko.ge e).1; omega)), h7.tr.vo.block (fun k e => hk k (by have := (h7.tr.vo.ge e).1; omega)), h.tr.d1⟩, st1 (st1 h7.b (Nat.le_refl _) _) (Nat.le_refl _) _, fun k e => ?_⟩
  have h1 := hge' k e
  exact ⟨by omega, by simp; omega, fun c => by have := (h.tr.ko.ge c).2; omega, fun c => by have := (h.tr.vo.ge c).2; omega⟩
/-- one of the rows is written or grows -/
theorem FS.rows {w : World} {D : TD} {a : Option Addr} {c : Nat} {ka : Option Addr} {kc nk : Nat} {K : Nat → Int} {va : Option Addr} {vc nv : Nat} {V : Nat → Int} {u w' : World} (h : FS w D a c ka kc nk K va vc nv V u) {r : Option Nat} (hg : u.grownBy w' r) (hr : ∀ k, r = some k → w.heap.size < k ∧ bOf a ≠ some k) {ka' : Option Addr} {kc' nk' : Nat} {K' : Nat → Int} {va' : Option Addr} {vc' nv' : Nat} {V' : Nat → Int} (ht : TR (w.heap.size + 1) ka' kc' nk' K' va' vc' nv' V' w')
    (hk : bOf ka' = bOf ka ∨ bOf ka' = some u.heap.size) (hv : bOf va' = bOf va ∨ bOf va' = some u.heap.size) : FS w D a c ka' kc' nk' K' va' vc' nv' V' w' := by
  have hs := hg.size
  have hT : w'.heap[w.heap.size]? = u.heap[w.heap.size]? := hg.block _ h.tb.lt (fun e => by have := (hr _ e.symm).1; omega)
  refine ⟨h.tb.far hs hT, fun o => (World.frozen?_of_block (a := ⟨w.heap.size, o, none⟩) hT).trans (h.fr o), h.tt.block hs (fun k e hk => hg.block k hk (fun c => (hr k c.symm).2 e)), ht, h.b.grown hg h.b.size (fun k e => by have := (hr k e).1; omega), fun k e => ?_⟩
  have h1 := h.d2 k e
  refine ⟨h1.1, by omega, ?_, ?_⟩
  · rcases hk with hk | hk
    · rw [hk]; exact h1.2.2.1
    · rw [hk]; intro c; cases c; omega
  · rcases hv with hv | hv
    · rw [hv]; exact h1.2.2.2
    · rw [hv]; intro c; cases c; omega
theorem FS.newK {w : World} {D : TD} {a : Option Addr} {c : Nat} {ka : Option Addr} {kc nk : Nat} {K : Nat → Int} {va : Option Addr} {vc nv : Nat} {V : Nat → Int} {u w' : World} (h : FS w D a c ka kc nk K va vc nv V u) (hg : u.grownBy w' (bOf ka)) {ka' : Option Addr} {kc' nk' : Nat} {K' : Nat → Int} (ho : OI w' (w.heap.size + 1) ka' nk' kc' K') (hn : bOf ka' = bOf ka ∨ bOf ka' = some u.heap.size) : FS w D a c ka' kc' nk' K' va vc nv V w' :=
  h.rows hg (fun k e => ⟨by have := (h.tr.ko.ge e).1; omega, fun c => (h.d2 k c).2.2.1 e⟩) (h.tr.newK hg ho hn) hn (.inl rfl)
theorem FS.newV {w : World} {D : TD} {a : Option Addr} {c : Nat} {ka : Option Addr} {kc nk : Nat} {K : Nat → Int} {va : Option Addr} {vc nv : Nat} {V : Nat → Int} {u w' : World} (h : FS w D a c ka kc nk K va vc nv V u) (hg : u.grownBy w' (bOf va)) {va' : Option Addr} {vc' nv' : Nat} {V' : Nat → Int} (ho : OI w' (w.heap.size + 1) va' nv' vc' V') (hn : bOf va' = bOf va ∨ bOf va' = some u.heap.size) : FS w D a c ka kc nk K va' vc' nv' V' w' :=
  h.rows hg (fun k e => ⟨by have := (h.tr.vo.ge e).1; omega, fun c => (h.d2 k c).2.2.2 e⟩) (h.tr.newV hg ho hn) (.inl rfl) hn
/-- two rows that were made meanwhile take their place -/
theorem OI.mono {u : World} {N M : Nat} {a : Option Addr} {n cap : Nat} {K : Nat → Int} (h : OI u N a n cap K) (hM : M ≤ N) : OI u M a n cap K := by
  refine ⟨h.1, ?_⟩
  rcases h.2 with h2 | ⟨g, cap', cur, e2, h3, r⟩
  · exact .inl h2
  · exact .inr ⟨g, cap', cur, e2, Nat.le_trans hM h3, r⟩
theorem FS.swap {w : World} {D : TD} {a : Option Addr} {c : Nat} {ka : Option Addr} {kc nk : Nat} {K : Nat → Int} {va : Option Addr} {vc nv : Nat} {V : Nat → Int} {u wr : World} (h : FS w D a c ka kc nk K va vc nv V u) (hb : Below u.heap.size u wr) {ka' : Option Addr} {kc' nk' : Nat} {K' : Nat → Int} {va' : Option Addr} {vc' nv' : Nat} {V' : Nat → Int} (ht : TR u.heap.size ka' kc' nk' K' va' vc' nv' V' wr) : FS w D a c ka' kc' nk' K' va' vc' nv' V' wr := by
  have h7 := h.call hb
  have lt := h.tb.lt
  refine ⟨h7.tb, h7.fr, h7.tt, ⟨ht.ko.mono (by omega), ht.vo.mono (by omega), ht.d1⟩, h7.b, fun k e => ?_⟩
  have h1 := h.d2 k e
  have := hb.size
  exact ⟨h1.1, by omega, fun c => by have := (ht.ko.ge c).1; omega, fun c => by have := (ht.vo.ge c).1; omega⟩
end Go.Proofs.Ytiidepafifodjaa
