import Derived.Test.YtiidepafifodjaaTabM
import Derived.Deep.AppendLies
import Derived.Test.YtiidepafifodjaaSet
/-! Tables: impl's has, length, get. -/
namespace Go.Proofs.Ytiidepafifodjaa
open Go.RowKit
attribute [local go_sem] run_store_float
attribute [local go_sem ↓] Go.wp_at_zero Go.wp_at_succ

/-- block b holds an indexed table -/
structure XBox (w : World) (b : Nat) (a : Option Addr) (n cap B : Nat) (t : Int) (q : Nat → PD) : Prop where
  lt : b < w.heap.size
  c0 : w.cell? ⟨b, 0, none⟩ = some (.slice a n cap)
  c1 : w.cell? ⟨b, 1, none⟩ = some (.map (some B))
  c2 : w.cell? ⟨b, 2, none⟩ = some (.int .i64 t)
  tab : Tab w a n q
  map : MapIs w B (places q n)
theorem XBox.call {u w : World} {b : Nat} {a : Option Addr} {n cap B : Nat} {t : Int} {q : Nat → PD} (h : XBox u b a n cap B t q) (hb : Below u.heap.size u w) : XBox w b a n cap B t q :=
  ⟨Nat.lt_of_lt_of_le h.lt hb.size, (hb.cell (p := ⟨b, 0, none⟩) h.lt).trans h.c0, (hb.cell (p := ⟨b, 1, none⟩) h.lt).trans h.c1, (hb.cell (p := ⟨b, 2, none⟩) h.lt).trans h.c2, h.tab.below hb, h.map.below hb⟩
theorem XBox.drew {w : World} {b : Nat} {a : Option Addr} {n cap B : Nat} {t : Int} {q : Nat → PD} (h : XBox w b a n cap B t q) : XBox w.drew b a n cap B t q := ⟨h.lt, h.c0, h.c1, h.c2, h.tab.drew, mapIs_drew h.map⟩
theorem XBox.alloc {w : World} {b : Nat} {a : Option Addr} {n cap B : Nat} {t : Int} {q : Nat → PD} (h : XBox w b a n cap B t q) (o : Obj) : XBox (w.alloc o) b a n cap B t q := h.call (below_alloc w o)

theorem mk_iv (i : Int) : mk (iv i) = (2, i, 0, ⟨#[]⟩, 0) := by simp [mk, iv]

set_option maxRecDepth 100000 in
set_option maxHeartbeats 4000000 in
theorem has_calls (X : Nat) (a : Option Addr) (n cap B : Nat) (t : Int) (q : Nat → PD) (i : Int) (w : World) (hok : TabOk n t q) (hX : XBox w X a n cap B t q) :
    Calls Try.prog 150 #[.pointer (some ⟨X, 0, none⟩), .int .i64 i] w fun e w' => e = .returned (.bool (fnd q (mk (iv i)) n).isSome) ∧ Below w.heap.size w w' := by
  have HO : Hid (TabOk n t q) := hok
  have HX : Hid (XBox w X a n cap B t q) := hX
  have c1 := hX.c1
  have hMk : Hid (∀ w, Calls Try.prog 126 #[vOf 2 i 0 ⟨#[]⟩ 0] w fun e w' => e = .returned (mkV (2, i, 0, ⟨#[]⟩, 0)) ∧ Below w.heap.size w w') := fun w => by
    have := markOf_calls (iv i) w; rw [mk_iv] at this; exact this
  rw [mk_iv]
  clear hok hX
  go_enter Try.func150, Try.ntmps150
  go_wp2_with fail
  go_region_with (first | (go_at_call 169; refine (value_whole _ _).mono ?_; rintro e w2 ⟨rfl, hb2⟩; have HX2 : Hid (XBox w2 X a n cap B t q) := (by first | exact HX.out.call hb2 | exact HX.out.drew.call hb2); have HB : Hid (Below w.heap.size w w2) := (by first | exact hb2 | exact below_call (Below.refl _ _).drew hb2); clear c1 hb2; have c1 := HX2.out.c1) | (go_at_call 126; refine (hMk.out _).mono ?_; rintro e w3 ⟨rfl, hb3⟩; have HX3 : Hid (XBox w3 X a n cap B t q) := (by first | exact HX2.out.call hb3 | exact HX2.out.drew.call hb3); replace HB : Hid (Below w.heap.size w w3) := (by first | exact below_call HB.out hb3 | exact below_call HB.out.drew hb3); clear c1 hb3; have c1 := HX3.out.c1; have hlk := lookup_run Try.underlying113 markT HX3.out.map (2, i, 0, ⟨#[]⟩, 0) (Try.zeroValue3 _); rw [idx_ok HO.out] at hlk))
  all_goals go_wp2_with fail
  all_goals go_ret
  all_goals exact ⟨ret_bool (by simp), HB.out⟩

theorem pres_of {q : Nat → PD} {n i : Nat} (h : (fnd q (mk (iv (i : Int))) n).isSome = true) : pres q n i := by
  obtain ⟨j, hj⟩ := Option.isSome_iff_exists.1 h
  obtain ⟨h1, h2⟩ := fnd_at hj
  exact ⟨j, h1, h2⟩
theorem pres_not {q : Nat → PD} {n i : Nat} (h : (fnd q (mk (iv (i : Int))) n).isSome = false) : ¬ pres q n i := by
  rintro ⟨j, h1, h2⟩
  have h0 : fnd q (mk (iv (i : Int))) n = none := by simpa using h
  exact fnd_no h0 j h1 h2
theorem pres_step {q : Nat → PD} {n k : Nat} (h : ∀ i, i < k → pres q n (i + 1)) (hk : pres q n (k + 1)) : ∀ i, i < k + 1 → pres q n (i + 1) := fun i hi => by
  by_cases e : i = k
  · subst e; exact hk
  · exact h i (by omega)

set_option maxRecDepth 100000 in
set_option maxHeartbeats 4000000 in
theorem length_calls (X : Nat) (a : Option Addr) (n cap B : Nat) (t : Int) (q : Nat → PD) (w : World) (hok : TabOk n t q) (hX : XBox w X a n cap B t q) :
    Calls Try.prog 132 #[.pointer (some ⟨X, 0, none⟩)] w fun e w' => (∃ r : Nat, e = .returned (.int .i64 (r : Int)) ∧ LenIs q n r) ∧ Below w.heap.size w w' := by
  have HO : Hid (TabOk n t q) := hok
  have HX : Hid (XBox w X a n cap B t q) := hX
  have hn := hok.nn
  clear hok hX
  go_enter Try.func132, Try.ntmps132
  go_wp2_with fail
  go_loopw [3] (fun i wr => ∃ (k : Nat), i = .int .i64 k ∧ (∀ i, i < k → pres q n (i + 1)) ∧ Below w.heap.size w wr) (fun i _ => n + 1 - (intOf i).toNat)
  case atStart => exact ⟨0, rfl, fun i hi => by omega, Below.refl _ _⟩
  case round =>
    obtain ⟨k, rfl, hp, hB⟩ := hrel
    have hkn := pres_le hp
    have hP : Hid (∀ i, i < k → pres q n (i + 1)) := hp
    clear hp
    go_wp2_with fail
    refine (has_calls X a n cap B t q _ _ HO.out (HX.out.call hB)).mono ?_
    rintro e w2 ⟨rfl, hb2⟩
    replace hB := below_call hB hb2
    clear hb2
    have e1 : ((k : Int) + 1) = ((k + 1 : Nat) : Int) := by omega
    rw [e1]
    cases hf : (fnd q (mk (iv ((k + 1 : Nat) : Int))) n).isSome
    · have hs : Hid (LenIs q n k) := ⟨hP.out, pres_not hf⟩
      clear hf e1
      go_wp2_with fail
      go_ret
      exact ⟨⟨k, rfl, hs.out⟩, hB⟩
    · have hs : Hid (∀ i, i < k + 1 → pres q n (i + 1)) := pres_step hP.out (pres_of hf)
      have hk1 := pres_le hs.out
      clear hf e1
      go_wp2_with fail
      go_roundw
      case rel => exact ⟨k + 1, by go_num, hs.out, hB⟩
      case measure => simp [intOf]; omega

end Go.Proofs.Ytiidepafifodjaa

/-! Tables: an indexed table of one's own, changed in place. -/
namespace Go.Proofs.Ytiidepafifodjaa
open Go.RowKit
attribute [local go_sem] run_store_float
attribute [local go_sem ↓] Go.wp_at_zero Go.wp_at_succ

/-- block X, at or above N, holds an indexed table whose pairs lie in a row of one's own -/
structure XO (N : Nat) (w : World) (X : Nat) (a : Option Addr) (n cap B : Nat) (t : Int) (q : Nat → PD) (L : List (Mk × Nat)) : Prop where
  lo : N ≤ X
  lt : X < w.heap.size
  c0 : w.cell? ⟨X, 0, none⟩ = some (.slice a n cap)
  c1 : w.cell? ⟨X, 1, none⟩ = some (.map (some B))
  c2 : w.cell? ⟨X, 2, none⟩ = some (.int .i64 t)
  fr : ∀ o, w.frozen? ⟨X, o, none⟩ = false
  own : w.ownsRow N 123 11 (.slice a n cap) n (cellsOf q n)
  map : MapIs w B L
  bl : N ≤ B
  ne : ∀ b off sp, a = some ⟨b, off, sp⟩ → b ≠ X
theorem own_below {N : Nat} {u w : World} {v : Value} {n : Nat} {xs : List Value} {T : TypeId} (h : u.ownsRow N T 11 v n xs) (hb : Below u.heap.size u w) : w.ownsRow N T 11 v n xs := by
  obtain ⟨h1, h2⟩ := h
  refine ⟨h1, ?_⟩
  rcases h2 with h2 | ⟨g, cap, cur, e, h3, hh, r⟩
  · exact .inl h2
  · exact .inr ⟨g, cap, cur, e, h3, (hb.block g (Array.getElem?_eq_some_iff.1 hh).1).trans hh, r⟩
theorem XO.call {N : Nat} {u w : World} {X : Nat} {a : Option Addr} {n cap B : Nat} {t : Int} {q : Nat → PD} {L : List (Mk × Nat)} (h : XO N u X a n cap B t q L) (hb : Below u.heap.size u w) : XO N w X a n cap B t q L :=
  ⟨h.lo, Nat.lt_of_lt_of_le h.lt hb.size, (hb.cell (p := ⟨X, 0, none⟩) h.lt).trans h.c0, (hb.cell (p := ⟨X, 1, none⟩) h.lt).trans h.c1, (hb.cell (p := ⟨X, 2, none⟩) h.lt).trans h.c2, fun o => (hb.frozen (p := ⟨X, o, none⟩) h.lt).trans (h.fr o), own_below h.own hb, h.map.below hb, h.bl, h.ne⟩
theorem XO.drew {N : Nat} {w : World} {X : Nat} {a : Option Addr} {n cap B : Nat} {t : Int} {q : Nat → PD} {L : List (Mk × Nat)} (h : XO N w X a n cap B t q L) : XO N w.drew X a n cap B t q L := ⟨h.lo, h.lt, h.c0, h.c1, h.c2, h.fr, h.own, h.map, h.bl, h.ne⟩
theorem XO.alloc {N : Nat} {w : World} {X : Nat} {a : Option Addr} {n cap B : Nat} {t : Int} {q : Nat → PD} {L : List (Mk × Nat)} (h : XO N w X a n cap B t q L) (o : Obj) : XO N (w.alloc o) X a n cap B t q L := h.call (below_alloc w o)

set_option maxRecDepth 100000 in
set_option maxHeartbeats 4000000 in
theorem table_calls (N X : Nat) (a : Option Addr) (n cap B : Nat) (t : Int) (q : Nat → PD) (L : List (Mk × Nat)) (w : World) (hX : XO N w X a n cap B t q L) :
    Calls Try.prog 77 #[.pointer (some ⟨X, 0, none⟩)] w fun e w' => e = .returned (tOf a n cap t) ∧ Below w.heap.size w w' := by
  have HX : Hid (XO N w X a n cap B t q L) := hX
  clear hX
  go_enter Try.func77, Try.ntmps77
  go_wp2_with fail
  go_region_held3 (fun w' => w'.cell? ⟨X, 0, none⟩ = some (.slice a n cap) ∧ w'.cell? ⟨X, 2, none⟩ = some (.int .i64 t)) (first | (with_reducible exact ⟨(HX.out.alloc _).c0, (HX.out.alloc _).c2⟩) | (with_reducible exact ⟨(HX.out.alloc _).drew.c0, (HX.out.alloc _).drew.c2⟩)) (fail)
  all_goals go_wp2_with fail
  exact bodyPost_ret (v := tOf a n cap t) (by simp [results, Try.results77, go_sem]) rfl ⟨rfl, (below_alloc _ _).drew⟩

theorem own_set {N : Nat} {w : World} {X : Nat} {a : Option Addr} {n cap : Nat} {xs : List Value} {T : TypeId} (h : w.ownsRow N T 11 (.slice a n cap) n xs) (hne : ∀ b off sp, a = some ⟨b, off, sp⟩ → b ≠ X) (o : Nat) (v : Value) : (w.setCell ⟨X, o, none⟩ v).ownsRow N T 11 (.slice a n cap) n xs := by
  obtain ⟨h1, h2⟩ := h
  refine ⟨h1, ?_⟩
  rcases h2 with h2 | ⟨g, cap', cur, e, h3, hh, r⟩
  · exact .inl h2
  · cases e
    exact .inr ⟨g, cap, cur, rfl, h3, (Below.heap_setCell w ⟨X, o, none⟩ v g (hne g 0 none rfl)).trans hh, r⟩
theorem mapIs_ne {w : World} {B X o : Nat} {v : Value} {L : List (Mk × Nat)} (h : MapIs w B L) (hc : w.cell? ⟨X, o, none⟩ = some v) : B ≠ X := fun e => by
  subst e
  obtain ⟨es, c, hb, _⟩ := h
  simp [World.cell?, hb] at hc
theorem mapIs_set {w : World} {B : Nat} {L : List (Mk × Nat)} (h : MapIs w B L) {a : Addr} (hne : B ≠ a.block) (v : Value) : MapIs (w.setCell a v) B L := by
  obtain ⟨es, c, hb, e⟩ := h
  exact ⟨es, c, (Below.heap_setCell w a v B hne).trans hb, e⟩
theorem XO.setT {N : Nat} {w : World} {X : Nat} {a : Option Addr} {n cap B : Nat} {t : Int} {q : Nat → PD} {L : List (Mk × Nat)} (h : XO N w X a n cap B t q L) (s : Int) : XO N (w.setCell ⟨X, 2, none⟩ (.int .i64 s)) X a n cap B s q L :=
  ⟨h.lo, by have := h.lt; simpa using this, by simp [go_sem, h.c0], by simp [go_sem, h.c1], by simp [go_sem, h.c2], fun o => by simp [go_sem, h.fr o], own_set h.own h.ne 2 _, mapIs_set h.map (a := ⟨X, 2, none⟩) (mapIs_ne h.map h.c0) _, h.bl, h.ne⟩
theorem turned_cell {w w' : World} {b : Nat} (h : w.mapTurned w' b) (p : Addr) : w'.cell? p = w.cell? p := by
  obtain ⟨es, c, es', c', hb, rfl⟩ := h
  unfold World.cell?
  by_cases e : p.block = b
  · rw [e, Go.ChangeMaps.heap_setBlock_same hb, hb]
  · rw [Go.ChangeMaps.heap_setBlock_other hb _ e]
theorem XO.turned {N : Nat} {w w' : World} {X : Nat} {a : Option Addr} {n cap B : Nat} {t : Int} {q : Nat → PD} {L L' : List (Mk × Nat)} (h : XO N w X a n cap B t q L) (hM : MapIs w' B L') (ht : w.mapTurned w' B) : XO N w' X a n cap B t q L' := by
  refine ⟨h.lo, Nat.lt_of_lt_of_le h.lt ht.grown.size, (turned_cell ht _).trans h.c0, (turned_cell ht _).trans h.c1, (turned_cell ht _).trans h.c2, fun o => (ht.frozen _).trans (h.fr o), ?_, hM, h.bl, h.ne⟩
  obtain ⟨h1, h2⟩ := h.own
  refine ⟨h1, ?_⟩
  rcases h2 with h2 | ⟨g, cap', cur, e, h3, hh, r⟩
  · exact .inl h2
  · refine .inr ⟨g, cap', cur, e, h3, (ht.grown.block g (Array.getElem?_eq_some_iff.1 hh).1 ?_).trans hh, r⟩
    intro e2
    cases e2
    obtain ⟨es, c, hb, _⟩ := h.map
    rw [hb] at hh; cases hh

end Go.Proofs.Ytiidepafifodjaa

/-! What a local holds, carried over calls. -/
namespace Go.Proofs.Ytiidepafifodjaa
open Go.RowKit

/-- block B of the world holds these cells -/
def Has (w : World) (B : Nat) (A : Array Value) : Prop := B < w.heap.size ∧ ∀ o, w.cell? ⟨B, o, none⟩ = A[o]?

theorem Has.lt {w : World} {B : Nat} {A : Array Value} (h : Has w B A) : B < w.heap.size := h.1
theorem Has.at {w : World} {B : Nat} {A : Array Value} (h : Has w B A) : ∀ o, w.cell? ⟨B, o, none⟩ = A[o]? := h.2
theorem Has.call {u w : World} {B : Nat} {A : Array Value} (h : Has u B A) (hb : Below u.heap.size u w) : Has w B A :=
  ⟨Nat.lt_of_lt_of_le h.1 hb.size, fun o => (hb.cell (p := ⟨B, o, none⟩) h.1).trans (h.2 o)⟩
theorem Has.new (w : World) (A : Array Value) (t : TypeId) : Has (w.alloc (.cells A t)) w.heap.size A :=
  ⟨by simp, fun o => World.cell?_alloc_new w A t o⟩
theorem Has.alloc {w : World} {B : Nat} {A : Array Value} (h : Has w B A) (o : Obj) : Has (w.alloc o) B A :=
  ⟨by have := h.1; simp; omega, fun i => (World.cell?_alloc_lt w o ⟨B, i, none⟩ h.1).trans (h.2 i)⟩
theorem Has.drew {w : World} {B : Nat} {A : Array Value} (h : Has w B A) : Has w.drew B A := h
theorem Has.next {u w : World} {B : Nat} {A : Array Value} {o : Obj} (h : Has u B A) (hb : Below (u.alloc o).heap.size (u.alloc o) w) : Has w B A := (h.alloc o).call hb
theorem Has.made {u w : World} {A : Array Value} {t : TypeId} (hb : Below (u.alloc (.cells A t)).heap.size (u.alloc (.cells A t)) w) : Has w u.heap.size A := (Has.new u A t).call hb
end Go.Proofs.Ytiidepafifodjaa
