import Derived.Test.YtcpjnddkibbddaaGreatSpQ
import Derived.Deep.QuietTactic
import Derived.BigQuiet
import Derived.Deep.DeepCutAuto
/-! The specification's check of a unit: refs. -/
namespace Go.Proofs.YtcpjnddkibbddaaGreat
open Go.RowKit
attribute [local go_sem] run_store_float
attribute [local go_sem ↓] Go.wp_at_zero Go.wp_at_succ

theorem seenV_succ {d : FD} {x k : Nat} {v : Int} : SeenV d x (k + 1) v ↔ SeenV d x k v ∨ (d.nd x).r k = v := by
  unfold SeenV
  constructor
  · rintro (h | h | ⟨b, hb, h⟩)
    · exact .inl (.inl h)
    · exact .inl (.inr (.inl h))
    · by_cases e : b = k
      · subst e; exact .inr h
      · exact .inl (.inr (.inr ⟨b, by omega, h⟩))
  · rintro ((h | h | ⟨b, hb, h⟩) | h)
    · exact .inl h
    · exact .inr (.inl h)
    · exact .inr (.inr ⟨b, by omega, h⟩)
    · exact .inr (.inr ⟨k, by omega, h⟩)
theorem seenV_next {d : FD} {x : Nat} {v : Int} : SeenV d (x + 1) 0 v ↔ SeenV d x 0 v ∨ (DeclK (d.nd x).k ∧ RefIn (d.nd x) v) := by
  unfold SeenV
  constructor
  · rintro (h | ⟨m, hm, h⟩ | ⟨b, hb, h⟩)
    · exact .inl (.inl h)
    · by_cases e : m = x
      · subst e; exact .inr h
      · exact .inl (.inr (.inl ⟨m, by omega, h⟩))
    · omega
  · rintro ((h | ⟨m, hm, h⟩ | ⟨b, hb, h⟩) | h)
    · exact .inl h
    · exact .inr (.inl ⟨m, by omega, h⟩)
    · omega
    · exact .inr (.inl ⟨x, by omega, h⟩)
theorem seenV_all {d : FD} {x : Nat} {v : Int} : SeenV d x (d.nd x).rn v ↔ SeenV d x 0 v ∨ RefIn (d.nd x) v := by
  unfold SeenV RefIn
  constructor
  · rintro (h | h | h)
    · exact .inl (.inl h)
    · exact .inl (.inr (.inl h))
    · exact .inr h
  · rintro ((h | h | ⟨b, hb, h⟩) | h)
    · exact .inl h
    · exact .inr (.inl h)
    · omega
    · exact .inr (.inr h)
/-- what is behind one node -/
theorem seen_behind {d : FD} {x : Nat} (hs : ShF d.nd x) {v : Int} (h : ¬ ((d.nd x).k = 26 ∨ (d.nd x).k = 27 ∨ (d.nd x).k = 36)) : SeenV d (x + 1) 0 v ↔ SeenV d x (d.nd x).rn v := by
  rw [seenV_next, seenV_all]
  constructor
  · rintro (h | h)
    · exact .inl h
    · exact .inr h.2
  · rintro (h1 | h1)
    · exact .inl h1
    · refine .inr ⟨?_, h1⟩
      obtain ⟨b, hb, _⟩ := h1
      have := hs.refs (by omega)
      unfold DeclK
      omega
theorem seen_plain {d : FD} {x : Nat} {v : Int} (h : (d.nd x).k = 26 ∨ (d.nd x).k = 27 ∨ (d.nd x).k = 36) : SeenV d (x + 1) 0 v ↔ SeenV d x 0 v := by
  rw [seenV_next]
  exact ⟨fun k => k.elim id fun k => by have := k.1; unfold DeclK at this; omega, .inl⟩

/-- the row of what has been declared -/
def SeenRow (w : World) (B : Nat) (d : FD) (x k : Nat) : Prop := w.rowIs B 4 d.vn (fun i => .bool (dB (SeenV d x k i)))
theorem SeenRow.below {w w' : World} {B : Nat} {d : FD} {x k : Nat} (h : SeenRow w B d x k) (hb : Below w.heap.size w w') : SeenRow w' B d x k := World.rowIs.of_block h (hb.block _ h.lt)
theorem SeenRow.congr {w : World} {B : Nat} {d : FD} {x k x' k' : Nat} (h : SeenRow w B d x k) (e : ∀ v : Nat, SeenV d x k v ↔ SeenV d x' k' v) : SeenRow w B d x' k' := World.rowIs.congr h fun i _ => by
  by_cases c : SeenV d x k i
  · rw [dB_true c, dB_true ((e i).1 c)]
  · rw [dB_false c, dB_false fun c' => c ((e i).2 c')]
theorem SeenRow.set {w : World} {B : Nat} {d : FD} {x k : Nat} (h : SeenRow w B d x k) {y : Nat} (hy : (d.nd x).r k = y) : SeenRow (w.setCell ⟨B, y, none⟩ (.bool true)) B d x (k + 1) := (World.rowIs.set h y (.bool true)).congr fun i _ => by
  by_cases e : i = y
  · rw [if_pos e, dB_true (seenV_succ.2 (.inr (by rw [hy, e])))]
  · rw [if_neg e]
    by_cases c : SeenV d x k i
    · rw [dB_true c, dB_true (seenV_succ.2 (.inl c))]
    · rw [dB_false c, dB_false fun c' => (seenV_succ.1 c').elim c fun h => e (by omega)]

/-- what a node's refs and the row become -/
def RefsSays (u : UD) (f x B : Nat) (w w' : World) (b : Bool) : Prop := b = dB (RefsOk u f x) ∧ (b = true → SeenRow w' B (u.fn f) (x + 1) 0) ∧ Below B w w'

def RefsPost (u : UD) (f x B : Nat) (w : World) (e : Ending) (w' : World) : Prop := ∃ b, e = .returned (.bool b) ∧ RefsSays u f x B w w' b
theorem RefsPost.of {u : UD} {f x B : Nat} {w w' : World} {b : Bool} (h : RefsSays u f x B w w' b) : RefsPost u f x B w (.returned (.bool b)) w' := ⟨b, rfl, h⟩

/-- behind the boxes of a unit, a fn and its tree -/
abbrev bx3W (w : World) (u : UD) (a : Option Addr) (cap : Nat) (d : FD) (x : FA) (P D : Nat) : World := ((w.alloc (.cells #[.slice a u.n cap] 30)).alloc (.cells (fnC d x) 45)).alloc (.cells (treeC P D d.nn) 79)

theorem Has.far {w : World} {B : Nat} {A : Array Value} (h : Has w B A) {p : Addr} (hp : p.block ≠ B) (v : Value) : Has (w.setCell p v) B A :=
  ⟨by have := h.1; simpa using this, fun o => (World.cell?_setCell_far w p ⟨B, o, none⟩ v hp).trans (h.2 o)⟩
theorem below_dN {B : Nat} {a w : World} (h : Below B a w) (n : Nat) : Below B a (w.drewN n) := ⟨h.os, h.tape, h.output, h.size, h.block⟩
theorem bx3_below {w wr : World} {u : UD} {a : Option Addr} {cap : Nat} {d : FD} {x : FA} {P D : Nat} (h : Below (bx3W w u a cap d x P D).heap.size (bx3W w u a cap d x P D) wr) : Below w.heap.size w wr := below_call (below_alloc3 w _ _ _) h
theorem bx3_u {w wr : World} {u : UD} {a : Option Addr} {cap : Nat} {d : FD} {x : FA} {P D : Nat} (h : Below (bx3W w u a cap d x P D).heap.size (bx3W w u a cap d x P D) wr) : Has wr w.heap.size #[.slice a u.n cap] := (((Has.new w _ _).alloc _).alloc _).call h
theorem bx3_fn {w wr : World} {u : UD} {a : Option Addr} {cap : Nat} {d : FD} {x : FA} {P D : Nat} (h : Below (bx3W w u a cap d x P D).heap.size (bx3W w u a cap d x P D) wr) : Has wr (w.heap.size + 1) (fnC d x) := by
  have := ((Has.new (w.alloc (.cells #[.slice a u.n cap] 30)) (fnC d x) 45).alloc (.cells (treeC P D d.nn) 79)).call h
  simpa using this
theorem bx3_tree {w wr : World} {u : UD} {a : Option Addr} {cap : Nat} {d : FD} {x : FA} {P D : Nat} (h : Below (bx3W w u a cap d x P D).heap.size (bx3W w u a cap d x P D) wr) : Has wr (w.heap.size + 1 + 1) (treeC P D d.nn) := by
  have := (Has.new ((w.alloc (.cells #[.slice a u.n cap] 30)).alloc (.cells (fnC d x) 45)) (treeC P D d.nn) 79).call h
  simpa using this

theorem refs_ok27 {u : UD} {f x : Nat} (h : ((u.fn f).nd x).k = 27) : RefsOk u f x ↔ InR (((u.fn f).nd x).r 0) (u.fn f).un := by
  unfold RefsOk DeclK
  exact ⟨fun k => k.1 h, fun k => ⟨fun _ => k, fun e => by omega, fun e => by omega, fun e => by omega⟩⟩
theorem refs_ok36 {u : UD} {f x : Nat} (h : ((u.fn f).nd x).k = 36) : RefsOk u f x ↔ InR (((u.fn f).nd x).r 0) u.n := by
  unfold RefsOk DeclK
  exact ⟨fun k => k.2.1 h, fun k => ⟨fun e => by omega, fun _ => k, fun e => by omega, fun e => by omega⟩⟩
theorem refs_ok26 {u : UD} {f x : Nat} (h : ((u.fn f).nd x).k = 26) : RefsOk u f x ↔ InR (((u.fn f).nd x).r 0) (u.fn f).vn ∧ Scoped (u.fn f) x (((u.fn f).nd x).r 0) := by
  unfold RefsOk DeclK
  exact ⟨fun k => k.2.2.1 h, fun k => ⟨fun e => by omega, fun e => by omega, fun _ => k, fun e => by omega⟩⟩
theorem refs_okD {u : UD} {f x : Nat} (hs : ShF (u.fn f).nd x) (h : ¬ (((u.fn f).nd x).k = 26 ∨ ((u.fn f).nd x).k = 27 ∨ ((u.fn f).nd x).k = 36)) : RefsOk u f x ↔ ∀ j, j < ((u.fn f).nd x).rn → InR (((u.fn f).nd x).r j) (u.fn f).vn ∧ ¬ SeenV (u.fn f) x j (((u.fn f).nd x).r j) := by
  unfold RefsOk
  refine ⟨fun k j hj => k.2.2.2 ?_ j hj, fun k => ⟨fun e => by omega, fun e => by omega, fun e => by omega, fun _ => k⟩⟩
  have := hs.refs (by omega)
  unfold DeclK
  omega

set_option maxRecDepth 100000 in
set_option maxHeartbeats 4000000 in
theorem l3refs27 (L : Nat) (u : UD) (a : Option Addr) (cap : Nat) (f t : Nat) (x : FA) (P D B : Nat) (w : World) (ht : t < (u.fn f).nn) (hT : TS L w (u.fn f) x P) (hd : FdOk (u.fn f)) (hR : SeenRow w B (u.fn f) t 0) (hk : ((u.fn f).nd t).k = 27) :
    Calls Tryz.prog 49 #[unV u a cap, fnV (u.fn f) x, treeV P D (u.fn f).nn, .int .i64 t, .slice (some ⟨B, 0, none⟩) (u.fn f).vn (u.fn f).vn] w fun e w' => RefsPost u f t B w e w' := by
  have HT : Hid (TS L w (u.fn f) x P) := hT
  have HD : Hid (FdOk (u.fn f)) := hd
  have HR : Hid (SeenRow w B (u.fn f) t 0) := hR
  have HK : Hid (((u.fn f).nd t).k = 27) := hk
  have q27 : (((u.fn f).nd t).k == 27) = true := by rw [hk]; rfl
  have hrn := (HD.out.shf t ht).one (by omega)
  have hun := HD.out.sm.un
  clear hT hd hR hk
  have hfin : ∀ w' b, Below w.heap.size w w' → b = dB (RefsOk u f t) → RefsSays u f t B w w' b := fun w' b hb he =>
    ⟨he, fun _ => (HR.out.below hb).congr fun v => (seen_plain (.inr (.inl HK.out))).symm, hb.mono (Nat.le_of_lt HR.out.lt)⟩
  have HF : Hid (∀ w' b, Below w.heap.size w w' → b = dB (RefsOk u f t) → RefsSays u f t B w w' b) := hfin
  clear hfin
  go_enter Tryz.func49, Tryz.ntmps49
  go_upto_region 1 with fail
  obtain ⟨w3, HB, hw3⟩ : ∃ w3, Hid (Below (bx3W w u a cap (u.fn f) x P D).heap.size (bx3W w u a cap (u.fn f) x P D) w3) ∧ bx3W w u a cap (u.fn f) x P D = w3 := ⟨_, Below.refl _ _, rfl⟩
  simp only [bx3W, fnC, treeC] at hw3
  rw [hw3]
  clear hw3
  have HT3 : Hid (TS L w3 (u.fn f) x P) := HT.out.below (bx3_below HB.out)
  have f5 : w3.cell? ⟨w.heap.size + 1, 5, none⟩ = some (.slice x.ua (u.fn f).un x.uc) := (bx3_fn HB.out).cell 5 rfl
  have f6 : w3.cell? ⟨w.heap.size + 1, 6, none⟩ = some (.slice x.na (u.fn f).nn x.nc) := (bx3_fn HB.out).cell 6 rfl
  have hsz : w.heap.size + 1 + 1 < w3.heap.size := (bx3_tree HB.out).lt
  have hsz2 : w.heap.size + 1 < w3.heap.size := by omega
  have hsz3 : w.heap.size < w3.heap.size := by omega
  obtain ⟨b, off, e0, _, hb, d0, d1, d2, d3, d4, d5, d6, d7⟩ := cells8 HT3.out.fn.2.2.1 ht
  obtain ⟨b2, o2, e2, _, hb2, r0⟩ := cells1 (HT3.out.fn.2.2.2 t ht).1 (show 0 < ((u.fn f).nd t).rn by omega)
  rw [e2, hrn] at d6
  rw [e0] at f6
  rw [Nat.add_zero] at r0
  have HN : Hid (((u.fn f).nd t).rn = 1) := hrn
  clear hrn e0 e2
  have HB3 : Hid (Below w.heap.size w w3) := bx3_below HB.out
  by_cases c1 : 0 ≤ ((u.fn f).nd t).r 0
  · by_cases c2 : ((u.fn f).nd t).r 0 < (u.fn f).un
    · have he : dB (RefsOk u f t) = true := dB_true ((refs_ok27 HK.out).2 ⟨c1, c2⟩)
      have HE : Hid (dB (RefsOk u f t) = true) := he
      clear he
      go_wp2_with fail
      go_quiet ((fail))
      go_wp2_with fail
      go_ret
      exact RefsPost.of (HF.out _ _ (below_dN (below_a' HB3.out _) _) HE.out.symm)
    · have hd2 : decide (((u.fn f).nd t).r 0 < ((u.fn f).un : Int)) = false := by simpa using c2
      have he : dB (RefsOk u f t) = false := dB_false fun h => c2 ((refs_ok27 HK.out).1 h).2
      have HE : Hid (dB (RefsOk u f t) = false) := he
      clear he
      go_wp2_with fail
      go_quiet ((fail))
      go_wp2_with fail
      go_ret
      exact RefsPost.of (HF.out _ _ (below_dN (below_a' HB3.out _) _) HE.out.symm)
  · have he : dB (RefsOk u f t) = false := dB_false fun h => c1 ((refs_ok27 HK.out).1 h).1
    have HE : Hid (dB (RefsOk u f t) = false) := he
    clear he
    have hd : decide (0 ≤ ((u.fn f).nd t).r 0) = false := by simpa using c1
    go_wp2_with fail
    go_quiet ((fail))
    go_wp2_with fail
    go_ret
    exact RefsPost.of (HF.out _ _ (below_dN (below_a' HB3.out _) _) HE.out.symm)
end Go.Proofs.YtcpjnddkibbddaaGreat

/-! The specification's check of a unit: refs. -/
namespace Go.Proofs.YtcpjnddkibbddaaGreat
open Go.RowKit
attribute [local go_sem] run_store_float
attribute [local go_sem ↓] Go.wp_at_zero Go.wp_at_succ

/-- a node's cells, its refs given by themselves -/
abbrev nodeX (d : ND) (ra : Option Addr) (rn : Nat) (x : NA) : Array Value := #[.int .i64 d.k, .int .i64 d.l, .int .i64 d.o, .int .i64 d.n, .float .f64 d.f, .string d.s, .slice ra rn x.rc, .slice x.ka d.kn x.kc]

set_option maxRecDepth 100000 in
set_option maxHeartbeats 4000000 in
theorem l3refs36 (L : Nat) (u : UD) (a : Option Addr) (cap : Nat) (f t : Nat) (x : FA) (P D B : Nat) (w : World) (ht : t < (u.fn f).nn) (hT : TS L w (u.fn f) x P) (hd : FdOk (u.fn f)) (_hun : u.n ≤ 300) (hR : SeenRow w B (u.fn f) t 0) (hk : ((u.fn f).nd t).k = 36) :
    Calls Tryz.prog 49 #[unV u a cap, fnV (u.fn f) x, treeV P D (u.fn f).nn, .int .i64 t, .slice (some ⟨B, 0, none⟩) (u.fn f).vn (u.fn f).vn] w fun e w' => RefsPost u f t B w e w' := by
  have HT : Hid (TS L w (u.fn f) x P) := hT
  have HD : Hid (FdOk (u.fn f)) := hd
  have HR : Hid (SeenRow w B (u.fn f) t 0) := hR
  have HK : Hid (((u.fn f).nd t).k = 36) := hk
  have q27 : (((u.fn f).nd t).k == 27) = false := by rw [hk]; rfl
  have q36 : (((u.fn f).nd t).k == 36) = true := by rw [hk]; rfl
  have hrn := (HD.out.shf t ht).one (by omega)
  clear hT hd hR hk
  have hfin : ∀ w' b, Below w.heap.size w w' → b = dB (RefsOk u f t) → RefsSays u f t B w w' b := fun w' b hb he =>
    ⟨he, fun _ => (HR.out.below hb).congr fun v => (seen_plain (.inr (.inr HK.out))).symm, hb.mono (Nat.le_of_lt HR.out.lt)⟩
  have HF : Hid (∀ w' b, Below w.heap.size w w' → b = dB (RefsOk u f t) → RefsSays u f t B w w' b) := hfin
  clear hfin
  go_enter Tryz.func49, Tryz.ntmps49
  go_upto_region 1 with fail
  obtain ⟨w3, HB, hw3⟩ : ∃ w3, Hid (Below (bx3W w u a cap (u.fn f) x P D).heap.size (bx3W w u a cap (u.fn f) x P D) w3) ∧ bx3W w u a cap (u.fn f) x P D = w3 := ⟨_, Below.refl _ _, rfl⟩
  simp only [bx3W, fnC, treeC] at hw3
  rw [hw3]
  clear hw3
  have HT3 : Hid (TS L w3 (u.fn f) x P) := HT.out.below (bx3_below HB.out)
  have f5 : w3.cell? ⟨w.heap.size, 0, none⟩ = some (.slice a u.n cap) := (bx3_u HB.out).cell 0 rfl
  have f6 : w3.cell? ⟨w.heap.size + 1, 6, none⟩ = some (.slice x.na (u.fn f).nn x.nc) := (bx3_fn HB.out).cell 6 rfl
  have hsz : w.heap.size + 1 + 1 < w3.heap.size := (bx3_tree HB.out).lt
  have hsz2 : w.heap.size + 1 < w3.heap.size := by omega
  have hsz3 : w.heap.size < w3.heap.size := by omega
  obtain ⟨b, off, e0, _, hb, d0, d1, d2, d3, d4, d5, d6, d7⟩ := cells8 HT3.out.fn.2.2.1 ht
  obtain ⟨b2, o2, e2, _, hb2, r0⟩ := cells1 (HT3.out.fn.2.2.2 t ht).1 (show 0 < ((u.fn f).nd t).rn by omega)
  rw [e2, hrn] at d6
  rw [e0] at f6
  rw [Nat.add_zero] at r0
  have HN : Hid (((u.fn f).nd t).rn = 1) := hrn
  clear hrn e0 e2
  have HB3 : Hid (Below w.heap.size w w3) := bx3_below HB.out
  by_cases c1 : 0 ≤ ((u.fn f).nd t).r 0
  · by_cases c2 : ((u.fn f).nd t).r 0 < u.n
    · have he : dB (RefsOk u f t) = true := dB_true ((refs_ok36 HK.out).2 ⟨c1, c2⟩)
      have HE : Hid (dB (RefsOk u f t) = true) := he
      clear he
      go_wp2_with fail
      go_quiet ((fail))
      go_wp2_with fail
      go_ret
      exact RefsPost.of (HF.out _ _ (below_dN (below_a' HB3.out _) _) HE.out.symm)
    · have hd2 : decide (((u.fn f).nd t).r 0 < (u.n : Int)) = false := by simpa using c2
      have he : dB (RefsOk u f t) = false := dB_false fun h => c2 ((refs_ok36 HK.out).1 h).2
      have HE : Hid (dB (RefsOk u f t) = false) := he
      clear he
      go_wp2_with fail
      go_quiet ((fail))
      go_wp2_with fail
      go_ret
      exact RefsPost.of (HF.out _ _ (below_dN (below_a' HB3.out _) _) HE.out.symm)
  · have he : dB (RefsOk u f t) = false := dB_false fun h => c1 ((refs_ok36 HK.out).1 h).1
    have HE : Hid (dB (RefsOk u f t) = false) := he
    clear he
    have hd : decide (0 ≤ ((u.fn f).nd t).r 0) = false := by simpa using c1
    go_wp2_with fail
    go_quiet ((fail))
    go_wp2_with fail
    go_ret
    exact RefsPost.of (HF.out _ _ (below_dN (below_a' HB3.out _) _) HE.out.symm)
set_option maxRecDepth 100000 in
set_option maxHeartbeats 4000000 in
theorem l3refs26 (L : Nat) (u : UD) (a : Option Addr) (cap : Nat) (f t : Nat) (x : FA) (P D B : Nat) (w : World) (ht : t < (u.fn f).nn) (hT : TS L w (u.fn f) x P) (hd : FdOk (u.fn f)) (hR : SeenRow w B (u.fn f) t 0) (hk : ((u.fn f).nd t).k = 26) :
    Calls Tryz.prog 49 #[unV u a cap, fnV (u.fn f) x, treeV P D (u.fn f).nn, .int .i64 t, .slice (some ⟨B, 0, none⟩) (u.fn f).vn (u.fn f).vn] w fun e w' => RefsPost u f t B w e w' := by
  have HT : Hid (TS L w (u.fn f) x P) := hT
  have HD : Hid (FdOk (u.fn f)) := hd
  have HR : Hid (SeenRow w B (u.fn f) t 0) := hR
  have HK : Hid (((u.fn f).nd t).k = 26) := hk
  have q27 : (((u.fn f).nd t).k == 27) = false := by rw [hk]; rfl
  have q36 : (((u.fn f).nd t).k == 36) = false := by rw [hk]; rfl
  have q26 : (((u.fn f).nd t).k == 26) = true := by rw [hk]; rfl
  have hrn := (HD.out.shf t ht).one (by omega)
  have hvn := HD.out.sm.vn
  clear hT hd hR hk
  have hfin : ∀ w' b, Below w.heap.size w w' → b = dB (RefsOk u f t) → RefsSays u f t B w w' b := fun w' b hb he =>
    ⟨he, fun _ => (HR.out.below hb).congr fun v => (seen_plain (.inl HK.out)).symm, hb.mono (Nat.le_of_lt HR.out.lt)⟩
  have HF : Hid (∀ w' b, Below w.heap.size w w' → b = dB (RefsOk u f t) → RefsSays u f t B w w' b) := hfin
  clear hfin
  go_enter Tryz.func49, Tryz.ntmps49
  go_upto_region 1 with fail
  obtain ⟨w3, HB, hw3⟩ : ∃ w3, Hid (Below (bx3W w u a cap (u.fn f) x P D).heap.size (bx3W w u a cap (u.fn f) x P D) w3) ∧ bx3W w u a cap (u.fn f) x P D = w3 := ⟨_, Below.refl _ _, rfl⟩
  simp only [bx3W, fnC, treeC] at hw3
  rw [hw3]
  clear hw3
  have HT3 : Hid (TS L w3 (u.fn f) x P) := HT.out.below (bx3_below HB.out)
  have f4 : w3.cell? ⟨w.heap.size + 1, 4, none⟩ = some (.slice x.va (u.fn f).vn x.vc) := (bx3_fn HB.out).cell 4 rfl
  have g0 : w3.cell? ⟨w.heap.size + 1, 0, none⟩ = some (.string (u.fn f).name) := (bx3_fn HB.out).cell 0 rfl
  have g1 : w3.cell? ⟨w.heap.size + 1, 1, none⟩ = some (.int .i64 (u.fn f).line) := (bx3_fn HB.out).cell 1 rfl
  have g2 : w3.cell? ⟨w.heap.size + 1, 2, none⟩ = some (.int .i64 (u.fn f).params) := (bx3_fn HB.out).cell 2 rfl
  have g3 : w3.cell? ⟨w.heap.size + 1, 3, none⟩ = some (.bool (u.fn f).rest) := (bx3_fn HB.out).cell 3 rfl
  have g5 : w3.cell? ⟨w.heap.size + 1, 5, none⟩ = some (.slice x.ua (u.fn f).un x.uc) := (bx3_fn HB.out).cell 5 rfl
  have k0 : w3.cell? ⟨w.heap.size + 1 + 1, 0, none⟩ = some (.slice (some ⟨P, 0, none⟩) (u.fn f).nn (u.fn f).nn) := (bx3_tree HB.out).cell 0 rfl
  have k1 : w3.cell? ⟨w.heap.size + 1 + 1, 1, none⟩ = some (.slice (some ⟨D, 0, none⟩) (u.fn f).nn (u.fn f).nn) := (bx3_tree HB.out).cell 1 rfl
  have f6 : w3.cell? ⟨w.heap.size + 1, 6, none⟩ = some (.slice x.na (u.fn f).nn x.nc) := (bx3_fn HB.out).cell 6 rfl
  have hsz : w.heap.size + 1 + 1 < w3.heap.size := (bx3_tree HB.out).lt
  have hsz2 : w.heap.size + 1 < w3.heap.size := by omega
  have hsz3 : w.heap.size < w3.heap.size := by omega
  obtain ⟨b, off, e0, _, hb, d0, d1, d2, d3, d4, d5, d6, d7⟩ := cells8 HT3.out.fn.2.2.1 ht
  obtain ⟨b2, o2, e2, _, hb2, r0⟩ := cells1 (HT3.out.fn.2.2.2 t ht).1 (show 0 < ((u.fn f).nd t).rn by omega)
  rw [e2, hrn] at d6
  rw [Nat.add_zero] at r0
  have HN : Hid (((u.fn f).nd t).rn = 1) := hrn
  clear hrn e2
  have HB3 : Hid (Below w.heap.size w w3) := bx3_below HB.out
  rw [e0] at f6
  clear e0
  have R0 : Hid (w3.cell? ⟨b2, o2, none⟩ = some (.int .i64 (((u.fn f).nd t).r 0))) := r0
  go_wp2_with fail
  have HH0 : Hid (Has (w3.alloc (.cells (nodeX ((u.fn f).nd t) (some ⟨b2, o2, none⟩) 1 (x.nas t)) 48)) w3.heap.size (nodeX ((u.fn f).nd t) (some ⟨b2, o2, none⟩) 1 (x.nas t))) := Has.new _ _ _
  clear f4 g0 g1 g2 g3 g5 k0 k1 f6 d0 d1 d2 d3 d4 d5 d6 d7 r0
  go_loopw [58] (fun i wr => i = .int .i64 0 ∧ Hid (Below w3.heap.size w3 wr) ∧ Hid (Has wr w3.heap.size (nodeX ((u.fn f).nd t) (some ⟨b2, o2, none⟩) 1 (x.nas t)))) (fun _ _ => 0)
  case atStart => exact ⟨rfl, below_alloc _ _, HH0⟩
  case round =>
    obtain ⟨rfl, HW, HH⟩ := hrel
    have HB4 : Hid (Below (bx3W w u a cap (u.fn f) x P D).heap.size (bx3W w u a cap (u.fn f) x P D) wr) := below_call HB.out HW.out
    have HT4 : Hid (TS L wr (u.fn f) x P) := HT.out.below (bx3_below HB4.out)
    have n0 : wr.cell? ⟨w3.heap.size, 0, none⟩ = some (.int .i64 ((u.fn f).nd t).k) := HH.out.cell 0 rfl
    have r0 : wr.cell? ⟨b2, o2, none⟩ = some (.int .i64 (((u.fn f).nd t).r 0)) := cell_later HW.out R0.out
    have f4 : wr.cell? ⟨w.heap.size + 1, 4, none⟩ = some (.slice x.va (u.fn f).vn x.vc) := (bx3_fn HB4.out).cell 4 rfl
    have g0 : wr.cell? ⟨w.heap.size + 1, 0, none⟩ = some (.string (u.fn f).name) := (bx3_fn HB4.out).cell 0 rfl
    have g1 : wr.cell? ⟨w.heap.size + 1, 1, none⟩ = some (.int .i64 (u.fn f).line) := (bx3_fn HB4.out).cell 1 rfl
    have g2 : wr.cell? ⟨w.heap.size + 1, 2, none⟩ = some (.int .i64 (u.fn f).params) := (bx3_fn HB4.out).cell 2 rfl
    have g3 : wr.cell? ⟨w.heap.size + 1, 3, none⟩ = some (.bool (u.fn f).rest) := (bx3_fn HB4.out).cell 3 rfl
    have g5 : wr.cell? ⟨w.heap.size + 1, 5, none⟩ = some (.slice x.ua (u.fn f).un x.uc) := (bx3_fn HB4.out).cell 5 rfl
    have f6 : wr.cell? ⟨w.heap.size + 1, 6, none⟩ = some (.slice x.na (u.fn f).nn x.nc) := (bx3_fn HB4.out).cell 6 rfl
    have k0 : wr.cell? ⟨w.heap.size + 1 + 1, 0, none⟩ = some (.slice (some ⟨P, 0, none⟩) (u.fn f).nn (u.fn f).nn) := (bx3_tree HB4.out).cell 0 rfl
    have k1 : wr.cell? ⟨w.heap.size + 1 + 1, 1, none⟩ = some (.slice (some ⟨D, 0, none⟩) (u.fn f).nn (u.fn f).nn) := (bx3_tree HB4.out).cell 1 rfl
    have HB5 : Hid (Below w.heap.size w wr) := bx3_below HB4.out
    by_cases c1 : ((u.fn f).nd t).r 0 < 0
    · have he : dB (RefsOk u f t) = false := dB_false fun h => by have := ((refs_ok26 HK.out).1 h).1.1; omega
      have HE : Hid (dB (RefsOk u f t) = false) := he
      clear he
      go_wp2_with fail
      go_ret
      exact RefsPost.of (HF.out _ _ HB5.out HE.out.symm)
    by_cases c2 : ((u.fn f).vn : Int) ≤ ((u.fn f).nd t).r 0
    · have he : dB (RefsOk u f t) = false := dB_false fun h => by have := ((refs_ok26 HK.out).1 h).1.2; omega
      have HE : Hid (dB (RefsOk u f t) = false) := he
      clear he
      go_wp2_with fail
      go_ret
      exact RefsPost.of (HF.out _ _ HB5.out HE.out.symm)
    have HE : Hid (dB (RefsOk u f t) = dB (Scoped (u.fn f) t (((u.fn f).nd t).r 0))) := by
      show dB (RefsOk u f t) = dB (Scoped (u.fn f) t (((u.fn f).nd t).r 0))
      have hin : InR (((u.fn f).nd t).r 0) (u.fn f).vn := ⟨by omega, by omega⟩
      by_cases h : Scoped (u.fn f) t (((u.fn f).nd t).r 0)
      · rw [dB_true h, dB_true ((refs_ok26 HK.out).2 ⟨hin, h⟩)]
      · rw [dB_false h, dB_false fun k => h ((refs_ok26 HK.out).1 k).2]
    go_wp2_with (go_at_call 83; refine (l3visible_calls L (u.fn f) x P D t _ _ ht HT4.out HD.out).mono ?_; rintro e w9 ⟨rfl, hb9⟩)
    go_ret
    exact RefsPost.of (HF.out _ _ (below_call HB5.out hb9) HE.out.symm)
end Go.Proofs.YtcpjnddkibbddaaGreat

/-! The specification's check of a unit: refs that declare. -/
namespace Go.Proofs.YtcpjnddkibbddaaGreat
open Go.RowKit
attribute [local go_sem] run_store_float
attribute [local go_sem ↓] Go.wp_at_zero Go.wp_at_succ

set_option maxRecDepth 100000 in
set_option maxHeartbeats 4000000 in
theorem l3refsD (L : Nat) (u : UD) (a : Option Addr) (cap : Nat) (f t : Nat) (x : FA) (P D B : Nat) (w0 w : World) (ht : t < (u.fn f).nn) (hT : TS L w0 (u.fn f) x P) (h0 : w0.heap.size ≤ B) (hw : Below w0.heap.size w0 w) (hd : FdOk (u.fn f)) (hR : SeenRow w B (u.fn f) t 0) (hk : ¬ (((u.fn f).nd t).k = 26 ∨ ((u.fn f).nd t).k = 27 ∨ ((u.fn f).nd t).k = 36)) :
    Calls Tryz.prog 49 #[unV u a cap, fnV (u.fn f) x, treeV P D (u.fn f).nn, .int .i64 t, .slice (some ⟨B, 0, none⟩) (u.fn f).vn (u.fn f).vn] w fun e w' => RefsPost u f t B w e w' := by
  have HT : Hid (TS L w0 (u.fn f) x P) := hT
  have HW0 : Hid (Below w0.heap.size w0 w) := hw
  have HD : Hid (FdOk (u.fn f)) := hd
  have HR : Hid (SeenRow w B (u.fn f) t 0) := hR
  have HK : Hid (¬ (((u.fn f).nd t).k = 26 ∨ ((u.fn f).nd t).k = 27 ∨ ((u.fn f).nd t).k = 36)) := hk
  have q27 : (((u.fn f).nd t).k == 27) = false := by simp; omega
  have q36 : (((u.fn f).nd t).k == 36) = false := by simp; omega
  have q26 : (((u.fn f).nd t).k == 26) = false := by simp; omega
  have hvn := HD.out.sm.vn
  have hrn := (HD.out.sm.nd t ht).rn
  have hBw := HR.out.lt
  clear hT hd hR hk hw
  go_enter Tryz.func49, Tryz.ntmps49
  go_upto_region 1 with fail
  obtain ⟨w3, HB, hw3⟩ : ∃ w3, Hid (Below (bx3W w u a cap (u.fn f) x P D).heap.size (bx3W w u a cap (u.fn f) x P D) w3) ∧ bx3W w u a cap (u.fn f) x P D = w3 := ⟨_, Below.refl _ _, rfl⟩
  simp only [bx3W, fnC, treeC] at hw3
  rw [hw3]
  clear hw3
  have HB3 : Hid (Below w.heap.size w w3) := bx3_below HB.out
  have HT3 : Hid (TS L w3 (u.fn f) x P) := HT.out.below (HW0.out.trans (HB3.out.mono HW0.out.size))
  have f6 : w3.cell? ⟨w.heap.size + 1, 6, none⟩ = some (.slice x.na (u.fn f).nn x.nc) := (bx3_fn HB.out).cell 6 rfl
  have hsz : w.heap.size + 1 + 1 < w3.heap.size := (bx3_tree HB.out).lt
  have hsz2 : w.heap.size + 1 < w3.heap.size := by omega
  have hsz3 : w.heap.size < w3.heap.size := by omega
  obtain ⟨b, off, e0, _, hb, d0, d1, d2, d3, d4, d5, d6, d7⟩ := cells8 HT3.out.fn.2.2.1 ht
  rw [e0] at f6
  clear e0
  have HH0 : Hid (Has (w3.alloc (.cells (nodeC ((u.fn f).nd t) (x.nas t)) 48)) w3.heap.size (nodeC ((u.fn f).nd t) (x.nas t))) := Has.new _ _ _
  have HF4 : Hid (Has (w3.alloc (.cells (nodeC ((u.fn f).nd t) (x.nas t)) 48)) (w.heap.size + 1) (fnC (u.fn f) x)) := (bx3_fn HB.out).alloc _
  have HS0 : Hid (SeenRow (w3.alloc (.cells (nodeC ((u.fn f).nd t) (x.nas t)) 48)) B (u.fn f) t 0) := (HR.out.below HB3.out).below (below_alloc _ _)
  have HG0 : Hid (Below B w (w3.alloc (.cells (nodeC ((u.fn f).nd t) (x.nas t)) 48))) := (below_a' HB3.out _).mono (by omega)
  go_wp2_with fail
  clear f6 d0 d1 d2 d3 d4 d5 d6 d7
  go_loopw [58] (fun i wr => ∃ (k : Nat), k ≤ ((u.fn f).nd t).rn ∧ i = .int .i64 k ∧ Hid (∀ j, j < k → InR (((u.fn f).nd t).r j) (u.fn f).vn ∧ ¬ SeenV (u.fn f) t j (((u.fn f).nd t).r j)) ∧ Hid (Below B w wr) ∧ Hid (Has wr w3.heap.size (nodeC ((u.fn f).nd t) (x.nas t))) ∧ Hid (Has wr (w.heap.size + 1) (fnC (u.fn f) x)) ∧ Hid (SeenRow wr B (u.fn f) t k)) (fun i _ => ((u.fn f).nd t).rn - (intOf i).toNat)
  case atStart => exact ⟨0, Nat.zero_le _, rfl, fun j hj => by omega, HG0, HH0, HF4, HS0⟩
  case round =>
    clear HH0 HF4 HS0 HG0
    obtain ⟨k, hkk, rfl, HJ, HG, HH, HF, HS⟩ := hrel
    by_cases hkn : k < ((u.fn f).nd t).rn
    · have HTr : Hid (TS L wr (u.fn f) x P) := HT.out.below (HW0.out.trans (HG.out.mono h0))
      obtain ⟨b2, o2, e2, _, hb2, r0⟩ := cells1 (HTr.out.fn.2.2.2 t ht).1 hkn
      rw [e2]
      clear e2
      have n0 : wr.cell? ⟨w3.heap.size, 0, none⟩ = some (.int .i64 ((u.fn f).nd t).k) := HH.out.cell 0 rfl
      have f4 : wr.cell? ⟨w.heap.size + 1, 4, none⟩ = some (.slice x.va (u.fn f).vn x.vc) := HF.out.cell 4 rfl
      by_cases c1 : ((u.fn f).nd t).r k < 0
      · have he : dB (RefsOk u f t) = false := dB_false fun h => by have := (((refs_okD (HD.out.shf t ht) HK.out).1 h) k hkn).1.1; omega
        have HE : Hid (RefsSays u f t B w wr false) := ⟨he.symm, fun h => Bool.noConfusion h, HG.out⟩
        clear he
        go_wp2_with fail
        go_ret
        exact RefsPost.of HE.out
      by_cases c2 : ((u.fn f).vn : Int) ≤ ((u.fn f).nd t).r k
      · have he : dB (RefsOk u f t) = false := dB_false fun h => by have := (((refs_okD (HD.out.shf t ht) HK.out).1 h) k hkn).1.2; omega
        have HE : Hid (RefsSays u f t B w wr false) := ⟨he.symm, fun h => Bool.noConfusion h, HG.out⟩
        clear he
        go_wp2_with fail
        go_ret
        exact RefsPost.of HE.out
      obtain ⟨y, hy⟩ : ∃ y : Nat, ((u.fn f).nd t).r k = y := ⟨(((u.fn f).nd t).r k).toNat, by omega⟩
      have HY : Hid (((u.fn f).nd t).r k = y) := hy
      have hyv : y < (u.fn f).vn := by omega
      rw [hy] at r0 c1 c2
      clear hy
      have s0 := World.rowIs.cell HS.out (i := y) hyv
      have sz := World.rowIs.frozen HS.out
      have hBr := World.rowIs.lt HS.out
      by_cases c3 : SeenV (u.fn f) t k y
      · have he : dB (RefsOk u f t) = false := dB_false fun h => (((refs_okD (HD.out.shf t ht) HK.out).1 h) k hkn).2 (by rw [HY.out]; exact c3)
        have HE : Hid (RefsSays u f t B w wr false) := ⟨he.symm, fun h => Bool.noConfusion h, HG.out⟩
        rw [dB_true c3] at s0
        clear he c3
        go_wp2_with fail
        go_ret
        exact RefsPost.of HE.out
      · have C3 : Hid (¬ SeenV (u.fn f) t k y) := c3
        have HN : Hid (SeenRow (wr.setCell ⟨B, y, none⟩ (.bool true)) B (u.fn f) t (k + 1)) := SeenRow.set HS.out HY.out
        have HG2 : Hid (Below B w (wr.setCell ⟨B, y, none⟩ (.bool true))) := frS HG.out (Nat.le_refl _) _
        have HH2 : Hid (Has (wr.setCell ⟨B, y, none⟩ (.bool true)) w3.heap.size (nodeC ((u.fn f).nd t) (x.nas t))) := HH.out.far (show B ≠ w3.heap.size by omega) _
        have HF2 : Hid (Has (wr.setCell ⟨B, y, none⟩ (.bool true)) (w.heap.size + 1) (fnC (u.fn f) x)) := HF.out.far (show B ≠ w.heap.size + 1 by omega) _
        rw [dB_false c3] at s0
        clear c3
        go_wp2_with fail
        go_roundw
        case rel => exact ⟨k + 1, by omega, by go_num, fun j hj => by
          by_cases e : j = k
          · subst e; rw [HY.out]; exact ⟨⟨by omega, by omega⟩, C3.out⟩
          · exact HJ.out j (by omega), HG2, HH2, HF2, HN⟩
        case measure => simp [intOf]; omega
    · obtain rfl : k = ((u.fn f).nd t).rn := by omega
      have HE : Hid (RefsSays u f t B w wr true) := ⟨(dB_true ((refs_okD (HD.out.shf t ht) HK.out).2 HJ.out)).symm, fun _ => HS.out.congr fun v => (seen_behind (HD.out.shf t ht) HK.out).symm, HG.out⟩
      go_wp2_with fail
      go_ret
      exact RefsPost.of HE.out

theorem l3refs_calls (L : Nat) (u : UD) (a : Option Addr) (cap : Nat) (f t : Nat) (x : FA) (P D B : Nat) (w0 w : World) (ht : t < (u.fn f).nn) (hT : TS L w0 (u.fn f) x P) (h0 : w0.heap.size ≤ B) (hw : Below w0.heap.size w0 w) (hd : FdOk (u.fn f)) (hun : u.n ≤ 300) (hR : SeenRow w B (u.fn f) t 0) :
    Calls Tryz.prog 49 #[unV u a cap, fnV (u.fn f) x, treeV P D (u.fn f).nn, .int .i64 t, .slice (some ⟨B, 0, none⟩) (u.fn f).vn (u.fn f).vn] w fun e w' => RefsPost u f t B w e w' := by
  have hT2 : TS L w (u.fn f) x P := hT.below hw
  by_cases h1 : ((u.fn f).nd t).k = 27
  · exact l3refs27 L u a cap f t x P D B w ht hT2 hd hR h1
  by_cases h2 : ((u.fn f).nd t).k = 36
  · exact l3refs36 L u a cap f t x P D B w ht hT2 hd hun hR h2
  by_cases h3 : ((u.fn f).nd t).k = 26
  · exact l3refs26 L u a cap f t x P D B w ht hT2 hd hR h3
  exact l3refsD L u a cap f t x P D B w0 w ht hT h0 hw hd hR (by omega)
end Go.Proofs.YtcpjnddkibbddaaGreat
