import Derived.Test.YtiidepafifodjaaTabB
import Derived.Test.YtiidepafifodjaaRows
import Derived.Test.YtiidepafifodjaaPlain
import Derived.ProofKit
import Derived.OpenShut
import Derived.ShutString
import Derived.ChangeOld
import Derived.Test.YtiidepafifodjaaSpecOk
import Derived.Test.YtiidepafifodjaaThing
import Derived.Test.YtiidepafifodjaaCases
/-! Tables: the laws' size, copy and comparison of a whole table. -/
namespace Go.Proofs.Ytiidepafifodjaa
open Go.RowKit
attribute [local go_sem] run_store_float

abbrev tOf (a : Option Addr) (n cap : Nat) (t : Int) : Value := .agg #[.slice a n cap, .int .i64 t]

theorem Tab.alloc {w : World} {a : Option Addr} {n : Nat} {q : Nat → PD} (h : Tab w a n q) (o : Obj) : Tab (w.alloc o) a n q := h.below (below_alloc w o)

set_option maxRecDepth 100000 in
set_option maxHeartbeats 2000000 in
theorem szTable_calls (a : Option Addr) (n cap : Nat) (t : Int) (q : Nat → PD) (left : Int) (w : World) (h0 : 0 ≤ left) (h1 : left ≤ 1048576) (hn : n ≤ maxLen) (hq : ∀ i, i < n → (q i).wf) (hT : Tab w a n q) :
    Calls Try.prog 25 #[tOf a n cap t, .int .i64 left] w fun e w' => (∃ v : Int, e = .returned (.int .i64 v) ∧ (v = -1 ∨ (0 ≤ v ∧ v ≤ left ∧ n ≤ left))) ∧ Below w.heap.size w w' := by
  have HT : Hid (Tab w a n q) := hT
  have hQ : Hid (∀ i, i < n → (q i).wf) := hq
  have hN : Hid (n ≤ maxLen) := hn
  clear hT hq hn
  go_enter Try.func25, Try.ntmps25
  go_wp2_with fail
  refine (szPairS_calls a n cap q left _ h0 h1 hN.out hQ.out (HT.out.alloc _)).mono ?_
  rintro e w2 ⟨⟨v, rfl, hv⟩, hb2⟩
  have hB := below_call (below_alloc _ _) hb2
  clear hb2
  rcases hv with rfl | ⟨v0, v1, v2⟩
  · go_wp2_with fail
    go_ret
    exact ⟨⟨_, rfl, .inl rfl⟩, hB⟩
  · go_wp2_with fail
    go_ret
    exact ⟨⟨_, rfl, .inr ⟨v0, v1, v2⟩⟩, hB⟩

set_option maxRecDepth 100000 in
set_option maxHeartbeats 2000000 in
theorem toTable_calls (a : Option Addr) (n cap : Nat) (t : Int) (q : Nat → PD) (w : World) (hn : n ≤ 1048576) (hT : Tab w a n q) :
    Calls Try.prog 28 #[tOf a n cap t] w fun e w' => (∃ B, e = .returned (tOf (some ⟨B, 0, none⟩) n n t) ∧ w.heap.size ≤ B ∧ w'.rowIs B 123 (n * 11) (fl q)) ∧ Below w.heap.size w w' := by
  have HT : Hid (Tab w a n q) := hT
  clear hT
  go_enter Try.func28, Try.ntmps28
  go_wp2_with fail
  refine (toPairS_calls a n cap q _ hn (((HT.out.alloc _).alloc _).alloc _)).mono ?_
  rintro e w2 ⟨⟨B, rfl, hBl, hR⟩, hb2⟩
  have hB := below_call (below_alloc3 _ _ _ _) hb2
  obtain ⟨hc2, hf2⟩ := bcell hb2
  have hz2 := hb2.size
  (try simp at hz2 hBl)
  have ha2 : w.heap.size < w2.heap.size := by omega
  have hb2' : w.heap.size + 1 < w2.heap.size := by omega
  have hc2' : w.heap.size + 1 + 1 < w2.heap.size := by omega
  have HR : Hid (w2.rowIs B 123 (n * 11) (fl q)) := hR
  clear hb2 hR
  go_wp2_with fail
  have p1 : w.heap.size ≤ w.heap.size + 1 := Nat.le_add_right _ _
  have p2 : w.heap.size ≤ w.heap.size + 1 + 1 := Nat.le_add_right _ 2
  exact bodyPost_ret (v := tOf (some ⟨B, 0, none⟩) n n t) (by simp [results, Try.results28, go_sem, hc2]) rfl ⟨⟨B, rfl, by omega, (((HR.out.setOther (a := ⟨w.heap.size + 1 + 1, 0, none⟩) (by simp; omega) _).setOther (a := ⟨w.heap.size + 1 + 1, 1, none⟩) (by simp; omega) _).setOther (a := ⟨w.heap.size + 1, 0, none⟩) (by simp; omega) _).setOther (a := ⟨w.heap.size + 1, 1, none⟩) (by simp; omega) _⟩, st1 (st1 (st1 (st1 hB p2 _) p2 _) p1 _) p1 _⟩

set_option maxRecDepth 100000 in
set_option maxHeartbeats 2000000 in
theorem eqTable_calls (a a' : Option Addr) (n cap cap' : Nat) (t : Int) (q : Nat → PD) (w : World) (hn : n ≤ 1048576) (hq : ∀ i, i < n → (q i).wf) (hT : Tab w a n q) (hT' : Tab w a' n q) :
    Calls Try.prog 31 #[tOf a n cap t, tOf a' n cap' t] w fun e w' => e = .returned (.bool true) ∧ Below w.heap.size w w' := by
  have HT : Hid (Tab w a n q) := hT
  have HT' : Hid (Tab w a' n q) := hT'
  have hQ : Hid (∀ i, i < n → (q i).wf) := hq
  clear hT hT' hq
  go_enter Try.func31, Try.ntmps31
  go_wp2_with fail
  refine (eqPairS_calls a a' n cap cap' q _ hn hQ.out ((HT.out.alloc _).alloc _) ((HT'.out.alloc _).alloc _)).mono ?_
  rintro e w2 ⟨rfl, hb2⟩
  have hB := below_call (below_alloc2 _ _ _) hb2
  obtain ⟨hc2, hf2⟩ := bcell hb2
  clear hb2 hf2
  go_wp2_with fail
  go_ret
  exact ⟨rfl, hB⟩
end Go.Proofs.Ytiidepafifodjaa

/-! A struct of the five fields, opened: what a row hands to its walk. -/
namespace Go.Proofs.Ytiidepafifodjaa
open Go.ChangeShapes Go.WideShapes Go.ChangeAt Go.RowKit
open Go.ChangeMaps (open_string shut_string)

theorem Try.own : ownKnob Try.prog.godebug = none := by kernel_rfl
theorem Try.laidOut : laidOutB Try.prog = true := by kernel_rfl

theorem array5 {α : Type} {cs : Array α} (h : cs.size = 5) : ∃ c0 c1 c2 c3 c4, cs = #[c0, c1, c2, c3, c4] := by
  obtain ⟨l⟩ := cs
  match l, h with
  | [c0, c1, c2, c3, c4], _ => exact ⟨c0, c1, c2, c3, c4, rfl⟩

section
variable {H : Type} {enc : TypeId × Value → H} {P : Program} {w : World} {base : Nat} {spare : Nat → Bool} {held : Bool}

theorem trod_float1 {t : TypeId} {k : FloatKind} {fuel : Nat} {cs : List Value} {x : DataW H × List MemPlace} (ht : P.underlying t = some (.float k))
    (h : DataW.trod enc P w base spare held fuel t cs = some x) : ∃ b, cs = [.float k b] ∧ (Lit.float k b).wf = true := by
  cases fuel with
  | zero => simp [DataW.trod] at h
  | succ n =>
    unfold DataW.trod at h
    rw [ht] at h
    split at h <;> simp_all

theorem open_agg5 {r0 : Reach} {b0 : Nat} {t : TypeId} {f0 f1 f2 f3 f4 : Field} {v : Value} {d : DataW H} {p : List MemPlace} (hs : P.underlying t = some (.struct #[f0, f1, f2, f3, f4])) (o0 : f0.offset = 0 ∧ P.cellsOf f0.type = 1) (o1 : f1.offset = 1 ∧ P.cellsOf f1.type = 1) (o2 : f2.offset = 2 ∧ P.cellsOf f2.type = 1) (o3 : f3.offset = 3 ∧ P.cellsOf f3.type = 1) (o4 : f4.offset = 4 ∧ P.cellsOf f4.type = 1) (hC : P.cellsOf t = 5)
    (hv : Value.okWide P w r0 b0 t v) (h : DataW.Trod enc P w base spare held t v d p) :
    ∃ (c0 c1 c2 c3 c4 : Value) (y0 y1 y2 y3 y4 : DataW H × List MemPlace) (n : Nat), v = .agg #[c0, c1, c2, c3, c4] ∧
      DataW.trod enc P w base spare held n f0.type [c0] = some y0 ∧ DataW.trod enc P w base spare held n f1.type [c1] = some y1 ∧ DataW.trod enc P w base spare held n f2.type [c2] = some y2 ∧ DataW.trod enc P w base spare held n f3.type [c3] = some y3 ∧ DataW.trod enc P w base spare held n f4.type [c4] = some y4 := by
  obtain ⟨cs, rfl, hsz⟩ := okWide_struct hs hv
  obtain ⟨c0, c1, c2, c3, c4, rfl⟩ := array5 (hsz.trans hC)
  obtain ⟨fuel, hf⟩ := h
  obtain ⟨xs, n, _, _, _, hlen, hx⟩ := DataW.trod_struct hs hf
  match xs, hlen with
  | [y0, y1, y2, y3, y4], _ =>
    exact ⟨c0, c1, c2, c3, c4, y0, y1, y2, y3, y4, n, rfl, by simpa [Value.cells, o0] using hx 0 f0 rfl, by simpa [Value.cells, o1] using hx 1 f1 rfl, by simpa [Value.cells, o2] using hx 2 f2 rfl, by simpa [Value.cells, o3] using hx 3 f3 rfl, by simpa [Value.cells, o4] using hx 4 f4 rfl⟩

theorem open_fields {r0 : Reach} {b0 : Nat} {t : TypeId} {f0 f1 f2 f3 f4 : Field} {v : Value} {d : DataW H} {p : List MemPlace} (hs : P.underlying t = some (.struct #[f0, f1, f2, f3, f4])) (o0 : f0.offset = 0 ∧ P.cellsOf f0.type = 1) (o1 : f1.offset = 1 ∧ P.cellsOf f1.type = 1) (o2 : f2.offset = 2 ∧ P.cellsOf f2.type = 1) (o3 : f3.offset = 3 ∧ P.cellsOf f3.type = 1) (o4 : f4.offset = 4 ∧ P.cellsOf f4.type = 1) (hC : P.cellsOf t = 5)
    (u0 : P.underlying f0.type = some (.int .i64)) (u1 : P.underlying f1.type = some (.int .i64)) (u2 : P.underlying f2.type = some (.float .f64)) (u3 : P.underlying f3.type = some .string) (u4 : P.underlying f4.type = some (.int .i64))
    (hv : Value.okWide P w r0 b0 t v) (h : DataW.Trod enc P w base spare held t v d p) :
    ∃ k n f s r, v = vOf k n f s r ∧ (Lit.int .i64 k).wf = true ∧ (Lit.int .i64 n).wf = true ∧ (Lit.float .f64 f).wf = true ∧ s.size ≤ maxLen ∧ (Lit.int .i64 r).wf = true := by
  obtain ⟨c0, c1, c2, c3, c4, y0, y1, y2, y3, y4, m, rfl, g0, g1, g2, g3, g4⟩ := open_agg5 hs o0 o1 o2 o3 o4 hC hv h
  obtain ⟨k, e0, _, wk⟩ := DataW.trod_int u0 g0
  obtain ⟨n, e1, _, wn⟩ := DataW.trod_int u1 g1
  obtain ⟨f, e2, wf⟩ := trod_float1 u2 g2
  obtain ⟨s, e3, _, ws⟩ := DataW.trod_string u3 g3
  obtain ⟨r, e4, _, wr⟩ := DataW.trod_int u4 g4
  simp at e0 e1 e2 e3 e4
  subst e0 e1 e2 e3 e4
  exact ⟨k, n, f, s, r, rfl, wk, wn, wf, ws, wr⟩

theorem cells_int : Try.prog.cellsOf 3 = 1 := by kernel_rfl
theorem cells_int64 : Try.prog.cellsOf 2 = 1 := by kernel_rfl
theorem cells_float : Try.prog.cellsOf 40 = 1 := by kernel_rfl
theorem cells_string : Try.prog.cellsOf 9 = 1 := by kernel_rfl
theorem cells_value : Try.prog.cellsOf 54 = 5 := by kernel_rfl

set_option maxRecDepth 100000 in
theorem open_value {r0 : Reach} {b0 : Nat} {v : Value} {d : DataW H} {p : List MemPlace} (hv : Value.okWide Try.prog w r0 b0 54 v) (h : DataW.Trod enc Try.prog w base spare held 54 v d p) :
    ∃ k n f s r, v = vOf k n f s r ∧ (Lit.int .i64 k).wf = true ∧ (Lit.int .i64 n).wf = true ∧ (Lit.float .f64 f).wf = true ∧ s.size ≤ maxLen ∧ (Lit.int .i64 r).wf = true :=
  open_fields Try.underlying54 ⟨rfl, cells_int⟩ ⟨rfl, cells_int64⟩ ⟨rfl, cells_float⟩ ⟨rfl, cells_string⟩ ⟨rfl, cells_int⟩ cells_value Try.underlying3 Try.underlying2 Try.underlying40 Try.underlying9 Try.underlying3 hv h
end
end Go.Proofs.Ytiidepafifodjaa

/-! FnExactValueOk: the walk. -/
namespace Go.Proofs.Ytiidepafifodjaa
open Go.RowKit

set_option maxHeartbeats 1000000 in
theorem implOk_calls (k n : Int) (f : Nat) (s : ByteArray) (r : Int) (w : World) :
    Calls Try.prog 37 #[vOf k n f s r] w fun e w' => e = .returned (.bool (okB k n f s r)) ∧ Below w.heap.size w w' := by
  cases h : okB k n f s r
  · have e1 : thW k n f s r = .nilIface := by simp [thW, h]
    go_enter Try.func37, Try.ntmps37
    go_wp2_with (go_at_call 60; refine (th_calls _ _ _ _ _ _).mono ?_; rintro e w1 ⟨rfl, hb⟩; obtain ⟨hc, hf⟩ := bcell hb)
    go_ret
    exact ⟨rfl, below_call (below_alloc _ _) hb⟩
  · obtain ⟨t, v, e1⟩ := iface_ne_nil k n f s r h
    go_enter Try.func37, Try.ntmps37
    go_wp2_with (go_at_call 60; refine (th_calls _ _ _ _ _ _).mono ?_; rintro e w1 ⟨rfl, hb⟩; obtain ⟨hc, hf⟩ := bcell hb)
    go_ret
    exact ⟨rfl, below_call (below_alloc _ _) hb⟩

set_option maxHeartbeats 1000000 in
theorem valueOk_walk (k n : Int) (f : Nat) (s : ByteArray) (r : Int) (w : World) (hs : s.size ≤ maxLen) (_ : (Lit.int .i64 k).wf = true) (_ : (Lit.int .i64 n).wf = true) (_ : (Lit.float .f64 f).wf = true) (_ : (Lit.int .i64 r).wf = true) :
    Calls Try.prog 7 #[vOf k n f s r] w fun e w' => e = .returned (.bool true) ∧ Below w.heap.size w w' := by
  have hz : Hid (s.size ≤ maxLen) := hs
  clear hs
  by_cases h : (1048576 : Int) < s.size
  · go_enter Try.func7, Try.ntmps7
    go_wp2_with (go_at_call 26; refine (sz_calls _ _ _ _ _ _ _ (by omega) (by omega) hz.out).mono ?_; rw [if_pos h]; rintro e w1 ⟨rfl, hb⟩; obtain ⟨hc, hf⟩ := bcell hb)
    go_ret
    exact ⟨rfl, below_call (below_alloc _ _) hb⟩
  · go_enter Try.func7, Try.ntmps7
    go_wp2_with (first | (go_at_call 26; refine (sz_calls _ _ _ _ _ _ _ (by omega) (by omega) hz.out).mono ?_; rw [if_neg h]; rintro e w1 ⟨rfl, hb1⟩; obtain ⟨hc1, hf1⟩ := bcell hb1) | (go_at_call 29; refine (to_calls _ _ _ _ _ _).mono ?_; rintro e w2 ⟨rfl, hb2⟩; replace hb1 := below_call hb1 hb2; clear hb2 hc1 hf1; obtain ⟨hc1, hf1⟩ := bcell hb1) | (go_at_call 36; refine (specOk_calls _ _ _ _ _ _).mono ?_; rintro e w2 ⟨rfl, hb2⟩; replace hb1 := below_call hb1 hb2; clear hb2 hc1 hf1; obtain ⟨hc1, hf1⟩ := bcell hb1) | (go_at_call 37; refine (implOk_calls _ _ _ _ _ _).mono ?_; rintro e w2 ⟨rfl, hb2⟩; replace hb1 := below_call hb1 hb2; clear hb2 hc1 hf1; obtain ⟨hc1, hf1⟩ := bcell hb1))
    go_ret
    exact ⟨rfl, below_call (below_alloc _ _) hb1⟩
end Go.Proofs.Ytiidepafifodjaa
