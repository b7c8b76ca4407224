import Derived.Test.YtdialodjllpgaaaGreatDoorCnM
import Derived.Recover
import Derived.Test.YtdialodjllpgaaaGreatDoorBdC
import Derived.Test.YtdialodjllpgaaaGreatDoorSpQ
/-! The program's run: the text is carried out. -/
namespace Go.Proofs.YtdialodjllpgaaaGreatDoor
open Go.RowKit
attribute [local go_sem] run_store_float
attribute [local go_sem ↓] Go.wp_at_zero Go.wp_at_succ

theorem ta_nil_thrown (w : World) : (Instr.typeAssert .nilIface 127 117 true).run Tryz.prog w = .ok (.tuple #[.pointer none, .bool false]) w := by kernel_rfl
theorem ta_nil_gone (w : World) : (Instr.typeAssert .nilIface 127 246 true).run Tryz.prog w = .ok (.tuple #[.pointer none, .bool false]) w := by kernel_rfl
set_option maxRecDepth 100000 in
set_option maxHeartbeats 4000000 in
theorem againNil_calls (u : World) : Calls Tryz.prog 93 #[.nilIface] u fun e w' => e = .returned .nilIface ∧ w' = u := by
  have h1 := ta_nil_thrown
  have h2 := ta_nil_gone
  go_enter Tryz.func93, Tryz.ntmps93
  go_wp2_with fail
  go_ret
  exact ⟨rfl, rfl⟩
set_option maxRecDepth 100000 in
set_option maxHeartbeats 4000000 in
theorem returnedNil_calls (u : World) : Calls Tryz.prog 54 #[.nilIface] u fun e w' => e = .returned (.slice none 0 0) ∧ Below u.heap.size u w' := by
  go_enter Tryz.func54, Tryz.ntmps54
  go_wp2_with fail
  refine (againNil_calls _).mono ?_
  rintro e w1 ⟨rfl, rfl⟩
  go_wp2_with fail
  refine (asNil_calls _ _).mono ?_
  rintro e w1 ⟨rfl, rfl⟩
  go_wp2_with fail
  go_ret
  exact ⟨rfl, below_alloc _ _⟩

theorem rt1_idle (p : Value) (w : World) :
    CallsD Tryz.prog 46 #[p] .returning w fun e u' w' => e = .returned (.tuple #[]) ∧ u' = .returning ∧ w' = w := by
  refine callsD_of_wpS Tryz.func46 rfl fun c₀ cs hu => ?_
  apply wpS_seq
  apply wpS_region
  simp [wpOpsS, go_sem, recoverD, hu, Tryz.ntmps46, Exit.thenS]
  apply wpS_seq
  apply wpS_region
  simp [wpOpsS, go_sem, Exit.thenS, Act.eval, Array.replicate]
  refine wpS_cond (t := false) (by simp [Act.eval]) ?_
  simp only [Bool.false_eq_true, if_false]
  refine wpS_of_wp (wp_skip ?_)
  cases c₀
  simp_all [bodyPostS, results, Tryz.results46]
theorem at1_idle (p q r : Value) (w : World) :
    CallsD Tryz.prog 146 #[p, q, r] .returning w fun e u' w' => e = .returned (.tuple #[]) ∧ u' = .returning ∧ w' = w := by
  refine callsD_of_wpS Tryz.func146 rfl fun c₀ cs hu => ?_
  apply wpS_seq
  apply wpS_region
  simp [wpOpsS, go_sem, recoverD, hu, Tryz.ntmps146, Exit.thenS]
  apply wpS_seq
  apply wpS_region
  simp [wpOpsS, go_sem, Exit.thenS, Act.eval, Array.replicate]
  refine wpS_cond (t := false) (by simp [Act.eval]) ?_
  simp only [Bool.false_eq_true, if_false]
  refine wpS_of_wp (wp_skip ?_)
  cases c₀
  simp_all [bodyPostS, results, Tryz.results146]

abbrev rt2V (a b : Nat) : Value := .func (.func 51) #[] #[ptr a, ptr b]
/-- all that a text of one counted loop stands on -/
structure TX (X : RX) (P : PX) (L : LX) (Z : MX) (a b s : Int) (N : Nat) : Prop where
  t : TabX X
  p : P.ok X
  l : L.ok X P a b s
  z : Z.ok X P L
  c : CB a b s N
  s1 : -20 ≤ s
  s2 : s ≤ 20
  n : N ≤ 100
/-- a run that has just begun -/
structure D0 (d : MD) : Prop where
  h : d.held = []
  r : d.recs = []
  t : d.ti = 0
  s : d.sc = []
theorem loopP_sc (p : DP) (L a s : Int) : ∀ n, (loopP p L a s n).sc = p.sc
  | 0 => rfl
  | n + 1 => loopP_sc p L a s n
theorem D0.sc {d : MD} {L0 L a s : Int} {N : Nat} : (d.p.all L0 L a s N).sc = d.sc := loopP_sc _ L a s N
set_option maxRecDepth 100000 in
set_option maxHeartbeats 8000000 in
theorem rt2_calls (X : RX) (P : PX) (L : LX) (Z : MX) (a b s : Int) (N : Nat) (d : MD) (mb fb : Nat) (u : World) (h : St X d u) (hX : TX X P L Z a b s N) (h0 : D0 d) (hm : Has u mb #[ptr X.M]) (hf : Has u fb #[ptr X.F]) :
    Calls Tryz.prog 51 #[ptr mb, ptr fb] u fun e w' => e = .returned .nilIface ∧ TurnTo X d u (d.p.all Z.line P.line a s N) w' := by
  have HS : Hid (St X d u) := h
  have HX : Hid (TX X P L Z a b s N) := hX
  have H0 : Hid (D0 d) := h0
  have m0 := hm.cell 0 rfl
  have f0 := hf.cell 0 rfl
  have m7 : u.cell? ⟨X.M, 7, none⟩ = some (.slice (some ⟨Z.bo, 0, none⟩) 1 Z.bc) := by rw [← hX.z.bo]; exact h.m.1.cell 7 rfl
  have b0 := hX.z.b0.at h
  have HT : Hid (Calls Tryz.prog 166 #[ptr X.F, ptr Z.k1] u.drew fun e w' => e = .returned .nilIface ∧ TurnTo X d u.drew (d.p.all Z.line P.line a s N) w') := text_calls' X P L Z a b s N d u.drew h.drew hX.t hX.p hX.l hX.z hX.c hX.s1 hX.s2 hX.n (by rw [h0.h]; simp) (by rw [h0.r]; simp) (by rw [h0.t]; omega) (by rw [h0.s]; simp) D0.sc
  clear h hX h0 hm hf
  go_enter Tryz.func51, Tryz.ntmps51
  go_wp2_with fail
  go_region_with (go_at_call 166; refine HT.out.mono ?_; rintro e w1 ⟨rfl, ht1⟩)
  all_goals
    have HF : Hid (TurnTo X d u (d.p.all Z.line P.line a s N) w1) := by
      obtain ⟨z, d1, hs1, e1⟩ := ht1
      exact ⟨z, d1, (Sp.refl HS.out).drew.trans hs1, e1⟩
    clear ht1
    go_wp2_with fail
    go_ret
    exact ⟨rfl, HF.out⟩

theorem mkFunc (fn : Fn) (first cap : Array Value) (w : World) : (Instr.makeFunc fn first cap).run Tryz.prog w = .ok (.func fn first cap) w := rfl
set_option maxRecDepth 100000 in
set_option maxHeartbeats 8000000 in
theorem tattempt_calls (X : RX) (P : PX) (L : LX) (Z : MX) (a b s : Int) (N : Nat) (d : MD) (mb fb : Nat) (u : World) (h : St X d u) (hX : TX X P L Z a b s N) (h0 : D0 d) (hm : Bx X d u mb #[ptr X.M]) (hf : Bx X d u fb #[ptr X.F]) :
    Calls Tryz.prog 86 #[ptr X.T, rt2V mb fb] u fun e w' => e = .returned .nilIface ∧ TurnTo X d u (d.p.all Z.line P.line a s N) w' := by
  have HS : Hid (St X d u) := h
  have HX : Hid (TX X P L Z a b s N) := hX
  have H0 : Hid (D0 d) := h0
  have HM : Hid (Bx X d u mb #[ptr X.M]) := hm
  have HFb : Hid (Bx X d u fb #[ptr X.F]) := hf
  have t8 := h.t.1.cell 8 rfl
  have hTl := h.t.1.1
  clear h hX h0 hm hf
  have hmf := mkFunc
  go_enter_defers Tryz.func86, Tryz.ntmps86
  go_wp2_with fail
  have HS3 : Hid (St X d (((u.alloc (.cells #[ptr X.T] 67)).alloc (.cells #[.nilIface] 127)).alloc (.cells #[.int .i64 (d.held.length : Int)] 3))) := ((HS.out.alloc _).alloc _).alloc _
  refine (rt2_calls X P L Z a b s N d mb fb _ HS3.out HX.out H0.out (((HM.out.1.alloc _).alloc _).alloc _) (((HFb.out.1.alloc _).alloc _).alloc _)).mono ?_
  rintro e w1 ⟨rfl, z, d1, hs1, e1⟩
  have H1 : Hid (Sp X d u d1 w1 ∧ d1.p = (d.p.all Z.line P.line a s N).var z) := ⟨(((Sp.refl HS.out).alloc _).alloc _).alloc _ |>.trans hs1, e1⟩
  have HR : Hid (BxO X d1 w1 (u.heap.size + 1) #[.nilIface]) := by
    have h2 := (BxO.new (HS.out.alloc (.cells #[ptr X.T] 67)) #[.nilIface] 127).alloc (.cells #[.int .i64 (d.held.length : Int)] 3)
    rw [World.size_alloc] at h2
    exact h2.step hs1
  clear hs1 e1 t8 hTl HS3
  have r0 := HR.out.1.1.cell 0 rfl
  have rz := HR.out.1.2
  have HF : Hid (TurnTo X d u (d.p.all Z.line P.line a s N) (w1.setCell ⟨u.heap.size + 1, 0, none⟩ .nilIface)) := ⟨z, d1, Sp.beside HS.out H1.out.1 (Gx.set _ _ _ _) (by omega) HR.out.2, H1.out.2⟩
  clear HR H1
  generalize u.heap.size = E at *
  go_wp2_with fail
  refine leaves_cons (f := 146) (args := #[ptr (E + 1), ptr E, ptr (E + 1 + 1)]) (by simp) (by simp [go_sem]) ?_
  refine (at1_idle _ _ _ _).mono ?_
  rintro e u' w'' ⟨rfl, rfl, rfl⟩
  simp [Leaves, settle, results, Tryz.results86, go_sem, r0]
  exact HF.out

set_option maxRecDepth 100000 in
set_option maxHeartbeats 8000000 in
theorem fattempt_calls (X : RX) (P : PX) (L : LX) (Z : MX) (a b s : Int) (N : Nat) (d : MD) (mb fb : Nat) (u : World) (h : St X d u) (hX : TX X P L Z a b s N) (h0 : D0 d) (hm : Bx X d u mb #[ptr X.M]) (hf : Bx X d u fb #[ptr X.F]) :
    Calls Tryz.prog 50 #[ptr X.F, rt2V mb fb] u fun e w' => e = .returned .nilIface ∧ TurnTo X d u (d.p.all Z.line P.line a s N) w' := by
  have HS : Hid (St X d u) := h
  have HX : Hid (TX X P L Z a b s N) := hX
  have H0 : Hid (D0 d) := h0
  have HM : Hid (Bx X d u mb #[ptr X.M]) := hm
  have HFb : Hid (Bx X d u fb #[ptr X.F]) := hf
  have f12 := h.f.1.cell 12 rfl
  have f0 := h.f.1.cell 0 rfl
  clear h hX h0 hm hf
  go_enter Tryz.func50, Tryz.ntmps50
  go_wp2_with fail
  refine (tattempt_calls X P L Z a b s N d mb fb _ HS.out HX.out H0.out HM.out HFb.out).mono ?_
  rintro e w1 ⟨rfl, z, d1, hs1, e1⟩
  have H1 : Hid (Sp X d u d1 w1 ∧ d1.p = (d.p.all Z.line P.line a s N).var z) := ⟨hs1, e1⟩
  clear hs1 e1 f12 f0
  have f12 := H1.out.1.s.f.1.cell 12 rfl
  have fz := H1.out.1.s.f.2
  have HF : Hid (TurnTo X d u (d.p.all Z.line P.line a s N) (w1.setCell ⟨X.F, 12, none⟩ (.int .i64 d.line))) := ⟨z, _, H1.out.1.trans (Sp.line H1.out.1.s d.line), by
    show d1.p.ln d.line = _
    rw [H1.out.2]; rfl⟩
  go_wp2_with fail
  go_ret
  exact ⟨rfl, HF.out⟩
end Go.Proofs.YtdialodjllpgaaaGreatDoor

/-! The program's run: a frame is opened; the text is run. -/
namespace Go.Proofs.YtdialodjllpgaaaGreatDoor
open Go.RowKit
attribute [local go_sem] run_store_float
attribute [local go_sem ↓] Go.wp_at_zero Go.wp_at_succ

/-- nothing was shown yet -/
def dZ : MD := ⟨[], none, 0, 0, .slice none 0 0, .slice none 0 0, [], none, 0, [], none, 0, 0, .pointer none⟩
abbrev mZ (X : RX) : Array Value := #[X.fns, .slice none 0 0, .slice none 0 0, .int .i64 1000, .int .i64 2, .int .i64 0, wchV, X.bod, .int .i64 0, .slice none 0 0, .slice none 0 0, .string ⟨#[]⟩, .string ⟨#[]⟩, .int .i64 0, .int .i64 0, .int .i64 0, .slice none 0 0, .slice none 0 0, X.tks, .slice none 0 0, .int .i64 0, .int .i64 0, .int .i64 0, .pointer (some ⟨X.T, 0, none⟩), X.en, .int .u64 0, .int .u32 0]
abbrev tZ (X : RX) (fr : Value) : Array Value := #[.int .i64 0, .int .i64 2, .int .i64 0, .int .i64 0, .float .f64 0, .string ⟨#[]⟩, .int .i64 0, fr, .slice none 0 0, .pointer none, X.c1, X.c2, X.c3, .bool false, .pointer none, .int .i64 0, .int .i64 0]
/-- ahead of the text -/
structure Pm (X : RX) (w : World) : Prop where
  m : OwnB w X.M (mZ X)
  t : OwnB w X.T (tZ X (.slice none 0 0))
  k : Gx (fun k => k = X.M ∨ X.W.heap.size ≤ k) X.W w
  lm : X.M < X.W.heap.size
  lt : X.W.heap.size ≤ X.T
/-- the one fn of the unit -/
structure Ux where
  ub : Nat
  uo : Nat
  uc : Nat
  va : Option Addr
  vc : Nat
structure Ux.ok (U : Ux) (X : RX) : Prop where
  f : X.fns = .slice (some ⟨U.ub, U.uo, none⟩) 1 U.uc
  lt : U.ub < X.W.heap.size
  ne : U.ub ≠ X.M
  p : X.W.cell? ⟨U.ub, U.uo + 2, none⟩ = some (.int .i64 0)
  r : X.W.cell? ⟨U.ub, U.uo + 3, none⟩ = some (.bool true)
  v : X.W.cell? ⟨U.ub, U.uo + 4, none⟩ = some (.slice U.va 1 U.vc)
theorem Ux.ok.at {U : Ux} {X : RX} (h : U.ok X) {w : World} (k : Gx (fun k => k = X.M ∨ X.W.heap.size ≤ k) X.W w) (o : Nat) : w.cell? ⟨U.ub, o, none⟩ = X.W.cell? ⟨U.ub, o, none⟩ := World.cell?_of_block (a := ⟨U.ub, o, none⟩) (k.block U.ub h.lt (fun e => by
  rcases e with e | e
  · exact h.ne e
  · have := h.lt; omega))
theorem infoVarP : (Tryz.prog.info? 222).map (fun i => (i.zero, i.size, i.bytes)) = some (some (.pointer none), 1, 8) := by kernel_rfl
theorem infoFrameP : (Tryz.prog.info? 124).map (fun i => (i.zero, i.size, i.bytes)) = some (some (.pointer none), 1, 8) := by kernel_rfl
/-- the frame's place -/
abbrev xF (X : RX) (F V R N frc : Nat) (rA : Array Value) : RX := { X with F := F, V := V, R := R, N := N, frc := frc, rA := rA }
abbrev fZ (X : RX) (V : Nat) : Array Value := #[.pointer (some ⟨X.T, 0, none⟩), .int .i64 0, .int .i64 0, .int .i64 0, .float .f64 0, .string ⟨#[]⟩, .int .i64 0, .slice none 0 0, .slice (some ⟨V, 0, none⟩) 1 1, .slice none 0 0, .slice none 0 0, .slice none 0 0, .int .i64 0]
set_option maxRecDepth 100000 in
set_option maxHeartbeats 8000000 in
theorem newFrame_calls (X : RX) (U : Ux) (w : World) (h : Pm X w) (hU : U.ok X) :
    Calls Tryz.prog 49 #[ptr X.M, .int .i64 0, .slice none 0 0] w fun e w' => ∃ F V R N frc rA, e = .returned (ptr F) ∧ St (xF X F V R N frc rA) dZ w' ∧ Gx (fun k => k = X.M ∨ k = X.T) w w' ∧ w.heap.size ≤ F ∧ w.heap.size ≤ V := by
  have HP : Hid (Pm X w) := h
  have HU : Hid (U.ok X) := hU
  have m23 := h.m.1.cell 23 rfl
  have m0 : w.cell? ⟨X.M, 0, none⟩ = some (.slice (some ⟨U.ub, U.uo, none⟩) 1 U.uc) := by rw [← hU.f]; exact h.m.1.cell 0 rfl
  have u2 := (hU.at h.k (U.uo + 2)).trans hU.p
  have u3 := (hU.at h.k (U.uo + 3)).trans hU.r
  have u4 := (hU.at h.k (U.uo + 4)).trans hU.v
  have hMl := h.m.1.1
  have hTl := h.t.1.1
  have hUl : U.ub < w.heap.size := Nat.lt_of_lt_of_le hU.lt h.k.size
  have t7 := h.t.1.cell 7 rfl
  have tz := h.t.2
  have hmk : ∀ v : World, (Instr.makeSlice 169 (.int .i64 1) (.int .i64 1)).run Tryz.prog v = .ok (.slice (some ⟨v.heap.size, 0, none⟩) 1 1) (v.alloc (.cells #[.pointer none] 222)) := fun v => by
    have h := run_make_row' (P := Tryz.prog) 169 222 (.pointer none) 8 Tryz.underlying169 infoVarP rfl .i64 .i64 1 (by omega) (by omega) v
    have e : madeCells #[.pointer none] 1 = #[.pointer none] := by simp [madeCells]; exact ⟨0, rfl, rfl⟩
    rw [e] at h
    exact h
  clear h hU
  go_enter Tryz.func49, Tryz.ntmps49
  go_wp2_with fail
  obtain ⟨w1, hw1⟩ : ∃ w1, (w.alloc (.cells #[.pointer none] 222)).alloc (.cells (fZ X w.heap.size) 172) = w1 := ⟨_, rfl⟩
  have H1 : Hid (Below w.heap.size w w1) := by rw [← hw1]; exact (below_alloc w _).alloc (by simp) _
  have HV : Hid (OwnB w1 w.heap.size #[.pointer none] ∧ w1.heap.size = w.heap.size + 2) := by
    rw [← hw1]
    exact ⟨(OwnB.new w _ _).block (by simp) (Below.block (below_alloc _ _) _ (by simp)), by simp⟩
  have HF : Hid (OwnB w1 (w.heap.size + 1) (fZ X w.heap.size)) := by
    rw [← hw1]
    have := OwnB.new (w.alloc (.cells #[.pointer none] 222)) (fZ X w.heap.size) 172
    rwa [show (w.alloc (.cells #[.pointer none] 222)).heap.size = w.heap.size + 1 by simp] at this
  rw [hw1]
  have m0' := (World.cell?_of_block (a := ⟨X.M, 0, none⟩) (H1.out.block X.M hMl)).trans m0
  have u3' := (World.cell?_of_block (a := ⟨U.ub, U.uo + 3, none⟩) (H1.out.block U.ub hUl)).trans u3
  have t7' := (World.cell?_of_block (a := ⟨X.T, 7, none⟩) (H1.out.block X.T hTl)).trans t7
  have tz' : ∀ o, w1.frozen? ⟨X.T, o, none⟩ = false := fun o => (World.frozen?_of_block (a := ⟨X.T, o, none⟩) (H1.out.block X.T hTl)).trans (tz o)
  have hs1 := HV.out.2
  have fz := HF.out.2
  have f9 := HF.out.1.cell 9 rfl
  clear hw1 m0 m23 u2 u3 u4 t7 tz hmk
  go_loopw [40] (fun i wr => i = .int .i64 0 ∧ wr = w1) (fun _ _ => 0)
  case atStart => exact ⟨rfl, rfl⟩
  case round =>
    obtain ⟨rfl, rfl⟩ := hrel
    obtain ⟨ta, hta⟩ : ∃ ta : Option Addr, Hid (ta = none) := ⟨_, rfl⟩
    obtain ⟨tn, htn⟩ : ∃ tn : Nat, Hid (tn = 0) := ⟨_, rfl⟩
    obtain ⟨tc, htc⟩ : ∃ tc : Nat, Hid (tc = 0) := ⟨_, rfl⟩
    have htv : Hid (Value.slice none 0 0 = .slice ta tn tc) := by rw [hta.out, htn.out, htc.out]; exact rfl
    have t9 : wr.cell? ⟨X.T, 7, none⟩ = some (.slice ta tn tc) := by rw [← htv.out]; exact t7'
    clear t7'
    go_upto_region 11 with fail
    obtain ⟨w2, hw2⟩ : ∃ w2, wr.setCell ⟨w.heap.size + 1, 9, none⟩ (.slice none 0 0) = w2 := ⟨_, rfl⟩
    have hb2 : ∀ k, k ≠ w.heap.size + 1 → w2.heap[k]? = wr.heap[k]? := fun k hk => by rw [← hw2]; exact Below.heap_setCell _ _ _ _ hk
    have hs2 : w2.heap.size = w.heap.size + 2 := by rw [← hw2]; simpa using hs1
    have HF2 : Hid (OwnB w2 (w.heap.size + 1) (fZ X w.heap.size)) := by rw [← hw2]; exact HF.out.set (o := 9) (by show 9 < 13; omega) (.slice none 0 0)
    have HV2 : Hid (OwnB w2 w.heap.size #[.pointer none]) := HV.out.1.block (by omega) (hb2 _ (by omega))
    have HB2 : Hid (Below w.heap.size w w2) := by rw [← hw2]; exact H1.out.setCell (by simp) _
    rw [hw2]
    have t7 := (World.cell?_of_block (a := ⟨X.T, 7, none⟩) (hb2 X.T (by omega))).trans t9
    have tz : ∀ o, w2.frozen? ⟨X.T, o, none⟩ = false := fun o => (World.frozen?_of_block (a := ⟨X.T, o, none⟩) (hb2 X.T (by omega))).trans (tz' o)
    obtain ⟨i0, hi0, hy0, hy1, hy2⟩ := info_parts infoFrameP
    obtain ⟨v', w7, happ, hown, hgrow, hnil, hat⟩ := run_append_own_at (P := Tryz.prog) (w2.alloc (.cells #[.pointer (some ⟨w.heap.size + 1, 0, none⟩)] 124)) w.heap.size 113 113 124 i0 _ 1 8 Tryz.underlying113 hi0 hy0 hy1 hy2 rfl (by decide) (.slice none 0 0) 0 [] (World.ownsRow_nil _ _ _ _) ⟨w2.heap.size, 0, none⟩ 1 1 [.pointer (some ⟨w.heap.size + 1, 0, none⟩)] rfl (cell_one_new _ _ _) (by simp [Value.oneCell']) (by unfold maxLen; omega) (by omega) (by simp; omega)
    have hg7 : ∀ k, k < w2.heap.size → w7.heap[k]? = w2.heap[k]? := fun k hk => (hgrow.block k (by simp; omega) (by simp [Value.ownBlock])).trans (Below.block (below_alloc _ _) _ hk)
    have hs7 := hgrow.size
    simp at hs7
    have t7'' := (World.cell?_of_block (a := ⟨X.T, 7, none⟩) (hg7 X.T (by omega))).trans t7
    have tz'' : ∀ o, w7.frozen? ⟨X.T, o, none⟩ = false := fun o => (World.frozen?_of_block (a := ⟨X.T, o, none⟩) (hg7 X.T (by omega))).trans (tz o)
    obtain ⟨g, cap, rfl, hgb, HG⟩ : ∃ g cap, v' = .slice (some ⟨g, 0, none⟩) 1 cap ∧ w2.heap.size < g ∧ Hid (∃ rA, OwnB w7 g rA ∧ rA[0]? = some (.pointer (some ⟨w.heap.size + 1, 0, none⟩))) := by
      rcases hown.2 with ⟨c, d⟩ | ⟨g, cap, cur, c, hb, hg, h1, h2, h3, h4⟩
      · omega
      · refine ⟨g, cap, c, ?_, cur, ⟨⟨(Array.getElem?_eq_some_iff.1 hg).1, fun o => by simp [World.cell?, hg]⟩, fun o => ?_⟩, ?_⟩
        · rw [c] at hat
          rcases hat with e | e
          · cases e
          · have := Option.some.inj e; simp at this; omega
        · simp [World.frozen?, hg]
        · simp at h4
          rw [← Array.getElem?_toList]
          rw [← List.getElem?_take_of_lt (j := 1) (by omega), h4]
          rfl
    rw [htv.out] at happ
    have HB7 : Hid (Below w.heap.size w w7) := (HB2.out.alloc (by omega) _).grown hgrow (by simp; omega) (fun k e => by cases e)
    have HS2 : Hid (w2.heap.size = w.heap.size + 2 ∧ w2.heap.size + 1 ≤ w7.heap.size ∧ w2.heap.size < g ∧ ∀ k, k < w2.heap.size → w7.heap[k]? = w2.heap[k]?) := ⟨hs2, hs7, hgb, hg7⟩
    have hT2 : X.T < w2.heap.size := by omega
    have hT7 : X.T < w7.heap.size := by omega
    clear hs1 hs2 hs7 hgb hg7 hb2 tz hi0 hy0 hy1 hy2
    clear htv hown hgrow hnil hat hw2 H1 HV HF m0' u3' t9 tz' fz f9
    go_wp2_with (at_builtin; refine wpList_app (by rfl) _ _ _ _ (by rfl) (.slice ta tn tc) (.slice (some ⟨w2.heap.size, 0, none⟩) 1 1) _ _ (by rfl) (by rfl) happ ?_)
    obtain ⟨rA, hR, hR0⟩ := HG.out
    obtain ⟨e2, h27, hgb, hg7⟩ := HS2.out
    have hP := HP.out
    have hk : ∀ k, k < w.heap.size → w7.heap[k]? = w.heap[k]? := fun k hk => (hg7 k (by omega)).trans (HB2.out.block k hk)
    have hsz : w.heap.size ≤ w7.heap.size := by omega
    have hWs := hP.k.size
    have hlt := hP.lt
    have hlm := hP.lm
    have hgl := hR.1.1
    have hTM : X.T ≠ X.M := by omega
    have g7 : Gx (fun k => k = X.M ∨ k = X.T) w (w7.setCell ⟨X.T, 7, none⟩ (.slice (some ⟨g, 0, none⟩) 1 cap)) := (Gx.below _ HB7.out).trans (Gx.set w7 X.T 7 _) (fun k _ e => .inr e)
    refine bodyPost_ret (v := ptr (w.heap.size + 1)) (by simp [results, Tryz.results49, go_sem]) rfl ⟨w.heap.size + 1, w.heap.size, g, w7.heap.size, cap, rA, rfl, ?_, g7, by omega, by omega⟩
    refine ⟨⟨hlm, hlt, by show X.W.heap.size ≤ w.heap.size + 1; omega, hWs, by show X.W.heap.size ≤ g; omega, hT7, by show w.heap.size + 1 < w7.heap.size; omega, by show w.heap.size < w7.heap.size; omega, hgl, by show X.T ≠ w.heap.size + 1; omega, by show X.T ≠ w.heap.size; omega, by show w.heap.size + 1 ≠ w.heap.size; omega, by show g ≠ X.T; omega, by show g ≠ w.heap.size + 1; omega, by show g ≠ w.heap.size; omega, hR0⟩, ?_, ?_, ?_, ?_, ?_, World.ownsRow_nil _ _ _ _, World.ownsRow_nil _ _ _ _, World.ownsRow_nil _ _ _ _, ?_, by simp⟩
    · exact ownB_other (hP.m.block hsz (hk _ hMl)) (Ne.symm hTM)
    · exact (hP.t.block hsz (hk _ hTl)).set (o := 7) (by show 7 < 17; omega) _
    · exact ownB_other (HF2.out.block (by omega) (hg7 _ (by omega))) (by show w.heap.size + 1 ≠ X.T; omega)
    · exact ownB_other (HV2.out.block (by omega) (hg7 _ (by omega))) (by show w.heap.size ≠ X.T; omega)
    · exact ownB_other hR (by show g ≠ X.T; omega)
    · exact hP.k.trans g7 (fun k _ e => by
        rcases e with e | e
        · exact .inl e
        · exact .inr (e ▸ hlt))
end Go.Proofs.YtdialodjllpgaaaGreatDoor

/-! The program's run: the text is run. -/
namespace Go.Proofs.YtdialodjllpgaaaGreatDoor
open Go.RowKit
attribute [local go_sem] run_store_float
attribute [local go_sem ↓] Go.wp_at_zero Go.wp_at_succ

theorem Pm.alloc {X : RX} {w : World} (h : Pm X w) (o : Obj) : Pm X (w.alloc o) :=
  ⟨h.m.block (by simp) (Below.heap_alloc _ _ _ h.m.1.1), h.t.block (by simp) (Below.heap_alloc _ _ _ h.t.1.1), h.k.trans (Gx.below (fun _ => False) (below_alloc w o)) (fun _ _ e => e.elim), h.lm, h.lt⟩
/-- the text was run: a machine that shows p -/
def RunTo (X : RX) (w : World) (p : DP) (w' : World) : Prop := ∃ F V R N frc rA z d', St (xF X F V R N frc rA) d' w' ∧ d'.p = p.var z ∧ Gx (fun k => k = X.M ∨ k = X.T) w w'
set_option maxRecDepth 100000 in
set_option maxHeartbeats 8000000 in
theorem runText_calls (X : RX) (U : Ux) (P : PX) (L : LX) (Z : MX) (a b s : Int) (N : Nat) (w : World) (h : Pm X w) (hU : U.ok X) (hX : ∀ F V R N' frc rA, TX (xF X F V R N' frc rA) P L Z a b s N) :
    Calls Tryz.prog 23 #[ptr X.M] w fun e w' => e = .returned (.tuple #[]) ∧ RunTo X w (dZ.p.all Z.line P.line a s N) w' := by
  have HP : Hid (Pm X w) := h
  have HU : Hid (U.ok X) := hU
  have HX : Hid (∀ F V R N' frc rA, TX (xF X F V R N' frc rA) P L Z a b s N) := hX
  have m1 := h.m.1.cell 1 rfl
  have hMl := h.m.1.1
  have hTl := h.t.1.1
  clear h hU hX
  have hmf := mkFunc
  go_enter_defers Tryz.func23, Tryz.ntmps23
  go_wp2_with fail
  obtain ⟨w1, hw1⟩ : ∃ w1, w.alloc (.cells #[ptr X.M] 40) = w1 := ⟨_, rfl⟩
  have HP1 : Hid (Pm X w1 ∧ OwnB w1 w.heap.size #[ptr X.M] ∧ w1.heap.size = w.heap.size + 1 ∧ Below w.heap.size w w1) := by
    rw [← hw1]
    exact ⟨HP.out.alloc _, OwnB.new _ _ _, by simp, below_alloc _ _⟩
  rw [hw1]
  have b0 := HP1.out.2.1.1.cell 0 rfl
  clear hw1 m1
  go_loopw [2, 17] (fun v i wr => v = .slice none 0 0 ∧ i = .int .i64 0 ∧ wr = w1) (fun _ _ _ => 0)
  case atStart => exact ⟨rfl, rfl, rfl⟩
  case round =>
    obtain ⟨rfl, rfl, rfl⟩ := hrel
    go_wp2_with fail
    refine (newFrame_calls X U _ HP1.out.1 HU.out).mono ?_
    rintro e w2 ⟨F, V, R, N', frc, rA, rfl, hst, hg2, hF, hV⟩
    obtain ⟨X', hX'⟩ : ∃ X', X' = xF X F V R N' frc rA := ⟨_, rfl⟩
    have HS2 : Hid (St X' dZ w2 ∧ Gx (fun k => k = X.M ∨ k = X.T) wr w2) := ⟨hX' ▸ hst, hg2⟩
    have hbs : wr.heap.size = w.heap.size + 1 := HP1.out.2.2.1
    have HM2 : Hid (Bx X' dZ w2 w.heap.size #[ptr X.M]) := ⟨hg2.has HP1.out.2.1.1 (fun e => by
      rcases e with e | e <;> omega), fun e => by
      subst hX'
      rcases e with e | e | e | e | e | e | e
      · replace e : w.heap.size = X.M := e
        omega
      · replace e : w.heap.size = X.T := e
        omega
      · replace e : w.heap.size = F := e
        omega
      · replace e : w.heap.size = V := e
        omega
      · cases e
      · cases e
      · cases e⟩
    have b2 := HM2.out.cell 0 rfl
    have hE : w.heap.size < w2.heap.size := HM2.out.1.1
    have HFV : Hid (w.heap.size ≤ F ∧ w.heap.size ≤ V) := ⟨by omega, by omega⟩
    clear hst hg2 hF hV b0 hbs
    go_wp2_with fail
    subst hX'
    have HB : Hid (Bx (xF X F V R N' frc rA) dZ (w2.alloc (.cells #[ptr F] 124)) w2.heap.size #[ptr F]) := Bx.new HS2.out.1 _ _
    refine (fattempt_calls (xF X F V R N' frc rA) P L Z a b s N dZ w.heap.size w2.heap.size _ (HS2.out.1.alloc _) (HX.out F V R N' frc rA) ⟨rfl, rfl, rfl, rfl⟩ (HM2.out.alloc _) HB.out).mono ?_
    rintro e w3 ⟨rfl, z, d1, hs1, e1⟩
    have H3 : Hid (Sp (xF X F V R N' frc rA) dZ w2 d1 w3 ∧ d1.p = (dZ.p.all Z.line P.line a s N).var z) := ⟨Sp.first HS2.out.1 hs1, e1⟩
    clear hs1 e1 b2 HB
    have b3 := (HM2.out.step H3.out.1).cell 0 rfl
    have hE3 : w.heap.size < w3.heap.size := (HM2.out.step H3.out.1).1.1
    go_wp2_with fail
    refine (asNil_calls _ _).mono ?_
    rintro e w4 ⟨rfl, rfl⟩
    go_wp2_with fail
    refine (returnedNil_calls _).mono ?_
    rintro e w4 ⟨rfl, hb4⟩
    have H4 : Hid (Sp (xF X F V R N' frc rA) dZ w2 d1 w4) := (H3.out.1.alloc _).call hb4
    clear hb4 b3 hE3
    go_wp2_with fail
    have HG : Hid (RunTo X w (dZ.p.all Z.line P.line a s N) w4) := ⟨F, V, R, N', frc, rA, z, d1, H4.out.s, H3.out.2, ((Gx.below _ HP1.out.2.2.2).trans HS2.out.2 (fun _ _ e => e)).trans H4.out.g (fun k hk e => by
      have hFV := HFV.out
      rcases e with e | e | e | e | e | e | e
      · exact .inl e
      · exact .inr e
      · replace e : k = F := e
        omega
      · replace e : k = V := e
        omega
      · cases e
      · cases e
      · cases e)⟩
    clear H3 H4 HS2 HM2 HP1 HFV hE
    go_loopw [61] (fun i wr => i = .int .i64 0 ∧ wr = w4) (fun _ _ => 0)
    case atStart => exact ⟨rfl, rfl⟩
    case round =>
      obtain ⟨rfl, rfl⟩ := hrel
      go_wp2_with fail
      refine leaves_cons (f := 46) (args := #[ptr w.heap.size]) (by simp) (by simp [go_sem]) ?_
      refine (rt1_idle _ _).mono ?_
      rintro e u' w'' ⟨rfl, rfl, rfl⟩
      simp [Leaves, settle, results, Tryz.results23, go_sem]
      exact HG.out
end Go.Proofs.YtdialodjllpgaaaGreatDoor

/-! The program's run: the first task is made. -/
namespace Go.Proofs.YtdialodjllpgaaaGreatDoor
open Go.RowKit
attribute [local go_sem] run_store_float
attribute [local go_sem ↓] Go.wp_at_zero Go.wp_at_succ

theorem run_store_chan (P : Program) (w : World) (a : Addr) (m : Mode) (c : Option Nat) : (store a (.chan c) m).run P w = stored P w a (.chan c) m := run_store P w a _ m rfl
attribute [local go_sem] run_store_chan
/-- a machine with no task -/
abbrev mY (fns bod en : Value) (tks run : Value) : Array Value := #[fns, .slice none 0 0, .slice none 0 0, .int .i64 1000, .int .i64 2, .int .i64 0, wchV, bod, .int .i64 0, .slice none 0 0, .slice none 0 0, .string ⟨#[]⟩, .string ⟨#[]⟩, .int .i64 0, .int .i64 0, .int .i64 0, .slice none 0 0, .slice none 0 0, tks, .slice none 0 0, .int .i64 0, .int .i64 0, .int .i64 0, run, en, .int .u64 0, .int .u32 0]
abbrev tY (st : Int) (c1 c2 c3 : Value) : Array Value := #[.int .i64 0, .int .i64 st, .int .i64 0, .int .i64 0, .float .f64 0, .string ⟨#[]⟩, .int .i64 0, .slice none 0 0, .slice none 0 0, .pointer none, c1, c2, c3, .bool false, .pointer none, .int .i64 0, .int .i64 0]
def TaskMade (M : Nat) (fns bod en : Value) (w : World) (T : Nat) (w' : World) : Prop := ∃ tks c1 c2 c3, OwnB w' M (mY fns bod en tks (.pointer none)) ∧ OwnB w' T (tY 0 c1 c2 c3) ∧ Gx (fun k => k = M) w w' ∧ w.heap.size ≤ T ∧ T < w'.heap.size
theorem infoTaskP : (Tryz.prog.info? 67).map (fun i => (i.zero, i.size, i.bytes)) = some (some (.pointer none), 1, 8) := by kernel_rfl
theorem own3 {w : World} {T : Nat} {a b c : Value} (h : OwnB w T (tY 0 a b c)) (x y z : Value) : OwnB (((w.setCell ⟨T, 10, none⟩ x).setCell ⟨T, 11, none⟩ y).setCell ⟨T, 12, none⟩ z) T (tY 0 x y z) := ((h.set (o := 10) (by show 10 < 17; omega) x).set (o := 11) (by show 11 < 17; omega) y).set (o := 12) (by show 12 < 17; omega) z
theorem mkChan (v : World) :
    (Instr.makeChan 115 (.int .i64 0)).run Tryz.prog v = .ok (.chan (some v.heap.size)) (v.alloc (.chan 0 #[] false 0 0 false)) ∧
    (Instr.makeChan 68 (.int .i64 0)).run Tryz.prog v = .ok (.chan (some v.heap.size)) (v.alloc (.chan 0 #[] false 0 0 false)) ∧
    (Instr.makeChan 116 (.int .i64 0)).run Tryz.prog v = .ok (.chan (some v.heap.size)) (v.alloc (.chan 0 #[] false 0 0 false)) := by
  refine ⟨?_, ?_, ?_⟩ <;> kernel_rfl
set_option maxRecDepth 100000 in
set_option maxHeartbeats 8000000 in
theorem newTask_calls (M : Nat) (fns bod en : Value) (w : World) (h : OwnB w M (mY fns bod en (.slice none 0 0) (.pointer none))) :
    Calls Tryz.prog 45 #[ptr M, .agg #[.int .i64 0, .int .i64 0, .float .f64 0, .string ⟨#[]⟩, .int .i64 0]] w fun e w' => ∃ T, e = .returned (ptr T) ∧ TaskMade M fns bod en w T w' := by
  have HM : Hid (OwnB w M (mY fns bod en (.slice none 0 0) (.pointer none))) := h
  have m18 := h.1.cell 18 rfl
  have hMl := h.1.1
  clear h
  go_enter Tryz.func45, Tryz.ntmps45
  have c1 := fun v => (mkChan v).1
  have c2 := fun v => (mkChan v).2.1
  have c3 := fun v => (mkChan v).2.2
  go_upto_region 1 with fail
  go_cut [5] from 6 to 13 (fun v wc => ∃ T, v = ptr T ∧ Hid (Below w.heap.size w wc ∧ OwnB wc T (tY 0 (.chan none) (.chan none) (.chan none)) ∧ w.heap.size ≤ T))
  case first =>
    go_region_with fail
    all_goals
      have HB1 : Hid (Below w.heap.size w ((w.alloc (.cells #[.int .i64 0, .int .i64 0, .float .f64 0, .string ⟨#[]⟩, .int .i64 0] 56)).alloc (.cells (tY 0 (.chan none) (.chan none) (.chan none)) 119)).drew ∧ OwnB ((w.alloc (.cells #[.int .i64 0, .int .i64 0, .float .f64 0, .string ⟨#[]⟩, .int .i64 0] 56)).alloc (.cells (tY 0 (.chan none) (.chan none) (.chan none)) 119)).drew (w.heap.size + 1) (tY 0 (.chan none) (.chan none) (.chan none)) ∧ w.heap.size ≤ w.heap.size + 1) := ⟨((below_alloc w _).alloc (by simp) _).drew, (own_new1 _ _ _ _).drew, by omega⟩
      go_wp2_with fail
      go_meet
      exact ⟨w.heap.size + 1, rfl, HB1⟩
  case rest =>
    obtain ⟨T, rfl, H1⟩ := hcut
    rename World => w1
    clear m18
    have t10 := H1.out.2.1.1.cell 10 rfl
    have t11 := H1.out.2.1.1.cell 11 rfl
    have t12 := H1.out.2.1.1.cell 12 rfl
    have tz := H1.out.2.1.2
    have hT1 : T < w1.heap.size := H1.out.2.1.1.1
    have hT2 : T < w1.heap.size + 1 := by omega
    have hT3 : T < w1.heap.size + 1 + 1 := by omega
    go_upto_region 2 with fail
    go_cut [5] from 14 to 25 (fun v wc => v = ptr T ∧ Hid (Below w.heap.size w wc ∧ ∃ c1 c2 c3, OwnB wc T (tY 0 c1 c2 c3)))
    case first =>
      go_region_with fail
      all_goals
        go_wp2_with fail
        go_meet
        refine ⟨rfl, ?_, ?_⟩
        · have h9 := H1.out.2.2
          (repeat (first | with_reducible exact H1.out.1 | with_reducible refine bl_drew ?_ | with_reducible refine bl_alloc ?_ _ | (with_reducible refine bl_set ?_ _ h9)))
        · refine ⟨?_, ?_, ?_, ?_⟩
          rotate_left 3
          (repeat (first | with_reducible refine OwnB.drew ?_ | with_reducible refine OwnB.alloc ?_ _))
          with_reducible exact own3 H1.out.2.1 _ _ _
    case rest =>
      obtain ⟨rfl, H2⟩ := hcut
      have HT : Hid (w.heap.size ≤ T) := H1.out.2.2
      clear H1 t10 t11 t12 tz hT1 hT2 hT3 c1 c2 c3
      have m18 : wc.cell? ⟨M, 18, none⟩ = some (.slice none 0 0) := (World.cell?_of_block (a := ⟨M, 18, none⟩) (H2.out.1.block M hMl)).trans (HM.out.1.cell 18 rfl)
      have mz : ∀ o, wc.frozen? ⟨M, o, none⟩ = false := fun o => (World.frozen?_of_block (a := ⟨M, o, none⟩) (H2.out.1.block M hMl)).trans (HM.out.2 o)
      obtain ⟨ta, hta⟩ : ∃ ta : Option Addr, Hid (ta = none) := ⟨_, rfl⟩
      obtain ⟨tn, htn⟩ : ∃ tn : Nat, Hid (tn = 0) := ⟨_, rfl⟩
      obtain ⟨tc, htc⟩ : ∃ tc : Nat, Hid (tc = 0) := ⟨_, rfl⟩
      have htv : Hid (Value.slice none 0 0 = .slice ta tn tc) := by rw [hta.out, htn.out, htc.out]; exact rfl
      have hsz := H2.out.1.size
      obtain ⟨i0, hi0, hy0, hy1, hy2⟩ := info_parts infoTaskP
      obtain ⟨v', w7, happ, hown, hgrow, hnil, hat⟩ := run_append_own_at (P := Tryz.prog) (wc.alloc (.cells #[ptr T] 67)) w.heap.size 66 66 67 i0 _ 1 8 Tryz.underlying66 hi0 hy0 hy1 hy2 rfl (by decide) (.slice none 0 0) 0 [] (World.ownsRow_nil _ _ _ _) ⟨wc.heap.size, 0, none⟩ 1 1 [ptr T] rfl (cell_one_new _ _ _) (by simp [Value.oneCell']) (by unfold maxLen; omega) (by omega) (by simp; omega)
      have hg7 : ∀ k, k < wc.heap.size → w7.heap[k]? = wc.heap[k]? := fun k hk => (hgrow.block k (by simp; omega) (by simp [Value.ownBlock])).trans (Below.block (below_alloc _ _) _ hk)
      have hs7 := hgrow.size
      simp at hs7
      obtain ⟨oa', oc', rfl⟩ := ownsK_form hown
      have HB7 : Hid (Below w.heap.size w w7 ∧ (∃ c1 c2 c3, OwnB w7 T (tY 0 c1 c2 c3)) ∧ OwnB w7 M (mY fns bod en (.slice none 0 0) (.pointer none))) := by
        obtain ⟨c1, c2, c3, hO⟩ := H2.out.2
        exact ⟨(H2.out.1.alloc hsz _).grown hgrow (by simp; omega) (fun k e => by cases e), ⟨c1, c2, c3, hO.block (by omega) (hg7 _ hO.1.1)⟩, (HM.out.block hsz (H2.out.1.block M hMl)).block (by omega) (hg7 _ (by omega))⟩
      have m18' := (World.cell?_of_block (a := ⟨M, 18, none⟩) (hg7 M (by omega))).trans m18
      have mz' := HB7.out.2.2.2
      have hM2 : M < wc.heap.size := by omega
      have hM7 : M < w7.heap.size := by omega
      rw [htv.out] at happ m18 m18'
      clear hs7 hg7 hown hgrow hnil hat htv hi0 hy0 hy1 hy2 hsz
      go_wp2_with (at_builtin; refine wpList_app (by rfl) _ _ _ _ (by rfl) (.slice ta tn tc) (.slice (some ⟨wc.heap.size, 0, none⟩) 1 1) _ _ (by rfl) (by rfl) happ ?_)
      obtain ⟨q1, ⟨c1, c2, c3, hO⟩, q3⟩ := HB7.out
      have q4 := HT.out
      exact bodyPost_ret (v := ptr T) (by simp [results, Tryz.results45, go_sem]) rfl ⟨T, rfl, .slice oa' (0 + 1) oc', c1, c2, c3, q3.set (o := 18) (by show 18 < 27; omega) _, ownB_other hO (by omega), (Gx.below _ q1).trans (Gx.set w7 M 18 _) (fun _ _ e => e), q4, by simpa using hO.1.1⟩
end Go.Proofs.YtdialodjllpgaaaGreatDoor

/-! Inputs: the program's own check. -/
namespace Go.Proofs.YtdialodjllpgaaaGreatDoor
open Go.RowKit
attribute [local go_sem] run_store_float
attribute [local go_sem ↓] Go.wp_at_zero Go.wp_at_succ

def bwB (i l m : Int) : Bool := decide (l ≤ i) && decide (i ≤ m)
set_option maxRecDepth 100000 in
set_option maxHeartbeats 2000000 in
theorem btw_calls (i l m : Int) (w : World) : Calls Tryz.prog 42 #[.int .i64 i, .int .i64 l, .int .i64 m] w fun e w' => e = .returned (.bool (bwB i l m)) ∧ w' = w := by
  go_enter Tryz.func42, Tryz.ntmps42
  go_wp2_with fail
  all_goals go_ret
  all_goals exact ⟨by simp [bwB, *] <;> (intros; omega), rfl⟩
set_option maxRecDepth 100000 in
set_option maxHeartbeats 2000000 in
theorem tooLong_calls (s : ByteArray) (w : World) : Calls Tryz.prog 41 #[.string s] w fun e w' => e = .returned (.bool (decide (4000 < s.size))) ∧ w' = w := by
  go_enter Tryz.func41, Tryz.ntmps41
  go_wp2_with fail
  go_ret
  exact ⟨by simp; omega, rfl⟩
def LongAt (n : Nat) (q : Nat → ByteArray) (r : Int) : Prop := (r = -1 ∧ ∀ i, i < n → (q i).size ≤ 4000) ∨ ∃ i : Nat, r = i ∧ i < n ∧ 4000 < (q i).size
set_option maxRecDepth 100000 in
set_option maxHeartbeats 4000000 in
theorem indexF_calls (L : Nat) (a : Option Addr) (n cap : Nat) (q : Nat → ByteArray) (w : World) (hn : n ≤ 1048576) (hT : StrAt L w a n q) :
    Calls Tryz.prog 81 #[.slice a n cap, .func (.func 41) #[] #[]] w fun e w' => (∃ r, e = .returned (.int .i64 r) ∧ LongAt n q r) ∧ w' = w := by
  have HT : Hid (StrAt L w a n q) := hT
  clear hT
  go_enter Tryz.func81, Tryz.ntmps81
  go_wp2_with fail
  go_loopw [8] (fun i wr => ∃ (k : Nat), k ≤ n ∧ i = .int .i64 k ∧ Hid (∀ j, j < k → (q j).size ≤ 4000) ∧ wr = w) (fun i _ => n - (intOf i).toNat)
  case atStart => exact ⟨0, Nat.zero_le _, rfl, fun j hj => by omega, rfl⟩
  case round =>
    obtain ⟨k, hk, rfl, HK, rfl⟩ := hrel
    by_cases hkn : k < n
    · obtain ⟨b, off, rfl, _, hb, d0⟩ := cells1 HT.out hkn
      by_cases c3 : 4000 < (q k).size
      · go_wp2_with (go_at_call 41; refine (tooLong_calls _ _).mono ?_; rw [decide_eq_true c3]; rintro e w1 ⟨rfl, rfl⟩)
        go_ret
        exact ⟨⟨_, rfl, .inr ⟨k, rfl, hkn, c3⟩⟩, rfl⟩
      · go_wp2_with (go_at_call 41; refine (tooLong_calls _ _).mono ?_; rw [decide_eq_false c3]; rintro e w1 ⟨rfl, rfl⟩)
        go_roundw
        case rel => exact ⟨k + 1, by omega, by go_num, fun j hj => by
          by_cases e : j = k
          · subst e; omega
          · exact HK.out j (by omega), by first | rfl | trivial⟩
        case measure => simp [intOf]; omega
    · go_wp2_with fail
      go_ret
      exact ⟨⟨_, rfl, .inl ⟨rfl, fun i hi => HK.out i (by omega)⟩⟩, rfl⟩
def ContSays (n : Nat) (q : Nat → ByteArray) (e : Ending) : Prop := ∃ b, e = .returned (.bool b) ∧ (b = false ↔ ∀ i, i < n → (q i).size ≤ 4000)
set_option maxRecDepth 100000 in
set_option maxHeartbeats 4000000 in
theorem containsF_calls (L : Nat) (a : Option Addr) (n cap : Nat) (q : Nat → ByteArray) (w : World) (hn : n ≤ 1048576) (hT : StrAt L w a n q) :
    Calls Tryz.prog 40 #[.slice a n cap, .func (.func 41) #[] #[]] w fun e w' => ContSays n q e ∧ w' = w := by
  have HT : Hid (StrAt L w a n q) := hT
  clear hT
  go_enter Tryz.func40, Tryz.ntmps40
  go_wp2_with (go_at_call 81; refine (indexF_calls L a n cap q _ hn HT.out).mono ?_; rintro e w1 ⟨⟨r, rfl, hr⟩, rfl⟩; have HR : Hid (LongAt n q r) := hr; clear hr)
  go_ret
  refine ⟨⟨_, rfl, ?_⟩, rfl⟩
  rcases HR.out with ⟨rfl, h⟩ | ⟨i, rfl, hi, h⟩
  · exact ⟨fun _ => h, fun _ => rfl⟩
  · constructor
    · intro h0
      simp at h0
    · intro h0
      have := h0 i hi
      omega
abbrev inW2 (w : World) (d : ID) (x : IA) : World := (inW w d x).alloc (.cells #[.slice x.aa d.an x.ac, .slice x.la d.ln x.lc] 25)
set_option maxRecDepth 100000 in
set_option maxHeartbeats 4000000 in
theorem implInputOk_calls (L : Nat) (d : ID) (x : IA) (w : World) (hs : d.sm) (hT : InAt L w d x) :
    Calls Tryz.prog 21 #[inV d x] w fun e w' => InSays d e ∧ Below w.heap.size w w' := by
  have HT : Hid (InAt L w d x) := hT
  have HS : Hid d.sm := hs
  have ha := hs.an
  have hl := hs.ln
  clear hT hs
  go_enter Tryz.func21, Tryz.ntmps21
  go_wp2_with fail
  refine wp_loop_rounds 3 ?_
  rw [rounds_succ]
  by_cases c1 : 200 < d.an
  · go_wp2_with fail
    go_ret
    exact ⟨InSays.no fun h => by have := h.1.1; omega, below_alloc2 _ _ _⟩
  go_wp2_with fail
  refine (containsF_calls L x.aa d.an x.ac d.a _ ha ((HT.out.alloc _).alloc _).1).mono ?_
  rintro e w1 ⟨⟨b, rfl, hb⟩, rfl⟩
  cases b
  case true =>
    go_wp2_with fail
    go_ret
    exact ⟨InSays.no fun h => Bool.noConfusion (hb.2 h.1.2), below_alloc2 _ _ _⟩
  have HLa : Hid (lstOk d.an d.a) := ⟨by omega, hb.1 rfl⟩
  clear hb
  go_wp2_with fail
  rw [rounds_succ]
  by_cases c2 : 200 < d.ln
  · go_wp2_with fail
    go_ret
    exact ⟨InSays.no fun h => by have := h.2.1.1; omega, below_alloc2 _ _ _⟩
  go_wp2_with fail
  refine (containsF_calls L x.la d.ln x.lc d.l _ hl ((HT.out.alloc _).alloc _).2).mono ?_
  rintro e w1 ⟨⟨b, rfl, hb⟩, rfl⟩
  cases b
  case true =>
    go_wp2_with fail
    go_ret
    exact ⟨InSays.no fun h => Bool.noConfusion (hb.2 h.2.1.2), below_alloc2 _ _ _⟩
  have HLl : Hid (lstOk d.ln d.l) := ⟨by omega, hb.1 rfl⟩
  clear hb
  go_wp2_with fail
  rw [rounds_succ]
  cases q1 : bwB d.t 0 5000
  · go_wp2_with (go_at_call 42; refine (btw_calls _ _ _ _).mono ?_; rw [q1]; rintro e w1 ⟨rfl, rfl⟩)
    go_ret
    exact ⟨InSays.num HLa.out HLl.out (by unfold numOk; unfold bwB at q1; simp at q1 ⊢; intros; omega), below_alloc2 _ _ _⟩
  · cases q2 : bwB d.d 1 60
    · go_wp2_with (go_at_call 42; refine (btw_calls _ _ _ _).mono ?_; (first | rw [q1] | rw [q2]); rintro e w1 ⟨rfl, rfl⟩)
      go_ret
      exact ⟨InSays.num HLa.out HLl.out (by unfold numOk; unfold bwB at q2; simp at q2 ⊢; intros; omega), below_alloc2 _ _ _⟩
    · go_wp2_with (go_at_call 42; refine (btw_calls _ _ _ _).mono ?_; (first | rw [q1] | rw [q2] | skip); rintro e w1 ⟨rfl, rfl⟩)
      go_ret
      exact ⟨InSays.num HLa.out HLl.out (by unfold numOk; unfold bwB at q1 q2 ⊢; simp at q1 q2 ⊢; omega), below_alloc2 _ _ _⟩
end Go.Proofs.YtdialodjllpgaaaGreatDoor
