import Derived.Test.YtdialodjllpgaaaGreatDoorZrJ
import Derived.Test.YtdialodjllpgaaaGreatDoorWtA
import Derived.LaidEql
import Derived.Stop.Asserts
import Derived.RowKitTokens
import Derived.Test.YtdialodjllpgaaaGreatDoorCnZ
import Derived.Test.YtdialodjllpgaaaGreatDoorLwA
/-! A step of nought: the two attempts. -/
namespace Go.Proofs.YtdialodjllpgaaaGreatDoor
open Go.RowKit
attribute [local go_sem] run_store_float
attribute [local go_sem ↓] Go.wp_at_zero Go.wp_at_succ

/-- a run that has just begun -/
structure DZ (d : MD) : Prop where
  d0 : D0 d
  t : d.tab = .slice none 0 0
  l : d.liv = .slice none 0 0
set_option maxRecDepth 100000 in
set_option maxHeartbeats 8000000 in
theorem rt2Z_calls (X : RX) (U : Ux) (P : PX) (L : LX) (Z : MX) (a b : Int) (d : MD) (mb fb : Nat) (u : World) (h : St X d u) (hX : ZX X U P L Z a b) (hzl : I64r Z.line) (h0 : DZ d) (hm : Has u mb #[ptr X.M]) (hf : Has u fb #[ptr X.F]) :
    Calls Tryz.prog 51 #[ptr mb, ptr fb] u fun e w' => ∃ E, e = .panicked (thC E) ∧ PanTo X d u (d.p.zr Z.line) E w' := by
  have HS : Hid (St X d u) := h
  have m0 : u.drew.cell? ⟨mb, 0, none⟩ = some (ptr X.M) := hm.cell 0 rfl
  have f0 : u.drew.cell? ⟨fb, 0, none⟩ = some (ptr X.F) := hf.cell 0 rfl
  have m7 : u.drew.cell? ⟨X.M, 7, none⟩ = some (.slice (some ⟨Z.bo, 0, none⟩) 1 Z.bc) := by rw [← hX.z.bo]; exact h.m.1.cell 7 rfl
  have b0 : u.drew.cell? ⟨Z.bo, 0, none⟩ = some (bkV Z.k1) := hX.z.b0.at h.drew
  have HT : Hid (Calls Tryz.prog 166 #[ptr X.F, ptr Z.k1] u.drew fun e w' => ∃ E, e = .panicked (thC E) ∧ PanTo X d u.drew (d.p.zr Z.line) E w') := textZ_calls X U P L Z a b d u.drew h.drew hX hzl (by rw [h0.d0.h]; simp) (by rw [h0.d0.r]; simp) (by rw [h0.d0.t]; omega) h0.t h0.l
  clear h hX h0 hm hf
  go_enter Tryz.func51, Tryz.ntmps51
  go_upto_region 1 with fail
  refine wp_mono (Q := fun e a w' => a.defers = [] ∧ ∃ E3, e = .panic (thC E3) ∧ PanTo X d u (d.p.zr Z.line) E3 w') ?reg ?go
  case go =>
    rintro e a w' ⟨hd, E3, rfl, h3⟩
    simp only [Exit.then]
    exact ⟨hd, E3, rfl, h3⟩
  refine wp_region_held_drew (S := fun w' => w'.cell? ⟨mb, 0, none⟩ = some (ptr X.M) ∧ w'.cell? ⟨fb, 0, none⟩ = some (ptr X.F) ∧ w'.cell? ⟨X.M, 7, none⟩ = some (.slice (some ⟨Z.bo, 0, none⟩) 1 Z.bc) ∧ w'.cell? ⟨Z.bo, 0, none⟩ = some (bkV Z.k1)) (by kernel_rfl) ⟨m0, f0, m7, b0⟩ (fun hHold => ?_)
  refine wpAnyH_take (i := 0) (oi := ⟨some 3, _, _, _, _, _⟩) (v := ?v0) rfl (by kernel_rfl) (by kernel_rfl) (by kernel_rfl) (fun _ _ _ h => h) (Or.inl ⟨by rfl, ?hy0⟩) (by assumption) ?rest0
  case hy0 => (intro wz hSw; (try dsimp only at hSw); go_simp <;> with_reducible rfl)
  try simp only [Act.put, List.setIfInBounds_toArray, List.set_cons_zero, List.set_cons_succ]
  refine wpAnyH_take (i := 1) (oi := ⟨some 4, _, _, _, _, _⟩) (v := ?v1) rfl (by kernel_rfl) (by kernel_rfl) (by kernel_rfl) (fun _ _ _ h => h) (Or.inl ⟨by rfl, ?hy1⟩) (by assumption) ?rest1
  case hy1 => (intro wz hSw; (try dsimp only at hSw); go_simp <;> with_reducible rfl)
  try simp only [Act.put, List.setIfInBounds_toArray, List.set_cons_zero, List.set_cons_succ]
  refine wpAnyH_take (i := 2) (oi := ⟨some 5, _, _, _, _, _⟩) (v := ?v2) rfl (by kernel_rfl) (by kernel_rfl) (by kernel_rfl) (fun _ _ _ h => h) (Or.inl ⟨by rfl, ?hy2⟩) (by assumption) ?rest2
  case hy2 => (intro wz hSw; (try dsimp only at hSw); go_simp <;> with_reducible rfl)
  try simp only [Act.put, List.setIfInBounds_toArray, List.set_cons_zero, List.set_cons_succ]
  refine wpAnyH_take (i := 3) (oi := ⟨some 6, _, _, _, _, _⟩) (v := ?v3) rfl (by kernel_rfl) (by kernel_rfl) (by kernel_rfl) (fun _ _ _ h => h) (Or.inl ⟨by rfl, ?hy3⟩) (by assumption) ?rest3
  case hy3 => (intro wz hSw; (try dsimp only at hSw); go_simp <;> with_reducible rfl)
  try simp only [Act.put, List.setIfInBounds_toArray, List.set_cons_zero, List.set_cons_succ]
  refine wpAnyH_take (i := 4) (oi := ⟨some 7, _, _, _, _, _⟩) (v := ?v4) rfl (by kernel_rfl) (by kernel_rfl) (by kernel_rfl) (fun _ _ _ h => h) (Or.inl ⟨by rfl, ?hy4⟩) (by assumption) ?rest4
  case hy4 => (intro wz hSw; (try dsimp only at hSw); go_simp <;> with_reducible rfl)
  try simp only [Act.put, List.setIfInBounds_toArray, List.set_cons_zero, List.set_cons_succ]
  refine wpAnyH_take (i := 5) (oi := ⟨some 8, _, _, _, _, _⟩) (v := ?v5) rfl (by kernel_rfl) (by kernel_rfl) (by kernel_rfl) (fun _ _ _ h => h) (Or.inl ⟨by rfl, ?hy5⟩) (by assumption) ?rest5
  case hy5 => (intro wz hSw; (try dsimp only at hSw); go_simp <;> with_reducible rfl)
  try simp only [Act.put, List.setIfInBounds_toArray, List.set_cons_zero, List.set_cons_succ]
  refine wpAnyH_take (i := 6) (oi := ⟨some 9, _, _, _, _, _⟩) (v := ?v6) rfl (by kernel_rfl) (by kernel_rfl) (by kernel_rfl) (fun _ _ _ h => h) (Or.inl ⟨by rfl, ?hy6⟩) (by assumption) ?rest6
  case hy6 => (intro wz hSw; (try dsimp only at hSw); go_simp <;> with_reducible rfl)
  try simp only [Act.put, List.setIfInBounds_toArray, List.set_cons_zero, List.set_cons_succ]
  refine wpAnyH_ready (rs := [7]) (by kernel_rfl) (by simp) ?_
  refine AllReadyH.cons (o := ⟨some 10, _, _, _, _, _⟩) rfl (fun K hK => ?_) AllReadyH.nil
  go_simp
  refine HT.out.mono ?_
  rintro e w3 ⟨E3, rfl, h3⟩
  exact ⟨E3, rfl, PanTo.first ((Sp.refl HS.out).drew) h3⟩
theorem St.hdCap {X : RX} {d : MD} {u : World} (h : St X d u) : (d.ha = none ∧ d.hc = 0) ∨ ∃ g, d.ha = some ⟨g, 0, none⟩ := by
  rcases h.hr.2 with ⟨e, _⟩ | ⟨g, cap, cur, e, _⟩
  · obtain ⟨e1, _, e3⟩ : d.ha = none ∧ d.held.length = 0 ∧ d.hc = 0 := by simpa using e
    exact .inl ⟨e1, e3⟩
  · obtain ⟨e1, _⟩ : d.ha = some ⟨g, 0, none⟩ ∧ d.hc = cap := by simpa using e
    exact .inr ⟨g, e1⟩
/-- the way out is noted, what was held is let go -/
theorem PanTo.caught {X : RX} {d : MD} {u u3 w1 : World} {q : DP} {E wb : Nat} (h0 : St X d u) (h3 : Sp X d u d u3) (hq : q.held = []) (hwb : u.heap.size ≤ wb) (hwl : wb < u3.heap.size) (k : PanTo X d u3 q E w1) : ∃ d1, Sp X d u3 d1 w1 ∧ d1.held = [] ∧ (¬ stB X d wb → PanTo X d u q E ((w1.setCell ⟨wb, 0, none⟩ (thrV E)).setCell ⟨X.T, 8, none⟩ (.slice d1.ha 0 d1.hc)).drew) := by
  obtain ⟨N, K, t1, c1, t2, c2, tr, d1, hN, hs, e, hEr⟩ := k
  have hh : d1.held = [] := (congrArg DP.held e : d1.held = q.held).trans hq
  refine ⟨d1, hs, hh, fun hns => ?_⟩
  have hs1 : Sp X d u d1 w1 := h3.trans hs
  have hn1 : ¬ stB X d1 wb := fun c => hns (hs.mv wb hwl c)
  have hs2 : Sp X d u d1 (w1.setCell ⟨wb, 0, none⟩ (thrV E)) := Sp.beside h0 hs1 (Gx.set _ _ _ _) hwb hn1
  have hs3 := Sp.cutH hs2.s (m := 0) (Nat.zero_le _)
  have hT : X.T < u.heap.size := h0.t.1.1
  refine ⟨N, K, t1, c1, t2, c2, tr, _, Nat.le_trans h3.g.size hN, (hs2.trans hs3).drew, ?_, ?_⟩
  · rw [← e]
    show d1.p.cutH 0 = d1.p
    show DP.mk d1.recs d1.ti (d1.held.take 0) d1.sc d1.line d1.vp d1.tab d1.liv = DP.mk d1.recs d1.ti d1.held d1.sc d1.line d1.vp d1.tab d1.liv
    rw [hh]
    rfl
  · have g : Gx (fun k => k = wb ∨ k = X.T) w1 ((w1.setCell ⟨wb, 0, none⟩ (thrV E)).setCell ⟨X.T, 8, none⟩ (.slice d1.ha 0 d1.hc)) := ((Gx.set w1 wb 0 _).mono (fun _ e => .inl e)).trans (Gx.set _ X.T 8 _) (fun _ _ e => .inr e)
    exact (hEr.gx g (fun k e => .inl (by have := h3.g.size; rcases e with e | e <;> omega))).call (Below.refl _ _).drew
set_option maxRecDepth 100000 in
set_option maxHeartbeats 8000000 in
theorem tattemptZ_calls (X : RX) (U : Ux) (P : PX) (L : LX) (Z : MX) (a b : Int) (d : MD) (mb fb : Nat) (u : World) (h : St X d u) (hX : ZX X U P L Z a b) (hzl : I64r Z.line) (h0 : DZ d) (hm : Bx X d u mb #[ptr X.M]) (hf : Bx X d u fb #[ptr X.F]) :
    Calls Tryz.prog 86 #[ptr X.T, rt2V mb fb] u fun e w' => ∃ E, e = .returned (thrV E) ∧ PanTo X d u (d.p.zr Z.line) E w' := by
  have HS : Hid (St X d u) := h
  have HX : Hid (ZX X U P L Z a b ∧ I64r Z.line) := ⟨hX, hzl⟩
  have H0 : Hid (DZ d) := h0
  have HM : Hid (Bx X d u mb #[ptr X.M]) := hm
  have HFb : Hid (Bx X d u fb #[ptr X.F]) := hf
  have t8 : u.cell? ⟨X.T, 8, none⟩ = some (.slice d.ha 0 d.hc) := by have e : u.cell? ⟨X.T, 8, none⟩ = some (.slice d.ha d.held.length d.hc) := h.t.1.cell 8 rfl; rw [h0.d0.h] at e; exact e
  have hTl := h.t.1.1
  clear h hX h0 hm hf hzl
  have hmf := mkFunc
  go_enter_defers Tryz.func86, Tryz.ntmps86
  go_wp2_with fail
  have HS3 : Hid (St X d (((u.alloc (.cells #[ptr X.T] 67)).alloc (.cells #[.nilIface] 127)).alloc (.cells #[.int .i64 0] 3))) := ((HS.out.alloc _).alloc _).alloc _
  refine (rt2Z_calls X U P L Z a b d mb fb _ HS3.out HX.out.1 HX.out.2 H0.out (((HM.out.1.alloc _).alloc _).alloc _) (((HFb.out.1.alloc _).alloc _).alloc _)).mono ?_
  rintro e w1 ⟨E, rfl, h1⟩
  have H1 : Hid (PanTo X d (((u.alloc (.cells #[ptr X.T] 67)).alloc (.cells #[.nilIface] 127)).alloc (.cells #[.int .i64 0] 3)) (d.p.zr Z.line) E w1) := h1
  clear h1 t8 hTl
  obtain ⟨E0, hE0⟩ : ∃ E0, u.heap.size = E0 := ⟨_, rfl⟩
  obtain ⟨u3, hu3⟩ : ∃ u3, ((u.alloc (.cells #[ptr X.T] 67)).alloc (.cells #[.nilIface] 127)).alloc (.cells #[.int .i64 0] 3) = u3 := ⟨_, rfl⟩
  have HB : Hid (Sp X d u d u3 ∧ u3.heap.size = E0 + 3 ∧ Bx X d u3 E0 #[ptr X.T] ∧ BxO X d u3 (E0 + 1) #[.nilIface] ∧ Bx X d u3 (E0 + 1 + 1) #[.int .i64 0]) := by
    have k1 := Bx.new HS.out #[ptr X.T] 67
    have k2 := BxO.new (HS.out.alloc (.cells #[ptr X.T] 67)) #[.nilIface] 127
    have k3 := Bx.new ((HS.out.alloc (.cells #[ptr X.T] 67)).alloc (.cells #[.nilIface] 127)) #[.int .i64 0] 3
    rw [World.size_alloc] at k2
    rw [World.size_alloc, World.size_alloc] at k3
    rw [← hu3, ← hE0]
    exact ⟨(((Sp.refl HS.out).alloc _).alloc _).alloc _, by simp, (k1.alloc _).alloc _, k2.alloc _, k3⟩
  rw [hu3] at H1
  have hEl : X.T < E0 := by rw [← hE0]; exact HS.out.t.1.1
  have HE0 : Hid (u.heap.size = E0) := hE0
  rw [hE0]
  clear hu3 hE0
  obtain ⟨d1, hs1, hh1, hP1⟩ := PanTo.caught (wb := E0 + 1) HS.out HB.out.1 (show (d.p.zr Z.line).held = [] from H0.out.d0.h) (by have := HE0.out; omega) (by have := HB.out.2.1; omega) H1.out
  have hP2 := hP1 HB.out.2.2.2.1.2
  have HP2 : Hid (PanTo X d u (d.p.zr Z.line) E ((w1.setCell ⟨E0 + 1, 0, none⟩ (thrV E)).setCell ⟨X.T, 8, none⟩ (.slice d1.ha 0 d1.hc)).drew) := hP2
  have kw := HB.out.2.2.2.1.step hs1
  have kt := (HB.out.2.2.1.step hs1).cell 0 rfl
  have kh := (HB.out.2.2.2.2.step hs1).cell 0 rfl
  have kT : w1.cell? ⟨X.T, 8, none⟩ = some (.slice d1.ha 0 d1.hc) := by have e : w1.cell? ⟨X.T, 8, none⟩ = some (.slice d1.ha d1.held.length d1.hc) := hs1.s.t.1.cell 8 rfl; rw [hh1] at e; exact e
  have kz := hs1.s.t.2
  have hcp := hs1.s.hdCap
  have HC := at1_catch E (E0 + 1) E0 (E0 + 1 + 1) X.T d1.ha d1.hc w1 (hcp.imp (fun h => h.1) id) (fun e => by
    rcases hcp with h | ⟨g, h⟩
    · exact h.2
    · rw [e] at h; cases h) (kw.1.1.cell 0 rfl) kw.1.2 kt kh kT kz (by omega) (by omega) (by omega)
  have HCC : Hid (CallsD Tryz.prog 146 #[ptr (E0 + 1), ptr E0, ptr (E0 + 1 + 1)] (.panicking (thC E)) w1 fun e u' w' => e = .returned (.tuple #[]) ∧ u' = .panicking (thD E) ∧ w' = ((w1.setCell ⟨E0 + 1, 0, none⟩ (thrV E)).setCell ⟨X.T, 8, none⟩ (.slice d1.ha 0 d1.hc)).drew) := HC
  have hcw := kw.1.1.cell 0 rfl
  clear HC hP1 hP2 hs1 hh1 kw kt kh kT kz hcp H1 HB
  go_wp2_with fail
  refine leaves_cons (f := 146) (args := #[ptr (E0 + 1), ptr E0, ptr (E0 + 1 + 1)]) (by simp) (by simp [go_sem]) ?_
  refine HCC.out.mono ?_
  rintro e u' w'' ⟨rfl, rfl, rfl⟩
  have r0 : ((w1.setCell ⟨E0 + 1, 0, none⟩ (thrV E)).setCell ⟨X.T, 8, none⟩ (.slice d1.ha 0 d1.hc)).drew.cell? ⟨E0 + 1, 0, none⟩ = some (thrV E) := by
    have hne : X.T ≠ E0 + 1 := by omega
    show ((w1.setCell ⟨E0 + 1, 0, none⟩ (thrV E)).setCell ⟨X.T, 8, none⟩ (.slice d1.ha 0 d1.hc)).cell? ⟨E0 + 1, 0, none⟩ = _
    rw [World.cell?_setCell_other _ _ _ _ (fun e => hne (congrArg Addr.block e))]
    simp [go_sem, hcw]
  refine ⟨_, ?_, E, rfl, HP2.out⟩
  simp [results, Tryz.results86, go_sem, r0]
/-- an error has left the text; the line is again z -/
def EndTo (X : RX) (d : MD) (u : World) (q : DP) (z : Int) (E : Nat) (w' : World) : Prop := ∃ N K t1 c1 t2 c2 tr d', u.heap.size ≤ N ∧ Sp X d u d' w' ∧ d'.p = ((q.tbl (.slice (some ⟨t1, 0, none⟩) 1 c1) (.slice (some ⟨t2, 0, none⟩) 1 c2)).rcd ⟨4, 0, 0, q.line, sE14⟩).ln z ∧ ErA N w' E K t1 q.line tr
theorem PanTo.line {X : RX} {d : MD} {u w1 : World} {q : DP} {E : Nat} (h0 : St X d u) (z : Int) (k : PanTo X d u q E w1) : ∃ d1, St X d1 w1 ∧ EndTo X d u q z E (w1.setCell ⟨X.F, 12, none⟩ (.int .i64 z)) := by
  obtain ⟨N, K, t1, c1, t2, c2, tr, d1, hN, hs, e, hEr⟩ := k
  have hF : X.F < u.heap.size := h0.f.1.1
  refine ⟨d1, hs.s, N, K, t1, c1, t2, c2, tr, _, hN, hs.trans (Sp.line hs.s z), ?_, hEr.gx (Gx.set w1 X.F 12 _) (fun k e => .inl (by omega))⟩
  show d1.p.ln z = _
  rw [e]
set_option maxRecDepth 100000 in
set_option maxHeartbeats 8000000 in
theorem fattemptZ_calls (X : RX) (U : Ux) (P : PX) (L : LX) (Z : MX) (a b : Int) (d : MD) (mb fb : Nat) (u : World) (h : St X d u) (hX : ZX X U P L Z a b) (hzl : I64r Z.line) (h0 : DZ d) (hm : Bx X d u mb #[ptr X.M]) (hf : Bx X d u fb #[ptr X.F]) :
    Calls Tryz.prog 50 #[ptr X.F, rt2V mb fb] u fun e w' => ∃ E, e = .returned (thrV E) ∧ EndTo X d u (d.p.zr Z.line) d.line E w' := by
  have HS : Hid (St X d u) := h
  have HX : Hid (ZX X U P L Z a b ∧ I64r Z.line) := ⟨hX, hzl⟩
  have H0 : Hid (DZ d) := h0
  have HM : Hid (Bx X d u mb #[ptr X.M]) := hm
  have HFb : Hid (Bx X d u fb #[ptr X.F]) := hf
  have f12 := h.f.1.cell 12 rfl
  have f0 := h.f.1.cell 0 rfl
  clear h hX h0 hm hf hzl
  go_enter Tryz.func50, Tryz.ntmps50
  go_wp2_with fail
  refine (tattemptZ_calls X U P L Z a b d mb fb _ HS.out HX.out.1 HX.out.2 H0.out HM.out HFb.out).mono ?_
  rintro e w1 ⟨E, rfl, h1⟩
  obtain ⟨d1, hs1, h2⟩ := PanTo.line HS.out d.line h1
  have HF : Hid (EndTo X d u (d.p.zr Z.line) d.line E (w1.setCell ⟨X.F, 12, none⟩ (.int .i64 d.line))) := h2
  clear h1 h2 f12 f0
  have f12 := hs1.f.1.cell 12 rfl
  have fz := hs1.f.2
  go_wp2_with fail
  go_ret
  exact ⟨E, rfl, HF.out⟩
end Go.Proofs.YtdialodjllpgaaaGreatDoor

/-! A step of nought: errors.As at an error that was thrown. -/
namespace Go.Proofs.YtdialodjllpgaaaGreatDoor
open Go.RowKit Go.Extern.Stop Go.Stop Go.Extern
attribute [local go_sem ↓] Go.wp_at_zero Go.wp_at_succ

theorem asV2 (t : Addr) (w : World) : (ReflectliteValue.unpack (.iface 131 (.pointer (some t)))).run Tryz.prog w
    = .ok (.agg #[hT 131, .pointer (some ⟨w.heap.size, 0, none⟩), .int .u64 150]) (w.alloc (.cells #[.pointer (some t)] 131)) := by kernel_rfl
theorem asT2 (a : Addr) (w : World) : (ReflectliteValue.methodAny (ReflectliteValue.valueError "reflectlite.Value.Type" 0) (fun t _ _ _ => ReflectliteType.toType t) #[.agg #[hT 131, .pointer (some a), .int .u64 150]]).run Tryz.prog w
    = .ok (.iface 227 (.agg #[hT 131])) w := by kernel_rfl
theorem asMK (h : Value) (w : World) : (Go.method 610 227 (.agg #[h]) "Kind").run Tryz.prog w = .ok (457, h) w := by kernel_rfl
theorem asK2 (w : World) : ((ReflectliteType.abiMethod fun t => (fun a : Nat => Value.int IntKind.u8 (a : Int)) <$> Rtype.kind t) #[hT 131]).run Tryz.prog w = .ok (.int .u8 22) w := by kernel_rfl
theorem asK1 (w : World) : ((ReflectliteType.abiMethod fun t => (fun a : Nat => Value.int IntKind.u8 (a : Int)) <$> Rtype.kind t) #[hT 117]).run Tryz.prog w = .ok (.int .u8 22) w := by kernel_rfl
theorem asP2 (a : Addr) (w : World) : (ReflectliteValue.parts (.agg #[hT 131, .pointer (some a), .int .u64 150])).run Tryz.prog w = .ok (some (131, a, 150)) w := by kernel_rfl
theorem rlmE (z : Sem Value) (f : TypeId → Addr → Nat → Nat → Sem Value) (v : Value) : ∃ g : Option (TypeId × Addr × Nat) → Sem Value, ReflectliteValue.method z f #[v] = (ReflectliteValue.parts v >>= g) ∧ ∀ t a fl, g (some (t, a, fl)) = f t a fl (fl % 32) := ⟨_, rfl, fun _ _ _ => rfl⟩
theorem rlsE (v x : Value) : ∃ g : Option (TypeId × Addr × Nat) → Option (TypeId × Addr × Nat) → Sem Value, ReflectliteValue.set #[v, x] = (ReflectliteValue.parts v >>= fun p => ReflectliteValue.parts x >>= fun q => g p q) ∧ ∀ (dst src : TypeId) (a b : Addr) (fl : Nat), ∃ H : Value → Bool → Sem Value, g (some (dst, a, 406)) (some (src, b, fl)) = (loadVar src b >>= fun val => Rtype.directlyAssignable dst src >>= fun c => H val c) ∧ ∀ val, H val true = (storeVar dst a val >>= fun _ => pure (.tuple #[])) := ⟨_, rfl, fun _ _ _ _ _ => ⟨_, rfl, fun _ => rfl⟩⟩
theorem asNil2 (a p : Addr) (W : World) (ha : W.cell? a = some (.pointer (some p))) :
    (ReflectliteValue.method (ReflectliteValue.valueError "reflectlite.Value.IsNil" 0) ReflectliteValue.isNil #[.agg #[hT 131, .pointer (some a), .int .u64 150]]).run Tryz.prog W = .ok (.bool false) W := by
  obtain ⟨g, h1, h2⟩ := rlmE (ReflectliteValue.valueError "reflectlite.Value.IsNil" 0) ReflectliteValue.isNil (.agg #[hT 131, .pointer (some a), .int .u64 150])
  rw [h1]
  simp only [Sem.run_bind, asP2, Result.andThen, h2]
  simp [ReflectliteValue.isNil, loadVar, isAgg, underlying, Tryz.underlying131, ha, Result.andThen]
theorem asME (h : Value) (w : World) : (Go.method 610 227 (.agg #[h]) "Elem").run Tryz.prog w = .ok (471, .agg #[h]) w := by kernel_rfl
theorem asMI (h : Value) (w : World) : (Go.method 610 227 (.agg #[h]) "Implements").run Tryz.prog w = .ok (472, .agg #[h]) w := by kernel_rfl
theorem asMA (h : Value) (w : World) : (Go.method 610 227 (.agg #[h]) "AssignableTo").run Tryz.prog w = .ok (469, .agg #[h]) w := by kernel_rfl
theorem asE2 (w : World) : (ReflectliteType.method ReflectliteType.elem #[.agg #[hT 131]]).run Tryz.prog w = .ok (.iface 227 (.agg #[hT 117])) w := by kernel_rfl
theorem asI1 (w : World) : (ReflectliteType.relation "Implements" ReflectliteType.implements_ #[.agg #[hT 117], .iface 227 (.agg #[hT 127])]).run Tryz.prog w = .ok (.bool true) w := by kernel_rfl
theorem asO1 (v : Value) (w : World) : (ReflectliteType.typeOf #[.iface 117 v]).run Tryz.prog w = .ok (.iface 227 (.agg #[hT 117])) w := by kernel_rfl
theorem asA1 (w : World) : (ReflectliteType.relation "AssignableTo" ReflectliteType.assignableTo #[.agg #[hT 117], .iface 227 (.agg #[hT 117])]).run Tryz.prog w = .ok (.bool true) w := by kernel_rfl
theorem asV1 (e : Addr) (w : World) : (ReflectliteValue.unpack (.iface 117 (.pointer (some e)))).run Tryz.prog w
    = .ok (.agg #[hT 117, .pointer (some ⟨w.heap.size, 0, none⟩), .int .u64 150]) (w.alloc (.cells #[.pointer (some e)] 117)) := by kernel_rfl
theorem asEO2 (w : World) : (Rtype.elem? 131).run Tryz.prog w = .ok (some 117) w := by kernel_rfl
theorem asM1 (p : Addr) (w : World) : (ReflectliteValue.mk 117 p ReflectliteValue.flagAddr).run Tryz.prog w = .ok (.agg #[hT 117, .pointer (some p), .int .u64 406]) w := by kernel_rfl
theorem asEV2 (a p : Addr) (W : World) (ha : W.cell? a = some (.pointer (some p))) :
    (ReflectliteValue.method (ReflectliteValue.valueError "reflectlite.Value.Elem" 0) ReflectliteValue.elem #[.agg #[hT 131, .pointer (some a), .int .u64 150]]).run Tryz.prog W
      = .ok (.agg #[hT 117, .pointer (some p), .int .u64 406]) W := by
  obtain ⟨g, h1, h2⟩ := rlmE (ReflectliteValue.valueError "reflectlite.Value.Elem" 0) ReflectliteValue.elem (.agg #[hT 131, .pointer (some a), .int .u64 150])
  rw [h1]
  simp only [Sem.run_bind, asP2, Result.andThen, h2]
  simp [ReflectliteValue.elem, loadVar, isAgg, underlying, Tryz.underlying131, ha, Result.andThen, asEO2, asM1]
theorem asP1a (a : Addr) (w : World) : (ReflectliteValue.parts (.agg #[hT 117, .pointer (some a), .int .u64 406])).run Tryz.prog w = .ok (some (117, a, 406)) w := by kernel_rfl
theorem asP1 (a : Addr) (w : World) : (ReflectliteValue.parts (.agg #[hT 117, .pointer (some a), .int .u64 150])).run Tryz.prog w = .ok (some (117, a, 150)) w := by kernel_rfl
theorem asD1 (w : World) : (Rtype.directlyAssignable 117 117).run Tryz.prog w = .ok true w := by kernel_rfl
theorem asS1 (ta b e : Addr) (old : Value) (W : World) (hb : W.cell? b = some (.pointer (some e))) (ht : W.cell? ta = some old) (hf : W.frozen? ta = false) :
    (ReflectliteValue.set #[.agg #[hT 117, .pointer (some ta), .int .u64 406], .agg #[hT 117, .pointer (some b), .int .u64 150]]).run Tryz.prog W
      = .ok (.tuple #[]) (W.setCell ta (.pointer (some e))) := by
  obtain ⟨g, h1, h2⟩ := rlsE (.agg #[hT 117, .pointer (some ta), .int .u64 406]) (.agg #[hT 117, .pointer (some b), .int .u64 150])
  obtain ⟨H, h3, h4⟩ := h2 117 117 ta b 150
  rw [h1]
  simp only [Sem.run_bind, asP1a, asP1, Result.andThen, h3]
  simp [loadVar, isAgg, underlying, Tryz.underlying117, hb, Result.andThen, asD1, h4, storeVar, Value.cells, storeCells, Addr.add]
  rw [run_store Tryz.prog W ta _ _ (by rfl)]
  simp [ht, hf]
end Go.Proofs.YtdialodjllpgaaaGreatDoor

/-! A step of nought: errors.As finds the error. -/
namespace Go.Proofs.YtdialodjllpgaaaGreatDoor
open Go.RowKit Go.Extern.Stop Go.Stop Go.Extern
attribute [local go_sem ↓] Go.wp_at_zero Go.wp_at_succ

set_option maxRecDepth 100000 in
set_option maxHeartbeats 8000000 in
theorem asThr_calls (e t : Addr) (old : Value) (w : World) (hg : EtP w) (ht0 : w.cell? t = some old) (hf0 : w.frozen? t = false) :
    Calls Tryz.prog 52 #[.iface 117 (.pointer (some e)), .iface 131 (.pointer (some t))] w fun ev w' => ev = .returned (.bool true) ∧ ∃ w4, Below w.heap.size w w4 ∧ w' = w4.setCell t (.pointer (some e)) := by
  have x1 := @run_callFunc_extern Tryz.prog 87 _ (fun args => ReflectliteValue.unpack (args.getD 0 (.tuple #[]))) Tryz.func87 (by kernel_rfl) (by kernel_rfl) (by kernel_rfl) (by kernel_rfl)
  have x2 := @run_callFunc_extern Tryz.prog 88 _ (ReflectliteValue.methodAny (ReflectliteValue.valueError "reflectlite.Value.Type" 0) (fun t _ _ _ => ReflectliteType.toType t)) Tryz.func88 (by kernel_rfl) (by kernel_rfl) (by kernel_rfl) (by kernel_rfl)
  have x3 := @run_callFunc_extern Tryz.prog 89 _ (ReflectliteValue.method (ReflectliteValue.valueError "reflectlite.Value.IsNil" 0) ReflectliteValue.isNil) Tryz.func89 (by kernel_rfl) (by kernel_rfl) (by kernel_rfl) (by kernel_rfl)
  have x4 := @run_callFunc_extern Tryz.prog 457 _ (ReflectliteType.abiMethod fun t => do pure (.int .u8 (← Rtype.kind t))) Tryz.func457 (by kernel_rfl) (by kernel_rfl) (by kernel_rfl) (by kernel_rfl)
  have x5 := @run_callFunc_extern Tryz.prog 471 _ (ReflectliteType.method ReflectliteType.elem) Tryz.func471 (by kernel_rfl) (by kernel_rfl) (by kernel_rfl) (by kernel_rfl)
  have x6 := @run_callFunc_extern Tryz.prog 472 _ (ReflectliteType.relation "Implements" ReflectliteType.implements_) Tryz.func472 (by kernel_rfl) (by kernel_rfl) (by kernel_rfl) (by kernel_rfl)
  have x7 := @run_callFunc_extern Tryz.prog 148 _ ReflectliteType.typeOf Tryz.func148 (by kernel_rfl) (by kernel_rfl) (by kernel_rfl) (by kernel_rfl)
  have x8 := @run_callFunc_extern Tryz.prog 469 _ (ReflectliteType.relation "AssignableTo" ReflectliteType.assignableTo) Tryz.func469 (by kernel_rfl) (by kernel_rfl) (by kernel_rfl) (by kernel_rfl)
  have x9 := @run_callFunc_extern Tryz.prog 149 _ (ReflectliteValue.method (ReflectliteValue.valueError "reflectlite.Value.Elem" 0) ReflectliteValue.elem) Tryz.func149 (by kernel_rfl) (by kernel_rfl) (by kernel_rfl) (by kernel_rfl)
  have x10 := @run_callFunc_extern Tryz.prog 150 _ ReflectliteValue.set Tryz.func150 (by kernel_rfl) (by kernel_rfl) (by kernel_rfl) (by kernel_rfl)
  have y1 := asO1
  have y2 := asMA
  have y3 := asA1
  have y4 := asV1
  have y5 := asV2
  have y6 := asT2
  have y7 := asMK
  have y8 := asME
  have y9 := asMI
  have y10 := asK2
  have y11 := asK1
  have y12 := asE2
  have y13 := asI1
  have htl : t.block < w.heap.size := World.block_lt_of_cell? w t ht0
  have hgl : 0 < w.heap.size := World.block_lt_of_cell? w ⟨0, 0, none⟩ hg
  obtain ⟨w1, hw1⟩ : ∃ w1, w.alloc (.cells #[.pointer (some t)] 131) = w1 := ⟨_, rfl⟩
  obtain ⟨w2, hw2⟩ : ∃ w2, w1.alloc (.cells #[hT 131, .pointer (some ⟨w.heap.size, 0, none⟩), .int .u64 150] 177) = w2 := ⟨_, rfl⟩
  have b1 : Below w.heap.size w w1 := by rw [← hw1]; exact below_alloc _ _
  have b2 : Below w.heap.size w w2 := by rw [← hw2]; exact b1.alloc b1.size _
  have n1 := asNil2 ⟨w.heap.size, 0, none⟩ t w2 (by rw [← hw2, ← hw1]; exact ((Has.new w _ _).alloc _).cell 0 rfl)
  have g2 : w2.cell? ⟨0, 0, none⟩ = some (.iface 227 (.agg #[hT 127])) := (b2.cell (p := ⟨0, 0, none⟩) hgl).trans hg
  obtain ⟨w3, hw3⟩ : ∃ w3, w2.alloc (.cells #[hT 131, .pointer (some ⟨w.heap.size, 0, none⟩), .int .u64 150] 177) = w3 := ⟨_, rfl⟩
  obtain ⟨w4, hw4⟩ : ∃ w4, w3.alloc (.cells #[.pointer (some e)] 117) = w4 := ⟨_, rfl⟩
  have b3 : Below w.heap.size w w3 := by rw [← hw3]; exact b2.alloc b2.size _
  have b4 : Below w.heap.size w w4 := by rw [← hw4]; exact b3.alloc b3.size _
  have e2 : Has w2 w1.heap.size #[hT 131, .pointer (some ⟨w.heap.size, 0, none⟩), .int .u64 150] := by rw [← hw2]; exact Has.new w1 _ _
  have e3 : Has w3 w2.heap.size #[hT 131, .pointer (some ⟨w.heap.size, 0, none⟩), .int .u64 150] := by rw [← hw3]; exact Has.new w2 _ _
  have q0 : w2.cell? ⟨w1.heap.size, 0, none⟩ = some (hT 131) := e2.cell 0 rfl
  have q1 : w2.cell? ⟨w1.heap.size, 1, none⟩ = some (.pointer (some ⟨w.heap.size, 0, none⟩)) := e2.cell 1 rfl
  have q2 : w2.cell? ⟨w1.heap.size, 2, none⟩ = some (.int .u64 150) := e2.cell 2 rfl
  have r0 : w3.cell? ⟨w2.heap.size, 0, none⟩ = some (hT 131) := e3.cell 0 rfl
  have r1 : w3.cell? ⟨w2.heap.size, 1, none⟩ = some (.pointer (some ⟨w.heap.size, 0, none⟩)) := e3.cell 1 rfl
  have r2 : w3.cell? ⟨w2.heap.size, 2, none⟩ = some (.int .u64 150) := e3.cell 2 rfl
  have el := asEV2 ⟨w.heap.size, 0, none⟩ t w3 (by rw [← hw3, ← hw2, ← hw1]; exact (((Has.new w _ _).alloc _).alloc _).cell 0 rfl)
  have st := asS1 t ⟨w3.heap.size, 0, none⟩ e old w4 (by rw [← hw4]; exact (Has.new w3 _ _).cell 0 rfl) ((b4.cell (p := t) htl).trans ht0) ((b4.frozen (p := t) htl).trans hf0)
  have HB4 : Hid (Below w.heap.size w w4) := b4
  clear b1 b2 b3 b4 e2 e3 ht0 hf0 htl hgl hg
  go_enter Tryz.func52, Tryz.ntmps52
  go_wp2
  refine wp_loop_rounds 1 ?_
  rw [rounds_succ]
  go_wp2
  go_ret
  exact ⟨rfl, w4, HB4.out, rfl⟩
end Go.Proofs.YtdialodjllpgaaaGreatDoor

/-! A step of nought: the text's run ends with the error. -/
namespace Go.Proofs.YtdialodjllpgaaaGreatDoor
open Go.RowKit
attribute [local go_sem] run_store_float
attribute [local go_sem ↓] Go.wp_at_zero Go.wp_at_succ

/-- what a text shows whose loop's step is nought -/
abbrev zrR (L0 : Int) : List RcD := [⟨1, 0, 0, L0, ⟨#[]⟩⟩, ⟨4, 0, 0, L0, sE14⟩]
/-- the machine, behind the error -/
structure ZEnd (X : RX) (w : World) (L0 : Int) (w' : World) : Prop where
  g : Gx (fun k => k = X.M ∨ k = X.T) w w'
  c : ∃ tr ti ra rc, X.M < w'.heap.size ∧ w'.cell? ⟨X.M, 8, none⟩ = some (.int .i64 1) ∧ w'.cell? ⟨X.M, 9, none⟩ = some (.slice ra 2 rc) ∧ w'.cell? ⟨X.M, 10, none⟩ = some (.slice none 0 0) ∧ w'.cell? ⟨X.M, 11, none⟩ = some (.string sE14) ∧ w'.cell? ⟨X.M, 12, none⟩ = some (.string tr) ∧ w'.cell? ⟨X.M, 13, none⟩ = some (.int .i64 ti) ∧ w'.cell? ⟨X.M, 14, none⟩ = some (.int .i64 0) ∧ w'.cell? ⟨X.M, 24, none⟩ = some X.en ∧ w'.cell? ⟨X.M, 25, none⟩ = some (.int .u64 0) ∧ RcsAt 0 w' ra 2 (fun i => (zrR L0).getD i ⟨0, 0, 0, 0, ⟨#[]⟩⟩)
/-- the three stores -/
theorem zend_of {X : RX} {d : MD} {w6 : World} {L0 : Int} {tr : ByteArray} (h : St X d w6) (hr : d.recs = zrR L0) (w : World) (hg : Gx (fun k => k = X.M ∨ k = X.T) w w6) :
    ZEnd X w L0 (((w6.setCell ⟨X.M, 8, none⟩ (.int .i64 1)).setCell ⟨X.M, 11, none⟩ (.string sE14)).setCell ⟨X.M, 12, none⟩ (.string tr)) := by
  have o1 := h.m.set (o := 8) (by show 8 < 27; omega) (.int .i64 1)
  have o2 := o1.set (o := 11) (by show 11 < 27; omega) (.string sE14)
  have o3 := o2.set (o := 12) (by show 12 < 27; omega) (.string tr)
  have g3 : Gx (fun k => k = X.M) w6 (((w6.setCell ⟨X.M, 8, none⟩ (.int .i64 1)).setCell ⟨X.M, 11, none⟩ (.string sE14)).setCell ⟨X.M, 12, none⟩ (.string tr)) := ((Gx.set w6 X.M 8 _).trans (Gx.set _ X.M 11 _) (fun _ _ e => e)).trans (Gx.set _ X.M 12 _) (fun _ _ e => e)
  have hrs := rcs_of h.rr
  rw [hr] at hrs
  have c9 : (mA X d)[9]? = some (.slice d.ra 2 d.rc) := by
    show some (Value.slice d.ra d.recs.length d.rc) = _
    rw [hr]; rfl
  refine ⟨hg.trans g3 (fun _ _ e => .inl e), tr, d.ti, d.ra, d.rc, o3.1.1, o3.1.cell 8 rfl, ?_, o3.1.cell 10 rfl, o3.1.cell 11 rfl, o3.1.cell 12 rfl, o3.1.cell 13 rfl, o3.1.cell 14 rfl, o3.1.cell 24 rfl, o3.1.cell 25 rfl, hrs.gx g3 (fun b e _ c => ?_)⟩
  · refine (o3.1.2 9).trans ?_
    exact c9
  · have h1 := (own_ge h.rr (k := b.block) (by rw [e]; rfl)).1
    have := h.x.m; have := h.x.t; have := h.x.tN
    omega
end Go.Proofs.YtdialodjllpgaaaGreatDoor

/-! A step of nought: the text is run. -/
namespace Go.Proofs.YtdialodjllpgaaaGreatDoor
open Go.RowKit
attribute [local go_sem] run_store_float
attribute [local go_sem ↓] Go.wp_at_zero Go.wp_at_succ

/-- what the report's statement reads -/
abbrev RdS (X : RX) (mb eb E : Nat) (tr : ByteArray) (w' : World) : Prop := w'.cell? ⟨mb, 0, none⟩ = some (ptr X.M) ∧ w'.cell? ⟨eb, 0, none⟩ = some (ptr E) ∧ w'.cell? ⟨E, 0, none⟩ = some (.int .i64 5) ∧ w'.cell? ⟨E, 1, none⟩ = some (.int .i64 0) ∧ w'.cell? ⟨E, 2, none⟩ = some (.float .f64 0) ∧ w'.cell? ⟨E, 3, none⟩ = some (.string ⟨#[]⟩) ∧ w'.cell? ⟨E, 4, none⟩ = some (.int .i64 0) ∧ w'.cell? ⟨E, 5, none⟩ = some (.string tr)
/-- ahead of the report's statement -/
structure RdP (X X' : RX) (w : World) (L0 : Int) (mb eb E : Nat) (tr : ByteArray) (d : MD) (w5 : World) : Prop where
  s : St X' d w5
  r : d.recs = zrR L0
  g : Gx (fun k => k = X.M ∨ k = X.T) w w5
  b : ∀ w', Gx (fun k => k = X.M) w5 w' → RdS X mb eb E tr w'
  t : Calls Tryz.prog 53 #[ptr X.M, vOf 5 0 0 ⟨#[]⟩ 0] w5.drew fun e w' => e = .returned (.string sE14) ∧ Below w5.heap.size w5 w'
theorem rdP_of {X X' : RX} {F V R N' frc : Nat} {rA : Array Value} (hX' : X' = xF X F V R N' frc rA) {U : Ux} {P : PX} {L : LX} {Z : MX} {a b : Int} (hX : ZX X' U P L Z a b) {w w2 w3 w4 : World} {d1 : MD} {N E K t1 c1 mb : Nat} {tr : ByteArray} (h2 : St X' dZ w2) (hmb : Bx X' dZ w2 mb #[ptr X.M]) (hs : Sp X' dZ w2 d1 w3) (hg : Gx (fun k => k = X.M ∨ k = X.T) w w3) (hr : d1.recs = zrR Z.line) (ht : d1.tab = .slice (some ⟨t1, 0, none⟩) 1 c1) (hE : ErA N w3 E K t1 Z.line tr) (hN : w2.heap.size ≤ N) (hww : w.heap.size ≤ w3.heap.size) (hb : Below (w3.alloc (.cells #[.pointer none] 117)).heap.size (w3.alloc (.cells #[.pointer none] 117)) w4) :
    RdP X X' w Z.line mb w3.heap.size E tr d1 (w4.setCell ⟨w3.heap.size, 0, none⟩ (ptr E)) := by
  have hM : X'.M = X.M := by rw [hX']
  have hb3 : Below w3.heap.size w3 w4 := below_call (below_alloc _ _) hb
  have hs4 : Sp X' dZ w2 d1 w4 := hs.call hb3
  have hn : ¬ stB X' d1 w3.heap.size := hs.s.other (Nat.le_refl _)
  have hs5 : Sp X' dZ w2 d1 (w4.setCell ⟨w3.heap.size, 0, none⟩ (ptr E)) := Sp.beside h2 hs4 (Gx.set _ _ _ _) hs.g.size hn
  have g5 : Gx (fun k => k = w3.heap.size) w3 (w4.setCell ⟨w3.heap.size, 0, none⟩ (ptr E)) := (Gx.below _ hb3).trans (Gx.set _ _ _ _) (fun _ _ e => e)
  have hE5 := hE.gx g5 (fun k e => .inr (by omega))
  have hmb5 := hmb.step hs5
  have heb : (w4.setCell ⟨w3.heap.size, 0, none⟩ (ptr E)).cell? ⟨w3.heap.size, 0, none⟩ = some (ptr E) := by
    have h1 : w4.cell? ⟨w3.heap.size, 0, none⟩ = some (.pointer none) := ((hb.cell (p := ⟨w3.heap.size, 0, none⟩) (by simp))).trans ((Has.new w3 _ _).cell 0 rfl)
    simp [go_sem, h1]
  have hMn : X.M ≠ mb := fun e => hmb5.2 (.inl (by rw [hM]; exact e.symm))
  have hMl : X.M < w2.heap.size := by rw [← hM]; exact h2.m.1.1
  have hl3 : w2.heap.size ≤ w3.heap.size := hs.g.size
  refine ⟨hs5.s, hr, hg.trans g5 (fun k hk e => by omega), fun w' g => ?_, ?_⟩
  · have hm := g.has hmb5.1 (fun e => hMn e.symm)
    have he := g.ownB hE5.e (fun e => by have := hE5.eN; omega)
    have hk : w'.cell? ⟨w3.heap.size, 0, none⟩ = some (ptr E) := (World.cell?_of_block (a := ⟨w3.heap.size, 0, none⟩) (g.block w3.heap.size (by have := hb.size; simp at this ⊢; omega) (by omega))).trans heb
    exact ⟨hm.cell 0 rfl, hk, he.1.cell 0 rfl, he.1.cell 1 rfl, he.1.cell 2 rfl, he.1.cell 3 rfl, he.1.cell 4 rfl, he.1.cell 5 rfl⟩
  · have h := told_calls X' d1 (w4.setCell ⟨w3.heap.size, 0, none⟩ (ptr E)).drew hs5.s.drew t1 c1 K Z.line ht hE5.tl hE5.t (fun w' hb' => (hE5.call (below_call (Below.refl _ _).drew hb')).ex) hX.t
    rw [hM] at h
    exact h.mono fun e w' h => ⟨h.1, below_call (Below.refl _ _).drew h.2⟩
set_option maxRecDepth 100000 in
set_option maxHeartbeats 8000000 in
theorem runTextZ_calls (X : RX) (U : Ux) (P : PX) (L : LX) (Z : MX) (a b : Int) (w : World) (h : Pm X w) (hU : U.ok X) (hX : ∀ F V R N' frc rA, ZX (xF X F V R N' frc rA) U P L Z a b) (hzl : I64r Z.line) (hEt : ∀ w', Gx (fun k => k = X.M ∨ k = X.T) w w' → EtP w') :
    Calls Tryz.prog 23 #[ptr X.M] w fun e w' => e = .returned (.tuple #[]) ∧ ZEnd X w Z.line w' := by
  have HP : Hid (Pm X w) := h
  have HU : Hid (U.ok X) := hU
  have HX : Hid (∀ F V R N' frc rA, ZX (xF X F V R N' frc rA) U P L Z a b) := hX
  have HEt : Hid (∀ w', Gx (fun k => k = X.M ∨ k = X.T) w w' → EtP w') := hEt
  have HZL : Hid (I64r Z.line) := hzl
  have m1 := h.m.1.cell 1 rfl
  have hMl := h.m.1.1
  have hTl := h.t.1.1
  clear h hU hX hEt hzl
  have hmf := mkFunc
  go_enter_defers Tryz.func23, Tryz.ntmps23
  go_wp2_with fail
  obtain ⟨w1, hw1⟩ : ∃ w1, w.alloc (.cells #[ptr X.M] 40) = w1 := ⟨_, rfl⟩
  have HP1 : Hid (Pm X w1 ∧ OwnB w1 w.heap.size #[ptr X.M] ∧ w1.heap.size = w.heap.size + 1 ∧ Below w.heap.size w w1) := by
    rw [← hw1]
    exact ⟨HP.out.alloc _, OwnB.new _ _ _, by simp, below_alloc _ _⟩
  rw [hw1]
  have b0 := HP1.out.2.1.1.cell 0 rfl
  clear hw1 m1
  go_loopw [2, 17] (fun v i wr => v = .slice none 0 0 ∧ i = .int .i64 0 ∧ wr = w1) (fun _ _ _ => 0)
  case atStart => exact ⟨rfl, rfl, rfl⟩
  case round =>
    obtain ⟨rfl, rfl, rfl⟩ := hrel
    go_wp2_with fail
    refine (newFrame_calls X U _ HP1.out.1 HU.out).mono ?_
    rintro e w2 ⟨F, V, R, N', frc, rA, rfl, hst, hg2, hF, hV⟩
    obtain ⟨X', hX'⟩ : ∃ X', X' = xF X F V R N' frc rA := ⟨_, rfl⟩
    have HS2 : Hid (St X' dZ w2 ∧ Gx (fun k => k = X.M ∨ k = X.T) wr w2) := ⟨hX' ▸ hst, hg2⟩
    have hbs : wr.heap.size = w.heap.size + 1 := HP1.out.2.2.1
    have HM2 : Hid (Bx X' dZ w2 w.heap.size #[ptr X.M]) := ⟨hg2.has HP1.out.2.1.1 (fun e => by
      rcases e with e | e <;> omega), fun e => by
      subst hX'
      rcases e with e | e | e | e | e | e | e
      · replace e : w.heap.size = X.M := e
        omega
      · replace e : w.heap.size = X.T := e
        omega
      · replace e : w.heap.size = F := e
        omega
      · replace e : w.heap.size = V := e
        omega
      · cases e
      · cases e
      · cases e⟩
    have b2 := HM2.out.cell 0 rfl
    have hE : w.heap.size < w2.heap.size := HM2.out.1.1
    have HFV : Hid (w.heap.size ≤ F ∧ w.heap.size ≤ V) := ⟨by omega, by omega⟩
    clear hst hg2 hF hV b0 hbs
    go_wp2_with fail
    subst hX'
    have HB : Hid (Bx (xF X F V R N' frc rA) dZ (w2.alloc (.cells #[ptr F] 124)) w2.heap.size #[ptr F]) := Bx.new HS2.out.1 _ _
    refine (fattemptZ_calls (xF X F V R N' frc rA) U P L Z a b dZ w.heap.size w2.heap.size _ (HS2.out.1.alloc _) (HX.out F V R N' frc rA) HZL.out ⟨⟨rfl, rfl, rfl, rfl⟩, rfl, rfl⟩ (HM2.out.alloc _) HB.out).mono ?_
    rintro e w3 ⟨E, rfl, N, K, t1, c1, t2, c2, tr, d1, hN, hs1, e1, hEr⟩
    obtain ⟨X', hX'⟩ : ∃ X', X' = xF X F V R N' frc rA := ⟨_, rfl⟩
    have hg3 : Gx (fun k => k = X.M ∨ k = X.T) w w3 := ((Gx.below _ HP1.out.2.2.2).trans HS2.out.2 (fun _ _ e => e)).trans (Sp.first HS2.out.1 hs1).g (fun k hk e => by
      have hFV := HFV.out
      rcases e with e | e | e | e | e | e | e
      · exact .inl e
      · exact .inr e
      · replace e : k = F := e
        omega
      · replace e : k = V := e
        omega
      · cases e
      · cases e
      · cases e)
    have H3 : Hid (Sp X' dZ w2 d1 w3 ∧ Gx (fun k => k = X.M ∨ k = X.T) w w3 ∧ d1.recs = zrR Z.line ∧ d1.tab = .slice (some ⟨t1, 0, none⟩) 1 c1 ∧ ErA N w3 E K t1 Z.line tr ∧ w2.heap.size ≤ N) := by
      rw [hX']
      exact ⟨Sp.first HS2.out.1 hs1, hg3, congrArg DP.recs e1, congrArg DP.tab e1, hEr, by simp at hN; omega⟩
    clear hs1 e1 hEr hN hg3 b2 HB
    rw [← hX'] at HM2
    have b3 := (HM2.out.step H3.out.1).cell 0 rfl
    have hE3 : w.heap.size < w3.heap.size := (HM2.out.step H3.out.1).1.1
    have HX' : Hid (X' = xF X F V R N' frc rA) := hX'
    clear hX'
    have HW4 : Hid (Gx (fun k => k = X.M ∨ k = X.T) w (w3.alloc (.cells #[.pointer none] 117))) := H3.out.2.1.trans (Gx.below _ (below_alloc _ _)) (fun _ _ e => e)
    go_wp2_with fail
    refine (asThr_calls ⟨E, 0, none⟩ ⟨w3.heap.size, 0, none⟩ (.pointer none) _ (HEt.out _ HW4.out) ((Has.new w3 _ _).cell 0 rfl) ((OwnB.new w3 _ _).2 0)).mono ?_
    rintro e w5 ⟨rfl, w4, hb4, hw5⟩
    have HR : Hid (RdP X X' w Z.line w.heap.size w3.heap.size E tr d1 w5) := by
      rw [hw5]
      exact rdP_of HX'.out (HX'.out ▸ HX.out F V R N' frc rA) (HX'.out ▸ HS2.out.1) HM2.out H3.out.1 H3.out.2.1 H3.out.2.2.1 H3.out.2.2.2.1 H3.out.2.2.2.2.1 H3.out.2.2.2.2.2 H3.out.2.1.size hb4
    have hs5 : w3.heap.size < w5.heap.size := by rw [hw5]; have := hb4.size; simp at this ⊢; omega
    clear hb4 hw5 HW4 H3 HM2 HS2 HP1 HFV b3
    obtain ⟨mb, hmb⟩ : ∃ mb, w.heap.size = mb := ⟨_, rfl⟩
    obtain ⟨eb, heb⟩ : ∃ eb, w3.heap.size = eb := ⟨_, rfl⟩
    rw [hmb] at HR
    rw [heb] at HR
    rw [hmb]
    rw [heb]
    clear heb hE hE3 hs5
    have HK : Hid (∀ w', Gx (fun k => k = X.M) w5 w' → w'.cell? ⟨mb, 0, none⟩ = some (ptr X.M) ∧ w'.cell? ⟨eb, 0, none⟩ = some (ptr E) ∧ w'.cell? ⟨E, 0, none⟩ = some (.int .i64 5) ∧ w'.cell? ⟨E, 1, none⟩ = some (.int .i64 0) ∧ w'.cell? ⟨E, 2, none⟩ = some (.float .f64 0) ∧ w'.cell? ⟨E, 3, none⟩ = some (.string ⟨#[]⟩) ∧ w'.cell? ⟨E, 4, none⟩ = some (.int .i64 0) ∧ w'.cell? ⟨E, 5, none⟩ = some (.string tr)) := HR.out.b
    have HMM : Hid (X'.M = X.M) := by show X'.M = X.M; rw [HX'.out]
    have HO6 : Hid (∀ w6, Below w5.heap.size w5 w6 → OwnB w6 X.M (mA X' d1)) := fun w6 hb => by have h := (HR.out.s.call hb).m; rw [HMM.out] at h; exact h
    have HG0 : Hid (Gx (fun k => k = X.M) w5 w5.drew) := Gx.below _ (Below.refl _ _).drew
    have HT : Hid (Calls Tryz.prog 53 #[ptr X.M, vOf 5 0 0 ⟨#[]⟩ 0] w5.drew fun e w' => e = .returned (.string sE14) ∧ Below w5.heap.size w5 w') := HR.out.t
    go_wp2_with fail
    go_region_held3 (fun w' => w'.cell? ⟨mb, 0, none⟩ = some (ptr X.M) ∧ w'.cell? ⟨eb, 0, none⟩ = some (ptr E) ∧ w'.cell? ⟨E, 0, none⟩ = some (.int .i64 5) ∧ w'.cell? ⟨E, 1, none⟩ = some (.int .i64 0) ∧ w'.cell? ⟨E, 2, none⟩ = some (.float .f64 0) ∧ w'.cell? ⟨E, 3, none⟩ = some (.string ⟨#[]⟩) ∧ w'.cell? ⟨E, 4, none⟩ = some (.int .i64 0) ∧ w'.cell? ⟨E, 5, none⟩ = some (.string tr)) (first | (with_reducible exact HK.out _ HG0.out) | (with_reducible exact HK.out _ HG6.out) | (with_reducible exact HK.out _ (HG6.out.trans (Gx.set _ _ _ _) (fun _ _ e => e))) | (with_reducible exact HK.out _ ((HG6.out.trans (Gx.set _ _ _ _) (fun _ _ e => e)).trans (Gx.set _ _ _ _) (fun _ _ e => e))) | (with_reducible exact HK.out _ (((HG6.out.trans (Gx.set _ _ _ _) (fun _ _ e => e)).trans (Gx.set _ _ _ _) (fun _ _ e => e)).trans (Gx.set _ _ _ _) (fun _ _ e => e)))) ((go_at_call 53; refine HT.out.mono ?_; rintro e w6 ⟨rfl, hb6⟩; have HG6 : Hid (Gx (fun k => k = X.M) w5 w6) := Gx.below _ hb6; have HB6 : Hid (Below w5.heap.size w5 w6) := hb6; have m8 := (HO6.out w6 hb6).1.cell 8 rfl; have m11 := (HO6.out w6 hb6).1.cell 11 rfl; have m12 := (HO6.out w6 hb6).1.cell 12 rfl; have mz := (HO6.out w6 hb6).2; clear hb6))
    have HZ : Hid (ZEnd X w Z.line (((w6.setCell ⟨X.M, 8, none⟩ (.int .i64 1)).setCell ⟨X.M, 11, none⟩ (.string sE14)).setCell ⟨X.M, 12, none⟩ (.string tr))) := by
      have hX := HX'.out
      have hs := HR.out.s
      subst hX
      have h := zend_of (X := xF X F V R N' frc rA) (tr := tr) (hs.call HB6.out) HR.out.r w (HR.out.g.trans (Gx.below _ HB6.out) (fun _ _ e => e))
      exact ⟨h.g, h.c⟩
    clear HK HMM HO6 HG0 HT HR HG6 HB6 m8 m11 m12 mz
    go_wp2_with fail
    refine leaves_cons (f := 46) (args := #[ptr mb]) (by simp) (by simp [go_sem]) ?_
    refine (rt1_idle _ _).mono ?_
    rintro e u' w'' ⟨rfl, rfl, rfl⟩
    simp [Leaves, settle, results, Tryz.results23, go_sem]
    exact HZ.out
end Go.Proofs.YtdialodjllpgaaaGreatDoor

/-! A step of nought: what ZeroSays says. -/
namespace Go.Proofs.YtdialodjllpgaaaGreatDoor
open Go.RowKit

/-- what the machine was made of is what the text's run stands on, where the step is nought -/
theorem zx_of {v v' : World} {d : FD} {x : FA} {m s : Nat} {X : RX} {E bb : Nat} {P : PX} {L : LX} {Z : MX} {u0 : World} {a b : Int} {rb ro ub uo uc : Nat}
    (h : NM v (.slice (some ⟨ub, uo, none⟩) 1 uc) d x (nodeC (d.nd s) (x.nas s)) (nodeC (d.nd m) (x.nas m)) X E bb P L Z u0 v') (hU : U1x v d x ub uo) (hnm : v.cell? ⟨ub, uo, none⟩ = some (.string sMain)) (hd : NdX d x m s a b 0 rb ro v) (hT : TabP v) (F V R N' frc : Nat) (rA : Array Value) :
    ZX (xF X F V R N' frc rA) ⟨ub, uo, uc, x.va, x.vc⟩ (pxR P bb (.slice x.na d.nn x.nc) (nodeC (d.nd s) (x.nas s)) (d.nd s).l) (lxR L rb ro (x.nas m).rc) (mxR Z (nodeC (d.nd m) (x.nas m)) (d.nd m).l) a b := by
  have hB := h.b
  have hmu := hB.mu
  have hvs := hB.k.size
  have ho : ∀ {B : Nat} {A : Array Value}, Nw u0 X.W B A → Od (xF X F V R N' frc rA) B A := fun q => ⟨q.h, by show _ ≠ X.M; have := q.n; omega⟩
  have hn := (hd.n.2 m hd.lm).1
  have t := hB.t
  have c := t.c
  have e := c.e
  have hu := ux_of h hU
  refine ⟨?_, ?_, ?_, ?_, ⟨hu.f, hu.lt, hu.ne, hu.p, hu.r, hu.v⟩, (hB.k.cell (p := ⟨ub, uo, none⟩) hU.lt).trans hnm⟩
  · intro u hu
    have hg : Below v.heap.size X.W u := hu.to (by exact hvs) (fun k e => by
      rcases e with e | e
      · replace e : k = X.M := e
        have := hB.mw; omega
      · replace e : X.W.heap.size ≤ k := e
        omega)
    exact TabP.keep hT (hB.k.trans hg) (Nat.le_refl _)
  · exact ⟨⟨hB.b, hB.bu⟩, ho e.o, ho e.l1, ho e.l2, ho e.v1, ho e.v2, ho e.c, ho e.p1, ho e.p2, ho e.a1, ho e.a2, ho e.d1, ho e.s1, ho e.s2, rfl, ho e.s3, ho e.k1, ⟨⟨e.kl, e.kv⟩, by show P.ka ≠ X.M; have := e.ka; omega⟩⟩
  · refine ⟨ho c.c1, ho c.c2, ho c.on.o3, ⟨RowN.less c.on.row (Nat.zero_le _), fun b hb => ?_, fun i hi => ?_⟩, ho c.c3, ?_, ?_, by show rb ≠ X.M; have := hB.mw; have := hd.rl; omega, ho c.c4⟩
    · obtain ⟨b', off, e1, e2, _⟩ := c.on.row (by omega)
      replace hb : L.oa = some b := hb
      rw [hb] at e1
      cases e1
      show b' ≠ X.M
      omega
    · have q := c.on.bs i hi
      refine ⟨?_, by show L.Bs i ≠ X.M; have := q.n; omega⟩
      have hl : litD (d.nd i) = v3 a b 0 i := by
        rcases (show i = 0 ∨ i = 1 ∨ i = 2 by omega) with rfl | rfl | rfl
        · exact hd.l0
        · exact hd.l1
        · exact hd.l2
      rw [← hl]
      exact q.h
    · show L.nA[6]? = _
      rw [t.nA]
      show some (Value.slice (x.nas m).ra (d.nd m).rn (x.nas m).rc) = _
      rw [hd.ra, hd.rn]
    · intro _
      obtain ⟨b', off, e1, _, e2, e3⟩ := hn (by rw [hd.rn]; omega)
      rw [hd.ra] at e1
      cases e1
      refine ⟨rb, ro, rfl, Nat.zero_le _, by show rb < X.W.heap.size; have := hd.rl; omega, fun i hi j hj => ?_⟩
      have h0 := e3 i (by rw [hd.rn]; exact hi) j hj
      have hi0 : i = 0 := by omega
      subst hi0
      rw [show (fun i => #[Value.int .i64 ((d.nd m).r i)]) 0 = #[.int .i64 0] by show #[Value.int .i64 ((d.nd m).r 0)] = _; rw [hd.r0]] at h0
      exact (hB.k.cell (p := ⟨rb, ro + 0 * 1 + j, none⟩) hd.rl).trans h0
  · exact ⟨ho t.s1, ho t.s2, rfl, ho t.s3, ho t.k1, ⟨⟨t.kl, t.kv⟩, by show Z.ka ≠ X.M; have := t.ka; omega⟩, h.bod, ⟨⟨hB.bo.1, hB.bo.2.2⟩, hB.bo.2.1⟩⟩
theorem cu_nm {a b s l6 l7 l8 : Int} {ub : Nat} {x : FA} {w : World} (h : FnsAt 0 w 1 (fun _ => cuF a b s l6 l7 l8) (some ⟨ub, 0, none⟩) (fun _ => x)) : w.cell? ⟨ub, 0, none⟩ = some (.string sMain) := by
  obtain ⟨b', off, e, _, hl, c0, c1, c2, c3, c4, c5, c6⟩ := cells7 h.1 (k := 0) (by omega)
  cases e
  exact c0
theorem zeroSays : ZeroSays := by
  intro a b l6 l7 l8 x ub uc v v' X E bb P L Z u0 _ _ _ _ hF hT hEt hln h
  obtain ⟨rb, ro, hnd⟩ := ndx_of (hF.2 0 (by omega)).2.2
  have hd := hnd v (Below.refl _ _)
  have hB := h.b
  have hvW := hB.k.size
  have hmw := hB.mw
  have hlt := h.pm.lt
  have hWs := h.pm.k.size
  have hEl : E < X.W.heap.size := (Array.getElem?_eq_some_iff.1 hB.e).1
  refine (runTextZ_calls X _ _ _ _ a b v' h.pm (ux_of h (cu_u1x hF)) (fun F V R N' frc rA => zx_of h (cu_u1x hF) (cu_nm hF) hd hT F V R N' frc rA) (by show I64r l8; have h1 := hln.a8; have h2 := hln.b8; unfold I64r; omega) (fun w' g => ?_)).mono ?_
  · have hb : Below v.heap.size v w' := h.k.trans (g.to (by have := h.k.size; omega) (fun k e => by rcases e with e | e <;> omega))
    exact EtP.keep hEt hb (Nat.le_refl _)
  · rintro e w' ⟨rfl, hz⟩
    obtain ⟨tr, ti, ra, rc, hM, c8, c9, c10, c11, c12, c13, c14, c24, c25, hr⟩ := hz.c
    refine ⟨rfl, h.k.trans (hz.g.to (by have := h.k.size; omega) (fun k e => by rcases e with e | e <;> omega)), tr, ti, 0, ra, rc, none, 0, 0, ⟨hM, c8, c9, c10, c11, c12, c13, c14, ?_, c25, hr, ?_⟩⟩
    · rw [← h.en]; exact c24
    · rw [hz.g.block E (by omega) (fun e => by rcases e with e | e; exact hB.em e; omega)]
      exact h.e
end Go.Proofs.YtdialodjllpgaaaGreatDoor
