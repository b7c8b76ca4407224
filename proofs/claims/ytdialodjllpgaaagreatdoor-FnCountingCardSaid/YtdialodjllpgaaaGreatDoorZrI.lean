import Derived.Test.YtdialodjllpgaaaGreatDoorZrH
import Derived.Test.YtdialodjllpgaaaGreatDoorCnV
import Derived.Maps.AppendAt
import Derived.RegionIn
/-! A step of nought: the trace. -/
namespace Go.Proofs.YtdialodjllpgaaaGreatDoor
open Go.RowKit Go.Shelf
attribute [local go_sem] run_store_float
attribute [local go_sem] Oper.semAt_some

/-- a row onto nil, of strings -/
theorem app1S {w0 : World} (s : ByteArray) : ∃ g cap w', (Builtin.append_ #[25, 25] 25 #[.slice none 0 0, .slice (some ⟨w0.heap.size, 0, none⟩) 1 1]).run Tryz.prog (w0.alloc (.cells #[.string s] 9)) = .ok (.slice (some ⟨g, 0, none⟩) 1 cap) w' ∧ w0.heap.size < g ∧ g < w'.heap.size ∧ w'.cell? ⟨g, 0, none⟩ = some (.string s) ∧ Below w0.heap.size w0 w' := by
  obtain ⟨i0, hi0, hy0, hy1, hy2⟩ := info_parts infoStr'
  obtain ⟨v', w7, happ, hown, hgrow, _, hat⟩ := run_append_own_at (P := Tryz.prog) (w0.alloc (.cells #[.string s] 9)) 0 25 25 9 i0 _ 1 16 Tryz.underlying25 hi0 hy0 hy1 hy2 rfl (by decide) (.slice none 0 0) 0 [] (World.ownsRow_nil _ _ _ _) ⟨w0.heap.size, 0, none⟩ 1 1 [.string s] rfl (cell_one_new _ _ _) (by simp [Value.oneCell']) (by unfold maxLen; omega) (by omega) (Nat.zero_le _)
  rcases hown.2 with ⟨_, d⟩ | ⟨g, cap, cur, e1, hb, hg, h2, h3, h4, h5⟩
  · omega
  · subst e1
    refine ⟨g, cap, w7, happ, ?_, (Array.getElem?_eq_some_iff.1 hg).1, ?_, (below_alloc w0 _).grown hgrow (by simp) (fun k e => by cases e)⟩
    · rcases hat with e | e
      · cases e
      · have := Option.some.inj e; simp at this; omega
    · have hc := hown.cells (g := g) rfl 0 (.string s) rfl
      simpa [Addr.add] using hc
theorem step_append_runZ {P : Program} {ops : Array Oper} {o : Oper} {a : Act} {w : World} {K : Act → World → Prop} {Q : Exit → Act → World → Prop} {E : Prop} (hgd : o.guard = none) (sl x : Operand) (t u : TypeId) (ho : o.op = .call { callee := .builtin .append, args := #[sl, x], argTypes := #[t, u] })
    (v xv v' : Value) (w' : World) (hs : a.eval sl = v) (hx : a.eval x = xv) (hr : (Builtin.append_ #[t, u] o.type #[v, xv]).run P w = .ok v' w') (h : K (a.put o.dst v') w') :
    if Region.wanted o (yielded ops a.tmps) = true then Oper.wp P o a w K Q else E := by
  have hw : Region.wanted o (yielded ops a.tmps) = true := by simp [Region.wanted, hgd]
  rw [if_pos hw]
  unfold Oper.wp execOp
  simp only [ho, resolve, invoke, builtin, Sem.run_bind, Sem.run_pure, Result.andThen_ok, List.map_toArray, List.map_cons, List.map_nil, hs, hx, hr]
  exact h
/-- the calls that were told, behind k frames -/
structure TrJ (C : Nat) (W0 : World) (k : Nat) (W : World) : Prop where
  g : Gx (fun b => b = C) W0 W
  z : k = 0 → OwnB W C #[.slice none 0 0]
  o : k ≠ 0 → ∃ g c s, OwnB W C #[.slice (some ⟨g, 0, none⟩) 1 c] ∧ W.cell? ⟨g, 0, none⟩ = some (.string s)
theorem TrJ.abide {C k : Nat} {W0 W W' : World} {row : Option Nat} (hC : C < W0.heap.size) (h : TrJ C W0 k W) (hg : W.grownBy W' row) (hr : ∀ r, row = some r → W0.heap.size ≤ r ∧ ∃ o : Obj, W.heap[r]? = some o ∧ o.isCells = false) : TrJ C W0 k W' := by
  have hk : ∀ b, b < W0.heap.size → W'.heap[b]? = W.heap[b]? := fun b hb => hg.block b (Nat.lt_of_lt_of_le hb h.g.size) (fun e => by have := (hr b e.symm).1; omega)
  have ho : ∀ {A : Array Value}, OwnB W C A → OwnB W' C A := fun hh => hh.block hg.size (hk C hC)
  refine ⟨⟨hg.os.trans h.g.os, hg.tape.trans h.g.tape, hg.output.trans h.g.output, Nat.le_trans h.g.size hg.size, fun b hb hn => (hk b hb).trans (h.g.block b hb hn)⟩, fun e => ho (h.z e), fun e => ?_⟩
  obtain ⟨g, c, s, h1, h2⟩ := h.o e
  obtain ⟨ob, hob, hc⟩ := cells_of_cell h2
  exact ⟨g, c, s, ho h1, (World.cell?_of_block (w := W) (w' := W') (a := ⟨g, 0, none⟩) (grownBy_keeps_cells hg (fun r e => (hr r e).2) hob hc)).trans h2⟩
theorem KeepsOthers.below {W W' : World} (h : Below W.heap.size W W') : KeepsOthers W W' := ⟨h.size, fun k _ hk _ => (h.block k (Array.getElem?_eq_some_iff.1 hk).1).trans hk⟩
/-- behind the append -/
theorem TrJ.next {C g c : Nat} {s : ByteArray} {W0 W W7 : World} (hC : C < W0.heap.size) (h : TrJ C W0 0 W) (hb : Below W.heap.size W W7) (hg : W7.cell? ⟨g, 0, none⟩ = some (.string s)) (hn : g ≠ C) : TrJ C W0 1 (W7.setCell ⟨C, 0, none⟩ (.slice (some ⟨g, 0, none⟩) 1 c)) ∧ KeepsOthers W (W7.setCell ⟨C, 0, none⟩ (.slice (some ⟨g, 0, none⟩) 1 c)) ∧ KN W0.heap.size C W (W7.setCell ⟨C, 0, none⟩ (.slice (some ⟨g, 0, none⟩) 1 c)) := by
  have hCW : C < W.heap.size := Nat.lt_of_lt_of_le hC h.g.size
  have hO : OwnB W7 C #[.slice none 0 0] := (h.z rfl).block hb.size (hb.block C hCW)
  refine ⟨⟨(h.g.trans (Gx.below (fun b => b = C) hb) (fun _ _ e => e)).trans (Gx.set W7 C 0 _) (fun _ _ e => e), (fun e => by cases e), fun _ => ⟨g, c, s, hO.set (o := 0) (by show 0 < 1; omega) _, ?_⟩⟩, (KeepsOthers.below hb).trans (KeepsOthers.setCell _ _ _), by have := hb.size; simpa using this, fun k hk hne => ?_⟩
  · rw [World.cell?_setCell_other _ _ _ _ (fun e => hn (congrArg Addr.block e).symm)]
    exact hg
  · rw [Below.heap_setCell _ _ _ _ hne]
    exact hb.block k (Nat.lt_of_lt_of_le hk h.g.size)
/-- what the trace's region reads -/
abbrev TrS (X : RX) (E : Nat) (U : Ux) (ln : Int) (w' : World) : Prop := w'.cell? ⟨E, 0, none⟩ = some (ptr X.M) ∧ w'.cell? ⟨X.M, 0, none⟩ = some (.slice (some ⟨U.ub, U.uo, none⟩) 1 U.uc) ∧ w'.cell? ⟨X.F, 1, none⟩ = some (.int .i64 0) ∧ w'.cell? ⟨X.F, 12, none⟩ = some (.int .i64 ln) ∧ w'.cell? ⟨U.ub, U.uo, none⟩ = some (.string sMain)
abbrev trA (X : RX) (E : Nat) (i : Int) : Act := { tmps := #[ptr X.M, .pointer (some ⟨E, 0, none⟩), .string ⟨#[]⟩, .pointer (some ⟨E + 1, 0, none⟩), undef, ptr X.F, ptr X.M, ptr X.M, .pointer (some ⟨X.M, 23, none⟩), ptr X.T, ptr X.T, .pointer (some ⟨X.T, 7, none⟩), .slice (some ⟨X.R, 0, none⟩) 1 X.frc, bfV (E + 1 + 1), .int .i64 i, ptr X.F, undef, undef, undef, undef, undef, undef, undef, undef, undef, undef, undef, undef, undef, undef, undef, undef, undef, undef, undef, undef, undef, undef, undef, undef, undef, undef], defers := [] }
set_option maxRecDepth 100000 in
set_option maxHeartbeats 8000000 in
theorem trace_calls (X : RX) (U : Ux) (d : MD) (u : World) (h : St X d u) (hU : U.ok X) (hnm : X.W.cell? ⟨U.ub, U.uo, none⟩ = some (.string sMain)) (hln : I64r d.line) (hT : TabX X) :
    Calls Tryz.prog 232 #[ptr X.M] u fun e w' => (∃ tr, e = .returned (.string tr)) ∧ Below u.heap.size u w' := by
  have HS : Hid (St X d u) := h
  have HT : Hid (TabX X) := hT
  have HU : Hid (U.ok X) := hU
  have HN : Hid (X.W.cell? ⟨U.ub, U.uo, none⟩ = some (.string sMain)) := hnm
  have m23 : u.cell? ⟨X.M, 23, none⟩ = some (ptr X.T) := h.m.1.cell 23 rfl
  have t7 : u.cell? ⟨X.T, 7, none⟩ = some (.slice (some ⟨X.R, 0, none⟩) 1 X.frc) := h.t.1.cell 7 rfl
  have hMl := h.m.1.1
  have hTl := h.t.1.1
  obtain ⟨ln, hl⟩ : ∃ ln, d.line = ln := ⟨_, rfl⟩
  have HL : Hid (d.line = ln ∧ I64r ln) := ⟨hl, hl ▸ hln⟩
  clear h hU hnm hln hT hl
  refine callsIn_wide.1 (callsIn_of_wp_marks (F := Fence.wide) (n := 3) Tryz.func232 rfl trivial ?_ rfl)
  simp only [Tryz.ntmps232, List.size_toArray, List.length_cons, List.length_nil, Nat.reduceAdd, Nat.reduceSub, Array.replicate_succ, Array.replicate_zero, List.push_toArray, List.append_toArray, List.nil_append, List.cons_append]
  refine wpIn_wide.2 ?_
  go_wp2_with fail
  refine (backF_calls _ _ _ _).mono ?_
  rintro e w1 ⟨rfl, rfl⟩
  go_wp2_with fail
  obtain ⟨E, hE⟩ : ∃ E, u.heap.size = E := ⟨_, rfl⟩
  obtain ⟨W0, hW0⟩ : ∃ W0, ((u.alloc (.cells #[ptr X.M] 40)).alloc (.cells #[.slice none 0 0] 25)).alloc (.cells #[.slice (some ⟨X.R, 0, none⟩) 1 X.frc] 113) = W0 := ⟨_, rfl⟩
  have HW : Hid (W0.heap.size = E + 3 ∧ Below u.heap.size u W0 ∧ Has W0 E #[ptr X.M] ∧ OwnB W0 (E + 1) #[.slice none 0 0] ∧ Has W0 (E + 1 + 1) #[.slice (some ⟨X.R, 0, none⟩) 1 X.frc]) := by
    have k1 := Has.new u #[ptr X.M] 40
    have k2 : OwnB _ _ _ := OwnB.new (u.alloc (.cells #[ptr X.M] 40)) #[.slice none 0 0] 25
    have k3 := Has.new ((u.alloc (.cells #[ptr X.M] 40)).alloc (.cells #[.slice none 0 0] 25)) #[.slice (some ⟨X.R, 0, none⟩) 1 X.frc] 113
    rw [World.size_alloc] at k2
    rw [World.size_alloc, World.size_alloc] at k3
    rw [← hW0, ← hE]
    exact ⟨by simp, below_alloc3 _ _ _ _, (k1.alloc _).alloc _, OwnB.block k2 (by simp) (Below.heap_alloc _ _ _ (by simp)), k3⟩
  rw [hW0, hE]
  clear hW0 m23 t7 hMl hTl
  have HE : Hid (u.heap.size = E) := hE
  clear hE
  have HS0 : Hid (St X d W0) := HS.out.call HW.out.2.1
  have HSS : Hid (∀ w', Gx (fun b => b = E + 1) W0 w' → TrS X E U ln w') := fun w' g => by
    have hs := HS.out
    have hl := HL.out.1
    have he := HE.out
    have hsz := HW.out.1
    have hk : ∀ b o, b < E → w'.cell? ⟨b, o, none⟩ = W0.cell? ⟨b, o, none⟩ := fun b o hb => World.cell?_of_block (a := ⟨b, o, none⟩) (g.block b (by omega) (by omega))
    have hM := hs.m.1.1
    have hF := hs.f.1.1
    have hub := HU.out.lt
    have hks := hs.k.size
    refine ⟨(World.cell?_of_block (a := ⟨E, 0, none⟩) (g.block E (by omega) (by omega))).trans (HW.out.2.2.1.cell 0 rfl), ?_, ?_, ?_, ?_⟩
    · rw [hk _ _ (by omega), ← HU.out.f]; exact HS0.out.m.1.cell 0 rfl
    · rw [hk _ _ (by omega)]; exact HS0.out.f.1.cell 1 rfl
    · rw [hk _ _ (by omega), ← hl]; exact HS0.out.f.1.cell 12 rfl
    · rw [hk _ _ (by omega)]; exact (HU.out.at HS0.out.k _).trans HN.out
  have HTT : Hid (∀ w', Gx (fun b => b = E + 1) W0 w' → TabP w') := fun w' g => HT.out w' (HS0.out.k.trans g (fun k hk e => .inr (by have := HS.out.k.size; have := HE.out; omega)))
  have hR0 : RowN 1 0 W0 (some ⟨X.R, 0, none⟩) 1 fun _ => #[ptr X.F] := fun _ => ⟨X.R, 0, rfl, Nat.zero_le _, HS0.out.r.1.1, fun i hi j hj => by
    obtain rfl : i = 0 := by omega
    obtain rfl : j = 0 := by omega
    exact HS0.out.r.1.cell 0 HS0.out.x.r0⟩
  have hRE : X.R < E := by have := HS.out.r.1.1; have := HE.out; omega
  have hsz := HW.out.1
  have hcP : W0.cell? ⟨E + 1 + 1, 0, none⟩ = some (.slice (some ⟨X.R, 0, none⟩) 1 X.frc) := HW.out.2.2.2.2.cell 0 rfl
  refine (wpIn_wide (n := 3)).1 ?_
  refine wpIn_rangeFunc_ownH (F := Fence.wide) rfl (by omega) (gf := 325) (lb := #[.pointer (some ⟨E + 1 + 1, 0, none⟩)]) rfl trivial (enters_of Tryz.func325 (by kernel_rfl) rfl)
    (encs := fun x : Fin 1 => #[.int .i64 (x.val : Int), ptr X.F]) (Kp := KN W0.heap.size (E + 1)) (S := fun ys => ys.map Fin.val = downL 1 1) (Sp := fun _ => True) (N := 1) (w0 := W0)
    (fun l J Jx W hW _ _ hY h0 => backF1_in l (E + 1 + 1) (E + 1) (some ⟨X.R, 0, none⟩) 1 X.frc (ptr X.F) (by omega) J Jx W0 W hW hY (by omega) (by omega) (fun b off _ e => by cases e; omega) hcP hR0 h0)
    KN.trans (fun W l o o' hl _ _ _ => ⟨by simp, fun k hk _ => World.putObj_heap_other (fun e => by omega)⟩) (Below.refl _ _) (fun _ => rfl)
    (fun pre W => TrJ (E + 1) W0 pre.length W)
    (fun _ _ _ => False)
    (fun pre W W' row hs hg hr => TrJ.abide (by omega) hs hg hr)
    (fun c s W W' row hs hg hr => hs)
    ⟨Gx.refl _ _, fun _ => HW.out.2.2.2.1, fun e => absurd rfl e⟩
    (fun _ a' _ => a' = trA X E 0)
    (fun x a' _ W W' row hs hg hr => hs)
    ?assign ?body ?done ?stop
  case assign =>
    rintro l pre x W K hJ hK
    gi_wp2
    exact hK _ _ ((KeepsOthers.refl _).from _) (KN.refl _ _ _) hJ rfl
  case body =>
    rintro l pre x a' W hl ⟨r, hr⟩ hJ rfl hlt
    have hp : pre.length = 0 := by omega
    rw [hp] at hJ
    have HJ : Hid (TrJ (E + 1) W0 0 W) := hJ
    clear hJ
    have HSW : Hid (∀ w', Below W.heap.size W w' → TrS X E U ln w') := fun w' hb => HSS.out w' (HJ.out.g.trans (Gx.below (fun b => b = E + 1) hb) (fun _ _ e => e))
    have HTW : Hid (∀ w', Below W.heap.size W w' → TabP w') := fun w' hb => HTT.out w' (HJ.out.g.trans (Gx.below (fun b => b = E + 1) hb) (fun _ _ e => e))
    have HC0 : Hid (∀ w', Below W.heap.size W w' → w'.cell? ⟨E + 1, 0, none⟩ = some (.slice none 0 0)) := fun w' hb => (hb.cell (p := ⟨E + 1, 0, none⟩) (HJ.out.z rfl).1.1).trans ((HJ.out.z rfl).1.cell 0 rfl)
    have HZ0 : Hid (∀ w', Below W.heap.size W w' → ∀ o, w'.frozen? ⟨E + 1, o, none⟩ = false) := fun w' hb => (OwnB.block (HJ.out.z rfl) hb.size (hb.block _ (HJ.out.z rfl).1.1)).2
    have HB : Hid (Below W.heap.size W W.drew) := (Below.refl _ _).drew
    have c0 := HC0.out _ HB.out
    have hsz5 : ¬ 9223372036854775807 < 5 + (bA (decB ln)).size := by
      have h1 := decB_len ln
      have h2 : (bA (decB ln)).size = (decB ln).length := bA_size _
      omega
    gi_wp2
    refine wpIn_mono (Q := OnlyN fun _ w' => TrJ (E + 1) W0 1 w' ∧ KeepsOthers W w' ∧ KN W0.heap.size (E + 1) W w') ?reg ?go
    case go =>
      rintro e a w' ⟨rfl, h1, h2, h3⟩
      gi_wp2
      refine ⟨h2.from _, h3, ?_⟩
      show TrJ (E + 1) W0 (pre ++ [x]).length w'
      rw [List.length_append, hp]
      exact h1
    -- REGION
    refine wpIn_round_held (S := TrS X E U ln) (by kernel_rfl) (by kernel_rfl) (HSW.out _ HB.out) (fun hHold => ?_)
    refine wpAnyH_take (i := 1) (oi := ⟨some 17, _, _, _, _, _⟩) (v := ?v1) rfl (by kernel_rfl) (by kernel_rfl) (by kernel_rfl) (fun _ _ _ h => nomatch h.1) (Or.inl ⟨by rfl, ?hy1⟩) (by assumption) ?rest1
    case hy1 => (intro wz hSw; (try dsimp only at hSw); (first | (go_simp <;> with_reducible rfl) | (simp only [hsz5] at *; go_simp; rw [if_neg hsz5])))
    try simp only [Act.put, List.setIfInBounds_toArray, List.set_cons_zero, List.set_cons_succ]
    refine wpAnyH_take (i := 2) (oi := ⟨some 18, _, _, _, _, _⟩) (v := ?v2) rfl (by kernel_rfl) (by kernel_rfl) (by kernel_rfl) (fun _ _ _ h => nomatch h.1) (Or.inl ⟨by rfl, ?hy2⟩) (by assumption) ?rest2
    case hy2 => (intro wz hSw; (try dsimp only at hSw); (first | (go_simp <;> with_reducible rfl) | (simp only [hsz5] at *; go_simp; rw [if_neg hsz5])))
    try simp only [Act.put, List.setIfInBounds_toArray, List.set_cons_zero, List.set_cons_succ]
    refine wpAnyH_take (i := 3) (oi := ⟨some 19, _, _, _, _, _⟩) (v := ?v3) rfl (by kernel_rfl) (by kernel_rfl) (by kernel_rfl) (fun _ _ _ h => nomatch h.1) (Or.inl ⟨by rfl, ?hy3⟩) (by assumption) ?rest3
    case hy3 => (intro wz hSw; (try dsimp only at hSw); (first | (go_simp <;> with_reducible rfl) | (simp only [hsz5] at *; go_simp; rw [if_neg hsz5])))
    try simp only [Act.put, List.setIfInBounds_toArray, List.set_cons_zero, List.set_cons_succ]
    refine wpAnyH_take (i := 4) (oi := ⟨some 20, _, _, _, _, _⟩) (v := ?v4) rfl (by kernel_rfl) (by kernel_rfl) (by kernel_rfl) (fun _ _ _ h => nomatch h.1) (Or.inl ⟨by rfl, ?hy4⟩) (by assumption) ?rest4
    case hy4 => (intro wz hSw; (try dsimp only at hSw); (first | (go_simp <;> with_reducible rfl) | (simp only [hsz5] at *; go_simp; rw [if_neg hsz5])))
    try simp only [Act.put, List.setIfInBounds_toArray, List.set_cons_zero, List.set_cons_succ]
    refine wpAnyH_take (i := 5) (oi := ⟨some 21, _, _, _, _, _⟩) (v := ?v5) rfl (by kernel_rfl) (by kernel_rfl) (by kernel_rfl) (fun _ _ _ h => nomatch h.1) (Or.inl ⟨by rfl, ?hy5⟩) (by assumption) ?rest5
    case hy5 => (intro wz hSw; (try dsimp only at hSw); (first | (go_simp <;> with_reducible rfl) | (simp only [hsz5] at *; go_simp; rw [if_neg hsz5])))
    try simp only [Act.put, List.setIfInBounds_toArray, List.set_cons_zero, List.set_cons_succ]
    refine wpAnyH_take (i := 6) (oi := ⟨some 22, _, _, _, _, _⟩) (v := ?v6) rfl (by kernel_rfl) (by kernel_rfl) (by kernel_rfl) (fun _ _ _ h => nomatch h.1) (Or.inl ⟨by rfl, ?hy6⟩) (by assumption) ?rest6
    case hy6 => (intro wz hSw; (try dsimp only at hSw); (first | (go_simp <;> with_reducible rfl) | (simp only [hsz5] at *; go_simp; rw [if_neg hsz5])))
    try simp only [Act.put, List.setIfInBounds_toArray, List.set_cons_zero, List.set_cons_succ]
    refine wpAnyH_take (i := 7) (oi := ⟨some 23, _, _, _, _, _⟩) (v := ?v7) rfl (by kernel_rfl) (by kernel_rfl) (by kernel_rfl) (fun _ _ _ h => nomatch h.1) (Or.inl ⟨by rfl, ?hy7⟩) (by assumption) ?rest7
    case hy7 => (intro wz hSw; (try dsimp only at hSw); (first | (go_simp <;> with_reducible rfl) | (simp only [hsz5] at *; go_simp; rw [if_neg hsz5])))
    try simp only [Act.put, List.setIfInBounds_toArray, List.set_cons_zero, List.set_cons_succ]
    refine wpAnyH_take (i := 8) (oi := ⟨some 24, _, _, _, _, _⟩) (v := ?v8) rfl (by kernel_rfl) (by kernel_rfl) (by kernel_rfl) (fun _ _ _ h => nomatch h.1) (Or.inl ⟨by rfl, ?hy8⟩) (by assumption) ?rest8
    case hy8 => (intro wz hSw; (try dsimp only at hSw); (first | (go_simp <;> with_reducible rfl) | (simp only [hsz5] at *; go_simp; rw [if_neg hsz5])))
    try simp only [Act.put, List.setIfInBounds_toArray, List.set_cons_zero, List.set_cons_succ]
    refine wpAnyH_take (i := 9) (oi := ⟨some 25, _, _, _, _, _⟩) (v := ?v9) rfl (by kernel_rfl) (by kernel_rfl) (by kernel_rfl) (fun _ _ _ h => nomatch h.1) (Or.inl ⟨by rfl, ?hy9⟩) (by assumption) ?rest9
    case hy9 => (intro wz hSw; (try dsimp only at hSw); (first | (go_simp <;> with_reducible rfl) | (simp only [hsz5] at *; go_simp; rw [if_neg hsz5])))
    try simp only [Act.put, List.setIfInBounds_toArray, List.set_cons_zero, List.set_cons_succ]
    refine wpAnyH_take (i := 10) (oi := ⟨some 26, _, _, _, _, _⟩) (v := ?v10) rfl (by kernel_rfl) (by kernel_rfl) (by kernel_rfl) (fun _ _ _ h => nomatch h.1) (Or.inl ⟨by rfl, ?hy10⟩) (by assumption) ?rest10
    case hy10 => (intro wz hSw; (try dsimp only at hSw); (first | (go_simp <;> with_reducible rfl) | (simp only [hsz5] at *; go_simp; rw [if_neg hsz5])))
    try simp only [Act.put, List.setIfInBounds_toArray, List.set_cons_zero, List.set_cons_succ]
    refine wpAnyH_take (i := 11) (oi := ⟨some 27, _, _, _, _, _⟩) (v := ?v11) rfl (by kernel_rfl) (by kernel_rfl) (by kernel_rfl) (fun _ _ _ h => nomatch h.1) (Or.inl ⟨by rfl, ?hy11⟩) (by assumption) ?rest11
    case hy11 => (intro wz hSw; (try dsimp only at hSw); (first | (go_simp <;> with_reducible rfl) | (simp only [hsz5] at *; go_simp; rw [if_neg hsz5])))
    try simp only [Act.put, List.setIfInBounds_toArray, List.set_cons_zero, List.set_cons_succ]
    refine wpAnyH_take (i := 12) (oi := ⟨some 28, _, _, _, _, _⟩) (v := ?v12) rfl (by kernel_rfl) (by kernel_rfl) (by kernel_rfl) (fun _ _ _ h => nomatch h.1) (Or.inl ⟨by rfl, ?hy12⟩) (by assumption) ?rest12
    case hy12 => (intro wz hSw; (try dsimp only at hSw); (first | (go_simp <;> with_reducible rfl) | (simp only [hsz5] at *; go_simp; rw [if_neg hsz5])))
    try simp only [Act.put, List.setIfInBounds_toArray, List.set_cons_zero, List.set_cons_succ]
    refine wpAnyH_take (i := 16) (oi := ⟨some 32, _, _, _, _, _⟩) (v := ?v13) rfl (by kernel_rfl) (by kernel_rfl) (by kernel_rfl) (fun _ _ _ h => nomatch h.1) (Or.inl ⟨by rfl, ?hy13⟩) (by assumption) ?rest13
    case hy13 => (intro wz hSw; (try dsimp only at hSw); (first | (go_simp <;> with_reducible rfl) | (simp only [hsz5] at *; go_simp; rw [if_neg hsz5])))
    try simp only [Act.put, List.setIfInBounds_toArray, List.set_cons_zero, List.set_cons_succ]
    refine wpAnyH_take (i := 17) (oi := ⟨some 33, _, _, _, _, _⟩) (v := ?v14) rfl (by kernel_rfl) (by kernel_rfl) (by kernel_rfl) (fun _ _ _ h => nomatch h.1) (Or.inl ⟨by rfl, ?hy14⟩) (by assumption) ?rest14
    case hy14 => (intro wz hSw; (try dsimp only at hSw); (first | (go_simp <;> with_reducible rfl) | (simp only [hsz5] at *; go_simp; rw [if_neg hsz5])))
    try simp only [Act.put, List.setIfInBounds_toArray, List.set_cons_zero, List.set_cons_succ]
    refine wpAnyH_take (i := 18) (oi := ⟨some 34, _, _, _, _, _⟩) (v := ?v15) rfl (by kernel_rfl) (by kernel_rfl) (by kernel_rfl) (fun _ _ _ h => nomatch h.1) (Or.inl ⟨by rfl, ?hy15⟩) (by assumption) ?rest15
    case hy15 => (intro wz hSw; (try dsimp only at hSw); (first | (go_simp <;> with_reducible rfl) | (simp only [hsz5] at *; go_simp; rw [if_neg hsz5])))
    try simp only [Act.put, List.setIfInBounds_toArray, List.set_cons_zero, List.set_cons_succ]
    refine wpAnyH_take (i := 19) (oi := ⟨some 35, _, _, _, _, _⟩) (v := ?v16) rfl (by kernel_rfl) (by kernel_rfl) (by kernel_rfl) (fun _ _ _ h => nomatch h.1) (Or.inl ⟨by rfl, ?hy16⟩) (by assumption) ?rest16
    case hy16 => (intro wz hSw; (try dsimp only at hSw); (first | (go_simp <;> with_reducible rfl) | (simp only [hsz5] at *; go_simp; rw [if_neg hsz5])))
    try simp only [Act.put, List.setIfInBounds_toArray, List.set_cons_zero, List.set_cons_succ]
    refine wpAnyH_ready (rs := [0, 13]) (by kernel_rfl) (by simp) ?_
    refine AllReadyH.cons (o := ⟨some 16, _, _, _, _, _⟩) rfl (fun K hK => ?_) ?_
    · go_simp
      refine hK.out _ _ (HSW.out _ HB.out) (fun hHeld => ?_)
      clear hK K hHold
      have hHold := hHeld
      clear hHeld
      try simp only [Act.put, List.setIfInBounds_toArray, List.set_cons_zero, List.set_cons_succ]
      refine wpAnyH_ready (rs := [13]) (by kernel_rfl) (by simp) ?_
      refine AllReadyH.cons (o := ⟨some 29, _, _, _, _, _⟩) rfl (fun K hK => ?_) AllReadyH.nil
      go_simp
      obtain ⟨w13, hw13⟩ : ∃ w13, (World.alloc W (.cells #[.string sMain, .string ⟨#[102, 110]⟩] 9)).drew = w13 := ⟨_, rfl⟩
      have HR : Hid (w13.cell? ⟨W.heap.size, 0, none⟩ = some (.string sMain)) := by rw [← hw13]; exact (Has.new W _ _).drew.cell 0 rfl
      replace HB : Hid (Below W.heap.size W w13) := by rw [← hw13]; exact (below_alloc _ _).drew
      rw [hw13]
      clear hw13
      have c0 := HC0.out _ HB.out
      refine hK.out _ _ (HSW.out _ HB.out) (fun hHeld => ?_)
      clear hK K hHold
      have hHold := hHeld
      clear hHeld
      try simp only [Act.put, List.setIfInBounds_toArray, List.set_cons_zero, List.set_cons_succ]
      refine wpAnyH_ready (rs := [14]) (by kernel_rfl) (by simp) ?_
      refine AllReadyH.cons (o := ⟨some 30, _, _, _, _, _⟩) rfl (fun K hK => ?_) AllReadyH.nil
      go_simp
      refine (orS_calls _ _ HR.out).mono ?_
      rintro e w14 ⟨rfl, rfl⟩
      dsimp only
      refine hK.out _ _ (HSW.out _ HB.out) (fun hHeld => ?_)
      clear hK K hHold
      have hHold := hHeld
      clear hHeld
      try simp only [Act.put, List.setIfInBounds_toArray, List.set_cons_zero, List.set_cons_succ]
      refine wpAnyH_take (i := 15) (oi := ⟨some 31, _, _, _, _, _⟩) (v := ?v17) rfl (by kernel_rfl) (by kernel_rfl) (by kernel_rfl) (fun _ _ _ h => nomatch h.1) (Or.inl ⟨by rfl, ?hy17⟩) (by assumption) ?rest17
      case hy17 => (intro wz hSw; (try dsimp only at hSw); (first | (go_simp <;> with_reducible rfl) | (simp only [hsz5] at *; go_simp; rw [if_neg hsz5])))
      try simp only [Act.put, List.setIfInBounds_toArray, List.set_cons_zero, List.set_cons_succ]
      refine wpAnyH_ready (rs := [20]) (by kernel_rfl) (by simp) ?_
      refine AllReadyH.cons (o := ⟨some 36, _, _, _, _, _⟩) rfl (fun K hK => ?_) AllReadyH.nil
      go_simp
      refine (itoa_calls _ _ HL.out.2 (HTW.out _ HB.out)).mono ?_
      rintro e w20 ⟨rfl, hb20⟩
      replace HB : Hid (Below W.heap.size W w20) := below_call HB.out hb20
      clear hb20
      have c0 := HC0.out _ HB.out
      dsimp only
      refine hK.out _ _ (HSW.out _ HB.out) (fun hHeld => ?_)
      clear hK K hHold
      have hHold := hHeld
      clear hHeld
      try simp only [Act.put, List.setIfInBounds_toArray, List.set_cons_zero, List.set_cons_succ]
      refine wpAnyH_take (i := 21) (oi := ⟨some 37, _, _, _, _, _⟩) (v := ?v18) rfl (by kernel_rfl) (by kernel_rfl) (by kernel_rfl) (fun _ _ _ h => nomatch h.1) (Or.inl ⟨by rfl, ?hy18⟩) (by assumption) ?rest18
      case hy18 => (intro wz hSw; (try dsimp only at hSw); (first | (go_simp <;> with_reducible rfl) | (simp only [hsz5] at *; go_simp; rw [if_neg hsz5])))
      try simp only [Act.put, List.setIfInBounds_toArray, List.set_cons_zero, List.set_cons_succ]
      refine wpAnyH_ready (rs := [22]) (by kernel_rfl) (by simp) ?_
      refine AllReadyH.cons (o := ⟨some 38, _, _, _, _, _⟩) rfl (fun K hK => ?_) AllReadyH.nil
      go_simp
      obtain ⟨sT, hsT⟩ : ∃ sT : ByteArray, sMain ++ ⟨#[58]⟩ ++ bA (decB ln) = sT := ⟨_, rfl⟩
      rw [hsT]
      obtain ⟨g, cg, w23, happ, hg1, hg2, hg3, hb23⟩ := app1S (w0 := w20) sT
      have HB22 : Hid (Below W.heap.size W (World.alloc w20 (.cells #[.string sT] 9))) := below_call HB.out (below_alloc _ _)
      have HBs : Hid (W.heap.size ≤ g) := by have := HB.out.size; show W.heap.size ≤ g; omega
      have c0 := HC0.out _ HB22.out
      refine hK.out _ _ (HSW.out _ HB22.out) (fun hHeld => ?_)
      clear hK K hHold
      have hHold := hHeld
      clear hHeld
      try simp only [Act.put, List.setIfInBounds_toArray, List.set_cons_zero, List.set_cons_succ]
      refine wpAnyH_ready (rs := [23]) (by kernel_rfl) (by simp) ?_
      refine AllReadyH.cons (o := ⟨some 39, _, _, _, _, _⟩) rfl (fun K hK => ?_) AllReadyH.nil
      refine step_append_runZ (by rfl) _ _ _ _ (by rfl) (.slice none 0 0) (.slice (some ⟨w20.heap.size, 0, none⟩) 1 1) _ _ (by rfl) (by rfl) happ ?_
      replace HB : Hid (Below W.heap.size W w23) := below_call HB.out hb23
      have c0 := HC0.out _ HB.out
      have cz := HZ0.out _ HB.out
      have HF : Hid (TrJ (E + 1) W0 1 (w23.setCell ⟨E + 1, 0, none⟩ (.slice (some ⟨g, 0, none⟩) 1 cg)) ∧ KeepsOthers W (w23.setCell ⟨E + 1, 0, none⟩ (.slice (some ⟨g, 0, none⟩) 1 cg)) ∧ KN W0.heap.size (E + 1) W (w23.setCell ⟨E + 1, 0, none⟩ (.slice (some ⟨g, 0, none⟩) 1 cg))) := TrJ.next (by omega) HJ.out HB.out hg3 (by have h1 := (HJ.out.z rfl).1.1; have h2 := HBs.out; omega)
      clear happ hg1 hg2 hg3 hb23 HB22
      refine hK.out _ _ (HSW.out _ HB.out) (fun hHeld => ?_)
      clear hK K hHold
      have hHold := hHeld
      clear hHeld
      try simp only [Act.put, List.setIfInBounds_toArray, List.set_cons_zero, List.set_cons_succ]
      refine wpAnyH_ready (rs := [24]) (by kernel_rfl) (by simp) ?_
      refine AllReadyH.cons (o := ⟨none, _, _, _, _, _⟩) rfl (fun K hK => ?_) AllReadyH.nil
      go_simp
      refine hK.out _ _ (HSS.out _ HF.out.1.g) (fun hHeld => ?_)
      clear hK K hHold
      have hHold := hHeld
      clear hHeld
      try simp only [Act.put, List.setIfInBounds_toArray, List.set_cons_zero, List.set_cons_succ]
      exact wpAnyH_done (by kernel_rfl) ⟨rfl, HF.out⟩ _
    · skip
      refine AllReadyH.cons (o := ⟨some 29, _, _, _, _, _⟩) rfl (fun K hK => ?_) AllReadyH.nil
      go_simp
      obtain ⟨w13, hw13⟩ : ∃ w13, (World.alloc W (.cells #[.string sMain, .string ⟨#[102, 110]⟩] 9)).drew = w13 := ⟨_, rfl⟩
      have HR : Hid (w13.cell? ⟨W.heap.size, 0, none⟩ = some (.string sMain)) := by rw [← hw13]; exact (Has.new W _ _).drew.cell 0 rfl
      replace HB : Hid (Below W.heap.size W w13) := by rw [← hw13]; exact (below_alloc _ _).drew
      rw [hw13]
      clear hw13
      have c0 := HC0.out _ HB.out
      refine hK.out _ _ (HSW.out _ HB.out) (fun hHeld => ?_)
      clear hK K hHold
      have hHold := hHeld
      clear hHeld
      try simp only [Act.put, List.setIfInBounds_toArray, List.set_cons_zero, List.set_cons_succ]
      refine wpAnyH_ready (rs := [0, 14]) (by kernel_rfl) (by simp) ?_
      refine AllReadyH.cons (o := ⟨some 16, _, _, _, _, _⟩) rfl (fun K hK => ?_) ?_
      · go_simp
        refine hK.out _ _ (HSW.out _ HB.out) (fun hHeld => ?_)
        clear hK K hHold
        have hHold := hHeld
        clear hHeld
        try simp only [Act.put, List.setIfInBounds_toArray, List.set_cons_zero, List.set_cons_succ]
        refine wpAnyH_ready (rs := [14]) (by kernel_rfl) (by simp) ?_
        refine AllReadyH.cons (o := ⟨some 30, _, _, _, _, _⟩) rfl (fun K hK => ?_) AllReadyH.nil
        go_simp
        refine (orS_calls _ _ HR.out).mono ?_
        rintro e w14 ⟨rfl, rfl⟩
        dsimp only
        refine hK.out _ _ (HSW.out _ HB.out) (fun hHeld => ?_)
        clear hK K hHold
        have hHold := hHeld
        clear hHeld
        try simp only [Act.put, List.setIfInBounds_toArray, List.set_cons_zero, List.set_cons_succ]
        refine wpAnyH_take (i := 15) (oi := ⟨some 31, _, _, _, _, _⟩) (v := ?v19) rfl (by kernel_rfl) (by kernel_rfl) (by kernel_rfl) (fun _ _ _ h => nomatch h.1) (Or.inl ⟨by rfl, ?hy19⟩) (by assumption) ?rest19
        case hy19 => (intro wz hSw; (try dsimp only at hSw); (first | (go_simp <;> with_reducible rfl) | (simp only [hsz5] at *; go_simp; rw [if_neg hsz5])))
        try simp only [Act.put, List.setIfInBounds_toArray, List.set_cons_zero, List.set_cons_succ]
        refine wpAnyH_ready (rs := [20]) (by kernel_rfl) (by simp) ?_
        refine AllReadyH.cons (o := ⟨some 36, _, _, _, _, _⟩) rfl (fun K hK => ?_) AllReadyH.nil
        go_simp
        refine (itoa_calls _ _ HL.out.2 (HTW.out _ HB.out)).mono ?_
        rintro e w20 ⟨rfl, hb20⟩
        replace HB : Hid (Below W.heap.size W w20) := below_call HB.out hb20
        clear hb20
        have c0 := HC0.out _ HB.out
        dsimp only
        refine hK.out _ _ (HSW.out _ HB.out) (fun hHeld => ?_)
        clear hK K hHold
        have hHold := hHeld
        clear hHeld
        try simp only [Act.put, List.setIfInBounds_toArray, List.set_cons_zero, List.set_cons_succ]
        refine wpAnyH_take (i := 21) (oi := ⟨some 37, _, _, _, _, _⟩) (v := ?v20) rfl (by kernel_rfl) (by kernel_rfl) (by kernel_rfl) (fun _ _ _ h => nomatch h.1) (Or.inl ⟨by rfl, ?hy20⟩) (by assumption) ?rest20
        case hy20 => (intro wz hSw; (try dsimp only at hSw); (first | (go_simp <;> with_reducible rfl) | (simp only [hsz5] at *; go_simp; rw [if_neg hsz5])))
        try simp only [Act.put, List.setIfInBounds_toArray, List.set_cons_zero, List.set_cons_succ]
        refine wpAnyH_ready (rs := [22]) (by kernel_rfl) (by simp) ?_
        refine AllReadyH.cons (o := ⟨some 38, _, _, _, _, _⟩) rfl (fun K hK => ?_) AllReadyH.nil
        go_simp
        obtain ⟨sT, hsT⟩ : ∃ sT : ByteArray, sMain ++ ⟨#[58]⟩ ++ bA (decB ln) = sT := ⟨_, rfl⟩
        rw [hsT]
        obtain ⟨g, cg, w23, happ, hg1, hg2, hg3, hb23⟩ := app1S (w0 := w20) sT
        have HB22 : Hid (Below W.heap.size W (World.alloc w20 (.cells #[.string sT] 9))) := below_call HB.out (below_alloc _ _)
        have HBs : Hid (W.heap.size ≤ g) := by have := HB.out.size; show W.heap.size ≤ g; omega
        have c0 := HC0.out _ HB22.out
        refine hK.out _ _ (HSW.out _ HB22.out) (fun hHeld => ?_)
        clear hK K hHold
        have hHold := hHeld
        clear hHeld
        try simp only [Act.put, List.setIfInBounds_toArray, List.set_cons_zero, List.set_cons_succ]
        refine wpAnyH_ready (rs := [23]) (by kernel_rfl) (by simp) ?_
        refine AllReadyH.cons (o := ⟨some 39, _, _, _, _, _⟩) rfl (fun K hK => ?_) AllReadyH.nil
        refine step_append_runZ (by rfl) _ _ _ _ (by rfl) (.slice none 0 0) (.slice (some ⟨w20.heap.size, 0, none⟩) 1 1) _ _ (by rfl) (by rfl) happ ?_
        replace HB : Hid (Below W.heap.size W w23) := below_call HB.out hb23
        have c0 := HC0.out _ HB.out
        have cz := HZ0.out _ HB.out
        have HF : Hid (TrJ (E + 1) W0 1 (w23.setCell ⟨E + 1, 0, none⟩ (.slice (some ⟨g, 0, none⟩) 1 cg)) ∧ KeepsOthers W (w23.setCell ⟨E + 1, 0, none⟩ (.slice (some ⟨g, 0, none⟩) 1 cg)) ∧ KN W0.heap.size (E + 1) W (w23.setCell ⟨E + 1, 0, none⟩ (.slice (some ⟨g, 0, none⟩) 1 cg))) := TrJ.next (by omega) HJ.out HB.out hg3 (by have h1 := (HJ.out.z rfl).1.1; have h2 := HBs.out; omega)
        clear happ hg1 hg2 hg3 hb23 HB22
        refine hK.out _ _ (HSW.out _ HB.out) (fun hHeld => ?_)
        clear hK K hHold
        have hHold := hHeld
        clear hHeld
        try simp only [Act.put, List.setIfInBounds_toArray, List.set_cons_zero, List.set_cons_succ]
        refine wpAnyH_ready (rs := [24]) (by kernel_rfl) (by simp) ?_
        refine AllReadyH.cons (o := ⟨none, _, _, _, _, _⟩) rfl (fun K hK => ?_) AllReadyH.nil
        go_simp
        refine hK.out _ _ (HSS.out _ HF.out.1.g) (fun hHeld => ?_)
        clear hK K hHold
        have hHold := hHeld
        clear hHeld
        try simp only [Act.put, List.setIfInBounds_toArray, List.set_cons_zero, List.set_cons_succ]
        exact wpAnyH_done (by kernel_rfl) ⟨rfl, HF.out⟩ _
      · skip
        refine AllReadyH.cons (o := ⟨some 30, _, _, _, _, _⟩) rfl (fun K hK => ?_) AllReadyH.nil
        go_simp
        refine (orS_calls _ _ HR.out).mono ?_
        rintro e w14 ⟨rfl, rfl⟩
        dsimp only
        refine hK.out _ _ (HSW.out _ HB.out) (fun hHeld => ?_)
        clear hK K hHold
        have hHold := hHeld
        clear hHeld
        try simp only [Act.put, List.setIfInBounds_toArray, List.set_cons_zero, List.set_cons_succ]
        refine wpAnyH_take (i := 15) (oi := ⟨some 31, _, _, _, _, _⟩) (v := ?v21) rfl (by kernel_rfl) (by kernel_rfl) (by kernel_rfl) (fun _ _ _ h => nomatch h.1) (Or.inl ⟨by rfl, ?hy21⟩) (by assumption) ?rest21
        case hy21 => (intro wz hSw; (try dsimp only at hSw); (first | (go_simp <;> with_reducible rfl) | (simp only [hsz5] at *; go_simp; rw [if_neg hsz5])))
        try simp only [Act.put, List.setIfInBounds_toArray, List.set_cons_zero, List.set_cons_succ]
        refine wpAnyH_ready (rs := [0, 20]) (by kernel_rfl) (by simp) ?_
        refine AllReadyH.cons (o := ⟨some 16, _, _, _, _, _⟩) rfl (fun K hK => ?_) ?_
        · go_simp
          refine hK.out _ _ (HSW.out _ HB.out) (fun hHeld => ?_)
          clear hK K hHold
          have hHold := hHeld
          clear hHeld
          try simp only [Act.put, List.setIfInBounds_toArray, List.set_cons_zero, List.set_cons_succ]
          refine wpAnyH_ready (rs := [20]) (by kernel_rfl) (by simp) ?_
          refine AllReadyH.cons (o := ⟨some 36, _, _, _, _, _⟩) rfl (fun K hK => ?_) AllReadyH.nil
          go_simp
          refine (itoa_calls _ _ HL.out.2 (HTW.out _ HB.out)).mono ?_
          rintro e w20 ⟨rfl, hb20⟩
          replace HB : Hid (Below W.heap.size W w20) := below_call HB.out hb20
          clear hb20
          have c0 := HC0.out _ HB.out
          dsimp only
          refine hK.out _ _ (HSW.out _ HB.out) (fun hHeld => ?_)
          clear hK K hHold
          have hHold := hHeld
          clear hHeld
          try simp only [Act.put, List.setIfInBounds_toArray, List.set_cons_zero, List.set_cons_succ]
          refine wpAnyH_take (i := 21) (oi := ⟨some 37, _, _, _, _, _⟩) (v := ?v22) rfl (by kernel_rfl) (by kernel_rfl) (by kernel_rfl) (fun _ _ _ h => nomatch h.1) (Or.inl ⟨by rfl, ?hy22⟩) (by assumption) ?rest22
          case hy22 => (intro wz hSw; (try dsimp only at hSw); (first | (go_simp <;> with_reducible rfl) | (simp only [hsz5] at *; go_simp; rw [if_neg hsz5])))
          try simp only [Act.put, List.setIfInBounds_toArray, List.set_cons_zero, List.set_cons_succ]
          refine wpAnyH_ready (rs := [22]) (by kernel_rfl) (by simp) ?_
          refine AllReadyH.cons (o := ⟨some 38, _, _, _, _, _⟩) rfl (fun K hK => ?_) AllReadyH.nil
          go_simp
          obtain ⟨sT, hsT⟩ : ∃ sT : ByteArray, sMain ++ ⟨#[58]⟩ ++ bA (decB ln) = sT := ⟨_, rfl⟩
          rw [hsT]
          obtain ⟨g, cg, w23, happ, hg1, hg2, hg3, hb23⟩ := app1S (w0 := w20) sT
          have HB22 : Hid (Below W.heap.size W (World.alloc w20 (.cells #[.string sT] 9))) := below_call HB.out (below_alloc _ _)
          have HBs : Hid (W.heap.size ≤ g) := by have := HB.out.size; show W.heap.size ≤ g; omega
          have c0 := HC0.out _ HB22.out
          refine hK.out _ _ (HSW.out _ HB22.out) (fun hHeld => ?_)
          clear hK K hHold
          have hHold := hHeld
          clear hHeld
          try simp only [Act.put, List.setIfInBounds_toArray, List.set_cons_zero, List.set_cons_succ]
          refine wpAnyH_ready (rs := [23]) (by kernel_rfl) (by simp) ?_
          refine AllReadyH.cons (o := ⟨some 39, _, _, _, _, _⟩) rfl (fun K hK => ?_) AllReadyH.nil
          refine step_append_runZ (by rfl) _ _ _ _ (by rfl) (.slice none 0 0) (.slice (some ⟨w20.heap.size, 0, none⟩) 1 1) _ _ (by rfl) (by rfl) happ ?_
          replace HB : Hid (Below W.heap.size W w23) := below_call HB.out hb23
          have c0 := HC0.out _ HB.out
          have cz := HZ0.out _ HB.out
          have HF : Hid (TrJ (E + 1) W0 1 (w23.setCell ⟨E + 1, 0, none⟩ (.slice (some ⟨g, 0, none⟩) 1 cg)) ∧ KeepsOthers W (w23.setCell ⟨E + 1, 0, none⟩ (.slice (some ⟨g, 0, none⟩) 1 cg)) ∧ KN W0.heap.size (E + 1) W (w23.setCell ⟨E + 1, 0, none⟩ (.slice (some ⟨g, 0, none⟩) 1 cg))) := TrJ.next (by omega) HJ.out HB.out hg3 (by have h1 := (HJ.out.z rfl).1.1; have h2 := HBs.out; omega)
          clear happ hg1 hg2 hg3 hb23 HB22
          refine hK.out _ _ (HSW.out _ HB.out) (fun hHeld => ?_)
          clear hK K hHold
          have hHold := hHeld
          clear hHeld
          try simp only [Act.put, List.setIfInBounds_toArray, List.set_cons_zero, List.set_cons_succ]
          refine wpAnyH_ready (rs := [24]) (by kernel_rfl) (by simp) ?_
          refine AllReadyH.cons (o := ⟨none, _, _, _, _, _⟩) rfl (fun K hK => ?_) AllReadyH.nil
          go_simp
          refine hK.out _ _ (HSS.out _ HF.out.1.g) (fun hHeld => ?_)
          clear hK K hHold
          have hHold := hHeld
          clear hHeld
          try simp only [Act.put, List.setIfInBounds_toArray, List.set_cons_zero, List.set_cons_succ]
          exact wpAnyH_done (by kernel_rfl) ⟨rfl, HF.out⟩ _
        · skip
          refine AllReadyH.cons (o := ⟨some 36, _, _, _, _, _⟩) rfl (fun K hK => ?_) AllReadyH.nil
          go_simp
          refine (itoa_calls _ _ HL.out.2 (HTW.out _ HB.out)).mono ?_
          rintro e w20 ⟨rfl, hb20⟩
          replace HB : Hid (Below W.heap.size W w20) := below_call HB.out hb20
          clear hb20
          have c0 := HC0.out _ HB.out
          dsimp only
          refine hK.out _ _ (HSW.out _ HB.out) (fun hHeld => ?_)
          clear hK K hHold
          have hHold := hHeld
          clear hHeld
          try simp only [Act.put, List.setIfInBounds_toArray, List.set_cons_zero, List.set_cons_succ]
          refine wpAnyH_take (i := 21) (oi := ⟨some 37, _, _, _, _, _⟩) (v := ?v23) rfl (by kernel_rfl) (by kernel_rfl) (by kernel_rfl) (fun _ _ _ h => nomatch h.1) (Or.inl ⟨by rfl, ?hy23⟩) (by assumption) ?rest23
          case hy23 => (intro wz hSw; (try dsimp only at hSw); (first | (go_simp <;> with_reducible rfl) | (simp only [hsz5] at *; go_simp; rw [if_neg hsz5])))
          try simp only [Act.put, List.setIfInBounds_toArray, List.set_cons_zero, List.set_cons_succ]
          refine wpAnyH_ready (rs := [0, 22]) (by kernel_rfl) (by simp) ?_
          refine AllReadyH.cons (o := ⟨some 16, _, _, _, _, _⟩) rfl (fun K hK => ?_) ?_
          · go_simp
            refine hK.out _ _ (HSW.out _ HB.out) (fun hHeld => ?_)
            clear hK K hHold
            have hHold := hHeld
            clear hHeld
            try simp only [Act.put, List.setIfInBounds_toArray, List.set_cons_zero, List.set_cons_succ]
            refine wpAnyH_ready (rs := [22]) (by kernel_rfl) (by simp) ?_
            refine AllReadyH.cons (o := ⟨some 38, _, _, _, _, _⟩) rfl (fun K hK => ?_) AllReadyH.nil
            go_simp
            obtain ⟨sT, hsT⟩ : ∃ sT : ByteArray, sMain ++ ⟨#[58]⟩ ++ bA (decB ln) = sT := ⟨_, rfl⟩
            rw [hsT]
            obtain ⟨g, cg, w23, happ, hg1, hg2, hg3, hb23⟩ := app1S (w0 := w20) sT
            have HB22 : Hid (Below W.heap.size W (World.alloc w20 (.cells #[.string sT] 9))) := below_call HB.out (below_alloc _ _)
            have HBs : Hid (W.heap.size ≤ g) := by have := HB.out.size; show W.heap.size ≤ g; omega
            have c0 := HC0.out _ HB22.out
            refine hK.out _ _ (HSW.out _ HB22.out) (fun hHeld => ?_)
            clear hK K hHold
            have hHold := hHeld
            clear hHeld
            try simp only [Act.put, List.setIfInBounds_toArray, List.set_cons_zero, List.set_cons_succ]
            refine wpAnyH_ready (rs := [23]) (by kernel_rfl) (by simp) ?_
            refine AllReadyH.cons (o := ⟨some 39, _, _, _, _, _⟩) rfl (fun K hK => ?_) AllReadyH.nil
            refine step_append_runZ (by rfl) _ _ _ _ (by rfl) (.slice none 0 0) (.slice (some ⟨w20.heap.size, 0, none⟩) 1 1) _ _ (by rfl) (by rfl) happ ?_
            replace HB : Hid (Below W.heap.size W w23) := below_call HB.out hb23
            have c0 := HC0.out _ HB.out
            have cz := HZ0.out _ HB.out
            have HF : Hid (TrJ (E + 1) W0 1 (w23.setCell ⟨E + 1, 0, none⟩ (.slice (some ⟨g, 0, none⟩) 1 cg)) ∧ KeepsOthers W (w23.setCell ⟨E + 1, 0, none⟩ (.slice (some ⟨g, 0, none⟩) 1 cg)) ∧ KN W0.heap.size (E + 1) W (w23.setCell ⟨E + 1, 0, none⟩ (.slice (some ⟨g, 0, none⟩) 1 cg))) := TrJ.next (by omega) HJ.out HB.out hg3 (by have h1 := (HJ.out.z rfl).1.1; have h2 := HBs.out; omega)
            clear happ hg1 hg2 hg3 hb23 HB22
            refine hK.out _ _ (HSW.out _ HB.out) (fun hHeld => ?_)
            clear hK K hHold
            have hHold := hHeld
            clear hHeld
            try simp only [Act.put, List.setIfInBounds_toArray, List.set_cons_zero, List.set_cons_succ]
            refine wpAnyH_ready (rs := [24]) (by kernel_rfl) (by simp) ?_
            refine AllReadyH.cons (o := ⟨none, _, _, _, _, _⟩) rfl (fun K hK => ?_) AllReadyH.nil
            go_simp
            refine hK.out _ _ (HSS.out _ HF.out.1.g) (fun hHeld => ?_)
            clear hK K hHold
            have hHold := hHeld
            clear hHeld
            try simp only [Act.put, List.setIfInBounds_toArray, List.set_cons_zero, List.set_cons_succ]
            exact wpAnyH_done (by kernel_rfl) ⟨rfl, HF.out⟩ _
          · skip
            refine AllReadyH.cons (o := ⟨some 38, _, _, _, _, _⟩) rfl (fun K hK => ?_) AllReadyH.nil
            go_simp
            obtain ⟨sT, hsT⟩ : ∃ sT : ByteArray, sMain ++ ⟨#[58]⟩ ++ bA (decB ln) = sT := ⟨_, rfl⟩
            rw [hsT]
            obtain ⟨g, cg, w23, happ, hg1, hg2, hg3, hb23⟩ := app1S (w0 := w20) sT
            have HB22 : Hid (Below W.heap.size W (World.alloc w20 (.cells #[.string sT] 9))) := below_call HB.out (below_alloc _ _)
            have HBs : Hid (W.heap.size ≤ g) := by have := HB.out.size; show W.heap.size ≤ g; omega
            have c0 := HC0.out _ HB22.out
            refine hK.out _ _ (HSW.out _ HB22.out) (fun hHeld => ?_)
            clear hK K hHold
            have hHold := hHeld
            clear hHeld
            try simp only [Act.put, List.setIfInBounds_toArray, List.set_cons_zero, List.set_cons_succ]
            refine wpAnyH_ready (rs := [0]) (by kernel_rfl) (by simp) ?_
            refine AllReadyH.cons (o := ⟨some 16, _, _, _, _, _⟩) rfl (fun K hK => ?_) AllReadyH.nil
            go_simp
            refine hK.out _ _ (HSW.out _ HB22.out) (fun hHeld => ?_)
            clear hK K hHold
            have hHold := hHeld
            clear hHeld
            try simp only [Act.put, List.setIfInBounds_toArray, List.set_cons_zero, List.set_cons_succ]
            refine wpAnyH_ready (rs := [23]) (by kernel_rfl) (by simp) ?_
            refine AllReadyH.cons (o := ⟨some 39, _, _, _, _, _⟩) rfl (fun K hK => ?_) AllReadyH.nil
            refine step_append_runZ (by rfl) _ _ _ _ (by rfl) (.slice none 0 0) (.slice (some ⟨w20.heap.size, 0, none⟩) 1 1) _ _ (by rfl) (by rfl) happ ?_
            replace HB : Hid (Below W.heap.size W w23) := below_call HB.out hb23
            have c0 := HC0.out _ HB.out
            have cz := HZ0.out _ HB.out
            have HF : Hid (TrJ (E + 1) W0 1 (w23.setCell ⟨E + 1, 0, none⟩ (.slice (some ⟨g, 0, none⟩) 1 cg)) ∧ KeepsOthers W (w23.setCell ⟨E + 1, 0, none⟩ (.slice (some ⟨g, 0, none⟩) 1 cg)) ∧ KN W0.heap.size (E + 1) W (w23.setCell ⟨E + 1, 0, none⟩ (.slice (some ⟨g, 0, none⟩) 1 cg))) := TrJ.next (by omega) HJ.out HB.out hg3 (by have h1 := (HJ.out.z rfl).1.1; have h2 := HBs.out; omega)
            clear happ hg1 hg2 hg3 hb23 HB22
            refine hK.out _ _ (HSW.out _ HB.out) (fun hHeld => ?_)
            clear hK K hHold
            have hHold := hHeld
            clear hHeld
            try simp only [Act.put, List.setIfInBounds_toArray, List.set_cons_zero, List.set_cons_succ]
            refine wpAnyH_ready (rs := [24]) (by kernel_rfl) (by simp) ?_
            refine AllReadyH.cons (o := ⟨none, _, _, _, _, _⟩) rfl (fun K hK => ?_) AllReadyH.nil
            go_simp
            refine hK.out _ _ (HSS.out _ HF.out.1.g) (fun hHeld => ?_)
            clear hK K hHold
            have hHold := hHeld
            clear hHeld
            try simp only [Act.put, List.setIfInBounds_toArray, List.set_cons_zero, List.set_cons_succ]
            exact wpAnyH_done (by kernel_rfl) ⟨rfl, HF.out⟩ _
    -- /REGION
  case done =>
    rintro D ys W hD hS hJ hK
    have hy : ys.length = 1 := by rw [← List.length_map (f := Fin.val), hS, downL_len]
    rw [hy] at hJ
    obtain ⟨g, c, s, h1, h2⟩ := hJ.o (by omega)
    have c1 : W.cell? ⟨E + 1, 0, none⟩ = some (.slice (some ⟨g, 0, none⟩) 1 c) := h1.1.cell 0 rfl
    have hBW : Below u.heap.size u W := HW.out.2.1.trans (hJ.g.to (by have := HW.out.2.1.size; omega) (fun k e => by have := HE.out; omega))
    clear hS hJ
    go_wp2_with fail
    refine (join1_calls g c s _ _ h2).mono ?_
    rintro e w5 ⟨rfl, rfl⟩
    go_wp2_with fail
    refine ⟨by simp, .inl ⟨_, _, rfl, run_takeDeferred hK, ?_⟩⟩
    refine ⟨.string s, ?_, ⟨_, rfl⟩, hBW.trans (belowK_b (w := W0) (by have := HW.out.2.1.size; omega) _ D _ _ hD hK rfl rfl)⟩
    simp [results, Tryz.results232, go_sem]
  case stop =>
    rintro D c pre W hD _ h hK
    exact h.elim
end Go.Proofs.YtdialodjllpgaaaGreatDoor
