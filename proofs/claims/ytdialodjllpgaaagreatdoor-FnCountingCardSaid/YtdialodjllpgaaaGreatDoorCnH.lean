import Derived.Test.YtdialodjllpgaaaGreatDoorCnF
import Derived.Test.YtdialodjllpgaaaGreatDoorCnI
/-! The program's run: what is called and its arguments. -/
namespace Go.Proofs.YtdialodjllpgaaaGreatDoor
open Go.RowKit
abbrev inD (n : Int) : VD := ⟨2, n, 0, ⟨#[]⟩, 0⟩
attribute [local go_sem] run_store_float
attribute [local go_sem ↓] Go.wp_at_zero Go.wp_at_succ

/-- a box of the caller's own that it writes -/
def BxO (X : RX) (d : MD) (u : World) (B : Nat) (A : Array Value) : Prop := OwnB u B A ∧ ¬ stB X d B
section
variable {X : RX} {d d' : MD} {u u' : World} {B : Nat} {A : Array Value}
theorem BxO.step (h : BxO X d u B A) (k : Sp X d u d' u') : BxO X d' u' B A := ⟨k.g.ownB h.1 h.2, fun e => h.2 (k.mv B h.1.1.1 e)⟩
theorem BxO.new (h : St X d u) (A : Array Value) (t : TypeId) : BxO X d (u.alloc (.cells A t)) u.heap.size A := ⟨OwnB.new u A t, h.other (Nat.le_refl _)⟩
theorem BxO.alloc (h : BxO X d u B A) (o : Obj) : BxO X d (u.alloc o) B A := ⟨h.1.block (by simp) (Below.heap_alloc u o B h.1.1.1), h.2⟩
theorem gx5 (w : World) (B : Nat) (a b c e f : Value) : Gx (fun k => k = B) w (((((w.setCell ⟨B, 0, none⟩ a).setCell ⟨B, 1, none⟩ b).setCell ⟨B, 2, none⟩ c).setCell ⟨B, 3, none⟩ e).setCell ⟨B, 4, none⟩ f) :=
  ((((Gx.set _ _ _ _).trans (Gx.set _ _ _ _) (fun _ _ h => h)).trans (Gx.set _ _ _ _) (fun _ _ h => h)).trans (Gx.set _ _ _ _) (fun _ _ h => h)).trans (Gx.set _ _ _ _) (fun _ _ h => h)
end
abbrev z5 : Array Value := #[.int .i64 0, .int .i64 0, .float .f64 0, .string ⟨#[]⟩, .int .i64 0]

set_option maxRecDepth 100000 in
set_option maxHeartbeats 8000000 in
theorem parts_calls (X : RX) (P : PX) (d : MD) (Q : Nat) (v : VD) (u : World) (h : St X d u) (hP : P.ok X) (hv : d.p.vp = .pointer (some ⟨Q, 0, none⟩)) (hQ : Bx X d u Q (vA v)) (hlen : d.held.length ≤ 900) :
    Calls Tryz.prog 244 #[ptr X.F, ptr P.p1, ptr P.p2] u fun e w' => (∃ g c, e = .returned (.tuple #[prD.v, .slice (some ⟨g, 0, none⟩) 1 c]) ∧ OwV u.heap.size w' g c [v] ∧ ToG X d u d.p w' g) := by
  have HS : Hid (St X d u) := h
  have HQ : Hid (Bx X d u Q (vA v)) := hQ
  have HP : Hid (P.ok X) := hP
  have hb := (hP.p1.at h)
  have b1 := hb.cell 0 rfl
  have hbl := hb.1
  clear h hP hQ hb
  go_enter Tryz.func244, Tryz.ntmps244
  go_wp2_with fail
  have HC : Hid (Has (u.alloc (.cells z5 56)) P.c (vA prD)) := HP.out.c.at (HS.out.alloc _)
  refine (lit_calls _ P.c prD _ HC.out).mono ?_
  rintro e w1 ⟨rfl, hb1⟩
  have H1 : Hid (Sp X d u d w1) := ((Sp.refl HS.out).alloc _).call hb1
  have HR1 : Hid (BxO X d w1 u.heap.size z5) := (BxO.new HS.out z5 _).step (Sp.below (HS.out.alloc _) hb1)
  clear hb1 b1 hbl HC
  go_wp2_with fail
  obtain ⟨w2, hw2⟩ : ∃ w2, w1.alloc (.cells (vA prD) 56) = w2 := ⟨_, rfl⟩
  obtain ⟨C, hC0⟩ : ∃ C, w1.heap.size = C := ⟨_, rfl⟩
  have H2 : Hid (Sp X d u d w2) := by rw [← hw2]; exact H1.out.alloc _
  have HC : Hid (Bx X d w2 C (vA prD)) := by rw [← hw2, ← hC0]; exact Bx.new H1.out.s _ _
  have HR2 : Hid (BxO X d w2 u.heap.size z5) := by rw [← hw2]; exact HR1.out.alloc _
  rw [show w1.alloc (.cells #[.int .i64 8, .int .i64 0, .float .f64 0, .string ⟨#[]⟩, .int .i64 0] 56) = w2 from hw2, hC0]
  clear hw2 hC0 H1 HR1
  have f0 := H2.out.s.f.1.cell 0 rfl
  have hF := H2.out.s.f.1.1
  have hC := HC.out.1.1
  have c0 := HC.out.cell 0 rfl
  have c1 := HC.out.cell 1 rfl
  have c2 := HC.out.cell 2 rfl
  have c3 := HC.out.cell 3 rfl
  have c4 := HC.out.cell 4 rfl
  have HG : Hid (Has (w2.alloc (.cells (vA prD) 56)).drew w2.heap.size (vA prD)) := Has.drew (Has.new _ _ _)
  have HS2 : Hid (St X d (w2.alloc (.cells (vA prD) 56)).drew) := (H2.out.s.alloc _).drew
  go_region_with (go_at_call 192; refine (hold_one X d _ prD _ HS2.out (by omega) HG.out).mono ?_; rintro e w3 ⟨rfl, ht3⟩)
  all_goals
    obtain ⟨d3, hs3, e3⟩ := ht3
    have hsp : Sp X d w2 d3 w3 := ((Sp.refl H2.out.s).alloc _).drew.trans hs3
    have H3 : Hid (Sp X d u d3 w3 ∧ d3.p = d.p.hold [prD]) := ⟨H2.out.trans hsp, e3⟩
    have HC3 : Hid (Bx X d3 w3 C (vA prD)) := HC.out.step hsp
    have HR3 : Hid (BxO X d3 w3 u.heap.size z5) := HR2.out.step hsp
    clear hs3 e3 hsp H2 HC HR2 HG HS2 f0 hF hC c0 c1 c2 c3 c4
    have b2 := (HP.out.p2.at H3.out.1.s).cell 0 rfl
    have hh3 : d3.held = d.held ++ [prD] := congrArg DP.held H3.out.2
    have hl3 : d3.held.length = d.held.length + 1 := by rw [hh3]; simp
    have hv3 : d3.p.vp = .pointer (some ⟨Q, 0, none⟩) := by rw [H3.out.2]; exact hv
    go_wp2_with fail
    refine (list_calls X P d3 Q v _ H3.out.1.s HP.out hv3 (HQ.out.step H3.out.1) (by omega) (by omega)).mono ?_
    rintro e w4 ⟨g4, c4, rfl, ho4, d4, hs4, e4, hg4⟩
    have HO4 : Hid (OwV w3.heap.size w4 g4 c4 [v] ∧ ¬ stB X d4 g4) := ⟨ho4, hg4⟩
    have H4 : Hid (Sp X d u d4 w4 ∧ d4.p = d.p.hold [prD]) := ⟨H3.out.1.trans hs4, e4.trans H3.out.2⟩
    have HC4 : Hid (Bx X d4 w4 C (vA prD)) := HC3.out.step hs4
    have HR4 : Hid (BxO X d4 w4 u.heap.size z5) := HR3.out.step hs4
    have HZ : Hid (u.heap.size ≤ w3.heap.size) := H3.out.1.g.size
    have HZ2 : Hid (u.heap.size < w3.heap.size) := HR3.out.1.1.1
    clear ho4 hg4 hs4 e4 H3 HC3 HR3 b2 hh3 hl3 hv3
    have f0 := H4.out.1.s.f.1.cell 0 rfl
    have hh4 : d4.held = d.held ++ [prD] := congrArg DP.held H4.out.2
    have hl4 : d4.held.length = d.held.length + 1 := by rw [hh4]; simp
    go_wp2_with fail
    refine (release_calls X d4 1 _ H4.out.1.s (by omega) (by omega)).mono ?_
    rintro e w5 ⟨rfl, d5, hs5, e5⟩
    have HO5 : Hid (OwV w3.heap.size w5 g4 c4 [v] ∧ ¬ stB X d5 g4) := own_step HO4.out.1 HO4.out.2 hs5
    have H5 : Hid (Sp X d u d5 w5 ∧ d5.p = d.p) := ⟨H4.out.1.trans hs5, by rw [e5, H4.out.2]; exact DP.hold_cut d.p _ (by show d.held.length = _; omega)⟩
    have HC5 : Hid (Bx X d5 w5 C (vA prD)) := HC4.out.step hs5
    have HR5 : Hid (BxO X d5 w5 u.heap.size z5) := HR4.out.step hs5
    clear hs5 e5 HO4 H4 HC4 HR4 f0 hh4 hl4
    have c0 := HC5.out.cell 0 rfl
    have c1 := HC5.out.cell 1 rfl
    have c2 := HC5.out.cell 2 rfl
    have c3 := HC5.out.cell 3 rfl
    have c4' := HC5.out.cell 4 rfl
    have r0 := HR5.out.1.1.cell 0 rfl
    have r1 := HR5.out.1.1.cell 1 rfl
    have r2 := HR5.out.1.1.cell 2 rfl
    have r3 := HR5.out.1.1.cell 3 rfl
    have r4 := HR5.out.1.1.cell 4 rfl
    have rz := HR5.out.1.2
    have HF : Hid (∀ w6, Gx (fun k => k = u.heap.size) w5 w6 → OwV u.heap.size w6 g4 c4 [v] ∧ ToG X d u d.p w6 g4) := fun w6 hg6 => ⟨own_base2 (ownsK_block HO5.out.1 fun k e => hg6.block k (HO5.out.1.lt k e).2 (fun c => by have := (HO5.out.1.lt k e).1; have := HZ2.out; omega)) HZ.out, d5, Sp.beside HS.out H5.out.1 hg6 (Nat.le_refl _) HR5.out.2, H5.out.2, HO5.out.2⟩
    go_wp2_with fail
    generalize u.heap.size = R at *
    exact bodyPost_ret (v := .tuple #[prD.v, .slice (some ⟨g4, 0, none⟩) 1 c4]) (by simp [results, Tryz.results244, go_sem, r0, r1, r2, r3, r4]) rfl ⟨g4, c4, rfl, HF.out _ (gx5 _ _ _ _ _ _ _)⟩
end Go.Proofs.YtdialodjllpgaaaGreatDoor

/-! The program's run: print. -/
namespace Go.Proofs.YtdialodjllpgaaaGreatDoor
open Go.RowKit
attribute [local go_sem] run_store_float
attribute [local go_sem ↓] Go.wp_at_zero Go.wp_at_succ

/-- the library's table, in every world of a run -/
def TabX (X : RX) : Prop := ∀ u, Gx (fun k => k = X.M ∨ X.W.heap.size ≤ k) X.W u → TabP u
set_option maxRecDepth 100000 in
set_option maxHeartbeats 4000000 in
theorem here_calls (X : RX) (d : MD) (u : World) (h : St X d u) :
    Calls Tryz.prog 231 #[ptr X.T] u fun e w' => e = .returned (.tuple #[.int .i64 0, .int .i64 d.line]) ∧ Below u.heap.size u w' := by
  have t7 := h.t.1.cell 7 rfl
  have r0 := h.r.1.cell 0 h.x.r0
  have f1 := h.f.1.cell 1 rfl
  have f12 := h.f.1.cell 12 rfl
  have hw : IntKind.i64.wrap 0 = 0 := by decide
  clear h
  go_enter Tryz.func231, Tryz.ntmps231
  go_wp2_with fail
  go_region_with fail
  all_goals go_wp2_with fail
  all_goals go_region_with fail
  all_goals go_wp2_with fail
  all_goals first
    | (go_ret; exact ⟨rfl, (Below.refl _ _).drew.drew⟩)
    | exact bodyPost_ret (v := .tuple #[.int .i64 0, .int .i64 d.line]) (by simp [results, Tryz.results231, go_sem]) rfl ⟨rfl, (Below.refl _ _).drew.drew⟩

theorem infoStr' : (Tryz.prog.info? 9).map (fun i => (i.zero, i.size, i.bytes)) = some (some (.string ⟨#[]⟩), 1, 16) := by kernel_rfl
set_option maxRecDepth 100000 in
set_option maxHeartbeats 4000000 in
theorem join1_calls (g cap : Nat) (s t : ByteArray) (u : World) (h : u.cell? ⟨g, 0, none⟩ = some (.string s)) :
    Calls Tryz.prog 287 #[.slice (some ⟨g, 0, none⟩) 1 cap, .string t] u fun e w' => e = .returned (.string s) ∧ w' = u := by
  go_enter Tryz.func287, Tryz.ntmps287
  go_wp2_with fail
  go_ret
  exact ⟨rfl, rfl⟩

/-- a value at the head of a block that is none of a run's -/
def Bc (X : RX) (d : MD) (u : World) (g : Nat) (v : VD) : Prop := (g < u.heap.size ∧ ∀ j x, (v5 v)[j]? = some x → u.cell? ⟨g, j, none⟩ = some x) ∧ ¬ stB X d g
theorem Bc.cell {X : RX} {d : MD} {u : World} {g : Nat} {v : VD} (h : Bc X d u g v) (j : Nat) {x : Value} (e : (v5 v)[j]? = some x) : u.cell? ⟨g, j, none⟩ = some x := h.1.2 j x e
theorem Bc.step {X : RX} {d d' : MD} {u u' : World} {g : Nat} {v : VD} (h : Bc X d u g v) (k : Sp X d u d' u') : Bc X d' u' g v := ⟨⟨Nat.lt_of_lt_of_le h.1.1 k.g.size, fun j x e => (World.cell?_of_block (a := ⟨g, j, none⟩) (k.g.block g h.1.1 h.2)).trans (h.1.2 j x e)⟩, fun e => h.2 (k.mv g h.1.1 e)⟩
theorem Bc.own {X : RX} {d : MD} {u : World} {N g c : Nat} {v : VD} (h : OwV N u g c [v]) (hn : ¬ stB X d g) : Bc X d u g v := ⟨⟨(own_ge h (k := g) rfl).2, fun j x e => by
  have := h.cells (g := g) rfl j x (by simpa [hL] using e)
  cases j <;> simpa [Addr.add] using this⟩, hn⟩
set_option maxRecDepth 100000 in
set_option maxHeartbeats 8000000 in
theorem print_calls (X : RX) (d : MD) (g c : Nat) (n : Int) (u : World) (h : St X d u) (hT : TabX X) (hn : I64r n) (hl : d.recs.length < 5000) (hg : Bc X d u g ⟨2, n, 0, ⟨#[]⟩, 0⟩) :
    Calls Tryz.prog 295 #[ptr X.M, .slice (some ⟨g, 0, none⟩) 1 c] u fun e w' => e = .returned (.tuple #[]) ∧ To X d u (d.p.rcd ⟨6, 0, 0, d.line, bA (decB n)⟩) w' := by
  have HS : Hid (St X d u) := h
  have HT : Hid (TabX X) := hT
  have g0 := hg.cell 0 rfl
  have g1 := hg.cell 1 rfl
  have g2 := hg.cell 2 rfl
  have g3 := hg.cell 3 rfl
  have g4 := hg.cell 4 rfl
  clear h hT hg
  go_enter Tryz.func295, Tryz.ntmps295
  go_wp2_with fail
  go_loopw [4, 12] (fun t i wr => (i = .int .i64 0 ∧ t = .slice none 0 0 ∧ wr = u) ∨ ∃ g5 c5, i = .int .i64 1 ∧ t = .slice (some ⟨g5, 0, none⟩) 1 c5 ∧ wr.cell? ⟨g5, 0, none⟩ = some (.string (bA (decB n))) ∧ Hid (Below u.heap.size u wr)) (fun _ i _ => 1 - (intOf i).toNat)
  case atStart => exact .inl ⟨rfl, rfl, rfl⟩
  case round =>
    rcases hrel with ⟨rfl, rfl, rfl⟩ | ⟨g5, c5, rfl, rfl, hc5, HB⟩
    · go_wp2_with fail
      have HTp : Hid (TabP (wr.alloc (.cells #[.int .i64 2, .int .i64 n, .float .f64 0, .string ⟨#[]⟩, .int .i64 0] 56))) := HT.out _ (HS.out.alloc _).k
      refine (text_calls n _ hn HTp.out).mono ?_
      rintro e w1 ⟨rfl, hb1⟩
      have HB1 : Hid (Below wr.heap.size wr w1) := below_call (below_alloc _ _) hb1
      clear hb1 HTp
      obtain ⟨i0, hi0, hy0, hy1, hy2⟩ := info_parts infoStr'
      obtain ⟨v', w7, happ, hown, hgrow, hnil, _⟩ := run_append_own_at (P := Tryz.prog) (w1.alloc (.cells #[.string (bA (decB n))] 9)) wr.heap.size 25 25 9 i0 _ 1 16 Tryz.underlying25 hi0 hy0 hy1 hy2 rfl (by decide) (.slice none 0 0) 0 [] (World.ownsRow_nil _ _ _ _) ⟨w1.heap.size, 0, none⟩ 1 1 [.string (bA (decB n))] rfl (cell_one_new _ _ _) (by simp [Value.oneCell']) (by unfold maxLen; omega) (by omega) (by have := HB1.out.size; simp; omega)
      have HB7 : Hid (Below wr.heap.size wr w7) := (HB1.out.alloc HB1.out.size _).grown hgrow (by have := HB1.out.size; simp; omega) (fun k e => by cases e)
      obtain ⟨g5, c5, rfl, hc5⟩ : ∃ g5 c5, v' = .slice (some ⟨g5, 0, none⟩) 1 c5 ∧ w7.cell? ⟨g5, 0, none⟩ = some (.string (bA (decB n))) := by
        have hne : v' ≠ .slice none 0 0 := fun e => by simpa using hnil.1 e
        have hown2 := hown
        rcases hown.2 with ⟨e, _⟩ | ⟨g5, c5, cur, e, _⟩
        · exact absurd e hne
        · subst e
          have := hown2.cells (g := g5) rfl 0 (.string (bA (decB n))) rfl
          exact ⟨g5, c5, rfl, by simpa [Addr.add] using this⟩
      clear hown hgrow hnil HB1
      go_wp2_with (at_builtin; refine wpList_app (by rfl) _ _ _ _ (by rfl) (.slice none 0 0) (.slice (some ⟨w1.heap.size, 0, none⟩) 1 1) _ _ (by rfl) (by rfl) happ ?_)
      go_roundw
      case rel => exact .inr ⟨g5, c5, rfl, rfl, hc5, HB7⟩
      case measure => simp [intOf]
    · have H1 : Hid (Sp X d u d wr) := Sp.below HS.out HB.out
      have m23 := H1.out.s.m.1.cell 23 rfl
      have hsz : ¬ (4000 : Int) < ((bA (decB n)).size : Int) := by
        have h1 := decB_len n
        have h2 : (bA (decB n)).size = (decB n).length := bA_size _
        omega
      clear HB g0 g1 g2 g3 g4
      go_wp2_with fail
      refine (join1_calls g5 c5 (bA (decB n)) _ _ hc5).mono ?_
      rintro e w2 ⟨rfl, rfl⟩
      go_wp2_with fail
      refine (here_calls X d _ H1.out.s).mono ?_
      rintro e w3 ⟨rfl, hb3⟩
      have H3 : Hid (Sp X d u d w3) := H1.out.call hb3
      clear hb3 H1 m23
      go_wp2_with fail
      refine (record_calls X d 6 0 d.line (bA (decB n)) _ H3.out.s hl).mono ?_
      rintro e w4 ⟨rfl, ht4⟩
      have HF : Hid _ := To.step H3.out ht4
      clear ht4
      go_wp2_with fail
      go_end0
      exact ⟨rfl, HF.out⟩
end Go.Proofs.YtdialodjllpgaaaGreatDoor
