import Derived.Test.YtiidepafifodjaaPutC
/-! Tables: a key taken out. -/
namespace Go.Proofs.Ytiidepafifodjaa
open Go.RowKit Go.ChangeMaps Go.MapKept
attribute [local go_sem] run_store_float

theorem map_erase {α β : Type} (f : α → β) : ∀ (l : List α) (i : Nat), (l.eraseIdx i).map f = (l.map f).eraseIdx i
  | [], _ => rfl
  | _ :: _, 0 => rfl
  | _ :: l, i + 1 => by simp [map_erase f l i]
theorem delete_run {P : Program} {T K E : TypeId} (ht : P.underlying T = some (.map K E)) (hK : KeyT P K) {w : World} {b : Nat} {L : List (Mk × Nat)} (h : MapIs w b L) (m : Mk) (K' : TypeId) :
    ∃ w', (∀ ty, (Builtin.delete_ #[T, K'] ty #[.map (some b), mkV m]).run P w = .ok (.tuple #[]) w') ∧ (∃ L', MapIs w' b L') ∧ w.mapTurned w' b := by
  obtain ⟨es, c, hb, he⟩ := h
  have hf := findKey_run hK m w es.toList L he
  cases hi : idx L m with
  | none =>
    rw [hi] at hf
    refine ⟨setBlock w b (.map es c), fun ty => ?_, ⟨L, es, c, heap_setBlock_same hb _, he⟩, ⟨es, c, _, _, hb, rfl⟩⟩
    simp [Builtin.delete_, run_underlying ht, MapKept.run_getObj_map hb, hK.chk, hf, MapKept.run_setObj_map _ hb, Result.andThen, setBlock]
  | some q =>
    obtain ⟨p, v⟩ := q
    rw [hi] at hf
    refine ⟨setBlock w b (.map (es.eraseIdxIfInBounds p) c), fun ty => ?_, ⟨L.eraseIdx p, es.eraseIdxIfInBounds p, c, heap_setBlock_same hb _, ?_⟩, ⟨es, c, _, _, hb, rfl⟩⟩
    · simp [Builtin.delete_, run_underlying ht, MapKept.run_getObj_map hb, hK.chk, hf, MapKept.run_setObj_map _ hb, Result.andThen, setBlock]
    · have : (es.eraseIdxIfInBounds p).toList = es.toList.eraseIdx p := by simp
      rw [this, map_erase, he, map_erase]

/-- an indexed table of one's own, under way -/
structure TS (N : Nat) (w0 : World) (X : Nat) (g n cap B : Nat) (t : Int) (q : Nat → PD) (L : List (Mk × Nat)) (u : World) : Prop where
  x : XO N u X (some ⟨g, 0, none⟩) n cap B t q L
  b : Below N w0 u
  s : N ≤ w0.heap.size
theorem TS.call {N : Nat} {w0 u : World} {X g n cap B : Nat} {t : Int} {q : Nat → PD} {L : List (Mk × Nat)} {w : World} (h : TS N w0 X g n cap B t q L u) (hb : Below u.heap.size u w) : TS N w0 X g n cap B t q L w := ⟨h.x.call hb, h.b.trans (hb.mono (Nat.le_trans h.s h.b.size)), h.s⟩
theorem TS.drew {N : Nat} {w0 u : World} {X g n cap B : Nat} {t : Int} {q : Nat → PD} {L : List (Mk × Nat)} (h : TS N w0 X g n cap B t q L u) : TS N w0 X g n cap B t q L u.drew := ⟨h.x.drew, h.b.drew, h.s⟩
theorem TS.turned {N : Nat} {w0 u : World} {X g n cap B : Nat} {t : Int} {q : Nat → PD} {L L' : List (Mk × Nat)} {w : World} (h : TS N w0 X g n cap B t q L u) (hM : MapIs w B L') (ht : u.mapTurned w B) : TS N w0 X g n cap B t q L' w :=
  ⟨h.x.turned hM ht, h.b.grown ht.grown (Nat.le_trans h.s h.b.size) (fun k e => by cases e; exact h.x.bl), h.s⟩
theorem TS.at {N : Nat} {w0 u : World} {X g n cap B : Nat} {t : Int} {q : Nat → PD} {L : List (Mk × Nat)} (h : TS N w0 X g n cap B t q L u) {i : Nat} (hi : i < n) (j : Nat) (hj : j < 11) : u.cell? ⟨g, i * 11 + j, none⟩ = (pCells (q i))[j]? := by
  obtain ⟨b, off, e, h1, h2⟩ := own_tab h.x.own (by omega)
  cases e
  simpa using h2 i hi j hj
/-- what is read ahead of a call of pairMark -/
structure RS (X g n cap B i : Nat) (p : PD) (u : World) : Prop where
  c : u.cell? ⟨X, 0, none⟩ = some (.slice (some ⟨g, 0, none⟩) n cap) ∧ u.cell? ⟨X, 1, none⟩ = some (.map (some B)) ∧ u.cell? ⟨g, i * 11, none⟩ = some (.int .i64 p.key.k) ∧ u.cell? ⟨g, i * 11 + 1, none⟩ = some (.int .i64 p.key.n) ∧ u.cell? ⟨g, i * 11 + 2, none⟩ = some (.float .f64 p.key.f) ∧ u.cell? ⟨g, i * 11 + 3, none⟩ = some (.string p.key.s) ∧ u.cell? ⟨g, i * 11 + 4, none⟩ = some (.int .i64 p.key.r) ∧ u.cell? ⟨g, i * 11 + 5, none⟩ = some (.int .i64 p.val.k) ∧ u.cell? ⟨g, i * 11 + 6, none⟩ = some (.int .i64 p.val.n) ∧ u.cell? ⟨g, i * 11 + 7, none⟩ = some (.float .f64 p.val.f) ∧ u.cell? ⟨g, i * 11 + 8, none⟩ = some (.string p.val.s) ∧ u.cell? ⟨g, i * 11 + 9, none⟩ = some (.int .i64 p.val.r) ∧ u.cell? ⟨g, i * 11 + 10, none⟩ = some (.int .i64 p.turn)
theorem TS.rs {N : Nat} {w0 u : World} {X g n cap B : Nat} {t : Int} {q : Nat → PD} {L : List (Mk × Nat)} (h : TS N w0 X g n cap B t q L u) {i : Nat} (hi : i < n) : RS X g n cap B i (q i) u :=
  ⟨h.x.c0, h.x.c1, h.at hi 0 (by omega), h.at hi 1 (by omega), h.at hi 2 (by omega), h.at hi 3 (by omega), h.at hi 4 (by omega), h.at hi 5 (by omega), h.at hi 6 (by omega), h.at hi 7 (by omega), h.at hi 8 (by omega), h.at hi 9 (by omega), h.at hi 10 (by omega)⟩

theorem XO.far {N : Nat} {u w' : World} {X g n cap B : Nat} {t : Int} {q : Nat → PD} {L : List (Mk × Nat)} (h : XO N u X (some ⟨g, 0, none⟩) n cap B t q L) (hg : u.grownBy w' (some g)) : (∀ o, w'.cell? ⟨X, o, none⟩ = u.cell? ⟨X, o, none⟩) ∧ (∀ o, w'.frozen? ⟨X, o, none⟩ = false) := by
  have hne : some X ≠ some g := fun e => h.ne g 0 none rfl (by cases e; rfl)
  exact ⟨fun o => hg.cell_far ⟨X, o, none⟩ h.lt hne, fun o => (hg.frozen_far ⟨X, o, none⟩ h.lt hne).trans (h.fr o)⟩
theorem TS.rowed {N : Nat} {w0 u w' : World} {X g n cap B m : Nat} {t : Int} {q q' : Nat → PD} {L : List (Mk × Nat)} (h : TS N w0 X g n cap B t q L u) (ho : w'.ownsRow N 123 11 (.slice (some ⟨g, 0, none⟩) m cap) m (cellsOf q' m)) (hg : u.grownBy w' (some g)) : TS N w0 X g m cap B t q' L (w'.setCell ⟨X, 0, none⟩ (.slice (some ⟨g, 0, none⟩) m cap)) := by
  obtain ⟨hc, hf⟩ := h.x.far hg
  have k0 := (hc 0).trans h.x.c0
  have k1 := (hc 1).trans h.x.c1
  have k2 := (hc 2).trans h.x.c2
  have rb : some B ≠ some g := fun e => by
    obtain ⟨_, cur, hh, _⟩ := own_at h.x.own
    obtain ⟨es, c, hm, _⟩ := h.x.map
    cases e
    rw [hm] at hh; cases hh
  have hM : MapIs w' B L := by
    have hl := h.x.map.lt
    obtain ⟨es, c, hm, e⟩ := h.x.map
    exact ⟨es, c, (hg.block B hl rb).trans hm, e⟩
  refine ⟨⟨h.x.lo, by have := h.x.lt; have := hg.size; simp; omega, by simp [go_sem, k0], by simp [go_sem, k1], by simp [go_sem, k2], fun o => by simp [go_sem, hf o], own_set ho (fun b off sp e => by cases e; exact h.x.ne g 0 none rfl) 0 _, mapIs_set hM (a := ⟨X, 0, none⟩) (mapIs_ne hM k0) _, h.x.bl, h.x.ne⟩, ?_, h.s⟩
  exact (h.b.grown hg (Nat.le_trans h.s h.b.size) (fun k e => by cases e; exact (own_at h.x.own).1)).setCell (p := ⟨X, 0, none⟩) h.x.lo _

set_option maxRecDepth 100000 in
set_option maxHeartbeats 8000000 in
theorem takeOut_calls (N X g m cap B i : Nat) (t : Int) (q : Nat → PD) (L : List (Mk × Nat)) (w : World) (hN : N ≤ w.heap.size) (hi : i < m + 1) (hm : m < 500) (hX : XO N w X (some ⟨g, 0, none⟩) (m + 1) cap B t q L) :
    Calls Try.prog 127 #[.pointer (some ⟨X, 0, none⟩), .int .i64 i] w fun e w' => e = .returned (.tuple #[]) ∧ (∃ L', XO N w' X (some ⟨g, 0, none⟩) m cap B t (rmv q i) L') ∧ Below N w w' := by
  have HC : Hid (TS N w X g (m + 1) cap B t q L w) := ⟨hX, Below.refl _ _, hN⟩
  clear hX hN
  have HR : Hid (∀ L u, TS N w X g (m + 1) cap B t q L u → RS X g (m + 1) cap B i (q i) u) := fun L u h => h.rs hi
  have hI0 : (0 : Int) ≤ (i : Int) := Int.natCast_nonneg _
  have hI1 : (i : Int) < (m : Int) + 1 := by omega
  have HM : Hid (∀ w, Calls Try.prog 123 #[pOf (q i)] w fun e w' => e = .returned (mkV (mk (q i).key)) ∧ Below w.heap.size w w') := fun w => pairMark_calls (q i) w
  generalize mk (q i).key = k at HM
  generalize q i = p at HM HR
  go_enter Try.func127, Try.ntmps127
  go_wp2_with fail
  go_region_held3 (fun w' => w'.cell? ⟨X, 0, none⟩ = some (.slice (some ⟨g, 0, none⟩) (m + 1) cap) ∧ w'.cell? ⟨X, 1, none⟩ = some (.map (some B)) ∧ w'.cell? ⟨g, i * 11, none⟩ = some (.int .i64 p.key.k) ∧ w'.cell? ⟨g, i * 11 + 1, none⟩ = some (.int .i64 p.key.n) ∧ w'.cell? ⟨g, i * 11 + 2, none⟩ = some (.float .f64 p.key.f) ∧ w'.cell? ⟨g, i * 11 + 3, none⟩ = some (.string p.key.s) ∧ w'.cell? ⟨g, i * 11 + 4, none⟩ = some (.int .i64 p.key.r) ∧ w'.cell? ⟨g, i * 11 + 5, none⟩ = some (.int .i64 p.val.k) ∧ w'.cell? ⟨g, i * 11 + 6, none⟩ = some (.int .i64 p.val.n) ∧ w'.cell? ⟨g, i * 11 + 7, none⟩ = some (.float .f64 p.val.f) ∧ w'.cell? ⟨g, i * 11 + 8, none⟩ = some (.string p.val.s) ∧ w'.cell? ⟨g, i * 11 + 9, none⟩ = some (.int .i64 p.val.r) ∧ w'.cell? ⟨g, i * 11 + 10, none⟩ = some (.int .i64 p.turn)) (first | (with_reducible exact (HR.out _ _ HC4.out).c) | (with_reducible exact (HR.out _ _ HC.out).c) | (with_reducible exact (HR.out _ _ HC.out.drew).c)) ((go_at_call 123; refine (HM.out _).mono ?_; rintro e w4 ⟨rfl, hb4⟩; have HC4 : Hid (TS N w X g (m + 1) cap B t q L w4) := (by first | exact HC.out.call hb4 | exact HC.out.drew.call hb4); clear HC hb4; obtain ⟨w5, hrun, ⟨L5, hM5⟩, hturn⟩ := delete_run Try.underlying113 markT HC4.out.x.map k 173; have HC : Hid (TS N w X g (m + 1) cap B t q L5 w5) := HC4.out.turned hM5 hturn; clear hM5 hturn))
  clear HC4 HM HR
  have c0 := HC.out.x.c0
  have hwr : IntKind.i64.wrap ((i : Int) + 1) = (i : Int) + 1 := by rw [IntKind.wrap_i64]; omega
  go_wp2_with (go_at_call 147; refine (delete_calls N g m cap i q _ hi HC.out.x.own _ rfl).mono ?_; rintro e w6 ⟨rfl, ho6, hg6⟩; have HT : Hid (TS N w X g m cap B t (rmv q i) L5 (w6.setCell ⟨X, 0, none⟩ (.slice (some ⟨g, 0, none⟩) m cap))) := HC.out.rowed ho6 hg6; have hf6 := (HC.out.x.far hg6).2; have c6 := ((HC.out.x.far hg6).1 0).trans c0; clear HC ho6 hg6 c0)
  obtain ⟨W1, hW1⟩ : ∃ W1, w6.setCell ⟨X, 0, none⟩ (.slice (some ⟨g, 0, none⟩) m cap) = W1 := ⟨_, rfl⟩
  rw [hW1] at HT ⊢
  clear hW1 hf6 c6 hrun hwr
  obtain ⟨q', hq'⟩ : ∃ q', rmv q i = q' := ⟨_, rfl⟩
  rw [hq'] at HT
  have HQ : Hid (rmv q i = q') := hq'
  clear hq'
  go_loopw [4] (fun iv wr => ∃ (j : Nat) (L' : List (Mk × Nat)), j ≤ m ∧ iv = .int .i64 j ∧ TS N w X g m cap B t q' L' wr) (fun iv _ => m - (intOf iv).toNat)
  case atStart => exact ⟨i, _, by omega, rfl, HT.out⟩
  case round =>
    clear HT
    obtain ⟨j, L', hj, rfl, hT⟩ := hrel
    have HC : Hid (TS N w X g m cap B t q' L' wr) := hT
    clear hT
    have c0 := HC.out.x.c0
    by_cases hjm : j < m
    · have HR : Hid (∀ L u, TS N w X g m cap B t q' L u → RS X g m cap B j (q' j) u) := fun L u h => h.rs hjm
      have HM : Hid (∀ w, Calls Try.prog 123 #[pOf (q' j)] w fun e w' => e = .returned (mkV (mk (q' j).key)) ∧ Below w.heap.size w w') := fun w => pairMark_calls (q' j) w
      generalize mk (q' j).key = k at HM
      generalize q' j = p at HM HR
      have hJ0 : (0 : Int) ≤ (j : Int) := Int.natCast_nonneg _
      have hJ1 : (j : Int) < (m : Int) := by omega
      go_wp2_with fail
      go_region_held3 (fun w' => w'.cell? ⟨X, 0, none⟩ = some (.slice (some ⟨g, 0, none⟩) m cap) ∧ w'.cell? ⟨X, 1, none⟩ = some (.map (some B)) ∧ w'.cell? ⟨g, j * 11, none⟩ = some (.int .i64 p.key.k) ∧ w'.cell? ⟨g, j * 11 + 1, none⟩ = some (.int .i64 p.key.n) ∧ w'.cell? ⟨g, j * 11 + 2, none⟩ = some (.float .f64 p.key.f) ∧ w'.cell? ⟨g, j * 11 + 3, none⟩ = some (.string p.key.s) ∧ w'.cell? ⟨g, j * 11 + 4, none⟩ = some (.int .i64 p.key.r) ∧ w'.cell? ⟨g, j * 11 + 5, none⟩ = some (.int .i64 p.val.k) ∧ w'.cell? ⟨g, j * 11 + 6, none⟩ = some (.int .i64 p.val.n) ∧ w'.cell? ⟨g, j * 11 + 7, none⟩ = some (.float .f64 p.val.f) ∧ w'.cell? ⟨g, j * 11 + 8, none⟩ = some (.string p.val.s) ∧ w'.cell? ⟨g, j * 11 + 9, none⟩ = some (.int .i64 p.val.r) ∧ w'.cell? ⟨g, j * 11 + 10, none⟩ = some (.int .i64 p.turn)) (first | (with_reducible exact (HR.out _ _ HC4.out).c) | (with_reducible exact (HR.out _ _ HC.out).c) | (with_reducible exact (HR.out _ _ HC.out.drew).c)) ((go_at_call 123; refine (HM.out _).mono ?_; rintro e w4 ⟨rfl, hb4⟩; have HC4 : Hid (TS N w X g m cap B t q' L' w4) := (by first | exact HC.out.call hb4 | exact HC.out.drew.call hb4); clear HC hb4; obtain ⟨w5, hrun, hM5, hturn⟩ := update_run Try.underlying113 markT HC4.out.x.map k j; have HC : Hid (TS N w X g m cap B t q' (upd L' k j) w5) := HC4.out.turned hM5 hturn; clear hM5 hturn))
      clear HC4 HM HR
      go_wp2_with fail
      go_roundw
      case rel => exact ⟨j + 1, _, by omega, by go_num, HC.out⟩
      case measure => simp [intOf]; omega
    · have : j = m := by omega
      subst this
      go_wp2_with fail
      go_end0
      exact ⟨rfl, ⟨_, by rw [HQ.out]; exact HC.out.x⟩, HC.out.b⟩
end Go.Proofs.Ytiidepafifodjaa
