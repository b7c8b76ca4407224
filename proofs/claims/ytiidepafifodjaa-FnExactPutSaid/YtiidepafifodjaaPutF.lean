import Derived.Test.YtiidepafifodjaaPutE
/-! Tables: impl's Put. -/
namespace Go.Proofs.Ytiidepafifodjaa
open Go.RowKit
attribute [local go_sem] run_store_float
attribute [local go_sem ↓] Go.wp_at_zero Go.wp_at_succ

theorem own_mono {N M : Nat} {w : World} {T : TypeId} {v : Value} {n : Nat} {xs : List Value} (h : w.ownsRow N T 11 v n xs) (hM : M ≤ N) : w.ownsRow M T 11 v n xs := by
  obtain ⟨h1, h2⟩ := h
  refine ⟨h1, ?_⟩
  rcases h2 with h2 | ⟨g, cap, cur, e, h3, r⟩
  · exact .inl h2
  · exact .inr ⟨g, cap, cur, e, Nat.le_trans hM h3, r⟩
theorem own_ge {N : Nat} {w : World} {T : TypeId} {a : Option Addr} {n cap : Nat} {xs : List Value} (h : w.ownsRow N T 11 (.slice a n cap) n xs) : ∀ b off sp, a = some ⟨b, off, sp⟩ → N ≤ b := by
  intro b off sp e
  obtain ⟨_, h2⟩ := h
  rcases h2 with ⟨h2, _⟩ | ⟨g, cap', cur, e2, h3, _⟩
  · cases h2; cases e
  · cases e2; cases e; exact h3
theorem XO.new {w : World} {N : Nat} {a : Option Addr} {n cap B : Nat} {t : Int} {q : Nat → PD} {L : List (Mk × Nat)} (ho : w.ownsRow N 123 11 (.slice a n cap) n (cellsOf q n)) (hM : MapIs w B L) (hB : N ≤ B) (hN : N ≤ w.heap.size) (K : TypeId) :
    XO N (w.alloc (.cells #[.slice a n cap, .map (some B), .int .i64 t] K)) w.heap.size a n cap B t q L :=
  ⟨hN, by simp, by simp, by simp, by simp, fun o => by simp, ho.alloc _, hM.alloc _, hB, fun b off sp e => by have := own_lt ho e; simp at this; omega⟩
theorem own_some {N : Nat} {w : World} {T : TypeId} {a : Option Addr} {n cap : Nat} {xs : List Value} (h : w.ownsRow N T 11 (.slice a n cap) n xs) (hn : 0 < n) : ∃ g, a = some ⟨g, 0, none⟩ := by
  obtain ⟨_, h2⟩ := h
  rcases h2 with ⟨_, h2⟩ | ⟨g, cap', cur, e2, h3, _⟩
  · omega
  · cases e2; exact ⟨g, rfl⟩

theorem put_calls (N X : Nat) (a : Option Addr) (n cap B : Nat) (t : Int) (q : Nat → PD) (y v : VD) (w : World) (hN : N ≤ w.heap.size) (hok : TabOk n t q) (hX : XO N w X a n cap B t q (places q n)) :
    Calls Try.prog 76 #[.pointer (some ⟨X, 0, none⟩), y.v, v.v] w fun e w' => e = .returned (.tuple #[]) ∧ (∃ a' cap' L', XO N w' X a' (putD n t q y v).n cap' B (putD n t q y v).t (putD n t q y v).q L') ∧ Below N w w' := by
  have hl : ∀ u, MapIs u B (places q n) → (Instr.lookup 113 (.map (some B)) (mkV (mk y)) true).run Try.prog u = .ok (.tuple #[.int .i64 (((fnd q (mk y) n).getD 0 : Nat) : Int), .bool (fnd q (mk y) n).isSome]) u := fun u h => by
    have := lookup_run Try.underlying113 markT h (mk y) (Try.zeroValue3 _)
    rw [idx_ok hok] at this
    rw [this]
    cases fnd q (mk y) n <;> rfl
  unfold putD
  cases hf : fnd q (mk y) n with
  | none =>
    rw [hf] at hl
    refine (put_none N X a n cap B t q _ y v w hN hok.nn hok.t0 hl hX).mono ?_
    rintro e w' ⟨rfl, h, hb⟩
    refine ⟨rfl, ?_, hb⟩
    by_cases hv : v.k = 0
    · rw [if_pos (.inl hv)] at h
      obtain ⟨L', h⟩ := h
      simp only [hv, if_true]
      exact ⟨_, _, _, h⟩
    · by_cases hc : n < 500 ∧ t < 1000000000000
      · rw [if_neg (by simp [hv, hc])] at h
        simp only [hv, if_false, hc, and_self, if_true]
        exact h
      · rw [if_pos (.inr hc)] at h
        obtain ⟨L', h⟩ := h
        simp only [hv, if_false, hc]
        exact ⟨_, _, _, h⟩
  | some i =>
    rw [hf] at hl
    have hi := (fnd_at hf).1
    have hnn := hok.nn
    obtain ⟨m, rfl⟩ : ∃ m, n = m + 1 := ⟨n - 1, by omega⟩
    obtain ⟨g, rfl⟩ := own_some hX.own (by omega)
    refine (put_some N X g m cap B t q _ y v i w hN (by omega) hi hl hX).mono ?_
    rintro e w' ⟨rfl, h, hb⟩
    refine ⟨rfl, ?_, hb⟩
    by_cases hv : v.k = 0
    · rw [if_pos hv] at h
      obtain ⟨L', h⟩ := h
      simp only [hv, if_true]
      exact ⟨_, _, _, h⟩
    · rw [if_neg hv] at h
      obtain ⟨L', h⟩ := h
      simp only [hv, if_false]
      exact ⟨_, _, _, h⟩

/-- the table that Put answers -/
def PutSays (n : Nat) (t : Int) (q : Nat → PD) (x v : VD) (D : TD) : Prop := (TabOk n t q ∧ kc x = 0 ∧ v.ok = true ∧ D = putD n t q (kv x) v) ∨ (¬ (TabOk n t q ∧ kc x = 0 ∧ v.ok = true) ∧ D = ⟨0, 0, fun _ => pz⟩)
/-- a table of one's own -/
def OwnT (N : Nat) (D : TD) (e : Ending) (w' : World) : Prop := ∃ a' cap', e = .returned (tOf a' D.n cap' D.t) ∧ w'.ownsRow N 123 11 (.slice a' D.n cap') D.n (cellsOf D.q D.n)
theorem OwnT.zero (N : Nat) (w' : World) : OwnT N ⟨0, 0, fun _ => pz⟩ (.returned (.agg #[.slice none 0 0, .int .i64 0])) w' := ⟨none, 0, rfl, World.ownsRow_nil _ _ _ _⟩
def PutEnds (n : Nat) (t : Int) (q : Nat → PD) (x v : VD) (w : World) (e : Ending) (w' : World) : Prop := (∃ D, PutSays n t q x v D ∧ OwnT w.heap.size D e w') ∧ Below w.heap.size w w'

set_option maxRecDepth 100000 in
set_option maxHeartbeats 4000000 in
theorem implPut_calls (a : Option Addr) (n cap : Nat) (t : Int) (q : Nat → PD) (x v : VD) (w : World) (hn : n ≤ 1048576) (hq : ∀ i, i < n → (q i).wf) (xf : x.f < 2 ^ 64) (hT : Tab w a n q) :
    Calls Try.prog 30 #[tOf a n cap t, x.v, v.v] w (PutEnds n t q x v w) := by
  have hK : Hid (∀ w, Calls Try.prog 75 #[x.v] w fun e w' => e = .returned (kgV (kc x) (kv x)) ∧ Below w.heap.size w w') := by
    intro w; rw [← kyG_kv]; exact implKey_calls _ _ _ _ _ xf w
  have hV : Hid (∀ w, Calls Try.prog 37 #[v.v] w fun e w' => e = .returned (.bool v.ok) ∧ Below w.heap.size w w') := fun w => implOk_calls _ _ _ _ _ w
  have hQ : Hid (∀ i, i < n → (q i).wf) := hq
  have HT : Hid (Tab w a n q) := hT
  clear hq hT xf
  have p2 : w.heap.size ≤ w.heap.size + 1 + 1 + 1 := Nat.le_add_right _ 3
  go_enter Try.func30, Try.ntmps30
  go_wp2_with fail
  refine (index_calls a n cap t q _ hn hQ.out ((((HT.out.alloc _).alloc _).alloc _).alloc _)).mono ?_
  rintro e w2 ⟨⟨hok, a', cap', B, rfl, hBB, ho, hM⟩ | ⟨hok, rfl⟩, hb2⟩
  · have HVc : Hid (Has w2 (w.heap.size + 1 + 1) (vCs v)) := by
      have h := ((Has.new _ (vCs v) 42).alloc _).call hb2
      simp only [World.size_alloc] at h
      exact h
    have HRc : Hid (Has w2 (w.heap.size + 1 + 1 + 1) #[.slice none 0 0, .int .i64 0]) := by
      have h := (Has.new _ #[.slice none 0 0, .int .i64 0] 59).call hb2
      simp only [World.size_alloc] at h
      exact h
    have HX : Hid (XO (w.heap.size + 1 + 1 + 1 + 1) (w2.alloc (.cells #[.slice a' n cap', .map (some B), .int .i64 t] 115)) w2.heap.size a' n cap' B t q (places q n)) := by
      have hz := hb2.size
      simp only [World.size_alloc] at ho hBB hz
      exact XO.new ho hM hBB hz _
    have HO : Hid (TabOk n t q) := hok
    have hB := below_call (below_a (below_alloc3 _ _ _ _) _) hb2
    obtain ⟨hc2, hf2⟩ := bcell hb2
    have hz2 := hb2.size
    (try simp at hz2)
    have ha2 : w.heap.size < w2.heap.size := by omega
    have hb2' : w.heap.size + 1 < w2.heap.size := by omega
    have hc2' : w.heap.size + 1 + 1 < w2.heap.size := by omega
    have hd2' : w.heap.size + 1 + 1 + 1 < w2.heap.size := by omega
    clear hb2 ho hM hok hBB
    go_wp2_with fail
    refine (hK.out _).mono ?_
    rintro e w3 ⟨rfl, hb3⟩
    replace HX : Hid (XO (w.heap.size + 1 + 1 + 1 + 1) w3 w2.heap.size a' n cap' B t q (places q n)) := HX.out.call hb3
    replace HVc : Hid (Has w3 (w.heap.size + 1 + 1) (vCs v)) := (HVc.out.alloc _).call hb3
    replace HRc : Hid (Has w3 (w.heap.size + 1 + 1 + 1) #[.slice none 0 0, .int .i64 0]) := (HRc.out.alloc _).call hb3
    replace hB := below_call (below_a hB _) hb3
    obtain ⟨hc3, hf3⟩ := bcell hb3
    have hz3 := hb3.size
    (try simp at hz3)
    have ha3 : w.heap.size < w3.heap.size := by omega
    have hd3' : w.heap.size + 1 + 1 + 1 < w3.heap.size := by omega
    have hc3' : w.heap.size + 1 + 1 < w3.heap.size := by omega
    have hz3' : w.heap.size + 1 + 1 + 1 + 1 ≤ w3.heap.size := by omega
    clear hb3 hK
    by_cases hkc : kc x = 0
    · have HD : Hid (v.ok = true → PutSays n t q x v (putD n t q (kv x) v)) := fun h => .inl ⟨HO.out, hkc, h, rfl⟩
      have HN : Hid (v.ok = false → PutSays n t q x v ⟨0, 0, fun _ => pz⟩) := fun h => .inr ⟨fun k => (by rw [h] at k; exact absurd k.2.2 (by simp)), rfl⟩
      rw [hkc]
      generalize kv x = y at HD
      clear hkc
      go_wp2_with fail
      refine (hV.out _).mono ?_
      rintro e w4 ⟨rfl, hb4⟩
      replace HX : Hid (XO (w.heap.size + 1 + 1 + 1 + 1) w4 w2.heap.size a' n cap' B t q (places q n)) := (HX.out.alloc _).call hb4
      have HKc : Hid (Has w4 w3.heap.size #[.int .i64 0, .int .i64 y.k, .int .i64 y.n, .float .f64 y.f, .string y.s, .int .i64 y.r]) := (Has.new w3 _ 45).call hb4
      replace HVc : Hid (Has w4 (w.heap.size + 1 + 1) (vCs v)) := (HVc.out.alloc _).call hb4
      replace HRc : Hid (Has w4 (w.heap.size + 1 + 1 + 1) #[.slice none 0 0, .int .i64 0]) := (HRc.out.alloc _).call hb4
      have hfr : ∀ o, w4.frozen? ⟨w.heap.size + 1 + 1 + 1, o, none⟩ = false := fun o => by
        obtain ⟨_, hf4⟩ := bcell hb4
        rw [hf4 _ _ (by simp; omega)]
        simp [go_sem, hf3, hf2, hc2', hd2', hd3']
      replace hB := below_call (below_a hB _) hb4
      have hz4 := hb4.size
      (try simp at hz4)
      have hd4' : w.heap.size + 1 + 1 + 1 < w4.heap.size := by omega
      have hc4' : w.heap.size + 1 + 1 < w4.heap.size := by omega
      have he4' : w3.heap.size < w4.heap.size := by omega
      have hz4' : w.heap.size + 1 + 1 + 1 + 1 ≤ w4.heap.size := by omega
      clear hb4 hV
      have r0 := HRc.out.at 0
      have r1 := HRc.out.at 1
      have v0 := HVc.out.at 0
      have v1 := HVc.out.at 1
      have v2 := HVc.out.at 2
      have v3 := HVc.out.at 3
      have v4 := HVc.out.at 4
      have k0 := HKc.out.at 0
      have k1 := HKc.out.at 1
      have k2 := HKc.out.at 2
      have k3 := HKc.out.at 3
      have k4 := HKc.out.at 4
      have k5 := HKc.out.at 5
      simp only [List.getElem?_toArray, List.getElem?_cons_zero, List.getElem?_cons_succ] at r0 r1 v0 v1 v2 v3 v4 k0 k1 k2 k3 k4 k5
      cases hvo : v.ok
      · have hno := HN.out hvo
        have Hno : Hid (PutSays n t q x v ⟨0, 0, fun _ => pz⟩) := hno
        clear hno hvo HN HD
        go_wp2_with fail
        exact bodyPost_ret (v := tOf none 0 0 0) (by simp [results, Try.results30, go_sem, r0, r1]) rfl ⟨⟨_, Hno.out, OwnT.zero _ _⟩, st1 (st1 hB p2 _) p2 _⟩
      · have HD' : Hid (PutSays n t q x v (putD n t q y v)) := HD.out hvo
        clear hvo HN HD
        have HP := put_calls (w.heap.size + 1 + 1 + 1 + 1) w2.heap.size a' n cap' B t q y v w4 hz4' HO.out HX.out
        generalize putD n t q y v = D at HD' HP
        have HP' : Hid _ := HP
        clear HP HX
        go_wp2_with fail
        refine Calls.mono HP'.out ?_
        rintro e w5 ⟨rfl, ⟨a2, cap2, L2, hX5⟩, hb5⟩
        have R0 : w5.cell? ⟨w.heap.size + 1 + 1 + 1, 0, none⟩ = some (.slice none 0 0) := (hb5.cell (p := ⟨w.heap.size + 1 + 1 + 1, 0, none⟩) (Nat.lt_succ_self _)).trans r0
        have R1 : w5.cell? ⟨w.heap.size + 1 + 1 + 1, 1, none⟩ = some (.int .i64 0) := (hb5.cell (p := ⟨w.heap.size + 1 + 1 + 1, 1, none⟩) (Nat.lt_succ_self _)).trans r1
        have RF : ∀ o, w5.frozen? ⟨w.heap.size + 1 + 1 + 1, o, none⟩ = false := fun o => (hb5.frozen (p := ⟨w.heap.size + 1 + 1 + 1, o, none⟩) (Nat.lt_succ_self _)).trans (hfr o)
        have hB5 : Below w.heap.size w w5 := hB.trans (hb5.mono (by omega))
        have hs5 := hb5.size
        have hl5 : w.heap.size + 1 + 1 + 1 < w5.heap.size := by omega
        clear hb5 HP' hB r0 r1 v0 v1 v2 v3 v4 k0 k1 k2 k3 k4 k5 hfr HKc HVc HRc
        go_wp2_with fail
        refine (table_calls _ _ a2 D.n cap2 B D.t D.q L2 w5 hX5).mono ?_
        rintro e w6 ⟨rfl, hb6⟩
        have S0 := (hb6.cell (p := ⟨w.heap.size + 1 + 1 + 1, 0, none⟩) hl5).trans R0
        have S1 := (hb6.cell (p := ⟨w.heap.size + 1 + 1 + 1, 1, none⟩) hl5).trans R1
        have SF : ∀ o, w6.frozen? ⟨w.heap.size + 1 + 1 + 1, o, none⟩ = false := fun o => (hb6.frozen (p := ⟨w.heap.size + 1 + 1 + 1, o, none⟩) hl5).trans (RF o)
        have HO6 : Hid (w6.ownsRow (w.heap.size + 1 + 1 + 1 + 1) 123 11 (.slice a2 D.n cap2) D.n (cellsOf D.q D.n)) := own_below hX5.own hb6
        have hB6 := below_call hB5 hb6
        clear hX5 hb6 R0 R1 RF hB5
        go_wp2_with fail
        have hne : ∀ b off sp, a2 = some ⟨b, off, sp⟩ → b ≠ w.heap.size + 1 + 1 + 1 := fun b off sp e => by have := own_ge HO6.out b off sp e; omega
        exact bodyPost_ret (v := tOf a2 D.n cap2 D.t) (by simp [results, Try.results30, go_sem, S0, S1]) rfl ⟨⟨D, HD'.out, a2, cap2, rfl, own_mono (own_set (own_set HO6.out hne _ _) hne _ _) (by omega)⟩, st1 (st1 hB6 p2 _) p2 _⟩
    · have hno : Hid (PutSays n t q x v ⟨0, 0, fun _ => pz⟩) := .inr ⟨fun h => hkc h.2.1, rfl⟩
      generalize kc x = c at hkc
      generalize kv x = y
      go_wp2_with fail
      exact bodyPost_ret (v := tOf none 0 0 0) (by simp [results, Try.results30, go_sem, hc3, hc2, hc2', hd2', hd3']) rfl ⟨⟨_, hno.out, OwnT.zero _ _⟩, below_a (st1 (st1 hB p2 _) p2 _) _⟩
  · have hno : Hid (PutSays n t q x v ⟨0, 0, fun _ => pz⟩) := .inr ⟨fun h => hok h.1, rfl⟩
    have hB := below_call (below_a (below_alloc3 _ _ _ _) _) hb2
    obtain ⟨hc2, hf2⟩ := bcell hb2
    have hz2 := hb2.size
    (try simp at hz2)
    have ha2 : w.heap.size < w2.heap.size := by omega
    have hb2' : w.heap.size + 1 < w2.heap.size := by omega
    have hc2' : w.heap.size + 1 + 1 < w2.heap.size := by omega
    have hd2' : w.heap.size + 1 + 1 + 1 < w2.heap.size := by omega
    clear hb2 hok
    go_wp2_with fail
    refine (hK.out _).mono ?_
    rintro e w3 ⟨rfl, hb3⟩
    replace hB := below_call (below_a hB _) hb3
    obtain ⟨hc3, hf3⟩ := bcell hb3
    have hz3 := hb3.size
    (try simp at hz3)
    have ha3 : w.heap.size < w3.heap.size := by omega
    have hd3' : w.heap.size + 1 + 1 + 1 < w3.heap.size := by omega
    have hc3' : w.heap.size + 1 + 1 < w3.heap.size := by omega
    clear hb3 hK
    generalize kc x = c
    generalize kv x = y
    go_wp2_with fail
    exact bodyPost_ret (v := tOf none 0 0 0) (by simp [results, Try.results30, go_sem, hc3, hc2, hc2', hd2', hd3']) rfl ⟨⟨_, hno.out, OwnT.zero _ _⟩, below_a (st1 (st1 hB p2 _) p2 _) _⟩
end Go.Proofs.Ytiidepafifodjaa
