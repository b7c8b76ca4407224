import Derived.Test.YtdialodjllpgaaaGreatDoorCnD
/-! The program's run: one expression as a list; several that are literals. -/
namespace Go.Proofs.YtdialodjllpgaaaGreatDoor
open Go.RowKit
attribute [local go_sem] run_store_float
attribute [local go_sem ↓] Go.wp_at_zero Go.wp_at_succ

set_option maxRecDepth 100000 in
set_option maxHeartbeats 4000000 in
theorem one_calls (X : RX) (d : MD) (B1 B Q : Nat) (v : VD) (u : World) (h : St X d u) (h1 : Has u B1 #[varV B]) (hB : Has u B #[.int .i64 0]) (hv : d.vp = .pointer (some ⟨Q, 0, none⟩)) (hQ : Has u Q (vA v)) :
    Calls Tryz.prog 198 #[.pointer (some ⟨X.F, 0, none⟩), .pointer (some ⟨B1, 0, none⟩)] u fun e w' => (∃ g, e = .returned (.slice (some ⟨g, 0, none⟩) 1 1) ∧ u.heap.size ≤ g ∧ Has w' g (vA v)) ∧ Below u.heap.size u w' := by
  have b0 := h1.cell 0 rfl
  have HS : Hid (St X d u) := h
  have HB : Hid (Has u B #[.int .i64 0]) := hB
  have HQ : Hid (Has u Q (vA v)) := hQ
  clear h h1 hB hQ
  go_enter Tryz.func198, Tryz.ntmps198
  go_wp2_with (go_at_call 216; refine (var_calls X d B Q v _ HS.out HB.out hv HQ.out).mono ?_; rintro e w1 ⟨rfl, hb1⟩)
  go_ret
  exact ⟨⟨w1.heap.size, rfl, hb1.size, Has.new _ _ _⟩, hb1.alloc hb1.size _⟩

theorem own_base2 {w : World} {N N' K : Nat} {t : TypeId} {v : Value} {n : Nat} {xs : List Value} (h : w.ownsRow N t K v n xs) (hb : N' ≤ N) : w.ownsRow N' t K v n xs := by
  refine ⟨h.1, ?_⟩
  rcases h.2 with h2 | ⟨g, cap, cur, e, h3, r⟩
  · exact .inl h2
  · exact .inr ⟨g, cap, cur, e, by omega, r⟩
/-- a run comes to this, and block g is none of its own -/
def ToG (X : RX) (d : MD) (u : World) (q : DP) (w' : World) (g : Nat) : Prop := ∃ d', Sp X d u d' w' ∧ d'.p = q ∧ ¬ stB X d' g
/-- a block of the caller's own changes -/
theorem Sp.beside {X : RX} {d d' : MD} {u u' u'' : World} (h0 : St X d u) (h : Sp X d u d' u') {g : Nat} (hg : Gx (fun k => k = g) u' u'') (hu : u.heap.size ≤ g) (hn : ¬ stB X d' g) : Sp X d u d' u'' := by
  have hx := h.s.x
  have hN := h0.n
  have ho : ∀ {B : Nat} {A : Array Value}, OwnB u' B A → B ≠ g → OwnB u'' B A := fun hh hb => hg.ownB hh hb
  have hr : ∀ {N K n c m : Nat} {t : TypeId} {xs : List Value} {a : Option Addr}, u'.ownsRow N t K (.slice a m c) n xs → bkOf a ≠ some g → u''.ownsRow N t K (.slice a m c) n xs := fun hh hb => ownsK_block hh fun q e => hg.block q (hh.lt q e).2 (fun c => hb (by rw [← c, ← own_bk]; exact e))
  refine ⟨⟨hx, ho h.s.m (fun e => hn (.inl e.symm)), ho h.s.t (fun e => hn (.inr (.inl e.symm))), ho h.s.f (fun e => hn (.inr (.inr (.inl e.symm)))), ho h.s.v (fun e => hn (.inr (.inr (.inr (.inl e.symm))))), ho h.s.r (by have := hx.rN; omega), hr h.s.rr (fun e => hn (.inr (.inr (.inr (.inr (.inl e)))))), hr h.s.hr (fun e => hn (.inr (.inr (.inr (.inr (.inr (.inl e))))))), hr h.s.sr (fun e => hn (.inr (.inr (.inr (.inr (.inr (.inr e))))))), ?_, Nat.le_trans h.s.n hg.size⟩, ?_, h.mv⟩
  · exact h.s.k.trans hg (fun k _ e => .inr (by have := hx.t; have := hx.tN; omega))
  · exact h.g.trans hg (fun k hk e => by omega)
theorem own_step {X : RX} {d d' : MD} {u u' : World} {N K n g c m : Nat} {t : TypeId} {xs : List Value} (ho : u.ownsRow N t K (.slice (some ⟨g, 0, none⟩) m c) n xs) (hn : ¬ stB X d g) (k : Sp X d u d' u') : u'.ownsRow N t K (.slice (some ⟨g, 0, none⟩) m c) n xs ∧ ¬ stB X d' g := by
  have hlt := (own_ge ho (k := g) rfl).2
  exact ⟨ownsK_block ho fun q e => by cases e; exact k.g.block g hlt hn, fun e => hn (k.mv g hlt e)⟩
/-- the first n of a row of values -/
def vl (vs : Nat → VD) (n : Nat) : List VD := (List.range n).map vs
theorem vl_len (vs : Nat → VD) (n : Nat) : (vl vs n).length = n := by simp [vl]
theorem vl_succ (vs : Nat → VD) (n : Nat) : vl vs (n + 1) = vl vs n ++ [vs n] := by simp [vl, List.range_succ]
theorem DP.hold_nil (p : DP) : p.hold [] = p := by simp [DP.hold]
theorem DP.hold_hold (p : DP) (a b : List VD) : (p.hold a).hold b = p.hold (a ++ b) := by simp [DP.hold]
theorem DP.hold_cut (p : DP) (l : List VD) {m : Nat} (e : p.held.length = m) : (p.hold l).cutH m = p := by
  subst e
  simp [DP.hold, DP.cutH]
/-- what some literals' closures stand on -/
structure LitsAt (X : RX) (a : Option Addr) (n : Nat) (Bs : Nat → Nat) (vs : Nat → VD) : Prop where
  row : RowN 1 0 X.W a n fun i => #[litV (Bs i)]
  rm : ∀ b, a = some b → b.block ≠ X.M
  lit : ∀ i, i < n → Has X.W (Bs i) (vA (vs i)) ∧ Bs i ≠ X.M
theorem cloneV_calls' (x : Addr) (l : List VD) (n cap : Nat) (w : World) (e : l.length = n) (hn : n ≤ 100000) (hl : ∀ j v, (hL l)[j]? = some v → w.cell? (x.add j) = some v) (hx : x.block < w.heap.size) :
    Calls Tryz.prog 250 #[.slice (some x) n cap] w fun e w' => (∃ g cap', e = .returned (.slice (some ⟨g, 0, none⟩) n cap') ∧ w'.ownsRow w.heap.size 56 5 (.slice (some ⟨g, 0, none⟩) n cap') n (hL l)) ∧ Below w.heap.size w w' := by
  subst e
  exact cloneV_calls x l cap w hn hl hx
theorem hold_one (X : RX) (d : MD) (g : Nat) (v : VD) (u : World) (h : St X d u) (hn : d.held.length ≤ 90000) (hg : Has u g (vA v)) :
    Calls Tryz.prog 192 #[.pointer (some ⟨X.T, 0, none⟩), .slice (some ⟨g, 0, none⟩) 1 1] u fun e w' => e = .returned (.tuple #[]) ∧ To X d u (d.p.hold [v]) w' :=
  hold_calls X d ⟨g, 0, none⟩ [v] 1 u h (by simp; omega) (fun j x e => by
    have e2 : (vA v)[j]? = some x := by
      rw [← Array.getElem?_toList]
      simpa [hL, v5] using e
    have := (hg.2 j).trans e2
    cases j <;> simpa [Addr.add] using this)
theorem St.heldAt {X : RX} {d : MD} {u : World} (h : St X d u) (hp : 0 < d.held.length) : ∃ g, d.ha = some ⟨g, 0, none⟩ ∧ g < u.heap.size ∧ d.held.length ≤ d.hc ∧ ∀ j v, (hL d.held)[j]? = some v → u.cell? ⟨g, j, none⟩ = some v := by
  have hc := h.hr
  rcases h.hr.2 with ⟨e, h0⟩ | ⟨g, cap, cur, e, _, hg, h5, _⟩
  · omega
  · obtain ⟨e1, e3⟩ : d.ha = some ⟨g, 0, none⟩ ∧ d.hc = cap := by simpa using e
    refine ⟨g, e1, (Array.getElem?_eq_some_iff.1 hg).1, by omega, fun j v hv => ?_⟩
    have hcs := hc.cells (g := g) (by rw [e1]; rfl) j v hv
    cases j <;> simpa [Addr.add] using hcs

set_option maxRecDepth 100000 in
set_option maxHeartbeats 8000000 in
theorem ones_calls (X : RX) (d : MD) (B : Nat) (a : Option Addr) (n cap : Nat) (Bs : Nat → Nat) (vs : Nat → VD) (u : World) (h : St X d u) (hB : Has X.W B #[.slice a n cap]) (hBM : B ≠ X.M) (hL0 : LitsAt X a n Bs vs) (hn : n ≤ 1000) (hp : 0 < d.held.length + n) (hlen : d.held.length ≤ 1000) :
    Calls Tryz.prog 249 #[.pointer (some ⟨X.F, 0, none⟩), .pointer (some ⟨B, 0, none⟩)] u fun e w' => (∃ g c, e = .returned (.slice (some ⟨g, 0, none⟩) n c) ∧ w'.ownsRow u.heap.size 56 5 (.slice (some ⟨g, 0, none⟩) n c) n (hL (vl vs n)) ∧ ToG X d u d.p w' g) := by
  have HS : Hid (St X d u) := h
  have HL : Hid (LitsAt X a n Bs vs) := hL0
  have b0 := (h.old hB hBM).cell 0 rfl
  have f0 := h.f.1.cell 0 rfl
  have c8 : u.cell? ⟨X.T, 8, none⟩ = some (.slice d.ha d.held.length d.hc) := h.t.1.cell 8 rfl
  obtain ⟨H, hH⟩ : ∃ H, d.held.length = H := ⟨_, rfl⟩
  rw [hH] at c8 hp hlen
  have HH : Hid (d.held.length = H) := hH
  clear h hL0 hB hH
  go_enter Tryz.func249, Tryz.ntmps249
  go_wp2_with fail
  clear c8 f0 b0
  go_loopw [20] (fun i wr => ∃ (k : Nat) (d1 : MD), k ≤ n ∧ i = .int .i64 k ∧ Hid (Sp X d u d1 wr ∧ d1.p = d.p.hold (vl vs k))) (fun i _ => n - (intOf i).toNat)
  case atStart => exact ⟨0, d, Nat.zero_le _, rfl, Sp.refl HS.out, (DP.hold_nil _).symm⟩
  case round =>
    obtain ⟨k, d1, hk, rfl, HP⟩ := hrel
    have hl1 : d1.held.length = H + k := by
      have := congrArg DP.held HP.out.2
      have h2 : d1.held = d.held ++ vl vs k := this
      rw [h2, List.length_append, vl_len, HH.out]
    by_cases hkn : k < n
    · obtain ⟨b, off, rfl, _, hb, d0⟩ := cells1 (HP.out.1.s.oldRow HL.out.row HL.out.rm) hkn
      have HB : Hid (Has wr (Bs k) (vA (vs k))) := HP.out.1.s.old (HL.out.lit k hkn).1 (HL.out.lit k hkn).2
      go_wp2_with (first
        | (go_at_call 230; refine (lit_calls _ (Bs k) (vs k) _ HB.out).mono ?_; rintro e w1 ⟨rfl, hb1⟩; have HP1 : Hid (Sp X d u d1 (w1.alloc (.cells (vA (vs k)) 56)) ∧ d1.p = d.p.hold (vl vs k)) := ⟨(HP.out.1.call hb1).alloc _, HP.out.2⟩; have HG : Hid (Has (w1.alloc (.cells (vA (vs k)) 56)) w1.heap.size (vA (vs k))) := Has.new _ _ _; clear HP HB hb1 d0)
        | (go_at_call 192; refine (hold_one X d1 _ (vs k) _ HP1.out.1.s (by omega) HG.out).mono ?_; rintro e w2 ⟨rfl, ht2⟩))
      obtain ⟨d2, hs2, e2⟩ := ht2
      have HP2 : Hid (Sp X d u d2 w2 ∧ d2.p = d.p.hold (vl vs (k + 1))) := ⟨HP1.out.1.trans hs2, by rw [e2, HP1.out.2, DP.hold_hold, vl_succ]⟩
      clear hs2 e2 HP1 HG
      go_roundw
      case rel => exact ⟨k + 1, d2, by omega, by go_num, HP2⟩
      case measure => simp [intOf]; omega
    · obtain rfl : k = n := by omega
      have hpos : 0 < d1.held.length := by omega
      obtain ⟨g, hg1, hg2, hg3, hg4⟩ := HP.out.1.s.heldAt hpos
      have HG4 : Hid (∀ j v, (hL d1.held)[j]? = some v → wr.cell? ⟨g, j, none⟩ = some v) := hg4
      have c8 : wr.cell? ⟨X.T, 8, none⟩ = some (.slice (some ⟨g, 0, none⟩) (H + k) d1.hc) := by
        have := HP.out.1.s.t.1.cell 8 rfl
        rw [← hl1, ← hg1]
        exact this
      have hT := HP.out.1.s.t.1.1
      have z := HP.out.1.s.t.2
      have hh2 : d1.held = d.held ++ vl vs k := congrArg DP.held HP.out.2
      have HX : Hid (∀ (x : Addr), x = (if d1.hc = H then ⟨g, 0, none⟩ else ⟨g, H * 5, none⟩) → ∀ j v, (hL (vl vs k))[j]? = some v → wr.cell? (x.add j) = some v) := by
        intro x hx j v hv
        have hj : j < k * 5 := by
          have := (List.getElem?_eq_some_iff.1 hv).1
          rwa [hL_len, vl_len] at this
        have hc : ¬ d1.hc = H := by omega
        rw [if_neg hc] at hx
        subst hx
        have h5 := HG4.out (H * 5 + j) v (by
          rw [hh2, hL_app, List.getElem?_append_right (by rw [hL_len, HH.out]; omega), hL_len, HH.out, show H * 5 + j - H * 5 = j by omega]
          exact hv)
        cases j <;> simpa [Addr.add] using h5
      have HF : Hid (∀ w' g2, Below wr.heap.size wr w' → wr.heap.size ≤ g2 → ToG X d u d.p (w'.setCell ⟨X.T, 8, none⟩ (.slice (some ⟨g, 0, none⟩) H d1.hc)) g2) := fun w' g2 hb hg2 => by
        have h1 := HP.out.1.call hb
        have h2 := Sp.cutH h1.s (m := H) (by omega)
        rw [← hg1]
        refine ⟨_, h1.trans h2, ?_, fun e => HP.out.1.s.other hg2 e⟩
        show DP.cutH d1.p H = d.p
        rw [HP.out.2]
        exact DP.hold_cut d.p _ HH.out
      have HO : Hid (∀ (w' : World) (g2 c2 : Nat) (v : Value), Below wr.heap.size wr w' → w'.ownsRow wr.heap.size 56 5 (.slice (some ⟨g2, 0, none⟩) k c2) k (hL (vl vs k)) → (w'.setCell ⟨X.T, 8, none⟩ v).ownsRow u.heap.size 56 5 (.slice (some ⟨g2, 0, none⟩) k c2) k (hL (vl vs k))) := fun w' g2 c2 v hb ho => own_base2 (ownsK_set ho v (fun q e => by have := (ho.lt q e).1; omega)) HP.out.1.g.size
      by_cases hc : d1.hc = H
      · obtain rfl : k = 0 := by omega
        rw [hc] at c8 HF
        have hX := HX.out ⟨g, 0, none⟩ (by rw [if_pos hc])
        have HX2 : Hid (∀ j v, (hL (vl vs 0))[j]? = some v → wr.cell? ((⟨g, 0, none⟩ : Addr).add j) = some v) := hX
        have hH0 : ¬ H = 0 := by omega
        clear hX HX HG4 hh2
        go_wp2_with (go_at_call 250; refine (cloneV_calls' ⟨g, 0, none⟩ (vl vs 0) 0 _ _ rfl (by omega) HX2.out hg2).mono ?_; rintro e w3 ⟨⟨g3, c3, rfl, ho3⟩, hb3⟩; have d8 := (World.cell?_of_block (a := ⟨X.T, 8, none⟩) (hb3.block X.T hT)).trans c8; have dz : ∀ o, w3.frozen? ⟨X.T, o, none⟩ = false := fun o => (World.frozen?_of_block (a := ⟨X.T, o, none⟩) (hb3.block X.T hT)).trans (z o); clear c8 z)
        go_ret
        exact ⟨g3, c3, rfl, HO.out _ _ _ _ hb3 ho3, HF.out _ _ hb3 (own_ge ho3 (k := g3) rfl).1⟩
      · have hX := HX.out ⟨g, H * 5, none⟩ (by rw [if_neg hc])
        have HX2 : Hid (∀ j v, (hL (vl vs k))[j]? = some v → wr.cell? ((⟨g, H * 5, none⟩ : Addr).add j) = some v) := hX
        have hH0 : ¬ d1.hc = 0 := by omega
        clear hX HX HG4 hh2
        go_wp2_with (go_at_call 250; refine (cloneV_calls' ⟨g, H * 5, none⟩ (vl vs k) k _ _ (vl_len vs k) (by omega) HX2.out hg2).mono ?_; rintro e w3 ⟨⟨g3, c3, rfl, ho3⟩, hb3⟩; have d8 := (World.cell?_of_block (a := ⟨X.T, 8, none⟩) (hb3.block X.T hT)).trans c8; have dz : ∀ o, w3.frozen? ⟨X.T, o, none⟩ = false := fun o => (World.frozen?_of_block (a := ⟨X.T, o, none⟩) (hb3.block X.T hT)).trans (z o); clear c8 z)
        go_ret
        exact ⟨g3, c3, rfl, HO.out _ _ _ _ hb3 ho3, HF.out _ _ hb3 (own_ge ho3 (k := g3) rfl).1⟩
end Go.Proofs.YtdialodjllpgaaaGreatDoor

/-! The program's run: the parts of a call that prints a variable. -/
namespace Go.Proofs.YtdialodjllpgaaaGreatDoor
open Go.RowKit
attribute [local go_sem] run_store_float
attribute [local go_sem ↓] Go.wp_at_zero Go.wp_at_succ

/-- a block that was made with the bodies -/
def Od (X : RX) (B : Nat) (A : Array Value) : Prop := Has X.W B A ∧ B ≠ X.M
theorem Od.at {X : RX} {d : MD} {u : World} {B : Nat} {A : Array Value} (h : Od X B A) (s : St X d u) : Has u B A := s.old h.1 h.2
/-- the first cell of such a block -/
def Oc (X : RX) (B : Nat) (v : Value) : Prop := (B < X.W.heap.size ∧ X.W.cell? ⟨B, 0, none⟩ = some v) ∧ B ≠ X.M
theorem Oc.at {X : RX} {d : MD} {u : World} {B : Nat} {v : Value} (h : Oc X B v) (s : St X d u) : u.cell? ⟨B, 0, none⟩ = some v := (World.cell?_of_block (a := ⟨B, 0, none⟩) (s.k.block B h.1.1 (fun e => by
  rcases e with e | e
  · exact h.2 e
  · have := h.1.1; omega))).trans h.1.2
abbrev ptr (B : Nat) : Value := .pointer (some ⟨B, 0, none⟩)
abbrev onesV (B : Nat) : Value := .func (.func 249) #[] #[ptr B]
abbrev listV (a b c : Nat) : Value := .func (.func 212) #[] #[ptr a, ptr b, ptr c]
abbrev partsV (a b : Nat) : Value := .func (.func 244) #[] #[ptr a, ptr b]
abbrev allV (a b : Nat) : Value := .func (.func 195) #[] #[ptr a, ptr b]
abbrev doV (a : Nat) : Value := .func (.func 170) #[] #[ptr a]
abbrev stV (a b c : Nat) : Value := .func (.func 143) #[] #[ptr a, ptr b, ptr c]
abbrev bkV (a : Nat) : Value := .func (.func 166) #[] #[ptr a]
/-- print, as a value -/
abbrev prD : VD := ⟨8, 0, 0, ⟨#[]⟩, 0⟩
/-- where the closures of a statement that prints the variable lie -/
structure PX where
  bb : Nat
  nd : Value
  b1 : Nat
  o : Nat
  l1 : Nat
  l2 : Nat
  v1 : Nat
  v2 : Nat
  c : Nat
  p1 : Nat
  p2 : Nat
  a1 : Nat
  a2 : Nat
  d1 : Nat
  s1 : Nat
  s2 : Nat
  s3 : Nat
  nA : Array Value
  line : Int
  k1 : Nat
  ka : Nat
  kc : Nat
structure PX.ok (P : PX) (X : RX) : Prop where
  bb : Od X P.bb #[ptr X.M, P.nd]
  o : Od X P.o #[.slice none 0 0]
  l1 : Od X P.l1 #[onesV P.o]
  l2 : Od X P.l2 #[oneV P.v1]
  v1 : Od X P.v1 #[varV P.v2]
  v2 : Od X P.v2 #[.int .i64 0]
  c : Od X P.c (vA prD)
  p1 : Od X P.p1 #[litV P.c]
  p2 : Od X P.p2 #[listV P.l1 P.l2 P.b1]
  a1 : Od X P.a1 #[partsV P.p1 P.p2]
  a2 : Od X P.a2 #[ptr P.bb]
  d1 : Od X P.d1 #[allV P.a1 P.a2]
  s1 : Od X P.s1 #[ptr P.bb]
  s2 : Od X P.s2 P.nA
  ln : P.nA[1]? = some (.int .i64 P.line)
  s3 : Od X P.s3 #[doV P.d1]
  k1 : Od X P.k1 #[.slice (some ⟨P.ka, 0, none⟩) 1 P.kc]
  ka : Oc X P.ka (stV P.s1 P.s2 P.s3)

theorem lits_none (X : RX) (Bs : Nat → Nat) (vs : Nat → VD) : LitsAt X none 0 Bs vs := ⟨(fun h => absurd h (by omega)), (fun b e => nomatch e), (fun i hi => absurd hi (by omega))⟩
theorem appV_run (N : Nat) (w : World) (g c g2 : Nat) (v : VD) (hN : N ≤ w.heap.size) (ho : w.ownsRow N 56 5 (.slice (some ⟨g, 0, none⟩) 0 c) 0 (hL [])) (h2 : Has w g2 (vA v)) :
    ∃ g3 c3 w', (Builtin.append_ #[114, 114] 114 #[.slice (some ⟨g, 0, none⟩) 0 c, .slice (some ⟨g2, 0, none⟩) 1 1]).run Tryz.prog w = .ok (.slice (some ⟨g3, 0, none⟩) 1 c3) w' ∧ OwV N w' g3 c3 [v] ∧ w.grownBy w' (some g) ∧ (g3 = g ∨ g3 = w.heap.size) := by
  obtain ⟨i0, hi0, hy0, hy1, hy2⟩ := info_parts infoVal'
  obtain ⟨v', w', hr, hown, hgrow, hnil, hat⟩ := run_append_own_at (P := Tryz.prog) w N 114 114 56 i0 _ 5 48 Tryz.underlying114 hi0 hy0 hy1 hy2 rfl (by decide) (.slice (some ⟨g, 0, none⟩) 0 c) 0 (hL []) ho ⟨g2, 0, none⟩ 1 1 (v5 v) rfl (fun j x e => by
    have e2 : (vA v)[j]? = some x := by
      rw [← Array.getElem?_toList]
      simpa [v5] using e
    have := (h2.2 j).trans e2
    cases j <;> simpa [Addr.add] using this) (v5_one v) (by unfold maxLen; omega) (by omega) hN
  have hne : v' ≠ .slice none 0 0 := fun e => by simpa using hnil.1 e
  rcases hown.2 with ⟨e, _⟩ | ⟨g3, c3, cur, e, _⟩
  · exact absurd e hne
  · subst e
    exact ⟨g3, c3, w', hr, hown, hgrow, by simpa [Value.ownBlock] using hat⟩

set_option maxRecDepth 100000 in
set_option maxHeartbeats 8000000 in
theorem list_calls (X : RX) (P : PX) (d : MD) (Q : Nat) (v : VD) (u : World) (h : St X d u) (hP : P.ok X) (hv : d.p.vp = .pointer (some ⟨Q, 0, none⟩)) (hQ : Bx X d u Q (vA v)) (hp : 0 < d.held.length) (hlen : d.held.length ≤ 1000) :
    Calls Tryz.prog 212 #[ptr X.F, ptr P.l1, ptr P.l2, ptr P.b1] u fun e w' => (∃ g c, e = .returned (.slice (some ⟨g, 0, none⟩) 1 c) ∧ OwV u.heap.size w' g c [v] ∧ ToG X d u d.p w' g) := by
  have HS : Hid (St X d u) := h
  have HQ : Hid (Bx X d u Q (vA v)) := hQ
  have HP : Hid (P.ok X) := hP
  have b1 := (hP.l1.at h).cell 0 rfl
  clear h hP hQ
  go_enter Tryz.func212, Tryz.ntmps212
  go_wp2_with fail
  refine (ones_calls X d P.o none 0 0 (fun _ => 0) (fun _ => prD) _ HS.out HP.out.o.1 HP.out.o.2 (lits_none X _ _) (by omega) (by omega) hlen).mono ?_
  rintro e w1 ⟨g1, c1, rfl, ho1, d1, hs1, e1, hg1⟩
  have HO : Hid (w1.ownsRow u.heap.size 56 5 (.slice (some ⟨g1, 0, none⟩) 0 c1) 0 (hL []) ∧ ¬ stB X d1 g1) := ⟨ho1, hg1⟩
  have H1 : Hid (Sp X d u d1 w1 ∧ d1.p = d.p) := ⟨hs1, e1⟩
  clear ho1 hg1 hs1 e1 b1
  have f0 := H1.out.1.s.f.1.cell 0 rfl
  have hl1 : d1.held.length = d.held.length := by have := congrArg DP.held H1.out.2; exact congrArg List.length this
  go_wp2_with fail
  refine (hold_calls X d1 ⟨g1, 0, none⟩ [] c1 _ H1.out.1.s (by simp; omega) (fun j x e => by simp [hL] at e)).mono ?_
  rintro e w2 ⟨rfl, d2, hs2, e2⟩
  have HO2 : Hid (w2.ownsRow u.heap.size 56 5 (.slice (some ⟨g1, 0, none⟩) 0 c1) 0 (hL []) ∧ ¬ stB X d2 g1) := own_step HO.out.1 HO.out.2 hs2
  have H2 : Hid (Sp X d u d2 w2 ∧ d2.p = d.p) := ⟨H1.out.1.trans hs2, by rw [e2, DP.hold_nil]; exact H1.out.2⟩
  clear hs2 e2 HO H1 f0
  have f0 := H2.out.1.s.f.1.cell 0 rfl
  have b2 := (HP.out.l2.at H2.out.1.s).cell 0 rfl
  have hv2 : d2.vp = .pointer (some ⟨Q, 0, none⟩) := by have := congrArg DP.vp H2.out.2; exact this.trans hv
  have hl2 : d2.held.length = d.held.length := by have := congrArg DP.held H2.out.2; exact congrArg List.length this
  go_wp2_with fail
  refine (one_calls X d2 P.v1 P.v2 Q v _ H2.out.1.s (HP.out.v1.at H2.out.1.s) (HP.out.v2.at H2.out.1.s) hv2 (HQ.out.step H2.out.1).1).mono ?_
  rintro e w3 ⟨⟨g3, rfl, hg3, hh3⟩, hb3⟩
  have hsp3 := Sp.below H2.out.1.s hb3
  have HO3 : Hid (w3.ownsRow u.heap.size 56 5 (.slice (some ⟨g1, 0, none⟩) 0 c1) 0 (hL []) ∧ ¬ stB X d2 g1) := own_step HO2.out.1 HO2.out.2 hsp3
  have HB3 : Hid (Bx X d2 w3 g3 (vA v)) := ⟨hh3, H2.out.1.s.other hg3⟩
  have H3 : Hid (Sp X d u d2 w3 ∧ d2.p = d.p) := ⟨H2.out.1.call hb3, H2.out.2⟩
  clear hsp3 hh3 hg3 hb3 HO2 H2 f0 b2
  have f0 := H3.out.1.s.f.1.cell 0 rfl
  go_wp2_with fail
  refine (release_calls X d2 0 _ H3.out.1.s (by omega) (by omega)).mono ?_
  rintro e w4 ⟨rfl, d4, hs4, e4⟩
  have HO4 : Hid (w4.ownsRow u.heap.size 56 5 (.slice (some ⟨g1, 0, none⟩) 0 c1) 0 (hL []) ∧ ¬ stB X d4 g1) := own_step HO3.out.1 HO3.out.2 hs4
  have HB4 : Hid (Bx X d4 w4 g3 (vA v)) := HB3.out.step hs4
  have H4 : Hid (Sp X d u d4 w4 ∧ d4.p = d.p) := ⟨H3.out.1.trans hs4, by
    rw [e4, H3.out.2]
    show DP.cutH d.p _ = d.p
    rw [Nat.sub_zero, hl2]
    simp [DP.cutH, MD.p]⟩
  clear hs4 e4 HO3 HB3 H3 f0
  obtain ⟨g5, c5, w5, happ, ho5, hg5, hat5⟩ := appV_run u.heap.size w4 g1 c1 g3 v H4.out.1.g.size HO4.out.1 HB4.out.1
  have HF : Hid (OwV u.heap.size w5 g5 c5 [v] ∧ ToG X d u d.p w5 g5) := by
    have hgx : Gx (fun k => k = g1) w4 w5 := (Gx.grown hg5).mono (fun k e => (Option.some.inj e).symm)
    refine ⟨ho5, d4, ?_, H4.out.2, ?_⟩
    · exact Sp.beside HS.out H4.out.1 hgx (own_ge HO4.out.1 (k := g1) rfl).1 HO4.out.2
    · rcases hat5 with e | e
      · rw [e]; exact HO4.out.2
      · exact H4.out.1.s.other (Nat.le_of_eq e.symm)
  clear HO4 HB4 H4 ho5 hg5 hat5
  go_wp2_with (at_builtin; refine wpList_app (by rfl) _ _ _ _ (by rfl) (.slice (some ⟨g1, 0, none⟩) 0 c1) (.slice (some ⟨g3, 0, none⟩) 1 1) _ _ (by rfl) (by rfl) happ ?_)
  go_ret
  exact ⟨g5, c5, rfl, HF.out⟩
end Go.Proofs.YtdialodjllpgaaaGreatDoor
