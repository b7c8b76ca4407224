import Derived.Test.YtdialodjllpgaaaGreatDoorCnK
import Derived.Deep.Cut
import Derived.Test.YtdialodjllpgaaaGreatDoorSet
import Derived.RangeFuncNested
import Derived.RangeFuncBound
import Derived.RangeFuncCalls
import Derived.RangeFuncLeaves
import Derived.Shelf.Abstract
import Derived.OwnWalkIn
import Derived.TacticsInMore
import Derived.LoopNIn
import Derived.LoopIn
import Derived.RegionIn
import Derived.Deep.DeepCutAuto
/-! The program's run: a call of print. -/
namespace Go.Proofs.YtdialodjllpgaaaGreatDoor
open Go.RowKit
attribute [local go_sem] run_store_float
attribute [local go_sem ↓] Go.wp_at_zero Go.wp_at_succ

set_option maxRecDepth 100000 in
set_option maxHeartbeats 8000000 in
theorem all_calls (X : RX) (P : PX) (d : MD) (Q : Nat) (n : Int) (u : World) (h : St X d u) (hT : TabX X) (hP : P.ok X) (hv : d.p.vp = .pointer (some ⟨Q, 0, none⟩)) (hQ : Bx X d u Q (vA (inD n))) (hlen : d.held.length ≤ 900) (hn : I64r n) (hl : d.recs.length < 5000) (ht : d.ti < 1000) :
    Calls Tryz.prog 195 #[ptr X.F, ptr P.a1, ptr P.a2] u fun e w' => e = .returned (.slice none 0 0) ∧ To X d u (d.p.tick.rcd ⟨6, 0, 0, d.line, bA (decB n)⟩) w' := by
  have HS : Hid (St X d u) := h
  have HT : Hid (TabX X) := hT
  have HP : Hid (P.ok X) := hP
  have b1 := (hP.a1.at h).cell 0 rfl
  have HQ : Hid (Bx X d u Q (vA (inD n))) := hQ
  clear h hT hP hQ
  go_enter Tryz.func195, Tryz.ntmps195
  go_wp2_with fail
  refine (parts_calls X P d Q (inD n) _ HS.out HP.out hv HQ.out hlen).mono ?_
  rintro e w1 ⟨g, c, rfl, ho, d1, hs1, e1, hg1⟩
  have H1 : Hid (Sp X d u d1 w1 ∧ d1.p = d.p) := ⟨hs1, e1⟩
  have HG : Hid (Bc X d1 w1 g (inD n)) := Bc.own ho hg1
  clear ho hs1 e1 hg1 b1
  go_wp2_with fail
  obtain ⟨w2, hw2⟩ : ∃ w2, w1.alloc (.cells (vA prD) 56) = w2 := ⟨_, rfl⟩
  obtain ⟨C, hC0⟩ : ∃ C, w1.heap.size = C := ⟨_, rfl⟩
  have H2 : Hid (Sp X d u d1 w2 ∧ d1.p = d.p) := by rw [← hw2]; exact ⟨H1.out.1.alloc _, H1.out.2⟩
  have HC : Hid (Bx X d1 w2 C (vA prD)) := by rw [← hw2, ← hC0]; exact Bx.new H1.out.1.s _ _
  have HG2 : Hid (Bc X d1 w2.drew g (inD n)) := by rw [← hw2]; exact HG.out.step ((Sp.below H1.out.1.s (below_alloc _ _)).drew)
  rw [show w1.alloc (.cells #[.int .i64 8, .int .i64 0, .float .f64 0, .string ⟨#[]⟩, .int .i64 0] 56) = w2 from hw2, hC0]
  clear hw2 hC0 H1 HG
  have a2 := (HP.out.a2.at H2.out.1.s).cell 0 rfl
  have bb := (HP.out.bb.at H2.out.1.s).cell 0 rfl
  have c0 := HC.out.cell 0 rfl
  have c1 := HC.out.cell 1 rfl
  have c2 := HC.out.cell 2 rfl
  have c3 := HC.out.cell 3 rfl
  have c4 := HC.out.cell 4 rfl
  have HS2 : Hid (St X d1 w2.drew) := H2.out.1.s.drew
  have hl1 : d1.recs.length < 5000 := by have : d1.recs = d.recs := congrArg DP.recs H2.out.2; rw [this]; exact hl
  have ht1 : d1.ti < 1000 := by have : d1.ti = d.ti := congrArg DP.ti H2.out.2; omega
  have hli : d1.line = d.line := congrArg DP.line H2.out.2
  have HE : Hid (d1.p = d.p) := H2.out.2
  go_region_with (go_at_call 196; refine (invoke_calls X d1 g c n _ HS2.out HT.out hn hl1 ht1 HG2.out).mono ?_; rw [hli, HE.out]; rintro e w3 ⟨rfl, ht3⟩)
  all_goals
    have HF : Hid (To X d u (d.p.tick.rcd ⟨6, 0, 0, d.line, bA (decB n)⟩) w3) := To.step H2.out.1.drew ht3
    clear ht3
    go_wp2_with fail
    go_ret
    exact ⟨rfl, HF.out⟩

set_option maxRecDepth 100000 in
set_option maxHeartbeats 8000000 in
theorem do_calls (X : RX) (P : PX) (d : MD) (Q : Nat) (n : Int) (u : World) (h : St X d u) (hT : TabX X) (hP : P.ok X) (hv : d.p.vp = .pointer (some ⟨Q, 0, none⟩)) (hQ : Bx X d u Q (vA (inD n))) (hlen : d.held.length ≤ 900) (hn : I64r n) (hl : d.recs.length < 5000) (ht : d.ti < 1000) :
    Calls Tryz.prog 170 #[ptr X.F, ptr P.d1] u fun e w' => e = .returned .nilIface ∧ To X d u (d.p.tick.rcd ⟨6, 0, 0, d.line, bA (decB n)⟩) w' := by
  have HS : Hid (St X d u) := h
  have HT : Hid (TabX X) := hT
  have HP : Hid (P.ok X) := hP
  have b1 := (hP.d1.at h).cell 0 rfl
  have HQ : Hid (Bx X d u Q (vA (inD n))) := hQ
  clear h hT hP hQ
  go_enter Tryz.func170, Tryz.ntmps170
  go_wp2_with fail
  refine (all_calls X P d Q n _ HS.out HT.out HP.out hv HQ.out hlen hn hl ht).mono ?_
  rintro e w1 ⟨rfl, ht1⟩
  have HF : Hid _ := ht1
  clear ht1 b1
  go_wp2_with fail
  go_ret
  exact ⟨rfl, HF.out⟩
end Go.Proofs.YtdialodjllpgaaaGreatDoor

/-! The program's run: a statement that prints. -/
namespace Go.Proofs.YtdialodjllpgaaaGreatDoor
open Go.RowKit
attribute [local go_sem] run_store_float
attribute [local go_sem ↓] Go.wp_at_zero Go.wp_at_succ

/-- what a turn of the loop shows -/
def DP.shown (p : DP) (L : Int) (n : Int) : DP := ((((p.tick.ln L).rcd ⟨1, 0, 0, L, ⟨#[]⟩⟩).tick.rcd ⟨6, 0, 0, L, bA (decB n)⟩)).ln p.line
set_option maxRecDepth 100000 in
set_option maxHeartbeats 8000000 in
theorem stmt_calls (X : RX) (P : PX) (d : MD) (Q : Nat) (n : Int) (u : World) (h : St X d u) (hT : TabX X) (hP : P.ok X) (hv : d.p.vp = .pointer (some ⟨Q, 0, none⟩)) (hQ : Bx X d u Q (vA (inD n))) (hlen : d.held.length ≤ 900) (hn : I64r n) (hl : d.recs.length < 4000) (ht : d.ti < 900) :
    Calls Tryz.prog 143 #[ptr X.F, ptr P.s1, ptr P.s2, ptr P.s3] u fun e w' => e = .returned .nilIface ∧ To X d u (d.p.shown P.line n) w' := by
  have HS : Hid (St X d u) := h
  have HT : Hid (TabX X) := hT
  have HP : Hid (P.ok X) := hP
  have HQ : Hid (Bx X d u Q (vA (inD n))) := hQ
  have b1 := (hP.s1.at h).cell 0 rfl
  have bb := (hP.bb.at h).cell 0 rfl
  clear h hT hP hQ
  go_enter Tryz.func143, Tryz.ntmps143
  go_wp2_with fail
  refine (tick_calls X d _ HS.out (by omega)).mono ?_
  rintro e w1 ⟨rfl, d1, hs1, e1⟩
  have H1 : Hid (Sp X d u d1 w1 ∧ d1.p = d.p.tick) := ⟨hs1, e1⟩
  have hli : d1.line = d.line := congrArg DP.line e1
  clear hs1 e1 b1 bb
  have f12 : w1.cell? ⟨X.F, 12, none⟩ = some (.int .i64 d.line) := by rw [← hli]; exact H1.out.1.s.f.1.cell 12 rfl
  have fz := H1.out.1.s.f.2
  have n1 := (HP.out.s2.at H1.out.1.s).cell 1 HP.out.ln
  have hne : X.F ≠ P.s2 := fun e => by have h1 := HP.out.s2.1.1; have h2 := HS.out.x.f; omega
  go_upto_region 4 with fail
  obtain ⟨d2, w2, hw2, hs2, e2⟩ : ∃ d2 w2, w1.setCell ⟨X.F, 12, none⟩ (.int .i64 P.line) = w2 ∧ Sp X d1 w1 d2 w2 ∧ d2.p = d1.p.ln P.line := ⟨_, _, rfl, Sp.line H1.out.1.s P.line, rfl⟩
  have H2 : Hid (Sp X d u d2 w2 ∧ d2.p = d.p.tick.ln P.line) := ⟨H1.out.1.trans hs2, by rw [e2, H1.out.2]⟩
  rw [hw2]
  clear hw2 hs2 e2 H1 f12 fz n1 hli
  have b1 := (HP.out.s1.at H2.out.1.s).cell 0 rfl
  have bb := (HP.out.bb.at H2.out.1.s).cell 0 rfl
  have f1 := H2.out.1.s.f.1.cell 1 rfl
  have n1 := (HP.out.s2.at H2.out.1.s).cell 1 HP.out.ln
  have HS2 : Hid (St X d2 w2.drew) := H2.out.1.s.drew
  have hl2 : d2.recs.length < 4000 := by have : d2.recs = d.recs := congrArg DP.recs H2.out.2; rw [this]; exact hl
  go_region_with (go_at_call 145; refine (record_calls X d2 1 0 P.line ⟨#[]⟩ _ HS2.out (by omega)).mono ?_; rintro e w3 ⟨rfl, ht3⟩)
  all_goals
    obtain ⟨d3, hs3, e3⟩ := ht3
    have H3 : Hid (Sp X d u d3 w3 ∧ d3.p = (d.p.tick.ln P.line).rcd ⟨1, 0, 0, P.line, ⟨#[]⟩⟩) := ⟨H2.out.1.drew.trans hs3, by rw [e3, H2.out.2]⟩
    clear hs3 e3 H2 HS2 b1 bb f1 n1
    have s3 := (HP.out.s3.at H3.out.1.s).cell 0 rfl
    have hv3 : d3.p.vp = .pointer (some ⟨Q, 0, none⟩) := by rw [H3.out.2]; exact hv
    have hh3 : d3.held.length ≤ 900 := by have : d3.held = d.held := congrArg DP.held H3.out.2; rw [this]; exact hlen
    have hl3 : d3.recs.length < 5000 := by
      have : d3.recs = d.recs ++ [⟨1, 0, 0, P.line, ⟨#[]⟩⟩] := congrArg DP.recs H3.out.2
      rw [this]; simp; omega
    have ht3 : d3.ti < 1000 := by have : d3.ti = d.ti + 1 := congrArg DP.ti H3.out.2; omega
    have hli3 : d3.line = P.line := congrArg DP.line H3.out.2
    go_wp2_with fail
    refine (do_calls X P d3 Q n _ H3.out.1.s HT.out HP.out hv3 (HQ.out.step H3.out.1) hh3 hn hl3 ht3).mono ?_
    rintro e w4 ⟨rfl, d4, hs4, e4⟩
    have H4 : Hid (Sp X d u d4 w4 ∧ d4.p = ((d.p.tick.ln P.line).rcd ⟨1, 0, 0, P.line, ⟨#[]⟩⟩).tick.rcd ⟨6, 0, 0, P.line, bA (decB n)⟩) := ⟨H3.out.1.trans hs4, by rw [e4, H3.out.2, hli3]⟩
    clear hs4 e4 H3 s3 hv3 hh3 hl3 ht3 hli3
    have f12 := H4.out.1.s.f.1.cell 12 rfl
    have fz := H4.out.1.s.f.2
    have HF : Hid (To X d u (d.p.shown P.line n) (w4.setCell ⟨X.F, 12, none⟩ (.int .i64 d.line))) := .mk (H4.out.1.trans (Sp.line H4.out.1.s d.line)) (by
      show d4.p.ln d.line = _
      rw [H4.out.2]; rfl)
    go_wp2_with fail
    go_ret
    exact ⟨rfl, HF.out⟩
end Go.Proofs.YtdialodjllpgaaaGreatDoor

/-! The program's run: a block of one statement that prints. -/
namespace Go.Proofs.YtdialodjllpgaaaGreatDoor
open Go.RowKit
attribute [local go_sem] run_store_float
attribute [local go_sem ↓] Go.wp_at_zero Go.wp_at_succ

theorem St.scCap {X : RX} {d : MD} {u : World} (h : St X d u) : d.sc.length ≤ d.sp ∧ ((d.sa = none ∧ d.sp = 0 ∧ d.sc.length = 0) ∨ ∃ g, d.sa = some ⟨g, 0, none⟩) := by
  rcases h.sr.2 with ⟨e, h0⟩ | ⟨g, cap, cur, e, _, hg, h5, _⟩
  · obtain ⟨e1, e2, e3⟩ : d.sa = none ∧ d.sc.length = 0 ∧ d.sp = 0 := by simpa using e
    exact ⟨by omega, .inl ⟨e1, e3, e2⟩⟩
  · obtain ⟨e1, e3⟩ : d.sa = some ⟨g, 0, none⟩ ∧ d.sp = cap := by simpa using e
    exact ⟨by omega, .inr ⟨g, e1⟩⟩
theorem Sp.sameS {X : RX} {d : MD} {u : World} (h : St X d u) {m : Nat} (hm : m = d.sc.length) : To X d u d.p (u.setCell ⟨X.F, 10, none⟩ (.slice d.sa m d.sp)) := by
  subst hm
  refine .mk (Sp.cutS h (Nat.le_refl _)) ?_
  show DP.cutS d.p d.sc.length = d.p
  simp [DP.cutS, MD.p]
theorem sl_if (a : Option Addr) (c : Prop) [Decidable c] (h : a = none ∨ ∃ g, a = some (⟨g, 0, none⟩ : Addr)) : (if c then a else a.map (fun x => x.add 0)) = a := by
  rcases h with rfl | ⟨g, rfl⟩ <;> simp [Addr.add]

set_option maxRecDepth 100000 in
set_option maxHeartbeats 8000000 in
theorem body_calls (X : RX) (P : PX) (d : MD) (Q : Nat) (n : Int) (u : World) (h : St X d u) (hT : TabX X) (hP : P.ok X) (hv : d.p.vp = .pointer (some ⟨Q, 0, none⟩)) (hQ : Bx X d u Q (vA (inD n))) (hlen : d.held.length ≤ 900) (hn : I64r n) (hl : d.recs.length < 4000) (ht : d.ti < 900) :
    Calls Tryz.prog 166 #[ptr X.F, ptr P.k1] u fun e w' => e = .returned .nilIface ∧ To X d u (d.p.shown P.line n) w' := by
  have HS : Hid (St X d u) := h
  have HT : Hid (TabX X) := hT
  have HP : Hid (P.ok X) := hP
  have HQ : Hid (Bx X d u Q (vA (inD n))) := hQ
  have k1 := (hP.k1.at h).cell 0 rfl
  have f10 := h.f.1.cell 10 rfl
  clear h hT hP hQ
  go_enter Tryz.func166, Tryz.ntmps166
  go_wp2_with fail
  clear k1 f10
  go_loopw [15] (fun i wr => (i = .int .i64 0 ∧ wr = u) ∨ (i = .int .i64 1 ∧ Hid (To X d u (d.p.shown P.line n) wr))) (fun i _ => 1 - (intOf i).toNat)
  case atStart => exact .inl ⟨rfl, rfl⟩
  case round =>
    rcases hrel with ⟨rfl, rfl⟩ | ⟨rfl, HF⟩
    · have ka := HP.out.ka.at HS.out
      go_wp2_with fail
      refine (stmt_calls X P d Q n _ HS.out HT.out HP.out hv HQ.out hlen hn hl ht).mono ?_
      rintro e w1 ⟨rfl, ht1⟩
      have HF : Hid _ := ht1
      clear ht1 ka
      go_wp2_with fail
      go_roundw
      case rel => exact .inr ⟨rfl, HF⟩
      case measure => simp [intOf]
    · obtain ⟨d1, hs1, e1⟩ := HF.out
      have hsc1 : d1.sc.length = d.sc.length := by have : d1.sc = d.sc := congrArg DP.sc e1; rw [this]
      have hcap := hs1.s.scCap
      have f10 := hs1.s.f.1.cell 10 rfl
      have fz := hs1.s.f.2
      have hif := sl_if d1.sa (d1.sp = 0) (hcap.2.elim (fun h => .inl h.1) .inr)
      have HF2 : Hid (To X d u (d.p.shown P.line n) (wr.setCell ⟨X.F, 10, none⟩ (.slice d1.sa d.sc.length d1.sp))) := by
        have := To.step hs1 (Sp.sameS hs1.s hsc1.symm)
        rwa [e1] at this
      have hc := hcap.1
      rw [hsc1] at hc
      have H1 : Hid (Sp X d u d1 wr ∧ d1.p = d.p.shown P.line n) := ⟨hs1, e1⟩
      clear hs1 e1 hcap HF
      go_wp2_with fail
      go_ret
      exact ⟨rfl, HF2.out⟩
end Go.Proofs.YtdialodjllpgaaaGreatDoor

/-! The program's run: a variable is declared. -/
namespace Go.Proofs.YtdialodjllpgaaaGreatDoor
open Go.RowKit
attribute [local go_sem] run_store_float
attribute [local go_sem ↓] Go.wp_at_zero Go.wp_at_succ

set_option maxRecDepth 100000 in
set_option maxHeartbeats 8000000 in
theorem at_calls (g c : Nat) (v : VD) (u : World) (h : g < u.heap.size ∧ ∀ j x, (v5 v)[j]? = some x → u.cell? ⟨g, j, none⟩ = some x) :
    Calls Tryz.prog 85 #[.slice (some ⟨g, 0, none⟩) 1 c, .int .i64 0] u fun e w' => e = .returned v.v ∧ Below u.heap.size u w' := by
  have hg := h.1
  have c0 := h.2 0 _ rfl
  have c1 := h.2 1 _ rfl
  have c2 := h.2 2 _ rfl
  have c3 := h.2 3 _ rfl
  have c4 := h.2 4 _ rfl
  clear h
  go_enter Tryz.func85, Tryz.ntmps85
  go_wp2_with fail
  exact bodyPost_ret (v := v.v) (by simp [results, Tryz.results85, go_sem]) rfl ⟨rfl, below_alloc _ _⟩

/-- a variable with this value is in scope -/
def Declared (X : RX) (d : MD) (u : World) (v : VD) (w' : World) : Prop := ∃ Q d', Sp X d u d' w' ∧ d'.p = (d.p.var (ptr Q)).scope 0 ∧ Bx X d' w' Q (vA v)
set_option maxRecDepth 100000 in
set_option maxHeartbeats 8000000 in
theorem declare_calls (X : RX) (d : MD) (rb ro rc g c : Nat) (v : VD) (u : World) (h : St X d u) (hr : u.cell? ⟨rb, ro, none⟩ = some (.int .i64 0)) (hg : Bc X d u g v) (hsc : d.sc.length ≤ 1000) :
    Calls Tryz.prog 84 #[ptr X.F, .slice (some ⟨rb, ro, none⟩) 1 rc, .slice (some ⟨g, 0, none⟩) 1 c] u fun e w' => e = .returned (.tuple #[]) ∧ Declared X d u v w' := by
  have HS : Hid (St X d u) := h
  have HG : Hid (Bc X d u g v) := hg
  clear h hg
  go_enter Tryz.func84, Tryz.ntmps84
  go_wp2_with fail
  go_loopw [10] (fun i wr => (i = .int .i64 0 ∧ wr = u) ∨ (i = .int .i64 1 ∧ Hid (Declared X d u v wr))) (fun i _ => 1 - (intOf i).toNat)
  case atStart => exact .inl ⟨rfl, rfl⟩
  case round =>
    rcases hrel with ⟨rfl, rfl⟩ | ⟨rfl, HF⟩
    · have f8 := HS.out.f.1.cell 8 rfl
      have hF := HS.out.f.1.1
      have hV := HS.out.v.1.1
      have v0 := HS.out.v.1.cell 0 rfl
      have vz := HS.out.v.2
      go_upto_region 3 with fail
      go_region_with (go_at_call 85; refine (at_calls g c v _ (HG.out.step ((Sp.refl HS.out).drew)).1).mono ?_; rintro e w1 ⟨rfl, hb1⟩; have H1 : Hid (Sp X d wr d w1) := ((Sp.refl HS.out).drew).call hb1; have f8' := H1.out.s.f.1.cell 8 rfl; have hF' := H1.out.s.f.1.1; have hV' := H1.out.s.v.1.1; have v0' := H1.out.s.v.1.cell 0 rfl; have vz' := H1.out.s.v.2; clear hb1)
      all_goals
        obtain ⟨Q, hQ⟩ : ∃ Q, w1.heap.size = Q := ⟨_, rfl⟩
        obtain ⟨w2, hw2⟩ : ∃ w2, (w1.setCell ⟨X.V, 0, none⟩ (ptr Q)).alloc (.cells #[.int .i64 v.k, .int .i64 v.n, .float .f64 v.f, .string v.s, .int .i64 v.r] 224) = w2 := ⟨_, rfl⟩
        have hs2 := Sp.var H1.out.s (ptr Q)
        have hs3 := hs2.alloc (.cells #[.int .i64 v.k, .int .i64 v.n, .float .f64 v.f, .string v.s, .int .i64 v.r] 224)
        have hbx := Bx.new hs2.s (vA v) 224
        rw [show (w1.setCell ⟨X.V, 0, none⟩ (ptr Q)).heap.size = Q by rw [← hQ]; simp] at hbx
        obtain ⟨d2, hd2⟩ : ∃ d2, d2 = { d with vp := ptr Q } := ⟨_, rfl⟩
        have H2 : Hid (Sp X d wr d2 w2 ∧ d2.p = d.p.var (ptr Q)) := by
          rw [hd2, ← hw2]
          exact ⟨H1.out.trans hs3, rfl⟩
        have HB2 : Hid (Bx X d2 w2 Q (vA v)) := by rw [hd2, ← hw2]; exact hbx
        have hsc2 : d2.sc.length ≤ 1000 := by rw [hd2]; exact hsc
        rw [hQ, hw2]
        clear hs2 hs3 hbx hw2 hQ hd2 H1 f8 hF hV v0 vz f8' hF' hV' v0' vz'
        have f10 := H2.out.1.s.f.1.cell 10 rfl
        obtain ⟨i0, hi0, hy0, hy1, hy2⟩ := info_parts infoI'
        obtain ⟨v', w7, happ, hown, hgrow, _, hat⟩ := run_append_own_at (P := Tryz.prog) (w2.alloc (.cells #[.int .i64 0] 3)) X.N 49 49 3 i0 _ 1 8 Tryz.underlying49 hi0 hy0 hy1 hy2 rfl (by decide) (.slice d2.sa d2.sc.length d2.sp) d2.sc.length (iL d2.sc) (H2.out.1.s.alloc _).sr ⟨w2.heap.size, 0, none⟩ 1 1 [.int .i64 0] rfl (cell_one_new _ _ _) (by simp [Value.oneCell']) (by unfold maxLen; omega) (by omega) (H2.out.1.s.alloc _).n
        have hm := (H2.out.1.s.alloc (.cells #[.int .i64 0] 3)).mids (by rw [own_bk] at hgrow; exact hgrow) (fun q e => (own_ge H2.out.1.s.sr e).1)
        obtain ⟨a3, c3, rfl, hs3⟩ := Sp.scope (z := 0) (H2.out.1.s.alloc (.cells #[.int .i64 0] 3)) hown hgrow hat
        have hs4 := (Sp.below H2.out.1.s (below_alloc w2 (.cells #[.int .i64 0] 3))).trans hs3
        have HF : Hid (Declared X d wr v (w7.setCell ⟨X.F, 10, none⟩ (.slice a3 (d2.sc.length + 1) c3))) := ⟨Q, _, H2.out.1.trans hs4, by
          show DP.scope d2.p 0 = _
          rw [H2.out.2], HB2.out.step hs4⟩
        have d10 := hm.2.2.1.1.cell 10 rfl
        have dz := hm.2.2.1.2
        clear hown hgrow hat hs3 hs4 hm H2 HB2
        go_wp2_with (at_builtin; refine wpList_app (by rfl) _ _ _ _ (by rfl) (.slice d2.sa d2.sc.length d2.sp) (.slice (some ⟨w2.heap.size, 0, none⟩) 1 1) _ _ (by rfl) (by rfl) happ ?_)
        go_roundw
        case rel => exact .inr ⟨rfl, HF⟩
        case measure => simp [intOf]
    · go_wp2_with fail
      go_end0
      exact ⟨rfl, HF.out⟩
end Go.Proofs.YtdialodjllpgaaaGreatDoor

/-! The program's run: a turn of a loop. -/
namespace Go.Proofs.YtdialodjllpgaaaGreatDoor
open Go.RowKit
attribute [local go_sem] run_store_float
attribute [local go_sem ↓] Go.wp_at_zero Go.wp_at_succ

set_option maxRecDepth 100000 in
set_option maxHeartbeats 4000000 in
theorem asNil_calls (x : Value) (u : World) : Calls Tryz.prog 52 #[.nilIface, x] u fun e w' => e = .returned (.bool false) ∧ w' = u := by
  go_enter Tryz.func52, Tryz.ntmps52
  go_wp2_with fail
  go_ret
  exact ⟨rfl, rfl⟩
set_option maxRecDepth 100000 in
set_option maxHeartbeats 4000000 in
theorem turnedNil_calls (u : World) : Calls Tryz.prog 203 #[.nilIface] u fun e w' => e = .returned (.tuple #[.bool false, .nilIface]) ∧ Below u.heap.size u w' := by
  go_enter Tryz.func203, Tryz.ntmps203
  go_wp2_with fail
  refine (asNil_calls _ _).mono ?_
  rintro e w1 ⟨rfl, rfl⟩
  go_wp2_with fail
  exact bodyPost_ret (v := .tuple #[.bool false, .nilIface]) (by simp [results, Tryz.results203, go_sem]) rfl ⟨rfl, below_alloc _ _⟩

/-- what a turn comes to: the variable is another -/
def TurnTo (X : RX) (d : MD) (u : World) (q : DP) (w' : World) : Prop := ∃ z d', Sp X d u d' w' ∧ d'.p = q.var z
set_option maxRecDepth 100000 in
set_option maxHeartbeats 8000000 in
theorem inside_calls (X : RX) (P : PX) (d : MD) (rb ro rc g c : Nat) (n : Int) (u : World) (h : St X d u) (hT : TabX X) (hP : P.ok X) (hr : u.cell? ⟨rb, ro, none⟩ = some (.int .i64 0)) (hg : Bc X d u g (inD n)) (hlen : d.held.length ≤ 900) (hn : I64r n) (hl : d.recs.length < 4000) (ht : d.ti < 900) (hsc : d.sc.length ≤ 900) :
    Calls Tryz.prog 207 #[ptr X.F, .slice (some ⟨rb, ro, none⟩) 1 rc, .slice (some ⟨g, 0, none⟩) 1 c, bkV P.k1] u fun e w' => e = .returned .nilIface ∧ TurnTo X d u (d.p.shown P.line n) w' := by
  have HS : Hid (St X d u) := h
  have HT : Hid (TabX X) := hT
  have HP : Hid (P.ok X) := hP
  have HG : Hid (Bc X d u g (inD n)) := hg
  have f10 := h.f.1.cell 10 rfl
  clear h hT hP hg
  go_enter Tryz.func207, Tryz.ntmps207
  go_wp2_with fail
  refine (declare_calls X d rb ro rc g c (inD n) _ HS.out hr HG.out (by omega)).mono ?_
  rintro e w1 ⟨rfl, Q, d1, hs1, e1, hb1⟩
  have H1 : Hid (Sp X d u d1 w1 ∧ d1.p = (d.p.var (ptr Q)).scope 0) := ⟨hs1, e1⟩
  have HB : Hid (Bx X d1 w1 Q (vA (inD n))) := hb1
  clear hs1 e1 hb1 f10 HG
  have hv1 : d1.p.vp = .pointer (some ⟨Q, 0, none⟩) := by rw [H1.out.2]; rfl
  have hh1 : d1.held.length ≤ 900 := by have : d1.held = d.held := congrArg DP.held H1.out.2; rw [this]; exact hlen
  have hl1 : d1.recs.length < 4000 := by have : d1.recs = d.recs := congrArg DP.recs H1.out.2; rw [this]; exact hl
  have ht1 : d1.ti < 900 := by have : d1.ti = d.ti := congrArg DP.ti H1.out.2; omega
  go_wp2_with fail
  refine (body_calls X P d1 Q n _ H1.out.1.s HT.out HP.out hv1 HB.out hh1 hn hl1 ht1).mono ?_
  rintro e w2 ⟨rfl, d2, hs2, e2⟩
  have H2 : Hid (Sp X d u d2 w2 ∧ d2.p = (((d.p.var (ptr Q)).scope 0).shown P.line n)) := ⟨H1.out.1.trans hs2, by rw [e2, H1.out.2]⟩
  clear hs2 e2 H1 HB hv1 hh1 hl1 ht1
  have hsc2 : d2.sc.length = d.sc.length + 1 := by have : d2.sc = d.sc ++ [0] := congrArg DP.sc H2.out.2; rw [this]; simp
  have hcap := H2.out.1.s.scCap
  have hif := sl_if d2.sa (d2.sp = 0) (hcap.2.elim (fun h => .inl h.1) .inr)
  have hc := hcap.1
  rw [hsc2] at hc
  have f10 : w2.cell? ⟨X.F, 10, none⟩ = some (.slice d2.sa (d.sc.length + 1) d2.sp) := by rw [← hsc2]; exact H2.out.1.s.f.1.cell 10 rfl
  have fz := H2.out.1.s.f.2
  have HF : Hid (TurnTo X d u (d.p.shown P.line n) (w2.setCell ⟨X.F, 10, none⟩ (.slice d2.sa d.sc.length d2.sp))) := by
    have h3 := Sp.cutS H2.out.1.s (m := d.sc.length) (by omega)
    refine ⟨ptr Q, _, H2.out.1.trans h3, ?_⟩
    show DP.cutS d2.p d.sc.length = _
    rw [H2.out.2]
    simp [DP.cutS, DP.shown, DP.scope, DP.var, DP.tick, DP.ln, DP.rcd, MD.p]
  clear hcap H2 hsc2
  go_wp2_with fail
  go_ret
  exact ⟨rfl, HF.out⟩
end Go.Proofs.YtdialodjllpgaaaGreatDoor

/-! The program's run: the numbers of a counted loop. -/
namespace Go.Proofs.YtdialodjllpgaaaGreatDoor
open Go.RowKit Go.Shelf
attribute [local go_sem] run_store_float
attribute [local go_sem] Oper.semAt_some

theorem ownB_cells {w : World} {B : Nat} {A : Array Value} (h : OwnB w B A) (hA : 0 < A.size) : ∃ o : Obj, w.heap[B]? = some o ∧ o.isCells = true :=
  cells_of_cell (a := ⟨B, 0, none⟩) ((h.1.2 0).trans (Array.getElem?_eq_getElem hA))
theorem own_cells {N K n m cap g : Nat} {w : World} {t : TypeId} {a : Option Addr} {xs : List Value} (h : w.ownsRow N t K (.slice a m cap) n xs) (e : bkOf a = some g) : ∃ o : Obj, w.heap[g]? = some o ∧ o.isCells = true := by
  rcases h.2 with ⟨c, _⟩ | ⟨g', cap', cur, c, _, hg, _⟩
  · cases c; cases e
  · cases c; cases e
    exact ⟨_, hg, rfl⟩
theorem St.cells {X : RX} {d : MD} {u : World} (h : St X d u) {k : Nat} (e : stB X d k) : ∃ o : Obj, u.heap[k]? = some o ∧ o.isCells = true := by
  rcases e with rfl | rfl | rfl | rfl | e | e | e
  · exact ownB_cells h.m (by show 0 < 27; omega)
  · exact ownB_cells h.t (by show 0 < 17; omega)
  · exact ownB_cells h.f (by show 0 < 13; omega)
  · exact ownB_cells h.v (by show 0 < 1; omega)
  · exact own_cells h.rr e
  · exact own_cells h.hr e
  · exact own_cells h.sr e
/-- what is no row of cells stays -/
theorem Sp.keeps {X : RX} {d d' : MD} {u u' : World} (h0 : St X d u) (h : Sp X d u d' u') : KeepsOthers u u' := ⟨h.g.size, fun k o hk ho => by
  refine (h.g.block k (Array.getElem?_eq_some_iff.1 hk).1 (fun e => ?_)).trans hk
  obtain ⟨o', ho', hc⟩ := h0.cells e
  rw [hk] at ho'
  cases ho'
  rw [hc] at ho
  cases ho⟩
theorem Sp.abide {X : RX} {d d' : MD} {u W W' : World} {row : Option Nat} {B : Nat} (h0 : St X d u) (h : Sp X d u d' W) (hg : W.grownBy W' row) (hr : ∀ r, row = some r → B ≤ r ∧ ∃ o : Obj, W.heap[r]? = some o ∧ o.isCells = false) (hB : u.heap.size ≤ B) : Sp X d u d' W' := by
  have hx := h.s.x
  have hkc : ∀ {k : Nat}, (∃ o : Obj, W.heap[k]? = some o ∧ o.isCells = true) → W'.heap[k]? = W.heap[k]? := fun ⟨o, ho, hc⟩ => grownBy_keeps_cells hg (fun r e => (hr r e).2) ho hc
  have ho : ∀ {B : Nat} {A : Array Value}, OwnB W B A → 0 < A.size → OwnB W' B A := fun hh hA => hh.block hg.size (hkc (ownB_cells hh hA))
  have hrw : ∀ {N K n c m : Nat} {t : TypeId} {xs : List Value} {a : Option Addr}, W.ownsRow N t K (.slice a m c) n xs → W'.ownsRow N t K (.slice a m c) n xs := fun hh => ownsK_block hh fun q e => hkc (own_cells hh ((own_bk _ _ _).symm.trans e))
  have hge : ∀ r, row = some r → u.heap.size ≤ r := fun r e => Nat.le_trans hB (hr r e).1
  have hWs : X.W.heap.size ≤ u.heap.size := h0.k.size
  refine ⟨⟨hx, ho h.s.m (by show 0 < 27; omega), ho h.s.t (by show 0 < 17; omega), ho h.s.f (by show 0 < 13; omega), ho h.s.v (by show 0 < 1; omega), ho h.s.r (Array.getElem?_eq_some_iff.1 hx.r0).1, hrw h.s.rr, hrw h.s.hr, hrw h.s.sr, ?_, Nat.le_trans h.s.n hg.size⟩, ?_, h.mv⟩
  · exact h.s.k.trans (Gx.grown hg) (fun k _ e => .inr (by have := hge k e; omega))
  · exact h.g.trans (Gx.grown hg) (fun k hk e => by have := hge k e; omega)
/-- what was there when the loop began, but a run's own blocks, stays -/
structure KR (X : RX) (d : MD) (N : Nat) (A B : World) : Prop where
  size : A.heap.size ≤ B.heap.size
  block : ∀ k, k < N → ¬ stB X d k → B.heap[k]? = A.heap[k]?
theorem KR.trans {X : RX} {d : MD} {N : Nat} {A B C : World} (h : KR X d N A B) (k : KR X d N B C) : KR X d N A C := ⟨Nat.le_trans h.size k.size, fun i h1 h2 => (k.block i h1 h2).trans (h.block i h1 h2)⟩
theorem KR.of {X : RX} {d : MD} {N : Nat} {A B : World} (h : Below N A B) : KR X d N A B := ⟨h.size, fun i h1 _ => h.block i h1⟩
theorem KR.step {X : RX} {d0 d1 d2 : MD} {W0 W W' : World} (h : Sp X d0 W0 d1 W) (k : Sp X d1 W d2 W') : KR X d0 W0.heap.size W W' := ⟨k.g.size, fun i h1 h2 => k.g.block i (Nat.lt_of_lt_of_le h1 h.g.size) (fun e => h2 (h.mv i h1 e))⟩
theorem KR.has {X : RX} {d : MD} {N B : Nat} {A : Array Value} {w w' : World} (h : KR X d N w w') (hh : Has w B A) (hB : B < N) (hn : ¬ stB X d B) : Has w' B A := ⟨Nat.lt_of_lt_of_le hh.1 h.size, fun o => (World.cell?_of_block (a := ⟨B, o, none⟩) (h.block B hB hn)).trans (hh.2 o)⟩

abbrev wtV (a b c : Nat) : Value := .func (.func 303) #[] #[ptr a, ptr b, ptr c]
set_option maxRecDepth 100000 in
set_option maxHeartbeats 4000000 in
theorem wholeTurns_calls (a b s : Int) (w : World) :
    Calls Tryz.prog 253 #[.int .i64 a, .int .i64 b, .int .i64 s] w fun e w' => (∃ B1 B2 B3, e = .returned (wtV B1 B2 B3) ∧ w.heap.size ≤ B1 ∧ w.heap.size ≤ B2 ∧ w.heap.size ≤ B3 ∧ Has w' B1 #[.int .i64 a] ∧ Has w' B2 #[.int .i64 s] ∧ Has w' B3 #[.int .i64 b]) ∧ Below w.heap.size w w' := by
  go_enter Tryz.func253, Tryz.ntmps253
  go_wp2_with fail
  go_ret
  refine ⟨⟨w.heap.size, w.heap.size + 1 + 1, w.heap.size + 1, rfl, by omega, by omega, by omega, ((Has.new _ _ _).alloc _).alloc _, ?_, ?_⟩, below_alloc3 _ _ _ _⟩
  · have h := Has.new ((w.alloc (.cells #[.int .i64 a] 2)).alloc (.cells #[.int .i64 b] 2)) #[.int .i64 s] 2
    simpa using h
  · have h := (Has.new (w.alloc (.cells #[.int .i64 a] 2)) #[.int .i64 b] 2).alloc (.cells #[.int .i64 s] 2)
    simpa using h

/-- a loop's bounds: small, and how many turns it has -/
structure CB (a b s : Int) (N : Nat) : Prop where
  a1 : -100 ≤ a
  a2 : a ≤ 100
  b1 : -100 ≤ b
  b2 : b ≤ 100
  s1 : -100 ≤ s
  s2 : s ≤ 100
  s0 : s ≠ 0
  n : N ≤ 300
  up : 0 < s → (∀ k, k < N → a + k * s ≤ b) ∧ b < a + N * s
  dn : s < 0 → (∀ k, k < N → b ≤ a + k * s) ∧ a + N * s < b
set_option maxRecDepth 100000 in
set_option maxHeartbeats 8000000 in
theorem wt_in (l B1 B2 B3 : Nat) (a b s : Int) (N : Nat) (hc : CB a b s N) (X : RX) (d : MD) (J Jx : List (Fin N) → World → Prop) (w W : World) (hW : Below w.heap.size w W)
    (hY : ∀ (pre : List (Fin N)) (x : Fin N) (W1 : World), J pre W1 → pre.length < N → YieldAt Fence.wide 1 Tryz.prog l #[(inD (a + x.val * s)).v] W1 fun e W' =>
      (e = .returned (.bool true) ∧ J (pre ++ [x]) W' ∧ KR X d w.heap.size W1 W') ∨ (e = .returned (.bool false) ∧ Jx (pre ++ [x]) W'))
    (hA : AbidesFrom W.heap.size J)
    (h1 : Has w B1 #[.int .i64 a]) (h2 : Has w B2 #[.int .i64 s]) (h3 : Has w B3 #[.int .i64 b]) (n2 : ¬ stB X d B2) (n3 : ¬ stB X d B3) (h0 : J [] W) :
    CallsIn Fence.wide 2 Tryz.prog 303 #[.func (.yield l) #[] #[], ptr B1, ptr B2, ptr B3] W fun e W' => (∃ v, e = .returned v) ∧
      ((∃ ys, ys.map Fin.val = List.range N ∧ J ys W') ∨ (∃ pre, True ∧ Jx pre W')) := by
  have HY : Hid _ := hY
  have HA : Hid _ := hA
  have c1 := (hW.cell (p := ⟨B1, 0, none⟩) h1.1).trans (h1.2 0)
  have H2 : Hid (Has w B2 #[.int .i64 s]) := h2
  have H3 : Hid (Has w B3 #[.int .i64 b]) := h3
  clear hY hA h1 h2 h3
  refine callsIn_of_wp Tryz.func303 rfl trivial ?_ rfl
  simp only [Tryz.ntmps303, List.size_toArray, List.length_cons, List.length_nil, Nat.reduceAdd, Nat.reduceSub, Array.replicate_succ, Array.replicate_zero, List.push_toArray, List.append_toArray, List.nil_append, List.cons_append]
  gi_wp2
  gi_loopw [5] (fun i wr => ∃ (k : Nat) (pre : List (Fin N)), k ≤ N ∧ i = .int .i64 (a + k * s) ∧ Hid (pre.map Fin.val = List.range k) ∧ Hid (J pre wr) ∧ Hid (KR X d w.heap.size w wr))
    (fun i _ => if 0 < s then (b + 1 - intOf i).toNat else (intOf i + 1 - b).toNat)
  case atStart => exact ⟨0, [], Nat.zero_le _, by go_num, rfl, h0, KR.of hW⟩
  case round =>
    obtain ⟨k, pre, hk, rfl, HP, HJ, HK⟩ := hrel
    clear h0 c1
    have c2 : wr.cell? ⟨B2, 0, none⟩ = some (.int .i64 s) := (HK.out.has H2.out H2.out.1 n2).cell 0 rfl
    have c3 : wr.cell? ⟨B3, 0, none⟩ = some (.int .i64 b) := (HK.out.has H3.out H3.out.1 n3).cell 0 rfl
    have hpl : pre.length = k := by rw [← List.length_map (f := Fin.val), HP.out, List.length_range]
    obtain ⟨v, hv⟩ : ∃ v, a + k * s = v := ⟨_, rfl⟩
    have a1 := hc.a1; have a2 := hc.a2; have b1 := hc.b1; have b2 := hc.b2; have s1 := hc.s1; have s2 := hc.s2
    have hvs : a + ((k + 1 : Nat) : Int) * s = v + s := by rw [← hv, Int.natCast_add, Int.add_mul]; omega
    have HVS : Hid (a + ((k + 1 : Nat) : Int) * s = v + s) := hvs
    have HV : Hid (a + k * s = v) := hv
    have hlo : -100000 ≤ v ∧ v ≤ 100000 := by
      have hkn : k ≤ 300 := Nat.le_trans hk hc.n
      have h1 : (k : Int) * s ≤ 300 * 100 := by
        rcases Int.le_total 0 s with h | h
        · exact Int.mul_le_mul (by omega) s2 h (by omega)
        · have : (k : Int) * s ≤ 0 := Int.mul_nonpos_of_nonneg_of_nonpos (by omega) h
          omega
      have h2 : -(300 * 100) ≤ (k : Int) * s := by
        have h3 : (k : Int) * (-s) ≤ 300 * 100 := by
          rcases Int.le_total 0 (-s) with h | h
          · exact Int.mul_le_mul (by omega) (by omega) h (by omega)
          · have : (k : Int) * (-s) ≤ 0 := Int.mul_nonpos_of_nonneg_of_nonpos (by omega) h
            omega
        rw [Int.mul_neg] at h3
        omega
      omega
    rw [hv]
    clear hvs
    by_cases hkn : k < N
    · have HX : Hid ((pre ++ [(⟨k, hkn⟩ : Fin N)]).map Fin.val = List.range (k + 1)) := by show _ = _; rw [List.map_append, HP.out, List.range_succ]; rfl
      have hI : (inD v).v = vOf 2 v 0 ⟨#[]⟩ 0 := rfl
      rcases (show 0 < s ∨ s < 0 by have := hc.s0; omega) with hs | hs
      all_goals
        first
        | (have hle : v ≤ b := by rw [← hv]; exact (hc.up hs).1 k hkn)
        | (have hle : b ≤ v := by rw [← hv]; exact (hc.dn hs).1 k hkn)
        have hs' : ¬ (s = 0) := by omega
        first
        | (have hw : v < v + s := by omega)
        | (have hw : ¬ v < v + s := by omega)
        clear hv
        gi_wp2
        refine ⟨trivial, (callsIn_wide.2 (value_whole v _)).mono ?_⟩
        rintro e w1 ⟨rfl, hb1⟩
        have HJ1 : Hid (J pre w1) := HA.out pre wr w1 none HJ.out ⟨hb1.os, hb1.tape, hb1.output, hb1.size, fun k hk _ => hb1.block k hk⟩ (fun r e => nomatch e)
        have HK1 : Hid (KR X d w.heap.size w w1) := HK.out.trans ⟨hb1.size, fun i h1 _ => hb1.block i (Nat.lt_of_lt_of_le h1 HK.out.size)⟩
        obtain ⟨fn, tmps, assign, body, hy, hR⟩ := HY.out _ ⟨k, hkn⟩ _ HJ1.out (by omega)
        rw [show a + (((⟨k, hkn⟩ : Fin N).val : Nat) : Int) * s = v from HV.out] at hy
        clear c2 c3 HJ hb1
        gi_wp2
        refine hR.mono ?_
        rintro e W3 (⟨rfl, hJ3, hk3⟩ | ⟨rfl, hJx3⟩)
        · have HK3 : Hid (KR X d w.heap.size w W3) := HK1.out.trans hk3
          have c2 : W3.cell? ⟨B2, 0, none⟩ = some (.int .i64 s) := (HK3.out.has H2.out H2.out.1 n2).cell 0 rfl
          have HJ3 : Hid _ := hJ3
          clear hJ3 hk3 HK1 HJ1
          gi_wp2
          go_roundw
          case rel => exact ⟨k + 1, _, by omega, by rw [HVS.out], HX, HJ3, HK3⟩
          case measure =>
            simp only [intOf]
            first
            | (rw [if_pos hs, if_pos hs]; omega)
            | (rw [if_neg (by omega), if_neg (by omega)]; omega)
        · gi_wp2
          refine bodyPost_ret (results_none rfl _ _ _) rfl ?_
          exact ⟨⟨_, rfl⟩, .inr ⟨_, trivial, hJx3⟩⟩
    · obtain rfl : k = N := by omega
      rcases (show 0 < s ∨ s < 0 by have := hc.s0; omega) with hs | hs
      · have hle : ¬ v ≤ b := by have := (hc.up hs).2; omega
        have hs2 : ¬ s < 0 := by omega
        gi_wp2
        go_end0
        exact ⟨⟨_, rfl⟩, .inl ⟨_, HP.out, HJ.out⟩⟩
      · have hle : ¬ b ≤ v := by have := (hc.dn hs).2; omega
        have hs2 : ¬ 0 < s := by omega
        gi_wp2
        go_end0
        exact ⟨⟨_, rfl⟩, .inl ⟨_, HP.out, HJ.out⟩⟩
end Go.Proofs.YtdialodjllpgaaaGreatDoor

/-! The program's run: the bounds of a counted loop. -/
namespace Go.Proofs.YtdialodjllpgaaaGreatDoor
open Go.RowKit
attribute [local go_sem] run_store_float
attribute [local go_sem] ta_whole_whole ta_whole_float
attribute [local go_sem ↓] Go.wp_at_zero Go.wp_at_succ

set_option maxRecDepth 100000 in
set_option maxHeartbeats 4000000 in
theorem tw_calls (m n : Int) (w : World) : Calls Tryz.prog 252 #[.iface 249 (.int .i64 m), .iface 249 (.int .i64 n)] w fun e w' => e = .returned (.tuple #[.int .i64 m, .int .i64 n, .bool true]) ∧ w' = w := by
  go_enter Tryz.func252, Tryz.ntmps252
  go_wp2_with fail
  exact bodyPost_ret (v := .tuple #[.int .i64 m, .int .i64 n, .bool true]) (by simp [results, Tryz.results252, go_sem]) rfl ⟨rfl, rfl⟩
set_option maxRecDepth 100000 in
set_option maxHeartbeats 4000000 in
theorem fo_calls (n : Int) (w : World) : Calls Tryz.prog 251 #[.iface 249 (.int .i64 n)] w fun e w' => e = .returned (.tuple #[.float .f64 (floatOfInt .f64 n), .bool true]) ∧ w' = w := by
  go_enter Tryz.func251, Tryz.ntmps251
  go_wp2_with fail
  exact bodyPost_ret (v := .tuple #[.float .f64 (floatOfInt .f64 n), .bool true]) (by simp [results, Tryz.results251, go_sem]) rfl ⟨rfl, rfl⟩
theorem thI_calls (n : Int) (w : World) : Calls Tryz.prog 94 #[vOf 2 n 0 ⟨#[]⟩ 0] w fun e w' => e = .returned (.iface 249 (.int .i64 n)) ∧ Below w.heap.size w w' := by
  have h := th_calls 2 n 0 ⟨#[]⟩ 0 w
  rw [thW_int] at h
  exact h
/-- three whole numbers in a row -/
structure B3 (g : Nat) (a b s : Int) (w : World) : Prop where
  lt : g < w.heap.size
  a0 : w.cell? ⟨g, 0, none⟩ = some (.int .i64 2)
  a1 : w.cell? ⟨g, 1, none⟩ = some (.int .i64 a)
  a2 : w.cell? ⟨g, 2, none⟩ = some (.float .f64 0)
  a3 : w.cell? ⟨g, 3, none⟩ = some (.string ⟨#[]⟩)
  a4 : w.cell? ⟨g, 4, none⟩ = some (.int .i64 0)
  b0 : w.cell? ⟨g, 5, none⟩ = some (.int .i64 2)
  b1 : w.cell? ⟨g, 6, none⟩ = some (.int .i64 b)
  b2 : w.cell? ⟨g, 7, none⟩ = some (.float .f64 0)
  b3 : w.cell? ⟨g, 8, none⟩ = some (.string ⟨#[]⟩)
  b4 : w.cell? ⟨g, 9, none⟩ = some (.int .i64 0)
  s0 : w.cell? ⟨g, 10, none⟩ = some (.int .i64 2)
  s1 : w.cell? ⟨g, 11, none⟩ = some (.int .i64 s)
  s2 : w.cell? ⟨g, 12, none⟩ = some (.float .f64 0)
  s3 : w.cell? ⟨g, 13, none⟩ = some (.string ⟨#[]⟩)
  s4 : w.cell? ⟨g, 14, none⟩ = some (.int .i64 0)
theorem B3.c {g : Nat} {a b s : Int} {w : World} (h : B3 g a b s w) : w.cell? ⟨g, 0, none⟩ = some (.int .i64 2) ∧ w.cell? ⟨g, 1, none⟩ = some (.int .i64 a) ∧ w.cell? ⟨g, 2, none⟩ = some (.float .f64 0) ∧ w.cell? ⟨g, 3, none⟩ = some (.string ⟨#[]⟩) ∧ w.cell? ⟨g, 4, none⟩ = some (.int .i64 0) ∧ w.cell? ⟨g, 5, none⟩ = some (.int .i64 2) ∧ w.cell? ⟨g, 6, none⟩ = some (.int .i64 b) ∧ w.cell? ⟨g, 7, none⟩ = some (.float .f64 0) ∧ w.cell? ⟨g, 8, none⟩ = some (.string ⟨#[]⟩) ∧ w.cell? ⟨g, 9, none⟩ = some (.int .i64 0) ∧ w.cell? ⟨g, 10, none⟩ = some (.int .i64 2) ∧ w.cell? ⟨g, 11, none⟩ = some (.int .i64 s) ∧ w.cell? ⟨g, 12, none⟩ = some (.float .f64 0) ∧ w.cell? ⟨g, 13, none⟩ = some (.string ⟨#[]⟩) ∧ w.cell? ⟨g, 14, none⟩ = some (.int .i64 0) :=
  ⟨h.a0, h.a1, h.a2, h.a3, h.a4, h.b0, h.b1, h.b2, h.b3, h.b4, h.s0, h.s1, h.s2, h.s3, h.s4⟩
theorem B3.block {g : Nat} {a b s : Int} {w w' : World} (h : B3 g a b s w) (hs : w.heap.size ≤ w'.heap.size) (hk : w'.heap[g]? = w.heap[g]?) : B3 g a b s w' := by
  have k : ∀ o, w'.cell? ⟨g, o, none⟩ = w.cell? ⟨g, o, none⟩ := fun o => World.cell?_of_block (a := ⟨g, o, none⟩) hk
  exact ⟨Nat.lt_of_lt_of_le h.lt hs, (k _).trans h.a0, (k _).trans h.a1, (k _).trans h.a2, (k _).trans h.a3, (k _).trans h.a4, (k _).trans h.b0, (k _).trans h.b1, (k _).trans h.b2, (k _).trans h.b3, (k _).trans h.b4, (k _).trans h.s0, (k _).trans h.s1, (k _).trans h.s2, (k _).trans h.s3, (k _).trans h.s4⟩
theorem B3.call {g : Nat} {a b s : Int} {w w' : World} (h : B3 g a b s w) (hb : Below w.heap.size w w') : B3 g a b s w' := h.block hb.size (hb.block g h.lt)
theorem B3.drew {g : Nat} {a b s : Int} {w : World} (h : B3 g a b s w) : B3 g a b s w.drew := h.call (Below.refl _ _).drew
/-- the floats of small whole numbers -/
theorem fl_small : ∀ k : Fin 41, (FloatKind.f64.format.order (floatOfInt .f64 ((k.val : Int) - 20)) 0 == some .eq) = ((k.val : Int) - 20 == 0) ∧ FloatKind.f64.format.order (floatOfInt .f64 ((k.val : Int) - 20)) (floatOfInt .f64 ((k.val : Int) - 20)) = some .eq := by decide
theorem fl_s {s : Int} (h1 : -20 ≤ s) (h2 : s ≤ 20) : (FloatKind.f64.format.order (floatOfInt .f64 s) 0 == some .eq) = (s == 0) ∧ FloatKind.f64.format.order (floatOfInt .f64 s) (floatOfInt .f64 s) = some .eq := by
  have h := fl_small ⟨(s + 20).toNat, by omega⟩
  have e : (((s + 20).toNat : Nat) : Int) - 20 = s := by omega
  simpa only [e] using h

set_option maxRecDepth 100000 in
set_option maxHeartbeats 8000000 in
theorem turns_calls (m : Value) (g c : Nat) (a b s : Int) (w : World) (h : B3 g a b s w) (hs1 : -20 ≤ s) (hs2 : s ≤ 20) (hs : s ≠ 0) :
    Calls Tryz.prog 206 #[m, .slice (some ⟨g, 0, none⟩) 3 c] w fun e w' => (∃ B1 B2 B3, e = .returned (wtV B1 B2 B3) ∧ w.heap.size ≤ B1 ∧ w.heap.size ≤ B2 ∧ w.heap.size ≤ B3 ∧ Has w' B1 #[.int .i64 a] ∧ Has w' B2 #[.int .i64 s] ∧ Has w' B3 #[.int .i64 b]) ∧ Below w.heap.size w w' := by
  have HB : Hid (B3 g a b s w) := h
  have HW : Hid (Below w.heap.size w w) := Below.refl _ _
  have hfl := fl_s hs1 hs2
  have hf1 : (FloatKind.f64.format.order (floatOfInt .f64 s) 0 == some .eq) = false := by rw [hfl.1]; simpa using hs
  have hf2 := hfl.2
  clear h hfl
  go_enter Tryz.func206, Tryz.ntmps206
  go_upto_region 1 with fail
  go_region_held3 (fun w' => w'.cell? ⟨g, 0, none⟩ = some (.int .i64 2) ∧ w'.cell? ⟨g, 1, none⟩ = some (.int .i64 a) ∧ w'.cell? ⟨g, 2, none⟩ = some (.float .f64 0) ∧ w'.cell? ⟨g, 3, none⟩ = some (.string ⟨#[]⟩) ∧ w'.cell? ⟨g, 4, none⟩ = some (.int .i64 0) ∧ w'.cell? ⟨g, 5, none⟩ = some (.int .i64 2) ∧ w'.cell? ⟨g, 6, none⟩ = some (.int .i64 b) ∧ w'.cell? ⟨g, 7, none⟩ = some (.float .f64 0) ∧ w'.cell? ⟨g, 8, none⟩ = some (.string ⟨#[]⟩) ∧ w'.cell? ⟨g, 9, none⟩ = some (.int .i64 0) ∧ w'.cell? ⟨g, 10, none⟩ = some (.int .i64 2) ∧ w'.cell? ⟨g, 11, none⟩ = some (.int .i64 s) ∧ w'.cell? ⟨g, 12, none⟩ = some (.float .f64 0) ∧ w'.cell? ⟨g, 13, none⟩ = some (.string ⟨#[]⟩) ∧ w'.cell? ⟨g, 14, none⟩ = some (.int .i64 0)) (first | (with_reducible exact HB.out.c) | (with_reducible exact HB.out.drew.c)) ((go_at_call 94; refine (thI_calls _ _).mono ?_; rintro e w1 ⟨rfl, hb1⟩; replace HB : Hid (B3 g a b s w1) := (by first | exact HB.out.call hb1 | exact HB.out.drew.call hb1); replace HW : Hid (Below w.heap.size w w1) := (by first | exact below_call HW.out hb1 | exact below_call HW.out.drew hb1); clear hb1))
  go_wp2_with fail
  refine (fo_calls a _).mono ?_
  rintro e w2 ⟨rfl, rfl⟩
  go_wp2_with fail
  refine (fo_calls b _).mono ?_
  rintro e w3 ⟨rfl, rfl⟩
  go_wp2_with fail
  refine (fo_calls s _).mono ?_
  rintro e w4 ⟨rfl, rfl⟩
  generalize floatOfInt .f64 a = fa at *
  generalize floatOfInt .f64 b = fb at *
  generalize floatOfInt .f64 s = fs at *
  go_wp2_with fail
  refine (tw_calls a b _).mono ?_
  rintro e w5 ⟨rfl, rfl⟩
  go_wp2_with fail
  refine (tw_calls s s _).mono ?_
  rintro e w6 ⟨rfl, rfl⟩
  go_wp2_with fail
  refine (wholeTurns_calls a b s _).mono ?_
  rintro e w7 ⟨⟨B1, B2, B3, rfl, h1, h2, h3, k1, k2, k3⟩, hb7⟩
  have HF : Hid (Below w.heap.size w w7 ∧ w.heap.size ≤ w6.heap.size) := ⟨below_call HW.out hb7, HW.out.size⟩
  have HK : Hid (Has w7 B1 #[.int .i64 a] ∧ Has w7 B2 #[.int .i64 s] ∧ Has w7 B3 #[.int .i64 b]) := ⟨k1, k2, k3⟩
  clear hb7 k1 k2 k3
  go_wp2_with fail
  go_ret
  exact ⟨⟨B1, B2, B3, rfl, Nat.le_trans HF.out.2 h1, Nat.le_trans HF.out.2 h2, Nat.le_trans HF.out.2 h3, HK.out⟩, HF.out.1⟩
end Go.Proofs.YtdialodjllpgaaaGreatDoor

/-! The program's run: a counted loop. -/
namespace Go.Proofs.YtdialodjllpgaaaGreatDoor
open Go.RowKit Go.Shelf
attribute [local go_sem] run_store_float
attribute [local go_sem] Oper.semAt_some
attribute [local go_sem ↓] Go.wp_at_zero Go.wp_at_succ

/-- where the closures of a counted loop lie -/
structure LX where
  c1 : Nat
  c2 : Nat
  c3 : Nat
  c4 : Nat
  o3 : Nat
  oa : Option Addr
  oc : Nat
  Bs : Nat → Nat
  nA : Array Value
  rb : Nat
  ro : Nat
  rc : Nat
def v3 (a b s : Int) (i : Nat) : VD := if i = 0 then inD a else if i = 1 then inD b else inD s
structure LX.ok (L : LX) (X : RX) (P : PX) (a b s : Int) : Prop where
  c1 : Od X L.c1 #[ptr X.M]
  c2 : Od X L.c2 #[onesV L.o3]
  o3 : Od X L.o3 #[.slice L.oa 3 L.oc]
  li : LitsAt X L.oa 3 L.Bs (v3 a b s)
  c3 : Od X L.c3 L.nA
  rf : L.nA[6]? = some (.slice (some ⟨L.rb, L.ro, none⟩) 1 L.rc)
  rr : RowN 1 0 X.W (some ⟨L.rb, L.ro, none⟩) 1 fun _ => #[.int .i64 0]
  rm : L.rb ≠ X.M
  c4 : Od X L.c4 #[bkV P.k1]
/-- what a loop has shown behind some turns -/
def loopP (p : DP) (L a s : Int) : Nat → DP
  | 0 => p
  | k + 1 => (loopP p L a s k).tick.shown L (a + k * s)
/-- ahead of the first turn -/
structure Rd (X : RX) (d : MD) (u : World) (E : Nat) (a b s : Int) (d2 : MD) (B1 B2 B3 : Nat) (w3 : World) : Prop where
  sp : Sp X d u d2 w3
  e : d2.p = d.p
  fb : Bx X d2 w3 E #[ptr X.F]
  rb : BxO X d2 w3 (E + 1) #[.nilIface]
  n2 : ¬ stB X d2 B2
  n3 : ¬ stB X d2 B3
  q1 : Has w3 B1 #[.int .i64 a]
  q2 : Has w3 B2 #[.int .i64 s]
  q3 : Has w3 B3 #[.int .i64 b]
/-- the same, over a row of turns -/
def lpL {N : Nat} (p : DP) (L a s : Int) (l : List (Fin N)) : DP := l.foldl (fun q x => q.tick.shown L (a + x.val * s)) p
theorem lpL_add {N : Nat} (p : DP) (L a s : Int) (l : List (Fin N)) (x : Fin N) : lpL p L a s (l ++ [x]) = (lpL p L a s l).tick.shown L (a + x.val * s) := by simp [lpL]
theorem lpL_range {N : Nat} (p : DP) (L a s : Int) : ∀ (n : Nat) (l : List (Fin N)), l.map Fin.val = List.range n → lpL p L a s l = loopP p L a s n
  | 0, l, h => by
    have : l = [] := by simpa using h
    subst this; rfl
  | n + 1, l, h => by
    rw [List.range_succ] at h
    obtain ⟨l1, l2, rfl, h1, h2⟩ := List.map_eq_append_iff.1 h
    obtain ⟨x, rfl, hx⟩ : ∃ x, l2 = [x] ∧ x.val = n := by
      cases l2 with
      | nil => simp at h2
      | cons x l3 =>
        have h3 : l3 = [] := by simpa using (List.cons.inj h2).2
        subst h3
        exact ⟨x, rfl, (List.cons.inj h2).1⟩
    rw [lpL_add, lpL_range p L a s n l1 h1, hx]
    rfl
theorem shown_len (p : DP) (L n : Int) : (p.tick.shown L n).recs.length = p.recs.length + 2 ∧ (p.tick.shown L n).ti = p.ti + 3 ∧ (p.tick.shown L n).held = p.held ∧ (p.tick.shown L n).sc = p.sc := by
  simp [DP.shown, DP.tick, DP.rcd, DP.ln]
theorem lpL_size {N : Nat} (p : DP) (L a s : Int) : ∀ (l : List (Fin N)) , (lpL p L a s l).recs.length = p.recs.length + 2 * l.length ∧ (lpL p L a s l).ti = p.ti + 3 * l.length ∧ (lpL p L a s l).held = p.held ∧ (lpL p L a s l).sc = p.sc := by
  intro l
  induction l generalizing p with
  | nil => simp [lpL]
  | cons x l ih =>
    have h1 := ih (p.tick.shown L (a + x.val * s))
    have h2 := shown_len p L (a + x.val * s)
    have e : lpL p L a s (x :: l) = lpL (p.tick.shown L (a + x.val * s)) L a s l := rfl
    rw [e]
    refine ⟨by rw [h1.1, h2.1, List.length_cons]; omega, by rw [h1.2.1, h2.2.1, List.length_cons]; omega, h1.2.2.1.trans h2.2.2.1, h1.2.2.2.trans h2.2.2.2⟩
theorem shown_var (p : DP) (z : Value) (L n : Int) : ((p.var z).tick).shown L n = (p.tick.shown L n).var z := rfl
theorem CB.rng {a b s : Int} {N : Nat} (hc : CB a b s N) {k : Nat} (hk : k ≤ N) : -100000 ≤ a + k * s ∧ a + k * s ≤ 100000 := by
  have a1 := hc.a1; have a2 := hc.a2; have s1 := hc.s1; have s2 := hc.s2
  have hkn : k ≤ 300 := Nat.le_trans hk hc.n
  have h1 : (k : Int) * s ≤ 300 * 100 := by
    rcases Int.le_total 0 s with h | h
    · exact Int.mul_le_mul (by omega) s2 h (by omega)
    · have : (k : Int) * s ≤ 0 := Int.mul_nonpos_of_nonneg_of_nonpos (by omega) h
      omega
  have h2 : -(300 * 100) ≤ (k : Int) * s := by
    have h3 : (k : Int) * (-s) ≤ 300 * 100 := by
      rcases Int.le_total 0 (-s) with h | h
      · exact Int.mul_le_mul (by omega) (by omega) h (by omega)
      · have : (k : Int) * (-s) ≤ 0 := Int.mul_nonpos_of_nonneg_of_nonpos (by omega) h
        omega
    rw [Int.mul_neg] at h3
    omega
  omega
theorem Bx.bc {X : RX} {d : MD} {u : World} {g : Nat} {v : VD} (h : Bx X d u g (vA v)) : Bc X d u g v := ⟨⟨h.1.1, fun j x e => (h.1.2 j).trans (by rw [← Array.getElem?_toList]; simpa [v5] using e)⟩, h.2⟩
theorem St.uniq {X : RX} {d d' : MD} {u : World} (h : St X d u) (h' : St X d' u) {k : Nat} (e : stB X d k) : stB X d' k := by
  have e1 : (mA X d)[9]? = (mA X d')[9]? := by rw [← h.m.1.2 9, ← h'.m.1.2 9]
  have e2 : (tA X d)[8]? = (tA X d')[8]? := by rw [← h.t.1.2 8, ← h'.t.1.2 8]
  have e3 : (fA X d)[10]? = (fA X d')[10]? := by rw [← h.f.1.2 10, ← h'.f.1.2 10]
  have k1 : d.ra = d'.ra := by simpa using (Value.slice.inj (Option.some.inj e1)).1
  have k2 : d.ha = d'.ha := by simpa using (Value.slice.inj (Option.some.inj e2)).1
  have k3 : d.sa = d'.sa := by simpa using (Value.slice.inj (Option.some.inj e3)).1
  unfold stB at e ⊢
  rw [← k1, ← k2, ← k3]
  exact e
theorem LX.ok.ref {L : LX} {X : RX} {P : PX} {a b s : Int} (h : L.ok X P a b s) {d : MD} {u : World} (hs : St X d u) : u.cell? ⟨L.rb, L.ro, none⟩ = some (.int .i64 0) := by
  have h1 := hs.oldRow h.rr (fun b e => by cases e; exact h.rm)
  obtain ⟨b, off, e, _, _, h2⟩ := h1 (by omega)
  cases e
  exact h2 0 (by omega) 0 (by omega)
theorem b3_of {N : Nat} {w : World} {g c : Nat} {a b s : Int} (h : w.ownsRow N 56 5 (.slice (some ⟨g, 0, none⟩) 3 c) 3 (hL (vl (v3 a b s) 3))) : B3 g a b s w := by
  have k : ∀ j v, (hL (vl (v3 a b s) 3))[j]? = some v → w.cell? ⟨g, j, none⟩ = some v := fun j v e => by
    have := h.cells (g := g) rfl j v e
    cases j <;> simpa [Addr.add] using this
  exact ⟨(own_ge h (k := g) rfl).2, k 0 _ rfl, k 1 _ rfl, k 2 _ rfl, k 3 _ rfl, k 4 _ rfl, k 5 _ rfl, k 6 _ rfl, k 7 _ rfl, k 8 _ rfl, k 9 _ rfl, k 10 _ rfl, k 11 _ rfl, k 12 _ rfl, k 13 _ rfl, k 14 _ rfl⟩

set_option maxRecDepth 100000 in
set_option maxHeartbeats 8000000 in
theorem count_calls (X : RX) (P : PX) (L : LX) (a b s : Int) (N : Nat) (d : MD) (u : World) (h : St X d u) (hT : TabX X) (hP : P.ok X) (hL : L.ok X P a b s) (hc : CB a b s N) (hs1 : -20 ≤ s) (hs2 : s ≤ 20) (hN : N ≤ 100) (hlen : d.held.length ≤ 900) (hl : d.recs.length ≤ 100) (ht : d.ti ≤ 100) (hsc : d.sc.length ≤ 100) :
    Calls Tryz.prog 205 #[ptr X.F, ptr L.c1, ptr L.c2, ptr L.c3, ptr L.c4] u fun e w' => e = .returned .nilIface ∧ TurnTo X d u (loopP d.p P.line a s N) w' := by
  have HS : Hid (St X d u) := h
  have HT : Hid (TabX X) := hT
  have HP : Hid (P.ok X) := hP
  have HL : Hid (L.ok X P a b s) := hL
  clear h hT hP hL
  refine callsIn_wide.1 (callsIn_of_wp_marks (F := Fence.wide) (n := 3) Tryz.func205 rfl trivial ?_ rfl)
  simp only [Tryz.ntmps205, List.size_toArray, List.length_cons, List.length_nil, Nat.reduceAdd, Nat.reduceSub, Array.replicate_succ, Array.replicate_zero, List.push_toArray, List.append_toArray, List.nil_append, List.cons_append]
  refine wpIn_wide.2 ?_
  go_upto_region 1 with fail
  obtain ⟨w1, hw1⟩ : ∃ w1, (u.alloc (.cells #[ptr X.F] 124)).alloc (.cells #[.nilIface] 127) = w1 := ⟨_, rfl⟩
  obtain ⟨E, hE⟩ : ∃ E, u.heap.size = E := ⟨_, rfl⟩
  have H1 : Hid (Sp X d u d w1) := by rw [← hw1]; exact ((Sp.refl HS.out).alloc _).alloc _
  have HFb : Hid (Bx X d w1 E #[ptr X.F]) := by rw [← hw1, ← hE]; exact (Bx.new HS.out _ _).alloc _
  have HRb : Hid (BxO X d w1 (E + 1) #[.nilIface]) := by
    have h2 := BxO.new (HS.out.alloc (.cells #[ptr X.F] 124)) #[.nilIface] 127
    rw [← hw1, ← hE]
    rw [World.size_alloc] at h2
    exact h2
  have HE : Hid (u.heap.size = E) := hE
  rw [hw1, hE]
  clear hw1 hE
  have k1 := (HL.out.c1.at H1.out.s).cell 0 rfl
  have k2 := (HL.out.c2.at H1.out.s).cell 0 rfl
  have k5 := HFb.out.cell 0 rfl
  have HS1 : Hid (St X d w1.drew) := H1.out.s.drew
  go_cut [14] from 10 to 14 (fun v wc => ∃ d2 B1 B2 B3, v = wtV B1 B2 B3 ∧ Hid (Rd X d u E a b s d2 B1 B2 B3 wc))
  case first =>
    go_region_with (first
      | (go_at_call 249; refine (ones_calls X d L.o3 L.oa 3 L.oc L.Bs (v3 a b s) _ HS1.out HL.out.o3.1 HL.out.o3.2 HL.out.li (by omega) (by omega) (by omega)).mono ?_; rintro e w2 ⟨g2, c2, rfl, ho2, d2, hs2, e2, hg2⟩; have H2 : Hid (Sp X d u d2 w2 ∧ d2.p = d.p) := ⟨H1.out.drew.trans hs2, e2⟩; have HF2 : Hid (Bx X d2 w2 E #[ptr X.F]) := HFb.out.step ((Sp.refl H1.out.s).drew.trans hs2); have HR2 : Hid (BxO X d2 w2 (E + 1) #[.nilIface]) := HRb.out.step ((Sp.refl H1.out.s).drew.trans hs2); have HB2 : Hid (B3 g2 a b s w2) := b3_of ho2; clear ho2 hs2 e2 hg2; have j1 := (HL.out.c1.at H2.out.1.s).cell 0 rfl)
      | (go_at_call 206; refine (turns_calls _ g2 c2 a b s _ HB2.out hs1 hs2 hc.s0).mono ?_; rintro e w3 ⟨⟨B1, B2, B3, rfl, g1, g3, g4, q1, q2, q3⟩, hb3⟩))
    all_goals
      have HF : Hid (Rd X d u E a b s d2 B1 B2 B3 w3) := ⟨H2.out.1.call hb3, H2.out.2, HF2.out.step (Sp.below H2.out.1.s hb3), HR2.out.step (Sp.below H2.out.1.s hb3), H2.out.1.s.other g3, H2.out.1.s.other g4, q1, q2, q3⟩
      clear hb3 g1 g3 g4 q1 q2 q3 H2 HF2 HR2 HB2 H1 HFb HRb HS1 k1 k2 k5
      go_wp2_with fail
      go_meet
      exact ⟨d2, B1, B2, B3, rfl, HF⟩
  case rest =>
    obtain ⟨d2, B1, B2, B3, rfl, HR⟩ := hcut
    clear H1 HFb HRb HS1 k1 k2 k5
    go_wp2_with fail
    refine (wpIn_wide (n := 3)).1 ?_
    have HS2 : Hid (St X d2 wc) := HR.out.sp.s
    have hmb : ∀ {W W' : World} {row : Option Nat} {B : Nat} {A : Array Value}, Has W B A → 0 < A.size → W.grownBy W' row → (∀ r, row = some r → wc.heap.size ≤ r ∧ ∃ o : Obj, W.heap[r]? = some o ∧ o.isCells = false) → Has W' B A := fun hh hA hg hr => by
      obtain ⟨o, ho, hcs⟩ := cells_of_cell (a := ⟨_, 0, none⟩) ((hh.2 0).trans (Array.getElem?_eq_getElem hA))
      exact ⟨Nat.lt_of_lt_of_le hh.1 hg.size, fun j => (World.cell?_of_block (a := ⟨_, j, none⟩) (grownBy_keeps_cells hg (fun r e => (hr r e).2) ho hcs)).trans (hh.2 j)⟩
    refine wpIn_rangeFunc_ownH (F := Fence.wide) rfl (by omega) (gf := 303) (lb := #[ptr B1, ptr B2, ptr B3]) rfl trivial (enters_of Tryz.func303 (by kernel_rfl) rfl)
      (encs := fun x : Fin N => #[(inD (a + x.val * s)).v]) (Kp := KR X d2 wc.heap.size) (S := fun ys => ys.map Fin.val = List.range N) (Sp := fun _ => True) (N := N) (w0 := wc)
      (fun l J Jx W hW hA _ hY h0 => wt_in l B1 B2 B3 a b s N hc X d2 J Jx wc W hW hY hA HR.out.q1 HR.out.q2 HR.out.q3 HR.out.n2 HR.out.n3 h0)
      KR.trans (fun W l o o' hl _ _ _ => ⟨by simp, fun k hk _ => World.putObj_heap_other (fun e => by omega)⟩) (Below.refl _ _) (fun _ => rfl)
      (fun pre W => ∃ z d3, Sp X d2 wc d3 W ∧ d3.p = (lpL d.p P.line a s pre).var z)
      (fun _ _ _ => False)
      (fun pre W W' row ⟨z, d3, hs, e⟩ hg hr => ⟨z, d3, Sp.abide HS2.out hs hg hr (Nat.le_refl _), e⟩)
      (fun c s W W' row hs hg hr => hs)
      ⟨d.p.vp, d2, Sp.refl HS2.out, HR.out.e⟩
      (fun x a' W => ∃ Vb d3, Sp X d2 wc d3 W ∧ Bx X d3 W Vb (vA (inD (a + x.val * s))) ∧ a' = { tmps := #[ptr X.F, ptr L.c1, ptr L.c2, ptr L.c3, ptr L.c4, .pointer (some ⟨E, 0, none⟩), .pointer (some ⟨E + 1, 0, none⟩), ptr Vb, undef, undef, u10, u11, u12, u13, wtV B1 B2 B3, (inD (a + x.val * s)).v, undef, undef, undef, undef, undef, undef, undef, undef, undef, undef, undef, undef, undef, undef, undef], defers := [] })
      (fun x a' _ W W' row hs hg hr => by
        obtain ⟨Vb, d3, h1, h2, h3⟩ := hs
        exact ⟨Vb, d3, Sp.abide HS2.out h1 hg hr (Nat.le_refl _), ⟨hmb h2.1 (by show 0 < 5; omega) hg hr, h2.2⟩, h3⟩)
      ?assign ?body ?done ?stop
    case assign =>
      rintro l pre x W K ⟨z, d3, hs3, e3⟩ hK
      gi_wp2
      exact hK _ _ ((KeepsOthers.alloc _ _).from _) ⟨by simp, fun k hk _ => Below.heap_alloc W _ k (Nat.lt_of_lt_of_le hk hs3.g.size)⟩ ⟨z, d3, hs3.alloc _, e3⟩ ⟨W.heap.size, d3, hs3.alloc _, Bx.new hs3.s _ _, rfl⟩
    case body =>
      rintro l pre x a' W hl hlr ⟨z, d3, hs3, e3⟩ ⟨Vb, d3', hs3', hbx', rfl⟩ hlt
      have HB3 : Hid (Bx X d3 W Vb (vA (inD (a + x.val * s)))) := ⟨hbx'.1, fun e => hbx'.2 (hs3.s.uniq hs3'.s e)⟩
      have H3 : Hid (Sp X d2 wc d3 W ∧ d3.p = (lpL d.p P.line a s pre).var z) := ⟨hs3, e3⟩
      have hsz := lpL_size d.p P.line a s pre
      have hti : d3.ti ≤ 100 + 300 := by
        have h1 : d3.ti = (lpL d.p P.line a s pre).ti := congrArg DP.ti e3
        have h2 : d.p.ti = d.ti := rfl
        omega
      have hrc : d3.recs.length ≤ 100 + 200 := by
        have h1 : d3.recs = (lpL d.p P.line a s pre).recs := congrArg DP.recs e3
        have h2 : d.p.recs = d.recs := rfl
        rw [h1, hsz.1, h2]; omega
      have hhe : d3.held.length ≤ 900 := by
        have h1 : d3.held = (lpL d.p P.line a s pre).held := congrArg DP.held e3
        have h2 : d.p.held = d.held := rfl
        rw [h1, hsz.2.2.1, h2]; exact hlen
      have hss : d3.sc.length ≤ 100 := by
        have h1 : d3.sc = (lpL d.p P.line a s pre).sc := congrArg DP.sc e3
        have h2 : d.p.sc = d.sc := rfl
        rw [h1, hsz.2.2.2, h2]; exact hsc
      clear hs3 e3 hs3' hbx' hsz
      have hn : I64r (a + x.val * s) := by have := hc.rng (k := x.val) (by have := x.isLt; omega); unfold I64r; omega
      have HE2 : Hid (lpL d.p P.line a s (pre ++ [x]) = (lpL d.p P.line a s pre).tick.shown P.line (a + x.val * s)) := lpL_add d.p P.line a s pre x
      generalize a + (x.val : Int) * s = n at *
      have k1 := (HL.out.c1.at H3.out.1.s).cell 0 rfl
      gi_wp2
      refine ⟨trivial, (CallsIn.inRound l (callsIn_wide.2 (tick_calls X d3 _ H3.out.1.s (by omega)))).mono ?_⟩
      rintro e W1 ⟨rfl, d4, hs4, e4⟩
      have H4 : Hid (Sp X d3 W d4 W1 ∧ d4.p = ((lpL d.p P.line a s pre).var z).tick) := ⟨hs4, by rw [e4, H3.out.2]⟩
      have HB4 : Hid (Bx X d4 W1 Vb (vA (inD n))) := HB3.out.step hs4
      have HFb : Hid (Bx X d4 W1 E #[ptr X.F]) := (HR.out.fb.step H3.out.1).step hs4
      clear hs4 e4 HB3 k1
      have k5 := HFb.out.cell 0 rfl
      have n6 := (HL.out.c3.at H4.out.1.s).cell 6 HL.out.rf
      have c4 := (HL.out.c4.at H4.out.1.s).cell 0 rfl
      have v0 := HB4.out.cell 0 rfl
      have v1 := HB4.out.cell 1 rfl
      have v2 := HB4.out.cell 2 rfl
      have v3 := HB4.out.cell 3 rfl
      have v4 := HB4.out.cell 4 rfl
      have l4 := (HL.out.c4.at H4.out.1.s).1
      gi_wp2
      have hti4 : d4.ti ≤ 100 + 301 := by
        have h1 : d4.ti = (lpL d.p P.line a s pre).ti + 1 := congrArg DP.ti H4.out.2
        have h2 : d3.ti = (lpL d.p P.line a s pre).ti := congrArg DP.ti H3.out.2
        omega
      have hrc4 : d4.recs.length ≤ 300 := by
        have h1 : d4.recs = (lpL d.p P.line a s pre).recs := congrArg DP.recs H4.out.2
        have h2 : d3.recs = (lpL d.p P.line a s pre).recs := congrArg DP.recs H3.out.2
        rw [h1, ← h2]; exact hrc
      have hhe4 : d4.held.length ≤ 900 := by
        have h1 : d4.held = (lpL d.p P.line a s pre).held := congrArg DP.held H4.out.2
        have h2 : d3.held = (lpL d.p P.line a s pre).held := congrArg DP.held H3.out.2
        rw [h1, ← h2]; exact hhe
      have hss4 : d4.sc.length ≤ 100 := by
        have h1 : d4.sc = (lpL d.p P.line a s pre).sc := congrArg DP.sc H4.out.2
        have h2 : d3.sc = (lpL d.p P.line a s pre).sc := congrArg DP.sc H3.out.2
        rw [h1, ← h2]; exact hss
      refine ⟨trivial, (CallsIn.inRound l (callsIn_wide.2 (inside_calls X P d4 L.rb L.ro L.rc _ 1 n _ (H4.out.1.s.alloc _) HT.out HP.out (HL.out.ref (H4.out.1.s.alloc _)) (Bx.bc (Bx.new H4.out.1.s (vA (inD n)) 56)) hhe4 hn (by omega) (by omega) (by omega)))).mono ?_⟩
      rintro e W2 ⟨rfl, z5, d5, hs5, e5⟩
      have H5 : Hid (Sp X d3 W d5 W2 ∧ d5.p = ((((lpL d.p P.line a s pre).var z).tick).shown P.line n).var z5) := ⟨(H4.out.1.alloc _).trans hs5, by rw [e5, H4.out.2]⟩
      clear hs5 e5 H4 HB4 HFb k5 n6 c4 v0 v1 v2 v3 v4 l4
      gi_wp2
      refine ⟨trivial, (CallsIn.inRound l (callsIn_wide.2 (turnedNil_calls _))).mono ?_⟩
      rintro e W3 ⟨rfl, hb3⟩
      have H6 : Hid (Sp X d3 W d5 W3) := H5.out.1.call hb3
      clear hb3
      gi_wp2
      refine ⟨(Sp.keeps H3.out.1.s H6.out).from _, KR.step H3.out.1 H6.out, z5, d5, H3.out.1.trans H6.out, ?_⟩
      rw [H5.out.2, HE2.out, shown_var]
      rfl
    case done =>
      rintro D ys W hD hS ⟨z, d3, hs3, e3⟩ hK
      rw [lpL_range d.p P.line a s N ys hS] at e3
      have H3 : Hid (Sp X d2 wc d3 W ∧ d3.p = (loopP d.p P.line a s N).var z) := ⟨hs3, e3⟩
      have HRb : Hid (BxO X d3 W (E + 1) #[.nilIface]) := HR.out.rb.step hs3
      have r0 := HRb.out.1.1.cell 0 rfl
      have rz := HRb.out.1.2
      clear hs3 e3 hS
      have hlt : E + 1 < wc.heap.size := HR.out.rb.1.1.1
      have HF : Hid (TurnTo X d u (loopP d.p P.line a s N) ((W.setCell ⟨E + 1, 0, none⟩ .nilIface).putObj D (.deferred none))) := by
        have h1 : Sp X d u d3 W := HR.out.sp.trans H3.out.1
        have h2 : Sp X d u d3 (W.setCell ⟨E + 1, 0, none⟩ .nilIface) := Sp.beside HS.out h1 (Gx.set _ _ _ _) (by have := HE.out; omega) HRb.out.2
        have hD2 : (W.setCell ⟨E + 1, 0, none⟩ .nilIface).heap[D]? = some (.deferred (some [])) := (Below.heap_setCell W ⟨E + 1, 0, none⟩ _ D (by show D ≠ E + 1; omega)).trans hK
        exact ⟨z, d3, Sp.abide HS.out h2 (grownBy_putObj' _ D _) (fun r e => by cases e; exact ⟨Nat.le_refl _, _, hD2, rfl⟩) (by have := HE.out; omega), H3.out.2⟩
      have hK2 : (W.setCell ⟨E + 1, 0, none⟩ .nilIface).heap[D]? = some (.deferred (some [])) := (Below.heap_setCell W ⟨E + 1, 0, none⟩ _ D (by show D ≠ E + 1; omega)).trans hK
      have r1 : ((W.setCell ⟨E + 1, 0, none⟩ .nilIface).putObj D (.deferred none)).cell? ⟨E + 1, 0, none⟩ = some .nilIface := by
        rw [World.cell?_of_block (w := W.setCell ⟨E + 1, 0, none⟩ .nilIface) (a := ⟨E + 1, 0, none⟩) (World.putObj_heap_other (by show E + 1 ≠ D; omega))]
        simp [go_sem, r0]
      go_wp2_with fail
      refine ⟨by simp, .inl ⟨_, _, rfl, run_takeDeferred hK2, ?_⟩⟩
      refine ⟨.nilIface, ?_, rfl, HF.out⟩
      simp [results, Tryz.results205, go_sem, r1]
    case stop =>
      rintro D c pre W hD _ h hK
      exact h.elim
end Go.Proofs.YtdialodjllpgaaaGreatDoor

/-! The program's run: the statement that is a counted loop; the text's body. -/
namespace Go.Proofs.YtdialodjllpgaaaGreatDoor
open Go.RowKit
attribute [local go_sem] run_store_float
attribute [local go_sem ↓] Go.wp_at_zero Go.wp_at_succ

abbrev cntV (a b c d : Nat) : Value := .func (.func 205) #[] #[ptr a, ptr b, ptr c, ptr d]
/-- where the closures of a text that is one counted loop lie -/
structure MX where
  s1 : Nat
  s2 : Nat
  s3 : Nat
  nA : Array Value
  line : Int
  k1 : Nat
  ka : Nat
  kc : Nat
  bo : Nat
  bc : Nat
structure MX.ok (Z : MX) (X : RX) (P : PX) (L : LX) : Prop where
  s1 : Od X Z.s1 #[ptr P.bb]
  s2 : Od X Z.s2 Z.nA
  ln : Z.nA[1]? = some (.int .i64 Z.line)
  s3 : Od X Z.s3 #[cntV L.c1 L.c2 L.c3 L.c4]
  k1 : Od X Z.k1 #[.slice (some ⟨Z.ka, 0, none⟩) 1 Z.kc]
  ka : Oc X Z.ka (stV Z.s1 Z.s2 Z.s3)
  bo : X.bod = .slice (some ⟨Z.bo, 0, none⟩) 1 Z.bc
  b0 : Oc X Z.bo (bkV Z.k1)
/-- what the text shows -/
def DP.all (p : DP) (L0 L a s : Int) (N : Nat) : DP := (loopP ((p.tick.ln L0).rcd ⟨1, 0, 0, L0, ⟨#[]⟩⟩) L a s N).ln p.line
set_option maxRecDepth 100000 in
set_option maxHeartbeats 8000000 in
theorem fstmt_calls (X : RX) (P : PX) (L : LX) (Z : MX) (a b s : Int) (N : Nat) (d : MD) (u : World) (h : St X d u) (hT : TabX X) (hP : P.ok X) (hL : L.ok X P a b s) (hZ : Z.ok X P L) (hc : CB a b s N) (hs1 : -20 ≤ s) (hs2 : s ≤ 20) (hN : N ≤ 100) (hlen : d.held.length ≤ 900) (hl : d.recs.length ≤ 50) (ht : d.ti ≤ 50) (hsc : d.sc.length ≤ 100) :
    Calls Tryz.prog 143 #[ptr X.F, ptr Z.s1, ptr Z.s2, ptr Z.s3] u fun e w' => e = .returned .nilIface ∧ TurnTo X d u (d.p.all Z.line P.line a s N) w' := by
  have HS : Hid (St X d u) := h
  have HT : Hid (TabX X) := hT
  have HP : Hid (P.ok X) := hP
  have HL : Hid (L.ok X P a b s) := hL
  have HZ : Hid (Z.ok X P L) := hZ
  have b1 := (hZ.s1.at h).cell 0 rfl
  have bb := (hP.bb.at h).cell 0 rfl
  clear h hT hP hL hZ
  go_enter Tryz.func143, Tryz.ntmps143
  go_wp2_with fail
  refine (tick_calls X d _ HS.out (by omega)).mono ?_
  rintro e w1 ⟨rfl, d1, hs1', e1⟩
  have H1 : Hid (Sp X d u d1 w1 ∧ d1.p = d.p.tick) := ⟨hs1', e1⟩
  have hli : d1.line = d.line := congrArg DP.line e1
  clear hs1' e1 b1 bb
  have f12 : w1.cell? ⟨X.F, 12, none⟩ = some (.int .i64 d.line) := by rw [← hli]; exact H1.out.1.s.f.1.cell 12 rfl
  have fz := H1.out.1.s.f.2
  have n1 := (HZ.out.s2.at H1.out.1.s).cell 1 HZ.out.ln
  have hne : X.F ≠ Z.s2 := fun e => by have h1 := HZ.out.s2.1.1; have h2 := HS.out.x.f; omega
  go_upto_region 4 with fail
  obtain ⟨d2, w2, hw2, hs2', e2⟩ : ∃ d2 w2, w1.setCell ⟨X.F, 12, none⟩ (.int .i64 Z.line) = w2 ∧ Sp X d1 w1 d2 w2 ∧ d2.p = d1.p.ln Z.line := ⟨_, _, rfl, Sp.line H1.out.1.s Z.line, rfl⟩
  have H2 : Hid (Sp X d u d2 w2 ∧ d2.p = d.p.tick.ln Z.line) := ⟨H1.out.1.trans hs2', by rw [e2, H1.out.2]⟩
  rw [hw2]
  clear hw2 hs2' e2 H1 f12 fz n1 hli
  have b1 := (HZ.out.s1.at H2.out.1.s).cell 0 rfl
  have bb := (HP.out.bb.at H2.out.1.s).cell 0 rfl
  have f1 := H2.out.1.s.f.1.cell 1 rfl
  have n1 := (HZ.out.s2.at H2.out.1.s).cell 1 HZ.out.ln
  have HS2 : Hid (St X d2 w2.drew) := H2.out.1.s.drew
  have hl2 : d2.recs.length ≤ 50 := by have : d2.recs = d.recs := congrArg DP.recs H2.out.2; rw [this]; exact hl
  go_cut [6] from 22 to 32 (fun v wc => v = .int .i64 d.line ∧ Hid (To X d u ((d.p.tick.ln Z.line).rcd ⟨1, 0, 0, Z.line, ⟨#[]⟩⟩) wc))
  case first =>
    go_region_with (go_at_call 145; refine (record_calls X d2 1 0 Z.line ⟨#[]⟩ _ HS2.out (by omega)).mono ?_; rintro e w3 ⟨rfl, ht3⟩)
    all_goals
      have HF : Hid (To X d u ((d.p.tick.ln Z.line).rcd ⟨1, 0, 0, Z.line, ⟨#[]⟩⟩) w3) := by rw [H2.out.2] at ht3; exact To.step H2.out.1.drew ht3
      clear ht3
      go_wp2_with fail
      go_meet
      exact ⟨rfl, HF⟩
  case rest =>
    obtain ⟨rfl, HT3⟩ := hcut
    obtain ⟨d3, hs3, e3⟩ := HT3.out
    have H3 : Hid (Sp X d u d3 wc ∧ d3.p = (d.p.tick.ln Z.line).rcd ⟨1, 0, 0, Z.line, ⟨#[]⟩⟩) := ⟨hs3, e3⟩
    clear hs3 e3 H2 HS2 b1 bb f1 n1 HT3
    have s3 := (HZ.out.s3.at H3.out.1.s).cell 0 rfl
    have hh3 : d3.held.length ≤ 900 := by have : d3.held = d.held := congrArg DP.held H3.out.2; rw [this]; exact hlen
    have hl3 : d3.recs.length ≤ 100 := by
      have : d3.recs = d.recs ++ [⟨1, 0, 0, Z.line, ⟨#[]⟩⟩] := congrArg DP.recs H3.out.2
      rw [this]; simp; omega
    have ht3 : d3.ti ≤ 100 := by have : d3.ti = d.ti + 1 := congrArg DP.ti H3.out.2; omega
    have hsc3 : d3.sc.length ≤ 100 := by have : d3.sc = d.sc := congrArg DP.sc H3.out.2; rw [this]; exact hsc
    go_wp2_with fail
    refine (count_calls X P L a b s N d3 _ H3.out.1.s HT.out HP.out HL.out hc hs1 hs2 hN hh3 hl3 ht3 hsc3).mono ?_
    rintro e w4 ⟨rfl, z, d4, hs4, e4⟩
    have H4 : Hid (Sp X d u d4 w4 ∧ d4.p = (loopP ((d.p.tick.ln Z.line).rcd ⟨1, 0, 0, Z.line, ⟨#[]⟩⟩) P.line a s N).var z) := ⟨H3.out.1.trans hs4, by rw [e4, H3.out.2]⟩
    clear hs4 e4 H3 s3 hh3 hl3 ht3
    have f12 := H4.out.1.s.f.1.cell 12 rfl
    have fz := H4.out.1.s.f.2
    have HF : Hid (TurnTo X d u (d.p.all Z.line P.line a s N) (w4.setCell ⟨X.F, 12, none⟩ (.int .i64 d.line))) := ⟨z, _, H4.out.1.trans (Sp.line H4.out.1.s d.line), by
      show d4.p.ln d.line = _
      rw [H4.out.2]; rfl⟩
    go_wp2_with fail
    go_ret
    exact ⟨rfl, HF.out⟩

set_option maxRecDepth 100000 in
set_option maxHeartbeats 8000000 in
theorem text_calls' (X : RX) (P : PX) (L : LX) (Z : MX) (a b s : Int) (N : Nat) (d : MD) (u : World) (h : St X d u) (hT : TabX X) (hP : P.ok X) (hL : L.ok X P a b s) (hZ : Z.ok X P L) (hc : CB a b s N) (hs1 : -20 ≤ s) (hs2 : s ≤ 20) (hN : N ≤ 100) (hlen : d.held.length ≤ 900) (hl : d.recs.length ≤ 50) (ht : d.ti ≤ 50) (hsc : d.sc.length ≤ 100) (hlp : (d.p.all Z.line P.line a s N).sc = d.sc) :
    Calls Tryz.prog 166 #[ptr X.F, ptr Z.k1] u fun e w' => e = .returned .nilIface ∧ TurnTo X d u (d.p.all Z.line P.line a s N) w' := by
  have HS : Hid (St X d u) := h
  have HT : Hid (TabX X) := hT
  have HP : Hid (P.ok X) := hP
  have HL : Hid (L.ok X P a b s) := hL
  have HZ : Hid (Z.ok X P L) := hZ
  have k1 := (hZ.k1.at h).cell 0 rfl
  have f10 := h.f.1.cell 10 rfl
  clear h hT hP hL hZ
  go_enter Tryz.func166, Tryz.ntmps166
  go_wp2_with fail
  clear k1 f10
  go_loopw [15] (fun i wr => (i = .int .i64 0 ∧ wr = u) ∨ (i = .int .i64 1 ∧ Hid (TurnTo X d u (d.p.all Z.line P.line a s N) wr))) (fun i _ => 1 - (intOf i).toNat)
  case atStart => exact .inl ⟨rfl, rfl⟩
  case round =>
    rcases hrel with ⟨rfl, rfl⟩ | ⟨rfl, HF⟩
    · have ka := HZ.out.ka.at HS.out
      go_wp2_with fail
      refine (fstmt_calls X P L Z a b s N d _ HS.out HT.out HP.out HL.out HZ.out hc hs1 hs2 hN hlen hl ht hsc).mono ?_
      rintro e w1 ⟨rfl, ht1⟩
      have HF : Hid _ := ht1
      clear ht1 ka
      go_wp2_with fail
      go_roundw
      case rel => exact .inr ⟨rfl, HF⟩
      case measure => simp [intOf]
    · obtain ⟨z, d1, hs1', e1⟩ := HF.out
      have hsc1 : d1.sc.length = d.sc.length := by have : d1.sc = (d.p.all Z.line P.line a s N).sc := congrArg DP.sc e1; rw [this, hlp]
      have hcap := hs1'.s.scCap
      have f10 := hs1'.s.f.1.cell 10 rfl
      have fz := hs1'.s.f.2
      have hif := sl_if d1.sa (d1.sp = 0) (hcap.2.elim (fun h => .inl h.1) .inr)
      have HF2 : Hid (TurnTo X d u (d.p.all Z.line P.line a s N) (wr.setCell ⟨X.F, 10, none⟩ (.slice d1.sa d.sc.length d1.sp))) := by
        obtain ⟨d2, h2, e2⟩ := To.step hs1' (Sp.sameS hs1'.s hsc1.symm)
        exact ⟨z, d2, h2, e2.trans e1⟩
      have hc' := hcap.1
      rw [hsc1] at hc'
      clear hs1' e1 hcap HF
      go_wp2_with fail
      go_ret
      exact ⟨rfl, HF2.out⟩
end Go.Proofs.YtdialodjllpgaaaGreatDoor
