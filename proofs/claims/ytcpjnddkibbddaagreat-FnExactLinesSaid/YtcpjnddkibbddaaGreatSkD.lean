import Derived.Test.YtcpjnddkibbddaaGreatSkA
import Derived.Defers
/-! The program's scopes: a fault is noted; is a variable in scope? -/
namespace Go.Proofs.YtcpjnddkibbddaaGreat
open Go.RowKit
attribute [local go_sem] run_store_float
attribute [local go_sem ↓] Go.wp_at_zero Go.wp_at_succ

theorem SS.c48 {C : CX} {st : List Int} {ins : Nat} {x : FT} {a : Option Addr} {cap : Nat} {w : World} (h : SS C st ins x a cap w) : w.cell? ⟨C.S, 48, none⟩ = some (.slice a st.length cap) := h.box.1.cell 48 rfl
theorem SS.c49 {C : CX} {st : List Int} {ins : Nat} {x : FT} {a : Option Addr} {cap : Nat} {w : World} (h : SS C st ins x a cap w) : w.cell? ⟨C.S, 49, none⟩ = some (.slice (some ⟨C.T, 0, none⟩) C.d.vn C.d.vn) := h.box.1.cell 49 rfl
theorem SS.c50 {C : CX} {st : List Int} {ins : Nat} {x : FT} {a : Option Addr} {cap : Nat} {w : World} (h : SS C st ins x a cap w) : w.cell? ⟨C.S, 50, none⟩ = some (.int .i64 (ins : Int)) := h.box.1.cell 50 rfl
theorem SS.c51 {C : CX} {st : List Int} {ins : Nat} {x : FT} {a : Option Addr} {cap : Nat} {w : World} (h : SS C st ins x a cap w) : w.cell? ⟨C.S, 51, none⟩ = some (.int .i64 (x.c : Int)) := h.box.1.cell 51 rfl
theorem SS.c52 {C : CX} {st : List Int} {ins : Nat} {x : FT} {a : Option Addr} {cap : Nat} {w : World} (h : SS C st ins x a cap w) : w.cell? ⟨C.S, 52, none⟩ = some (.int .i64 (x.f : Int)) := h.box.1.cell 52 rfl
theorem SS.c53 {C : CX} {st : List Int} {ins : Nat} {x : FT} {a : Option Addr} {cap : Nat} {w : World} (h : SS C st ins x a cap w) : w.cell? ⟨C.S, 53, none⟩ = some (.int .i64 (x.n : Int)) := h.box.1.cell 53 rfl
theorem SS.c1 {C : CX} {st : List Int} {ins : Nat} {x : FT} {a : Option Addr} {cap : Nat} {w : World} (h : SS C st ins x a cap w) : w.cell? ⟨C.S, 1, none⟩ = some (.int .i64 (C.f : Int)) := h.box.1.cell 1 rfl
theorem SS.c0 {C : CX} {st : List Int} {ins : Nat} {x : FT} {a : Option Addr} {cap : Nat} {w : World} (h : SS C st ins x a cap w) : w.cell? ⟨C.S, 0, none⟩ = some (.slice C.ua C.u.n C.uc) := h.box.1.cell 0 rfl
theorem SS.c5 {C : CX} {st : List Int} {ins : Nat} {x : FT} {a : Option Addr} {cap : Nat} {w : World} (h : SS C st ins x a cap w) : w.cell? ⟨C.S, 5, none⟩ = some (.bool C.d.rest) := h.box.1.cell 5 rfl
theorem SS.c7 {C : CX} {st : List Int} {ins : Nat} {x : FT} {a : Option Addr} {cap : Nat} {w : World} (h : SS C st ins x a cap w) : w.cell? ⟨C.S, 7, none⟩ = some (.slice C.fa.ua C.d.un C.fa.uc) := h.box.1.cell 7 rfl
theorem SS.c8 {C : CX} {st : List Int} {ins : Nat} {x : FT} {a : Option Addr} {cap : Nat} {w : World} (h : SS C st ins x a cap w) : w.cell? ⟨C.S, 8, none⟩ = some (.slice C.fa.na C.d.nn C.fa.nc) := h.box.1.cell 8 rfl
theorem SS.fz {C : CX} {st : List Int} {ins : Nat} {x : FT} {a : Option Addr} {cap : Nat} {w : World} (h : SS C st ins x a cap w) : ∀ o, w.frozen? ⟨C.S, o, none⟩ = false := h.box.2
theorem SS.lt {C : CX} {st : List Int} {ins : Nat} {x : FT} {a : Option Addr} {cap : Nat} {w : World} (h : SS C st ins x a cap w) : C.S < w.heap.size := h.box.1.1
theorem SS.t {C : CX} {st : List Int} {ins : Nat} {x : FT} {a : Option Addr} {cap : Nat} {w : World} (h : SS C st ins x a cap w) {v : Nat} (hv : v < C.d.vn) : w.cell? ⟨C.T, v, none⟩ = some (.int .i64 (cnt st v)) := World.rowIs.cell h.tm (i := v) hv
/-- of the fn's nodes -/
theorem CX.ok.node {C : CX} (h : C.ok) {n : Nat} (hn : n < C.d.nn) : ShF C.d.nd n := h.u5.toU3.facts h.f hn
theorem CX.ok.nn {C : CX} (h : C.ok) : C.d.nn ≤ 3000 ∧ 0 < C.d.nn := h.u5.toU3.nn h.f
theorem CX.ok.tree {C : CX} (h : C.ok) : TreeOk C.d.nd C.d.nn := h.u5.tree C.f h.f

set_option maxRecDepth 100000 in
set_option maxHeartbeats 2000000 in
theorem inScope_calls (C : CX) (st : List Int) (ins : Nat) (x : FT) (a : Option Addr) (cap : Nat) (v : Int) (w : World) (hS : SS C st ins x a cap w) :
    Calls Tryz.prog 154 #[.pointer (some ⟨C.S, 0, none⟩), .int .i64 v] w fun e w' => e = .returned (.bool (dB (v ∈ st))) ∧ w' = w := by
  have HS : Hid (SS C st ins x a cap w) := hS
  have c49 := hS.c49
  clear hS
  by_cases hi : InR v C.d.vn
  · have hw : wiB v (C.d.vn : Int) = true := by unfold wiB; have := hi.1; have := hi.2; simp; omega
    obtain ⟨y, rfl⟩ : ∃ y : Nat, v = y := ⟨v.toNat, by have := hi.1; omega⟩
    have hy : y < C.d.vn := by have := hi.2; omega
    have t0 := HS.out.t hy
    have hv : dB ((y : Int) ∈ st) = decide (0 < cnt st y) := by
      by_cases c : 0 < cnt st y
      · rw [decide_eq_true c, dB_true (cnt_pos.1 c)]
      · rw [decide_eq_false c, dB_false (fun k => c (cnt_pos.2 k))]
    rw [hv]
    clear hv hi
    have hr := cnt_rng st y
    go_enter Tryz.func154, Tryz.ntmps154
    go_wp2_with (go_at_call 126; refine (within_calls _ _ _).mono ?_; rw [hw]; rintro e w1 ⟨rfl, rfl⟩)
    go_ret
    exact ⟨rfl, rfl⟩
  · have hw : wiB v (C.d.vn : Int) = false := by
      unfold wiB InR at *
      simp
      omega
    have hv : dB (v ∈ st) = false := dB_false fun k => hi (HS.out.rg v k)
    rw [hv]
    go_enter Tryz.func154, Tryz.ntmps154
    go_wp2_with (go_at_call 126; refine (within_calls _ _ _).mono ?_; rw [hw]; rintro e w1 ⟨rfl, rfl⟩)
    go_ret
    exact ⟨rfl, rfl⟩

/-- a fault was noted -/
def NotePost (C : CX) (st : List Int) (ins : Nat) (x : FT) (a : Option Addr) (cap : Nat) (w w' : World) : Prop := SS C st ins x a cap w' ∧ Mv C.S C.T a w a w'
set_option maxRecDepth 100000 in
set_option maxHeartbeats 4000000 in
theorem note_calls (C : CX) (st : List Int) (ins : Nat) (x : FT) (a : Option Addr) (cap : Nat) (c n : Nat) (w : World) (hS : SS C st ins x a cap w) :
    Calls Tryz.prog 153 #[.pointer (some ⟨C.S, 0, none⟩), .int .i64 (c : Int), .int .i64 (n : Int)] w fun e w' => e = .returned (.tuple #[]) ∧ NotePost C st ins (fstOf x ⟨c, C.f, n⟩) a cap w w' := by
  have HS : Hid (SS C st ins x a cap w) := hS
  have c51 := hS.c51
  have c52 := hS.c52
  have c53 := hS.c53
  have c1 := hS.c1
  have z := hS.fz
  clear hS
  go_enter Tryz.func153, Tryz.ntmps153
  go_region_with (go_at_call 61; refine (firstOf_calls x ⟨c, C.f, n⟩ _).mono ?_; rintro e w1 ⟨rfl, hb1⟩; have HS1 : Hid (SS C st ins x a cap w1) := (by first | exact HS.out.call hb1 | exact HS.out.drew.call hb1); have HM1 : Hid (Mv C.S C.T a w a w1) := (by first | exact (Mv.refl _ _ _ _).call hb1 | exact (Mv.refl _ _ _ _).drew.call hb1); clear hb1 c51 c52 c53 c1 z; have c51 := HS1.out.c51; have c52 := HS1.out.c52; have c53 := HS1.out.c53; have z := HS1.out.fz)
  all_goals go_end0
  all_goals exact ⟨rfl, HS1.out.first _, ((HM1.out.set (p := ⟨C.S, 51, none⟩) (.inl rfl) _).set (p := ⟨C.S, 52, none⟩) (.inl rfl) _).set (p := ⟨C.S, 53, none⟩) (.inl rfl) _⟩
end Go.Proofs.YtcpjnddkibbddaaGreat

/-! The program's scopes: variables are declared and taken down. -/
namespace Go.Proofs.YtcpjnddkibbddaaGreat
open Go.RowKit
attribute [local go_sem] run_store_float
attribute [local go_sem ↓] Go.wp_at_zero Go.wp_at_succ

/-- a row of ints that none of the scopes' blocks holds -/
structure FarI (C : CX) (a : Option Addr) (w : World) (va : Option Addr) (n : Nat) (r : Nat → Int) : Prop where
  at_ : IntsAt 0 w va n r
  far : 0 < n → ∀ b off, va = some ⟨b, off, none⟩ → b ≠ C.S ∧ b ≠ C.T ∧ bkOf a ≠ some b
theorem FarI.mv {C : CX} {a a' : Option Addr} {w w' : World} {va : Option Addr} {n : Nat} {r : Nat → Int} (h : FarI C a w va n r) (hm : Mv C.S C.T a w a' w') : FarI C a' w' va n r := by
  refine ⟨fun hn => ?_, fun hn b off e => ?_⟩
  · obtain ⟨b, off, e, h0, h1, h2⟩ := h.at_ hn
    obtain ⟨f1, f2, f3⟩ := h.far hn b off e
    exact ⟨b, off, e, h0, Nat.lt_of_lt_of_le h1 hm.kp.size, fun i hi j hj => (World.cell?_of_block (a := ⟨b, off + i * 1 + j, none⟩) (hm.kp.block b h1 f1 f2 f3)).trans (h2 i hi j hj)⟩
  · obtain ⟨f1, f2, f3⟩ := h.far hn b off e
    refine ⟨f1, f2, ?_⟩
    rcases hm.nw with c | ⟨k, c, hk⟩
    · rw [c]; exact f3
    · rw [c]
      intro ek
      cases ek
      obtain ⟨b', off', e', _, h1, _⟩ := h.at_ hn
      rw [e] at e'
      cases e'
      omega
def DeclPost (C : CX) (st : List Int) (ins : Nat) (x : FT) (a : Option Addr) (w w' : World) : Prop := ∃ a' cap', SS C st ins x a' cap' w' ∧ Mv C.S C.T a w a' w'
set_option maxRecDepth 100000 in
set_option maxHeartbeats 4000000 in
theorem declare_calls (C : CX) (st : List Int) (ins : Nat) (x : FT) (a : Option Addr) (cap : Nat) (va : Option Addr) (n vc : Nat) (r : Nat → Int) (w : World) (hn : n ≤ 1048576) (hroom : st.length ≤ 700000000000) (hS : SS C st ins x a cap w) (hI : FarI C a w va n r) :
    Calls Tryz.prog 123 #[.pointer (some ⟨C.S, 0, none⟩), .slice va n vc] w fun e w' => e = .returned (.tuple #[]) ∧ DeclPost C (st ++ vrN r C.d.vn n) ins x a w w' := by
  have HS : Hid (SS C st ins x a cap w) := hS
  have HI : Hid (FarI C a w va n r) := hI
  clear hS hI
  obtain ⟨i0, hi0, hy0, hy1, hy2⟩ := info_parts infoInt
  go_enter Tryz.func123, Tryz.ntmps123
  go_wp2_with fail
  go_loopw [8] (fun i wr => ∃ (k : Nat) (a' : Option Addr) (cap' : Nat), k ≤ n ∧ i = .int .i64 k ∧ Hid (SS C (st ++ vrN r C.d.vn k) ins x a' cap' wr) ∧ Hid (Mv C.S C.T a w a' wr)) (fun i _ => n - (intOf i).toNat)
  case atStart => exact ⟨0, a, cap, Nat.zero_le _, rfl, by rw [vrN_zero, List.append_nil]; exact HS, Mv.refl _ _ _ _⟩
  case round =>
    obtain ⟨k, a', cap', hk, rfl, HSr, HM⟩ := hrel
    by_cases hkn : k < n
    · obtain ⟨b, off, rfl, _, hb, d0⟩ := cells1 (HI.out.mv HM.out).at_ hkn
      have c49 := HSr.out.c49
      by_cases hin : InR (r k) C.d.vn
      · have hw : wiB (r k) (C.d.vn : Int) = true := by unfold wiB; have := hin.1; have := hin.2; simp; omega
        have e1 := vrN_yes hin
        have hln := vrN_len r C.d.vn k
        obtain ⟨y, hy⟩ : ∃ y : Nat, r k = y := ⟨(r k).toNat, by have := hin.1; omega⟩
        have hyn : y < C.d.vn := by have := hin.2; omega
        rw [hy] at d0 hw e1
        have E1 : Hid (vrN r C.d.vn (k + 1) = vrN r C.d.vn k ++ [(y : Int)]) := e1
        clear hy hin e1
        obtain ⟨s1, hs1⟩ : ∃ s1, s1 = st ++ vrN r C.d.vn k := ⟨_, rfl⟩
        have hl1 : s1.length ≤ 700000000000 + 1048576 := by rw [hs1, List.length_append]; omega
        have E2 : Hid (st ++ vrN r C.d.vn (k + 1) = s1 ++ [(y : Int)]) := by show _ = _; rw [E1.out, hs1, List.append_assoc]
        rw [← hs1] at HSr
        clear hs1 E1 hln
        have c48 := HSr.out.c48
        have z := HSr.out.fz
        have hr := cnt_rng s1 y
        go_wp2_with (first | (go_at_call 126; refine (within_calls _ _ _).mono ?_; rw [hw]; rintro e w1 ⟨rfl, rfl⟩) | (at_builtin; refine wpList_append_own_at _ rfl _ _ 26 rfl C.w0.heap.size 3 i0 _ 1 8 Tryz.underlying26 hi0 hy0 hy1 hy2 rfl (by decide) (.slice a' s1.length cap') s1.length (sv s1) rfl (HSr.out.alloc _).sk ⟨w1.heap.size, 0, none⟩ 1 1 [.int .i64 (y : Int)] rfl rfl (cell_one_new _ _ _) (by simp [Value.oneCell']) (by unfold maxLen; omega) (by omega) (by have := HSr.out.b.size; simp; omega) ?_; intro v' w7 hown hgrow _ hblk; rw [own_bk] at hgrow hblk; have hmid := (HSr.out.alloc (.cells #[.int .i64 (y : Int)] 3)).mid hgrow; obtain ⟨a2, cap2, hv2, hs2, hm2⟩ := (HSr.out.alloc (.cells #[.int .i64 (y : Int)] 3)).push hyn hown hgrow hblk; subst hv2; have HS2 : Hid _ := hs2; have HM2 : Hid _ := hm2; clear hs2 hm2 hown hgrow hblk c48 c49 z; have c48 := hmid.1.1.cell 48 rfl; have c49 := hmid.1.1.cell 49 rfl; have z := hmid.1.2; have t0 := World.rowIs.cell hmid.2 (i := y) hyn; have tz := World.rowIs.frozen hmid.2; have hTS := HSr.out.sT; clear hmid))
        go_roundw
        case rel => exact ⟨k + 1, a2, cap2, by omega, by go_num, by rw [E2.out]; exact HS2, HM.out.trans HM2.out.first⟩
        case measure => simp [intOf]; omega
      · have hw : wiB (r k) (C.d.vn : Int) = false := by
          unfold wiB InR at *
          simp
          omega
        have E1 : Hid (vrN r C.d.vn (k + 1) = vrN r C.d.vn k) := vrN_no hin
        go_wp2_with (go_at_call 126; refine (within_calls _ _ _).mono ?_; rw [hw]; rintro e w1 ⟨rfl, rfl⟩)
        go_roundw
        case rel => exact ⟨k + 1, a', cap', by omega, by go_num, by rw [E1.out]; exact HSr, HM⟩
        case measure => simp [intOf]; omega
    · obtain rfl : k = n := by omega
      go_wp2_with fail
      go_end0
      exact ⟨rfl, a', cap', HSr.out, HM.out⟩

/-- one block alone has changed -/
structure TOnly (T : Nat) (w w' : World) : Prop where
  same : w'.os = w.os ∧ w'.tape = w.tape ∧ w'.output = w.output
  size : w'.heap.size = w.heap.size
  block : ∀ k, k ≠ T → w'.heap[k]? = w.heap[k]?
theorem TOnly.refl (T : Nat) (w : World) : TOnly T w w := ⟨⟨rfl, rfl, rfl⟩, rfl, fun _ _ => rfl⟩
theorem TOnly.set {T : Nat} {w w' : World} (h : TOnly T w w') (o : Nat) (v : Value) : TOnly T w (w'.setCell ⟨T, o, none⟩ v) := ⟨h.same, by have := h.size; simpa using this, fun k hk => (Below.heap_setCell w' ⟨T, o, none⟩ v k hk).trans (h.block k hk)⟩
/-- the stack was cut down -/
def DownPost (C : CX) (st : List Int) (ins : Nat) (x : FT) (a : Option Addr) (cap : Nat) (w w' : World) : Prop := SS C st ins x a cap w' ∧ Mv C.S C.T a w a w'
theorem sk_cell {C : CX} {st : List Int} {ins : Nat} {x : FT} {a : Option Addr} {cap : Nat} {w : World} (h : SS C st ins x a cap w) {i : Nat} (hi : i < st.length) : ∃ (b y : Nat), a = some ⟨b, 0, none⟩ ∧ b < w.heap.size ∧ st[i]? = some (y : Int) ∧ y < C.d.vn ∧ w.cell? ⟨b, i, none⟩ = some (.int .i64 (y : Int)) ∧ st.length ≤ cap := by
  rcases h.sk.2 with ⟨_, h2⟩ | ⟨g, cap', cur, e2, h3, hh, h4, _, h6, h7⟩
  · omega
  · cases e2
    have hm := h.rg st[i] (List.getElem_mem hi)
    obtain ⟨y, hy⟩ : ∃ y : Nat, st[i] = y := ⟨st[i].toNat, by have := hm.1; omega⟩
    have he : st[i]? = some (y : Int) := by rw [List.getElem?_eq_getElem hi, hy]
    refine ⟨g, y, rfl, (Array.getElem?_eq_some_iff.1 hh).1, he, by have := hm.2; omega, ?_, h4⟩
    have h8 : (cur.toList.take (st.length * 1))[i]? = some (.int .i64 (y : Int)) := by rw [h7]; simp [sv, he]
    rw [List.getElem?_take_of_lt (by omega), Array.getElem?_toList] at h8
    simp [World.cell?, hh, h8]
set_option maxRecDepth 100000 in
set_option maxHeartbeats 4000000 in
theorem takeDown_deferred (C : CX) (st : List Int) (ins : Nat) (x : FT) (a : Option Addr) (cap : Nat) (h : Nat) (u : FrameMode) (w : World) (hroom : st.length ≤ 800000000000) (hle : h ≤ st.length) (hS : SS C st ins x a cap w) :
    CallsD Tryz.prog 151 #[.pointer (some ⟨C.S, 0, none⟩), .int .i64 (h : Int)] u w fun e u' w' => u' = u ∧ (e = .returned (.tuple #[]) ∧ DownPost C (st.take h) ins x a cap w w') := by
  have HS : Hid (SS C st ins x a cap w) := hS
  have c48 := hS.c48
  have c49 := hS.c49
  have z := hS.fz
  clear hS
  by_cases hc : cap = h
  · have hlen : st.length = h := by
      rcases HS.out.sk.2 with ⟨h2, h3⟩ | ⟨g, cap', cur, e2, h3, hh, h4, _⟩
      · obtain ⟨_, _, h5⟩ : a = none ∧ st.length = 0 ∧ cap = 0 := by simpa using h2
        omega
      · cases e2
        omega
    have HE : Hid (CRow w C.T C.d.vn (cnt (st.take h))) := by
      show CRow _ _ _ _
      rw [← hlen, List.take_length]
      exact HS.out.tm
    subst hc
    rw [hlen] at c48
    go_enter_d Tryz.func151, Tryz.ntmps151
    go_wp2_with fail
    refine wp_loop_rounds 1 ?_
    rw [rounds_succ]
    go_wp2_with fail
    go_end0
    exact ⟨rfl, HS.out.times (hh := cap) (by omega) (fun _ _ => rfl) rfl ⟨rfl, rfl, rfl⟩ HE.out⟩
  · obtain ⟨b, rfl, hcap⟩ : ∃ b, a = some ⟨b, 0, none⟩ ∧ st.length ≤ cap := by
      rcases HS.out.sk.2 with ⟨h2, h3⟩ | ⟨g, cap', cur, e2, h3, hh, h4, _⟩
      · obtain ⟨_, _, h5⟩ : a = none ∧ st.length = 0 ∧ cap = 0 := by simpa using h2
        omega
      · cases e2
        exact ⟨g, rfl, h4⟩
    have q1 : (h : Int) ≤ (cap : Int) := by omega
    go_enter_d Tryz.func151, Tryz.ntmps151
    go_wp2_with fail
    have hTb : b ≠ C.T := fun e => HS.out.ta (by rw [← e]; rfl)
    have hTS := HS.out.sT
    go_loopw [13] (fun i wr => ∃ (k : Nat), k ≤ st.length - h ∧ i = .int .i64 k ∧ Hid (CRow wr C.T C.d.vn (cnt (rest st h k))) ∧ Hid (TOnly C.T w wr)) (fun i _ => st.length - h - (intOf i).toNat)
    case atStart => exact ⟨0, Nat.zero_le _, rfl, by rw [rest_zero]; exact HS.out.tm, TOnly.refl _ _⟩
    case round =>
      obtain ⟨k, hk, rfl, HR, HO⟩ := hrel
      have d49 : wr.cell? ⟨C.S, 49, none⟩ = some (.slice (some ⟨C.T, 0, none⟩) C.d.vn C.d.vn) := (World.cell?_of_block (a := ⟨C.S, 49, none⟩) (HO.out.block _ hTS)).trans c49
      by_cases hkn : k < st.length - h
      · obtain ⟨b', y, e0, _, hsy, hyn, g0, _⟩ := sk_cell HS.out (i := h + k) (by omega)
        obtain rfl : b = b' := by simpa using e0
        have g1 : wr.cell? ⟨b, h + k, none⟩ = some (.int .i64 (y : Int)) := (World.cell?_of_block (a := ⟨b, h + k, none⟩) (HO.out.block _ hTb)).trans g0
        have t0 := World.rowIs.cell HR.out (i := y) hyn
        have tz := World.rowIs.frozen HR.out
        have hr1 := cnt_rng (rest st h k) y
        have hrl : (rest st h k).length ≤ 2 * st.length := by
          unfold rest
          rw [List.length_append, List.length_take, List.length_drop]
          omega
        have HR1 : Hid (CRow (wr.setCell ⟨C.T, y, none⟩ (.int .i64 (cnt (rest st h k) y - 1))) C.T C.d.vn (cnt (rest st h (k + 1)))) := (World.rowIs.set HR.out y _).congr fun i _ => by
          rw [rest_succ hsy]
          split <;> rfl
        have HO1 : Hid (TOnly C.T w (wr.setCell ⟨C.T, y, none⟩ (.int .i64 (cnt (rest st h k) y - 1)))) := HO.out.set _ _
        clear g0 hsy e0 c48 c49 z
        go_wp2_with fail
        go_roundw
        case rel => exact ⟨k + 1, by omega, by go_num, HR1, HO1⟩
        case measure => simp [intOf]; omega
      · have d48 : wr.cell? ⟨C.S, 48, none⟩ = some (.slice (some ⟨b, 0, none⟩) st.length cap) := (World.cell?_of_block (a := ⟨C.S, 48, none⟩) (HO.out.block _ hTS)).trans c48
        have dz : ∀ o, wr.frozen? ⟨C.S, o, none⟩ = false := fun o => (World.frozen?_of_block (a := ⟨C.S, o, none⟩) (HO.out.block _ hTS)).trans (z o)
        have HE : Hid (CRow wr C.T C.d.vn (cnt (st.take h))) := by
          have h1 := HR.out
          rw [rest_end st (by omega)] at h1
          exact h1
        clear c48 c49 z
        go_wp2_with fail
        go_end0
        exact ⟨rfl, HS.out.times hle HO.out.block HO.out.size HO.out.same HE.out⟩
end Go.Proofs.YtcpjnddkibbddaaGreat
