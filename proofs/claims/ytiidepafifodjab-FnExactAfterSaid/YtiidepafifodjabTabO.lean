import Derived.Test.YtiidepafifodjabTabN
/-! Tables: impl's has, length, get. -/
namespace Go.Proofs.Ytiidepafifodjab
open Go.RowKit
attribute [local go_sem] run_store_float
attribute [local go_sem ↓] Go.wp_at_zero Go.wp_at_succ

/-- block b holds an indexed table -/
structure XBox (w : World) (b : Nat) (a : Option Addr) (n cap B : Nat) (t : Int) (q : Nat → PD) : Prop where
  lt : b < w.heap.size
  c0 : w.cell? ⟨b, 0, none⟩ = some (.slice a n cap)
  c1 : w.cell? ⟨b, 1, none⟩ = some (.map (some B))
  c2 : w.cell? ⟨b, 2, none⟩ = some (.int .i64 t)
  tab : Tab w a n q
  map : MapIs w B (places q n)
theorem XBox.call {u w : World} {b : Nat} {a : Option Addr} {n cap B : Nat} {t : Int} {q : Nat → PD} (h : XBox u b a n cap B t q) (hb : Below u.heap.size u w) : XBox w b a n cap B t q :=
  ⟨Nat.lt_of_lt_of_le h.lt hb.size, (hb.cell (p := ⟨b, 0, none⟩) h.lt).trans h.c0, (hb.cell (p := ⟨b, 1, none⟩) h.lt).trans h.c1, (hb.cell (p := ⟨b, 2, none⟩) h.lt).trans h.c2, h.tab.below hb, h.map.below hb⟩
theorem XBox.drew {w : World} {b : Nat} {a : Option Addr} {n cap B : Nat} {t : Int} {q : Nat → PD} (h : XBox w b a n cap B t q) : XBox w.drew b a n cap B t q := ⟨h.lt, h.c0, h.c1, h.c2, h.tab.drew, mapIs_drew h.map⟩
theorem XBox.alloc {w : World} {b : Nat} {a : Option Addr} {n cap B : Nat} {t : Int} {q : Nat → PD} (h : XBox w b a n cap B t q) (o : Obj) : XBox (w.alloc o) b a n cap B t q := h.call (below_alloc w o)

theorem mk_iv (i : Int) : mk (iv i) = (2, i, 0, ⟨#[]⟩, 0) := by simp [mk, iv]

set_option maxRecDepth 100000 in
set_option maxHeartbeats 4000000 in
theorem has_calls (X : Nat) (a : Option Addr) (n cap B : Nat) (t : Int) (q : Nat → PD) (i : Int) (w : World) (hok : TabOk n t q) (hX : XBox w X a n cap B t q) :
    Calls Try.prog 81 #[.pointer (some ⟨X, 0, none⟩), .int .i64 i] w fun e w' => e = .returned (.bool (fnd q (mk (iv i)) n).isSome) ∧ Below w.heap.size w w' := by
  have HO : Hid (TabOk n t q) := hok
  have HX : Hid (XBox w X a n cap B t q) := hX
  have c1 := hX.c1
  have hMk : Hid (∀ w, Calls Try.prog 79 #[vOf 2 i 0 ⟨#[]⟩ 0] w fun e w' => e = .returned (mkV (2, i, 0, ⟨#[]⟩, 0)) ∧ Below w.heap.size w w') := fun w => by
    have := markOf_calls (iv i) w; rw [mk_iv] at this; exact this
  rw [mk_iv]
  clear hok hX
  go_enter Try.func81, Try.ntmps81
  go_wp2_with fail
  go_region_with (first | (go_at_call 91; refine (value_whole _ _).mono ?_; rintro e w2 ⟨rfl, hb2⟩; have HX2 : Hid (XBox w2 X a n cap B t q) := (by first | exact HX.out.call hb2 | exact HX.out.drew.call hb2); have HB : Hid (Below w.heap.size w w2) := (by first | exact hb2 | exact below_call (Below.refl _ _).drew hb2); clear c1 hb2; have c1 := HX2.out.c1) | (go_at_call 79; refine (hMk.out _).mono ?_; rintro e w3 ⟨rfl, hb3⟩; have HX3 : Hid (XBox w3 X a n cap B t q) := (by first | exact HX2.out.call hb3 | exact HX2.out.drew.call hb3); replace HB : Hid (Below w.heap.size w w3) := (by first | exact below_call HB.out hb3 | exact below_call HB.out.drew hb3); clear c1 hb3; have c1 := HX3.out.c1; have hlk := lookup_run Try.underlying76 markT HX3.out.map (2, i, 0, ⟨#[]⟩, 0) (Try.zeroValue3 _); rw [idx_ok HO.out] at hlk))
  all_goals go_wp2_with fail
  all_goals go_ret
  all_goals exact ⟨ret_bool (by simp), HB.out⟩

theorem pres_of {q : Nat → PD} {n i : Nat} (h : (fnd q (mk (iv (i : Int))) n).isSome = true) : pres q n i := by
  obtain ⟨j, hj⟩ := Option.isSome_iff_exists.1 h
  obtain ⟨h1, h2⟩ := fnd_at hj
  exact ⟨j, h1, h2⟩
theorem pres_not {q : Nat → PD} {n i : Nat} (h : (fnd q (mk (iv (i : Int))) n).isSome = false) : ¬ pres q n i := by
  rintro ⟨j, h1, h2⟩
  have h0 : fnd q (mk (iv (i : Int))) n = none := by simpa using h
  exact fnd_no h0 j h1 h2
theorem pres_step {q : Nat → PD} {n k : Nat} (h : ∀ i, i < k → pres q n (i + 1)) (hk : pres q n (k + 1)) : ∀ i, i < k + 1 → pres q n (i + 1) := fun i hi => by
  by_cases e : i = k
  · subst e; exact hk
  · exact h i (by omega)

set_option maxRecDepth 100000 in
set_option maxHeartbeats 4000000 in
theorem length_calls (X : Nat) (a : Option Addr) (n cap B : Nat) (t : Int) (q : Nat → PD) (w : World) (hok : TabOk n t q) (hX : XBox w X a n cap B t q) :
    Calls Try.prog 56 #[.pointer (some ⟨X, 0, none⟩)] w fun e w' => (∃ r : Nat, e = .returned (.int .i64 (r : Int)) ∧ LenIs q n r) ∧ Below w.heap.size w w' := by
  have HO : Hid (TabOk n t q) := hok
  have HX : Hid (XBox w X a n cap B t q) := hX
  have hn := hok.nn
  clear hok hX
  go_enter Try.func56, Try.ntmps56
  go_wp2_with fail
  go_loopw [3] (fun i wr => ∃ (k : Nat), i = .int .i64 k ∧ (∀ i, i < k → pres q n (i + 1)) ∧ Below w.heap.size w wr) (fun i _ => n + 1 - (intOf i).toNat)
  case atStart => exact ⟨0, rfl, fun i hi => by omega, Below.refl _ _⟩
  case round =>
    obtain ⟨k, rfl, hp, hB⟩ := hrel
    have hkn := pres_le hp
    have hP : Hid (∀ i, i < k → pres q n (i + 1)) := hp
    clear hp
    go_wp2_with fail
    refine (has_calls X a n cap B t q _ _ HO.out (HX.out.call hB)).mono ?_
    rintro e w2 ⟨rfl, hb2⟩
    replace hB := below_call hB hb2
    clear hb2
    have e1 : ((k : Int) + 1) = ((k + 1 : Nat) : Int) := by omega
    rw [e1]
    cases hf : (fnd q (mk (iv ((k + 1 : Nat) : Int))) n).isSome
    · have hs : Hid (LenIs q n k) := ⟨hP.out, pres_not hf⟩
      clear hf e1
      go_wp2_with fail
      go_ret
      exact ⟨⟨k, rfl, hs.out⟩, hB⟩
    · have hs : Hid (∀ i, i < k + 1 → pres q n (i + 1)) := pres_step hP.out (pres_of hf)
      have hk1 := pres_le hs.out
      clear hf e1
      go_wp2_with fail
      go_roundw
      case rel => exact ⟨k + 1, by go_num, hs.out, hB⟩
      case measure => simp [intOf]; omega

end Go.Proofs.Ytiidepafifodjab
