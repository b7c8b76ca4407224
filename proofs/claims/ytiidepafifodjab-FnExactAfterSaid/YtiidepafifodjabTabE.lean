import Derived.Test.YtiidepafifodjabTabD
import Derived.Test.YtiidepafifodjabValueOk
import Derived.Laws.StructEq
/-! Tables: a key's mark, a pair's check. -/
namespace Go.Proofs.Ytiidepafifodjab
open Go.RowKit
attribute [local go_sem] run_store_float

theorem f64bits_run (f : Nat) (w : World) : (callFunc 89 #[.float .f64 f]).run Try.prog w = .ok (.value (.int .u64 (f : Int))) w := by
  rw [run_callFunc_extern Try.func89 (by kernel_rfl) (by kernel_rfl) (by kernel_rfl) (show Extern.find Try.f89 = some Extern.MathFloatBits.float64bits by kernel_rfl)]
  rfl

set_option maxRecDepth 100000 in
set_option maxHeartbeats 2000000 in
theorem markOf_calls (x : VD) (w : World) : Calls Try.prog 79 #[x.v] w fun e w' => e = .returned (mkV (mk x)) ∧ Below w.heap.size w w' := by
  have hx := f64bits_run x.f
  by_cases h : x.k = 3
  · have h' : (x.k == 3) = true := by simpa using h
    have e : mk x = (x.k, x.n, x.f, x.s, x.r) := by simp [mk, h]
    rw [e]
    clear h e
    go_enter Try.func79, Try.ntmps79
    go_wp2_with fail
    exact bodyPost_ret (v := mkV (x.k, x.n, x.f, x.s, x.r)) (by simp [results, Try.results79, go_sem]) rfl ⟨rfl, below_alloc3 _ _ _ _⟩
  · have h' : (x.k == 3) = false := by simpa using h
    have e : mk x = (x.k, x.n, 0, x.s, x.r) := by simp [mk, h]
    rw [e]
    clear h e
    go_enter Try.func79, Try.ntmps79
    go_wp2_with fail
    exact bodyPost_ret (v := mkV (x.k, x.n, 0, x.s, x.r)) (by simp [results, Try.results79, go_sem]) rfl ⟨rfl, below_alloc3 _ _ _ _⟩

set_option maxRecDepth 100000 in
set_option maxHeartbeats 2000000 in
theorem pairMark_calls (p : PD) (w : World) : Calls Try.prog 75 #[pOf p] w fun e w' => e = .returned (mkV (mk p.key)) ∧ Below w.heap.size w w' := by
  have hM : Hid (∀ w, Calls Try.prog 79 #[p.key.v] w fun e w' => e = .returned (mkV (mk p.key)) ∧ Below w.heap.size w w') := fun w => markOf_calls p.key w
  generalize mk p.key = m at hM ⊢
  obtain ⟨m1, m2, m3, m4, m5⟩ := m
  go_enter Try.func75, Try.ntmps75
  go_wp2_with fail
  refine (hM.out _).mono ?_
  rintro e w2 ⟨rfl, hb2⟩
  have hB := below_call (below_alloc2 _ _ _) hb2
  obtain ⟨hc2, hf2⟩ := bcell hb2
  have hz2 := hb2.size
  (try simp at hz2)
  have hb2' : w.heap.size + 1 < w2.heap.size := by omega
  clear hb2 hM
  go_wp2_with fail
  have p1 : w.heap.size ≤ w.heap.size + 1 := Nat.le_add_right _ _
  exact bodyPost_ret (v := mkV (m1, m2, m3, m4, m5)) (by simp [results, Try.results75, go_sem, hc2]) rfl ⟨rfl, st1 (st1 (st1 (st1 (st1 hB p1 _) p1 _) p1 _) p1 _) p1 _⟩

set_option maxRecDepth 100000 in
set_option maxHeartbeats 2000000 in
theorem l2keyOk_calls (x : VD) (hf : x.f < 2 ^ 64) (w : World) : Calls Try.prog 44 #[x.v] w fun e w' => e = .returned (.bool (kOk x)) ∧ Below w.heap.size w w' := by
  have hK : Hid (∀ w, Calls Try.prog 11 #[x.v] w fun e w' => e = .returned (kgV (kc x) (kv x)) ∧ Below w.heap.size w w') := by
    intro w; rw [← kyG_kv]; exact specKey_calls _ _ _ _ _ hf w
  unfold kOk
  generalize kc x = c at hK ⊢
  generalize kv x = y at hK ⊢
  clear hf
  cases hc : (c == 0)
  · go_enter Try.func44, Try.ntmps44
    go_wp2_with fail
    refine (hK.out _).mono ?_
    rintro e w2 ⟨rfl, hb2⟩
    have hB := below_call (below_alloc _ _) hb2
    obtain ⟨hc2, hf2⟩ := bcell hb2
    have hz2 := hb2.size
    (try simp at hz2)
    have ha2 : w.heap.size < w2.heap.size := by omega
    clear hb2 hK hf2
    go_wp2_with fail
    go_ret
    exact ⟨ret_bool (by simp), below_a hB _⟩
  · go_enter Try.func44, Try.ntmps44
    go_wp2_with fail
    refine (hK.out _).mono ?_
    rintro e w2 ⟨rfl, hb2⟩
    have hB := below_call (below_alloc _ _) hb2
    obtain ⟨hc2, hf2⟩ := bcell hb2
    have hz2 := hb2.size
    (try simp at hz2)
    have ha2 : w.heap.size < w2.heap.size := by omega
    clear hb2 hK hf2
    go_wp2_with fail
    go_ret
    exact ⟨ret_bool (by simp), below_a hB _⟩

theorem run_equalIn_flt {P : Program} (w : World) (d : Nat) (t : TypeId) (k k' : FloatKind) (a b : Nat) (h : P.underlying t = some (.float k')) : (Op.equalIn (d + 1) t (.float k a) (.float k b)).run P w = .ok (Op.floatEq k a b) w := by
  simp [Op.equalIn, run_underlying h]

theorem value_und : Try.prog.underlying 26 = some (.struct (Try.prog.fieldsOf 26)) := by kernel_rfl
theorem value_not : Try.prog.stoodInHeld 26 = false := by kernel_rfl
theorem eq_VV (x y : VD) (w : World) : (binOp .eql 26 x.v y.v).run Try.prog w = .ok (.bool (eqV x y)) w := by
  rw [run_eql_struct, run_equalIn_agg w 9999 _ _ _ value_und value_not]
  simp only [Program.fieldsOf, Try.underlying26]
  have p0 : ∀ (a b c d e : Value) (w : World), (part 3 #[a, b, c, d, e] 0).run Try.prog w = .ok a w := fun _ _ _ _ _ _ => by kernel_rfl
  have p1 : ∀ (a b c d e : Value) (w : World), (part 2 #[a, b, c, d, e] 1).run Try.prog w = .ok b w := fun _ _ _ _ _ _ => by kernel_rfl
  have p2 : ∀ (a b c d e : Value) (w : World), (part 22 #[a, b, c, d, e] 2).run Try.prog w = .ok c w := fun _ _ _ _ _ _ => by kernel_rfl
  have p3 : ∀ (a b c d e : Value) (w : World), (part 9 #[a, b, c, d, e] 3).run Try.prog w = .ok d w := fun _ _ _ _ _ _ => by kernel_rfl
  have p4 : ∀ (a b c d e : Value) (w : World), (part 3 #[a, b, c, d, e] 4).run Try.prog w = .ok e w := fun _ _ _ _ _ _ => by kernel_rfl
  have q0 := fun (a b : Int) (w : World) => run_equalIn_int (P := Try.prog) w 9998 3 .i64 .i64 a b Try.underlying3
  have q1 := fun (a b : Int) (w : World) => run_equalIn_int (P := Try.prog) w 9998 2 .i64 .i64 a b Try.underlying2
  have q2 := fun (a b : Nat) (w : World) => run_equalIn_flt (P := Try.prog) w 9998 22 .f64 .f64 a b Try.underlying22
  have q3 := fun (a b : ByteArray) (w : World) => run_equalIn_string (P := Try.prog) w 9998 9 a b Try.underlying9
  unfold eqV
  rw [beq_toListBytes]
  have hfe : Op.floatEq .f64 x.f y.f = (FloatKind.f64.format.order x.f y.f == some .eq) := rfl
  cases h0 : (x.k == y.k)
  · simp [Op.eqFields, p0, q0, h0]
  cases h1 : (x.n == y.n)
  · simp [Op.eqFields, p0, p1, q0, q1, h0, h1]
  cases h2 : (FloatKind.f64.format.order x.f y.f == some .eq)
  · simp [Op.eqFields, p0, p1, p2, q0, q1, q2, hfe, h0, h1, h2]
  cases h3 : (x.s.toList == y.s.toList)
  · simp [Op.eqFields, p0, p1, p2, p3, q0, q1, q2, q3, hfe, h0, h1, h2, h3]
  cases h4 : (x.r == y.r)
  · simp [Op.eqFields, p0, p1, p2, p3, p4, q0, q1, q2, q3, hfe, h0, h1, h2, h3, h4]
  · simp [Op.eqFields, p0, p1, p2, p3, p4, q0, q1, q2, q3, hfe, h0, h1, h2, h3, h4]
end Go.Proofs.Ytiidepafifodjab
