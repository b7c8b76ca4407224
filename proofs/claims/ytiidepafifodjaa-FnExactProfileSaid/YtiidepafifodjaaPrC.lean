import Derived.Test.YtiidepafifodjaaPrK
/-! slices.AppendSeq, slices.Collect over the keys. -/
namespace Go.Proofs.Ytiidepafifodjaa
open Go.RowKit Go.Shelf
attribute [local go_sem] run_store_float
attribute [local go_sem] Oper.semAt_some

def spS : List SP → List Value
  | [] => []
  | c :: r => .int .i64 c.1 :: .int .i64 c.2 :: spS r
theorem spS_append : ∀ xs ys : List SP, spS (xs ++ ys) = spS xs ++ spS ys
  | [], _ => rfl
  | c :: r, ys => by simp only [List.cons_append, spS, spS_append r ys]
theorem infoSpot : (Try.prog.info? 86).map (fun i => (i.zero, i.size, i.bytes)) = some (some (.agg #[.int .i64 0, .int .i64 0]), 2, 16) := by kernel_rfl
theorem spS_own {u : World} {N : Nat} {v : Value} {xs : List SP} {x : SP} (ho : u.ownsRow N 86 2 v (xs.length + 1) (spS xs ++ [.int .i64 x.1, .int .i64 x.2])) : u.ownsRow N 86 2 v (xs ++ [x]).length (spS (xs ++ [x])) := by
  rw [spS_append, List.length_append]
  exact ho
theorem KeepsOthers.walks {W W' : World} (h : KeepsOthers W W') : KeepsWalks W W' := ⟨h.size, fun k o hk hw => h.same k o hk (Obj.not_cells_of_walk hw)⟩

set_option maxRecDepth 100000 in
set_option maxHeartbeats 4000000 in
theorem appendSeq_in (F : Fence) (n : Nat) (hA : F.fn 134) (hK1 : F.fn 103) (hro : F.round = none) (hn : 3 ≤ n) (Bm b : Nat) (L : List (SP × Int)) (w : World) (hL : L.length ≤ 1048576) (hBm : Bm < w.heap.size) (c1 : w.cell? ⟨Bm, 0, none⟩ = some (.map (some b))) (hM : MapH w b L) :
    CallsIn F n Try.prog 134 #[.slice none 0 0, .func (.func 103) #[] #[.pointer (some ⟨Bm, 0, none⟩)]] w fun e w' => ∃ (v : Value) (ys : List SP), e = .returned v ∧ ys.Perm (L.map (·.1)) ∧ w'.ownsRow w.heap.size 86 2 v ys.length (spS ys) ∧ Below w.heap.size w w' := by
  have h1 : 1 ≤ n := by omega
  obtain ⟨i0, hi0, hy0, hy1, hy2⟩ := info_parts infoSpot
  refine callsIn_of_wp_marks Try.func134 rfl hA ?_ hro
  simp only [Try.ntmps134, List.size_toArray, List.length_cons, List.length_nil, Nat.reduceAdd, Nat.reduceSub, Array.replicate_succ, Array.replicate_zero, List.push_toArray, List.append_toArray, List.nil_append, List.cons_append]
  gi_wp2
  have b0 : Below w.heap.size w (w.alloc (.cells #[.slice none 0 0] 87)) := (Below.refl _ _).alloc (Nat.le_refl _) _
  have hM0 := hM.alloc (.cells #[.slice none 0 0] 87)
  have c0 : (w.alloc (.cells #[.slice none 0 0] 87)).cell? ⟨Bm, 0, none⟩ = some (.map (some b)) := (b0.cell (p := ⟨Bm, 0, none⟩) hBm).trans c1
  have bx0 : Boxed (w.alloc (.cells #[.slice none 0 0] 87)) w.heap.size 87 (.slice none 0 0) := Boxed.new _ _ _
  have hsz : (w.alloc (.cells #[.slice none 0 0] 87)).heap.size = w.heap.size + 1 := by simp
  obtain ⟨W0, hW0⟩ : ∃ W0, w.alloc (.cells #[.slice none 0 0] 87) = W0 := ⟨_, rfl⟩
  rw [hW0] at b0 hM0 c0 bx0 hsz ⊢
  clear hW0 hM c1
  refine wpIn_rangeFunc_ownH hro h1 (gf := 103) (lb := #[.pointer (some ⟨Bm, 0, none⟩)]) rfl hK1 (enters_of Try.func103 (by kernel_rfl) rfl)
    (keys_stops F (n - 1) hK1 hro (by omega) Bm b L W0 (by omega) c0 hM0) walksK_t walksK_b (Below.refl _ _) (fun _ => rfl)
    (fun pre W => (∃ v, Boxed W w.heap.size 87 v ∧ W.ownsRow w.heap.size 86 2 v pre.length (spS pre) ∧ True) ∧ Below w.heap.size w W)
    (fun _ _ _ => False)
    (OwnFrom.and (Own.from (holdsRow_own w.heap.size w.heap.size 87 86 2 (fun pre => pre.length) (fun pre => spS pre) (fun _ _ => True)) _) (ownFrom_below (Nat.le_refl _) (by omega)))
    (fun _ _ _ _ _ hs _ _ => hs)
    ⟨⟨_, bx0, World.ownsRow_nil _ _ _ _, trivial⟩, b0⟩
    (fun x a' W => ∃ Bx, W0.heap.size ≤ Bx ∧ Bx < W.heap.size ∧ (∀ o, W.cell? ⟨Bx, o, none⟩ = (#[Value.int .i64 x.1, Value.int .i64 x.2] : Array Value)[o]?) ∧ a' = { tmps := #[.slice none 0 0, .func (.func 103) #[] #[.pointer (some ⟨Bm, 0, none⟩)], .pointer (some ⟨w.heap.size, 0, none⟩), undef, .slice none 0 0, .pointer (some ⟨Bx, 0, none⟩), .func (.func 103) #[] #[.pointer (some ⟨Bm, 0, none⟩)], spV x, undef, undef, undef, undef, undef], defers := [] })
    (fun x a' _ X' Y row hs hg hr => by
      obtain ⟨Bx, h1, hl, h2, h3⟩ := hs
      refine ⟨Bx, h1, Nat.lt_of_lt_of_le hl hg.size, fun o => ?_, h3⟩
      obtain ⟨ob, ho, hc⟩ := cells_of_cell (h2 0)
      exact (World.cell?_of_block (w := X') (w' := Y) (a := ⟨Bx, o, none⟩) (grownBy_keeps_cells hg (fun r e => (hr r e).2) ho hc)).trans (h2 o))
    ?assign ?body ?done ?stop
  case assign =>
    rintro l pre x W K ⟨⟨v, hv, hr, _⟩, hB⟩ hK
    gi_wp2
    exact hK _ _ ((KeepsOthers.alloc _ _).from _) (KeepsWalks.alloc _ _) ⟨⟨v, hv.alloc _, hr.alloc _, trivial⟩, hB.alloc hB.size _⟩ ⟨W.heap.size, (by have := hv.lt; omega), by simp, fun o => World.cell?_alloc_new _ _ _ o, rfl⟩
  case body =>
    rintro l pre x a' W hl ⟨r, hr⟩ ⟨⟨v, hv, hrow, _⟩, hB⟩ ⟨Bx, hBx, hBl, bX, rfl⟩ hlt
    obtain ⟨av, capv, rfl⟩ := ownsK_form hrow
    have hc := hv.cell
    have hx0 : W.cell? ⟨Bx, 0, none⟩ = some (.int .i64 x.1) := bX 0
    have hx1 : W.cell? ⟨Bx, 1, none⟩ = some (.int .i64 x.2) := bX 1
    have HV : Hid (Boxed W w.heap.size 87 (.slice av pre.length capv)) := hv
    have HRow : Hid (W.ownsRow w.heap.size 86 2 (.slice av pre.length capv) pre.length (spS pre)) := hrow
    have HB : Hid (Below w.heap.size w W) := hB
    clear hv hrow hB bX hr
    gi_wp2_with (gi_at_builtin; refine wpListIn_append_own _ rfl _ _ 87 rfl w.heap.size 86 i0 _ 2 16 Try.underlying87 hi0 hy0 hy1 hy2 rfl (by decide) (.slice av pre.length capv) pre.length (spS pre) rfl (HRow.out.alloc _) ⟨W.heap.size, 0, none⟩ 1 1 [.int .i64 x.1, .int .i64 x.2] rfl rfl (new_news _ #[.int .i64 x.1, .int .i64 x.2] _) (by simp [Value.oneCell']) (by unfold maxLen; omega) (by omega) (by have := HB.out.size; simp; omega) ?_; intro v' w7 hown hgrow _; obtain ⟨g', cap', rfl⟩ := ownsRow_succ hown; obtain ⟨hv1, hv2, hr2, hk2, hb2⟩ := HV.out.appended (by decide) HRow.out HB.out.size (Nat.le_refl _) hown hgrow; have hc1 := hv1.cell; have hf1 := hv1.frozen)
    exact ⟨hk2.from _, KeepsOthers.walks hk2, ⟨_, hv2, spS_own hr2, trivial⟩, HB.out.trans hb2⟩
  case done =>
    rintro D ys W hD hS ⟨⟨v, hv, hrow, _⟩, hB⟩ hK
    obtain ⟨av, capv, rfl⟩ := ownsK_form hrow
    have hc := hv.cell
    have HS : Hid (ys.Perm (L.map (·.1))) := hS
    have HRow : Hid (W.ownsRow w.heap.size 86 2 (.slice av ys.length capv) ys.length (spS ys)) := hrow
    have HB : Hid (Below w.heap.size w W) := hB
    clear hS hrow hB
    gi_wp2
    refine ⟨by simp, .inl ⟨_, _, rfl, run_takeDeferred hK, ?_⟩⟩
    exact ⟨_, results_tmp rfl _ _ _, _, ys, rfl, HS.out, ownsRow_putObj HRow.out _ hK rfl, HB.out.trans (belowK_b (w := w) (Nat.le_refl _) _ D _ _ (by omega) hK rfl rfl)⟩
  case stop =>
    rintro D c pre W _ _ h _
    exact h.elim

set_option maxRecDepth 100000 in
set_option maxHeartbeats 2000000 in
theorem collect_in (F : Fence) (n : Nat) (hC : F.fn 101) (hA : F.fn 134) (hK1 : F.fn 103) (hro : F.round = none) (hn : 4 ≤ n) (Bm b : Nat) (L : List (SP × Int)) (w : World) (hL : L.length ≤ 1048576) (hBm : Bm < w.heap.size) (c1 : w.cell? ⟨Bm, 0, none⟩ = some (.map (some b))) (hM : MapH w b L) :
    CallsIn F n Try.prog 101 #[.func (.func 103) #[] #[.pointer (some ⟨Bm, 0, none⟩)]] w fun e w' => ∃ (v : Value) (ys : List SP), e = .returned v ∧ ys.Perm (L.map (·.1)) ∧ w'.ownsRow w.heap.size 86 2 v ys.length (spS ys) ∧ Below w.heap.size w w' := by
  have h1 : 1 ≤ n := by omega
  refine callsIn_of_wp Try.func101 rfl hC ?_ hro
  simp only [Try.ntmps101, List.size_toArray, List.length_cons, List.length_nil, Nat.reduceAdd, Nat.reduceSub, Array.replicate_succ, Array.replicate_zero, List.push_toArray, List.append_toArray, List.nil_append, List.cons_append]
  gi_wp2_with (gi_at_call 134; refine (appendSeq_in F (n - 1) hA hK1 hro (by omega) Bm b L w hL hBm c1 hM).mono ?_; rintro e w' ⟨v, ss, rfl, hS, hrow, hb⟩)
  go_ret
  exact ⟨v, ss, rfl, hS, hrow, hb⟩
theorem collect_calls (Bm b : Nat) (L : List (SP × Int)) (w : World) (hL : L.length ≤ 1048576) (hBm : Bm < w.heap.size) (c1 : w.cell? ⟨Bm, 0, none⟩ = some (.map (some b))) (hM : MapH w b L) :
    Calls Try.prog 101 #[.func (.func 103) #[] #[.pointer (some ⟨Bm, 0, none⟩)]] w fun e w' => ∃ (v : Value) (ys : List SP), e = .returned v ∧ ys.Perm (L.map (·.1)) ∧ w'.ownsRow w.heap.size 86 2 v ys.length (spS ys) ∧ Below w.heap.size w w' :=
  callsIn_wide.1 (collect_in Fence.wide 4 trivial trivial trivial rfl (Nat.le_refl _) Bm b L w hL hBm c1 hM)
theorem keys_calls (mb : Option Nat) (w : World) :
    Calls Try.prog 53 #[.map mb] w fun e w' => e = .returned (.func (.func 103) #[] #[.pointer (some ⟨w.heap.size, 0, none⟩)]) ∧ w' = w.alloc (.cells #[.map mb] 84) :=
  callsIn_wide.1 (keys_in Fence.wide 1 trivial rfl mb w)
end Go.Proofs.Ytiidepafifodjaa
