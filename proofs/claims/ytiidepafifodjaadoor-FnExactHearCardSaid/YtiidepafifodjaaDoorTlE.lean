import Derived.Test.YtiidepafifodjaaDoorTlD
import Derived.Shelf.Strconv.Itoa3
import Derived.Lib.SmallJoins
import Derived.Deep.RegionWith
import Derived.Deep.RegionLaw
import Derived.Deep.RegionHeld3
import Derived.Deep.DrawnRows
/-! The program's teller: strconv.Itoa by the contract that the shelf holds of it; write. -/
namespace Go.Proofs.YtiidepafifodjaaDoor
open Go.RowKit Go.Shelf
attribute [local go_sem] run_store_float
attribute [local go_sem ↓] Go.wp_at_zero Go.wp_at_succ

def itoaL_ren : Go.Shelf.Ren := ⟨fun | 171 => 40 | 243 => 49 | 246 => 53 | 283 => 57 | 284 => 58 | 285 => 59 | 286 => 60 | 129 => 71 | 317 => 70 | 318 => 72 | 319 => 73 | 320 => 74 | 337 => 80 | 338 => 81 | n => n, fun | 3 => 3 | 9 => 9 | 2 => 2 | 4 => 4 | 171 => 87 | 0 => 0 | 53 => 88 | 37 => 27 | 5 => 5 | 173 => 91 | 212 => 103 | 51 => 104 | 20 => 20 | 213 => 105 | 46 => 95 | 232 => 123 | 233 => 124 | n => n, fun | 17 => 1 | 18 => 4 | 19 => 5 | n => n⟩
theorem itoaL : Go.Proofs.LaysM.n171 Tryd.prog itoaL_ren := {
  mixed := by kernel_rfl
  f129 := Tryd.func71.trans (congrArg some (by kernel_rfl))
  f171 := Tryd.func40.trans (congrArg some (by kernel_rfl))
  f243 := Tryd.func49.trans (congrArg some (by kernel_rfl))
  f246 := Tryd.func53.trans (congrArg some (by kernel_rfl))
  f283 := Tryd.func57.trans (congrArg some (by kernel_rfl))
  f284 := Tryd.func58.trans (congrArg some (by kernel_rfl))
  f285 := Tryd.func59.trans (congrArg some (by kernel_rfl))
  f286 := Tryd.func60.trans (congrArg some (by kernel_rfl))
  f317 := Tryd.func70.trans (congrArg some (by kernel_rfl))
  f318 := Tryd.func72.trans (congrArg some (by kernel_rfl))
  f319 := Tryd.func73.trans (congrArg some (by kernel_rfl))
  f320 := Tryd.func74.trans (congrArg some (by kernel_rfl))
  f337 := Tryd.func80.trans (congrArg some (by kernel_rfl))
  f338 := Tryd.func81.trans (congrArg some (by kernel_rfl))
  t0 := Tryd.underlying0
  a0 := Tryd.isAgg0
  z0 := Tryd.sizeOf0
  v0 := Tryd.zeroValue0
  t2 := Tryd.underlying2
  a2 := Tryd.isAgg2
  z2 := Tryd.sizeOf2
  v2 := Tryd.zeroValue2
  t3 := Tryd.underlying3
  a3 := Tryd.isAgg3
  z3 := Tryd.sizeOf3
  v3 := Tryd.zeroValue3
  t4 := Tryd.underlying4
  a4 := Tryd.isAgg4
  z4 := Tryd.sizeOf4
  v4 := Tryd.zeroValue4
  t5 := Tryd.underlying5
  a5 := Tryd.isAgg5
  z5 := Tryd.sizeOf5
  v5 := Tryd.zeroValue5
  t9 := Tryd.underlying9
  a9 := Tryd.isAgg9
  z9 := Tryd.sizeOf9
  v9 := Tryd.zeroValue9
  t20 := Tryd.underlying20
  a20 := Tryd.isAgg20
  z20 := Tryd.sizeOf20
  v20 := Tryd.zeroValue20
  t37 := Tryd.underlying27
  a37 := Tryd.isAgg27
  z37 := Tryd.sizeOf27
  v37 := Tryd.zeroValue27
  t46 := Tryd.underlying95
  a46 := Tryd.isAgg95
  z46 := Tryd.sizeOf95
  v46 := Tryd.zeroValue95
  t51 := Tryd.underlying104
  a51 := Tryd.isAgg104
  z51 := Tryd.sizeOf104
  v51 := Tryd.zeroValue104
  t53 := Tryd.underlying88
  a53 := Tryd.isAgg88
  z53 := Tryd.sizeOf88
  v53 := Tryd.zeroValue88
  t171 := Tryd.underlying87
  a171 := Tryd.isAgg87
  z171 := Tryd.sizeOf87
  v171 := Tryd.zeroValue87
  t173 := Tryd.underlying91
  a173 := Tryd.isAgg91
  z173 := Tryd.sizeOf91
  v173 := Tryd.zeroValue91
  t212 := Tryd.underlying103
  a212 := Tryd.isAgg103
  z212 := Tryd.sizeOf103
  v212 := Tryd.zeroValue103
  t213 := Tryd.underlying105
  a213 := Tryd.isAgg105
  z213 := Tryd.sizeOf105
  t232 := Tryd.underlying123
  a232 := Tryd.isAgg123
  z232 := Tryd.sizeOf123
  v232 := Tryd.zeroValue123
  t233 := Tryd.underlying124
  a233 := Tryd.isAgg124
  z233 := Tryd.sizeOf124
  v233 := Tryd.zeroValue124
  g17 := by kernel_rfl
  g18 := by kernel_rfl
  g19 := by kernel_rfl
  i0 := by kernel_rfl
  i2 := by kernel_rfl
  i3 := by kernel_rfl
  i4 := by kernel_rfl
  i5 := by kernel_rfl
  i9 := by kernel_rfl
  i20 := by kernel_rfl
  i37 := by kernel_rfl
  i46 := by kernel_rfl
  i51 := by kernel_rfl
  i53 := by kernel_rfl
  i171 := by kernel_rfl
  i173 := by kernel_rfl
  i212 := by kernel_rfl
  i232 := by kernel_rfl
  i233 := by kernel_rfl
  m17 := by kernel_rfl
  m18 := by kernel_rfl
  m19 := by kernel_rfl }

/-- the table of the library's that Itoa reads -/
abbrev TabP (w : World) : Prop := Lib.TabIs Tryd.prog w "internal/strconv.uint64pow10" .u64 Lib.pow10Tab
theorem gPow : Tryd.prog.globalNamed "internal/strconv.uint64pow10" = some 1 := by kernel_rfl
theorem TabP.keep {w w' : World} {B : Nat} (h : TabP w) (hb : Below B w w') (hB : w.heap.size ≤ B) : TabP w' := Joins.tab_stays gPow h hb hB
theorem itoa_calls (n : Int) (w : World) (hn : I64r n) (hT : TabP w) :
    Calls Tryd.prog 40 #[.int .i64 n] w fun e w' => e = .returned (.string (bA (decB n))) ∧ Below w.heap.size w w' := by
  refine Calls.mono (Any.strconv_Itoa itoaL n hn.1 hn.2 w hT) fun e w' ⟨he, k, os, hw⟩ => ⟨by rw [he, decB_itoa n hn]; rfl, ?_⟩
  rw [hw]
  refine ⟨rfl, rfl, rfl, by simp [Sort.grow], fun i hi => ?_⟩
  simp [Sort.grow, World.drewN, Array.getElem?_append_left hi]

/-- the teller, and what it has told -/
structure TL (N Tb : Nat) (u : World) (a : Option Addr) (cap : Nat) (L : List UInt8) : Prop where
  bx : u.heap[Tb]? = some (.cells #[.slice a L.length cap] 46 (0, 0))
  own : OwB N u a cap L
  lt : Tb < N
  sz : N ≤ u.heap.size
  len : L.length ≤ 1000001
theorem TL.cell {N Tb : Nat} {u : World} {a : Option Addr} {cap : Nat} {L : List UInt8} (h : TL N Tb u a cap L) : u.cell? ⟨Tb, 0, none⟩ = some (.slice a L.length cap) := by simp [World.cell?, h.bx]
theorem TL.frozen {N Tb : Nat} {u : World} {a : Option Addr} {cap : Nat} {L : List UInt8} (h : TL N Tb u a cap L) : u.frozen? ⟨Tb, 0, none⟩ = false := by simp [World.frozen?, h.bx]
/-- the teller's own blocks -/
def tlB (Tb : Nat) (a : Option Addr) (k : Nat) : Prop := k = Tb ∨ bkB a k
theorem TL.keep {N Tb : Nat} {u u' : World} {a : Option Addr} {cap : Nat} {L : List UInt8} (h : TL N Tb u a cap L) (hb : Below u.heap.size u u') : TL N Tb u' a cap L := ⟨(hb.block Tb (by have := h.lt; have := h.sz; omega)).trans h.bx, ownsK_below h.own hb, h.lt, Nat.le_trans h.sz hb.size, h.len⟩
theorem TL.alloc {N Tb : Nat} {u : World} {a : Option Addr} {cap : Nat} {L : List UInt8} (h : TL N Tb u a cap L) (o : Obj) : TL N Tb (u.alloc o) a cap L := h.keep (below_alloc _ _)
theorem infoByte' : ∃ i, Tryd.prog.info? 5 = some i ∧ i.zero = some (.int .u8 0) ∧ i.size = 1 ∧ i.bytes = 1 := by
  obtain ⟨i0, hi0, hy0, hy1, hy2⟩ := info_parts infoByte
  exact ⟨i0, hi0, hy0, hy1, hy2⟩

theorem slice_str (s : ByteArray) (m : Nat) (hm : m ≤ s.size) (u : World) : (Instr.slice 9 (.string s) none (some (.int .i64 (m : Int))) none).run Tryd.prog u = .ok (.string (s.extract 0 m)) u := by
  simp [Instr.slice, run_underlying Tryd.underlying9, Instr.sliceBounds, Instr.sliceBound, asIntOf, hm, Result.andThen]
theorem extract_take (s : ByteArray) (m : Nat) : (s.extract 0 m).data.toList = s.data.toList.take m := by
  simp [ByteArray.extract, ByteArray.copySlice]
theorem setBx {Tb : Nat} {u : World} {a a' : Option Addr} {cap cap' : Nat} {n n' : Nat} (hb : u.heap[Tb]? = some (.cells #[.slice a n cap] 46 (0, 0))) : (u.setCell ⟨Tb, 0, none⟩ (.slice a' n' cap')).heap[Tb]? = some (.cells #[.slice a' n' cap'] 46 (0, 0)) := by
  simp [World.setCell, Array.getElem?_modify, hb]
theorem append_str_at {w w7 : World} {N n cap : Nat} {a : Option Addr} {xs : List Value} {v' : Value} {i : TypeInfo} (hi : Tryd.prog.info? 5 = some i) (hz : i.zero = some (.int .u8 0)) (h1 : i.size = 1) (h2 : i.bytes = 1) (hown : w.ownsRow N 5 1 (.slice a n cap) n xs) (s : ByteArray) (hb : n + s.size ≤ 140737488355328)
    (happ : (Builtin.append_ #[27, 9] 27 #[.slice a n cap, .string s]).run Tryd.prog w = .ok v' w7) (hnil : v' = .slice none 0 0 ↔ Value.slice a n cap = .slice none 0 0 ∧ s.size = 0) : v'.ownBlock = (Value.slice a n cap).ownBlock ∨ v'.ownBlock = some w.heap.size := by
  rcases hown.2 with ⟨e, rfl⟩ | ⟨g, cap', cur, e, hbg, hg, hnc, hcm, hcs, htake⟩
  · obtain ⟨rfl, rfl⟩ : a = none ∧ cap = 0 := by simpa using e
    by_cases hm : s.size = 0
    · left; rw [hnil.2 ⟨rfl, hm⟩]
    · have hr := run_append_nil_string (P := Tryd.prog) w 27 9 27 5 i (.int .u8 0) Tryd.underlying27 Tryd.underlying9 hi hz s (by omega) (by omega) (by rw [h2]; omega)
      rw [hr] at happ
      injection happ with h _
      right; rw [← h]; rfl
  · obtain ⟨rfl, rfl⟩ : a = some ⟨g, 0, none⟩ ∧ cap = cap' := by simpa using e
    by_cases hroom : n + s.size ≤ cap
    · have hr := Lib.run_append_room_string (P := Tryd.prog) (w := w) 27 9 27 5 i Tryd.underlying27 Tryd.underlying9 hi h1 g n cap cur hg s hroom (by omega)
      rw [hr] at happ
      injection happ with h _
      left; rw [← h]; rfl
    · have hxl : xs.length = n := by simpa using hown.1
      have holds : ∀ j u, xs[j]? = some u → w.cell? ((⟨g, 0, none⟩ : Addr).add j) = some u := hown.cells (g := g) rfl
      have hr := Lib.run_append_grow_string (P := Tryd.prog) (w := w) 27 9 27 5 i (.int .u8 0) Tryd.underlying27 Tryd.underlying9 hi hz ⟨g, 0, none⟩ n cap xs (by rw [h1]; simpa using hxl) holds s (by omega) (by omega) (by rw [h2]; exact growslice_fits (by omega) (by omega))
      rw [hr] at happ
      injection happ with h _
      right; rw [← h]; rfl

theorem step_append_run {P : Program} {ops : Array Oper} {o : Oper} {a : Act} {w : World} {K : Act → World → Prop} {Q : Exit → Act → World → Prop} {E : Prop} (hgd : o.guard = none) (sl x : Operand) (t u : TypeId) (ho : o.op = .call { callee := .builtin .append, args := #[sl, x], argTypes := #[t, u] })
    (v xv v' : Value) (w' : World) (hs : a.eval sl = v) (hx : a.eval x = xv) (hr : (Builtin.append_ #[t, u] o.type #[v, xv]).run P w = .ok v' w') (h : K (a.put o.dst v') w') :
    if Region.wanted o (yielded ops a.tmps) = true then Oper.wp P o a w K Q else E := by
  have hw : Region.wanted o (yielded ops a.tmps) = true := by simp [Region.wanted, hgd]
  rw [if_pos hw]
  unfold Oper.wp execOp
  simp only [ho, resolve, invoke, builtin, Sem.run_bind, Sem.run_pure, Result.andThen_ok, List.map_toArray, List.map_cons, List.map_nil, hs, hx, hr]
  exact h

set_option maxRecDepth 100000 in
set_option maxHeartbeats 4000000 in
theorem write_calls (N Tb : Nat) (a : Option Addr) (cap : Nat) (L : List UInt8) (s : ByteArray) (w : World) (hs : s.size ≤ 2000000) (hT : TL N Tb w a cap L) :
    Calls Tryd.prog 39 #[.pointer (some ⟨Tb, 0, none⟩), .string s] w fun e w' => e = .returned (.tuple #[]) ∧ (∃ a' cap' L', L' = L ++ s.data.toList.take (1000001 - L.length) ∧ TL N Tb w' a' cap' L' ∧ ∀ k, k < w.heap.size → bkB a' k → bkB a k) ∧ Gx (tlB Tb a) w w' := by
  obtain ⟨m, hm1, hm2, hmm⟩ : ∃ m : Nat, m ≤ s.size ∧ m ≤ 1000001 - L.length ∧ m = min s.size (1000001 - L.length) := ⟨_, Nat.min_le_left _ _, Nat.min_le_right _ _, rfl⟩
  have hlen := hT.len
  obtain ⟨i0, hi0, hy0, hy1, hy2⟩ := infoByte'
  have hes : (s.extract 0 m).size = m := by simp [ByteArray.size_extract]; omega
  have hsl := slice_str s m hm1
  have htk : s.data.toList.take (1000001 - L.length) = s.data.toList.take m := by
    have hsz : s.data.toList.length = s.size := by simp
    rw [hmm]
    by_cases c : s.size ≤ 1000001 - L.length
    · rw [Nat.min_eq_left c, List.take_of_length_le (by omega), List.take_of_length_le (by omega)]
    · rw [Nat.min_eq_right (by omega)]
  have hex := extract_take s m
  rw [htk, ← hex]
  obtain ⟨v', w7, happ, hown, hgrow, hnil⟩ := Lib.run_append_own_string (P := Tryd.prog) (w := w.drew) N 27 9 27 5 i0 Tryd.underlying27 Tryd.underlying9 hi0 hy0 hy1 hy2 (.slice a L.length cap) L.length (byS L) hT.own (s.extract 0 m) (by rw [hes]; unfold maxLen; omega) (by rw [hes]; omega) hT.sz
  have hat := append_str_at (w := w.drew) hi0 hy0 hy1 hy2 hT.own (s.extract 0 m) (by rw [hes]; omega) happ hnil
  obtain ⟨a7, cap7, rfl⟩ := ownsK_form hown
  have HO7 : Hid (OwB N w7 a7 cap7 (L ++ (s.extract 0 m).data.toList)) := by
    show World.ownsRow _ _ _ _ _ _ _
    rw [byS_app, List.length_append]
    have e1 : (s.extract 0 m).data.toList.length = (s.extract 0 m).size := by simp
    rw [e1, byS_str]
    exact hown
  have hTb : Tb < w.heap.size := by have := hT.lt; have := hT.sz; omega
  have hnb : ∀ k, bkB a k → k ≠ Tb := fun k hk => by have := (bkB_lt hT.own hk).1; have := hT.lt; omega
  have HBx : Hid (w7.heap[Tb]? = some (.cells #[.slice a L.length cap] 46 (0, 0))) := (hgrow.block Tb hTb (fun e => hnb Tb ((bkB_own _ _ _ _).1 e.symm) rfl)).trans hT.bx
  have HG7 : Hid (Gx (bkB a) w w7) := (Gx.below (bkB a) ((Below.refl _ w).drew)).trans ((Gx.grown hgrow).mono (fun k e => (bkB_own _ _ _ _).1 e)) (fun _ _ h => h)
  have HA7 : Hid (∀ k, k < w.heap.size → bkB a7 k → bkB a k) := own_next (w := w.drew) (fun _ _ h => h) (Nat.le_refl _) hat
  have hc := hT.cell
  have hf := hT.frozen
  have hc7 : w7.cell? ⟨Tb, 0, none⟩ = some (.slice a L.length cap) := by simp [World.cell?, HBx.out]
  have hf7 : w7.frozen? ⟨Tb, 0, none⟩ = false := by simp [World.frozen?, HBx.out]
  have HN : Hid (Tb < N ∧ N ≤ w.heap.size) := ⟨hT.lt, hT.sz⟩
  have hml : L.length + (s.extract 0 m).size ≤ 1000001 := by rw [hes]; omega
  have HF : Hid ((s.extract 0 m).data.toList.length = (s.extract 0 m).size) := by show _ = _; simp
  clear hT hown hgrow hat hnil hnb hex htk
  generalize s.extract 0 m = s1 at *
  have hmin : ∀ u : World, (Builtin.min_ #[3, 3] 3 #[.int .i64 (s.size : Int), .int .i64 (1000001 - (L.length : Int))]).run Tryd.prog u = .ok (.int .i64 (m : Int)) u := fun u => by
    simp [Builtin.min_, Builtin.min2]
    omega
  have hll : (L ++ s1.data.toList).length = L.length + m := by rw [List.length_append, HF.out, hes]
  have HFin : Hid (Ending.returned (.tuple #[]) = Ending.returned (.tuple #[]) ∧ (∃ a' cap' L', L' = L ++ s1.data.toList ∧ TL N Tb (w7.setCell ⟨Tb, 0, none⟩ (.slice a7 (L.length + m) cap7)) a' cap' L' ∧ ∀ k, k < w.heap.size → bkB a' k → bkB a k) ∧ Gx (tlB Tb a) w (w7.setCell ⟨Tb, 0, none⟩ (.slice a7 (L.length + m) cap7))) := by
    refine ⟨rfl, ⟨a7, cap7, _, rfl, ⟨by rw [hll]; exact setBx HBx.out, ?_, HN.out.1, ?_, by rw [hll]; omega⟩, HA7.out⟩, ?_⟩
    · exact ownsK_set HO7.out _ (fun k e => by have := (bkB_lt HO7.out ((bkB_own _ _ _ _).1 e)).1; have := HN.out.1; omega)
    · have h1 := HG7.out.size; have h2 := HN.out.2; simp; omega
    · exact (HG7.out.mono (fun k e => .inr e)).trans (Gx.set _ _ _ _) (fun k _ e => .inl e)
  clear hmm hm1 hm2 hll HO7 HG7 HA7 HBx
  go_enter Tryd.func39, Tryd.ntmps39
  go_wp2_with fail
  go_region_law ((refine step_append_run (by rfl) _ _ _ _ (by rfl) (.slice a L.length cap) (.string s1) _ _ (by rfl) (by rfl) happ ?_))
  all_goals go_end0
  all_goals exact ⟨rfl, HFin.out.2⟩
end Go.Proofs.YtiidepafifodjaaDoor
