import Derived.Test.YtiidepafifodjaaRows
import Derived.Test.YtiidepafifodjaaPlain
import Derived.ProofKit
import Derived.OpenShut
import Derived.ChangeOld
import Derived.Test.YtiidepafifodjaaGives
/-! A slice of bytes that came in, opened. -/
namespace Go.Proofs.Ytiidepafifodjaa
open Go.ChangeShapes Go.WideShapes Go.ChangeAt Go.RowKit

theorem Try.own : ownKnob Try.prog.godebug = none := by kernel_rfl
theorem Try.laidOut : laidOutB Try.prog = true := by kernel_rfl

/-- nil, or a row of bytes -/
def IsRow (w : World) (a : Option Addr) (len cap : Nat) (zs : List Int) : Prop :=
  (a = none ∧ len = 0 ∧ cap = 0 ∧ zs = []) ∨
  ∃ x, a = some x ∧ len ≤ cap ∧ cap ≤ maxLen ∧ zs.length = cap ∧ (∀ i, i < zs.length → w.cell? (x.add i) = some (.int .u8 (zs.getD i 0))) ∧ ∀ n ∈ zs, (Lit.int .u8 n).wf = true

theorem cells_byte : Try.prog.cellsOf 5 = 1 := by kernel_rfl

set_option maxRecDepth 100000 in
theorem open_bytes {H : Type} {enc : TypeId × Value → H} {w : World} {base : Nat} {held : Bool} {a : Option Addr} {len cap : Nat} {d : DataW H} {p : List MemPlace} (h : DataW.Trod enc Try.prog w base (fun _ => true) held 38 (.slice a len cap) d p) : ∃ zs, IsRow w a len cap zs := by
  obtain ⟨fuel, hf⟩ := h
  rcases open_ints Try.underlying38 Try.underlying5 cells_byte hf with ⟨hcs, _⟩ | ⟨x, l, c, zs, hcs, _, hl, hm, hz, _, hcell, hwz⟩
  · simp [Value.cells] at hcs
    obtain ⟨rfl, rfl, rfl⟩ := hcs
    exact ⟨[], .inl ⟨rfl, rfl, rfl, rfl⟩⟩
  · simp [Value.cells] at hcs
    obtain ⟨rfl, rfl, rfl⟩ := hcs
    exact ⟨zs, .inr ⟨_, rfl, hl, hm, by simpa using hz, hcell, hwz⟩⟩
end Go.Proofs.Ytiidepafifodjaa

/-! laws.wByte, laws.wWhole, laws.wInt: some byte, some int, its value. -/
namespace Go.Proofs.Ytiidepafifodjaa
open Go.RowKit
attribute [local go_sem] run_store_float

theorem u8_of_wf {x : Int} (h : (Lit.int .u8 x).wf = true) : 0 ≤ x ∧ x ≤ 255 := by
  simp [Lit.wf, IntKind.min, IntKind.max, IntKind.signed, IntKind.bits] at h
  omega

theorem add_none (b off k : Nat) : (⟨b, off, none⟩ : Addr).add k = ⟨b, off + k, none⟩ := by
  cases k <;> simp [Addr.add]

set_option maxRecDepth 100000 in
set_option maxHeartbeats 2000000 in
theorem wByte_calls (a : Option Addr) (len cap : Nat) (zs : List Int) (i : Int) (w : World) (h : IsRow w a len cap zs) (hl : len ≤ 1048576) (hi : 0 ≤ i) (hi' : i ≤ 1000) :
    Calls Try.prog 24 #[.slice a len cap, .int .i64 i] w fun e w' => (∃ v : Int, 0 ≤ v ∧ v ≤ 255 ∧ e = .returned (.int .i64 v)) ∧ w' = w := by
  by_cases h0 : len = 0
  · subst h0
    clear h hl
    go_enter Try.func24, Try.ntmps24; go_wp2
    go_ret; exact ⟨⟨0, by omega, by omega, rfl⟩, rfl⟩
  · rcases h with ⟨_, rfl, _⟩ | ⟨x, rfl, hlc, _, hz, hcell, hwf⟩
    · exact absurd rfl h0
    have hb : (i % len).toNat < zs.length := by
      have := Int.emod_lt_of_pos i (show (0 : Int) < len by omega)
      have := Int.emod_nonneg i (show (len : Int) ≠ 0 by omega)
      omega
    have hc := hcell _ hb
    have hw : 0 ≤ zs.getD (i % len).toNat 0 ∧ zs.getD (i % len).toNat 0 ≤ 255 := by
      refine u8_of_wf (hwf _ ?_)
      rw [List.getD_eq_getElem?_getD, List.getElem?_eq_getElem hb]
      exact List.getElem_mem hb
    obtain ⟨b, off, spot⟩ := x
    have hspot : spot = none := by simpa [Addr.add] using World.cell?_spot (hcell 0 (by omega))
    subst hspot
    rw [add_none] at hc
    have hm0 := Int.emod_nonneg i (show (len : Int) ≠ 0 by omega)
    have hm1 := Int.emod_lt_of_pos i (show (0 : Int) < len by omega)
    generalize zs.getD (i % len).toNat 0 = v at *
    have hc' : w.cell? ⟨b, off + (i % len).toNat, none⟩ = some (.int .u8 v) := hc
    clear hcell hwf hc hz hb
    have hne : ((len : Int) == 0) = false := by simp; omega
    go_enter Try.func24, Try.ntmps24; go_wp2
    go_ret; exact ⟨⟨v, hw.1, hw.2, rfl⟩, rfl⟩

set_option maxRecDepth 100000 in
set_option maxHeartbeats 2000000 in
theorem wInt_calls (n : Int) (w : World) : Calls Try.prog 22 #[.int .i64 n] w fun e w' => e = .returned (vOf 2 n 0 ⟨#[]⟩ 0) ∧ Below w.heap.size w w' := by
  go_enter Try.func22, Try.ntmps22; go_wp2
  exact bodyPost_ret (v := vOf 2 n 0 ⟨#[]⟩ 0) (by simp [results, Try.results22, go_sem]) rfl ⟨rfl, below_alloc _ _⟩

def I64 (v : Int) : Prop := -9223372036854775808 ≤ v ∧ v ≤ 9223372036854775807
theorem wrap64_rng (x : Int) : I64 (wrap64 x) := by
  have := wrap64_wf x
  simp [Lit.wf, IntKind.min, IntKind.max, IntKind.signed, IntKind.bits] at this
  unfold I64; omega

set_option maxRecDepth 100000 in
set_option maxHeartbeats 2000000 in
theorem wWhole_calls (a : Option Addr) (len cap : Nat) (zs : List Int) (i : Int) (w : World) (h : IsRow w a len cap zs) (hl : len ≤ 1048576) (hi : 0 ≤ i) (hi' : i ≤ 100) :
    Calls Try.prog 21 #[.slice a len cap, .int .i64 i] w fun e w' => (∃ v : Int, I64 v ∧ e = .returned (.int .i64 v)) ∧ w' = w := by
  have hR : Hid (∀ j : Int, 0 ≤ j → j ≤ 1000 → Calls Try.prog 24 #[.slice a len cap, .int .i64 j] w fun e w' => (∃ v : Int, 0 ≤ v ∧ v ≤ 255 ∧ e = .returned (.int .i64 v)) ∧ w' = w) := fun j h1 h2 => wByte_calls a len cap zs j w h hl h1 h2
  clear h hl
  go_enter Try.func21, Try.ntmps21
  go_wp2_with fail
  refine (hR.out _ (by omega) (by omega)).mono ?_
  rintro e w1 ⟨⟨v, v0, v1, rfl⟩, rfl⟩
  by_cases h3 : v % 3 = 0
  · have h3' : (v % 3 == 0) = true := by simpa using h3
    go_wp2_with fail
    refine (hR.out _ (by omega) (by omega)).mono ?_
    rintro e w1 ⟨⟨u, u0, u1, rfl⟩, rfl⟩
    go_wp2
    go_ret
    exact ⟨⟨_, by unfold I64; omega, rfl⟩, rfl⟩
  · have h3' : (v % 3 == 0) = false := by simpa using h3
    go_wp2_with fail
    clear h3 h3' v0 v1
    go_loopw [5, 6] (fun n j wr => ∃ (u : Int) (k : Nat), k ≤ 8 ∧ n = .int .u64 u ∧ j = .int .i64 k ∧ wr = w1) (fun _ j _ => 8 - (intOf j).toNat)
    case atStart => exact ⟨0, 0, by omega, rfl, rfl, rfl⟩
    case round =>
      obtain ⟨u, k, hk, rfl, rfl, rfl⟩ := hrel
      by_cases hlt : k < 8
      · go_wp2_with fail
        refine (hR.out _ (by omega) (by omega)).mono ?_
        rintro e w2 ⟨⟨v2, _, _, rfl⟩, rfl⟩
        go_wp2
        go_roundw
        case rel => exact ⟨_, k + 1, by omega, rfl, by go_num, trivial⟩
        case measure => simp [intOf]; omega
      · go_wp2
        go_ret
        exact ⟨⟨_, wrap64_rng _, rfl⟩, rfl⟩
end Go.Proofs.Ytiidepafifodjaa
