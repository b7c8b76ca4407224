import Derived.Test.YtdialodjllpgaaaGreatDoorCnV
import Derived.Laws.Externs
import Derived.Laws.LoneSync
import Derived.Test.YtdialodjllpgaaaGreatDoorImU
import Derived.Test.YtdialodjllpgaaaGreatDoorDepB
import Derived.Test.YtdialodjllpgaaaGreatDoorSkN
import Derived.Test.YtdialodjllpgaaaGreatDoorImB
import Derived.Test.YtdialodjllpgaaaGreatDoorSet
import Derived.Test.YtdialodjllpgaaaGreatDoorChecked
import Derived.RowKit
import Derived.Below
/-! sync.WaitGroup's Wait where nothing is waited for. -/
namespace Go.Proofs.YtdialodjllpgaaaGreatDoor
open Go.RowKit
attribute [local go_sem] run_store_float
attribute [local go_sem ↓] Go.wp_at_zero Go.wp_at_succ

theorem ex_disable (w : World) : (callFunc 56 #[]).run Tryz.prog w = .ok (.value (.tuple #[])) w := by
  rw [run_callFunc_extern Tryz.func56 (by kernel_rfl) (by kernel_rfl) (by kernel_rfl) (show Extern.find Tryz.f56 = some (fun _ => do mark .disable; pure (.tuple #[])) by kernel_rfl)]
  rfl
theorem ex_enable (w : World) : (callFunc 58 #[]).run Tryz.prog w = .ok (.value (.tuple #[])) w := by
  rw [run_callFunc_extern Tryz.func58 (by kernel_rfl) (by kernel_rfl) (by kernel_rfl) (show Extern.find Tryz.f58 = some (fun _ => do mark .enable; pure (.tuple #[])) by kernel_rfl)]
  rfl
theorem ex_acquire (a : Addr) (w : World) : (callFunc 59 #[.pointer (some a)]).run Tryz.prog w = .ok (.value (.tuple #[])) w := by
  rw [run_callFunc_extern Tryz.func59 (by kernel_rfl) (by kernel_rfl) (by kernel_rfl) (show Extern.find Tryz.f59 = some (Extern.Race.marked .acquire) by kernel_rfl)]
  rfl
theorem ex_load (a : Addr) (n : Int) (w : World) (h : w.cell? a = some (.int .u64 n)) : (callFunc 95 #[.pointer (some a)]).run Tryz.prog w = .ok (.value (.int .u64 n)) w := by
  rw [run_callFunc_extern Tryz.func95 (by kernel_rfl) (by kernel_rfl) (by kernel_rfl) (show Extern.find Tryz.f95 = some (Extern.Atomic.loadT (.int .u64)) by kernel_rfl)]
  change ((Sem.run Tryz.prog (asAddr (.pointer (some a)) >>= fun x => Extern.Atomic.read (.int .u64) x) w)).andThen _ = _
  simp [Extern.Atomic.read, asAddr, h, go_sem]
set_option maxRecDepth 100000 in
set_option maxHeartbeats 4000000 in
theorem ld64_calls (M : Nat) (w : World) (h : w.cell? ⟨M, 25, none⟩ = some (.int .u64 0)) :
    Calls Tryz.prog 57 #[.pointer (some ⟨M, 25, none⟩)] w fun e w' => e = .returned (.int .u64 0) ∧ w' = w := by
  have x4 := ex_load ⟨M, 25, none⟩ 0 w h
  go_enter Tryz.func57, Tryz.ntmps57
  go_wp2_with fail
  go_ret
  exact ⟨rfl, rfl⟩
set_option maxRecDepth 100000 in
set_option maxHeartbeats 4000000 in
theorem wait_calls (M : Nat) (w : World) (h : w.cell? ⟨M, 25, none⟩ = some (.int .u64 0)) :
    Calls Tryz.prog 24 #[.pointer (some ⟨M, 25, none⟩)] w fun e w' => e = .returned (.tuple #[]) ∧ w' = w := by
  have x1 := ex_disable
  have x2 := ex_enable
  have x3 := ex_acquire
  have xb : bits BinOp.and IntKind.u64 0 2147483647 = 0 := by decide
  have xb2 : bits BinOp.and IntKind.u64 0 2147483648 = 0 := by decide
  have xc := run_convert_to_unsafe (P := Tryz.prog) (src := 135) (dst := 139) (t := 78) Tryz.underlying135 Tryz.underlying139 (by kernel_rfl) h
  go_enter Tryz.func24, Tryz.ntmps24
  go_wp2_with fail
  go_loopw [2] (fun _ wr => wr = w) (fun _ _ => 0)
  case atStart => exact rfl
  case round =>
    subst hrel
    go_wp2_with fail
    refine (ld64_calls M _ h).mono ?_
    rintro e w1 ⟨rfl, rfl⟩
    go_wp2_with fail
    exact bodyPost_ret (v := .tuple #[]) (by simp [results, Tryz.results24, go_sem]) rfl ⟨rfl, rfl⟩
end Go.Proofs.YtdialodjllpgaaaGreatDoor

/-! The program's CheckUnit, whole. -/
namespace Go.Proofs.YtdialodjllpgaaaGreatDoor
open Go.RowKit

theorem scopeSays : ScopeSays := fun L u a cap fas w hs h5 _ hc hT => scopeFault_calls L u a cap fas w hs h5 hc hT
theorem implCheck_calls (L : Nat) (u : UD) (a : Option Addr) (cap : Nat) (fas : Nat → FA) (w : World) (hs : u.sm) (hc : ∀ i, i < u.n → CapF (u.fn i) (fas i)) (hT : FnsAt L w u.n u.fn a fas) :
    Calls Tryz.prog 20 #[unV u a cap] w fun e w' => FtPost (BadU u) w e w' := checkUnit_of depSays scopeSays L u a cap fas w hs hc hT
end Go.Proofs.YtdialodjllpgaaaGreatDoor

/-! laws.wByte, laws.wWhole, laws.wInt: some byte, some int, its value. -/
namespace Go.Proofs.YtdialodjllpgaaaGreatDoor
open Go.RowKit
attribute [local go_sem] run_store_float

theorem u8_of_wf {x : Int} (h : (Lit.int .u8 x).wf = true) : 0 ≤ x ∧ x ≤ 255 := by
  simp [Lit.wf, IntKind.min, IntKind.max, IntKind.signed, IntKind.bits] at h
  omega

theorem add_none (b off k : Nat) : (⟨b, off, none⟩ : Addr).add k = ⟨b, off + k, none⟩ := by
  cases k <;> simp [Addr.add]

set_option maxRecDepth 100000 in
set_option maxHeartbeats 2000000 in
theorem wByte_calls (a : Option Addr) (len cap : Nat) (zs : List Int) (i : Int) (w : World) (h : IsRow w a len cap zs) (hl : len ≤ 1048576) (hi : 0 ≤ i) (hi' : i ≤ 1000) :
    Calls Tryz.prog 4 #[.slice a len cap, .int .i64 i] w fun e w' => (∃ v : Int, 0 ≤ v ∧ v ≤ 255 ∧ e = .returned (.int .i64 v)) ∧ w' = w := by
  by_cases h0 : len = 0
  · subst h0
    clear h hl
    go_enter Tryz.func4, Tryz.ntmps4; go_wp2
    go_ret; exact ⟨⟨0, by omega, by omega, rfl⟩, rfl⟩
  · rcases h with ⟨_, rfl, _⟩ | ⟨x, rfl, hlc, _, hz, hcell, hwf⟩
    · exact absurd rfl h0
    have hb : (i % len).toNat < zs.length := by
      have := Int.emod_lt_of_pos i (show (0 : Int) < len by omega)
      have := Int.emod_nonneg i (show (len : Int) ≠ 0 by omega)
      omega
    have hc := hcell _ hb
    have hw : 0 ≤ zs.getD (i % len).toNat 0 ∧ zs.getD (i % len).toNat 0 ≤ 255 := by
      refine u8_of_wf (hwf _ ?_)
      rw [List.getD_eq_getElem?_getD, List.getElem?_eq_getElem hb]
      exact List.getElem_mem hb
    obtain ⟨b, off, spot⟩ := x
    have hspot : spot = none := by simpa [Addr.add] using World.cell?_spot (hcell 0 (by omega))
    subst hspot
    rw [add_none] at hc
    have hm0 := Int.emod_nonneg i (show (len : Int) ≠ 0 by omega)
    have hm1 := Int.emod_lt_of_pos i (show (0 : Int) < len by omega)
    generalize zs.getD (i % len).toNat 0 = v at *
    have hc' : w.cell? ⟨b, off + (i % len).toNat, none⟩ = some (.int .u8 v) := hc
    clear hcell hwf hc hz hb
    have hne : ((len : Int) == 0) = false := by simp; omega
    go_enter Tryz.func4, Tryz.ntmps4; go_wp2
    go_ret; exact ⟨⟨v, hw.1, hw.2, rfl⟩, rfl⟩

def I64 (v : Int) : Prop := -9223372036854775808 ≤ v ∧ v ≤ 9223372036854775807
end Go.Proofs.YtdialodjllpgaaaGreatDoor

/-! The library's variable that is asked by errors.As. -/
namespace Go.Proofs.YtdialodjllpgaaaGreatDoor
open Go.RowKit

/-- the handle of a type -/
abbrev hT (t : Nat) : Value := .pointer (some ⟨9, t, none⟩)
/-- the library's variable that is asked by errors.As is laid -/
def EtP (w : World) : Prop := w.cell? ⟨0, 0, none⟩ = some (.iface 227 (.agg #[hT 127]))
theorem EtP.lt {w : World} (h : EtP w) : 0 < w.heap.size := by
  rcases Nat.lt_or_ge 0 w.heap.size with c | c
  · exact c
  · have h' : w.cell? ⟨0, 0, none⟩ = some (.iface 227 (.agg #[hT 127])) := h
    simp [World.cell?, Array.getElem?_eq_none c] at h'
theorem EtP.keep {w w' : World} {B : Nat} (h : EtP w) (hb : Below B w w') (hB : w.heap.size ≤ B) : EtP w' :=
  (World.cell?_of_block (a := ⟨0, 0, none⟩) (hb.block _ (Nat.lt_of_lt_of_le h.lt hB))).trans h
end Go.Proofs.YtdialodjllpgaaaGreatDoor
