import Derived.Test.YtcpjnddkibbddaaGreatSkN
/-! The program's scopes: what is declared twice, walked. -/
namespace Go.Proofs.YtcpjnddkibbddaaGreat
open Go.RowKit
attribute [local go_sem] run_store_float
attribute [local go_sem ↓] Go.wp_at_zero Go.wp_at_succ

set_option maxRecDepth 100000 in
set_option maxHeartbeats 4000000 in
theorem declaredTwice_calls (C : CX) (hC : C.ok) (hvn : C.d.vn ≤ 200) (hpp : 0 ≤ C.d.params ∧ C.d.params ≤ C.d.vn) (st : List Int) (ins : Nat) (x : FT) (a : Option Addr) (cap : Nat) (P : FT → Prop) (w : World) (hS : SS C st ins x a cap w) (hL : Least P x) :
    Calls Tryz.prog 125 #[.pointer (some ⟨C.S, 0, none⟩)] w fun e w' => e = .returned (.tuple #[]) ∧ VPost C st ins (fun y => P y ∨ ∃ z, z < C.d.nn ∧ NoteD C.u C.f z y) a w w' := by
  have HS : Hid (SS C st ins x a cap w) := hS
  have HL : Hid (Least P x) := hL
  have HC : Hid C.ok := hC
  have hnn := hC.nn
  obtain ⟨p, hp⟩ : ∃ p : Nat, C.d.params = p := ⟨C.d.params.toNat, by omega⟩
  have hpn : p ≤ C.d.vn := by omega
  have HPp : Hid (C.d.params = p) := hp
  have c6 := hS.c6
  have c4 := hS.c4
  have c8 := hS.c8
  have hlt := hS.lt
  rw [hp] at c4
  obtain ⟨o1, o2, o3⟩ := hS.other (Nat.le_refl w.heap.size)
  have HO : Hid (w.heap.size ≠ C.S ∧ w.heap.size ≠ C.T ∧ bkOf a ≠ some w.heap.size) := ⟨o1, o2, o3⟩
  have hge : C.w0.heap.size ≤ w.heap.size := hS.b.size
  clear hS hL hC hp hpp o1 o2 o3
  have hmk := fun v => run_make_row' (P := Tryz.prog) 81 4 (.bool false) 1 Tryz.underlying81 infoBool rfl .i64 .i64 C.d.vn (by omega) (by omega) v
  go_enter Tryz.func125, Tryz.ntmps125
  go_wp2_with fail
  clear hmk
  obtain ⟨w1, hw1⟩ : ∃ w1, w1 = w.alloc (.cells (madeCells #[.bool false] C.d.vn) 4) := ⟨_, rfl⟩
  have HS1 : Hid (SS C st ins x a cap w1) := by show SS _ _ _ _ _ _ _; rw [hw1]; exact HS.out.alloc _
  have HM1 : Hid (Mv C.S C.T a w a w1) := by show Mv _ _ _ _ _ _; rw [hw1]; exact (Mv.refl _ _ _ _).alloc _
  have HR1 : Hid (w1.rowIs w.heap.size 4 C.d.vn (fun i => .bool (decide (i < 0)))) := by
    show World.rowIs _ _ _ _ _
    rw [hw1]
    exact rowMade w (.bool false) 4 rfl
  rw [← hw1]
  clear hw1 c6 c4 c8 hlt
  go_loopw [20] (fun i wr => ∃ (k : Nat), k ≤ p ∧ i = .int .i64 k ∧ Hid (SS C st ins x a cap wr) ∧ Hid (wr.rowIs w.heap.size 4 C.d.vn (fun i => .bool (decide (i < k)))) ∧ Hid (Mv C.S C.T a w a wr)) (fun i _ => p - (intOf i).toNat)
  case atStart => exact ⟨0, Nat.zero_le _, rfl, HS1, HR1, HM1⟩
  case round =>
    clear HS1 HR1 HM1
    obtain ⟨k, hk, rfl, HSk, HRk, HMk⟩ := hrel
    by_cases hkp : k < p
    · have r0 := World.rowIs.cell HRk.out (i := k) (by omega)
      have rz := World.rowIs.frozen HRk.out
      have HR2 : Hid ((wr.setCell ⟨w.heap.size, k, none⟩ (.bool true)).rowIs w.heap.size 4 C.d.vn (fun i => .bool (decide (i < k + 1)))) := (World.rowIs.set HRk.out k _).congr fun i _ => by
        by_cases e : i = k
        · subst e
          rw [if_pos rfl, decide_eq_true (by omega)]
        · rw [if_neg e]
          by_cases c : i < k
          · rw [decide_eq_true c, decide_eq_true (by omega)]
          · rw [decide_eq_false c, decide_eq_false (by omega)]
      have HS2 : Hid (SS C st ins x a cap (wr.setCell ⟨w.heap.size, k, none⟩ (.bool true))) := HSk.out.far hge HO.out.1 HO.out.2.1 HO.out.2.2 _ _
      have HM2 : Hid (Mv C.S C.T a w a (wr.setCell ⟨w.heap.size, k, none⟩ (.bool true))) := HMk.out.new (Nat.le_refl _) _ _
      go_wp2_with fail
      go_roundw
      case rel => exact ⟨k + 1, by omega, by go_num, HS2, HR2, HM2⟩
      case measure => simp [intOf]; omega
    · obtain rfl : k = p := by omega
      have HD1 : Hid (DT C st ins w.heap.size 0 0 x a cap wr) := ⟨HSk.out, World.rowIs.congr HRk.out fun i _ => by
        have h := seen_first HPp.out i
        by_cases c : i < k
        · rw [decide_eq_true c, dB_true (h.1 c)]
        · rw [decide_eq_false c, dB_false (fun h' => c (h.2 h'))], HO.out, hge, World.rowIs.lt HRk.out⟩
      have c8 := HSk.out.c8
      clear HSk HRk
      have HMw := HMk
      go_wp2_with fail
      clear c8 HMk
      go_loopw [33] (fun i wr => ∃ (m : Nat) (x' : FT), m ≤ C.d.nn ∧ i = .int .i64 m ∧ Hid (DT C st ins w.heap.size m 0 x' a cap wr) ∧ Hid (Least (fun y => P y ∨ NoteE C.u C.f m 0 y) x') ∧ Hid (Mv C.S C.T a w a wr)) (fun i _ => C.d.nn - (intOf i).toNat)
      case atStart => exact ⟨0, x, Nat.zero_le _, rfl, HD1, HL.out.congr fun y => ⟨.inl, fun h => h.resolve_right (noteE_zero _ _ _)⟩, HMw⟩
      case round =>
        clear HD1 HMw
        obtain ⟨m, x', hm, rfl, HD, HLm, HM⟩ := hrel
        by_cases hmn : m < C.d.nn
        · obtain ⟨b, off, e0, _, hb, d0, d1, d2, d3, d4, d5, d6, d7⟩ := cells8 ((HD.out.ss.fns HC.out).2 C.f HC.out.f).2.2.1 hmn
          rw [show C.fas C.f = C.fa from rfl] at e0
          rw [e0]
          have hset : setB 4484 ((C.u.fn C.f).nd m).k = dcK ((C.u.fn C.f).nd m).k := setDc _
          have hrn := HC.out.rn hmn
          obtain ⟨b2, o2, e2⟩ : ∃ b2 o2, 0 < (C.d.nd m).rn → (C.fa.nas m).ra = some ⟨b2, o2, none⟩ := by
            by_cases c : 0 < (C.d.nd m).rn
            · obtain ⟨b2, o2, e2, _⟩ := (((HD.out.ss.fns HC.out).2 C.f HC.out.f).2.2.2 m hmn).1 c
              exact ⟨b2, o2, fun _ => e2⟩
            · exact ⟨0, 0, fun h => absurd h c⟩
          have HE2 : Hid (0 < (C.d.nd m).rn → (C.fa.nas m).ra = some ⟨b2, o2, none⟩) := e2
          have HD2 : Hid (DT C st ins w.heap.size m 0 x' a cap (wr.alloc (.cells (nodeC ((C.u.fn C.f).nd m) ((C.fas C.f).nas m)) 48))) := HD.out.alloc _
          have HM2 : Hid (Mv C.S C.T a w a (wr.alloc (.cells (nodeC ((C.u.fn C.f).nd m) ((C.fas C.f).nas m)) 48))) := HM.out.alloc _
          clear e2
          rename World => wa
          by_cases hdk : DeclK ((C.u.fn C.f).nd m).k
          · rw [show dcK ((C.u.fn C.f).nd m).k = true from dB_true hdk] at hset
            have HDK : Hid (DeclK ((C.u.fn C.f).nd m).k) := hdk
            clear hdk e0
            go_wp2_with (go_at_call 19; refine (has_calls 4484 (by decide) _ _).mono ?_; rw [hset]; rintro e w2 ⟨rfl, rfl⟩)
            clear d0 d1 d2 d3 d4 d5 d6 d7 hset HD HM
            go_loopw [45] (fun i wr => ∃ (j : Nat) (x'' : FT), j ≤ (C.d.nd m).rn ∧ i = .int .i64 j ∧ Hid (DT C st ins w.heap.size m j x'' a cap wr) ∧ Hid (Least (fun y => P y ∨ NoteE C.u C.f m j y) x'') ∧ Hid (Mv C.S C.T a w a wr)) (fun i _ => (C.d.nd m).rn - (intOf i).toNat)
            case atStart => exact ⟨0, x', Nat.zero_le _, rfl, HD2, HLm, HM2⟩
            case round =>
              clear HD2 HM2 HLm
              obtain ⟨j, x'', hj, rfl, HDj, HLj, HMj⟩ := hrel
              by_cases hjn : j < (C.d.nd m).rn
              · obtain ⟨b3, o3, e3, _, hb3, g0⟩ := cells1 (((HDj.out.ss.fns HC.out).2 C.f HC.out.f).2.2.2 m hmn).1 hjn
                rw [e3]
                have HR : Hid (((C.u.fn C.f).nd m).r j = (C.d.nd m).r j) := rfl
                clear e3
                by_cases hin : InR ((C.d.nd m).r j) C.d.vn
                · have hw : wiB ((C.d.nd m).r j) (C.d.vn : Int) = true := by unfold wiB; have := hin.1; have := hin.2; simp; omega
                  obtain ⟨y, hy⟩ : ∃ y : Nat, (C.d.nd m).r j = y := ⟨((C.d.nd m).r j).toNat, by have := hin.1; omega⟩
                  have hyn : y < C.d.vn := by have := hin.2; omega
                  have HY : Hid ((C.d.nd m).r j = (y : Int)) := hy
                  have HI : Hid (InR ((C.d.nd m).r j) C.d.vn) := hin
                  rw [show ((C.u.fn C.f).nd m).r j = (y : Int) from hy] at g0
                  rw [hy] at hw
                  clear hy hin
                  have r0 := World.rowIs.cell HDj.out.row (i := y) hyn
                  have rz := World.rowIs.frozen HDj.out.row
                  by_cases hsn : SeenV C.d m j y
                  · rw [dB_true hsn] at r0
                    have HB : Hid (BadR (C.u.fn C.f) m j) := fun h => h.2 (by rw [show ((C.u.fn C.f).nd m).r j = (y : Int) from HY.out]; exact hsn)
                    have HV : Hid (∀ v : Nat, v < C.d.vn → (C.d.nd m).r j = v → SeenV C.d m j v) := fun v _ hv => by rw [← hv, HY.out]; exact hsn
                    clear hsn
                    go_wp2_with (first | (go_at_call 126; refine (within_calls _ _ _).mono ?_; rw [hw]; rintro e w2 ⟨rfl, rfl⟩) | (go_at_call 153; refine (note_calls C st ins x'' a cap 6 m _ HDj.out.ss).mono ?_; rintro e w3 ⟨rfl, hn3⟩; have HN3 : Hid (NotePost C st ins (fstOf x'' ⟨6, C.f, m⟩) a cap _ w3) := hn3; clear hn3))
                    go_roundw
                    case rel => exact ⟨j + 1, _, by omega, by go_num, (HDj.out.note HN3.out).skip HV.out, (HLj.out.note (b := ⟨6, C.f, m⟩) (by show (0 : Nat) < 6; omega)).congr fun y => by rw [noteE_yes HDK.out HB.out, or_assoc], HMj.out.trans HN3.out.2⟩
                    case measure => simp [intOf]; omega
                  · rw [dB_false hsn] at r0
                    have HB : Hid (¬ BadR (C.u.fn C.f) m j) := fun h => h ⟨HI.out, by rw [show ((C.u.fn C.f).nd m).r j = (y : Int) from HY.out]; exact hsn⟩
                    clear hsn
                    go_wp2_with (go_at_call 126; refine (within_calls _ _ _).mono ?_; rw [hw]; rintro e w2 ⟨rfl, rfl⟩)
                    go_roundw
                    case rel => exact ⟨j + 1, x'', by omega, by go_num, HDj.out.set HY.out, HLj.out.congr fun y => by rw [noteE_no HB.out], HMj.out.new (Nat.le_refl _) _ _⟩
                    case measure => simp [intOf]; omega
                · have hw : wiB (((C.u.fn C.f).nd m).r j) (C.d.vn : Int) = false := by
                    have h : ¬ InR (((C.u.fn C.f).nd m).r j) C.d.vn := hin
                    unfold wiB InR at *
                    simp
                    omega
                  have HB : Hid (BadR (C.u.fn C.f) m j) := fun h => hin h.1
                  have HV : Hid (∀ v : Nat, v < C.d.vn → (C.d.nd m).r j = v → SeenV C.d m j v) := fun v hv he => absurd (⟨by omega, by omega⟩ : InR ((C.d.nd m).r j) C.d.vn) hin
                  clear hin
                  go_wp2_with (first | (go_at_call 126; refine (within_calls _ _ _).mono ?_; rw [hw]; rintro e w2 ⟨rfl, rfl⟩) | (go_at_call 153; refine (note_calls C st ins x'' a cap 6 m _ HDj.out.ss).mono ?_; rintro e w3 ⟨rfl, hn3⟩; have HN3 : Hid (NotePost C st ins (fstOf x'' ⟨6, C.f, m⟩) a cap _ w3) := hn3; clear hn3))
                  go_roundw
                  case rel => exact ⟨j + 1, _, by omega, by go_num, (HDj.out.note HN3.out).skip HV.out, (HLj.out.note (b := ⟨6, C.f, m⟩) (by show (0 : Nat) < 6; omega)).congr fun y => by rw [noteE_yes HDK.out HB.out, or_assoc], HMj.out.trans HN3.out.2⟩
                  case measure => simp [intOf]; omega
              · obtain rfl : j = (C.d.nd m).rn := by omega
                go_wp2_with fail
                go_roundw
                case rel => exact ⟨m + 1, x'', by omega, by go_num, HDj.out.same (fun v => by rw [seenV_next, seenV_all]; exact ⟨fun h => h.elim .inl fun h => .inr ⟨HDK.out, h⟩, fun h => h.elim .inl fun h => .inr h.2⟩), HLj.out.congr fun y => or_congr Iff.rfl (noteE_next y), HMj⟩
                case measure => simp [intOf]; omega
          · rw [show dcK ((C.u.fn C.f).nd m).k = false from dB_false hdk] at hset
            have HDK : Hid (¬ DeclK ((C.u.fn C.f).nd m).k) := hdk
            clear hdk e0
            go_wp2_with (go_at_call 19; refine (has_calls 4484 (by decide) _ _).mono ?_; rw [hset]; rintro e w2 ⟨rfl, rfl⟩)
            go_roundw
            case rel => exact ⟨m + 1, x', by omega, by go_num, HD2.out.same (fun v => by rw [seenV_next]; exact ⟨.inl, fun h => h.resolve_right fun h => HDK.out h.1⟩), HLm.out.congr fun y => or_congr Iff.rfl (noteE_plain HDK.out y), HM2⟩
            case measure => simp [intOf]; omega
        · obtain rfl : m = C.d.nn := by omega
          go_wp2_with fail
          go_end0
          exact ⟨rfl, x', a, cap, HD.out.ss, HLm.out.congr fun y => by rw [noteE_all], HM.out⟩
end Go.Proofs.YtcpjnddkibbddaaGreat

/-! The program's scopes: the faults of a fn. -/
namespace Go.Proofs.YtcpjnddkibbddaaGreat
open Go.RowKit
attribute [local go_sem] run_store_float
attribute [local go_sem ↓] Go.wp_at_zero Go.wp_at_succ

theorem firstV_succ (k : Nat) : firstV (k + 1) = firstV k ++ [(k : Int)] := by unfold firstV; rw [List.range_succ, List.map_append]; rfl
theorem firstV_len (k : Nat) : (firstV k).length = k := by simp [firstV]
theorem vrN_one {k vn : Nat} (h : k < vn) : vrN (fun _ => (k : Int)) vn 1 = [(k : Int)] := by
  rw [vrN_yes (j := 0) ⟨by omega, by omega⟩, vrN_zero]
  rfl
theorem FarI.one {C : CX} {st : List Int} {ins : Nat} {x : FT} {a : Option Addr} {cap : Nat} {w : World} (h : SS C st ins x a cap w) (k : Nat) : FarI C a (w.alloc (.cells #[.int .i64 (k : Int)] 3)) (some ⟨w.heap.size, 0, none⟩) 1 (fun _ => (k : Int)) := by
  refine ⟨fun _ => ⟨w.heap.size, 0, rfl, Nat.zero_le _, by simp, fun i hi j hj => ?_⟩, fun _ b off e => ?_⟩
  · obtain rfl : i = 0 := by omega
    obtain rfl : j = 0 := by omega
    simp
  · cases e
    exact h.other (Nat.le_refl _)
def FaultsPost (C : CX) (e : Ending) (w' : World) : Prop := ∃ x, e = .returned (ftV x) ∧ Least (NoteF C.u C.f) x ∧ Below C.w0.heap.size C.w0 w'

set_option maxRecDepth 100000 in
set_option maxHeartbeats 4000000 in
theorem faults_calls (C : CX) (hC : C.ok) (hvn : C.d.vn ≤ 200) (hpp : 0 ≤ C.d.params ∧ C.d.params ≤ C.d.vn) (w : World) (hS : SS C [] 0 ft0 none 0 w) :
    Calls Tryz.prog 63 #[.pointer (some ⟨C.S, 0, none⟩)] w fun e w' => FaultsPost C e w' := by
  have HS : Hid (SS C [] 0 ft0 none 0 w) := hS
  have HC : Hid C.ok := hC
  have hnn := hC.nn
  obtain ⟨p, hp⟩ : ∃ p : Nat, C.d.params = p := ⟨C.d.params.toNat, by omega⟩
  have hpn : p ≤ C.d.vn := by omega
  have HPp : Hid (C.d.params = p) := hp
  have HPQ : Hid (0 ≤ C.d.params ∧ C.d.params ≤ C.d.vn) := hpp
  have c4 := hS.c4
  have hlt := hS.lt
  rw [hp] at c4
  have HO : Hid (w.heap.size ≠ C.S ∧ w.heap.size ≠ C.T ∧ bkOf none ≠ some w.heap.size) := hS.other (Nat.le_refl w.heap.size)
  have HGE : Hid (C.w0.heap.size ≤ w.heap.size) := hS.b.size
  clear hS hC hp hpp
  go_enter Tryz.func63, Tryz.ntmps63
  go_wp2_with fail
  obtain ⟨w1, hw1⟩ : ∃ w1, w1 = w.alloc (.cells #[.int .i64 0, .int .i64 0, .int .i64 0] 39) := ⟨_, rfl⟩
  have HS1 : Hid (SS C [] 0 ft0 none 0 w1) := by show SS _ _ _ _ _ _ _; rw [hw1]; exact HS.out.alloc _
  have HR1 : Hid (w1.rowIs w.heap.size 39 3 (fun _ => .int .i64 0)) := by
    show World.rowIs _ _ _ _ _
    rw [hw1]
    exact World.rowIs_alloc w #[.int .i64 0, .int .i64 0, .int .i64 0] 39 (fun _ => .int .i64 0) (fun i hi => by
      have : i = 0 ∨ i = 1 ∨ i = 2 := by simp at hi; omega
      rcases this with rfl | rfl | rfl <;> rfl)
  have hl1 : w.heap.size < w1.heap.size := World.rowIs.lt HR1.out
  rw [← hw1]
  clear hw1 c4 hlt
  go_loopw [9] (fun i wr => ∃ (k : Nat) (a' : Option Addr) (cap' : Nat), k ≤ p ∧ i = .int .i64 k ∧ Hid (SS C (firstV k) 0 ft0 a' cap' wr) ∧ Hid (Mv C.S C.T none w1 a' wr)) (fun i _ => p - (intOf i).toNat)
  case atStart => exact ⟨0, none, 0, Nat.zero_le _, rfl, HS1, Mv.refl _ _ _ _⟩
  case round =>
    obtain ⟨k, a', cap', hk, rfl, HSk, HMk⟩ := hrel
    by_cases hkp : k < p
    · have HV : Hid (vrN (fun _ => (k : Int)) C.d.vn 1 = [(k : Int)]) := vrN_one (by omega)
      go_wp2_with (go_at_call 123; refine (declare_calls C (firstV k) 0 ft0 a' cap' _ 1 1 (fun _ => (k : Int)) _ (by omega) (by rw [firstV_len]; omega) (HSk.out.alloc _) (FarI.one HSk.out k)).mono ?_; rintro e w9 ⟨rfl, ⟨a9, cap9, hs9, hm9⟩⟩; rw [HV.out, ← firstV_succ] at hs9; have HS9 : Hid (SS C (firstV (k + 1)) 0 ft0 a9 cap9 w9) := hs9; have HM9 : Hid (Mv C.S C.T a' _ a9 w9) := hm9; clear hs9 hm9)
      go_roundw
      case rel => exact ⟨k + 1, a9, cap9, by omega, by go_num, HS9, HMk.out.trans HM9.out.first⟩
      case measure => simp [intOf]; omega
    · obtain rfl : k = p := by omega
      have c8 := HSk.out.c8
      obtain ⟨q, hq⟩ : ∃ q : Nat, C.d.nn = q + 1 := ⟨C.d.nn - 1, by omega⟩
      have hroot : C.d.nn - 1 = q := by omega
      have HVP : Hid (VPre C q (firstV k) 0 ft0 a' cap' (fun _ => False) wr) := ⟨HSk.out, by omega, by rw [← hroot]; exact StackOk.root HC.out.tree HPp.out, ⟨fun h => absurd h (by omega), fun h => absurd (by rw [hroot]; exact h) (InL.root HC.out.tree)⟩, by rw [firstV_len]; omega, by omega, Least.zero (fun _ h => h)⟩
      have HLV : Hid (leaves C q = []) := by
        show leaves C q = []
        have h := HC.out.tree.last
        unfold leaves
        rw [← hroot, if_neg (by omega)]
      have HNT : Hid (∀ y, ((False ∨ NoteT C.u C.f q y) ∨ ∃ z, z < C.d.nn ∧ NoteD C.u C.f z y) ↔ NoteF C.u C.f y) := fun y => by
        rw [← hroot, show C.d.nn = (C.u.fn C.f).nn from rfl, noteT_root C.u C.f HC.out.tree]
        unfold NoteF
        constructor
        · rintro ((h | ⟨z, h1, h2⟩) | ⟨z, h1, h2⟩)
          · exact h.elim
          · exact ⟨z, h1, .inl h2⟩
          · exact ⟨z, h1, .inr h2⟩
        · rintro ⟨z, h1, h2 | h2⟩
          · exact .inl (.inr ⟨z, h1, h2⟩)
          · exact .inr ⟨z, h1, h2⟩
      rw [hq] at c8
      have HVA : Hid (VisSays C q) := visit_all C HC.out q (by omega)
      have hq3 : q < 3000 := by omega
      clear hq hroot
      go_wp2_with (first | (go_at_call 124; refine (HVA.out _ _ _ _ _ _ _ HVP.out).mono ?_; rintro e w7 ⟨rfl, ⟨x7, a7, cap7, hs7, hl7, hm7⟩⟩; rw [HLV.out, List.append_nil] at hs7; have HS7 : Hid (SS C (firstV k) 0 x7 a7 cap7 w7) := hs7; have HL7 : Hid (Least (fun y => False ∨ NoteT C.u C.f q y) x7) := hl7; have HM7 : Hid (Mv C.S C.T a' wr a7 w7) := hm7; clear hs7 hl7 hm7) | (go_at_call 125; refine (declaredTwice_calls C HC.out hvn HPQ.out (firstV k) 0 x7 a7 cap7 _ _ HS7.out HL7.out).mono ?_; rintro e w8 ⟨rfl, ⟨x8, a8, cap8, hs8, hl8, hm8⟩⟩; have HS8 : Hid (SS C (firstV k) 0 x8 a8 cap8 w8) := hs8; have HL8 : Hid (Least (NoteF C.u C.f) x8) := Least.congr hl8 HNT.out; have HM8 : Hid (Mv C.S C.T none w1 a8 w8) := (HMk.out.trans HM7.out).trans hm8; clear hs8 hl8 hm8; have c51 := HS8.out.c51; have c52 := HS8.out.c52; have c53 := HS8.out.c53; have HR8 : Hid (w8.rowIs w.heap.size 39 3 (fun _ => .int .i64 0)) := World.rowIs.of_block HR1.out (HM8.out.kp.block w.heap.size hl1 HO.out.1 HO.out.2.1 HO.out.2.2); have s0 := World.rowIs.cell HR8.out (i := 0) (by omega); have s1 := World.rowIs.cell HR8.out (i := 1) (by omega); have s2 := World.rowIs.cell HR8.out (i := 2) (by omega); have sz := World.rowIs.frozen HR8.out))
      refine bodyPost_ret (v := ftV x8) (by simp [results, Tryz.results63, go_sem, s0, s1, s2]) rfl ?_
      exact ⟨x8, rfl, HL8.out, frS (frS (frS HS8.out.b HGE.out _) HGE.out _) HGE.out _⟩
end Go.Proofs.YtcpjnddkibbddaaGreat
