import Derived.Test.YtcpjnddkibbddaaGreatSpT
import Derived.Test.YtcpjnddkibbddaaGreatHdA
import Derived.Test.YtcpjnddkibbddaaGreatSpO
import Derived.Test.YtcpjnddkibbddaaGreatSpN
/-! The specification's check of a unit: the first codes. -/
namespace Go.Proofs.YtcpjnddkibbddaaGreat
open Go.RowKit
attribute [local go_sem] run_store_float
attribute [local go_sem ↓] Go.wp_at_zero Go.wp_at_succ

theorem l3head_calls (L : Nat) (u : UD) (a : Option Addr) (cap : Nat) (fas : Nat → FA) (f : Nat) (w : World) (hf : f < u.n) (hs : u.sm) (hT : FnsAt L w u.n u.fn a fas) :
    Calls Tryz.prog 46 #[unV u a cap, .int .i64 f] w fun e w' => e = .returned (.bool (dB (HeadOk u f))) ∧ Below w.heap.size w w' := by
  by_cases h : f = 0
  · subst h
    exact l3head0_calls L u a cap fas w hf hs hT
  · exact l3headN_calls L u a cap fas f w hf h hs hT

/-- a fault comes back, the least of these -/
def FtPost (P : FT → Prop) (w : World) (e : Ending) (w' : World) : Prop := ∃ x : FT, e = .returned (ftV x) ∧ Least P x ∧ Below w.heap.size w w'

theorem FtPost.of {P : FT → Prop} {w w' : World} {x : FT} (h : Least P x) (hb : Below w.heap.size w w') : FtPost P w (.returned (ftV x)) w' := ⟨x, rfl, h, hb⟩

abbrev fxW (w : World) (u : UD) (a : Option Addr) (cap : Nat) : World := (w.alloc (.cells #[.slice a u.n cap] 30)).alloc (.cells #[.int .i64 0, .int .i64 0, .int .i64 0] 39)
theorem fx_below {w wr : World} {u : UD} {a : Option Addr} {cap : Nat} (h : Below (fxW w u a cap).heap.size (fxW w u a cap) wr) : Below w.heap.size w wr := below_call (below_alloc2 w _ _) h
theorem fx_u {w wr : World} {u : UD} {a : Option Addr} {cap : Nat} (h : Below (fxW w u a cap).heap.size (fxW w u a cap) wr) : Has wr w.heap.size #[.slice a u.n cap] := ((Has.new w _ _).alloc _).call h
theorem fx_row {w wr : World} {u : UD} {a : Option Addr} {cap : Nat} (h : Below (fxW w u a cap).heap.size (fxW w u a cap) wr) : wr.rowIs (w.heap.size + 1) 39 3 (fun _ => .int .i64 0) := by
  have h1 := World.rowIs_alloc (w.alloc (.cells #[.slice a u.n cap] 30)) #[.int .i64 0, .int .i64 0, .int .i64 0] 39 (fun _ => .int .i64 0) (fun i hi => by
    have : i = 0 ∨ i = 1 ∨ i = 2 := by simp at hi; omega
    rcases this with rfl | rfl | rfl <;> rfl)
  have h2 := h1.of_block (h.block _ h1.lt)
  simpa using h2
theorem fx_out {w wr : World} (h : Below w.heap.size w wr) (c f n : Value) : Below w.heap.size w (((wr.setCell ⟨w.heap.size + 1, 0, none⟩ c).setCell ⟨w.heap.size + 1, 1, none⟩ f).setCell ⟨w.heap.size + 1, 2, none⟩ n) :=
  frS (frS (frS h (Nat.le_add_right _ 1) _) (Nat.le_add_right _ 1) _) (Nat.le_add_right _ 1) _

def B13 (u : UD) (y : FT) : Prop := Bad1 u y ∨ Bad2 u y ∨ Bad3 u y
theorem b13_one {u : UD} (h : ¬ SizeOk u) : Least (B13 u) ⟨1, 0, 0⟩ :=
  Least.ahead (At2.least (by decide) (fun f' hf' => by omega) (fun n' hn' => by omega) (by decide) (by decide) h) (by decide) fun y hy => by
    rcases hy with hy | hy <;> (rw [hy.1]; show (1 : Nat) < _; decide)
theorem b13_two {u : UD} (h1 : SizeOk u) {f : Nat} (hf : f < u.n) (h2 : ∀ f', f' < f → HeadOk u f') (h3 : ¬ HeadOk u f) : Least (B13 u) ⟨2, f, 0⟩ :=
  Least.behind (At2.none fun _ _ _ _ h => h h1) (Least.ahead (At2.least (by decide) (fun f' hf' _ _ h => h (h2 f' hf')) (fun n' hn' => by omega) hf (by show 0 < 1; decide) h3) (by show (2 : Nat) ≠ 0; decide) fun y hy => by rw [hy.1]; show (2 : Nat) < 3; decide)
theorem b13_three {u : UD} (h1 : SizeOk u) (h2 : ∀ f, f < u.n → HeadOk u f) {f n : Nat} (hf : f < u.n) (hn : n < (u.fn f).nn) (h3 : ∀ f', f' < f → ∀ n', n' < (u.fn f').nn → shB (u.fn f').nd n' = true) (h4 : ∀ n', n' < n → shB (u.fn f).nd n' = true) (h5 : shB (u.fn f).nd n = false) : Least (B13 u) ⟨3, f, n⟩ :=
  Least.behind (At2.none fun _ _ _ _ h => h h1) (Least.behind (At2.none fun f hf _ _ h => h (h2 f hf)) (At2.least (by decide) (fun f' hf' n' hn' h => by rw [h3 f' hf' n' hn'] at h; cases h) (fun n' hn' h => by rw [h4 n' hn'] at h; cases h) hf hn h5))
theorem b13_none {u : UD} (h : U3 u) : Least (B13 u) ft0 :=
  Least.zero fun y hy => by
    rcases hy with hy | hy | hy
    · exact At2.none (fun _ _ _ _ k => k h.size) y hy
    · exact At2.none (fun f hf _ _ k => k (h.head f hf)) y hy
    · exact At2.none (fun f hf n hn k => by rw [h.form f hf n hn] at k; cases k) y hy
theorem tot_bd {u : UD} (hs : u.sm) : ∀ k, k ≤ u.n → tot u.fn k ≤ k * 1048576
  | 0, _ => Nat.zero_le _
  | k + 1, h => by
    have h1 := tot_bd hs k (by omega)
    have h2 := (hs.fn k (by omega)).nn
    unfold tot
    omega

set_option maxRecDepth 100000 in
set_option maxHeartbeats 4000000 in
theorem l3first_calls (L : Nat) (u : UD) (a : Option Addr) (cap : Nat) (fas : Nat → FA) (w : World) (hs : u.sm) (hT : FnsAt L w u.n u.fn a fas) :
    Calls Tryz.prog 25 #[unV u a cap] w fun e w' => FtPost (B13 u) w e w' := by
  have HT : Hid (FnsAt L w u.n u.fn a fas) := hT
  have HS : Hid u.sm := hs
  have hun := hs.n
  clear hT hs
  go_enter Tryz.func25, Tryz.ntmps25
  go_wp2_with fail
  go_loopw [3, 12] (fun s i wr => ∃ (k : Nat), k ≤ u.n ∧ i = .int .i64 k ∧ s = .int .i64 (tot u.fn k) ∧ Hid (Below (fxW w u a cap).heap.size (fxW w u a cap) wr)) (fun _ i _ => u.n - (intOf i).toNat)
  case atStart => exact ⟨0, Nat.zero_le _, rfl, rfl, Below.refl _ _⟩
  case round =>
    obtain ⟨k, hk, rfl, rfl, HB⟩ := hrel
    have ht := tot_bd HS.out k hk
    by_cases hkn : k < u.n
    · obtain ⟨b, off, e0, _, hb, d0, d1, d2, d3, d4, d5, d6⟩ := cells7 (HT.out.below (fx_below HB.out)).1 hkn
      have hnn := (HS.out.fn k hkn).nn
      subst e0
      go_wp2_with fail
      go_roundw
      case rel => exact ⟨k + 1, by omega, by go_num, by show _ = Value.int .i64 ((tot u.fn k + (u.fn k).nn : Nat) : Int); go_num, below_a' HB.out _⟩
      case measure => simp [intOf]; omega
    · obtain rfl : k = u.n := by omega
      have f0 : wr.cell? ⟨w.heap.size, 0, none⟩ = some (.slice a u.n cap) := (fx_u HB.out).cell 0 rfl
      by_cases hz : SizeOk u
      · have HZ : Hid (SizeOk u) := hz
        have z1 : ((u.n : Int) == 0) = false := by have := hz.1; simp; omega
        have z2 : ¬ (300 : Int) < u.n := by have := hz.2.1; omega
        have z3 : ¬ (3000 : Int) < tot u.fn u.n := by have := hz.2.2; omega
        clear hz
        have HB1 : Hid (Below (fxW w u a cap).heap.size (fxW w u a cap) wr) := HB
        go_wp2_with fail
        clear f0 ht z1 z2 z3 hkn hk HB
        go_loopw [40] (fun i wr => ∃ (k : Nat), k ≤ u.n ∧ i = .int .i64 k ∧ Hid (∀ f', f' < k → HeadOk u f') ∧ Hid (Below (fxW w u a cap).heap.size (fxW w u a cap) wr)) (fun i _ => u.n - (intOf i).toNat)
        case atStart => exact ⟨0, Nat.zero_le _, rfl, fun f' hf' => by omega, HB1⟩
        case round =>
          clear HB1
          obtain ⟨k, hk, rfl, HH, HB⟩ := hrel
          have f0 : wr.cell? ⟨w.heap.size, 0, none⟩ = some (.slice a u.n cap) := (fx_u HB.out).cell 0 rfl
          by_cases hkn : k < u.n
          · by_cases hh : HeadOk u k
            · have hd : dB (HeadOk u k) = true := dB_true hh
              have HD : Hid (HeadOk u k) := hh
              clear hh
              go_wp2_with (go_at_call 46; refine (l3head_calls L u a cap fas k _ hkn HS.out (HT.out.below (fx_below HB.out))).mono ?_; rw [hd]; rintro e w8 ⟨rfl, hb8⟩)
              go_roundw
              case rel => exact ⟨k + 1, by omega, by go_num, fun j hj => by
                by_cases e : j = k
                · subst e; exact HD.out
                · exact HH.out j (by omega), below_call HB.out hb8⟩
              case measure => simp [intOf]; omega
            · have hd : dB (HeadOk u k) = false := dB_false hh
              have HL : Hid (Least (B13 u) ⟨2, k, 0⟩) := b13_two HZ.out hkn HH.out hh
              clear hh
              go_wp2_with (first | (go_at_call 46; refine (l3head_calls L u a cap fas k _ hkn HS.out (HT.out.below (fx_below HB.out))).mono ?_; rw [hd]; rintro e w8 ⟨rfl, hb8⟩; have HB8 : Hid (Below (fxW w u a cap).heap.size (fxW w u a cap) w8) := below_call HB.out hb8) | (go_at_call 45; refine (l3fault_calls _ _ _ _).mono ?_; rintro e w9 ⟨rfl, hb9⟩; have HB9 : Hid (Below (fxW w u a cap).heap.size (fxW w u a cap) w9) := below_call HB8.out hb9; have s0 := (fx_row HB9.out).cell (i := 0) (by omega); have s1 := (fx_row HB9.out).cell (i := 1) (by omega); have s2 := (fx_row HB9.out).cell (i := 2) (by omega); have sz := (fx_row HB9.out).frozen))
              refine bodyPost_ret (v := ftV ⟨2, k, 0⟩) (by simp [results, Tryz.results25, go_sem, s0, s1, s2]) rfl ?_
              exact FtPost.of HL.out (fx_out (fx_below HB9.out) _ _ _)
          · obtain rfl : k = u.n := by omega
            go_wp2_with fail
            clear f0 hk hkn
            have HB1 : Hid (Below (fxW w u a cap).heap.size (fxW w u a cap) wr) := HB
            clear HB
            go_loopw [53] (fun i wr => ∃ (k : Nat), k ≤ u.n ∧ i = .int .i64 k ∧ Hid (∀ f', f' < k → ∀ n', n' < (u.fn f').nn → shB (u.fn f').nd n' = true) ∧ Hid (Below (fxW w u a cap).heap.size (fxW w u a cap) wr)) (fun i _ => u.n - (intOf i).toNat)
            case atStart => exact ⟨0, Nat.zero_le _, rfl, fun f' hf' => by omega, HB1⟩
            case round =>
              clear HB1
              obtain ⟨k, hk, rfl, HF, HB⟩ := hrel
              have f0 : wr.cell? ⟨w.heap.size, 0, none⟩ = some (.slice a u.n cap) := (fx_u HB.out).cell 0 rfl
              by_cases hkn : k < u.n
              · obtain ⟨b, off, e0, _, hb, d0, d1, d2, d3, d4, d5, d6⟩ := cells7 (HT.out.below (fx_below HB.out)).1 hkn
                have hnn := (HS.out.fn k hkn).nn
                subst e0
                go_wp2_with fail
                clear f0 d0 d1 d2 d3 d4 d5 d6
                have HB1 : Hid (Below (fxW w u (some ⟨b, off, none⟩) cap).heap.size (fxW w u (some ⟨b, off, none⟩) cap) wr) := HB
                clear HB
                go_loopw [63] (fun i wr => ∃ (m : Nat), m ≤ (u.fn k).nn ∧ i = .int .i64 m ∧ Hid (∀ n', n' < m → shB (u.fn k).nd n' = true) ∧ Hid (Below (fxW w u (some ⟨b, off, none⟩) cap).heap.size (fxW w u (some ⟨b, off, none⟩) cap) wr)) (fun i _ => (u.fn k).nn - (intOf i).toNat)
                case atStart => exact ⟨0, Nat.zero_le _, rfl, fun f' hf' => by omega, HB1⟩
                case round =>
                  clear HB1
                  obtain ⟨m, hm, rfl, HN, HB⟩ := hrel
                  have HTr : Hid (FnsAt L wr u.n u.fn (some ⟨b, off, none⟩) fas) := HT.out.below (fx_below HB.out)
                  by_cases hmn : m < (u.fn k).nn
                  · have f0 : wr.cell? ⟨w.heap.size, 0, none⟩ = some (.slice (some ⟨b, off, none⟩) u.n cap) := (fx_u HB.out).cell 0 rfl
                    obtain ⟨b', off', e0, _, _, d0, d1, d2, d3, d4, d5, d6⟩ := cells7 HTr.out.1 hkn
                    obtain ⟨rfl, rfl⟩ : b = b' ∧ off = off' := by simpa using e0
                    clear e0 d0 d1 d2 d3 d4 d5
                    cases hsh : shB (u.fn k).nd m
                    · have HL : Hid (Least (B13 u) ⟨3, k, m⟩) := b13_three HZ.out HH.out hkn hmn HF.out HN.out hsh
                      go_wp2_with (first | (go_at_call 47; refine (l3shape_calls L (u.fn k).nn (u.fn k).nd _ _ (fas k).nas m _ ⟨(HTr.out.2 k hkn).2.2, hmn, (HS.out.fn k hkn).nd m hmn⟩).mono ?_; rw [hsh]; rintro e w8 ⟨rfl, hb8⟩; have HB8 : Hid (Below (fxW w u (some ⟨b, off, none⟩) cap).heap.size (fxW w u (some ⟨b, off, none⟩) cap) w8) := below_call HB.out hb8) | (go_at_call 45; refine (l3fault_calls _ _ _ _).mono ?_; rintro e w9 ⟨rfl, hb9⟩; have HB9 : Hid (Below (fxW w u (some ⟨b, off, none⟩) cap).heap.size (fxW w u (some ⟨b, off, none⟩) cap) w9) := below_call HB8.out hb9; have s0 := (fx_row HB9.out).cell (i := 0) (by omega); have s1 := (fx_row HB9.out).cell (i := 1) (by omega); have s2 := (fx_row HB9.out).cell (i := 2) (by omega); have sz := (fx_row HB9.out).frozen))
                      refine bodyPost_ret (v := ftV ⟨3, k, m⟩) (by simp [results, Tryz.results25, go_sem, s0, s1, s2]) rfl ?_
                      exact FtPost.of HL.out (fx_out (fx_below HB9.out) _ _ _)
                    · have HSH : Hid (shB (u.fn k).nd m = true) := hsh
                      go_wp2_with (go_at_call 47; refine (l3shape_calls L (u.fn k).nn (u.fn k).nd _ _ (fas k).nas m _ ⟨(HTr.out.2 k hkn).2.2, hmn, (HS.out.fn k hkn).nd m hmn⟩).mono ?_; rw [hsh]; rintro e w8 ⟨rfl, hb8⟩)
                      go_roundw
                      case rel => exact ⟨m + 1, by omega, by go_num, fun j hj => by
                        by_cases e : j = m
                        · subst e; exact HSH.out
                        · exact HN.out j (by omega), below_call HB.out hb8⟩
                      case measure => simp [intOf]; omega
                  · obtain rfl : m = (u.fn k).nn := by omega
                    go_wp2_with fail
                    go_roundw
                    case rel => exact ⟨k + 1, by omega, by go_num, fun j hj => by
                      by_cases e : j = k
                      · subst e; exact HN.out
                      · exact HF.out j (by omega), HB⟩
                    case measure => simp [intOf]; omega
              · obtain rfl : k = u.n := by omega
                have HL : Hid (Least (B13 u) ⟨0, 0, 0⟩) := b13_none ⟨HZ.out, HH.out, HF.out⟩
                have s0 := (fx_row HB.out).cell (i := 0) (by omega)
                have s1 := (fx_row HB.out).cell (i := 1) (by omega)
                have s2 := (fx_row HB.out).cell (i := 2) (by omega)
                have sz := (fx_row HB.out).frozen
                go_wp2_with fail
                refine bodyPost_ret (v := ftV ⟨0, 0, 0⟩) (by simp [results, Tryz.results25, go_sem, s0, s1, s2]) rfl ?_
                exact FtPost.of HL.out (fx_out (fx_below HB.out) _ _ _)
      · have HL : Hid (Least (B13 u) ⟨1, 0, 0⟩) := b13_one hz
        by_cases c1 : u.n = 0
        · have z1 : ((u.n : Int) == 0) = true := by simp; omega
          have C1 : Hid (u.n = 0) := c1
          clear c1 hz
          go_wp2_with (go_at_call 45; refine (l3fault_calls _ _ _ _).mono ?_; rintro e w9 ⟨rfl, hb9⟩; have HB9 : Hid (Below (fxW w u a cap).heap.size (fxW w u a cap) w9) := below_call HB.out hb9; have s0 := (fx_row HB9.out).cell (i := 0) (by omega); have s1 := (fx_row HB9.out).cell (i := 1) (by omega); have s2 := (fx_row HB9.out).cell (i := 2) (by omega); have sz := (fx_row HB9.out).frozen)
          refine bodyPost_ret (v := ftV ⟨1, 0, 0⟩) (by simp [results, Tryz.results25, go_sem, s0, s1, s2]) rfl ?_
          exact FtPost.of HL.out (fx_out (fx_below HB9.out) _ _ _)
        · have z1 : ((u.n : Int) == 0) = false := by simp; omega
          by_cases c2 : (300 : Int) < u.n
          · clear hz
            go_wp2_with (go_at_call 45; refine (l3fault_calls _ _ _ _).mono ?_; rintro e w9 ⟨rfl, hb9⟩; have HB9 : Hid (Below (fxW w u a cap).heap.size (fxW w u a cap) w9) := below_call HB.out hb9; have s0 := (fx_row HB9.out).cell (i := 0) (by omega); have s1 := (fx_row HB9.out).cell (i := 1) (by omega); have s2 := (fx_row HB9.out).cell (i := 2) (by omega); have sz := (fx_row HB9.out).frozen)
            refine bodyPost_ret (v := ftV ⟨1, 0, 0⟩) (by simp [results, Tryz.results25, go_sem, s0, s1, s2]) rfl ?_
            exact FtPost.of HL.out (fx_out (fx_below HB9.out) _ _ _)
          · have c3 : (3000 : Int) < tot u.fn u.n := by unfold SizeOk at hz; omega
            clear hz
            go_wp2_with (go_at_call 45; refine (l3fault_calls _ _ _ _).mono ?_; rintro e w9 ⟨rfl, hb9⟩; have HB9 : Hid (Below (fxW w u a cap).heap.size (fxW w u a cap) w9) := below_call HB.out hb9; have s0 := (fx_row HB9.out).cell (i := 0) (by omega); have s1 := (fx_row HB9.out).cell (i := 1) (by omega); have s2 := (fx_row HB9.out).cell (i := 2) (by omega); have sz := (fx_row HB9.out).frozen)
            refine bodyPost_ret (v := ftV ⟨1, 0, 0⟩) (by simp [results, Tryz.results25, go_sem, s0, s1, s2]) rfl ?_
            exact FtPost.of HL.out (fx_out (fx_below HB9.out) _ _ _)
end Go.Proofs.YtcpjnddkibbddaaGreat

/-! The form of a node, as the program holds it against its tables: plain. -/
namespace Go.Proofs.YtcpjnddkibbddaaGreat

/-- a set of kinds, a bit for each -/
def setB (s : Nat) (k : Int) : Bool := decide (0 ≤ k) && Nat.testBit s k.toNat
/-- a kid that stands ahead and is of the set -/
def kidS (s : Nat) (nd : Nat → ND) (m : Nat) (c : Int) : Bool := decide (0 ≤ c) && decide (c < m) && setB s (nd c.toNat).k
abbrev sBl : Nat := 2
abbrev sEl : Nat := 34
abbrev sTg : Nat := 8791261184
abbrev sCa : Nat := 17179869184
abbrev sLi : Nat := 154618822656
abbrev sSt : Nat := 32766
abbrev sEx : Nat := 549754765312
abbrev sIn : Nat := 8388608

theorem bit_far {s : Nat} (h : s < 2 ^ 64) {k : Nat} (hk : 64 ≤ k) : Nat.testBit s k = false :=
  Nat.testBit_lt_two_pow (Nat.lt_of_lt_of_le h (Nat.pow_le_pow_right (by omega) hk))
theorem setB_as (s : Nat) (h : s < 2 ^ 64) (p : Int → Bool) (hp : ∀ k : Nat, k < 64 → Nat.testBit s k = p k) (hq : ∀ k : Int, p k = true → 0 ≤ k ∧ k < 64) (k : Int) : setB s k = p k := by
  unfold setB
  by_cases h0 : 0 ≤ k
  · by_cases h1 : k < 64
    · obtain ⟨j, rfl⟩ : ∃ j : Nat, k = j := ⟨k.toNat, by omega⟩
      rw [Int.toNat_natCast, hp j (by omega)]
      simp
    · rw [bit_far h (by omega), Bool.and_false]
      cases e : p k
      · rfl
      · have := hq k e; omega
  · cases e : p k
    · simp [h0]
    · have := hq k e; omega
theorem setSt (k : Int) : setB sSt k = stK k := setB_as _ (by decide) _ (by decide) (fun k h => by unfold stK at h; simp at h; omega) k
theorem setEx (k : Int) : setB sEx k = exK k := setB_as _ (by decide) _ (by decide) (fun k h => by unfold exK at h; simp at h; omega) k
theorem setTg (k : Int) : setB sTg k = tgK k := setB_as _ (by decide) _ (by decide) (fun k h => by unfold tgK at h; simp at h; omega) k
theorem setLi (k : Int) : setB sLi k = mnK k := setB_as _ (by decide) _ (by decide) (fun k h => by unfold mnK at h; simp at h; omega) k
theorem setBl (k : Int) : setB sBl k = (k == 1) := setB_as _ (by decide) (· == 1) (by decide) (fun k h => by simp at h; omega) k
theorem setEl (k : Int) : setB sEl k = (k == 1 || k == 5) := setB_as _ (by decide) (fun k => k == 1 || k == 5) (by decide) (fun k h => by simp at h; omega) k
theorem setCa (k : Int) : setB sCa k = (k == 34) := setB_as _ (by decide) (· == 34) (by decide) (fun k h => by simp at h; omega) k
theorem setIn (k : Int) : setB sIn k = (k == 23) := setB_as _ (by decide) (· == 23) (by decide) (fun k h => by simp at h; omega) k

/-- a kid's kind as the specification asks it is the set's, at a kid that is there -/
theorem kid_as {s : Nat} {p : Int → Bool} (hs : ∀ k, setB s k = p k) (h0 : p 0 = false) {nd : Nat → ND} {m i : Nat} (hi : i < (nd m).kn) : p (kidK nd m i) = kidS s nd m ((nd m).c i) := by
  unfold kidK kidS
  rw [if_pos hi, hs]
  by_cases h : 0 ≤ (nd m).c i ∧ (nd m).c i < m
  · rw [if_pos h]; simp [h.1, h.2]
  · rw [if_neg h, h0]
    by_cases h1 : 0 ≤ (nd m).c i
    · have : ¬ (nd m).c i < m := fun h2 => h ⟨h1, h2⟩
      simp [this]
    · simp [h1]
theorem allB_congr {p q : Nat → Bool} {lo hi : Nat} (h : ∀ i, lo ≤ i → i < hi → p i = q i) : allB p lo hi = allB q lo hi := by
  rw [Bool.eq_iff_iff, allB_true, allB_true]
  exact ⟨fun k i a b => by rw [← h i a b]; exact k i a b, fun k i a b => by rw [h i a b]; exact k i a b⟩

/-- the fields that are not used are 0 or empty -/
def uoB (a : ND) (o n f s r k : Bool) : Bool := (o || a.o == 0) && (n || a.n == 0) && (f || fz a.f) && (s || se a.s) && (r || (a.rn : Int) == 0) && (k || (a.kn : Int) == 0)
/-- all kids from lo to below hi are of the set -/
def allS (s : Nat) (nd : Nat → ND) (m lo hi : Nat) : Bool := allB (fun i => kidS s nd m ((nd m).c i)) lo hi
/-- kid i is of the set -/
def atS (s : Nat) (nd : Nat → ND) (m i : Nat) : Bool := kidS s nd m ((nd m).c i)

/-- the form of a node, as the program asks it, kind by kind -/
def fkB (nd : Nat → ND) (m : Nat) : Bool :=
  if (nd m).k = 1 then uoB (nd m) false false false false false true && allS sSt nd m 0 (nd m).kn
  else if (nd m).k = 2 then uoB (nd m) false false false false true true && decide (0 < (nd m).rn) && allS sEx nd m 0 (nd m).kn
  else if (nd m).k = 3 then uoB (nd m) false true false false false true && decide (0 < (nd m).n) && decide ((nd m).n < (nd m).kn) && allS sTg nd m 0 (nd m).n.toNat && allS sEx nd m (nd m).n.toNat (nd m).kn
  else if (nd m).k = 4 ∨ (nd m).k = 14 then uoB (nd m) false false false false false true && (((nd m).kn : Int) == 1 && atS sCa nd m 0)
  else if (nd m).k = 5 then uoB (nd m) false false false false false true && (((nd m).kn : Int) == 2 && atS sEx nd m 0 && atS sBl nd m 1 || ((nd m).kn : Int) == 3 && atS sEx nd m 0 && atS sBl nd m 1 && atS sEl nd m 2)
  else if (nd m).k = 6 then uoB (nd m) false false false false false true && (((nd m).kn : Int) == 2 && atS sEx nd m 0 && atS sBl nd m 1)
  else if (nd m).k = 7 then uoB (nd m) false false false false true true && ((nd m).rn : Int) == 1 && (((nd m).kn : Int) == 4 && atS sEx nd m 0 && atS sEx nd m 1 && atS sEx nd m 2 && atS sBl nd m 3)
  else if (nd m).k = 8 then uoB (nd m) false false false false true true && (decide ((1 : Int) ≤ (nd m).rn) && decide (((nd m).rn : Int) ≤ 4)) && (((nd m).kn : Int) == 2 && atS sEx nd m 0 && atS sBl nd m 1)
  else if (nd m).k = 11 then uoB (nd m) false false false false false true && allS sEx nd m 0 (nd m).kn
  else if (nd m).k = 12 then uoB (nd m) false false false false true true && ((nd m).rn : Int) == 2 && (((nd m).kn : Int) == 2 && atS sBl nd m 0 && atS sBl nd m 1)
  else if (nd m).k = 13 then uoB (nd m) false false false false false true && (((nd m).kn : Int) == 1 && atS sEx nd m 0)
  else if (nd m).k = 9 ∨ (nd m).k = 10 ∨ (nd m).k = 20 ∨ (nd m).k = 21 ∨ (nd m).k = 22 ∨ (nd m).k = 37 then uoB (nd m) false false false false false false
  else if (nd m).k = 23 then uoB (nd m) false true false false false false
  else if (nd m).k = 24 then uoB (nd m) false false true false false false && nnB (nd m).f
  else if (nd m).k = 25 then uoB (nd m) false false false true false false && decide (((nd m).s.size : Int) ≤ 4000)
  else if (nd m).k = 26 ∨ (nd m).k = 27 ∨ (nd m).k = 36 then uoB (nd m) false false false false true false && ((nd m).rn : Int) == 1
  else if (nd m).k = 28 then uoB (nd m) false true false false false false && decide (0 ≤ (nd m).n) && decide ((nd m).n < 15)
  else if (nd m).k = 29 ∨ (nd m).k = 30 ∨ (nd m).k = 33 then uoB (nd m) false false false false false true && (((nd m).kn : Int) == 2 && atS sEx nd m 0 && atS sEx nd m 1)
  else if (nd m).k = 31 then uoB (nd m) true false false false false true && (decide (19 ≤ (nd m).o) && decide ((nd m).o ≤ 22)) && (((nd m).kn : Int) == 1 && atS sEx nd m 0)
  else if (nd m).k = 32 then uoB (nd m) true false false false false true && (decide (1 ≤ (nd m).o) && decide ((nd m).o ≤ 18)) && (((nd m).kn : Int) == 2 && atS sEx nd m 0 && atS sEx nd m 1)
  else if (nd m).k = 34 then uoB (nd m) false false false false false true && decide (0 < (nd m).kn) && allS sEx nd m 0 (nd m).kn
  else if (nd m).k = 35 then uoB (nd m) true false false false false true && ((nd m).kn : Int) % 2 == 0 && allS sEx nd m 0 (nd m).kn && ((nd m).o == 0 || (nd m).o == 1 && decide (0 < (nd m).kn) && atS sIn nd m ((nd m).kn - 2) && atS sLi nd m ((nd m).kn - 1))
  else if (nd m).k = 38 then uoB (nd m) false false false false false true && (((nd m).kn : Int) == 1 && atS sLi nd m 0)
  else false
def fitB (nd : Nat → ND) (m : Nat) : Bool :=
  (stK (nd m).k || exK (nd m).k) && (if stK (nd m).k then decide (1 ≤ (nd m).l) && decide ((nd m).l ≤ 100000) else (nd m).l == 0) && decide (((nd m).kn : Int) ≤ 200) && fkB nd m
end Go.Proofs.YtcpjnddkibbddaaGreat
