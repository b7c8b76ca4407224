import Derived.Test.YtiidepafifodjaaWords
import Derived.Test.YtiidepafifodjaaNumFacts
import Derived.Test.YtiidepafifodjaaHas
import Derived.Test.YtiidepafifodjaaBinA
import Derived.Test.YtiidepafifodjaaBinB
import Derived.Test.YtiidepafifodjaaBinC
import Derived.Laws.StructEq
import Derived.Test.YtiidepafifodjaaNumShift
import Derived.Deep.DeepCutAuto
import Derived.Deep.DrawnRows
import Derived.Deep.RegionHeld3
import Derived.Deep.RegionWith
/-! FnNumbers: the walk. -/
namespace Go.Proofs.Ytiidepafifodjaa
open Go.RowKit
attribute [local go_sem] run_store_float
attribute [local go_sem ↓] Go.wp_at_zero Go.wp_at_succ

theorem field_val (c k n : Int) (f : Nat) (s : ByteArray) (r : Int) (w : World) : (Instr.field 45 (gV c k n f s r) 1).run Try.prog w = .ok (vOf k n f s r) w := by kernel_rfl
theorem field_code (c k n : Int) (f : Nat) (s : ByteArray) (r : Int) (w : World) : (Instr.field 45 (gV c k n f s r) 0).run Try.prog w = .ok (.int .i64 c) w := by kernel_rfl
theorem run_equalIn_float {P : Program} (w : World) (d : Nat) (t : TypeId) (k k' : FloatKind) (a b : Nat) (h : P.underlying t = some (.float k')) : (Op.equalIn (d + 1) t (.float k a) (.float k b)).run P w = .ok (Op.floatEq k a b) w := by
  simp [Op.equalIn, run_underlying h]
theorem eq_zero_zero (w : World) : (Op.equalIn 9999 40 (.float .f64 0) (.float .f64 0)).run Try.prog w = .ok true w := by
  rw [run_equalIn_float w 9998 _ .f64 .f64 0 0 Try.underlying40]
  simp [Op.floatEq, order00]
attribute [local go_sem] field_val field_code eq_zero_zero

theorem cell_lt {w : World} {b o : Nat} {v : Value} (h : w.cell? ⟨b, o, none⟩ = some v) : b < w.heap.size := by
  refine Nat.lt_of_not_le fun hle => ?_
  have : w.heap[b]? = none := Array.getElem?_eq_none hle
  simp [World.cell?, this] at h
theorem IsRow.below {w w' : World} {a : Option Addr} {len cap : Nat} {zs : List Int} (h : IsRow w a len cap zs) (hB : Below w.heap.size w w') : IsRow w' a len cap zs := by
  rcases h with h | ⟨x, rfl, h1, h2, h3, h4, h5⟩
  · exact .inl h
  · refine .inr ⟨x, rfl, h1, h2, h3, fun i hi => ?_, h5⟩
    have hc := h4 i hi
    obtain ⟨b, off, spot⟩ := x
    have hspot : spot = none := by simpa [Addr.add] using World.cell?_spot (h4 0 (by omega))
    subst hspot
    rw [add_none] at hc ⊢
    rw [hB.cell (p := ⟨b, off + i, none⟩) (cell_lt hc)]
    exact hc

abbrev vA (k n : Int) (f : Nat) (s : ByteArray) (r : Int) : Array Value := #[.int .i64 k, .int .i64 n, .float .f64 f, .string s, .int .i64 r]
abbrev gA (c k n : Int) (f : Nat) (s : ByteArray) (r : Int) : Array Value := #[.int .i64 c, .int .i64 k, .int .i64 n, .float .f64 f, .string s, .int .i64 r]

theorem Has.c0 {w : World} {B : Nat} {k n : Int} {f : Nat} {s : ByteArray} {r : Int} (h : Has w B (vA k n f s r)) : w.cell? ⟨B, 0, none⟩ = some (.int .i64 k) := h.2 0
theorem Has.c1 {w : World} {B : Nat} {k n : Int} {f : Nat} {s : ByteArray} {r : Int} (h : Has w B (vA k n f s r)) : w.cell? ⟨B, 1, none⟩ = some (.int .i64 n) := h.2 1
theorem Has.c2 {w : World} {B : Nat} {k n : Int} {f : Nat} {s : ByteArray} {r : Int} (h : Has w B (vA k n f s r)) : w.cell? ⟨B, 2, none⟩ = some (.float .f64 f) := h.2 2
theorem Has.c3 {w : World} {B : Nat} {k n : Int} {f : Nat} {s : ByteArray} {r : Int} (h : Has w B (vA k n f s r)) : w.cell? ⟨B, 3, none⟩ = some (.string s) := h.2 3
theorem Has.c4 {w : World} {B : Nat} {k n : Int} {f : Nat} {s : ByteArray} {r : Int} (h : Has w B (vA k n f s r)) : w.cell? ⟨B, 4, none⟩ = some (.int .i64 r) := h.2 4

theorem div_cases (a b : Int) (ha : I64 a) (hb : I64 b) : ∃ c1 k1 Q c2 k2 R : Int, Hid (∀ w, Calls Try.prog 23 #[.int .i64 5, vOf 2 a 0 ⟨#[]⟩ 0, vOf 2 b 0 ⟨#[]⟩ 0] w fun e w' => e = .returned (gV c1 k1 Q 0 ⟨#[]⟩ 0) ∧ Below w.heap.size w w') ∧ Hid (∀ w, Calls Try.prog 23 #[.int .i64 6, vOf 2 a 0 ⟨#[]⟩ 0, vOf 2 b 0 ⟨#[]⟩ 0] w fun e w' => e = .returned (gV c2 k2 R 0 ⟨#[]⟩ 0) ∧ Below w.heap.size w w') ∧
    Hid ((b = 0 ∧ c1 = 2 ∧ c2 = 2) ∨ ((b == 0) = false ∧ c1 = 0 ∧ c2 = 0 ∧ wrap64 (wrap64 (Q * b) + R) = a ∧ 0 < b ∧ 0 ≤ R ∧ R < b) ∨ ((b == 0) = false ∧ c1 = 0 ∧ c2 = 0 ∧ wrap64 (wrap64 (Q * b) + R) = a ∧ b < 0 ∧ b < R ∧ R ≤ 0)) := by
  by_cases b0 : b = 0
  · exact ⟨2, 0, 0, 2, 0, 0, fun w => bi_idiv0 a b b0 w, fun w => bi_mod0 a b b0 w, .inl ⟨b0, rfl, rfl⟩⟩
  · obtain ⟨nd1, nd2⟩ := num_div a b ha hb b0
    refine ⟨0, 2, _, 0, 2, _, fun w => bi_idiv a b b0 w, fun w => bi_mod a b b0 w, .inr ?_⟩
    have b0' : (b == 0) = false := by simpa using b0
    rcases nd2 with ⟨n1, n2, n3⟩ | ⟨n1, n2, n3⟩
    · exact .inl ⟨b0', rfl, rfl, nd1, n1, n2, n3⟩
    · exact .inr ⟨b0', rfl, rfl, nd1, n1, n2, n3⟩

set_option maxRecDepth 100000 in
set_option maxHeartbeats 16000000 in
theorem num_walk (a0 : Option Addr) (len cap : Nat) (zs : List Int) (w : World) (h : IsRow w a0 len cap zs) (hl : (len : Int) ≤ 1048576) :
    Calls Try.prog 4 #[.slice a0 len cap] w fun e w' => e = .returned (.bool true) ∧ Below w.heap.size w w' := by
  have hl' : len ≤ 1048576 := by omega
  have hW : Hid (∀ i : Int, 0 ≤ i → i ≤ 100 → Calls Try.prog 21 #[.slice a0 len cap, .int .i64 i] w fun e w' => (∃ v : Int, I64 v ∧ e = .returned (.int .i64 v)) ∧ w' = w) := fun i h1 h2 => wWhole_calls a0 len cap zs i w h hl' h1 h2
  have HW : Hid (IsRow w a0 len cap zs) := h
  clear h
  go_enter Try.func4, Try.ntmps4
  go_wp2_with fail
  refine (hW.out _ (by omega) (by omega)).mono ?_
  rintro e w1 ⟨⟨a, ha, rfl⟩, rfl⟩
  go_wp2_with fail
  refine (hW.out _ (by omega) (by omega)).mono ?_
  rintro e w1 ⟨⟨b, hb, rfl⟩, rfl⟩
  go_wp2_with fail
  refine (hW.out _ (by omega) (by omega)).mono ?_
  rintro e w1 ⟨⟨c, hc, rfl⟩, rfl⟩
  clear hW
  obtain ⟨c1, k1, Q, c2, k2, R, cQ, cR, hT⟩ := div_cases a b ha hb
  have eD := num_sub a b ha
  have eP := num_mul a b c
  generalize hS : wrap64 (a + b) = S at eD eP
  generalize hP : wrap64 (S * c) = P at eP
  generalize hP1 : wrap64 (a * c) = P1 at eP
  generalize hP2 : wrap64 (b * c) = P2 at eP
  have cS : Hid (∀ w, Calls Try.prog 23 #[.int .i64 1, vOf 2 a 0 ⟨#[]⟩ 0, vOf 2 b 0 ⟨#[]⟩ 0] w fun e w' => e = .returned (gV 0 2 S 0 ⟨#[]⟩ 0) ∧ Below w.heap.size w w') := by intro w; rw [← hS]; exact bi_add a b w
  have cD : Hid (∀ w, Calls Try.prog 23 #[.int .i64 2, vOf 2 S 0 ⟨#[]⟩ 0, vOf 2 b 0 ⟨#[]⟩ 0] w fun e w' => e = .returned (gV 0 2 a 0 ⟨#[]⟩ 0) ∧ Below w.heap.size w w') := by intro w; have := bi_sub S b w; rw [eD] at this; exact this
  have cP : Hid (∀ w, Calls Try.prog 23 #[.int .i64 3, vOf 2 S 0 ⟨#[]⟩ 0, vOf 2 c 0 ⟨#[]⟩ 0] w fun e w' => e = .returned (gV 0 2 P 0 ⟨#[]⟩ 0) ∧ Below w.heap.size w w') := by intro w; rw [← hP]; exact bi_mul S c w
  have cP1 : Hid (∀ w, Calls Try.prog 23 #[.int .i64 3, vOf 2 a 0 ⟨#[]⟩ 0, vOf 2 c 0 ⟨#[]⟩ 0] w fun e w' => e = .returned (gV 0 2 P1 0 ⟨#[]⟩ 0) ∧ Below w.heap.size w w') := by intro w; rw [← hP1]; exact bi_mul a c w
  have cP2 : Hid (∀ w, Calls Try.prog 23 #[.int .i64 3, vOf 2 b 0 ⟨#[]⟩ 0, vOf 2 c 0 ⟨#[]⟩ 0] w fun e w' => e = .returned (gV 0 2 P2 0 ⟨#[]⟩ 0) ∧ Below w.heap.size w w') := by intro w; rw [← hP2]; exact bi_mul b c w
  have cM : Hid (∀ w, Calls Try.prog 23 #[.int .i64 1, vOf 2 P1 0 ⟨#[]⟩ 0, vOf 2 P2 0 ⟨#[]⟩ 0] w fun e w' => e = .returned (gV 0 2 P 0 ⟨#[]⟩ 0) ∧ Below w.heap.size w w') := by intro w; have := bi_add P1 P2 w; rw [eP] at this; exact this
  have HS : Hid (wrap64 (a + b) = S ∧ wrap64 (S * c) = P) := ⟨hS, hP⟩
  have HA : Hid (I64 a) := ha
  clear hS hP hP1 hP2 eD eP ha hb hc
  go_wp2_with fail
  refine (wInt_calls _ _).mono ?_
  rintro e wx ⟨rfl, hb⟩
  have hB := hb
  clear hb
  go_wp2_with fail
  refine (wInt_calls _ _).mono ?_
  rintro e wy ⟨rfl, hb⟩
  have Hx := Has.made hb
  have cx := Hx.at
  have lx := Hx.lt
  replace hB := below_call (below_a hB _) hb
  clear hb
  go_wp2_with fail
  refine (wInt_calls _ _).mono ?_
  rintro e wz ⟨rfl, hb⟩
  clear cx lx
  replace Hx := Hx.next hb
  have Hy := Has.made hb
  have cx := Hx.at
  have lx := Hx.lt
  have cy := Hy.at
  have ly := Hy.lt
  replace hB := below_call (below_a hB _) hb
  clear hb
  go_wp2_with fail
  refine (cQ.out _).mono ?_
  rintro e wq ⟨rfl, hb⟩
  clear cx lx
  clear cy ly
  replace Hx := Hx.next hb
  replace Hy := Hy.next hb
  have Hz := Has.made hb
  have cx := Hx.at
  have lx := Hx.lt
  have cy := Hy.at
  have ly := Hy.lt
  have cz := Hz.at
  have lz := Hz.lt
  replace hB := below_call (below_a hB _) hb
  clear hb
  go_wp2_with fail
  refine (cR.out _).mono ?_
  rintro e wr ⟨rfl, hb⟩
  clear cx lx
  clear cy ly
  clear cz lz
  replace Hx := Hx.next hb
  replace Hy := Hy.next hb
  replace Hz := Hz.next hb
  have Hq := Has.made hb
  have cx := Hx.at
  have lx := Hx.lt
  have cy := Hy.at
  have ly := Hy.lt
  have cz := Hz.at
  have lz := Hz.lt
  have cq := Hq.at
  have lq := Hq.lt
  replace hB := below_call (below_a hB _) hb
  clear hb
  clear cQ cR
  go_upto_if 44 with fail
  go_cut [] (fun wc => Has wc wx.heap.size (vA 2 a 0 ⟨#[]⟩ 0) ∧ Has wc wy.heap.size (vA 2 b 0 ⟨#[]⟩ 0) ∧ Has wc wz.heap.size (vA 2 c 0 ⟨#[]⟩ 0) ∧ Below w1.heap.size w1 wc)
  case first =>
    as_aux_lemma =>
      rcases hT.out with ⟨h1, h2, h3⟩ | ⟨h0, h2, h3, e1, n1, n2, n3⟩ | ⟨h0, h2, h3, e1, n1, n2, n3⟩
      · subst h1 h2 h3
        go_wp2_with fail
        go_meet
        case rel => exact ⟨Hx.alloc _, Hy.alloc _, Hz.alloc _, below_a hB _⟩
      · subst h2 h3
        go_wp2_with fail
        go_meet
        case rel => exact ⟨Hx.alloc _, Hy.alloc _, Hz.alloc _, below_a hB _⟩
      · subst h2 h3
        go_wp2_with fail
        go_meet
        case rel => exact ⟨Hx.alloc _, Hy.alloc _, Hz.alloc _, below_a hB _⟩
  case rest =>
    as_aux_lemma =>
      clear hT Hq cq lq Hx cx lx Hy cy ly Hz cz lz hB
      obtain ⟨Hx, Hy, Hz, hB⟩ := hcut
      have cx := Hx.at
      have lx := Hx.lt
      have cy := Hy.at
      have ly := Hy.lt
      have cz := Hz.at
      have lz := Hz.lt
      go_wp2_with fail
      refine (cS.out _).mono ?_
      rintro e ws ⟨rfl, hb⟩
      clear cx lx
      replace Hx := Hx.call hb
      have cx := Hx.at
      have lx := Hx.lt
      clear cy ly
      replace Hy := Hy.call hb
      have cy := Hy.at
      have ly := Hy.lt
      clear cz lz
      replace Hz := Hz.call hb
      have cz := Hz.at
      have lz := Hz.lt
      replace hB := below_call hB hb
      clear hb
      clear cS
      go_wp2_with fail
      refine (cD.out _).mono ?_
      rintro e wd ⟨rfl, hb⟩
      clear cx lx
      clear cy ly
      clear cz lz
      replace Hx := Hx.next hb
      replace Hy := Hy.next hb
      replace Hz := Hz.next hb
      have Hs := Has.made hb
      have cx := Hx.at
      have lx := Hx.lt
      have cy := Hy.at
      have ly := Hy.lt
      have cz := Hz.at
      have lz := Hz.lt
      have cs := Hs.at
      have ls := Hs.lt
      replace hB := below_call (below_a hB _) hb
      clear hb
      go_wp2_with fail
      refine (cP.out _).mono ?_
      rintro e wp ⟨rfl, hb⟩
      clear cx lx
      clear cy ly
      clear cz lz
      clear cs ls
      replace Hx := Hx.next hb
      replace Hy := Hy.next hb
      replace Hz := Hz.next hb
      replace Hs := Hs.next hb
      have Hd := Has.made hb
      have cx := Hx.at
      have lx := Hx.lt
      have cy := Hy.at
      have ly := Hy.lt
      have cz := Hz.at
      have lz := Hz.lt
      have cs := Hs.at
      have ls := Hs.lt
      have cd := Hd.at
      have ld := Hd.lt
      replace hB := below_call (below_a hB _) hb
      clear hb
      go_wp2_with fail
      refine (cP1.out _).mono ?_
      rintro e wp1 ⟨rfl, hb⟩
      clear cx lx
      clear cy ly
      clear cz lz
      clear cs ls
      clear cd ld
      replace Hx := Hx.next hb
      replace Hy := Hy.next hb
      replace Hz := Hz.next hb
      replace Hs := Hs.next hb
      replace Hd := Hd.next hb
      have Hp := Has.made hb
      have cx := Hx.at
      have lx := Hx.lt
      have cy := Hy.at
      have ly := Hy.lt
      have cz := Hz.at
      have lz := Hz.lt
      have cs := Hs.at
      have ls := Hs.lt
      have cd := Hd.at
      have ld := Hd.lt
      have cp := Hp.at
      have lp := Hp.lt
      replace hB := below_call (below_a hB _) hb
      clear hb
      go_wp2_with fail
      refine (cP2.out _).mono ?_
      rintro e wp2 ⟨rfl, hb⟩
      clear cx lx
      clear cy ly
      clear cz lz
      clear cs ls
      clear cd ld
      clear cp lp
      replace Hx := Hx.next hb
      replace Hy := Hy.next hb
      replace Hz := Hz.next hb
      replace Hs := Hs.next hb
      replace Hd := Hd.next hb
      replace Hp := Hp.next hb
      have Hp1 := Has.made hb
      have cx := Hx.at
      have lx := Hx.lt
      have cy := Hy.at
      have ly := Hy.lt
      have cz := Hz.at
      have lz := Hz.lt
      have cs := Hs.at
      have ls := Hs.lt
      have cd := Hd.at
      have ld := Hd.lt
      have cp := Hp.at
      have lp := Hp.lt
      have cp1 := Hp1.at
      have lp1 := Hp1.lt
      replace hB := below_call (below_a hB _) hb
      clear hb
      go_wp2_with fail
      refine (cM.out _).mono ?_
      rintro e wm ⟨rfl, hb⟩
      clear cx lx
      clear cy ly
      clear cz lz
      clear cs ls
      clear cd ld
      clear cp lp
      clear cp1 lp1
      replace Hx := Hx.next hb
      replace Hy := Hy.next hb
      replace Hz := Hz.next hb
      replace Hs := Hs.next hb
      replace Hd := Hd.next hb
      replace Hp := Hp.next hb
      replace Hp1 := Hp1.next hb
      have Hp2 := Has.made hb
      have cx := Hx.at
      have lx := Hx.lt
      have cy := Hy.at
      have ly := Hy.lt
      have cz := Hz.at
      have lz := Hz.lt
      have cs := Hs.at
      have ls := Hs.lt
      have cd := Hd.at
      have ld := Hd.lt
      have cp := Hp.at
      have lp := Hp.lt
      have cp1 := Hp1.at
      have lp1 := Hp1.lt
      have cp2 := Hp2.at
      have lp2 := Hp2.lt
      replace hB := below_call (below_a hB _) hb
      clear hb
      clear cD cP cP1 cP2 cM
      clear Hp1 cp1 lp1
      clear Hp2 cp2 lp2
      obtain ⟨hS1, hP1⟩ := HS.out
      go_wp2_with fail
      refine (wByte_calls _ _ _ zs _ _ (HW.out.below (below_a hB _)) hl' (by omega) (by omega)).mono ?_
      rintro e w2 ⟨⟨v, v0, v1, rfl⟩, rfl⟩
      clear HS hS1 hP1 HW hl
      clear Hy cy ly
      clear Hz cz lz
      clear Hs cs ls
      clear Hd cd ld
      clear Hp cp lp
      have hv0 : 0 ≤ v % 70 := by omega
      have hv1 : v % 70 ≤ 69 := by omega
      generalize hK : v % 70 = K at hv0 hv1
      have HK : Hid (v % 70 = K) := hK
      have cL : Hid (∀ w, Calls Try.prog 23 #[.int .i64 10, vOf 2 a 0 ⟨#[]⟩ 0, vOf 2 K 0 ⟨#[]⟩ 0] w fun e w' => e = .returned (gV 0 2 (wrap64 (a * 2 ^ min K.toNat 64)) 0 ⟨#[]⟩ 0) ∧ Below w.heap.size w w') := fun w => bi_shl a K (by omega) (by omega) w
      generalize hL : wrap64 (a * 2 ^ min K.toNat 64) = L at cL
      have cB : Hid (∀ w, Calls Try.prog 23 #[.int .i64 11, vOf 2 L 0 ⟨#[]⟩ 0, vOf 2 K 0 ⟨#[]⟩ 0] w fun e w' => e = .returned (gV 0 2 (wrap64 (IntKind.u64.wrap L / 2 ^ min K.toNat 64)) 0 ⟨#[]⟩ 0) ∧ Below w.heap.size w w') := fun w => bi_shr L K (by omega) (by omega) w
      generalize hBK : wrap64 (IntKind.u64.wrap L / 2 ^ min K.toNat 64) = BK at cB
      have HL : Hid (wrap64 (a * 2 ^ min K.toNat 64) = L ∧ wrap64 (IntKind.u64.wrap L / 2 ^ min K.toNat 64) = BK) := ⟨hL, hBK⟩
      clear hL hBK
      go_upto_region 26 with fail
      go_cut [18, 19] (fun k l wc => k = .int .i64 K ∧ ∃ B, l = .pointer (some ⟨B, 0, none⟩) ∧ Has wc B (vA 2 L 0 ⟨#[]⟩ 0) ∧ Has wc wx.heap.size (vA 2 a 0 ⟨#[]⟩ 0) ∧ Below w1.heap.size w1 wc)
      case first =>
        as_aux_lemma =>
          have hwz0 := hB.size
          go_region_with (first | (go_at_call 22; refine (wInt_calls _ _).mono ?_; rintro e wl ⟨rfl, hb⟩; obtain ⟨hcb, hfb⟩ := bcell hb; have hzb := hb.size; (try simp at hzb); (try have hzc := Nat.lt_of_succ_le hzb); (first | replace Hn := Hn.call hb | replace Hn := Hn.drew.call hb | replace Hn := Hn.drew.drew.call hb | have Hn := Has.made hb | have Hn := (Has.drew (Has.new _ _ _)).call hb | have Hn := (Has.drew (Has.drew (Has.new _ _ _))).call hb | skip); (first | replace Hx := Hx.call hb | replace Hx := Hx.drew.call hb | replace Hx := Hx.drew.drew.call hb | replace Hx := Hx.drew.drew.drew.call hb | replace Hx := (Has.alloc Hx _).call hb | replace Hx := (Has.alloc Hx _).drew.call hb | replace Hx := (Has.alloc Hx _).drew.drew.call hb | replace Hx := (Has.alloc Hx _).drew.drew.drew.call hb | replace Hx := (Has.alloc (Has.alloc Hx _) _).call hb | replace Hx := (Has.alloc (Has.alloc Hx _) _).drew.call hb | replace Hx := (Has.alloc (Has.alloc Hx _) _).drew.drew.call hb | replace Hx := (Has.alloc (Has.alloc Hx _) _).drew.drew.drew.call hb); clear cx lx; have cx := Hx.at; have lx := Hx.lt; (first | replace hB := below_call hB hb | replace hB := below_call hB.drew hb | replace hB := below_call hB.drew.drew hb | replace hB := below_call hB.drew.drew.drew hb | replace hB := below_call (below_a hB _) hb | replace hB := below_call (below_a hB _).drew hb | replace hB := below_call (below_a hB _).drew.drew hb | replace hB := below_call (below_a hB _).drew.drew.drew hb | replace hB := below_call (below_a (below_a hB _) _) hb | replace hB := below_call (below_a (below_a hB _) _).drew hb | replace hB := below_call (below_a (below_a hB _) _).drew.drew hb | replace hB := below_call (below_a (below_a hB _) _).drew.drew.drew hb); have hwz := hB.size; clear hb) | (go_at_call 23; refine (cL.out _).mono ?_; rintro e wl ⟨rfl, hb⟩; obtain ⟨hcb, hfb⟩ := bcell hb; have hzb := hb.size; (try simp at hzb); (try have hzc := Nat.lt_of_succ_le hzb); (first | replace Hn := Hn.call hb | replace Hn := Hn.drew.call hb | replace Hn := Hn.drew.drew.call hb | have Hn := Has.made hb | have Hn := (Has.drew (Has.new _ _ _)).call hb | have Hn := (Has.drew (Has.drew (Has.new _ _ _))).call hb | skip); (first | replace Hx := Hx.call hb | replace Hx := Hx.drew.call hb | replace Hx := Hx.drew.drew.call hb | replace Hx := Hx.drew.drew.drew.call hb | replace Hx := (Has.alloc Hx _).call hb | replace Hx := (Has.alloc Hx _).drew.call hb | replace Hx := (Has.alloc Hx _).drew.drew.call hb | replace Hx := (Has.alloc Hx _).drew.drew.drew.call hb | replace Hx := (Has.alloc (Has.alloc Hx _) _).call hb | replace Hx := (Has.alloc (Has.alloc Hx _) _).drew.call hb | replace Hx := (Has.alloc (Has.alloc Hx _) _).drew.drew.call hb | replace Hx := (Has.alloc (Has.alloc Hx _) _).drew.drew.drew.call hb); clear cx lx; have cx := Hx.at; have lx := Hx.lt; (first | replace hB := below_call hB hb | replace hB := below_call hB.drew hb | replace hB := below_call hB.drew.drew hb | replace hB := below_call hB.drew.drew.drew hb | replace hB := below_call (below_a hB _) hb | replace hB := below_call (below_a hB _).drew hb | replace hB := below_call (below_a hB _).drew.drew hb | replace hB := below_call (below_a hB _).drew.drew.drew hb | replace hB := below_call (below_a (below_a hB _) _) hb | replace hB := below_call (below_a (below_a hB _) _).drew hb | replace hB := below_call (below_a (below_a hB _) _).drew.drew hb | replace hB := below_call (below_a (below_a hB _) _).drew.drew.drew hb); have hwz := hB.size; clear hb))
          all_goals go_wp2_with fail
          all_goals go_meet
          all_goals first | (with_reducible exact ⟨rfl, _, rfl, Has.new _ _ _, Hx.alloc _, below_a hB _⟩) | (with_reducible exact ⟨rfl, _, rfl, Has.set5 Hn rfl _ _ _ _ _, Has.set5_other Hx (Has.ne Hn Hx (by simp)) _ _ _ _ _, set5 hB (by omega) _ _ _ _ _⟩) | (simp only [World.size_alloc] at Hn; with_reducible exact ⟨rfl, _, rfl, Has.set5 Hn rfl _ _ _ _ _, Has.set5_other Hx (Has.ne Hn Hx (by simp)) _ _ _ _ _, set5 hB (by omega) _ _ _ _ _⟩)
      case rest =>
        as_aux_lemma =>
          clear cL Hx cx lx hB hK HK
          obtain ⟨rfl, B, rfl, Hl, Hx, hB⟩ := hcut
          have cx := Hx.at
          have lx := Hx.lt
          have cl := Hl.at
          have ll := Hl.lt
          go_upto_region 27 with fail
          go_cut [20] (fun bk wc => ∃ B2, bk = .pointer (some ⟨B2, 0, none⟩) ∧ Has wc B2 (vA 2 BK 0 ⟨#[]⟩ 0) ∧ Has wc wx.heap.size (vA 2 a 0 ⟨#[]⟩ 0) ∧ Below w1.heap.size w1 wc)
          case first =>
            as_aux_lemma =>
              have hwz0 := hB.size
              go_region_with (first | (go_at_call 22; refine (wInt_calls _ _).mono ?_; rintro e wl ⟨rfl, hb⟩; obtain ⟨hcb, hfb⟩ := bcell hb; have hzb := hb.size; (try simp at hzb); (try have hzc := Nat.lt_of_succ_le hzb); (first | replace Hn := Hn.call hb | replace Hn := Hn.drew.call hb | replace Hn := Hn.drew.drew.call hb | have Hn := Has.made hb | have Hn := (Has.drew (Has.new _ _ _)).call hb | have Hn := (Has.drew (Has.drew (Has.new _ _ _))).call hb | skip); (first | replace Hx := Hx.call hb | replace Hx := Hx.drew.call hb | replace Hx := Hx.drew.drew.call hb | replace Hx := Hx.drew.drew.drew.call hb | replace Hx := (Has.alloc Hx _).call hb | replace Hx := (Has.alloc Hx _).drew.call hb | replace Hx := (Has.alloc Hx _).drew.drew.call hb | replace Hx := (Has.alloc Hx _).drew.drew.drew.call hb | replace Hx := (Has.alloc (Has.alloc Hx _) _).call hb | replace Hx := (Has.alloc (Has.alloc Hx _) _).drew.call hb | replace Hx := (Has.alloc (Has.alloc Hx _) _).drew.drew.call hb | replace Hx := (Has.alloc (Has.alloc Hx _) _).drew.drew.drew.call hb); (first | replace Hl := Hl.call hb | replace Hl := Hl.drew.call hb | replace Hl := Hl.drew.drew.call hb | replace Hl := Hl.drew.drew.drew.call hb | replace Hl := (Has.alloc Hl _).call hb | replace Hl := (Has.alloc Hl _).drew.call hb | replace Hl := (Has.alloc Hl _).drew.drew.call hb | replace Hl := (Has.alloc Hl _).drew.drew.drew.call hb | replace Hl := (Has.alloc (Has.alloc Hl _) _).call hb | replace Hl := (Has.alloc (Has.alloc Hl _) _).drew.call hb | replace Hl := (Has.alloc (Has.alloc Hl _) _).drew.drew.call hb | replace Hl := (Has.alloc (Has.alloc Hl _) _).drew.drew.drew.call hb); clear cx lx cl ll; have cx := Hx.at; have lx := Hx.lt; have cl := Hl.at; have ll := Hl.lt; (first | replace hB := below_call hB hb | replace hB := below_call hB.drew hb | replace hB := below_call hB.drew.drew hb | replace hB := below_call hB.drew.drew.drew hb | replace hB := below_call (below_a hB _) hb | replace hB := below_call (below_a hB _).drew hb | replace hB := below_call (below_a hB _).drew.drew hb | replace hB := below_call (below_a hB _).drew.drew.drew hb | replace hB := below_call (below_a (below_a hB _) _) hb | replace hB := below_call (below_a (below_a hB _) _).drew hb | replace hB := below_call (below_a (below_a hB _) _).drew.drew hb | replace hB := below_call (below_a (below_a hB _) _).drew.drew.drew hb); have hwz := hB.size; clear hb) | (go_at_call 23; refine (cB.out _).mono ?_; rintro e wl ⟨rfl, hb⟩; obtain ⟨hcb, hfb⟩ := bcell hb; have hzb := hb.size; (try simp at hzb); (try have hzc := Nat.lt_of_succ_le hzb); (first | replace Hn := Hn.call hb | replace Hn := Hn.drew.call hb | replace Hn := Hn.drew.drew.call hb | have Hn := Has.made hb | have Hn := (Has.drew (Has.new _ _ _)).call hb | have Hn := (Has.drew (Has.drew (Has.new _ _ _))).call hb | skip); (first | replace Hx := Hx.call hb | replace Hx := Hx.drew.call hb | replace Hx := Hx.drew.drew.call hb | replace Hx := Hx.drew.drew.drew.call hb | replace Hx := (Has.alloc Hx _).call hb | replace Hx := (Has.alloc Hx _).drew.call hb | replace Hx := (Has.alloc Hx _).drew.drew.call hb | replace Hx := (Has.alloc Hx _).drew.drew.drew.call hb | replace Hx := (Has.alloc (Has.alloc Hx _) _).call hb | replace Hx := (Has.alloc (Has.alloc Hx _) _).drew.call hb | replace Hx := (Has.alloc (Has.alloc Hx _) _).drew.drew.call hb | replace Hx := (Has.alloc (Has.alloc Hx _) _).drew.drew.drew.call hb); (first | replace Hl := Hl.call hb | replace Hl := Hl.drew.call hb | replace Hl := Hl.drew.drew.call hb | replace Hl := Hl.drew.drew.drew.call hb | replace Hl := (Has.alloc Hl _).call hb | replace Hl := (Has.alloc Hl _).drew.call hb | replace Hl := (Has.alloc Hl _).drew.drew.call hb | replace Hl := (Has.alloc Hl _).drew.drew.drew.call hb | replace Hl := (Has.alloc (Has.alloc Hl _) _).call hb | replace Hl := (Has.alloc (Has.alloc Hl _) _).drew.call hb | replace Hl := (Has.alloc (Has.alloc Hl _) _).drew.drew.call hb | replace Hl := (Has.alloc (Has.alloc Hl _) _).drew.drew.drew.call hb); clear cx lx cl ll; have cx := Hx.at; have lx := Hx.lt; have cl := Hl.at; have ll := Hl.lt; (first | replace hB := below_call hB hb | replace hB := below_call hB.drew hb | replace hB := below_call hB.drew.drew hb | replace hB := below_call hB.drew.drew.drew hb | replace hB := below_call (below_a hB _) hb | replace hB := below_call (below_a hB _).drew hb | replace hB := below_call (below_a hB _).drew.drew hb | replace hB := below_call (below_a hB _).drew.drew.drew hb | replace hB := below_call (below_a (below_a hB _) _) hb | replace hB := below_call (below_a (below_a hB _) _).drew hb | replace hB := below_call (below_a (below_a hB _) _).drew.drew hb | replace hB := below_call (below_a (below_a hB _) _).drew.drew.drew hb); have hwz := hB.size; clear hb))
              all_goals go_wp2_with fail
              all_goals go_meet
              all_goals first | (with_reducible exact ⟨_, rfl, Has.new _ _ _, Hx.alloc _, below_a hB _⟩) | (with_reducible exact ⟨_, rfl, Has.set5 Hn rfl _ _ _ _ _, Has.set5_other Hx (Has.ne Hn Hx (by simp)) _ _ _ _ _, set5 hB (by omega) _ _ _ _ _⟩) | (simp only [World.size_alloc] at Hn; with_reducible exact ⟨_, rfl, Has.set5 Hn rfl _ _ _ _ _, Has.set5_other Hx (Has.ne Hn Hx (by simp)) _ _ _ _ _, set5 hB (by omega) _ _ _ _ _⟩)
          case rest =>
            as_aux_lemma =>
              clear cB Hx cx lx Hl cl ll hB
              obtain ⟨B2, rfl, Hk, Hx, hB⟩ := hcut
              have cx := Hx.at
              have lx := Hx.lt
              have ck := Hk.at
              have lk := Hk.lt
              go_upto_if 165 with fail
              go_cut [21] (fun m wc => (∃ M, m = .int .u64 M ∧ (IntKind.u64.wrap BK == bits .and .u64 (IntKind.u64.wrap a) M) = true) ∧ Has wc B2 (vA 2 BK 0 ⟨#[]⟩ 0) ∧ Has wc wx.heap.size (vA 2 a 0 ⟨#[]⟩ 0) ∧ Below w1.heap.size w1 wc)
              case first =>
                as_aux_lemma =>
                  by_cases h64 : K < 64
                  · have f1 : Hid ((IntKind.u64.wrap BK == bits .and .u64 (IntKind.u64.wrap a) (18446744073709551615 / 2 ^ K.toNat)) = true) := beq_iff_eq.2 (shift_back a K L BK hv0 h64 HL.out.1 HL.out.2)
                    go_wp2_with fail
                    go_meet
                    case rel => with_reducible exact ⟨⟨_, rfl, f1.out⟩, Hk, Hx, hB⟩
                  · have f2 := shift_far a K L BK (by omega) HL.out.1 HL.out.2
                    have f1 : Hid ((IntKind.u64.wrap BK == bits .and .u64 (IntKind.u64.wrap a) 0) = true) := by rw [f2]; exact beq_iff_eq.2 (by unfold bits; simp [u64_wrap])
                    clear f2
                    go_wp2_with fail
                    go_meet
                    case rel => with_reducible exact ⟨⟨_, rfl, f1.out⟩, Hk, Hx, hB⟩
              case rest =>
                as_aux_lemma =>
                  clear Hx cx lx Hk ck lk hB
                  obtain ⟨⟨M, rfl, f1⟩, Hk, Hx, hB⟩ := hcut
                  have cx := Hx.at
                  have lx := Hx.lt
                  have ck := Hk.at
                  have lk := Hk.lt
                  have cN : Hid (∀ w, Calls Try.prog 23 #[.int .i64 10, vOf 2 a 0 ⟨#[]⟩ 0, vOf 2 (IntKind.i64.wrap (-1 - K)) 0 ⟨#[]⟩ 0] w fun e w' => e = .returned (gV 3 0 0 0 ⟨#[]⟩ 0) ∧ Below w.heap.size w w') := by intro w; rw [show IntKind.i64.wrap (-1 - K) = -1 - K by rw [IntKind.wrap_i64]; omega]; exact bi_shlneg a (-1 - K) (by omega) w
                  clear HL v0 v1
                  go_upto_region 31 with fail
                  clear cx lx ck lk
                  go_region_held3 (fun w' => w'.cell? ⟨B2, 1, none⟩ = some (.int .i64 BK) ∧ w'.cell? ⟨B2, 0, none⟩ = some (.int .i64 2) ∧ w'.cell? ⟨wx.heap.size, 0, none⟩ = some (.int .i64 2) ∧ w'.cell? ⟨wx.heap.size, 1, none⟩ = some (.int .i64 a) ∧ w'.cell? ⟨wx.heap.size, 2, none⟩ = some (.float .f64 0) ∧ w'.cell? ⟨wx.heap.size, 3, none⟩ = some (.string ⟨#[]⟩) ∧ w'.cell? ⟨wx.heap.size, 4, none⟩ = some (.int .i64 0)) (first | (with_reducible exact ⟨Hk.c1, Hk.c0, Hx.c0, Hx.c1, Hx.c2, Hx.c3, Hx.c4⟩) | (with_reducible exact ⟨Hk.drew.c1, Hk.drew.c0, Hx.drew.c0, Hx.drew.c1, Hx.drew.c2, Hx.drew.c3, Hx.drew.c4⟩)) (first | (go_at_call 22; refine (wInt_calls _ _).mono ?_; rintro e wl ⟨rfl, hb⟩; (first | replace Hk := Hk.call hb | replace Hk := Hk.drew.call hb); (first | replace Hx := Hx.call hb | replace Hx := Hx.drew.call hb); (first | replace hB := below_call hB hb | replace hB := below_call hB.drew hb); clear hb) | (go_at_call 23; refine (cN.out _).mono ?_; rintro e wl ⟨rfl, hb⟩; (first | replace Hk := Hk.call hb | replace Hk := Hk.drew.call hb); (first | replace Hx := Hx.call hb | replace Hx := Hx.drew.call hb); (first | replace hB := below_call hB hb | replace hB := below_call hB.drew hb); clear hb))
                  all_goals go_wp2
                  all_goals go_ret
                  all_goals exact ⟨rfl, by first | (with_reducible exact hB) | (with_reducible exact hB.drew) | (with_reducible exact hB.drew.drew) | (with_reducible exact hB.drew.drew.drew)⟩
end Go.Proofs.Ytiidepafifodjaa
