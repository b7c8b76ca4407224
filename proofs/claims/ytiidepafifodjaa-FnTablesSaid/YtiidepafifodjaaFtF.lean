import Derived.Test.YtiidepafifodjaaFtC
import Derived.Test.YtiidepafifodjaaFtG
/-! FnTables: the walk. -/
namespace Go.Proofs.Ytiidepafifodjaa
open Go.RowKit
attribute [local go_sem] run_store_float
attribute [local go_sem ↓] Go.wp_at_zero Go.wp_at_succ

theorem code_at {w w' : World} {a : Option Addr} {len cap : Nat} {zs : List Int} (h : IsRow w a len cap zs) (hb : Below w.heap.size w w') {i : Nat} (hi : i < len) : ∃ b off z, a = some ⟨b, off, none⟩ ∧ w'.cell? ⟨b, off + i, none⟩ = some (.int .u8 z) ∧ 0 ≤ z ∧ z ≤ 255 := by
  rcases h with ⟨h0, _⟩ | ⟨x, rfl, h1, h2, h3, h4, h5⟩
  · omega
  · have hc := h4 i (by omega)
    obtain ⟨b, off, spot⟩ := x
    have hspot : spot = none := by simpa [Addr.add] using World.cell?_spot (h4 0 (by omega))
    subst hspot
    rw [add_none] at hc
    have hw := u8_of_wf (h5 (zs.getD i 0) (by rw [List.getD_eq_getElem?_getD, List.getElem?_eq_getElem (by omega)]; exact List.getElem_mem (by omega)))
    exact ⟨b, off, _, rfl, cell_call hc hb, hw.1, hw.2⟩

/-- what the writing reads -/
structure R19 (Bb : Nat) (a' : Option Addr) (n c' : Nat) (t : Int) (Bv : Nat) (y : VD) (u : World) : Prop where
  h : Has u Bb #[.slice a' n c', .int .i64 t]
  g : Has u Bv (vCs y)
theorem R19.call {Bb : Nat} {a' : Option Addr} {n c' : Nat} {t : Int} {Bv : Nat} {y : VD} {u u' : World} (h : R19 Bb a' n c' t Bv y u) (hb : Below u.heap.size u u') : R19 Bb a' n c' t Bv y u' := ⟨h.h.call hb, h.g.call hb⟩
theorem R19.drew {Bb : Nat} {a' : Option Addr} {n c' : Nat} {t : Int} {Bv : Nat} {y : VD} {u : World} (h : R19 Bb a' n c' t Bv y u) : R19 Bb a' n c' t Bv y u.drew := ⟨h.h, h.g⟩
theorem R19.set {Bb : Nat} {a' : Option Addr} {n c' : Nat} {t : Int} {Bv : Nat} {y : VD} {u : World} (h : R19 Bb a' n c' t Bv y u) {B : Nat} (hb : Bb ≠ B) (hv : Bv ≠ B) (v0 v1 : Value) : R19 Bb a' n c' t Bv y ((u.setCell ⟨B, 0, none⟩ v0).setCell ⟨B, 1, none⟩ v1) := by
  have hk : ∀ k, k ≠ B → ((u.setCell ⟨B, 0, none⟩ v0).setCell ⟨B, 1, none⟩ v1).heap[k]? = u.heap[k]? := fun k hk => (Below.heap_setCell _ ⟨B, 1, none⟩ _ k hk).trans (Below.heap_setCell _ ⟨B, 0, none⟩ _ k hk)
  exact ⟨h.h.far (by simp) (hk Bb hb), h.g.far (by simp) (hk Bv hv)⟩
theorem R19.c {Bb : Nat} {a' : Option Addr} {n c' : Nat} {t : Int} {Bv : Nat} {y : VD} {u : World} (h : R19 Bb a' n c' t Bv y u) : u.cell? ⟨Bb, 0, none⟩ = some (.slice a' n c') ∧ u.cell? ⟨Bb, 1, none⟩ = some (.int .i64 t) ∧ u.cell? ⟨Bv, 0, none⟩ = some (.int .i64 y.k) ∧ u.cell? ⟨Bv, 1, none⟩ = some (.int .i64 y.n) ∧ u.cell? ⟨Bv, 2, none⟩ = some (.float .f64 y.f) ∧ u.cell? ⟨Bv, 3, none⟩ = some (.string y.s) ∧ u.cell? ⟨Bv, 4, none⟩ = some (.int .i64 y.r) := ⟨h.h.at 0, h.h.at 1, h.g.at 0, h.g.at 1, h.g.at 2, h.g.at 3, h.g.at 4⟩

set_option maxRecDepth 100000 in
set_option maxHeartbeats 16000000 in
theorem tables_walk (a : Option Addr) (len cap : Nat) (zs : List Int) (w : World) (hr : IsRow w a len cap zs) :
    Calls Try.prog 6 #[.slice a len cap] w fun e w' => e = .returned (.bool true) ∧ Below w.heap.size w w' := by
  have HR : Hid (IsRow w a len cap zs) := hr
  clear hr
  by_cases hbig : 1048576 < len
  · go_enter Try.func6, Try.ntmps6
    go_wp2_with fail
    go_ret
    exact ⟨rfl, Below.refl _ _⟩
  have HF : Hid (FS w D0 none 0 none 0 D0.n (fun _ => 0) none 0 D0.n (fun _ => 0) (w.alloc (.cells #[.slice none 0 0, .int .i64 0] 59))) := FS.new w _ _
  go_enter Try.func6, Try.ntmps6
  go_upto_if 25 with fail
  go_cut [6] (fun s wc => (∃ m : Nat, m ≤ 60 ∧ m ≤ len ∧ s = .int .i64 m) ∧ wc = w.alloc (.cells #[.slice none 0 0, .int .i64 0] 59))
  case first =>
    by_cases h60 : 60 < len
    · go_wp2_with fail
      go_meet
      exact ⟨⟨60, by omega, by omega, rfl⟩, rfl⟩
    · go_wp2_with fail
      go_meet
      exact ⟨⟨len, by omega, by omega, rfl⟩, rfl⟩
  case rest =>
    obtain ⟨⟨m, hm, hml, rfl⟩, rfl⟩ := hcut
    go_wp2_with fail
    go_loopw [4, 5, 7] (fun s4 s5 s7 wx => ∃ (i : Nat) (D : TD) (a' : Option Addr) (c' : Nat) (ka : Option Addr) (kc : Nat) (va : Option Addr) (vc : Nat) (K V : Nat → Int), i ≤ m ∧ s7 = .int .i64 i ∧ s4 = .slice ka D.n kc ∧ s5 = .slice va D.n vc ∧ D.n ≤ i ∧ D.t ≤ i ∧ IsT D.n D.t D.q K V ∧ FS w D a' c' ka kc D.n K va vc D.n V wx) (fun _ _ s7 _ => m - (intOf s7).toNat)
    case atStart => exact ⟨0, D0, none, 0, none, 0, none, 0, _, _, Nat.zero_le _, rfl, rfl, rfl, Nat.zero_le _, Int.le_refl _, IsT.nil _ _ _, HF.out⟩
    case round =>
      clear HF
      obtain ⟨i, D, a', c', ka, kc, va, vc, K, V, hi, rfl, rfl, rfl, hDn, hDt, hI0, hF⟩ := hrel
      have HF : Hid (FS w D a' c' ka kc D.n K va vc D.n V wr) := hF
      have hI : Hid (IsT D.n D.t D.q K V) := hI0
      clear hF hI0
      by_cases him : i < m
      · obtain ⟨b, off, z, rfl, hz, hz0, hz1⟩ := code_at HR.out HF.out.b (show i < len by omega)
        obtain ⟨x0, x1⟩ := HF.out.c
        go_wp2_with fail
        obtain ⟨kk, hkk⟩ : ∃ kk, z % 12 = kk := ⟨_, rfl⟩
        obtain ⟨x, hx⟩ : ∃ x, z / 12 % 4 = x := ⟨_, rfl⟩
        rw [hkk, hx]
        have hx0 : 0 ≤ x := by omega
        have hx3 : x ≤ 3 := by omega
        clear hkk hx
        refine (wInt_calls (100 * (i : Int) + x) _).mono ?_
        rintro e w2 ⟨rfl, hb2⟩
        have HBf : Hid (Has w2 wr.heap.size #[.slice a' D.n c', .int .i64 D.t]) := Has.made hb2
        have hlt : Hid (w.heap.size < wr.heap.size ∧ w.heap.size < w2.heap.size) := ⟨HF.out.tb.lt, ((HF.out.alloc _).call hb2).tb.lt⟩
        replace HF : Hid (FS w D a' c' ka kc D.n K va vc D.n V w2) := (HF.out.alloc _).call hb2
        clear hz x0 x1 hb2
        obtain ⟨Bb, hBb⟩ : ∃ Bb, wr.heap.size = Bb := ⟨_, rfl⟩
        rw [hBb] at HBf hlt ⊢
        clear hBb
        go_upto_if 54 with fail
        go_cut [] (fun wc => ∃ y, PutV x (100 * (i : Int) + x) y ∧ WB w2.heap.size y wc ∧ Below w2.heap.size w2 wc)
        case first =>
          as_aux_lemma =>
            have HB := WB.new w2 (iv (100 * (i : Int) + x)) 42
            have HB' : Hid _ := HB
            by_cases hxz : x = 0
            · subst hxz
              obtain ⟨z0, z1, z2, z3, z4⟩ := HB.ci
              have zf := HB.fr
              clear HB
              go_wp2_with fail
              go_meet
              exact ⟨vz, .inl ⟨rfl, rfl⟩, WB.new w2 vz _, below_alloc _ _⟩
            · have hxe : (x == 0) = false := by simpa using hxz
              clear HB
              go_wp2_with fail
              go_meet
              exact ⟨iv _, .inr ⟨hxz, rfl⟩, HB'.out, below_alloc _ _⟩
        case rest =>
          obtain ⟨y, hpv, hwb, hbel⟩ := hcut
          have HP : Hid (PutV x (100 * (i : Int) + x) y) := hpv
          obtain ⟨Bv, hBv⟩ : ∃ Bv, w2.heap.size = Bv := ⟨_, rfl⟩
          have HRr : Hid (R19 Bb a' D.n c' D.t Bv y wc) := ⟨HBf.out.call (hbel), hBv ▸ hwb.h⟩
          have HFU : Hid (FS w D a' c' ka kc D.n K va vc D.n V wc) := HF.out.call hbel
          rw [hBv] at hlt ⊢
          clear HF HBf hpv hwb hbel hBv
          obtain ⟨U, hU⟩ : ∃ U, U = wc := ⟨_, rfl⟩
          subst hU
          go_upto_region 19 with fail
          have HU : Hid (Below U.heap.size U U) := Below.refl _ _
          have HF : Hid (FS w D a' c' ka kc D.n K va vc D.n V U) := HFU.out
          obtain ⟨t0, t1⟩ := HF.out.c
          have tf := HF.out.fr
          have tl := HF.out.tb.lt
          go_cut [] (fun wc => ∃ D7 a7 c7, PutSays D.n D.t D.q (iv kk) y D7 ∧ FS w D7 a7 c7 ka kc D.n K va vc D.n V wc ∧ R19 Bb a' D.n c' D.t Bv y wc)
          case first =>
            as_aux_lemma =>
              go_region_held3 (fun w' => w'.cell? ⟨Bb, 0, none⟩ = some (.slice a' D.n c') ∧ w'.cell? ⟨Bb, 1, none⟩ = some (.int .i64 D.t) ∧ w'.cell? ⟨Bv, 0, none⟩ = some (.int .i64 y.k) ∧ w'.cell? ⟨Bv, 1, none⟩ = some (.int .i64 y.n) ∧ w'.cell? ⟨Bv, 2, none⟩ = some (.float .f64 y.f) ∧ w'.cell? ⟨Bv, 3, none⟩ = some (.string y.s) ∧ w'.cell? ⟨Bv, 4, none⟩ = some (.int .i64 y.r)) (first | (with_reducible exact HRr.out.c) | (with_reducible exact HRr.out.drew.c) | (with_reducible exact (HRr.out.set (Nat.ne_of_gt hlt.out.1) (Nat.ne_of_gt hlt.out.2) _ _).c) | (with_reducible exact (HRr.out.drew.set (Nat.ne_of_gt hlt.out.1) (Nat.ne_of_gt hlt.out.2) _ _).c)) (first | (go_at_call 22; refine (wInt_calls _ _).mono ?_; rintro e w6 ⟨rfl, hb6⟩; replace HRr : Hid (R19 Bb a' D.n c' D.t Bv y w6) := (by first | exact HRr.out.call hb6 | exact HRr.out.drew.call hb6); replace HF : Hid (FS w D a' c' ka kc D.n K va vc D.n V w6) := (by first | exact HF.out.call hb6 | exact HF.out.drew.call hb6); replace HU : Hid (Below U.heap.size U w6) := (by first | exact below_ix HU.out hb6 | exact below_ix HU.out.drew hb6); clear t0 t1 tf tl hb6; obtain ⟨t0, t1⟩ := HF.out.c; have tf := HF.out.fr; have tl := HF.out.tb.lt) | (go_at_call 30; refine (implPut_calls a' D.n c' D.t D.q (iv kk) y _ (by omega) hI.out.wf (iv_f _) (by first | exact HF.out.tt | exact HF.out.drew.tt)).mono ?_; rintro e w7 ⟨⟨D7, hD, a7, c7, rfl, ho⟩, hb7⟩; have HD : Hid (PutSays D.n D.t D.q (iv kk) y D7) := hD; clear hD; have HT7 : Hid (Tab w7 a7 D7.n D7.q) := own_tab ho; have HG : Hid (∀ b off sp, a7 = some ⟨b, off, sp⟩ → U.heap.size ≤ b ∧ b < w7.heap.size) := (fun b off sp e => ⟨Nat.le_trans (by first | exact HU.out.size | exact HU.out.drew.size) (own_ge ho b off sp e), own_lt ho e⟩); clear ho; replace HRr : Hid (R19 Bb a' D.n c' D.t Bv y w7) := (by first | exact HRr.out.call hb7 | exact HRr.out.drew.call hb7); replace HF : Hid (FS w D a' c' ka kc D.n K va vc D.n V w7) := (by first | exact HF.out.call hb7 | exact HF.out.drew.call hb7); replace HU : Hid (Below U.heap.size U w7) := (by first | exact below_ix HU.out hb7 | exact below_ix HU.out.drew hb7); clear t0 t1 tf tl hb7; obtain ⟨t0, t1⟩ := HF.out.c; have tf := HF.out.fr; have tl := HF.out.tb.lt))
              all_goals go_wp2_with fail
              all_goals go_meet
              all_goals first | (with_reducible exact ⟨D7, a7, c7, HD.out, FS.put HFU.out HU.out HT7.out HG.out, HRr.out.set (Nat.ne_of_gt hlt.out.1) (Nat.ne_of_gt hlt.out.2) _ _⟩) | (with_reducible exact ⟨D7, a7, c7, HD.out, FS.put HFU.out HU.out.drew HT7.out.drew HG.out, HRr.out.drew.set (Nat.ne_of_gt hlt.out.1) (Nat.ne_of_gt hlt.out.2) _ _⟩)
          case rest =>
            clear HF HU HRr HFU t0 t1 tf tl
            obtain ⟨D7, a7, c7, hD7, hF7, hR7⟩ := hcut
            obtain ⟨hst, hn7, ht7⟩ := stepped hI.out (by omega) (by omega) HP.out hD7
            have HS : Hid (Stepped D.n K V x kk (100 * (i : Int) + x) D7) := hst
            have HF : Hid (FS w D7 a7 c7 ka kc D.n K va vc D.n V wc) := hF7
            obtain ⟨r0, r1, -⟩ := hR7.c
            obtain ⟨t0, t1⟩ := HF.out.c
            clear hst hF7 hR7 HP hD7
            go_wp2_with fail
            refine (implTableOk_calls a7 D7.n c7 D7.t D7.q _ (by omega) HS.out.wf HF.out.tt).mono ?_
            rintro e w3 ⟨⟨b', rfl, hb'⟩, hb3⟩
            obtain rfl : b' = true := hb'.2 HS.out.ok
            replace HF : Hid (FS w D7 a7 c7 ka kc D.n K va vc D.n V w3) := HF.out.call hb3
            clear r0 r1 t0 t1 hb3 hb'
            go_wp2_with fail
            go_loopw [13, 73] (fun v s wx => ∃ (j : Nat), j ≤ D.n ∧ s = .int .i64 j ∧ AtIs K j kk v ∧ wx = w3) (fun _ s _ => D.n - (intOf s).toNat)
            case atStart => exact ⟨0, Nat.zero_le _, rfl, AtIs.zero _ _, rfl⟩
            case round =>
              obtain ⟨j, hj, rfl, hat, rfl⟩ := hrel
              have HA : Hid (AtIs K j kk _) := hat
              clear hat
              by_cases hjn : j < D.n
              · obtain ⟨kb, rfl, ck, _⟩ := HF.out.tr.ko.at hjn
                by_cases he : K j = kk
                · rw [he] at ck
                  go_wp2_with fail
                  clear ck
                  go_roundw
                  case rel => exact ⟨j + 1, by omega, by go_num, AtIs.yes he, trivial⟩
                  case measure => simp [intOf]; omega
                · have he' : (K j == kk) = false := by simpa using he
                  go_wp2_with fail
                  clear ck he'
                  go_roundw
                  case rel => exact ⟨j + 1, by omega, by go_num, HA.out.no he, trivial⟩
                  case measure => simp [intOf]; omega
              · obtain rfl : j = D.n := by omega
                obtain ⟨u, hu⟩ : ∃ u, u = wr := ⟨_, rfl⟩
                subst hu
                obtain ⟨i0, hi0, hy0, hy1, hy2⟩ := info_parts infoInt
                cases HS.out with
                | add hx hk hn h =>
                  have hI7 : Hid (IsT D7.n D7.t D7.q (upF K D.n kk) (upF V D.n (100 * (i : Int) + x))) := h
                  obtain rfl := HA.out.none hk
                  have hxp : 0 < x := by omega
                  clear hk h HS HA
                  go_upto_region 31 with (at_builtin; refine wpList_append_own_at _ rfl _ _ 66 rfl (w.heap.size + 1) 3 i0 _ 1 8 Try.underlying66 hi0 hy0 hy1 hy2 rfl (by decide) (.slice ka D.n kc) D.n (ints K D.n) rfl (HF.out.alloc _).tr.ko ⟨u.heap.size, 0, none⟩ 1 1 [.int .i64 kk] rfl rfl (World.news_of_block (cs := #[.int .i64 kk]) (t := 3) (fr := (0, 0)) (heap_alloc_new _ _)) (by simp [Value.oneCell']) (by unfold maxLen; omega) (by omega) (by first | (have := HF.out.tb.lt; simp; omega) | (have := HBl.out.size; simp; omega)) ?_; intro v' w7 hown hgrow _ hblk; obtain ⟨ka2, kc2, rfl⟩ := OI.form hown; replace HF : Hid (FS w D7 a7 c7 ka2 kc2 (D.n + 1) (upF K D.n kk) va vc D.n V w7) := (HF.out.alloc _).newK (by rw [← ownB ka D.n kc]; exact hgrow) (by unfold OI; rw [ints_add]; exact hown) (by rw [ownB, ownB] at hblk; exact hblk); clear hown hgrow hblk)
                  go_upto_region 46 with (at_builtin; refine wpList_append_own_at _ rfl _ _ 66 rfl (w.heap.size + 1) 3 i0 _ 1 8 Try.underlying66 hi0 hy0 hy1 hy2 rfl (by decide) (.slice va D.n vc) D.n (ints V D.n) rfl (HF.out.alloc _).tr.vo ⟨w7.heap.size, 0, none⟩ 1 1 [.int .i64 (100 * (i : Int) + x)] rfl rfl (World.news_of_block (cs := #[.int .i64 (100 * (i : Int) + x)]) (t := 3) (fr := (0, 0)) (heap_alloc_new _ _)) (by simp [Value.oneCell']) (by unfold maxLen; omega) (by omega) (by first | (have := HF.out.tb.lt; simp; omega) | (have := HBl.out.size; simp; omega)) ?_; intro v' w8 hown hgrow _ hblk; obtain ⟨va2, vc2, rfl⟩ := OI.form hown; replace HF : Hid (FS w D7 a7 c7 ka2 kc2 (D.n + 1) (upF K D.n kk) va2 vc2 (D.n + 1) (upF V D.n (100 * (i : Int) + x)) w8) := (HF.out.alloc _).newV (by rw [← ownB va D.n vc]; exact hgrow) (by unfold OI; rw [ints_add]; exact hown) (by rw [ownB, ownB] at hblk; exact hblk); clear hown hgrow hblk)
                  rw [← hn] at HF ⊢
                  clear hn
                  obtain ⟨t0, t1⟩ := HF.out.c
                  go_wp2_with fail
                  refine (wTable_calls a7 D7.n c7 D7.t D7.q _ _ ka2 va2 kc2 vc2 _ hI7.out HF.out.tt HF.out.tr.ko.row HF.out.tr.vo.row).mono ?_
                  rintro e w9 ⟨rfl, hb9⟩
                  replace HF := HF.out.call hb9
                  have HF9 : Hid _ := HF
                  clear hb9 t0 t1 HF
                  go_wp2_with fail
                  go_roundw
                  case rel => exact ⟨i + 1, D7, a7, c7, ka2, kc2, va2, vc2, _, _, by omega, by go_num, rfl, rfl, by omega, by omega, hI7.out, HF9.out⟩
                  case measure => simp [intOf]; omega
                | set hx j hj hk hn h =>
                  have hI7 : Hid (IsT D7.n D7.t D7.q K (upF V j (100 * (i : Int) + x))) := h
                  obtain rfl := AtIs.some hI.out HA.out hj hk
                  have hxp : 0 < x := by omega
                  obtain ⟨vb, rfl, cv, vf⟩ := HF.out.tr.vo.at hj
                  have hjz : (j : Int) < (D.n : Int) := by omega
                  clear hk h HS HA
                  go_upto_region 46 with fail
                  clear cv vf
                  replace HF : Hid (FS w D7 a7 c7 ka kc D.n K (some ⟨vb, 0, none⟩) vc D.n (upF V j (100 * (i : Int) + x)) (u.setCell ⟨vb, j, none⟩ (.int .i64 (100 * (i : Int) + x)))) := HF.out.newV (grown_setCell u vb j _) (HF.out.tr.vo.set hj _) (.inl rfl)
                  obtain ⟨w7, hw7⟩ : ∃ w7, u.setCell ⟨vb, j, none⟩ (.int .i64 (100 * (i : Int) + x)) = w7 := ⟨_, rfl⟩
                  rw [hw7] at HF ⊢
                  clear hw7
                  rw [← hn] at HF ⊢
                  clear hn
                  obtain ⟨t0, t1⟩ := HF.out.c
                  go_wp2_with fail
                  refine (wTable_calls a7 D7.n c7 D7.t D7.q _ _ ka _ kc vc _ hI7.out HF.out.tt HF.out.tr.ko.row HF.out.tr.vo.row).mono ?_
                  rintro e w9 ⟨rfl, hb9⟩
                  replace HF := HF.out.call hb9
                  have HF9 : Hid _ := HF
                  clear hb9 t0 t1 HF
                  go_wp2_with fail
                  go_roundw
                  case rel => exact ⟨i + 1, D7, a7, c7, ka, kc, _, vc, _, _, by omega, by go_num, rfl, rfl, by omega, by omega, hI7.out, HF9.out⟩
                  case measure => simp [intOf]; omega
                | del hx j hj hk hn h =>
                  have hI7 : Hid (IsT D7.n D7.t D7.q (rmF K j) (rmF V j)) := h
                  obtain rfl := AtIs.some hI.out HA.out hj hk
                  subst hx
                  have Hn : Hid (D7.n = D.n - 1) := hn
                  clear hk h HS HA hn
                  go_wp2_with fail
                  have hd : decide ((0 : Int) ≤ (j : Int)) = true := decide_eq_true (by omega)
                  try rw [hd]
                  clear hd
                  go_loopw [15, 16, 118] (fun s15 s16 s wx => ∃ (l : Nat) (ka2 : Option Addr) (kc2 : Nat) (va2 : Option Addr) (vc2 : Nat), l ≤ D.n ∧ s = .int .i64 l ∧ s15 = .slice ka2 (lft j l) kc2 ∧ s16 = .slice va2 (lft j l) vc2 ∧ TR u.heap.size ka2 kc2 (lft j l) (rmF K j) va2 vc2 (lft j l) (rmF V j) wx ∧ Below u.heap.size u wx) (fun _ _ s _ => D.n - (intOf s).toNat)
                  case atStart => exact ⟨0, none, 0, none, 0, Nat.zero_le _, rfl, by rw [lft_zero], by rw [lft_zero], by rw [lft_zero]; exact TR.none _ _ _ _, Below.refl _ _⟩
                  case round =>
                    obtain ⟨l, ka2, kc2, va2, vc2, hl, rfl, rfl, rfl, htr, hbl⟩ := hrel
                    have HTR : Hid (TR u.heap.size ka2 kc2 (lft j l) (rmF K j) va2 vc2 (lft j l) (rmF V j) wr) := htr
                    have HBl : Hid (Below u.heap.size u wr) := hbl
                    clear htr hbl
                    by_cases hln : l < D.n
                    · by_cases hlj : l = j
                      · subst hlj
                        go_wp2_with fail
                        go_roundw
                        case rel => exact ⟨l + 1, ka2, kc2, va2, vc2, by omega, by go_num, by rw [lft_same], by rw [lft_same], by rw [lft_same]; exact HTR.out, HBl.out⟩
                        case measure => simp [intOf]; omega
                      · have hle : ((l : Int) == (j : Int)) = false := by simp; omega
                        obtain ⟨kb, rfl, ck0, _⟩ := HF.out.tr.ko.at hln
                        obtain ⟨vb, rfl, cv0, _⟩ := HF.out.tr.vo.at hln
                        have ck := cell_call ck0 HBl.out
                        have HCv : Hid (u.cell? ⟨vb, l, none⟩ = some (.int .i64 (V l))) := cv0
                        clear ck0 cv0
                        have hlz : (l : Int) < (D.n : Int) := by omega
                        have hLe := lft_le j l
                        go_upto_region 42 with (at_builtin; refine wpList_append_own_at _ rfl _ _ 66 rfl u.heap.size 3 i0 _ 1 8 Try.underlying66 hi0 hy0 hy1 hy2 rfl (by decide) (.slice ka2 (lft j l) kc2) (lft j l) (ints (rmF K j) (lft j l)) rfl (HTR.out.alloc _).ko ⟨wr.heap.size, 0, none⟩ 1 1 [.int .i64 (K l)] rfl rfl (World.news_of_block (cs := #[.int .i64 (K l)]) (t := 3) (fr := (0, 0)) (heap_alloc_new _ _)) (by simp [Value.oneCell']) (by unfold maxLen; omega) (by omega) (by first | (have := HF.out.tb.lt; simp; omega) | (have := HBl.out.size; simp; omega)) ?_; intro v' w7 hown hgrow _ hblk; obtain ⟨ka3, kc3, rfl⟩ := OI.form hown; replace HBl : Hid (Below u.heap.size u w7) := (HBl.out.alloc HBl.out.size _).grown hgrow (by have := HBl.out.size; simp; omega) (fun k e => by rw [ownB] at e; exact (HTR.out.ko.ge e).1); replace HTR : Hid (TR u.heap.size ka3 kc3 (lft j l + 1) (rmF K j) va2 vc2 (lft j l) (rmF V j) w7) := (HTR.out.alloc _).newK (by rw [← ownB ka2 (lft j l) kc2]; exact hgrow) (OI.ext (K := upF (rmF K j) (lft j l) (K l)) (by unfold OI; rw [ints_add]; exact hown) (rmF_up K hlj)) (by rw [ownB, ownB] at hblk; exact hblk); clear hown hgrow hblk)
                        clear ck
                        have cv := cell_call HCv.out HBl.out
                        go_wp2_with (at_builtin; refine wpList_append_own_at _ rfl _ _ 66 rfl u.heap.size 3 i0 _ 1 8 Try.underlying66 hi0 hy0 hy1 hy2 rfl (by decide) (.slice va2 (lft j l) vc2) (lft j l) (ints (rmF V j) (lft j l)) rfl (HTR.out.alloc _).vo ⟨w7.heap.size, 0, none⟩ 1 1 [.int .i64 (V l)] rfl rfl (World.news_of_block (cs := #[.int .i64 (V l)]) (t := 3) (fr := (0, 0)) (heap_alloc_new _ _)) (by simp [Value.oneCell']) (by unfold maxLen; omega) (by omega) (by first | (have := HF.out.tb.lt; simp; omega) | (have := HBl.out.size; simp; omega)) ?_; intro v' w8 hown hgrow _ hblk; obtain ⟨va3, vc3, rfl⟩ := OI.form hown; replace HBl : Hid (Below u.heap.size u w8) := (HBl.out.alloc HBl.out.size _).grown hgrow (by have := HBl.out.size; simp; omega) (fun k e => by rw [ownB] at e; exact (HTR.out.vo.ge e).1); replace HTR : Hid (TR u.heap.size ka3 kc3 (lft j l + 1) (rmF K j) va3 vc3 (lft j l + 1) (rmF V j) w8) := (HTR.out.alloc _).newV (by rw [← ownB va2 (lft j l) vc2]; exact hgrow) (OI.ext (K := upF (rmF V j) (lft j l) (V l)) (by unfold OI; rw [ints_add]; exact hown) (rmF_up V hlj)) (by rw [ownB, ownB] at hblk; exact hblk); clear hown hgrow hblk)
                        go_roundw
                        case rel => exact ⟨l + 1, _, _, _, _, by omega, by go_num, by rw [lft_succ hlj], by rw [lft_succ hlj], by rw [lft_succ hlj]; exact HTR.out, HBl.out⟩
                        case measure => simp [intOf]; omega
                    · obtain rfl : l = D.n := by omega
                      rw [lft_all hj, ← Hn.out] at HTR ⊢
                      replace HF : Hid (FS w D7 a7 c7 ka2 kc2 D7.n (rmF K j) va2 vc2 D7.n (rmF V j) wr) := HF.out.swap HBl.out HTR.out
                      go_upto_region 46 with fail
                      obtain ⟨t0, t1⟩ := HF.out.c
                      go_wp2_with fail
                      refine (wTable_calls a7 D7.n c7 D7.t D7.q _ _ ka2 va2 kc2 vc2 _ hI7.out HF.out.tt HF.out.tr.ko.row HF.out.tr.vo.row).mono ?_
                      rintro e w9 ⟨rfl, hb9⟩
                      replace HF := HF.out.call hb9
                      have HF9 : Hid _ := HF
                      clear hb9 t0 t1 HF
                      go_wp2_with fail
                      go_roundw
                      case rel => exact ⟨i + 1, D7, a7, c7, ka2, kc2, va2, vc2, _, _, by omega, by go_num, rfl, rfl, by omega, by omega, hI7.out, HF9.out⟩
                      case measure => simp [intOf]; omega
                | keep hx hk hn h =>
                  have hI7 : Hid (IsT D7.n D7.t D7.q K V) := h
                  obtain rfl := HA.out.none hk
                  subst hx
                  clear hk h HS HA
                  go_upto_region 46 with fail
                  rw [← hn] at HF ⊢
                  clear hn
                  obtain ⟨t0, t1⟩ := HF.out.c
                  go_wp2_with fail
                  refine (wTable_calls a7 D7.n c7 D7.t D7.q _ _ ka va kc vc _ hI7.out HF.out.tt HF.out.tr.ko.row HF.out.tr.vo.row).mono ?_
                  rintro e w9 ⟨rfl, hb9⟩
                  replace HF := HF.out.call hb9
                  have HF9 : Hid _ := HF
                  clear hb9 t0 t1 HF
                  go_wp2_with fail
                  go_roundw
                  case rel => exact ⟨i + 1, D7, a7, c7, ka, kc, va, vc, K, V, by omega, by go_num, rfl, rfl, by omega, by omega, hI7.out, HF9.out⟩
                  case measure => simp [intOf]; omega
      · go_wp2_with fail
        go_ret
        exact ⟨rfl, HF.out.b⟩
end Go.Proofs.Ytiidepafifodjaa
