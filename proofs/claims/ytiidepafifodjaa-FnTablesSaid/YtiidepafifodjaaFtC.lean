import Derived.Test.YtiidepafifodjaaFtB
/-! FnTables: wTable. -/
namespace Go.Proofs.Ytiidepafifodjaa
open Go.RowKit
attribute [local go_sem] run_store_float field_found eqf_zero
attribute [local go_sem ↓] Go.wp_at_zero Go.wp_at_succ

set_option maxRecDepth 100000 in
set_option maxHeartbeats 16000000 in
theorem wTable_calls (a : Option Addr) (n cap : Nat) (t : Int) (q : Nat → PD) (K V : Nat → Int) (ka va : Option Addr) (kcap vcap : Nat) (w : World) (hI0 : IsT n t q K V) (hT : Tab w a n q) (hK : IRow w ka n K) (hV : IRow w va n V) :
    Calls Try.prog 35 #[tOf a n cap t, .slice ka n kcap, .slice va n vcap] w fun e w' => e = .returned (.bool true) ∧ Below w.heap.size w w' := by
  have hI : Hid (IsT n t q K V) := hI0
  have hn : n ≤ 500 := hI0.ok.nn
  have HW : Hid (WT w a n cap t q K V ka va (w.alloc (.cells #[.slice a n cap, .int .i64 t] 59))) := WT.new hT hK hV
  clear hI0 hT hK hV
  go_enter Try.func35, Try.ntmps35
  go_wp2_with fail
  go_loopw [7, 18] (fun l i wr => ∃ (k : Nat), k ≤ n ∧ i = .int .i64 k ∧ l = .int .i64 (lastT q k) ∧ WT w a n cap t q K V ka va wr) (fun _ i _ => n - (intOf i).toNat)
  case atStart => exact ⟨0, Nat.zero_le _, rfl, rfl, HW.out⟩
  case round =>
    clear HW
    obtain ⟨k, hk, rfl, rfl, hW⟩ := hrel
    have HW : Hid (WT w a n cap t q K V ka va wr) := hW
    clear hW
    obtain ⟨x0, x1⟩ := HW.out.c
    by_cases hkn : k < n
    · obtain ⟨kb, ko, rfl, hkc⟩ := HW.out.kr (by omega)
      obtain ⟨vb, vo, rfl, hvc⟩ := HW.out.vr (by omega)
      clear hkc hvc
      go_wp2_with fail
      refine (implAfter_calls a n cap t q (lastT q k) _ (by omega) hI.out.wf HW.out.tb).mono ?_
      rintro e w2 ⟨⟨f, p, rfl, hfp⟩, hb2⟩
      obtain ⟨rfl, rfl⟩ := hI.out.after hkn hfp
      have hTL : ¬ (q k).turn ≤ lastT q k := by have := (hI.out.ok.turns k hkn).1; omega
      have hqk : q k = ⟨iv (K k), iv (V k), (q k).turn⟩ := by rw [← hI.out.kk k hkn, ← hI.out.vv k hkn]
      have hT1 : lastT q (k + 1) = (q k).turn := rfl
      generalize (q k).turn = T at hTL hqk hT1
      rw [hqk]
      clear hqk hfp
      replace HW : Hid (WT w a n cap t q K V (some ⟨kb, ko, none⟩) (some ⟨vb, vo, none⟩) w2) := HW.out.call hb2
      clear hb2 x0 x1
      go_upto_region 6 with fail
      have H6 : Hid (R6 w2.heap.size (K k) (V k) T ⟨kb, ko + k, none⟩ ⟨vb, vo + k, none⟩ (w2.alloc (.cells (fC true ⟨iv (K k), iv (V k), T⟩) 125))) := by
        have HW2 : WT w a n cap t q K V (some ⟨kb, ko, none⟩) (some ⟨vb, vo, none⟩) w2 := HW.out
        obtain ⟨_, _, e1, h1⟩ := HW2.kr (by omega)
        obtain ⟨_, _, e2, h2⟩ := HW2.vr (by omega)
        cases e1
        cases e2
        exact R6.new (h1 k hkn) (h2 k hkn) _
      replace HW : Hid (WT w a n cap t q K V (some ⟨kb, ko, none⟩) (some ⟨vb, vo, none⟩) (w2.alloc (.cells (fC true ⟨iv (K k), iv (V k), T⟩) 125))) := HW.out.alloc _
      obtain ⟨W2, hW2⟩ : ∃ W2, w2.alloc (.cells (fC true ⟨iv (K k), iv (V k), T⟩) 125) = W2 := ⟨_, rfl⟩
      rw [hW2] at H6 HW ⊢
      obtain ⟨F, hF⟩ : ∃ F, w2.heap.size = F := ⟨_, rfl⟩
      rw [hF] at H6 ⊢
      clear hW2 hF
      have hkz : (k : Int) < (n : Int) := by omega
      go_cut [55] (fun s wc => s = .bool false ∧ R6 F (K k) (V k) T ⟨kb, ko + k, none⟩ ⟨vb, vo + k, none⟩ wc ∧ WT w a n cap t q K V (some ⟨kb, ko, none⟩) (some ⟨vb, vo, none⟩) wc)
      case first =>
        as_aux_lemma =>
          go_region_held3 (fun w' => w'.cell? ⟨F, 0, none⟩ = some (.bool true) ∧ w'.cell? ⟨F, 1, none⟩ = some (.int .i64 2) ∧ w'.cell? ⟨F, 2, none⟩ = some (.int .i64 (K k)) ∧ w'.cell? ⟨F, 3, none⟩ = some (.float .f64 0) ∧ w'.cell? ⟨F, 4, none⟩ = some (.string ⟨#[]⟩) ∧ w'.cell? ⟨F, 5, none⟩ = some (.int .i64 0) ∧ w'.cell? ⟨F, 6, none⟩ = some (.int .i64 2) ∧ w'.cell? ⟨F, 7, none⟩ = some (.int .i64 (V k)) ∧ w'.cell? ⟨F, 8, none⟩ = some (.float .f64 0) ∧ w'.cell? ⟨F, 9, none⟩ = some (.string ⟨#[]⟩) ∧ w'.cell? ⟨F, 10, none⟩ = some (.int .i64 0) ∧ w'.cell? ⟨F, 11, none⟩ = some (.int .i64 T) ∧ w'.cell? ⟨kb, ko + k, none⟩ = some (.int .i64 (K k)) ∧ w'.cell? ⟨vb, vo + k, none⟩ = some (.int .i64 (V k))) (first | (with_reducible exact H6.out.c) | (with_reducible exact H6.out.drew.c)) ((go_at_call 22; refine (wInt_calls _ _).mono ?_; rintro e w6 ⟨rfl, hb6⟩; replace H6 : Hid (R6 F (K k) (V k) T ⟨kb, ko + k, none⟩ ⟨vb, vo + k, none⟩ w6) := (by first | exact H6.out.call hb6 | exact H6.out.drew.call hb6); replace HW : Hid (WT w a n cap t q K V (some ⟨kb, ko, none⟩) (some ⟨vb, vo, none⟩) w6) := (by first | exact HW.out.call hb6 | exact HW.out.drew.call hb6); clear hb6))
          all_goals go_wp2_with fail
          all_goals go_meet
          all_goals exact ⟨congrArg Value.bool (decide_eq_false (by omega)), H6.out, HW.out⟩
      case rest =>
        obtain ⟨rfl, h6, hW⟩ := hcut
        replace HW : Hid (WT w a n cap t q K V (some ⟨kb, ko, none⟩) (some ⟨vb, vo, none⟩) wc) := hW
        obtain ⟨_, _, _, _, _, _, _, _, _, _, _, c11, _, _⟩ := h6.c
        clear H6 h6 hW
        go_wp2_with fail
        clear c11
        go_roundw
        case rel => exact ⟨k + 1, by omega, by go_num, by rw [hT1], HW.out⟩
        case measure => simp [intOf]; omega
    · obtain rfl : n = k := by omega
      go_wp2_with fail
      refine (implAfter_calls a n cap t q (lastT q n) _ (by omega) hI.out.wf HW.out.tb).mono ?_
      rintro e w2 ⟨⟨f, p, rfl, hfp⟩, hb2⟩
      obtain rfl := hI.out.after_end hfp
      replace HW : Hid (WT w a n cap t q K V ka va w2) := HW.out.call hb2
      clear hb2 x0 x1 hfp
      go_wp2_with fail
      go_loopw [10, 11] (fun r m wx => RunAt K n r m ∧ WT w a n cap t q K V ka va wx) (fun r m _ => 2 * (n - (intOf r).toNat) + moreN m)
      case atStart => exact ⟨⟨0, true, Nat.zero_le _, rfl, rfl, ⟨fun i hi => absurd hi (Nat.not_lt_zero i), fun h => nomatch h⟩⟩, HW.out⟩
      case round =>
        clear HW hk hkn
        obtain ⟨⟨r, b, hr, rfl, rfl, hRun⟩, hW⟩ := hrel
        have HRun : Hid (RunIs K n r b) := hRun
        have HW : Hid (WT w a n cap t q K V ka va wr) := hW
        clear hW hRun
        cases b
        · go_wp2_with fail
          go_loopw [13] (fun c wx => ∃ (k : Nat), k ≤ 12 ∧ c = .int .i64 k ∧ WT w a n cap t q K V ka va wx) (fun c _ => 12 - (intOf c).toNat)
          case atStart => exact ⟨0, by omega, rfl, HW.out⟩
          case round =>
            clear HW
            obtain ⟨c, hc, rfl, hW⟩ := hrel
            have HW : Hid (WT w a n cap t q K V ka va wr) := hW
            clear hW
            obtain ⟨u0, hu0⟩ : ∃ u0, u0 = wr := ⟨_, rfl⟩
            subst hu0
            by_cases hc12 : c < 12
            · go_wp2_with fail
              have hd : decide ((c : Int) < 12) = true := decide_eq_true (by omega)
              rw [hd]
              clear hd
              go_loopw [88] (fun i wi => ∃ (k : Nat) (y : VD), k ≤ n ∧ i = .int .i64 k ∧ WantIs K V k (c : Int) y ∧ WB u0.heap.size y wi ∧ Below u0.heap.size u0 wi) (fun i _ => n - (intOf i).toNat)
              case atStart => exact ⟨0, vz, Nat.zero_le _, rfl, .inr ⟨fun j hj => absurd hj (Nat.not_lt_zero j), rfl⟩, WB.new u0 vz _, below_alloc _ _⟩
              case round =>
                obtain ⟨k, y, hk, rfl, hwant, hwb, hbel⟩ := hrel
                have HX : Hid (WT w a n cap t q K V ka va wr) := HW.out.call hbel
                have HWant : Hid (WantIs K V k (c : Int) y) := hwant
                have HB : Hid (WB u0.heap.size y wr) := hwb
                have Hu : Hid (Below u0.heap.size u0 wr) := hbel
                clear hwant hwb hbel
                by_cases hkn : k < n
                · obtain ⟨kb, ko, rfl, hkc⟩ := HX.out.kr (by omega)
                  obtain ⟨vb, vo, rfl, hvc⟩ := HX.out.vr (by omega)
                  have ck := hkc k hkn
                  have cv := hvc k hkn
                  clear hkc hvc
                  by_cases he : K k = (c : Int)
                  · rw [he] at ck
                    go_wp2_with fail
                    refine (wInt_calls (V k) _).mono ?_
                    rintro e w3 ⟨rfl, hb3⟩
                    have HB3 : Hid (WB u0.heap.size y w3) := HB.out.call hb3
                    have Hu3 : Hid (Below u0.heap.size u0 w3) := below_ix Hu.out hb3
                    clear ck cv hb3
                    obtain ⟨z0, z1, z2, z3, z4⟩ := HB3.out.c
                    have zf := HB3.out.fr
                    go_wp2_with fail
                    clear z0 z1 z2 z3 z4 zf
                    go_roundw
                    case rel => exact ⟨k + 1, iv (V k), by omega, by go_num, WantIs.yes he, HB3.out.set5 (iv (V k)), set5 Hu3.out (Nat.le_refl _) _ _ _ _ _⟩
                    case measure => simp [intOf]; omega
                  · have he' : (K k == (c : Int)) = false := by simpa using he
                    go_wp2_with fail
                    clear ck cv he'
                    go_roundw
                    case rel => exact ⟨k + 1, y, by omega, by go_num, HWant.out.no he, HB.out, Hu.out⟩
                    case measure => simp [intOf]; omega
                · obtain rfl : n = k := by omega
                  obtain ⟨B, hB⟩ : ∃ B, u0.heap.size = B := ⟨_, rfl⟩
                  clear Hu HW
                  rw [hB] at HB ⊢
                  clear hB
                  rcases HWant.out.cases with rfl | ⟨z, rfl⟩
                  · go_upto_region 34 with fail
                    go_cut [108] (fun s wc => s = .bool false ∧ WT w a n cap t q K V ka va wc)
                    case first =>
                      as_aux_lemma =>
                        go_region_held3 (fun w' => w'.cell? ⟨w.heap.size, 0, none⟩ = some (.slice a n cap) ∧ w'.cell? ⟨w.heap.size, 1, none⟩ = some (.int .i64 t) ∧ w'.cell? ⟨B, 0, none⟩ = some (.int .i64 0) ∧ w'.cell? ⟨B, 1, none⟩ = some (.int .i64 0) ∧ w'.cell? ⟨B, 2, none⟩ = some (.float .f64 0) ∧ w'.cell? ⟨B, 3, none⟩ = some (.string ⟨#[]⟩) ∧ w'.cell? ⟨B, 4, none⟩ = some (.int .i64 0)) (first | (with_reducible exact ⟨HX.out.c.1, HX.out.c.2, HB.out.cz⟩) | (with_reducible exact ⟨HX.out.drew.c.1, HX.out.drew.c.2, HB.out.drew.cz⟩)) (first | (go_at_call 22; refine (wInt_calls _ _).mono ?_; rintro e w6 ⟨rfl, hb6⟩; replace HX : Hid (WT w a n cap t q K V ka va w6) := (by first | exact HX.out.call hb6 | exact HX.out.drew.call hb6); replace HB : Hid (WB B vz w6) := (by first | exact HB.out.call hb6 | exact HB.out.drew.call hb6); clear hb6) | (go_at_call 82; refine (implGet_calls a n cap t q (iv (c : Int)) _ (by omega) hI.out.wf (iv_f _) (by first | exact HX.out.tb | exact HX.out.drew.tb)).mono ?_; rintro e w7 ⟨⟨v, rfl, hv⟩, hb7⟩; obtain rfl := HWant.out.got hI.out hv; rw [vz_v]; clear hv; replace HX : Hid (WT w a n cap t q K V ka va w7) := (by first | exact HX.out.call hb7 | exact HX.out.drew.call hb7); replace HB : Hid (WB B vz w7) := (by first | exact HB.out.call hb7 | exact HB.out.drew.call hb7); clear hb7))
                        all_goals go_wp2_with fail
                        all_goals go_meet
                        all_goals exact ⟨rfl, HX.out⟩
                    case rest =>
                      obtain ⟨rfl, hW⟩ := hcut
                      have HW : Hid (WT w a n cap t q K V ka va wc) := hW
                      clear hW HX HB HWant
                      go_wp2_with fail
                      go_roundw
                      case rel => exact ⟨c + 1, by omega, by go_num, HW.out⟩
                      case measure => simp [intOf]; omega
                  · go_upto_region 34 with fail
                    go_cut [108] (fun s wc => s = .bool false ∧ WT w a n cap t q K V ka va wc)
                    case first =>
                      as_aux_lemma =>
                        go_region_held3 (fun w' => w'.cell? ⟨w.heap.size, 0, none⟩ = some (.slice a n cap) ∧ w'.cell? ⟨w.heap.size, 1, none⟩ = some (.int .i64 t) ∧ w'.cell? ⟨B, 0, none⟩ = some (.int .i64 2) ∧ w'.cell? ⟨B, 1, none⟩ = some (.int .i64 z) ∧ w'.cell? ⟨B, 2, none⟩ = some (.float .f64 0) ∧ w'.cell? ⟨B, 3, none⟩ = some (.string ⟨#[]⟩) ∧ w'.cell? ⟨B, 4, none⟩ = some (.int .i64 0)) (first | (with_reducible exact ⟨HX.out.c.1, HX.out.c.2, HB.out.ci⟩) | (with_reducible exact ⟨HX.out.drew.c.1, HX.out.drew.c.2, HB.out.drew.ci⟩)) (first | (go_at_call 22; refine (wInt_calls _ _).mono ?_; rintro e w6 ⟨rfl, hb6⟩; replace HX : Hid (WT w a n cap t q K V ka va w6) := (by first | exact HX.out.call hb6 | exact HX.out.drew.call hb6); replace HB : Hid (WB B (iv z) w6) := (by first | exact HB.out.call hb6 | exact HB.out.drew.call hb6); clear hb6) | (go_at_call 82; refine (implGet_calls a n cap t q (iv (c : Int)) _ (by omega) hI.out.wf (iv_f _) (by first | exact HX.out.tb | exact HX.out.drew.tb)).mono ?_; rintro e w7 ⟨⟨v, rfl, hv⟩, hb7⟩; obtain rfl := HWant.out.got hI.out hv; rw [iv_v]; clear hv; replace HX : Hid (WT w a n cap t q K V ka va w7) := (by first | exact HX.out.call hb7 | exact HX.out.drew.call hb7); replace HB : Hid (WB B (iv z) w7) := (by first | exact HB.out.call hb7 | exact HB.out.drew.call hb7); clear hb7))
                        all_goals go_wp2_with fail
                        all_goals go_meet
                        all_goals exact ⟨rfl, HX.out⟩
                    case rest =>
                      obtain ⟨rfl, hW⟩ := hcut
                      have HW : Hid (WT w a n cap t q K V ka va wc) := hW
                      clear hW HX HB HWant
                      go_wp2_with fail
                      go_roundw
                      case rel => exact ⟨c + 1, by omega, by go_num, HW.out⟩
                      case measure => simp [intOf]; omega
            · obtain rfl : c = 12 := by omega
              obtain ⟨x0, x1⟩ := HW.out.c
              go_wp2_with fail
              refine (implLength_calls a n cap t q _ (by omega) hI.out.wf HW.out.tb).mono ?_
              rintro e w2 ⟨hl, hb2⟩
              obtain rfl := hI.out.len hl HRun.out.all (HRun.out.stop rfl)
              have HB : Hid (Below w.heap.size w w2) := below_call HW.out.b hb2
              clear hl hb2 x0 x1
              go_wp2_with fail
              go_ret
              exact ⟨rfl, HB.out⟩
        · go_wp2_with fail
          go_loopw [11, 67] (fun m i wi => ∃ (k : Nat), k ≤ n ∧ i = .int .i64 k ∧ MoreIs K k ((r : Int) + 1) m ∧ WT w a n cap t q K V ka va wi) (fun _ i _ => n - (intOf i).toNat)
          case atStart => exact ⟨0, Nat.zero_le _, rfl, MoreIs.zero _ _, HW.out⟩
          case round =>
            clear HW
            obtain ⟨k, hk, rfl, hm, hW⟩ := hrel
            have HW : Hid (WT w a n cap t q K V ka va wr) := hW
            have HM : Hid (MoreIs K k ((r : Int) + 1) _) := hm
            clear hW hm
            by_cases hkn : k < n
            · obtain ⟨kb, ko, rfl, hkc⟩ := HW.out.kr (by omega)
              have ck := hkc k hkn
              clear hkc
              by_cases he : K k = (r : Int) + 1
              · rw [he] at ck
                go_wp2_with fail
                clear ck
                go_roundw
                case rel => exact ⟨k + 1, by omega, by go_num, MoreIs.yes he, HW.out⟩
                case measure => simp [intOf]; omega
              · have he' : (K k == (r : Int) + 1) = false := by simpa using he
                go_wp2_with fail
                clear ck he'
                go_roundw
                case rel => exact ⟨k + 1, by omega, by go_num, HM.out.no he, HW.out⟩
                case measure => simp [intOf]; omega
            · obtain rfl : n = k := by omega
              obtain ⟨b, rfl, hb⟩ := HM.out
              cases b
              · have HR2 : Hid (RunIs K n r false) := ⟨HRun.out.all, fun _ c => by have := hb.2 (by obtain ⟨j, hj, e⟩ := c; exact ⟨j, hj, by rw [e]; omega⟩); exact nomatch this⟩
                clear hb HM
                go_wp2_with fail
                go_roundw
                case rel => exact ⟨⟨r, false, hr, rfl, rfl, HR2.out⟩, HW.out⟩
                case measure => simp [intOf, moreN]
              · have HR2 : Hid (RunIs K n (r + 1) true) := ⟨fun i hi => by
                  by_cases c : i = r
                  · subst c; obtain ⟨j, hj, e⟩ := hb.1 rfl; exact ⟨j, hj, by rw [e]; omega⟩
                  · exact HRun.out.all i (by omega), fun h => nomatch h⟩
                have hr1 := hI.out.runle HR2.out.all
                clear hb HM
                go_wp2_with fail
                go_roundw
                case rel => exact ⟨⟨r + 1, true, hr1, by go_num, rfl, HR2.out⟩, HW.out⟩
                case measure => simp [intOf, moreN]; omega
end Go.Proofs.Ytiidepafifodjaa
