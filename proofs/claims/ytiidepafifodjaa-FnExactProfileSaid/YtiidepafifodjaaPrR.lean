import Derived.Test.YtiidepafifodjaaPrP
/-! The program's Profile: the walk. -/
namespace Go.Proofs.Ytiidepafifodjaa
open Go.RowKit
attribute [local go_sem] run_store_float
attribute [local go_sem ↓] Go.wp_at_zero Go.wp_at_succ

theorem map_drew {w : World} {b : Nat} {L : List (SP × Int)} (h : MapH w b L) : MapH w.drew b L := h
theorem below_turn {w u u' : World} {b : Nat} (hB : Below w.heap.size w u) (ht : u.mapTurned u' b) (hN : w.heap.size ≤ b) : Below w.heap.size w u' := hB.grown ht.grown hB.size (fun k e => by cases e; exact hN)

theorem ctL_take (c : SP → Int) (ys : List SP) (k : Nat) (hk : k < ys.length) : ctS (ctL c (ys.take (k + 1))) = ctS (ctL c (ys.take k)) ++ [.int .i64 (ys.getD k default).1, .int .i64 (ys.getD k default).2, .int .i64 (c (ys.getD k default))] := by
  have e : ys.take (k + 1) = ys.take k ++ [ys.getD k default] := by
    rw [List.take_succ_eq_append_getElem hk]
    simp [List.getD, List.getElem?_eq_getElem hk]
  rw [e]
  unfold ctL
  rw [List.map_append, ctS_append]
  rfl
theorem spAt {N : Nat} {w : World} {a : Option Addr} {cap : Nat} {ys : List SP} (h : w.ownsRow N 86 2 (.slice a ys.length cap) ys.length (spS ys)) : RowN 2 N w a ys.length fun i => #[.int .i64 (ys.getD i default).1, .int .i64 (ys.getD i default).2] := fun hn => by
  rcases h.2 with ⟨_, h0⟩ | ⟨g, cap', cur, e, hb, hg, _⟩
  · omega
  · cases e
    refine ⟨g, 0, rfl, hb, (Array.getElem?_eq_some_iff.1 hg).1, fun i hi j hj => ?_⟩
    rw [show 0 + i * 2 + j = i * 2 + j by omega, h.cellAt (i * 2 + j) (by omega), spS_get ys i j hi hj]
    simp [encS]
/-- what a world keeps of two blocks -/
def Kp2 (u : World) (R M : Nat) (w' : World) : Prop := w'.heap[R]? = u.heap[R]? ∧ w'.heap[M]? = u.heap[M]?
theorem Kp2.drew (u : World) (R M : Nat) : Kp2 u R M u.drew := ⟨rfl, rfl⟩
theorem Kp2.alloc {u : World} {R M : Nat} (hR : R < u.heap.size) (hM : M < u.heap.size) (o : Obj) : Kp2 u R M (u.alloc o).drew := ⟨(MapKept.heap_alloc u o).2 R hR, (MapKept.heap_alloc u o).2 M hM⟩
theorem Kp2.grown {u w' : World} {R M : Nat} {o : Obj} {r : Option Nat} (hR : R < u.heap.size) (hM : M < u.heap.size) (hg : (u.alloc o).drew.grownBy w' r) (h1 : some R ≠ r) (h2 : some M ≠ r) : Kp2 u R M w' :=
  ⟨(hg.block R (by simp; omega) h1).trans (Kp2.alloc hR hM o).1, (hg.block M (by simp; omega) h2).trans (Kp2.alloc hR hM o).2⟩

set_option maxRecDepth 100000 in
set_option maxHeartbeats 4000000 in
theorem implProfile_calls (L0 : Nat) (d : RpD) (x : RpX) (w : World) (hs : d.sm) (hT : RpAt L0 w d x) :
    Calls Try.prog 15 #[rpV d x] w fun e w' => (∃ xs a' cap', e = .returned (.slice a' xs.length cap') ∧ PfIs (lnQ d) (lnF d) (lnL d) d.n xs ∧ xs.length ≤ d.n ∧ w'.ownsRow w.heap.size 94 3 (.slice a' xs.length cap') xs.length (ctS xs)) ∧ Below w.heap.size w w' := by
  have HT : Hid (RpAt L0 w d x) := hT
  have hn := hs.n
  clear hT hs
  have hmk := makeSp_run (w.alloc (.cells (rpC d x) 31))
  have HM0 : Hid (MapH ((w.alloc (.cells (rpC d x) 31)).alloc (.map #[] 0)) (w.heap.size + 1) []) := by have h := MapH.new (w.alloc (.cells (rpC d x) 31)); rw [World.size_alloc] at h; exact h
  have HB0 : Hid (Below w.heap.size w ((w.alloc (.cells (rpC d x) 31)).alloc (.map #[] 0))) := below_alloc2 _ _ _
  obtain ⟨i0, hi0, hy0, hy1, hy2⟩ := info_parts infoCount
  go_enter Try.func15, Try.ntmps15
  go_wp2_with fail
  clear hmk
  obtain ⟨M, hMM⟩ : ∃ M, w.heap.size + 1 = M := ⟨_, rfl⟩
  have hMw : w.heap.size ≤ M := by omega
  rw [hMM] at HM0 ⊢
  clear hMM
  go_loopw [13] (fun i wr => ∃ (k : Nat) (L : List (SP × Int)), k ≤ d.n ∧ i = .int .i64 k ∧ Hid (HtIs (cntD d k) L) ∧ L.length ≤ k ∧ Hid (MapH wr M L) ∧ Hid (Below w.heap.size w wr)) (fun i _ => d.n - (intOf i).toNat)
  case atStart => exact ⟨0, [], Nat.zero_le _, rfl, ht_zero d, Nat.le_refl _, HM0, HB0⟩
  case round =>
    clear HM0 HB0
    obtain ⟨k, L, hk, rfl, HH, hlen, HM, HB⟩ := hrel
    by_cases hkn : k < d.n
    · obtain ⟨b, off, hra, _, hb, d0, d1, d2, d3, d4⟩ := cellsR (RowN.below HT.out.1 HB.out) hkn
      rw [hra]
      go_upto_region 5 with fail
      obtain ⟨wb, hwb⟩ : ∃ wb, wb = wr.alloc (.cells (rcC (d.rc k)) 80) := ⟨_, rfl⟩
      have HX : Hid (Has wb wr.heap.size (rcC (d.rc k))) := by rw [hwb]; exact Has.new _ _ _
      have HMb : Hid (MapH wb M L) := by rw [hwb]; exact HM.out.alloc _
      have HBb : Hid (Below w.heap.size w wb) := by rw [hwb]; exact HB.out.alloc HB.out.size _
      rw [← hwb]
      clear hwb d0 d1 d2 d3 d4 HM HB
      have c0 : wb.cell? ⟨wr.heap.size, 0, none⟩ = some (.int .i64 (d.rc k).k) := HX.out.cell 0 rfl
      have c2 : wb.cell? ⟨wr.heap.size, 2, none⟩ = some (.int .i64 (d.rc k).f) := HX.out.cell 2 rfl
      have c3 : wb.cell? ⟨wr.heap.size, 3, none⟩ = some (.int .i64 (d.rc k).l) := HX.out.cell 3 rfl
      clear HX
      generalize wr.heap.size = R at *
      by_cases hq : (d.rc k).k = 1
      · have HQ : Hid (lnQ d k = true) := by show _ = _; unfold lnQ; simpa using hq
        rw [hq] at c0
        obtain ⟨v, st, w3, hrun, ht3, hlk3, hst⟩ := entryH_run Try.underlying84 spotT Try.zeroValue3 (map_drew HMb.out) ((d.rc k).f, (d.rc k).l)
        have hlk0 := lookupH_run Try.underlying84 spotT (map_drew HMb.out) ((d.rc k).f, (d.rc k).l) (Try.zeroValue3 _)
        have hat := HH.out.at (cntD_pos d k) ((d.rc k).f, (d.rc k).l)
        have h0 := cntD_pos d k ((d.rc k).f, (d.rc k).l)
        have h1 := cntD_le d k ((d.rc k).f, (d.rc k).l)
        have HH1 : Hid _ := ht_hit HH.out HQ.out
        rw [hat] at hlk0 hlk3
        generalize cntD d k ((d.rc k).f, (d.rc k).l) = c at *
        obtain ⟨w4, hst1, hM4, ht4⟩ := hst (c + 1)
        have hst2 : (Instr.entryStore 84 (.map (some M)) (.int .i64 st) (.int .i64 (IntKind.i64.wrap (c + 1)))).run Try.prog w3 = .ok () w4 := by rw [wrap1 h0 (by omega)]; exact hst1
        have HM4 : Hid (MapH w4 M (updH L ((d.rc k).f, (d.rc k).l) (c + 1))) := hM4
        have HB4 : Hid (Below w.heap.size w w4) := below_turn (below_turn HBb.out.drew ht3 hMw) ht4 hMw
        have hlen2 := len_updH L ((d.rc k).f, (d.rc k).l) (c + 1)
        clear hst hM4 ht3 ht4 hat HH
        go_wp2_with fail
        go_region_with fail
        all_goals go_wp2_with fail
        all_goals go_roundw
        all_goals first
          | exact ⟨k + 1, _, by omega, by go_num, HH1, by omega, HM4, HB4⟩
          | (simp [intOf]; omega)
      · have HQ : Hid (lnQ d k = false) := by show _ = _; unfold lnQ; simpa using hq
        have q : ((d.rc k).k == 1) = false := by simpa using hq
        go_wp2_with fail
        go_roundw
        case rel => exact ⟨k + 1, L, by omega, by go_num, ht_skip HH.out HQ.out, by omega, HMb, HBb⟩
        case measure => simp [intOf]; omega
    · obtain rfl : k = d.n := by omega
      go_upto_region 9 with fail
      go_wp2_with (first
        | (go_at_call 53; refine (keys_calls _ _).mono ?_; rintro e w3 ⟨rfl, rfl⟩; have HBk : Hid (Below w.heap.size w (wr.alloc (.cells #[.map (some M)] 84))) := HB.out.alloc HB.out.size _; have HMk : Hid (MapH (wr.alloc (.cells #[.map (some M)] 84)) M L) := HM.out.alloc _; have hcell : (wr.alloc (.cells #[.map (some M)] 84)).cell? ⟨wr.heap.size, 0, none⟩ = some (.map (some M)) := (Has.new wr #[.map (some M)] _).cell 0 rfl)
        | (go_at_call 52; refine (sortedFunc_calls wr.heap.size M L _ (by omega) HH.out.1 (by simp) hcell HMk.out).mono ?_; rintro e w4 ⟨a4, cap4, ys, rfl, hp4, ha4, ho4, hb4⟩; clear hcell))
      have HY : Hid (ys.Perm (L.map (·.1)) ∧ ys.Pairwise spLt) := ⟨hp4, ha4⟩
      have HS4 : Hid (w4.ownsRow w.heap.size 86 2 (.slice a4 ys.length cap4) ys.length (spS ys)) := ownsK_base ho4 HBk.out.size
      have HB4 : Hid (Below w.heap.size w w4) := below_call HBk.out hb4
      have HM4 : Hid (MapH w4 M L) := HMk.out.below hb4
      have hyl : ys.length ≤ d.n := by have := hp4.length_eq; simp at this; omega
      clear hp4 ha4 ho4 hb4 HBk HMk HM HB
      have hM4 := HM4.out.lt
      go_loopw [6, 35] (fun o i wr => ∃ (j : Nat) (a1 : Option Addr) (cap1 : Nat), j ≤ ys.length ∧ i = .int .i64 j ∧ o = .slice a1 j cap1 ∧ Hid (wr.ownsRow w4.heap.size 94 3 (.slice a1 j cap1) j (ctS (ctL (cntD d d.n) (ys.take j)))) ∧ Hid (Below w4.heap.size w4 wr)) (fun _ i _ => ys.length - (intOf i).toNat)
      case atStart => exact ⟨0, none, 0, Nat.zero_le _, rfl, rfl, World.ownsRow_nil _ _ _ _, Below.refl _ _⟩
      case round =>
        obtain ⟨j, a1, cap1, hj, rfl, rfl, HO, HBr⟩ := hrel
        by_cases hjn : j < ys.length
        · obtain ⟨b, off, rfl, _, hb, hcs⟩ := RowN.below (spAt HS4.out) HBr.out (by omega)
          have d0 := hcs j hjn 0 (by omega)
          have d1 := hcs j hjn 1 (by omega)
          simp only [List.getElem?_toArray, List.getElem?_cons_zero, List.getElem?_cons_succ, Nat.add_zero] at d0 d1
          have HE := ctL_take (cntD d d.n) ys j hjn
          clear hcs
          obtain ⟨⟨y1, y2⟩, hy⟩ : ∃ y, ys.getD j default = y := ⟨_, rfl⟩
          rw [hy] at d0 d1 HE
          clear hy
          dsimp only at d0 d1 HE
          have hlk : ∀ u, MapH u M L → (Instr.lookup 84 (.map (some M)) (.agg #[.int .i64 y1, .int .i64 y2]) false).run Try.prog u = .ok (.int .i64 (cntD d d.n (y1, y2))) u := fun u hu => by
            have h := lookupH_run Try.underlying84 spotT hu (y1, y2) (Try.zeroValue3 _)
            rw [HH.out.at (cntD_pos d d.n)] at h
            exact h
          generalize cntD d d.n (y1, y2) = c at HE hlk
          have HE2 : Hid (ctS (ctL (cntD d d.n) (ys.take (j + 1))) = ctS (ctL (cntD d d.n) (ys.take j)) ++ [.int .i64 y1, .int .i64 y2, .int .i64 c]) := HE
          have HLK : Hid _ := hlk
          clear HE hlk
          go_upto_region 12 with fail
          obtain ⟨wb, hwb⟩ : ∃ wb, wb = wr.alloc (.cells #[.int .i64 y1, .int .i64 y2] 86) := ⟨_, rfl⟩
          have HX : Hid (Has wb wr.heap.size #[.int .i64 y1, .int .i64 y2]) := by rw [hwb]; exact Has.new _ _ _
          have HOb : Hid (wb.ownsRow w4.heap.size 94 3 (.slice a1 j cap1) j (ctS (ctL (cntD d d.n) (ys.take j)))) := by rw [hwb]; exact HO.out.alloc _
          have HBb : Hid (Below w4.heap.size w4 wb) := by rw [hwb]; exact HBr.out.alloc HBr.out.size _
          have HMb : Hid (MapH wb M L) := HM4.out.below HBb.out
          have HRo : Hid (∀ q, (Value.slice a1 j cap1).ownBlock = some q → q ≠ wr.heap.size ∧ q ≠ M ∧ w4.heap.size ≤ q) := fun q e => by have := HO.out.lt q e; omega
          have hRb : wr.heap.size < wb.heap.size := HX.out.lt
          have hMb : M < wb.heap.size := HMb.out.lt
          have HSs : Hid (∀ w', Kp2 wb wr.heap.size M w' → w'.cell? ⟨wr.heap.size, 0, none⟩ = some (.int .i64 y1) ∧ w'.cell? ⟨wr.heap.size, 1, none⟩ = some (.int .i64 y2) ∧ (Instr.lookup 84 (.map (some M)) (.agg #[.int .i64 y1, .int .i64 y2]) false).run Try.prog w' = .ok (.int .i64 c) w') := fun w' h => ⟨(World.cell?_of_block (a := ⟨wr.heap.size, 0, none⟩) h.1).trans (HX.out.cell 0 rfl), (World.cell?_of_block (a := ⟨wr.heap.size, 1, none⟩) h.1).trans (HX.out.cell 1 rfl), HLK.out w' (HMb.out.same h.2)⟩
          rw [← hwb]
          clear hwb d0 d1 HO HBr
          generalize wr.heap.size = R at *
          go_region_held3 (fun w' => w'.cell? ⟨R, 0, none⟩ = some (.int .i64 y1) ∧ w'.cell? ⟨R, 1, none⟩ = some (.int .i64 y2) ∧ (Instr.lookup 84 (.map (some M)) (.agg #[.int .i64 y1, .int .i64 y2]) false).run Try.prog w' = .ok (.int .i64 c) w') (first | (with_reducible exact HSs.out _ HK7.out) | (with_reducible exact HSs.out _ (Kp2.alloc hRb hMb _)) | (with_reducible exact HSs.out _ (Kp2.drew _ _ _))) ((refine step_append_lies _ (by rfl) _ _ _ (by rfl) w4.heap.size 94 i0 _ 3 24 Try.underlying27 hi0 hy0 hy1 hy2 rfl (by omega) (.slice a1 j cap1) j (ctS (ctL (cntD d d.n) (ys.take j))) (by rfl) ((HOb.out.alloc _).drew) ⟨wb.heap.size, 0, none⟩ 1 1 [.int .i64 y1, .int .i64 y2, .int .i64 c] (by rfl) (by rfl) (World.news_of_block (cs := #[.int .i64 y1, .int .i64 y2, .int .i64 c]) (t := 94) (fr := (0, 0)) (heap_alloc_new wb _)) (by simp [Value.oneCell']) (by omega) (by unfold maxLen; omega) (by omega) (by have := HBb.out.size; simp; omega) (wb.heap.size + 1) (by simp) ?_; intro gg cap' w7 hown hgrow hat hlt; have HK7 : Hid (Kp2 wb R M w7) := Kp2.grown hRb hMb hgrow (fun e => (HRo.out R e.symm).1 rfl) (fun e => (HRo.out M e.symm).2.1 rfl); have HO7 : Hid (w7.ownsRow w4.heap.size 94 3 (.slice (some ⟨gg, 0, none⟩) (j + 1) cap') (j + 1) (ctS (ctL (cntD d d.n) (ys.take j)) ++ [.int .i64 y1, .int .i64 y2, .int .i64 c])) := hown; have HB7 : Hid (Below w4.heap.size w4 w7) := ((HBb.out.alloc HBb.out.size _).drew).grown hgrow (by have := HBb.out.size; simp; omega) (fun q e => (HRo.out q e).2.2); clear hown hgrow hat))
          all_goals go_wp2_with fail
          all_goals go_roundw
          case rel => exact ⟨j + 1, _, cap', by omega, by go_num, rfl, (by show World.ownsRow _ _ _ _ _ _ _; rw [HE2.out]; exact HO7.out), HB7⟩
          case measure => simp [intOf]; omega
        · obtain rfl : j = ys.length := by omega
          go_wp2_with fail
          go_ret
          have hl : (ctL (cntD d d.n) ys).length = ys.length := by simp [ctL]
          refine ⟨⟨ctL (cntD d d.n) ys, a1, cap1, by rw [hl]; rfl, ctL_is HH.out HY.out.1 HY.out.2, by omega, ?_⟩, below_call HB4.out HBr.out⟩
          have h := HO.out
          rw [List.take_length] at h
          rw [hl]
          exact ownsK_base h HB4.out.size
end Go.Proofs.Ytiidepafifodjaa
