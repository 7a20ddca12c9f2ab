/-
  Part of a claim's texts: contracts of the program's functions and the plain functions that they compute, in build order.
-/
import Derived.Test.YtoaogpipogeamaaZB09
namespace Go.Proofs.Ytoaogpipogeamaa
open Go.RowKit
attribute [local go_sem ↓] Go.wp_at_zero Go.wp_at_succ

set_option maxHeartbeats 16000000 in
set_option maxRecDepth 100000 in
theorem refpoint_yes {w : World} {base : Nat} {m : M.Mt} {A A2 : Option Addr} {ns n c c2 : Nat} (side : Int) (h : RAt w base m (.slice A ns c) (.slice A2 n c2)) (hn' : m.log.length = n) (hns : m.sets.length = ns) (hv : M.Valid m.f) (hn : n ≤ 700) (hs : ns ≤ 700) (hps : M.Small m.pts) (hp1 : M.Small (M.plus m.pts side)) (hend : 0 ≤ m.ends ∧ m.ends ≤ 10000) (hpp : 0 ≤ (M.plus m.pts side).A ∧ 0 ≤ (M.plus m.pts side).B) (hop : 0 ≤ m.opens ∧ m.opens ≤ 1) (hbase : base ≤ w.heap.size) (hgs : M.Small m.games) (hbal : 0 ≤ m.balls ∧ m.balls ≤ 9000) (hgg : ∀ win, 0 ≤ (M.plus m.games win).A ∧ 0 ≤ (M.plus m.games win).B ∧ (M.plus m.games win).A ≤ 9000 ∧ (M.plus m.games win).B ≤ 9000) (hti : M.rtied m.f m.sets m.games = true) :
    Calls Try.prog 64 #[.agg #[.int .i64 (m.f).sets, .int .i64 (m.f).games, .bool (m.f).noAd, .int .i64 (m.f).tie, .int .i64 (m.f).to, .int .i64 (m.f).lastTie, .int .i64 (m.f).lastTo, .int .i64 (m.f).first, .int .i64 (m.f).next, .bool (m.f).doubles], .agg #[.slice A ns c, .int .i64 m.games.A, .int .i64 m.games.B, .int .i64 m.pts.A, .int .i64 m.pts.B, .int .i64 m.server, .int .i64 m.ends, .int .i64 m.balls, .int .i64 m.winner, .int .i64 m.opens, .slice A2 n c2, .bool m.fresh], .int .i64 side] w fun e w' => ∃ sv' gv', e = .returned (.agg #[sv', .int .i64 (M.rpoint m side).games.A, .int .i64 (M.rpoint m side).games.B, .int .i64 (M.rpoint m side).pts.A, .int .i64 (M.rpoint m side).pts.B, .int .i64 (M.rpoint m side).server, .int .i64 (M.rpoint m side).ends, .int .i64 (M.rpoint m side).balls, .int .i64 (M.rpoint m side).winner, .int .i64 (M.rpoint m side).opens, gv', .bool (M.rpoint m side).fresh]) ∧ RAt w' base (M.rpoint m side) sv' gv' ∧ Below w.heap.size w w' := by
  have HPP := hide hpp
  have HGS := hide hgs
  clear hpp hgs
  have H := hide h
  have HN := hide hn'
  have HNS := hide hns
  have HV := hide hv
  have HPS := hide hps
  have HP1 := hide (show M.Small (M.plus m.pts side) from hp1)
  clear h hv hn' hns hps hp1
  go_enter Try.func64, Try.ntmps64
  go_upto_region 2 with (first | (go_at_call 50; refine (refTied_any m.f A ns c m.sets m.games m.pts _ HV.out HNS.out ((H.out.below (Below.alloc (Below.alloc (Below.alloc (Below.refl _ _) (Nat.le_refl _) _) (by simp) _) (by simp; omega) _)).rd HNS.out) (by omega)).mono ?_; rintro e w1 ⟨rfl, hb1'⟩; have hx0 := (hb1'.block w.heap.size (by simp; omega)).trans (heap3_0 w _ _ _); have hx1 := (hb1'.block (w.heap.size + 1) (by simp)).trans (heap3_1 w _ _ _); have hx2 := (hb1'.block (w.heap.size + 1 + 1) (by simp)).trans (heap3_2 w _ _ _); have HB1 := hide (show Below w.heap.size w w1 from Below.trans (by (repeat' first | exact zbR _ _ | assumption | refine zbD ?_ | refine zbA ?_ ?_ _ | refine zbS ?_ ?_ _ | refine zbT ?_ (by assumption) ?_ | (simp; done) | (simp; omega) | omega)) (hb1'.mono (by simp; omega))); have hq1 : w.heap.size + 1 + 1 < w1.heap.size := (by have := hb1'.size; simp at this; omega); clear hb1'))
  have HR1 := hide (H.out.below HB1.out)
  clear H
  have hc0 := fun i => cell_of_row w1 w.heap.size i _ _ _ hx0
  have hc1 := fun i => cell_of_row w1 (w.heap.size + 1) i _ _ _ hx1
  have hfz := fun i => frozen_of_row w1 (w.heap.size + 1) i _ _ hx1
  go_upto_region 3 with (first | (go_at_call 52; refine (refPlus_any m.pts side _ HPS.out).mono ?_; rintro e w2 ⟨rfl, hb⟩; replace hx0 := (hb.block w.heap.size (by omega)).trans hx0; replace hx1 := (hb.block (w.heap.size + 1) (by omega)).trans hx1; replace hx2 := (hb.block (w.heap.size + 1 + 1) (by omega)).trans hx2; replace HB1 := hide (HB1.out.trans (hb.mono HB1.out.size)); replace HR1 := hide (HR1.out.below hb); replace hq1 : w.heap.size + 1 + 1 < w2.heap.size := Nat.lt_of_lt_of_le hq1 hb.size; replace hc0 := fun i => cell_of_row w2 w.heap.size i _ _ _ hx0; replace hc1 := fun i => cell_of_row w2 (w.heap.size + 1) i _ _ _ hx1; replace hfz := fun i => frozen_of_row w2 (w.heap.size + 1) i _ _ hx1; clear hb))
  have hyR := ((HR1.out.set hx1 3 (.int .i64 (M.plus m.pts side).A)).set (blk_set hx1 3 (.int .i64 (M.plus m.pts side).A)) 4 (.int .i64 (M.plus m.pts side).B))
  have hy1 : (_ : Option Obj) = some (.cells #[.slice A ns c, .int .i64 m.games.A, .int .i64 m.games.B, .int .i64 (M.plus m.pts side).A, .int .i64 (M.plus m.pts side).B, .int .i64 m.server, .int .i64 m.ends, .int .i64 m.balls, .int .i64 m.winner, .int .i64 m.opens, .slice A2 n c2, .bool m.fresh] 79 (0, 0)) := (blk_set (blk_set hx1 3 (.int .i64 (M.plus m.pts side).A)) 4 (.int .i64 (M.plus m.pts side).B))
  have hy0 := ((heap_setCell_other _ ⟨w.heap.size + 1, 4, none⟩ w.heap.size (.int .i64 (M.plus m.pts side).B) (by simp)).trans ((heap_setCell_other _ ⟨w.heap.size + 1, 3, none⟩ w.heap.size (.int .i64 (M.plus m.pts side).A) (by simp)).trans hx0))
  have hy2 := ((heap_setCell_other _ ⟨w.heap.size + 1, 4, none⟩ (w.heap.size + 1 + 1) (.int .i64 (M.plus m.pts side).B) (by simp)).trans ((heap_setCell_other _ ⟨w.heap.size + 1, 3, none⟩ (w.heap.size + 1 + 1) (.int .i64 (M.plus m.pts side).A) (by simp)).trans hx2))
  have hyB := ((HB1.out.setCell (p := ⟨w.heap.size + 1, 3, none⟩) (by simp) (.int .i64 (M.plus m.pts side).A)).setCell (p := ⟨w.heap.size + 1, 4, none⟩) (by simp) (.int .i64 (M.plus m.pts side).B))
  have hyq : w.heap.size + 1 + 1 < (World.setCell (World.setCell w2 ⟨w.heap.size + 1, 3, none⟩ (.int .i64 (M.plus m.pts side).A)) ⟨w.heap.size + 1, 4, none⟩ (.int .i64 (M.plus m.pts side).B)).heap.size := by simp [World.setCell]; omega
  generalize (World.setCell (World.setCell w2 ⟨w.heap.size + 1, 3, none⟩ (.int .i64 (M.plus m.pts side).A)) ⟨w.heap.size + 1, 4, none⟩ (.int .i64 (M.plus m.pts side).B)) = w3 at hyR hy1 hy0 hy2 hyB hyq ⊢
  clear hx0 hx1 hx2 hq1 hc0 hc1 hfz HR1 HB1 
  have hx0 := hy0
  have hx1 := hy1
  have hx2 := hy2
  have hq1 := hyq
  have HR1 := hide hyR
  have HB1 := hide hyB
  clear hyR hy0 hy1 hy2 hyB hyq 
  have hc0 := fun i => cell_of_row w3 w.heap.size i _ _ _ hx0
  have hc1 := fun i => cell_of_row w3 (w.heap.size + 1) i _ _ _ hx1
  have hfz := fun i => frozen_of_row w3 (w.heap.size + 1) i _ _ hx1
  go_upto_region 4 with fail
  have hyp := heap_alloc_new w3 (.cells #[.int .i64 (M.plus m.pts side).A, .int .i64 (M.plus m.pts side).B] 32 (0, 0))
  have hy0 := (heap_alloc_old w3 (.cells #[.int .i64 (M.plus m.pts side).A, .int .i64 (M.plus m.pts side).B] 32 (0, 0)) (show w.heap.size < w3.heap.size by omega)).trans hx0
  have hy1 := (heap_alloc_old w3 (.cells #[.int .i64 (M.plus m.pts side).A, .int .i64 (M.plus m.pts side).B] 32 (0, 0)) (show w.heap.size + 1 < w3.heap.size by omega)).trans hx1
  have hy2 := (heap_alloc_old w3 (.cells #[.int .i64 (M.plus m.pts side).A, .int .i64 (M.plus m.pts side).B] 32 (0, 0)) (show w.heap.size + 1 + 1 < w3.heap.size by omega)).trans hx2
  have hyR := HR1.out.alloc (.cells #[.int .i64 (M.plus m.pts side).A, .int .i64 (M.plus m.pts side).B] 32 (0, 0))
  have hyB := HB1.out.alloc HB1.out.size (.cells #[.int .i64 (M.plus m.pts side).A, .int .i64 (M.plus m.pts side).B] 32 (0, 0))
  have hyq : w.heap.size + 1 + 1 < (w3.alloc (.cells #[.int .i64 (M.plus m.pts side).A, .int .i64 (M.plus m.pts side).B] 32 (0, 0))).heap.size := by simp; omega
  have hyqp : w3.heap.size < (w3.alloc (.cells #[.int .i64 (M.plus m.pts side).A, .int .i64 (M.plus m.pts side).B] 32 (0, 0))).heap.size := by simp
  generalize (w3.alloc (.cells #[.int .i64 (M.plus m.pts side).A, .int .i64 (M.plus m.pts side).B] 32 (0, 0))) = w4 at hyp hy0 hy1 hy2 hyR hyB hyq hyqp ⊢
  have hqq : w.heap.size + 1 + 1 < w3.heap.size := hq1
  clear hx0 hx1 hx2 hq1 hc0 hc1 hfz HR1 HB1
  generalize w3.heap.size = qp at hyp hyqp hqq ⊢
  have hx0 := hy0
  have hx1 := hy1
  have hx2 := hy2
  have hxp := hyp
  have hq1 := hyq
  have hqp := hyqp
  have HR1 := hide hyR
  have HB1 := hide hyB
  clear hyp hy0 hy1 hy2 hyR hyB hyq hyqp
  have hc0 := fun i => cell_of_row w4 w.heap.size i _ _ _ hx0
  have hc1 := fun i => cell_of_row w4 (w.heap.size + 1) i _ _ _ hx1
  have hfz := fun i => frozen_of_row w4 (w.heap.size + 1) i _ _ hx1
  have hcp := fun i => cell_of_row w4 qp i _ _ _ hxp
  go_upto_region 5 with (first | (go_at_call 81; refine (refGameWinner_any m.f (M.plus m.pts side) _ HP1.out).mono ?_; rintro e w5 ⟨rfl, hb⟩; replace hx0 := (hb.block w.heap.size (by omega)).trans hx0; replace hx1 := (hb.block (w.heap.size + 1) (by omega)).trans hx1; replace hx2 := (hb.block (w.heap.size + 1 + 1) (by omega)).trans hx2; replace HB1 := hide (HB1.out.trans (hb.mono HB1.out.size)); replace HR1 := hide (HR1.out.below hb); replace hxp := (hb.block qp (by omega)).trans hxp; replace hqp : qp < w5.heap.size := Nat.lt_of_lt_of_le hqp hb.size; replace hcp := fun i => cell_of_row w5 qp i _ _ _ hxp; replace hq1 : w.heap.size + 1 + 1 < w5.heap.size := Nat.lt_of_lt_of_le hq1 hb.size; replace hc0 := fun i => cell_of_row w5 w.heap.size i _ _ _ hx0; replace hc1 := fun i => cell_of_row w5 (w.heap.size + 1) i _ _ _ hx1; replace hfz := fun i => frozen_of_row w5 (w.heap.size + 1) i _ _ hx1; clear hb))
  obtain ⟨win, hwin⟩ : ∃ win, M.leads (M.plus m.pts side) (M.rto m.f m.sets) = win := ⟨_, rfl⟩
  have HW : Hid (M.rwin m (M.plus m.pts side) = win) := hide (by unfold M.rwin; rw [hti]; exact hwin)
  have hwc : win = 0 ∨ win = 1 ∨ win = -1 := by rw [← hwin]; exact leads_cases _ _
  have HWIN := hide hwin
  clear hwin
  go_upto_region 7 with (first | (go_at_call 51; refine (refLeads_any (M.plus m.pts side) _ _ HP1.out).mono ?_; rintro e w5 ⟨rfl, hb⟩; replace hx0 := (hb.block w.heap.size (by omega)).trans hx0; replace hx1 := (hb.block (w.heap.size + 1) (by omega)).trans hx1; replace hx2 := (hb.block (w.heap.size + 1 + 1) (by omega)).trans hx2; replace HB1 := hide (HB1.out.trans (hb.mono HB1.out.size)); replace HR1 := hide (HR1.out.below hb); replace hxp := (hb.block qp (by omega)).trans hxp; replace hqp : qp < w5.heap.size := Nat.lt_of_lt_of_le hqp hb.size; replace hcp := fun i => cell_of_row w5 qp i _ _ _ hxp; replace hq1 : w.heap.size + 1 + 1 < w5.heap.size := Nat.lt_of_lt_of_le hq1 hb.size; replace hc0 := fun i => cell_of_row w5 w.heap.size i _ _ _ hx0; replace hc1 := fun i => cell_of_row w5 (w.heap.size + 1) i _ _ _ hx1; replace hfz := fun i => frozen_of_row w5 (w.heap.size + 1) i _ _ hx1; clear hb))
  rw [HWIN.out]
  clear HWIN
  have ha0 := HP1.out.a0
  have ha1 := HP1.out.a1
  have hb0 := HP1.out.b0
  have hb1 := HP1.out.b1
  have hpp := HPP.out
  have hm6 : ((M.plus m.pts side).A + (M.plus m.pts side).B).tmod 6 = ((M.plus m.pts side).A + (M.plus m.pts side).B) % 6 := Int.tmod_eq_emod_of_nonneg (by omega)
  by_cases hw0 : win < 0
  · by_cases h6 : ((M.plus m.pts side).A + (M.plus m.pts side).B) % 6 = 0
    · have hrp : M.rpoint m side = { m with pts := M.plus m.pts side, ends := m.ends + 1 } := by
        unfold M.rpoint
        rw [HW.out, if_pos hw0, hti]
        rw [if_pos ⟨rfl, h6⟩]
      have HRP := hide hrp
      clear hrp
      have h6b : (((M.plus m.pts side).A + (M.plus m.pts side).B) % 6 == 0) = true := by simpa using h6
      have he0 := hend.1
      have he1 := hend.2
      go_upto_region 9 with fail
      have hyR := (HR1.out.set hx1 6 (.int .i64 (m.ends + 1)))
      have hy1 : (_ : Option Obj) = some (.cells #[.slice A ns c, .int .i64 m.games.A, .int .i64 m.games.B, .int .i64 (M.plus m.pts side).A, .int .i64 (M.plus m.pts side).B, .int .i64 m.server, .int .i64 (m.ends + 1), .int .i64 m.balls, .int .i64 m.winner, .int .i64 m.opens, .slice A2 n c2, .bool m.fresh] 79 (0, 0)) := (blk_set hx1 6 (.int .i64 (m.ends + 1)))
      have hy0 := ((heap_setCell_other _ ⟨w.heap.size + 1, 6, none⟩ w.heap.size (.int .i64 (m.ends + 1)) (by simp)).trans hx0)
      have hy2 := ((heap_setCell_other _ ⟨w.heap.size + 1, 6, none⟩ (w.heap.size + 1 + 1) (.int .i64 (m.ends + 1)) (by simp)).trans hx2)
      have hyB := (HB1.out.setCell (p := ⟨w.heap.size + 1, 6, none⟩) (by simp) (.int .i64 (m.ends + 1)))
      have hyp := ((heap_setCell_other _ ⟨w.heap.size + 1, 6, none⟩ qp (.int .i64 (m.ends + 1)) (by simp; omega)).trans hxp)
      have hyq : w.heap.size + 1 + 1 < (World.setCell w5 ⟨w.heap.size + 1, 6, none⟩ (.int .i64 (m.ends + 1))).heap.size := by simp [World.setCell]; omega
      have hyqp : qp < (World.setCell w5 ⟨w.heap.size + 1, 6, none⟩ (.int .i64 (m.ends + 1))).heap.size := by simp [World.setCell]; omega
      generalize (World.setCell w5 ⟨w.heap.size + 1, 6, none⟩ (.int .i64 (m.ends + 1))) = w6 at hyR hy1 hy0 hy2 hyB hyq hyp hyqp ⊢
      clear hx0 hx1 hx2 hq1 hc0 hc1 hfz HR1 HB1 hxp hqp hcp
      have hx0 := hy0
      have hx1 := hy1
      have hx2 := hy2
      have hq1 := hyq
      have HR1 := hide hyR
      have HB1 := hide hyB
      have hxp := hyp
      have hqp := hyqp
      have hcp := fun i => cell_of_row w6 qp i _ _ _ hxp
      clear hyR hy0 hy1 hy2 hyB hyq hyp hyqp
      have hc0 := fun i => cell_of_row w6 w.heap.size i _ _ _ hx0
      have hc1 := fun i => cell_of_row w6 (w.heap.size + 1) i _ _ _ hx1
      have hfz := fun i => frozen_of_row w6 (w.heap.size + 1) i _ _ hx1

      go_wp2_with (first | (refine wpList_load_row rfl 79 _ rfl (w.heap.size + 1) rfl 79 _ (0, 0) _ hx1 Try.underlying79 rfl matchRow75 ?_) | (refine wpList_store_row rfl 79 _ _ rfl (w.heap.size + 1 + 1) _ rfl rfl 79 _ hx2 matchRow75 rfl (by simp [Value.oneCell']) ?_))
      refine bodyPost_ret (results_row1 Try.results64 _ _ (w.heap.size + 1 + 1) _ _ _ _ rfl (setRow_heap _ _ _ _ _ _ hx2) Try.underlying79 rfl matchRow75) rfl ?_
      refine ⟨.slice A ns c, .slice A2 n c2, by first | (rw [HRP.out]; done) | (rw [HRP.out]; rfl), ?_, ?_⟩
      · rw [HRP.out]; exact (HR1.out.setRow hx2).with rfl rfl
      · exact below_row HB1.out (by omega) _
    · have hrp : M.rpoint m side = { m with pts := M.plus m.pts side, ends := m.ends } := by
        unfold M.rpoint
        rw [HW.out, if_pos hw0, hti]
        rw [if_neg (fun h => h6 h.2)]
      have HRP := hide hrp
      clear hrp
      have h6b : (((M.plus m.pts side).A + (M.plus m.pts side).B) % 6 == 0) = false := by simpa using h6
      go_wp2_with (first | (refine wpList_load_row rfl 79 _ rfl (w.heap.size + 1) rfl 79 _ (0, 0) _ hx1 Try.underlying79 rfl matchRow75 ?_) | (refine wpList_store_row rfl 79 _ _ rfl (w.heap.size + 1 + 1) _ rfl rfl 79 _ hx2 matchRow75 rfl (by simp [Value.oneCell']) ?_))
      refine bodyPost_ret (results_row1 Try.results64 _ _ (w.heap.size + 1 + 1) _ _ _ _ rfl (setRow_heap _ _ _ _ _ _ hx2) Try.underlying79 rfl matchRow75) rfl ?_
      refine ⟨.slice A ns c, .slice A2 n c2, by first | (rw [HRP.out]; done) | (rw [HRP.out]; rfl), ?_, ?_⟩
      · rw [HRP.out]; exact (HR1.out.setRow hx2).with rfl rfl
      · exact below_row HB1.out (by omega) _
  · have hw1 : 0 ≤ win ∧ win ≤ 1 := by omega
    have HW0 := hide (Int.not_lt.1 hw0)
    have ho0 := hop.1
    have ho1 := hop.2
    obtain ⟨gi, hgi, hgz0, hgz1, hgz2⟩ := info_parts game_info
    go_upto_region 12 with fail
    have c1 : w5.cell? ⟨w.heap.size + 1, 0, none⟩ = some (.slice A ns c) ∧ w5.cell? ⟨w.heap.size + 1, 1, none⟩ = some (.int .i64 m.games.A) ∧ w5.cell? ⟨w.heap.size + 1, 2, none⟩ = some (.int .i64 m.games.B) ∧ w5.cell? ⟨w.heap.size + 1, 3, none⟩ = some (.int .i64 (M.plus m.pts side).A) ∧ w5.cell? ⟨w.heap.size + 1, 4, none⟩ = some (.int .i64 (M.plus m.pts side).B) ∧ w5.cell? ⟨w.heap.size + 1, 5, none⟩ = some (.int .i64 m.server) ∧ w5.cell? ⟨w.heap.size + 1, 6, none⟩ = some (.int .i64 m.ends) ∧ w5.cell? ⟨w.heap.size + 1, 7, none⟩ = some (.int .i64 m.balls) ∧ w5.cell? ⟨w.heap.size + 1, 8, none⟩ = some (.int .i64 m.winner) ∧ w5.cell? ⟨w.heap.size + 1, 9, none⟩ = some (.int .i64 m.opens) ∧ w5.cell? ⟨w.heap.size + 1, 10, none⟩ = some (.slice A2 n c2) ∧ w5.cell? ⟨w.heap.size + 1, 11, none⟩ = some (.bool m.fresh) := by (repeat' apply And.intro) <;> exact (cell_of_row _ _ _ _ _ _ hx1).trans rfl
    have c0 : w5.cell? ⟨w.heap.size, 0, none⟩ = some (.int .i64 (m.f).sets) ∧ w5.cell? ⟨w.heap.size, 1, none⟩ = some (.int .i64 (m.f).games) ∧ w5.cell? ⟨w.heap.size, 2, none⟩ = some (.bool (m.f).noAd) ∧ w5.cell? ⟨w.heap.size, 3, none⟩ = some (.int .i64 (m.f).tie) ∧ w5.cell? ⟨w.heap.size, 4, none⟩ = some (.int .i64 (m.f).to) ∧ w5.cell? ⟨w.heap.size, 5, none⟩ = some (.int .i64 (m.f).lastTie) ∧ w5.cell? ⟨w.heap.size, 6, none⟩ = some (.int .i64 (m.f).lastTo) ∧ w5.cell? ⟨w.heap.size, 7, none⟩ = some (.int .i64 (m.f).first) ∧ w5.cell? ⟨w.heap.size, 8, none⟩ = some (.int .i64 (m.f).next) ∧ w5.cell? ⟨w.heap.size, 9, none⟩ = some (.bool (m.f).doubles) := by (repeat' apply And.intro) <;> exact (cell_of_row _ _ _ _ _ _ hx0).trans rfl
    have cp : w5.cell? ⟨qp, 0, none⟩ = some (.int .i64 ((M.plus m.pts side)).A) ∧ w5.cell? ⟨qp, 1, none⟩ = some (.int .i64 ((M.plus m.pts side)).B) := by (repeat' apply And.intro) <;> exact (cell_of_row _ _ _ _ _ _ hxp).trans rfl
    clear hc0 hc1 hcp hfz
    refine wp_region_T_drew (S := (fun w' => w5.heap.size ≤ w'.heap.size ∧ w'.cell? ⟨w.heap.size + 1, 0, none⟩ = some (.slice A ns c) ∧ w'.cell? ⟨w.heap.size + 1, 1, none⟩ = some (.int .i64 m.games.A) ∧ w'.cell? ⟨w.heap.size + 1, 2, none⟩ = some (.int .i64 m.games.B) ∧ w'.cell? ⟨w.heap.size + 1, 3, none⟩ = some (.int .i64 (M.plus m.pts side).A) ∧ w'.cell? ⟨w.heap.size + 1, 4, none⟩ = some (.int .i64 (M.plus m.pts side).B) ∧ w'.cell? ⟨w.heap.size + 1, 5, none⟩ = some (.int .i64 m.server) ∧ w'.cell? ⟨w.heap.size + 1, 6, none⟩ = some (.int .i64 m.ends) ∧ w'.cell? ⟨w.heap.size + 1, 7, none⟩ = some (.int .i64 m.balls) ∧ w'.cell? ⟨w.heap.size + 1, 8, none⟩ = some (.int .i64 m.winner) ∧ w'.cell? ⟨w.heap.size + 1, 9, none⟩ = some (.int .i64 m.opens) ∧ w'.cell? ⟨w.heap.size + 1, 10, none⟩ = some (.slice A2 n c2) ∧ w'.cell? ⟨w.heap.size + 1, 11, none⟩ = some (.bool m.fresh) ∧ w'.cell? ⟨w.heap.size, 0, none⟩ = some (.int .i64 (m.f).sets) ∧ w'.cell? ⟨w.heap.size, 1, none⟩ = some (.int .i64 (m.f).games) ∧ w'.cell? ⟨w.heap.size, 2, none⟩ = some (.bool (m.f).noAd) ∧ w'.cell? ⟨w.heap.size, 3, none⟩ = some (.int .i64 (m.f).tie) ∧ w'.cell? ⟨w.heap.size, 4, none⟩ = some (.int .i64 (m.f).to) ∧ w'.cell? ⟨w.heap.size, 5, none⟩ = some (.int .i64 (m.f).lastTie) ∧ w'.cell? ⟨w.heap.size, 6, none⟩ = some (.int .i64 (m.f).lastTo) ∧ w'.cell? ⟨w.heap.size, 7, none⟩ = some (.int .i64 (m.f).first) ∧ w'.cell? ⟨w.heap.size, 8, none⟩ = some (.int .i64 (m.f).next) ∧ w'.cell? ⟨w.heap.size, 9, none⟩ = some (.bool (m.f).doubles) ∧ w'.cell? ⟨qp, 0, none⟩ = some (.int .i64 ((M.plus m.pts side)).A) ∧ w'.cell? ⟨qp, 1, none⟩ = some (.int .i64 ((M.plus m.pts side)).B))) 22 (by kernel_rfl) ?_ (fun hD0 => ?_)
    · (try dsimp only); (first | (go_keep; done) | (go_split_ands; (repeat' apply And.intro) <;> first | (go_keep; done) | (simp [*, zcA, zcP, zfA, zfP]; done) | (simp [zcA, zcP] <;> rfl) | (simp [*, zsS, zsO, zsA]; done) | ((first | refine (hc _ _ ?_).trans ?_ | refine (hf _ _ ?_).trans ?_) <;> first | assumption | (simp; done) | (simp; omega) | omega | (go_keep; done) | (simp [*, zcA, zcP, zfA, zfP]; done) | (simp [zcA, zcP]; rfl)) | (repeat' first | exact zbR _ _ | assumption | refine zbD ?_ | refine zbA ?_ ?_ _ | refine zbS ?_ ?_ _ | refine zbT ?_ (by assumption) ?_ | (simp; done) | (simp; omega) | omega)))
    refine takeT (v := ?_) 1 rfl (by kernel_rfl) (by kernel_rfl) (by kernel_rfl) (by kernel_rfl) (fun _ _ _ h => h) (Or.inl ⟨by rfl, ?_⟩) (by assumption) ?_; rotate_left
    · (intro w hSw; (try dsimp only at hSw); go_simp; try with_reducible rfl)
    try simp only [Act.put, zl, z0, z1]
    refine takeT (v := ?_) 2 rfl (by kernel_rfl) (by kernel_rfl) (by kernel_rfl) (by kernel_rfl) (fun _ _ _ h => h) (Or.inl ⟨by rfl, ?_⟩) (by assumption) ?_; rotate_left
    · (intro w hSw; (try dsimp only at hSw); go_simp; try with_reducible rfl)
    try simp only [Act.put, zl, z0, z1]
    refine takeT (v := ?_) 4 rfl (by kernel_rfl) (by kernel_rfl) (by kernel_rfl) (by kernel_rfl) (fun _ _ _ h => h) (Or.inl ⟨by rfl, ?_⟩) (by assumption) ?_; rotate_left
    · (intro w hSw; (try dsimp only at hSw); go_simp; try with_reducible rfl)
    try simp only [Act.put, zl, z0, z1]
    refine takeT (v := ?_) 5 rfl (by kernel_rfl) (by kernel_rfl) (by kernel_rfl) (by kernel_rfl) (fun _ _ _ h => h) (Or.inl ⟨by rfl, ?_⟩) (by assumption) ?_; rotate_left
    · (intro w hSw; (try dsimp only at hSw); go_simp; try with_reducible rfl)
    try simp only [Act.put, zl, z0, z1]
    refine takeT (v := ?_) 6 rfl (by kernel_rfl) (by kernel_rfl) (by kernel_rfl) (by kernel_rfl) (fun _ _ _ h => h) (Or.inl ⟨by rfl, ?_⟩) (by assumption) ?_; rotate_left
    · (intro w hSw; (try dsimp only at hSw); go_simp; try with_reducible rfl)
    try simp only [Act.put, zl, z0, z1]
    refine takeT (v := ?_) 7 rfl (by kernel_rfl) (by kernel_rfl) (by kernel_rfl) (by kernel_rfl) (fun _ _ _ h => h) (Or.inl ⟨by rfl, ?_⟩) (by assumption) ?_; rotate_left
    · (intro w hSw; (try dsimp only at hSw); go_simp; try with_reducible rfl)
    try simp only [Act.put, zl, z0, z1]
    refine takeT (v := ?_) 8 rfl (by kernel_rfl) (by kernel_rfl) (by kernel_rfl) (by kernel_rfl) (fun _ _ _ h => h) (Or.inl ⟨by rfl, ?_⟩) (by assumption) ?_; rotate_left
    · (intro w hSw; (try dsimp only at hSw); go_simp; try with_reducible rfl)
    try simp only [Act.put, zl, z0, z1]
    refine takeT (v := ?_) 9 rfl (by kernel_rfl) (by kernel_rfl) (by kernel_rfl) (by kernel_rfl) (fun _ _ _ h => h) (Or.inl ⟨by rfl, ?_⟩) (by assumption) ?_; rotate_left
    · (intro w hSw; (try dsimp only at hSw); go_simp; try with_reducible rfl)
    try simp only [Act.put, zl, z0, z1]
    refine takeT (v := ?_) 10 rfl (by kernel_rfl) (by kernel_rfl) (by kernel_rfl) (by kernel_rfl) (fun _ _ _ h => h) (Or.inl ⟨by rfl, ?_⟩) (by assumption) ?_; rotate_left
    · (intro w hSw; (try dsimp only at hSw); go_simp; try with_reducible rfl)
    try simp only [Act.put, zl, z0, z1]
    refine takeT (v := ?_) 11 rfl (by kernel_rfl) (by kernel_rfl) (by kernel_rfl) (by kernel_rfl) (fun _ _ _ h => h) (Or.inl ⟨by rfl, ?_⟩) (by assumption) ?_; rotate_left
    · (intro w hSw; (try dsimp only at hSw); go_simp; try with_reducible rfl)
    try simp only [Act.put, zl, z0, z1]
    refine takeT (v := ?_) 12 rfl (by kernel_rfl) (by kernel_rfl) (by kernel_rfl) (by kernel_rfl) (fun _ _ _ h => h) (Or.inl ⟨by rfl, ?_⟩) (by assumption) ?_; rotate_left
    · (intro w hSw; (try dsimp only at hSw); go_simp; try with_reducible rfl)
    try simp only [Act.put, zl, z0, z1]
    refine takeT (v := ?_) 14 rfl (by kernel_rfl) (by kernel_rfl) (by kernel_rfl) (by kernel_rfl) (fun _ _ _ h => h) (Or.inl ⟨by rfl, ?_⟩) (by assumption) ?_; rotate_left
    · (intro w hSw; (try dsimp only at hSw); go_simp; try with_reducible rfl)
    try simp only [Act.put, zl, z0, z1]
    refine takeT (v := ?_) 15 rfl (by kernel_rfl) (by kernel_rfl) (by kernel_rfl) (by kernel_rfl) (fun _ _ _ h => h) (Or.inl ⟨by rfl, ?_⟩) (by assumption) ?_; rotate_left
    · (intro w hSw; (try dsimp only at hSw); go_simp; try with_reducible rfl)
    try simp only [Act.put, zl, z0, z1]
    refine takeT (v := ?_) 16 rfl (by kernel_rfl) (by kernel_rfl) (by kernel_rfl) (by kernel_rfl) (fun _ _ _ h => h) (Or.inl ⟨by rfl, ?_⟩) (by assumption) ?_; rotate_left
    · (intro w hSw; (try dsimp only at hSw); go_simp; try with_reducible rfl)
    try simp only [Act.put, zl, z0, z1]
    refine takeT (v := ?_) 17 rfl (by kernel_rfl) (by kernel_rfl) (by kernel_rfl) (by kernel_rfl) (fun _ _ _ h => h) (Or.inl ⟨by rfl, ?_⟩) (by assumption) ?_; rotate_left
    · (intro w hSw; (try dsimp only at hSw); go_simp; try with_reducible rfl)
    try simp only [Act.put, zl, z0, z1]
    refine wpAnyT_ready (rs := [0]) (by kernel_rfl) (by simp) ?_; refine consT 0 rfl (fun K hK => ?_) AllReadyT.nil; go_simp
    refine hK.out _ _ ?_ (fun hD1 => ?_)
    · (try dsimp only); (first | (go_keep; done) | (go_split_ands; (repeat' apply And.intro) <;> first | (go_keep; done) | (simp [*, zcA, zcP, zfA, zfP]; done) | (simp [zcA, zcP] <;> rfl) | (simp [*, zsS, zsO, zsA]; done) | ((first | refine (hc _ _ ?_).trans ?_ | refine (hf _ _ ?_).trans ?_) <;> first | assumption | (simp; done) | (simp; omega) | omega | (go_keep; done) | (simp [*, zcA, zcP, zfA, zfP]; done) | (simp [zcA, zcP]; rfl)) | (repeat' first | exact zbR _ _ | assumption | refine zbD ?_ | refine zbA ?_ ?_ _ | refine zbS ?_ ?_ _ | refine zbT ?_ (by assumption) ?_ | (simp; done) | (simp; omega) | omega)))
    clear hK K hD0; try simp only [Act.put, zl, z0, z1]
    refine wpAnyT_ready (rs := [3]) (by kernel_rfl) (by simp) ?_; refine consT 3 rfl (fun K hK => ?_) AllReadyT.nil
    first | (refine step_row rfl (.tmp 70) (.tmp 86) 39 rfl w5.heap.size _ 44 gi _ 7 56 rfl hgi hgz0 hgz1 hgz2 (by rfl) (by decide) (.slice A' n c') n ([] ++ flatG m.log) rfl ((hown.kept (only_of_below' hbS) (own_or_none _)).alloc _) _ 1 1 _ rfl (owns_blk (n := 1) (size := 7) (heap_alloc_new wS (.cells #[.int .i64 (ns : Int), .bool true, .int .i64 (M.serverOf m.opens m.f.doubles n 0), .int .i64 win, .int .i64 (M.plus m.pts side).A, .int .i64 (M.plus m.pts side).B, .bool m.fresh] 44 (0, 0))) rfl (by omega)) (by intro u hu; simp at hu; rcases hu with rfl | rfl | rfl | rfl | rfl | rfl | rfl <;> rfl) (n + 1) (by omega) (by omega) (by decide) (by simp; omega) ?_; intro A8 c8 w8 hown8 hgrow8; have HB58 := hide (show Below w5.heap.size w5 w8 from (((hb3.trans (hbS.mono hz3)).alloc (by omega) (.cells #[.int .i64 (ns : Int), .bool true, .int .i64 (M.serverOf m.opens m.f.doubles n 0), .int .i64 win, .int .i64 (M.plus m.pts side).A, .int .i64 (M.plus m.pts side).B, .bool m.fresh] 44 (0, 0)))).trans (grown_below hgrow8 (by simp; omega) (fun g hg => (hown.lt g hg).1))); have hc := fun b o (h : b < w5.heap.size) => HB58.out.cell (p := ⟨b, o, none⟩) h; have hz8 := HB58.out.size; have hy1 := (HB58.out.block (w.heap.size + 1) (by omega)).trans hx1; have hfr8 := fun i => frozen_of_row w8 (w.heap.size + 1) i _ _ hy1; have HOWN8 := hide hown8) | (refine step_row rfl (.tmp 67) (.tmp 69) 39 rfl w5.heap.size base 44 gi _ 7 56 rfl hgi hgz0 hgz1 hgz2 (by rfl) (by decide) (.slice (some ⟨w5.heap.size, 0, none⟩) 0 0) 0 [] rfl (owns_blk (n := 0) (size := 7) (show (w5.alloc (.cells #[] 44 (0, 0))).heap[w5.heap.size]? = _ from heap_alloc_new w5 _) rfl (by omega)) A2 n c2 (flatG m.log) rfl (show ((w5.alloc (.cells #[] 44 (0, 0))).drew).ownsRow base 44 7 (.slice A2 n c2) n (flatG m.log) from by have hg' := (HR1.out.alloc (.cells #[] 44 (0, 0))).g; rw [HN.out] at hg'; exact hg') (flatG_one' _) n (by omega) (by omega) (by decide) (by simp) ?_; intro A' c' w6 hown hgrow; have hb3 : Below w5.heap.size w5 w6 := Below.trans ((Below.alloc (Below.refl _ _) (Nat.le_refl _) (.cells #[] 44 (0, 0))).drew) (grown_below hgrow (by simp) (fun g hg => Nat.le_of_eq (Option.some.inj hg))); have hz3 := hb3.size; have hc := fun b o (h : b < w5.heap.size) => hb3.cell (p := ⟨b, o, none⟩) h)
    refine hK.out _ _ ?_ (fun hD2 => ?_)
    · (try dsimp only); (first | (go_keep; done) | (go_split_ands; (repeat' apply And.intro) <;> first | (go_keep; done) | (simp [*, zcA, zcP, zfA, zfP]; done) | (simp [zcA, zcP] <;> rfl) | (simp [*, zsS, zsO, zsA]; done) | ((first | refine (hc _ _ ?_).trans ?_ | refine (hf _ _ ?_).trans ?_) <;> first | assumption | (simp; done) | (simp; omega) | omega | (go_keep; done) | (simp [*, zcA, zcP, zfA, zfP]; done) | (simp [zcA, zcP]; rfl)) | (repeat' first | exact zbR _ _ | assumption | refine zbD ?_ | refine zbA ?_ ?_ _ | refine zbS ?_ ?_ _ | refine zbT ?_ (by assumption) ?_ | (simp; done) | (simp; omega) | omega)))
    clear hK K hD1; try simp only [Act.put, zl, z0, z1]
    refine wpAnyT_ready (rs := [13]) (by kernel_rfl) (by simp) ?_; refine consT 13 rfl (fun K hK => ?_) AllReadyT.nil; go_simp
    (go_at_call 82; refine (refServer0_any m.f m.opens n _ _ ho0 ho1 (by omega)).mono ?_; rintro e wS ⟨rfl, hbS⟩; obtain ⟨hc, hf⟩ := bcell hbS; have hzS := hbS.size; (try simp at hzS))
    refine hK.out _ _ ?_ (fun hD3 => ?_)
    · (try dsimp only); (first | (go_keep; done) | (go_split_ands; (repeat' apply And.intro) <;> first | (go_keep; done) | (simp [*, zcA, zcP, zfA, zfP]; done) | (simp [zcA, zcP] <;> rfl) | (simp [*, zsS, zsO, zsA]; done) | ((first | refine (hc _ _ ?_).trans ?_ | refine (hf _ _ ?_).trans ?_) <;> first | assumption | (simp; done) | (simp; omega) | omega | (go_keep; done) | (simp [*, zcA, zcP, zfA, zfP]; done) | (simp [zcA, zcP]; rfl)) | (repeat' first | exact zbR _ _ | assumption | refine zbD ?_ | refine zbA ?_ ?_ _ | refine zbS ?_ ?_ _ | refine zbT ?_ (by assumption) ?_ | (simp; done) | (simp; omega) | omega)))
    clear hK K hD2; try simp only [Act.put, zl, z0, z1]
    refine takeT (v := ?_) 18 rfl (by kernel_rfl) (by kernel_rfl) (by kernel_rfl) (by kernel_rfl) (fun _ _ _ h => h) (Or.inl ⟨by rfl, ?_⟩) (by assumption) ?_; rotate_left
    · (intro w hSw; (try dsimp only at hSw); go_simp; try with_reducible rfl)
    try simp only [Act.put, zl, z0, z1]
    refine wpAnyT_ready (rs := [19]) (by kernel_rfl) (by simp) ?_; refine consT 19 rfl (fun K hK => ?_) AllReadyT.nil; go_simp
    refine hK.out _ _ ?_ (fun hD4 => ?_)
    · (try dsimp only); (first | (go_keep; done) | (go_split_ands; (repeat' apply And.intro) <;> first | (go_keep; done) | (simp [*, zcA, zcP, zfA, zfP]; done) | (simp [zcA, zcP] <;> rfl) | (simp [*, zsS, zsO, zsA]; done) | ((first | refine (hc _ _ ?_).trans ?_ | refine (hf _ _ ?_).trans ?_) <;> first | assumption | (simp; done) | (simp; omega) | omega | (go_keep; done) | (simp [*, zcA, zcP, zfA, zfP]; done) | (simp [zcA, zcP]; rfl)) | (repeat' first | exact zbR _ _ | assumption | refine zbD ?_ | refine zbA ?_ ?_ _ | refine zbS ?_ ?_ _ | refine zbT ?_ (by assumption) ?_ | (simp; done) | (simp; omega) | omega)))
    clear hK K hD3; try simp only [Act.put, zl, z0, z1]
    refine wpAnyT_ready (rs := [20]) (by kernel_rfl) (by simp) ?_; refine consT 20 rfl (fun K hK => ?_) AllReadyT.nil
    first | (refine step_row rfl (.tmp 70) (.tmp 86) 39 rfl w5.heap.size _ 44 gi _ 7 56 rfl hgi hgz0 hgz1 hgz2 (by rfl) (by decide) (.slice A' n c') n ([] ++ flatG m.log) rfl ((hown.kept (only_of_below' hbS) (own_or_none _)).alloc _) _ 1 1 _ rfl (owns_blk (n := 1) (size := 7) (heap_alloc_new wS (.cells #[.int .i64 (ns : Int), .bool true, .int .i64 (M.serverOf m.opens m.f.doubles n 0), .int .i64 win, .int .i64 (M.plus m.pts side).A, .int .i64 (M.plus m.pts side).B, .bool m.fresh] 44 (0, 0))) rfl (by omega)) (by intro u hu; simp at hu; rcases hu with rfl | rfl | rfl | rfl | rfl | rfl | rfl <;> rfl) (n + 1) (by omega) (by omega) (by decide) (by simp; omega) ?_; intro A8 c8 w8 hown8 hgrow8; have HB58 := hide (show Below w5.heap.size w5 w8 from (((hb3.trans (hbS.mono hz3)).alloc (by omega) (.cells #[.int .i64 (ns : Int), .bool true, .int .i64 (M.serverOf m.opens m.f.doubles n 0), .int .i64 win, .int .i64 (M.plus m.pts side).A, .int .i64 (M.plus m.pts side).B, .bool m.fresh] 44 (0, 0)))).trans (grown_below hgrow8 (by simp; omega) (fun g hg => (hown.lt g hg).1))); have hc := fun b o (h : b < w5.heap.size) => HB58.out.cell (p := ⟨b, o, none⟩) h; have hz8 := HB58.out.size; have hy1 := (HB58.out.block (w.heap.size + 1) (by omega)).trans hx1; have hfr8 := fun i => frozen_of_row w8 (w.heap.size + 1) i _ _ hy1; have HOWN8 := hide hown8) | (refine step_row rfl (.tmp 67) (.tmp 69) 39 rfl w5.heap.size base 44 gi _ 7 56 rfl hgi hgz0 hgz1 hgz2 (by rfl) (by decide) (.slice (some ⟨w5.heap.size, 0, none⟩) 0 0) 0 [] rfl (owns_blk (n := 0) (size := 7) (show (w5.alloc (.cells #[] 44 (0, 0))).heap[w5.heap.size]? = _ from heap_alloc_new w5 _) rfl (by omega)) A2 n c2 (flatG m.log) rfl (show ((w5.alloc (.cells #[] 44 (0, 0))).drew).ownsRow base 44 7 (.slice A2 n c2) n (flatG m.log) from by have hg' := (HR1.out.alloc (.cells #[] 44 (0, 0))).g; rw [HN.out] at hg'; exact hg') (flatG_one' _) n (by omega) (by omega) (by decide) (by simp) ?_; intro A' c' w6 hown hgrow; have hb3 : Below w5.heap.size w5 w6 := Below.trans ((Below.alloc (Below.refl _ _) (Nat.le_refl _) (.cells #[] 44 (0, 0))).drew) (grown_below hgrow (by simp) (fun g hg => Nat.le_of_eq (Option.some.inj hg))); have hz3 := hb3.size; have hc := fun b o (h : b < w5.heap.size) => hb3.cell (p := ⟨b, o, none⟩) h)
    refine hK.out _ _ ?_ (fun hD5 => ?_)
    · (try dsimp only); (first | (go_keep; done) | (go_split_ands; (repeat' apply And.intro) <;> first | (go_keep; done) | (simp [*, zcA, zcP, zfA, zfP]; done) | (simp [zcA, zcP] <;> rfl) | (simp [*, zsS, zsO, zsA]; done) | ((first | refine (hc _ _ ?_).trans ?_ | refine (hf _ _ ?_).trans ?_) <;> first | assumption | (simp; done) | (simp; omega) | omega | (go_keep; done) | (simp [*, zcA, zcP, zfA, zfP]; done) | (simp [zcA, zcP]; rfl)) | (repeat' first | exact zbR _ _ | assumption | refine zbD ?_ | refine zbA ?_ ?_ _ | refine zbS ?_ ?_ _ | refine zbT ?_ (by assumption) ?_ | (simp; done) | (simp; omega) | omega)))
    clear hK K hD4; try simp only [Act.put, zl, z0, z1]
    refine takeT (v := ?_) 21 rfl (by kernel_rfl) (by kernel_rfl) (by kernel_rfl) (by kernel_rfl) (fun _ _ _ h => h) (Or.inl ⟨by rfl, ?_⟩) (by assumption) ?_; rotate_left
    · (intro w hSw; (try dsimp only at hSw); go_simp; try with_reducible rfl)
    try simp only [Act.put, zl, z0, z1]
    refine wpAnyT_ready (rs := [22]) (by kernel_rfl) (by simp) ?_
    refine lastT rfl (fun K hK => ?_)
    (try dsimp only at hD5)
    go_simp
    refine hK.out _ _ ?_
    clear hK K
    try simp only [Act.put, zl, z0, z1]
    refine wpAnyT_done (by kernel_rfl) ?_ _
    have hB58 := HB58.out
    replace hx0 := (hB58.block w.heap.size (by omega)).trans hx0
    replace hx2 := (hB58.block (w.heap.size + 1 + 1) (by omega)).trans hx2
    have hq58 := hB58.size
    have hqb : base ≤ w5.heap.size := Nat.le_trans hbase HB1.out.size
    replace HR1 := hide (HR1.out.below hB58)
    replace HB1 := hide (HB1.out.trans (hB58.mono HB1.out.size))
    replace hq1 : w.heap.size + 1 + 1 < w8.heap.size := by omega
    replace hx1 := hy1
    have hflat : flatG [M.rgame m (M.plus m.pts side) win] = [.int .i64 (ns : Int), .bool true, .int .i64 (M.serverOf m.opens m.f.doubles n 0), .int .i64 win, .int .i64 (M.plus m.pts side).A, .int .i64 (M.plus m.pts side).B, .bool m.fresh] := by
      simp only [flatG, M.rgame, List.flatMap_cons, List.flatMap_nil, List.append_nil, hti, HN.out, HNS.out]
    have hrow : w8.ownsRow base 44 7 (.slice A8 (n + 1) c8) ({ m with log := m.log ++ [M.rgame m (M.plus m.pts side) win] } : M.Mt).log.length (flatG ({ m with log := m.log ++ [M.rgame m (M.plus m.pts side) win] } : M.Mt).log) := by
      have h8 := owns_mono HOWN8.out hqb
      show w8.ownsRow base 44 7 (.slice A8 (n + 1) c8) (m.log ++ [M.rgame m (M.plus m.pts side) win]).length (flatG (m.log ++ [M.rgame m (M.plus m.pts side) win]))
      rw [flatG_app, hflat, List.length_append, HN.out]
      exact h8
    replace HR1 := hide (show RAt w8 base { m with log := m.log ++ [M.rgame m (M.plus m.pts side) win] } (.slice A ns c) (.slice A8 (n + 1) c8) from ⟨HR1.out.s, hrow⟩)
    clear hrow hflat hown hown8 hgrow hgrow8 hb3 hbS hz3 hz8 hzS hc hf hB58 hq58 hqb hy1 hfr8 HOWN8 HB58 c1 c0 cp hxp hqp
    (try clear hD0)
    (try clear hD1)
    (try clear hD2)
    (try clear hD3)
    (try clear hD4)
    (try clear hD5)
    (try clear hD6)
    have hc0 : True := trivial
    have hc1 : True := trivial
    have hfz : True := trivial
    have hyR := (HR1.out.set hx1 10 (.slice A8 (n + 1) c8))
    have hy1 : (_ : Option Obj) = some (.cells #[.slice A ns c, .int .i64 m.games.A, .int .i64 m.games.B, .int .i64 (M.plus m.pts side).A, .int .i64 (M.plus m.pts side).B, .int .i64 m.server, .int .i64 m.ends, .int .i64 m.balls, .int .i64 m.winner, .int .i64 m.opens, .slice A8 (n + 1) c8, .bool m.fresh] 79 (0, 0)) := (blk_set hx1 10 (.slice A8 (n + 1) c8))
    have hy0 := ((heap_setCell_other _ ⟨w.heap.size + 1, 10, none⟩ w.heap.size (.slice A8 (n + 1) c8) (by simp)).trans hx0)
    have hy2 := ((heap_setCell_other _ ⟨w.heap.size + 1, 10, none⟩ (w.heap.size + 1 + 1) (.slice A8 (n + 1) c8) (by simp)).trans hx2)
    have hyB := (HB1.out.setCell (p := ⟨w.heap.size + 1, 10, none⟩) (by simp) (.slice A8 (n + 1) c8))
    have hyq : w.heap.size + 1 + 1 < (World.setCell w8 ⟨w.heap.size + 1, 10, none⟩ (.slice A8 (n + 1) c8)).heap.size := by simp [World.setCell]; omega
    generalize (World.setCell w8 ⟨w.heap.size + 1, 10, none⟩ (.slice A8 (n + 1) c8)) = w9 at hyR hy1 hy0 hy2 hyB hyq ⊢
    clear hx0 hx1 hx2 hq1 hc0 hc1 hfz HR1 HB1 
    have hx0 := hy0
    have hx1 := hy1
    have hx2 := hy2
    have hq1 := hyq
    have HR1 := hide hyR
    have HB1 := hide hyB
    clear hyR hy0 hy1 hy2 hyB hyq 
    have hc0 := fun i => cell_of_row w9 w.heap.size i _ _ _ hx0
    have hc1 := fun i => cell_of_row w9 (w.heap.size + 1) i _ _ _ hx1
    have hfz := fun i => frozen_of_row w9 (w.heap.size + 1) i _ _ hx1
    go_upto_region 14 with fail
    have hyR := ((HR1.out.set hx1 3 (.int .i64 0)).set (blk_set hx1 3 (.int .i64 0)) 4 (.int .i64 0))
    have hy1 : (_ : Option Obj) = some (.cells #[.slice A ns c, .int .i64 m.games.A, .int .i64 m.games.B, .int .i64 0, .int .i64 0, .int .i64 m.server, .int .i64 m.ends, .int .i64 m.balls, .int .i64 m.winner, .int .i64 m.opens, .slice A8 (n + 1) c8, .bool m.fresh] 79 (0, 0)) := (blk_set (blk_set hx1 3 (.int .i64 0)) 4 (.int .i64 0))
    have hy0 := ((heap_setCell_other _ ⟨w.heap.size + 1, 4, none⟩ w.heap.size (.int .i64 0) (by simp)).trans ((heap_setCell_other _ ⟨w.heap.size + 1, 3, none⟩ w.heap.size (.int .i64 0) (by simp)).trans hx0))
    have hy2 := ((heap_setCell_other _ ⟨w.heap.size + 1, 4, none⟩ (w.heap.size + 1 + 1) (.int .i64 0) (by simp)).trans ((heap_setCell_other _ ⟨w.heap.size + 1, 3, none⟩ (w.heap.size + 1 + 1) (.int .i64 0) (by simp)).trans hx2))
    have hyB := ((HB1.out.setCell (p := ⟨w.heap.size + 1, 3, none⟩) (by simp) (.int .i64 0)).setCell (p := ⟨w.heap.size + 1, 4, none⟩) (by simp) (.int .i64 0))
    have hyq : w.heap.size + 1 + 1 < (World.setCell (World.setCell w9 ⟨w.heap.size + 1, 3, none⟩ (.int .i64 0)) ⟨w.heap.size + 1, 4, none⟩ (.int .i64 0)).heap.size := by simp [World.setCell]; omega
    generalize (World.setCell (World.setCell w9 ⟨w.heap.size + 1, 3, none⟩ (.int .i64 0)) ⟨w.heap.size + 1, 4, none⟩ (.int .i64 0)) = w10 at hyR hy1 hy0 hy2 hyB hyq ⊢
    clear hx0 hx1 hx2 hq1 hc0 hc1 hfz HR1 HB1 
    have hx0 := hy0
    have hx1 := hy1
    have hx2 := hy2
    have hq1 := hyq
    have HR1 := hide hyR
    have HB1 := hide hyB
    clear hyR hy0 hy1 hy2 hyB hyq 
    have hc0 := fun i => cell_of_row w10 w.heap.size i _ _ _ hx0
    have hc1 := fun i => cell_of_row w10 (w.heap.size + 1) i _ _ _ hx1
    have hfz := fun i => frozen_of_row w10 (w.heap.size + 1) i _ _ hx1
    (try clear w9)
    go_upto_region 15 with (first | (go_at_call 52; refine (refPlus_any m.games win _ HGS.out).mono ?_; rintro e w11 ⟨rfl, hb⟩; replace hx0 := (hb.block w.heap.size (by omega)).trans hx0; replace hx1 := (hb.block (w.heap.size + 1) (by omega)).trans hx1; replace hx2 := (hb.block (w.heap.size + 1 + 1) (by omega)).trans hx2; replace HB1 := hide (HB1.out.trans (hb.mono HB1.out.size)); replace HR1 := hide (HR1.out.below hb); replace hq1 : w.heap.size + 1 + 1 < w11.heap.size := Nat.lt_of_lt_of_le hq1 hb.size; replace hc0 := fun i => cell_of_row w11 w.heap.size i _ _ _ hx0; replace hc1 := fun i => cell_of_row w11 (w.heap.size + 1) i _ _ _ hx1; replace hfz := fun i => frozen_of_row w11 (w.heap.size + 1) i _ _ hx1; clear hb))
    have hyp := heap_alloc_new w11 (.cells #[.int .i64 (M.plus m.games win).A, .int .i64 (M.plus m.games win).B] 32 (0, 0))
    have hy0 := (heap_alloc_old w11 (.cells #[.int .i64 (M.plus m.games win).A, .int .i64 (M.plus m.games win).B] 32 (0, 0)) (show w.heap.size < w11.heap.size by omega)).trans hx0
    have hy1 := (heap_alloc_old w11 (.cells #[.int .i64 (M.plus m.games win).A, .int .i64 (M.plus m.games win).B] 32 (0, 0)) (show w.heap.size + 1 < w11.heap.size by omega)).trans hx1
    have hy2 := (heap_alloc_old w11 (.cells #[.int .i64 (M.plus m.games win).A, .int .i64 (M.plus m.games win).B] 32 (0, 0)) (show w.heap.size + 1 + 1 < w11.heap.size by omega)).trans hx2
    have hyR := HR1.out.alloc (.cells #[.int .i64 (M.plus m.games win).A, .int .i64 (M.plus m.games win).B] 32 (0, 0))
    have hyB := HB1.out.alloc HB1.out.size (.cells #[.int .i64 (M.plus m.games win).A, .int .i64 (M.plus m.games win).B] 32 (0, 0))
    have hyq : w.heap.size + 1 + 1 < (w11.alloc (.cells #[.int .i64 (M.plus m.games win).A, .int .i64 (M.plus m.games win).B] 32 (0, 0))).heap.size := by simp; omega
    have hyqp : w11.heap.size < (w11.alloc (.cells #[.int .i64 (M.plus m.games win).A, .int .i64 (M.plus m.games win).B] 32 (0, 0))).heap.size := by simp
    generalize (w11.alloc (.cells #[.int .i64 (M.plus m.games win).A, .int .i64 (M.plus m.games win).B] 32 (0, 0))) = w12 at hyp hy0 hy1 hy2 hyR hyB hyq hyqp ⊢
    have hqqg : w.heap.size + 1 + 1 < w11.heap.size := hq1
    clear hx0 hx1 hx2 hq1 hc0 hc1 hfz HR1 HB1
    generalize w11.heap.size = qg at hyp hyqp hqqg ⊢
    have hx0 := hy0
    have hx1 := hy1
    have hx2 := hy2
    have hxg := hyp
    have hq1 := hyq
    have hqg := hyqp
    have HR1 := hide hyR
    have HB1 := hide hyB
    clear hyp hy0 hy1 hy2 hyR hyB hyq hyqp
    have hc0 := fun i => cell_of_row w12 w.heap.size i _ _ _ hx0
    have hc1 := fun i => cell_of_row w12 (w.heap.size + 1) i _ _ _ hx1
    have hfz := fun i => frozen_of_row w12 (w.heap.size + 1) i _ _ hx1
    have hcg := fun i => cell_of_row w12 qg i _ _ _ hxg
    go_upto_region 16 with fail
    have hyR := ((HR1.out.set hx1 1 (.int .i64 (M.plus m.games win).A)).set (blk_set hx1 1 (.int .i64 (M.plus m.games win).A)) 2 (.int .i64 (M.plus m.games win).B))
    have hy1 : (_ : Option Obj) = some (.cells #[.slice A ns c, .int .i64 (M.plus m.games win).A, .int .i64 (M.plus m.games win).B, .int .i64 0, .int .i64 0, .int .i64 m.server, .int .i64 m.ends, .int .i64 m.balls, .int .i64 m.winner, .int .i64 m.opens, .slice A8 (n + 1) c8, .bool m.fresh] 79 (0, 0)) := (blk_set (blk_set hx1 1 (.int .i64 (M.plus m.games win).A)) 2 (.int .i64 (M.plus m.games win).B))
    have hy0 := ((heap_setCell_other _ ⟨w.heap.size + 1, 2, none⟩ w.heap.size (.int .i64 (M.plus m.games win).B) (by simp)).trans ((heap_setCell_other _ ⟨w.heap.size + 1, 1, none⟩ w.heap.size (.int .i64 (M.plus m.games win).A) (by simp)).trans hx0))
    have hy2 := ((heap_setCell_other _ ⟨w.heap.size + 1, 2, none⟩ (w.heap.size + 1 + 1) (.int .i64 (M.plus m.games win).B) (by simp)).trans ((heap_setCell_other _ ⟨w.heap.size + 1, 1, none⟩ (w.heap.size + 1 + 1) (.int .i64 (M.plus m.games win).A) (by simp)).trans hx2))
    have hyB := ((HB1.out.setCell (p := ⟨w.heap.size + 1, 1, none⟩) (by simp) (.int .i64 (M.plus m.games win).A)).setCell (p := ⟨w.heap.size + 1, 2, none⟩) (by simp) (.int .i64 (M.plus m.games win).B))
    have hyp := ((heap_setCell_other _ ⟨w.heap.size + 1, 2, none⟩ qg (.int .i64 (M.plus m.games win).B) (by simp; omega)).trans ((heap_setCell_other _ ⟨w.heap.size + 1, 1, none⟩ qg (.int .i64 (M.plus m.games win).A) (by simp; omega)).trans hxg))
    have hyq : w.heap.size + 1 + 1 < (World.setCell (World.setCell w12 ⟨w.heap.size + 1, 1, none⟩ (.int .i64 (M.plus m.games win).A)) ⟨w.heap.size + 1, 2, none⟩ (.int .i64 (M.plus m.games win).B)).heap.size := by simp [World.setCell]; omega
    have hyqp : qg < (World.setCell (World.setCell w12 ⟨w.heap.size + 1, 1, none⟩ (.int .i64 (M.plus m.games win).A)) ⟨w.heap.size + 1, 2, none⟩ (.int .i64 (M.plus m.games win).B)).heap.size := by simp [World.setCell]; omega
    generalize (World.setCell (World.setCell w12 ⟨w.heap.size + 1, 1, none⟩ (.int .i64 (M.plus m.games win).A)) ⟨w.heap.size + 1, 2, none⟩ (.int .i64 (M.plus m.games win).B)) = w13 at hyR hy1 hy0 hy2 hyB hyq hyp hyqp ⊢
    clear hx0 hx1 hx2 hq1 hc0 hc1 hfz HR1 HB1 hxg hqg hcg
    have hx0 := hy0
    have hx1 := hy1
    have hx2 := hy2
    have hq1 := hyq
    have HR1 := hide hyR
    have HB1 := hide hyB
    have hxg := hyp
    have hqg := hyqp
    have hcg := fun i => cell_of_row w13 qg i _ _ _ hxg
    clear hyR hy0 hy1 hy2 hyB hyq hyp hyqp
    have hc0 := fun i => cell_of_row w13 w.heap.size i _ _ _ hx0
    have hc1 := fun i => cell_of_row w13 (w.heap.size + 1) i _ _ _ hx1
    have hfz := fun i => frozen_of_row w13 (w.heap.size + 1) i _ _ hx1
    obtain ⟨pi, hpi, hpz0, hpz1, hpz2⟩ := info_parts pair_info
    have hsrcA : ∀ {w' : World}, RAt w' base { m with log := m.log ++ [M.rgame m (M.plus m.pts side) win] } (.slice A ns c) (.slice A8 (n + 1) c8) → w'.ownsRow base 32 2 (.slice A ns c) ns (flatP m.sets) := fun h => by
      have hs' := h.s
      rw [show ({ m with log := m.log ++ [M.rgame m (M.plus m.pts side) win] } : M.Mt).sets.length = ns from HNS.out] at hs'
      exact hs'
    go_upto_region 17 with fail
    have c1 : w13.cell? ⟨w.heap.size + 1, 0, none⟩ = some (.slice A ns c) ∧ w13.cell? ⟨w.heap.size + 1, 1, none⟩ = some (.int .i64 (M.plus m.games win).A) ∧ w13.cell? ⟨w.heap.size + 1, 2, none⟩ = some (.int .i64 (M.plus m.games win).B) ∧ w13.cell? ⟨w.heap.size + 1, 3, none⟩ = some (.int .i64 0) ∧ w13.cell? ⟨w.heap.size + 1, 4, none⟩ = some (.int .i64 0) ∧ w13.cell? ⟨w.heap.size + 1, 5, none⟩ = some (.int .i64 m.server) ∧ w13.cell? ⟨w.heap.size + 1, 6, none⟩ = some (.int .i64 m.ends) ∧ w13.cell? ⟨w.heap.size + 1, 7, none⟩ = some (.int .i64 m.balls) ∧ w13.cell? ⟨w.heap.size + 1, 8, none⟩ = some (.int .i64 m.winner) ∧ w13.cell? ⟨w.heap.size + 1, 9, none⟩ = some (.int .i64 m.opens) ∧ w13.cell? ⟨w.heap.size + 1, 10, none⟩ = some (.slice A8 (n + 1) c8) ∧ w13.cell? ⟨w.heap.size + 1, 11, none⟩ = some (.bool m.fresh) := by (repeat' apply And.intro) <;> exact (cell_of_row _ _ _ _ _ _ hx1).trans rfl
    have cp : w13.cell? ⟨qg, 0, none⟩ = some (.int .i64 ((M.plus m.games win)).A) ∧ w13.cell? ⟨qg, 1, none⟩ = some (.int .i64 ((M.plus m.games win)).B) := by (repeat' apply And.intro) <;> exact (cell_of_row _ _ _ _ _ _ hxg).trans rfl
    clear hc0 hc1 hcg hfz
    refine wp_region_T_drew (S := (fun w' => w13.heap.size ≤ w'.heap.size ∧ w'.cell? ⟨w.heap.size + 1, 0, none⟩ = some (.slice A ns c) ∧ w'.cell? ⟨w.heap.size + 1, 1, none⟩ = some (.int .i64 (M.plus m.games win).A) ∧ w'.cell? ⟨w.heap.size + 1, 2, none⟩ = some (.int .i64 (M.plus m.games win).B) ∧ w'.cell? ⟨w.heap.size + 1, 3, none⟩ = some (.int .i64 0) ∧ w'.cell? ⟨w.heap.size + 1, 4, none⟩ = some (.int .i64 0) ∧ w'.cell? ⟨w.heap.size + 1, 5, none⟩ = some (.int .i64 m.server) ∧ w'.cell? ⟨w.heap.size + 1, 6, none⟩ = some (.int .i64 m.ends) ∧ w'.cell? ⟨w.heap.size + 1, 7, none⟩ = some (.int .i64 m.balls) ∧ w'.cell? ⟨w.heap.size + 1, 8, none⟩ = some (.int .i64 m.winner) ∧ w'.cell? ⟨w.heap.size + 1, 9, none⟩ = some (.int .i64 m.opens) ∧ w'.cell? ⟨w.heap.size + 1, 10, none⟩ = some (.slice A8 (n + 1) c8) ∧ w'.cell? ⟨w.heap.size + 1, 11, none⟩ = some (.bool m.fresh) ∧ w'.cell? ⟨qg, 0, none⟩ = some (.int .i64 ((M.plus m.games win)).A) ∧ w'.cell? ⟨qg, 1, none⟩ = some (.int .i64 ((M.plus m.games win)).B))) 12 (by kernel_rfl) ?_ (fun hD0 => ?_)
    · (try dsimp only); (first | (go_keep; done) | (go_split_ands; (repeat' apply And.intro) <;> first | (go_keep; done) | (simp [*, zcA, zcP, zfA, zfP]; done) | (simp [zcA, zcP] <;> rfl) | (simp [*, zsS, zsO, zsA]; done) | ((first | refine (hc _ _ ?_).trans ?_ | refine (hf _ _ ?_).trans ?_) <;> first | assumption | (simp; done) | (simp; omega) | omega | (go_keep; done) | (simp [*, zcA, zcP, zfA, zfP]; done) | (simp [zcA, zcP]; rfl)) | (repeat' first | exact zbR _ _ | assumption | refine zbD ?_ | refine zbA ?_ ?_ _ | refine zbS ?_ ?_ _ | refine zbT ?_ (by assumption) ?_ | (simp; done) | (simp; omega) | omega)))
    refine takeT (v := ?_) 1 rfl (by kernel_rfl) (by kernel_rfl) (by kernel_rfl) (by kernel_rfl) (fun _ _ _ h => h) (Or.inl ⟨by rfl, ?_⟩) (by assumption) ?_; rotate_left
    · (intro w hSw; (try dsimp only at hSw); go_simp; try with_reducible rfl)
    try simp only [Act.put, zl, z0, z1]
    refine takeT (v := ?_) 2 rfl (by kernel_rfl) (by kernel_rfl) (by kernel_rfl) (by kernel_rfl) (fun _ _ _ h => h) (Or.inl ⟨by rfl, ?_⟩) (by assumption) ?_; rotate_left
    · (intro w hSw; (try dsimp only at hSw); go_simp; try with_reducible rfl)
    try simp only [Act.put, zl, z0, z1]
    refine takeT (v := ?_) 3 rfl (by kernel_rfl) (by kernel_rfl) (by kernel_rfl) (by kernel_rfl) (fun _ _ _ h => h) (Or.inl ⟨by rfl, ?_⟩) (by assumption) ?_; rotate_left
    · (intro w hSw; (try dsimp only at hSw); go_simp; try with_reducible rfl)
    try simp only [Act.put, zl, z0, z1]
    refine takeT (v := ?_) 4 rfl (by kernel_rfl) (by kernel_rfl) (by kernel_rfl) (by kernel_rfl) (fun _ _ _ h => h) (Or.inl ⟨by rfl, ?_⟩) (by assumption) ?_; rotate_left
    · (intro w hSw; (try dsimp only at hSw); go_simp; try with_reducible rfl)
    try simp only [Act.put, zl, z0, z1]
    refine takeT (v := ?_) 6 rfl (by kernel_rfl) (by kernel_rfl) (by kernel_rfl) (by kernel_rfl) (fun _ _ _ h => h) (Or.inl ⟨by rfl, ?_⟩) (by assumption) ?_; rotate_left
    · (intro w hSw; (try dsimp only at hSw); go_simp; try with_reducible rfl)
    try simp only [Act.put, zl, z0, z1]
    refine wpAnyT_ready (rs := [0, 7]) (by kernel_rfl) (by simp) ?_; refine consT 0 rfl (fun K hK => ?_) ?_; go_simp
    refine hK.out _ _ ?_ (fun hD1 => ?_)
    · (try dsimp only); (first | (go_keep; done) | (go_split_ands; (repeat' apply And.intro) <;> first | (go_keep; done) | (simp [*, zcA, zcP, zfA, zfP]; done) | (simp [zcA, zcP] <;> rfl) | (simp [*, zsS, zsO, zsA]; done) | ((first | refine (hc _ _ ?_).trans ?_ | refine (hf _ _ ?_).trans ?_) <;> first | assumption | (simp; done) | (simp; omega) | omega | (go_keep; done) | (simp [*, zcA, zcP, zfA, zfP]; done) | (simp [zcA, zcP]; rfl)) | (repeat' first | exact zbR _ _ | assumption | refine zbD ?_ | refine zbA ?_ ?_ _ | refine zbS ?_ ?_ _ | refine zbT ?_ (by assumption) ?_ | (simp; done) | (simp; omega) | omega)))
    clear hK K hD0; try simp only [Act.put, zl, z0, z1]
    refine wpAnyT_ready (rs := [5, 7]) (by kernel_rfl) (by simp) ?_; refine consT 5 rfl (fun K hK => ?_) ?_
    first | (refine step_row rfl (.tmp 116) (.tmp 118) 30 rfl w13.heap.size _ 32 pi _ 2 16 rfl hpi hpz0 hpz1 hpz2 (by rfl) (by decide) (.slice A' ns c') ns ([] ++ flatP m.sets) rfl (by first | exact hown | exact hown.alloc _) _ 1 1 _ rfl (owns_blk (n := 1) (size := 2) (cs := #[.int .i64 (M.plus m.games win).A, .int .i64 (M.plus m.games win).B]) (by first | exact heap_alloc_new _ _ | exact (hgrow.block _ (by simp; try omega) (by simp [Value.ownBlock]; try omega)).trans (heap_alloc2_new _ _ _) | exact (hgrow.block _ (by simp; try omega) (by simp [Value.ownBlock]; try omega)).trans (heap_alloc2_old _ _ _)) rfl (by omega)) (by intro u hu; simp at hu; rcases hu with rfl | rfl <;> rfl) (ns + 1) (by omega) (by omega) (by decide) (by first | omega | (simp; omega)) ?_; intro A9 c9 w8 hown8 hgrow8; have HB58 := hide (show Below w13.heap.size w13 w8 from by first | exact hb3.trans (grown_below hgrow8 (by omega) (fun g hg => (hown.lt g hg).1)) | exact (hb3.alloc (by omega) (.cells #[.int .i64 (M.plus m.games win).A, .int .i64 (M.plus m.games win).B] 32 (0, 0))).trans (grown_below hgrow8 (by simp; omega) (fun g hg => (hown.lt g hg).1))); have hc := fun b o (h : b < w13.heap.size) => HB58.out.cell (p := ⟨b, o, none⟩) h; have hz8 := HB58.out.size; have hy1 := (HB58.out.block (w.heap.size + 1) (by omega)).trans hx1; have hfr8 := fun i => frozen_of_row w8 (w.heap.size + 1) i _ _ hy1; have HOWN8 := hide hown8) | (refine step_row rfl (.tmp 111) (.tmp 115) 30 rfl w13.heap.size base 32 pi _ 2 16 rfl hpi hpz0 hpz1 hpz2 (by rfl) (by decide) (.slice (some ⟨w13.heap.size, 0, none⟩) 0 0) 0 [] rfl (owns_mono (owns_blk (n := 0) (size := 2) (cs := #[]) (by first | exact heap_alloc_new _ _ | exact heap_alloc2_old _ _ _ | exact heap_alloc2_new _ _ _) rfl (by omega)) (by first | exact Nat.le_refl _ | (simp; done) | (simp; omega))) A ns c (flatP m.sets) rfl (by first | exact hsrcA (HR1.out.alloc _).drew | exact hsrcA ((HR1.out.alloc _).alloc _).drew) (flatP_one' _) ns (by omega) (by omega) (by decide) (by first | (simp; done) | (simp; omega)) ?_; intro A' c' w6 hown hgrow; have hb3 : Below w13.heap.size w13 w6 := Below.trans (by (repeat' first | exact zbR _ _ | assumption | refine zbD ?_ | refine zbA ?_ ?_ _ | refine zbS ?_ ?_ _ | refine zbT ?_ (by assumption) ?_ | (simp; done) | (simp; omega) | omega)) (grown_below hgrow (by first | (simp; done) | (simp; omega)) (fun g hg => by have hg' := Option.some.inj hg; first | exact Nat.le_of_eq hg' | exact Nat.le_trans (Nat.le_succ _) (Nat.le_of_eq hg'))); have hz3 := hb3.size; have hc := fun b o (h : b < w13.heap.size) => hb3.cell (p := ⟨b, o, none⟩) h) | (refine step_row rfl (.tmp 111) (.tmp 115) 30 rfl w13.heap.size base 32 pi _ 2 16 rfl hpi hpz0 hpz1 hpz2 (by rfl) (by decide) (.slice (some ⟨w13.heap.size + 1, 0, none⟩) 0 0) 0 [] rfl (owns_mono (owns_blk (n := 0) (size := 2) (cs := #[]) (by first | exact heap_alloc_new _ _ | exact heap_alloc2_old _ _ _ | exact heap_alloc2_new _ _ _) rfl (by omega)) (by first | exact Nat.le_refl _ | (simp; done) | (simp; omega))) A ns c (flatP m.sets) rfl (by first | exact hsrcA (HR1.out.alloc _).drew | exact hsrcA ((HR1.out.alloc _).alloc _).drew) (flatP_one' _) ns (by omega) (by omega) (by decide) (by first | (simp; done) | (simp; omega)) ?_; intro A' c' w6 hown hgrow; have hb3 : Below w13.heap.size w13 w6 := Below.trans (by (repeat' first | exact zbR _ _ | assumption | refine zbD ?_ | refine zbA ?_ ?_ _ | refine zbS ?_ ?_ _ | refine zbT ?_ (by assumption) ?_ | (simp; done) | (simp; omega) | omega)) (grown_below hgrow (by first | (simp; done) | (simp; omega)) (fun g hg => by have hg' := Option.some.inj hg; first | exact Nat.le_of_eq hg' | exact Nat.le_trans (Nat.le_succ _) (Nat.le_of_eq hg'))); have hz3 := hb3.size; have hc := fun b o (h : b < w13.heap.size) => hb3.cell (p := ⟨b, o, none⟩) h)
    refine hK.out _ _ ?_ (fun hD2 => ?_)
    · (try dsimp only); (first | (go_keep; done) | (go_split_ands; (repeat' apply And.intro) <;> first | (go_keep; done) | (simp [*, zcA, zcP, zfA, zfP]; done) | (simp [zcA, zcP] <;> rfl) | (simp [*, zsS, zsO, zsA]; done) | ((first | refine (hc _ _ ?_).trans ?_ | refine (hf _ _ ?_).trans ?_) <;> first | assumption | (simp; done) | (simp; omega) | omega | (go_keep; done) | (simp [*, zcA, zcP, zfA, zfP]; done) | (simp [zcA, zcP]; rfl)) | (repeat' first | exact zbR _ _ | assumption | refine zbD ?_ | refine zbA ?_ ?_ _ | refine zbS ?_ ?_ _ | refine zbT ?_ (by assumption) ?_ | (simp; done) | (simp; omega) | omega)))
    clear hK K hD1; try simp only [Act.put, zl, z0, z1]
    refine wpAnyT_ready (rs := [7]) (by kernel_rfl) (by simp) ?_; refine consT 7 rfl (fun K hK => ?_) AllReadyT.nil; go_simp
    refine hK.out _ _ ?_ (fun hD3 => ?_)
    · (try dsimp only); (first | (go_keep; done) | (go_split_ands; (repeat' apply And.intro) <;> first | (go_keep; done) | (simp [*, zcA, zcP, zfA, zfP]; done) | (simp [zcA, zcP] <;> rfl) | (simp [*, zsS, zsO, zsA]; done) | ((first | refine (hc _ _ ?_).trans ?_ | refine (hf _ _ ?_).trans ?_) <;> first | assumption | (simp; done) | (simp; omega) | omega | (go_keep; done) | (simp [*, zcA, zcP, zfA, zfP]; done) | (simp [zcA, zcP]; rfl)) | (repeat' first | exact zbR _ _ | assumption | refine zbD ?_ | refine zbA ?_ ?_ _ | refine zbS ?_ ?_ _ | refine zbT ?_ (by assumption) ?_ | (simp; done) | (simp; omega) | omega)))
    clear hK K hD2; try simp only [Act.put, zl, z0, z1]
    refine wpAnyT_ready (rs := [8]) (by kernel_rfl) (by simp) ?_; refine consT 8 rfl (fun K hK => ?_) AllReadyT.nil
    first | (refine step_row rfl (.tmp 116) (.tmp 118) 30 rfl w13.heap.size _ 32 pi _ 2 16 rfl hpi hpz0 hpz1 hpz2 (by rfl) (by decide) (.slice A' ns c') ns ([] ++ flatP m.sets) rfl (by first | exact hown | exact hown.alloc _) _ 1 1 _ rfl (owns_blk (n := 1) (size := 2) (cs := #[.int .i64 (M.plus m.games win).A, .int .i64 (M.plus m.games win).B]) (by first | exact heap_alloc_new _ _ | exact (hgrow.block _ (by simp; try omega) (by simp [Value.ownBlock]; try omega)).trans (heap_alloc2_new _ _ _) | exact (hgrow.block _ (by simp; try omega) (by simp [Value.ownBlock]; try omega)).trans (heap_alloc2_old _ _ _)) rfl (by omega)) (by intro u hu; simp at hu; rcases hu with rfl | rfl <;> rfl) (ns + 1) (by omega) (by omega) (by decide) (by first | omega | (simp; omega)) ?_; intro A9 c9 w8 hown8 hgrow8; have HB58 := hide (show Below w13.heap.size w13 w8 from by first | exact hb3.trans (grown_below hgrow8 (by omega) (fun g hg => (hown.lt g hg).1)) | exact (hb3.alloc (by omega) (.cells #[.int .i64 (M.plus m.games win).A, .int .i64 (M.plus m.games win).B] 32 (0, 0))).trans (grown_below hgrow8 (by simp; omega) (fun g hg => (hown.lt g hg).1))); have hc := fun b o (h : b < w13.heap.size) => HB58.out.cell (p := ⟨b, o, none⟩) h; have hz8 := HB58.out.size; have hy1 := (HB58.out.block (w.heap.size + 1) (by omega)).trans hx1; have hfr8 := fun i => frozen_of_row w8 (w.heap.size + 1) i _ _ hy1; have HOWN8 := hide hown8) | (refine step_row rfl (.tmp 111) (.tmp 115) 30 rfl w13.heap.size base 32 pi _ 2 16 rfl hpi hpz0 hpz1 hpz2 (by rfl) (by decide) (.slice (some ⟨w13.heap.size, 0, none⟩) 0 0) 0 [] rfl (owns_mono (owns_blk (n := 0) (size := 2) (cs := #[]) (by first | exact heap_alloc_new _ _ | exact heap_alloc2_old _ _ _ | exact heap_alloc2_new _ _ _) rfl (by omega)) (by first | exact Nat.le_refl _ | (simp; done) | (simp; omega))) A ns c (flatP m.sets) rfl (by first | exact hsrcA (HR1.out.alloc _).drew | exact hsrcA ((HR1.out.alloc _).alloc _).drew) (flatP_one' _) ns (by omega) (by omega) (by decide) (by first | (simp; done) | (simp; omega)) ?_; intro A' c' w6 hown hgrow; have hb3 : Below w13.heap.size w13 w6 := Below.trans (by (repeat' first | exact zbR _ _ | assumption | refine zbD ?_ | refine zbA ?_ ?_ _ | refine zbS ?_ ?_ _ | refine zbT ?_ (by assumption) ?_ | (simp; done) | (simp; omega) | omega)) (grown_below hgrow (by first | (simp; done) | (simp; omega)) (fun g hg => by have hg' := Option.some.inj hg; first | exact Nat.le_of_eq hg' | exact Nat.le_trans (Nat.le_succ _) (Nat.le_of_eq hg'))); have hz3 := hb3.size; have hc := fun b o (h : b < w13.heap.size) => hb3.cell (p := ⟨b, o, none⟩) h) | (refine step_row rfl (.tmp 111) (.tmp 115) 30 rfl w13.heap.size base 32 pi _ 2 16 rfl hpi hpz0 hpz1 hpz2 (by rfl) (by decide) (.slice (some ⟨w13.heap.size + 1, 0, none⟩) 0 0) 0 [] rfl (owns_mono (owns_blk (n := 0) (size := 2) (cs := #[]) (by first | exact heap_alloc_new _ _ | exact heap_alloc2_old _ _ _ | exact heap_alloc2_new _ _ _) rfl (by omega)) (by first | exact Nat.le_refl _ | (simp; done) | (simp; omega))) A ns c (flatP m.sets) rfl (by first | exact hsrcA (HR1.out.alloc _).drew | exact hsrcA ((HR1.out.alloc _).alloc _).drew) (flatP_one' _) ns (by omega) (by omega) (by decide) (by first | (simp; done) | (simp; omega)) ?_; intro A' c' w6 hown hgrow; have hb3 : Below w13.heap.size w13 w6 := Below.trans (by (repeat' first | exact zbR _ _ | assumption | refine zbD ?_ | refine zbA ?_ ?_ _ | refine zbS ?_ ?_ _ | refine zbT ?_ (by assumption) ?_ | (simp; done) | (simp; omega) | omega)) (grown_below hgrow (by first | (simp; done) | (simp; omega)) (fun g hg => by have hg' := Option.some.inj hg; first | exact Nat.le_of_eq hg' | exact Nat.le_trans (Nat.le_succ _) (Nat.le_of_eq hg'))); have hz3 := hb3.size; have hc := fun b o (h : b < w13.heap.size) => hb3.cell (p := ⟨b, o, none⟩) h)
    refine hK.out _ _ ?_ (fun hD4 => ?_)
    · (try dsimp only); (first | (go_keep; done) | (go_split_ands; (repeat' apply And.intro) <;> first | (go_keep; done) | (simp [*, zcA, zcP, zfA, zfP]; done) | (simp [zcA, zcP] <;> rfl) | (simp [*, zsS, zsO, zsA]; done) | ((first | refine (hc _ _ ?_).trans ?_ | refine (hf _ _ ?_).trans ?_) <;> first | assumption | (simp; done) | (simp; omega) | omega | (go_keep; done) | (simp [*, zcA, zcP, zfA, zfP]; done) | (simp [zcA, zcP]; rfl)) | (repeat' first | exact zbR _ _ | assumption | refine zbD ?_ | refine zbA ?_ ?_ _ | refine zbS ?_ ?_ _ | refine zbT ?_ (by assumption) ?_ | (simp; done) | (simp; omega) | omega)))
    clear hK K hD3; try simp only [Act.put, zl, z0, z1]
    refine wpAnyT_ready (rs := [9]) (by kernel_rfl) (by simp) ?_; refine consT 9 rfl (fun K hK => ?_) AllReadyT.nil; go_simp
    refine hK.out _ _ ?_ (fun hD5 => ?_)
    · (try dsimp only); first | exact hD4 | ((first | (go_keep; done) | (go_split_ands; (repeat' apply And.intro) <;> first | (go_keep; done) | (simp [*, zcA, zcP, zfA, zfP]; done) | (simp [zcA, zcP] <;> rfl) | (simp [*, zsS, zsO, zsA]; done) | ((first | refine (hc _ _ ?_).trans ?_ | refine (hf _ _ ?_).trans ?_) <;> first | assumption | (simp; done) | (simp; omega) | omega | (go_keep; done) | (simp [*, zcA, zcP, zfA, zfP]; done) | (simp [zcA, zcP]; rfl)) | (repeat' first | exact zbR _ _ | assumption | refine zbD ?_ | refine zbA ?_ ?_ _ | refine zbS ?_ ?_ _ | refine zbT ?_ (by assumption) ?_ | (simp; done) | (simp; omega) | omega))))
    clear hK K hD4; try simp only [Act.put, zl, z0, z1]
    refine wpAnyT_ready (rs := [10]) (by kernel_rfl) (by simp) ?_; refine consT 10 rfl (fun K hK => ?_) AllReadyT.nil; go_simp
    refine hK.out _ _ ?_ (fun hD6 => ?_)
    · (try dsimp only); first | exact hD5 | ((first | (go_keep; done) | (go_split_ands; (repeat' apply And.intro) <;> first | (go_keep; done) | (simp [*, zcA, zcP, zfA, zfP]; done) | (simp [zcA, zcP] <;> rfl) | (simp [*, zsS, zsO, zsA]; done) | ((first | refine (hc _ _ ?_).trans ?_ | refine (hf _ _ ?_).trans ?_) <;> first | assumption | (simp; done) | (simp; omega) | omega | (go_keep; done) | (simp [*, zcA, zcP, zfA, zfP]; done) | (simp [zcA, zcP]; rfl)) | (repeat' first | exact zbR _ _ | assumption | refine zbD ?_ | refine zbA ?_ ?_ _ | refine zbS ?_ ?_ _ | refine zbT ?_ (by assumption) ?_ | (simp; done) | (simp; omega) | omega))))
    clear hK K hD5; try simp only [Act.put, zl, z0, z1]
    refine takeT (v := ?_) 11 rfl (by kernel_rfl) (by kernel_rfl) (by kernel_rfl) (by kernel_rfl) (fun _ _ _ h => h) (Or.inl ⟨by rfl, ?_⟩) (by assumption) ?_; rotate_left
    · (intro w hSw; (try dsimp only at hSw); go_simp; try with_reducible rfl)
    try simp only [Act.put, zl, z0, z1]
    refine wpAnyT_ready (rs := [12]) (by kernel_rfl) (by simp) ?_
    refine lastT rfl (fun K hK => ?_)
    (try dsimp only at hD6)
    go_simp
    refine hK.out _ _ ?_
    clear hK K
    try simp only [Act.put, zl, z0, z1]
    refine wpAnyT_done (by kernel_rfl) ?_ _
    rotate_left 1
    refine consT 7 rfl (fun K hK => ?_) AllReadyT.nil
    go_simp
    refine hK.out _ _ ?_ (fun hD2 => ?_)
    · (try dsimp only); (first | (go_keep; done) | (go_split_ands; (repeat' apply And.intro) <;> first | (go_keep; done) | (simp [*, zcA, zcP, zfA, zfP]; done) | (simp [zcA, zcP] <;> rfl) | (simp [*, zsS, zsO, zsA]; done) | ((first | refine (hc _ _ ?_).trans ?_ | refine (hf _ _ ?_).trans ?_) <;> first | assumption | (simp; done) | (simp; omega) | omega | (go_keep; done) | (simp [*, zcA, zcP, zfA, zfP]; done) | (simp [zcA, zcP]; rfl)) | (repeat' first | exact zbR _ _ | assumption | refine zbD ?_ | refine zbA ?_ ?_ _ | refine zbS ?_ ?_ _ | refine zbT ?_ (by assumption) ?_ | (simp; done) | (simp; omega) | omega)))
    clear hK K hD1; try simp only [Act.put, zl, z0, z1]
    refine wpAnyT_ready (rs := [5]) (by kernel_rfl) (by simp) ?_; refine consT 5 rfl (fun K hK => ?_) AllReadyT.nil
    first | (refine step_row rfl (.tmp 116) (.tmp 118) 30 rfl w13.heap.size _ 32 pi _ 2 16 rfl hpi hpz0 hpz1 hpz2 (by rfl) (by decide) (.slice A' ns c') ns ([] ++ flatP m.sets) rfl (by first | exact hown | exact hown.alloc _) _ 1 1 _ rfl (owns_blk (n := 1) (size := 2) (cs := #[.int .i64 (M.plus m.games win).A, .int .i64 (M.plus m.games win).B]) (by first | exact heap_alloc_new _ _ | exact (hgrow.block _ (by simp; try omega) (by simp [Value.ownBlock]; try omega)).trans (heap_alloc2_new _ _ _) | exact (hgrow.block _ (by simp; try omega) (by simp [Value.ownBlock]; try omega)).trans (heap_alloc2_old _ _ _)) rfl (by omega)) (by intro u hu; simp at hu; rcases hu with rfl | rfl <;> rfl) (ns + 1) (by omega) (by omega) (by decide) (by first | omega | (simp; omega)) ?_; intro A9 c9 w8 hown8 hgrow8; have HB58 := hide (show Below w13.heap.size w13 w8 from by first | exact hb3.trans (grown_below hgrow8 (by omega) (fun g hg => (hown.lt g hg).1)) | exact (hb3.alloc (by omega) (.cells #[.int .i64 (M.plus m.games win).A, .int .i64 (M.plus m.games win).B] 32 (0, 0))).trans (grown_below hgrow8 (by simp; omega) (fun g hg => (hown.lt g hg).1))); have hc := fun b o (h : b < w13.heap.size) => HB58.out.cell (p := ⟨b, o, none⟩) h; have hz8 := HB58.out.size; have hy1 := (HB58.out.block (w.heap.size + 1) (by omega)).trans hx1; have hfr8 := fun i => frozen_of_row w8 (w.heap.size + 1) i _ _ hy1; have HOWN8 := hide hown8) | (refine step_row rfl (.tmp 111) (.tmp 115) 30 rfl w13.heap.size base 32 pi _ 2 16 rfl hpi hpz0 hpz1 hpz2 (by rfl) (by decide) (.slice (some ⟨w13.heap.size, 0, none⟩) 0 0) 0 [] rfl (owns_mono (owns_blk (n := 0) (size := 2) (cs := #[]) (by first | exact heap_alloc_new _ _ | exact heap_alloc2_old _ _ _ | exact heap_alloc2_new _ _ _) rfl (by omega)) (by first | exact Nat.le_refl _ | (simp; done) | (simp; omega))) A ns c (flatP m.sets) rfl (by first | exact hsrcA (HR1.out.alloc _).drew | exact hsrcA ((HR1.out.alloc _).alloc _).drew) (flatP_one' _) ns (by omega) (by omega) (by decide) (by first | (simp; done) | (simp; omega)) ?_; intro A' c' w6 hown hgrow; have hb3 : Below w13.heap.size w13 w6 := Below.trans (by (repeat' first | exact zbR _ _ | assumption | refine zbD ?_ | refine zbA ?_ ?_ _ | refine zbS ?_ ?_ _ | refine zbT ?_ (by assumption) ?_ | (simp; done) | (simp; omega) | omega)) (grown_below hgrow (by first | (simp; done) | (simp; omega)) (fun g hg => by have hg' := Option.some.inj hg; first | exact Nat.le_of_eq hg' | exact Nat.le_trans (Nat.le_succ _) (Nat.le_of_eq hg'))); have hz3 := hb3.size; have hc := fun b o (h : b < w13.heap.size) => hb3.cell (p := ⟨b, o, none⟩) h) | (refine step_row rfl (.tmp 111) (.tmp 115) 30 rfl w13.heap.size base 32 pi _ 2 16 rfl hpi hpz0 hpz1 hpz2 (by rfl) (by decide) (.slice (some ⟨w13.heap.size + 1, 0, none⟩) 0 0) 0 [] rfl (owns_mono (owns_blk (n := 0) (size := 2) (cs := #[]) (by first | exact heap_alloc_new _ _ | exact heap_alloc2_old _ _ _ | exact heap_alloc2_new _ _ _) rfl (by omega)) (by first | exact Nat.le_refl _ | (simp; done) | (simp; omega))) A ns c (flatP m.sets) rfl (by first | exact hsrcA (HR1.out.alloc _).drew | exact hsrcA ((HR1.out.alloc _).alloc _).drew) (flatP_one' _) ns (by omega) (by omega) (by decide) (by first | (simp; done) | (simp; omega)) ?_; intro A' c' w6 hown hgrow; have hb3 : Below w13.heap.size w13 w6 := Below.trans (by (repeat' first | exact zbR _ _ | assumption | refine zbD ?_ | refine zbA ?_ ?_ _ | refine zbS ?_ ?_ _ | refine zbT ?_ (by assumption) ?_ | (simp; done) | (simp; omega) | omega)) (grown_below hgrow (by first | (simp; done) | (simp; omega)) (fun g hg => by have hg' := Option.some.inj hg; first | exact Nat.le_of_eq hg' | exact Nat.le_trans (Nat.le_succ _) (Nat.le_of_eq hg'))); have hz3 := hb3.size; have hc := fun b o (h : b < w13.heap.size) => hb3.cell (p := ⟨b, o, none⟩) h)
    refine hK.out _ _ ?_ (fun hD3 => ?_)
    · (try dsimp only); (first | (go_keep; done) | (go_split_ands; (repeat' apply And.intro) <;> first | (go_keep; done) | (simp [*, zcA, zcP, zfA, zfP]; done) | (simp [zcA, zcP] <;> rfl) | (simp [*, zsS, zsO, zsA]; done) | ((first | refine (hc _ _ ?_).trans ?_ | refine (hf _ _ ?_).trans ?_) <;> first | assumption | (simp; done) | (simp; omega) | omega | (go_keep; done) | (simp [*, zcA, zcP, zfA, zfP]; done) | (simp [zcA, zcP]; rfl)) | (repeat' first | exact zbR _ _ | assumption | refine zbD ?_ | refine zbA ?_ ?_ _ | refine zbS ?_ ?_ _ | refine zbT ?_ (by assumption) ?_ | (simp; done) | (simp; omega) | omega)))
    clear hK K hD2; try simp only [Act.put, zl, z0, z1]
    refine wpAnyT_ready (rs := [8]) (by kernel_rfl) (by simp) ?_; refine consT 8 rfl (fun K hK => ?_) AllReadyT.nil
    first | (refine step_row rfl (.tmp 116) (.tmp 118) 30 rfl w13.heap.size _ 32 pi _ 2 16 rfl hpi hpz0 hpz1 hpz2 (by rfl) (by decide) (.slice A' ns c') ns ([] ++ flatP m.sets) rfl (by first | exact hown | exact hown.alloc _) _ 1 1 _ rfl (owns_blk (n := 1) (size := 2) (cs := #[.int .i64 (M.plus m.games win).A, .int .i64 (M.plus m.games win).B]) (by first | exact heap_alloc_new _ _ | exact (hgrow.block _ (by simp; try omega) (by simp [Value.ownBlock]; try omega)).trans (heap_alloc2_new _ _ _) | exact (hgrow.block _ (by simp; try omega) (by simp [Value.ownBlock]; try omega)).trans (heap_alloc2_old _ _ _)) rfl (by omega)) (by intro u hu; simp at hu; rcases hu with rfl | rfl <;> rfl) (ns + 1) (by omega) (by omega) (by decide) (by first | omega | (simp; omega)) ?_; intro A9 c9 w8 hown8 hgrow8; have HB58 := hide (show Below w13.heap.size w13 w8 from by first | exact hb3.trans (grown_below hgrow8 (by omega) (fun g hg => (hown.lt g hg).1)) | exact (hb3.alloc (by omega) (.cells #[.int .i64 (M.plus m.games win).A, .int .i64 (M.plus m.games win).B] 32 (0, 0))).trans (grown_below hgrow8 (by simp; omega) (fun g hg => (hown.lt g hg).1))); have hc := fun b o (h : b < w13.heap.size) => HB58.out.cell (p := ⟨b, o, none⟩) h; have hz8 := HB58.out.size; have hy1 := (HB58.out.block (w.heap.size + 1) (by omega)).trans hx1; have hfr8 := fun i => frozen_of_row w8 (w.heap.size + 1) i _ _ hy1; have HOWN8 := hide hown8) | (refine step_row rfl (.tmp 111) (.tmp 115) 30 rfl w13.heap.size base 32 pi _ 2 16 rfl hpi hpz0 hpz1 hpz2 (by rfl) (by decide) (.slice (some ⟨w13.heap.size, 0, none⟩) 0 0) 0 [] rfl (owns_mono (owns_blk (n := 0) (size := 2) (cs := #[]) (by first | exact heap_alloc_new _ _ | exact heap_alloc2_old _ _ _ | exact heap_alloc2_new _ _ _) rfl (by omega)) (by first | exact Nat.le_refl _ | (simp; done) | (simp; omega))) A ns c (flatP m.sets) rfl (by first | exact hsrcA (HR1.out.alloc _).drew | exact hsrcA ((HR1.out.alloc _).alloc _).drew) (flatP_one' _) ns (by omega) (by omega) (by decide) (by first | (simp; done) | (simp; omega)) ?_; intro A' c' w6 hown hgrow; have hb3 : Below w13.heap.size w13 w6 := Below.trans (by (repeat' first | exact zbR _ _ | assumption | refine zbD ?_ | refine zbA ?_ ?_ _ | refine zbS ?_ ?_ _ | refine zbT ?_ (by assumption) ?_ | (simp; done) | (simp; omega) | omega)) (grown_below hgrow (by first | (simp; done) | (simp; omega)) (fun g hg => by have hg' := Option.some.inj hg; first | exact Nat.le_of_eq hg' | exact Nat.le_trans (Nat.le_succ _) (Nat.le_of_eq hg'))); have hz3 := hb3.size; have hc := fun b o (h : b < w13.heap.size) => hb3.cell (p := ⟨b, o, none⟩) h) | (refine step_row rfl (.tmp 111) (.tmp 115) 30 rfl w13.heap.size base 32 pi _ 2 16 rfl hpi hpz0 hpz1 hpz2 (by rfl) (by decide) (.slice (some ⟨w13.heap.size + 1, 0, none⟩) 0 0) 0 [] rfl (owns_mono (owns_blk (n := 0) (size := 2) (cs := #[]) (by first | exact heap_alloc_new _ _ | exact heap_alloc2_old _ _ _ | exact heap_alloc2_new _ _ _) rfl (by omega)) (by first | exact Nat.le_refl _ | (simp; done) | (simp; omega))) A ns c (flatP m.sets) rfl (by first | exact hsrcA (HR1.out.alloc _).drew | exact hsrcA ((HR1.out.alloc _).alloc _).drew) (flatP_one' _) ns (by omega) (by omega) (by decide) (by first | (simp; done) | (simp; omega)) ?_; intro A' c' w6 hown hgrow; have hb3 : Below w13.heap.size w13 w6 := Below.trans (by (repeat' first | exact zbR _ _ | assumption | refine zbD ?_ | refine zbA ?_ ?_ _ | refine zbS ?_ ?_ _ | refine zbT ?_ (by assumption) ?_ | (simp; done) | (simp; omega) | omega)) (grown_below hgrow (by first | (simp; done) | (simp; omega)) (fun g hg => by have hg' := Option.some.inj hg; first | exact Nat.le_of_eq hg' | exact Nat.le_trans (Nat.le_succ _) (Nat.le_of_eq hg'))); have hz3 := hb3.size; have hc := fun b o (h : b < w13.heap.size) => hb3.cell (p := ⟨b, o, none⟩) h)
    refine hK.out _ _ ?_ (fun hD4 => ?_)
    · (try dsimp only); (first | (go_keep; done) | (go_split_ands; (repeat' apply And.intro) <;> first | (go_keep; done) | (simp [*, zcA, zcP, zfA, zfP]; done) | (simp [zcA, zcP] <;> rfl) | (simp [*, zsS, zsO, zsA]; done) | ((first | refine (hc _ _ ?_).trans ?_ | refine (hf _ _ ?_).trans ?_) <;> first | assumption | (simp; done) | (simp; omega) | omega | (go_keep; done) | (simp [*, zcA, zcP, zfA, zfP]; done) | (simp [zcA, zcP]; rfl)) | (repeat' first | exact zbR _ _ | assumption | refine zbD ?_ | refine zbA ?_ ?_ _ | refine zbS ?_ ?_ _ | refine zbT ?_ (by assumption) ?_ | (simp; done) | (simp; omega) | omega)))
    clear hK K hD3; try simp only [Act.put, zl, z0, z1]
    refine wpAnyT_ready (rs := [9]) (by kernel_rfl) (by simp) ?_; refine consT 9 rfl (fun K hK => ?_) AllReadyT.nil; go_simp
    refine hK.out _ _ ?_ (fun hD5 => ?_)
    · (try dsimp only); first | exact hD4 | ((first | (go_keep; done) | (go_split_ands; (repeat' apply And.intro) <;> first | (go_keep; done) | (simp [*, zcA, zcP, zfA, zfP]; done) | (simp [zcA, zcP] <;> rfl) | (simp [*, zsS, zsO, zsA]; done) | ((first | refine (hc _ _ ?_).trans ?_ | refine (hf _ _ ?_).trans ?_) <;> first | assumption | (simp; done) | (simp; omega) | omega | (go_keep; done) | (simp [*, zcA, zcP, zfA, zfP]; done) | (simp [zcA, zcP]; rfl)) | (repeat' first | exact zbR _ _ | assumption | refine zbD ?_ | refine zbA ?_ ?_ _ | refine zbS ?_ ?_ _ | refine zbT ?_ (by assumption) ?_ | (simp; done) | (simp; omega) | omega))))
    clear hK K hD4; try simp only [Act.put, zl, z0, z1]
    refine wpAnyT_ready (rs := [10]) (by kernel_rfl) (by simp) ?_; refine consT 10 rfl (fun K hK => ?_) AllReadyT.nil; go_simp
    refine hK.out _ _ ?_ (fun hD6 => ?_)
    · (try dsimp only); first | exact hD5 | ((first | (go_keep; done) | (go_split_ands; (repeat' apply And.intro) <;> first | (go_keep; done) | (simp [*, zcA, zcP, zfA, zfP]; done) | (simp [zcA, zcP] <;> rfl) | (simp [*, zsS, zsO, zsA]; done) | ((first | refine (hc _ _ ?_).trans ?_ | refine (hf _ _ ?_).trans ?_) <;> first | assumption | (simp; done) | (simp; omega) | omega | (go_keep; done) | (simp [*, zcA, zcP, zfA, zfP]; done) | (simp [zcA, zcP]; rfl)) | (repeat' first | exact zbR _ _ | assumption | refine zbD ?_ | refine zbA ?_ ?_ _ | refine zbS ?_ ?_ _ | refine zbT ?_ (by assumption) ?_ | (simp; done) | (simp; omega) | omega))))
    clear hK K hD5; try simp only [Act.put, zl, z0, z1]
    refine takeT (v := ?_) 11 rfl (by kernel_rfl) (by kernel_rfl) (by kernel_rfl) (by kernel_rfl) (fun _ _ _ h => h) (Or.inl ⟨by rfl, ?_⟩) (by assumption) ?_; rotate_left
    · (intro w hSw; (try dsimp only at hSw); go_simp; try with_reducible rfl)
    try simp only [Act.put, zl, z0, z1]
    refine wpAnyT_ready (rs := [12]) (by kernel_rfl) (by simp) ?_
    refine lastT rfl (fun K hK => ?_)
    (try dsimp only at hD6)
    go_simp
    refine hK.out _ _ ?_
    clear hK K
    try simp only [Act.put, zl, z0, z1]
    refine wpAnyT_done (by kernel_rfl) ?_ _
    rotate_left 1
    refine consT 7 rfl (fun K hK => ?_) AllReadyT.nil
    go_simp
    refine hK.out _ _ ?_ (fun hD1 => ?_)
    · (try dsimp only); (first | (go_keep; done) | (go_split_ands; (repeat' apply And.intro) <;> first | (go_keep; done) | (simp [*, zcA, zcP, zfA, zfP]; done) | (simp [zcA, zcP] <;> rfl) | (simp [*, zsS, zsO, zsA]; done) | ((first | refine (hc _ _ ?_).trans ?_ | refine (hf _ _ ?_).trans ?_) <;> first | assumption | (simp; done) | (simp; omega) | omega | (go_keep; done) | (simp [*, zcA, zcP, zfA, zfP]; done) | (simp [zcA, zcP]; rfl)) | (repeat' first | exact zbR _ _ | assumption | refine zbD ?_ | refine zbA ?_ ?_ _ | refine zbS ?_ ?_ _ | refine zbT ?_ (by assumption) ?_ | (simp; done) | (simp; omega) | omega)))
    clear hK K hD0; try simp only [Act.put, zl, z0, z1]
    refine wpAnyT_ready (rs := [0]) (by kernel_rfl) (by simp) ?_; refine consT 0 rfl (fun K hK => ?_) AllReadyT.nil; go_simp
    refine hK.out _ _ ?_ (fun hD2 => ?_)
    · (try dsimp only); (first | (go_keep; done) | (go_split_ands; (repeat' apply And.intro) <;> first | (go_keep; done) | (simp [*, zcA, zcP, zfA, zfP]; done) | (simp [zcA, zcP] <;> rfl) | (simp [*, zsS, zsO, zsA]; done) | ((first | refine (hc _ _ ?_).trans ?_ | refine (hf _ _ ?_).trans ?_) <;> first | assumption | (simp; done) | (simp; omega) | omega | (go_keep; done) | (simp [*, zcA, zcP, zfA, zfP]; done) | (simp [zcA, zcP]; rfl)) | (repeat' first | exact zbR _ _ | assumption | refine zbD ?_ | refine zbA ?_ ?_ _ | refine zbS ?_ ?_ _ | refine zbT ?_ (by assumption) ?_ | (simp; done) | (simp; omega) | omega)))
    clear hK K hD1; try simp only [Act.put, zl, z0, z1]
    refine wpAnyT_ready (rs := [5]) (by kernel_rfl) (by simp) ?_; refine consT 5 rfl (fun K hK => ?_) AllReadyT.nil
    first | (refine step_row rfl (.tmp 116) (.tmp 118) 30 rfl w13.heap.size _ 32 pi _ 2 16 rfl hpi hpz0 hpz1 hpz2 (by rfl) (by decide) (.slice A' ns c') ns ([] ++ flatP m.sets) rfl (by first | exact hown | exact hown.alloc _) _ 1 1 _ rfl (owns_blk (n := 1) (size := 2) (cs := #[.int .i64 (M.plus m.games win).A, .int .i64 (M.plus m.games win).B]) (by first | exact heap_alloc_new _ _ | exact (hgrow.block _ (by simp; try omega) (by simp [Value.ownBlock]; try omega)).trans (heap_alloc2_new _ _ _) | exact (hgrow.block _ (by simp; try omega) (by simp [Value.ownBlock]; try omega)).trans (heap_alloc2_old _ _ _)) rfl (by omega)) (by intro u hu; simp at hu; rcases hu with rfl | rfl <;> rfl) (ns + 1) (by omega) (by omega) (by decide) (by first | omega | (simp; omega)) ?_; intro A9 c9 w8 hown8 hgrow8; have HB58 := hide (show Below w13.heap.size w13 w8 from by first | exact hb3.trans (grown_below hgrow8 (by omega) (fun g hg => (hown.lt g hg).1)) | exact (hb3.alloc (by omega) (.cells #[.int .i64 (M.plus m.games win).A, .int .i64 (M.plus m.games win).B] 32 (0, 0))).trans (grown_below hgrow8 (by simp; omega) (fun g hg => (hown.lt g hg).1))); have hc := fun b o (h : b < w13.heap.size) => HB58.out.cell (p := ⟨b, o, none⟩) h; have hz8 := HB58.out.size; have hy1 := (HB58.out.block (w.heap.size + 1) (by omega)).trans hx1; have hfr8 := fun i => frozen_of_row w8 (w.heap.size + 1) i _ _ hy1; have HOWN8 := hide hown8) | (refine step_row rfl (.tmp 111) (.tmp 115) 30 rfl w13.heap.size base 32 pi _ 2 16 rfl hpi hpz0 hpz1 hpz2 (by rfl) (by decide) (.slice (some ⟨w13.heap.size, 0, none⟩) 0 0) 0 [] rfl (owns_mono (owns_blk (n := 0) (size := 2) (cs := #[]) (by first | exact heap_alloc_new _ _ | exact heap_alloc2_old _ _ _ | exact heap_alloc2_new _ _ _) rfl (by omega)) (by first | exact Nat.le_refl _ | (simp; done) | (simp; omega))) A ns c (flatP m.sets) rfl (by first | exact hsrcA (HR1.out.alloc _).drew | exact hsrcA ((HR1.out.alloc _).alloc _).drew) (flatP_one' _) ns (by omega) (by omega) (by decide) (by first | (simp; done) | (simp; omega)) ?_; intro A' c' w6 hown hgrow; have hb3 : Below w13.heap.size w13 w6 := Below.trans (by (repeat' first | exact zbR _ _ | assumption | refine zbD ?_ | refine zbA ?_ ?_ _ | refine zbS ?_ ?_ _ | refine zbT ?_ (by assumption) ?_ | (simp; done) | (simp; omega) | omega)) (grown_below hgrow (by first | (simp; done) | (simp; omega)) (fun g hg => by have hg' := Option.some.inj hg; first | exact Nat.le_of_eq hg' | exact Nat.le_trans (Nat.le_succ _) (Nat.le_of_eq hg'))); have hz3 := hb3.size; have hc := fun b o (h : b < w13.heap.size) => hb3.cell (p := ⟨b, o, none⟩) h) | (refine step_row rfl (.tmp 111) (.tmp 115) 30 rfl w13.heap.size base 32 pi _ 2 16 rfl hpi hpz0 hpz1 hpz2 (by rfl) (by decide) (.slice (some ⟨w13.heap.size + 1, 0, none⟩) 0 0) 0 [] rfl (owns_mono (owns_blk (n := 0) (size := 2) (cs := #[]) (by first | exact heap_alloc_new _ _ | exact heap_alloc2_old _ _ _ | exact heap_alloc2_new _ _ _) rfl (by omega)) (by first | exact Nat.le_refl _ | (simp; done) | (simp; omega))) A ns c (flatP m.sets) rfl (by first | exact hsrcA (HR1.out.alloc _).drew | exact hsrcA ((HR1.out.alloc _).alloc _).drew) (flatP_one' _) ns (by omega) (by omega) (by decide) (by first | (simp; done) | (simp; omega)) ?_; intro A' c' w6 hown hgrow; have hb3 : Below w13.heap.size w13 w6 := Below.trans (by (repeat' first | exact zbR _ _ | assumption | refine zbD ?_ | refine zbA ?_ ?_ _ | refine zbS ?_ ?_ _ | refine zbT ?_ (by assumption) ?_ | (simp; done) | (simp; omega) | omega)) (grown_below hgrow (by first | (simp; done) | (simp; omega)) (fun g hg => by have hg' := Option.some.inj hg; first | exact Nat.le_of_eq hg' | exact Nat.le_trans (Nat.le_succ _) (Nat.le_of_eq hg'))); have hz3 := hb3.size; have hc := fun b o (h : b < w13.heap.size) => hb3.cell (p := ⟨b, o, none⟩) h)
    refine hK.out _ _ ?_ (fun hD3 => ?_)
    · (try dsimp only); (first | (go_keep; done) | (go_split_ands; (repeat' apply And.intro) <;> first | (go_keep; done) | (simp [*, zcA, zcP, zfA, zfP]; done) | (simp [zcA, zcP] <;> rfl) | (simp [*, zsS, zsO, zsA]; done) | ((first | refine (hc _ _ ?_).trans ?_ | refine (hf _ _ ?_).trans ?_) <;> first | assumption | (simp; done) | (simp; omega) | omega | (go_keep; done) | (simp [*, zcA, zcP, zfA, zfP]; done) | (simp [zcA, zcP]; rfl)) | (repeat' first | exact zbR _ _ | assumption | refine zbD ?_ | refine zbA ?_ ?_ _ | refine zbS ?_ ?_ _ | refine zbT ?_ (by assumption) ?_ | (simp; done) | (simp; omega) | omega)))
    clear hK K hD2; try simp only [Act.put, zl, z0, z1]
    refine wpAnyT_ready (rs := [8]) (by kernel_rfl) (by simp) ?_; refine consT 8 rfl (fun K hK => ?_) AllReadyT.nil
    first | (refine step_row rfl (.tmp 116) (.tmp 118) 30 rfl w13.heap.size _ 32 pi _ 2 16 rfl hpi hpz0 hpz1 hpz2 (by rfl) (by decide) (.slice A' ns c') ns ([] ++ flatP m.sets) rfl (by first | exact hown | exact hown.alloc _) _ 1 1 _ rfl (owns_blk (n := 1) (size := 2) (cs := #[.int .i64 (M.plus m.games win).A, .int .i64 (M.plus m.games win).B]) (by first | exact heap_alloc_new _ _ | exact (hgrow.block _ (by simp; try omega) (by simp [Value.ownBlock]; try omega)).trans (heap_alloc2_new _ _ _) | exact (hgrow.block _ (by simp; try omega) (by simp [Value.ownBlock]; try omega)).trans (heap_alloc2_old _ _ _)) rfl (by omega)) (by intro u hu; simp at hu; rcases hu with rfl | rfl <;> rfl) (ns + 1) (by omega) (by omega) (by decide) (by first | omega | (simp; omega)) ?_; intro A9 c9 w8 hown8 hgrow8; have HB58 := hide (show Below w13.heap.size w13 w8 from by first | exact hb3.trans (grown_below hgrow8 (by omega) (fun g hg => (hown.lt g hg).1)) | exact (hb3.alloc (by omega) (.cells #[.int .i64 (M.plus m.games win).A, .int .i64 (M.plus m.games win).B] 32 (0, 0))).trans (grown_below hgrow8 (by simp; omega) (fun g hg => (hown.lt g hg).1))); have hc := fun b o (h : b < w13.heap.size) => HB58.out.cell (p := ⟨b, o, none⟩) h; have hz8 := HB58.out.size; have hy1 := (HB58.out.block (w.heap.size + 1) (by omega)).trans hx1; have hfr8 := fun i => frozen_of_row w8 (w.heap.size + 1) i _ _ hy1; have HOWN8 := hide hown8) | (refine step_row rfl (.tmp 111) (.tmp 115) 30 rfl w13.heap.size base 32 pi _ 2 16 rfl hpi hpz0 hpz1 hpz2 (by rfl) (by decide) (.slice (some ⟨w13.heap.size, 0, none⟩) 0 0) 0 [] rfl (owns_mono (owns_blk (n := 0) (size := 2) (cs := #[]) (by first | exact heap_alloc_new _ _ | exact heap_alloc2_old _ _ _ | exact heap_alloc2_new _ _ _) rfl (by omega)) (by first | exact Nat.le_refl _ | (simp; done) | (simp; omega))) A ns c (flatP m.sets) rfl (by first | exact hsrcA (HR1.out.alloc _).drew | exact hsrcA ((HR1.out.alloc _).alloc _).drew) (flatP_one' _) ns (by omega) (by omega) (by decide) (by first | (simp; done) | (simp; omega)) ?_; intro A' c' w6 hown hgrow; have hb3 : Below w13.heap.size w13 w6 := Below.trans (by (repeat' first | exact zbR _ _ | assumption | refine zbD ?_ | refine zbA ?_ ?_ _ | refine zbS ?_ ?_ _ | refine zbT ?_ (by assumption) ?_ | (simp; done) | (simp; omega) | omega)) (grown_below hgrow (by first | (simp; done) | (simp; omega)) (fun g hg => by have hg' := Option.some.inj hg; first | exact Nat.le_of_eq hg' | exact Nat.le_trans (Nat.le_succ _) (Nat.le_of_eq hg'))); have hz3 := hb3.size; have hc := fun b o (h : b < w13.heap.size) => hb3.cell (p := ⟨b, o, none⟩) h) | (refine step_row rfl (.tmp 111) (.tmp 115) 30 rfl w13.heap.size base 32 pi _ 2 16 rfl hpi hpz0 hpz1 hpz2 (by rfl) (by decide) (.slice (some ⟨w13.heap.size + 1, 0, none⟩) 0 0) 0 [] rfl (owns_mono (owns_blk (n := 0) (size := 2) (cs := #[]) (by first | exact heap_alloc_new _ _ | exact heap_alloc2_old _ _ _ | exact heap_alloc2_new _ _ _) rfl (by omega)) (by first | exact Nat.le_refl _ | (simp; done) | (simp; omega))) A ns c (flatP m.sets) rfl (by first | exact hsrcA (HR1.out.alloc _).drew | exact hsrcA ((HR1.out.alloc _).alloc _).drew) (flatP_one' _) ns (by omega) (by omega) (by decide) (by first | (simp; done) | (simp; omega)) ?_; intro A' c' w6 hown hgrow; have hb3 : Below w13.heap.size w13 w6 := Below.trans (by (repeat' first | exact zbR _ _ | assumption | refine zbD ?_ | refine zbA ?_ ?_ _ | refine zbS ?_ ?_ _ | refine zbT ?_ (by assumption) ?_ | (simp; done) | (simp; omega) | omega)) (grown_below hgrow (by first | (simp; done) | (simp; omega)) (fun g hg => by have hg' := Option.some.inj hg; first | exact Nat.le_of_eq hg' | exact Nat.le_trans (Nat.le_succ _) (Nat.le_of_eq hg'))); have hz3 := hb3.size; have hc := fun b o (h : b < w13.heap.size) => hb3.cell (p := ⟨b, o, none⟩) h)
    refine hK.out _ _ ?_ (fun hD4 => ?_)
    · (try dsimp only); (first | (go_keep; done) | (go_split_ands; (repeat' apply And.intro) <;> first | (go_keep; done) | (simp [*, zcA, zcP, zfA, zfP]; done) | (simp [zcA, zcP] <;> rfl) | (simp [*, zsS, zsO, zsA]; done) | ((first | refine (hc _ _ ?_).trans ?_ | refine (hf _ _ ?_).trans ?_) <;> first | assumption | (simp; done) | (simp; omega) | omega | (go_keep; done) | (simp [*, zcA, zcP, zfA, zfP]; done) | (simp [zcA, zcP]; rfl)) | (repeat' first | exact zbR _ _ | assumption | refine zbD ?_ | refine zbA ?_ ?_ _ | refine zbS ?_ ?_ _ | refine zbT ?_ (by assumption) ?_ | (simp; done) | (simp; omega) | omega)))
    clear hK K hD3; try simp only [Act.put, zl, z0, z1]
    refine wpAnyT_ready (rs := [9]) (by kernel_rfl) (by simp) ?_; refine consT 9 rfl (fun K hK => ?_) AllReadyT.nil; go_simp
    refine hK.out _ _ ?_ (fun hD5 => ?_)
    · (try dsimp only); first | exact hD4 | ((first | (go_keep; done) | (go_split_ands; (repeat' apply And.intro) <;> first | (go_keep; done) | (simp [*, zcA, zcP, zfA, zfP]; done) | (simp [zcA, zcP] <;> rfl) | (simp [*, zsS, zsO, zsA]; done) | ((first | refine (hc _ _ ?_).trans ?_ | refine (hf _ _ ?_).trans ?_) <;> first | assumption | (simp; done) | (simp; omega) | omega | (go_keep; done) | (simp [*, zcA, zcP, zfA, zfP]; done) | (simp [zcA, zcP]; rfl)) | (repeat' first | exact zbR _ _ | assumption | refine zbD ?_ | refine zbA ?_ ?_ _ | refine zbS ?_ ?_ _ | refine zbT ?_ (by assumption) ?_ | (simp; done) | (simp; omega) | omega))))
    clear hK K hD4; try simp only [Act.put, zl, z0, z1]
    refine wpAnyT_ready (rs := [10]) (by kernel_rfl) (by simp) ?_; refine consT 10 rfl (fun K hK => ?_) AllReadyT.nil; go_simp
    refine hK.out _ _ ?_ (fun hD6 => ?_)
    · (try dsimp only); first | exact hD5 | ((first | (go_keep; done) | (go_split_ands; (repeat' apply And.intro) <;> first | (go_keep; done) | (simp [*, zcA, zcP, zfA, zfP]; done) | (simp [zcA, zcP] <;> rfl) | (simp [*, zsS, zsO, zsA]; done) | ((first | refine (hc _ _ ?_).trans ?_ | refine (hf _ _ ?_).trans ?_) <;> first | assumption | (simp; done) | (simp; omega) | omega | (go_keep; done) | (simp [*, zcA, zcP, zfA, zfP]; done) | (simp [zcA, zcP]; rfl)) | (repeat' first | exact zbR _ _ | assumption | refine zbD ?_ | refine zbA ?_ ?_ _ | refine zbS ?_ ?_ _ | refine zbT ?_ (by assumption) ?_ | (simp; done) | (simp; omega) | omega))))
    clear hK K hD5; try simp only [Act.put, zl, z0, z1]
    refine takeT (v := ?_) 11 rfl (by kernel_rfl) (by kernel_rfl) (by kernel_rfl) (by kernel_rfl) (fun _ _ _ h => h) (Or.inl ⟨by rfl, ?_⟩) (by assumption) ?_; rotate_left
    · (intro w hSw; (try dsimp only at hSw); go_simp; try with_reducible rfl)
    try simp only [Act.put, zl, z0, z1]
    refine wpAnyT_ready (rs := [12]) (by kernel_rfl) (by simp) ?_
    refine lastT rfl (fun K hK => ?_)
    (try dsimp only at hD6)
    go_simp
    refine hK.out _ _ ?_
    clear hK K
    try simp only [Act.put, zl, z0, z1]
    refine wpAnyT_done (by kernel_rfl) ?_ _
    all_goals
      have hB58 := HB58.out
      replace hx0 := (hB58.block w.heap.size (by omega)).trans hx0
      replace hx2 := (hB58.block (w.heap.size + 1 + 1) (by omega)).trans hx2
      replace hxg := (hB58.block qg (by omega)).trans hxg
      have hq58 := hB58.size
      have hqb : base ≤ w13.heap.size := Nat.le_trans hbase HB1.out.size
      replace HR1 := hide (HR1.out.below hB58)
      replace HB1 := hide (HB1.out.trans (hB58.mono HB1.out.size))
      replace hq1 : w.heap.size + 1 + 1 < w8.heap.size := by omega
      replace hqg : qg < w8.heap.size := by omega
      replace hx1 := hy1
      have hrow : w8.ownsRow base 32 2 (.slice A9 (ns + 1) c9) ({ m with log := m.log ++ [M.rgame m (M.plus m.pts side) win], sets := m.sets ++ [M.plus m.games win] } : M.Mt).sets.length (flatP ({ m with log := m.log ++ [M.rgame m (M.plus m.pts side) win], sets := m.sets ++ [M.plus m.games win] } : M.Mt).sets) := by
        have h8 := owns_mono HOWN8.out hqb
        show w8.ownsRow base 32 2 (.slice A9 (ns + 1) c9) (m.sets ++ [M.plus m.games win]).length (flatP (m.sets ++ [M.plus m.games win]))
        rw [flatP_app, List.length_append, HNS.out]
        exact h8
      replace HR1 := hide (show RAt w8 base { m with log := m.log ++ [M.rgame m (M.plus m.pts side) win], sets := m.sets ++ [M.plus m.games win] } (.slice A9 (ns + 1) c9) (.slice A8 (n + 1) c8) from ⟨hrow, HR1.out.g⟩)
      clear hrow hown hown8 hgrow hgrow8 hb3 hz3 hz8 hc hB58 hq58 hqb hy1 hfr8 HOWN8 HB58 c1 cp
      (try clear hD0)
      (try clear hD1)
      (try clear hD2)
      (try clear hD3)
      (try clear hD4)
      (try clear hD5)
      have hc0 : True := trivial
      have hc1 : True := trivial
      have hfz : True := trivial
      have hcg : True := trivial
      have hyR := (HR1.out.set hx1 0 (.slice A9 (ns + 1) c9))
      have hy1 : (_ : Option Obj) = some (.cells #[.slice A9 (ns + 1) c9, .int .i64 (M.plus m.games win).A, .int .i64 (M.plus m.games win).B, .int .i64 0, .int .i64 0, .int .i64 m.server, .int .i64 m.ends, .int .i64 m.balls, .int .i64 m.winner, .int .i64 m.opens, .slice A8 (n + 1) c8, .bool m.fresh] 79 (0, 0)) := (blk_set hx1 0 (.slice A9 (ns + 1) c9))
      have hy0 := ((heap_setCell_other _ ⟨w.heap.size + 1, 0, none⟩ w.heap.size (.slice A9 (ns + 1) c9) (by simp)).trans hx0)
      have hy2 := ((heap_setCell_other _ ⟨w.heap.size + 1, 0, none⟩ (w.heap.size + 1 + 1) (.slice A9 (ns + 1) c9) (by simp)).trans hx2)
      have hyB := (HB1.out.setCell (p := ⟨w.heap.size + 1, 0, none⟩) (by simp) (.slice A9 (ns + 1) c9))
      have hyp := ((heap_setCell_other _ ⟨w.heap.size + 1, 0, none⟩ qg (.slice A9 (ns + 1) c9) (by simp; omega)).trans hxg)
      have hyq : w.heap.size + 1 + 1 < (World.setCell w8 ⟨w.heap.size + 1, 0, none⟩ (.slice A9 (ns + 1) c9)).heap.size := by simp [World.setCell]; omega
      have hyqp : qg < (World.setCell w8 ⟨w.heap.size + 1, 0, none⟩ (.slice A9 (ns + 1) c9)).heap.size := by simp [World.setCell]; omega
      generalize (World.setCell w8 ⟨w.heap.size + 1, 0, none⟩ (.slice A9 (ns + 1) c9)) = w14 at hyR hy1 hy0 hy2 hyB hyq hyp hyqp ⊢
      clear hx0 hx1 hx2 hq1 hc0 hc1 hfz HR1 HB1 hxg hqg hcg
      have hx0 := hy0
      have hx1 := hy1
      have hx2 := hy2
      have hq1 := hyq
      have HR1 := hide hyR
      have HB1 := hide hyB
      have hxg := hyp
      have hqg := hyqp
      have hcg := fun i => cell_of_row w14 qg i _ _ _ hxg
      clear hyR hy0 hy1 hy2 hyB hyq hyp hyqp
      have hc0 := fun i => cell_of_row w14 w.heap.size i _ _ _ hx0
      have hc1 := fun i => cell_of_row w14 (w.heap.size + 1) i _ _ _ hx1
      have hfz := fun i => frozen_of_row w14 (w.heap.size + 1) i _ _ hx1
      go_upto_region 19 with fail
      have hyR := ((HR1.out.set hx1 1 (.int .i64 0)).set (blk_set hx1 1 (.int .i64 0)) 2 (.int .i64 0))
      have hy1 : (_ : Option Obj) = some (.cells #[.slice A9 (ns + 1) c9, .int .i64 0, .int .i64 0, .int .i64 0, .int .i64 0, .int .i64 m.server, .int .i64 m.ends, .int .i64 m.balls, .int .i64 m.winner, .int .i64 m.opens, .slice A8 (n + 1) c8, .bool m.fresh] 79 (0, 0)) := (blk_set (blk_set hx1 1 (.int .i64 0)) 2 (.int .i64 0))
      have hy0 := ((heap_setCell_other _ ⟨w.heap.size + 1, 2, none⟩ w.heap.size (.int .i64 0) (by simp)).trans ((heap_setCell_other _ ⟨w.heap.size + 1, 1, none⟩ w.heap.size (.int .i64 0) (by simp)).trans hx0))
      have hy2 := ((heap_setCell_other _ ⟨w.heap.size + 1, 2, none⟩ (w.heap.size + 1 + 1) (.int .i64 0) (by simp)).trans ((heap_setCell_other _ ⟨w.heap.size + 1, 1, none⟩ (w.heap.size + 1 + 1) (.int .i64 0) (by simp)).trans hx2))
      have hyB := ((HB1.out.setCell (p := ⟨w.heap.size + 1, 1, none⟩) (by simp) (.int .i64 0)).setCell (p := ⟨w.heap.size + 1, 2, none⟩) (by simp) (.int .i64 0))
      have hyp := ((heap_setCell_other _ ⟨w.heap.size + 1, 2, none⟩ qg (.int .i64 0) (by simp; omega)).trans ((heap_setCell_other _ ⟨w.heap.size + 1, 1, none⟩ qg (.int .i64 0) (by simp; omega)).trans hxg))
      have hyq : w.heap.size + 1 + 1 < (World.setCell (World.setCell w14 ⟨w.heap.size + 1, 1, none⟩ (.int .i64 0)) ⟨w.heap.size + 1, 2, none⟩ (.int .i64 0)).heap.size := by simp [World.setCell]; omega
      have hyqp : qg < (World.setCell (World.setCell w14 ⟨w.heap.size + 1, 1, none⟩ (.int .i64 0)) ⟨w.heap.size + 1, 2, none⟩ (.int .i64 0)).heap.size := by simp [World.setCell]; omega
      generalize (World.setCell (World.setCell w14 ⟨w.heap.size + 1, 1, none⟩ (.int .i64 0)) ⟨w.heap.size + 1, 2, none⟩ (.int .i64 0)) = w15 at hyR hy1 hy0 hy2 hyB hyq hyp hyqp ⊢
      clear hx0 hx1 hx2 hq1 hc0 hc1 hfz HR1 HB1 hxg hqg hcg
      have hx0 := hy0
      have hx1 := hy1
      have hx2 := hy2
      have hq1 := hyq
      have HR1 := hide hyR
      have HB1 := hide hyB
      have hxg := hyp
      have hqg := hyqp
      have hcg := fun i => cell_of_row w15 qg i _ _ _ hxg
      clear hyR hy0 hy1 hy2 hyB hyq hyp hyqp
      have hc0 := fun i => cell_of_row w15 w.heap.size i _ _ _ hx0
      have hc1 := fun i => cell_of_row w15 (w.heap.size + 1) i _ _ _ hx1
      have hfz := fun i => frozen_of_row w15 (w.heap.size + 1) i _ _ hx1
      go_upto_region 20 with (first | (go_at_call 31; refine (refWon_any A9 (ns + 1) c9 (m.sets ++ [M.plus m.games win]) _ (by simp; have := HNS.out; omega) (HR1.out.rd (by simp; have := HNS.out; omega)) (by omega)).mono ?_; rintro e w16 ⟨rfl, hb⟩; replace hx0 := (hb.block w.heap.size (by omega)).trans hx0; replace hx1 := (hb.block (w.heap.size + 1) (by omega)).trans hx1; replace hx2 := (hb.block (w.heap.size + 1 + 1) (by omega)).trans hx2; replace HB1 := hide (HB1.out.trans (hb.mono HB1.out.size)); replace HR1 := hide (HR1.out.below hb); replace hxg := (hb.block qg (by omega)).trans hxg; replace hqg : qg < w16.heap.size := Nat.lt_of_lt_of_le hqg hb.size; replace hcg := fun i => cell_of_row w16 qg i _ _ _ hxg; replace hq1 : w.heap.size + 1 + 1 < w16.heap.size := Nat.lt_of_lt_of_le hq1 hb.size; replace hc0 := fun i => cell_of_row w16 w.heap.size i _ _ _ hx0; replace hc1 := fun i => cell_of_row w16 (w.heap.size + 1) i _ _ _ hx1; replace hfz := fun i => frozen_of_row w16 (w.heap.size + 1) i _ _ hx1; clear hb))
      have hyp := heap_alloc_new w16 (.cells #[.int .i64 (M.wonR M.zero (m.sets ++ [M.plus m.games win])).A, .int .i64 (M.wonR M.zero (m.sets ++ [M.plus m.games win])).B] 32 (0, 0))
      have hy0 := (heap_alloc_old w16 (.cells #[.int .i64 (M.wonR M.zero (m.sets ++ [M.plus m.games win])).A, .int .i64 (M.wonR M.zero (m.sets ++ [M.plus m.games win])).B] 32 (0, 0)) (show w.heap.size < w16.heap.size by omega)).trans hx0
      have hy1 := (heap_alloc_old w16 (.cells #[.int .i64 (M.wonR M.zero (m.sets ++ [M.plus m.games win])).A, .int .i64 (M.wonR M.zero (m.sets ++ [M.plus m.games win])).B] 32 (0, 0)) (show w.heap.size + 1 < w16.heap.size by omega)).trans hx1
      have hy2 := (heap_alloc_old w16 (.cells #[.int .i64 (M.wonR M.zero (m.sets ++ [M.plus m.games win])).A, .int .i64 (M.wonR M.zero (m.sets ++ [M.plus m.games win])).B] 32 (0, 0)) (show w.heap.size + 1 + 1 < w16.heap.size by omega)).trans hx2
      have hyg := (heap_alloc_old w16 (.cells #[.int .i64 (M.wonR M.zero (m.sets ++ [M.plus m.games win])).A, .int .i64 (M.wonR M.zero (m.sets ++ [M.plus m.games win])).B] 32 (0, 0)) (show qg < w16.heap.size by omega)).trans hxg
      have hyR := HR1.out.alloc (.cells #[.int .i64 (M.wonR M.zero (m.sets ++ [M.plus m.games win])).A, .int .i64 (M.wonR M.zero (m.sets ++ [M.plus m.games win])).B] 32 (0, 0))
      have hyB := HB1.out.alloc HB1.out.size (.cells #[.int .i64 (M.wonR M.zero (m.sets ++ [M.plus m.games win])).A, .int .i64 (M.wonR M.zero (m.sets ++ [M.plus m.games win])).B] 32 (0, 0))
      have hyq : w.heap.size + 1 + 1 < (w16.alloc (.cells #[.int .i64 (M.wonR M.zero (m.sets ++ [M.plus m.games win])).A, .int .i64 (M.wonR M.zero (m.sets ++ [M.plus m.games win])).B] 32 (0, 0))).heap.size := by simp; omega
      have hyqg : qg < (w16.alloc (.cells #[.int .i64 (M.wonR M.zero (m.sets ++ [M.plus m.games win])).A, .int .i64 (M.wonR M.zero (m.sets ++ [M.plus m.games win])).B] 32 (0, 0))).heap.size := by simp; omega
      have hcw := fun i => cell_of_row (w16.alloc (.cells #[.int .i64 (M.wonR M.zero (m.sets ++ [M.plus m.games win])).A, .int .i64 (M.wonR M.zero (m.sets ++ [M.plus m.games win])).B] 32 (0, 0))) w16.heap.size i _ _ _ hyp
      clear hyp
      generalize (w16.alloc (.cells #[.int .i64 (M.wonR M.zero (m.sets ++ [M.plus m.games win])).A, .int .i64 (M.wonR M.zero (m.sets ++ [M.plus m.games win])).B] 32 (0, 0))) = w17 at hcw hy0 hy1 hy2 hyg hyR hyB hyq hyqg ⊢
      clear hx0 hx1 hx2 hxg hq1 hqg hc0 hc1 hfz hcg HR1 HB1
      generalize w16.heap.size = qw at hcw ⊢
      have hx0 := hy0
      have hx1 := hy1
      have hx2 := hy2
      have hxg := hyg
      have hq1 := hyq
      have hqg := hyqg
      have HR1 := hide hyR
      have HB1 := hide hyB
      clear hy0 hy1 hy2 hyg hyR hyB hyq hyqg
      have hc0 := fun i => cell_of_row w17 w.heap.size i _ _ _ hx0
      have hc1 := fun i => cell_of_row w17 (w.heap.size + 1) i _ _ _ hx1
      have hfz := fun i => frozen_of_row w17 (w.heap.size + 1) i _ _ hx1
      have hcg := fun i => cell_of_row w17 qg i _ _ _ hxg
      by_cases hwon : (M.wonR M.zero (m.sets ++ [M.plus m.games win])).A = m.f.sets ∨ (M.wonR M.zero (m.sets ++ [M.plus m.games win])).B = m.f.sets
      · have HRP := hide ((M.rpoint_over HW.out (Int.not_lt.2 HW0.out)).trans ((M.rover_set (.inl hti)).trans (M.rset_won hwon)))
        have hwd : ((M.wonR M.zero (m.sets ++ [M.plus m.games win])).A == m.f.sets) = true ∨ (((M.wonR M.zero (m.sets ++ [M.plus m.games win])).A == m.f.sets) = false ∧ ((M.wonR M.zero (m.sets ++ [M.plus m.games win])).B == m.f.sets) = true) := by
          simp only [beq_iff_eq, beq_eq_false_iff_ne]
          omega
        clear hwon
        rcases hwd with hwA | ⟨hwA, hwB⟩
        all_goals
          go_upto_region 22 with fail
          have hyR := (HR1.out.set hx1 8 (.int .i64 win))
          have hy1 : (_ : Option Obj) = some (.cells #[.slice A9 (ns + 1) c9, .int .i64 0, .int .i64 0, .int .i64 0, .int .i64 0, .int .i64 m.server, .int .i64 m.ends, .int .i64 m.balls, .int .i64 win, .int .i64 m.opens, .slice A8 (n + 1) c8, .bool m.fresh] 79 (0, 0)) := (blk_set hx1 8 (.int .i64 win))
          have hy0 := ((heap_setCell_other _ ⟨w.heap.size + 1, 8, none⟩ w.heap.size (.int .i64 win) (by simp)).trans hx0)
          have hy2 := ((heap_setCell_other _ ⟨w.heap.size + 1, 8, none⟩ (w.heap.size + 1 + 1) (.int .i64 win) (by simp)).trans hx2)
          have hyB := (HB1.out.setCell (p := ⟨w.heap.size + 1, 8, none⟩) (by simp) (.int .i64 win))
          have hyp := ((heap_setCell_other _ ⟨w.heap.size + 1, 8, none⟩ qg (.int .i64 win) (by simp; omega)).trans hxg)
          have hyq : w.heap.size + 1 + 1 < (World.setCell w17 ⟨w.heap.size + 1, 8, none⟩ (.int .i64 win)).heap.size := by simp [World.setCell]; omega
          have hyqp : qg < (World.setCell w17 ⟨w.heap.size + 1, 8, none⟩ (.int .i64 win)).heap.size := by simp [World.setCell]; omega
          generalize (World.setCell w17 ⟨w.heap.size + 1, 8, none⟩ (.int .i64 win)) = w18 at hyR hy1 hy0 hy2 hyB hyq hyp hyqp ⊢
          clear hx0 hx1 hx2 hq1 hc0 hc1 hfz HR1 HB1 hxg hqg hcg
          have hx0 := hy0
          have hx1 := hy1
          have hx2 := hy2
          have hq1 := hyq
          have HR1 := hide hyR
          have HB1 := hide hyB
          have hxg := hyp
          have hqg := hyqp
          have hcg := fun i => cell_of_row w18 qg i _ _ _ hxg
          clear hyR hy0 hy1 hy2 hyB hyq hyp hyqp
          have hc0 := fun i => cell_of_row w18 w.heap.size i _ _ _ hx0
          have hc1 := fun i => cell_of_row w18 (w.heap.size + 1) i _ _ _ hx1
          have hfz := fun i => frozen_of_row w18 (w.heap.size + 1) i _ _ hx1
          go_wp2_with (first | (refine wpList_load_row rfl 79 _ rfl (w.heap.size + 1) rfl 79 _ (0, 0) _ hx1 Try.underlying79 rfl matchRow75 ?_) | (refine wpList_store_row rfl 79 _ _ rfl (w.heap.size + 1 + 1) _ rfl rfl 79 _ hx2 matchRow75 rfl (by simp [Value.oneCell']) ?_))
          refine bodyPost_ret (results_row1 Try.results64 _ _ (w.heap.size + 1 + 1) _ _ _ _ rfl (setRow_heap _ _ _ _ _ _ hx2) Try.underlying79 rfl matchRow75) rfl ?_
          refine ⟨.slice A9 (ns + 1) c9, .slice A8 (n + 1) c8, by first | (rw [HRP.out]; done) | (rw [HRP.out]; rfl), ?_, ?_⟩
          · rw [HRP.out]; exact (HR1.out.setRow hx2).with rfl rfl
          · exact below_row HB1.out (by omega) _
      · have HWON := hide hwon
        have hwA : ((M.wonR M.zero (m.sets ++ [M.plus m.games win])).A == m.f.sets) = false := by simp only [beq_eq_false_iff_ne]; omega
        have hwB : ((M.wonR M.zero (m.sets ++ [M.plus m.games win])).B == m.f.sets) = false := by simp only [beq_eq_false_iff_ne]; omega
        go_upto_region 23 with fail
        clear hcw hwA hwB
        have hg0 := (hgg win).1
        have hg1 := (hgg win).2.1
        have hg2 := (hgg win).2.2.1
        have hg3 := (hgg win).2.2.2
        have hbal0 := hbal.1
        have hbal1 := hbal.2
        have he0 := hend.1
        have he1 := hend.2
        have hm2 : ((M.plus m.games win).A + (M.plus m.games win).B).tmod 2 = ((M.plus m.games win).A + (M.plus m.games win).B) % 2 := Int.tmod_eq_emod_of_nonneg (by omega)
        by_cases hod : ((M.plus m.games win).A + (M.plus m.games win).B) % 2 = 1
        · have hob : (((M.plus m.games win).A + (M.plus m.games win).B) % 2 == 1) = true := by simpa using hod
          go_upto_region 25 with fail
          have hyR := (HR1.out.set hx1 6 (.int .i64 (m.ends + 1)))
          have hy1 : (_ : Option Obj) = some (.cells #[.slice A9 (ns + 1) c9, .int .i64 0, .int .i64 0, .int .i64 0, .int .i64 0, .int .i64 m.server, .int .i64 (m.ends + 1), .int .i64 m.balls, .int .i64 m.winner, .int .i64 m.opens, .slice A8 (n + 1) c8, .bool m.fresh] 79 (0, 0)) := (blk_set hx1 6 (.int .i64 (m.ends + 1)))
          have hy0 := ((heap_setCell_other _ ⟨w.heap.size + 1, 6, none⟩ w.heap.size (.int .i64 (m.ends + 1)) (by simp)).trans hx0)
          have hy2 := ((heap_setCell_other _ ⟨w.heap.size + 1, 6, none⟩ (w.heap.size + 1 + 1) (.int .i64 (m.ends + 1)) (by simp)).trans hx2)
          have hyB := (HB1.out.setCell (p := ⟨w.heap.size + 1, 6, none⟩) (by simp) (.int .i64 (m.ends + 1)))
          have hyp := ((heap_setCell_other _ ⟨w.heap.size + 1, 6, none⟩ qg (.int .i64 (m.ends + 1)) (by simp; omega)).trans hxg)
          have hyq : w.heap.size + 1 + 1 < (World.setCell w17 ⟨w.heap.size + 1, 6, none⟩ (.int .i64 (m.ends + 1))).heap.size := by simp [World.setCell]; omega
          have hyqp : qg < (World.setCell w17 ⟨w.heap.size + 1, 6, none⟩ (.int .i64 (m.ends + 1))).heap.size := by simp [World.setCell]; omega
          generalize (World.setCell w17 ⟨w.heap.size + 1, 6, none⟩ (.int .i64 (m.ends + 1))) = w20 at hyR hy1 hy0 hy2 hyB hyq hyp hyqp ⊢
          clear hx0 hx1 hx2 hq1 hc0 hc1 hfz HR1 HB1 hxg hqg hcg
          have hx0 := hy0
          have hx1 := hy1
          have hx2 := hy2
          have hq1 := hyq
          have HR1 := hide hyR
          have HB1 := hide hyB
          have hxg := hyp
          have hqg := hyqp
          have hcg := fun i => cell_of_row w20 qg i _ _ _ hxg
          clear hyR hy0 hy1 hy2 hyB hyq hyp hyqp
          have hc0 := fun i => cell_of_row w20 w.heap.size i _ _ _ hx0
          have hc1 := fun i => cell_of_row w20 (w.heap.size + 1) i _ _ _ hx1
          have hfz := fun i => frozen_of_row w20 (w.heap.size + 1) i _ _ hx1

          have HRP := hide (((M.rpoint_over HW.out (Int.not_lt.2 HW0.out)).trans ((M.rover_set (.inl hti)).trans ((M.rset_go (m := { m with pts := M.zero, log := m.log ++ [M.rgame m (M.plus m.pts side) win] }) (win := win) HWON.out).trans (congrArg M.rbegin (M.rodd_yes hod))))))
          go_wp2_with (first | (refine wpList_load_row rfl 79 _ rfl (w.heap.size + 1) rfl 79 _ (0, 0) _ hx1 Try.underlying79 rfl matchRow75 ?_) | (go_at_call 80; refine (refbegin_any (m := ({ m with pts := M.zero, log := m.log ++ [M.rgame m (M.plus m.pts side) win], sets := m.sets ++ [M.plus m.games win], games := M.zero, ends := m.ends + 1 } : M.Mt)) (base := base) (sv := .slice A9 (ns + 1) c9) (gv := .slice A8 (n + 1) c8) (HR1.out.with rfl rfl) HV.out (by have := HN.out; simp; omega) (by have := HNS.out; simp; omega) ⟨hbal0, by show m.balls ≤ _; omega⟩).mono ?_; rintro e wE ⟨rfl, hb⟩; replace hx2 := (hb.block (w.heap.size + 1 + 1) (by omega)).trans hx2; replace HB1 := hide (HB1.out.trans (hb.mono HB1.out.size)); replace HR1 := hide (HR1.out.below hb); clear hx0 hx1 hc0 hc1 hfz) | (refine wpList_store_row rfl 79 _ _ rfl (w.heap.size + 1 + 1) _ rfl rfl 79 _ hx2 matchRow75 rfl (by simp [Value.oneCell']) ?_))
          refine bodyPost_ret (results_row1 Try.results64 _ _ (w.heap.size + 1 + 1) _ _ _ _ rfl (setRow_heap _ _ _ _ _ _ hx2) Try.underlying79 rfl matchRow75) rfl ?_
          refine ⟨.slice A9 (ns + 1) c9, .slice A8 (n + 1) c8, by first | (rw [HRP.out]; done) | (rw [HRP.out]; rfl), ?_, ?_⟩
          · rw [HRP.out]; exact (HR1.out.setRow hx2).with rfl rfl
          · exact below_row HB1.out (by omega) _
        · have hob : (((M.plus m.games win).A + (M.plus m.games win).B) % 2 == 1) = false := by simpa using hod
          have HRP := hide (((M.rpoint_over HW.out (Int.not_lt.2 HW0.out)).trans ((M.rover_set (.inl hti)).trans ((M.rset_go (m := { m with pts := M.zero, log := m.log ++ [M.rgame m (M.plus m.pts side) win] }) (win := win) HWON.out).trans (congrArg M.rbegin (M.rodd_no hod))))))
          go_wp2_with (first | (refine wpList_load_row rfl 79 _ rfl (w.heap.size + 1) rfl 79 _ (0, 0) _ hx1 Try.underlying79 rfl matchRow75 ?_) | (go_at_call 80; refine (refbegin_any (m := ({ m with pts := M.zero, log := m.log ++ [M.rgame m (M.plus m.pts side) win], sets := m.sets ++ [M.plus m.games win], games := M.zero } : M.Mt)) (base := base) (sv := .slice A9 (ns + 1) c9) (gv := .slice A8 (n + 1) c8) (HR1.out.with rfl rfl) HV.out (by have := HN.out; simp; omega) (by have := HNS.out; simp; omega) ⟨hbal0, by show m.balls ≤ _; omega⟩).mono ?_; rintro e wE ⟨rfl, hb⟩; replace hx2 := (hb.block (w.heap.size + 1 + 1) (by omega)).trans hx2; replace HB1 := hide (HB1.out.trans (hb.mono HB1.out.size)); replace HR1 := hide (HR1.out.below hb); clear hx0 hx1 hc0 hc1 hfz) | (refine wpList_store_row rfl 79 _ _ rfl (w.heap.size + 1 + 1) _ rfl rfl 79 _ hx2 matchRow75 rfl (by simp [Value.oneCell']) ?_))
          refine bodyPost_ret (results_row1 Try.results64 _ _ (w.heap.size + 1 + 1) _ _ _ _ rfl (setRow_heap _ _ _ _ _ _ hx2) Try.underlying79 rfl matchRow75) rfl ?_
          refine ⟨.slice A9 (ns + 1) c9, .slice A8 (n + 1) c8, by first | (rw [HRP.out]; done) | (rw [HRP.out]; rfl), ?_, ?_⟩
          · rw [HRP.out]; exact (HR1.out.setRow hx2).with rfl rfl
          · exact below_row HB1.out (by omega) _

end Go.Proofs.Ytoaogpipogeamaa
