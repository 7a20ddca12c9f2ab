/-
  Part of a claim's texts: contracts of the program's functions and the plain functions that they compute, in build order.
-/
import Derived.Deep.Cut
import Derived.Deep.CutRange
import Derived.Test.YtmhaapghiecfcaaZB09
namespace Go.Proofs.Ytmhaapghiecfcaa
open Go.RowKit
attribute [local go_sem ↓] Go.wp_at_zero Go.wp_at_succ

theorem ofSet_games2 (f : M.Fm) (won : M.Pr) : f.games = (M.ofSet f won).games := by unfold M.ofSet; split <;> rfl
set_option maxHeartbeats 12800000 in
set_option maxRecDepth 100000 in
theorem costs_of (f : M.Fm) (hv : M.Valid f) (k : Nat) (h : FromP f k) : CostsP f k := by
  intro m t w h0 h1 h2 h3 h4
  have HVS_ := hide (hv.ofSet ⟨m, t⟩)
  have HRU := hide (ofSet_rule f ⟨m, t⟩)
  have HGM_ := hide (ofSet_games2 f ⟨m, t⟩)
  have HW := fun W => hide (h (m + 1) t W (by omega) (by omega) h2 (by omega) (.inr h3) (by omega))
  have HL := fun W => hide (h m (t + 1) W h0 (by omega) (by omega) (by omega) (.inl h1) (by omega))
  have HBD := hide (And.intro (M.fromR_bd hv k (m + 1) t) (M.fromR_bd hv k m (t + 1)))
  obtain ⟨wn, hwn⟩ : ∃ q, M.fromR f 1000000 44 88 k (m + 1) t = q := ⟨_, rfl⟩
  obtain ⟨ls, hls⟩ : ∃ q, M.fromR f 1000000 44 88 k m (t + 1) = q := ⟨_, rfl⟩
  rw [hwn] at HW HBD ⊢
  rw [hls] at HL HBD ⊢
  clear hwn hls h h4
  have hs0 := hv.s0
  have hs1 := hv.s1
  obtain ⟨s, hs⟩ : ∃ q, M.ofSet f ⟨m, t⟩ = q := ⟨_, rfl⟩
  rw [hs] at HVS_ HRU HGM_ ⊢
  clear hs hv
  obtain ⟨ti, hti⟩ : ∃ q, s.tie = q := ⟨_, rfl⟩
  obtain ⟨tto, htto⟩ : ∃ q, s.to = q := ⟨_, rfl⟩
  have HTS := hide hti
  have HTT := hide htto
  rw [hti, htto] at HRU
  clear hti htto
  obtain ⟨la, hla⟩ : ∃ q, M.lastB f ⟨m, t⟩ = q := ⟨_, rfl⟩
  have HLA := hide hla
  rw [hla] at HRU
  clear hla
  go_enter Try.func49, Try.ntmps49
  go_upto_region 1 with fail
  obtain ⟨w0, hw0⟩ : ∃ q, w.alloc (.cells #[.int .i64 f.sets, .int .i64 f.games, .bool f.noAd, .int .i64 f.tie, .int .i64 f.to, .int .i64 f.lastTie, .int .i64 f.lastTo, .int .i64 f.first, .int .i64 f.next, .bool f.doubles] 23) = q := ⟨_, rfl⟩
  have HB0 := hide (show Below w.heap.size w w0 by rw [← hw0]; exact zbA (zbR _ _) (Nat.le_refl _) _)
  have HF0 := hide (show w0.heap[w.heap.size]? = some (.cells #[.int .i64 f.sets, .int .i64 f.games, .bool f.noAd, .int .i64 f.tie, .int .i64 f.to, .int .i64 f.lastTie, .int .i64 f.lastTo, .int .i64 f.first, .int .i64 f.next, .bool f.doubles] 23 (0, 0)) by rw [← hw0]; exact heap_alloc_new _ _)
  rw [hw0]
  clear hw0
  go_cut [7, 8] from 21 to 37 (fun v7 v8 wx => v7 = .int .i64 ti ∧ v8 = .int .i64 tto ∧ Hid (Below w0.heap.size w0 wx))
  case first =>
    have yf0 : w0.cell? ⟨w.heap.size, 0, none⟩ = some (.int .i64 f.sets) := (blk_cell HF0.out 0).trans rfl
    have yf1 : w0.cell? ⟨w.heap.size, 1, none⟩ = some (.int .i64 f.games) := (blk_cell HF0.out 1).trans rfl
    have yf2 : w0.cell? ⟨w.heap.size, 2, none⟩ = some (.bool f.noAd) := (blk_cell HF0.out 2).trans rfl
    have yf3 : w0.cell? ⟨w.heap.size, 3, none⟩ = some (.int .i64 f.tie) := (blk_cell HF0.out 3).trans rfl
    have yf4 : w0.cell? ⟨w.heap.size, 4, none⟩ = some (.int .i64 f.to) := (blk_cell HF0.out 4).trans rfl
    have yf5 : w0.cell? ⟨w.heap.size, 5, none⟩ = some (.int .i64 f.lastTie) := (blk_cell HF0.out 5).trans rfl
    have yf6 : w0.cell? ⟨w.heap.size, 6, none⟩ = some (.int .i64 f.lastTo) := (blk_cell HF0.out 6).trans rfl
    have yf7 : w0.cell? ⟨w.heap.size, 7, none⟩ = some (.int .i64 f.first) := (blk_cell HF0.out 7).trans rfl
    have yf8 : w0.cell? ⟨w.heap.size, 8, none⟩ = some (.int .i64 f.next) := (blk_cell HF0.out 8).trans rfl
    have yf9 : w0.cell? ⟨w.heap.size, 9, none⟩ = some (.bool f.doubles) := (blk_cell HF0.out 9).trans rfl
    have lyf := blk_lt HF0.out
    have hw1 : IntKind.i64.wrap (f.sets - 1) = f.sets - 1 := IntWalk.i64_in _ (by omega)
    obtain ⟨e1, he1⟩ : ∃ q, (m == f.sets - 1) = q := ⟨_, rfl⟩
    obtain ⟨e2, he2⟩ : ∃ q, (t == f.sets - 1) = q := ⟨_, rfl⟩
    have HEE := hide (show la = (e1 && e2) by rw [← he1, ← he2, ← HLA.out]; rfl)
    cases e1 <;> cases e2
    all_goals
      have hee : la = _ := HEE.out
      simp only [Bool.and_true, Bool.and_false, Bool.true_and, Bool.false_and] at hee
      subst hee
      go_wp2_with (go_at_call 29; refine (refRule_any f _ w0).mono ?_; rintro e wb ⟨rfl, hb1⟩; rw [HRU.out.1, HRU.out.2]; have HB1 := hide hb1; clear hb1)
      go_meet
      case rel => exact ⟨rfl, rfl, HB1⟩
  case rest =>
    obtain ⟨rfl, rfl, HB1⟩ := hcut
    rename World => wb
    have HF1 := hide ((HB1.out.block _ (blk_lt HF0.out)).trans HF0.out)
    have HBW1 := hide (zbT HB0.out HB1.out HB0.out.size)
    clear HF0 HRU HLA HB1 HB0
    have hmk : ∀ W : World, (Instr.makeSlice 90 (.int .i64 45) (.int .i64 45)).run Try.prog W = .ok (.slice (some ⟨W.heap.size, 0, none⟩) 45 45) (W.alloc (.cells (rowsC (fun _ => 0) 0) 24)) := fun _ => by kernel_rfl
    go_upto_region 3 with fail
    clear hmk
    refine cap_w (M := Code.wp _ _ _ _) _ (fun W0 hW0 => ?_)
    have HCR := hide (show CR wb W0 wb.heap.size 0 (fun _ => 0) from ⟨by rw [hW0]; exact zbA (zbR _ _) (Nat.le_refl _) _, Nat.le_refl _, by rw [hW0]; exact (heap_alloc_new _ _).trans (by kernel_rfl), NRows.zero _ _ _ _, fun i hi => by omega⟩)
    clear hW0
    obtain ⟨g, hg⟩ : ∃ q, wb.heap.size = q := ⟨_, rfl⟩
    rw [show (CR wb W0 wb.heap.size 0 (fun _ => 0)) = (CR wb W0 g 0 (fun _ => 0)) by rw [hg]] at HCR
    rw [hg]
    have HGB := hide hg
    clear hg
    go_wp2_with fail
    go_loopw [10, 11] (fun v10 v11 wr => ∃ (a : Nat) (bo : Nat → Nat), a ≤ 45 ∧ v10 = .int .i64 a ∧ Hid (CR wb wr g a bo)) (fun v10 _ _ => 45 - (intOf v10).toNat)
    case atStart => exact ⟨0, _, by omega, rfl, HCR⟩
    case round =>
      clear HCR
      obtain ⟨a, bo, ha, rfl, HCR⟩ := hrel
      have ha0 : (0 : Int) ≤ (a : Int) := by omega
      by_cases ha45 : a < 45
      · have ha44 : (a : Int) ≤ 44 := by omega
        have ha45' : (a : Int) < 45 := by omega
        have g0 : wr.cell? ⟨g, a, none⟩ = some (.slice none 0 0) := by rw [blk_cell HCR.out.gh, rowsC_get _ _ ha45, if_neg (by omega)]
        have g1 := blk_frozen HCR.out.gh a
        have g2 := blk_lt HCR.out.gh
        have hmk : ∀ W : World, (Instr.makeSlice 24 (.int .i64 45) (.int .i64 45)).run Try.prog W = .ok (.slice (some ⟨W.heap.size, 0, none⟩) 45 45) (W.alloc (.cells (rowC (fun _ => 0)) 3)) := fun _ => by kernel_rfl
        go_upto_region 7 with fail
        clear hmk
        refine cap_w (M := Code.wp _ _ _ _) _ (fun W2 hW2 => ?_)
        have HFR := hide (HCR.out.fr ha45 rfl hW2)
        clear hW2 g0 g1 g2
        obtain ⟨q, hq⟩ : ∃ q, wr.heap.size = q := ⟨_, rfl⟩
        rw [hq] at HFR
        (try rw [hq])
        clear hq
        go_wp2_with fail
        go_loopw [11] (fun v11 wx => ∃ l : Nat, l ≤ 45 ∧ v11 = .int .i64 l ∧ Hid (FR wb wx g a bo q l)) (fun v11 _ => 45 - (intOf v11).toNat)
        case atStart => exact ⟨0, by omega, rfl, HFR⟩
        case round =>
          clear HFR
          obtain ⟨l, hl, rfl, HFR⟩ := hrel
          have hl0 : (0 : Int) ≤ (l : Int) := by omega
          by_cases hl45 : l < 45
          · have hl44 : (l : Int) ≤ 44 := by omega
            have hl45' : (l : Int) < 45 := by omega
            have g0 := HFR.out.cell ha45
            have g1 : World.cell? _ ⟨q, l, none⟩ = some (.int .i64 (if l < l then 1000000 else 0)) := (blk_cell HFR.out.qh l).trans (rowC_get _ hl45)
            have g2 := blk_frozen HFR.out.qh l
            have g3 := blk_lt HFR.out.qh
            have g4 := blk_lt HFR.out.gh
            go_wp2_with fail
            go_roundw
            case rel => exact ⟨l + 1, by omega, by go_num, hide HFR.out.step⟩
            case measure => first | (simp [intOf]; done) | (simp [intOf]; omega)
          · have hle : l = 45 := by omega
            subst hle
            have HCR2 := hide HFR.out.fin
            go_wp2_with fail
            go_roundw
            case rel => exact ⟨a + 1, _, by omega, by go_num, HCR2⟩
            case measure => first | (simp [intOf]; done) | (simp [intOf]; omega)
      · have HAE := hide (show a = 45 by omega)
        have hag : ¬ (a : Int) ≤ 44 := by omega
        have HCR5 := hide (show CR wb wr g 45 bo by have h := HCR.out; rwa [HAE.out] at h)
        have HTAB := hide (Tab.congr (U := M.costAt s wn ls 86 43) HCR5.out.tab (fun i j hi hj => (M.costAt_top (by omega) i j (by omega) (by omega)).symm))
        have HBR := hide HCR5.out.below
        clear HCR HCR5 ha ha0 ha45
        go_upto_region 11 with fail
        rename World => w1
        have HFW := hide ((HBR.out.block _ (blk_lt HF1.out)).trans HF1.out)
        have yw0 : w1.cell? ⟨w.heap.size, 0, none⟩ = some (.int .i64 f.sets) := (blk_cell HFW.out 0).trans rfl
        have yw1 : w1.cell? ⟨w.heap.size, 1, none⟩ = some (.int .i64 f.games) := (blk_cell HFW.out 1).trans rfl
        have yw2 : w1.cell? ⟨w.heap.size, 2, none⟩ = some (.bool f.noAd) := (blk_cell HFW.out 2).trans rfl
        have yw3 : w1.cell? ⟨w.heap.size, 3, none⟩ = some (.int .i64 f.tie) := (blk_cell HFW.out 3).trans rfl
        have yw4 : w1.cell? ⟨w.heap.size, 4, none⟩ = some (.int .i64 f.to) := (blk_cell HFW.out 4).trans rfl
        have yw5 : w1.cell? ⟨w.heap.size, 5, none⟩ = some (.int .i64 f.lastTie) := (blk_cell HFW.out 5).trans rfl
        have yw6 : w1.cell? ⟨w.heap.size, 6, none⟩ = some (.int .i64 f.lastTo) := (blk_cell HFW.out 6).trans rfl
        have yw7 : w1.cell? ⟨w.heap.size, 7, none⟩ = some (.int .i64 f.first) := (blk_cell HFW.out 7).trans rfl
        have yw8 : w1.cell? ⟨w.heap.size, 8, none⟩ = some (.int .i64 f.next) := (blk_cell HFW.out 8).trans rfl
        have yw9 : w1.cell? ⟨w.heap.size, 9, none⟩ = some (.bool f.doubles) := (blk_cell HFW.out 9).trans rfl
        have lyw := blk_lt HFW.out
        have hmw1 : IntKind.i64.wrap (m + 1) = m + 1 := IntWalk.i64_in _ (by omega)
        have hmw2 : IntKind.i64.wrap (t + 1) = t + 1 := IntWalk.i64_in _ (by omega)
        go_cut [12, 13] from 57 to 66 (fun v12 v13 wx => v12 = .int .i64 wn ∧ v13 = .int .i64 ls ∧ Hid (Below w1.heap.size w1 wx))
        case first =>
          refine wp_region_held_drew (S := (fun w' => Below w1.heap.size w1 w' ∧ w.heap.size < w'.heap.size ∧ w'.cell? ⟨w.heap.size, 0, none⟩ = some (.int .i64 f.sets) ∧ w'.cell? ⟨w.heap.size, 1, none⟩ = some (.int .i64 f.games) ∧ w'.cell? ⟨w.heap.size, 2, none⟩ = some (.bool f.noAd) ∧ w'.cell? ⟨w.heap.size, 3, none⟩ = some (.int .i64 f.tie) ∧ w'.cell? ⟨w.heap.size, 4, none⟩ = some (.int .i64 f.to) ∧ w'.cell? ⟨w.heap.size, 5, none⟩ = some (.int .i64 f.lastTie) ∧ w'.cell? ⟨w.heap.size, 6, none⟩ = some (.int .i64 f.lastTo) ∧ w'.cell? ⟨w.heap.size, 7, none⟩ = some (.int .i64 f.first) ∧ w'.cell? ⟨w.heap.size, 8, none⟩ = some (.int .i64 f.next) ∧ w'.cell? ⟨w.heap.size, 9, none⟩ = some (.bool f.doubles))) (by kernel_rfl) ?_ (fun hD0 => ?_)
          · (try dsimp only); (exact kp)
          refine tW ?_ 0 rfl (by kernel_rfl) (fun _ _ _ h => h) (by rfl) (by assumption) ?_ ?_; rotate_left; (focus (intro w hSw; (try dsimp only at hSw); go_simp; try with_reducible rfl)); try simp only [Act.put, zl, z0, z1]
          refine tW ?_ 1 rfl (by kernel_rfl) (fun _ _ _ h => h) (by rfl) (by assumption) ?_ ?_; rotate_left; (focus (intro w hSw; (try dsimp only at hSw); go_simp; try with_reducible rfl)); try simp only [Act.put, zl, z0, z1]
          refine tW ?_ 2 rfl (by kernel_rfl) (fun _ _ _ h => h) (by rfl) (by assumption) ?_ ?_; rotate_left; (focus (intro w hSw; (try dsimp only at hSw); go_simp; try with_reducible rfl)); try simp only [Act.put, zl, z0, z1]
          refine tW ?_ 3 rfl (by kernel_rfl) (fun _ _ _ h => h) (by rfl) (by assumption) ?_ ?_; rotate_left; (focus (intro w hSw; (try dsimp only at hSw); go_simp; try with_reducible rfl)); try simp only [Act.put, zl, z0, z1]
          refine tW ?_ 5 rfl (by kernel_rfl) (fun _ _ _ h => h) (by rfl) (by assumption) ?_ ?_; rotate_left; (focus (intro w hSw; (try dsimp only at hSw); go_simp; try with_reducible rfl)); try simp only [Act.put, zl, z0, z1]
          refine tW ?_ 6 rfl (by kernel_rfl) (fun _ _ _ h => h) (by rfl) (by assumption) ?_ ?_; rotate_left; (focus (intro w hSw; (try dsimp only at hSw); go_simp; try with_reducible rfl)); try simp only [Act.put, zl, z0, z1]
          refine tW ?_ 7 rfl (by kernel_rfl) (fun _ _ _ h => h) (by rfl) (by assumption) ?_ ?_; rotate_left; (focus (intro w hSw; (try dsimp only at hSw); go_simp; try with_reducible rfl)); try simp only [Act.put, zl, z0, z1]
          refine tW ?_ 8 rfl (by kernel_rfl) (fun _ _ _ h => h) (by rfl) (by assumption) ?_ ?_; rotate_left; (focus (intro w hSw; (try dsimp only at hSw); go_simp; try with_reducible rfl)); try simp only [Act.put, zl, z0, z1]
          refine wpAnyH_ready (rs := [4]) (by kernel_rfl) (by simp) ?_; refine consL 4 rfl (fun K hK => ?_) AllReadyH.nil; go_simp
          ((go_at_call 53; first | (with_reducible refine (HW _).out.mono ?_; rintro e w2 ⟨rfl, hb⟩; obtain ⟨hc, hf⟩ := bcell hb; have hz := hb.size; (try simp at hz)) | (with_reducible refine (HL _).out.mono ?_; rintro e w3 ⟨rfl, hb⟩; obtain ⟨hc, hf⟩ := bcell hb; have hz := hb.size; (try simp at hz))))
          refine hK.out _ _ ?_ (fun hD1 => ?_)
          · (try dsimp only); (exact kp)
          clear hK K hD0; try simp only [Act.put, zl, z0, z1]
          refine wpAnyH_ready (rs := [9]) (by kernel_rfl) (by simp) ?_; refine consL 9 rfl (fun K hK => ?_) AllReadyH.nil; go_simp
          ((go_at_call 53; first | (with_reducible refine (HW _).out.mono ?_; rintro e w2 ⟨rfl, hb⟩; obtain ⟨hc, hf⟩ := bcell hb; have hz := hb.size; (try simp at hz)) | (with_reducible refine (HL _).out.mono ?_; rintro e w3 ⟨rfl, hb⟩; obtain ⟨hc, hf⟩ := bcell hb; have hz := hb.size; (try simp at hz))))
          refine hK.out _ _ ?_ (fun hD2 => ?_)
          · (try dsimp only); (exact kp)
          clear hK K hD1; try simp only [Act.put, zl, z0, z1]
          refine tW ?_ 10 rfl (by kernel_rfl) (fun _ _ _ h => h) (by rfl) (by assumption) ?_ ?_; rotate_left; (focus (intro w hSw; (try dsimp only at hSw); go_simp; try with_reducible rfl)); try simp only [Act.put, zl, z0, z1]
          refine tW ?_ 11 rfl (by kernel_rfl) (fun _ _ _ h => h) (by rfl) (by assumption) ?_ ?_; rotate_left; (focus (intro w hSw; (try dsimp only at hSw); go_simp; try with_reducible rfl)); try simp only [Act.put, zl, z0, z1]
          refine wpAnyH_done (by kernel_rfl) ?_ _
          all_goals
            go_wp2_with fail
            go_meet
            case rel => exact ⟨rfl, rfl, hide (by go_split_ands; assumption)⟩
        case rest =>
          clear yw0 yw1 yw2 yw3 yw4 yw5 yw6 yw7 yw8 yw9 lyw hmw1 hmw2
          obtain ⟨rfl, rfl, HB4⟩ := hcut
          rename World => w4
          have HT4 := hide (HTAB.out.below HB4.out)
          have HBT4 := hide (zbT HBR.out HB4.out HBR.out.size)
          clear HTAB HB4 HFW HBR HW HL
          go_wp2_with fail
          go_loopw [14, 15, 16, 17, 18, 19, 20] (fun v14 v15 v16 v17 v18 v19 v20 wr => ∃ (sm : Int) (a0 : Nat), -1 ≤ sm ∧ sm ≤ 86 ∧ v14 = .int .i64 sm ∧ Hid ((a0 : Int) = max 0 (sm - 43)) ∧ Hid (Tab wr wb.heap.size g bo 45 (M.costAt s wn ls sm a0)) ∧ Hid (Below wb.heap.size wb wr)) (fun v14 _ _ _ _ _ _ _ => (intOf v14 + 1).toNat)
          case atStart => exact ⟨86, 43, by omega, by omega, rfl, hide (by omega), HT4, HBT4⟩
          case round =>
            clear HT4 HBT4
            obtain ⟨sm, a0, hsm0, hsm1, rfl, HA0, HT, HBT⟩ := hrel
            by_cases hpos : 0 ≤ sm
            · obtain ⟨u, rfl⟩ : ∃ u : Nat, sm = (u : Int) := ⟨sm.toNat, by omega⟩
              obtain ⟨mn, hmn⟩ : ∃ q : Nat, min u 43 = q := ⟨_, rfl⟩
              have ha0e := HA0.out
              have hw1 : IntKind.i64.wrap ((u : Int) - 44) = (u : Int) - 44 := IntWalk.i64_in _ (by omega)
              have hw2 : IntKind.i64.wrap ((u : Int) - 44 + 1) = (u : Int) - 44 + 1 := IntWalk.i64_in _ (by omega)
              have hmx : (if (0 : Int) < (u : Int) - 44 + 1 then (u : Int) - 44 + 1 else 0) = (a0 : Int) := by split <;> omega
              have hmx2 : max (0 : Int) ((u : Int) - 44 + 1) = (a0 : Int) := by omega
              clear ha0e
              go_wp2_with fail
              clear hw1 hw2 hmx hmx2
              go_loopw [15, 16, 17, 18, 19, 20] (fun v15 v16 v17 v18 v19 v20 wx => ∃ a : Nat, a0 ≤ a ∧ a ≤ mn + 1 ∧ v15 = .int .i64 a ∧ Hid (Tab wx wb.heap.size g bo 45 (M.costAt s wn ls u a)) ∧ Hid (Below wb.heap.size wb wx)) (fun v15 _ _ _ _ _ _ => mn + 1 - (intOf v15).toNat)
              case atStart => exact ⟨a0, by omega, by (have := HA0.out; omega), rfl, HT, HBT⟩
              case round =>
                clear HT HBT
                obtain ⟨a, hal, hah, rfl, HT, HBT⟩ := hrel
                have hq0 : (0 : Int) ≤ (a : Int) := by omega
                have hmi : (if (43 : Int) < (u : Int) then (43 : Int) else (u : Int)) = (mn : Int) := by split <;> omega
                have hmi2 : min (u : Int) 43 = (mn : Int) := by omega
                by_cases ham : a ≤ mn
                · have ham' : (a : Int) ≤ (mn : Int) := by omega
                  obtain ⟨b, hb⟩ : ∃ q : Nat, u - a = q := ⟨_, rfl⟩
                  have hbe : (u : Int) - (a : Int) = (b : Int) := by omega
                  have hbw : IntKind.i64.wrap (b : Int) = (b : Int) := IntWalk.i64_in _ (by omega)
                  have ha43 : a ≤ 43 := by omega
                  have hb43 : b ≤ 43 := by have := HA0.out; omega
                  go_upto_region 20 with fail
                  clear hmi hmi2 hbw hb
                  have hab : (a : Int) + (b : Int) = (u : Int) := by omega
                  obtain ⟨eb, heb⟩ : ∃ q, decide ((a : Int) = ti ∧ (b : Int) = ti) = q := ⟨_, rfl⟩
                  have HEB := hide heb
                  clear heb
                  go_cut [18] from 84 to 95 (fun v18 wy => v18 = .bool eb ∧ wy = wr)
                  case first =>
                    have hcases : ((0 : Int) ≤ ti ∧ ((a : Int) == ti) = true ∧ ((b : Int) == ti) = true ∧ eb = true) ∨ ((0 : Int) ≤ ti ∧ ((a : Int) == ti) = true ∧ ((b : Int) == ti) = false ∧ eb = false) ∨ ((0 : Int) ≤ ti ∧ ((a : Int) == ti) = false ∧ eb = false) ∨ (ti < 0 ∧ eb = false) := by
                      have he := HEB.out
                      by_cases q1 : (0 : Int) ≤ ti
                      · by_cases q2 : (a : Int) = ti
                        · by_cases q3 : (b : Int) = ti
                          · exact .inl ⟨q1, beq_iff_eq.2 q2, beq_iff_eq.2 q3, by rw [← he]; exact decide_eq_true ⟨q2, q3⟩⟩
                          · exact .inr (.inl ⟨q1, beq_iff_eq.2 q2, beq_eq_false_iff_ne.2 q3, by rw [← he]; exact decide_eq_false (fun h => q3 h.2)⟩)
                        · exact .inr (.inr (.inl ⟨q1, beq_eq_false_iff_ne.2 q2, by rw [← he]; exact decide_eq_false (fun h => q2 h.1)⟩))
                      · exact .inr (.inr (.inr ⟨by omega, by rw [← he]; exact decide_eq_false (fun h => by have := h.1; omega)⟩))
                    rcases hcases with ⟨g1, g2, g3, e⟩ | ⟨g1, g2, g3, e⟩ | ⟨g1, g2, e⟩ | ⟨g1, e⟩
                    all_goals
                      subst e
                      go_wp2_with fail
                      go_meet
                      case rel => exact ⟨rfl, rfl⟩
                  case rest =>
                    obtain ⟨rfl, hwy⟩ := hcut
                    subst hwy
                    rename World => w4
                    have HFX := hide ((HBT.out.block _ (blk_lt HF1.out)).trans HF1.out)
                    have HFG := hide (fun (W : World) (hB : Below w4.heap.size w4 W) => (hB.cell (p := ⟨w.heap.size, 1, none⟩) (blk_lt HFX.out)).trans ((blk_cell HFX.out 1).trans rfl : w4.cell? ⟨w.heap.size, 1, none⟩ = some (.int .i64 f.games)))
                    obtain ⟨c1, hc1⟩ : ∃ q, M.cost s wn ls (a + 1) b = q := ⟨_, rfl⟩
                    obtain ⟨c2, hc2⟩ : ∃ q, M.cost s wn ls a (b + 1) = q := ⟨_, rfl⟩
                    have HC := hide (And.intro hc1 hc2)
                    have HCB := hide (show (0 ≤ c1 ∧ c1 ≤ 1000000) ∧ (0 ≤ c2 ∧ c2 ≤ 1000000) by
                      rw [← hc1, ← hc2]
                      have h0 : 0 ≤ s.to := by have := HVS_.out.o0; omega
                      exact ⟨⟨M.cost_low h0 HBD.out.1.1 HBD.out.2.1 88 _ _, M.cost_bd ..⟩, ⟨M.cost_low h0 HBD.out.1.1 HBD.out.2.1 88 _ _, M.cost_bd ..⟩⟩)
                    clear hc1 hc2
                    have t0 : w4.cell? ⟨g, a + 1, none⟩ = some (.slice (some ⟨bo (a + 1), 0, none⟩) 45 45) := HT.out.cell (a + 1) (by omega)
                    have t1 : w4.cell? ⟨bo (a + 1), b, none⟩ = some (.int .i64 c1) := by
                      rw [← HC.out.1]
                      exact (HT.out.rows.at_ (show a + 1 < 45 by omega) (by omega)).trans (congrArg (fun z => some (Value.int .i64 z)) (M.costAt_now (by push_cast; omega)))
                    have t2 : w4.cell? ⟨g, a, none⟩ = some (.slice (some ⟨bo a, 0, none⟩) 45 45) := HT.out.cell a (by omega)
                    have t3 : w4.cell? ⟨bo a, b + 1, none⟩ = some (.int .i64 c2) := by
                      rw [← HC.out.2]
                      exact (HT.out.rows.at_ (show a < 45 by omega) (by omega)).trans (congrArg (fun z => some (Value.int .i64 z)) (M.costAt_now (by push_cast; omega)))
                    have t4 := HT.out.gl
                    have t5 := HT.out.rows.bl (show a + 1 < 45 by omega)
                    have t6 := HT.out.rows.bl (show a < 45 by omega)
                    have haw : IntKind.i64.wrap ((a : Int) + 1) = (a : Int) + 1 := IntWalk.i64_in _ (by omega)
                    have hbw : IntKind.i64.wrap ((b : Int) + 1) = (b : Int) + 1 := IntWalk.i64_in _ (by omega)
                    have ha1 : (0 : Int) ≤ (a : Int) + 1 := by omega
                    have hb0 : (0 : Int) ≤ (b : Int) := by omega
                    have hb1 : (0 : Int) ≤ (b : Int) + 1 := by omega
                    have ha2 : (a : Int) < 45 := by omega
                    have ha3 : (a : Int) + 1 < 45 := by omega
                    have hb2 : (b : Int) < 45 := by omega
                    have hb3 : (b : Int) + 1 < 45 := by omega
                    have ha4 : ((a : Int) + 1).toNat = a + 1 := by omega
                    have hb4 : ((b : Int) + 1).toNat = b + 1 := by omega
                    have hSof3 : ∀ w', Below w4.heap.size w4 w' → (fun w' => Below w4.heap.size w4 w' ∧ w'.cell? ⟨g, a + 1, none⟩ = some (.slice (some ⟨bo (a + 1), 0, none⟩) 45 45) ∧ w'.cell? ⟨bo (a + 1), b, none⟩ = some (.int .i64 c1) ∧ w'.cell? ⟨g, a, none⟩ = some (.slice (some ⟨bo a, 0, none⟩) 45 45) ∧ w'.cell? ⟨bo a, b + 1, none⟩ = some (.int .i64 c2) ∧ g < w'.heap.size ∧ bo (a + 1) < w'.heap.size ∧ bo a < w'.heap.size) w' := fun w' hb =>
                      ⟨hb, (hb.cell (p := ⟨g, a + 1, none⟩) t4).trans t0, (hb.cell (p := ⟨bo (a + 1), b, none⟩) t5).trans t1, (hb.cell (p := ⟨g, a, none⟩) t4).trans t2, (hb.cell (p := ⟨bo a, b + 1, none⟩) t6).trans t3, Nat.lt_of_lt_of_le t4 hb.size, Nat.lt_of_lt_of_le t5 hb.size, Nat.lt_of_lt_of_le t6 hb.size⟩
                    cases eb
                    · have HNE := hide (show ¬ ((a : Int) = s.tie ∧ (b : Int) = s.tie) by rw [HTS.out]; exact of_decide_eq_false HEB.out)
                      go_upto_region 23 with fail
                      refine wp_region_held_drew (S := (fun w' => Below w4.heap.size w4 w' ∧ w'.cell? ⟨g, a + 1, none⟩ = some (.slice (some ⟨bo (a + 1), 0, none⟩) 45 45) ∧ w'.cell? ⟨bo (a + 1), b, none⟩ = some (.int .i64 c1) ∧ w'.cell? ⟨g, a, none⟩ = some (.slice (some ⟨bo a, 0, none⟩) 45 45) ∧ w'.cell? ⟨bo a, b + 1, none⟩ = some (.int .i64 c2) ∧ g < w'.heap.size ∧ bo (a + 1) < w'.heap.size ∧ bo a < w'.heap.size)) (by kernel_rfl) ?_ (fun hD0 => ?_)
                      · (try dsimp only); first | assumption | exact hSof3 _ (zbD (zbR _ _))
                      refine tW ?_ 0 rfl (by kernel_rfl) (fun _ _ _ h => h) (by rfl) (by assumption) ?_ ?_; rotate_left; (focus (intro w hSw; (try dsimp only at hSw); go_simp; try with_reducible rfl)); try simp only [Act.put, zl, z0, z1]
                      refine tW ?_ 1 rfl (by kernel_rfl) (fun _ _ _ h => h) (by rfl) (by assumption) ?_ ?_; rotate_left; (focus (intro w hSw; (try dsimp only at hSw); go_simp; try with_reducible rfl)); try simp only [Act.put, zl, z0, z1]
                      refine tW ?_ 2 rfl (by kernel_rfl) (fun _ _ _ h => h) (by rfl) (by assumption) ?_ ?_; rotate_left; (focus (intro w hSw; (try dsimp only at hSw); go_simp; try with_reducible rfl)); try simp only [Act.put, zl, z0, z1]
                      refine tW ?_ 3 rfl (by kernel_rfl) (fun _ _ _ h => h) (by rfl) (by assumption) ?_ ?_; rotate_left; (focus (intro w hSw; (try dsimp only at hSw); go_simp; try with_reducible rfl)); try simp only [Act.put, zl, z0, z1]
                      refine tW ?_ 4 rfl (by kernel_rfl) (fun _ _ _ h => h) (by rfl) (by assumption) ?_ ?_; rotate_left; (focus (intro w hSw; (try dsimp only at hSw); go_simp; try with_reducible rfl)); try simp only [Act.put, zl, z0, z1]
                      refine tW ?_ 5 rfl (by kernel_rfl) (fun _ _ _ h => h) (by rfl) (by assumption) ?_ ?_; rotate_left; (focus (intro w hSw; (try dsimp only at hSw); go_simp; try with_reducible rfl)); try simp only [Act.put, zl, z0, z1]
                      refine tW ?_ 6 rfl (by kernel_rfl) (fun _ _ _ h => h) (by rfl) (by assumption) ?_ ?_; rotate_left; (focus (intro w hSw; (try dsimp only at hSw); go_simp; try with_reducible rfl)); try simp only [Act.put, zl, z0, z1]
                      refine tW ?_ 7 rfl (by kernel_rfl) (fun _ _ _ h => h) (by rfl) (by assumption) ?_ ?_; rotate_left; (focus (intro w hSw; (try dsimp only at hSw); go_simp; try with_reducible rfl)); try simp only [Act.put, zl, z0, z1]
                      refine tW ?_ 8 rfl (by kernel_rfl) (fun _ _ _ h => h) (by rfl) (by assumption) ?_ ?_; rotate_left; (focus (intro w hSw; (try dsimp only at hSw); go_simp; try with_reducible rfl)); try simp only [Act.put, zl, z0, z1]
                      refine tW ?_ 9 rfl (by kernel_rfl) (fun _ _ _ h => h) (by rfl) (by assumption) ?_ ?_; rotate_left; (focus (intro w hSw; (try dsimp only at hSw); go_simp; try with_reducible rfl)); try simp only [Act.put, zl, z0, z1]
                      refine tW ?_ 10 rfl (by kernel_rfl) (fun _ _ _ h => h) (by rfl) (by assumption) ?_ ?_; rotate_left; (focus (intro w hSw; (try dsimp only at hSw); go_simp; try with_reducible rfl)); try simp only [Act.put, zl, z0, z1]
                      refine tW ?_ 11 rfl (by kernel_rfl) (fun _ _ _ h => h) (by rfl) (by assumption) ?_ ?_; rotate_left; (focus (intro w hSw; (try dsimp only at hSw); go_simp; try with_reducible rfl)); try simp only [Act.put, zl, z0, z1]
                      refine tW ?_ 12 rfl (by kernel_rfl) (fun _ _ _ h => h) (by rfl) (by assumption) ?_ ?_; rotate_left; (focus (intro w hSw; (try dsimp only at hSw); go_simp; try with_reducible rfl)); try simp only [Act.put, zl, z0, z1]
                      refine tW ?_ 13 rfl (by kernel_rfl) (fun _ _ _ h => h) (by rfl) (by assumption) ?_ ?_; rotate_left; (focus (intro w hSw; (try dsimp only at hSw); go_simp; try with_reducible rfl)); try simp only [Act.put, zl, z0, z1]
                      refine tW ?_ 14 rfl (by kernel_rfl) (fun _ _ _ h => h) (by rfl) (by assumption) ?_ ?_; rotate_left; (focus (intro w hSw; (try dsimp only at hSw); go_simp; try with_reducible rfl)); try simp only [Act.put, zl, z0, z1]
                      refine tW ?_ 15 rfl (by kernel_rfl) (fun _ _ _ h => h) (by rfl) (by assumption) ?_ ?_; rotate_left; (focus (intro w hSw; (try dsimp only at hSw); go_simp; try with_reducible rfl)); try simp only [Act.put, zl, z0, z1]
                      refine tW ?_ 16 rfl (by kernel_rfl) (fun _ _ _ h => h) (by rfl) (by assumption) ?_ ?_; rotate_left; (focus (intro w hSw; (try dsimp only at hSw); go_simp; try with_reducible rfl)); try simp only [Act.put, zl, z0, z1]
                      refine tW ?_ 17 rfl (by kernel_rfl) (fun _ _ _ h => h) (by rfl) (by assumption) ?_ ?_; rotate_left; (focus (intro w hSw; (try dsimp only at hSw); go_simp; try with_reducible rfl)); try simp only [Act.put, zl, z0, z1]
                      refine wpAnyH_done (by kernel_rfl) ?_ _
                      (try dsimp only [Act.put, List.getElem_toArray, List.getElem_cons_succ, List.getElem_cons_zero])
                      (try simp only [zl, z0, z1])
                      clear t0 t1 t2 t3 t4 t5 t6 hSof3
                      obtain ⟨l1, hl1⟩ : ∃ q, M.leads ⟨(a : Int) + 1, (b : Int)⟩ f.games = q := ⟨_, rfl⟩
                      obtain ⟨l2, hl2⟩ : ∃ q, M.leads ⟨(a : Int), (b : Int) + 1⟩ f.games = q := ⟨_, rfl⟩
                      have HCL1 := fun (W : World) => hide (refLeads_any ⟨(a : Int) + 1, (b : Int)⟩ f.games W ⟨by dsimp; omega, by dsimp; omega, by dsimp; omega, by dsimp; omega⟩)
                      have HCL2 := fun (W : World) => hide (refLeads_any ⟨(a : Int), (b : Int) + 1⟩ f.games W ⟨by dsimp; omega, by dsimp; omega, by dsimp; omega, by dsimp; omega⟩)
                      rw [hl1] at HCL1
                      rw [hl2] at HCL2
                      have HL1 := hide (M.leads_is0 (p := ⟨(a : Int) + 1, (b : Int)⟩) (n := f.games))
                      have HL2 := hide (M.leads_is1 (p := ⟨(a : Int), (b : Int) + 1⟩) (n := f.games))
                      rw [hl1, HGM_.out] at HL1
                      rw [hl2, HGM_.out] at HL2
                      clear hl1 hl2
                      have f1 := HFG.out _ (zbD (zbR w4.heap.size w4))
                      cases e1 : (l1 == 0) <;> cases e2 : (l2 == 1)
                      · have HV := hide (show M.cost s wn ls a b = min 1000000 (4 + min c1 c2) by rw [M.cost_step (by omega) (by omega), if_neg HNE.out, if_neg (fun h => h.elim HNE.out (fun h => (beq_eq_false_iff_ne.1 e1) (HL1.out.2 h))), HC.out.1, if_neg (fun h => h.elim HNE.out (fun h => (beq_eq_false_iff_ne.1 e2) (HL2.out.2 h))), HC.out.2])
                        obtain ⟨mm, hmm⟩ : ∃ q, min c1 c2 = q := ⟨_, rfl⟩
                        obtain ⟨vv, hvv⟩ : ∃ q, min 1000000 (4 + mm) = q := ⟨_, rfl⟩
                        rw [hmm, hvv] at HV
                        have hmb : 0 ≤ mm ∧ mm ≤ 1000000 := by have h1 := HCB.out; have h2 := HBD.out; omega
                        have hm1 : (if c2 < c1 then c2 else c1) = mm := by split <;> omega
                        have hm3 : IntKind.i64.wrap (4 + mm) = 4 + mm := IntWalk.i64_in _ (by omega)
                        have hm4 : (if 4 + mm < 1000000 then 4 + mm else 1000000) = vv := by split <;> omega
                        clear hmb
                        go_upto_region 28 with (go_at_call 51; first | (with_reducible refine (HCL1 _).out.mono ?_; rintro e w6 ⟨rfl, hb6⟩; have hz6 := hb6.size; (try simp at hz6); have f6 := HFG.out w6 (by (exact kb))) | (with_reducible refine (HCL2 _).out.mono ?_; rintro e w7 ⟨rfl, hb7⟩))
                        refine cap_w (M := Code.wp _ _ _ _) _ (fun w5 hw5 => ?_)
                        have HB5 := hide (show Below w4.heap.size w4 w5 by rw [hw5]; (exact kb))
                        clear hw5
                        (try clear hb6)
                        (try clear f6)
                        (try clear hb7)
                        clear f1 e1 e2
                        have HT5 := hide (HT.out.below HB5.out)
                        have s0 := HT5.out.cell a (show a < 45 by omega)
                        have s1 := HT5.out.rows.at_ (show a < 45 by omega) (show b < 45 by omega)
                        have s2 := blk_frozen (HT5.out.rows.row a (by omega)) b
                        have s3 := HT5.out.gl
                        have s4 := HT5.out.rows.bl (show a < 45 by omega)
                        unfold rowV at s0
                        have HT6 := hide (Tab.congr (U := M.costAt s wn ls u ((a : Int) + 1)) (HT5.out.set (show a < 45 by omega) b vv) (fun i j hi hj => by rw [← HV.out]; exact M.costAt_set hab i j))
                        have HB6 := hide (show Below wb.heap.size wb (w5.setCell ⟨bo a, b, none⟩ (.int .i64 vv)) from zbS (zbT HBT.out HB5.out HBT.out.size) (HT5.out.rows.rlo a (by omega)) _)
                        go_wp2_with fail
                        go_roundw
                        case rel => exact ⟨a + 1, by omega, by omega, by go_num, HT6, HB6⟩
                        case measure => first | (simp [intOf]; done) | (simp [intOf]; omega)
                      · have HV := hide (show M.cost s wn ls a b = min 1000000 (4 + min c1 ls) by rw [M.cost_step (by omega) (by omega), if_neg HNE.out, if_neg (fun h => h.elim HNE.out (fun h => (beq_eq_false_iff_ne.1 e1) (HL1.out.2 h))), HC.out.1, if_pos (.inr (HL2.out.1 (beq_iff_eq.1 e2)))])
                        obtain ⟨mm, hmm⟩ : ∃ q, min c1 ls = q := ⟨_, rfl⟩
                        obtain ⟨vv, hvv⟩ : ∃ q, min 1000000 (4 + mm) = q := ⟨_, rfl⟩
                        rw [hmm, hvv] at HV
                        have hmb : 0 ≤ mm ∧ mm ≤ 1000000 := by have h1 := HCB.out; have h2 := HBD.out; omega
                        have hm1 : (if ls < c1 then ls else c1) = mm := by split <;> omega
                        have hm3 : IntKind.i64.wrap (4 + mm) = 4 + mm := IntWalk.i64_in _ (by omega)
                        have hm4 : (if 4 + mm < 1000000 then 4 + mm else 1000000) = vv := by split <;> omega
                        clear hmb
                        go_upto_region 28 with (go_at_call 51; first | (with_reducible refine (HCL1 _).out.mono ?_; rintro e w6 ⟨rfl, hb6⟩; have hz6 := hb6.size; (try simp at hz6); have f6 := HFG.out w6 (by (exact kb))) | (with_reducible refine (HCL2 _).out.mono ?_; rintro e w7 ⟨rfl, hb7⟩))
                        refine cap_w (M := Code.wp _ _ _ _) _ (fun w5 hw5 => ?_)
                        have HB5 := hide (show Below w4.heap.size w4 w5 by rw [hw5]; (exact kb))
                        clear hw5
                        (try clear hb6)
                        (try clear f6)
                        (try clear hb7)
                        clear f1 e1 e2
                        have HT5 := hide (HT.out.below HB5.out)
                        have s0 := HT5.out.cell a (show a < 45 by omega)
                        have s1 := HT5.out.rows.at_ (show a < 45 by omega) (show b < 45 by omega)
                        have s2 := blk_frozen (HT5.out.rows.row a (by omega)) b
                        have s3 := HT5.out.gl
                        have s4 := HT5.out.rows.bl (show a < 45 by omega)
                        unfold rowV at s0
                        have HT6 := hide (Tab.congr (U := M.costAt s wn ls u ((a : Int) + 1)) (HT5.out.set (show a < 45 by omega) b vv) (fun i j hi hj => by rw [← HV.out]; exact M.costAt_set hab i j))
                        have HB6 := hide (show Below wb.heap.size wb (w5.setCell ⟨bo a, b, none⟩ (.int .i64 vv)) from zbS (zbT HBT.out HB5.out HBT.out.size) (HT5.out.rows.rlo a (by omega)) _)
                        go_wp2_with fail
                        go_roundw
                        case rel => exact ⟨a + 1, by omega, by omega, by go_num, HT6, HB6⟩
                        case measure => first | (simp [intOf]; done) | (simp [intOf]; omega)
                      · have HV := hide (show M.cost s wn ls a b = min 1000000 (4 + min wn c2) by rw [M.cost_step (by omega) (by omega), if_neg HNE.out, if_pos (.inr (HL1.out.1 (beq_iff_eq.1 e1))), if_neg (fun h => h.elim HNE.out (fun h => (beq_eq_false_iff_ne.1 e2) (HL2.out.2 h))), HC.out.2])
                        obtain ⟨mm, hmm⟩ : ∃ q, min wn c2 = q := ⟨_, rfl⟩
                        obtain ⟨vv, hvv⟩ : ∃ q, min 1000000 (4 + mm) = q := ⟨_, rfl⟩
                        rw [hmm, hvv] at HV
                        have hmb : 0 ≤ mm ∧ mm ≤ 1000000 := by have h1 := HCB.out; have h2 := HBD.out; omega
                        have hm1 : (if c2 < wn then c2 else wn) = mm := by split <;> omega
                        have hm3 : IntKind.i64.wrap (4 + mm) = 4 + mm := IntWalk.i64_in _ (by omega)
                        have hm4 : (if 4 + mm < 1000000 then 4 + mm else 1000000) = vv := by split <;> omega
                        clear hmb
                        go_upto_region 28 with (go_at_call 51; first | (with_reducible refine (HCL1 _).out.mono ?_; rintro e w6 ⟨rfl, hb6⟩; have hz6 := hb6.size; (try simp at hz6); have f6 := HFG.out w6 (by (exact kb))) | (with_reducible refine (HCL2 _).out.mono ?_; rintro e w7 ⟨rfl, hb7⟩))
                        refine cap_w (M := Code.wp _ _ _ _) _ (fun w5 hw5 => ?_)
                        have HB5 := hide (show Below w4.heap.size w4 w5 by rw [hw5]; (exact kb))
                        clear hw5
                        (try clear hb6)
                        (try clear f6)
                        (try clear hb7)
                        clear f1 e1 e2
                        have HT5 := hide (HT.out.below HB5.out)
                        have s0 := HT5.out.cell a (show a < 45 by omega)
                        have s1 := HT5.out.rows.at_ (show a < 45 by omega) (show b < 45 by omega)
                        have s2 := blk_frozen (HT5.out.rows.row a (by omega)) b
                        have s3 := HT5.out.gl
                        have s4 := HT5.out.rows.bl (show a < 45 by omega)
                        unfold rowV at s0
                        have HT6 := hide (Tab.congr (U := M.costAt s wn ls u ((a : Int) + 1)) (HT5.out.set (show a < 45 by omega) b vv) (fun i j hi hj => by rw [← HV.out]; exact M.costAt_set hab i j))
                        have HB6 := hide (show Below wb.heap.size wb (w5.setCell ⟨bo a, b, none⟩ (.int .i64 vv)) from zbS (zbT HBT.out HB5.out HBT.out.size) (HT5.out.rows.rlo a (by omega)) _)
                        go_wp2_with fail
                        go_roundw
                        case rel => exact ⟨a + 1, by omega, by omega, by go_num, HT6, HB6⟩
                        case measure => first | (simp [intOf]; done) | (simp [intOf]; omega)
                      · have HV := hide (show M.cost s wn ls a b = min 1000000 (4 + min wn ls) by rw [M.cost_step (by omega) (by omega), if_neg HNE.out, if_pos (.inr (HL1.out.1 (beq_iff_eq.1 e1))), if_pos (.inr (HL2.out.1 (beq_iff_eq.1 e2)))])
                        obtain ⟨mm, hmm⟩ : ∃ q, min wn ls = q := ⟨_, rfl⟩
                        obtain ⟨vv, hvv⟩ : ∃ q, min 1000000 (4 + mm) = q := ⟨_, rfl⟩
                        rw [hmm, hvv] at HV
                        have hmb : 0 ≤ mm ∧ mm ≤ 1000000 := by have h1 := HCB.out; have h2 := HBD.out; omega
                        have hm1 : (if ls < wn then ls else wn) = mm := by split <;> omega
                        have hm3 : IntKind.i64.wrap (4 + mm) = 4 + mm := IntWalk.i64_in _ (by omega)
                        have hm4 : (if 4 + mm < 1000000 then 4 + mm else 1000000) = vv := by split <;> omega
                        clear hmb
                        go_upto_region 28 with (go_at_call 51; first | (with_reducible refine (HCL1 _).out.mono ?_; rintro e w6 ⟨rfl, hb6⟩; have hz6 := hb6.size; (try simp at hz6); have f6 := HFG.out w6 (by (exact kb))) | (with_reducible refine (HCL2 _).out.mono ?_; rintro e w7 ⟨rfl, hb7⟩))
                        refine cap_w (M := Code.wp _ _ _ _) _ (fun w5 hw5 => ?_)
                        have HB5 := hide (show Below w4.heap.size w4 w5 by rw [hw5]; (exact kb))
                        clear hw5
                        (try clear hb6)
                        (try clear f6)
                        (try clear hb7)
                        clear f1 e1 e2
                        have HT5 := hide (HT.out.below HB5.out)
                        have s0 := HT5.out.cell a (show a < 45 by omega)
                        have s1 := HT5.out.rows.at_ (show a < 45 by omega) (show b < 45 by omega)
                        have s2 := blk_frozen (HT5.out.rows.row a (by omega)) b
                        have s3 := HT5.out.gl
                        have s4 := HT5.out.rows.bl (show a < 45 by omega)
                        unfold rowV at s0
                        have HT6 := hide (Tab.congr (U := M.costAt s wn ls u ((a : Int) + 1)) (HT5.out.set (show a < 45 by omega) b vv) (fun i j hi hj => by rw [← HV.out]; exact M.costAt_set hab i j))
                        have HB6 := hide (show Below wb.heap.size wb (w5.setCell ⟨bo a, b, none⟩ (.int .i64 vv)) from zbS (zbT HBT.out HB5.out HBT.out.size) (HT5.out.rows.rlo a (by omega)) _)
                        go_wp2_with fail
                        go_roundw
                        case rel => exact ⟨a + 1, by omega, by omega, by go_num, HT6, HB6⟩
                        case measure => first | (simp [intOf]; done) | (simp [intOf]; omega)
                    · have HNE := hide (show (a : Int) = s.tie ∧ (b : Int) = s.tie by rw [HTS.out]; exact of_decide_eq_true HEB.out)
                      obtain ⟨pp, hpp⟩ : ∃ q, max tto 2 = q := ⟨_, rfl⟩
                      have hpp1 : (if tto < 2 then 2 else tto) = pp := by split <;> omega
                      have HPP := hide hpp
                      have HPB := hide (show 2 ≤ pp ∧ pp ≤ 15 by have h1 := HVS_.out.o0; have h2 := HVS_.out.o1; rw [HTT.out] at h1 h2; omega)
                      go_upto_region 23 with fail
                      clear hpp1
                      refine wp_region_held_drew (S := (fun w' => Below w4.heap.size w4 w' ∧ w'.cell? ⟨g, a + 1, none⟩ = some (.slice (some ⟨bo (a + 1), 0, none⟩) 45 45) ∧ w'.cell? ⟨bo (a + 1), b, none⟩ = some (.int .i64 c1) ∧ w'.cell? ⟨g, a, none⟩ = some (.slice (some ⟨bo a, 0, none⟩) 45 45) ∧ w'.cell? ⟨bo a, b + 1, none⟩ = some (.int .i64 c2) ∧ g < w'.heap.size ∧ bo (a + 1) < w'.heap.size ∧ bo a < w'.heap.size)) (by kernel_rfl) ?_ (fun hD0 => ?_)
                      · (try dsimp only); first | assumption | exact hSof3 _ (zbD (zbR _ _))
                      refine tW ?_ 0 rfl (by kernel_rfl) (fun _ _ _ h => h) (by rfl) (by assumption) ?_ ?_; rotate_left; (focus (intro w hSw; (try dsimp only at hSw); go_simp; try with_reducible rfl)); try simp only [Act.put, zl, z0, z1]
                      refine tW ?_ 1 rfl (by kernel_rfl) (fun _ _ _ h => h) (by rfl) (by assumption) ?_ ?_; rotate_left; (focus (intro w hSw; (try dsimp only at hSw); go_simp; try with_reducible rfl)); try simp only [Act.put, zl, z0, z1]
                      refine tW ?_ 2 rfl (by kernel_rfl) (fun _ _ _ h => h) (by rfl) (by assumption) ?_ ?_; rotate_left; (focus (intro w hSw; (try dsimp only at hSw); go_simp; try with_reducible rfl)); try simp only [Act.put, zl, z0, z1]
                      refine tW ?_ 3 rfl (by kernel_rfl) (fun _ _ _ h => h) (by rfl) (by assumption) ?_ ?_; rotate_left; (focus (intro w hSw; (try dsimp only at hSw); go_simp; try with_reducible rfl)); try simp only [Act.put, zl, z0, z1]
                      refine tW ?_ 4 rfl (by kernel_rfl) (fun _ _ _ h => h) (by rfl) (by assumption) ?_ ?_; rotate_left; (focus (intro w hSw; (try dsimp only at hSw); go_simp; try with_reducible rfl)); try simp only [Act.put, zl, z0, z1]
                      refine tW ?_ 5 rfl (by kernel_rfl) (fun _ _ _ h => h) (by rfl) (by assumption) ?_ ?_; rotate_left; (focus (intro w hSw; (try dsimp only at hSw); go_simp; try with_reducible rfl)); try simp only [Act.put, zl, z0, z1]
                      refine tW ?_ 6 rfl (by kernel_rfl) (fun _ _ _ h => h) (by rfl) (by assumption) ?_ ?_; rotate_left; (focus (intro w hSw; (try dsimp only at hSw); go_simp; try with_reducible rfl)); try simp only [Act.put, zl, z0, z1]
                      refine tW ?_ 7 rfl (by kernel_rfl) (fun _ _ _ h => h) (by rfl) (by assumption) ?_ ?_; rotate_left; (focus (intro w hSw; (try dsimp only at hSw); go_simp; try with_reducible rfl)); try simp only [Act.put, zl, z0, z1]
                      refine tW ?_ 8 rfl (by kernel_rfl) (fun _ _ _ h => h) (by rfl) (by assumption) ?_ ?_; rotate_left; (focus (intro w hSw; (try dsimp only at hSw); go_simp; try with_reducible rfl)); try simp only [Act.put, zl, z0, z1]
                      refine tW ?_ 9 rfl (by kernel_rfl) (fun _ _ _ h => h) (by rfl) (by assumption) ?_ ?_; rotate_left; (focus (intro w hSw; (try dsimp only at hSw); go_simp; try with_reducible rfl)); try simp only [Act.put, zl, z0, z1]
                      refine tW ?_ 10 rfl (by kernel_rfl) (fun _ _ _ h => h) (by rfl) (by assumption) ?_ ?_; rotate_left; (focus (intro w hSw; (try dsimp only at hSw); go_simp; try with_reducible rfl)); try simp only [Act.put, zl, z0, z1]
                      refine tW ?_ 11 rfl (by kernel_rfl) (fun _ _ _ h => h) (by rfl) (by assumption) ?_ ?_; rotate_left; (focus (intro w hSw; (try dsimp only at hSw); go_simp; try with_reducible rfl)); try simp only [Act.put, zl, z0, z1]
                      refine tW ?_ 12 rfl (by kernel_rfl) (fun _ _ _ h => h) (by rfl) (by assumption) ?_ ?_; rotate_left; (focus (intro w hSw; (try dsimp only at hSw); go_simp; try with_reducible rfl)); try simp only [Act.put, zl, z0, z1]
                      refine tW ?_ 13 rfl (by kernel_rfl) (fun _ _ _ h => h) (by rfl) (by assumption) ?_ ?_; rotate_left; (focus (intro w hSw; (try dsimp only at hSw); go_simp; try with_reducible rfl)); try simp only [Act.put, zl, z0, z1]
                      refine tW ?_ 14 rfl (by kernel_rfl) (fun _ _ _ h => h) (by rfl) (by assumption) ?_ ?_; rotate_left; (focus (intro w hSw; (try dsimp only at hSw); go_simp; try with_reducible rfl)); try simp only [Act.put, zl, z0, z1]
                      refine tW ?_ 15 rfl (by kernel_rfl) (fun _ _ _ h => h) (by rfl) (by assumption) ?_ ?_; rotate_left; (focus (intro w hSw; (try dsimp only at hSw); go_simp; try with_reducible rfl)); try simp only [Act.put, zl, z0, z1]
                      refine tW ?_ 16 rfl (by kernel_rfl) (fun _ _ _ h => h) (by rfl) (by assumption) ?_ ?_; rotate_left; (focus (intro w hSw; (try dsimp only at hSw); go_simp; try with_reducible rfl)); try simp only [Act.put, zl, z0, z1]
                      refine tW ?_ 17 rfl (by kernel_rfl) (fun _ _ _ h => h) (by rfl) (by assumption) ?_ ?_; rotate_left; (focus (intro w hSw; (try dsimp only at hSw); go_simp; try with_reducible rfl)); try simp only [Act.put, zl, z0, z1]
                      refine wpAnyH_done (by kernel_rfl) ?_ _
                      (try dsimp only [Act.put, List.getElem_toArray, List.getElem_cons_succ, List.getElem_cons_zero])
                      (try simp only [zl, z0, z1])
                      clear t0 t1 t2 t3 t4 t5 t6 hSof3
                      have HV := hide (show M.cost s wn ls a b = min 1000000 (pp + min wn ls) by rw [M.cost_step (by omega) (by omega), if_pos HNE.out, if_pos (.inl HNE.out), if_pos (.inl HNE.out), HTT.out, HPP.out])
                      obtain ⟨mm, hmm⟩ : ∃ q, min wn ls = q := ⟨_, rfl⟩
                      obtain ⟨vv, hvv⟩ : ∃ q, min 1000000 (pp + mm) = q := ⟨_, rfl⟩
                      rw [hmm, hvv] at HV
                      have hmb : 0 ≤ mm ∧ mm ≤ 1000000 := by have h1 := HCB.out; have h2 := HBD.out; omega
                      have hm1 : (if ls < wn then ls else wn) = mm := by split <;> omega
                      have hm3 : IntKind.i64.wrap (pp + mm) = pp + mm := IntWalk.i64_in _ (by have := HPB.out; omega)
                      have hm4 : (if pp + mm < 1000000 then pp + mm else 1000000) = vv := by split <;> omega
                      clear hmb
                      go_upto_region 28 with fail
                      refine cap_w (M := Code.wp _ _ _ _) _ (fun w5 hw5 => ?_)
                      have HB5 := hide (show Below w4.heap.size w4 w5 by rw [hw5]; (exact kb))
                      clear hw5
                      have HT5 := hide (HT.out.below HB5.out)
                      have s0 := HT5.out.cell a (show a < 45 by omega)
                      have s1 := HT5.out.rows.at_ (show a < 45 by omega) (show b < 45 by omega)
                      have s2 := blk_frozen (HT5.out.rows.row a (by omega)) b
                      have s3 := HT5.out.gl
                      have s4 := HT5.out.rows.bl (show a < 45 by omega)
                      unfold rowV at s0
                      have HT6 := hide (Tab.congr (U := M.costAt s wn ls u ((a : Int) + 1)) (HT5.out.set (show a < 45 by omega) b vv) (fun i j hi hj => by rw [← HV.out]; exact M.costAt_set hab i j))
                      have HB6 := hide (show Below wb.heap.size wb (w5.setCell ⟨bo a, b, none⟩ (.int .i64 vv)) from zbS (zbT HBT.out HB5.out HBT.out.size) (HT5.out.rows.rlo a (by omega)) _)
                      go_wp2_with fail
                      go_roundw
                      case rel => exact ⟨a + 1, by omega, by omega, by go_num, HT6, HB6⟩
                      case measure => first | (simp [intOf]; done) | (simp [intOf]; omega)
                · have hae : (mn : Int) < (a : Int) := by omega
                  have HN := hide (Tab.congr (U := M.costAt s wn ls ((u : Int) - 1) (((u - 44 : Nat)) : Int)) HT.out (fun i j hi hj => M.costAt_next (by omega) (by omega) i j (by omega) (by omega)))
                  go_wp2_with fail
                  go_roundw
                  case rel => exact ⟨(u : Int) - 1, u - 44, by omega, by omega, by go_num, hide (by omega), HN, HBT⟩
                  case measure => first | (simp [intOf]; done) | (simp [intOf]; omega)
            · have hsm : sm = -1 := by omega
              subst hsm
              have HN := hide (Tab.congr (U := M.cost s wn ls) HT.out (fun i j hi hj => by unfold M.costAt; rw [if_pos (.inl (by omega))]))
              go_wp2_with fail
              refine bodyPost_ret (v := .slice (some ⟨g, 0, none⟩) 45 45) (by simp [results, Try.results49, go_sem]) rfl ?_
              exact ⟨g, bo, rfl, ⟨Nat.le_trans HBW1.out.size HN.out.lo, HN.out.gl, HN.out.cell, ⟨HN.out.rows.row, fun i hi => Nat.le_trans HBW1.out.size (HN.out.rows.rlo i hi), HN.out.rows.inj⟩, HN.out.ne⟩, zbT HBW1.out HBT.out HBW1.out.size⟩

end Go.Proofs.Ytmhaapghiecfcaa

namespace Go.Proofs.Ytmhaapghiecfcaa
theorem from_costs (f : M.Fm) (hv : M.Valid f) : ∀ k : Nat, FromP f k ∧ CostsP f k
  | 0 => ⟨from_zero f, costs_of f hv 0 (from_zero f)⟩
  | k + 1 => have h := from_succ f k (from_costs f hv k).2; ⟨h, costs_of f hv (k + 1) h⟩
end Go.Proofs.Ytmhaapghiecfcaa
