/-
  Part of a claim's texts: contracts of the program's functions and the plain functions that they compute, in build order.
-/
import Derived.Test.YtmhaapghiecfcaaZB01
import Derived.Test.YtmhaapghiecfcaaZB02
import Derived.Test.YtmhaapghiecfcaaZB06
import Derived.Test.YtmhaapghiecfcaaZB07
import Derived.Test.YtmhaapghiecfcaaZB08
namespace Go.Proofs.Ytmhaapghiecfcaa
open Go.RowKit
attribute [local go_sem ↓] Go.wp_at_zero Go.wp_at_succ

theorem standB_none {f : M.Fm} {ps : List M.Pr} (h : M.wonBy f M.zero ps = none) (g p : M.Pr) : M.standB f ps g p = false := by unfold M.standB; rw [h]
theorem standB_some {f : M.Fm} {ps : List M.Pr} {won : M.Pr} (h : M.wonBy f M.zero ps = some won) (g p : M.Pr) : M.standB f ps g p = M.rest f won g p := by unfold M.standB; rw [h]
theorem ofSet_games (f : M.Fm) (won : M.Pr) : f.games = (M.ofSet f won).games := by unfold M.ofSet; split <;> rfl
theorem ofSet_noAd (f : M.Fm) (won : M.Pr) : f.noAd = (M.ofSet f won).noAd := by unfold M.ofSet; split <;> rfl
theorem rtied_isTie {f : M.Fm} {ps : List M.Pr} {g won : M.Pr} (h : won = M.wonR M.zero ps) (h0 : 0 ≤ g.A) : M.rtied f ps g = M.isTie (M.ofSet f won) g := by
  subst h
  unfold M.rtied M.isTie
  by_cases c : g.A = (M.ofSet f (M.wonR M.zero ps)).tie
  · rw [decide_eq_true (by omega)]; rfl
  · rw [show (g.A == (M.ofSet f (M.wonR M.zero ps)).tie) = false by simpa using c]; simp

set_option maxHeartbeats 12800000 in
set_option maxRecDepth 100000 in
theorem refArisesIn_any (f : M.Fm) (A : Option Addr) (n c : Nat) (ps : List M.Pr) (g p : M.Pr) (w : World) (hv : M.Valid f) (hn : ps.length = n) (hr : RdP w w.heap.size A ps) (hm : n ≤ 5) (hnc : n ≤ c) (hcm : c ≤ maxLen) (hps : ps.all M.fine = true) (hg : M.fine g = true) (hp : M.fine p = true) :
    Calls Try.prog 44 #[.agg #[.int .i64 f.sets, .int .i64 f.games, .bool f.noAd, .int .i64 f.tie, .int .i64 f.to, .int .i64 f.lastTie, .int .i64 f.lastTo, .int .i64 f.first, .int .i64 f.next, .bool f.doubles], .agg #[.slice A n c, .int .i64 g.A, .int .i64 g.B, .int .i64 p.A, .int .i64 p.B]] w fun e w' => e = .returned (.bool (M.standB f ps g p)) ∧ Below w.heap.size w w' := by
  have HV := hide hv
  have HN := hide hn
  have HR := hide hr
  have HPS := hide hps
  have HGB := hide (fine_bd hg)
  have HPB := hide (fine_bd hp)
  have v0 := hv.s0
  have v1 := hv.s1
  have hc63 : (c : Int) ≤ 9223372036854775807 := by unfold maxLen at hcm; omega
  clear hv hn hr hps hg hp hcm
  obtain ⟨r, hres⟩ : ∃ q, M.standB f ps g p = q := ⟨_, rfl⟩
  rw [hres]
  have HRES := hide hres
  clear hres
  go_enter Try.func44, Try.ntmps44
  go_wp2_with fail
  go_loopw [6, 7, 8] (fun v6 v7 v8 wr => ∃ k : Nat, k ≤ n ∧ v6 = .int .i64 k ∧ ∃ won : M.Pr, Hid (won = M.wonR M.zero (ps.take k)) ∧ Hid (M.wonBy f M.zero ps = M.wonBy f won (ps.drop k)) ∧ Hid (0 ≤ won.A ∧ 0 ≤ won.B ∧ won.A ≤ k ∧ won.B ≤ k) ∧ Below w.heap.size w wr ∧ w.heap.size < wr.heap.size ∧ w.heap.size + 1 < wr.heap.size ∧ w.heap.size + 1 + 1 < wr.heap.size ∧ wr.cell? ⟨w.heap.size + 1 + 1, 0, none⟩ = some (.int .i64 won.A) ∧ wr.cell? ⟨w.heap.size + 1 + 1, 1, none⟩ = some (.int .i64 won.B) ∧ wr.frozen? ⟨w.heap.size + 1 + 1, 0, none⟩ = false ∧ wr.frozen? ⟨w.heap.size + 1 + 1, 1, none⟩ = false ∧ wr.cell? ⟨w.heap.size + 1, 0, none⟩ = some (.slice A n c) ∧ wr.cell? ⟨w.heap.size + 1, 1, none⟩ = some (.int .i64 g.A) ∧ wr.cell? ⟨w.heap.size + 1, 2, none⟩ = some (.int .i64 g.B) ∧ wr.cell? ⟨w.heap.size + 1, 3, none⟩ = some (.int .i64 p.A) ∧ wr.cell? ⟨w.heap.size + 1, 4, none⟩ = some (.int .i64 p.B) ∧ wr.cell? ⟨w.heap.size, 0, none⟩ = some (.int .i64 f.sets) ∧ wr.cell? ⟨w.heap.size, 1, none⟩ = some (.int .i64 f.games) ∧ wr.cell? ⟨w.heap.size, 2, none⟩ = some (.bool f.noAd) ∧ wr.cell? ⟨w.heap.size, 3, none⟩ = some (.int .i64 f.tie) ∧ wr.cell? ⟨w.heap.size, 4, none⟩ = some (.int .i64 f.to) ∧ wr.cell? ⟨w.heap.size, 5, none⟩ = some (.int .i64 f.lastTie) ∧ wr.cell? ⟨w.heap.size, 6, none⟩ = some (.int .i64 f.lastTo) ∧ wr.cell? ⟨w.heap.size, 7, none⟩ = some (.int .i64 f.first) ∧ wr.cell? ⟨w.heap.size, 8, none⟩ = some (.int .i64 f.next) ∧ wr.cell? ⟨w.heap.size, 9, none⟩ = some (.bool f.doubles)) (fun v6 _ _ _ => n - (intOf v6).toNat)
  case atStart => exact ⟨0, by omega, rfl, M.zero, hide (by simp [M.wonR]), hide (by simp), hide (by decide), by (exact kp)⟩
  case round =>
    obtain ⟨k, hk, rfl, won, HWO, HWB, HBD, hS0⟩ := hrel
    have HVS := hide (HV.out.ofSet won)
    have HTI := hide (ofSet_rule f won).1
    have HGM := hide (ofSet_games f won)
    by_cases hlt : k < n
    · obtain ⟨⟨xi, yi⟩, hq⟩ : ∃ q, ps[k]? = some q := ⟨_, List.getElem?_eq_getElem (by have := HN.out; omega)⟩
      have hqf := fine_bd (List.all_eq_true.1 HPS.out _ (List.mem_of_getElem? hq))
      dsimp only at hqf
      obtain ⟨x, rfl⟩ : ∃ x : Nat, xi = (x : Int) := ⟨xi.toNat, by omega⟩
      obtain ⟨y, rfl⟩ : ∃ y : Nat, yi = (y : Int) := ⟨yi.toNat, by omega⟩
      have hx40 : x ≤ 40 := by omega
      have hy40 : y ≤ 40 := by omega
      obtain ⟨b, o, hA, hbB, c0, c1⟩ := (HR.out.below (by exact hS0.1)) k _ hq
      subst hA
      have HQ := hide hq
      dsimp only at c0 c1
      have HC0 := hide (((by exact hS0.1 : Below w.heap.size w wr).cell (p := ⟨b, o + k * 2, none⟩) hbB).symm.trans c0)
      have HC1 := hide (((by exact hS0.1 : Below w.heap.size w wr).cell (p := ⟨b, o + k * 2 + 1, none⟩) hbB).symm.trans c1)
      clear hq hqf c0 c1
      by_cases hA0 : won.A = f.sets
      · have HO := hide (show r = false by rw [← HRES.out]; exact standB_none (by rw [HWB.out, HWO.out]; exact M.wonBy_stop HQ.out (.inl (M.winner_iff.2 (.inl (by rw [← HWO.out]; exact hA0))))) g p)
        go_wp2_with fail
        go_ret
        exact ⟨by rw [HO.out]; rfl, by (go_split_ands; (exact kb))⟩
      have hA1 : (won.A == f.sets) = false := by simpa using hA0
      by_cases hB0 : won.B = f.sets
      · have HO := hide (show r = false by rw [← HRES.out]; exact standB_none (by rw [HWB.out, HWO.out]; exact M.wonBy_stop HQ.out (.inl (M.winner_iff.2 (.inr (by rw [← HWO.out]; exact hB0))))) g p)
        go_wp2_with fail
        go_ret
        exact ⟨by rw [HO.out]; rfl, by (go_split_ands; (exact kb))⟩
      have hB1 : (won.B == f.sets) = false := by simpa using hB0
      have HNW := hide (show M.winner f won = -1 from Classical.byContradiction fun h => (M.winner_iff.1 h).elim hA0 hB0)
      have hx0 : (0 : Int) ≤ (x : Int) := by omega
      have hy0 : (0 : Int) ≤ (y : Int) := by omega
      have hx45 : (x : Int) < 45 := by omega
      have hy45 : (y : Int) < 45 := by omega
      go_upto_region 7 with fail
      refine wp_region_held_drew (S := (fun w' => Below w.heap.size w w' ∧ w.heap.size < w'.heap.size ∧ w.heap.size + 1 < w'.heap.size ∧ w.heap.size + 1 + 1 < w'.heap.size ∧ w'.cell? ⟨w.heap.size + 1 + 1, 0, none⟩ = some (.int .i64 won.A) ∧ w'.cell? ⟨w.heap.size + 1 + 1, 1, none⟩ = some (.int .i64 won.B) ∧ w'.frozen? ⟨w.heap.size + 1 + 1, 0, none⟩ = false ∧ w'.frozen? ⟨w.heap.size + 1 + 1, 1, none⟩ = false ∧ w'.cell? ⟨w.heap.size + 1, 0, none⟩ = some (.slice (some ⟨b, o, none⟩) n c) ∧ w'.cell? ⟨w.heap.size + 1, 1, none⟩ = some (.int .i64 g.A) ∧ w'.cell? ⟨w.heap.size + 1, 2, none⟩ = some (.int .i64 g.B) ∧ w'.cell? ⟨w.heap.size + 1, 3, none⟩ = some (.int .i64 p.A) ∧ w'.cell? ⟨w.heap.size + 1, 4, none⟩ = some (.int .i64 p.B) ∧ w'.cell? ⟨w.heap.size, 0, none⟩ = some (.int .i64 f.sets) ∧ w'.cell? ⟨w.heap.size, 1, none⟩ = some (.int .i64 f.games) ∧ w'.cell? ⟨w.heap.size, 2, none⟩ = some (.bool f.noAd) ∧ w'.cell? ⟨w.heap.size, 3, none⟩ = some (.int .i64 f.tie) ∧ w'.cell? ⟨w.heap.size, 4, none⟩ = some (.int .i64 f.to) ∧ w'.cell? ⟨w.heap.size, 5, none⟩ = some (.int .i64 f.lastTie) ∧ w'.cell? ⟨w.heap.size, 6, none⟩ = some (.int .i64 f.lastTo) ∧ w'.cell? ⟨w.heap.size, 7, none⟩ = some (.int .i64 f.first) ∧ w'.cell? ⟨w.heap.size, 8, none⟩ = some (.int .i64 f.next) ∧ w'.cell? ⟨w.heap.size, 9, none⟩ = some (.bool f.doubles))) (by kernel_rfl) ?_ (fun hD0 => ?_)
      · (try dsimp only); (exact kp)
      refine tW ?_ 0 rfl (by kernel_rfl) (fun _ _ _ h => h) (by rfl) (by assumption) ?_ ?_; rotate_left; (focus (intro w hSw; (try dsimp only at hSw); go_simp; try with_reducible rfl)); try simp only [Act.put, zl, z0, z1]
      refine tW ?_ 1 rfl (by kernel_rfl) (fun _ _ _ h => h) (by rfl) (by assumption) ?_ ?_; rotate_left; (focus (intro w hSw; (try dsimp only at hSw); go_simp; try with_reducible rfl)); try simp only [Act.put, zl, z0, z1]
      refine tW ?_ 2 rfl (by kernel_rfl) (fun _ _ _ h => h) (by rfl) (by assumption) ?_ ?_; rotate_left; (focus (intro w hSw; (try dsimp only at hSw); go_simp; try with_reducible rfl)); try simp only [Act.put, zl, z0, z1]
      refine wpAnyH_ready (rs := [3]) (by kernel_rfl) (by simp) ?_; refine consL 3 rfl (fun K hK => ?_) AllReadyH.nil; go_simp
      (go_at_call 30; refine (refIsLast_any f won _ (by omega) (by omega)).mono ?_; rintro e w2 ⟨rfl, hb⟩; obtain ⟨hc, hf⟩ := bcell hb; have hz := hb.size; (try simp at hz))
      refine hK.out _ _ ?_ (fun hD1 => ?_)
      · (try dsimp only); (exact kp)
      clear hK K hD0; try simp only [Act.put, zl, z0, z1]
      refine wpAnyH_ready (rs := [4]) (by kernel_rfl) (by simp) ?_; refine consL 4 rfl (fun K hK => ?_) AllReadyH.nil; go_simp
      (go_at_call 70; refine (orders_ref f (M.ofSet f won) (M.lastB f won) _ HVS.out HTI.out HGM.out).mono ?_; rintro e w3 ⟨go, co, gv, cv, bo, bv, T, O, aa, rfl, hTO, hTV, hORD, hb⟩; obtain ⟨hc, hf⟩ := bcell hb; have hz := hb.size; (try simp at hz))
      refine hK.out _ _ ?_ (fun hD2 => ?_)
      · (try dsimp only); (exact kp)
      clear hK K hD1; try simp only [Act.put, zl, z0, z1]
      refine tW ?_ 5 rfl (by kernel_rfl) (fun _ _ _ h => h) (by rfl) (by assumption) ?_ ?_; rotate_left; (focus (intro w hSw; (try dsimp only at hSw); go_simp; try with_reducible rfl)); try simp only [Act.put, zl, z0, z1]
      refine tW ?_ 6 rfl (by kernel_rfl) (fun _ _ _ h => h) (by rfl) (by assumption) ?_ ?_; rotate_left; (focus (intro w hSw; (try dsimp only at hSw); go_simp; try with_reducible rfl)); try simp only [Act.put, zl, z0, z1]
      refine tW ?_ 7 rfl (by kernel_rfl) (fun _ _ _ h => h) (by rfl) (by assumption) ?_ ?_; rotate_left; (focus (intro w hSw; (try dsimp only at hSw); go_simp; try with_reducible rfl)); try simp only [Act.put, zl, z0, z1]
      refine tW ?_ 8 rfl (by kernel_rfl) (fun _ _ _ h => h) (by rfl) (by assumption) ?_ ?_; rotate_left; (focus (intro w hSw; (try dsimp only at hSw); go_simp; try with_reducible rfl)); try simp only [Act.put, zl, z0, z1]
      refine tW ?_ 9 rfl (by kernel_rfl) (fun _ _ _ h => h) (by rfl) (by assumption) ?_ ?_; rotate_left; (focus (intro w hSw; (try dsimp only at hSw); go_simp; try with_reducible rfl)); try simp only [Act.put, zl, z0, z1]
      refine wpAnyH_done (by kernel_rfl) ?_ _
      clear hTO hc hf hz
      have hBW3 : Below w.heap.size w w3 := by go_split_ands; assumption
      have c0 : w3.cell? ⟨b, o + k * 2, none⟩ = some (.int .i64 (x : Int)) := (hBW3.cell (p := ⟨b, o + k * 2, none⟩) hbB).trans HC0.out
      have c1 : w3.cell? ⟨b, o + k * 2 + 1, none⟩ = some (.int .i64 (y : Int)) := (hBW3.cell (p := ⟨b, o + k * 2 + 1, none⟩) hbB).trans HC1.out
      have hbw3 : b < w3.heap.size := Nat.lt_of_lt_of_le hbB hBW3.size
      clear hBW3
      go_upto_region 8 with fail
      have HOV := hide ((hORD.fin (x := x) (y := y) (by omega) (by omega)).2.trans (M.over_set HVS.out (g := ⟨(x : Int), (y : Int)⟩) hx0 hy0))
      have t0 : w3.cell? ⟨gv, x, none⟩ = some (.slice (some ⟨bv x, 0, none⟩) 45 45) := hTV.cell x (by omega)
      have t1 : w3.cell? ⟨bv x, y, none⟩ = some (.int .i64 (O x y)) := hTV.rows.at_ (by omega) (by omega)
      have t2 := hTV.gl
      have t3 := hTV.rows.bl (show x < 45 by omega)
      have ht4 : 0 ≤ O x y := (hORD.ob x y).1
      clear hTV hORD
      obtain ⟨ov, hov⟩ : ∃ q, O x y = q := ⟨_, rfl⟩
      rw [hov] at HOV t1 ht4
      clear hov hb
      by_cases hz0 : ov = 0
      · have HO := hide (show r = false by rw [← HRES.out]; exact standB_none (by rw [HWB.out, HWO.out]; exact M.wonBy_stop HQ.out (.inr (by rw [← HWO.out]; exact Classical.byContradiction fun h => by have := HOV.out.2 h; omega))) g p)
        refine wp_region_held_drew (S := (fun w' => Below w.heap.size w w' ∧ w.heap.size < w'.heap.size ∧ w.heap.size + 1 < w'.heap.size ∧ w.heap.size + 1 + 1 < w'.heap.size ∧ w'.cell? ⟨w.heap.size + 1 + 1, 0, none⟩ = some (.int .i64 won.A) ∧ w'.cell? ⟨w.heap.size + 1 + 1, 1, none⟩ = some (.int .i64 won.B) ∧ w'.frozen? ⟨w.heap.size + 1 + 1, 0, none⟩ = false ∧ w'.frozen? ⟨w.heap.size + 1 + 1, 1, none⟩ = false ∧ w'.cell? ⟨w.heap.size + 1, 0, none⟩ = some (.slice (some ⟨b, o, none⟩) n c) ∧ w'.cell? ⟨w.heap.size + 1, 1, none⟩ = some (.int .i64 g.A) ∧ w'.cell? ⟨w.heap.size + 1, 2, none⟩ = some (.int .i64 g.B) ∧ w'.cell? ⟨w.heap.size + 1, 3, none⟩ = some (.int .i64 p.A) ∧ w'.cell? ⟨w.heap.size + 1, 4, none⟩ = some (.int .i64 p.B) ∧ w'.cell? ⟨w.heap.size, 0, none⟩ = some (.int .i64 f.sets) ∧ w'.cell? ⟨w.heap.size, 1, none⟩ = some (.int .i64 f.games) ∧ w'.cell? ⟨w.heap.size, 2, none⟩ = some (.bool f.noAd) ∧ w'.cell? ⟨w.heap.size, 3, none⟩ = some (.int .i64 f.tie) ∧ w'.cell? ⟨w.heap.size, 4, none⟩ = some (.int .i64 f.to) ∧ w'.cell? ⟨w.heap.size, 5, none⟩ = some (.int .i64 f.lastTie) ∧ w'.cell? ⟨w.heap.size, 6, none⟩ = some (.int .i64 f.lastTo) ∧ w'.cell? ⟨w.heap.size, 7, none⟩ = some (.int .i64 f.first) ∧ w'.cell? ⟨w.heap.size, 8, none⟩ = some (.int .i64 f.next) ∧ w'.cell? ⟨w.heap.size, 9, none⟩ = some (.bool f.doubles) ∧ w'.cell? ⟨gv, x, none⟩ = some (.slice (some ⟨bv x, 0, none⟩) 45 45) ∧ w'.cell? ⟨bv x, y, none⟩ = some (.int .i64 ov) ∧ gv < w'.heap.size ∧ bv x < w'.heap.size ∧ w'.cell? ⟨b, o + k * 2, none⟩ = some (.int .i64 (x : Int)) ∧ w'.cell? ⟨b, o + k * 2 + 1, none⟩ = some (.int .i64 (y : Int)) ∧ b < w'.heap.size)) (by kernel_rfl) ?_ (fun hD0 => ?_)
        · (try dsimp only); (exact kp)
        refine tW ?_ 0 rfl (by kernel_rfl) (fun _ _ _ h => h) (by rfl) (by assumption) ?_ ?_; rotate_left; (focus (intro w hSw; (try dsimp only at hSw); go_simp; try with_reducible rfl)); try simp only [Act.put, zl, z0, z1]
        refine tW ?_ 1 rfl (by kernel_rfl) (fun _ _ _ h => h) (by rfl) (by assumption) ?_ ?_; rotate_left; (focus (intro w hSw; (try dsimp only at hSw); go_simp; try with_reducible rfl)); try simp only [Act.put, zl, z0, z1]
        refine tW ?_ 2 rfl (by kernel_rfl) (fun _ _ _ h => h) (by rfl) (by assumption) ?_ ?_; rotate_left; (focus (intro w hSw; (try dsimp only at hSw); go_simp; try with_reducible rfl)); try simp only [Act.put, zl, z0, z1]
        refine tW ?_ 3 rfl (by kernel_rfl) (fun _ _ _ h => h) (by rfl) (by assumption) ?_ ?_; rotate_left; (focus (intro w hSw; (try dsimp only at hSw); go_simp; try with_reducible rfl)); try simp only [Act.put, zl, z0, z1]
        refine tW ?_ 4 rfl (by kernel_rfl) (fun _ _ _ h => h) (by rfl) (by assumption) ?_ ?_; rotate_left; (focus (intro w hSw; (try dsimp only at hSw); go_simp; try with_reducible rfl)); try simp only [Act.put, zl, z0, z1]
        refine tW ?_ 5 rfl (by kernel_rfl) (fun _ _ _ h => h) (by rfl) (by assumption) ?_ ?_; rotate_left; (focus (intro w hSw; (try dsimp only at hSw); go_simp; try with_reducible rfl)); try simp only [Act.put, zl, z0, z1]
        refine tW ?_ 6 rfl (by kernel_rfl) (fun _ _ _ h => h) (by rfl) (by assumption) ?_ ?_; rotate_left; (focus (intro w hSw; (try dsimp only at hSw); go_simp; try with_reducible rfl)); try simp only [Act.put, zl, z0, z1]
        refine tW ?_ 7 rfl (by kernel_rfl) (fun _ _ _ h => h) (by rfl) (by assumption) ?_ ?_; rotate_left; (focus (intro w hSw; (try dsimp only at hSw); go_simp; try with_reducible rfl)); try simp only [Act.put, zl, z0, z1]
        refine tW ?_ 8 rfl (by kernel_rfl) (fun _ _ _ h => h) (by rfl) (by assumption) ?_ ?_; rotate_left; (focus (intro w hSw; (try dsimp only at hSw); go_simp; try with_reducible rfl)); try simp only [Act.put, zl, z0, z1]
        refine tW ?_ 9 rfl (by kernel_rfl) (fun _ _ _ h => h) (by rfl) (by assumption) ?_ ?_; rotate_left; (focus (intro w hSw; (try dsimp only at hSw); go_simp; try with_reducible rfl)); try simp only [Act.put, zl, z0, z1]
        refine tW ?_ 10 rfl (by kernel_rfl) (fun _ _ _ h => h) (by rfl) (by assumption) ?_ ?_; rotate_left; (focus (intro w hSw; (try dsimp only at hSw); go_simp; try with_reducible rfl)); try simp only [Act.put, zl, z0, z1]
        refine tW ?_ 11 rfl (by kernel_rfl) (fun _ _ _ h => h) (by rfl) (by assumption) ?_ ?_; rotate_left; (focus (intro w hSw; (try dsimp only at hSw); go_simp; try with_reducible rfl)); try simp only [Act.put, zl, z0, z1]
        refine tW ?_ 12 rfl (by kernel_rfl) (fun _ _ _ h => h) (by rfl) (by assumption) ?_ ?_; rotate_left; (focus (intro w hSw; (try dsimp only at hSw); go_simp; try with_reducible rfl)); try simp only [Act.put, zl, z0, z1]
        refine tW ?_ 13 rfl (by kernel_rfl) (fun _ _ _ h => h) (by rfl) (by assumption) ?_ ?_; rotate_left; (focus (intro w hSw; (try dsimp only at hSw); go_simp; try with_reducible rfl)); try simp only [Act.put, zl, z0, z1]
        refine tW ?_ 14 rfl (by kernel_rfl) (fun _ _ _ h => h) (by rfl) (by assumption) ?_ ?_; rotate_left; (focus (intro w hSw; (try dsimp only at hSw); go_simp; try with_reducible rfl)); try simp only [Act.put, zl, z0, z1]
        refine tW ?_ 15 rfl (by kernel_rfl) (fun _ _ _ h => h) (by rfl) (by assumption) ?_ ?_; rotate_left; (focus (intro w hSw; (try dsimp only at hSw); go_simp; try with_reducible rfl)); try simp only [Act.put, zl, z0, z1]
        refine tW ?_ 16 rfl (by kernel_rfl) (fun _ _ _ h => h) (by rfl) (by assumption) ?_ ?_; rotate_left; (focus (intro w hSw; (try dsimp only at hSw); go_simp; try with_reducible rfl)); try simp only [Act.put, zl, z0, z1]
        refine tW ?_ 17 rfl (by kernel_rfl) (fun _ _ _ h => h) (by rfl) (by assumption) ?_ ?_; rotate_left; (focus (intro w hSw; (try dsimp only at hSw); go_simp; try with_reducible rfl)); try simp only [Act.put, zl, z0, z1]
        refine wpAnyH_done (by kernel_rfl) ?_ _
        go_wp2_with fail
        go_ret
        exact ⟨by rw [HO.out]; rfl, by (go_split_ands; (exact kb))⟩
      · obtain ⟨won2, hw2⟩ : ∃ q, M.wonR M.zero (ps.take (k + 1)) = q := ⟨_, rfl⟩
        have HW2 := hide hw2
        clear hw2
        have HB2 := hide (wonR_bd (ps.take (k + 1)) M.zero (by decide) (by decide))
        rw [HW2.out, show (M.zero).A = 0 from rfl, show (M.zero).B = 0 from rfl, List.length_take] at HB2
        have HWB2 := hide (show M.wonBy f M.zero ps = M.wonBy f won2 (ps.drop (k + 1)) by
          rw [HWB.out, HWO.out, ← HW2.out]
          exact M.wonBy_go HV.out HQ.out ⟨hx0, hy0⟩ (by rw [← HWO.out]; exact HNW.out) (by rw [← HWO.out]; exact HOV.out.1 (by omega)))
        refine wp_region_held_drew (S := (fun w' => Below w.heap.size w w' ∧ w.heap.size < w'.heap.size ∧ w.heap.size + 1 < w'.heap.size ∧ w.heap.size + 1 + 1 < w'.heap.size ∧ w'.cell? ⟨w.heap.size + 1 + 1, 0, none⟩ = some (.int .i64 won.A) ∧ w'.cell? ⟨w.heap.size + 1 + 1, 1, none⟩ = some (.int .i64 won.B) ∧ w'.frozen? ⟨w.heap.size + 1 + 1, 0, none⟩ = false ∧ w'.frozen? ⟨w.heap.size + 1 + 1, 1, none⟩ = false ∧ w'.cell? ⟨w.heap.size + 1, 0, none⟩ = some (.slice (some ⟨b, o, none⟩) n c) ∧ w'.cell? ⟨w.heap.size + 1, 1, none⟩ = some (.int .i64 g.A) ∧ w'.cell? ⟨w.heap.size + 1, 2, none⟩ = some (.int .i64 g.B) ∧ w'.cell? ⟨w.heap.size + 1, 3, none⟩ = some (.int .i64 p.A) ∧ w'.cell? ⟨w.heap.size + 1, 4, none⟩ = some (.int .i64 p.B) ∧ w'.cell? ⟨w.heap.size, 0, none⟩ = some (.int .i64 f.sets) ∧ w'.cell? ⟨w.heap.size, 1, none⟩ = some (.int .i64 f.games) ∧ w'.cell? ⟨w.heap.size, 2, none⟩ = some (.bool f.noAd) ∧ w'.cell? ⟨w.heap.size, 3, none⟩ = some (.int .i64 f.tie) ∧ w'.cell? ⟨w.heap.size, 4, none⟩ = some (.int .i64 f.to) ∧ w'.cell? ⟨w.heap.size, 5, none⟩ = some (.int .i64 f.lastTie) ∧ w'.cell? ⟨w.heap.size, 6, none⟩ = some (.int .i64 f.lastTo) ∧ w'.cell? ⟨w.heap.size, 7, none⟩ = some (.int .i64 f.first) ∧ w'.cell? ⟨w.heap.size, 8, none⟩ = some (.int .i64 f.next) ∧ w'.cell? ⟨w.heap.size, 9, none⟩ = some (.bool f.doubles) ∧ w'.cell? ⟨gv, x, none⟩ = some (.slice (some ⟨bv x, 0, none⟩) 45 45) ∧ w'.cell? ⟨bv x, y, none⟩ = some (.int .i64 ov) ∧ gv < w'.heap.size ∧ bv x < w'.heap.size ∧ w'.cell? ⟨b, o + k * 2, none⟩ = some (.int .i64 (x : Int)) ∧ w'.cell? ⟨b, o + k * 2 + 1, none⟩ = some (.int .i64 (y : Int)) ∧ b < w'.heap.size)) (by kernel_rfl) ?_ (fun hD0 => ?_)
        · (try dsimp only); (exact kp)
        refine tW ?_ 0 rfl (by kernel_rfl) (fun _ _ _ h => h) (by rfl) (by assumption) ?_ ?_; rotate_left; (focus (intro w hSw; (try dsimp only at hSw); go_simp; try with_reducible rfl)); try simp only [Act.put, zl, z0, z1]
        refine tW ?_ 1 rfl (by kernel_rfl) (fun _ _ _ h => h) (by rfl) (by assumption) ?_ ?_; rotate_left; (focus (intro w hSw; (try dsimp only at hSw); go_simp; try with_reducible rfl)); try simp only [Act.put, zl, z0, z1]
        refine tW ?_ 2 rfl (by kernel_rfl) (fun _ _ _ h => h) (by rfl) (by assumption) ?_ ?_; rotate_left; (focus (intro w hSw; (try dsimp only at hSw); go_simp; try with_reducible rfl)); try simp only [Act.put, zl, z0, z1]
        refine tW ?_ 3 rfl (by kernel_rfl) (fun _ _ _ h => h) (by rfl) (by assumption) ?_ ?_; rotate_left; (focus (intro w hSw; (try dsimp only at hSw); go_simp; try with_reducible rfl)); try simp only [Act.put, zl, z0, z1]
        refine tW ?_ 4 rfl (by kernel_rfl) (fun _ _ _ h => h) (by rfl) (by assumption) ?_ ?_; rotate_left; (focus (intro w hSw; (try dsimp only at hSw); go_simp; try with_reducible rfl)); try simp only [Act.put, zl, z0, z1]
        refine tW ?_ 5 rfl (by kernel_rfl) (fun _ _ _ h => h) (by rfl) (by assumption) ?_ ?_; rotate_left; (focus (intro w hSw; (try dsimp only at hSw); go_simp; try with_reducible rfl)); try simp only [Act.put, zl, z0, z1]
        refine tW ?_ 6 rfl (by kernel_rfl) (fun _ _ _ h => h) (by rfl) (by assumption) ?_ ?_; rotate_left; (focus (intro w hSw; (try dsimp only at hSw); go_simp; try with_reducible rfl)); try simp only [Act.put, zl, z0, z1]
        refine tW ?_ 7 rfl (by kernel_rfl) (fun _ _ _ h => h) (by rfl) (by assumption) ?_ ?_; rotate_left; (focus (intro w hSw; (try dsimp only at hSw); go_simp; try with_reducible rfl)); try simp only [Act.put, zl, z0, z1]
        refine tW ?_ 8 rfl (by kernel_rfl) (fun _ _ _ h => h) (by rfl) (by assumption) ?_ ?_; rotate_left; (focus (intro w hSw; (try dsimp only at hSw); go_simp; try with_reducible rfl)); try simp only [Act.put, zl, z0, z1]
        refine tW ?_ 9 rfl (by kernel_rfl) (fun _ _ _ h => h) (by rfl) (by assumption) ?_ ?_; rotate_left; (focus (intro w hSw; (try dsimp only at hSw); go_simp; try with_reducible rfl)); try simp only [Act.put, zl, z0, z1]
        refine tW ?_ 10 rfl (by kernel_rfl) (fun _ _ _ h => h) (by rfl) (by assumption) ?_ ?_; rotate_left; (focus (intro w hSw; (try dsimp only at hSw); go_simp; try with_reducible rfl)); try simp only [Act.put, zl, z0, z1]
        refine tW ?_ 11 rfl (by kernel_rfl) (fun _ _ _ h => h) (by rfl) (by assumption) ?_ ?_; rotate_left; (focus (intro w hSw; (try dsimp only at hSw); go_simp; try with_reducible rfl)); try simp only [Act.put, zl, z0, z1]
        refine tW ?_ 12 rfl (by kernel_rfl) (fun _ _ _ h => h) (by rfl) (by assumption) ?_ ?_; rotate_left; (focus (intro w hSw; (try dsimp only at hSw); go_simp; try with_reducible rfl)); try simp only [Act.put, zl, z0, z1]
        refine tW ?_ 13 rfl (by kernel_rfl) (fun _ _ _ h => h) (by rfl) (by assumption) ?_ ?_; rotate_left; (focus (intro w hSw; (try dsimp only at hSw); go_simp; try with_reducible rfl)); try simp only [Act.put, zl, z0, z1]
        refine tW ?_ 14 rfl (by kernel_rfl) (fun _ _ _ h => h) (by rfl) (by assumption) ?_ ?_; rotate_left; (focus (intro w hSw; (try dsimp only at hSw); go_simp; try with_reducible rfl)); try simp only [Act.put, zl, z0, z1]
        refine tW ?_ 15 rfl (by kernel_rfl) (fun _ _ _ h => h) (by rfl) (by assumption) ?_ ?_; rotate_left; (focus (intro w hSw; (try dsimp only at hSw); go_simp; try with_reducible rfl)); try simp only [Act.put, zl, z0, z1]
        refine tW ?_ 16 rfl (by kernel_rfl) (fun _ _ _ h => h) (by rfl) (by assumption) ?_ ?_; rotate_left; (focus (intro w hSw; (try dsimp only at hSw); go_simp; try with_reducible rfl)); try simp only [Act.put, zl, z0, z1]
        refine tW ?_ 17 rfl (by kernel_rfl) (fun _ _ _ h => h) (by rfl) (by assumption) ?_ ?_; rotate_left; (focus (intro w hSw; (try dsimp only at hSw); go_simp; try with_reducible rfl)); try simp only [Act.put, zl, z0, z1]
        refine wpAnyH_done (by kernel_rfl) ?_ _
        go_wp2_with (first | (go_at_call 31; refine (refWon_any (some ⟨b, o, none⟩) (k + 1) c (ps.take (k + 1)) _ (by rw [List.length_take]; have := HN.out; omega) (((HR.out.take (k + 1)).below (by go_split_ands; (exact kb))).mono (by go_split_ands; omega)) (by omega)).mono ?_; rw [HW2.out]; rintro e w5 ⟨rfl, hb⟩; obtain ⟨hc, hf⟩ := bcell hb; have hz := hb.size; (try simp at hz); have hSn : ((fun w' => Below w.heap.size w w' ∧ w.heap.size < w'.heap.size ∧ w.heap.size + 1 < w'.heap.size ∧ w.heap.size + 1 + 1 < w'.heap.size ∧ w'.cell? ⟨w.heap.size + 1 + 1, 0, none⟩ = some (.int .i64 won.A) ∧ w'.cell? ⟨w.heap.size + 1 + 1, 1, none⟩ = some (.int .i64 won.B) ∧ w'.frozen? ⟨w.heap.size + 1 + 1, 0, none⟩ = false ∧ w'.frozen? ⟨w.heap.size + 1 + 1, 1, none⟩ = false ∧ w'.cell? ⟨w.heap.size + 1, 0, none⟩ = some (.slice (some ⟨b, o, none⟩) n c) ∧ w'.cell? ⟨w.heap.size + 1, 1, none⟩ = some (.int .i64 g.A) ∧ w'.cell? ⟨w.heap.size + 1, 2, none⟩ = some (.int .i64 g.B) ∧ w'.cell? ⟨w.heap.size + 1, 3, none⟩ = some (.int .i64 p.A) ∧ w'.cell? ⟨w.heap.size + 1, 4, none⟩ = some (.int .i64 p.B) ∧ w'.cell? ⟨w.heap.size, 0, none⟩ = some (.int .i64 f.sets) ∧ w'.cell? ⟨w.heap.size, 1, none⟩ = some (.int .i64 f.games) ∧ w'.cell? ⟨w.heap.size, 2, none⟩ = some (.bool f.noAd) ∧ w'.cell? ⟨w.heap.size, 3, none⟩ = some (.int .i64 f.tie) ∧ w'.cell? ⟨w.heap.size, 4, none⟩ = some (.int .i64 f.to) ∧ w'.cell? ⟨w.heap.size, 5, none⟩ = some (.int .i64 f.lastTie) ∧ w'.cell? ⟨w.heap.size, 6, none⟩ = some (.int .i64 f.lastTo) ∧ w'.cell? ⟨w.heap.size, 7, none⟩ = some (.int .i64 f.first) ∧ w'.cell? ⟨w.heap.size, 8, none⟩ = some (.int .i64 f.next) ∧ w'.cell? ⟨w.heap.size, 9, none⟩ = some (.bool f.doubles))) w5 := (by (try dsimp only); (exact kp)); (try dsimp only at hSn); (try clear hS); have hS := hSn; clear hSn hc hf))
        go_roundw
        case rel => exact ⟨k + 1, by omega, by go_num, won2, hide HW2.out.symm, HWB2, hide (by have := HB2.out; omega), by (exact kp)⟩
        case measure => simp [intOf]; omega
    · have hkn : k = n := by omega
      have HWN := hide (show won = M.wonR M.zero ps by rw [HWO.out, List.take_of_length_le (by have := HN.out; omega)])
      have HRE := hide (show r = M.rest f won g p by rw [← HRES.out]; exact standB_some (by rw [HWB.out, List.drop_of_length_le (by have := HN.out; omega)]; rfl) g p)
      clear HWO HWB HRES
      subst hkn
      by_cases hwn : won.A = f.sets ∨ won.B = f.sets
      · have HRR := hide (show r = ((g.A == 0 && g.B == 0) && (p.A == 0 && p.B == 0)) by rw [HRE.out]; exact if_pos (M.winner_iff.2 hwn))
        clear HRE
        by_cases hA0 : won.A = f.sets
        · clear hwn
          by_cases hga : g.A = 0
          · by_cases hgb : g.B = 0
            · by_cases hpa : p.A = 0
              · by_cases hpb : p.B = 0
                · have HO := hide (show r = true by rw [HRR.out, hga, hgb, hpa, hpb]; rfl)
                  go_wp2_with fail
                  go_ret
                  exact ⟨by rw [HO.out]; rfl, by (go_split_ands; (exact kb))⟩
                · have HO := hide (show r = false by rw [HRR.out, hga, hgb, hpa]; simpa using hpb)
                  go_wp2_with fail
                  go_ret
                  exact ⟨by rw [HO.out]; rfl, by (go_split_ands; (exact kb))⟩
              · have HO := hide (show r = false by rw [HRR.out, hga, hgb]; simp [hpa])
                go_wp2_with fail
                go_ret
                exact ⟨by rw [HO.out]; rfl, by (go_split_ands; (exact kb))⟩
            · have HO := hide (show r = false by rw [HRR.out, hga]; simp [hgb])
              go_wp2_with fail
              go_ret
              exact ⟨by rw [HO.out]; rfl, by (go_split_ands; (exact kb))⟩
          · have HO := hide (show r = false by rw [HRR.out]; simp [hga])
            go_wp2_with fail
            go_ret
            exact ⟨by rw [HO.out]; rfl, by (go_split_ands; (exact kb))⟩
        · have hB0 : won.B = f.sets := hwn.resolve_left hA0
          have hA1 : (won.A == f.sets) = false := by simpa using hA0
          clear hwn
          by_cases hga : g.A = 0
          · by_cases hgb : g.B = 0
            · by_cases hpa : p.A = 0
              · by_cases hpb : p.B = 0
                · have HO := hide (show r = true by rw [HRR.out, hga, hgb, hpa, hpb]; rfl)
                  go_wp2_with fail
                  go_ret
                  exact ⟨by rw [HO.out]; rfl, by (go_split_ands; (exact kb))⟩
                · have HO := hide (show r = false by rw [HRR.out, hga, hgb, hpa]; simpa using hpb)
                  go_wp2_with fail
                  go_ret
                  exact ⟨by rw [HO.out]; rfl, by (go_split_ands; (exact kb))⟩
              · have HO := hide (show r = false by rw [HRR.out, hga, hgb]; simp [hpa])
                go_wp2_with fail
                go_ret
                exact ⟨by rw [HO.out]; rfl, by (go_split_ands; (exact kb))⟩
            · have HO := hide (show r = false by rw [HRR.out, hga]; simp [hgb])
              go_wp2_with fail
              go_ret
              exact ⟨by rw [HO.out]; rfl, by (go_split_ands; (exact kb))⟩
          · have HO := hide (show r = false by rw [HRR.out]; simp [hga])
            go_wp2_with fail
            go_ret
            exact ⟨by rw [HO.out]; rfl, by (go_split_ands; (exact kb))⟩
      · have hA0 : ¬ won.A = f.sets := fun h => hwn (.inl h)
        have hB0 : ¬ won.B = f.sets := fun h => hwn (.inr h)
        have hA1 : (won.A == f.sets) = false := by simpa using hA0
        have hB1 : (won.B == f.sets) = false := by simpa using hB0
        have HRR := hide (show r = (M.gamesArise (M.ofSet f won) g && M.pointsArise (M.ofSet f won) (M.isTie (M.ofSet f won) g) p) by rw [HRE.out]; exact if_neg (fun h => hwn (M.winner_iff.1 h)))
        have HTT := hide (rtied_isTie (f := f) HWN.out (g := g) HGB.out.1)
        have HTO := hide (show M.rto f ps = (M.ofSet f won).to by unfold M.rto; rw [← HWN.out])
        clear HRE hwn
        obtain ⟨xi, yi⟩ := g
        dsimp only at HGB HRR HTT
        obtain ⟨x, rfl⟩ : ∃ x : Nat, xi = (x : Int) := ⟨xi.toNat, by have := HGB.out; omega⟩
        obtain ⟨y, rfl⟩ : ∃ y : Nat, yi = (y : Int) := ⟨yi.toNat, by have := HGB.out; omega⟩
        have hx40 : x ≤ 40 := by have := HGB.out; omega
        have hy40 : y ≤ 40 := by have := HGB.out; omega
        have hx0 : (0 : Int) ≤ (x : Int) := by omega
        have hy0 : (0 : Int) ≤ (y : Int) := by omega
        have hx45 : (x : Int) < 45 := by omega
        have hy45 : (y : Int) < 45 := by omega
        dsimp only at hS0
        go_upto_region 13 with fail
        refine wp_region_held_drew (S := (fun w' => Below w.heap.size w w' ∧ w.heap.size < w'.heap.size ∧ w.heap.size + 1 < w'.heap.size ∧ w.heap.size + 1 + 1 < w'.heap.size ∧ w'.cell? ⟨w.heap.size + 1 + 1, 0, none⟩ = some (.int .i64 won.A) ∧ w'.cell? ⟨w.heap.size + 1 + 1, 1, none⟩ = some (.int .i64 won.B) ∧ w'.frozen? ⟨w.heap.size + 1 + 1, 0, none⟩ = false ∧ w'.frozen? ⟨w.heap.size + 1 + 1, 1, none⟩ = false ∧ w'.cell? ⟨w.heap.size + 1, 0, none⟩ = some (.slice A k c) ∧ w'.cell? ⟨w.heap.size + 1, 1, none⟩ = some (.int .i64 (x : Int)) ∧ w'.cell? ⟨w.heap.size + 1, 2, none⟩ = some (.int .i64 (y : Int)) ∧ w'.cell? ⟨w.heap.size + 1, 3, none⟩ = some (.int .i64 p.A) ∧ w'.cell? ⟨w.heap.size + 1, 4, none⟩ = some (.int .i64 p.B) ∧ w'.cell? ⟨w.heap.size, 0, none⟩ = some (.int .i64 f.sets) ∧ w'.cell? ⟨w.heap.size, 1, none⟩ = some (.int .i64 f.games) ∧ w'.cell? ⟨w.heap.size, 2, none⟩ = some (.bool f.noAd) ∧ w'.cell? ⟨w.heap.size, 3, none⟩ = some (.int .i64 f.tie) ∧ w'.cell? ⟨w.heap.size, 4, none⟩ = some (.int .i64 f.to) ∧ w'.cell? ⟨w.heap.size, 5, none⟩ = some (.int .i64 f.lastTie) ∧ w'.cell? ⟨w.heap.size, 6, none⟩ = some (.int .i64 f.lastTo) ∧ w'.cell? ⟨w.heap.size, 7, none⟩ = some (.int .i64 f.first) ∧ w'.cell? ⟨w.heap.size, 8, none⟩ = some (.int .i64 f.next) ∧ w'.cell? ⟨w.heap.size, 9, none⟩ = some (.bool f.doubles))) (by kernel_rfl) ?_ (fun hD0 => ?_)
        · (try dsimp only); (exact kp)
        refine tW ?_ 0 rfl (by kernel_rfl) (fun _ _ _ h => h) (by rfl) (by assumption) ?_ ?_; rotate_left; (focus (intro w hSw; (try dsimp only at hSw); go_simp; try with_reducible rfl)); try simp only [Act.put, zl, z0, z1]
        refine tW ?_ 1 rfl (by kernel_rfl) (fun _ _ _ h => h) (by rfl) (by assumption) ?_ ?_; rotate_left; (focus (intro w hSw; (try dsimp only at hSw); go_simp; try with_reducible rfl)); try simp only [Act.put, zl, z0, z1]
        refine tW ?_ 2 rfl (by kernel_rfl) (fun _ _ _ h => h) (by rfl) (by assumption) ?_ ?_; rotate_left; (focus (intro w hSw; (try dsimp only at hSw); go_simp; try with_reducible rfl)); try simp only [Act.put, zl, z0, z1]
        refine wpAnyH_ready (rs := [3]) (by kernel_rfl) (by simp) ?_; refine consL 3 rfl (fun K hK => ?_) AllReadyH.nil; go_simp
        (go_at_call 30; refine (refIsLast_any f won _ (by omega) (by omega)).mono ?_; rintro e w2 ⟨rfl, hb⟩; obtain ⟨hc, hf⟩ := bcell hb; have hz := hb.size; (try simp at hz))
        refine hK.out _ _ ?_ (fun hD1 => ?_)
        · (try dsimp only); (exact kp)
        clear hK K hD0; try simp only [Act.put, zl, z0, z1]
        refine wpAnyH_ready (rs := [4]) (by kernel_rfl) (by simp) ?_; refine consL 4 rfl (fun K hK => ?_) AllReadyH.nil; go_simp
        (go_at_call 70; refine (orders_ref f (M.ofSet f won) (M.lastB f won) _ HVS.out HTI.out HGM.out).mono ?_; rintro e w3 ⟨go, co, gv, cv, bo, bv, T, O, aa, rfl, hTO, hTV, hORD, hb⟩; obtain ⟨hc, hf⟩ := bcell hb; have hz := hb.size; (try simp at hz))
        refine hK.out _ _ ?_ (fun hD2 => ?_)
        · (try dsimp only); (exact kp)
        clear hK K hD1; try simp only [Act.put, zl, z0, z1]
        refine tW ?_ 5 rfl (by kernel_rfl) (fun _ _ _ h => h) (by rfl) (by assumption) ?_ ?_; rotate_left; (focus (intro w hSw; (try dsimp only at hSw); go_simp; try with_reducible rfl)); try simp only [Act.put, zl, z0, z1]
        refine tW ?_ 6 rfl (by kernel_rfl) (fun _ _ _ h => h) (by rfl) (by assumption) ?_ ?_; rotate_left; (focus (intro w hSw; (try dsimp only at hSw); go_simp; try with_reducible rfl)); try simp only [Act.put, zl, z0, z1]
        refine tW ?_ 7 rfl (by kernel_rfl) (fun _ _ _ h => h) (by rfl) (by assumption) ?_ ?_; rotate_left; (focus (intro w hSw; (try dsimp only at hSw); go_simp; try with_reducible rfl)); try simp only [Act.put, zl, z0, z1]
        refine tW ?_ 8 rfl (by kernel_rfl) (fun _ _ _ h => h) (by rfl) (by assumption) ?_ ?_; rotate_left; (focus (intro w hSw; (try dsimp only at hSw); go_simp; try with_reducible rfl)); try simp only [Act.put, zl, z0, z1]
        refine tW ?_ 9 rfl (by kernel_rfl) (fun _ _ _ h => h) (by rfl) (by assumption) ?_ ?_; rotate_left; (focus (intro w hSw; (try dsimp only at hSw); go_simp; try with_reducible rfl)); try simp only [Act.put, zl, z0, z1]
        refine wpAnyH_done (by kernel_rfl) ?_ _
        clear hTV hc hf hz
        have HOV := hide ((hORD.fin (x := x) (y := y) (by omega) (by omega)).1.trans (M.open_iff HVS.out (g := ⟨(x : Int), (y : Int)⟩) hx0 hy0))
        have t0 : w3.cell? ⟨go, x, none⟩ = some (.slice (some ⟨bo x, 0, none⟩) 45 45) := hTO.cell x (by omega)
        have t1 : w3.cell? ⟨bo x, y, none⟩ = some (.int .i64 (T x y)) := hTO.rows.at_ (by omega) (by omega)
        have t2 := hTO.gl
        have t3 := hTO.rows.bl (show x < 45 by omega)
        clear hTO hORD
        obtain ⟨ov, hov⟩ : ∃ q, T x y = q := ⟨_, rfl⟩
        rw [hov] at HOV t1
        clear hov hb
        obtain ⟨ti, hti⟩ : ∃ q, M.isTie (M.ofSet f won) ⟨(x : Int), (y : Int)⟩ = q := ⟨_, rfl⟩
        rw [hti] at HTT HRR
        clear hti
        obtain ⟨tt, htt⟩ : ∃ q, (M.ofSet f won).to = q := ⟨_, rfl⟩
        rw [htt] at HTO
        have HAR := hide (show areR f ti tt p = M.pointsArise (M.ofSet f won) ti p by rw [← htt]; exact areR_eq f _ ti p (ofSet_noAd f won))
        clear htt
        go_upto_region 15 with (first | (go_at_call 50; refine (refTied_any f A k c ps ⟨(x : Int), (y : Int)⟩ p _ HV.out HN.out ((HR.out.below (by go_split_ands; (exact kb))).mono (by go_split_ands; omega)) (by omega)).mono ?_; rw [HTT.out, HTO.out]; rintro e w5 ⟨rfl, hb⟩; obtain ⟨hc, hf⟩ := bcell hb; have hz := hb.size; (try simp at hz); have hSn : ((fun w' => Below w.heap.size w w' ∧ w.heap.size < w'.heap.size ∧ w.heap.size + 1 < w'.heap.size ∧ w.heap.size + 1 + 1 < w'.heap.size ∧ w'.cell? ⟨w.heap.size + 1 + 1, 0, none⟩ = some (.int .i64 won.A) ∧ w'.cell? ⟨w.heap.size + 1 + 1, 1, none⟩ = some (.int .i64 won.B) ∧ w'.frozen? ⟨w.heap.size + 1 + 1, 0, none⟩ = false ∧ w'.frozen? ⟨w.heap.size + 1 + 1, 1, none⟩ = false ∧ w'.cell? ⟨w.heap.size + 1, 0, none⟩ = some (.slice A k c) ∧ w'.cell? ⟨w.heap.size + 1, 1, none⟩ = some (.int .i64 (x : Int)) ∧ w'.cell? ⟨w.heap.size + 1, 2, none⟩ = some (.int .i64 (y : Int)) ∧ w'.cell? ⟨w.heap.size + 1, 3, none⟩ = some (.int .i64 p.A) ∧ w'.cell? ⟨w.heap.size + 1, 4, none⟩ = some (.int .i64 p.B) ∧ w'.cell? ⟨w.heap.size, 0, none⟩ = some (.int .i64 f.sets) ∧ w'.cell? ⟨w.heap.size, 1, none⟩ = some (.int .i64 f.games) ∧ w'.cell? ⟨w.heap.size, 2, none⟩ = some (.bool f.noAd) ∧ w'.cell? ⟨w.heap.size, 3, none⟩ = some (.int .i64 f.tie) ∧ w'.cell? ⟨w.heap.size, 4, none⟩ = some (.int .i64 f.to) ∧ w'.cell? ⟨w.heap.size, 5, none⟩ = some (.int .i64 f.lastTie) ∧ w'.cell? ⟨w.heap.size, 6, none⟩ = some (.int .i64 f.lastTo) ∧ w'.cell? ⟨w.heap.size, 7, none⟩ = some (.int .i64 f.first) ∧ w'.cell? ⟨w.heap.size, 8, none⟩ = some (.int .i64 f.next) ∧ w'.cell? ⟨w.heap.size, 9, none⟩ = some (.bool f.doubles) ∧ w'.cell? ⟨go, x, none⟩ = some (.slice (some ⟨bo x, 0, none⟩) 45 45) ∧ w'.cell? ⟨bo x, y, none⟩ = some (.int .i64 ov) ∧ go < w'.heap.size ∧ bo x < w'.heap.size)) w5 := (by (try dsimp only); (exact kp)); (try dsimp only at hSn); (try clear hS); have hS := hSn; clear hSn hc hf))
        by_cases hp0 : 0 < ov
        · have HO := hide (show r = areR f ti tt p by rw [HRR.out, HOV.out.1 hp0, HAR.out]; rfl)
          refine wp_region_held_drew (S := (fun w' => Below w.heap.size w w' ∧ w.heap.size < w'.heap.size ∧ w.heap.size + 1 < w'.heap.size ∧ w.heap.size + 1 + 1 < w'.heap.size ∧ w'.cell? ⟨w.heap.size + 1 + 1, 0, none⟩ = some (.int .i64 won.A) ∧ w'.cell? ⟨w.heap.size + 1 + 1, 1, none⟩ = some (.int .i64 won.B) ∧ w'.frozen? ⟨w.heap.size + 1 + 1, 0, none⟩ = false ∧ w'.frozen? ⟨w.heap.size + 1 + 1, 1, none⟩ = false ∧ w'.cell? ⟨w.heap.size + 1, 0, none⟩ = some (.slice A k c) ∧ w'.cell? ⟨w.heap.size + 1, 1, none⟩ = some (.int .i64 (x : Int)) ∧ w'.cell? ⟨w.heap.size + 1, 2, none⟩ = some (.int .i64 (y : Int)) ∧ w'.cell? ⟨w.heap.size + 1, 3, none⟩ = some (.int .i64 p.A) ∧ w'.cell? ⟨w.heap.size + 1, 4, none⟩ = some (.int .i64 p.B) ∧ w'.cell? ⟨w.heap.size, 0, none⟩ = some (.int .i64 f.sets) ∧ w'.cell? ⟨w.heap.size, 1, none⟩ = some (.int .i64 f.games) ∧ w'.cell? ⟨w.heap.size, 2, none⟩ = some (.bool f.noAd) ∧ w'.cell? ⟨w.heap.size, 3, none⟩ = some (.int .i64 f.tie) ∧ w'.cell? ⟨w.heap.size, 4, none⟩ = some (.int .i64 f.to) ∧ w'.cell? ⟨w.heap.size, 5, none⟩ = some (.int .i64 f.lastTie) ∧ w'.cell? ⟨w.heap.size, 6, none⟩ = some (.int .i64 f.lastTo) ∧ w'.cell? ⟨w.heap.size, 7, none⟩ = some (.int .i64 f.first) ∧ w'.cell? ⟨w.heap.size, 8, none⟩ = some (.int .i64 f.next) ∧ w'.cell? ⟨w.heap.size, 9, none⟩ = some (.bool f.doubles) ∧ w'.cell? ⟨go, x, none⟩ = some (.slice (some ⟨bo x, 0, none⟩) 45 45) ∧ w'.cell? ⟨bo x, y, none⟩ = some (.int .i64 ov) ∧ go < w'.heap.size ∧ bo x < w'.heap.size)) (by kernel_rfl) ?_ (fun hD0 => ?_)
          · (try dsimp only); (exact kp)
          refine tW ?_ 0 rfl (by kernel_rfl) (fun _ _ _ h => h) (by rfl) (by assumption) ?_ ?_; rotate_left; (focus (intro w hSw; (try dsimp only at hSw); go_simp; try with_reducible rfl)); try simp only [Act.put, zl, z0, z1]
          refine tW ?_ 1 rfl (by kernel_rfl) (fun _ _ _ h => h) (by rfl) (by assumption) ?_ ?_; rotate_left; (focus (intro w hSw; (try dsimp only at hSw); go_simp; try with_reducible rfl)); try simp only [Act.put, zl, z0, z1]
          refine tW ?_ 2 rfl (by kernel_rfl) (fun _ _ _ h => h) (by rfl) (by assumption) ?_ ?_; rotate_left; (focus (intro w hSw; (try dsimp only at hSw); go_simp; try with_reducible rfl)); try simp only [Act.put, zl, z0, z1]
          refine tW ?_ 3 rfl (by kernel_rfl) (fun _ _ _ h => h) (by rfl) (by assumption) ?_ ?_; rotate_left; (focus (intro w hSw; (try dsimp only at hSw); go_simp; try with_reducible rfl)); try simp only [Act.put, zl, z0, z1]
          refine tW ?_ 4 rfl (by kernel_rfl) (fun _ _ _ h => h) (by rfl) (by assumption) ?_ ?_; rotate_left; (focus (intro w hSw; (try dsimp only at hSw); go_simp; try with_reducible rfl)); try simp only [Act.put, zl, z0, z1]
          refine tW ?_ 5 rfl (by kernel_rfl) (fun _ _ _ h => h) (by rfl) (by assumption) ?_ ?_; rotate_left; (focus (intro w hSw; (try dsimp only at hSw); go_simp; try with_reducible rfl)); try simp only [Act.put, zl, z0, z1]
          refine tW ?_ 6 rfl (by kernel_rfl) (fun _ _ _ h => h) (by rfl) (by assumption) ?_ ?_; rotate_left; (focus (intro w hSw; (try dsimp only at hSw); go_simp; try with_reducible rfl)); try simp only [Act.put, zl, z0, z1]
          refine tW ?_ 7 rfl (by kernel_rfl) (fun _ _ _ h => h) (by rfl) (by assumption) ?_ ?_; rotate_left; (focus (intro w hSw; (try dsimp only at hSw); go_simp; try with_reducible rfl)); try simp only [Act.put, zl, z0, z1]
          refine tW ?_ 8 rfl (by kernel_rfl) (fun _ _ _ h => h) (by rfl) (by assumption) ?_ ?_; rotate_left; (focus (intro w hSw; (try dsimp only at hSw); go_simp; try with_reducible rfl)); try simp only [Act.put, zl, z0, z1]
          refine tW ?_ 9 rfl (by kernel_rfl) (fun _ _ _ h => h) (by rfl) (by assumption) ?_ ?_; rotate_left; (focus (intro w hSw; (try dsimp only at hSw); go_simp; try with_reducible rfl)); try simp only [Act.put, zl, z0, z1]
          refine tW ?_ 10 rfl (by kernel_rfl) (fun _ _ _ h => h) (by rfl) (by assumption) ?_ ?_; rotate_left; (focus (intro w hSw; (try dsimp only at hSw); go_simp; try with_reducible rfl)); try simp only [Act.put, zl, z0, z1]
          refine tW ?_ 11 rfl (by kernel_rfl) (fun _ _ _ h => h) (by rfl) (by assumption) ?_ ?_; rotate_left; (focus (intro w hSw; (try dsimp only at hSw); go_simp; try with_reducible rfl)); try simp only [Act.put, zl, z0, z1]
          refine tW ?_ 12 rfl (by kernel_rfl) (fun _ _ _ h => h) (by rfl) (by assumption) ?_ ?_; rotate_left; (focus (intro w hSw; (try dsimp only at hSw); go_simp; try with_reducible rfl)); try simp only [Act.put, zl, z0, z1]
          refine tW ?_ 13 rfl (by kernel_rfl) (fun _ _ _ h => h) (by rfl) (by assumption) ?_ ?_; rotate_left; (focus (intro w hSw; (try dsimp only at hSw); go_simp; try with_reducible rfl)); try simp only [Act.put, zl, z0, z1]
          refine tW ?_ 14 rfl (by kernel_rfl) (fun _ _ _ h => h) (by rfl) (by assumption) ?_ ?_; rotate_left; (focus (intro w hSw; (try dsimp only at hSw); go_simp; try with_reducible rfl)); try simp only [Act.put, zl, z0, z1]
          refine tW ?_ 15 rfl (by kernel_rfl) (fun _ _ _ h => h) (by rfl) (by assumption) ?_ ?_; rotate_left; (focus (intro w hSw; (try dsimp only at hSw); go_simp; try with_reducible rfl)); try simp only [Act.put, zl, z0, z1]
          refine tW ?_ 16 rfl (by kernel_rfl) (fun _ _ _ h => h) (by rfl) (by assumption) ?_ ?_; rotate_left; (focus (intro w hSw; (try dsimp only at hSw); go_simp; try with_reducible rfl)); try simp only [Act.put, zl, z0, z1]
          refine tW ?_ 17 rfl (by kernel_rfl) (fun _ _ _ h => h) (by rfl) (by assumption) ?_ ?_; rotate_left; (focus (intro w hSw; (try dsimp only at hSw); go_simp; try with_reducible rfl)); try simp only [Act.put, zl, z0, z1]
          refine wpAnyH_ready (rs := [18]) (by kernel_rfl) (by simp) ?_; refine consL 18 rfl (fun K hK => ?_) AllReadyH.nil; go_simp
          (go_at_call 71; refine (refAre_any f ti tt p _ (by have := HPB.out; omega) (by have := HPB.out; omega)).mono ?_; rintro e w6 ⟨rfl, hb⟩; obtain ⟨hc, hf⟩ := bcell hb; have hz := hb.size; (try simp at hz))
          refine hK.out _ _ ?_ (fun hD1 => ?_)
          · (try dsimp only); (exact kp)
          clear hK K hD0; try simp only [Act.put, zl, z0, z1]
          refine tW ?_ 19 rfl (by kernel_rfl) (fun _ _ _ h => h) (by rfl) (by assumption) ?_ ?_; rotate_left; (focus (intro w hSw; (try dsimp only at hSw); go_simp; try with_reducible rfl)); try simp only [Act.put, zl, z0, z1]
          refine tW ?_ 20 rfl (by kernel_rfl) (fun _ _ _ h => h) (by rfl) (by assumption) ?_ ?_; rotate_left; (focus (intro w hSw; (try dsimp only at hSw); go_simp; try with_reducible rfl)); try simp only [Act.put, zl, z0, z1]
          refine wpAnyH_done (by kernel_rfl) ?_ _
          go_wp2_with fail
          go_ret
          exact ⟨by rw [HO.out]; rfl, by (go_split_ands; (exact kb))⟩
        · have hp1 : ov ≤ 0 := by omega
          have HO := hide (show r = false by rw [HRR.out, show M.gamesArise (M.ofSet f won) ⟨(x : Int), (y : Int)⟩ = false from Bool.eq_false_iff.2 fun h => hp0 (HOV.out.2 h)]; rfl)
          refine wp_region_held_drew (S := (fun w' => Below w.heap.size w w' ∧ w.heap.size < w'.heap.size ∧ w.heap.size + 1 < w'.heap.size ∧ w.heap.size + 1 + 1 < w'.heap.size ∧ w'.cell? ⟨w.heap.size + 1 + 1, 0, none⟩ = some (.int .i64 won.A) ∧ w'.cell? ⟨w.heap.size + 1 + 1, 1, none⟩ = some (.int .i64 won.B) ∧ w'.frozen? ⟨w.heap.size + 1 + 1, 0, none⟩ = false ∧ w'.frozen? ⟨w.heap.size + 1 + 1, 1, none⟩ = false ∧ w'.cell? ⟨w.heap.size + 1, 0, none⟩ = some (.slice A k c) ∧ w'.cell? ⟨w.heap.size + 1, 1, none⟩ = some (.int .i64 (x : Int)) ∧ w'.cell? ⟨w.heap.size + 1, 2, none⟩ = some (.int .i64 (y : Int)) ∧ w'.cell? ⟨w.heap.size + 1, 3, none⟩ = some (.int .i64 p.A) ∧ w'.cell? ⟨w.heap.size + 1, 4, none⟩ = some (.int .i64 p.B) ∧ w'.cell? ⟨w.heap.size, 0, none⟩ = some (.int .i64 f.sets) ∧ w'.cell? ⟨w.heap.size, 1, none⟩ = some (.int .i64 f.games) ∧ w'.cell? ⟨w.heap.size, 2, none⟩ = some (.bool f.noAd) ∧ w'.cell? ⟨w.heap.size, 3, none⟩ = some (.int .i64 f.tie) ∧ w'.cell? ⟨w.heap.size, 4, none⟩ = some (.int .i64 f.to) ∧ w'.cell? ⟨w.heap.size, 5, none⟩ = some (.int .i64 f.lastTie) ∧ w'.cell? ⟨w.heap.size, 6, none⟩ = some (.int .i64 f.lastTo) ∧ w'.cell? ⟨w.heap.size, 7, none⟩ = some (.int .i64 f.first) ∧ w'.cell? ⟨w.heap.size, 8, none⟩ = some (.int .i64 f.next) ∧ w'.cell? ⟨w.heap.size, 9, none⟩ = some (.bool f.doubles) ∧ w'.cell? ⟨go, x, none⟩ = some (.slice (some ⟨bo x, 0, none⟩) 45 45) ∧ w'.cell? ⟨bo x, y, none⟩ = some (.int .i64 ov) ∧ go < w'.heap.size ∧ bo x < w'.heap.size)) (by kernel_rfl) ?_ (fun hD0 => ?_)
          · (try dsimp only); (exact kp)
          refine tW ?_ 0 rfl (by kernel_rfl) (fun _ _ _ h => h) (by rfl) (by assumption) ?_ ?_; rotate_left; (focus (intro w hSw; (try dsimp only at hSw); go_simp; try with_reducible rfl)); try simp only [Act.put, zl, z0, z1]
          refine tW ?_ 1 rfl (by kernel_rfl) (fun _ _ _ h => h) (by rfl) (by assumption) ?_ ?_; rotate_left; (focus (intro w hSw; (try dsimp only at hSw); go_simp; try with_reducible rfl)); try simp only [Act.put, zl, z0, z1]
          refine tW ?_ 2 rfl (by kernel_rfl) (fun _ _ _ h => h) (by rfl) (by assumption) ?_ ?_; rotate_left; (focus (intro w hSw; (try dsimp only at hSw); go_simp; try with_reducible rfl)); try simp only [Act.put, zl, z0, z1]
          refine tW ?_ 3 rfl (by kernel_rfl) (fun _ _ _ h => h) (by rfl) (by assumption) ?_ ?_; rotate_left; (focus (intro w hSw; (try dsimp only at hSw); go_simp; try with_reducible rfl)); try simp only [Act.put, zl, z0, z1]
          refine tW ?_ 4 rfl (by kernel_rfl) (fun _ _ _ h => h) (by rfl) (by assumption) ?_ ?_; rotate_left; (focus (intro w hSw; (try dsimp only at hSw); go_simp; try with_reducible rfl)); try simp only [Act.put, zl, z0, z1]
          refine tW ?_ 5 rfl (by kernel_rfl) (fun _ _ _ h => h) (by rfl) (by assumption) ?_ ?_; rotate_left; (focus (intro w hSw; (try dsimp only at hSw); go_simp; try with_reducible rfl)); try simp only [Act.put, zl, z0, z1]
          refine tW ?_ 6 rfl (by kernel_rfl) (fun _ _ _ h => h) (by rfl) (by assumption) ?_ ?_; rotate_left; (focus (intro w hSw; (try dsimp only at hSw); go_simp; try with_reducible rfl)); try simp only [Act.put, zl, z0, z1]
          refine tW ?_ 7 rfl (by kernel_rfl) (fun _ _ _ h => h) (by rfl) (by assumption) ?_ ?_; rotate_left; (focus (intro w hSw; (try dsimp only at hSw); go_simp; try with_reducible rfl)); try simp only [Act.put, zl, z0, z1]
          refine tW ?_ 8 rfl (by kernel_rfl) (fun _ _ _ h => h) (by rfl) (by assumption) ?_ ?_; rotate_left; (focus (intro w hSw; (try dsimp only at hSw); go_simp; try with_reducible rfl)); try simp only [Act.put, zl, z0, z1]
          refine tW ?_ 9 rfl (by kernel_rfl) (fun _ _ _ h => h) (by rfl) (by assumption) ?_ ?_; rotate_left; (focus (intro w hSw; (try dsimp only at hSw); go_simp; try with_reducible rfl)); try simp only [Act.put, zl, z0, z1]
          refine tW ?_ 10 rfl (by kernel_rfl) (fun _ _ _ h => h) (by rfl) (by assumption) ?_ ?_; rotate_left; (focus (intro w hSw; (try dsimp only at hSw); go_simp; try with_reducible rfl)); try simp only [Act.put, zl, z0, z1]
          refine tW ?_ 11 rfl (by kernel_rfl) (fun _ _ _ h => h) (by rfl) (by assumption) ?_ ?_; rotate_left; (focus (intro w hSw; (try dsimp only at hSw); go_simp; try with_reducible rfl)); try simp only [Act.put, zl, z0, z1]
          refine tW ?_ 12 rfl (by kernel_rfl) (fun _ _ _ h => h) (by rfl) (by assumption) ?_ ?_; rotate_left; (focus (intro w hSw; (try dsimp only at hSw); go_simp; try with_reducible rfl)); try simp only [Act.put, zl, z0, z1]
          refine takeL 13 rfl (by kernel_rfl) (by kernel_rfl) (by kernel_rfl) (fun _ _ _ h => h) (Or.inr ⟨by rfl, rfl⟩) (by assumption) ?_; try simp only [Act.put, zl, z0, z1]
          refine takeL 14 rfl (by kernel_rfl) (by kernel_rfl) (by kernel_rfl) (fun _ _ _ h => h) (Or.inr ⟨by rfl, rfl⟩) (by assumption) ?_; try simp only [Act.put, zl, z0, z1]
          refine takeL 15 rfl (by kernel_rfl) (by kernel_rfl) (by kernel_rfl) (fun _ _ _ h => h) (Or.inr ⟨by rfl, rfl⟩) (by assumption) ?_; try simp only [Act.put, zl, z0, z1]
          refine takeL 16 rfl (by kernel_rfl) (by kernel_rfl) (by kernel_rfl) (fun _ _ _ h => h) (Or.inr ⟨by rfl, rfl⟩) (by assumption) ?_; try simp only [Act.put, zl, z0, z1]
          refine takeL 17 rfl (by kernel_rfl) (by kernel_rfl) (by kernel_rfl) (fun _ _ _ h => h) (Or.inr ⟨by rfl, rfl⟩) (by assumption) ?_; try simp only [Act.put, zl, z0, z1]
          refine takeL 18 rfl (by kernel_rfl) (by kernel_rfl) (by kernel_rfl) (fun _ _ _ h => h) (Or.inr ⟨by rfl, rfl⟩) (by assumption) ?_; try simp only [Act.put, zl, z0, z1]
          refine tW ?_ 19 rfl (by kernel_rfl) (fun _ _ _ h => h) (by rfl) (by assumption) ?_ ?_; rotate_left; (focus (intro w hSw; (try dsimp only at hSw); go_simp; try with_reducible rfl)); try simp only [Act.put, zl, z0, z1]
          refine tW ?_ 20 rfl (by kernel_rfl) (fun _ _ _ h => h) (by rfl) (by assumption) ?_ ?_; rotate_left; (focus (intro w hSw; (try dsimp only at hSw); go_simp; try with_reducible rfl)); try simp only [Act.put, zl, z0, z1]
          refine wpAnyH_done (by kernel_rfl) ?_ _
          go_wp2_with fail
          go_ret
          exact ⟨by rw [HO.out]; rfl, by (go_split_ands; (exact kb))⟩

end Go.Proofs.Ytmhaapghiecfcaa

namespace Go.Proofs.Ytmhaapghiecfcaa
open Go.RowKit
attribute [local go_sem ↓] Go.wp_at_zero Go.wp_at_succ

theorem run_app_Ps {w : World} (ty : TypeId) (base : Nat) (v : Value) (ps : List M.Pr) (m0 : Nat) (hown : w.ownsRow base 32 2 v m0 (flatP ps)) (hlen : ps.length = m0)
    (A : Option Addr) (n c : Nat) (xs : List M.Pr) (hn : xs.length = n) (hr : RdP w w.heap.size A xs) (hA : A = none → c = 0) (h0 : m0 ≤ 1000) (h1 : n ≤ 1000) (hbase : base ≤ w.heap.size) :
    ∃ A' c' w', (Builtin.append_ #[30, 30] ty #[v, .slice A n c]).run Try.prog w = .ok (.slice A' (m0 + n) c') w' ∧ w'.ownsRow base 32 2 (.slice A' (m0 + n) c') (m0 + n) (flatP (ps ++ xs)) ∧ w.grownBy w' v.ownBlock := by
  obtain ⟨i, hi, hz0, hz1, hz2⟩ := info_parts pair_info
  rcases A with _ | ad
  · have hx0 : xs = [] := by
      match xs, hr with
      | [], _ => rfl
      | x :: r, hr => obtain ⟨_, _, e, _⟩ := hr 0 x rfl; cases e
    subst hx0
    have hn0 : n = 0 := by simpa using hn.symm
    subst hn0
    have hc0 := hA rfl
    subst hc0
    obtain ⟨A', c', rfl⟩ := own_form hown
    have hrun := run_append_owned_none (P := Try.prog) (w := w) base 30 ty 32 i 2 Try.underlying30 hi (.slice A' m0 c') m0 (flatP ps) hown
    exact ⟨A', c', w, hrun, by simpa using hown, World.grownBy.refl w _⟩
  · obtain ⟨v', w', hrun, h2, h3, _, _⟩ := run_append_own_at (P := Try.prog) w base 30 ty 32 i _ 2 16 Try.underlying30 hi hz0 hz1 hz2 (by rfl) (by decide) v m0 (flatP ps) hown ad n c (flatP xs) (by rw [flatP_length, hn]) (flatP_cells hr) (flatP_one' xs) (by unfold maxLen; omega) (by omega) hbase
    obtain ⟨A', c', rfl⟩ := own_form h2
    exact ⟨A', c', w', hrun, by rw [flatP_app2]; exact h2, h3⟩
theorem wpList_app_Ps {w : World} {ops : Array Oper} {rest : List Oper} {o : Oper} {a : Act} {Q : Exit → Act → World → Prop} (hgd : o.guard = none) (s x : Operand)
    (ho : o.op = .call { callee := .builtin .append, args := #[s, x], argTypes := #[30, 30] }) (base : Nat) (v : Value) (ps : List M.Pr) (m0 : Nat) (hs : a.eval s = v) (hown : w.ownsRow base 32 2 v m0 (flatP ps)) (hlen : ps.length = m0)
    (A : Option Addr) (n c : Nat) (xs : List M.Pr) (hx : a.eval x = .slice A n c) (hn : xs.length = n) (hr : RdP w w.heap.size A xs) (hA : A = none → c = 0) (h0 : m0 ≤ 1000) (h1 : n ≤ 1000) (hbase : base ≤ w.heap.size) (N : Nat) (hN : m0 + n = N)
    (h : ∀ A' c' w', w'.ownsRow base 32 2 (.slice A' N c') N (flatP (ps ++ xs)) → w.grownBy w' v.ownBlock → wpList Try.prog ops Q rest (a.put o.dst (.slice A' N c')) w') :
    wpList Try.prog ops Q (o :: rest) a w := by
  subst hN
  refine wpList_plain hgd fun K hK => ?_
  obtain ⟨A', c', w', hr', h2, h3⟩ := run_app_Ps o.type base v ps m0 hown hlen A n c xs hn hr hA h0 h1 hbase
  unfold Oper.wp execOp
  simp only [ho, resolve, invoke, builtin, Sem.run_bind, Sem.run_pure, Result.andThen_ok, List.map_toArray, List.map_cons, List.map_nil, hs, hx, hr']
  exact hK _ _ (h A' c' w' h2 h3)
theorem ownsP_two {w : World} {q B : Nat} {x y : M.Pr} (hq : w.heap[q]? = some (.cells #[.int .i64 x.A, .int .i64 x.B, .int .i64 y.A, .int .i64 y.B] 32 (0, 0))) (h : B ≤ q) : w.ownsRow B 32 2 (.slice (some ⟨q, 0, Option.none⟩) 2 2) 2 (flatP [x, y]) :=
  ⟨rfl, .inr ⟨q, 2, _, rfl, h, hq, Nat.le_refl _, by decide, rfl, rfl⟩⟩
theorem two_new (w : World) (O O' : Obj) : ((w.alloc O).alloc O').heap[w.heap.size + 1]? = some O' := by
  have := heap_alloc_new (w.alloc O) O'
  rwa [World.size_alloc] at this
theorem fine_within (q : M.Pr) : M.fine q = (M.within q.A 0 40 && M.within q.B 0 40) := by
  unfold M.fine M.within
  simp [Bool.and_assoc]
theorem numbered_all (ps : List M.Pr) (g p : M.Pr) : M.numbered ps g p = ((g :: p :: ps).all M.fine && decide (ps.length ≤ 5)) := by
  unfold M.numbered
  simp only [List.all_cons]
  cases ps.all M.fine <;> cases M.fine g <;> cases M.fine p <;> simp

set_option maxHeartbeats 6400000 in
set_option maxRecDepth 100000 in
theorem refIsBoard_any (A : Option Addr) (n c : Nat) (ps : List M.Pr) (g p : M.Pr) (w : World) (hn : ps.length = n) (hr : RdP w w.heap.size A ps) (hA : A = none → c = 0) (hm : n ≤ 40) :
    Calls Try.prog 43 #[.agg #[.slice A n c, .int .i64 g.A, .int .i64 g.B, .int .i64 p.A, .int .i64 p.B]] w fun e w' => e = .returned (.bool (M.numbered ps g p)) ∧ Below w.heap.size w w' := by
  have HN := hide hn
  have HR := hide hr
  have HCAP := hide hA
  clear hn hr hA
  obtain ⟨r, hres⟩ : ∃ q, M.numbered ps g p = q := ⟨_, rfl⟩
  rw [hres]
  have HRES := hide hres
  clear hres
  go_enter Try.func43, Try.ntmps43
  go_upto_region 2 with (at_builtin; refine wpList_app_Ps rfl (.tmp 9) (.tmp 11) rfl w.heap.size (.slice (some ⟨w.heap.size + 1, 0, none⟩) 2 2) [g, p] 2 rfl (ownsP_two (two_new _ _ _) (by omega)) rfl A n c ps rfl HN.out ((HR.out.below (zbA (zbA (zbR _ _) (Nat.le_refl _) _) (by simp) _)).mono (by simp only [World.size_alloc]; omega)) HCAP.out (by omega) (by omega) (by simp only [World.size_alloc]; omega) (n + 2) (by omega) ?_; intro A7 c7 w2 hown hgrow; have HO2 := hide hown; have HG2 := hide hgrow; clear hown hgrow)
  have HB2 := hide ((zbA (zbA (zbR w.heap.size w) (Nat.le_refl _) _) (by simp) _).trans (grown_below (B := w.heap.size) HG2.out (by simp only [World.size_alloc]; omega) (fun g hg => by have h1 : w.heap.size + 1 = g := Option.some.inj hg; omega)))
  have HX2 := hide ((HG2.out.block w.heap.size (by simp only [World.size_alloc]; omega) (fun e => by have h1 : w.heap.size = w.heap.size + 1 := Option.some.inj e; omega)).trans ((heap_alloc_old _ _ (by simp only [World.size_alloc]; omega)).trans (heap_alloc_new _ _)))
  have x20 : w2.cell? ⟨w.heap.size, 0, none⟩ = some (.slice A n c) := (blk_cell HX2.out 0).trans rfl
  have hlx := blk_lt HX2.out
  have HRA := hide (owns_RdP HO2.out (by simp; have := HN.out; omega))
  have HLA := hide (show ([g, p] ++ ps).length = n + 2 by simp; have := HN.out; omega)
  have HNU := hide (show r = (([g, p] ++ ps).all M.fine && decide (n ≤ 5)) by rw [← HRES.out, numbered_all, HN.out]; rfl)
  clear HO2 HG2 HRES HR HCAP HX2
  generalize [g, p] ++ ps = qs at HRA HLA HNU
  go_wp2_with fail
  go_loopw [4] (fun i wr => ∃ k : Nat, k ≤ n + 2 ∧ i = .int .i64 k ∧ Hid ((qs.take k).all M.fine = true) ∧ Below w2.heap.size w2 wr) (fun i _ => n + 2 - (intOf i).toNat)
  case atStart => exact ⟨0, by omega, rfl, hide (by simp), Below.refl _ _⟩
  case round =>
    obtain ⟨k, hk, rfl, hno, hb2⟩ := hrel
    have hsz := hb2.size
    have hx0 := (hb2.cell (p := ⟨w.heap.size, 0, none⟩) hlx).trans x20
    by_cases hlt : k < n + 2
    · obtain ⟨q, hq⟩ : ∃ q, qs[k]? = some q := ⟨_, List.getElem?_eq_getElem (by have := HLA.out; omega)⟩
      obtain ⟨b, o, hA, hbB, c0, c1⟩ := (HRA.out.below hb2) k q hq
      subst hA
      have HQ := hide hq
      have hbw : b < wr.heap.size := Nat.lt_of_lt_of_le hbB hsz
      clear hq
      cases hwa : M.within q.A 0 40
      · have ho : r = false := by rw [HNU.out, all_no HQ.out (by rw [fine_within, hwa]; rfl)]; rfl
        have HO := hide ho
        clear ho
        go_wp2_with (first | (go_at_call 37; with_reducible refine (refWithin_f q.A 0 40 _ hwa).mono ?_; rintro e w' ⟨rfl, hb⟩; obtain ⟨hc, hf⟩ := bcell hb; have hz := hb.size; (try simp at hz); have hSn : ((fun w' => Below w2.heap.size w2 w')) w' := (by (try dsimp only); (exact kp)); (try dsimp only at hSn); (try clear hS); have hS := hSn; clear hSn hc hf))
        go_ret
        exact ⟨by rw [HO.out]; rfl, HB2.out.trans ((by assumption : Below w2.heap.size w2 _).mono HB2.out.size)⟩
      · cases hwb : M.within q.B 0 40
        · have ho : r = false := by rw [HNU.out, all_no HQ.out (by rw [fine_within, hwa, hwb]; rfl)]; rfl
          have HO := hide ho
          clear ho
          go_wp2_with (first | (go_at_call 37; with_reducible refine (refWithin_t q.A 0 40 _ hwa).mono ?_; rintro e w' ⟨rfl, hb⟩; obtain ⟨hc, hf⟩ := bcell hb; have hz := hb.size; (try simp at hz); have hSn : ((fun w' => Below w2.heap.size w2 w' ∧ w'.cell? ⟨b, o + k * 2 + 1, none⟩ = some (.int .i64 q.B))) w' := (by (try dsimp only); (exact kp)); (try dsimp only at hSn); (try clear hS); have hS := hSn; clear hSn hc hf) | (go_at_call 37; with_reducible refine (refWithin_f q.B 0 40 _ hwb).mono ?_; rintro e w' ⟨rfl, hb⟩; obtain ⟨hc, hf⟩ := bcell hb; have hz := hb.size; (try simp at hz); have hSn : ((fun w' => Below w2.heap.size w2 w')) w' := (by (try dsimp only); (exact kp)); (try dsimp only at hSn); (try clear hS); have hS := hSn; clear hSn hc hf))
          go_ret
          exact ⟨by rw [HO.out]; rfl, HB2.out.trans ((by go_split_ands; assumption : Below w2.heap.size w2 _).mono HB2.out.size)⟩
        · have HT := hide (all_take hno.out HQ.out (by rw [fine_within, hwa, hwb]; rfl))
          go_wp2_with (first | (go_at_call 37; with_reducible refine (refWithin_t q.A 0 40 _ hwa).mono ?_; rintro e w' ⟨rfl, hb⟩; obtain ⟨hc, hf⟩ := bcell hb; have hz := hb.size; (try simp at hz); have hSn : ((fun w' => Below w2.heap.size w2 w' ∧ w'.cell? ⟨b, o + k * 2 + 1, none⟩ = some (.int .i64 q.B))) w' := (by (try dsimp only); (exact kp)); (try dsimp only at hSn); (try clear hS); have hS := hSn; clear hSn hc hf) | (go_at_call 37; with_reducible refine (refWithin_t q.B 0 40 _ hwb).mono ?_; rintro e w' ⟨rfl, hb⟩; obtain ⟨hc, hf⟩ := bcell hb; have hz := hb.size; (try simp at hz); have hSn : ((fun w' => Below w2.heap.size w2 w')) w' := (by (try dsimp only); (exact kp)); (try dsimp only at hSn); (try clear hS); have hS := hSn; clear hSn hc hf))
          go_roundw
          case rel => exact ⟨k + 1, by omega, by go_num, HT, by go_split_ands; assumption⟩
          case measure => simp [intOf]; omega
    · have hkn : k = n + 2 := by omega
      have hall : qs.all M.fine = true := by
        have := hno.out
        rwa [List.take_of_length_le (by have := HLA.out; omega)] at this
      have HO := hide (show r = decide (n ≤ 5) by rw [HNU.out, hall]; rfl)
      clear hall hno
      subst hkn
      by_cases h5 : n ≤ 5
      · have h5' : (n : Int) ≤ 5 := by omega
        go_wp2_with fail
        go_ret
        exact ⟨by rw [HO.out, decide_eq_true h5]; first | rfl | (congr 2; simp; omega), HB2.out.trans (hb2.mono HB2.out.size)⟩
      · have h5' : (5 : Int) < (n : Int) := by omega
        go_wp2_with fail
        go_ret
        exact ⟨by rw [HO.out, decide_eq_false h5]; first | rfl | (congr 2; simp; omega), HB2.out.trans (hb2.mono HB2.out.size)⟩

end Go.Proofs.Ytmhaapghiecfcaa

namespace Go.Proofs.Ytmhaapghiecfcaa
open Go.RowKit
attribute [local go_sem ↓] Go.wp_at_zero Go.wp_at_succ

theorem refIsBoard_v (A : Option Addr) (n c : Nat) (ps : List M.Pr) (g p : M.Pr) (w : World) (v : Bool) (hn : ps.length = n) (hr : RdP w w.heap.size A ps) (hA : A = none → c = 0) (hm : n ≤ 40) (hv : M.numbered ps g p = v) :
    Calls Try.prog 43 #[.agg #[.slice A n c, .int .i64 g.A, .int .i64 g.B, .int .i64 p.A, .int .i64 p.B]] w fun e w' => e = .returned (.bool v) ∧ Below w.heap.size w w' := by
  subst hv
  exact refIsBoard_any A n c ps g p w hn hr hA hm
set_option maxHeartbeats 6400000 in
set_option maxRecDepth 100000 in
theorem refArises_any (f : M.Fm) (A : Option Addr) (n c : Nat) (ps : List M.Pr) (g p : M.Pr) (w : World) (hn : ps.length = n) (hr : RdP w w.heap.size A ps) (hA : A = none → c = 0) (hm : n ≤ 40) (hnc : n ≤ c) (hcm : c ≤ maxLen) :
    Calls Try.prog 19 #[.agg #[.int .i64 f.sets, .int .i64 f.games, .bool f.noAd, .int .i64 f.tie, .int .i64 f.to, .int .i64 f.lastTie, .int .i64 f.lastTo, .int .i64 f.first, .int .i64 f.next, .bool f.doubles], .agg #[.slice A n c, .int .i64 g.A, .int .i64 g.B, .int .i64 p.A, .int .i64 p.B]] w fun e w' => e = .returned (.tuple #[.bool (M.arisesB f ps g p), .int .i64 (M.arisesE f ps g p)]) ∧ Below w.heap.size w w' := by
  have HN := hide hn
  have HR := hide hr
  have HCAP := hide hA
  clear hn hr hA
  cases hv : M.validB f
  · have h1 : M.arisesB f ps g p = false := by unfold M.arisesB; rw [hv]; rfl
    have h2 : M.arisesE f ps g p = 10 := by unfold M.arisesE; rw [hv]; rfl
    rw [h1, h2]; clear h1 h2
    go_enter Try.func19, Try.ntmps19
    go_wp2_with (go_at_call 12; with_reducible refine (RefCheck_bad' f _ hv).mono ?_; rintro e w1 ⟨rfl, hb⟩; obtain ⟨hc, hf⟩ := bcell hb; have hz := hb.size; (try simp at hz); have hSn : ((fun w' => Below w.heap.size w w' ∧ w.heap.size < w'.heap.size ∧ w.heap.size + 1 < w'.heap.size ∧ w'.cell? ⟨w.heap.size + 1, 0, none⟩ = some (.slice A n c) ∧ w'.cell? ⟨w.heap.size + 1, 1, none⟩ = some (.int .i64 g.A) ∧ w'.cell? ⟨w.heap.size + 1, 2, none⟩ = some (.int .i64 g.B) ∧ w'.cell? ⟨w.heap.size + 1, 3, none⟩ = some (.int .i64 p.A) ∧ w'.cell? ⟨w.heap.size + 1, 4, none⟩ = some (.int .i64 p.B) ∧ w'.cell? ⟨w.heap.size, 0, none⟩ = some (.int .i64 f.sets) ∧ w'.cell? ⟨w.heap.size, 1, none⟩ = some (.int .i64 f.games) ∧ w'.cell? ⟨w.heap.size, 2, none⟩ = some (.bool f.noAd) ∧ w'.cell? ⟨w.heap.size, 3, none⟩ = some (.int .i64 f.tie) ∧ w'.cell? ⟨w.heap.size, 4, none⟩ = some (.int .i64 f.to) ∧ w'.cell? ⟨w.heap.size, 5, none⟩ = some (.int .i64 f.lastTie) ∧ w'.cell? ⟨w.heap.size, 6, none⟩ = some (.int .i64 f.lastTo) ∧ w'.cell? ⟨w.heap.size, 7, none⟩ = some (.int .i64 f.first) ∧ w'.cell? ⟨w.heap.size, 8, none⟩ = some (.int .i64 f.next) ∧ w'.cell? ⟨w.heap.size, 9, none⟩ = some (.bool f.doubles))) w1 := (by (try dsimp only); (exact kp)); (try dsimp only at hSn); (try clear hS); have hS := hSn; clear hSn hc hf)
    go_ret2
    exact ⟨rfl, by (go_split_ands; (exact kb))⟩
  · cases hnu : M.numbered ps g p
    · have h1 : M.arisesB f ps g p = false := by unfold M.arisesB; rw [hv, hnu]; rfl
      have h2 : M.arisesE f ps g p = 12 := by unfold M.arisesE; rw [hv, hnu]; rfl
      rw [h1, h2]; clear h1 h2
      go_enter Try.func19, Try.ntmps19
      go_wp2_with (first | (go_at_call 12; with_reducible refine (RefCheck_good' f _ hv).mono ?_; rintro e w1 ⟨rfl, hb⟩; obtain ⟨hc, hf⟩ := bcell hb; have hz := hb.size; (try simp at hz); have hSn : ((fun w' => Below w.heap.size w w' ∧ w.heap.size < w'.heap.size ∧ w.heap.size + 1 < w'.heap.size ∧ w'.cell? ⟨w.heap.size + 1, 0, none⟩ = some (.slice A n c) ∧ w'.cell? ⟨w.heap.size + 1, 1, none⟩ = some (.int .i64 g.A) ∧ w'.cell? ⟨w.heap.size + 1, 2, none⟩ = some (.int .i64 g.B) ∧ w'.cell? ⟨w.heap.size + 1, 3, none⟩ = some (.int .i64 p.A) ∧ w'.cell? ⟨w.heap.size + 1, 4, none⟩ = some (.int .i64 p.B) ∧ w'.cell? ⟨w.heap.size, 0, none⟩ = some (.int .i64 f.sets) ∧ w'.cell? ⟨w.heap.size, 1, none⟩ = some (.int .i64 f.games) ∧ w'.cell? ⟨w.heap.size, 2, none⟩ = some (.bool f.noAd) ∧ w'.cell? ⟨w.heap.size, 3, none⟩ = some (.int .i64 f.tie) ∧ w'.cell? ⟨w.heap.size, 4, none⟩ = some (.int .i64 f.to) ∧ w'.cell? ⟨w.heap.size, 5, none⟩ = some (.int .i64 f.lastTie) ∧ w'.cell? ⟨w.heap.size, 6, none⟩ = some (.int .i64 f.lastTo) ∧ w'.cell? ⟨w.heap.size, 7, none⟩ = some (.int .i64 f.first) ∧ w'.cell? ⟨w.heap.size, 8, none⟩ = some (.int .i64 f.next) ∧ w'.cell? ⟨w.heap.size, 9, none⟩ = some (.bool f.doubles))) w1 := (by (try dsimp only); (exact kp)); (try dsimp only at hSn); (try clear hS); have hS := hSn; clear hSn hc hf) | (go_at_call 43; with_reducible refine (refIsBoard_v A n c ps g p _ false HN.out ((HR.out.below (by exact hS.1)).mono (Nat.le_of_lt (by exact hS.2.1))) HCAP.out hm hnu).mono ?_; rintro e w2 ⟨rfl, hb⟩; obtain ⟨hc, hf⟩ := bcell hb; have hz := hb.size; (try simp at hz); have hSn : ((fun w' => Below w.heap.size w w' ∧ w.heap.size < w'.heap.size ∧ w.heap.size + 1 < w'.heap.size ∧ w'.cell? ⟨w.heap.size + 1, 0, none⟩ = some (.slice A n c) ∧ w'.cell? ⟨w.heap.size + 1, 1, none⟩ = some (.int .i64 g.A) ∧ w'.cell? ⟨w.heap.size + 1, 2, none⟩ = some (.int .i64 g.B) ∧ w'.cell? ⟨w.heap.size + 1, 3, none⟩ = some (.int .i64 p.A) ∧ w'.cell? ⟨w.heap.size + 1, 4, none⟩ = some (.int .i64 p.B) ∧ w'.cell? ⟨w.heap.size, 0, none⟩ = some (.int .i64 f.sets) ∧ w'.cell? ⟨w.heap.size, 1, none⟩ = some (.int .i64 f.games) ∧ w'.cell? ⟨w.heap.size, 2, none⟩ = some (.bool f.noAd) ∧ w'.cell? ⟨w.heap.size, 3, none⟩ = some (.int .i64 f.tie) ∧ w'.cell? ⟨w.heap.size, 4, none⟩ = some (.int .i64 f.to) ∧ w'.cell? ⟨w.heap.size, 5, none⟩ = some (.int .i64 f.lastTie) ∧ w'.cell? ⟨w.heap.size, 6, none⟩ = some (.int .i64 f.lastTo) ∧ w'.cell? ⟨w.heap.size, 7, none⟩ = some (.int .i64 f.first) ∧ w'.cell? ⟨w.heap.size, 8, none⟩ = some (.int .i64 f.next) ∧ w'.cell? ⟨w.heap.size, 9, none⟩ = some (.bool f.doubles))) w2 := (by (try dsimp only); (exact kp)); (try dsimp only at hSn); (try clear hS); have hS := hSn; clear hSn hc hf))
      go_ret2
      exact ⟨rfl, by (go_split_ands; (exact kb))⟩
    · have h1 : M.arisesB f ps g p = M.standB f ps g p := by unfold M.arisesB; rw [hv, hnu]; rfl
      have h2 : M.arisesE f ps g p = 0 := by unfold M.arisesE; rw [hv, hnu]; rfl
      rw [h1, h2]; clear h1 h2
      obtain ⟨h5, hpa, hgf, hpf⟩ := M.numbered_parts hnu
      rw [HN.out] at h5
      have HPA := hide hpa
      have HGF := hide hgf
      have HPF := hide hpf
      have HVV := hide ((M.validB_iff f).1 hv)
      clear hpa hgf hpf
      obtain ⟨r, hres⟩ : ∃ q, M.standB f ps g p = q := ⟨_, rfl⟩
      have HRES := hide hres
      rw [hres]
      clear hres
      go_enter Try.func19, Try.ntmps19
      go_wp2_with (first | (go_at_call 12; with_reducible refine (RefCheck_good' f _ hv).mono ?_; rintro e w1 ⟨rfl, hb⟩; obtain ⟨hc, hf⟩ := bcell hb; have hz := hb.size; (try simp at hz); have hSn : ((fun w' => Below w.heap.size w w' ∧ w.heap.size < w'.heap.size ∧ w.heap.size + 1 < w'.heap.size ∧ w'.cell? ⟨w.heap.size + 1, 0, none⟩ = some (.slice A n c) ∧ w'.cell? ⟨w.heap.size + 1, 1, none⟩ = some (.int .i64 g.A) ∧ w'.cell? ⟨w.heap.size + 1, 2, none⟩ = some (.int .i64 g.B) ∧ w'.cell? ⟨w.heap.size + 1, 3, none⟩ = some (.int .i64 p.A) ∧ w'.cell? ⟨w.heap.size + 1, 4, none⟩ = some (.int .i64 p.B) ∧ w'.cell? ⟨w.heap.size, 0, none⟩ = some (.int .i64 f.sets) ∧ w'.cell? ⟨w.heap.size, 1, none⟩ = some (.int .i64 f.games) ∧ w'.cell? ⟨w.heap.size, 2, none⟩ = some (.bool f.noAd) ∧ w'.cell? ⟨w.heap.size, 3, none⟩ = some (.int .i64 f.tie) ∧ w'.cell? ⟨w.heap.size, 4, none⟩ = some (.int .i64 f.to) ∧ w'.cell? ⟨w.heap.size, 5, none⟩ = some (.int .i64 f.lastTie) ∧ w'.cell? ⟨w.heap.size, 6, none⟩ = some (.int .i64 f.lastTo) ∧ w'.cell? ⟨w.heap.size, 7, none⟩ = some (.int .i64 f.first) ∧ w'.cell? ⟨w.heap.size, 8, none⟩ = some (.int .i64 f.next) ∧ w'.cell? ⟨w.heap.size, 9, none⟩ = some (.bool f.doubles))) w1 := (by (try dsimp only); (exact kp)); (try dsimp only at hSn); (try clear hS); have hS := hSn; clear hSn hc hf) | (go_at_call 43; with_reducible refine (refIsBoard_v A n c ps g p _ true HN.out ((HR.out.below (by exact hS.1)).mono (Nat.le_of_lt (by exact hS.2.1))) HCAP.out hm hnu).mono ?_; rintro e w2 ⟨rfl, hb⟩; obtain ⟨hc, hf⟩ := bcell hb; have hz := hb.size; (try simp at hz); have hSn : ((fun w' => Below w.heap.size w w' ∧ w.heap.size < w'.heap.size ∧ w.heap.size + 1 < w'.heap.size ∧ w'.cell? ⟨w.heap.size + 1, 0, none⟩ = some (.slice A n c) ∧ w'.cell? ⟨w.heap.size + 1, 1, none⟩ = some (.int .i64 g.A) ∧ w'.cell? ⟨w.heap.size + 1, 2, none⟩ = some (.int .i64 g.B) ∧ w'.cell? ⟨w.heap.size + 1, 3, none⟩ = some (.int .i64 p.A) ∧ w'.cell? ⟨w.heap.size + 1, 4, none⟩ = some (.int .i64 p.B) ∧ w'.cell? ⟨w.heap.size, 0, none⟩ = some (.int .i64 f.sets) ∧ w'.cell? ⟨w.heap.size, 1, none⟩ = some (.int .i64 f.games) ∧ w'.cell? ⟨w.heap.size, 2, none⟩ = some (.bool f.noAd) ∧ w'.cell? ⟨w.heap.size, 3, none⟩ = some (.int .i64 f.tie) ∧ w'.cell? ⟨w.heap.size, 4, none⟩ = some (.int .i64 f.to) ∧ w'.cell? ⟨w.heap.size, 5, none⟩ = some (.int .i64 f.lastTie) ∧ w'.cell? ⟨w.heap.size, 6, none⟩ = some (.int .i64 f.lastTo) ∧ w'.cell? ⟨w.heap.size, 7, none⟩ = some (.int .i64 f.first) ∧ w'.cell? ⟨w.heap.size, 8, none⟩ = some (.int .i64 f.next) ∧ w'.cell? ⟨w.heap.size, 9, none⟩ = some (.bool f.doubles))) w2 := (by (try dsimp only); (exact kp)); (try dsimp only at hSn); (try clear hS); have hS := hSn; clear hSn hc hf) | (go_at_call 44; with_reducible refine (refArisesIn_any f A n c ps g p _ HVV.out HN.out ((HR.out.below (by exact hS.1)).mono (Nat.le_of_lt (by exact hS.2.1))) (by omega) hnc hcm HPA.out HGF.out HPF.out).mono ?_; rintro e w3 ⟨rfl, hb⟩; obtain ⟨hc, hf⟩ := bcell hb; have hz := hb.size; (try simp at hz); have hSn : ((fun w' => Below w.heap.size w w' ∧ w.heap.size < w'.heap.size ∧ w.heap.size + 1 < w'.heap.size ∧ w'.cell? ⟨w.heap.size + 1, 0, none⟩ = some (.slice A n c) ∧ w'.cell? ⟨w.heap.size + 1, 1, none⟩ = some (.int .i64 g.A) ∧ w'.cell? ⟨w.heap.size + 1, 2, none⟩ = some (.int .i64 g.B) ∧ w'.cell? ⟨w.heap.size + 1, 3, none⟩ = some (.int .i64 p.A) ∧ w'.cell? ⟨w.heap.size + 1, 4, none⟩ = some (.int .i64 p.B) ∧ w'.cell? ⟨w.heap.size, 0, none⟩ = some (.int .i64 f.sets) ∧ w'.cell? ⟨w.heap.size, 1, none⟩ = some (.int .i64 f.games) ∧ w'.cell? ⟨w.heap.size, 2, none⟩ = some (.bool f.noAd) ∧ w'.cell? ⟨w.heap.size, 3, none⟩ = some (.int .i64 f.tie) ∧ w'.cell? ⟨w.heap.size, 4, none⟩ = some (.int .i64 f.to) ∧ w'.cell? ⟨w.heap.size, 5, none⟩ = some (.int .i64 f.lastTie) ∧ w'.cell? ⟨w.heap.size, 6, none⟩ = some (.int .i64 f.lastTo) ∧ w'.cell? ⟨w.heap.size, 7, none⟩ = some (.int .i64 f.first) ∧ w'.cell? ⟨w.heap.size, 8, none⟩ = some (.int .i64 f.next) ∧ w'.cell? ⟨w.heap.size, 9, none⟩ = some (.bool f.doubles))) w3 := (by (try dsimp only); (exact kp)); (try dsimp only at hSn); (try clear hS); have hS := hSn; clear hSn hc hf))
      go_ret2
      exact ⟨by rw [HRES.out]; rfl, by (go_split_ands; (exact kb))⟩

end Go.Proofs.Ytmhaapghiecfcaa

namespace Go.Proofs.Ytmhaapghiecfcaa
open Go.RowKit
attribute [local go_sem ↓] Go.wp_at_zero Go.wp_at_succ

set_option maxHeartbeats 6400000 in
set_option maxRecDepth 100000 in
theorem refLeast_err (f : M.Fm) (A : Option Addr) (n c : Nat) (ps : List M.Pr) (g p : M.Pr) (side : Int) (w : World) (hn : ps.length = n) (hr : RdP w w.heap.size A ps) (hA : A = none → c = 0) (hm : n ≤ 40) (hnc : n ≤ c) (hcm : c ≤ maxLen)
    (hb : M.swE f ps g p ≠ 0 ∨ M.within side 0 1 = false) :
    Calls Try.prog 21 #[.agg #[.int .i64 f.sets, .int .i64 f.games, .bool f.noAd, .int .i64 f.tie, .int .i64 f.to, .int .i64 f.lastTie, .int .i64 f.lastTo, .int .i64 f.first, .int .i64 f.next, .bool f.doubles], .agg #[.slice A n c, .int .i64 g.A, .int .i64 g.B, .int .i64 p.A, .int .i64 p.B], .int .i64 side] w fun e w' => e = .returned (.tuple #[.int .i64 (M.leastV f ps g p side), .int .i64 (M.leastE f ps g p side)]) ∧ Below w.heap.size w w' := by
  have HN := hide hn
  have HR := hide hr
  have HCAP := hide hA
  clear hn hr hA
  obtain ⟨ab, hab⟩ : ∃ q, M.arisesB f ps g p = q := ⟨_, rfl⟩
  obtain ⟨ae, hae⟩ : ∃ q, M.arisesE f ps g p = q := ⟨_, rfl⟩
  have HAB := hide hab
  have HAE := hide hae
  have hsw : M.swE f ps g p = if ae ≠ 0 then ae else if ab = true then 0 else 12 := by
    rw [← hae, ← hab]
    unfold M.swE M.arisesE M.arisesB
    cases M.validB f <;> cases M.numbered ps g p <;> cases M.standB f ps g p <;> simp
  clear hab hae
  by_cases he : ae = 0
  · subst he
    cases ab
    · have h0 : M.swE f ps g p = 12 := by rw [hsw]; rfl
      have h1 : M.leastE f ps g p side = 12 := by simp [M.leastE, h0]
      have h2 : M.leastV f ps g p side = 0 := by simp [M.leastV, h0]
      rw [h1, h2]
      clear h0 h1 h2 hsw hb
      go_enter Try.func21, Try.ntmps21
      go_wp2_with (go_at_call 19; refine (refArises_any f A n c ps g p _ HN.out ((HR.out.below (by (exact kb))).mono (by first | (simp; done) | (simp; omega))) HCAP.out hm hnc hcm).mono ?_; rw [HAB.out, HAE.out]; rintro e w1 ⟨rfl, hb⟩; obtain ⟨hc, hf⟩ := bcell hb; have hz := hb.size; (try simp at hz); have hSn : ((fun w' => Below w.heap.size w w' ∧ w.heap.size < w'.heap.size ∧ w.heap.size + 1 < w'.heap.size ∧ w'.cell? ⟨w.heap.size + 1, 0, none⟩ = some (.slice A n c) ∧ w'.cell? ⟨w.heap.size + 1, 1, none⟩ = some (.int .i64 g.A) ∧ w'.cell? ⟨w.heap.size + 1, 2, none⟩ = some (.int .i64 g.B) ∧ w'.cell? ⟨w.heap.size + 1, 3, none⟩ = some (.int .i64 p.A) ∧ w'.cell? ⟨w.heap.size + 1, 4, none⟩ = some (.int .i64 p.B) ∧ w'.cell? ⟨w.heap.size, 0, none⟩ = some (.int .i64 f.sets) ∧ w'.cell? ⟨w.heap.size, 1, none⟩ = some (.int .i64 f.games) ∧ w'.cell? ⟨w.heap.size, 2, none⟩ = some (.bool f.noAd) ∧ w'.cell? ⟨w.heap.size, 3, none⟩ = some (.int .i64 f.tie) ∧ w'.cell? ⟨w.heap.size, 4, none⟩ = some (.int .i64 f.to) ∧ w'.cell? ⟨w.heap.size, 5, none⟩ = some (.int .i64 f.lastTie) ∧ w'.cell? ⟨w.heap.size, 6, none⟩ = some (.int .i64 f.lastTo) ∧ w'.cell? ⟨w.heap.size, 7, none⟩ = some (.int .i64 f.first) ∧ w'.cell? ⟨w.heap.size, 8, none⟩ = some (.int .i64 f.next) ∧ w'.cell? ⟨w.heap.size, 9, none⟩ = some (.bool f.doubles))) w1 := (by (try dsimp only); (exact kp)); (try dsimp only at hSn); (try clear hS); have hS := hSn; clear hSn hc hf)
      go_ret2
      exact ⟨rfl, by (go_split_ands; (exact kb))⟩
    · have h0 : M.swE f ps g p = 0 := by rw [hsw]; rfl
      have hsd : M.within side 0 1 = false := hb.resolve_left (fun h => h h0)
      have h1 : M.leastE f ps g p side = 1 := by simp [M.leastE, h0, hsd]
      have h2 : M.leastV f ps g p side = 0 := by simp [M.leastV, h0, hsd]
      rw [h1, h2]
      clear h0 h1 h2 hsw hb
      go_enter Try.func21, Try.ntmps21
      go_wp2_with (first | (go_at_call 19; refine (refArises_any f A n c ps g p _ HN.out ((HR.out.below (by (exact kb))).mono (by first | (simp; done) | (simp; omega))) HCAP.out hm hnc hcm).mono ?_; rw [HAB.out, HAE.out]; rintro e w1 ⟨rfl, hb⟩; obtain ⟨hc, hf⟩ := bcell hb; have hz := hb.size; (try simp at hz); have hSn : ((fun w' => Below w.heap.size w w' ∧ w.heap.size < w'.heap.size ∧ w.heap.size + 1 < w'.heap.size ∧ w'.cell? ⟨w.heap.size + 1, 0, none⟩ = some (.slice A n c) ∧ w'.cell? ⟨w.heap.size + 1, 1, none⟩ = some (.int .i64 g.A) ∧ w'.cell? ⟨w.heap.size + 1, 2, none⟩ = some (.int .i64 g.B) ∧ w'.cell? ⟨w.heap.size + 1, 3, none⟩ = some (.int .i64 p.A) ∧ w'.cell? ⟨w.heap.size + 1, 4, none⟩ = some (.int .i64 p.B) ∧ w'.cell? ⟨w.heap.size, 0, none⟩ = some (.int .i64 f.sets) ∧ w'.cell? ⟨w.heap.size, 1, none⟩ = some (.int .i64 f.games) ∧ w'.cell? ⟨w.heap.size, 2, none⟩ = some (.bool f.noAd) ∧ w'.cell? ⟨w.heap.size, 3, none⟩ = some (.int .i64 f.tie) ∧ w'.cell? ⟨w.heap.size, 4, none⟩ = some (.int .i64 f.to) ∧ w'.cell? ⟨w.heap.size, 5, none⟩ = some (.int .i64 f.lastTie) ∧ w'.cell? ⟨w.heap.size, 6, none⟩ = some (.int .i64 f.lastTo) ∧ w'.cell? ⟨w.heap.size, 7, none⟩ = some (.int .i64 f.first) ∧ w'.cell? ⟨w.heap.size, 8, none⟩ = some (.int .i64 f.next) ∧ w'.cell? ⟨w.heap.size, 9, none⟩ = some (.bool f.doubles))) w1 := (by (try dsimp only); (exact kp)); (try dsimp only at hSn); (try clear hS); have hS := hSn; clear hSn hc hf) | (go_at_call 37; refine (refWithin_f side 0 1 _ hsd).mono ?_; rintro e w2 ⟨rfl, hb⟩; obtain ⟨hc, hf⟩ := bcell hb; have hz := hb.size; (try simp at hz); have hSn : ((fun w' => Below w.heap.size w w' ∧ w.heap.size < w'.heap.size ∧ w.heap.size + 1 < w'.heap.size ∧ w'.cell? ⟨w.heap.size + 1, 0, none⟩ = some (.slice A n c) ∧ w'.cell? ⟨w.heap.size + 1, 1, none⟩ = some (.int .i64 g.A) ∧ w'.cell? ⟨w.heap.size + 1, 2, none⟩ = some (.int .i64 g.B) ∧ w'.cell? ⟨w.heap.size + 1, 3, none⟩ = some (.int .i64 p.A) ∧ w'.cell? ⟨w.heap.size + 1, 4, none⟩ = some (.int .i64 p.B) ∧ w'.cell? ⟨w.heap.size, 0, none⟩ = some (.int .i64 f.sets) ∧ w'.cell? ⟨w.heap.size, 1, none⟩ = some (.int .i64 f.games) ∧ w'.cell? ⟨w.heap.size, 2, none⟩ = some (.bool f.noAd) ∧ w'.cell? ⟨w.heap.size, 3, none⟩ = some (.int .i64 f.tie) ∧ w'.cell? ⟨w.heap.size, 4, none⟩ = some (.int .i64 f.to) ∧ w'.cell? ⟨w.heap.size, 5, none⟩ = some (.int .i64 f.lastTie) ∧ w'.cell? ⟨w.heap.size, 6, none⟩ = some (.int .i64 f.lastTo) ∧ w'.cell? ⟨w.heap.size, 7, none⟩ = some (.int .i64 f.first) ∧ w'.cell? ⟨w.heap.size, 8, none⟩ = some (.int .i64 f.next) ∧ w'.cell? ⟨w.heap.size, 9, none⟩ = some (.bool f.doubles))) w2 := (by (try dsimp only); (exact kp)); (try dsimp only at hSn); (try clear hS); have hS := hSn; clear hSn hc hf))
      go_ret2
      exact ⟨rfl, by (go_split_ands; (exact kb))⟩
  · have h0 : M.swE f ps g p = ae := by rw [hsw, if_pos he]
    have h1 : M.leastE f ps g p side = ae := by simp [M.leastE, h0, he]
    have h2 : M.leastV f ps g p side = 0 := by simp [M.leastV, h0, he]
    rw [h1, h2]
    clear h0 h1 h2 hsw hb
    have he1 : (ae != 0) = true := by simpa using he
    go_enter Try.func21, Try.ntmps21
    go_wp2_with (go_at_call 19; refine (refArises_any f A n c ps g p _ HN.out ((HR.out.below (by (exact kb))).mono (by first | (simp; done) | (simp; omega))) HCAP.out hm hnc hcm).mono ?_; rw [HAB.out, HAE.out]; rintro e w1 ⟨rfl, hb⟩; obtain ⟨hc, hf⟩ := bcell hb; have hz := hb.size; (try simp at hz); have hSn : ((fun w' => Below w.heap.size w w' ∧ w.heap.size < w'.heap.size ∧ w.heap.size + 1 < w'.heap.size ∧ w'.cell? ⟨w.heap.size + 1, 0, none⟩ = some (.slice A n c) ∧ w'.cell? ⟨w.heap.size + 1, 1, none⟩ = some (.int .i64 g.A) ∧ w'.cell? ⟨w.heap.size + 1, 2, none⟩ = some (.int .i64 g.B) ∧ w'.cell? ⟨w.heap.size + 1, 3, none⟩ = some (.int .i64 p.A) ∧ w'.cell? ⟨w.heap.size + 1, 4, none⟩ = some (.int .i64 p.B) ∧ w'.cell? ⟨w.heap.size, 0, none⟩ = some (.int .i64 f.sets) ∧ w'.cell? ⟨w.heap.size, 1, none⟩ = some (.int .i64 f.games) ∧ w'.cell? ⟨w.heap.size, 2, none⟩ = some (.bool f.noAd) ∧ w'.cell? ⟨w.heap.size, 3, none⟩ = some (.int .i64 f.tie) ∧ w'.cell? ⟨w.heap.size, 4, none⟩ = some (.int .i64 f.to) ∧ w'.cell? ⟨w.heap.size, 5, none⟩ = some (.int .i64 f.lastTie) ∧ w'.cell? ⟨w.heap.size, 6, none⟩ = some (.int .i64 f.lastTo) ∧ w'.cell? ⟨w.heap.size, 7, none⟩ = some (.int .i64 f.first) ∧ w'.cell? ⟨w.heap.size, 8, none⟩ = some (.int .i64 f.next) ∧ w'.cell? ⟨w.heap.size, 9, none⟩ = some (.bool f.doubles))) w1 := (by (try dsimp only); (exact kp)); (try dsimp only at hSn); (try clear hS); have hS := hSn; clear hSn hc hf)
    go_ret2
    exact ⟨rfl, by (go_split_ands; (exact kb))⟩

end Go.Proofs.Ytmhaapghiecfcaa

namespace Go.Proofs.Ytmhaapghiecfcaa
open Go.RowKit
namespace M

theorem wonBy_wonR {f : Fm} (hv : Valid f) : ∀ (ps : List Pr) (acc won : Pr), ps.all fine = true → wonBy f acc ps = some won → won = wonR acc ps
  | [], acc, won, _, h => by
    unfold wonBy at h
    exact (Option.some.inj h).symm
  | g :: r, acc, won, hf, h => by
    rw [List.all_cons, Bool.and_eq_true] at hf
    have hg := fine_bd hf.1
    unfold wonBy at h
    split at h
    · rename_i hc
      rw [won_side (hv.ofSet _) hg.1 hg.2.2.1 hc.2] at h
      rw [wonR_cons]
      exact wonBy_wonR hv r _ _ hf.2 h
    · cases h
theorem stand_wonR {f : Fm} (hv : Valid f) {ps : List Pr} {g p : Pr} (hf : ps.all fine = true) (h : standB f ps g p = true) : wonBy f zero ps = some (wonR zero ps) ∧ rest f (wonR zero ps) g p = true ∧ standWon f ps = wonR zero ps := by
  unfold standB at h
  unfold standWon
  cases hw : wonBy f zero ps with
  | none => rw [hw] at h; cases h
  | some won =>
    rw [hw] at h
    have e := wonBy_wonR hv ps zero won hf hw
    subst e
    exact ⟨rfl, h, rfl⟩
end M
end Go.Proofs.Ytmhaapghiecfcaa

namespace Go.Proofs.Ytmhaapghiecfcaa
open Go.RowKit
namespace M

def sw (side : Int) (p : Pr) : Pr := if side = 1 then swap p else p
theorem gamesArise_sw (s : Fm) (g : Pr) : gamesArise s (swap g) = gamesArise s g := by unfold gamesArise; rw [hi_swap, near_swap]
theorem pointsArise_sw (s : Fm) (t : Bool) (g : Pr) : pointsArise s t (swap g) = pointsArise s t g := by unfold pointsArise; rw [hi_swap, near_swap]
theorem isTie_sw (s : Fm) (g : Pr) : isTie s (swap g) = isTie s g := Bool.and_comm _ _
theorem ofSet_sw (f : Fm) (won : Pr) : ofSet f (swap won) = ofSet f won := by
  have h : lastB f (swap won) = lastB f won := Bool.and_comm _ _
  unfold ofSet
  rw [h]
theorem wonBy_one {f : Fm} : ∀ (ps : List Pr) (won r : Pr), ¬ (won.A = f.sets ∧ won.B = f.sets) → wonBy f won ps = some r → ¬ (r.A = f.sets ∧ r.B = f.sets)
  | [], won, r, h, hw => by
    unfold wonBy at hw
    rw [← Option.some.inj hw]
    exact h
  | g :: ps, won, r, h, hw => by
    unfold wonBy at hw
    split at hw
    · rename_i hc
      have hne : ¬ (won.A = f.sets ∨ won.B = f.sets) := fun c => winner_iff.2 c hc.1
      refine wonBy_one ps _ r ?_ hw
      intro ⟨h1, h2⟩
      unfold plus at h1 h2
      split at h1
      · rw [if_pos (by assumption)] at h2
        exact hne (.inr h2)
      · exact hne (.inl h1)
    · cases hw
section
variable {f : Fm} {ps : List Pr} {g p won : Pr} {side : Int}
theorem swap_A (p : Pr) : (swap p).A = p.B := rfl
theorem swap_B (p : Pr) : (swap p).B = p.A := rfl
theorem sw_one (p : Pr) : sw 1 p = swap p := rfl
theorem least_parts (h0 : swE f ps g p = 0) (hw : wonR zero ps = won) : swWon f ps g p = won ∧ rest f won g p = true ∧ ¬ (won.A = f.sets ∧ won.B = f.sets) ∧ ((0 ≤ won.A ∧ 0 ≤ won.B) ∧ won.A ≤ f.sets ∧ won.B ≤ f.sets) := by
  obtain ⟨hvv, hnu, hst, hwon⟩ := sw_ok h0
  obtain ⟨h5, hpa, hgf, hpf⟩ := numbered_parts hnu
  obtain ⟨hb, hr, hs⟩ := stand_wonR hvv hpa hst
  have hbd := standWon_bd hvv ps
  have hv1 := hvv.s0
  rw [hs, hw] at hbd
  rw [hw] at hb hr
  refine ⟨by rw [hwon, hs, hw], hr, wonBy_one ps zero won (fun h => ?_) hb, hbd⟩
  have h1 : (0 : Int) = f.sets := h.1
  omega
theorem least_a (h0 : swE f ps g p = 0) (hsd : side = 0 ∨ side = 1) (hw : wonR zero ps = won) (ha : (sw side won).A = f.sets) : leastV f ps g p side = 0 ∧ leastE f ps g p side = 0 := by
  obtain ⟨hwn, hr, hone, hbd⟩ := least_parts h0 hw
  have hin : within side 0 1 = true := by unfold within; simp only [Bool.and_eq_true, decide_eq_true_eq]; omega
  have hwi : winner f won = side := by
    rcases hsd with rfl | rfl
    · exact if_pos ha
    · have hb : won.B = f.sets := ha
      unfold winner
      rw [if_neg (fun c => hone ⟨c, hb⟩), if_pos hb]
  constructor
  · unfold leastV
    rw [if_neg (fun c => c h0), if_pos hin, hwn, if_pos hwi]
  · unfold leastE
    rw [if_neg (fun c => c h0), if_pos hin, hwn, if_pos hwi]
theorem least_b (h0 : swE f ps g p = 0) (hsd : side = 0 ∨ side = 1) (hw : wonR zero ps = won) (ha : (sw side won).A ≠ f.sets) (hb : (sw side won).B = f.sets) : leastV f ps g p side = 0 ∧ leastE f ps g p side = 3 := by
  obtain ⟨hwn, hr, hone, hbd⟩ := least_parts h0 hw
  have hin : within side 0 1 = true := by unfold within; simp only [Bool.and_eq_true, decide_eq_true_eq]; omega
  have hwi : winner f won = 1 - side := by
    rcases hsd with rfl | rfl
    · have h1 : won.A ≠ f.sets := ha
      have h2 : won.B = f.sets := hb
      unfold winner
      rw [if_neg h1, if_pos h2]
      rfl
    · have h2 : won.A = f.sets := hb
      unfold winner
      rw [if_pos h2]
      rfl
  have hno : winner f won ≠ side := by omega
  constructor
  · unfold leastV
    rw [if_neg (fun c => c h0), if_pos hin, hwn, if_neg hno, if_pos hwi]
  · unfold leastE
    rw [if_neg (fun c => c h0), if_pos hin, hwn, if_neg hno, if_pos hwi]
theorem least_c (h0 : swE f ps g p = 0) (hsd : side = 0 ∨ side = 1) (hw : wonR zero ps = won) (ha : (sw side won).A ≠ f.sets) (hb : (sw side won).B ≠ f.sets) :
    leastV f ps g p side = leastR f 44 88 (sw side won).A (sw side won).B (sw side g) (sw side p) ∧ leastE f ps g p side = 0 ∧ 0 ≤ (sw side won).A ∧ (sw side won).A < f.sets ∧ 0 ≤ (sw side won).B ∧ (sw side won).B < f.sets := by
  obtain ⟨hwn, hr, hone, hbd⟩ := least_parts h0 hw
  obtain ⟨hvv, hnu, hst, hwon⟩ := sw_ok h0
  obtain ⟨h5, hpa, hgf, hpf⟩ := numbered_parts hnu
  have hgb := fine_bd hgf
  have hpb := fine_bd hpf
  have hin : within side 0 1 = true := by unfold within; simp only [Bool.and_eq_true, decide_eq_true_eq]; omega
  have hAB : won.A ≠ f.sets ∧ won.B ≠ f.sets := by
    rcases hsd with rfl | rfl
    · exact ⟨ha, hb⟩
    · exact ⟨hb, ha⟩
  have hwi : winner f won = -1 := Classical.byContradiction fun c => (winner_iff.1 c).elim hAB.1 hAB.2
  have hlt : won.A < f.sets ∧ won.B < f.sets := ⟨by have := hAB.1; omega, by have := hAB.2; omega⟩
  unfold rest at hr
  rw [if_neg (by rw [hwi]; simp), Bool.and_eq_true] at hr
  have hV : leastV f ps g p side = lfp f side 6 won g p := by
    unfold leastV
    rw [if_neg (fun c => c h0), if_pos hin, hwn, if_neg (by rw [hwi]; omega), if_neg (by rw [hwi]; omega)]
  have hE : leastE f ps g p side = 0 := by
    unfold leastE
    rw [if_neg (fun c => c h0), if_pos hin, hwn, if_neg (by rw [hwi]; omega), if_neg (by rw [hwi]; omega)]
  rw [hV, hE]
  rcases hsd with rfl | rfl
  · refine ⟨?_, rfl, hbd.1.1, hlt.1, hbd.1.2, hlt.2⟩
    exact (least_lfp hvv (by omega) (by omega) hbd.1.1 hlt.1 hbd.1.2 hlt.2 ((inPlay_iff hgb.1 hgb.2.2.1).2 hr.1) hgb.2.1 hgb.2.2.2 hr.2 ⟨hpb.1, hpb.2.2.1⟩ ⟨hpb.2.1, hpb.2.2.2⟩).symm
  · refine ⟨?_, rfl, hbd.1.2, hlt.2, hbd.1.1, hlt.1⟩
    rw [lfp_mir hAB.1 hAB.2, sw_one, sw_one, sw_one]
    have e : ofSet f ⟨(swap won).A, (swap won).B⟩ = ofSet f won := ofSet_sw f won
    refine (least_lfp hvv (by omega) (by omega) hbd.1.2 hlt.2 hbd.1.1 hlt.1 (g := swap g) (p := swap p) ?_ hgb.2.2.2 hgb.2.1 ?_ ⟨hpb.2.2.1, hpb.1⟩ ⟨hpb.2.2.2, hpb.2.1⟩).symm
    · rw [swap_A, swap_B] at e
      rw [e]
      exact (inPlay_iff (g := swap g) hgb.2.2.1 hgb.1).2 (by rw [gamesArise_sw]; exact hr.1)
    · rw [swap_A, swap_B] at e
      rw [e, isTie_sw, pointsArise_sw]
      exact hr.2
end
end M
end Go.Proofs.Ytmhaapghiecfcaa

namespace Go.Proofs.Ytmhaapghiecfcaa
open Go.RowKit
attribute [local go_sem ↓] Go.wp_at_zero Go.wp_at_succ
namespace M
theorem fromR_bd {f : Fm} (hv : Valid f) : ∀ (k : Nat) (m t : Int), 0 ≤ fromR f 1000000 44 88 k m t ∧ fromR f 1000000 44 88 k m t ≤ 1000000
  | 0, m, t => by unfold fromR; omega
  | k + 1, m, t => by
    have h1 := fromR_bd hv k (m + 1) t
    have h2 := fromR_bd hv k m (t + 1)
    unfold fromR
    split
    · omega
    · split
      · omega
      · exact ⟨cost_low (by have := (hv.ofSet ⟨m, t⟩).o0; omega) h1.1 h2.1 88 0 0, costF_far ..⟩
theorem leads_is0 {p : Pr} {n : Int} : leads p n = 0 ↔ n ≤ p.A ∧ p.B + 2 ≤ p.A := by
  unfold leads
  split
  · simp [*]
  · split <;> constructor <;> intro h <;> first | omega | (exact absurd h (by omega))
theorem leads_is1 {p : Pr} {n : Int} : leads p n = 1 ↔ n ≤ p.B ∧ p.A + 2 ≤ p.B := by
  unfold leads
  split
  · constructor <;> intro h <;> first | omega | (exact absurd h (by omega))
  · split <;> constructor <;> intro h <;> first | omega | (exact absurd h (by omega))
theorem costAt_top {s : Fm} {won lost a : Int} (ha : a ≤ 43) (x y : Nat) (hx : x ≤ 44) (hy : y ≤ 44) : costAt s won lost 86 a x y = 1000000 := by
  unfold costAt
  split
  · exact cost_edge (by omega)
  · rfl
end M
def CostsPost (C : Nat → Nat → Int) (w : World) (e : Ending) (w' : World) : Prop := ∃ (go : Nat) (bo : Nat → Nat), e = .returned (.slice (some ⟨go, 0, none⟩) 45 45) ∧ Tab w' w.heap.size go bo 45 C ∧ Below w.heap.size w w'
def FromP (f : M.Fm) (k : Nat) : Prop := ∀ (m t : Int) (w : World), 0 ≤ m → m ≤ f.sets → 0 ≤ t → t ≤ f.sets → (m < f.sets ∨ t < f.sets) → 2 * f.sets ≤ k + m + t →
  Calls Try.prog 53 #[.agg #[.int .i64 f.sets, .int .i64 f.games, .bool f.noAd, .int .i64 f.tie, .int .i64 f.to, .int .i64 f.lastTie, .int .i64 f.lastTo, .int .i64 f.first, .int .i64 f.next, .bool f.doubles], .int .i64 m, .int .i64 t] w fun e w' => e = .returned (.int .i64 (M.fromR f 1000000 44 88 k m t)) ∧ Below w.heap.size w w'
def CostsP (f : M.Fm) (k : Nat) : Prop := ∀ (m t : Int) (w : World), 0 ≤ m → m < f.sets → 0 ≤ t → t < f.sets → 2 * f.sets ≤ k + 1 + m + t →
  Calls Try.prog 49 #[.agg #[.int .i64 f.sets, .int .i64 f.games, .bool f.noAd, .int .i64 f.tie, .int .i64 f.to, .int .i64 f.lastTie, .int .i64 f.lastTo, .int .i64 f.first, .int .i64 f.next, .bool f.doubles], .int .i64 m, .int .i64 t] w (CostsPost (M.cost (M.ofSet f ⟨m, t⟩) (M.fromR f 1000000 44 88 k (m + 1) t) (M.fromR f 1000000 44 88 k m (t + 1))) w)
set_option maxHeartbeats 3200000 in
theorem from_succ (f : M.Fm) (k : Nat) (h : CostsP f k) : FromP f (k + 1) := by
  intro m t w h0 h1 h2 h3 h4 h5
  by_cases cm : m = f.sets
  · have e : M.fromR f 1000000 44 88 (k + 1) m t = 0 := by unfold M.fromR; rw [if_pos cm]
    rw [e]
    clear e h h4 h5
    subst cm
    go_enter Try.func53, Try.ntmps53
    go_wp2_with fail
    go_ret
    exact ⟨rfl, by (exact kb)⟩
  · have cm1 : (m == f.sets) = false := by simpa using cm
    by_cases ct : t = f.sets
    · have e : M.fromR f 1000000 44 88 (k + 1) m t = 1000000 := by unfold M.fromR; rw [if_neg cm, if_pos ct]
      rw [e]
      clear e h h4 h5
      subst ct
      go_enter Try.func53, Try.ntmps53
      go_wp2_with fail
      go_ret
      exact ⟨rfl, by (exact kb)⟩
    · have ct1 : (t == f.sets) = false := by simpa using ct
      have e : M.fromR f 1000000 44 88 (k + 1) m t = M.cost (M.ofSet f ⟨m, t⟩) (M.fromR f 1000000 44 88 k (m + 1) t) (M.fromR f 1000000 44 88 k m (t + 1)) 0 0 := by
        conv => lhs; unfold M.fromR
        rw [if_neg cm, if_neg ct]
        rfl
      rw [e]
      clear e
      have HC := fun W => hide (h m t W h0 (by omega) h2 (by omega) (by push_cast at h5; omega))
      obtain ⟨C, hC⟩ : ∃ q, M.cost (M.ofSet f ⟨m, t⟩) (M.fromR f 1000000 44 88 k (m + 1) t) (M.fromR f 1000000 44 88 k m (t + 1)) = q := ⟨_, rfl⟩
      rw [hC] at HC ⊢
      clear hC h h4 h5
      go_enter Try.func53, Try.ntmps53
      go_wp2_with (go_at_call 49; refine (HC _).out.mono ?_; rintro e w1 ⟨go, bo, rfl, hT, hb⟩; have t0 : w1.cell? ⟨go, 0, none⟩ = some (.slice (some ⟨bo 0, 0, none⟩) 45 45) := hT.cell 0 (by omega); have t1 : w1.cell? ⟨bo 0, 0, none⟩ = some (.int .i64 (C 0 0)) := hT.rows.at_ (by omega) (by omega); have t2 := hT.gl; have t3 := hT.rows.bl (show 0 < 45 by omega); clear hT)
      go_ret
      exact ⟨rfl, by (exact kb)⟩
theorem from_zero (f : M.Fm) : FromP f 0 := by
  intro m t w h0 h1 h2 h3 h4 h5
  exfalso
  push_cast at h5
  omega

def rowsC (bo : Nat → Nat) (k : Nat) : Array Value := ((List.range 45).map (fun i => if i < k then rowV (bo i) else Value.slice none 0 0)).toArray
theorem rowsC_get (bo : Nat → Nat) (k : Nat) {i : Nat} (h : i < 45) : (rowsC bo k)[i]? = some (if i < k then rowV (bo i) else Value.slice none 0 0) := by
  unfold rowsC
  simp [h]
theorem rowsC_size (bo : Nat → Nat) (k : Nat) : (rowsC bo k).size = 45 := by unfold rowsC; simp
theorem rowsC_set (bo : Nat → Nat) {k : Nat} (hk : k < 45) (q : Nat) : (rowsC bo k).setIfInBounds k (rowV q) = rowsC (consN bo k q) (k + 1) := by
  refine Array.ext_getElem? fun i => ?_
  rw [Array.getElem?_setIfInBounds]
  by_cases hi : i < 45
  · rw [rowsC_get _ _ hi, rowsC_get _ _ hi]
    unfold consN
    split
    · rename_i h
      subst h
      rw [if_pos (by rw [rowsC_size]; exact hk), if_pos (by omega), if_pos rfl]
    · rename_i h
      by_cases c : i < k
      · rw [if_pos c, if_pos (by omega), if_neg (by omega)]
      · rw [if_neg c, if_neg (by omega)]
  · have h1 : ∀ (b : Nat → Nat) (j : Nat), (rowsC b j)[i]? = none := fun b j => Array.getElem?_eq_none (by rw [rowsC_size]; omega)
    rw [h1, h1, if_neg (by omega)]
structure CR (wb wr : World) (g k : Nat) (bo : Nat → Nat) : Prop where
  below : Below wb.heap.size wb wr
  gl : wb.heap.size ≤ g
  gh : wr.heap[g]? = some (.cells (rowsC bo k) 24 (0, 0))
  rows : NRows wr wb.heap.size bo k (fun _ _ => 1000000)
  ne : ∀ i, i < k → bo i ≠ g
structure FR (wb wr : World) (g k : Nat) (bo : Nat → Nat) (q l : Nat) : Prop where
  below : Below wb.heap.size wb wr
  gl : wb.heap.size ≤ g
  gh : wr.heap[g]? = some (.cells (rowsC (consN bo k q) (k + 1)) 24 (0, 0))
  rows : NRows wr wb.heap.size bo k (fun _ _ => 1000000)
  ne : ∀ i, i < k → bo i ≠ g
  qh : wr.heap[q]? = some (.cells (rowC (fun j => if j < l then 1000000 else 0)) 3 (0, 0))
  ql : wb.heap.size ≤ q
  qne : ∀ i, i < k → bo i ≠ q
  qg : q ≠ g
theorem FR.cell {wb wr : World} {g k : Nat} {bo : Nat → Nat} {q l : Nat} (h : FR wb wr g k bo q l) (hk : k < 45) : wr.cell? ⟨g, k, none⟩ = some (.slice (some ⟨q, 0, none⟩) 45 45) := by
  rw [blk_cell h.gh, rowsC_get _ _ hk, if_pos (by omega)]
  unfold consN
  rw [if_pos rfl]
  rfl
theorem FR.step {wb wr : World} {g k : Nat} {bo : Nat → Nat} {q l : Nat} (h : FR wb wr g k bo q l) : FR wb (wr.setCell ⟨q, l, none⟩ (.int .i64 1000000)) g k bo q (l + 1) :=
  ⟨zbS h.below h.ql _, h.gl, (Below.heap_setCell wr ⟨q, l, none⟩ _ g (fun e => h.qg e.symm)).trans h.gh, h.rows.kept (fun i hi => Below.heap_setCell wr ⟨q, l, none⟩ _ (bo i) (h.qne i hi)), h.ne, by
    have := blk_setC h.qh l (.int .i64 1000000)
    rw [rowC_set] at this
    refine this.trans ?_
    congr 2
    refine rowC_congr fun j hj => ?_
    by_cases c : j = l
    · rw [if_pos c, if_pos (by omega)]
    · rw [if_neg c]
      by_cases d : j < l
      · rw [if_pos d, if_pos (by omega)]
      · rw [if_neg d, if_neg (by omega)], h.ql, h.qne, h.qg⟩
theorem FR.fin {wb wr : World} {g k : Nat} {bo : Nat → Nat} {q : Nat} (h : FR wb wr g k bo q 45) : CR wb wr g (k + 1) (consN bo k q) := by
  refine ⟨h.below, h.gl, h.gh, ?_, fun i hi => ?_⟩
  · have h1 : wr.heap[q]? = some (.cells (rowC (fun _ => 1000000)) 3 (0, 0)) := by
      rw [h.qh]
      have e : rowC (fun j => if j < 45 then (1000000 : Int) else 0) = rowC (fun _ => 1000000) := rowC_congr fun j hj => if_pos hj
      rw [e]
    have h2 := h.rows.push h1 h.ql h.qne
    refine h2.congr fun i j hi hj => ?_
    unfold consN
    split <;> rfl
  · unfold consN
    split
    · exact h.qg
    · exact h.ne i (by omega)
theorem CR.fr {wb wr w' : World} {g k : Nat} {bo : Nat → Nat} (h : CR wb wr g k bo) (hk : k < 45) {O : Obj} (hO : O = .cells (rowC (fun _ => 0)) 3 (0, 0)) (hw : w' = (wr.setCell ⟨g, k, none⟩ (.slice (some ⟨wr.heap.size, 0, none⟩) 45 45)).alloc O) : FR wb w' g k bo wr.heap.size 0 := by
  subst hO
  obtain ⟨w1, hw1⟩ : ∃ q, wr.setCell ⟨g, k, none⟩ (.slice (some ⟨wr.heap.size, 0, none⟩) 45 45) = q := ⟨_, rfl⟩
  rw [hw1] at hw
  subst hw
  have hgl := blk_lt h.gh
  have hs : w1.heap.size = wr.heap.size := by rw [← hw1]; simp [World.setCell]
  have hb1 : Below wb.heap.size wb w1 := by rw [← hw1]; exact zbS h.below h.gl _
  have hg1 : w1.heap[g]? = some (.cells (rowsC (consN bo k wr.heap.size) (k + 1)) 24 (0, 0)) := by
    have := blk_setC h.gh k (rowV wr.heap.size)
    rw [rowsC_set _ hk] at this
    rw [← hw1]
    exact this
  have ho : ∀ i, i ≠ g → w1.heap[i]? = wr.heap[i]? := fun i hi => by rw [← hw1]; exact Below.heap_setCell wr ⟨g, k, none⟩ _ i hi
  refine ⟨zbA hb1 hb1.size _, h.gl, (heap_alloc_old _ _ (by omega)).trans hg1, h.rows.kept (fun i hi => (heap_alloc_old _ _ (by have := h.rows.bl hi; omega)).trans (ho _ (h.ne i hi))), h.ne, ?_, h.below.size, fun i hi e => by have := h.rows.bl hi; omega, by omega⟩
  rw [← hs]
  refine (heap_alloc_new _ _).trans ?_
  congr 2
theorem CR.tab {wb wr : World} {g : Nat} {bo : Nat → Nat} (h : CR wb wr g 45 bo) : Tab wr wb.heap.size g bo 45 (fun _ _ => 1000000) :=
  ⟨h.gl, blk_lt h.gh, fun i hi => by rw [blk_cell h.gh, rowsC_get _ _ hi, if_pos hi], h.rows, h.ne⟩
theorem cap_w {M : World → Prop} (W : World) (h : ∀ W', W' = W → M W') : M W := h W rfl
end Go.Proofs.Ytmhaapghiecfcaa
