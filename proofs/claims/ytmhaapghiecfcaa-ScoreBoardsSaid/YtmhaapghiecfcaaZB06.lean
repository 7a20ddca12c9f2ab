/-
  Part of a claim's texts: contracts of the program's functions and the plain functions that they compute, in build order.
-/
import Derived.Laws.OwnMore
import Derived.Laws.Tables
import Derived.Deep.Cut
import Derived.Carry
import Derived.ProofKit
import Derived.Deep.Slices
import Derived.Deep.Fields
import Derived.Lib.SmallJoins
import Derived.Maps.AppendAt
import Derived.Test.YtmhaapghiecfcaaZB01
import Derived.Test.YtmhaapghiecfcaaZB02
import Derived.Test.YtmhaapghiecfcaaZB04
import Derived.Test.YtmhaapghiecfcaaZB05
namespace Go.Proofs.Ytmhaapghiecfcaa
open Go.RowKit
attribute [local go_sem ↓] Go.wp_at_zero Go.wp_at_succ

theorem sw_ok {f : M.Fm} {ps : List M.Pr} {g p : M.Pr} (h : M.swE f ps g p = 0) : M.Valid f ∧ M.numbered ps g p = true ∧ M.standB f ps g p = true ∧ M.swWon f ps g p = M.standWon f ps := by
  unfold M.swE at h
  cases hv : M.validB f
  · simp [hv] at h
  · cases hn : M.numbered ps g p
    · simp [hv, hn] at h
    · cases hs : M.standB f ps g p
      · simp [hv, hn, hs] at h
      · exact ⟨(M.validB_iff f).1 hv, rfl, rfl, by unfold M.swWon; rw [hv, hn, hs]; rfl⟩

set_option maxHeartbeats 8000000 in
theorem Least_any (f : M.Fm) (A : Option Addr) (n c : Nat) (ps : List M.Pr) (g p : M.Pr) (side : Int) (w : World) (hn : ps.length = n) (hr : RdP w w.heap.size A ps) (hm : n ≤ 1000000) :
    Calls Try.prog 20 #[.agg #[.int .i64 f.sets, .int .i64 f.games, .bool f.noAd, .int .i64 f.tie, .int .i64 f.to, .int .i64 f.lastTie, .int .i64 f.lastTo, .int .i64 f.first, .int .i64 f.next, .bool f.doubles], .agg #[.slice A n c, .int .i64 g.A, .int .i64 g.B, .int .i64 p.A, .int .i64 p.B], .int .i64 side] w fun e w' => e = .returned (.tuple #[.int .i64 (M.leastV f ps g p side), .int .i64 (M.leastE f ps g p side)]) ∧ Below w.heap.size w w' := by
  have HN := hide hn
  have HR := hide hr
  clear hn hr
  cases hsw : (M.swE f ps g p != 0)
  · have h0 : M.swE f ps g p = 0 := by simpa using hsw
    obtain ⟨hvv, hnu, hst, hwon⟩ := sw_ok h0
    cases hsd : M.within side 0 1
    · have h1 : M.leastE f ps g p side = 1 := by simp [M.leastE, h0, hsd]
      have h2 : M.leastV f ps g p side = 0 := by simp [M.leastV, h0, hsd]
      have hsn : ¬ (side = 0) ∧ ¬ (side = 1) := by simp [M.within] at hsd; omega
      have t0 : (side != 0) = true := by simpa using hsn.1
      have t1 : (side != 1) = true := by simpa using hsn.2
      rw [h1, h2]; clear h1 h2 h0 hvv hnu hst hwon hsn
      go_enter Try.func20, Try.ntmps20
      go_wp2_with (first | (go_at_call 45; refine (setsWon_any f A n c ps g p _ HN.out ((HR.out.below (by (exact kb))).mono (by first | (simp; done) | (simp; omega))) hm).mono ?_; rintro e w1 ⟨rfl, hb⟩; obtain ⟨hc, hf⟩ := bcell hb; have hz := hb.size; (try simp at hz); have hSn : ((fun w' => Below w.heap.size w w' ∧ w.heap.size < w'.heap.size ∧ w.heap.size + 1 < w'.heap.size ∧ w'.cell? ⟨w.heap.size + 1, 0, none⟩ = some (.slice A n c) ∧ w'.cell? ⟨w.heap.size + 1, 1, none⟩ = some (.int .i64 g.A) ∧ w'.cell? ⟨w.heap.size + 1, 2, none⟩ = some (.int .i64 g.B) ∧ w'.cell? ⟨w.heap.size + 1, 3, none⟩ = some (.int .i64 p.A) ∧ w'.cell? ⟨w.heap.size + 1, 4, none⟩ = some (.int .i64 p.B) ∧ w'.cell? ⟨w.heap.size, 0, none⟩ = some (.int .i64 f.sets) ∧ w'.cell? ⟨w.heap.size, 1, none⟩ = some (.int .i64 f.games) ∧ w'.cell? ⟨w.heap.size, 2, none⟩ = some (.bool f.noAd) ∧ w'.cell? ⟨w.heap.size, 3, none⟩ = some (.int .i64 f.tie) ∧ w'.cell? ⟨w.heap.size, 4, none⟩ = some (.int .i64 f.to) ∧ w'.cell? ⟨w.heap.size, 5, none⟩ = some (.int .i64 f.lastTie) ∧ w'.cell? ⟨w.heap.size, 6, none⟩ = some (.int .i64 f.lastTo) ∧ w'.cell? ⟨w.heap.size, 7, none⟩ = some (.int .i64 f.first) ∧ w'.cell? ⟨w.heap.size, 8, none⟩ = some (.int .i64 f.next) ∧ w'.cell? ⟨w.heap.size, 9, none⟩ = some (.bool f.doubles))) w1 := (by (try dsimp only); (exact kp)); (try dsimp only at hSn); (try clear hS); have hS := hSn; clear hSn hc hf))
      go_ret2
      exact ⟨rfl, by (go_split_ands; (exact kb))⟩
    · have hs0 : 0 ≤ side := by simp [M.within] at hsd; omega
      have hs1 : side ≤ 1 := by simp [M.within] at hsd; omega
      have hbd := M.standWon_bd hvv ps
      rw [← hwon] at hbd
      obtain ⟨_, _, hgf, hpf⟩ := M.numbered_parts hnu
      have HVV := hide hvv
      have HW0 := hide hbd.1
      have HGB := hide (fine_bd hgf)
      have HPB := hide (fine_bd hpf)
      cases hw1 : (M.winner f (M.swWon f ps g p) == side)
      · cases hw2 : (M.winner f (M.swWon f ps g p) == 1 - side)
        · have h1 : M.leastE f ps g p side = 0 := by simp [M.leastE, h0, hsd, (show ¬ M.winner f (M.swWon f ps g p) = side by simpa using hw1), (show ¬ M.winner f (M.swWon f ps g p) = 1 - side by simpa using hw2)]
          have h2 : M.leastV f ps g p side = M.lfp f side 6 (M.swWon f ps g p) g p := by simp [M.leastV, h0, hsd, (show ¬ M.winner f (M.swWon f ps g p) = side by simpa using hw1), (show ¬ M.winner f (M.swWon f ps g p) = 1 - side by simpa using hw2)]
          have HW1 := hide (M.winner_lt (f := f) (won := M.swWon f ps g p) (s := side) (by omega) hbd.2 (by simpa using hw1) (by simpa using hw2))
          rw [h1, h2]; clear h1 h2 h0 hvv hnu hst hwon hbd hgf hpf
          go_enter Try.func20, Try.ntmps20
          rcases (show side = 0 ∨ side = 1 by omega) with e | e
          all_goals
            subst e
            go_wp2_with (first | (go_at_call 45; refine (setsWon_any f A n c ps g p _ HN.out ((HR.out.below (by (exact kb))).mono (by first | (simp; done) | (simp; omega))) hm).mono ?_; rintro e w1 ⟨rfl, hb⟩; obtain ⟨hc, hf⟩ := bcell hb; have hz := hb.size; (try simp at hz); have hSn : ((fun w' => Below w.heap.size w w' ∧ w.heap.size < w'.heap.size ∧ w.heap.size + 1 < w'.heap.size ∧ w'.cell? ⟨w.heap.size + 1, 0, none⟩ = some (.slice A n c) ∧ w'.cell? ⟨w.heap.size + 1, 1, none⟩ = some (.int .i64 g.A) ∧ w'.cell? ⟨w.heap.size + 1, 2, none⟩ = some (.int .i64 g.B) ∧ w'.cell? ⟨w.heap.size + 1, 3, none⟩ = some (.int .i64 p.A) ∧ w'.cell? ⟨w.heap.size + 1, 4, none⟩ = some (.int .i64 p.B) ∧ w'.cell? ⟨w.heap.size, 0, none⟩ = some (.int .i64 f.sets) ∧ w'.cell? ⟨w.heap.size, 1, none⟩ = some (.int .i64 f.games) ∧ w'.cell? ⟨w.heap.size, 2, none⟩ = some (.bool f.noAd) ∧ w'.cell? ⟨w.heap.size, 3, none⟩ = some (.int .i64 f.tie) ∧ w'.cell? ⟨w.heap.size, 4, none⟩ = some (.int .i64 f.to) ∧ w'.cell? ⟨w.heap.size, 5, none⟩ = some (.int .i64 f.lastTie) ∧ w'.cell? ⟨w.heap.size, 6, none⟩ = some (.int .i64 f.lastTo) ∧ w'.cell? ⟨w.heap.size, 7, none⟩ = some (.int .i64 f.first) ∧ w'.cell? ⟨w.heap.size, 8, none⟩ = some (.int .i64 f.next) ∧ w'.cell? ⟨w.heap.size, 9, none⟩ = some (.bool f.doubles))) w1 := (by (try dsimp only); (exact kp)); (try dsimp only at hSn); (try clear hS); have hS := hSn; clear hSn hc hf) | (go_at_call 46; refine (winner_any f (M.swWon f ps g p) _).mono ?_; rintro e w2 ⟨rfl, hb⟩; obtain ⟨hc, hf⟩ := bcell hb; have hz := hb.size; (try simp at hz); have hSn : ((fun w' => Below w.heap.size w w' ∧ w.heap.size < w'.heap.size ∧ w.heap.size + 1 < w'.heap.size ∧ w'.cell? ⟨w.heap.size + 1, 0, none⟩ = some (.slice A n c) ∧ w'.cell? ⟨w.heap.size + 1, 1, none⟩ = some (.int .i64 g.A) ∧ w'.cell? ⟨w.heap.size + 1, 2, none⟩ = some (.int .i64 g.B) ∧ w'.cell? ⟨w.heap.size + 1, 3, none⟩ = some (.int .i64 p.A) ∧ w'.cell? ⟨w.heap.size + 1, 4, none⟩ = some (.int .i64 p.B) ∧ w'.cell? ⟨w.heap.size, 0, none⟩ = some (.int .i64 f.sets) ∧ w'.cell? ⟨w.heap.size, 1, none⟩ = some (.int .i64 f.games) ∧ w'.cell? ⟨w.heap.size, 2, none⟩ = some (.bool f.noAd) ∧ w'.cell? ⟨w.heap.size, 3, none⟩ = some (.int .i64 f.tie) ∧ w'.cell? ⟨w.heap.size, 4, none⟩ = some (.int .i64 f.to) ∧ w'.cell? ⟨w.heap.size, 5, none⟩ = some (.int .i64 f.lastTie) ∧ w'.cell? ⟨w.heap.size, 6, none⟩ = some (.int .i64 f.lastTo) ∧ w'.cell? ⟨w.heap.size, 7, none⟩ = some (.int .i64 f.first) ∧ w'.cell? ⟨w.heap.size, 8, none⟩ = some (.int .i64 f.next) ∧ w'.cell? ⟨w.heap.size, 9, none⟩ = some (.bool f.doubles) ∧ w'.cell? ⟨w1.heap.size, 0, none⟩ = some (.int .i64 (M.swWon f ps g p).A) ∧ w'.cell? ⟨w1.heap.size, 1, none⟩ = some (.int .i64 (M.swWon f ps g p).B) ∧ w1.heap.size < w'.heap.size)) w2 := (by (try dsimp only); (exact kp)); (try dsimp only at hSn); (try clear hS); have hS := hSn; clear hSn hc hf) | (go_at_call 47; refine (lfp_any f _ (.slice A n c) (M.swWon f ps g p) g p _ HVV.out hs0 hs1 HW0.out HW1.out HGB.out HPB.out A n c rfl).mono ?_; rintro e w3 ⟨rfl, hb⟩; obtain ⟨hc, hf⟩ := bcell hb; have hz := hb.size; (try simp at hz); have hSn : ((fun w' => Below w.heap.size w w')) w3 := (by (try dsimp only); (exact kp)); (try dsimp only at hSn); (try clear hS); have hS := hSn; clear hSn hc hf))
            go_ret2
            exact ⟨rfl, by (go_split_ands; (exact kb))⟩
        · have h1 : M.leastE f ps g p side = 3 := by
            have n1 : ¬ M.winner f (M.swWon f ps g p) = side := by simpa using hw1
            unfold M.leastE; rw [if_neg (fun h => h h0), if_pos hsd, if_neg n1, if_pos (by simpa using hw2)]
          have h2 : M.leastV f ps g p side = 0 := by
            have n1 : ¬ M.winner f (M.swWon f ps g p) = side := by simpa using hw1
            unfold M.leastV; rw [if_neg (fun h => h h0), if_pos hsd, if_neg n1, if_pos (by simpa using hw2)]
          rw [h1, h2]; clear h1 h2 h0 hvv hnu hst hwon hbd hgf hpf
          go_enter Try.func20, Try.ntmps20
          rcases (show side = 0 ∨ side = 1 by omega) with e | e
          all_goals
            subst e
            go_wp2_with (first | (go_at_call 45; refine (setsWon_any f A n c ps g p _ HN.out ((HR.out.below (by (exact kb))).mono (by first | (simp; done) | (simp; omega))) hm).mono ?_; rintro e w1 ⟨rfl, hb⟩; obtain ⟨hc, hf⟩ := bcell hb; have hz := hb.size; (try simp at hz); have hSn : ((fun w' => Below w.heap.size w w' ∧ w.heap.size < w'.heap.size ∧ w.heap.size + 1 < w'.heap.size ∧ w'.cell? ⟨w.heap.size + 1, 0, none⟩ = some (.slice A n c) ∧ w'.cell? ⟨w.heap.size + 1, 1, none⟩ = some (.int .i64 g.A) ∧ w'.cell? ⟨w.heap.size + 1, 2, none⟩ = some (.int .i64 g.B) ∧ w'.cell? ⟨w.heap.size + 1, 3, none⟩ = some (.int .i64 p.A) ∧ w'.cell? ⟨w.heap.size + 1, 4, none⟩ = some (.int .i64 p.B) ∧ w'.cell? ⟨w.heap.size, 0, none⟩ = some (.int .i64 f.sets) ∧ w'.cell? ⟨w.heap.size, 1, none⟩ = some (.int .i64 f.games) ∧ w'.cell? ⟨w.heap.size, 2, none⟩ = some (.bool f.noAd) ∧ w'.cell? ⟨w.heap.size, 3, none⟩ = some (.int .i64 f.tie) ∧ w'.cell? ⟨w.heap.size, 4, none⟩ = some (.int .i64 f.to) ∧ w'.cell? ⟨w.heap.size, 5, none⟩ = some (.int .i64 f.lastTie) ∧ w'.cell? ⟨w.heap.size, 6, none⟩ = some (.int .i64 f.lastTo) ∧ w'.cell? ⟨w.heap.size, 7, none⟩ = some (.int .i64 f.first) ∧ w'.cell? ⟨w.heap.size, 8, none⟩ = some (.int .i64 f.next) ∧ w'.cell? ⟨w.heap.size, 9, none⟩ = some (.bool f.doubles))) w1 := (by (try dsimp only); (exact kp)); (try dsimp only at hSn); (try clear hS); have hS := hSn; clear hSn hc hf) | (go_at_call 46; refine (winner_any f (M.swWon f ps g p) _).mono ?_; rintro e w2 ⟨rfl, hb⟩; obtain ⟨hc, hf⟩ := bcell hb; have hz := hb.size; (try simp at hz); have hSn : ((fun w' => Below w.heap.size w w' ∧ w.heap.size < w'.heap.size ∧ w.heap.size + 1 < w'.heap.size ∧ w'.cell? ⟨w.heap.size + 1, 0, none⟩ = some (.slice A n c) ∧ w'.cell? ⟨w.heap.size + 1, 1, none⟩ = some (.int .i64 g.A) ∧ w'.cell? ⟨w.heap.size + 1, 2, none⟩ = some (.int .i64 g.B) ∧ w'.cell? ⟨w.heap.size + 1, 3, none⟩ = some (.int .i64 p.A) ∧ w'.cell? ⟨w.heap.size + 1, 4, none⟩ = some (.int .i64 p.B) ∧ w'.cell? ⟨w.heap.size, 0, none⟩ = some (.int .i64 f.sets) ∧ w'.cell? ⟨w.heap.size, 1, none⟩ = some (.int .i64 f.games) ∧ w'.cell? ⟨w.heap.size, 2, none⟩ = some (.bool f.noAd) ∧ w'.cell? ⟨w.heap.size, 3, none⟩ = some (.int .i64 f.tie) ∧ w'.cell? ⟨w.heap.size, 4, none⟩ = some (.int .i64 f.to) ∧ w'.cell? ⟨w.heap.size, 5, none⟩ = some (.int .i64 f.lastTie) ∧ w'.cell? ⟨w.heap.size, 6, none⟩ = some (.int .i64 f.lastTo) ∧ w'.cell? ⟨w.heap.size, 7, none⟩ = some (.int .i64 f.first) ∧ w'.cell? ⟨w.heap.size, 8, none⟩ = some (.int .i64 f.next) ∧ w'.cell? ⟨w.heap.size, 9, none⟩ = some (.bool f.doubles) ∧ w'.cell? ⟨w1.heap.size, 0, none⟩ = some (.int .i64 (M.swWon f ps g p).A) ∧ w'.cell? ⟨w1.heap.size, 1, none⟩ = some (.int .i64 (M.swWon f ps g p).B) ∧ w1.heap.size < w'.heap.size)) w2 := (by (try dsimp only); (exact kp)); (try dsimp only at hSn); (try clear hS); have hS := hSn; clear hSn hc hf) | (go_at_call 47; refine (lfp_any f _ (.slice A n c) (M.swWon f ps g p) g p _ HVV.out hs0 hs1 HW0.out HW1.out HGB.out HPB.out A n c rfl).mono ?_; rintro e w3 ⟨rfl, hb⟩; obtain ⟨hc, hf⟩ := bcell hb; have hz := hb.size; (try simp at hz); have hSn : ((fun w' => Below w.heap.size w w')) w3 := (by (try dsimp only); (exact kp)); (try dsimp only at hSn); (try clear hS); have hS := hSn; clear hSn hc hf))
            go_ret2
            exact ⟨rfl, by (go_split_ands; (exact kb))⟩
      · have h1 : M.leastE f ps g p side = 0 := by unfold M.leastE; rw [if_neg (fun h => h h0), if_pos hsd, if_pos (by simpa using hw1)]
        have h2 : M.leastV f ps g p side = 0 := by unfold M.leastV; rw [if_neg (fun h => h h0), if_pos hsd, if_pos (by simpa using hw1)]
        rw [h1, h2]; clear h1 h2 h0 hvv hnu hst hwon hbd hgf hpf
        go_enter Try.func20, Try.ntmps20
        rcases (show side = 0 ∨ side = 1 by omega) with e | e
        all_goals
          subst e
          go_wp2_with (first | (go_at_call 45; refine (setsWon_any f A n c ps g p _ HN.out ((HR.out.below (by (exact kb))).mono (by first | (simp; done) | (simp; omega))) hm).mono ?_; rintro e w1 ⟨rfl, hb⟩; obtain ⟨hc, hf⟩ := bcell hb; have hz := hb.size; (try simp at hz); have hSn : ((fun w' => Below w.heap.size w w' ∧ w.heap.size < w'.heap.size ∧ w.heap.size + 1 < w'.heap.size ∧ w'.cell? ⟨w.heap.size + 1, 0, none⟩ = some (.slice A n c) ∧ w'.cell? ⟨w.heap.size + 1, 1, none⟩ = some (.int .i64 g.A) ∧ w'.cell? ⟨w.heap.size + 1, 2, none⟩ = some (.int .i64 g.B) ∧ w'.cell? ⟨w.heap.size + 1, 3, none⟩ = some (.int .i64 p.A) ∧ w'.cell? ⟨w.heap.size + 1, 4, none⟩ = some (.int .i64 p.B) ∧ w'.cell? ⟨w.heap.size, 0, none⟩ = some (.int .i64 f.sets) ∧ w'.cell? ⟨w.heap.size, 1, none⟩ = some (.int .i64 f.games) ∧ w'.cell? ⟨w.heap.size, 2, none⟩ = some (.bool f.noAd) ∧ w'.cell? ⟨w.heap.size, 3, none⟩ = some (.int .i64 f.tie) ∧ w'.cell? ⟨w.heap.size, 4, none⟩ = some (.int .i64 f.to) ∧ w'.cell? ⟨w.heap.size, 5, none⟩ = some (.int .i64 f.lastTie) ∧ w'.cell? ⟨w.heap.size, 6, none⟩ = some (.int .i64 f.lastTo) ∧ w'.cell? ⟨w.heap.size, 7, none⟩ = some (.int .i64 f.first) ∧ w'.cell? ⟨w.heap.size, 8, none⟩ = some (.int .i64 f.next) ∧ w'.cell? ⟨w.heap.size, 9, none⟩ = some (.bool f.doubles))) w1 := (by (try dsimp only); (exact kp)); (try dsimp only at hSn); (try clear hS); have hS := hSn; clear hSn hc hf) | (go_at_call 46; refine (winner_any f (M.swWon f ps g p) _).mono ?_; rintro e w2 ⟨rfl, hb⟩; obtain ⟨hc, hf⟩ := bcell hb; have hz := hb.size; (try simp at hz); have hSn : ((fun w' => Below w.heap.size w w' ∧ w.heap.size < w'.heap.size ∧ w.heap.size + 1 < w'.heap.size ∧ w'.cell? ⟨w.heap.size + 1, 0, none⟩ = some (.slice A n c) ∧ w'.cell? ⟨w.heap.size + 1, 1, none⟩ = some (.int .i64 g.A) ∧ w'.cell? ⟨w.heap.size + 1, 2, none⟩ = some (.int .i64 g.B) ∧ w'.cell? ⟨w.heap.size + 1, 3, none⟩ = some (.int .i64 p.A) ∧ w'.cell? ⟨w.heap.size + 1, 4, none⟩ = some (.int .i64 p.B) ∧ w'.cell? ⟨w.heap.size, 0, none⟩ = some (.int .i64 f.sets) ∧ w'.cell? ⟨w.heap.size, 1, none⟩ = some (.int .i64 f.games) ∧ w'.cell? ⟨w.heap.size, 2, none⟩ = some (.bool f.noAd) ∧ w'.cell? ⟨w.heap.size, 3, none⟩ = some (.int .i64 f.tie) ∧ w'.cell? ⟨w.heap.size, 4, none⟩ = some (.int .i64 f.to) ∧ w'.cell? ⟨w.heap.size, 5, none⟩ = some (.int .i64 f.lastTie) ∧ w'.cell? ⟨w.heap.size, 6, none⟩ = some (.int .i64 f.lastTo) ∧ w'.cell? ⟨w.heap.size, 7, none⟩ = some (.int .i64 f.first) ∧ w'.cell? ⟨w.heap.size, 8, none⟩ = some (.int .i64 f.next) ∧ w'.cell? ⟨w.heap.size, 9, none⟩ = some (.bool f.doubles) ∧ w'.cell? ⟨w1.heap.size, 0, none⟩ = some (.int .i64 (M.swWon f ps g p).A) ∧ w'.cell? ⟨w1.heap.size, 1, none⟩ = some (.int .i64 (M.swWon f ps g p).B) ∧ w1.heap.size < w'.heap.size)) w2 := (by (try dsimp only); (exact kp)); (try dsimp only at hSn); (try clear hS); have hS := hSn; clear hSn hc hf) | (go_at_call 47; refine (lfp_any f _ (.slice A n c) (M.swWon f ps g p) g p _ HVV.out hs0 hs1 HW0.out HW1.out HGB.out HPB.out A n c rfl).mono ?_; rintro e w3 ⟨rfl, hb⟩; obtain ⟨hc, hf⟩ := bcell hb; have hz := hb.size; (try simp at hz); have hSn : ((fun w' => Below w.heap.size w w')) w3 := (by (try dsimp only); (exact kp)); (try dsimp only at hSn); (try clear hS); have hS := hSn; clear hSn hc hf))
          go_ret2
          exact ⟨rfl, by (go_split_ands; (exact kb))⟩
  · have h0 : M.swE f ps g p ≠ 0 := by simpa using hsw
    have h1 : M.leastE f ps g p side = M.swE f ps g p := if_pos h0
    have h2 : M.leastV f ps g p side = 0 := if_pos h0
    rw [h1, h2]; clear h1 h2 h0
    go_enter Try.func20, Try.ntmps20
    go_wp2_with (first | (go_at_call 45; refine (setsWon_any f A n c ps g p _ HN.out ((HR.out.below (by (exact kb))).mono (by first | (simp; done) | (simp; omega))) hm).mono ?_; rintro e w1 ⟨rfl, hb⟩; obtain ⟨hc, hf⟩ := bcell hb; have hz := hb.size; (try simp at hz); have hSn : ((fun w' => Below w.heap.size w w' ∧ w.heap.size < w'.heap.size ∧ w.heap.size + 1 < w'.heap.size ∧ w'.cell? ⟨w.heap.size + 1, 0, none⟩ = some (.slice A n c) ∧ w'.cell? ⟨w.heap.size + 1, 1, none⟩ = some (.int .i64 g.A) ∧ w'.cell? ⟨w.heap.size + 1, 2, none⟩ = some (.int .i64 g.B) ∧ w'.cell? ⟨w.heap.size + 1, 3, none⟩ = some (.int .i64 p.A) ∧ w'.cell? ⟨w.heap.size + 1, 4, none⟩ = some (.int .i64 p.B) ∧ w'.cell? ⟨w.heap.size, 0, none⟩ = some (.int .i64 f.sets) ∧ w'.cell? ⟨w.heap.size, 1, none⟩ = some (.int .i64 f.games) ∧ w'.cell? ⟨w.heap.size, 2, none⟩ = some (.bool f.noAd) ∧ w'.cell? ⟨w.heap.size, 3, none⟩ = some (.int .i64 f.tie) ∧ w'.cell? ⟨w.heap.size, 4, none⟩ = some (.int .i64 f.to) ∧ w'.cell? ⟨w.heap.size, 5, none⟩ = some (.int .i64 f.lastTie) ∧ w'.cell? ⟨w.heap.size, 6, none⟩ = some (.int .i64 f.lastTo) ∧ w'.cell? ⟨w.heap.size, 7, none⟩ = some (.int .i64 f.first) ∧ w'.cell? ⟨w.heap.size, 8, none⟩ = some (.int .i64 f.next) ∧ w'.cell? ⟨w.heap.size, 9, none⟩ = some (.bool f.doubles))) w1 := (by (try dsimp only); (exact kp)); (try dsimp only at hSn); (try clear hS); have hS := hSn; clear hSn hc hf))
    go_ret2
    exact ⟨rfl, by (go_split_ands; (exact kb))⟩

end Go.Proofs.Ytmhaapghiecfcaa

namespace Go.Proofs.Ytmhaapghiecfcaa
open Go.RowKit
attribute [local go_sem ↓] Go.wp_at_zero Go.wp_at_succ

theorem flatP_at : ∀ (l : List M.Pr) (k : Nat) (p : M.Pr), l[k]? = some p → (flatP l)[k * 2]? = some (.int .i64 p.A) ∧ (flatP l)[k * 2 + 1]? = some (.int .i64 p.B)
  | [], k, p, h => by simp at h
  | g :: r, 0, p, h => by
    simp only [List.getElem?_cons_zero, Option.some.injEq] at h
    subst h
    exact ⟨rfl, rfl⟩
  | g :: r, k + 1, p, h => by
    have ih := flatP_at r k p (by simpa using h)
    have e : flatP (g :: r) = .int .i64 g.A :: .int .i64 g.B :: flatP r := rfl
    have e1 : (k + 1) * 2 = k * 2 + 1 + 1 := by omega
    rw [e, e1]
    simpa using ih
theorem owns_RdP {w : World} {base : Nat} {A : Option Addr} {n c : Nat} {ps : List M.Pr} (h : w.ownsRow base 32 2 (.slice A n c) n (flatP ps)) (hn : ps.length = n) : RdP w w.heap.size A ps := by
  intro k p hk
  have hkl : k < n := by rw [← hn]; exact (List.getElem?_eq_some_iff.1 hk).1
  obtain ⟨g, cap, e, hbg, hh⟩ := h.form (by omega)
  have e' : A = some ⟨g, 0, none⟩ ∧ c = cap := by
    simp only [Value.slice.injEq] at e
    exact ⟨e.1, e.2.2⟩
  obtain ⟨rfl, rfl⟩ := e'
  obtain ⟨h0, h1⟩ := flatP_at ps k p hk
  refine ⟨g, 0, rfl, ?_, ?_, ?_⟩
  · exact (h.lt g rfl).2
  · rw [Nat.zero_add, h.cellAt (k * 2) (by omega)]; exact h0
  · rw [Nat.zero_add, h.cellAt (k * 2 + 1) (by omega)]; exact h1

theorem Play_ex (A : Option Addr) (w : World) (hr : RdI w w.heap.size A M.exP) :
    Calls Try.prog 13 #[.agg #[.int .i64 2, .int .i64 2, .bool false, .int .i64 2, .int .i64 3, .int .i64 0, .int .i64 4, .int .i64 2, .int .i64 2, .bool false], .int .i64 0, .slice A 20 20] w fun e w' => ∃ A' c', e = .returned (.tuple #[.agg #[.slice A' 1 c', .int .i64 0, .int .i64 1, .int .i64 0, .int .i64 0, .int .i64 1, .int .i64 3, .int .i64 2, .int .i64 (-1)], .int .i64 0]) ∧ RdP w' w'.heap.size A' [⟨3, 1⟩] ∧ Below w.heap.size w w' := by
  refine (Play_any M.exF 0 A 20 20 M.exP w rfl hr (by omega)).mono ?_
  rintro e w' ⟨sv, rfl, hsv, hb⟩
  obtain ⟨A', c', rfl⟩ := own_form hsv
  have hp := M.ex_playM
  obtain ⟨f1, f2, f3, f4, f5, f6, f7⟩ := M.ex_facts
  rw [hp, f5] at hsv
  have hsv' : w'.ownsRow w.heap.size 32 2 (.slice A' 1 c') 1 (flatP [⟨3, 1⟩]) := hsv
  refine ⟨A', c', ?_, owns_RdP hsv' rfl, hb⟩
  rw [hp, M.ex_playE, f1, f2, f3, f4, f5, f6, f7]
  rfl
theorem Ways_ex (A : Option Addr) (w : World) (hr : RdP w w.heap.size A [⟨2, 3⟩]) :
    Calls Try.prog 32 #[.agg #[.int .i64 2, .int .i64 2, .bool false, .int .i64 2, .int .i64 3, .int .i64 0, .int .i64 4, .int .i64 2, .int .i64 2, .bool false], .slice A 1 1] w fun e w' => e = .returned (.tuple #[.int .i64 4, .int .i64 0]) ∧ Below w.heap.size w w' := by
  refine (Ways_any M.exF A 1 1 [⟨2, 3⟩] w rfl hr (by omega)).mono ?_
  rintro e w' ⟨rfl, hb⟩
  rw [M.ex_ways.1, M.ex_ways.2]
  exact ⟨rfl, hb⟩
theorem Least_ex (w : World) :
    Calls Try.prog 20 #[.agg #[.int .i64 2, .int .i64 2, .bool false, .int .i64 2, .int .i64 3, .int .i64 0, .int .i64 4, .int .i64 2, .int .i64 2, .bool false], .agg #[.slice none 0 0, .int .i64 0, .int .i64 0, .int .i64 0, .int .i64 0], .int .i64 0] w fun e w' => e = .returned (.tuple #[.int .i64 16, .int .i64 0]) ∧ Below w.heap.size w w' := by
  refine (Least_any M.exF none 0 0 [] M.zero M.zero 0 w rfl (RdP.nil _ _ _) (by omega)).mono ?_
  rintro e w' ⟨rfl, hb⟩
  rw [M.ex_least.1, M.ex_least.2]
  exact ⟨rfl, hb⟩
theorem sameBoard_ex (A1 A2 : Option Addr) (c1 c2 : Nat) (w : World) (h1 : RdP w w.heap.size A1 [⟨3, 1⟩]) (h2 : RdP w w.heap.size A2 [⟨3, 1⟩]) :
    Calls Try.prog 22 #[.agg #[.slice A1 1 c1, .int .i64 0, .int .i64 1, .int .i64 0, .int .i64 0], .agg #[.slice A2 1 c2, .int .i64 0, .int .i64 1, .int .i64 0, .int .i64 0]] w fun e w' => e = .returned (.bool true) ∧ Below w.heap.size w w' := by
  exact sameBoard_any A1 A2 1 1 c1 c2 [⟨3, 1⟩] [⟨3, 1⟩] ⟨0, 1⟩ ⟨0, 1⟩ ⟨0, 0⟩ ⟨0, 0⟩ w rfl rfl h1 h2 (by omega) (by omega)

theorem RdP_new (w : World) (p : M.Pr) (t : TypeId) : RdP (w.alloc (.cells #[.int .i64 p.A, .int .i64 p.B] t (0, 0))) (w.alloc (.cells #[.int .i64 p.A, .int .i64 p.B] t (0, 0))).heap.size (some ⟨w.heap.size, 0, none⟩) [p] := by
  intro k q hk
  have hk0 : k = 0 := by have := (List.getElem?_eq_some_iff.1 hk).1; simp at this; exact this
  subst hk0
  simp only [List.getElem?_cons_zero, Option.some.injEq] at hk
  subst hk
  exact ⟨w.heap.size, 0, rfl, by simp, (alloc_cell w _ rfl _ _ _).trans rfl, (alloc_cell w _ rfl _ _ _).trans rfl⟩

set_option maxHeartbeats 4000000 in
set_option maxRecDepth 100000 in
theorem works_any (w : World) : Calls Try.prog 10 #[] w fun e w' => e = .returned (.bool true) ∧ Below w.heap.size w w' := by
  go_enter Try.func10, Try.ntmps10
  go_upto_region 2 with (first | (go_at_call 34; refine (Example_any _).mono ?_; rintro e w1 ⟨A, rfl, hrd, hb1⟩; have HR1 := hide hrd; have HB1 := hide hb1; clear hrd hb1))
  have h23 : (w1.alloc (.cells #[.int .i64 2, .int .i64 2, .bool false, .int .i64 2, .int .i64 3, .int .i64 0, .int .i64 4, .int .i64 2, .int .i64 2, .bool false] 23 (0, 0))).heap[w1.heap.size]? = some (.cells #[.int .i64 2, .int .i64 2, .bool false, .int .i64 2, .int .i64 3, .int .i64 0, .int .i64 4, .int .i64 2, .int .i64 2, .bool false] 23 (0, 0)) := heap_alloc_new _ _
  have HR2 := hide ((HR1.out.below (Below.alloc (Below.refl _ _) (Nat.le_refl _) (.cells #[.int .i64 2, .int .i64 2, .bool false, .int .i64 2, .int .i64 3, .int .i64 0, .int .i64 4, .int .i64 2, .int .i64 2, .bool false] 23 (0, 0)))).mono (B' := (w1.alloc (.cells #[.int .i64 2, .int .i64 2, .bool false, .int .i64 2, .int .i64 3, .int .i64 0, .int .i64 4, .int .i64 2, .int .i64 2, .bool false] 23 (0, 0))).heap.size) (by simp))
  have HB2 := hide (Below.alloc HB1.out HB1.out.size (.cells #[.int .i64 2, .int .i64 2, .bool false, .int .i64 2, .int .i64 3, .int .i64 0, .int .i64 4, .int .i64 2, .int .i64 2, .bool false] 23 (0, 0)))
  have hq1 : w1.heap.size < (w1.alloc (.cells #[.int .i64 2, .int .i64 2, .bool false, .int .i64 2, .int .i64 3, .int .i64 0, .int .i64 4, .int .i64 2, .int .i64 2, .bool false] 23 (0, 0))).heap.size := by simp
  clear HR1 HB1
  generalize (w1.alloc (.cells #[.int .i64 2, .int .i64 2, .bool false, .int .i64 2, .int .i64 3, .int .i64 0, .int .i64 4, .int .i64 2, .int .i64 2, .bool false] 23 (0, 0))) = w2 at h23 HR2 HB2 hq1 ⊢
  generalize w1.heap.size = q1 at h23 hq1 ⊢
  have H23 := hide h23
  have hcc := fun i => cell_of_row w2 q1 i _ _ _ h23
  clear h23
  go_upto_region 3 with (first | (go_at_call 13; refine (Play_ex A _ HR2.out).mono ?_; rintro e w3 ⟨A', c', rfl, hrd, hb⟩; have HR3 := hide hrd; have HB3 := hide hb; clear hrd hb))
  have h36 : (w3.alloc (.cells #[.slice A' 1 c', .int .i64 0, .int .i64 1, .int .i64 0, .int .i64 0, .int .i64 1, .int .i64 3, .int .i64 2, .int .i64 (-1)] 36 (0, 0))).heap[w3.heap.size]? = some (.cells #[.slice A' 1 c', .int .i64 0, .int .i64 1, .int .i64 0, .int .i64 0, .int .i64 1, .int .i64 3, .int .i64 2, .int .i64 (-1)] 36 (0, 0)) := heap_alloc_new _ _
  have hz3 := HB3.out.size
  have h23 : (w3.alloc (.cells #[.slice A' 1 c', .int .i64 0, .int .i64 1, .int .i64 0, .int .i64 0, .int .i64 1, .int .i64 3, .int .i64 2, .int .i64 (-1)] 36 (0, 0))).heap[q1]? = some (.cells #[.int .i64 2, .int .i64 2, .bool false, .int .i64 2, .int .i64 3, .int .i64 0, .int .i64 4, .int .i64 2, .int .i64 2, .bool false] 23 (0, 0)) := (heap_alloc_old _ _ (by omega)).trans ((HB3.out.block q1 hq1).trans H23.out)
  have HR4 := hide ((HR3.out.below (Below.alloc (Below.refl _ _) (Nat.le_refl _) (.cells #[.slice A' 1 c', .int .i64 0, .int .i64 1, .int .i64 0, .int .i64 0, .int .i64 1, .int .i64 3, .int .i64 2, .int .i64 (-1)] 36 (0, 0)))).mono (B' := (w3.alloc (.cells #[.slice A' 1 c', .int .i64 0, .int .i64 1, .int .i64 0, .int .i64 0, .int .i64 1, .int .i64 3, .int .i64 2, .int .i64 (-1)] 36 (0, 0))).heap.size) (by simp))
  have HB4 := hide (Below.alloc (HB2.out.trans (HB3.out.mono HB2.out.size)) (Nat.le_trans HB2.out.size hz3) (.cells #[.slice A' 1 c', .int .i64 0, .int .i64 1, .int .i64 0, .int .i64 0, .int .i64 1, .int .i64 3, .int .i64 2, .int .i64 (-1)] 36 (0, 0)))
  have hq3 : w3.heap.size < (w3.alloc (.cells #[.slice A' 1 c', .int .i64 0, .int .i64 1, .int .i64 0, .int .i64 0, .int .i64 1, .int .i64 3, .int .i64 2, .int .i64 (-1)] 36 (0, 0))).heap.size := by simp
  have hq13 : q1 < w3.heap.size := by omega
  clear HR2 HB2 HR3 HB3 H23 hcc hq1 hz3
  generalize (w3.alloc (.cells #[.slice A' 1 c', .int .i64 0, .int .i64 1, .int .i64 0, .int .i64 0, .int .i64 1, .int .i64 3, .int .i64 2, .int .i64 (-1)] 36 (0, 0))) = w4 at h23 h36 HR4 HB4 hq3 ⊢
  generalize w3.heap.size = q3 at h36 hq3 hq13 ⊢
  have H23 := hide h23
  have H36 := hide h36
  have hcc := fun i => cell_of_row w4 q1 i _ _ _ h23
  clear h23 h36 w1 w2 w3
  go_upto_region 4 with (first | (go_at_call 32; refine (Ways_ex _ _ (RdP_new w4 ⟨2, 3⟩ 32)).mono ?_; rintro e w5 ⟨rfl, hb⟩; have HB5 := hide (show Below w4.heap.size w4 w5 from (Below.alloc (Below.refl _ _) (Nat.le_refl _) _).trans (hb.mono (by simp))); clear hb))
  have hz5 := HB5.out.size
  have h23 : w5.heap[q1]? = some (.cells #[.int .i64 2, .int .i64 2, .bool false, .int .i64 2, .int .i64 3, .int .i64 0, .int .i64 4, .int .i64 2, .int .i64 2, .bool false] 23 (0, 0)) := (HB5.out.block q1 (by omega)).trans H23.out
  have h36 : w5.heap[q3]? = some (.cells #[.slice A' 1 c', .int .i64 0, .int .i64 1, .int .i64 0, .int .i64 0, .int .i64 1, .int .i64 3, .int .i64 2, .int .i64 (-1)] 36 (0, 0)) := (HB5.out.block q3 hq3).trans H36.out
  have HR5 := hide ((HR4.out.below HB5.out).mono hz5)
  have HB5' := hide (HB4.out.trans (HB5.out.mono HB4.out.size))
  clear HR4 HB4 HB5 H23 H36 hcc
  have H36 := hide h36
  have hcc := fun i => cell_of_row w5 q1 i _ _ _ h23
  clear h23 h36
  go_upto_region 5 with (first | (go_at_call 20; refine (Least_ex _).mono ?_; rintro e w6 ⟨rfl, hb⟩; have HB6 := hide hb; clear hb))
  have hz6 := HB6.out.size
  have h36 : w6.heap[q3]? = some (.cells #[.slice A' 1 c', .int .i64 0, .int .i64 1, .int .i64 0, .int .i64 0, .int .i64 1, .int .i64 3, .int .i64 2, .int .i64 (-1)] 36 (0, 0)) := (HB6.out.block q3 (by omega)).trans H36.out
  have HR6 := hide ((HR5.out.below HB6.out).mono hz6)
  have HB7 := hide (HB5'.out.trans (HB6.out.mono HB5'.out.size))
  clear HR5 HB5' HB6 H36 hcc
  have hcc := fun i => cell_of_row w6 q3 i _ _ _ h36
  clear h36
  go_wp2_with (first | (go_at_call 22; refine (sameBoard_ex _ _ _ _ _ ((HR6.out.below (Below.alloc (Below.refl _ _) (Nat.le_refl _) _)).mono (by simp)) (RdP_new w6 ⟨3, 1⟩ 32)).mono ?_; rintro e w8 ⟨rfl, hb⟩; have HB8 := hide (show Below w6.heap.size w6 w8 from (Below.alloc (Below.refl _ _) (Nat.le_refl _) _).trans (hb.mono (by simp))); clear hb))
  go_ret
  exact ⟨rfl, HB7.out.trans (HB8.out.mono HB7.out.size)⟩

end Go.Proofs.Ytmhaapghiecfcaa

namespace Go.Proofs.Ytmhaapghiecfcaa
open Go.RowKit

namespace M
def rfresh (m : Mt) : Bool := (dueB m.f.first m.f.next m.log.length && !rtied m.f m.sets m.games) || (decide (2 ≤ m.log.length) && dueB m.f.first m.f.next ((m.log.length : Int) - 2) && tieAt m.log (m.log.length - 2))
def rbegin (m : Mt) : Mt := { m with fresh := rfresh m, balls := if rfresh m then m.balls + 1 else m.balls }
end M

structure RAt (w : World) (base : Nat) (m : M.Mt) (sv gv : Value) : Prop where
  s : w.ownsRow base 32 2 sv m.sets.length (flatP m.sets)
  g : w.ownsRow base 44 7 gv m.log.length (flatG m.log)
theorem RAt.below {w w' : World} {base : Nat} {m : M.Mt} {sv gv : Value} (h : RAt w base m sv gv) (hb : Below w.heap.size w w') : RAt w' base m sv gv :=
  have hg : w.grownBy w' none := ⟨hb.os, hb.tape, hb.output, hb.size, fun i hi _ => hb.block i hi⟩
  ⟨h.s.kept hg (by cases sv.ownBlock <;> simp), h.g.kept hg (by cases gv.ownBlock <;> simp)⟩
theorem RAt.tie {w : World} {base n : Nat} {m : M.Mt} {g c2 : Nat} {sv : Value} (h : RAt w base m sv (.slice (some ⟨g, 0, none⟩) n c2)) (hn : m.log.length = n) (h2 : 2 ≤ n) : w.cell? ⟨g, (n - 2) * 7 + 1, none⟩ = some (.bool (M.tieAt m.log (n - 2))) := by
  subst hn
  exact (h.g.cellAt _ (by omega)).trans (flatG_tie m.log _ (by omega))
theorem RAt.form {w : World} {base n : Nat} {m : M.Mt} {A2 : Option Addr} {c2 : Nat} {sv : Value} (h : RAt w base m sv (.slice A2 n c2)) (hn : m.log.length = n) (h2 : 0 < n) : ∃ g, A2 = some ⟨g, 0, none⟩ := by
  subst hn
  obtain ⟨g, cap, e, _⟩ := h.g.form h2
  simp only [Value.slice.injEq] at e
  exact ⟨g, e.1⟩

end Go.Proofs.Ytmhaapghiecfcaa

namespace Go.Proofs.Ytmhaapghiecfcaa
open Go.RowKit
attribute [local go_sem ↓] Go.wp_at_zero Go.wp_at_succ

namespace M
def rwin (m : Mt) (pts : Pr) : Int := if rtied m.f m.sets m.games then leads pts (rto m.f m.sets) else gameWinner m.f pts
def rgame (m : Mt) (pts : Pr) (win : Int) : Gm := { set := m.sets.length, tie := rtied m.f m.sets m.games, server := serverOf m.opens m.f.doubles m.log.length 0, winner := win, pts := pts, fresh := m.fresh }
def rodd (m : Mt) (games : Pr) : Mt := if (games.A + games.B) % 2 = 1 then { m with ends := m.ends + 1 } else m
def rset (m : Mt) (games : Pr) (win : Int) : Mt :=
  if (wonR zero (m.sets ++ [games])).A = m.f.sets ∨ (wonR zero (m.sets ++ [games])).B = m.f.sets then { m with sets := m.sets ++ [games], games := zero, winner := win }
  else rbegin (rodd { m with sets := m.sets ++ [games], games := zero } games)
def rover (m : Mt) (pts : Pr) (win : Int) : Mt :=
  if rtied m.f m.sets m.games = true ∨ 0 ≤ leads (plus m.games win) m.f.games then rset { m with pts := zero, log := m.log ++ [rgame m pts win] } (plus m.games win) win
  else rbegin (rodd { m with pts := zero, log := m.log ++ [rgame m pts win], games := plus m.games win } (plus m.games win))
def rpoint (m : Mt) (side : Int) : Mt :=
  if rwin m (plus m.pts side) < 0 then { m with pts := plus m.pts side, ends := if rtied m.f m.sets m.games = true ∧ ((plus m.pts side).A + (plus m.pts side).B) % 6 = 0 then m.ends + 1 else m.ends }
  else rover m (plus m.pts side) (rwin m (plus m.pts side))
end M

theorem RAt.with {w : World} {base : Nat} {m m' : M.Mt} {sv gv : Value} (h : RAt w base m sv gv) (h1 : m'.sets = m.sets) (h2 : m'.log = m.log) : RAt w base m' sv gv :=
  ⟨by rw [h1]; exact h.s, by rw [h2]; exact h.g⟩

end Go.Proofs.Ytmhaapghiecfcaa

namespace Go.Proofs.Ytmhaapghiecfcaa
open Go.ChangeShapes Go.WideShapes Go.ChangeAt Go.RowKit Go.Deep Go.Joins

section
variable {H : Type} {enc : TypeId × Value → H} {P : Program}

theorem trodAll_stays {W W' : World} {sp : Nat → Bool} (hl : laidOutB P = true) (hb : Below W.heap.size W W') : ∀ {ts : List TypeId} {vs : List Value} {ds : List (DataW H)} {ps : List MemPlace}, (∀ t ∈ ts, P.readableRec t = true ∧ t < P.types.size) → (∀ x ∈ ps, x.block < W.heap.size) → (∀ x ∈ ps, sp x.block = true) → DataW.TrodAll enc P W 0 (fun _ => true) true ts vs ds ps → DataW.TrodAll enc P W' 0 sp true ts vs ds ps
  | [], vs, ds, ps, _, _, _, h => by
    obtain ⟨rfl, rfl, rfl⟩ := trodAll_nil h
    exact trodAll_mk0
  | t :: ts, vs, ds, ps, hr, hlt, hsp, h => by
    obtain ⟨v, vs', d, ds', p, q, rfl, rfl, rfl, h0, h1⟩ := trodAll_cons h
    refine trodAll_cons_mk ?_ (trodAll_stays hl hb (fun t ht => hr t (List.mem_cons_of_mem _ ht)) (fun x hx => hlt x (List.mem_append_right _ hx)) (fun x hx => hsp x (List.mem_append_right _ hx)) h1)
    exact WideElems.Trod_stays hl (hr t (List.mem_cons_self ..)).1 (hr t (List.mem_cons_self ..)).2 h0 (fun x hx => hb.same (hlt x (List.mem_append_left _ hx))) (fun x hx => hsp x (List.mem_append_left _ hx))

theorem law_post {f : Func} {s : ChangeSpec} {fresh handsOn again : Bool} {W W' : World} {args : Array Value} {bt : TypeId} {ds gs : List (DataW H)} {before : List MemPlace}
    (hrt : f.resultTypes = #[bt]) (hbt : P.underlying bt = some .bool) (hsv : s.vars = []) (hs : s.fn H ds = { results := [.lit (.bool true)], args := ds }) (hl : laidOutB P = true) (hr : ∀ t ∈ f.params.toList, P.readableRec t = true ∧ t < P.types.size)
    (hW : DataW.Whole enc P f.params.toList s.vars false W args.toList ds gs before) (hb : Below W.heap.size W W') : s.post enc P f false fresh handsOn again W args (.bool true) W' := by
  have hlt : ∀ p ∈ before, p.block < W.heap.size := fun p hp => hW.lt p hp
  have hW1 := hW
  obtain ⟨p, q, hA, hV, hpq, hz, hn⟩ := hW
  rw [hsv] at hV
  obtain ⟨rfl, rfl⟩ := trodVars_none hV
  rw [List.append_nil] at hpq
  subst hpq
  have hs' : s.fn H (ds ++ []) = { results := [.lit (.bool true)], args := ds } := by rw [List.append_nil]; exact hs
  have hres : ∀ (b : Nat) (sp : Nat → Bool) (hd : Bool), DataW.TrodAll enc P W' b sp hd f.resultTypes.toList ((Value.bool true).resultList f.resultTypes.size) (s.fn H (ds ++ [])).results [] := by
    intro b sp hd
    rw [hs', hrt]
    exact trodAll_mk1 (shut_bool hbt true)
  have hargs : ∀ sp : Nat → Bool, (∀ x ∈ before, sp x.block = true) → DataW.TrodAll enc P W' 0 sp true f.params.toList args.toList (s.fn H (ds ++ [])).args before := by
    intro sp hsp
    rw [hs']
    exact trodAll_stays hl hb hr hlt hsp hA
  have hvars : ∀ sp : Nat → Bool, DataW.TrodVars enc P W' sp s.vars (s.fn H (ds ++ [])).vars [] := by
    intro sp
    rw [hs', hsv]
    rfl
  have hok : ∀ (j : Nat) (t : TypeId) (r : Value), f.resultTypes[j]? = some t → ((Value.bool true).resultList f.resultTypes.size)[j]? = some r → Value.okWide P W' .any 0 t r := by
    have := ok_one (P := P) (W' := W') (f := f) (v := .bool true) hrt rfl (okWide_bool_mk hbt true)
    exact this
  have hold : ∀ x ∈ before, (fun b => decide (b < W.heap.size)) x.block = true := fun x hx => by simpa using hlt x hx
  refine ⟨ds, [], before, [], before, [], hW1, hres _ _ _, hargs _ hold, hvars _, World.keptBut_mono (fun x hx => ⟨hx, ?_⟩) (hb.frame (· ∈ before)), fun _ => ?_⟩
  · first | exact Or.inr hx | exact Or.inr (Or.inl hx) | simpa using hx
  · refine ⟨hok, _, _, ([] ++ before) ++ [], ⟨[] ++ before, [], trodAll_append (hargs _ (fun _ _ => rfl)) (hres _ _ _), hvars _, rfl, ?_, fun ha => by cases ha⟩, ?_⟩
    · intro b off hx
      have hin : MemPlace.cell b off ∈ before := by simpa using hx
      rw [hb.frozen (hlt _ hin)]
      exact hz b off hin
    · exact fun p hp _ => by simpa using hp

theorem law_lift {C : Checked} {F : FuncId} {fn : Func} {s : ChangeSpec} {bt : TypeId} {os : Os} (started : os.Started) (own : ownKnob C.prog.godebug = none) (noInit : C.prog.inits.idxOf? F = none) (hfn : C.prog.funcs[F]? = some fn)
    (hrt : fn.resultTypes = #[bt]) (hbt : C.prog.underlying bt = some .bool) (hsv : s.vars = []) (hl : laidOutB C.prog = true) (hr : ∀ t ∈ fn.params.toList, C.prog.readableRec t = true ∧ t < C.prog.types.size)
    (hs : ∀ ds : List (DataW H), ds.length = fn.params.toList.length → s.fn H ds = { results := [.lit (.bool true)], args := ds })
    (witness : ∃ (w : World) (tape : Tape) (i : Input), w.os = os ∧ (w.forCall tape i).Shaped C.prog ∧ i.vars = [] ∧ Input.okWide C.prog (w.forCall tape i) .any w.heap.size F i ∧
      s.pre6 enc C.prog fn [] false (w.forCall tape i).memory i.args ∧ Assume.holds {} C.prog (lone (Frame.enter C.prog F i.args .normal) [] (w.forCall tape i)))
    (contract : ∀ (W : World) (base : Nat) (args : Array Value) (ds : List (DataW H)) (p : List MemPlace), (∀ (j : Nat) t v, fn.params[j]? = some t → args[j]? = some v → Value.okWide C.prog W .any base t v) →
      DataW.TrodAll enc C.prog W 0 (fun _ => true) true fn.params.toList args.toList ds p → (∀ x ∈ p, x.block < W.heap.size) → Calls C.prog F args W fun e w' => e = .returned (.bool true) ∧ Below W.heap.size W w') (fresh handsOn again : Bool) :
    ReturnsInHanded {} C os F .any (s.pre6 enc C.prog fn [] false) (s.post enc C.prog fn false fresh handsOn again) := by
  refine returnsInHanded_of_change own started noInit hfn witness ?_
  intro W base args ds gs before hval hW hc _
  have hW1 := hW
  obtain ⟨p, q, hA, hV, hpq, hz, hn⟩ := hW
  have hA1 : DataW.TrodAll enc C.prog W 0 (fun _ => true) true fn.params.toList args.toList ds p := hA
  rw [hsv] at hV
  obtain ⟨_, rfl⟩ := trodVars_none hV
  have hlen : ds.length = fn.params.toList.length := by
    clear hW1 hA hval hpq hc contract witness
    generalize fn.params.toList = ts at hA1
    generalize args.toList = vs at hA1
    induction ts generalizing vs ds p with
    | nil => obtain ⟨_, rfl, _⟩ := trodAll_nil hA1; rfl
    | cons t ts ih =>
      obtain ⟨_, _, _, _, _, _, rfl, rfl, rfl, _, h1⟩ := trodAll_cons hA1
      rw [List.length_cons, List.length_cons, ih _ _ _ h1]
  refine (contract W base args ds p hval hA1 (fun x hx => hW1.lt x (by rw [hpq]; exact List.mem_append_left _ hx))).mono fun e W' ⟨he, hb⟩ => ?_
  subst he
  exact ⟨_, rfl, law_post hrt hbt hsv (hs ds hlen) hl hr hW1 hb⟩
end

section
variable {H : Type} {enc : TypeId × Value → H} {w : World} {base : Nat} {spare : Nat → Bool} {held : Bool}
theorem trod_fields {P : Program} {t : TypeId} {fs : Array Field} {fuel : Nat} {cs : List Value} {x : DataW H × List MemPlace} (hs : P.underlying t = some (.struct fs)) (hone0 : (match P.underlying t with | some (.struct fs) => oneCellFields P fs && P.cellsOf t == fs.size | _ => false) = true)
    (h : DataW.trod enc P w base spare held fuel t cs = some x) :
    cs.length = fs.size ∧ ∀ (j : Nat) (f : Field), fs[j]? = some f → ∃ (c : Value) (y : DataW H × List MemPlace) (n : Nat), cs[j]? = some c ∧ DataW.trod enc P w base spare held n f.type [c] = some y := by
  rw [hs] at hone0
  simp only [Bool.and_eq_true, beq_iff_eq] at hone0
  obtain ⟨hone, hC⟩ := hone0
  obtain ⟨xs, n, _, _, hcl, hlen, hg⟩ := DataW.trod_struct hs h
  have hll : cs.length = fs.size := hcl.trans hC
  refine ⟨hll, fun j f hj => ?_⟩
  obtain ⟨o, k⟩ := hone_of hone j f hj
  have hjl : j < fs.size := (Array.getElem?_eq_some_iff.1 hj).1
  have h1 := hg j f hj
  rw [o, k] at h1
  have hone' : (cs.drop j).take 1 = [cs[j]'(by omega)] := by
    rw [List.drop_eq_getElem_cons (by omega)]
    rfl
  rw [hone', List.getElem?_eq_getElem (by omega)] at h1
  exact ⟨_, _, n, List.getElem?_eq_getElem (by omega), h1⟩

theorem open_fields {P : Program} {r : Reach} {b0 : Nat} {t : TypeId} {fs : Array Field} {v : Value} {d : DataW H} {p : List MemPlace} (hs : P.underlying t = some (.struct fs)) (hone0 : (match P.underlying t with | some (.struct fs) => oneCellFields P fs && P.cellsOf t == fs.size | _ => false) = true)
    (hv : Value.okWide P w r b0 t v) (h : DataW.Trod enc P w base spare held t v d p) :
    ∃ cs : List Value, v = .agg ⟨cs⟩ ∧ cs.length = fs.size ∧ ∀ (j : Nat) (f : Field), fs[j]? = some f → ∃ (c : Value) (y : DataW H × List MemPlace) (n : Nat), cs[j]? = some c ∧ DataW.trod enc P w base spare held n f.type [c] = some y := by
  obtain ⟨cs, rfl, hsz⟩ := okWide_struct hs hv
  obtain ⟨l⟩ := cs
  obtain ⟨fuel, hf⟩ := h
  have hcells : (Value.agg ⟨l⟩).cells.toList = l := by simp [Value.cells]
  rw [hcells] at hf
  exact ⟨l, rfl, trod_fields hs hone0 hf⟩

theorem pairOne : (match Try.prog.underlying 32 with | some (.struct fs) => oneCellFields Try.prog fs && Try.prog.cellsOf 32 == fs.size | _ => false) = true := by kernel_rfl
theorem fmtOne : (match Try.prog.underlying 23 with | some (.struct fs) => oneCellFields Try.prog fs && Try.prog.cellsOf 23 == fs.size | _ => false) = true := by kernel_rfl
set_option maxRecDepth 100000 in
theorem open_fmt {r : Reach} {b0 : Nat} {v : Value} {d : DataW H} {p : List MemPlace} (hv : Value.okWide Try.prog w r b0 23 v) (h : DataW.Trod enc Try.prog w base spare held 23 v d p) : ∃ f : M.Fm, v = .agg #[.int .i64 f.sets, .int .i64 f.games, .bool f.noAd, .int .i64 f.tie, .int .i64 f.to, .int .i64 f.lastTie, .int .i64 f.lastTo, .int .i64 f.first, .int .i64 f.next, .bool f.doubles] := by
  obtain ⟨cs, rfl, hl, hf⟩ := open_fields Try.underlying23 fmtOne hv h
  match cs, hl with
  | [c0, c1, c2, c3, c4, c5, c6, c7, c8, c9], _ =>
    obtain ⟨_, _, _, e0, h0⟩ := hf 0 _ rfl
    obtain ⟨_, _, _, e1, h1⟩ := hf 1 _ rfl
    obtain ⟨_, _, _, e2, h2⟩ := hf 2 _ rfl
    obtain ⟨_, _, _, e3, h3⟩ := hf 3 _ rfl
    obtain ⟨_, _, _, e4, h4⟩ := hf 4 _ rfl
    obtain ⟨_, _, _, e5, h5⟩ := hf 5 _ rfl
    obtain ⟨_, _, _, e6, h6⟩ := hf 6 _ rfl
    obtain ⟨_, _, _, e7, h7⟩ := hf 7 _ rfl
    obtain ⟨_, _, _, e8, h8⟩ := hf 8 _ rfl
    obtain ⟨_, _, _, e9, h9⟩ := hf 9 _ rfl
    obtain ⟨n0, k0, _, _⟩ := DataW.trod_int Try.underlying3 h0
    obtain ⟨n1, k1, _, _⟩ := DataW.trod_int Try.underlying3 h1
    obtain ⟨n2, k2, _⟩ := DataW.trod_bool Try.underlying4 h2
    obtain ⟨n3, k3, _, _⟩ := DataW.trod_int Try.underlying3 h3
    obtain ⟨n4, k4, _, _⟩ := DataW.trod_int Try.underlying3 h4
    obtain ⟨n5, k5, _, _⟩ := DataW.trod_int Try.underlying3 h5
    obtain ⟨n6, k6, _, _⟩ := DataW.trod_int Try.underlying3 h6
    obtain ⟨n7, k7, _, _⟩ := DataW.trod_int Try.underlying3 h7
    obtain ⟨n8, k8, _, _⟩ := DataW.trod_int Try.underlying3 h8
    obtain ⟨n9, k9, _⟩ := DataW.trod_bool Try.underlying4 h9
    refine ⟨⟨n0, n1, n2, n3, n4, n5, n6, n7, n8, n9⟩, ?_⟩
    simp only [List.getElem?_cons_zero, List.getElem?_cons_succ, Option.some.injEq] at e0 e1 e2 e3 e4 e5 e6 e7 e8 e9
    simp only [List.cons.injEq, and_true] at k0 k1 k2 k3 k4 k5 k6 k7 k8 k9
    rw [e0, e1, e2, e3, e4, e5, e6, e7, e8, e9, k0, k1, k2, k3, k4, k5, k6, k7, k8, k9]

theorem spot_none {w : World} {a : Addr} {v : Value} (h : w.cell? a = some v) : a.spot = none ∧ a.block < w.heap.size := by
  unfold World.cell? at h
  split at h
  · rename_i hb
    refine ⟨?_, (Array.getElem?_eq_some_iff.1 hb).1⟩
    split at h
    · cases h
    · rename_i hs
      simpa using hs
  · cases h
theorem spot_first {w : World} {a : Addr} {v : Value} (h : w.cell? (a.add 0) = some v) : ∃ b o : Nat, a = ⟨b, o, none⟩ ∧ b < w.heap.size := by
  have e : a.add 0 = a := if_pos rfl
  rw [e] at h
  obtain ⟨hs, hb⟩ := spot_none h
  obtain ⟨b, o, s⟩ := a
  have hs' : s = none := hs
  subst hs'
  exact ⟨b, o, rfl, hb⟩
theorem add_plain (b o k : Nat) : (⟨b, o, none⟩ : Addr).add k = ⟨b, o + k, none⟩ := by
  unfold Addr.add
  split
  · rename_i h; subst h; rfl
  · rfl
end
end Go.Proofs.Ytmhaapghiecfcaa

namespace Go.Proofs.Ytmhaapghiecfcaa
open Go.RowKit

theorem flatP_cells {w : World} {B : Nat} {a : Addr} : ∀ {ps : List M.Pr}, RdP w B (some a) ps → ∀ j u, (flatP ps)[j]? = some u → w.cell? (a.add j) = some u := by
  intro ps h j u hj
  have hl : j < ps.length * 2 := by rw [← flatP_length]; exact (List.getElem?_eq_some_iff.1 hj).1
  obtain ⟨p, hp⟩ : ∃ p, ps[j / 2]? = some p := ⟨_, List.getElem?_eq_getElem (by omega)⟩
  obtain ⟨b, o, e, _, c0, c1⟩ := h (j / 2) p hp
  injection e with e
  subst e
  obtain ⟨h0, h1⟩ := flatP_at ps (j / 2) p hp
  rw [add_plain]
  rcases Nat.mod_two_eq_zero_or_one j with hm | hm
  · have e : j / 2 * 2 = j := by omega
    rw [e] at h0 c0
    rw [hj] at h0
    rw [c0]; exact h0.symm
  · have e : j / 2 * 2 + 1 = j := by omega
    rw [e] at h1
    rw [Nat.add_assoc, e] at c1
    rw [hj] at h1
    rw [c1]; exact h1.symm
theorem flatP_one' (l : List M.Pr) : ∀ u ∈ flatP l, u.oneCell' = true := by
  intro u hu
  simp only [flatP, List.mem_flatMap, List.mem_cons, List.not_mem_nil, or_false] at hu
  obtain ⟨p, _, rfl | rfl⟩ := hu <;> rfl
theorem flatP_app2 (l r : List M.Pr) : flatP (l ++ r) = flatP l ++ flatP r := by unfold flatP; simp

theorem owns_empty {w : World} {b : Nat} {base : Nat} (hb : w.heap[b]? = some (.cells #[] 32 (0, 0))) (hle : base ≤ b) : w.ownsRow base 32 2 (.slice (some ⟨b, 0, none⟩) 0 0) ([] : List M.Pr).length (flatP []) :=
  ⟨rfl, .inr ⟨b, 0, #[], rfl, hle, hb, Nat.le_refl _, Nat.zero_le _, rfl, rfl⟩⟩
theorem grown_below {w w' : World} {row : Option Nat} {B : Nat} (h : w.grownBy w' row) (hB : B ≤ w.heap.size) (hr : ∀ g, row = some g → B ≤ g) : Below B w w' :=
  ⟨h.os, h.tape, h.output, h.size, fun i hi => h.block i (by omega) (fun e => by have := hr i e.symm; omega)⟩
theorem RdP.take {w : World} {B : Nat} {A : Option Addr} {ps : List M.Pr} (h : RdP w B A ps) (k : Nat) : RdP w B A (ps.take k) := by
  intro j p hj
  have hjk : j < k := by
    have := (List.getElem?_eq_some_iff.1 hj).1
    rw [List.length_take] at this
    omega
  rw [List.getElem?_take_of_lt hjk] at hj
  exact h j p hj

end Go.Proofs.Ytmhaapghiecfcaa

namespace Go.Proofs.Ytmhaapghiecfcaa
open Go.RowKit
attribute [local go_sem ↓] Go.wp_at_zero Go.wp_at_succ

theorem RAt.set {w : World} {base : Nat} {m : M.Mt} {sv gv : Value} {b : Nat} {cs : Array Value} (h : RAt w base m sv gv) (hb : w.heap[b]? = some (.cells cs 79 (0, 0))) (i : Nat) (u : Value) : RAt (w.setCell ⟨b, i, none⟩ u) base m sv gv :=
  ⟨h.s.kept (setCell_grown w _ u) (.inr (row_ne h.s hb (by decide))), h.g.kept (setCell_grown w _ u) (.inr (row_ne h.g hb (by decide)))⟩
theorem RAt.alloc {w : World} {base : Nat} {m : M.Mt} {sv gv : Value} (h : RAt w base m sv gv) (o : Obj) : RAt (w.alloc o) base m sv gv := ⟨h.s.alloc o, h.g.alloc o⟩

theorem RAt.drew {w : World} {base : Nat} {m : M.Mt} {sv gv : Value} (h : RAt w base m sv gv) : RAt w.drew base m sv gv := ⟨h.s, h.g⟩
theorem RAt.setRow {w : World} {base : Nat} {m : M.Mt} {sv gv : Value} {b : Nat} {cs cs' : Array Value} (h : RAt w base m sv gv) (hb : w.heap[b]? = some (.cells cs 79 (0, 0))) : RAt (w.setRow b cs') base m sv gv :=
  have hg : w.grownBy (w.setRow b cs') (some b) := ⟨rfl, rfl, rfl, by simp, fun k _ hk => setRow_other w _ k _ (fun e => hk (by rw [e]))⟩
  ⟨h.s.kept hg (.inr (row_ne h.s hb (by decide))), h.g.kept hg (.inr (row_ne h.g hb (by decide)))⟩
end Go.Proofs.Ytmhaapghiecfcaa

namespace Go.Proofs.Ytmhaapghiecfcaa
open Go.RowKit
attribute [local go_sem ↓] Go.wp_at_zero Go.wp_at_succ

namespace M
def rnext (m : Mt) : Int := if 0 ≤ m.winner then -1 else serverOf m.opens m.f.doubles m.log.length (if rtied m.f m.sets m.games then (m.pts.A + m.pts.B + 1) / 2 else 0)
def rstart (f : Fm) (first : Int) : Mt := rbegin { start f first with server := 0 }
end M

end Go.Proofs.Ytmhaapghiecfcaa

namespace Go.Proofs.Ytmhaapghiecfcaa
open Go.RowKit

set_option maxHeartbeats 1600000 in
theorem RefCheck_no1 (f : M.Fm) (w : World) (h1 : M.within f.sets 1 3 = false) :
    Calls Try.prog 12 #[.agg #[.int .i64 f.sets, .int .i64 f.games, .bool f.noAd, .int .i64 f.tie, .int .i64 f.to, .int .i64 f.lastTie, .int .i64 f.lastTo, .int .i64 f.first, .int .i64 f.next, .bool f.doubles]] w fun e w' => e = .returned (.int .i64 (if 1 = 9 then 0 else 10)) ∧ Below w.heap.size w w' := by
  have hgb := fun (h : M.within f.games 1 8 = true) => (of_decide_eq_true (by simpa [M.within] using h) : 1 ≤ f.games ∧ f.games ≤ 8)
  have ho : (if 1 = 9 then 0 else 10 : Int) = if 1 = 9 then 0 else 10 := rfl
  simp only [Nat.reduceEqDiff, if_true, if_false, Nat.succ_ne_self, reduceIte]
  clear ho
  go_enter Try.func12, Try.ntmps12
  go_wp2_with (first | (go_at_call 37; refine (refWithin_any _ _ _ _).mono ?_; rintro e w2 ⟨rfl, hb⟩; obtain ⟨hc, hf⟩ := bcell hb; have hz := hb.size; (try simp at hz); have hSn : ((fun w' => Below w.heap.size w w' ∧ w.heap.size < w'.heap.size ∧ w'.cell? ⟨w.heap.size, 0, none⟩ = some (.int .i64 f.sets) ∧ w'.cell? ⟨w.heap.size, 1, none⟩ = some (.int .i64 f.games) ∧ w'.cell? ⟨w.heap.size, 2, none⟩ = some (.bool f.noAd) ∧ w'.cell? ⟨w.heap.size, 3, none⟩ = some (.int .i64 f.tie) ∧ w'.cell? ⟨w.heap.size, 4, none⟩ = some (.int .i64 f.to) ∧ w'.cell? ⟨w.heap.size, 5, none⟩ = some (.int .i64 f.lastTie) ∧ w'.cell? ⟨w.heap.size, 6, none⟩ = some (.int .i64 f.lastTo) ∧ w'.cell? ⟨w.heap.size, 7, none⟩ = some (.int .i64 f.first) ∧ w'.cell? ⟨w.heap.size, 8, none⟩ = some (.int .i64 f.next) ∧ w'.cell? ⟨w.heap.size, 9, none⟩ = some (.bool f.doubles))) w2 := (by (try dsimp only); (exact kp)); (try dsimp only at hSn); (try clear hS); have hS := hSn; clear hSn hc hf) | (go_at_call 38; refine (refTie_any f _ _ (by have := hgb h2; omega) (by have := hgb h2; omega)).mono ?_; rintro e w2 ⟨rfl, hb⟩; obtain ⟨hc, hf⟩ := bcell hb; have hz := hb.size; (try simp at hz); have hSn : ((fun w' => Below w.heap.size w w' ∧ w.heap.size < w'.heap.size ∧ w'.cell? ⟨w.heap.size, 0, none⟩ = some (.int .i64 f.sets) ∧ w'.cell? ⟨w.heap.size, 1, none⟩ = some (.int .i64 f.games) ∧ w'.cell? ⟨w.heap.size, 2, none⟩ = some (.bool f.noAd) ∧ w'.cell? ⟨w.heap.size, 3, none⟩ = some (.int .i64 f.tie) ∧ w'.cell? ⟨w.heap.size, 4, none⟩ = some (.int .i64 f.to) ∧ w'.cell? ⟨w.heap.size, 5, none⟩ = some (.int .i64 f.lastTie) ∧ w'.cell? ⟨w.heap.size, 6, none⟩ = some (.int .i64 f.lastTo) ∧ w'.cell? ⟨w.heap.size, 7, none⟩ = some (.int .i64 f.first) ∧ w'.cell? ⟨w.heap.size, 8, none⟩ = some (.int .i64 f.next) ∧ w'.cell? ⟨w.heap.size, 9, none⟩ = some (.bool f.doubles))) w2 := (by (try dsimp only); (exact kp)); (try dsimp only at hSn); (try clear hS); have hS := hSn; clear hSn hc hf))
  go_ret
  exact ⟨rfl, by (go_split_ands; (exact kb))⟩

set_option maxHeartbeats 1600000 in
theorem RefCheck_no2 (f : M.Fm) (w : World) (h1 : M.within f.sets 1 3 = true) (h2 : M.within f.games 1 8 = false) :
    Calls Try.prog 12 #[.agg #[.int .i64 f.sets, .int .i64 f.games, .bool f.noAd, .int .i64 f.tie, .int .i64 f.to, .int .i64 f.lastTie, .int .i64 f.lastTo, .int .i64 f.first, .int .i64 f.next, .bool f.doubles]] w fun e w' => e = .returned (.int .i64 (if 2 = 9 then 0 else 10)) ∧ Below w.heap.size w w' := by
  have hgb := fun (h : M.within f.games 1 8 = true) => (of_decide_eq_true (by simpa [M.within] using h) : 1 ≤ f.games ∧ f.games ≤ 8)
  have ho : (if 2 = 9 then 0 else 10 : Int) = if 2 = 9 then 0 else 10 := rfl
  simp only [Nat.reduceEqDiff, if_true, if_false, Nat.succ_ne_self, reduceIte]
  clear ho
  go_enter Try.func12, Try.ntmps12
  go_wp2_with (first | (go_at_call 37; refine (refWithin_any _ _ _ _).mono ?_; rintro e w2 ⟨rfl, hb⟩; obtain ⟨hc, hf⟩ := bcell hb; have hz := hb.size; (try simp at hz); have hSn : ((fun w' => Below w.heap.size w w' ∧ w.heap.size < w'.heap.size ∧ w'.cell? ⟨w.heap.size, 0, none⟩ = some (.int .i64 f.sets) ∧ w'.cell? ⟨w.heap.size, 1, none⟩ = some (.int .i64 f.games) ∧ w'.cell? ⟨w.heap.size, 2, none⟩ = some (.bool f.noAd) ∧ w'.cell? ⟨w.heap.size, 3, none⟩ = some (.int .i64 f.tie) ∧ w'.cell? ⟨w.heap.size, 4, none⟩ = some (.int .i64 f.to) ∧ w'.cell? ⟨w.heap.size, 5, none⟩ = some (.int .i64 f.lastTie) ∧ w'.cell? ⟨w.heap.size, 6, none⟩ = some (.int .i64 f.lastTo) ∧ w'.cell? ⟨w.heap.size, 7, none⟩ = some (.int .i64 f.first) ∧ w'.cell? ⟨w.heap.size, 8, none⟩ = some (.int .i64 f.next) ∧ w'.cell? ⟨w.heap.size, 9, none⟩ = some (.bool f.doubles))) w2 := (by (try dsimp only); (exact kp)); (try dsimp only at hSn); (try clear hS); have hS := hSn; clear hSn hc hf) | (go_at_call 38; refine (refTie_any f _ _ (by have := hgb h2; omega) (by have := hgb h2; omega)).mono ?_; rintro e w2 ⟨rfl, hb⟩; obtain ⟨hc, hf⟩ := bcell hb; have hz := hb.size; (try simp at hz); have hSn : ((fun w' => Below w.heap.size w w' ∧ w.heap.size < w'.heap.size ∧ w'.cell? ⟨w.heap.size, 0, none⟩ = some (.int .i64 f.sets) ∧ w'.cell? ⟨w.heap.size, 1, none⟩ = some (.int .i64 f.games) ∧ w'.cell? ⟨w.heap.size, 2, none⟩ = some (.bool f.noAd) ∧ w'.cell? ⟨w.heap.size, 3, none⟩ = some (.int .i64 f.tie) ∧ w'.cell? ⟨w.heap.size, 4, none⟩ = some (.int .i64 f.to) ∧ w'.cell? ⟨w.heap.size, 5, none⟩ = some (.int .i64 f.lastTie) ∧ w'.cell? ⟨w.heap.size, 6, none⟩ = some (.int .i64 f.lastTo) ∧ w'.cell? ⟨w.heap.size, 7, none⟩ = some (.int .i64 f.first) ∧ w'.cell? ⟨w.heap.size, 8, none⟩ = some (.int .i64 f.next) ∧ w'.cell? ⟨w.heap.size, 9, none⟩ = some (.bool f.doubles))) w2 := (by (try dsimp only); (exact kp)); (try dsimp only at hSn); (try clear hS); have hS := hSn; clear hSn hc hf))
  go_ret
  exact ⟨rfl, by (go_split_ands; (exact kb))⟩

set_option maxHeartbeats 1600000 in
theorem RefCheck_no3 (f : M.Fm) (w : World) (h1 : M.within f.sets 1 3 = true) (h2 : M.within f.games 1 8 = true) (h3 : M.tieOk f.games f.tie = false) :
    Calls Try.prog 12 #[.agg #[.int .i64 f.sets, .int .i64 f.games, .bool f.noAd, .int .i64 f.tie, .int .i64 f.to, .int .i64 f.lastTie, .int .i64 f.lastTo, .int .i64 f.first, .int .i64 f.next, .bool f.doubles]] w fun e w' => e = .returned (.int .i64 (if 3 = 9 then 0 else 10)) ∧ Below w.heap.size w w' := by
  have hgb := fun (h : M.within f.games 1 8 = true) => (of_decide_eq_true (by simpa [M.within] using h) : 1 ≤ f.games ∧ f.games ≤ 8)
  have ho : (if 3 = 9 then 0 else 10 : Int) = if 3 = 9 then 0 else 10 := rfl
  simp only [Nat.reduceEqDiff, if_true, if_false, Nat.succ_ne_self, reduceIte]
  clear ho
  go_enter Try.func12, Try.ntmps12
  go_wp2_with (first | (go_at_call 37; refine (refWithin_any _ _ _ _).mono ?_; rintro e w2 ⟨rfl, hb⟩; obtain ⟨hc, hf⟩ := bcell hb; have hz := hb.size; (try simp at hz); have hSn : ((fun w' => Below w.heap.size w w' ∧ w.heap.size < w'.heap.size ∧ w'.cell? ⟨w.heap.size, 0, none⟩ = some (.int .i64 f.sets) ∧ w'.cell? ⟨w.heap.size, 1, none⟩ = some (.int .i64 f.games) ∧ w'.cell? ⟨w.heap.size, 2, none⟩ = some (.bool f.noAd) ∧ w'.cell? ⟨w.heap.size, 3, none⟩ = some (.int .i64 f.tie) ∧ w'.cell? ⟨w.heap.size, 4, none⟩ = some (.int .i64 f.to) ∧ w'.cell? ⟨w.heap.size, 5, none⟩ = some (.int .i64 f.lastTie) ∧ w'.cell? ⟨w.heap.size, 6, none⟩ = some (.int .i64 f.lastTo) ∧ w'.cell? ⟨w.heap.size, 7, none⟩ = some (.int .i64 f.first) ∧ w'.cell? ⟨w.heap.size, 8, none⟩ = some (.int .i64 f.next) ∧ w'.cell? ⟨w.heap.size, 9, none⟩ = some (.bool f.doubles))) w2 := (by (try dsimp only); (exact kp)); (try dsimp only at hSn); (try clear hS); have hS := hSn; clear hSn hc hf) | (go_at_call 38; refine (refTie_any f _ _ (by have := hgb h2; omega) (by have := hgb h2; omega)).mono ?_; rintro e w2 ⟨rfl, hb⟩; obtain ⟨hc, hf⟩ := bcell hb; have hz := hb.size; (try simp at hz); have hSn : ((fun w' => Below w.heap.size w w' ∧ w.heap.size < w'.heap.size ∧ w'.cell? ⟨w.heap.size, 0, none⟩ = some (.int .i64 f.sets) ∧ w'.cell? ⟨w.heap.size, 1, none⟩ = some (.int .i64 f.games) ∧ w'.cell? ⟨w.heap.size, 2, none⟩ = some (.bool f.noAd) ∧ w'.cell? ⟨w.heap.size, 3, none⟩ = some (.int .i64 f.tie) ∧ w'.cell? ⟨w.heap.size, 4, none⟩ = some (.int .i64 f.to) ∧ w'.cell? ⟨w.heap.size, 5, none⟩ = some (.int .i64 f.lastTie) ∧ w'.cell? ⟨w.heap.size, 6, none⟩ = some (.int .i64 f.lastTo) ∧ w'.cell? ⟨w.heap.size, 7, none⟩ = some (.int .i64 f.first) ∧ w'.cell? ⟨w.heap.size, 8, none⟩ = some (.int .i64 f.next) ∧ w'.cell? ⟨w.heap.size, 9, none⟩ = some (.bool f.doubles))) w2 := (by (try dsimp only); (exact kp)); (try dsimp only at hSn); (try clear hS); have hS := hSn; clear hSn hc hf))
  go_ret
  exact ⟨rfl, by (go_split_ands; (exact kb))⟩

set_option maxHeartbeats 1600000 in
theorem RefCheck_no4 (f : M.Fm) (w : World) (h1 : M.within f.sets 1 3 = true) (h2 : M.within f.games 1 8 = true) (h3 : M.tieOk f.games f.tie = true) (h4 : M.tieOk f.games f.lastTie = false) :
    Calls Try.prog 12 #[.agg #[.int .i64 f.sets, .int .i64 f.games, .bool f.noAd, .int .i64 f.tie, .int .i64 f.to, .int .i64 f.lastTie, .int .i64 f.lastTo, .int .i64 f.first, .int .i64 f.next, .bool f.doubles]] w fun e w' => e = .returned (.int .i64 (if 4 = 9 then 0 else 10)) ∧ Below w.heap.size w w' := by
  have hgb := fun (h : M.within f.games 1 8 = true) => (of_decide_eq_true (by simpa [M.within] using h) : 1 ≤ f.games ∧ f.games ≤ 8)
  have ho : (if 4 = 9 then 0 else 10 : Int) = if 4 = 9 then 0 else 10 := rfl
  simp only [Nat.reduceEqDiff, if_true, if_false, Nat.succ_ne_self, reduceIte]
  clear ho
  go_enter Try.func12, Try.ntmps12
  go_wp2_with (first | (go_at_call 37; refine (refWithin_any _ _ _ _).mono ?_; rintro e w2 ⟨rfl, hb⟩; obtain ⟨hc, hf⟩ := bcell hb; have hz := hb.size; (try simp at hz); have hSn : ((fun w' => Below w.heap.size w w' ∧ w.heap.size < w'.heap.size ∧ w'.cell? ⟨w.heap.size, 0, none⟩ = some (.int .i64 f.sets) ∧ w'.cell? ⟨w.heap.size, 1, none⟩ = some (.int .i64 f.games) ∧ w'.cell? ⟨w.heap.size, 2, none⟩ = some (.bool f.noAd) ∧ w'.cell? ⟨w.heap.size, 3, none⟩ = some (.int .i64 f.tie) ∧ w'.cell? ⟨w.heap.size, 4, none⟩ = some (.int .i64 f.to) ∧ w'.cell? ⟨w.heap.size, 5, none⟩ = some (.int .i64 f.lastTie) ∧ w'.cell? ⟨w.heap.size, 6, none⟩ = some (.int .i64 f.lastTo) ∧ w'.cell? ⟨w.heap.size, 7, none⟩ = some (.int .i64 f.first) ∧ w'.cell? ⟨w.heap.size, 8, none⟩ = some (.int .i64 f.next) ∧ w'.cell? ⟨w.heap.size, 9, none⟩ = some (.bool f.doubles))) w2 := (by (try dsimp only); (exact kp)); (try dsimp only at hSn); (try clear hS); have hS := hSn; clear hSn hc hf) | (go_at_call 38; refine (refTie_any f _ _ (by have := hgb h2; omega) (by have := hgb h2; omega)).mono ?_; rintro e w2 ⟨rfl, hb⟩; obtain ⟨hc, hf⟩ := bcell hb; have hz := hb.size; (try simp at hz); have hSn : ((fun w' => Below w.heap.size w w' ∧ w.heap.size < w'.heap.size ∧ w'.cell? ⟨w.heap.size, 0, none⟩ = some (.int .i64 f.sets) ∧ w'.cell? ⟨w.heap.size, 1, none⟩ = some (.int .i64 f.games) ∧ w'.cell? ⟨w.heap.size, 2, none⟩ = some (.bool f.noAd) ∧ w'.cell? ⟨w.heap.size, 3, none⟩ = some (.int .i64 f.tie) ∧ w'.cell? ⟨w.heap.size, 4, none⟩ = some (.int .i64 f.to) ∧ w'.cell? ⟨w.heap.size, 5, none⟩ = some (.int .i64 f.lastTie) ∧ w'.cell? ⟨w.heap.size, 6, none⟩ = some (.int .i64 f.lastTo) ∧ w'.cell? ⟨w.heap.size, 7, none⟩ = some (.int .i64 f.first) ∧ w'.cell? ⟨w.heap.size, 8, none⟩ = some (.int .i64 f.next) ∧ w'.cell? ⟨w.heap.size, 9, none⟩ = some (.bool f.doubles))) w2 := (by (try dsimp only); (exact kp)); (try dsimp only at hSn); (try clear hS); have hS := hSn; clear hSn hc hf))
  go_ret
  exact ⟨rfl, by (go_split_ands; (exact kb))⟩

set_option maxHeartbeats 1600000 in
theorem RefCheck_no5 (f : M.Fm) (w : World) (h1 : M.within f.sets 1 3 = true) (h2 : M.within f.games 1 8 = true) (h3 : M.tieOk f.games f.tie = true) (h4 : M.tieOk f.games f.lastTie = true) (h5 : M.within f.to 1 15 = false) :
    Calls Try.prog 12 #[.agg #[.int .i64 f.sets, .int .i64 f.games, .bool f.noAd, .int .i64 f.tie, .int .i64 f.to, .int .i64 f.lastTie, .int .i64 f.lastTo, .int .i64 f.first, .int .i64 f.next, .bool f.doubles]] w fun e w' => e = .returned (.int .i64 (if 5 = 9 then 0 else 10)) ∧ Below w.heap.size w w' := by
  have hgb := fun (h : M.within f.games 1 8 = true) => (of_decide_eq_true (by simpa [M.within] using h) : 1 ≤ f.games ∧ f.games ≤ 8)
  have ho : (if 5 = 9 then 0 else 10 : Int) = if 5 = 9 then 0 else 10 := rfl
  simp only [Nat.reduceEqDiff, if_true, if_false, Nat.succ_ne_self, reduceIte]
  clear ho
  go_enter Try.func12, Try.ntmps12
  go_wp2_with (first | (go_at_call 37; refine (refWithin_any _ _ _ _).mono ?_; rintro e w2 ⟨rfl, hb⟩; obtain ⟨hc, hf⟩ := bcell hb; have hz := hb.size; (try simp at hz); have hSn : ((fun w' => Below w.heap.size w w' ∧ w.heap.size < w'.heap.size ∧ w'.cell? ⟨w.heap.size, 0, none⟩ = some (.int .i64 f.sets) ∧ w'.cell? ⟨w.heap.size, 1, none⟩ = some (.int .i64 f.games) ∧ w'.cell? ⟨w.heap.size, 2, none⟩ = some (.bool f.noAd) ∧ w'.cell? ⟨w.heap.size, 3, none⟩ = some (.int .i64 f.tie) ∧ w'.cell? ⟨w.heap.size, 4, none⟩ = some (.int .i64 f.to) ∧ w'.cell? ⟨w.heap.size, 5, none⟩ = some (.int .i64 f.lastTie) ∧ w'.cell? ⟨w.heap.size, 6, none⟩ = some (.int .i64 f.lastTo) ∧ w'.cell? ⟨w.heap.size, 7, none⟩ = some (.int .i64 f.first) ∧ w'.cell? ⟨w.heap.size, 8, none⟩ = some (.int .i64 f.next) ∧ w'.cell? ⟨w.heap.size, 9, none⟩ = some (.bool f.doubles))) w2 := (by (try dsimp only); (exact kp)); (try dsimp only at hSn); (try clear hS); have hS := hSn; clear hSn hc hf) | (go_at_call 38; refine (refTie_any f _ _ (by have := hgb h2; omega) (by have := hgb h2; omega)).mono ?_; rintro e w2 ⟨rfl, hb⟩; obtain ⟨hc, hf⟩ := bcell hb; have hz := hb.size; (try simp at hz); have hSn : ((fun w' => Below w.heap.size w w' ∧ w.heap.size < w'.heap.size ∧ w'.cell? ⟨w.heap.size, 0, none⟩ = some (.int .i64 f.sets) ∧ w'.cell? ⟨w.heap.size, 1, none⟩ = some (.int .i64 f.games) ∧ w'.cell? ⟨w.heap.size, 2, none⟩ = some (.bool f.noAd) ∧ w'.cell? ⟨w.heap.size, 3, none⟩ = some (.int .i64 f.tie) ∧ w'.cell? ⟨w.heap.size, 4, none⟩ = some (.int .i64 f.to) ∧ w'.cell? ⟨w.heap.size, 5, none⟩ = some (.int .i64 f.lastTie) ∧ w'.cell? ⟨w.heap.size, 6, none⟩ = some (.int .i64 f.lastTo) ∧ w'.cell? ⟨w.heap.size, 7, none⟩ = some (.int .i64 f.first) ∧ w'.cell? ⟨w.heap.size, 8, none⟩ = some (.int .i64 f.next) ∧ w'.cell? ⟨w.heap.size, 9, none⟩ = some (.bool f.doubles))) w2 := (by (try dsimp only); (exact kp)); (try dsimp only at hSn); (try clear hS); have hS := hSn; clear hSn hc hf))
  go_ret
  exact ⟨rfl, by (go_split_ands; (exact kb))⟩

set_option maxHeartbeats 1600000 in
theorem RefCheck_no6 (f : M.Fm) (w : World) (h1 : M.within f.sets 1 3 = true) (h2 : M.within f.games 1 8 = true) (h3 : M.tieOk f.games f.tie = true) (h4 : M.tieOk f.games f.lastTie = true) (h5 : M.within f.to 1 15 = true) (h6 : M.within f.lastTo 1 15 = false) :
    Calls Try.prog 12 #[.agg #[.int .i64 f.sets, .int .i64 f.games, .bool f.noAd, .int .i64 f.tie, .int .i64 f.to, .int .i64 f.lastTie, .int .i64 f.lastTo, .int .i64 f.first, .int .i64 f.next, .bool f.doubles]] w fun e w' => e = .returned (.int .i64 (if 6 = 9 then 0 else 10)) ∧ Below w.heap.size w w' := by
  have hgb := fun (h : M.within f.games 1 8 = true) => (of_decide_eq_true (by simpa [M.within] using h) : 1 ≤ f.games ∧ f.games ≤ 8)
  have ho : (if 6 = 9 then 0 else 10 : Int) = if 6 = 9 then 0 else 10 := rfl
  simp only [Nat.reduceEqDiff, if_true, if_false, Nat.succ_ne_self, reduceIte]
  clear ho
  go_enter Try.func12, Try.ntmps12
  go_wp2_with (first | (go_at_call 37; refine (refWithin_any _ _ _ _).mono ?_; rintro e w2 ⟨rfl, hb⟩; obtain ⟨hc, hf⟩ := bcell hb; have hz := hb.size; (try simp at hz); have hSn : ((fun w' => Below w.heap.size w w' ∧ w.heap.size < w'.heap.size ∧ w'.cell? ⟨w.heap.size, 0, none⟩ = some (.int .i64 f.sets) ∧ w'.cell? ⟨w.heap.size, 1, none⟩ = some (.int .i64 f.games) ∧ w'.cell? ⟨w.heap.size, 2, none⟩ = some (.bool f.noAd) ∧ w'.cell? ⟨w.heap.size, 3, none⟩ = some (.int .i64 f.tie) ∧ w'.cell? ⟨w.heap.size, 4, none⟩ = some (.int .i64 f.to) ∧ w'.cell? ⟨w.heap.size, 5, none⟩ = some (.int .i64 f.lastTie) ∧ w'.cell? ⟨w.heap.size, 6, none⟩ = some (.int .i64 f.lastTo) ∧ w'.cell? ⟨w.heap.size, 7, none⟩ = some (.int .i64 f.first) ∧ w'.cell? ⟨w.heap.size, 8, none⟩ = some (.int .i64 f.next) ∧ w'.cell? ⟨w.heap.size, 9, none⟩ = some (.bool f.doubles))) w2 := (by (try dsimp only); (exact kp)); (try dsimp only at hSn); (try clear hS); have hS := hSn; clear hSn hc hf) | (go_at_call 38; refine (refTie_any f _ _ (by have := hgb h2; omega) (by have := hgb h2; omega)).mono ?_; rintro e w2 ⟨rfl, hb⟩; obtain ⟨hc, hf⟩ := bcell hb; have hz := hb.size; (try simp at hz); have hSn : ((fun w' => Below w.heap.size w w' ∧ w.heap.size < w'.heap.size ∧ w'.cell? ⟨w.heap.size, 0, none⟩ = some (.int .i64 f.sets) ∧ w'.cell? ⟨w.heap.size, 1, none⟩ = some (.int .i64 f.games) ∧ w'.cell? ⟨w.heap.size, 2, none⟩ = some (.bool f.noAd) ∧ w'.cell? ⟨w.heap.size, 3, none⟩ = some (.int .i64 f.tie) ∧ w'.cell? ⟨w.heap.size, 4, none⟩ = some (.int .i64 f.to) ∧ w'.cell? ⟨w.heap.size, 5, none⟩ = some (.int .i64 f.lastTie) ∧ w'.cell? ⟨w.heap.size, 6, none⟩ = some (.int .i64 f.lastTo) ∧ w'.cell? ⟨w.heap.size, 7, none⟩ = some (.int .i64 f.first) ∧ w'.cell? ⟨w.heap.size, 8, none⟩ = some (.int .i64 f.next) ∧ w'.cell? ⟨w.heap.size, 9, none⟩ = some (.bool f.doubles))) w2 := (by (try dsimp only); (exact kp)); (try dsimp only at hSn); (try clear hS); have hS := hSn; clear hSn hc hf))
  go_ret
  exact ⟨rfl, by (go_split_ands; (exact kb))⟩

set_option maxHeartbeats 1600000 in
theorem RefCheck_no7 (f : M.Fm) (w : World) (h1 : M.within f.sets 1 3 = true) (h2 : M.within f.games 1 8 = true) (h3 : M.tieOk f.games f.tie = true) (h4 : M.tieOk f.games f.lastTie = true) (h5 : M.within f.to 1 15 = true) (h6 : M.within f.lastTo 1 15 = true) (h7 : M.within f.first 0 20 = false) :
    Calls Try.prog 12 #[.agg #[.int .i64 f.sets, .int .i64 f.games, .bool f.noAd, .int .i64 f.tie, .int .i64 f.to, .int .i64 f.lastTie, .int .i64 f.lastTo, .int .i64 f.first, .int .i64 f.next, .bool f.doubles]] w fun e w' => e = .returned (.int .i64 (if 7 = 9 then 0 else 10)) ∧ Below w.heap.size w w' := by
  have hgb := fun (h : M.within f.games 1 8 = true) => (of_decide_eq_true (by simpa [M.within] using h) : 1 ≤ f.games ∧ f.games ≤ 8)
  have ho : (if 7 = 9 then 0 else 10 : Int) = if 7 = 9 then 0 else 10 := rfl
  simp only [Nat.reduceEqDiff, if_true, if_false, Nat.succ_ne_self, reduceIte]
  clear ho
  go_enter Try.func12, Try.ntmps12
  go_wp2_with (first | (go_at_call 37; refine (refWithin_any _ _ _ _).mono ?_; rintro e w2 ⟨rfl, hb⟩; obtain ⟨hc, hf⟩ := bcell hb; have hz := hb.size; (try simp at hz); have hSn : ((fun w' => Below w.heap.size w w' ∧ w.heap.size < w'.heap.size ∧ w'.cell? ⟨w.heap.size, 0, none⟩ = some (.int .i64 f.sets) ∧ w'.cell? ⟨w.heap.size, 1, none⟩ = some (.int .i64 f.games) ∧ w'.cell? ⟨w.heap.size, 2, none⟩ = some (.bool f.noAd) ∧ w'.cell? ⟨w.heap.size, 3, none⟩ = some (.int .i64 f.tie) ∧ w'.cell? ⟨w.heap.size, 4, none⟩ = some (.int .i64 f.to) ∧ w'.cell? ⟨w.heap.size, 5, none⟩ = some (.int .i64 f.lastTie) ∧ w'.cell? ⟨w.heap.size, 6, none⟩ = some (.int .i64 f.lastTo) ∧ w'.cell? ⟨w.heap.size, 7, none⟩ = some (.int .i64 f.first) ∧ w'.cell? ⟨w.heap.size, 8, none⟩ = some (.int .i64 f.next) ∧ w'.cell? ⟨w.heap.size, 9, none⟩ = some (.bool f.doubles))) w2 := (by (try dsimp only); (exact kp)); (try dsimp only at hSn); (try clear hS); have hS := hSn; clear hSn hc hf) | (go_at_call 38; refine (refTie_any f _ _ (by have := hgb h2; omega) (by have := hgb h2; omega)).mono ?_; rintro e w2 ⟨rfl, hb⟩; obtain ⟨hc, hf⟩ := bcell hb; have hz := hb.size; (try simp at hz); have hSn : ((fun w' => Below w.heap.size w w' ∧ w.heap.size < w'.heap.size ∧ w'.cell? ⟨w.heap.size, 0, none⟩ = some (.int .i64 f.sets) ∧ w'.cell? ⟨w.heap.size, 1, none⟩ = some (.int .i64 f.games) ∧ w'.cell? ⟨w.heap.size, 2, none⟩ = some (.bool f.noAd) ∧ w'.cell? ⟨w.heap.size, 3, none⟩ = some (.int .i64 f.tie) ∧ w'.cell? ⟨w.heap.size, 4, none⟩ = some (.int .i64 f.to) ∧ w'.cell? ⟨w.heap.size, 5, none⟩ = some (.int .i64 f.lastTie) ∧ w'.cell? ⟨w.heap.size, 6, none⟩ = some (.int .i64 f.lastTo) ∧ w'.cell? ⟨w.heap.size, 7, none⟩ = some (.int .i64 f.first) ∧ w'.cell? ⟨w.heap.size, 8, none⟩ = some (.int .i64 f.next) ∧ w'.cell? ⟨w.heap.size, 9, none⟩ = some (.bool f.doubles))) w2 := (by (try dsimp only); (exact kp)); (try dsimp only at hSn); (try clear hS); have hS := hSn; clear hSn hc hf))
  go_ret
  exact ⟨rfl, by (go_split_ands; (exact kb))⟩

set_option maxHeartbeats 1600000 in
theorem RefCheck_no8 (f : M.Fm) (w : World) (h1 : M.within f.sets 1 3 = true) (h2 : M.within f.games 1 8 = true) (h3 : M.tieOk f.games f.tie = true) (h4 : M.tieOk f.games f.lastTie = true) (h5 : M.within f.to 1 15 = true) (h6 : M.within f.lastTo 1 15 = true) (h7 : M.within f.first 0 20 = true) (h8 : M.within f.next 0 20 = false) :
    Calls Try.prog 12 #[.agg #[.int .i64 f.sets, .int .i64 f.games, .bool f.noAd, .int .i64 f.tie, .int .i64 f.to, .int .i64 f.lastTie, .int .i64 f.lastTo, .int .i64 f.first, .int .i64 f.next, .bool f.doubles]] w fun e w' => e = .returned (.int .i64 (if 8 = 9 then 0 else 10)) ∧ Below w.heap.size w w' := by
  have hgb := fun (h : M.within f.games 1 8 = true) => (of_decide_eq_true (by simpa [M.within] using h) : 1 ≤ f.games ∧ f.games ≤ 8)
  have ho : (if 8 = 9 then 0 else 10 : Int) = if 8 = 9 then 0 else 10 := rfl
  simp only [Nat.reduceEqDiff, if_true, if_false, Nat.succ_ne_self, reduceIte]
  clear ho
  go_enter Try.func12, Try.ntmps12
  go_wp2_with (first | (go_at_call 37; refine (refWithin_any _ _ _ _).mono ?_; rintro e w2 ⟨rfl, hb⟩; obtain ⟨hc, hf⟩ := bcell hb; have hz := hb.size; (try simp at hz); have hSn : ((fun w' => Below w.heap.size w w' ∧ w.heap.size < w'.heap.size ∧ w'.cell? ⟨w.heap.size, 0, none⟩ = some (.int .i64 f.sets) ∧ w'.cell? ⟨w.heap.size, 1, none⟩ = some (.int .i64 f.games) ∧ w'.cell? ⟨w.heap.size, 2, none⟩ = some (.bool f.noAd) ∧ w'.cell? ⟨w.heap.size, 3, none⟩ = some (.int .i64 f.tie) ∧ w'.cell? ⟨w.heap.size, 4, none⟩ = some (.int .i64 f.to) ∧ w'.cell? ⟨w.heap.size, 5, none⟩ = some (.int .i64 f.lastTie) ∧ w'.cell? ⟨w.heap.size, 6, none⟩ = some (.int .i64 f.lastTo) ∧ w'.cell? ⟨w.heap.size, 7, none⟩ = some (.int .i64 f.first) ∧ w'.cell? ⟨w.heap.size, 8, none⟩ = some (.int .i64 f.next) ∧ w'.cell? ⟨w.heap.size, 9, none⟩ = some (.bool f.doubles))) w2 := (by (try dsimp only); (exact kp)); (try dsimp only at hSn); (try clear hS); have hS := hSn; clear hSn hc hf) | (go_at_call 38; refine (refTie_any f _ _ (by have := hgb h2; omega) (by have := hgb h2; omega)).mono ?_; rintro e w2 ⟨rfl, hb⟩; obtain ⟨hc, hf⟩ := bcell hb; have hz := hb.size; (try simp at hz); have hSn : ((fun w' => Below w.heap.size w w' ∧ w.heap.size < w'.heap.size ∧ w'.cell? ⟨w.heap.size, 0, none⟩ = some (.int .i64 f.sets) ∧ w'.cell? ⟨w.heap.size, 1, none⟩ = some (.int .i64 f.games) ∧ w'.cell? ⟨w.heap.size, 2, none⟩ = some (.bool f.noAd) ∧ w'.cell? ⟨w.heap.size, 3, none⟩ = some (.int .i64 f.tie) ∧ w'.cell? ⟨w.heap.size, 4, none⟩ = some (.int .i64 f.to) ∧ w'.cell? ⟨w.heap.size, 5, none⟩ = some (.int .i64 f.lastTie) ∧ w'.cell? ⟨w.heap.size, 6, none⟩ = some (.int .i64 f.lastTo) ∧ w'.cell? ⟨w.heap.size, 7, none⟩ = some (.int .i64 f.first) ∧ w'.cell? ⟨w.heap.size, 8, none⟩ = some (.int .i64 f.next) ∧ w'.cell? ⟨w.heap.size, 9, none⟩ = some (.bool f.doubles))) w2 := (by (try dsimp only); (exact kp)); (try dsimp only at hSn); (try clear hS); have hS := hSn; clear hSn hc hf))
  go_ret
  exact ⟨rfl, by (go_split_ands; (exact kb))⟩

set_option maxHeartbeats 1600000 in
theorem RefCheck_no9 (f : M.Fm) (w : World) (h1 : M.within f.sets 1 3 = true) (h2 : M.within f.games 1 8 = true) (h3 : M.tieOk f.games f.tie = true) (h4 : M.tieOk f.games f.lastTie = true) (h5 : M.within f.to 1 15 = true) (h6 : M.within f.lastTo 1 15 = true) (h7 : M.within f.first 0 20 = true) (h8 : M.within f.next 0 20 = true) :
    Calls Try.prog 12 #[.agg #[.int .i64 f.sets, .int .i64 f.games, .bool f.noAd, .int .i64 f.tie, .int .i64 f.to, .int .i64 f.lastTie, .int .i64 f.lastTo, .int .i64 f.first, .int .i64 f.next, .bool f.doubles]] w fun e w' => e = .returned (.int .i64 (if 9 = 9 then 0 else 10)) ∧ Below w.heap.size w w' := by
  have hgb := fun (h : M.within f.games 1 8 = true) => (of_decide_eq_true (by simpa [M.within] using h) : 1 ≤ f.games ∧ f.games ≤ 8)
  have ho : (if 9 = 9 then 0 else 10 : Int) = if 9 = 9 then 0 else 10 := rfl
  simp only [Nat.reduceEqDiff, if_true, if_false, Nat.succ_ne_self, reduceIte]
  clear ho
  go_enter Try.func12, Try.ntmps12
  go_wp2_with (first | (go_at_call 37; refine (refWithin_any _ _ _ _).mono ?_; rintro e w2 ⟨rfl, hb⟩; obtain ⟨hc, hf⟩ := bcell hb; have hz := hb.size; (try simp at hz); have hSn : ((fun w' => Below w.heap.size w w' ∧ w.heap.size < w'.heap.size ∧ w'.cell? ⟨w.heap.size, 0, none⟩ = some (.int .i64 f.sets) ∧ w'.cell? ⟨w.heap.size, 1, none⟩ = some (.int .i64 f.games) ∧ w'.cell? ⟨w.heap.size, 2, none⟩ = some (.bool f.noAd) ∧ w'.cell? ⟨w.heap.size, 3, none⟩ = some (.int .i64 f.tie) ∧ w'.cell? ⟨w.heap.size, 4, none⟩ = some (.int .i64 f.to) ∧ w'.cell? ⟨w.heap.size, 5, none⟩ = some (.int .i64 f.lastTie) ∧ w'.cell? ⟨w.heap.size, 6, none⟩ = some (.int .i64 f.lastTo) ∧ w'.cell? ⟨w.heap.size, 7, none⟩ = some (.int .i64 f.first) ∧ w'.cell? ⟨w.heap.size, 8, none⟩ = some (.int .i64 f.next) ∧ w'.cell? ⟨w.heap.size, 9, none⟩ = some (.bool f.doubles))) w2 := (by (try dsimp only); (exact kp)); (try dsimp only at hSn); (try clear hS); have hS := hSn; clear hSn hc hf) | (go_at_call 38; refine (refTie_any f _ _ (by have := hgb h2; omega) (by have := hgb h2; omega)).mono ?_; rintro e w2 ⟨rfl, hb⟩; obtain ⟨hc, hf⟩ := bcell hb; have hz := hb.size; (try simp at hz); have hSn : ((fun w' => Below w.heap.size w w' ∧ w.heap.size < w'.heap.size ∧ w'.cell? ⟨w.heap.size, 0, none⟩ = some (.int .i64 f.sets) ∧ w'.cell? ⟨w.heap.size, 1, none⟩ = some (.int .i64 f.games) ∧ w'.cell? ⟨w.heap.size, 2, none⟩ = some (.bool f.noAd) ∧ w'.cell? ⟨w.heap.size, 3, none⟩ = some (.int .i64 f.tie) ∧ w'.cell? ⟨w.heap.size, 4, none⟩ = some (.int .i64 f.to) ∧ w'.cell? ⟨w.heap.size, 5, none⟩ = some (.int .i64 f.lastTie) ∧ w'.cell? ⟨w.heap.size, 6, none⟩ = some (.int .i64 f.lastTo) ∧ w'.cell? ⟨w.heap.size, 7, none⟩ = some (.int .i64 f.first) ∧ w'.cell? ⟨w.heap.size, 8, none⟩ = some (.int .i64 f.next) ∧ w'.cell? ⟨w.heap.size, 9, none⟩ = some (.bool f.doubles))) w2 := (by (try dsimp only); (exact kp)); (try dsimp only at hSn); (try clear hS); have hS := hSn; clear hSn hc hf))
  go_ret
  exact ⟨rfl, by (go_split_ands; (exact kb))⟩

theorem RefCheck_any (f : M.Fm) (w : World) :
    Calls Try.prog 12 #[.agg #[.int .i64 f.sets, .int .i64 f.games, .bool f.noAd, .int .i64 f.tie, .int .i64 f.to, .int .i64 f.lastTie, .int .i64 f.lastTo, .int .i64 f.first, .int .i64 f.next, .bool f.doubles]] w fun e w' => e = .returned (.int .i64 (if M.validB f then 0 else 10)) ∧ Below w.heap.size w w' := by
  cases h1 : M.within f.sets 1 3
  · rw [if_neg (by simp [M.validB, h1])]; exact RefCheck_no1 f w h1
  cases h2 : M.within f.games 1 8
  · rw [if_neg (by simp [M.validB, h2])]; exact RefCheck_no2 f w h1 h2
  cases h3 : M.tieOk f.games f.tie
  · rw [if_neg (by simp [M.validB, h3])]; exact RefCheck_no3 f w h1 h2 h3
  cases h4 : M.tieOk f.games f.lastTie
  · rw [if_neg (by simp [M.validB, h4])]; exact RefCheck_no4 f w h1 h2 h3 h4
  cases h5 : M.within f.to 1 15
  · rw [if_neg (by simp [M.validB, h5])]; exact RefCheck_no5 f w h1 h2 h3 h4 h5
  cases h6 : M.within f.lastTo 1 15
  · rw [if_neg (by simp [M.validB, h6])]; exact RefCheck_no6 f w h1 h2 h3 h4 h5 h6
  cases h7 : M.within f.first 0 20
  · rw [if_neg (by simp [M.validB, h7])]; exact RefCheck_no7 f w h1 h2 h3 h4 h5 h6 h7
  cases h8 : M.within f.next 0 20
  · rw [if_neg (by simp [M.validB, h8])]; exact RefCheck_no8 f w h1 h2 h3 h4 h5 h6 h7 h8
  rw [if_pos (by simp [M.validB, h1, h2, h3, h4, h5, h6, h7, h8])]; exact RefCheck_no9 f w h1 h2 h3 h4 h5 h6 h7 h8

end Go.Proofs.Ytmhaapghiecfcaa

namespace Go.Proofs.Ytmhaapghiecfcaa
open Go.RowKit
attribute [local go_sem ↓] Go.wp_at_zero Go.wp_at_succ

namespace M
def rrunF : Mt → List Int → Option Mt
  | m, [] => some m
  | m, p :: r => if within p 0 1 = false ∨ 0 ≤ m.winner then none else rrunF (rpoint m p) r
def rrunE (f : Fm) (first : Int) (ps : List Int) : Int :=
  if validB f then (if within first 0 1 then (if 600 < ps.length then 2 else match rrunF (rstart f first) ps with
    | none => 11
    | some _ => 0) else 1) else 10
def rrunM (f : Fm) (first : Int) (ps : List Int) : Mt :=
  if validB f then (if within first 0 1 then (if 600 < ps.length then noM else match rrunF (rstart f first) ps with
    | none => noM
    | some m => { m with server := rnext m }) else noM) else noM
end M

def RunPost (f : M.Fm) (first : Int) (xs : List Int) (w : World) (e : Ending) (w' : World) : Prop :=
  ∃ sv gv, e = .returned (.tuple #[.agg #[sv, .int .i64 (M.rrunM f first xs).games.A, .int .i64 (M.rrunM f first xs).games.B, .int .i64 (M.rrunM f first xs).pts.A, .int .i64 (M.rrunM f first xs).pts.B, .int .i64 (M.rrunM f first xs).server, .int .i64 (M.rrunM f first xs).ends, .int .i64 (M.rrunM f first xs).balls, .int .i64 (M.rrunM f first xs).winner, .int .i64 (M.rrunM f first xs).opens, gv, .bool (M.rrunM f first xs).fresh], .int .i64 (M.rrunE f first xs)]) ∧ RAt w' w.heap.size (M.rrunM f first xs) sv gv ∧ Below w.heap.size w w'
theorem RunPost.no {f : M.Fm} {first : Int} {xs : List Int} {w w' : World} {n : Int} (hm : M.rrunM f first xs = M.noM) (he : M.rrunE f first xs = n) (hb : Below w.heap.size w w') :
    RunPost f first xs w (.returned (.tuple #[.agg #[.slice none 0 0, .int .i64 0, .int .i64 0, .int .i64 0, .int .i64 0, .int .i64 0, .int .i64 0, .int .i64 0, .int .i64 0, .int .i64 0, .slice none 0 0, .bool false], .int .i64 n])) w' := by
  refine ⟨.slice none 0 0, .slice none 0 0, ?_, ⟨?_, ?_⟩, hb⟩
  · rw [hm, he]; rfl
  · rw [hm]; exact World.ownsRow_nil _ _ _ _
  · rw [hm]; exact World.ownsRow_nil _ _ _ _
theorem refWithin_f (n lo hi : Int) (w : World) (h : M.within n lo hi = false) : Calls Try.prog 37 #[.int .i64 n, .int .i64 lo, .int .i64 hi] w fun e w' => e = .returned (.bool false) ∧ Below w.heap.size w w' := by
  have := refWithin_any n lo hi w
  rwa [h] at this
theorem refWithin_t (n lo hi : Int) (w : World) (h : M.within n lo hi = true) : Calls Try.prog 37 #[.int .i64 n, .int .i64 lo, .int .i64 hi] w fun e w' => e = .returned (.bool true) ∧ Below w.heap.size w w' := by
  have := refWithin_any n lo hi w
  rwa [h] at this
theorem RefCheck_bad' (f : M.Fm) (w : World) (h : M.validB f = false) : Calls Try.prog 12 #[.agg #[.int .i64 f.sets, .int .i64 f.games, .bool f.noAd, .int .i64 f.tie, .int .i64 f.to, .int .i64 f.lastTie, .int .i64 f.lastTo, .int .i64 f.first, .int .i64 f.next, .bool f.doubles]] w fun e w' => e = .returned (.int .i64 10) ∧ Below w.heap.size w w' := by
  have := RefCheck_any f w
  rwa [if_neg (by simp [h])] at this
theorem RefCheck_good' (f : M.Fm) (w : World) (h : M.validB f = true) : Calls Try.prog 12 #[.agg #[.int .i64 f.sets, .int .i64 f.games, .bool f.noAd, .int .i64 f.tie, .int .i64 f.to, .int .i64 f.lastTie, .int .i64 f.lastTo, .int .i64 f.first, .int .i64 f.next, .bool f.doubles]] w fun e w' => e = .returned (.int .i64 0) ∧ Below w.heap.size w w' := by
  have := RefCheck_any f w
  rwa [if_pos h] at this

end Go.Proofs.Ytmhaapghiecfcaa

namespace Go.Proofs.Ytmhaapghiecfcaa
open Go.RowKit

theorem Ok.rbegin {m : M.Mt} {k : Nat} (h : M.Ok m (k + 1)) (hb : m.balls ≤ k) : M.Ok (M.rbegin m) (k + 1) := by
  obtain ⟨a1, a2, a3, a4, a5, a6, a7, a8, a9⟩ := h
  refine ⟨a1, a2, a3, a4, ?_, a6, a7, a8, a9⟩
  unfold M.rbegin
  dsimp only
  split <;> omega
theorem Ok.rodd {m : M.Mt} {k : Nat} (g : M.Pr) (h : M.Ok m (k + 1)) (he : m.ends ≤ k) (hb : m.balls ≤ k) : M.Ok (M.rodd m g) (k + 1) ∧ (M.rodd m g).balls ≤ k := by
  obtain ⟨a1, a2, a3, a4, a5, a6, a7, a8, a9⟩ := h
  unfold M.rodd
  split
  · exact ⟨⟨a1, a2, a3, a4, a5, by dsimp only; omega, a7, a8, a9⟩, hb⟩
  · exact ⟨⟨a1, a2, a3, a4, a5, a6, a7, a8, a9⟩, hb⟩
theorem Ok.rset {m : M.Mt} {k : Nat} {g : M.Pr} {win : Int} {p : M.Pr} {x : M.Gm} (h : M.Ok m k) (hg : p = M.zero) : M.Ok (M.rset { m with pts := p, log := m.log ++ [x] } g win) (k + 1) := by
  obtain ⟨a1, a2, a3, a4, a5, a6, a7, a8, a9⟩ := h
  subst hg
  have hz := zero_le (k + 1)
  have hbase : M.Ok { m with pts := M.zero, log := m.log ++ [x], sets := m.sets ++ [g], games := M.zero } (k + 1) :=
    ⟨a1, by simp; omega, by simp; omega, a4, by dsimp only; omega, by dsimp only; omega, hz, hz, by dsimp only; omega⟩
  unfold M.rset
  split
  · obtain ⟨b1, b2, b3, b4, b5, b6, b7, b8, b9⟩ := hbase
    exact ⟨b1, b2, b3, b4, b5, b6, b7, b8, b9⟩
  · obtain ⟨h1, h2⟩ := Ok.rodd g hbase a6.2 a5.2
    exact Ok.rbegin h1 h2
theorem Ok.rpoint {m : M.Mt} {k : Nat} (side : Int) (h : M.Ok m k) : M.Ok (M.rpoint m side) (k + 1) := by
  have hp := plus_le side h.pts
  have hz := zero_le (k + 1)
  unfold M.rpoint
  split
  · obtain ⟨a1, a2, a3, a4, a5, a6, a7, a8, a9⟩ := h
    refine ⟨a1, by dsimp only; omega, by dsimp only; omega, a4, by dsimp only; omega, ?_, by dsimp only; omega, hp, by dsimp only; omega⟩
    dsimp only
    split <;> omega
  · unfold M.rover
    split
    · exact Ok.rset h rfl
    · have hg := plus_le (M.rwin m (M.plus m.pts side)) h.games
      obtain ⟨a1, a2, a3, a4, a5, a6, a7, a8, a9⟩ := h
      have hbase : M.Ok { m with pts := M.zero, log := m.log ++ [M.rgame m (M.plus m.pts side) (M.rwin m (M.plus m.pts side))], games := M.plus m.games (M.rwin m (M.plus m.pts side)) } (k + 1) :=
        ⟨a1, by simp; omega, by dsimp only; omega, a4, by dsimp only; omega, by dsimp only; omega, hg, hz, by dsimp only; omega⟩
      obtain ⟨h1, h2⟩ := Ok.rodd (M.plus m.games (M.rwin m (M.plus m.pts side))) hbase a6.2 a5.2
      exact Ok.rbegin h1 h2
end Go.Proofs.Ytmhaapghiecfcaa

namespace Go.Proofs.Ytmhaapghiecfcaa
open Go.RowKit
namespace M

theorem plus0 (p : Pr) : plus p 0 = ⟨p.A + 1, p.B⟩ := rfl
theorem plus1 (p : Pr) : plus p 1 = ⟨p.A, p.B + 1⟩ := rfl
theorem of0 (p : Pr) : of p 0 = p.A := rfl
theorem of1 (p : Pr) : of p 1 = p.B := rfl
theorem of10 (p : Pr) : of p (1 - 0) = p.B := rfl
theorem of11 (p : Pr) : of p (1 - 1) = p.A := rfl
theorem ofSet_noAd (f : Fm) (won : Pr) : (ofSet f won).noAd = f.noAd := by unfold ofSet; split <;> rfl
theorem ofSet_games (f : Fm) (won : Pr) : (ofSet f won).games = f.games := by unfold ofSet; split <;> rfl
theorem nearOf (g : Pr) : near g = true ↔ -2 < g.A - g.B ∧ g.A - g.B < 2 := by
  unfold near
  rw [Bool.and_eq_true, decide_eq_true_eq, decide_eq_true_eq]
theorem wonR_snoc : ∀ (ps : List Pr) (p g : Pr), wonR p (ps ++ [g]) = if g.B < g.A then ⟨(wonR p ps).A + 1, (wonR p ps).B⟩ else ⟨(wonR p ps).A, (wonR p ps).B + 1⟩
  | [], _, _ => rfl
  | _ :: r, _, g => wonR_snoc r _ g
end M
end Go.Proofs.Ytmhaapghiecfcaa

namespace Go.Proofs.Ytmhaapghiecfcaa
open Go.RowKit
namespace M

structure Inv (m : Mt) : Prop where
  v : Valid m.f
  won : m.won = wonR zero m.sets
  g0 : 0 ≤ m.games.A
  g1 : 0 ≤ m.games.B
  p0 : 0 ≤ m.pts.A
  p1 : 0 ≤ m.pts.B
  op : 0 ≤ m.opens ∧ m.opens ≤ 1
  win : m.winner = winner m.f m.won
  go : leads m.games m.f.games = -1
  po : rwin m m.pts = -1
  sv : m.server = if 0 ≤ m.winner then -1 else serverOf m.opens m.f.doubles m.log.length (if rtied m.f m.sets m.games then (m.pts.A + m.pts.B + 1) / 2 else 0)

theorem winner_open {f : Fm} {won : Pr} (h : winner f won = -1) : won.A ≠ f.sets ∧ won.B ≠ f.sets := by
  unfold winner at h
  split at h
  · omega
  · split at h
    · omega
    · exact ⟨by assumption, by assumption⟩
theorem winner_none {f : Fm} {won : Pr} (h1 : won.A ≠ f.sets) (h2 : won.B ≠ f.sets) : winner f won = -1 := (if_neg h1).trans (if_neg h2)
theorem winner_cases (f : Fm) (won : Pr) : winner f won = 0 ∨ winner f won = 1 ∨ winner f won = -1 := by
  unfold winner
  split
  · exact .inl rfl
  · split
    · exact .inr (.inl rfl)
    · exact .inr (.inr rfl)
end M
end Go.Proofs.Ytmhaapghiecfcaa

namespace Go.Proofs.Ytmhaapghiecfcaa
open Go.RowKit
namespace M

end M
end Go.Proofs.Ytmhaapghiecfcaa

namespace Go.Proofs.Ytmhaapghiecfcaa
open Go.RowKit
namespace M

structure Step (m t : Mt) (more : Int) : Prop where
  ends0 : m.ends ≤ t.ends
  ends1 : t.ends ≤ m.ends + 1
  balls0 : m.balls ≤ t.balls
  balls1 : t.balls ≤ m.balls + 1
  how : (t.log = m.log ∧ t.sets = m.sets ∧ t.games = m.games ∧ t.pts = plus m.pts more ∧ t.balls = m.balls ∧ t.winner = -1) ∨
    (∃ g : Gm, t.log = m.log ++ [g] ∧ g.winner = more ∧ g.pts = plus m.pts more ∧ t.pts = zero ∧
      ((t.sets = m.sets ∧ t.games = plus m.games more ∧ t.winner = -1) ∨ (t.sets = m.sets ++ [plus m.games more] ∧ t.games = zero ∧ (t.winner = -1 ∨ t.winner = more))))
end M
end Go.Proofs.Ytmhaapghiecfcaa

namespace Go.Proofs.Ytmhaapghiecfcaa
open Go.RowKit
namespace M

def short (s : Fm) : Int := if s.tie = 0 then 1 else max 2 s.games
def few (s : Fm) : Int := if s.tie = 0 then max s.to 2 else 4 * max 2 s.games
def own (f : Fm) : Fm := ofSet f zero
def lowG (f : Fm) : Int := f.sets * short (own f)
def lowP (f : Fm) : Int := f.sets * few (own f)
def highG (f : Fm) : Int :=
  if f.sets = 1 then (if f.lastTie = -1 then -1 else 2 * f.lastTie + 1)
  else if f.tie = -1 ∨ f.lastTie = -1 then -1 else (2 * f.sets - 2) * (2 * f.tie + 1) + (2 * f.lastTie + 1)

theorem few_bd {s : Fm} (h : Valid s) : 2 ≤ few s ∧ few s ≤ 32 := by
  have := h.g1; have := h.o1
  unfold few; split <;> omega

theorem pts_tie {s : Fm} {g : Pr} (side : Int) (h : isTie s g = true) : pts s side g = max s.to 2 := by
  have e : ∀ x, of zero x = 0 := fun x => by unfold of zero; split <;> rfl
  unfold pts pointsOfGame
  rw [h, e, e]
  show max s.to (0 + 2) - 0 = _
  omega
theorem pts_game {s : Fm} {g : Pr} (side : Int) (h : isTie s g = false) : pts s side g = 4 := by
  have e : ∀ x, of zero x = 0 := fun x => by unfold of zero; split <;> rfl
  unfold pts pointsOfGame
  rw [h, e, e]
  have h1 := aimLead_hi s false
  show max 4 (0 + aimLead s false) - 0 = _
  omega
theorem noTie {s : Fm} {g : Pr} {side : Int} (hs : side = 0 ∨ side = 1) (ht : s.tie ≠ 0) (h0 : of g (1 - side) = 0) : isTie s g = false := by
  rcases hs with rfl | rfl
  · have : g.B = 0 := h0
    unfold isTie
    rw [this, Bool.and_eq_false_iff]
    exact .inr (by simpa using fun h => ht h.symm)
  · have : g.A = 0 := h0
    unfold isTie
    rw [this, Bool.and_eq_false_iff]
    exact .inl (by simpa using fun h => ht h.symm)
theorem ends_at {s : Fm} {g : Pr} {side k : Int} (hs : side = 0 ∨ side = 1) (ht : s.tie ≠ 0) (h0 : of g (1 - side) = 0) (h1 : of g side = k) (hk : 0 ≤ k) (hg : 1 ≤ s.games) : endsSet s g side = decide (max 2 s.games ≤ k + 1) := by
  obtain ⟨p1, p2⟩ := of_plus (g := g) hs
  unfold endsSet
  rw [noTie hs ht h0, near_of hs, p1, p2, h0, h1, Bool.false_or, decide_eq_true (show -2 < k + 1 - 0 by omega), Bool.true_and, ← decide_not, ← Bool.decide_and, decide_eq_decide]
  omega
theorem runF_zero {s : Fm} (hv : Valid s) {side : Int} (hs : side = 0 ∨ side = 1) (ht : s.tie ≠ 0) : ∀ (m : Nat) (g : Pr) (k : Int), of g (1 - side) = 0 → of g side = k → 0 ≤ k → k + (m + 1) = max 2 s.games → ∀ n, n ≥ m → runF s side n g = ((m : Int) + 1, 4 * ((m : Int) + 1))
  | 0, g, k, h0, h1, hk, hm, n, _ => by
    have he : endsSet s g side = true := by rw [ends_at hs ht h0 h1 hk hv.g0]; exact decide_eq_true (by omega)
    rw [runF_end he, pts_game side (noTie hs ht h0)]
    rfl
  | m + 1, g, k, h0, h1, hk, hm, n, hn => by
    obtain ⟨n', rfl⟩ : ∃ n', n = n' + 1 := ⟨n - 1, by omega⟩
    have he : endsSet s g side = false := by rw [ends_at hs ht h0 h1 hk hv.g0]; exact decide_eq_false (by omega)
    obtain ⟨p1, p2⟩ := of_plus (g := g) hs
    rw [runF_on he, pts_game side (noTie hs ht h0), runF_zero hv hs ht m (plus g side) (k + 1) (by rw [p2, h0]) (by rw [p1, h1]) (by omega) (by omega) n' (by omega)]
    refine Prod.ext ?_ ?_ <;> (dsimp only; omega)
theorem run_zero {s : Fm} (hv : Valid s) {side : Int} (hs : side = 0 ∨ side = 1) : run s side zero = (short s, few s) := by
  have e : ∀ x, of zero x = 0 := fun x => by unfold of zero; split <;> rfl
  unfold run
  by_cases ht : s.tie = 0
  · have hT : isTie s zero = true := by unfold isTie zero; rw [ht]; rfl
    have he : endsSet s zero side = true := by unfold endsSet; rw [hT]; rfl
    rw [runF_end he, pts_tie side hT]
    unfold short few
    rw [if_pos ht, if_pos ht]
  · have hg := hv.g0
    rw [runF_zero hv hs ht (max 2 s.games - 1).toNat zero 0 (e _) (e _) (Int.le_refl _) (by omega) _ (by unfold fuel; rw [e, e]; omega)]
    unfold short few
    rw [if_neg ht, if_neg ht]
    refine Prod.ext ?_ ?_ <;> (dsimp only; omega)

theorem lfg_won {f : Fm} {n : Nat} {won : Pr} (h : won.A = f.sets) : lfg f 0 (n + 1) won zero = 0 := by
  unfold lfg
  rw [if_pos (by unfold winner; rw [if_pos h])]
theorem lfg_lost {f : Fm} {n : Nat} {won : Pr} (h0 : won.A ≠ f.sets) (h : won.B = f.sets) : lfg f 0 (n + 1) won zero = never := by
  have hw : winner f won = 1 := by unfold winner; rw [if_neg h0, if_pos h]
  unfold lfg
  rw [hw]
  rfl
structure To (m t : Mt) (won games pts : Pr) (more : Nat) (win : Int) : Prop where
  f : t.f = m.f
  won : t.won = won
  games : t.games = games
  pts : t.pts = pts
  log : t.log.length = m.log.length + more
  win : t.winner = win
end M
end Go.Proofs.Ytmhaapghiecfcaa

namespace Go.Proofs.Ytmhaapghiecfcaa
open Go.RowKit
namespace M

structure Cur (m : Mt) (k : Nat) : Prop where
  a0 : 0 ≤ m.won.A
  a1 : m.won.A < m.f.sets
  b0 : 0 ≤ m.won.B
  b1 : m.won.B < m.f.sets
  ga : 0 ≤ m.games.A
  gb : 0 ≤ m.games.B
  pa : 0 ≤ m.pts.A
  pb : 0 ≤ m.pts.B
  tie : 0 ≤ (ofSet m.f m.won).tie → m.games.A ≤ (ofSet m.f m.won).tie ∧ m.games.B ≤ (ofSet m.f m.won).tie
  pk : few m.f * (m.won.A + m.won.B) + 4 * (m.games.A + m.games.B) + (m.pts.A + m.pts.B) ≤ k
  lo : short m.f * (m.won.A + m.won.B) + (m.games.A + m.games.B) ≤ m.log.length
  hi : 0 ≤ m.f.tie ∨ m.f.sets = 1 → (m.log.length : Int) ≤ (2 * m.f.tie + 1) * (m.won.A + m.won.B) + (m.games.A + m.games.B)
structure Fin (m : Mt) (k : Nat) : Prop where
  pk : lowP m.f ≤ k
  lo : lowG m.f ≤ m.log.length
  hi : 0 ≤ highG m.f → (m.log.length : Int) ≤ highG m.f
structure Bd (m : Mt) (k : Nat) : Prop where
  v : Valid m.f
  win : m.winner = winner m.f m.won
  on : m.winner = -1 → Cur m k
  over : m.winner ≠ -1 → Fin m k

theorem isTie_iff {s : Fm} {g : Pr} : isTie s g = true ↔ g.A = s.tie ∧ g.B = s.tie := by
  unfold isTie; rw [Bool.and_eq_true, beq_iff_eq, beq_iff_eq]
theorem ends_iff {s : Fm} {g : Pr} {side : Int} (hs : side = 0 ∨ side = 1) : endsSet s g side = true ↔ isTie s g = true ∨ (s.games ≤ of g side + 1 ∧ (of g side + 1 - of g (1 - side) ≤ -2 ∨ 2 ≤ of g side + 1 - of g (1 - side))) := by
  obtain ⟨p1, p2⟩ := of_plus (g := g) hs
  unfold endsSet
  rw [near_of hs, p1, p2]
  simp only [Bool.or_eq_true, Bool.and_eq_true, decide_eq_true_eq, Bool.not_eq_true', Bool.and_eq_false_iff, decide_eq_false_iff_not]
  constructor
  · rintro (h | ⟨h1, h2⟩)
    · exact .inl h
    · exact .inr ⟨h1, by omega⟩
  · rintro (h | ⟨h1, h2⟩)
    · exact .inl h
    · exact .inr ⟨h1, by omega⟩
end M
end Go.Proofs.Ytmhaapghiecfcaa

namespace Go.Proofs.Ytmhaapghiecfcaa
open Go.RowKit
namespace M

structure InPlay (s : Fm) (x y : Int) : Prop where
  x0 : 0 ≤ x
  y0 : 0 ≤ y
  nx : ¬ (s.games ≤ x ∧ y + 2 ≤ x)
  ny : ¬ (s.games ≤ y ∧ x + 2 ≤ y)
  tx : 0 ≤ s.tie → x ≤ s.tie
  ty : 0 ≤ s.tie → y ≤ s.tie
theorem InPlay.swap {s : Fm} {x y : Int} (h : InPlay s x y) : InPlay s y x := ⟨h.y0, h.x0, h.ny, h.nx, h.ty, h.tx⟩
def runC (s : Fm) (x y : Int) : Int := if s.tie = y then 4 * (s.tie - x) + max s.to 2 else 4 * (max s.games (y + 2) - x)
theorem isTie_of {s : Fm} {g : Pr} {side : Int} (hs : side = 0 ∨ side = 1) : isTie s g = true ↔ of g side = s.tie ∧ of g (1 - side) = s.tie := by
  rw [isTie_iff]
  rcases hs with rfl | rfl
  · rw [of0, of10]
  · rw [of1, of11]; exact And.comm
theorem runF_closed {s : Fm} (hv : Valid s) {side : Int} (hs : side = 0 ∨ side = 1) : ∀ (m : Nat) (g : Pr), Enough s side m g → InPlay s (of g side) (of g (1 - side)) → (runF s side m g).2 = runC s (of g side) (of g (1 - side))
  | 0, g, he, hp => by
    have hE := he.zero hs
    rw [runF_end hE]
    exact runF_last hv hs hE hp
  | m + 1, g, he, hp => by
    cases hE : endsSet s g side
    · obtain ⟨p1, p2⟩ := of_plus (g := g) hs
      have hT : isTie s g = false := by
        cases hT : isTie s g
        · rfl
        · rw [(ends_iff hs).2 (.inl hT)] at hE; cases hE
      have hn : ¬ (of g side = s.tie ∧ of g (1 - side) = s.tie) := fun h => by rw [(isTie_of hs).2 h] at hT; cases hT
      have h3 : ¬ (s.games ≤ of g side + 1 ∧ (of g side + 1 - of g (1 - side) ≤ -2 ∨ 2 ≤ of g side + 1 - of g (1 - side))) := fun h => by rw [(ends_iff hs).2 (.inr h)] at hE; cases hE
      have htt := hv.tt
      have hg := hv.g0
      obtain ⟨x0, y0, nx, ny, tx, ty⟩ := hp
      have hq : InPlay s (of (plus g side) side) (of (plus g side) (1 - side)) := by
        rw [p1, p2]
        exact ⟨by omega, by omega, by omega, by omega, by omega, by omega⟩
      rw [runF_on hE, pts_game side hT, runF_closed hv hs m (plus g side) (he.next hs) hq, p1, p2]
      unfold runC
      split <;> (dsimp only; omega)
    · rw [runF_end hE]
      exact runF_last hv hs hE hp
where
  runF_last {s : Fm} (hv : Valid s) {side : Int} (hs : side = 0 ∨ side = 1) {g : Pr} (hE : endsSet s g side = true) (hp : InPlay s (of g side) (of g (1 - side))) : ((1 : Int), pts s side g).2 = runC s (of g side) (of g (1 - side)) := by
    obtain ⟨x0, y0, nx, ny, tx, ty⟩ := hp
    have htt := hv.tt
    have hg := hv.g0
    show pts s side g = _
    cases hT : isTie s g
    · have hn : ¬ (of g side = s.tie ∧ of g (1 - side) = s.tie) := fun h => by rw [(isTie_of hs).2 h] at hT; cases hT
      rcases (ends_iff hs).1 hE with h | ⟨h3, h4⟩
      · rw [h] at hT; cases hT
      · rw [pts_game side hT]
        unfold runC
        split <;> omega
    · obtain ⟨e1, e2⟩ := (isTie_of hs).1 hT
      rw [pts_tie side hT]
      unfold runC
      rw [if_pos e2.symm, e1]
      omega
theorem run_closed {s : Fm} (hv : Valid s) {side : Int} (hs : side = 0 ∨ side = 1) {g : Pr} (h : InPlay s (of g side) (of g (1 - side))) : (run s side g).2 = runC s (of g side) (of g (1 - side)) :=
  runF_closed hv hs _ g (enough_fuel s side g) h
theorem runC_give {s : Fm} (hv : Valid s) {x y : Int} (h : InPlay s x y) (h' : InPlay s x (y + 1)) : runC s x y ≤ 4 + runC s x (y + 1) := by
  obtain ⟨x0, y0, nx, ny, tx, ty⟩ := h
  obtain ⟨_, _, nx', ny', tx', ty'⟩ := h'
  have htt := hv.tt
  have hg := hv.g0
  unfold runC
  by_cases h1 : s.tie = y
  · rw [if_pos h1, if_neg (by omega)]
    omega
  · rw [if_neg h1]
    split <;> omega
theorem runC_take {s : Fm} {x y : Int} (h : ¬ (x = s.tie ∧ y = s.tie)) : runC s x y = 4 + runC s (x + 1) y := by
  unfold runC
  split <;> omega
end M
end Go.Proofs.Ytmhaapghiecfcaa

namespace Go.Proofs.Ytmhaapghiecfcaa
open Go.RowKit
namespace M

def costF (s : Fm) (far won lost lim : Int) : Nat → Int → Int → Int
  | 0, _, _ => far
  | n + 1, a, b =>
    if lim ≤ a ∨ lim ≤ b then far
    else min far ((if a = s.tie ∧ b = s.tie then max s.to 2 else 4) +
      min (if (a = s.tie ∧ b = s.tie) ∨ (s.games ≤ a + 1 ∧ b + 2 ≤ a + 1) then won else costF s far won lost lim n (a + 1) b)
        (if (a = s.tie ∧ b = s.tie) ∨ (s.games ≤ b + 1 ∧ a + 2 ≤ b + 1) then lost else costF s far won lost lim n a (b + 1)))
theorem InPlay.next {s : Fm} (hv : Valid s) {a b : Int} (h : InPlay s a b) (h1 : ¬ (a = s.tie ∧ b = s.tie)) (h2 : ¬ (s.games ≤ a + 1 ∧ b + 2 ≤ a + 1)) : InPlay s (a + 1) b := by
  obtain ⟨x0, y0, nx, ny, tx, ty⟩ := h
  have htt := hv.tt
  exact ⟨by omega, by omega, by omega, by omega, by omega, by omega⟩
theorem runC_end {s : Fm} (hv : Valid s) {a b : Int} (h : InPlay s a b) (h1 : ¬ (a = s.tie ∧ b = s.tie)) (h2 : s.games ≤ a + 1 ∧ b + 2 ≤ a + 1) : runC s a b = 4 := by
  obtain ⟨x0, y0, nx, ny, tx, ty⟩ := h
  have htt := hv.tt
  unfold runC
  split <;> omega
theorem runC_tie {s : Fm} {a b : Int} (h : a = s.tie ∧ b = s.tie) : runC s a b = max s.to 2 := by
  obtain ⟨rfl, rfl⟩ := h
  unfold runC
  rw [if_pos rfl]
  omega
theorem costF_ge {s : Fm} (hv : Valid s) {far won lost lim : Int} : ∀ (n : Nat) (a b : Int), InPlay s a b → min far (min (runC s a b + won) (runC s b a + lost)) ≤ costF s far won lost lim n a b
  | 0, a, b, _ => by unfold costF; omega
  | n + 1, a, b, h => by
    unfold costF
    by_cases hlim : lim ≤ a ∨ lim ≤ b
    · rw [if_pos hlim]; omega
    · rw [if_neg hlim]
      by_cases ht : a = s.tie ∧ b = s.tie
      · rw [if_pos ht, if_pos (.inl ht), if_pos (.inl ht), runC_tie ht, runC_tie ht.symm]
        omega
      · have ht' : ¬ (b = s.tie ∧ a = s.tie) := fun h => ht h.symm
        rw [if_neg ht]
        have hw : min far (min (runC s a b + won) (runC s b a + lost)) ≤ 4 + (if (a = s.tie ∧ b = s.tie) ∨ (s.games ≤ a + 1 ∧ b + 2 ≤ a + 1) then won else costF s far won lost lim n (a + 1) b) ∨ far ≤ 4 + (if (a = s.tie ∧ b = s.tie) ∨ (s.games ≤ a + 1 ∧ b + 2 ≤ a + 1) then won else costF s far won lost lim n (a + 1) b) := by
          by_cases he : s.games ≤ a + 1 ∧ b + 2 ≤ a + 1
          · rw [if_pos (.inr he), runC_end hv h ht he]; omega
          · rw [if_neg (fun hh => hh.elim ht he)]
            have hn := h.next hv ht he
            have ih := costF_ge hv (far := far) (won := won) (lost := lost) (lim := lim) n (a + 1) b hn
            have e1 := runC_take ht
            have e2 := runC_give hv h.swap hn.swap
            omega
        have hl : min far (min (runC s a b + won) (runC s b a + lost)) ≤ 4 + (if (a = s.tie ∧ b = s.tie) ∨ (s.games ≤ b + 1 ∧ a + 2 ≤ b + 1) then lost else costF s far won lost lim n a (b + 1)) ∨ far ≤ 4 + (if (a = s.tie ∧ b = s.tie) ∨ (s.games ≤ b + 1 ∧ a + 2 ≤ b + 1) then lost else costF s far won lost lim n a (b + 1)) := by
          by_cases he : s.games ≤ b + 1 ∧ a + 2 ≤ b + 1
          · rw [if_pos (.inr he), runC_end hv h.swap ht' he]; omega
          · rw [if_neg (fun hh => hh.elim ht he)]
            have hn := h.swap.next hv ht' he
            have ih := costF_ge hv (far := far) (won := won) (lost := lost) (lim := lim) n a (b + 1) hn.swap
            have e1 := runC_take ht'
            have e2 := runC_give hv h hn.swap
            omega
        omega
theorem costF_win {s : Fm} (hv : Valid s) {far won lost lim : Int} : ∀ (n : Nat) (a b : Int), InPlay s a b → s.games ≤ lim → b + 2 ≤ lim → max s.games (b + 2) ≤ a + n → costF s far won lost lim n a b ≤ runC s a b + won
  | 0, a, b, h, _, _, hn => by
    obtain ⟨x0, y0, nx, ny, tx, ty⟩ := h
    exfalso; omega
  | n + 1, a, b, h, hg, hb, hn => by
    unfold costF
    have hlim : ¬ (lim ≤ a ∨ lim ≤ b) := by
      obtain ⟨x0, y0, nx, ny, tx, ty⟩ := h
      omega
    rw [if_neg hlim]
    by_cases ht : a = s.tie ∧ b = s.tie
    · rw [if_pos ht, if_pos (.inl ht), runC_tie ht]
      omega
    · rw [if_neg ht]
      by_cases he : s.games ≤ a + 1 ∧ b + 2 ≤ a + 1
      · rw [if_pos (.inr he), runC_end hv h ht he]
        omega
      · rw [if_neg (fun hh => hh.elim ht he)]
        have hq := h.next hv ht he
        have ih := costF_win hv (far := far) (won := won) (lost := lost) (lim := lim) n (a + 1) b hq hg hb (by omega)
        have e1 := runC_take ht
        omega
theorem costF_mir {s : Fm} {far won lost lim : Int} : ∀ (n : Nat) (a b : Int), costF s far won lost lim n a b = costF s far lost won lim n b a
  | 0, a, b => rfl
  | n + 1, a, b => by
    unfold costF
    rw [costF_mir n (a + 1) b, costF_mir n a (b + 1)]
    by_cases hl : lim ≤ a ∨ lim ≤ b
    · rw [if_pos hl, if_pos hl.symm]
    · rw [if_neg hl, if_neg (show ¬ (lim ≤ b ∨ lim ≤ a) from fun h => hl h.symm)]
      by_cases ht : a = s.tie ∧ b = s.tie
      · have e1 : ∀ (q : Prop) [Decidable q] (u v : Int), (if (a = s.tie ∧ b = s.tie) ∨ q then u else v) = u := fun q _ u v => if_pos (.inl ht)
        have e2 : ∀ (q : Prop) [Decidable q] (u v : Int), (if (b = s.tie ∧ a = s.tie) ∨ q then u else v) = u := fun q _ u v => if_pos (.inl ht.symm)
        rw [if_pos ht, if_pos ht.symm, e1, e1, e2, e2, Int.min_comm won lost]
      · have ht' : ¬ (b = s.tie ∧ a = s.tie) := fun h => ht h.symm
        have e1 : ∀ (q : Prop) [Decidable q] (u v : Int), (if (a = s.tie ∧ b = s.tie) ∨ q then u else v) = if q then u else v := fun q _ u v => by
          by_cases hq : q
          · rw [if_pos hq, if_pos (.inr hq)]
          · rw [if_neg hq, if_neg (fun h => h.elim ht hq)]
        have e2 : ∀ (q : Prop) [Decidable q] (u v : Int), (if (b = s.tie ∧ a = s.tie) ∨ q then u else v) = if q then u else v := fun q _ u v => by
          by_cases hq : q
          · rw [if_pos hq, if_pos (.inr hq)]
          · rw [if_neg hq, if_neg (fun h => h.elim ht' hq)]
        rw [if_neg ht, if_neg ht', e1, e1, e2, e2]
        exact congrArg (fun z => min far (4 + z)) (Int.min_comm _ _)
theorem costF_far {s : Fm} {far won lost lim : Int} : ∀ (n : Nat) (a b : Int), costF s far won lost lim n a b ≤ far
  | 0, a, b => Int.le_refl _
  | n + 1, a, b => by
    unfold costF
    split <;> omega
theorem costF_closed {s : Fm} (hv : Valid s) {far won lost lim : Int} {n : Nat} {a b : Int} (h : InPlay s a b) (hg : s.games ≤ lim) (ha : a + 2 ≤ lim) (hb : b + 2 ≤ lim) (hn1 : max s.games (b + 2) ≤ a + n) (hn2 : max s.games (a + 2) ≤ b + n) :
    costF s far won lost lim n a b = min far (min (runC s a b + won) (runC s b a + lost)) := by
  have h1 := costF_ge hv (far := far) (won := won) (lost := lost) (lim := lim) n a b h
  have h2 := costF_win hv (far := far) (won := won) (lost := lost) (lim := lim) n a b h hg hb hn1
  have h3 := costF_win hv (far := far) (won := lost) (lost := won) (lim := lim) n b a h.swap hg ha hn2
  rw [← costF_mir] at h3
  have h4 := costF_far (s := s) (far := far) (won := won) (lost := lost) (lim := lim) n a b
  omega
end M
end Go.Proofs.Ytmhaapghiecfcaa

namespace Go.Proofs.Ytmhaapghiecfcaa
open Go.RowKit
namespace M

def fromR (f : Fm) (far lim : Int) (n : Nat) : Nat → Int → Int → Int
  | 0, _, _ => 0
  | k + 1, m, t => if m = f.sets then 0 else if t = f.sets then far else costF (ofSet f ⟨m, t⟩) far (fromR f far lim n k (m + 1) t) (fromR f far lim n k m (t + 1)) lim n 0 0
theorem inPlay_zero {s : Fm} (hv : Valid s) : InPlay s 0 0 := by
  have := hv.g0
  exact ⟨by omega, by omega, by omega, by omega, fun h => h, fun h => h⟩
theorem runC_zero {s : Fm} (hv : Valid s) : runC s 0 0 = few s := by
  have h1 := run_closed hv (side := 0) (.inl rfl) (g := zero) (inPlay_zero hv)
  rw [run_zero hv (.inl rfl)] at h1
  exact h1.symm
theorem from_lfg {f : Fm} (hv : Valid f) {lim : Int} {n : Nat} (hlim : 10 ≤ lim) (hn : 10 ≤ n) : ∀ (k : Nat) (m t : Int), 0 ≤ m → m < f.sets → 0 ≤ t → t < f.sets → 2 * f.sets ≤ k + m + t →
    fromR f 1000000 lim n k m t = lfg f 0 k ⟨m, t⟩ zero ∧ 0 ≤ lfg f 0 k ⟨m, t⟩ zero ∧ lfg f 0 k ⟨m, t⟩ zero ≤ 32 * (f.sets - m)
  | 0, m, t, h0, h1, h2, h3, h4 => by exfalso; omega
  | k + 1, m, t, h0, h1, h2, h3, h4 => by
    have hs := hv.ofSet ⟨m, t⟩
    have hg := hs.g1
    have hfb := few_bd hs
    have v1 := hv.s1
    obtain ⟨j, hj⟩ : ∃ j, k = j + 1 := ⟨k - 1, by omega⟩
    have hw : winner f ⟨m, t⟩ = -1 := winner_none (by show m ≠ _; omega) (by show t ≠ _; omega)
    have hF : fromR f 1000000 lim n (k + 1) m t = min 1000000 (min (few (ofSet f ⟨m, t⟩) + fromR f 1000000 lim n k (m + 1) t) (few (ofSet f ⟨m, t⟩) + fromR f 1000000 lim n k m (t + 1))) := by
      conv => lhs; unfold fromR
      rw [if_neg (by omega), if_neg (by omega), costF_closed hs (inPlay_zero hs) (by omega) (by omega) (by omega) (by omega) (by omega), runC_zero hs]
    have hL : lfg f 0 (k + 1) ⟨m, t⟩ zero = mn (mn never (few (ofSet f ⟨m, t⟩) + lfg f 0 k ⟨m + 1, t⟩ zero)) (few (ofSet f ⟨m, t⟩) + lfg f 0 k ⟨m, t + 1⟩ zero) := by
      conv => lhs; unfold lfg
      rw [hw, if_neg (by decide), if_neg (by decide)]
      have e0 : (run (ofSet f ⟨m, t⟩) ((0 : Nat) : Int) zero).2 + lfg f 0 k (plus ⟨m, t⟩ ((0 : Nat) : Int)) zero = few (ofSet f ⟨m, t⟩) + lfg f 0 k ⟨m + 1, t⟩ zero := by
        show (run (ofSet f ⟨m, t⟩) 0 zero).2 + lfg f 0 k (plus ⟨m, t⟩ 0) zero = _
        rw [run_zero hs (.inl rfl), plus0]
      have e1 : (run (ofSet f ⟨m, t⟩) ((1 : Nat) : Int) zero).2 + lfg f 0 k (plus ⟨m, t⟩ ((1 : Nat) : Int)) zero = few (ofSet f ⟨m, t⟩) + lfg f 0 k ⟨m, t + 1⟩ zero := by
        show (run (ofSet f ⟨m, t⟩) 1 zero).2 + lfg f 0 k (plus ⟨m, t⟩ 1) zero = _
        rw [run_zero hs (.inr rfl), plus1]
      have hb2 : ∀ c : Nat → Int, bestOf c 2 = mn (mn never (c 0)) (c 1) := fun c => rfl
      rw [hb2, e0, e1]
    have hA : fromR f 1000000 lim n k (m + 1) t = lfg f 0 k ⟨m + 1, t⟩ zero ∧ 0 ≤ lfg f 0 k ⟨m + 1, t⟩ zero ∧ lfg f 0 k ⟨m + 1, t⟩ zero ≤ 32 * (f.sets - (m + 1)) := by
      by_cases hm : m + 1 = f.sets
      · have e : lfg f 0 k ⟨m + 1, t⟩ zero = 0 := by rw [hj]; exact lfg_won hm
        have e' : fromR f 1000000 lim n k (m + 1) t = 0 := by rw [hj]; unfold fromR; rw [if_pos hm]
        rw [e, e']
        omega
      · exact from_lfg hv hlim hn k (m + 1) t (by omega) (by omega) h2 h3 (by omega)
    have hB : (fromR f 1000000 lim n k m (t + 1) = lfg f 0 k ⟨m, t + 1⟩ zero ∧ 0 ≤ lfg f 0 k ⟨m, t + 1⟩ zero ∧ lfg f 0 k ⟨m, t + 1⟩ zero ≤ 32 * (f.sets - m)) ∨ (fromR f 1000000 lim n k m (t + 1) = 1000000 ∧ lfg f 0 k ⟨m, t + 1⟩ zero = never) := by
      by_cases ht : t + 1 = f.sets
      · refine .inr ⟨?_, ?_⟩
        · rw [hj]; unfold fromR; rw [if_neg (by omega), if_pos ht]
        · rw [hj]; exact lfg_lost (by show m ≠ _; omega) ht
      · exact .inl (from_lfg hv hlim hn k m (t + 1) h0 h1 (by omega) (by omega) (by omega))
    have nv : never = 4611686018427387903 := rfl
    rw [hF, hL]
    obtain ⟨a1, a2, a3⟩ := hA
    have hmn : ∀ x y : Int, mn x y = min y x := fun x y => by unfold mn; split <;> omega
    rw [hmn, hmn, a1]
    rcases hB with ⟨b1, b2, b3⟩ | ⟨b1, b2⟩
    · rw [b1]; omega
    · rw [b1, b2]; omega
theorem from_win {f : Fm} (hv : Valid f) {lim : Int} {n : Nat} (hlim : 10 ≤ lim) (hn : 10 ≤ n) {k : Nat} {m t : Int} (h0 : 0 ≤ m) (h1 : m < f.sets) (h2 : 0 ≤ t) (h3 : t < f.sets) (h4 : 2 * f.sets ≤ (k + 1 : Nat) + m + t) :
    fromR f 1000000 lim n k (m + 1) t = lfg f 0 k ⟨m + 1, t⟩ zero ∧ 0 ≤ lfg f 0 k ⟨m + 1, t⟩ zero ∧ lfg f 0 k ⟨m + 1, t⟩ zero ≤ 96 := by
  have v1 := hv.s1
  obtain ⟨j, hj⟩ : ∃ j, k = j + 1 := ⟨k - 1, by omega⟩
  by_cases hm : m + 1 = f.sets
  · have e : lfg f 0 k ⟨m + 1, t⟩ zero = 0 := by rw [hj]; exact lfg_won hm
    have e' : fromR f 1000000 lim n k (m + 1) t = 0 := by rw [hj]; unfold fromR; rw [if_pos hm]
    rw [e, e']
    omega
  · have := from_lfg hv hlim hn k (m + 1) t (by omega) (by omega) h2 h3 (by omega)
    exact ⟨this.1, this.2.1, by omega⟩
theorem from_lose {f : Fm} (hv : Valid f) {lim : Int} {n : Nat} (hlim : 10 ≤ lim) (hn : 10 ≤ n) {k : Nat} {m t : Int} (h0 : 0 ≤ m) (h1 : m < f.sets) (h2 : 0 ≤ t) (h3 : t < f.sets) (h4 : 2 * f.sets ≤ (k + 1 : Nat) + m + t) :
    (fromR f 1000000 lim n k m (t + 1) = lfg f 0 k ⟨m, t + 1⟩ zero ∧ 0 ≤ lfg f 0 k ⟨m, t + 1⟩ zero ∧ lfg f 0 k ⟨m, t + 1⟩ zero ≤ 96) ∨ (fromR f 1000000 lim n k m (t + 1) = 1000000 ∧ lfg f 0 k ⟨m, t + 1⟩ zero = never) := by
  have v1 := hv.s1
  obtain ⟨j, hj⟩ : ∃ j, k = j + 1 := ⟨k - 1, by omega⟩
  by_cases ht : t + 1 = f.sets
  · refine .inr ⟨?_, ?_⟩
    · rw [hj]; unfold fromR; rw [if_neg (by omega), if_pos ht]
    · rw [hj]; exact lfg_lost (by show m ≠ _; omega) ht
  · have := from_lfg hv hlim hn k m (t + 1) h0 h1 (by omega) (by omega) (by omega)
    exact .inl ⟨this.1, this.2.1, by omega⟩
theorem runC_bd {s : Fm} (hv : Valid s) {x y : Int} (h : InPlay s x y) (hy : y ≤ 41) : 0 ≤ runC s x y ∧ runC s x y ≤ 200 := by
  obtain ⟨x0, y0, nx, ny, tx, ty⟩ := h
  have htt := hv.tt
  have hg := hv.g0
  have hg1 := hv.g1
  have ho := hv.o1
  unfold runC
  split <;> omega
theorem runC_side {s : Fm} (hv : Valid s) {g : Pr} (h : InPlay s g.A g.B) : (run s 0 g).2 = runC s g.A g.B ∧ (run s 1 g).2 = runC s g.B g.A :=
  ⟨run_closed hv (side := 0) (.inl rfl) h, run_closed hv (side := 1) (.inr rfl) h.swap⟩
theorem lfg_game {f : Fm} (hv : Valid f) {lim : Int} {n : Nat} (hlim : 44 ≤ lim) (hn : 88 ≤ n) {k : Nat} {m t : Int} (h0 : 0 ≤ m) (h1 : m < f.sets) (h2 : 0 ≤ t) (h3 : t < f.sets) (h4 : 2 * f.sets ≤ (k + 1 : Nat) + m + t)
    {g : Pr} (hp : InPlay (ofSet f ⟨m, t⟩) g.A g.B) (ha : g.A ≤ 41) (hb : g.B ≤ 41) :
    lfg f 0 (k + 1) ⟨m, t⟩ g = costF (ofSet f ⟨m, t⟩) 1000000 (fromR f 1000000 lim n k (m + 1) t) (fromR f 1000000 lim n k m (t + 1)) lim n g.A g.B ∧ 0 ≤ lfg f 0 (k + 1) ⟨m, t⟩ g ∧ lfg f 0 (k + 1) ⟨m, t⟩ g ≤ 300 := by
  have hs := hv.ofSet ⟨m, t⟩
  have hg := hs.g1
  have hA := from_win hv (lim := lim) (n := n) (by omega) (by omega) h0 h1 h2 h3 h4
  have hB := from_lose hv (lim := lim) (n := n) (by omega) (by omega) h0 h1 h2 h3 h4
  have hw : winner f ⟨m, t⟩ = -1 := winner_none (by show m ≠ _; omega) (by show t ≠ _; omega)
  obtain ⟨r0, r1⟩ := runC_side hs hp
  have c0 := runC_bd hs hp hb
  have c1 := runC_bd hs hp.swap ha
  have x0 := hp.x0
  have y0 := hp.y0
  rw [costF_closed hs hp (by omega) (by omega) (by omega) (by omega) (by omega)]
  have hL : lfg f 0 (k + 1) ⟨m, t⟩ g = mn (mn never (runC (ofSet f ⟨m, t⟩) g.A g.B + lfg f 0 k ⟨m + 1, t⟩ zero)) (runC (ofSet f ⟨m, t⟩) g.B g.A + lfg f 0 k ⟨m, t + 1⟩ zero) := by
    conv => lhs; unfold lfg
    rw [hw, if_neg (by decide), if_neg (by decide)]
    have e0 : (run (ofSet f ⟨m, t⟩) ((0 : Nat) : Int) g).2 + lfg f 0 k (plus ⟨m, t⟩ ((0 : Nat) : Int)) zero = runC (ofSet f ⟨m, t⟩) g.A g.B + lfg f 0 k ⟨m + 1, t⟩ zero := by
      show (run (ofSet f ⟨m, t⟩) 0 g).2 + lfg f 0 k (plus ⟨m, t⟩ 0) zero = _
      rw [r0, plus0]
    have e1 : (run (ofSet f ⟨m, t⟩) ((1 : Nat) : Int) g).2 + lfg f 0 k (plus ⟨m, t⟩ ((1 : Nat) : Int)) zero = runC (ofSet f ⟨m, t⟩) g.B g.A + lfg f 0 k ⟨m, t + 1⟩ zero := by
      show (run (ofSet f ⟨m, t⟩) 1 g).2 + lfg f 0 k (plus ⟨m, t⟩ 1) zero = _
      rw [r1, plus1]
    have hb2 : ∀ c : Nat → Int, bestOf c 2 = mn (mn never (c 0)) (c 1) := fun c => rfl
    rw [hb2, e0, e1]
  have nv : never = 4611686018427387903 := rfl
  have hmn : ∀ x y : Int, mn x y = min y x := fun x y => by unfold mn; split <;> omega
  rw [hL, hmn, hmn]
  obtain ⟨a1, a2, a3⟩ := hA
  rw [a1]
  rcases hB with ⟨b1, b2, b3⟩ | ⟨b1, b2⟩
  · rw [b1]; omega
  · rw [b1, b2]; omega
end M
end Go.Proofs.Ytmhaapghiecfcaa

namespace Go.Proofs.Ytmhaapghiecfcaa
open Go.RowKit
namespace M

def needR (mine theirs least : Int) (ad : Bool) : Int := if ad then max least (theirs + 2) - mine else least - mine
def adR (s : Fm) (g : Pr) : Bool := isTie s g || !s.noAd
def winR (f : Fm) (lim : Int) (n : Nat) (m t : Int) (g : Pr) : Int :=
  if isTie (ofSet f ⟨m, t⟩) g = true ∨ (f.games ≤ g.A + 1 ∧ g.B + 2 ≤ g.A + 1) then fromR f 1000000 lim n 6 (m + 1) t
  else costF (ofSet f ⟨m, t⟩) 1000000 (fromR f 1000000 lim n 5 (m + 1) t) (fromR f 1000000 lim n 5 m (t + 1)) lim n (g.A + 1) g.B
def loseR (f : Fm) (lim : Int) (n : Nat) (m t : Int) (g : Pr) : Int :=
  if isTie (ofSet f ⟨m, t⟩) g = true ∨ (f.games ≤ g.B + 1 ∧ g.A + 2 ≤ g.B + 1) then fromR f 1000000 lim n 6 m (t + 1)
  else costF (ofSet f ⟨m, t⟩) 1000000 (fromR f 1000000 lim n 5 (m + 1) t) (fromR f 1000000 lim n 5 m (t + 1)) lim n g.A (g.B + 1)
def leastR (f : Fm) (lim : Int) (n : Nat) (m t : Int) (g p : Pr) : Int :=
  min (needR p.A p.B (aimTo (ofSet f ⟨m, t⟩) (isTie (ofSet f ⟨m, t⟩) g)) (adR (ofSet f ⟨m, t⟩) g) + winR f lim n m t g)
    (needR p.B p.A (aimTo (ofSet f ⟨m, t⟩) (isTie (ofSet f ⟨m, t⟩) g)) (adR (ofSet f ⟨m, t⟩) g) + loseR f lim n m t g)
theorem need_eq {s : Fm} {g p : Pr} {side : Int} (hs : side = 0 ∨ side = 1) (hp : pointsArise s (isTie s g) p = true) :
    pointsOfGame s (isTie s g) p side = needR (of p side) (of p (1 - side)) (aimTo s (isTie s g)) (adR s g) := by
  have hhi : p.A ≤ hi p ∧ p.B ≤ hi p := by unfold hi; split <;> omega
  unfold pointsOfGame needR adR
  cases hT : isTie s g
  · cases hN : s.noAd
    · have e : aimLead s false = 2 := by unfold aimLead; rw [hN]; rfl
      rw [e]
      show _ = max (aimTo s false) (of p (1 - side) + 2) - of p side
      rfl
    · have e : aimLead s false = 1 := by unfold aimLead; rw [hN]; rfl
      have ht : aimTo s false = 4 := rfl
      rw [hT] at hp
      unfold pointsArise at hp
      rw [e, ht] at hp
      have h4 : hi p < 4 := by simpa using hp
      rw [e, ht]
      show _ = 4 - of p side
      have h5 : of p (1 - side) ≤ 3 := by
        rcases hs with rfl | rfl
        · rw [of10]; omega
        · rw [of11]; omega
      omega
  · rfl
theorem ends_play {s : Fm} {g : Pr} {side : Int} (hs : side = 0 ∨ side = 1) (h : InPlay s (of g side) (of g (1 - side))) : endsSet s g side = true ↔ isTie s g = true ∨ (s.games ≤ of g side + 1 ∧ of g (1 - side) + 2 ≤ of g side + 1) := by
  rw [ends_iff hs]
  obtain ⟨x0, y0, nx, ny, tx, ty⟩ := h
  constructor
  · rintro (h1 | ⟨h1, h2⟩)
    · exact .inl h1
    · exact .inr ⟨h1, by omega⟩
  · rintro (h1 | ⟨h1, h2⟩)
    · exact .inl h1
    · exact .inr ⟨h1, by omega⟩
theorem least_lfp {f : Fm} (hv : Valid f) {lim : Int} {n : Nat} (hlim : 44 ≤ lim) (hn : 88 ≤ n) {m t : Int} (h0 : 0 ≤ m) (h1 : m < f.sets) (h2 : 0 ≤ t) (h3 : t < f.sets)
    {g p : Pr} (hp : InPlay (ofSet f ⟨m, t⟩) g.A g.B) (ha : g.A ≤ 40) (hb : g.B ≤ 40) (hpa : pointsArise (ofSet f ⟨m, t⟩) (isTie (ofSet f ⟨m, t⟩) g) p = true) (p0 : 0 ≤ p.A ∧ 0 ≤ p.B) (p1 : p.A ≤ 40 ∧ p.B ≤ 40) :
    leastR f lim n m t g p = lfp f 0 6 ⟨m, t⟩ g p := by
  have hs := hv.ofSet ⟨m, t⟩
  have v1 := hv.s1
  have hT : isTie (ofSet f ⟨m, t⟩) g = true ↔ g.A = (ofSet f ⟨m, t⟩).tie ∧ g.B = (ofSet f ⟨m, t⟩).tie := isTie_iff
  have hgm : (ofSet f ⟨m, t⟩).games = f.games := ofSet_games f ⟨m, t⟩
  have n0 := need_eq (g := g) (side := 0) (.inl rfl) hpa
  have n1 := need_eq (g := g) (side := 1) (.inr rfl) hpa
  rw [of0, of10] at n0
  rw [of1, of11] at n1
  have hb0 : -40 ≤ pointsOfGame (ofSet f ⟨m, t⟩) (isTie (ofSet f ⟨m, t⟩) g) p 0 ∧ pointsOfGame (ofSet f ⟨m, t⟩) (isTie (ofSet f ⟨m, t⟩) g) p 0 ≤ 60 := by
    have := aimTo_lo hs (isTie (ofSet f ⟨m, t⟩) g); have := aimTo_hi hs (isTie (ofSet f ⟨m, t⟩) g); have := aimLead_lo (ofSet f ⟨m, t⟩) (isTie (ofSet f ⟨m, t⟩) g); have := aimLead_hi (ofSet f ⟨m, t⟩) (isTie (ofSet f ⟨m, t⟩) g)
    unfold pointsOfGame
    rw [of0, of10]
    omega
  have hb1 : -40 ≤ pointsOfGame (ofSet f ⟨m, t⟩) (isTie (ofSet f ⟨m, t⟩) g) p 1 ∧ pointsOfGame (ofSet f ⟨m, t⟩) (isTie (ofSet f ⟨m, t⟩) g) p 1 ≤ 60 := by
    have := aimTo_lo hs (isTie (ofSet f ⟨m, t⟩) g); have := aimTo_hi hs (isTie (ofSet f ⟨m, t⟩) g); have := aimLead_lo (ofSet f ⟨m, t⟩) (isTie (ofSet f ⟨m, t⟩) g); have := aimLead_hi (ofSet f ⟨m, t⟩) (isTie (ofSet f ⟨m, t⟩) g)
    unfold pointsOfGame
    rw [of1, of11]
    omega

  have hW : winR f lim n m t g = (if endsSet (ofSet f ⟨m, t⟩) g 0 = true then lfg f 0 6 (plus ⟨m, t⟩ 0) zero else lfg f 0 6 ⟨m, t⟩ (plus g 0)) ∧ 0 ≤ winR f lim n m t g ∧ winR f lim n m t g ≤ 300 := by
    have he := ends_play (side := 0) (g := g) (.inl rfl) hp
    rw [of0, of10, hgm] at he
    unfold winR
    by_cases hc : isTie (ofSet f ⟨m, t⟩) g = true ∨ (f.games ≤ g.A + 1 ∧ g.B + 2 ≤ g.A + 1)
    · rw [if_pos hc, if_pos (he.2 hc), plus0]
      have := from_win hv (lim := lim) (n := n) (by omega) (by omega) (k := 6) h0 h1 h2 h3 (by omega)
      exact ⟨this.1, by omega, by omega⟩
    · rw [if_neg hc, if_neg (fun h => hc (he.1 h)), plus0]
      have hq : InPlay (ofSet f ⟨m, t⟩) (g.A + 1) g.B := hp.next hs (fun h => hc (.inl (hT.2 h))) (by rw [hgm]; exact fun h => hc (.inr h))
      have := lfg_game hv hlim hn (k := 5) h0 h1 h2 h3 (by omega) (g := ⟨g.A + 1, g.B⟩) hq (by show g.A + 1 ≤ 41; omega) (by show g.B ≤ 41; omega)
      obtain ⟨e1, e2, e3⟩ := this
      have e1' : costF (ofSet f ⟨m, t⟩) 1000000 (fromR f 1000000 lim n 5 (m + 1) t) (fromR f 1000000 lim n 5 m (t + 1)) lim n (g.A + 1) g.B = lfg f 0 6 ⟨m, t⟩ ⟨g.A + 1, g.B⟩ := e1.symm
      rw [e1']
      exact ⟨rfl, e2, e3⟩
  have hL : (loseR f lim n m t g = (if endsSet (ofSet f ⟨m, t⟩) g 1 = true then lfg f 0 6 (plus ⟨m, t⟩ 1) zero else lfg f 0 6 ⟨m, t⟩ (plus g 1)) ∧ 0 ≤ loseR f lim n m t g ∧ loseR f lim n m t g ≤ 300) ∨ (loseR f lim n m t g = 1000000 ∧ (if endsSet (ofSet f ⟨m, t⟩) g 1 = true then lfg f 0 6 (plus ⟨m, t⟩ 1) zero else lfg f 0 6 ⟨m, t⟩ (plus g 1)) = never) := by
    have he := ends_play (side := 1) (g := g) (.inr rfl) hp.swap
    rw [of1, of11, hgm] at he
    unfold loseR
    by_cases hc : isTie (ofSet f ⟨m, t⟩) g = true ∨ (f.games ≤ g.B + 1 ∧ g.A + 2 ≤ g.B + 1)
    · rw [if_pos hc, if_pos (he.2 hc), plus1]
      rcases from_lose hv (lim := lim) (n := n) (by omega) (by omega) (k := 6) h0 h1 h2 h3 (by omega) with hx | hx
      · exact .inl ⟨hx.1, by omega, by omega⟩
      · exact .inr hx
    · rw [if_neg hc, if_neg (fun h => hc (he.1 h)), plus1]
      have hq : InPlay (ofSet f ⟨m, t⟩) (g.B + 1) g.A := hp.swap.next hs (fun h => hc (.inl (hT.2 h.symm))) (by rw [hgm]; exact fun h => hc (.inr h))
      have := lfg_game hv hlim hn (k := 5) h0 h1 h2 h3 (by omega) (g := ⟨g.A, g.B + 1⟩) hq.swap (by show g.A ≤ 41; omega) (by show g.B + 1 ≤ 41; omega)
      obtain ⟨e1, e2, e3⟩ := this
      have e1' : costF (ofSet f ⟨m, t⟩) 1000000 (fromR f 1000000 lim n 5 (m + 1) t) (fromR f 1000000 lim n 5 m (t + 1)) lim n g.A (g.B + 1) = lfg f 0 6 ⟨m, t⟩ ⟨g.A, g.B + 1⟩ := e1.symm
      rw [e1']
      exact .inl ⟨rfl, e2, e3⟩
  have nv : never = 4611686018427387903 := rfl
  have hmn : ∀ x y : Int, mn x y = min y x := fun x y => by unfold mn; split <;> omega
  have hb2 : ∀ c : Nat → Int, bestOf c 2 = mn (mn never (c 0)) (c 1) := fun c => rfl
  unfold leastR lfp
  rw [hb2, hmn, hmn, ← n0, ← n1]
  show _ = min (pointsOfGame (ofSet f ⟨m, t⟩) (isTie (ofSet f ⟨m, t⟩) g) p 1 + (if endsSet (ofSet f ⟨m, t⟩) g 1 = true then lfg f 0 6 (plus ⟨m, t⟩ 1) zero else lfg f 0 6 ⟨m, t⟩ (plus g 1))) (min (pointsOfGame (ofSet f ⟨m, t⟩) (isTie (ofSet f ⟨m, t⟩) g) p 0 + (if endsSet (ofSet f ⟨m, t⟩) g 0 = true then lfg f 0 6 (plus ⟨m, t⟩ 0) zero else lfg f 0 6 ⟨m, t⟩ (plus g 0))) never)
  obtain ⟨w1, w2, w3⟩ := hW
  rw [← w1]
  rcases hL with ⟨l1, l2, l3⟩ | ⟨l1, l2⟩
  · rw [← l1]; omega
  · rw [l1, l2]; omega
end M
end Go.Proofs.Ytmhaapghiecfcaa

namespace Go.Proofs.Ytmhaapghiecfcaa
open Go.RowKit
attribute [local go_sem ↓] Go.wp_at_zero Go.wp_at_succ

end Go.Proofs.Ytmhaapghiecfcaa

namespace Go.Proofs.Ytmhaapghiecfcaa
open Go.RowKit
attribute [local go_sem ↓] Go.wp_at_zero Go.wp_at_succ

end Go.Proofs.Ytmhaapghiecfcaa

namespace Go.Proofs.Ytmhaapghiecfcaa
open Go.RowKit
attribute [local go_sem ↓] Go.wp_at_zero Go.wp_at_succ

theorem RunPost.err {f : M.Fm} {first : Int} {xs : List Int} {w w' : World} {m : M.Mt} {l : List Int} (hv : M.validB f = true) (hf : M.within first 0 1 = true) (hl : xs.length ≤ 600) (hp : M.rrunF m l = M.rrunF (M.rstart f first) xs) (hn : M.rrunF m l = none) (hb : Below w.heap.size w w') :
    RunPost f first xs w (.returned (.tuple #[.agg #[.slice none 0 0, .int .i64 0, .int .i64 0, .int .i64 0, .int .i64 0, .int .i64 0, .int .i64 0, .int .i64 0, .int .i64 0, .int .i64 0, .slice none 0 0, .bool false], .int .i64 11])) w' := by
  rw [hn] at hp
  refine RunPost.no ?_ ?_ hb
  · unfold M.rrunM; rw [if_pos hv, if_pos hf, if_neg (by omega), ← hp]
  · unfold M.rrunE; rw [if_pos hv, if_pos hf, if_neg (by omega), ← hp]


structure SetQ (w w' : World) (q : Nat) (cs : Array Value) : Prop where
  row : w'.heap[q]? = some (.cells cs 79 (0, 0))
  oth : ∀ k, k ≠ q → w'.heap[k]? = w.heap[k]?
  size : w'.heap.size = w.heap.size
  rat : ∀ base m sv gv, RAt w base m sv gv → RAt w' base m sv gv
  bel : ∀ B a, Below B a w → B ≤ q → Below B a w'
theorem SetQ.start {w : World} {q : Nat} {cs : Array Value} (h : w.heap[q]? = some (.cells cs 79 (0, 0))) : SetQ w w q cs := ⟨h, fun _ _ => rfl, rfl, fun _ _ _ _ h => h, fun _ _ h _ => h⟩
theorem SetQ.step {w w' : World} {q : Nat} {cs : Array Value} (h : SetQ w w' q cs) (i : Nat) (v : Value) : SetQ w (w'.setCell ⟨q, i, none⟩ v) q (cs.setIfInBounds i v) :=
  ⟨blk_set h.row i v, fun k hk => (heap_setCell_other _ ⟨q, i, none⟩ k v hk).trans (h.oth k hk), (by simp [h.size]), fun b m sv gv h0 => (h.rat b m sv gv h0).set h.row i v, fun B a hb hB => (h.bel B a hb hB).setCell (p := ⟨q, i, none⟩) hB v⟩
end Go.Proofs.Ytmhaapghiecfcaa

namespace Go.Proofs.Ytmhaapghiecfcaa
open Go.RowKit

end Go.Proofs.Ytmhaapghiecfcaa

namespace Go.Proofs.Ytmhaapghiecfcaa
open Go.RowKit
attribute [local go_sem ↓] Go.wp_at_zero Go.wp_at_succ

def M.turned (p : Int) : Int := if p < 0 then p else p / 2 * 2 + 1 - p % 2
end Go.Proofs.Ytmhaapghiecfcaa

namespace Go.Proofs.Ytmhaapghiecfcaa
open Go.RowKit
namespace M

def mirG (g : Gm) : Gm := { g with server := turned g.server, winner := 1 - g.winner, pts := swap g.pts }
def mir (m : Mt) : Mt := { m with sets := m.sets.map swap, games := swap m.games, pts := swap m.pts, server := turned m.server, winner := turned m.winner, opens := 1 - m.opens, won := swap m.won, log := m.log.map mirG }

theorem plus_mir {s : Int} (hs : s = 0 ∨ s = 1) (p : Pr) : plus (swap p) (1 - s) = swap (plus p s) := by
  rcases hs with rfl | rfl <;> rfl
theorem of_mir {s : Int} (hs : s = 0 ∨ s = 1) (p : Pr) : of (swap p) (1 - s) = of p s ∧ of (swap p) (1 - (1 - s)) = of p (1 - s) := by
  rcases hs with rfl | rfl <;> exact ⟨rfl, rfl⟩
theorem isTie_mir (s : Fm) (g : Pr) : isTie s (swap g) = isTie s g := Bool.and_comm _ _
theorem lastB_mir (f : Fm) (won : Pr) : lastB f (swap won) = lastB f won := Bool.and_comm _ _
theorem ofSet_mir (f : Fm) (won : Pr) : ofSet f (swap won) = ofSet f won := by unfold ofSet; rw [lastB_mir]
theorem near_mir (g : Pr) : near (swap g) = near g := by
  rw [Bool.eq_iff_iff, nearOf, nearOf]
  show -2 < g.B - g.A ∧ g.B - g.A < 2 ↔ _
  omega
theorem endsSet_mir {s : Int} (hs : s = 0 ∨ s = 1) (f : Fm) (g : Pr) : endsSet f (swap g) (1 - s) = endsSet f g s := by
  unfold endsSet
  rw [isTie_mir, plus_mir hs, (of_mir hs _).1, near_mir]
theorem winner_mir {f : Fm} {won : Pr} (h : ¬ (won.A = f.sets ∧ won.B = f.sets)) : winner f (swap won) = turned (winner f won) := by
  by_cases h1 : won.A = f.sets
  · have h2 : ¬ won.B = f.sets := fun hc => h ⟨h1, hc⟩
    exact ((if_neg h2).trans (if_pos h1)).trans (by rw [show winner f won = 0 from if_pos h1]; rfl)
  · by_cases h2 : won.B = f.sets
    · exact (if_pos h2).trans (by rw [show winner f won = 1 from (if_neg h1).trans (if_pos h2)]; rfl)
    · exact ((if_neg h2).trans (if_neg h1)).trans (by rw [winner_none h1 h2]; rfl)
end M
end Go.Proofs.Ytmhaapghiecfcaa

namespace Go.Proofs.Ytmhaapghiecfcaa
open Go.RowKit
namespace M

theorem pts_mir {s : Fm} {g : Pr} (x y : Int) : pts s x (swap g) = pts s y g := by
  have e : ∀ x, of zero x = 0 := fun x => by unfold of zero; split <;> rfl
  unfold pts pointsOfGame
  rw [isTie_mir, e, e, e, e]
theorem runF_mir {s : Fm} {side : Int} (hs : side = 0 ∨ side = 1) : ∀ (m : Nat) (g : Pr), runF s (1 - side) m (swap g) = runF s side m g
  | 0, g => by unfold runF; rw [pts_mir (1 - side) side]
  | m + 1, g => by
    unfold runF
    rw [endsSet_mir hs, pts_mir (1 - side) side, plus_mir hs, runF_mir hs m (plus g side)]
theorem run_mir {s : Fm} {side : Int} (hs : side = 0 ∨ side = 1) (g : Pr) : run s (1 - side) (swap g) = run s side g := by
  unfold run
  have e : fuel s (1 - side) (swap g) = fuel s side g := by
    unfold fuel
    obtain ⟨e1, e2⟩ := of_mir hs g
    rw [e1, e2]
  rw [e, runF_mir hs]
theorem mn_or (x y z : Int) : mn (mn x y) z = mn (mn x z) y := by
  unfold mn
  repeat' split
  all_goals omega
theorem lfg_mir {f : Fm} : ∀ (k : Nat) (won g : Pr), ¬ (won.A = f.sets ∧ won.B = f.sets) → lfg f 1 k won g = lfg f 0 k (swap won) (swap g)
  | 0, won, g, _ => rfl
  | k + 1, won, g, h => by
    have hw := winner_mir (f := f) h
    unfold lfg
    rw [hw]
    rcases winner_cases f won with e | e | e
    · rw [e]; rfl
    · rw [e]; rfl
    · obtain ⟨hA, hB⟩ := winner_open e
      rw [e, show turned (-1) = -1 from rfl, if_neg (by decide), if_neg (by decide), if_neg (by decide), if_neg (by decide), ofSet_mir]
      have hb2 : ∀ c : Nat → Int, bestOf c 2 = mn (mn never (c 0)) (c 1) := fun c => rfl
      rw [hb2, hb2]
      have i0 := lfg_mir k (plus won 0) zero (by rw [plus0]; exact fun hh => hB hh.2)
      have i1 := lfg_mir k (plus won 1) zero (by rw [plus1]; exact fun hh => hA hh.1)
      have r0 := run_mir (s := ofSet f won) (side := 0) (.inl rfl) g
      have r1 := run_mir (s := ofSet f won) (side := 1) (.inr rfl) g
      have p0 : swap (plus won 0) = plus (swap won) 1 := rfl
      have p1 : swap (plus won 1) = plus (swap won) 0 := rfl
      have z : swap zero = zero := rfl
      rw [p0, z] at i0
      rw [p1, z] at i1
      have c0 : (run (ofSet f won) ((0 : Nat) : Int) g).2 + lfg f 1 k (plus won ((0 : Nat) : Int)) zero = (run (ofSet f won) ((1 : Nat) : Int) (swap g)).2 + lfg f 0 k (plus (swap won) ((1 : Nat) : Int)) zero := by
        show (run (ofSet f won) 0 g).2 + lfg f 1 k (plus won 0) zero = (run (ofSet f won) (1 - 0) (swap g)).2 + lfg f 0 k (plus (swap won) 1) zero
        rw [r0, i0]
      have c1 : (run (ofSet f won) ((1 : Nat) : Int) g).2 + lfg f 1 k (plus won ((1 : Nat) : Int)) zero = (run (ofSet f won) ((0 : Nat) : Int) (swap g)).2 + lfg f 0 k (plus (swap won) ((0 : Nat) : Int)) zero := by
        show (run (ofSet f won) 1 g).2 + lfg f 1 k (plus won 1) zero = (run (ofSet f won) (1 - 1) (swap g)).2 + lfg f 0 k (plus (swap won) 0) zero
        rw [r1, i1]
      rw [c0, c1, mn_or]
theorem lfp_mir {f : Fm} {k : Nat} {won g p : Pr} (hA : won.A ≠ f.sets) (hB : won.B ≠ f.sets) : lfp f 1 k won g p = lfp f 0 k (swap won) (swap g) (swap p) := by
  unfold lfp
  have hb2 : ∀ c : Nat → Int, bestOf c 2 = mn (mn never (c 0)) (c 1) := fun c => rfl
  rw [hb2, hb2, ofSet_mir, isTie_mir]
  have q : ∀ {side : Int}, side = 0 ∨ side = 1 → pointsOfGame (ofSet f won) (isTie (ofSet f won) g) (swap p) (1 - side) = pointsOfGame (ofSet f won) (isTie (ofSet f won) g) p side := fun {side} hs => by
    unfold pointsOfGame
    obtain ⟨e1, e2⟩ := of_mir hs p
    rw [e1, e2]
  have i0 := lfg_mir (f := f) k (plus won 0) zero (by rw [plus0]; exact fun hh => hB hh.2)
  have i1 := lfg_mir (f := f) k (plus won 1) zero (by rw [plus1]; exact fun hh => hA hh.1)
  have j0 := lfg_mir (f := f) k won (plus g 0) (fun hh => hA hh.1)
  have j1 := lfg_mir (f := f) k won (plus g 1) (fun hh => hA hh.1)
  have z : swap zero = zero := rfl
  have p0 : ∀ w : Pr, swap (plus w 0) = plus (swap w) 1 := fun w => rfl
  have p1 : ∀ w : Pr, swap (plus w 1) = plus (swap w) 0 := fun w => rfl
  rw [p0, z] at i0
  rw [p1, z] at i1
  rw [p0] at j0
  rw [p1] at j1
  have e0 : endsSet (ofSet f won) (swap g) 1 = endsSet (ofSet f won) g 0 := endsSet_mir (s := 0) (.inl rfl) _ g
  have e1 : endsSet (ofSet f won) (swap g) 0 = endsSet (ofSet f won) g 1 := endsSet_mir (s := 1) (.inr rfl) _ g
  have q0 := q (side := 0) (.inl rfl)
  have q1 := q (side := 1) (.inr rfl)
  have c0 : pointsOfGame (ofSet f won) (isTie (ofSet f won) g) p ((0 : Nat) : Int) + (if endsSet (ofSet f won) g ((0 : Nat) : Int) = true then lfg f 1 k (plus won ((0 : Nat) : Int)) zero else lfg f 1 k won (plus g ((0 : Nat) : Int))) = pointsOfGame (ofSet f won) (isTie (ofSet f won) g) (swap p) ((1 : Nat) : Int) + (if endsSet (ofSet f won) (swap g) ((1 : Nat) : Int) = true then lfg f 0 k (plus (swap won) ((1 : Nat) : Int)) zero else lfg f 0 k (swap won) (plus (swap g) ((1 : Nat) : Int))) := by
    show pointsOfGame (ofSet f won) (isTie (ofSet f won) g) p 0 + (if endsSet (ofSet f won) g 0 = true then lfg f 1 k (plus won 0) zero else lfg f 1 k won (plus g 0)) = pointsOfGame (ofSet f won) (isTie (ofSet f won) g) (swap p) (1 - 0) + (if endsSet (ofSet f won) (swap g) 1 = true then lfg f 0 k (plus (swap won) 1) zero else lfg f 0 k (swap won) (plus (swap g) 1))
    rw [q0, e0, i0, j0]
  have c1 : pointsOfGame (ofSet f won) (isTie (ofSet f won) g) p ((1 : Nat) : Int) + (if endsSet (ofSet f won) g ((1 : Nat) : Int) = true then lfg f 1 k (plus won ((1 : Nat) : Int)) zero else lfg f 1 k won (plus g ((1 : Nat) : Int))) = pointsOfGame (ofSet f won) (isTie (ofSet f won) g) (swap p) ((0 : Nat) : Int) + (if endsSet (ofSet f won) (swap g) ((0 : Nat) : Int) = true then lfg f 0 k (plus (swap won) ((0 : Nat) : Int)) zero else lfg f 0 k (swap won) (plus (swap g) ((0 : Nat) : Int))) := by
    show pointsOfGame (ofSet f won) (isTie (ofSet f won) g) p 1 + (if endsSet (ofSet f won) g 1 = true then lfg f 1 k (plus won 1) zero else lfg f 1 k won (plus g 1)) = pointsOfGame (ofSet f won) (isTie (ofSet f won) g) (swap p) (1 - 1) + (if endsSet (ofSet f won) (swap g) 0 = true then lfg f 0 k (plus (swap won) 0) zero else lfg f 0 k (swap won) (plus (swap g) 0))
    rw [q1, e1, i1, j1]
  rw [c0, c1, mn_or]
end M
end Go.Proofs.Ytmhaapghiecfcaa

namespace Go.Proofs.Ytmhaapghiecfcaa
open Go.RowKit
namespace M

theorem inPlay_iff {s : Fm} {g : Pr} (h0 : 0 ≤ g.A) (h1 : 0 ≤ g.B) : InPlay s g.A g.B ↔ gamesArise s g = true := by
  have hhi : (g.A < g.B ∧ hi g = g.B) ∨ (¬ g.A < g.B ∧ hi g = g.A) := by
    unfold hi
    split
    · exact .inl ⟨by assumption, rfl⟩
    · exact .inr ⟨by assumption, rfl⟩
  unfold gamesArise
  simp only [Bool.and_eq_true, Bool.or_eq_true, Bool.not_eq_true', Bool.and_eq_false_iff, decide_eq_true_eq, decide_eq_false_iff_not, nearOf]
  constructor
  · rintro ⟨x0, y0, nx, ny, tx, ty⟩
    refine ⟨?_, ?_⟩
    · by_cases ht : 0 ≤ s.tie
      · exact .inr (by omega)
      · exact .inl ht
    · by_cases hg : hi g < s.games
      · exact .inl hg
      · exact .inr (by omega)
  · rintro ⟨h2, h3⟩
    refine ⟨h0, h1, ?_, ?_, ?_, ?_⟩
    · rcases h3 with h3 | h3 <;> omega
    · rcases h3 with h3 | h3 <;> omega
    · intro ht
      rcases h2 with h2 | h2
      · exact absurd ht h2
      · omega
    · intro ht
      rcases h2 with h2 | h2
      · exact absurd ht h2
      · omega
inductive Open (s : Fm) : Int → Int → Prop where
  | zero : Open s 0 0
  | one (a b : Int) : Open s a b → ¬ (a = s.tie ∧ b = s.tie) → ¬ (s.games ≤ a + 1 ∧ b + 2 ≤ a + 1) → Open s (a + 1) b
  | two (a b : Int) : Open s a b → ¬ (a = s.tie ∧ b = s.tie) → ¬ (s.games ≤ b + 1 ∧ a + 2 ≤ b + 1) → Open s a (b + 1)
theorem open_play {s : Fm} (hv : Valid s) {a b : Int} (h : Open s a b) : InPlay s a b := by
  induction h with
  | zero => exact inPlay_zero hv
  | one a b _ h1 h2 ih => exact ih.next hv h1 h2
  | two a b _ h1 h2 ih => exact (ih.swap.next hv (fun h => h1 h.symm) h2).swap
theorem play_open {s : Fm} (hv : Valid s) : ∀ (k : Nat) (a b : Int), a + b = k → InPlay s a b → Open s a b
  | 0, a, b, hk, h => by
    have ha : a = 0 := by have := h.x0; have := h.y0; omega
    have hb : b = 0 := by have := h.x0; have := h.y0; omega
    rw [ha, hb]
    exact .zero
  | k + 1, a, b, hk, h => by
    obtain ⟨x0, y0, nx, ny, tx, ty⟩ := h
    have htt := hv.tt
    have hg := hv.g0
    rcases Int.lt_or_le a b with hab | hab
    · have hq : InPlay s a (b - 1) := ⟨by omega, by omega, by omega, by omega, by omega, by omega⟩
      have ho := play_open hv k a (b - 1) (by omega) hq
      have := Open.two a (b - 1) ho (by omega) (by omega)
      rwa [show b - 1 + 1 = b by omega] at this
    · have hq : InPlay s (a - 1) b := ⟨by omega, by omega, by omega, by omega, by omega, by omega⟩
      have ho := play_open hv k (a - 1) b (by omega) hq
      have := Open.one (a - 1) b ho (by omega) (by omega)
      rwa [show a - 1 + 1 = a by omega] at this
theorem open_iff {s : Fm} (hv : Valid s) {g : Pr} (h0 : 0 ≤ g.A) (h1 : 0 ≤ g.B) : Open s g.A g.B ↔ gamesArise s g = true := by
  rw [← inPlay_iff h0 h1]
  exact ⟨open_play hv, play_open hv (g.A + g.B).toNat g.A g.B (by omega)⟩
theorem endsBy_iff {s : Fm} (hv : Valid s) {g : Pr} {side : Int} (hs : side = 0 ∨ side = 1) (h0 : 0 ≤ g.A) (h1 : 0 ≤ g.B) :
    endsBy s g side = true ↔ 0 ≤ of (minus g side) side ∧ Open s (minus g side).A (minus g side).B ∧ endsSet s (minus g side) side = true := by
  unfold endsBy
  rw [Bool.and_eq_true, Bool.and_eq_true, decide_eq_true_eq]
  constructor
  · rintro ⟨a, b, c⟩
    refine ⟨a, (open_iff hv ?_ ?_).2 b, c⟩
    · rcases hs with rfl | rfl
      · exact a
      · exact h0
    · rcases hs with rfl | rfl
      · exact h1
      · exact a
  · rintro ⟨a, b, c⟩
    refine ⟨a, (open_iff hv ?_ ?_).1 b, c⟩
    · rcases hs with rfl | rfl
      · exact a
      · exact h0
    · rcases hs with rfl | rfl
      · exact h1
      · exact a
theorem over_iff {s : Fm} (hv : Valid s) {g : Pr} (h0 : 0 ≤ g.A) (h1 : 0 ≤ g.B) :
    setWinner s g ≠ -1 ↔ ∃ side : Int, (side = 0 ∨ side = 1) ∧ 0 ≤ of (minus g side) side ∧ Open s (minus g side).A (minus g side).B ∧ endsSet s (minus g side) side = true := by
  unfold setWinner
  constructor
  · intro h
    by_cases e0 : endsBy s g 0 = true
    · exact ⟨0, .inl rfl, (endsBy_iff hv (.inl rfl) h0 h1).1 e0⟩
    · rw [if_neg e0] at h
      by_cases e1 : endsBy s g 1 = true
      · exact ⟨1, .inr rfl, (endsBy_iff hv (.inr rfl) h0 h1).1 e1⟩
      · rw [if_neg e1] at h
        exact absurd rfl h
  · rintro ⟨side, hs, hx⟩
    have he := (endsBy_iff hv hs h0 h1).2 hx
    rcases hs with rfl | rfl
    · rw [if_pos he]; decide
    · by_cases e0 : endsBy s g 0 = true
      · rw [if_pos e0]; decide
      · rw [if_neg e0, if_pos he]; decide
end M
end Go.Proofs.Ytmhaapghiecfcaa
