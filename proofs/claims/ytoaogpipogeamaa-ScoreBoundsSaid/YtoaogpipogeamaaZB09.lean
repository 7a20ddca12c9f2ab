/-
  Part of a claim's texts: contracts of the program's functions and the plain functions that they compute, in build order.
-/
import Derived.Laws.OwnMore
import Derived.Laws.Tables
import Derived.Deep.Cut
import Derived.Carry
import Derived.ProofKit
import Derived.Deep.Slices
import Derived.Deep.Fields
import Derived.Lib.SmallJoins
import Derived.Maps.AppendAt
import Derived.Test.YtoaogpipogeamaaZB01
import Derived.Test.YtoaogpipogeamaaZB03
import Derived.Test.YtoaogpipogeamaaZB04
import Derived.Test.YtoaogpipogeamaaZB08
namespace Go.Proofs.Ytoaogpipogeamaa
open Go.RowKit
attribute [local go_sem ↓] Go.wp_at_zero Go.wp_at_succ

theorem sw_ok {f : M.Fm} {ps : List M.Pr} {g p : M.Pr} (h : M.swE f ps g p = 0) : M.Valid f ∧ M.numbered ps g p = true ∧ M.standB f ps g p = true ∧ M.swWon f ps g p = M.standWon f ps := by
  unfold M.swE at h
  cases hv : M.validB f
  · simp [hv] at h
  · cases hn : M.numbered ps g p
    · simp [hv, hn] at h
    · cases hs : M.standB f ps g p
      · simp [hv, hn, hs] at h
      · exact ⟨(M.validB_iff f).1 hv, rfl, rfl, by unfold M.swWon; rw [hv, hn, hs]; rfl⟩

set_option maxHeartbeats 8000000 in
theorem Least_any (f : M.Fm) (A : Option Addr) (n c : Nat) (ps : List M.Pr) (g p : M.Pr) (side : Int) (w : World) (hn : ps.length = n) (hr : RdP w w.heap.size A ps) (hm : n ≤ 1000000) :
    Calls Try.prog 20 #[.agg #[.int .i64 f.sets, .int .i64 f.games, .bool f.noAd, .int .i64 f.tie, .int .i64 f.to, .int .i64 f.lastTie, .int .i64 f.lastTo, .int .i64 f.first, .int .i64 f.next, .bool f.doubles], .agg #[.slice A n c, .int .i64 g.A, .int .i64 g.B, .int .i64 p.A, .int .i64 p.B], .int .i64 side] w fun e w' => e = .returned (.tuple #[.int .i64 (M.leastV f ps g p side), .int .i64 (M.leastE f ps g p side)]) ∧ Below w.heap.size w w' := by
  have HN := hide hn
  have HR := hide hr
  clear hn hr
  cases hsw : (M.swE f ps g p != 0)
  · have h0 : M.swE f ps g p = 0 := by simpa using hsw
    obtain ⟨hvv, hnu, hst, hwon⟩ := sw_ok h0
    cases hsd : M.within side 0 1
    · have h1 : M.leastE f ps g p side = 1 := by simp [M.leastE, h0, hsd]
      have h2 : M.leastV f ps g p side = 0 := by simp [M.leastV, h0, hsd]
      have hsn : ¬ (side = 0) ∧ ¬ (side = 1) := by simp [M.within] at hsd; omega
      have t0 : (side != 0) = true := by simpa using hsn.1
      have t1 : (side != 1) = true := by simpa using hsn.2
      rw [h1, h2]; clear h1 h2 h0 hvv hnu hst hwon hsn
      go_enter Try.func20, Try.ntmps20
      go_wp2_with (first | (go_at_call 45; refine (setsWon_any f A n c ps g p _ HN.out ((HR.out.below (by (repeat' first | exact zbR _ _ | assumption | refine zbD ?_ | refine zbA ?_ ?_ _ | refine zbS ?_ ?_ _ | refine zbT ?_ (by assumption) ?_ | (simp; done) | (simp; omega) | omega))).mono (by first | (simp; done) | (simp; omega))) hm).mono ?_; rintro e w1 ⟨rfl, hb⟩; obtain ⟨hc, hf⟩ := bcell hb; have hz := hb.size; (try simp at hz); have hSn : ((fun w' => Below w.heap.size w w' ∧ w.heap.size < w'.heap.size ∧ w.heap.size + 1 < w'.heap.size ∧ w'.cell? ⟨w.heap.size + 1, 0, none⟩ = some (.slice A n c) ∧ w'.cell? ⟨w.heap.size + 1, 1, none⟩ = some (.int .i64 g.A) ∧ w'.cell? ⟨w.heap.size + 1, 2, none⟩ = some (.int .i64 g.B) ∧ w'.cell? ⟨w.heap.size + 1, 3, none⟩ = some (.int .i64 p.A) ∧ w'.cell? ⟨w.heap.size + 1, 4, none⟩ = some (.int .i64 p.B) ∧ w'.cell? ⟨w.heap.size, 0, none⟩ = some (.int .i64 f.sets) ∧ w'.cell? ⟨w.heap.size, 1, none⟩ = some (.int .i64 f.games) ∧ w'.cell? ⟨w.heap.size, 2, none⟩ = some (.bool f.noAd) ∧ w'.cell? ⟨w.heap.size, 3, none⟩ = some (.int .i64 f.tie) ∧ w'.cell? ⟨w.heap.size, 4, none⟩ = some (.int .i64 f.to) ∧ w'.cell? ⟨w.heap.size, 5, none⟩ = some (.int .i64 f.lastTie) ∧ w'.cell? ⟨w.heap.size, 6, none⟩ = some (.int .i64 f.lastTo) ∧ w'.cell? ⟨w.heap.size, 7, none⟩ = some (.int .i64 f.first) ∧ w'.cell? ⟨w.heap.size, 8, none⟩ = some (.int .i64 f.next) ∧ w'.cell? ⟨w.heap.size, 9, none⟩ = some (.bool f.doubles))) w1 := (by (try dsimp only); (first | (go_keep; done) | (go_split_ands; (repeat' apply And.intro) <;> first | (go_keep; done) | (simp [*, zcA, zcP, zfA, zfP]; done) | (simp [zcA, zcP] <;> rfl) | (simp [*, zsS, zsO, zsA]; done) | ((first | refine (hc _ _ ?_).trans ?_ | refine (hf _ _ ?_).trans ?_) <;> first | assumption | (simp; done) | (simp; omega) | omega | (go_keep; done) | (simp [*, zcA, zcP, zfA, zfP]; done) | (simp [zcA, zcP]; rfl)) | (repeat' first | exact zbR _ _ | assumption | refine zbD ?_ | refine zbA ?_ ?_ _ | refine zbS ?_ ?_ _ | refine zbT ?_ (by assumption) ?_ | (simp; done) | (simp; omega) | omega)))); (try dsimp only at hSn); (try clear hS); have hS := hSn; clear hSn hc hf))
      go_ret2
      exact ⟨rfl, by (go_split_ands; (repeat' first | exact zbR _ _ | assumption | refine zbD ?_ | refine zbA ?_ ?_ _ | refine zbS ?_ ?_ _ | refine zbT ?_ (by assumption) ?_ | (simp; done) | (simp; omega) | omega))⟩
    · have hs0 : 0 ≤ side := by simp [M.within] at hsd; omega
      have hs1 : side ≤ 1 := by simp [M.within] at hsd; omega
      have hbd := M.standWon_bd hvv ps
      rw [← hwon] at hbd
      obtain ⟨_, _, hgf, hpf⟩ := M.numbered_parts hnu
      have HVV := hide hvv
      have HW0 := hide hbd.1
      have HGB := hide (fine_bd hgf)
      have HPB := hide (fine_bd hpf)
      cases hw1 : (M.winner f (M.swWon f ps g p) == side)
      · cases hw2 : (M.winner f (M.swWon f ps g p) == 1 - side)
        · have h1 : M.leastE f ps g p side = 0 := by simp [M.leastE, h0, hsd, (show ¬ M.winner f (M.swWon f ps g p) = side by simpa using hw1), (show ¬ M.winner f (M.swWon f ps g p) = 1 - side by simpa using hw2)]
          have h2 : M.leastV f ps g p side = M.lfp f side 6 (M.swWon f ps g p) g p := by simp [M.leastV, h0, hsd, (show ¬ M.winner f (M.swWon f ps g p) = side by simpa using hw1), (show ¬ M.winner f (M.swWon f ps g p) = 1 - side by simpa using hw2)]
          have HW1 := hide (M.winner_lt (f := f) (won := M.swWon f ps g p) (s := side) (by omega) hbd.2 (by simpa using hw1) (by simpa using hw2))
          rw [h1, h2]; clear h1 h2 h0 hvv hnu hst hwon hbd hgf hpf
          go_enter Try.func20, Try.ntmps20
          rcases (show side = 0 ∨ side = 1 by omega) with e | e
          all_goals
            subst e
            go_wp2_with (first | (go_at_call 45; refine (setsWon_any f A n c ps g p _ HN.out ((HR.out.below (by (repeat' first | exact zbR _ _ | assumption | refine zbD ?_ | refine zbA ?_ ?_ _ | refine zbS ?_ ?_ _ | refine zbT ?_ (by assumption) ?_ | (simp; done) | (simp; omega) | omega))).mono (by first | (simp; done) | (simp; omega))) hm).mono ?_; rintro e w1 ⟨rfl, hb⟩; obtain ⟨hc, hf⟩ := bcell hb; have hz := hb.size; (try simp at hz); have hSn : ((fun w' => Below w.heap.size w w' ∧ w.heap.size < w'.heap.size ∧ w.heap.size + 1 < w'.heap.size ∧ w'.cell? ⟨w.heap.size + 1, 0, none⟩ = some (.slice A n c) ∧ w'.cell? ⟨w.heap.size + 1, 1, none⟩ = some (.int .i64 g.A) ∧ w'.cell? ⟨w.heap.size + 1, 2, none⟩ = some (.int .i64 g.B) ∧ w'.cell? ⟨w.heap.size + 1, 3, none⟩ = some (.int .i64 p.A) ∧ w'.cell? ⟨w.heap.size + 1, 4, none⟩ = some (.int .i64 p.B) ∧ w'.cell? ⟨w.heap.size, 0, none⟩ = some (.int .i64 f.sets) ∧ w'.cell? ⟨w.heap.size, 1, none⟩ = some (.int .i64 f.games) ∧ w'.cell? ⟨w.heap.size, 2, none⟩ = some (.bool f.noAd) ∧ w'.cell? ⟨w.heap.size, 3, none⟩ = some (.int .i64 f.tie) ∧ w'.cell? ⟨w.heap.size, 4, none⟩ = some (.int .i64 f.to) ∧ w'.cell? ⟨w.heap.size, 5, none⟩ = some (.int .i64 f.lastTie) ∧ w'.cell? ⟨w.heap.size, 6, none⟩ = some (.int .i64 f.lastTo) ∧ w'.cell? ⟨w.heap.size, 7, none⟩ = some (.int .i64 f.first) ∧ w'.cell? ⟨w.heap.size, 8, none⟩ = some (.int .i64 f.next) ∧ w'.cell? ⟨w.heap.size, 9, none⟩ = some (.bool f.doubles))) w1 := (by (try dsimp only); (first | (go_keep; done) | (go_split_ands; (repeat' apply And.intro) <;> first | (go_keep; done) | (simp [*, zcA, zcP, zfA, zfP]; done) | (simp [zcA, zcP] <;> rfl) | (simp [*, zsS, zsO, zsA]; done) | ((first | refine (hc _ _ ?_).trans ?_ | refine (hf _ _ ?_).trans ?_) <;> first | assumption | (simp; done) | (simp; omega) | omega | (go_keep; done) | (simp [*, zcA, zcP, zfA, zfP]; done) | (simp [zcA, zcP]; rfl)) | (repeat' first | exact zbR _ _ | assumption | refine zbD ?_ | refine zbA ?_ ?_ _ | refine zbS ?_ ?_ _ | refine zbT ?_ (by assumption) ?_ | (simp; done) | (simp; omega) | omega)))); (try dsimp only at hSn); (try clear hS); have hS := hSn; clear hSn hc hf) | (go_at_call 46; refine (winner_any f (M.swWon f ps g p) _).mono ?_; rintro e w2 ⟨rfl, hb⟩; obtain ⟨hc, hf⟩ := bcell hb; have hz := hb.size; (try simp at hz); have hSn : ((fun w' => Below w.heap.size w w' ∧ w.heap.size < w'.heap.size ∧ w.heap.size + 1 < w'.heap.size ∧ w'.cell? ⟨w.heap.size + 1, 0, none⟩ = some (.slice A n c) ∧ w'.cell? ⟨w.heap.size + 1, 1, none⟩ = some (.int .i64 g.A) ∧ w'.cell? ⟨w.heap.size + 1, 2, none⟩ = some (.int .i64 g.B) ∧ w'.cell? ⟨w.heap.size + 1, 3, none⟩ = some (.int .i64 p.A) ∧ w'.cell? ⟨w.heap.size + 1, 4, none⟩ = some (.int .i64 p.B) ∧ w'.cell? ⟨w.heap.size, 0, none⟩ = some (.int .i64 f.sets) ∧ w'.cell? ⟨w.heap.size, 1, none⟩ = some (.int .i64 f.games) ∧ w'.cell? ⟨w.heap.size, 2, none⟩ = some (.bool f.noAd) ∧ w'.cell? ⟨w.heap.size, 3, none⟩ = some (.int .i64 f.tie) ∧ w'.cell? ⟨w.heap.size, 4, none⟩ = some (.int .i64 f.to) ∧ w'.cell? ⟨w.heap.size, 5, none⟩ = some (.int .i64 f.lastTie) ∧ w'.cell? ⟨w.heap.size, 6, none⟩ = some (.int .i64 f.lastTo) ∧ w'.cell? ⟨w.heap.size, 7, none⟩ = some (.int .i64 f.first) ∧ w'.cell? ⟨w.heap.size, 8, none⟩ = some (.int .i64 f.next) ∧ w'.cell? ⟨w.heap.size, 9, none⟩ = some (.bool f.doubles) ∧ w'.cell? ⟨w1.heap.size, 0, none⟩ = some (.int .i64 (M.swWon f ps g p).A) ∧ w'.cell? ⟨w1.heap.size, 1, none⟩ = some (.int .i64 (M.swWon f ps g p).B) ∧ w1.heap.size < w'.heap.size)) w2 := (by (try dsimp only); (first | (go_keep; done) | (go_split_ands; (repeat' apply And.intro) <;> first | (go_keep; done) | (simp [*, zcA, zcP, zfA, zfP]; done) | (simp [zcA, zcP] <;> rfl) | (simp [*, zsS, zsO, zsA]; done) | ((first | refine (hc _ _ ?_).trans ?_ | refine (hf _ _ ?_).trans ?_) <;> first | assumption | (simp; done) | (simp; omega) | omega | (go_keep; done) | (simp [*, zcA, zcP, zfA, zfP]; done) | (simp [zcA, zcP]; rfl)) | (repeat' first | exact zbR _ _ | assumption | refine zbD ?_ | refine zbA ?_ ?_ _ | refine zbS ?_ ?_ _ | refine zbT ?_ (by assumption) ?_ | (simp; done) | (simp; omega) | omega)))); (try dsimp only at hSn); (try clear hS); have hS := hSn; clear hSn hc hf) | (go_at_call 47; refine (lfp_any f _ (.slice A n c) (M.swWon f ps g p) g p _ HVV.out hs0 hs1 HW0.out HW1.out HGB.out HPB.out A n c rfl).mono ?_; rintro e w3 ⟨rfl, hb⟩; obtain ⟨hc, hf⟩ := bcell hb; have hz := hb.size; (try simp at hz); have hSn : ((fun w' => Below w.heap.size w w')) w3 := (by (try dsimp only); (first | (go_keep; done) | (go_split_ands; (repeat' apply And.intro) <;> first | (go_keep; done) | (simp [*, zcA, zcP, zfA, zfP]; done) | (simp [zcA, zcP] <;> rfl) | (simp [*, zsS, zsO, zsA]; done) | ((first | refine (hc _ _ ?_).trans ?_ | refine (hf _ _ ?_).trans ?_) <;> first | assumption | (simp; done) | (simp; omega) | omega | (go_keep; done) | (simp [*, zcA, zcP, zfA, zfP]; done) | (simp [zcA, zcP]; rfl)) | (repeat' first | exact zbR _ _ | assumption | refine zbD ?_ | refine zbA ?_ ?_ _ | refine zbS ?_ ?_ _ | refine zbT ?_ (by assumption) ?_ | (simp; done) | (simp; omega) | omega)))); (try dsimp only at hSn); (try clear hS); have hS := hSn; clear hSn hc hf))
            go_ret2
            exact ⟨rfl, by (go_split_ands; (repeat' first | exact zbR _ _ | assumption | refine zbD ?_ | refine zbA ?_ ?_ _ | refine zbS ?_ ?_ _ | refine zbT ?_ (by assumption) ?_ | (simp; done) | (simp; omega) | omega))⟩
        · have h1 : M.leastE f ps g p side = 3 := by
            have n1 : ¬ M.winner f (M.swWon f ps g p) = side := by simpa using hw1
            unfold M.leastE; rw [if_neg (fun h => h h0), if_pos hsd, if_neg n1, if_pos (by simpa using hw2)]
          have h2 : M.leastV f ps g p side = 0 := by
            have n1 : ¬ M.winner f (M.swWon f ps g p) = side := by simpa using hw1
            unfold M.leastV; rw [if_neg (fun h => h h0), if_pos hsd, if_neg n1, if_pos (by simpa using hw2)]
          rw [h1, h2]; clear h1 h2 h0 hvv hnu hst hwon hbd hgf hpf
          go_enter Try.func20, Try.ntmps20
          rcases (show side = 0 ∨ side = 1 by omega) with e | e
          all_goals
            subst e
            go_wp2_with (first | (go_at_call 45; refine (setsWon_any f A n c ps g p _ HN.out ((HR.out.below (by (repeat' first | exact zbR _ _ | assumption | refine zbD ?_ | refine zbA ?_ ?_ _ | refine zbS ?_ ?_ _ | refine zbT ?_ (by assumption) ?_ | (simp; done) | (simp; omega) | omega))).mono (by first | (simp; done) | (simp; omega))) hm).mono ?_; rintro e w1 ⟨rfl, hb⟩; obtain ⟨hc, hf⟩ := bcell hb; have hz := hb.size; (try simp at hz); have hSn : ((fun w' => Below w.heap.size w w' ∧ w.heap.size < w'.heap.size ∧ w.heap.size + 1 < w'.heap.size ∧ w'.cell? ⟨w.heap.size + 1, 0, none⟩ = some (.slice A n c) ∧ w'.cell? ⟨w.heap.size + 1, 1, none⟩ = some (.int .i64 g.A) ∧ w'.cell? ⟨w.heap.size + 1, 2, none⟩ = some (.int .i64 g.B) ∧ w'.cell? ⟨w.heap.size + 1, 3, none⟩ = some (.int .i64 p.A) ∧ w'.cell? ⟨w.heap.size + 1, 4, none⟩ = some (.int .i64 p.B) ∧ w'.cell? ⟨w.heap.size, 0, none⟩ = some (.int .i64 f.sets) ∧ w'.cell? ⟨w.heap.size, 1, none⟩ = some (.int .i64 f.games) ∧ w'.cell? ⟨w.heap.size, 2, none⟩ = some (.bool f.noAd) ∧ w'.cell? ⟨w.heap.size, 3, none⟩ = some (.int .i64 f.tie) ∧ w'.cell? ⟨w.heap.size, 4, none⟩ = some (.int .i64 f.to) ∧ w'.cell? ⟨w.heap.size, 5, none⟩ = some (.int .i64 f.lastTie) ∧ w'.cell? ⟨w.heap.size, 6, none⟩ = some (.int .i64 f.lastTo) ∧ w'.cell? ⟨w.heap.size, 7, none⟩ = some (.int .i64 f.first) ∧ w'.cell? ⟨w.heap.size, 8, none⟩ = some (.int .i64 f.next) ∧ w'.cell? ⟨w.heap.size, 9, none⟩ = some (.bool f.doubles))) w1 := (by (try dsimp only); (first | (go_keep; done) | (go_split_ands; (repeat' apply And.intro) <;> first | (go_keep; done) | (simp [*, zcA, zcP, zfA, zfP]; done) | (simp [zcA, zcP] <;> rfl) | (simp [*, zsS, zsO, zsA]; done) | ((first | refine (hc _ _ ?_).trans ?_ | refine (hf _ _ ?_).trans ?_) <;> first | assumption | (simp; done) | (simp; omega) | omega | (go_keep; done) | (simp [*, zcA, zcP, zfA, zfP]; done) | (simp [zcA, zcP]; rfl)) | (repeat' first | exact zbR _ _ | assumption | refine zbD ?_ | refine zbA ?_ ?_ _ | refine zbS ?_ ?_ _ | refine zbT ?_ (by assumption) ?_ | (simp; done) | (simp; omega) | omega)))); (try dsimp only at hSn); (try clear hS); have hS := hSn; clear hSn hc hf) | (go_at_call 46; refine (winner_any f (M.swWon f ps g p) _).mono ?_; rintro e w2 ⟨rfl, hb⟩; obtain ⟨hc, hf⟩ := bcell hb; have hz := hb.size; (try simp at hz); have hSn : ((fun w' => Below w.heap.size w w' ∧ w.heap.size < w'.heap.size ∧ w.heap.size + 1 < w'.heap.size ∧ w'.cell? ⟨w.heap.size + 1, 0, none⟩ = some (.slice A n c) ∧ w'.cell? ⟨w.heap.size + 1, 1, none⟩ = some (.int .i64 g.A) ∧ w'.cell? ⟨w.heap.size + 1, 2, none⟩ = some (.int .i64 g.B) ∧ w'.cell? ⟨w.heap.size + 1, 3, none⟩ = some (.int .i64 p.A) ∧ w'.cell? ⟨w.heap.size + 1, 4, none⟩ = some (.int .i64 p.B) ∧ w'.cell? ⟨w.heap.size, 0, none⟩ = some (.int .i64 f.sets) ∧ w'.cell? ⟨w.heap.size, 1, none⟩ = some (.int .i64 f.games) ∧ w'.cell? ⟨w.heap.size, 2, none⟩ = some (.bool f.noAd) ∧ w'.cell? ⟨w.heap.size, 3, none⟩ = some (.int .i64 f.tie) ∧ w'.cell? ⟨w.heap.size, 4, none⟩ = some (.int .i64 f.to) ∧ w'.cell? ⟨w.heap.size, 5, none⟩ = some (.int .i64 f.lastTie) ∧ w'.cell? ⟨w.heap.size, 6, none⟩ = some (.int .i64 f.lastTo) ∧ w'.cell? ⟨w.heap.size, 7, none⟩ = some (.int .i64 f.first) ∧ w'.cell? ⟨w.heap.size, 8, none⟩ = some (.int .i64 f.next) ∧ w'.cell? ⟨w.heap.size, 9, none⟩ = some (.bool f.doubles) ∧ w'.cell? ⟨w1.heap.size, 0, none⟩ = some (.int .i64 (M.swWon f ps g p).A) ∧ w'.cell? ⟨w1.heap.size, 1, none⟩ = some (.int .i64 (M.swWon f ps g p).B) ∧ w1.heap.size < w'.heap.size)) w2 := (by (try dsimp only); (first | (go_keep; done) | (go_split_ands; (repeat' apply And.intro) <;> first | (go_keep; done) | (simp [*, zcA, zcP, zfA, zfP]; done) | (simp [zcA, zcP] <;> rfl) | (simp [*, zsS, zsO, zsA]; done) | ((first | refine (hc _ _ ?_).trans ?_ | refine (hf _ _ ?_).trans ?_) <;> first | assumption | (simp; done) | (simp; omega) | omega | (go_keep; done) | (simp [*, zcA, zcP, zfA, zfP]; done) | (simp [zcA, zcP]; rfl)) | (repeat' first | exact zbR _ _ | assumption | refine zbD ?_ | refine zbA ?_ ?_ _ | refine zbS ?_ ?_ _ | refine zbT ?_ (by assumption) ?_ | (simp; done) | (simp; omega) | omega)))); (try dsimp only at hSn); (try clear hS); have hS := hSn; clear hSn hc hf) | (go_at_call 47; refine (lfp_any f _ (.slice A n c) (M.swWon f ps g p) g p _ HVV.out hs0 hs1 HW0.out HW1.out HGB.out HPB.out A n c rfl).mono ?_; rintro e w3 ⟨rfl, hb⟩; obtain ⟨hc, hf⟩ := bcell hb; have hz := hb.size; (try simp at hz); have hSn : ((fun w' => Below w.heap.size w w')) w3 := (by (try dsimp only); (first | (go_keep; done) | (go_split_ands; (repeat' apply And.intro) <;> first | (go_keep; done) | (simp [*, zcA, zcP, zfA, zfP]; done) | (simp [zcA, zcP] <;> rfl) | (simp [*, zsS, zsO, zsA]; done) | ((first | refine (hc _ _ ?_).trans ?_ | refine (hf _ _ ?_).trans ?_) <;> first | assumption | (simp; done) | (simp; omega) | omega | (go_keep; done) | (simp [*, zcA, zcP, zfA, zfP]; done) | (simp [zcA, zcP]; rfl)) | (repeat' first | exact zbR _ _ | assumption | refine zbD ?_ | refine zbA ?_ ?_ _ | refine zbS ?_ ?_ _ | refine zbT ?_ (by assumption) ?_ | (simp; done) | (simp; omega) | omega)))); (try dsimp only at hSn); (try clear hS); have hS := hSn; clear hSn hc hf))
            go_ret2
            exact ⟨rfl, by (go_split_ands; (repeat' first | exact zbR _ _ | assumption | refine zbD ?_ | refine zbA ?_ ?_ _ | refine zbS ?_ ?_ _ | refine zbT ?_ (by assumption) ?_ | (simp; done) | (simp; omega) | omega))⟩
      · have h1 : M.leastE f ps g p side = 0 := by unfold M.leastE; rw [if_neg (fun h => h h0), if_pos hsd, if_pos (by simpa using hw1)]
        have h2 : M.leastV f ps g p side = 0 := by unfold M.leastV; rw [if_neg (fun h => h h0), if_pos hsd, if_pos (by simpa using hw1)]
        rw [h1, h2]; clear h1 h2 h0 hvv hnu hst hwon hbd hgf hpf
        go_enter Try.func20, Try.ntmps20
        rcases (show side = 0 ∨ side = 1 by omega) with e | e
        all_goals
          subst e
          go_wp2_with (first | (go_at_call 45; refine (setsWon_any f A n c ps g p _ HN.out ((HR.out.below (by (repeat' first | exact zbR _ _ | assumption | refine zbD ?_ | refine zbA ?_ ?_ _ | refine zbS ?_ ?_ _ | refine zbT ?_ (by assumption) ?_ | (simp; done) | (simp; omega) | omega))).mono (by first | (simp; done) | (simp; omega))) hm).mono ?_; rintro e w1 ⟨rfl, hb⟩; obtain ⟨hc, hf⟩ := bcell hb; have hz := hb.size; (try simp at hz); have hSn : ((fun w' => Below w.heap.size w w' ∧ w.heap.size < w'.heap.size ∧ w.heap.size + 1 < w'.heap.size ∧ w'.cell? ⟨w.heap.size + 1, 0, none⟩ = some (.slice A n c) ∧ w'.cell? ⟨w.heap.size + 1, 1, none⟩ = some (.int .i64 g.A) ∧ w'.cell? ⟨w.heap.size + 1, 2, none⟩ = some (.int .i64 g.B) ∧ w'.cell? ⟨w.heap.size + 1, 3, none⟩ = some (.int .i64 p.A) ∧ w'.cell? ⟨w.heap.size + 1, 4, none⟩ = some (.int .i64 p.B) ∧ w'.cell? ⟨w.heap.size, 0, none⟩ = some (.int .i64 f.sets) ∧ w'.cell? ⟨w.heap.size, 1, none⟩ = some (.int .i64 f.games) ∧ w'.cell? ⟨w.heap.size, 2, none⟩ = some (.bool f.noAd) ∧ w'.cell? ⟨w.heap.size, 3, none⟩ = some (.int .i64 f.tie) ∧ w'.cell? ⟨w.heap.size, 4, none⟩ = some (.int .i64 f.to) ∧ w'.cell? ⟨w.heap.size, 5, none⟩ = some (.int .i64 f.lastTie) ∧ w'.cell? ⟨w.heap.size, 6, none⟩ = some (.int .i64 f.lastTo) ∧ w'.cell? ⟨w.heap.size, 7, none⟩ = some (.int .i64 f.first) ∧ w'.cell? ⟨w.heap.size, 8, none⟩ = some (.int .i64 f.next) ∧ w'.cell? ⟨w.heap.size, 9, none⟩ = some (.bool f.doubles))) w1 := (by (try dsimp only); (first | (go_keep; done) | (go_split_ands; (repeat' apply And.intro) <;> first | (go_keep; done) | (simp [*, zcA, zcP, zfA, zfP]; done) | (simp [zcA, zcP] <;> rfl) | (simp [*, zsS, zsO, zsA]; done) | ((first | refine (hc _ _ ?_).trans ?_ | refine (hf _ _ ?_).trans ?_) <;> first | assumption | (simp; done) | (simp; omega) | omega | (go_keep; done) | (simp [*, zcA, zcP, zfA, zfP]; done) | (simp [zcA, zcP]; rfl)) | (repeat' first | exact zbR _ _ | assumption | refine zbD ?_ | refine zbA ?_ ?_ _ | refine zbS ?_ ?_ _ | refine zbT ?_ (by assumption) ?_ | (simp; done) | (simp; omega) | omega)))); (try dsimp only at hSn); (try clear hS); have hS := hSn; clear hSn hc hf) | (go_at_call 46; refine (winner_any f (M.swWon f ps g p) _).mono ?_; rintro e w2 ⟨rfl, hb⟩; obtain ⟨hc, hf⟩ := bcell hb; have hz := hb.size; (try simp at hz); have hSn : ((fun w' => Below w.heap.size w w' ∧ w.heap.size < w'.heap.size ∧ w.heap.size + 1 < w'.heap.size ∧ w'.cell? ⟨w.heap.size + 1, 0, none⟩ = some (.slice A n c) ∧ w'.cell? ⟨w.heap.size + 1, 1, none⟩ = some (.int .i64 g.A) ∧ w'.cell? ⟨w.heap.size + 1, 2, none⟩ = some (.int .i64 g.B) ∧ w'.cell? ⟨w.heap.size + 1, 3, none⟩ = some (.int .i64 p.A) ∧ w'.cell? ⟨w.heap.size + 1, 4, none⟩ = some (.int .i64 p.B) ∧ w'.cell? ⟨w.heap.size, 0, none⟩ = some (.int .i64 f.sets) ∧ w'.cell? ⟨w.heap.size, 1, none⟩ = some (.int .i64 f.games) ∧ w'.cell? ⟨w.heap.size, 2, none⟩ = some (.bool f.noAd) ∧ w'.cell? ⟨w.heap.size, 3, none⟩ = some (.int .i64 f.tie) ∧ w'.cell? ⟨w.heap.size, 4, none⟩ = some (.int .i64 f.to) ∧ w'.cell? ⟨w.heap.size, 5, none⟩ = some (.int .i64 f.lastTie) ∧ w'.cell? ⟨w.heap.size, 6, none⟩ = some (.int .i64 f.lastTo) ∧ w'.cell? ⟨w.heap.size, 7, none⟩ = some (.int .i64 f.first) ∧ w'.cell? ⟨w.heap.size, 8, none⟩ = some (.int .i64 f.next) ∧ w'.cell? ⟨w.heap.size, 9, none⟩ = some (.bool f.doubles) ∧ w'.cell? ⟨w1.heap.size, 0, none⟩ = some (.int .i64 (M.swWon f ps g p).A) ∧ w'.cell? ⟨w1.heap.size, 1, none⟩ = some (.int .i64 (M.swWon f ps g p).B) ∧ w1.heap.size < w'.heap.size)) w2 := (by (try dsimp only); (first | (go_keep; done) | (go_split_ands; (repeat' apply And.intro) <;> first | (go_keep; done) | (simp [*, zcA, zcP, zfA, zfP]; done) | (simp [zcA, zcP] <;> rfl) | (simp [*, zsS, zsO, zsA]; done) | ((first | refine (hc _ _ ?_).trans ?_ | refine (hf _ _ ?_).trans ?_) <;> first | assumption | (simp; done) | (simp; omega) | omega | (go_keep; done) | (simp [*, zcA, zcP, zfA, zfP]; done) | (simp [zcA, zcP]; rfl)) | (repeat' first | exact zbR _ _ | assumption | refine zbD ?_ | refine zbA ?_ ?_ _ | refine zbS ?_ ?_ _ | refine zbT ?_ (by assumption) ?_ | (simp; done) | (simp; omega) | omega)))); (try dsimp only at hSn); (try clear hS); have hS := hSn; clear hSn hc hf) | (go_at_call 47; refine (lfp_any f _ (.slice A n c) (M.swWon f ps g p) g p _ HVV.out hs0 hs1 HW0.out HW1.out HGB.out HPB.out A n c rfl).mono ?_; rintro e w3 ⟨rfl, hb⟩; obtain ⟨hc, hf⟩ := bcell hb; have hz := hb.size; (try simp at hz); have hSn : ((fun w' => Below w.heap.size w w')) w3 := (by (try dsimp only); (first | (go_keep; done) | (go_split_ands; (repeat' apply And.intro) <;> first | (go_keep; done) | (simp [*, zcA, zcP, zfA, zfP]; done) | (simp [zcA, zcP] <;> rfl) | (simp [*, zsS, zsO, zsA]; done) | ((first | refine (hc _ _ ?_).trans ?_ | refine (hf _ _ ?_).trans ?_) <;> first | assumption | (simp; done) | (simp; omega) | omega | (go_keep; done) | (simp [*, zcA, zcP, zfA, zfP]; done) | (simp [zcA, zcP]; rfl)) | (repeat' first | exact zbR _ _ | assumption | refine zbD ?_ | refine zbA ?_ ?_ _ | refine zbS ?_ ?_ _ | refine zbT ?_ (by assumption) ?_ | (simp; done) | (simp; omega) | omega)))); (try dsimp only at hSn); (try clear hS); have hS := hSn; clear hSn hc hf))
          go_ret2
          exact ⟨rfl, by (go_split_ands; (repeat' first | exact zbR _ _ | assumption | refine zbD ?_ | refine zbA ?_ ?_ _ | refine zbS ?_ ?_ _ | refine zbT ?_ (by assumption) ?_ | (simp; done) | (simp; omega) | omega))⟩
  · have h0 : M.swE f ps g p ≠ 0 := by simpa using hsw
    have h1 : M.leastE f ps g p side = M.swE f ps g p := if_pos h0
    have h2 : M.leastV f ps g p side = 0 := if_pos h0
    rw [h1, h2]; clear h1 h2 h0
    go_enter Try.func20, Try.ntmps20
    go_wp2_with (first | (go_at_call 45; refine (setsWon_any f A n c ps g p _ HN.out ((HR.out.below (by (repeat' first | exact zbR _ _ | assumption | refine zbD ?_ | refine zbA ?_ ?_ _ | refine zbS ?_ ?_ _ | refine zbT ?_ (by assumption) ?_ | (simp; done) | (simp; omega) | omega))).mono (by first | (simp; done) | (simp; omega))) hm).mono ?_; rintro e w1 ⟨rfl, hb⟩; obtain ⟨hc, hf⟩ := bcell hb; have hz := hb.size; (try simp at hz); have hSn : ((fun w' => Below w.heap.size w w' ∧ w.heap.size < w'.heap.size ∧ w.heap.size + 1 < w'.heap.size ∧ w'.cell? ⟨w.heap.size + 1, 0, none⟩ = some (.slice A n c) ∧ w'.cell? ⟨w.heap.size + 1, 1, none⟩ = some (.int .i64 g.A) ∧ w'.cell? ⟨w.heap.size + 1, 2, none⟩ = some (.int .i64 g.B) ∧ w'.cell? ⟨w.heap.size + 1, 3, none⟩ = some (.int .i64 p.A) ∧ w'.cell? ⟨w.heap.size + 1, 4, none⟩ = some (.int .i64 p.B) ∧ w'.cell? ⟨w.heap.size, 0, none⟩ = some (.int .i64 f.sets) ∧ w'.cell? ⟨w.heap.size, 1, none⟩ = some (.int .i64 f.games) ∧ w'.cell? ⟨w.heap.size, 2, none⟩ = some (.bool f.noAd) ∧ w'.cell? ⟨w.heap.size, 3, none⟩ = some (.int .i64 f.tie) ∧ w'.cell? ⟨w.heap.size, 4, none⟩ = some (.int .i64 f.to) ∧ w'.cell? ⟨w.heap.size, 5, none⟩ = some (.int .i64 f.lastTie) ∧ w'.cell? ⟨w.heap.size, 6, none⟩ = some (.int .i64 f.lastTo) ∧ w'.cell? ⟨w.heap.size, 7, none⟩ = some (.int .i64 f.first) ∧ w'.cell? ⟨w.heap.size, 8, none⟩ = some (.int .i64 f.next) ∧ w'.cell? ⟨w.heap.size, 9, none⟩ = some (.bool f.doubles))) w1 := (by (try dsimp only); (first | (go_keep; done) | (go_split_ands; (repeat' apply And.intro) <;> first | (go_keep; done) | (simp [*, zcA, zcP, zfA, zfP]; done) | (simp [zcA, zcP] <;> rfl) | (simp [*, zsS, zsO, zsA]; done) | ((first | refine (hc _ _ ?_).trans ?_ | refine (hf _ _ ?_).trans ?_) <;> first | assumption | (simp; done) | (simp; omega) | omega | (go_keep; done) | (simp [*, zcA, zcP, zfA, zfP]; done) | (simp [zcA, zcP]; rfl)) | (repeat' first | exact zbR _ _ | assumption | refine zbD ?_ | refine zbA ?_ ?_ _ | refine zbS ?_ ?_ _ | refine zbT ?_ (by assumption) ?_ | (simp; done) | (simp; omega) | omega)))); (try dsimp only at hSn); (try clear hS); have hS := hSn; clear hSn hc hf))
    go_ret2
    exact ⟨rfl, by (go_split_ands; (repeat' first | exact zbR _ _ | assumption | refine zbD ?_ | refine zbA ?_ ?_ _ | refine zbS ?_ ?_ _ | refine zbT ?_ (by assumption) ?_ | (simp; done) | (simp; omega) | omega))⟩

end Go.Proofs.Ytoaogpipogeamaa

namespace Go.Proofs.Ytoaogpipogeamaa
open Go.RowKit
attribute [local go_sem ↓] Go.wp_at_zero Go.wp_at_succ

theorem flatP_at : ∀ (l : List M.Pr) (k : Nat) (p : M.Pr), l[k]? = some p → (flatP l)[k * 2]? = some (.int .i64 p.A) ∧ (flatP l)[k * 2 + 1]? = some (.int .i64 p.B)
  | [], k, p, h => by simp at h
  | g :: r, 0, p, h => by
    simp only [List.getElem?_cons_zero, Option.some.injEq] at h
    subst h
    exact ⟨rfl, rfl⟩
  | g :: r, k + 1, p, h => by
    have ih := flatP_at r k p (by simpa using h)
    have e : flatP (g :: r) = .int .i64 g.A :: .int .i64 g.B :: flatP r := rfl
    have e1 : (k + 1) * 2 = k * 2 + 1 + 1 := by omega
    rw [e, e1]
    simpa using ih
theorem owns_RdP {w : World} {base : Nat} {A : Option Addr} {n c : Nat} {ps : List M.Pr} (h : w.ownsRow base 32 2 (.slice A n c) n (flatP ps)) (hn : ps.length = n) : RdP w w.heap.size A ps := by
  intro k p hk
  have hkl : k < n := by rw [← hn]; exact (List.getElem?_eq_some_iff.1 hk).1
  obtain ⟨g, cap, e, hbg, hh⟩ := h.form (by omega)
  have e' : A = some ⟨g, 0, none⟩ ∧ c = cap := by
    simp only [Value.slice.injEq] at e
    exact ⟨e.1, e.2.2⟩
  obtain ⟨rfl, rfl⟩ := e'
  obtain ⟨h0, h1⟩ := flatP_at ps k p hk
  refine ⟨g, 0, rfl, ?_, ?_, ?_⟩
  · exact (h.lt g rfl).2
  · rw [Nat.zero_add, h.cellAt (k * 2) (by omega)]; exact h0
  · rw [Nat.zero_add, h.cellAt (k * 2 + 1) (by omega)]; exact h1

theorem Play_ex (A : Option Addr) (w : World) (hr : RdI w w.heap.size A M.exP) :
    Calls Try.prog 13 #[.agg #[.int .i64 2, .int .i64 2, .bool false, .int .i64 2, .int .i64 3, .int .i64 0, .int .i64 4, .int .i64 2, .int .i64 2, .bool false], .int .i64 0, .slice A 20 20] w fun e w' => ∃ A' c', e = .returned (.tuple #[.agg #[.slice A' 1 c', .int .i64 0, .int .i64 1, .int .i64 0, .int .i64 0, .int .i64 1, .int .i64 3, .int .i64 2, .int .i64 (-1)], .int .i64 0]) ∧ RdP w' w'.heap.size A' [⟨3, 1⟩] ∧ Below w.heap.size w w' := by
  refine (Play_any M.exF 0 A 20 20 M.exP w rfl hr (by omega)).mono ?_
  rintro e w' ⟨sv, rfl, hsv, hb⟩
  obtain ⟨A', c', rfl⟩ := own_form hsv
  have hp := M.ex_playM
  obtain ⟨f1, f2, f3, f4, f5, f6, f7⟩ := M.ex_facts
  rw [hp, f5] at hsv
  have hsv' : w'.ownsRow w.heap.size 32 2 (.slice A' 1 c') 1 (flatP [⟨3, 1⟩]) := hsv
  refine ⟨A', c', ?_, owns_RdP hsv' rfl, hb⟩
  rw [hp, M.ex_playE, f1, f2, f3, f4, f5, f6, f7]
  rfl
theorem Ways_ex (A : Option Addr) (w : World) (hr : RdP w w.heap.size A [⟨2, 3⟩]) :
    Calls Try.prog 32 #[.agg #[.int .i64 2, .int .i64 2, .bool false, .int .i64 2, .int .i64 3, .int .i64 0, .int .i64 4, .int .i64 2, .int .i64 2, .bool false], .slice A 1 1] w fun e w' => e = .returned (.tuple #[.int .i64 4, .int .i64 0]) ∧ Below w.heap.size w w' := by
  refine (Ways_any M.exF A 1 1 [⟨2, 3⟩] w rfl hr (by omega)).mono ?_
  rintro e w' ⟨rfl, hb⟩
  rw [M.ex_ways.1, M.ex_ways.2]
  exact ⟨rfl, hb⟩
theorem Least_ex (w : World) :
    Calls Try.prog 20 #[.agg #[.int .i64 2, .int .i64 2, .bool false, .int .i64 2, .int .i64 3, .int .i64 0, .int .i64 4, .int .i64 2, .int .i64 2, .bool false], .agg #[.slice none 0 0, .int .i64 0, .int .i64 0, .int .i64 0, .int .i64 0], .int .i64 0] w fun e w' => e = .returned (.tuple #[.int .i64 16, .int .i64 0]) ∧ Below w.heap.size w w' := by
  refine (Least_any M.exF none 0 0 [] M.zero M.zero 0 w rfl (RdP.nil _ _ _) (by omega)).mono ?_
  rintro e w' ⟨rfl, hb⟩
  rw [M.ex_least.1, M.ex_least.2]
  exact ⟨rfl, hb⟩
theorem sameBoard_ex (A1 A2 : Option Addr) (c1 c2 : Nat) (w : World) (h1 : RdP w w.heap.size A1 [⟨3, 1⟩]) (h2 : RdP w w.heap.size A2 [⟨3, 1⟩]) :
    Calls Try.prog 22 #[.agg #[.slice A1 1 c1, .int .i64 0, .int .i64 1, .int .i64 0, .int .i64 0], .agg #[.slice A2 1 c2, .int .i64 0, .int .i64 1, .int .i64 0, .int .i64 0]] w fun e w' => e = .returned (.bool true) ∧ Below w.heap.size w w' := by
  exact sameBoard_any A1 A2 1 1 c1 c2 [⟨3, 1⟩] [⟨3, 1⟩] ⟨0, 1⟩ ⟨0, 1⟩ ⟨0, 0⟩ ⟨0, 0⟩ w rfl rfl h1 h2 (by omega) (by omega)

theorem RdP_new (w : World) (p : M.Pr) (t : TypeId) : RdP (w.alloc (.cells #[.int .i64 p.A, .int .i64 p.B] t (0, 0))) (w.alloc (.cells #[.int .i64 p.A, .int .i64 p.B] t (0, 0))).heap.size (some ⟨w.heap.size, 0, none⟩) [p] := by
  intro k q hk
  have hk0 : k = 0 := by have := (List.getElem?_eq_some_iff.1 hk).1; simp at this; exact this
  subst hk0
  simp only [List.getElem?_cons_zero, Option.some.injEq] at hk
  subst hk
  exact ⟨w.heap.size, 0, rfl, by simp, (alloc_cell w _ rfl _ _ _).trans rfl, (alloc_cell w _ rfl _ _ _).trans rfl⟩

set_option maxHeartbeats 4000000 in
set_option maxRecDepth 100000 in
theorem works_any (w : World) : Calls Try.prog 10 #[] w fun e w' => e = .returned (.bool true) ∧ Below w.heap.size w w' := by
  go_enter Try.func10, Try.ntmps10
  go_upto_region 2 with (first | (go_at_call 34; refine (Example_any _).mono ?_; rintro e w1 ⟨A, rfl, hrd, hb1⟩; have HR1 := hide hrd; have HB1 := hide hb1; clear hrd hb1))
  have h23 : (w1.alloc (.cells #[.int .i64 2, .int .i64 2, .bool false, .int .i64 2, .int .i64 3, .int .i64 0, .int .i64 4, .int .i64 2, .int .i64 2, .bool false] 23 (0, 0))).heap[w1.heap.size]? = some (.cells #[.int .i64 2, .int .i64 2, .bool false, .int .i64 2, .int .i64 3, .int .i64 0, .int .i64 4, .int .i64 2, .int .i64 2, .bool false] 23 (0, 0)) := heap_alloc_new _ _
  have HR2 := hide ((HR1.out.below (Below.alloc (Below.refl _ _) (Nat.le_refl _) (.cells #[.int .i64 2, .int .i64 2, .bool false, .int .i64 2, .int .i64 3, .int .i64 0, .int .i64 4, .int .i64 2, .int .i64 2, .bool false] 23 (0, 0)))).mono (B' := (w1.alloc (.cells #[.int .i64 2, .int .i64 2, .bool false, .int .i64 2, .int .i64 3, .int .i64 0, .int .i64 4, .int .i64 2, .int .i64 2, .bool false] 23 (0, 0))).heap.size) (by simp))
  have HB2 := hide (Below.alloc HB1.out HB1.out.size (.cells #[.int .i64 2, .int .i64 2, .bool false, .int .i64 2, .int .i64 3, .int .i64 0, .int .i64 4, .int .i64 2, .int .i64 2, .bool false] 23 (0, 0)))
  have hq1 : w1.heap.size < (w1.alloc (.cells #[.int .i64 2, .int .i64 2, .bool false, .int .i64 2, .int .i64 3, .int .i64 0, .int .i64 4, .int .i64 2, .int .i64 2, .bool false] 23 (0, 0))).heap.size := by simp
  clear HR1 HB1
  generalize (w1.alloc (.cells #[.int .i64 2, .int .i64 2, .bool false, .int .i64 2, .int .i64 3, .int .i64 0, .int .i64 4, .int .i64 2, .int .i64 2, .bool false] 23 (0, 0))) = w2 at h23 HR2 HB2 hq1 ⊢
  generalize w1.heap.size = q1 at h23 hq1 ⊢
  have H23 := hide h23
  have hcc := fun i => cell_of_row w2 q1 i _ _ _ h23
  clear h23
  go_upto_region 3 with (first | (go_at_call 13; refine (Play_ex A _ HR2.out).mono ?_; rintro e w3 ⟨A', c', rfl, hrd, hb⟩; have HR3 := hide hrd; have HB3 := hide hb; clear hrd hb))
  have h36 : (w3.alloc (.cells #[.slice A' 1 c', .int .i64 0, .int .i64 1, .int .i64 0, .int .i64 0, .int .i64 1, .int .i64 3, .int .i64 2, .int .i64 (-1)] 36 (0, 0))).heap[w3.heap.size]? = some (.cells #[.slice A' 1 c', .int .i64 0, .int .i64 1, .int .i64 0, .int .i64 0, .int .i64 1, .int .i64 3, .int .i64 2, .int .i64 (-1)] 36 (0, 0)) := heap_alloc_new _ _
  have hz3 := HB3.out.size
  have h23 : (w3.alloc (.cells #[.slice A' 1 c', .int .i64 0, .int .i64 1, .int .i64 0, .int .i64 0, .int .i64 1, .int .i64 3, .int .i64 2, .int .i64 (-1)] 36 (0, 0))).heap[q1]? = some (.cells #[.int .i64 2, .int .i64 2, .bool false, .int .i64 2, .int .i64 3, .int .i64 0, .int .i64 4, .int .i64 2, .int .i64 2, .bool false] 23 (0, 0)) := (heap_alloc_old _ _ (by omega)).trans ((HB3.out.block q1 hq1).trans H23.out)
  have HR4 := hide ((HR3.out.below (Below.alloc (Below.refl _ _) (Nat.le_refl _) (.cells #[.slice A' 1 c', .int .i64 0, .int .i64 1, .int .i64 0, .int .i64 0, .int .i64 1, .int .i64 3, .int .i64 2, .int .i64 (-1)] 36 (0, 0)))).mono (B' := (w3.alloc (.cells #[.slice A' 1 c', .int .i64 0, .int .i64 1, .int .i64 0, .int .i64 0, .int .i64 1, .int .i64 3, .int .i64 2, .int .i64 (-1)] 36 (0, 0))).heap.size) (by simp))
  have HB4 := hide (Below.alloc (HB2.out.trans (HB3.out.mono HB2.out.size)) (Nat.le_trans HB2.out.size hz3) (.cells #[.slice A' 1 c', .int .i64 0, .int .i64 1, .int .i64 0, .int .i64 0, .int .i64 1, .int .i64 3, .int .i64 2, .int .i64 (-1)] 36 (0, 0)))
  have hq3 : w3.heap.size < (w3.alloc (.cells #[.slice A' 1 c', .int .i64 0, .int .i64 1, .int .i64 0, .int .i64 0, .int .i64 1, .int .i64 3, .int .i64 2, .int .i64 (-1)] 36 (0, 0))).heap.size := by simp
  have hq13 : q1 < w3.heap.size := by omega
  clear HR2 HB2 HR3 HB3 H23 hcc hq1 hz3
  generalize (w3.alloc (.cells #[.slice A' 1 c', .int .i64 0, .int .i64 1, .int .i64 0, .int .i64 0, .int .i64 1, .int .i64 3, .int .i64 2, .int .i64 (-1)] 36 (0, 0))) = w4 at h23 h36 HR4 HB4 hq3 ⊢
  generalize w3.heap.size = q3 at h36 hq3 hq13 ⊢
  have H23 := hide h23
  have H36 := hide h36
  have hcc := fun i => cell_of_row w4 q1 i _ _ _ h23
  clear h23 h36 w1 w2 w3
  go_upto_region 4 with (first | (go_at_call 32; refine (Ways_ex _ _ (RdP_new w4 ⟨2, 3⟩ 32)).mono ?_; rintro e w5 ⟨rfl, hb⟩; have HB5 := hide (show Below w4.heap.size w4 w5 from (Below.alloc (Below.refl _ _) (Nat.le_refl _) _).trans (hb.mono (by simp))); clear hb))
  have hz5 := HB5.out.size
  have h23 : w5.heap[q1]? = some (.cells #[.int .i64 2, .int .i64 2, .bool false, .int .i64 2, .int .i64 3, .int .i64 0, .int .i64 4, .int .i64 2, .int .i64 2, .bool false] 23 (0, 0)) := (HB5.out.block q1 (by omega)).trans H23.out
  have h36 : w5.heap[q3]? = some (.cells #[.slice A' 1 c', .int .i64 0, .int .i64 1, .int .i64 0, .int .i64 0, .int .i64 1, .int .i64 3, .int .i64 2, .int .i64 (-1)] 36 (0, 0)) := (HB5.out.block q3 hq3).trans H36.out
  have HR5 := hide ((HR4.out.below HB5.out).mono hz5)
  have HB5' := hide (HB4.out.trans (HB5.out.mono HB4.out.size))
  clear HR4 HB4 HB5 H23 H36 hcc
  have H36 := hide h36
  have hcc := fun i => cell_of_row w5 q1 i _ _ _ h23
  clear h23 h36
  go_upto_region 5 with (first | (go_at_call 20; refine (Least_ex _).mono ?_; rintro e w6 ⟨rfl, hb⟩; have HB6 := hide hb; clear hb))
  have hz6 := HB6.out.size
  have h36 : w6.heap[q3]? = some (.cells #[.slice A' 1 c', .int .i64 0, .int .i64 1, .int .i64 0, .int .i64 0, .int .i64 1, .int .i64 3, .int .i64 2, .int .i64 (-1)] 36 (0, 0)) := (HB6.out.block q3 (by omega)).trans H36.out
  have HR6 := hide ((HR5.out.below HB6.out).mono hz6)
  have HB7 := hide (HB5'.out.trans (HB6.out.mono HB5'.out.size))
  clear HR5 HB5' HB6 H36 hcc
  have hcc := fun i => cell_of_row w6 q3 i _ _ _ h36
  clear h36
  go_wp2_with (first | (go_at_call 22; refine (sameBoard_ex _ _ _ _ _ ((HR6.out.below (Below.alloc (Below.refl _ _) (Nat.le_refl _) _)).mono (by simp)) (RdP_new w6 ⟨3, 1⟩ 32)).mono ?_; rintro e w8 ⟨rfl, hb⟩; have HB8 := hide (show Below w6.heap.size w6 w8 from (Below.alloc (Below.refl _ _) (Nat.le_refl _) _).trans (hb.mono (by simp))); clear hb))
  go_ret
  exact ⟨rfl, HB7.out.trans (HB8.out.mono HB7.out.size)⟩

end Go.Proofs.Ytoaogpipogeamaa

namespace Go.Proofs.Ytoaogpipogeamaa
open Go.RowKit

namespace M
def rfresh (m : Mt) : Bool := (dueB m.f.first m.f.next m.log.length && !rtied m.f m.sets m.games) || (decide (2 ≤ m.log.length) && dueB m.f.first m.f.next ((m.log.length : Int) - 2) && tieAt m.log (m.log.length - 2))
def rbegin (m : Mt) : Mt := { m with fresh := rfresh m, balls := if rfresh m then m.balls + 1 else m.balls }
end M

structure RAt (w : World) (base : Nat) (m : M.Mt) (sv gv : Value) : Prop where
  s : w.ownsRow base 32 2 sv m.sets.length (flatP m.sets)
  g : w.ownsRow base 44 7 gv m.log.length (flatG m.log)
theorem RAt.below {w w' : World} {base : Nat} {m : M.Mt} {sv gv : Value} (h : RAt w base m sv gv) (hb : Below w.heap.size w w') : RAt w' base m sv gv :=
  have hg : w.grownBy w' none := ⟨hb.os, hb.tape, hb.output, hb.size, fun i hi _ => hb.block i hi⟩
  ⟨h.s.kept hg (by cases sv.ownBlock <;> simp), h.g.kept hg (by cases gv.ownBlock <;> simp)⟩
theorem matchRow75 : (Try.prog.info? 79).map (·.size) = some 12 := by kernel_rfl
theorem results_row1 {P : Program} {fn : Func} {p : Tmp} {ty : TypeId} (h : fn.results = #[.cell p ty]) (tmps : Array Value) (w : World) (g : Nat) (t0 : TypeId) (cs : Array Value) (fr : Nat × Nat) (d : TypeDesc)
    (hp : tmps.getD p undef = .pointer (some ⟨g, 0, none⟩)) (hg : w.heap[g]? = some (.cells cs t0 fr))
    (hu : P.underlying ty = some d) (hd : (match d with | .struct _ | .array _ _ => true | _ => false) = true) (hi : (P.info? ty).map (·.size) = some cs.size) :
    (results fn tmps).run P w = .ok (.agg cs) w := by
  have hp' : tmps[p]?.getD undef = .pointer (some ⟨g, 0, none⟩) := by simpa using hp
  simp [results, h, hp', asAddr, run_loadVar_row w g t0 ty cs fr d hg hu hd hi]
theorem heap3_1 (w : World) (A B C : Obj) : (((w.alloc A).alloc B).alloc C).heap[w.heap.size + 1]? = some B := by
  have h : ((w.alloc A).alloc B).heap[w.heap.size + 1]? = some B := heap_alloc2_new w A B
  exact (heap_alloc_old _ _ (by show w.heap.size + 1 < ((w.heap.push A).push B).size; simp)).trans h
theorem RAt.rd {w : World} {base ns : Nat} {m : M.Mt} {A : Option Addr} {c : Nat} {gv : Value} (h : RAt w base m (.slice A ns c) gv) (hns : m.sets.length = ns) : RdP w w.heap.size A m.sets := by
  subst hns
  exact owns_RdP h.s rfl
theorem RAt.tie {w : World} {base n : Nat} {m : M.Mt} {g c2 : Nat} {sv : Value} (h : RAt w base m sv (.slice (some ⟨g, 0, none⟩) n c2)) (hn : m.log.length = n) (h2 : 2 ≤ n) : w.cell? ⟨g, (n - 2) * 7 + 1, none⟩ = some (.bool (M.tieAt m.log (n - 2))) := by
  subst hn
  exact (h.g.cellAt _ (by omega)).trans (flatG_tie m.log _ (by omega))
theorem RAt.form {w : World} {base n : Nat} {m : M.Mt} {A2 : Option Addr} {c2 : Nat} {sv : Value} (h : RAt w base m sv (.slice A2 n c2)) (hn : m.log.length = n) (h2 : 0 < n) : ∃ g, A2 = some ⟨g, 0, none⟩ := by
  subst hn
  obtain ⟨g, cap, e, _⟩ := h.g.form h2
  simp only [Value.slice.injEq] at e
  exact ⟨g, e.1⟩

set_option maxHeartbeats 16000000 in
set_option maxRecDepth 100000 in
theorem refbegin_few {w : World} {base : Nat} {m : M.Mt} {A : Option Addr} {ns n c c2 : Nat} {A2 : Option Addr} (h2 : n < 2) (h : RAt w base m (.slice A ns c) (.slice A2 n c2)) (hn' : m.log.length = n) (hns : m.sets.length = ns) (hv : M.Valid m.f) (hn : n ≤ 900) (hs : ns ≤ 900) (hbal : 0 ≤ m.balls ∧ m.balls ≤ 10000) :
    Calls Try.prog 80 #[.agg #[.int .i64 (m.f).sets, .int .i64 (m.f).games, .bool (m.f).noAd, .int .i64 (m.f).tie, .int .i64 (m.f).to, .int .i64 (m.f).lastTie, .int .i64 (m.f).lastTo, .int .i64 (m.f).first, .int .i64 (m.f).next, .bool (m.f).doubles], .agg #[.slice A ns c, .int .i64 m.games.A, .int .i64 m.games.B, .int .i64 m.pts.A, .int .i64 m.pts.B, .int .i64 m.server, .int .i64 m.ends, .int .i64 m.balls, .int .i64 m.winner, .int .i64 m.opens, .slice A2 n c2, .bool m.fresh]] w fun e w' => e = .returned (.agg #[.slice A ns c, .int .i64 (M.rbegin m).games.A, .int .i64 (M.rbegin m).games.B, .int .i64 (M.rbegin m).pts.A, .int .i64 (M.rbegin m).pts.B, .int .i64 (M.rbegin m).server, .int .i64 (M.rbegin m).ends, .int .i64 (M.rbegin m).balls, .int .i64 (M.rbegin m).winner, .int .i64 (M.rbegin m).opens, .slice A2 n c2, .bool (M.rbegin m).fresh]) ∧ Below w.heap.size w w' := by
  have H := hide h
  have HN := hide hn'
  have HNS := hide hns
  have HV := hide hv
  have hf0 := hv.f0
  have hf1 := hv.f1
  have hn0 := hv.n0
  have hn1 := hv.n1
  obtain ⟨hb0, hb1⟩ := hbal
  clear h hv hn' hns
  go_enter Try.func80, Try.ntmps80
  go_upto_region 3 with (first | (go_at_call 50; refine (refTied_any m.f A ns c m.sets m.games m.pts _ HV.out HNS.out ((H.out.below (Below.alloc (Below.alloc (Below.alloc (Below.refl _ _) (Nat.le_refl _) _) (by simp) _) (by simp; omega) _)).rd HNS.out) (by omega)).mono ?_; rintro e w1 ⟨rfl, hb1'⟩; have hx0 := (hb1'.block w.heap.size (by simp; omega)).trans (heap3_0 w _ _ _); have hx1 := (hb1'.block (w.heap.size + 1) (by simp)).trans (heap3_1 w _ _ _); have hx2 := (hb1'.block (w.heap.size + 1 + 1) (by simp)).trans (heap3_2 w _ _ _); have HB1 := hide (show Below w.heap.size w w1 from Below.trans (by (repeat' first | exact zbR _ _ | assumption | refine zbD ?_ | refine zbA ?_ ?_ _ | refine zbS ?_ ?_ _ | refine zbT ?_ (by assumption) ?_ | (simp; done) | (simp; omega) | omega)) (hb1'.mono (by simp; omega))); have hq1 : w.heap.size + 1 + 1 < w1.heap.size := (by have := hb1'.size; simp at this; omega); clear hb1'))
  have hc0 := fun i => cell_of_row w1 w.heap.size i _ _ _ hx0
  have hc1 := fun i => cell_of_row w1 (w.heap.size + 1) i _ _ _ hx1
  have hfz := fun i => frozen_of_row w1 (w.heap.size + 1) i _ _ hx1
  have HR1 := hide (H.out.below HB1.out)
  clear H
  cases hti : M.rtied m.f m.sets m.games
  all_goals
    cases hd1 : M.dueB m.f.first m.f.next (n : Int)
    all_goals
      have h2' : ¬ (2 : Int) ≤ (n : Int) := by omega
      first
        | (have ho : M.rfresh m = true := by (unfold M.rfresh; rw [HN.out, hti, hd1]; rfl)
           have HO := hide ho
           clear ho
           go_upto_region 6 with (first | (go_at_call 86; refine (refDue_any m.f _ _ hf0 hf1 hn0 hn1 (by omega) (by omega)).mono ?_; rintro e w2 ⟨rfl, hb⟩; have hx0 := (hb.block w.heap.size (by omega)).trans hx0; have hx1 := (hb.block (w.heap.size + 1) (by omega)).trans hx1; have hx2 := (hb.block (w.heap.size + 1 + 1) (by omega)).trans hx2; have HB1 := hide (HB1.out.trans (hb.mono HB1.out.size)); have hq1 : w.heap.size + 1 + 1 < w2.heap.size := Nat.lt_of_lt_of_le hq1 hb.size; have hc0 := fun i => cell_of_row w2 w.heap.size i _ _ _ hx0; have hc1 := fun i => cell_of_row w2 (w.heap.size + 1) i _ _ _ hx1; have hfz := fun i => frozen_of_row w2 (w.heap.size + 1) i _ _ hx1; have HR1 := hide (HR1.out.below hb); clear hb))
           have hy1 : (_ : Option Obj) = some (.cells #[.slice A ns c, .int .i64 m.games.A, .int .i64 m.games.B, .int .i64 m.pts.A, .int .i64 m.pts.B, .int .i64 m.server, .int .i64 m.ends, .int .i64 (m.balls + 1), .int .i64 m.winner, .int .i64 m.opens, .slice A2 n c2, .bool true] 79 (0, 0)) := blk_set (blk_set hx1 11 (.bool true)) 7 (.int .i64 (m.balls + 1))
           have hy2 := (heap_setCell_other _ ⟨w.heap.size + 1, 7, none⟩ (w.heap.size + 1 + 1) (.int .i64 (m.balls + 1)) (by simp)).trans ((heap_setCell_other _ ⟨w.heap.size + 1, 11, none⟩ (w.heap.size + 1 + 1) (.bool true) (by simp)).trans hx2)
           have HBy := hide ((HB1.out.setCell (p := ⟨w.heap.size + 1, 11, none⟩) (by simp) (.bool true)).setCell (p := ⟨w.heap.size + 1, 7, none⟩) (by simp) (.int .i64 (m.balls + 1)))
           have HY1 := hide hy1
           have HY2 := hide hy2
           clear hx0 hx1 hx2 hy1 hy2 hc0 hc1 hfz
           go_wp2_with (first | (refine wpList_load_row rfl 79 _ rfl (w.heap.size + 1) rfl 79 _ (0, 0) _ HY1.out Try.underlying79 rfl matchRow75 ?_) | (refine wpList_store_row rfl 79 _ _ rfl (w.heap.size + 1 + 1) _ rfl rfl 79 _ HY2.out matchRow75 rfl (by simp [Value.oneCell']) ?_))
           refine bodyPost_ret (results_row1 Try.results80 _ _ (w.heap.size + 1 + 1) _ _ _ _ rfl (setRow_heap _ _ _ _ _ _ HY2.out) Try.underlying79 rfl matchRow75) rfl ⟨by simp only [M.rbegin, HO.out]; rfl, ?_⟩
           exact ⟨HBy.out.os, HBy.out.tape, HBy.out.output, by simp only [size_setRow]; exact HBy.out.size, fun i hi => (setRow_other _ _ i _ (by omega)).trans (HBy.out.block i hi)⟩)
        | (have ho : M.rfresh m = false := by (unfold M.rfresh; rw [HN.out, hti, hd1, decide_eq_false (show ¬ 2 ≤ n by omega)]; rfl)
           have HO := hide ho
           clear ho
           go_upto_region 6 with (first | (go_at_call 86; refine (refDue_any m.f _ _ hf0 hf1 hn0 hn1 (by omega) (by omega)).mono ?_; rintro e w2 ⟨rfl, hb⟩; have hx0 := (hb.block w.heap.size (by omega)).trans hx0; have hx1 := (hb.block (w.heap.size + 1) (by omega)).trans hx1; have hx2 := (hb.block (w.heap.size + 1 + 1) (by omega)).trans hx2; have HB1 := hide (HB1.out.trans (hb.mono HB1.out.size)); have hq1 : w.heap.size + 1 + 1 < w2.heap.size := Nat.lt_of_lt_of_le hq1 hb.size; have hc0 := fun i => cell_of_row w2 w.heap.size i _ _ _ hx0; have hc1 := fun i => cell_of_row w2 (w.heap.size + 1) i _ _ _ hx1; have hfz := fun i => frozen_of_row w2 (w.heap.size + 1) i _ _ hx1; have HR1 := hide (HR1.out.below hb); clear hb))
           have hy1 : (_ : Option Obj) = some (.cells #[.slice A ns c, .int .i64 m.games.A, .int .i64 m.games.B, .int .i64 m.pts.A, .int .i64 m.pts.B, .int .i64 m.server, .int .i64 m.ends, .int .i64 m.balls, .int .i64 m.winner, .int .i64 m.opens, .slice A2 n c2, .bool false] 79 (0, 0)) := blk_set hx1 11 (.bool false)
           have hy2 := (heap_setCell_other _ ⟨w.heap.size + 1, 11, none⟩ (w.heap.size + 1 + 1) (.bool false) (by simp)).trans hx2
           have HBy := hide (HB1.out.setCell (p := ⟨w.heap.size + 1, 11, none⟩) (by simp) (.bool false))
           have HY1 := hide hy1
           have HY2 := hide hy2
           clear hx0 hx1 hx2 hy1 hy2 hc0 hc1 hfz
           go_wp2_with (first | (refine wpList_load_row rfl 79 _ rfl (w.heap.size + 1) rfl 79 _ (0, 0) _ HY1.out Try.underlying79 rfl matchRow75 ?_) | (refine wpList_store_row rfl 79 _ _ rfl (w.heap.size + 1 + 1) _ rfl rfl 79 _ HY2.out matchRow75 rfl (by simp [Value.oneCell']) ?_))
           refine bodyPost_ret (results_row1 Try.results80 _ _ (w.heap.size + 1 + 1) _ _ _ _ rfl (setRow_heap _ _ _ _ _ _ HY2.out) Try.underlying79 rfl matchRow75) rfl ⟨by simp only [M.rbegin, HO.out]; rfl, ?_⟩
           exact ⟨HBy.out.os, HBy.out.tape, HBy.out.output, by simp only [size_setRow]; exact HBy.out.size, fun i hi => (setRow_other _ _ i _ (by omega)).trans (HBy.out.block i hi)⟩)

set_option maxHeartbeats 16000000 in
set_option maxRecDepth 100000 in
theorem refbegin_many {w : World} {base : Nat} {m : M.Mt} {A : Option Addr} {ns n c c2 : Nat} {g : Nat} (h2 : 2 ≤ n) (h : RAt w base m (.slice A ns c) (.slice (some ⟨g, 0, none⟩) n c2)) (hn' : m.log.length = n) (hns : m.sets.length = ns) (hv : M.Valid m.f) (hn : n ≤ 900) (hs : ns ≤ 900) (hbal : 0 ≤ m.balls ∧ m.balls ≤ 10000) :
    Calls Try.prog 80 #[.agg #[.int .i64 (m.f).sets, .int .i64 (m.f).games, .bool (m.f).noAd, .int .i64 (m.f).tie, .int .i64 (m.f).to, .int .i64 (m.f).lastTie, .int .i64 (m.f).lastTo, .int .i64 (m.f).first, .int .i64 (m.f).next, .bool (m.f).doubles], .agg #[.slice A ns c, .int .i64 m.games.A, .int .i64 m.games.B, .int .i64 m.pts.A, .int .i64 m.pts.B, .int .i64 m.server, .int .i64 m.ends, .int .i64 m.balls, .int .i64 m.winner, .int .i64 m.opens, .slice (some ⟨g, 0, none⟩) n c2, .bool m.fresh]] w fun e w' => e = .returned (.agg #[.slice A ns c, .int .i64 (M.rbegin m).games.A, .int .i64 (M.rbegin m).games.B, .int .i64 (M.rbegin m).pts.A, .int .i64 (M.rbegin m).pts.B, .int .i64 (M.rbegin m).server, .int .i64 (M.rbegin m).ends, .int .i64 (M.rbegin m).balls, .int .i64 (M.rbegin m).winner, .int .i64 (M.rbegin m).opens, .slice (some ⟨g, 0, none⟩) n c2, .bool (M.rbegin m).fresh]) ∧ Below w.heap.size w w' := by
  have H := hide h
  have HN := hide hn'
  have HNS := hide hns
  have HV := hide hv
  have hf0 := hv.f0
  have hf1 := hv.f1
  have hn0 := hv.n0
  have hn1 := hv.n1
  obtain ⟨hb0, hb1⟩ := hbal
  clear h hv hn' hns
  go_enter Try.func80, Try.ntmps80
  go_upto_region 3 with (first | (go_at_call 50; refine (refTied_any m.f A ns c m.sets m.games m.pts _ HV.out HNS.out ((H.out.below (Below.alloc (Below.alloc (Below.alloc (Below.refl _ _) (Nat.le_refl _) _) (by simp) _) (by simp; omega) _)).rd HNS.out) (by omega)).mono ?_; rintro e w1 ⟨rfl, hb1'⟩; have hx0 := (hb1'.block w.heap.size (by simp; omega)).trans (heap3_0 w _ _ _); have hx1 := (hb1'.block (w.heap.size + 1) (by simp)).trans (heap3_1 w _ _ _); have hx2 := (hb1'.block (w.heap.size + 1 + 1) (by simp)).trans (heap3_2 w _ _ _); have HB1 := hide (show Below w.heap.size w w1 from Below.trans (by (repeat' first | exact zbR _ _ | assumption | refine zbD ?_ | refine zbA ?_ ?_ _ | refine zbS ?_ ?_ _ | refine zbT ?_ (by assumption) ?_ | (simp; done) | (simp; omega) | omega)) (hb1'.mono (by simp; omega))); have hq1 : w.heap.size + 1 + 1 < w1.heap.size := (by have := hb1'.size; simp at this; omega); clear hb1'))
  have hc0 := fun i => cell_of_row w1 w.heap.size i _ _ _ hx0
  have hc1 := fun i => cell_of_row w1 (w.heap.size + 1) i _ _ _ hx1
  have hfz := fun i => frozen_of_row w1 (w.heap.size + 1) i _ _ hx1
  have HR1 := hide (H.out.below HB1.out)
  clear H
  have hct := HR1.out.tie HN.out h2
  have h2' : (2 : Int) ≤ (n : Int) := by omega
  have hd2' : ((n : Int) - 2).toNat = n - 2 := by omega
  cases hti : M.rtied m.f m.sets m.games
  all_goals
    cases hd1 : M.dueB m.f.first m.f.next (n : Int)
    all_goals
      cases hd2 : M.dueB m.f.first m.f.next ((n : Int) - 2)
      all_goals
        cases ht2 : M.tieAt m.log (n - 2)
        all_goals
          have HCT := hide hct
          clear hct
          have hct := HCT.out
          rw [ht2] at hct
          clear HCT
          first
            | (have ho : M.rfresh m = true := by (unfold M.rfresh; rw [HN.out, hti, hd1, hd2, ht2, decide_eq_true h2]; rfl)
               have HO := hide ho
               clear ho
               go_upto_region 6 with (first | (go_at_call 86; refine (refDue_any m.f _ _ hf0 hf1 hn0 hn1 (by omega) (by omega)).mono ?_; rintro e w2 ⟨rfl, hb⟩; have hx0 := (hb.block w.heap.size (by omega)).trans hx0; have hx1 := (hb.block (w.heap.size + 1) (by omega)).trans hx1; have hx2 := (hb.block (w.heap.size + 1 + 1) (by omega)).trans hx2; have HB1 := hide (HB1.out.trans (hb.mono HB1.out.size)); have hq1 : w.heap.size + 1 + 1 < w2.heap.size := Nat.lt_of_lt_of_le hq1 hb.size; have hc0 := fun i => cell_of_row w2 w.heap.size i _ _ _ hx0; have hc1 := fun i => cell_of_row w2 (w.heap.size + 1) i _ _ _ hx1; have hfz := fun i => frozen_of_row w2 (w.heap.size + 1) i _ _ hx1; have HR1 := hide (HR1.out.below hb); have hct := HR1.out.tie HN.out h2; rw [ht2] at hct; clear hb))
               have hy1 : (_ : Option Obj) = some (.cells #[.slice A ns c, .int .i64 m.games.A, .int .i64 m.games.B, .int .i64 m.pts.A, .int .i64 m.pts.B, .int .i64 m.server, .int .i64 m.ends, .int .i64 (m.balls + 1), .int .i64 m.winner, .int .i64 m.opens, .slice (some ⟨g, 0, none⟩) n c2, .bool true] 79 (0, 0)) := blk_set (blk_set hx1 11 (.bool true)) 7 (.int .i64 (m.balls + 1))
               have hy2 := (heap_setCell_other _ ⟨w.heap.size + 1, 7, none⟩ (w.heap.size + 1 + 1) (.int .i64 (m.balls + 1)) (by simp)).trans ((heap_setCell_other _ ⟨w.heap.size + 1, 11, none⟩ (w.heap.size + 1 + 1) (.bool true) (by simp)).trans hx2)
               have HBy := hide ((HB1.out.setCell (p := ⟨w.heap.size + 1, 11, none⟩) (by simp) (.bool true)).setCell (p := ⟨w.heap.size + 1, 7, none⟩) (by simp) (.int .i64 (m.balls + 1)))
               have HY1 := hide hy1
               have HY2 := hide hy2
               clear hx0 hx1 hx2 hy1 hy2 hc0 hc1 hfz
               go_wp2_with (first | (refine wpList_load_row rfl 79 _ rfl (w.heap.size + 1) rfl 79 _ (0, 0) _ HY1.out Try.underlying79 rfl matchRow75 ?_) | (refine wpList_store_row rfl 79 _ _ rfl (w.heap.size + 1 + 1) _ rfl rfl 79 _ HY2.out matchRow75 rfl (by simp [Value.oneCell']) ?_))
               refine bodyPost_ret (results_row1 Try.results80 _ _ (w.heap.size + 1 + 1) _ _ _ _ rfl (setRow_heap _ _ _ _ _ _ HY2.out) Try.underlying79 rfl matchRow75) rfl ⟨by simp only [M.rbegin, HO.out]; rfl, ?_⟩
               exact ⟨HBy.out.os, HBy.out.tape, HBy.out.output, by simp only [size_setRow]; exact HBy.out.size, fun i hi => (setRow_other _ _ i _ (by omega)).trans (HBy.out.block i hi)⟩)
            | (have ho : M.rfresh m = false := by (unfold M.rfresh; rw [HN.out, hti, hd1, hd2, ht2]; simp)
               have HO := hide ho
               clear ho
               go_upto_region 6 with (first | (go_at_call 86; refine (refDue_any m.f _ _ hf0 hf1 hn0 hn1 (by omega) (by omega)).mono ?_; rintro e w2 ⟨rfl, hb⟩; have hx0 := (hb.block w.heap.size (by omega)).trans hx0; have hx1 := (hb.block (w.heap.size + 1) (by omega)).trans hx1; have hx2 := (hb.block (w.heap.size + 1 + 1) (by omega)).trans hx2; have HB1 := hide (HB1.out.trans (hb.mono HB1.out.size)); have hq1 : w.heap.size + 1 + 1 < w2.heap.size := Nat.lt_of_lt_of_le hq1 hb.size; have hc0 := fun i => cell_of_row w2 w.heap.size i _ _ _ hx0; have hc1 := fun i => cell_of_row w2 (w.heap.size + 1) i _ _ _ hx1; have hfz := fun i => frozen_of_row w2 (w.heap.size + 1) i _ _ hx1; have HR1 := hide (HR1.out.below hb); have hct := HR1.out.tie HN.out h2; rw [ht2] at hct; clear hb))
               have hy1 : (_ : Option Obj) = some (.cells #[.slice A ns c, .int .i64 m.games.A, .int .i64 m.games.B, .int .i64 m.pts.A, .int .i64 m.pts.B, .int .i64 m.server, .int .i64 m.ends, .int .i64 m.balls, .int .i64 m.winner, .int .i64 m.opens, .slice (some ⟨g, 0, none⟩) n c2, .bool false] 79 (0, 0)) := blk_set hx1 11 (.bool false)
               have hy2 := (heap_setCell_other _ ⟨w.heap.size + 1, 11, none⟩ (w.heap.size + 1 + 1) (.bool false) (by simp)).trans hx2
               have HBy := hide (HB1.out.setCell (p := ⟨w.heap.size + 1, 11, none⟩) (by simp) (.bool false))
               have HY1 := hide hy1
               have HY2 := hide hy2
               clear hx0 hx1 hx2 hy1 hy2 hc0 hc1 hfz
               go_wp2_with (first | (refine wpList_load_row rfl 79 _ rfl (w.heap.size + 1) rfl 79 _ (0, 0) _ HY1.out Try.underlying79 rfl matchRow75 ?_) | (refine wpList_store_row rfl 79 _ _ rfl (w.heap.size + 1 + 1) _ rfl rfl 79 _ HY2.out matchRow75 rfl (by simp [Value.oneCell']) ?_))
               refine bodyPost_ret (results_row1 Try.results80 _ _ (w.heap.size + 1 + 1) _ _ _ _ rfl (setRow_heap _ _ _ _ _ _ HY2.out) Try.underlying79 rfl matchRow75) rfl ⟨by simp only [M.rbegin, HO.out]; rfl, ?_⟩
               exact ⟨HBy.out.os, HBy.out.tape, HBy.out.output, by simp only [size_setRow]; exact HBy.out.size, fun i hi => (setRow_other _ _ i _ (by omega)).trans (HBy.out.block i hi)⟩)

theorem refbegin_any {w : World} {base : Nat} {m : M.Mt} {sv gv : Value} (h : RAt w base m sv gv) (hv : M.Valid m.f) (hn : m.log.length ≤ 900) (hs : m.sets.length ≤ 900) (hbal : 0 ≤ m.balls ∧ m.balls ≤ 10000) :
    Calls Try.prog 80 #[.agg #[.int .i64 (m.f).sets, .int .i64 (m.f).games, .bool (m.f).noAd, .int .i64 (m.f).tie, .int .i64 (m.f).to, .int .i64 (m.f).lastTie, .int .i64 (m.f).lastTo, .int .i64 (m.f).first, .int .i64 (m.f).next, .bool (m.f).doubles], .agg #[sv, .int .i64 m.games.A, .int .i64 m.games.B, .int .i64 m.pts.A, .int .i64 m.pts.B, .int .i64 m.server, .int .i64 m.ends, .int .i64 m.balls, .int .i64 m.winner, .int .i64 m.opens, gv, .bool m.fresh]] w fun e w' => e = .returned (.agg #[sv, .int .i64 (M.rbegin m).games.A, .int .i64 (M.rbegin m).games.B, .int .i64 (M.rbegin m).pts.A, .int .i64 (M.rbegin m).pts.B, .int .i64 (M.rbegin m).server, .int .i64 (M.rbegin m).ends, .int .i64 (M.rbegin m).balls, .int .i64 (M.rbegin m).winner, .int .i64 (M.rbegin m).opens, gv, .bool (M.rbegin m).fresh]) ∧ Below w.heap.size w w' := by
  obtain ⟨A, c, rfl⟩ := own_form h.s
  obtain ⟨A2, c2, rfl⟩ := own_form h.g
  by_cases h2 : m.log.length < 2
  · exact refbegin_few h2 h rfl rfl hv hn hs hbal
  · obtain ⟨g, rfl⟩ := h.form rfl (by omega)
    exact refbegin_many (by omega) h rfl rfl hv hn hs hbal

end Go.Proofs.Ytoaogpipogeamaa

namespace Go.Proofs.Ytoaogpipogeamaa
open Go.RowKit
attribute [local go_sem ↓] Go.wp_at_zero Go.wp_at_succ

namespace M
def rwin (m : Mt) (pts : Pr) : Int := if rtied m.f m.sets m.games then leads pts (rto m.f m.sets) else gameWinner m.f pts
def rgame (m : Mt) (pts : Pr) (win : Int) : Gm := { set := m.sets.length, tie := rtied m.f m.sets m.games, server := serverOf m.opens m.f.doubles m.log.length 0, winner := win, pts := pts, fresh := m.fresh }
def rodd (m : Mt) (games : Pr) : Mt := if (games.A + games.B) % 2 = 1 then { m with ends := m.ends + 1 } else m
def rset (m : Mt) (games : Pr) (win : Int) : Mt :=
  if (wonR zero (m.sets ++ [games])).A = m.f.sets ∨ (wonR zero (m.sets ++ [games])).B = m.f.sets then { m with sets := m.sets ++ [games], games := zero, winner := win }
  else rbegin (rodd { m with sets := m.sets ++ [games], games := zero } games)
def rover (m : Mt) (pts : Pr) (win : Int) : Mt :=
  if rtied m.f m.sets m.games = true ∨ 0 ≤ leads (plus m.games win) m.f.games then rset { m with pts := zero, log := m.log ++ [rgame m pts win] } (plus m.games win) win
  else rbegin (rodd { m with pts := zero, log := m.log ++ [rgame m pts win], games := plus m.games win } (plus m.games win))
def rpoint (m : Mt) (side : Int) : Mt :=
  if rwin m (plus m.pts side) < 0 then { m with pts := plus m.pts side, ends := if rtied m.f m.sets m.games = true ∧ ((plus m.pts side).A + (plus m.pts side).B) % 6 = 0 then m.ends + 1 else m.ends }
  else rover m (plus m.pts side) (rwin m (plus m.pts side))
theorem rpoint_over {m : Mt} {side win : Int} (hw : rwin m (plus m.pts side) = win) (h0 : ¬ win < 0) : rpoint m side = rover m (plus m.pts side) win := by
  subst hw
  exact if_neg h0
theorem rover_no {m : Mt} {pts : Pr} {win : Int} (ht : rtied m.f m.sets m.games = false) (hl : ¬ 0 ≤ leads (plus m.games win) m.f.games) : rover m pts win = rbegin (rodd { m with pts := zero, log := m.log ++ [rgame m pts win], games := plus m.games win } (plus m.games win)) :=
  if_neg (by
    rw [ht]
    rintro (h | h)
    · cases h
    · exact hl h)
theorem rover_set {m : Mt} {pts : Pr} {win : Int} (h : rtied m.f m.sets m.games = true ∨ 0 ≤ leads (plus m.games win) m.f.games) : rover m pts win = rset { m with pts := zero, log := m.log ++ [rgame m pts win] } (plus m.games win) win := if_pos h
theorem rset_won {m : Mt} {g : Pr} {win : Int} (h : (wonR zero (m.sets ++ [g])).A = m.f.sets ∨ (wonR zero (m.sets ++ [g])).B = m.f.sets) : rset m g win = { m with sets := m.sets ++ [g], games := zero, winner := win } := if_pos h
theorem rset_go {m : Mt} {g : Pr} {win : Int} (h : ¬ ((wonR zero (m.sets ++ [g])).A = m.f.sets ∨ (wonR zero (m.sets ++ [g])).B = m.f.sets)) : rset m g win = rbegin (rodd { m with sets := m.sets ++ [g], games := zero } g) := if_neg h
theorem rodd_yes {m : Mt} {g : Pr} (h : (g.A + g.B) % 2 = 1) : rodd m g = { m with ends := m.ends + 1 } := if_pos h
theorem rodd_no {m : Mt} {g : Pr} (h : ¬ (g.A + g.B) % 2 = 1) : rodd m g = m := if_neg h
end M

theorem RAt.with {w : World} {base : Nat} {m m' : M.Mt} {sv gv : Value} (h : RAt w base m sv gv) (h1 : m'.sets = m.sets) (h2 : m'.log = m.log) : RAt w base m' sv gv :=
  ⟨by rw [h1]; exact h.s, by rw [h2]; exact h.g⟩

theorem run_append_row {P : Program} {w : World} (base base2 : Nat) (t ty e : TypeId) (i : TypeInfo) (z : Value) (size bytes : Nat) (ht : P.underlying t = some (.slice e)) (hi : P.info? e = some i) (hz : i.zero = some z)
    (hsize : i.size = size) (hby : i.bytes = bytes) (hzs : z.cells.size = size) (hsz : 0 < size)
    (v : Value) (n : Nat) (xs : List Value) (hown : w.ownsRow base e size v n xs) (A : Option Addr) (m c : Nat) (news : List Value) (hsrc : w.ownsRow base2 e size (.slice A m c) m news) (h1 : ∀ u ∈ news, u.oneCell' = true)
    (h63 : n + m ≤ maxLen) (hbytes : (n + m) * bytes ≤ 140737488355328) (hbase : base ≤ w.heap.size) :
    ∃ A' c' w', (Builtin.append_ #[t, t] ty #[v, .slice A m c]).run P w = .ok (.slice A' (n + m) c') w' ∧ w'.ownsRow base e size (.slice A' (n + m) c') (n + m) (xs ++ news) ∧ w.grownBy w' v.ownBlock := by
  rcases A with _ | ad
  · have hm : m = 0 := by
      rcases hsrc.2 with ⟨_, h0⟩ | ⟨g, cap, cur, e1, _⟩
      · exact h0
      · simp at e1
    have hc : c = 0 := by
      rcases hsrc.2 with ⟨e1, _⟩ | ⟨g, cap, cur, e1, _⟩
      · simp only [Value.slice.injEq] at e1; exact e1.2.2
      · simp at e1
    subst hm hc
    have hn : news = [] := List.eq_nil_of_length_eq_zero (by simpa using hsrc.1)
    subst hn
    obtain ⟨A', c', rfl⟩ := own_form hown
    have hrun := run_append_owned_none (P := P) (w := w) base t ty e i size ht hi (.slice A' n c') n xs hown
    exact ⟨A', c', w, hrun, by simpa using hown, World.grownBy.refl w _⟩
  · have had : ∃ g, ad = ⟨g, 0, none⟩ := by
      rcases hsrc.2 with ⟨e1, _⟩ | ⟨g, cap, cur, e1, _⟩
      · simp at e1
      · simp only [Value.slice.injEq, Option.some.injEq] at e1; exact ⟨g, e1.1⟩
    obtain ⟨g, rfl⟩ := had
    obtain ⟨v', w', hrun, h2, h3, _, _⟩ := run_append_own_at (P := P) w base t ty e i z size bytes ht hi hz hsize hby hzs hsz v n xs hown ⟨g, 0, none⟩ m c news hsrc.1 (hsrc.cells (g := g) rfl) h1 h63 hbytes hbase
    obtain ⟨A', c', rfl⟩ := own_form h2
    exact ⟨A', c', w', hrun, h2, h3⟩
theorem step_row {P : Program} {w : World} {ops : Array Oper} {o : Oper} {a : Act} {K : Act → World → Prop} {Q : Exit → Act → World → Prop} {E : Prop} (hgd : o.guard = none) (s x : Operand) (t : TypeId)
    (ho : o.op = .call { callee := .builtin .append, args := #[s, x], argTypes := #[t, t] }) (base base2 : Nat) (e : TypeId) (i : TypeInfo) (z : Value) (size bytes : Nat) (ht : P.underlying t = some (.slice e)) (hi : P.info? e = some i) (hz : i.zero = some z)
    (hsize : i.size = size) (hby : i.bytes = bytes) (hzs : z.cells.size = size) (hsz : 0 < size)
    (v : Value) (n : Nat) (xs : List Value) (hs : a.eval s = v) (hown : w.ownsRow base e size v n xs) (A : Option Addr) (m c : Nat) (news : List Value) (hx : a.eval x = .slice A m c) (hsrc : w.ownsRow base2 e size (.slice A m c) m news) (h1 : ∀ u ∈ news, u.oneCell' = true)
    (N : Nat) (hN : n + m = N) (h63 : N ≤ 2000) (hb : bytes ≤ 1000) (hbase : base ≤ w.heap.size)
    (h : ∀ A' c' w', w'.ownsRow base e size (.slice A' N c') N (xs ++ news) → w.grownBy w' v.ownBlock → K (a.put o.dst (.slice A' N c')) w') :
    if Region.wanted o (yielded ops a.tmps) = true then Oper.wp P o a w K Q else E := by
  subst hN
  have hw : Region.wanted o (yielded ops a.tmps) = true := by simp [Region.wanted, hgd]
  rw [if_pos hw]
  have hmul : (n + m) * bytes ≤ 2000 * 1000 := Nat.mul_le_mul h63 hb
  obtain ⟨A', c', w', hrun, g2, g3⟩ := run_append_row (P := P) (w := w) base base2 t o.type e i z size bytes ht hi hz hsize hby hzs hsz v n xs hown A m c news hsrc h1 (by unfold maxLen; omega) (by omega) hbase
  unfold Oper.wp execOp
  simp only [ho, resolve, invoke, builtin, Sem.run_bind, Sem.run_pure, Result.andThen_ok, List.map_toArray, List.map_cons, List.map_nil, hs, hx, hrun]
  exact h A' c' w' g2 g3
theorem owns_blk {w : World} {q n size : Nat} {e : TypeId} {cs : Array Value} (h : w.heap[q]? = some (.cells cs e (0, 0))) (hs : cs.size = n * size) (hn : n ≤ 1000) : w.ownsRow q e size (.slice (some ⟨q, 0, none⟩) n n) n cs.toList :=
  ⟨by simpa using hs, .inr ⟨q, n, cs, rfl, Nat.le_refl _, h, Nat.le_refl _, by unfold maxLen; omega, hs, List.take_of_length_le (by rw [Array.length_toList, hs]; exact Nat.le_refl _)⟩⟩

end Go.Proofs.Ytoaogpipogeamaa

namespace Go.Proofs.Ytoaogpipogeamaa
open Go.ChangeShapes Go.WideShapes Go.ChangeAt Go.RowKit Go.Deep Go.Joins

section
variable {H : Type} {enc : TypeId × Value → H} {P : Program}

theorem trodAll_stays {W W' : World} {sp : Nat → Bool} (hl : laidOutB P = true) (hb : Below W.heap.size W W') : ∀ {ts : List TypeId} {vs : List Value} {ds : List (DataW H)} {ps : List MemPlace}, (∀ t ∈ ts, P.readableRec t = true ∧ t < P.types.size) → (∀ x ∈ ps, x.block < W.heap.size) → (∀ x ∈ ps, sp x.block = true) → DataW.TrodAll enc P W 0 (fun _ => true) true ts vs ds ps → DataW.TrodAll enc P W' 0 sp true ts vs ds ps
  | [], vs, ds, ps, _, _, _, h => by
    obtain ⟨rfl, rfl, rfl⟩ := trodAll_nil h
    exact trodAll_mk0
  | t :: ts, vs, ds, ps, hr, hlt, hsp, h => by
    obtain ⟨v, vs', d, ds', p, q, rfl, rfl, rfl, h0, h1⟩ := trodAll_cons h
    refine trodAll_cons_mk ?_ (trodAll_stays hl hb (fun t ht => hr t (List.mem_cons_of_mem _ ht)) (fun x hx => hlt x (List.mem_append_right _ hx)) (fun x hx => hsp x (List.mem_append_right _ hx)) h1)
    exact WideElems.Trod_stays hl (hr t (List.mem_cons_self ..)).1 (hr t (List.mem_cons_self ..)).2 h0 (fun x hx => hb.same (hlt x (List.mem_append_left _ hx))) (fun x hx => hsp x (List.mem_append_left _ hx))

theorem law_post {f : Func} {s : ChangeSpec} {fresh handsOn again : Bool} {W W' : World} {args : Array Value} {bt : TypeId} {ds gs : List (DataW H)} {before : List MemPlace}
    (hrt : f.resultTypes = #[bt]) (hbt : P.underlying bt = some .bool) (hsv : s.vars = []) (hs : s.fn H ds = { results := [.lit (.bool true)], args := ds }) (hl : laidOutB P = true) (hr : ∀ t ∈ f.params.toList, P.readableRec t = true ∧ t < P.types.size)
    (hW : DataW.Whole enc P f.params.toList s.vars false W args.toList ds gs before) (hb : Below W.heap.size W W') : s.post enc P f false fresh handsOn again W args (.bool true) W' := by
  have hlt : ∀ p ∈ before, p.block < W.heap.size := fun p hp => hW.lt p hp
  have hW1 := hW
  obtain ⟨p, q, hA, hV, hpq, hz, hn⟩ := hW
  rw [hsv] at hV
  obtain ⟨rfl, rfl⟩ := trodVars_none hV
  rw [List.append_nil] at hpq
  subst hpq
  have hs' : s.fn H (ds ++ []) = { results := [.lit (.bool true)], args := ds } := by rw [List.append_nil]; exact hs
  have hres : ∀ (b : Nat) (sp : Nat → Bool) (hd : Bool), DataW.TrodAll enc P W' b sp hd f.resultTypes.toList ((Value.bool true).resultList f.resultTypes.size) (s.fn H (ds ++ [])).results [] := by
    intro b sp hd
    rw [hs', hrt]
    exact trodAll_mk1 (shut_bool hbt true)
  have hargs : ∀ sp : Nat → Bool, (∀ x ∈ before, sp x.block = true) → DataW.TrodAll enc P W' 0 sp true f.params.toList args.toList (s.fn H (ds ++ [])).args before := by
    intro sp hsp
    rw [hs']
    exact trodAll_stays hl hb hr hlt hsp hA
  have hvars : ∀ sp : Nat → Bool, DataW.TrodVars enc P W' sp s.vars (s.fn H (ds ++ [])).vars [] := by
    intro sp
    rw [hs', hsv]
    rfl
  have hok : ∀ (j : Nat) (t : TypeId) (r : Value), f.resultTypes[j]? = some t → ((Value.bool true).resultList f.resultTypes.size)[j]? = some r → Value.okWide P W' .any 0 t r := by
    have := ok_one (P := P) (W' := W') (f := f) (v := .bool true) hrt rfl (okWide_bool_mk hbt true)
    exact this
  have hold : ∀ x ∈ before, (fun b => decide (b < W.heap.size)) x.block = true := fun x hx => by simpa using hlt x hx
  refine ⟨ds, [], before, [], before, [], hW1, hres _ _ _, hargs _ hold, hvars _, World.keptBut_mono (fun x hx => ⟨hx, ?_⟩) (hb.frame (· ∈ before)), fun _ => ?_⟩
  · first | exact Or.inr hx | exact Or.inr (Or.inl hx) | simpa using hx
  · refine ⟨hok, _, _, ([] ++ before) ++ [], ⟨[] ++ before, [], trodAll_append (hargs _ (fun _ _ => rfl)) (hres _ _ _), hvars _, rfl, ?_, fun ha => by cases ha⟩, ?_⟩
    · intro b off hx
      have hin : MemPlace.cell b off ∈ before := by simpa using hx
      rw [hb.frozen (hlt _ hin)]
      exact hz b off hin
    · exact fun p hp _ => by simpa using hp

theorem law_lift {C : Checked} {F : FuncId} {fn : Func} {s : ChangeSpec} {bt : TypeId} {os : Os} (started : os.Started) (own : ownKnob C.prog.godebug = none) (noInit : C.prog.inits.idxOf? F = none) (hfn : C.prog.funcs[F]? = some fn)
    (hrt : fn.resultTypes = #[bt]) (hbt : C.prog.underlying bt = some .bool) (hsv : s.vars = []) (hl : laidOutB C.prog = true) (hr : ∀ t ∈ fn.params.toList, C.prog.readableRec t = true ∧ t < C.prog.types.size)
    (hs : ∀ ds : List (DataW H), ds.length = fn.params.toList.length → s.fn H ds = { results := [.lit (.bool true)], args := ds })
    (witness : ∃ (w : World) (tape : Tape) (i : Input), w.os = os ∧ (w.forCall tape i).Shaped C.prog ∧ i.vars = [] ∧ Input.okWide C.prog (w.forCall tape i) .any w.heap.size F i ∧
      s.pre6 enc C.prog fn [] false (w.forCall tape i).memory i.args ∧ Assume.holds {} C.prog (lone (Frame.enter C.prog F i.args .normal) [] (w.forCall tape i)))
    (contract : ∀ (W : World) (base : Nat) (args : Array Value) (ds : List (DataW H)) (p : List MemPlace), (∀ (j : Nat) t v, fn.params[j]? = some t → args[j]? = some v → Value.okWide C.prog W .any base t v) →
      DataW.TrodAll enc C.prog W 0 (fun _ => true) true fn.params.toList args.toList ds p → (∀ x ∈ p, x.block < W.heap.size) → Calls C.prog F args W fun e w' => e = .returned (.bool true) ∧ Below W.heap.size W w') (fresh handsOn again : Bool) :
    ReturnsInHanded {} C os F .any (s.pre6 enc C.prog fn [] false) (s.post enc C.prog fn false fresh handsOn again) := by
  refine returnsInHanded_of_change own started noInit hfn witness ?_
  intro W base args ds gs before hval hW hc _
  have hW1 := hW
  obtain ⟨p, q, hA, hV, hpq, hz, hn⟩ := hW
  have hA1 : DataW.TrodAll enc C.prog W 0 (fun _ => true) true fn.params.toList args.toList ds p := hA
  rw [hsv] at hV
  obtain ⟨_, rfl⟩ := trodVars_none hV
  have hlen : ds.length = fn.params.toList.length := by
    clear hW1 hA hval hpq hc contract witness
    generalize fn.params.toList = ts at hA1
    generalize args.toList = vs at hA1
    induction ts generalizing vs ds p with
    | nil => obtain ⟨_, rfl, _⟩ := trodAll_nil hA1; rfl
    | cons t ts ih =>
      obtain ⟨_, _, _, _, _, _, rfl, rfl, rfl, _, h1⟩ := trodAll_cons hA1
      rw [List.length_cons, List.length_cons, ih _ _ _ h1]
  refine (contract W base args ds p hval hA1 (fun x hx => hW1.lt x (by rw [hpq]; exact List.mem_append_left _ hx))).mono fun e W' ⟨he, hb⟩ => ?_
  subst he
  exact ⟨_, rfl, law_post hrt hbt hsv (hs ds hlen) hl hr hW1 hb⟩
end

section
variable {H : Type} {enc : TypeId × Value → H} {w : World} {base : Nat} {spare : Nat → Bool} {held : Bool}
theorem trod_fields {P : Program} {t : TypeId} {fs : Array Field} {fuel : Nat} {cs : List Value} {x : DataW H × List MemPlace} (hs : P.underlying t = some (.struct fs)) (hone0 : (match P.underlying t with | some (.struct fs) => oneCellFields P fs && P.cellsOf t == fs.size | _ => false) = true)
    (h : DataW.trod enc P w base spare held fuel t cs = some x) :
    cs.length = fs.size ∧ ∀ (j : Nat) (f : Field), fs[j]? = some f → ∃ (c : Value) (y : DataW H × List MemPlace) (n : Nat), cs[j]? = some c ∧ DataW.trod enc P w base spare held n f.type [c] = some y := by
  rw [hs] at hone0
  simp only [Bool.and_eq_true, beq_iff_eq] at hone0
  obtain ⟨hone, hC⟩ := hone0
  obtain ⟨xs, n, _, _, hcl, hlen, hg⟩ := DataW.trod_struct hs h
  have hll : cs.length = fs.size := hcl.trans hC
  refine ⟨hll, fun j f hj => ?_⟩
  obtain ⟨o, k⟩ := hone_of hone j f hj
  have hjl : j < fs.size := (Array.getElem?_eq_some_iff.1 hj).1
  have h1 := hg j f hj
  rw [o, k] at h1
  have hone' : (cs.drop j).take 1 = [cs[j]'(by omega)] := by
    rw [List.drop_eq_getElem_cons (by omega)]
    rfl
  rw [hone', List.getElem?_eq_getElem (by omega)] at h1
  exact ⟨_, _, n, List.getElem?_eq_getElem (by omega), h1⟩

theorem open_fields {P : Program} {r : Reach} {b0 : Nat} {t : TypeId} {fs : Array Field} {v : Value} {d : DataW H} {p : List MemPlace} (hs : P.underlying t = some (.struct fs)) (hone0 : (match P.underlying t with | some (.struct fs) => oneCellFields P fs && P.cellsOf t == fs.size | _ => false) = true)
    (hv : Value.okWide P w r b0 t v) (h : DataW.Trod enc P w base spare held t v d p) :
    ∃ cs : List Value, v = .agg ⟨cs⟩ ∧ cs.length = fs.size ∧ ∀ (j : Nat) (f : Field), fs[j]? = some f → ∃ (c : Value) (y : DataW H × List MemPlace) (n : Nat), cs[j]? = some c ∧ DataW.trod enc P w base spare held n f.type [c] = some y := by
  obtain ⟨cs, rfl, hsz⟩ := okWide_struct hs hv
  obtain ⟨l⟩ := cs
  obtain ⟨fuel, hf⟩ := h
  have hcells : (Value.agg ⟨l⟩).cells.toList = l := by simp [Value.cells]
  rw [hcells] at hf
  exact ⟨l, rfl, trod_fields hs hone0 hf⟩

theorem pairOne : (match Try.prog.underlying 32 with | some (.struct fs) => oneCellFields Try.prog fs && Try.prog.cellsOf 32 == fs.size | _ => false) = true := by kernel_rfl
theorem fmtOne : (match Try.prog.underlying 23 with | some (.struct fs) => oneCellFields Try.prog fs && Try.prog.cellsOf 23 == fs.size | _ => false) = true := by kernel_rfl
set_option maxRecDepth 100000 in
theorem open_fmt {r : Reach} {b0 : Nat} {v : Value} {d : DataW H} {p : List MemPlace} (hv : Value.okWide Try.prog w r b0 23 v) (h : DataW.Trod enc Try.prog w base spare held 23 v d p) : ∃ f : M.Fm, v = .agg #[.int .i64 f.sets, .int .i64 f.games, .bool f.noAd, .int .i64 f.tie, .int .i64 f.to, .int .i64 f.lastTie, .int .i64 f.lastTo, .int .i64 f.first, .int .i64 f.next, .bool f.doubles] := by
  obtain ⟨cs, rfl, hl, hf⟩ := open_fields Try.underlying23 fmtOne hv h
  match cs, hl with
  | [c0, c1, c2, c3, c4, c5, c6, c7, c8, c9], _ =>
    obtain ⟨_, _, _, e0, h0⟩ := hf 0 _ rfl
    obtain ⟨_, _, _, e1, h1⟩ := hf 1 _ rfl
    obtain ⟨_, _, _, e2, h2⟩ := hf 2 _ rfl
    obtain ⟨_, _, _, e3, h3⟩ := hf 3 _ rfl
    obtain ⟨_, _, _, e4, h4⟩ := hf 4 _ rfl
    obtain ⟨_, _, _, e5, h5⟩ := hf 5 _ rfl
    obtain ⟨_, _, _, e6, h6⟩ := hf 6 _ rfl
    obtain ⟨_, _, _, e7, h7⟩ := hf 7 _ rfl
    obtain ⟨_, _, _, e8, h8⟩ := hf 8 _ rfl
    obtain ⟨_, _, _, e9, h9⟩ := hf 9 _ rfl
    obtain ⟨n0, k0, _, _⟩ := DataW.trod_int Try.underlying3 h0
    obtain ⟨n1, k1, _, _⟩ := DataW.trod_int Try.underlying3 h1
    obtain ⟨n2, k2, _⟩ := DataW.trod_bool Try.underlying4 h2
    obtain ⟨n3, k3, _, _⟩ := DataW.trod_int Try.underlying3 h3
    obtain ⟨n4, k4, _, _⟩ := DataW.trod_int Try.underlying3 h4
    obtain ⟨n5, k5, _, _⟩ := DataW.trod_int Try.underlying3 h5
    obtain ⟨n6, k6, _, _⟩ := DataW.trod_int Try.underlying3 h6
    obtain ⟨n7, k7, _, _⟩ := DataW.trod_int Try.underlying3 h7
    obtain ⟨n8, k8, _, _⟩ := DataW.trod_int Try.underlying3 h8
    obtain ⟨n9, k9, _⟩ := DataW.trod_bool Try.underlying4 h9
    refine ⟨⟨n0, n1, n2, n3, n4, n5, n6, n7, n8, n9⟩, ?_⟩
    simp only [List.getElem?_cons_zero, List.getElem?_cons_succ, Option.some.injEq] at e0 e1 e2 e3 e4 e5 e6 e7 e8 e9
    simp only [List.cons.injEq, and_true] at k0 k1 k2 k3 k4 k5 k6 k7 k8 k9
    rw [e0, e1, e2, e3, e4, e5, e6, e7, e8, e9, k0, k1, k2, k3, k4, k5, k6, k7, k8, k9]

theorem spot_none {w : World} {a : Addr} {v : Value} (h : w.cell? a = some v) : a.spot = none ∧ a.block < w.heap.size := by
  unfold World.cell? at h
  split at h
  · rename_i hb
    refine ⟨?_, (Array.getElem?_eq_some_iff.1 hb).1⟩
    split at h
    · cases h
    · rename_i hs
      simpa using hs
  · cases h
theorem spot_first {w : World} {a : Addr} {v : Value} (h : w.cell? (a.add 0) = some v) : ∃ b o : Nat, a = ⟨b, o, none⟩ ∧ b < w.heap.size := by
  have e : a.add 0 = a := if_pos rfl
  rw [e] at h
  obtain ⟨hs, hb⟩ := spot_none h
  obtain ⟨b, o, s⟩ := a
  have hs' : s = none := hs
  subst hs'
  exact ⟨b, o, rfl, hb⟩
theorem add_plain (b o k : Nat) : (⟨b, o, none⟩ : Addr).add k = ⟨b, o + k, none⟩ := by
  unfold Addr.add
  split
  · rename_i h; subst h; rfl
  · rfl
theorem open_ints {v : Value} {d : DataW H} {p : List MemPlace} (h : DataW.Trod enc Try.prog w base (fun _ => true) held 24 v d p) (hok : ∃ a n c, v = .slice a n c) :
    ∃ (A : Option Addr) (n c : Nat) (xs : List Int), v = .slice A n c ∧ n ≤ c ∧ c ≤ maxLen ∧ xs.length = n ∧ RdI w w.heap.size A xs ∧ ∀ x ∈ xs, (Lit.int .i64 x).wf = true := by
  obtain ⟨a0, n0, c0, rfl⟩ := hok
  obtain ⟨fuel, hf⟩ := h
  rcases Go.ChangeShapes.open_ints Try.underlying24 Try.underlying3 intCells hf with ⟨hcs, _⟩ | ⟨a, len, cap, zs, hcs, _, hle, hmax, hall, _, hcell, hwf⟩
  · simp [Value.cells] at hcs
    obtain ⟨rfl, rfl, rfl⟩ := hcs
    exact ⟨none, 0, 0, [], rfl, Nat.le_refl _, Nat.zero_le _, rfl, RdI.nil _ _ _, fun x hx => by cases hx⟩
  · simp [Value.cells] at hcs
    obtain ⟨rfl, rfl, rfl⟩ := hcs
    simp only [if_true] at hall
    refine ⟨some a, n0, c0, zs.take n0, rfl, hle, hmax, by rw [List.length_take]; omega, ?_, fun x hx => hwf x (List.mem_of_mem_take hx)⟩
    intro k x hk
    have hkn : k < n0 := by
      rcases Nat.lt_or_ge k n0 with hl | hl
      · exact hl
      · rw [List.getElem?_eq_none (by rw [List.length_take]; omega)] at hk; cases hk
    rw [List.getElem?_take_of_lt hkn] at hk
    have hc := hcell k (by omega)
    rw [List.getD_eq_getElem?_getD, hk] at hc
    obtain ⟨b, o, rfl, hb'⟩ := spot_first (hcell 0 (by omega))
    exact ⟨b, o, rfl, hb', by rw [add_plain] at hc; exact hc⟩

set_option maxRecDepth 100000 in
theorem open_pairs {v : Value} {d : DataW H} {p : List MemPlace} (h : DataW.Trod enc Try.prog w base (fun _ => true) held 30 v d p) (hok : ∃ a n c, v = .slice a n c) :
    ∃ (A : Option Addr) (n c : Nat) (ps : List M.Pr), v = .slice A n c ∧ n ≤ c ∧ c ≤ maxLen ∧ ps.length = n ∧ RdP w w.heap.size A ps := by
  obtain ⟨a0, n0, c0, rfl⟩ := hok
  obtain ⟨fuel, hf⟩ := h
  rcases Go.Deep.open_slice Try.underlying30 hf with ⟨hcs, _⟩ | ⟨a, len, cap, m, n, D, Pl, hcs, _, hle, hmax, hm, _, hi⟩
  · simp [Value.cells] at hcs
    obtain ⟨rfl, rfl, rfl⟩ := hcs
    exact ⟨none, 0, 0, [], rfl, Nat.le_refl _, Nat.zero_le _, rfl, RdP.nil _ _ _⟩
  · simp [Value.cells] at hcs
    obtain ⟨rfl, rfl, rfl⟩ := hcs
    simp only [if_true] at hm
    rename Addr => a0'
    have each : ∀ i, i < n0 → ∃ q : M.Pr, w.cell? (a0'.add (i * 2)) = some (.int .i64 q.A) ∧ w.cell? ((a0'.add (i * 2)).add 1) = some (.int .i64 q.B) := by
      intro i hil
      obtain ⟨cs', hc, ht⟩ := hi i (by omega)
      rw [pairCells] at hc
      obtain ⟨_, hcl, hat⟩ := World.cells?_some hc
      obtain ⟨_, hff⟩ := trod_fields Try.underlying32 pairOne ht
      match cs', hcl with
      | [c0', c1'], _ =>
        obtain ⟨_, _, _, e0, g0⟩ := hff 0 _ rfl
        obtain ⟨_, _, _, e1, g1⟩ := hff 1 _ rfl
        obtain ⟨n0', k0, _, _⟩ := DataW.trod_int Try.underlying3 g0
        obtain ⟨n1', k1, _, _⟩ := DataW.trod_int Try.underlying3 g1
        simp only [List.getElem?_cons_zero, List.getElem?_cons_succ, Option.some.injEq] at e0 e1
        simp only [List.cons.injEq, and_true] at k0 k1
        rw [← e0] at k0
        rw [← e1] at k1
        subst k0 k1
        have a0 := hat 0 (by omega)
        have a1 := hat 1 (by omega)
        exact ⟨⟨n0', n1'⟩, a0, a1⟩
    refine ⟨some a0', n0, c0, (List.range n0).map (fun i => if h : i < n0 then (each i h).choose else ⟨0, 0⟩), rfl, hle, hmax, by simp, ?_⟩
    intro k q hk
    have hkn : k < n0 := by
      rcases Nat.lt_or_ge k n0 with hl | hl
      · exact hl
      · rw [List.getElem?_eq_none (by simp; omega)] at hk; cases hk
    have hq : (each k hkn).choose = q := by
      rw [List.getElem?_map, List.getElem?_range hkn] at hk
      simpa [hkn] using hk
    have hc := (each k hkn).choose_spec
    rw [hq] at hc
    obtain ⟨_, h00, _⟩ := each 0 (by omega)
    obtain ⟨b, o, rfl, hb'⟩ := spot_first (by rw [Nat.zero_mul] at h00; exact h00)
    rw [add_plain, add_plain] at hc
    exact ⟨b, o, rfl, hb', hc.1, hc.2⟩

end
end Go.Proofs.Ytoaogpipogeamaa

namespace Go.Proofs.Ytoaogpipogeamaa
open Go.RowKit

theorem flatP_cells {w : World} {B : Nat} {a : Addr} : ∀ {ps : List M.Pr}, RdP w B (some a) ps → ∀ j u, (flatP ps)[j]? = some u → w.cell? (a.add j) = some u := by
  intro ps h j u hj
  have hl : j < ps.length * 2 := by rw [← flatP_length]; exact (List.getElem?_eq_some_iff.1 hj).1
  obtain ⟨p, hp⟩ : ∃ p, ps[j / 2]? = some p := ⟨_, List.getElem?_eq_getElem (by omega)⟩
  obtain ⟨b, o, e, _, c0, c1⟩ := h (j / 2) p hp
  injection e with e
  subst e
  obtain ⟨h0, h1⟩ := flatP_at ps (j / 2) p hp
  rw [add_plain]
  rcases Nat.mod_two_eq_zero_or_one j with hm | hm
  · have e : j / 2 * 2 = j := by omega
    rw [e] at h0 c0
    rw [hj] at h0
    rw [c0]; exact h0.symm
  · have e : j / 2 * 2 + 1 = j := by omega
    rw [e] at h1
    rw [Nat.add_assoc, e] at c1
    rw [hj] at h1
    rw [c1]; exact h1.symm
theorem flatP_one' (l : List M.Pr) : ∀ u ∈ flatP l, u.oneCell' = true := by
  intro u hu
  simp only [flatP, List.mem_flatMap, List.mem_cons, List.not_mem_nil, or_false] at hu
  obtain ⟨p, _, rfl | rfl⟩ := hu <;> rfl
theorem flatP_app2 (l r : List M.Pr) : flatP (l ++ r) = flatP l ++ flatP r := by unfold flatP; simp

theorem owns_empty {w : World} {b : Nat} {base : Nat} (hb : w.heap[b]? = some (.cells #[] 32 (0, 0))) (hle : base ≤ b) : w.ownsRow base 32 2 (.slice (some ⟨b, 0, none⟩) 0 0) ([] : List M.Pr).length (flatP []) :=
  ⟨rfl, .inr ⟨b, 0, #[], rfl, hle, hb, Nat.le_refl _, Nat.zero_le _, rfl, rfl⟩⟩
theorem grown_below {w w' : World} {row : Option Nat} {B : Nat} (h : w.grownBy w' row) (hB : B ≤ w.heap.size) (hr : ∀ g, row = some g → B ≤ g) : Below B w w' :=
  ⟨h.os, h.tape, h.output, h.size, fun i hi => h.block i (by omega) (fun e => by have := hr i e.symm; omega)⟩
theorem RdP.take {w : World} {B : Nat} {A : Option Addr} {ps : List M.Pr} (h : RdP w B A ps) (k : Nat) : RdP w B A (ps.take k) := by
  intro j p hj
  have hjk : j < k := by
    have := (List.getElem?_eq_some_iff.1 hj).1
    rw [List.length_take] at this
    omega
  rw [List.getElem?_take_of_lt hjk] at hj
  exact h j p hj

end Go.Proofs.Ytoaogpipogeamaa

namespace Go.Proofs.Ytoaogpipogeamaa
open Go.RowKit
attribute [local go_sem ↓] Go.wp_at_zero Go.wp_at_succ

theorem RAt.set {w : World} {base : Nat} {m : M.Mt} {sv gv : Value} {b : Nat} {cs : Array Value} (h : RAt w base m sv gv) (hb : w.heap[b]? = some (.cells cs 79 (0, 0))) (i : Nat) (u : Value) : RAt (w.setCell ⟨b, i, none⟩ u) base m sv gv :=
  ⟨h.s.kept (setCell_grown w _ u) (.inr (row_ne h.s hb (by decide))), h.g.kept (setCell_grown w _ u) (.inr (row_ne h.g hb (by decide)))⟩
theorem RAt.alloc {w : World} {base : Nat} {m : M.Mt} {sv gv : Value} (h : RAt w base m sv gv) (o : Obj) : RAt (w.alloc o) base m sv gv := ⟨h.s.alloc o, h.g.alloc o⟩

theorem only_of_below' {a w : World} (h : Below a.heap.size a w) : a.grownBy w none := ⟨h.os, h.tape, h.output, h.size, fun i hi _ => h.block i hi⟩
theorem own_or_none (v : Value) : v.ownBlock = none ∨ v.ownBlock ≠ none := by cases v.ownBlock <;> simp
theorem RAt.drew {w : World} {base : Nat} {m : M.Mt} {sv gv : Value} (h : RAt w base m sv gv) : RAt w.drew base m sv gv := ⟨h.s, h.g⟩
theorem RAt.setRow {w : World} {base : Nat} {m : M.Mt} {sv gv : Value} {b : Nat} {cs cs' : Array Value} (h : RAt w base m sv gv) (hb : w.heap[b]? = some (.cells cs 79 (0, 0))) : RAt (w.setRow b cs') base m sv gv :=
  have hg : w.grownBy (w.setRow b cs') (some b) := ⟨rfl, rfl, rfl, by simp, fun k _ hk => setRow_other w _ k _ (fun e => hk (by rw [e]))⟩
  ⟨h.s.kept hg (.inr (row_ne h.s hb (by decide))), h.g.kept hg (.inr (row_ne h.g hb (by decide)))⟩
theorem below_row {B : Nat} {a w : World} (h : Below B a w) {b : Nat} (hb : B ≤ b) (cs : Array Value) : Below B a (w.setRow b cs) :=
  ⟨h.os, h.tape, h.output, by simp only [size_setRow]; exact h.size, fun i hi => (setRow_other _ _ i _ (by omega)).trans (h.block i hi)⟩
theorem refServer0_any (f : M.Fm) (first : Int) (game : Nat) (tie : Bool) (w : World) (hf0 : 0 ≤ first) (hf1 : first ≤ 1) (hg : game ≤ 10000) :
    Calls Try.prog 82 #[.agg #[.int .i64 f.sets, .int .i64 f.games, .bool f.noAd, .int .i64 f.tie, .int .i64 f.to, .int .i64 f.lastTie, .int .i64 f.lastTo, .int .i64 f.first, .int .i64 f.next, .bool f.doubles], .int .i64 first, .int .i64 (game : Int), .bool tie, .int .i64 0] w fun e w' => e = .returned (.int .i64 (M.serverOf first f.doubles game 0)) ∧ Below w.heap.size w w' := by
  have h := refServer_any f first game tie 0 w hf0 hf1 hg (by omega) (by omega)
  cases tie
  · exact h
  · exact h
theorem leads_cases (p : M.Pr) (n : Int) : M.leads p n = 0 ∨ M.leads p n = 1 ∨ M.leads p n = -1 := by
  unfold M.leads
  split
  · exact .inl rfl
  · split
    · exact .inr (.inl rfl)
    · exact .inr (.inr rfl)
theorem gameWinner_cases (f : M.Fm) (p : M.Pr) : M.gameWinner f p = 0 ∨ M.gameWinner f p = 1 ∨ M.gameWinner f p = -1 := by
  unfold M.gameWinner
  split
  · split
    · exact .inl rfl
    · split
      · exact .inr (.inl rfl)
      · exact .inr (.inr rfl)
  · exact leads_cases p 4
theorem flatG_one' (l : List M.Gm) : ∀ u ∈ flatG l, u.oneCell' = true := by
  intro u hu
  simp only [flatG, List.mem_flatMap, List.mem_cons, List.not_mem_nil, or_false] at hu
  obtain ⟨p, _, rfl | rfl | rfl | rfl | rfl | rfl | rfl⟩ := hu <;> rfl

end Go.Proofs.Ytoaogpipogeamaa

namespace Go.Proofs.Ytoaogpipogeamaa
open Go.RowKit
attribute [local go_sem ↓] Go.wp_at_zero Go.wp_at_succ

namespace M
def rnext (m : Mt) : Int := if 0 ≤ m.winner then -1 else serverOf m.opens m.f.doubles m.log.length (if rtied m.f m.sets m.games then (m.pts.A + m.pts.B + 1) / 2 else 0)
def rstart (f : Fm) (first : Int) : Mt := rbegin { start f first with server := 0 }
end M

set_option maxHeartbeats 8000000 in
set_option maxRecDepth 100000 in
theorem refNext_any {w : World} {base : Nat} {m : M.Mt} {sv gv : Value} (h : RAt w base m sv gv) (hv : M.Valid m.f) (hn : m.log.length ≤ 900) (hs : m.sets.length ≤ 900) (hop : 0 ≤ m.opens ∧ m.opens ≤ 1) (hpt : 0 ≤ m.pts.A ∧ 0 ≤ m.pts.B ∧ m.pts.A ≤ 900 ∧ m.pts.B ≤ 900) :
    Calls Try.prog 65 #[.agg #[.int .i64 (m.f).sets, .int .i64 (m.f).games, .bool (m.f).noAd, .int .i64 (m.f).tie, .int .i64 (m.f).to, .int .i64 (m.f).lastTie, .int .i64 (m.f).lastTo, .int .i64 (m.f).first, .int .i64 (m.f).next, .bool (m.f).doubles], .agg #[sv, .int .i64 m.games.A, .int .i64 m.games.B, .int .i64 m.pts.A, .int .i64 m.pts.B, .int .i64 m.server, .int .i64 m.ends, .int .i64 m.balls, .int .i64 m.winner, .int .i64 m.opens, gv, .bool m.fresh]] w fun e w' => e = .returned (.int .i64 (M.rnext m)) ∧ Below w.heap.size w w' := by
  obtain ⟨A, c, rfl⟩ := own_form h.s
  obtain ⟨A2, c2, rfl⟩ := own_form h.g
  have H := hide h
  have HV := hide hv
  obtain ⟨ho0, ho1⟩ := hop
  obtain ⟨hp0, hp1, hp2, hp3⟩ := hpt
  clear h hv
  by_cases hw : 0 ≤ m.winner
  · have ho : M.rnext m = -1 := if_pos hw
    rw [ho]; clear ho
    go_enter Try.func65, Try.ntmps65
    go_wp2
    go_ret
    exact ⟨rfl, by (repeat' first | exact zbR _ _ | assumption | refine zbD ?_ | refine zbA ?_ ?_ _ | refine zbS ?_ ?_ _ | refine zbT ?_ (by assumption) ?_ | (simp; done) | (simp; omega) | omega)⟩
  · have HO : Hid (M.rnext m = M.serverOf m.opens m.f.doubles m.log.length (if M.rtied m.f m.sets m.games then (m.pts.A + m.pts.B + 1) / 2 else 0)) := hide (if_neg hw)
    go_enter Try.func65, Try.ntmps65
    go_upto_region 4 with (first | (go_at_call 50; refine (refTied_any m.f A _ c m.sets m.games m.pts _ HV.out rfl ((H.out.below (Below.alloc (Below.alloc (Below.refl _ _) (Nat.le_refl _) _) (by simp) _)).rd rfl) (by omega)).mono ?_; rintro e w1 ⟨rfl, hb1'⟩; have hx0 := (hb1'.block w.heap.size (by simp; omega)).trans (heap_alloc2_old w _ _); have hx1 := (hb1'.block (w.heap.size + 1) (by simp)).trans (heap_alloc2_new w _ _); have HB1 := hide (show Below w.heap.size w w1 from Below.trans (by (repeat' first | exact zbR _ _ | assumption | refine zbD ?_ | refine zbA ?_ ?_ _ | refine zbS ?_ ?_ _ | refine zbT ?_ (by assumption) ?_ | (simp; done) | (simp; omega) | omega)) (hb1'.mono (by simp; omega))); clear hb1'))
    have hc0 := fun i => cell_of_row w1 w.heap.size i _ _ _ hx0
    have hc1 := fun i => cell_of_row w1 (w.heap.size + 1) i _ _ _ hx1
    go_wp2_with (first | (go_at_call 82; refine (refServer_any m.f m.opens _ _ _ _ ho0 ho1 (by omega) (by omega) (by omega)).mono ?_; rintro e w2 ⟨rfl, hb⟩))
    all_goals
      go_ret
      exact ⟨by rw [HO.out]; simp [*], HB1.out.trans (hb.mono HB1.out.size)⟩

theorem begin_row (f : M.Fm) (first : Int) : (Ending.returned (.agg #[.slice none 0 0, .int .i64 (M.rstart f first).games.A, .int .i64 (M.rstart f first).games.B, .int .i64 (M.rstart f first).pts.A, .int .i64 (M.rstart f first).pts.B, .int .i64 (M.rstart f first).server, .int .i64 (M.rstart f first).ends, .int .i64 (M.rstart f first).balls, .int .i64 (M.rstart f first).winner, .int .i64 (M.rstart f first).opens, .slice none 0 0, .bool (M.rstart f first).fresh])) = Ending.returned (.agg #[.slice none 0 0, .int .i64 (M.rbegin { M.start f first with server := 0 }).games.A, .int .i64 (M.rbegin { M.start f first with server := 0 }).games.B, .int .i64 (M.rbegin { M.start f first with server := 0 }).pts.A, .int .i64 (M.rbegin { M.start f first with server := 0 }).pts.B, .int .i64 (M.rbegin { M.start f first with server := 0 }).server, .int .i64 (M.rbegin { M.start f first with server := 0 }).ends, .int .i64 (M.rbegin { M.start f first with server := 0 }).balls, .int .i64 (M.rbegin { M.start f first with server := 0 }).winner, .int .i64 (M.rbegin { M.start f first with server := 0 }).opens, .slice none 0 0, .bool (M.rbegin { M.start f first with server := 0 }).fresh]) := rfl

set_option maxHeartbeats 4000000 in
set_option maxRecDepth 100000 in
theorem refBegin_any (f : M.Fm) (first : Int) (w : World) (hv : M.Valid f) :
    Calls Try.prog 63 #[.agg #[.int .i64 f.sets, .int .i64 f.games, .bool f.noAd, .int .i64 f.tie, .int .i64 f.to, .int .i64 f.lastTie, .int .i64 f.lastTo, .int .i64 f.first, .int .i64 f.next, .bool f.doubles], .int .i64 first] w fun e w' => e = .returned (.agg #[.slice none 0 0, .int .i64 (M.rstart f first).games.A, .int .i64 (M.rstart f first).games.B, .int .i64 (M.rstart f first).pts.A, .int .i64 (M.rstart f first).pts.B, .int .i64 (M.rstart f first).server, .int .i64 (M.rstart f first).ends, .int .i64 (M.rstart f first).balls, .int .i64 (M.rstart f first).winner, .int .i64 (M.rstart f first).opens, .slice none 0 0, .bool (M.rstart f first).fresh]) ∧ Below w.heap.size w w' := by
  have HV := hide hv
  clear hv
  go_enter Try.func63, Try.ntmps63
  go_wp2_with (first | (go_at_call 80; refine (refbegin_any (m := { M.start f first with server := 0 }) (base := 0) (sv := .slice none 0 0) (gv := .slice none 0 0) ⟨World.ownsRow_nil _ _ _ _, World.ownsRow_nil _ _ _ _⟩ HV.out (by simp [M.start]) (by simp [M.start]) (by simp [M.start])).mono ?_; rintro e w1 ⟨rfl, hb⟩; have hx1 := (hb.block (w.heap.size + 1) (by simp)).trans (heap_alloc2_new w _ _); have HB1 := hide (show Below w.heap.size w w1 from Below.trans (by (repeat' first | exact zbR _ _ | assumption | refine zbD ?_ | refine zbA ?_ ?_ _ | refine zbS ?_ ?_ _ | refine zbT ?_ (by assumption) ?_ | (simp; done) | (simp; omega) | omega)) (hb.mono (by simp; omega))); clear hb) | (refine wpList_store_row rfl 79 _ _ rfl (w.heap.size + 1) _ rfl rfl 79 _ hx1 matchRow75 rfl (by simp [Value.oneCell']) ?_))
  refine bodyPost_ret (results_row1 Try.results63 _ _ (w.heap.size + 1) _ _ _ _ rfl (setRow_heap _ _ _ _ _ _ hx1) Try.underlying79 rfl matchRow75) rfl ⟨rfl, ?_⟩
  exact below_row HB1.out (by omega) _

end Go.Proofs.Ytoaogpipogeamaa

namespace Go.Proofs.Ytoaogpipogeamaa
open Go.RowKit

set_option maxHeartbeats 1600000 in
theorem RefCheck_no1 (f : M.Fm) (w : World) (h1 : M.within f.sets 1 3 = false) :
    Calls Try.prog 12 #[.agg #[.int .i64 f.sets, .int .i64 f.games, .bool f.noAd, .int .i64 f.tie, .int .i64 f.to, .int .i64 f.lastTie, .int .i64 f.lastTo, .int .i64 f.first, .int .i64 f.next, .bool f.doubles]] w fun e w' => e = .returned (.int .i64 (if 1 = 9 then 0 else 10)) ∧ Below w.heap.size w w' := by
  have hgb := fun (h : M.within f.games 1 8 = true) => (of_decide_eq_true (by simpa [M.within] using h) : 1 ≤ f.games ∧ f.games ≤ 8)
  have ho : (if 1 = 9 then 0 else 10 : Int) = if 1 = 9 then 0 else 10 := rfl
  simp only [Nat.reduceEqDiff, if_true, if_false, Nat.succ_ne_self, reduceIte]
  clear ho
  go_enter Try.func12, Try.ntmps12
  go_wp2_with (first | (go_at_call 37; refine (refWithin_any _ _ _ _).mono ?_; rintro e w2 ⟨rfl, hb⟩; obtain ⟨hc, hf⟩ := bcell hb; have hz := hb.size; (try simp at hz); have hSn : ((fun w' => Below w.heap.size w w' ∧ w.heap.size < w'.heap.size ∧ w'.cell? ⟨w.heap.size, 0, none⟩ = some (.int .i64 f.sets) ∧ w'.cell? ⟨w.heap.size, 1, none⟩ = some (.int .i64 f.games) ∧ w'.cell? ⟨w.heap.size, 2, none⟩ = some (.bool f.noAd) ∧ w'.cell? ⟨w.heap.size, 3, none⟩ = some (.int .i64 f.tie) ∧ w'.cell? ⟨w.heap.size, 4, none⟩ = some (.int .i64 f.to) ∧ w'.cell? ⟨w.heap.size, 5, none⟩ = some (.int .i64 f.lastTie) ∧ w'.cell? ⟨w.heap.size, 6, none⟩ = some (.int .i64 f.lastTo) ∧ w'.cell? ⟨w.heap.size, 7, none⟩ = some (.int .i64 f.first) ∧ w'.cell? ⟨w.heap.size, 8, none⟩ = some (.int .i64 f.next) ∧ w'.cell? ⟨w.heap.size, 9, none⟩ = some (.bool f.doubles))) w2 := (by (try dsimp only); (first | (go_keep; done) | (go_split_ands; (repeat' apply And.intro) <;> first | (go_keep; done) | (simp [*, zcA, zcP, zfA, zfP]; done) | (simp [zcA, zcP] <;> rfl) | (simp [*, zsS, zsO, zsA]; done) | ((first | refine (hc _ _ ?_).trans ?_ | refine (hf _ _ ?_).trans ?_) <;> first | assumption | (simp; done) | (simp; omega) | omega | (go_keep; done) | (simp [*, zcA, zcP, zfA, zfP]; done) | (simp [zcA, zcP]; rfl)) | (repeat' first | exact zbR _ _ | assumption | refine zbD ?_ | refine zbA ?_ ?_ _ | refine zbS ?_ ?_ _ | refine zbT ?_ (by assumption) ?_ | (simp; done) | (simp; omega) | omega)))); (try dsimp only at hSn); (try clear hS); have hS := hSn; clear hSn hc hf) | (go_at_call 38; refine (refTie_any f _ _ (by have := hgb h2; omega) (by have := hgb h2; omega)).mono ?_; rintro e w2 ⟨rfl, hb⟩; obtain ⟨hc, hf⟩ := bcell hb; have hz := hb.size; (try simp at hz); have hSn : ((fun w' => Below w.heap.size w w' ∧ w.heap.size < w'.heap.size ∧ w'.cell? ⟨w.heap.size, 0, none⟩ = some (.int .i64 f.sets) ∧ w'.cell? ⟨w.heap.size, 1, none⟩ = some (.int .i64 f.games) ∧ w'.cell? ⟨w.heap.size, 2, none⟩ = some (.bool f.noAd) ∧ w'.cell? ⟨w.heap.size, 3, none⟩ = some (.int .i64 f.tie) ∧ w'.cell? ⟨w.heap.size, 4, none⟩ = some (.int .i64 f.to) ∧ w'.cell? ⟨w.heap.size, 5, none⟩ = some (.int .i64 f.lastTie) ∧ w'.cell? ⟨w.heap.size, 6, none⟩ = some (.int .i64 f.lastTo) ∧ w'.cell? ⟨w.heap.size, 7, none⟩ = some (.int .i64 f.first) ∧ w'.cell? ⟨w.heap.size, 8, none⟩ = some (.int .i64 f.next) ∧ w'.cell? ⟨w.heap.size, 9, none⟩ = some (.bool f.doubles))) w2 := (by (try dsimp only); (first | (go_keep; done) | (go_split_ands; (repeat' apply And.intro) <;> first | (go_keep; done) | (simp [*, zcA, zcP, zfA, zfP]; done) | (simp [zcA, zcP] <;> rfl) | (simp [*, zsS, zsO, zsA]; done) | ((first | refine (hc _ _ ?_).trans ?_ | refine (hf _ _ ?_).trans ?_) <;> first | assumption | (simp; done) | (simp; omega) | omega | (go_keep; done) | (simp [*, zcA, zcP, zfA, zfP]; done) | (simp [zcA, zcP]; rfl)) | (repeat' first | exact zbR _ _ | assumption | refine zbD ?_ | refine zbA ?_ ?_ _ | refine zbS ?_ ?_ _ | refine zbT ?_ (by assumption) ?_ | (simp; done) | (simp; omega) | omega)))); (try dsimp only at hSn); (try clear hS); have hS := hSn; clear hSn hc hf))
  go_ret
  exact ⟨rfl, by (go_split_ands; (repeat' first | exact zbR _ _ | assumption | refine zbD ?_ | refine zbA ?_ ?_ _ | refine zbS ?_ ?_ _ | refine zbT ?_ (by assumption) ?_ | (simp; done) | (simp; omega) | omega))⟩

set_option maxHeartbeats 1600000 in
theorem RefCheck_no2 (f : M.Fm) (w : World) (h1 : M.within f.sets 1 3 = true) (h2 : M.within f.games 1 8 = false) :
    Calls Try.prog 12 #[.agg #[.int .i64 f.sets, .int .i64 f.games, .bool f.noAd, .int .i64 f.tie, .int .i64 f.to, .int .i64 f.lastTie, .int .i64 f.lastTo, .int .i64 f.first, .int .i64 f.next, .bool f.doubles]] w fun e w' => e = .returned (.int .i64 (if 2 = 9 then 0 else 10)) ∧ Below w.heap.size w w' := by
  have hgb := fun (h : M.within f.games 1 8 = true) => (of_decide_eq_true (by simpa [M.within] using h) : 1 ≤ f.games ∧ f.games ≤ 8)
  have ho : (if 2 = 9 then 0 else 10 : Int) = if 2 = 9 then 0 else 10 := rfl
  simp only [Nat.reduceEqDiff, if_true, if_false, Nat.succ_ne_self, reduceIte]
  clear ho
  go_enter Try.func12, Try.ntmps12
  go_wp2_with (first | (go_at_call 37; refine (refWithin_any _ _ _ _).mono ?_; rintro e w2 ⟨rfl, hb⟩; obtain ⟨hc, hf⟩ := bcell hb; have hz := hb.size; (try simp at hz); have hSn : ((fun w' => Below w.heap.size w w' ∧ w.heap.size < w'.heap.size ∧ w'.cell? ⟨w.heap.size, 0, none⟩ = some (.int .i64 f.sets) ∧ w'.cell? ⟨w.heap.size, 1, none⟩ = some (.int .i64 f.games) ∧ w'.cell? ⟨w.heap.size, 2, none⟩ = some (.bool f.noAd) ∧ w'.cell? ⟨w.heap.size, 3, none⟩ = some (.int .i64 f.tie) ∧ w'.cell? ⟨w.heap.size, 4, none⟩ = some (.int .i64 f.to) ∧ w'.cell? ⟨w.heap.size, 5, none⟩ = some (.int .i64 f.lastTie) ∧ w'.cell? ⟨w.heap.size, 6, none⟩ = some (.int .i64 f.lastTo) ∧ w'.cell? ⟨w.heap.size, 7, none⟩ = some (.int .i64 f.first) ∧ w'.cell? ⟨w.heap.size, 8, none⟩ = some (.int .i64 f.next) ∧ w'.cell? ⟨w.heap.size, 9, none⟩ = some (.bool f.doubles))) w2 := (by (try dsimp only); (first | (go_keep; done) | (go_split_ands; (repeat' apply And.intro) <;> first | (go_keep; done) | (simp [*, zcA, zcP, zfA, zfP]; done) | (simp [zcA, zcP] <;> rfl) | (simp [*, zsS, zsO, zsA]; done) | ((first | refine (hc _ _ ?_).trans ?_ | refine (hf _ _ ?_).trans ?_) <;> first | assumption | (simp; done) | (simp; omega) | omega | (go_keep; done) | (simp [*, zcA, zcP, zfA, zfP]; done) | (simp [zcA, zcP]; rfl)) | (repeat' first | exact zbR _ _ | assumption | refine zbD ?_ | refine zbA ?_ ?_ _ | refine zbS ?_ ?_ _ | refine zbT ?_ (by assumption) ?_ | (simp; done) | (simp; omega) | omega)))); (try dsimp only at hSn); (try clear hS); have hS := hSn; clear hSn hc hf) | (go_at_call 38; refine (refTie_any f _ _ (by have := hgb h2; omega) (by have := hgb h2; omega)).mono ?_; rintro e w2 ⟨rfl, hb⟩; obtain ⟨hc, hf⟩ := bcell hb; have hz := hb.size; (try simp at hz); have hSn : ((fun w' => Below w.heap.size w w' ∧ w.heap.size < w'.heap.size ∧ w'.cell? ⟨w.heap.size, 0, none⟩ = some (.int .i64 f.sets) ∧ w'.cell? ⟨w.heap.size, 1, none⟩ = some (.int .i64 f.games) ∧ w'.cell? ⟨w.heap.size, 2, none⟩ = some (.bool f.noAd) ∧ w'.cell? ⟨w.heap.size, 3, none⟩ = some (.int .i64 f.tie) ∧ w'.cell? ⟨w.heap.size, 4, none⟩ = some (.int .i64 f.to) ∧ w'.cell? ⟨w.heap.size, 5, none⟩ = some (.int .i64 f.lastTie) ∧ w'.cell? ⟨w.heap.size, 6, none⟩ = some (.int .i64 f.lastTo) ∧ w'.cell? ⟨w.heap.size, 7, none⟩ = some (.int .i64 f.first) ∧ w'.cell? ⟨w.heap.size, 8, none⟩ = some (.int .i64 f.next) ∧ w'.cell? ⟨w.heap.size, 9, none⟩ = some (.bool f.doubles))) w2 := (by (try dsimp only); (first | (go_keep; done) | (go_split_ands; (repeat' apply And.intro) <;> first | (go_keep; done) | (simp [*, zcA, zcP, zfA, zfP]; done) | (simp [zcA, zcP] <;> rfl) | (simp [*, zsS, zsO, zsA]; done) | ((first | refine (hc _ _ ?_).trans ?_ | refine (hf _ _ ?_).trans ?_) <;> first | assumption | (simp; done) | (simp; omega) | omega | (go_keep; done) | (simp [*, zcA, zcP, zfA, zfP]; done) | (simp [zcA, zcP]; rfl)) | (repeat' first | exact zbR _ _ | assumption | refine zbD ?_ | refine zbA ?_ ?_ _ | refine zbS ?_ ?_ _ | refine zbT ?_ (by assumption) ?_ | (simp; done) | (simp; omega) | omega)))); (try dsimp only at hSn); (try clear hS); have hS := hSn; clear hSn hc hf))
  go_ret
  exact ⟨rfl, by (go_split_ands; (repeat' first | exact zbR _ _ | assumption | refine zbD ?_ | refine zbA ?_ ?_ _ | refine zbS ?_ ?_ _ | refine zbT ?_ (by assumption) ?_ | (simp; done) | (simp; omega) | omega))⟩

set_option maxHeartbeats 1600000 in
theorem RefCheck_no3 (f : M.Fm) (w : World) (h1 : M.within f.sets 1 3 = true) (h2 : M.within f.games 1 8 = true) (h3 : M.tieOk f.games f.tie = false) :
    Calls Try.prog 12 #[.agg #[.int .i64 f.sets, .int .i64 f.games, .bool f.noAd, .int .i64 f.tie, .int .i64 f.to, .int .i64 f.lastTie, .int .i64 f.lastTo, .int .i64 f.first, .int .i64 f.next, .bool f.doubles]] w fun e w' => e = .returned (.int .i64 (if 3 = 9 then 0 else 10)) ∧ Below w.heap.size w w' := by
  have hgb := fun (h : M.within f.games 1 8 = true) => (of_decide_eq_true (by simpa [M.within] using h) : 1 ≤ f.games ∧ f.games ≤ 8)
  have ho : (if 3 = 9 then 0 else 10 : Int) = if 3 = 9 then 0 else 10 := rfl
  simp only [Nat.reduceEqDiff, if_true, if_false, Nat.succ_ne_self, reduceIte]
  clear ho
  go_enter Try.func12, Try.ntmps12
  go_wp2_with (first | (go_at_call 37; refine (refWithin_any _ _ _ _).mono ?_; rintro e w2 ⟨rfl, hb⟩; obtain ⟨hc, hf⟩ := bcell hb; have hz := hb.size; (try simp at hz); have hSn : ((fun w' => Below w.heap.size w w' ∧ w.heap.size < w'.heap.size ∧ w'.cell? ⟨w.heap.size, 0, none⟩ = some (.int .i64 f.sets) ∧ w'.cell? ⟨w.heap.size, 1, none⟩ = some (.int .i64 f.games) ∧ w'.cell? ⟨w.heap.size, 2, none⟩ = some (.bool f.noAd) ∧ w'.cell? ⟨w.heap.size, 3, none⟩ = some (.int .i64 f.tie) ∧ w'.cell? ⟨w.heap.size, 4, none⟩ = some (.int .i64 f.to) ∧ w'.cell? ⟨w.heap.size, 5, none⟩ = some (.int .i64 f.lastTie) ∧ w'.cell? ⟨w.heap.size, 6, none⟩ = some (.int .i64 f.lastTo) ∧ w'.cell? ⟨w.heap.size, 7, none⟩ = some (.int .i64 f.first) ∧ w'.cell? ⟨w.heap.size, 8, none⟩ = some (.int .i64 f.next) ∧ w'.cell? ⟨w.heap.size, 9, none⟩ = some (.bool f.doubles))) w2 := (by (try dsimp only); (first | (go_keep; done) | (go_split_ands; (repeat' apply And.intro) <;> first | (go_keep; done) | (simp [*, zcA, zcP, zfA, zfP]; done) | (simp [zcA, zcP] <;> rfl) | (simp [*, zsS, zsO, zsA]; done) | ((first | refine (hc _ _ ?_).trans ?_ | refine (hf _ _ ?_).trans ?_) <;> first | assumption | (simp; done) | (simp; omega) | omega | (go_keep; done) | (simp [*, zcA, zcP, zfA, zfP]; done) | (simp [zcA, zcP]; rfl)) | (repeat' first | exact zbR _ _ | assumption | refine zbD ?_ | refine zbA ?_ ?_ _ | refine zbS ?_ ?_ _ | refine zbT ?_ (by assumption) ?_ | (simp; done) | (simp; omega) | omega)))); (try dsimp only at hSn); (try clear hS); have hS := hSn; clear hSn hc hf) | (go_at_call 38; refine (refTie_any f _ _ (by have := hgb h2; omega) (by have := hgb h2; omega)).mono ?_; rintro e w2 ⟨rfl, hb⟩; obtain ⟨hc, hf⟩ := bcell hb; have hz := hb.size; (try simp at hz); have hSn : ((fun w' => Below w.heap.size w w' ∧ w.heap.size < w'.heap.size ∧ w'.cell? ⟨w.heap.size, 0, none⟩ = some (.int .i64 f.sets) ∧ w'.cell? ⟨w.heap.size, 1, none⟩ = some (.int .i64 f.games) ∧ w'.cell? ⟨w.heap.size, 2, none⟩ = some (.bool f.noAd) ∧ w'.cell? ⟨w.heap.size, 3, none⟩ = some (.int .i64 f.tie) ∧ w'.cell? ⟨w.heap.size, 4, none⟩ = some (.int .i64 f.to) ∧ w'.cell? ⟨w.heap.size, 5, none⟩ = some (.int .i64 f.lastTie) ∧ w'.cell? ⟨w.heap.size, 6, none⟩ = some (.int .i64 f.lastTo) ∧ w'.cell? ⟨w.heap.size, 7, none⟩ = some (.int .i64 f.first) ∧ w'.cell? ⟨w.heap.size, 8, none⟩ = some (.int .i64 f.next) ∧ w'.cell? ⟨w.heap.size, 9, none⟩ = some (.bool f.doubles))) w2 := (by (try dsimp only); (first | (go_keep; done) | (go_split_ands; (repeat' apply And.intro) <;> first | (go_keep; done) | (simp [*, zcA, zcP, zfA, zfP]; done) | (simp [zcA, zcP] <;> rfl) | (simp [*, zsS, zsO, zsA]; done) | ((first | refine (hc _ _ ?_).trans ?_ | refine (hf _ _ ?_).trans ?_) <;> first | assumption | (simp; done) | (simp; omega) | omega | (go_keep; done) | (simp [*, zcA, zcP, zfA, zfP]; done) | (simp [zcA, zcP]; rfl)) | (repeat' first | exact zbR _ _ | assumption | refine zbD ?_ | refine zbA ?_ ?_ _ | refine zbS ?_ ?_ _ | refine zbT ?_ (by assumption) ?_ | (simp; done) | (simp; omega) | omega)))); (try dsimp only at hSn); (try clear hS); have hS := hSn; clear hSn hc hf))
  go_ret
  exact ⟨rfl, by (go_split_ands; (repeat' first | exact zbR _ _ | assumption | refine zbD ?_ | refine zbA ?_ ?_ _ | refine zbS ?_ ?_ _ | refine zbT ?_ (by assumption) ?_ | (simp; done) | (simp; omega) | omega))⟩

set_option maxHeartbeats 1600000 in
theorem RefCheck_no4 (f : M.Fm) (w : World) (h1 : M.within f.sets 1 3 = true) (h2 : M.within f.games 1 8 = true) (h3 : M.tieOk f.games f.tie = true) (h4 : M.tieOk f.games f.lastTie = false) :
    Calls Try.prog 12 #[.agg #[.int .i64 f.sets, .int .i64 f.games, .bool f.noAd, .int .i64 f.tie, .int .i64 f.to, .int .i64 f.lastTie, .int .i64 f.lastTo, .int .i64 f.first, .int .i64 f.next, .bool f.doubles]] w fun e w' => e = .returned (.int .i64 (if 4 = 9 then 0 else 10)) ∧ Below w.heap.size w w' := by
  have hgb := fun (h : M.within f.games 1 8 = true) => (of_decide_eq_true (by simpa [M.within] using h) : 1 ≤ f.games ∧ f.games ≤ 8)
  have ho : (if 4 = 9 then 0 else 10 : Int) = if 4 = 9 then 0 else 10 := rfl
  simp only [Nat.reduceEqDiff, if_true, if_false, Nat.succ_ne_self, reduceIte]
  clear ho
  go_enter Try.func12, Try.ntmps12
  go_wp2_with (first | (go_at_call 37; refine (refWithin_any _ _ _ _).mono ?_; rintro e w2 ⟨rfl, hb⟩; obtain ⟨hc, hf⟩ := bcell hb; have hz := hb.size; (try simp at hz); have hSn : ((fun w' => Below w.heap.size w w' ∧ w.heap.size < w'.heap.size ∧ w'.cell? ⟨w.heap.size, 0, none⟩ = some (.int .i64 f.sets) ∧ w'.cell? ⟨w.heap.size, 1, none⟩ = some (.int .i64 f.games) ∧ w'.cell? ⟨w.heap.size, 2, none⟩ = some (.bool f.noAd) ∧ w'.cell? ⟨w.heap.size, 3, none⟩ = some (.int .i64 f.tie) ∧ w'.cell? ⟨w.heap.size, 4, none⟩ = some (.int .i64 f.to) ∧ w'.cell? ⟨w.heap.size, 5, none⟩ = some (.int .i64 f.lastTie) ∧ w'.cell? ⟨w.heap.size, 6, none⟩ = some (.int .i64 f.lastTo) ∧ w'.cell? ⟨w.heap.size, 7, none⟩ = some (.int .i64 f.first) ∧ w'.cell? ⟨w.heap.size, 8, none⟩ = some (.int .i64 f.next) ∧ w'.cell? ⟨w.heap.size, 9, none⟩ = some (.bool f.doubles))) w2 := (by (try dsimp only); (first | (go_keep; done) | (go_split_ands; (repeat' apply And.intro) <;> first | (go_keep; done) | (simp [*, zcA, zcP, zfA, zfP]; done) | (simp [zcA, zcP] <;> rfl) | (simp [*, zsS, zsO, zsA]; done) | ((first | refine (hc _ _ ?_).trans ?_ | refine (hf _ _ ?_).trans ?_) <;> first | assumption | (simp; done) | (simp; omega) | omega | (go_keep; done) | (simp [*, zcA, zcP, zfA, zfP]; done) | (simp [zcA, zcP]; rfl)) | (repeat' first | exact zbR _ _ | assumption | refine zbD ?_ | refine zbA ?_ ?_ _ | refine zbS ?_ ?_ _ | refine zbT ?_ (by assumption) ?_ | (simp; done) | (simp; omega) | omega)))); (try dsimp only at hSn); (try clear hS); have hS := hSn; clear hSn hc hf) | (go_at_call 38; refine (refTie_any f _ _ (by have := hgb h2; omega) (by have := hgb h2; omega)).mono ?_; rintro e w2 ⟨rfl, hb⟩; obtain ⟨hc, hf⟩ := bcell hb; have hz := hb.size; (try simp at hz); have hSn : ((fun w' => Below w.heap.size w w' ∧ w.heap.size < w'.heap.size ∧ w'.cell? ⟨w.heap.size, 0, none⟩ = some (.int .i64 f.sets) ∧ w'.cell? ⟨w.heap.size, 1, none⟩ = some (.int .i64 f.games) ∧ w'.cell? ⟨w.heap.size, 2, none⟩ = some (.bool f.noAd) ∧ w'.cell? ⟨w.heap.size, 3, none⟩ = some (.int .i64 f.tie) ∧ w'.cell? ⟨w.heap.size, 4, none⟩ = some (.int .i64 f.to) ∧ w'.cell? ⟨w.heap.size, 5, none⟩ = some (.int .i64 f.lastTie) ∧ w'.cell? ⟨w.heap.size, 6, none⟩ = some (.int .i64 f.lastTo) ∧ w'.cell? ⟨w.heap.size, 7, none⟩ = some (.int .i64 f.first) ∧ w'.cell? ⟨w.heap.size, 8, none⟩ = some (.int .i64 f.next) ∧ w'.cell? ⟨w.heap.size, 9, none⟩ = some (.bool f.doubles))) w2 := (by (try dsimp only); (first | (go_keep; done) | (go_split_ands; (repeat' apply And.intro) <;> first | (go_keep; done) | (simp [*, zcA, zcP, zfA, zfP]; done) | (simp [zcA, zcP] <;> rfl) | (simp [*, zsS, zsO, zsA]; done) | ((first | refine (hc _ _ ?_).trans ?_ | refine (hf _ _ ?_).trans ?_) <;> first | assumption | (simp; done) | (simp; omega) | omega | (go_keep; done) | (simp [*, zcA, zcP, zfA, zfP]; done) | (simp [zcA, zcP]; rfl)) | (repeat' first | exact zbR _ _ | assumption | refine zbD ?_ | refine zbA ?_ ?_ _ | refine zbS ?_ ?_ _ | refine zbT ?_ (by assumption) ?_ | (simp; done) | (simp; omega) | omega)))); (try dsimp only at hSn); (try clear hS); have hS := hSn; clear hSn hc hf))
  go_ret
  exact ⟨rfl, by (go_split_ands; (repeat' first | exact zbR _ _ | assumption | refine zbD ?_ | refine zbA ?_ ?_ _ | refine zbS ?_ ?_ _ | refine zbT ?_ (by assumption) ?_ | (simp; done) | (simp; omega) | omega))⟩

set_option maxHeartbeats 1600000 in
theorem RefCheck_no5 (f : M.Fm) (w : World) (h1 : M.within f.sets 1 3 = true) (h2 : M.within f.games 1 8 = true) (h3 : M.tieOk f.games f.tie = true) (h4 : M.tieOk f.games f.lastTie = true) (h5 : M.within f.to 1 15 = false) :
    Calls Try.prog 12 #[.agg #[.int .i64 f.sets, .int .i64 f.games, .bool f.noAd, .int .i64 f.tie, .int .i64 f.to, .int .i64 f.lastTie, .int .i64 f.lastTo, .int .i64 f.first, .int .i64 f.next, .bool f.doubles]] w fun e w' => e = .returned (.int .i64 (if 5 = 9 then 0 else 10)) ∧ Below w.heap.size w w' := by
  have hgb := fun (h : M.within f.games 1 8 = true) => (of_decide_eq_true (by simpa [M.within] using h) : 1 ≤ f.games ∧ f.games ≤ 8)
  have ho : (if 5 = 9 then 0 else 10 : Int) = if 5 = 9 then 0 else 10 := rfl
  simp only [Nat.reduceEqDiff, if_true, if_false, Nat.succ_ne_self, reduceIte]
  clear ho
  go_enter Try.func12, Try.ntmps12
  go_wp2_with (first | (go_at_call 37; refine (refWithin_any _ _ _ _).mono ?_; rintro e w2 ⟨rfl, hb⟩; obtain ⟨hc, hf⟩ := bcell hb; have hz := hb.size; (try simp at hz); have hSn : ((fun w' => Below w.heap.size w w' ∧ w.heap.size < w'.heap.size ∧ w'.cell? ⟨w.heap.size, 0, none⟩ = some (.int .i64 f.sets) ∧ w'.cell? ⟨w.heap.size, 1, none⟩ = some (.int .i64 f.games) ∧ w'.cell? ⟨w.heap.size, 2, none⟩ = some (.bool f.noAd) ∧ w'.cell? ⟨w.heap.size, 3, none⟩ = some (.int .i64 f.tie) ∧ w'.cell? ⟨w.heap.size, 4, none⟩ = some (.int .i64 f.to) ∧ w'.cell? ⟨w.heap.size, 5, none⟩ = some (.int .i64 f.lastTie) ∧ w'.cell? ⟨w.heap.size, 6, none⟩ = some (.int .i64 f.lastTo) ∧ w'.cell? ⟨w.heap.size, 7, none⟩ = some (.int .i64 f.first) ∧ w'.cell? ⟨w.heap.size, 8, none⟩ = some (.int .i64 f.next) ∧ w'.cell? ⟨w.heap.size, 9, none⟩ = some (.bool f.doubles))) w2 := (by (try dsimp only); (first | (go_keep; done) | (go_split_ands; (repeat' apply And.intro) <;> first | (go_keep; done) | (simp [*, zcA, zcP, zfA, zfP]; done) | (simp [zcA, zcP] <;> rfl) | (simp [*, zsS, zsO, zsA]; done) | ((first | refine (hc _ _ ?_).trans ?_ | refine (hf _ _ ?_).trans ?_) <;> first | assumption | (simp; done) | (simp; omega) | omega | (go_keep; done) | (simp [*, zcA, zcP, zfA, zfP]; done) | (simp [zcA, zcP]; rfl)) | (repeat' first | exact zbR _ _ | assumption | refine zbD ?_ | refine zbA ?_ ?_ _ | refine zbS ?_ ?_ _ | refine zbT ?_ (by assumption) ?_ | (simp; done) | (simp; omega) | omega)))); (try dsimp only at hSn); (try clear hS); have hS := hSn; clear hSn hc hf) | (go_at_call 38; refine (refTie_any f _ _ (by have := hgb h2; omega) (by have := hgb h2; omega)).mono ?_; rintro e w2 ⟨rfl, hb⟩; obtain ⟨hc, hf⟩ := bcell hb; have hz := hb.size; (try simp at hz); have hSn : ((fun w' => Below w.heap.size w w' ∧ w.heap.size < w'.heap.size ∧ w'.cell? ⟨w.heap.size, 0, none⟩ = some (.int .i64 f.sets) ∧ w'.cell? ⟨w.heap.size, 1, none⟩ = some (.int .i64 f.games) ∧ w'.cell? ⟨w.heap.size, 2, none⟩ = some (.bool f.noAd) ∧ w'.cell? ⟨w.heap.size, 3, none⟩ = some (.int .i64 f.tie) ∧ w'.cell? ⟨w.heap.size, 4, none⟩ = some (.int .i64 f.to) ∧ w'.cell? ⟨w.heap.size, 5, none⟩ = some (.int .i64 f.lastTie) ∧ w'.cell? ⟨w.heap.size, 6, none⟩ = some (.int .i64 f.lastTo) ∧ w'.cell? ⟨w.heap.size, 7, none⟩ = some (.int .i64 f.first) ∧ w'.cell? ⟨w.heap.size, 8, none⟩ = some (.int .i64 f.next) ∧ w'.cell? ⟨w.heap.size, 9, none⟩ = some (.bool f.doubles))) w2 := (by (try dsimp only); (first | (go_keep; done) | (go_split_ands; (repeat' apply And.intro) <;> first | (go_keep; done) | (simp [*, zcA, zcP, zfA, zfP]; done) | (simp [zcA, zcP] <;> rfl) | (simp [*, zsS, zsO, zsA]; done) | ((first | refine (hc _ _ ?_).trans ?_ | refine (hf _ _ ?_).trans ?_) <;> first | assumption | (simp; done) | (simp; omega) | omega | (go_keep; done) | (simp [*, zcA, zcP, zfA, zfP]; done) | (simp [zcA, zcP]; rfl)) | (repeat' first | exact zbR _ _ | assumption | refine zbD ?_ | refine zbA ?_ ?_ _ | refine zbS ?_ ?_ _ | refine zbT ?_ (by assumption) ?_ | (simp; done) | (simp; omega) | omega)))); (try dsimp only at hSn); (try clear hS); have hS := hSn; clear hSn hc hf))
  go_ret
  exact ⟨rfl, by (go_split_ands; (repeat' first | exact zbR _ _ | assumption | refine zbD ?_ | refine zbA ?_ ?_ _ | refine zbS ?_ ?_ _ | refine zbT ?_ (by assumption) ?_ | (simp; done) | (simp; omega) | omega))⟩

set_option maxHeartbeats 1600000 in
theorem RefCheck_no6 (f : M.Fm) (w : World) (h1 : M.within f.sets 1 3 = true) (h2 : M.within f.games 1 8 = true) (h3 : M.tieOk f.games f.tie = true) (h4 : M.tieOk f.games f.lastTie = true) (h5 : M.within f.to 1 15 = true) (h6 : M.within f.lastTo 1 15 = false) :
    Calls Try.prog 12 #[.agg #[.int .i64 f.sets, .int .i64 f.games, .bool f.noAd, .int .i64 f.tie, .int .i64 f.to, .int .i64 f.lastTie, .int .i64 f.lastTo, .int .i64 f.first, .int .i64 f.next, .bool f.doubles]] w fun e w' => e = .returned (.int .i64 (if 6 = 9 then 0 else 10)) ∧ Below w.heap.size w w' := by
  have hgb := fun (h : M.within f.games 1 8 = true) => (of_decide_eq_true (by simpa [M.within] using h) : 1 ≤ f.games ∧ f.games ≤ 8)
  have ho : (if 6 = 9 then 0 else 10 : Int) = if 6 = 9 then 0 else 10 := rfl
  simp only [Nat.reduceEqDiff, if_true, if_false, Nat.succ_ne_self, reduceIte]
  clear ho
  go_enter Try.func12, Try.ntmps12
  go_wp2_with (first | (go_at_call 37; refine (refWithin_any _ _ _ _).mono ?_; rintro e w2 ⟨rfl, hb⟩; obtain ⟨hc, hf⟩ := bcell hb; have hz := hb.size; (try simp at hz); have hSn : ((fun w' => Below w.heap.size w w' ∧ w.heap.size < w'.heap.size ∧ w'.cell? ⟨w.heap.size, 0, none⟩ = some (.int .i64 f.sets) ∧ w'.cell? ⟨w.heap.size, 1, none⟩ = some (.int .i64 f.games) ∧ w'.cell? ⟨w.heap.size, 2, none⟩ = some (.bool f.noAd) ∧ w'.cell? ⟨w.heap.size, 3, none⟩ = some (.int .i64 f.tie) ∧ w'.cell? ⟨w.heap.size, 4, none⟩ = some (.int .i64 f.to) ∧ w'.cell? ⟨w.heap.size, 5, none⟩ = some (.int .i64 f.lastTie) ∧ w'.cell? ⟨w.heap.size, 6, none⟩ = some (.int .i64 f.lastTo) ∧ w'.cell? ⟨w.heap.size, 7, none⟩ = some (.int .i64 f.first) ∧ w'.cell? ⟨w.heap.size, 8, none⟩ = some (.int .i64 f.next) ∧ w'.cell? ⟨w.heap.size, 9, none⟩ = some (.bool f.doubles))) w2 := (by (try dsimp only); (first | (go_keep; done) | (go_split_ands; (repeat' apply And.intro) <;> first | (go_keep; done) | (simp [*, zcA, zcP, zfA, zfP]; done) | (simp [zcA, zcP] <;> rfl) | (simp [*, zsS, zsO, zsA]; done) | ((first | refine (hc _ _ ?_).trans ?_ | refine (hf _ _ ?_).trans ?_) <;> first | assumption | (simp; done) | (simp; omega) | omega | (go_keep; done) | (simp [*, zcA, zcP, zfA, zfP]; done) | (simp [zcA, zcP]; rfl)) | (repeat' first | exact zbR _ _ | assumption | refine zbD ?_ | refine zbA ?_ ?_ _ | refine zbS ?_ ?_ _ | refine zbT ?_ (by assumption) ?_ | (simp; done) | (simp; omega) | omega)))); (try dsimp only at hSn); (try clear hS); have hS := hSn; clear hSn hc hf) | (go_at_call 38; refine (refTie_any f _ _ (by have := hgb h2; omega) (by have := hgb h2; omega)).mono ?_; rintro e w2 ⟨rfl, hb⟩; obtain ⟨hc, hf⟩ := bcell hb; have hz := hb.size; (try simp at hz); have hSn : ((fun w' => Below w.heap.size w w' ∧ w.heap.size < w'.heap.size ∧ w'.cell? ⟨w.heap.size, 0, none⟩ = some (.int .i64 f.sets) ∧ w'.cell? ⟨w.heap.size, 1, none⟩ = some (.int .i64 f.games) ∧ w'.cell? ⟨w.heap.size, 2, none⟩ = some (.bool f.noAd) ∧ w'.cell? ⟨w.heap.size, 3, none⟩ = some (.int .i64 f.tie) ∧ w'.cell? ⟨w.heap.size, 4, none⟩ = some (.int .i64 f.to) ∧ w'.cell? ⟨w.heap.size, 5, none⟩ = some (.int .i64 f.lastTie) ∧ w'.cell? ⟨w.heap.size, 6, none⟩ = some (.int .i64 f.lastTo) ∧ w'.cell? ⟨w.heap.size, 7, none⟩ = some (.int .i64 f.first) ∧ w'.cell? ⟨w.heap.size, 8, none⟩ = some (.int .i64 f.next) ∧ w'.cell? ⟨w.heap.size, 9, none⟩ = some (.bool f.doubles))) w2 := (by (try dsimp only); (first | (go_keep; done) | (go_split_ands; (repeat' apply And.intro) <;> first | (go_keep; done) | (simp [*, zcA, zcP, zfA, zfP]; done) | (simp [zcA, zcP] <;> rfl) | (simp [*, zsS, zsO, zsA]; done) | ((first | refine (hc _ _ ?_).trans ?_ | refine (hf _ _ ?_).trans ?_) <;> first | assumption | (simp; done) | (simp; omega) | omega | (go_keep; done) | (simp [*, zcA, zcP, zfA, zfP]; done) | (simp [zcA, zcP]; rfl)) | (repeat' first | exact zbR _ _ | assumption | refine zbD ?_ | refine zbA ?_ ?_ _ | refine zbS ?_ ?_ _ | refine zbT ?_ (by assumption) ?_ | (simp; done) | (simp; omega) | omega)))); (try dsimp only at hSn); (try clear hS); have hS := hSn; clear hSn hc hf))
  go_ret
  exact ⟨rfl, by (go_split_ands; (repeat' first | exact zbR _ _ | assumption | refine zbD ?_ | refine zbA ?_ ?_ _ | refine zbS ?_ ?_ _ | refine zbT ?_ (by assumption) ?_ | (simp; done) | (simp; omega) | omega))⟩

set_option maxHeartbeats 1600000 in
theorem RefCheck_no7 (f : M.Fm) (w : World) (h1 : M.within f.sets 1 3 = true) (h2 : M.within f.games 1 8 = true) (h3 : M.tieOk f.games f.tie = true) (h4 : M.tieOk f.games f.lastTie = true) (h5 : M.within f.to 1 15 = true) (h6 : M.within f.lastTo 1 15 = true) (h7 : M.within f.first 0 20 = false) :
    Calls Try.prog 12 #[.agg #[.int .i64 f.sets, .int .i64 f.games, .bool f.noAd, .int .i64 f.tie, .int .i64 f.to, .int .i64 f.lastTie, .int .i64 f.lastTo, .int .i64 f.first, .int .i64 f.next, .bool f.doubles]] w fun e w' => e = .returned (.int .i64 (if 7 = 9 then 0 else 10)) ∧ Below w.heap.size w w' := by
  have hgb := fun (h : M.within f.games 1 8 = true) => (of_decide_eq_true (by simpa [M.within] using h) : 1 ≤ f.games ∧ f.games ≤ 8)
  have ho : (if 7 = 9 then 0 else 10 : Int) = if 7 = 9 then 0 else 10 := rfl
  simp only [Nat.reduceEqDiff, if_true, if_false, Nat.succ_ne_self, reduceIte]
  clear ho
  go_enter Try.func12, Try.ntmps12
  go_wp2_with (first | (go_at_call 37; refine (refWithin_any _ _ _ _).mono ?_; rintro e w2 ⟨rfl, hb⟩; obtain ⟨hc, hf⟩ := bcell hb; have hz := hb.size; (try simp at hz); have hSn : ((fun w' => Below w.heap.size w w' ∧ w.heap.size < w'.heap.size ∧ w'.cell? ⟨w.heap.size, 0, none⟩ = some (.int .i64 f.sets) ∧ w'.cell? ⟨w.heap.size, 1, none⟩ = some (.int .i64 f.games) ∧ w'.cell? ⟨w.heap.size, 2, none⟩ = some (.bool f.noAd) ∧ w'.cell? ⟨w.heap.size, 3, none⟩ = some (.int .i64 f.tie) ∧ w'.cell? ⟨w.heap.size, 4, none⟩ = some (.int .i64 f.to) ∧ w'.cell? ⟨w.heap.size, 5, none⟩ = some (.int .i64 f.lastTie) ∧ w'.cell? ⟨w.heap.size, 6, none⟩ = some (.int .i64 f.lastTo) ∧ w'.cell? ⟨w.heap.size, 7, none⟩ = some (.int .i64 f.first) ∧ w'.cell? ⟨w.heap.size, 8, none⟩ = some (.int .i64 f.next) ∧ w'.cell? ⟨w.heap.size, 9, none⟩ = some (.bool f.doubles))) w2 := (by (try dsimp only); (first | (go_keep; done) | (go_split_ands; (repeat' apply And.intro) <;> first | (go_keep; done) | (simp [*, zcA, zcP, zfA, zfP]; done) | (simp [zcA, zcP] <;> rfl) | (simp [*, zsS, zsO, zsA]; done) | ((first | refine (hc _ _ ?_).trans ?_ | refine (hf _ _ ?_).trans ?_) <;> first | assumption | (simp; done) | (simp; omega) | omega | (go_keep; done) | (simp [*, zcA, zcP, zfA, zfP]; done) | (simp [zcA, zcP]; rfl)) | (repeat' first | exact zbR _ _ | assumption | refine zbD ?_ | refine zbA ?_ ?_ _ | refine zbS ?_ ?_ _ | refine zbT ?_ (by assumption) ?_ | (simp; done) | (simp; omega) | omega)))); (try dsimp only at hSn); (try clear hS); have hS := hSn; clear hSn hc hf) | (go_at_call 38; refine (refTie_any f _ _ (by have := hgb h2; omega) (by have := hgb h2; omega)).mono ?_; rintro e w2 ⟨rfl, hb⟩; obtain ⟨hc, hf⟩ := bcell hb; have hz := hb.size; (try simp at hz); have hSn : ((fun w' => Below w.heap.size w w' ∧ w.heap.size < w'.heap.size ∧ w'.cell? ⟨w.heap.size, 0, none⟩ = some (.int .i64 f.sets) ∧ w'.cell? ⟨w.heap.size, 1, none⟩ = some (.int .i64 f.games) ∧ w'.cell? ⟨w.heap.size, 2, none⟩ = some (.bool f.noAd) ∧ w'.cell? ⟨w.heap.size, 3, none⟩ = some (.int .i64 f.tie) ∧ w'.cell? ⟨w.heap.size, 4, none⟩ = some (.int .i64 f.to) ∧ w'.cell? ⟨w.heap.size, 5, none⟩ = some (.int .i64 f.lastTie) ∧ w'.cell? ⟨w.heap.size, 6, none⟩ = some (.int .i64 f.lastTo) ∧ w'.cell? ⟨w.heap.size, 7, none⟩ = some (.int .i64 f.first) ∧ w'.cell? ⟨w.heap.size, 8, none⟩ = some (.int .i64 f.next) ∧ w'.cell? ⟨w.heap.size, 9, none⟩ = some (.bool f.doubles))) w2 := (by (try dsimp only); (first | (go_keep; done) | (go_split_ands; (repeat' apply And.intro) <;> first | (go_keep; done) | (simp [*, zcA, zcP, zfA, zfP]; done) | (simp [zcA, zcP] <;> rfl) | (simp [*, zsS, zsO, zsA]; done) | ((first | refine (hc _ _ ?_).trans ?_ | refine (hf _ _ ?_).trans ?_) <;> first | assumption | (simp; done) | (simp; omega) | omega | (go_keep; done) | (simp [*, zcA, zcP, zfA, zfP]; done) | (simp [zcA, zcP]; rfl)) | (repeat' first | exact zbR _ _ | assumption | refine zbD ?_ | refine zbA ?_ ?_ _ | refine zbS ?_ ?_ _ | refine zbT ?_ (by assumption) ?_ | (simp; done) | (simp; omega) | omega)))); (try dsimp only at hSn); (try clear hS); have hS := hSn; clear hSn hc hf))
  go_ret
  exact ⟨rfl, by (go_split_ands; (repeat' first | exact zbR _ _ | assumption | refine zbD ?_ | refine zbA ?_ ?_ _ | refine zbS ?_ ?_ _ | refine zbT ?_ (by assumption) ?_ | (simp; done) | (simp; omega) | omega))⟩

set_option maxHeartbeats 1600000 in
theorem RefCheck_no8 (f : M.Fm) (w : World) (h1 : M.within f.sets 1 3 = true) (h2 : M.within f.games 1 8 = true) (h3 : M.tieOk f.games f.tie = true) (h4 : M.tieOk f.games f.lastTie = true) (h5 : M.within f.to 1 15 = true) (h6 : M.within f.lastTo 1 15 = true) (h7 : M.within f.first 0 20 = true) (h8 : M.within f.next 0 20 = false) :
    Calls Try.prog 12 #[.agg #[.int .i64 f.sets, .int .i64 f.games, .bool f.noAd, .int .i64 f.tie, .int .i64 f.to, .int .i64 f.lastTie, .int .i64 f.lastTo, .int .i64 f.first, .int .i64 f.next, .bool f.doubles]] w fun e w' => e = .returned (.int .i64 (if 8 = 9 then 0 else 10)) ∧ Below w.heap.size w w' := by
  have hgb := fun (h : M.within f.games 1 8 = true) => (of_decide_eq_true (by simpa [M.within] using h) : 1 ≤ f.games ∧ f.games ≤ 8)
  have ho : (if 8 = 9 then 0 else 10 : Int) = if 8 = 9 then 0 else 10 := rfl
  simp only [Nat.reduceEqDiff, if_true, if_false, Nat.succ_ne_self, reduceIte]
  clear ho
  go_enter Try.func12, Try.ntmps12
  go_wp2_with (first | (go_at_call 37; refine (refWithin_any _ _ _ _).mono ?_; rintro e w2 ⟨rfl, hb⟩; obtain ⟨hc, hf⟩ := bcell hb; have hz := hb.size; (try simp at hz); have hSn : ((fun w' => Below w.heap.size w w' ∧ w.heap.size < w'.heap.size ∧ w'.cell? ⟨w.heap.size, 0, none⟩ = some (.int .i64 f.sets) ∧ w'.cell? ⟨w.heap.size, 1, none⟩ = some (.int .i64 f.games) ∧ w'.cell? ⟨w.heap.size, 2, none⟩ = some (.bool f.noAd) ∧ w'.cell? ⟨w.heap.size, 3, none⟩ = some (.int .i64 f.tie) ∧ w'.cell? ⟨w.heap.size, 4, none⟩ = some (.int .i64 f.to) ∧ w'.cell? ⟨w.heap.size, 5, none⟩ = some (.int .i64 f.lastTie) ∧ w'.cell? ⟨w.heap.size, 6, none⟩ = some (.int .i64 f.lastTo) ∧ w'.cell? ⟨w.heap.size, 7, none⟩ = some (.int .i64 f.first) ∧ w'.cell? ⟨w.heap.size, 8, none⟩ = some (.int .i64 f.next) ∧ w'.cell? ⟨w.heap.size, 9, none⟩ = some (.bool f.doubles))) w2 := (by (try dsimp only); (first | (go_keep; done) | (go_split_ands; (repeat' apply And.intro) <;> first | (go_keep; done) | (simp [*, zcA, zcP, zfA, zfP]; done) | (simp [zcA, zcP] <;> rfl) | (simp [*, zsS, zsO, zsA]; done) | ((first | refine (hc _ _ ?_).trans ?_ | refine (hf _ _ ?_).trans ?_) <;> first | assumption | (simp; done) | (simp; omega) | omega | (go_keep; done) | (simp [*, zcA, zcP, zfA, zfP]; done) | (simp [zcA, zcP]; rfl)) | (repeat' first | exact zbR _ _ | assumption | refine zbD ?_ | refine zbA ?_ ?_ _ | refine zbS ?_ ?_ _ | refine zbT ?_ (by assumption) ?_ | (simp; done) | (simp; omega) | omega)))); (try dsimp only at hSn); (try clear hS); have hS := hSn; clear hSn hc hf) | (go_at_call 38; refine (refTie_any f _ _ (by have := hgb h2; omega) (by have := hgb h2; omega)).mono ?_; rintro e w2 ⟨rfl, hb⟩; obtain ⟨hc, hf⟩ := bcell hb; have hz := hb.size; (try simp at hz); have hSn : ((fun w' => Below w.heap.size w w' ∧ w.heap.size < w'.heap.size ∧ w'.cell? ⟨w.heap.size, 0, none⟩ = some (.int .i64 f.sets) ∧ w'.cell? ⟨w.heap.size, 1, none⟩ = some (.int .i64 f.games) ∧ w'.cell? ⟨w.heap.size, 2, none⟩ = some (.bool f.noAd) ∧ w'.cell? ⟨w.heap.size, 3, none⟩ = some (.int .i64 f.tie) ∧ w'.cell? ⟨w.heap.size, 4, none⟩ = some (.int .i64 f.to) ∧ w'.cell? ⟨w.heap.size, 5, none⟩ = some (.int .i64 f.lastTie) ∧ w'.cell? ⟨w.heap.size, 6, none⟩ = some (.int .i64 f.lastTo) ∧ w'.cell? ⟨w.heap.size, 7, none⟩ = some (.int .i64 f.first) ∧ w'.cell? ⟨w.heap.size, 8, none⟩ = some (.int .i64 f.next) ∧ w'.cell? ⟨w.heap.size, 9, none⟩ = some (.bool f.doubles))) w2 := (by (try dsimp only); (first | (go_keep; done) | (go_split_ands; (repeat' apply And.intro) <;> first | (go_keep; done) | (simp [*, zcA, zcP, zfA, zfP]; done) | (simp [zcA, zcP] <;> rfl) | (simp [*, zsS, zsO, zsA]; done) | ((first | refine (hc _ _ ?_).trans ?_ | refine (hf _ _ ?_).trans ?_) <;> first | assumption | (simp; done) | (simp; omega) | omega | (go_keep; done) | (simp [*, zcA, zcP, zfA, zfP]; done) | (simp [zcA, zcP]; rfl)) | (repeat' first | exact zbR _ _ | assumption | refine zbD ?_ | refine zbA ?_ ?_ _ | refine zbS ?_ ?_ _ | refine zbT ?_ (by assumption) ?_ | (simp; done) | (simp; omega) | omega)))); (try dsimp only at hSn); (try clear hS); have hS := hSn; clear hSn hc hf))
  go_ret
  exact ⟨rfl, by (go_split_ands; (repeat' first | exact zbR _ _ | assumption | refine zbD ?_ | refine zbA ?_ ?_ _ | refine zbS ?_ ?_ _ | refine zbT ?_ (by assumption) ?_ | (simp; done) | (simp; omega) | omega))⟩

set_option maxHeartbeats 1600000 in
theorem RefCheck_no9 (f : M.Fm) (w : World) (h1 : M.within f.sets 1 3 = true) (h2 : M.within f.games 1 8 = true) (h3 : M.tieOk f.games f.tie = true) (h4 : M.tieOk f.games f.lastTie = true) (h5 : M.within f.to 1 15 = true) (h6 : M.within f.lastTo 1 15 = true) (h7 : M.within f.first 0 20 = true) (h8 : M.within f.next 0 20 = true) :
    Calls Try.prog 12 #[.agg #[.int .i64 f.sets, .int .i64 f.games, .bool f.noAd, .int .i64 f.tie, .int .i64 f.to, .int .i64 f.lastTie, .int .i64 f.lastTo, .int .i64 f.first, .int .i64 f.next, .bool f.doubles]] w fun e w' => e = .returned (.int .i64 (if 9 = 9 then 0 else 10)) ∧ Below w.heap.size w w' := by
  have hgb := fun (h : M.within f.games 1 8 = true) => (of_decide_eq_true (by simpa [M.within] using h) : 1 ≤ f.games ∧ f.games ≤ 8)
  have ho : (if 9 = 9 then 0 else 10 : Int) = if 9 = 9 then 0 else 10 := rfl
  simp only [Nat.reduceEqDiff, if_true, if_false, Nat.succ_ne_self, reduceIte]
  clear ho
  go_enter Try.func12, Try.ntmps12
  go_wp2_with (first | (go_at_call 37; refine (refWithin_any _ _ _ _).mono ?_; rintro e w2 ⟨rfl, hb⟩; obtain ⟨hc, hf⟩ := bcell hb; have hz := hb.size; (try simp at hz); have hSn : ((fun w' => Below w.heap.size w w' ∧ w.heap.size < w'.heap.size ∧ w'.cell? ⟨w.heap.size, 0, none⟩ = some (.int .i64 f.sets) ∧ w'.cell? ⟨w.heap.size, 1, none⟩ = some (.int .i64 f.games) ∧ w'.cell? ⟨w.heap.size, 2, none⟩ = some (.bool f.noAd) ∧ w'.cell? ⟨w.heap.size, 3, none⟩ = some (.int .i64 f.tie) ∧ w'.cell? ⟨w.heap.size, 4, none⟩ = some (.int .i64 f.to) ∧ w'.cell? ⟨w.heap.size, 5, none⟩ = some (.int .i64 f.lastTie) ∧ w'.cell? ⟨w.heap.size, 6, none⟩ = some (.int .i64 f.lastTo) ∧ w'.cell? ⟨w.heap.size, 7, none⟩ = some (.int .i64 f.first) ∧ w'.cell? ⟨w.heap.size, 8, none⟩ = some (.int .i64 f.next) ∧ w'.cell? ⟨w.heap.size, 9, none⟩ = some (.bool f.doubles))) w2 := (by (try dsimp only); (first | (go_keep; done) | (go_split_ands; (repeat' apply And.intro) <;> first | (go_keep; done) | (simp [*, zcA, zcP, zfA, zfP]; done) | (simp [zcA, zcP] <;> rfl) | (simp [*, zsS, zsO, zsA]; done) | ((first | refine (hc _ _ ?_).trans ?_ | refine (hf _ _ ?_).trans ?_) <;> first | assumption | (simp; done) | (simp; omega) | omega | (go_keep; done) | (simp [*, zcA, zcP, zfA, zfP]; done) | (simp [zcA, zcP]; rfl)) | (repeat' first | exact zbR _ _ | assumption | refine zbD ?_ | refine zbA ?_ ?_ _ | refine zbS ?_ ?_ _ | refine zbT ?_ (by assumption) ?_ | (simp; done) | (simp; omega) | omega)))); (try dsimp only at hSn); (try clear hS); have hS := hSn; clear hSn hc hf) | (go_at_call 38; refine (refTie_any f _ _ (by have := hgb h2; omega) (by have := hgb h2; omega)).mono ?_; rintro e w2 ⟨rfl, hb⟩; obtain ⟨hc, hf⟩ := bcell hb; have hz := hb.size; (try simp at hz); have hSn : ((fun w' => Below w.heap.size w w' ∧ w.heap.size < w'.heap.size ∧ w'.cell? ⟨w.heap.size, 0, none⟩ = some (.int .i64 f.sets) ∧ w'.cell? ⟨w.heap.size, 1, none⟩ = some (.int .i64 f.games) ∧ w'.cell? ⟨w.heap.size, 2, none⟩ = some (.bool f.noAd) ∧ w'.cell? ⟨w.heap.size, 3, none⟩ = some (.int .i64 f.tie) ∧ w'.cell? ⟨w.heap.size, 4, none⟩ = some (.int .i64 f.to) ∧ w'.cell? ⟨w.heap.size, 5, none⟩ = some (.int .i64 f.lastTie) ∧ w'.cell? ⟨w.heap.size, 6, none⟩ = some (.int .i64 f.lastTo) ∧ w'.cell? ⟨w.heap.size, 7, none⟩ = some (.int .i64 f.first) ∧ w'.cell? ⟨w.heap.size, 8, none⟩ = some (.int .i64 f.next) ∧ w'.cell? ⟨w.heap.size, 9, none⟩ = some (.bool f.doubles))) w2 := (by (try dsimp only); (first | (go_keep; done) | (go_split_ands; (repeat' apply And.intro) <;> first | (go_keep; done) | (simp [*, zcA, zcP, zfA, zfP]; done) | (simp [zcA, zcP] <;> rfl) | (simp [*, zsS, zsO, zsA]; done) | ((first | refine (hc _ _ ?_).trans ?_ | refine (hf _ _ ?_).trans ?_) <;> first | assumption | (simp; done) | (simp; omega) | omega | (go_keep; done) | (simp [*, zcA, zcP, zfA, zfP]; done) | (simp [zcA, zcP]; rfl)) | (repeat' first | exact zbR _ _ | assumption | refine zbD ?_ | refine zbA ?_ ?_ _ | refine zbS ?_ ?_ _ | refine zbT ?_ (by assumption) ?_ | (simp; done) | (simp; omega) | omega)))); (try dsimp only at hSn); (try clear hS); have hS := hSn; clear hSn hc hf))
  go_ret
  exact ⟨rfl, by (go_split_ands; (repeat' first | exact zbR _ _ | assumption | refine zbD ?_ | refine zbA ?_ ?_ _ | refine zbS ?_ ?_ _ | refine zbT ?_ (by assumption) ?_ | (simp; done) | (simp; omega) | omega))⟩

theorem RefCheck_any (f : M.Fm) (w : World) :
    Calls Try.prog 12 #[.agg #[.int .i64 f.sets, .int .i64 f.games, .bool f.noAd, .int .i64 f.tie, .int .i64 f.to, .int .i64 f.lastTie, .int .i64 f.lastTo, .int .i64 f.first, .int .i64 f.next, .bool f.doubles]] w fun e w' => e = .returned (.int .i64 (if M.validB f then 0 else 10)) ∧ Below w.heap.size w w' := by
  cases h1 : M.within f.sets 1 3
  · rw [if_neg (by simp [M.validB, h1])]; exact RefCheck_no1 f w h1
  cases h2 : M.within f.games 1 8
  · rw [if_neg (by simp [M.validB, h2])]; exact RefCheck_no2 f w h1 h2
  cases h3 : M.tieOk f.games f.tie
  · rw [if_neg (by simp [M.validB, h3])]; exact RefCheck_no3 f w h1 h2 h3
  cases h4 : M.tieOk f.games f.lastTie
  · rw [if_neg (by simp [M.validB, h4])]; exact RefCheck_no4 f w h1 h2 h3 h4
  cases h5 : M.within f.to 1 15
  · rw [if_neg (by simp [M.validB, h5])]; exact RefCheck_no5 f w h1 h2 h3 h4 h5
  cases h6 : M.within f.lastTo 1 15
  · rw [if_neg (by simp [M.validB, h6])]; exact RefCheck_no6 f w h1 h2 h3 h4 h5 h6
  cases h7 : M.within f.first 0 20
  · rw [if_neg (by simp [M.validB, h7])]; exact RefCheck_no7 f w h1 h2 h3 h4 h5 h6 h7
  cases h8 : M.within f.next 0 20
  · rw [if_neg (by simp [M.validB, h8])]; exact RefCheck_no8 f w h1 h2 h3 h4 h5 h6 h7 h8
  rw [if_pos (by simp [M.validB, h1, h2, h3, h4, h5, h6, h7, h8])]; exact RefCheck_no9 f w h1 h2 h3 h4 h5 h6 h7 h8

end Go.Proofs.Ytoaogpipogeamaa
