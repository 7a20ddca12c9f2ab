/-
  Contracts: Check, for every format.
-/
import Derived.Test.YtlhbimifhclojaaCheck2
namespace Go.Proofs.Ytlhbimifhclojaa
open Go.RowKit

set_option maxHeartbeats 1600000 in
theorem Check_yes (f : M.Fm) (w : World) (h1 : M.within f.sets 1 3 = true) (h2 : M.within f.games 1 8 = true) (h3 : M.tieOk f.games f.tie = true) (h4 : M.tieOk f.games f.lastTie = true) (h5 : M.within f.to 1 15 = true) (h6 : M.within f.lastTo 1 15 = true) (h7 : M.within f.first 0 20 = true) (h8 : M.within f.next 0 20 = true) :
    Calls Try.prog 10 #[.agg #[.int .i64 f.sets, .int .i64 f.games, .bool f.noAd, .int .i64 f.tie, .int .i64 f.to, .int .i64 f.lastTie, .int .i64 f.lastTo, .int .i64 f.first, .int .i64 f.next, .bool f.doubles]] w fun e w' => e = .returned (.int .i64 0) ∧ Below w.heap.size w w' := by
  have hb := fun (h : M.within f.games 1 8 = true) => (of_decide_eq_true (by simpa [M.within] using h) : 1 ≤ f.games ∧ f.games ≤ 8)
  go_enter Try.func10, Try.ntmps10
  go_wp2_with (first | (go_at_call 33; refine (within_any _ _ _ _).mono ?_; rintro e w' ⟨rfl, rfl⟩) | (go_at_call 34; refine (tieOk_any _ f.games _ _ (by have := hb h2; omega) (by have := hb h2; omega) (by simp)).mono ?_; rintro e w' ⟨rfl, rfl⟩))
  go_ret
  exact ⟨rfl, by (repeat' first | exact Below.refl _ _ | assumption | refine Below.drew ?_ | refine Below.alloc ?_ ?_ _ | refine Below.setCell ?_ ?_ _ | refine Below.trans ?_ (Below.mono (by assumption) ?_) | (simp; done) | (simp; omega) | omega)⟩

theorem Check_any (f : M.Fm) (w : World) :
    Calls Try.prog 10 #[.agg #[.int .i64 f.sets, .int .i64 f.games, .bool f.noAd, .int .i64 f.tie, .int .i64 f.to, .int .i64 f.lastTie, .int .i64 f.lastTo, .int .i64 f.first, .int .i64 f.next, .bool f.doubles]] w fun e w' => e = .returned (.int .i64 (if M.validB f then 0 else 10)) ∧ Below w.heap.size w w' := by
  cases h1 : M.within f.sets 1 3
  · rw [if_neg (by simp [M.validB, h1])]; exact Check_no1 f w h1
  cases h2 : M.within f.games 1 8
  · rw [if_neg (by simp [M.validB, h2])]; exact Check_no2 f w h1 h2
  cases h3 : M.tieOk f.games f.tie
  · rw [if_neg (by simp [M.validB, h3])]; exact Check_no3 f w h1 h2 h3
  cases h4 : M.tieOk f.games f.lastTie
  · rw [if_neg (by simp [M.validB, h4])]; exact Check_no4 f w h1 h2 h3 h4
  cases h5 : M.within f.to 1 15
  · rw [if_neg (by simp [M.validB, h5])]; exact Check_no5 f w h1 h2 h3 h4 h5
  cases h6 : M.within f.lastTo 1 15
  · rw [if_neg (by simp [M.validB, h6])]; exact Check_no6 f w h1 h2 h3 h4 h5 h6
  cases h7 : M.within f.first 0 20
  · rw [if_neg (by simp [M.validB, h7])]; exact Check_no7 f w h1 h2 h3 h4 h5 h6 h7
  cases h8 : M.within f.next 0 20
  · rw [if_neg (by simp [M.validB, h8])]; exact Check_no8 f w h1 h2 h3 h4 h5 h6 h7 h8
  rw [if_pos (by simp [M.validB, h1, h2, h3, h4, h5, h6, h7, h8])]; exact Check_yes f w h1 h2 h3 h4 h5 h6 h7 h8

end Go.Proofs.Ytlhbimifhclojaa
