/-
  Contracts of the document's own small functions: within, isTie; and of the law's: swapped.
-/
import Derived.Test.YtlhbimifhclojaaCheck
namespace Go.Proofs.Ytlhbimifhclojaa
open Go.RowKit

theorem refWithin_any (n lo hi : Int) (w : World) :
    Calls Try.prog 35 #[.int .i64 n, .int .i64 lo, .int .i64 hi] w fun e w' => e = .returned (.bool (M.within n lo hi)) ∧ Below w.heap.size w w' := by
  by_cases h1 : lo ≤ n
  · by_cases h2 : n ≤ hi
    · have ho : M.within n lo hi = true := by simp [M.within, h1, h2]
      rw [ho]; clear ho
      go_enter Try.func35, Try.ntmps35
      go_wp2
      go_ret
      exact ⟨rfl, Below.refl _ _⟩
    · have ho : M.within n lo hi = false := by simp [M.within]; omega
      rw [ho]; clear ho
      go_enter Try.func35, Try.ntmps35
      go_wp2
      go_ret
      exact ⟨rfl, Below.refl _ _⟩
  · have ho : M.within n lo hi = false := by simp [M.within]; omega
    rw [ho]; clear ho
    go_enter Try.func35, Try.ntmps35
    go_wp2
    go_ret
    exact ⟨rfl, Below.refl _ _⟩

theorem lawSwapped_any (p : M.Pr) (w : World) :
    Calls Try.prog 26 #[.agg #[.int .i64 p.A, .int .i64 p.B]] w fun e w' => e = .returned (.agg #[.int .i64 p.B, .int .i64 p.A]) ∧ Below w.heap.size w w' := by
  go_enter Try.func26, Try.ntmps26
  go_wp2
  refine bodyPost_ret (v := .agg #[.int .i64 p.B, .int .i64 p.A]) (by simp [results, Try.results26, go_sem]) rfl ⟨rfl, ?_⟩
  (repeat' first | exact Below.refl _ _ | assumption | refine Below.drew ?_ | refine Below.alloc ?_ ?_ _ | refine Below.setCell ?_ ?_ _ | refine Below.trans ?_ (Below.mono (by assumption) ?_) | (simp; done) | (simp; omega) | omega)

set_option maxHeartbeats 1600000 in
theorem refTie_any (f : M.Fm) (n : Int) (w : World) (hg0 : -1000 ≤ f.games) (hg1 : f.games ≤ 1000) :
    Calls Try.prog 36 #[.agg #[.int .i64 f.sets, .int .i64 f.games, .bool f.noAd, .int .i64 f.tie, .int .i64 f.to, .int .i64 f.lastTie, .int .i64 f.lastTo, .int .i64 f.first, .int .i64 f.next, .bool f.doubles], .int .i64 n] w fun e w' => e = .returned (.bool (M.tieOk f.games n)) ∧ Below w.heap.size w w' := by
  cases h1 : (n == -1)
  · cases h2 : (n == 0)
    · cases h3 : (n == f.games - 1)
      · cases h4 : (n == f.games)
        all_goals
          first
            | (have ho : M.tieOk f.games n = false := by (unfold M.tieOk; rw [h1, h2, h3, h4]; rfl)
               rw [ho]; clear ho)
            | (have ho : M.tieOk f.games n = true := by (unfold M.tieOk; rw [h1, h2, h3, h4]; rfl)
               rw [ho]; clear ho)
          go_enter Try.func36, Try.ntmps36
          go_wp2
          go_ret
          exact ⟨rfl, by (repeat' first | exact Below.refl _ _ | assumption | refine Below.drew ?_ | refine Below.alloc ?_ ?_ _ | refine Below.setCell ?_ ?_ _ | refine Below.trans ?_ (Below.mono (by assumption) ?_) | (simp; done) | (simp; omega) | omega)⟩
      · have ho : M.tieOk f.games n = true := by unfold M.tieOk; rw [h1, h2, h3]; rfl
        rw [ho]; clear ho
        go_enter Try.func36, Try.ntmps36
        go_wp2
        go_ret
        exact ⟨rfl, by (repeat' first | exact Below.refl _ _ | assumption | refine Below.drew ?_ | refine Below.alloc ?_ ?_ _ | refine Below.setCell ?_ ?_ _ | refine Below.trans ?_ (Below.mono (by assumption) ?_) | (simp; done) | (simp; omega) | omega)⟩
    · have ho : M.tieOk f.games n = true := by unfold M.tieOk; rw [h1, h2]; rfl
      rw [ho]; clear ho
      go_enter Try.func36, Try.ntmps36
      go_wp2
      go_ret
      exact ⟨rfl, by (repeat' first | exact Below.refl _ _ | assumption | refine Below.drew ?_ | refine Below.alloc ?_ ?_ _ | refine Below.setCell ?_ ?_ _ | refine Below.trans ?_ (Below.mono (by assumption) ?_) | (simp; done) | (simp; omega) | omega)⟩
  · have ho : M.tieOk f.games n = true := by unfold M.tieOk; rw [h1]; rfl
    rw [ho]; clear ho
    go_enter Try.func36, Try.ntmps36
    go_wp2
    go_ret
    exact ⟨rfl, by (repeat' first | exact Below.refl _ _ | assumption | refine Below.drew ?_ | refine Below.alloc ?_ ?_ _ | refine Below.setCell ?_ ?_ _ | refine Below.trans ?_ (Below.mono (by assumption) ?_) | (simp; done) | (simp; omega) | omega)⟩

end Go.Proofs.Ytlhbimifhclojaa
