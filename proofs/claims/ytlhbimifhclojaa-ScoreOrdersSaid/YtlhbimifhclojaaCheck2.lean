/-
  Contracts: Check.
-/
import Derived.Test.YtlhbimifhclojaaCheck
namespace Go.Proofs.Ytlhbimifhclojaa
open Go.RowKit

set_option maxHeartbeats 1600000 in
theorem Check_no1 (f : M.Fm) (w : World) (h1 : M.within f.sets 1 3 = false) :
    Calls Try.prog 10 #[.agg #[.int .i64 f.sets, .int .i64 f.games, .bool f.noAd, .int .i64 f.tie, .int .i64 f.to, .int .i64 f.lastTie, .int .i64 f.lastTo, .int .i64 f.first, .int .i64 f.next, .bool f.doubles]] w fun e w' => e = .returned (.int .i64 10) ∧ Below w.heap.size w w' := by
  have hb := fun (h : M.within f.games 1 8 = true) => (of_decide_eq_true (by simpa [M.within] using h) : 1 ≤ f.games ∧ f.games ≤ 8)
  go_enter Try.func10, Try.ntmps10
  go_wp2_with (first | (go_at_call 33; refine (within_any _ _ _ _).mono ?_; rintro e w' ⟨rfl, rfl⟩) | (go_at_call 34; refine (tieOk_any _ f.games _ _ (by have := hb h2; omega) (by have := hb h2; omega) (by simp)).mono ?_; rintro e w' ⟨rfl, rfl⟩))
  go_ret
  exact ⟨rfl, by (repeat' first | exact Below.refl _ _ | assumption | refine Below.drew ?_ | refine Below.alloc ?_ ?_ _ | refine Below.setCell ?_ ?_ _ | refine Below.trans ?_ (Below.mono (by assumption) ?_) | (simp; done) | (simp; omega) | omega)⟩

set_option maxHeartbeats 1600000 in
theorem Check_no2 (f : M.Fm) (w : World) (h1 : M.within f.sets 1 3 = true) (h2 : M.within f.games 1 8 = false) :
    Calls Try.prog 10 #[.agg #[.int .i64 f.sets, .int .i64 f.games, .bool f.noAd, .int .i64 f.tie, .int .i64 f.to, .int .i64 f.lastTie, .int .i64 f.lastTo, .int .i64 f.first, .int .i64 f.next, .bool f.doubles]] w fun e w' => e = .returned (.int .i64 10) ∧ Below w.heap.size w w' := by
  have hb := fun (h : M.within f.games 1 8 = true) => (of_decide_eq_true (by simpa [M.within] using h) : 1 ≤ f.games ∧ f.games ≤ 8)
  go_enter Try.func10, Try.ntmps10
  go_wp2_with (first | (go_at_call 33; refine (within_any _ _ _ _).mono ?_; rintro e w' ⟨rfl, rfl⟩) | (go_at_call 34; refine (tieOk_any _ f.games _ _ (by have := hb h2; omega) (by have := hb h2; omega) (by simp)).mono ?_; rintro e w' ⟨rfl, rfl⟩))
  go_ret
  exact ⟨rfl, by (repeat' first | exact Below.refl _ _ | assumption | refine Below.drew ?_ | refine Below.alloc ?_ ?_ _ | refine Below.setCell ?_ ?_ _ | refine Below.trans ?_ (Below.mono (by assumption) ?_) | (simp; done) | (simp; omega) | omega)⟩

set_option maxHeartbeats 1600000 in
theorem Check_no3 (f : M.Fm) (w : World) (h1 : M.within f.sets 1 3 = true) (h2 : M.within f.games 1 8 = true) (h3 : M.tieOk f.games f.tie = false) :
    Calls Try.prog 10 #[.agg #[.int .i64 f.sets, .int .i64 f.games, .bool f.noAd, .int .i64 f.tie, .int .i64 f.to, .int .i64 f.lastTie, .int .i64 f.lastTo, .int .i64 f.first, .int .i64 f.next, .bool f.doubles]] w fun e w' => e = .returned (.int .i64 10) ∧ Below w.heap.size w w' := by
  have hb := fun (h : M.within f.games 1 8 = true) => (of_decide_eq_true (by simpa [M.within] using h) : 1 ≤ f.games ∧ f.games ≤ 8)
  go_enter Try.func10, Try.ntmps10
  go_wp2_with (first | (go_at_call 33; refine (within_any _ _ _ _).mono ?_; rintro e w' ⟨rfl, rfl⟩) | (go_at_call 34; refine (tieOk_any _ f.games _ _ (by have := hb h2; omega) (by have := hb h2; omega) (by simp)).mono ?_; rintro e w' ⟨rfl, rfl⟩))
  go_ret
  exact ⟨rfl, by (repeat' first | exact Below.refl _ _ | assumption | refine Below.drew ?_ | refine Below.alloc ?_ ?_ _ | refine Below.setCell ?_ ?_ _ | refine Below.trans ?_ (Below.mono (by assumption) ?_) | (simp; done) | (simp; omega) | omega)⟩

set_option maxHeartbeats 1600000 in
theorem Check_no4 (f : M.Fm) (w : World) (h1 : M.within f.sets 1 3 = true) (h2 : M.within f.games 1 8 = true) (h3 : M.tieOk f.games f.tie = true) (h4 : M.tieOk f.games f.lastTie = false) :
    Calls Try.prog 10 #[.agg #[.int .i64 f.sets, .int .i64 f.games, .bool f.noAd, .int .i64 f.tie, .int .i64 f.to, .int .i64 f.lastTie, .int .i64 f.lastTo, .int .i64 f.first, .int .i64 f.next, .bool f.doubles]] w fun e w' => e = .returned (.int .i64 10) ∧ Below w.heap.size w w' := by
  have hb := fun (h : M.within f.games 1 8 = true) => (of_decide_eq_true (by simpa [M.within] using h) : 1 ≤ f.games ∧ f.games ≤ 8)
  go_enter Try.func10, Try.ntmps10
  go_wp2_with (first | (go_at_call 33; refine (within_any _ _ _ _).mono ?_; rintro e w' ⟨rfl, rfl⟩) | (go_at_call 34; refine (tieOk_any _ f.games _ _ (by have := hb h2; omega) (by have := hb h2; omega) (by simp)).mono ?_; rintro e w' ⟨rfl, rfl⟩))
  go_ret
  exact ⟨rfl, by (repeat' first | exact Below.refl _ _ | assumption | refine Below.drew ?_ | refine Below.alloc ?_ ?_ _ | refine Below.setCell ?_ ?_ _ | refine Below.trans ?_ (Below.mono (by assumption) ?_) | (simp; done) | (simp; omega) | omega)⟩

set_option maxHeartbeats 1600000 in
theorem Check_no5 (f : M.Fm) (w : World) (h1 : M.within f.sets 1 3 = true) (h2 : M.within f.games 1 8 = true) (h3 : M.tieOk f.games f.tie = true) (h4 : M.tieOk f.games f.lastTie = true) (h5 : M.within f.to 1 15 = false) :
    Calls Try.prog 10 #[.agg #[.int .i64 f.sets, .int .i64 f.games, .bool f.noAd, .int .i64 f.tie, .int .i64 f.to, .int .i64 f.lastTie, .int .i64 f.lastTo, .int .i64 f.first, .int .i64 f.next, .bool f.doubles]] w fun e w' => e = .returned (.int .i64 10) ∧ Below w.heap.size w w' := by
  have hb := fun (h : M.within f.games 1 8 = true) => (of_decide_eq_true (by simpa [M.within] using h) : 1 ≤ f.games ∧ f.games ≤ 8)
  go_enter Try.func10, Try.ntmps10
  go_wp2_with (first | (go_at_call 33; refine (within_any _ _ _ _).mono ?_; rintro e w' ⟨rfl, rfl⟩) | (go_at_call 34; refine (tieOk_any _ f.games _ _ (by have := hb h2; omega) (by have := hb h2; omega) (by simp)).mono ?_; rintro e w' ⟨rfl, rfl⟩))
  go_ret
  exact ⟨rfl, by (repeat' first | exact Below.refl _ _ | assumption | refine Below.drew ?_ | refine Below.alloc ?_ ?_ _ | refine Below.setCell ?_ ?_ _ | refine Below.trans ?_ (Below.mono (by assumption) ?_) | (simp; done) | (simp; omega) | omega)⟩

set_option maxHeartbeats 1600000 in
theorem Check_no6 (f : M.Fm) (w : World) (h1 : M.within f.sets 1 3 = true) (h2 : M.within f.games 1 8 = true) (h3 : M.tieOk f.games f.tie = true) (h4 : M.tieOk f.games f.lastTie = true) (h5 : M.within f.to 1 15 = true) (h6 : M.within f.lastTo 1 15 = false) :
    Calls Try.prog 10 #[.agg #[.int .i64 f.sets, .int .i64 f.games, .bool f.noAd, .int .i64 f.tie, .int .i64 f.to, .int .i64 f.lastTie, .int .i64 f.lastTo, .int .i64 f.first, .int .i64 f.next, .bool f.doubles]] w fun e w' => e = .returned (.int .i64 10) ∧ Below w.heap.size w w' := by
  have hb := fun (h : M.within f.games 1 8 = true) => (of_decide_eq_true (by simpa [M.within] using h) : 1 ≤ f.games ∧ f.games ≤ 8)
  go_enter Try.func10, Try.ntmps10
  go_wp2_with (first | (go_at_call 33; refine (within_any _ _ _ _).mono ?_; rintro e w' ⟨rfl, rfl⟩) | (go_at_call 34; refine (tieOk_any _ f.games _ _ (by have := hb h2; omega) (by have := hb h2; omega) (by simp)).mono ?_; rintro e w' ⟨rfl, rfl⟩))
  go_ret
  exact ⟨rfl, by (repeat' first | exact Below.refl _ _ | assumption | refine Below.drew ?_ | refine Below.alloc ?_ ?_ _ | refine Below.setCell ?_ ?_ _ | refine Below.trans ?_ (Below.mono (by assumption) ?_) | (simp; done) | (simp; omega) | omega)⟩

set_option maxHeartbeats 1600000 in
theorem Check_no7 (f : M.Fm) (w : World) (h1 : M.within f.sets 1 3 = true) (h2 : M.within f.games 1 8 = true) (h3 : M.tieOk f.games f.tie = true) (h4 : M.tieOk f.games f.lastTie = true) (h5 : M.within f.to 1 15 = true) (h6 : M.within f.lastTo 1 15 = true) (h7 : M.within f.first 0 20 = false) :
    Calls Try.prog 10 #[.agg #[.int .i64 f.sets, .int .i64 f.games, .bool f.noAd, .int .i64 f.tie, .int .i64 f.to, .int .i64 f.lastTie, .int .i64 f.lastTo, .int .i64 f.first, .int .i64 f.next, .bool f.doubles]] w fun e w' => e = .returned (.int .i64 10) ∧ Below w.heap.size w w' := by
  have hb := fun (h : M.within f.games 1 8 = true) => (of_decide_eq_true (by simpa [M.within] using h) : 1 ≤ f.games ∧ f.games ≤ 8)
  go_enter Try.func10, Try.ntmps10
  go_wp2_with (first | (go_at_call 33; refine (within_any _ _ _ _).mono ?_; rintro e w' ⟨rfl, rfl⟩) | (go_at_call 34; refine (tieOk_any _ f.games _ _ (by have := hb h2; omega) (by have := hb h2; omega) (by simp)).mono ?_; rintro e w' ⟨rfl, rfl⟩))
  go_ret
  exact ⟨rfl, by (repeat' first | exact Below.refl _ _ | assumption | refine Below.drew ?_ | refine Below.alloc ?_ ?_ _ | refine Below.setCell ?_ ?_ _ | refine Below.trans ?_ (Below.mono (by assumption) ?_) | (simp; done) | (simp; omega) | omega)⟩

set_option maxHeartbeats 1600000 in
theorem Check_no8 (f : M.Fm) (w : World) (h1 : M.within f.sets 1 3 = true) (h2 : M.within f.games 1 8 = true) (h3 : M.tieOk f.games f.tie = true) (h4 : M.tieOk f.games f.lastTie = true) (h5 : M.within f.to 1 15 = true) (h6 : M.within f.lastTo 1 15 = true) (h7 : M.within f.first 0 20 = true) (h8 : M.within f.next 0 20 = false) :
    Calls Try.prog 10 #[.agg #[.int .i64 f.sets, .int .i64 f.games, .bool f.noAd, .int .i64 f.tie, .int .i64 f.to, .int .i64 f.lastTie, .int .i64 f.lastTo, .int .i64 f.first, .int .i64 f.next, .bool f.doubles]] w fun e w' => e = .returned (.int .i64 10) ∧ Below w.heap.size w w' := by
  have hb := fun (h : M.within f.games 1 8 = true) => (of_decide_eq_true (by simpa [M.within] using h) : 1 ≤ f.games ∧ f.games ≤ 8)
  go_enter Try.func10, Try.ntmps10
  go_wp2_with (first | (go_at_call 33; refine (within_any _ _ _ _).mono ?_; rintro e w' ⟨rfl, rfl⟩) | (go_at_call 34; refine (tieOk_any _ f.games _ _ (by have := hb h2; omega) (by have := hb h2; omega) (by simp)).mono ?_; rintro e w' ⟨rfl, rfl⟩))
  go_ret
  exact ⟨rfl, by (repeat' first | exact Below.refl _ _ | assumption | refine Below.drew ?_ | refine Below.alloc ?_ ?_ _ | refine Below.setCell ?_ ?_ _ | refine Below.trans ?_ (Below.mono (by assumption) ?_) | (simp; done) | (simp; omega) | omega)⟩

end Go.Proofs.Ytlhbimifhclojaa
