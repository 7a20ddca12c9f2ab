/-
  Contracts of the small functions of package score that only compute with a pair or a format: of, plus, minus, near, isTie, formatOfSet, aims.
-/
import Derived.Test.YtlhbimifhclojaaRows
import Derived.Test.YtlhbimifhclojaaModel
import Derived.WalkKit
import Derived.WalkSpells
import Derived.WalkLawsBesides
import Derived.Deep.QuietTactic
import Derived.BigQuiet
import Derived.Deep.RegionHeld3
namespace Go.Proofs.Ytlhbimifhclojaa
open Go.RowKit

theorem of_any (p : M.Pr) (s : Int) (w : World) :
    Calls Try.prog 67 #[.agg #[.int .i64 p.A, .int .i64 p.B], .int .i64 s] w fun e w' => e = .returned (.int .i64 (M.of p s)) ∧ Below w.heap.size w w' := by
  by_cases hs : s = 0
  · have ho : M.of p s = p.A := if_pos hs
    rw [ho]; clear ho
    subst hs
    go_enter Try.func67, Try.ntmps67
    go_wp2
    go_ret
    exact ⟨rfl, (Below.refl _ _).alloc (Nat.le_refl _) _⟩
  · have ho : M.of p s = p.B := if_neg hs
    rw [ho]; clear ho
    have hb : (s == 0) = false := beq_eq_false_iff_ne.2 hs
    go_enter Try.func67, Try.ntmps67
    go_wp2
    go_ret
    exact ⟨rfl, (Below.refl _ _).alloc (Nat.le_refl _) _⟩

theorem plus_any (p : M.Pr) (s : Int) (w : World) (hp : M.Small p) :
    Calls Try.prog 55 #[.agg #[.int .i64 p.A, .int .i64 p.B], .int .i64 s] w fun e w' => e = .returned (.agg #[.int .i64 (M.plus p s).A, .int .i64 (M.plus p s).B]) ∧ Below w.heap.size w w' := by
  obtain ⟨h1, h2, h3, h4⟩ := hp
  by_cases hs : s = 0
  · have ho : M.plus p s = ⟨p.A + 1, p.B⟩ := if_pos hs
    rw [ho]; clear ho
    subst hs
    go_enter Try.func55, Try.ntmps55
    go_wp2
    refine bodyPost_ret (v := .agg #[.int .i64 (p.A + 1), .int .i64 p.B]) (by simp [results, Try.results55, go_sem]) rfl ⟨rfl, ?_⟩
    exact ((Below.refl _ _).alloc (Nat.le_refl _) _).alloc (by simp) _
  · have ho : M.plus p s = ⟨p.A, p.B + 1⟩ := if_neg hs
    rw [ho]; clear ho
    have hb : (s == 0) = false := beq_eq_false_iff_ne.2 hs
    go_enter Try.func55, Try.ntmps55
    go_wp2
    refine bodyPost_ret (v := .agg #[.int .i64 p.A, .int .i64 (p.B + 1)]) (by simp [results, Try.results55, go_sem]) rfl ⟨rfl, ?_⟩
    exact ((Below.refl _ _).alloc (Nat.le_refl _) _).alloc (by simp) _

theorem minus_any (p : M.Pr) (s : Int) (w : World) (hp : M.Small p) :
    Calls Try.prog 71 #[.agg #[.int .i64 p.A, .int .i64 p.B], .int .i64 s] w fun e w' => e = .returned (.agg #[.int .i64 (M.minus p s).A, .int .i64 (M.minus p s).B]) ∧ Below w.heap.size w w' := by
  obtain ⟨h1, h2, h3, h4⟩ := hp
  by_cases hs : s = 0
  · have ho : M.minus p s = ⟨p.A - 1, p.B⟩ := if_pos hs
    rw [ho]; clear ho
    subst hs
    go_enter Try.func71, Try.ntmps71
    go_wp2
    refine bodyPost_ret (v := .agg #[.int .i64 (p.A - 1), .int .i64 p.B]) (by simp [results, Try.results71, go_sem]) rfl ⟨rfl, ?_⟩
    exact ((Below.refl _ _).alloc (Nat.le_refl _) _).alloc (by simp) _
  · have ho : M.minus p s = ⟨p.A, p.B - 1⟩ := if_neg hs
    rw [ho]; clear ho
    have hb : (s == 0) = false := beq_eq_false_iff_ne.2 hs
    go_enter Try.func71, Try.ntmps71
    go_wp2
    refine bodyPost_ret (v := .agg #[.int .i64 p.A, .int .i64 (p.B - 1)]) (by simp [results, Try.results71, go_sem]) rfl ⟨rfl, ?_⟩
    exact ((Below.refl _ _).alloc (Nat.le_refl _) _).alloc (by simp) _

theorem near_any (p : M.Pr) (w : World) (hp : M.Small p) :
    Calls Try.prog 78 #[.agg #[.int .i64 p.A, .int .i64 p.B]] w fun e w' => e = .returned (.bool (M.near p)) ∧ Below w.heap.size w w' := by
  obtain ⟨h1, h2, h3, h4⟩ := hp
  by_cases ha : -2 < p.A - p.B
  · by_cases hb : p.A - p.B < 2
    · have ho : M.near p = true := by simp [M.near, ha, hb]
      rw [ho]; clear ho
      go_enter Try.func78, Try.ntmps78
      go_wp2
      go_ret
      exact ⟨rfl, (Below.refl _ _).alloc (Nat.le_refl _) _⟩
    · have ho : M.near p = false := by simp [M.near]; omega
      rw [ho]; clear ho
      go_enter Try.func78, Try.ntmps78
      go_wp2
      go_ret
      exact ⟨rfl, (Below.refl _ _).alloc (Nat.le_refl _) _⟩
  · have ho : M.near p = false := by simp [M.near]; omega
    rw [ho]; clear ho
    go_enter Try.func78, Try.ntmps78
    go_wp2
    go_ret
    exact ⟨rfl, (Below.refl _ _).alloc (Nat.le_refl _) _⟩

end Go.Proofs.Ytlhbimifhclojaa
