/-
  Contracts: isTie, formatOfSet, aims.
-/
import Derived.Test.YtlhbimifhclojaaLeaf
namespace Go.Proofs.Ytlhbimifhclojaa
open Go.RowKit

theorem isTie_any (f : M.Fm) (p : M.Pr) (w : World) :
    Calls Try.prog 64 #[.agg #[.int .i64 f.sets, .int .i64 f.games, .bool f.noAd, .int .i64 f.tie, .int .i64 f.to, .int .i64 f.lastTie, .int .i64 f.lastTo, .int .i64 f.first, .int .i64 f.next, .bool f.doubles], .agg #[.int .i64 p.A, .int .i64 p.B]] w fun e w' => e = .returned (.bool (M.isTie f p)) ∧ Below w.heap.size w w' := by
  by_cases h1 : p.A = f.tie
  · by_cases h2 : p.B = f.tie
    · have ho : M.isTie f p = true := by simp [M.isTie, h1, h2]
      rw [ho]; clear ho
      go_enter Try.func64, Try.ntmps64
      go_wp2
      go_ret
      exact ⟨rfl, ((Below.refl _ _).alloc (Nat.le_refl _) _).alloc (by simp) _⟩
    · have ho : M.isTie f p = false := by simp [M.isTie, h1, h2]
      rw [ho]; clear ho
      go_enter Try.func64, Try.ntmps64
      go_wp2
      go_ret
      exact ⟨rfl, ((Below.refl _ _).alloc (Nat.le_refl _) _).alloc (by simp) _⟩
  · have ho : M.isTie f p = false := by simp [M.isTie, h1]
    rw [ho]; clear ho
    go_enter Try.func64, Try.ntmps64
    go_wp2
    go_ret
    exact ⟨rfl, ((Below.refl _ _).alloc (Nat.le_refl _) _).alloc (by simp) _⟩

theorem aims_any (f : M.Fm) (t : Bool) (w : World) :
    Calls Try.prog 79 #[.agg #[.int .i64 f.sets, .int .i64 f.games, .bool f.noAd, .int .i64 f.tie, .int .i64 f.to, .int .i64 f.lastTie, .int .i64 f.lastTo, .int .i64 f.first, .int .i64 f.next, .bool f.doubles], .bool t] w fun e w' => e = .returned (.tuple #[.int .i64 (M.aimTo f t), .int .i64 (M.aimLead f t)]) ∧ Below w.heap.size w w' := by
  cases t
  · by_cases ha : f.noAd = true
    · have h1 : M.aimTo f false = 4 := rfl
      have h2 : M.aimLead f false = 1 := by simp [M.aimLead, ha]
      rw [h1, h2]; clear h1 h2
      go_enter Try.func79, Try.ntmps79
      go_wp2
      go_ret2
      exact ⟨rfl, (Below.refl _ _).alloc (Nat.le_refl _) _⟩
    · have ha' : f.noAd = false := by simpa using ha
      have h1 : M.aimTo f false = 4 := rfl
      have h2 : M.aimLead f false = 2 := by simp [M.aimLead, ha']
      rw [h1, h2]; clear h1 h2
      go_enter Try.func79, Try.ntmps79
      go_wp2
      go_ret2
      exact ⟨rfl, (Below.refl _ _).alloc (Nat.le_refl _) _⟩
  · have h1 : M.aimTo f true = f.to := rfl
    have h2 : M.aimLead f true = 2 := rfl
    rw [h1, h2]; clear h1 h2
    go_enter Try.func79, Try.ntmps79
    go_wp2
    go_ret2
    exact ⟨rfl, (Below.refl _ _).alloc (Nat.le_refl _) _⟩

theorem ofSet_any (f : M.Fm) (p : M.Pr) (w : World) (h0 : -1000 ≤ f.sets) (h1 : f.sets ≤ 1000) :
    Calls Try.prog 53 #[.agg #[.int .i64 f.sets, .int .i64 f.games, .bool f.noAd, .int .i64 f.tie, .int .i64 f.to, .int .i64 f.lastTie, .int .i64 f.lastTo, .int .i64 f.first, .int .i64 f.next, .bool f.doubles], .agg #[.int .i64 p.A, .int .i64 p.B]] w fun e w' => e = .returned (.agg #[.int .i64 (M.ofSet f p).sets, .int .i64 (M.ofSet f p).games, .bool (M.ofSet f p).noAd, .int .i64 (M.ofSet f p).tie, .int .i64 (M.ofSet f p).to, .int .i64 (M.ofSet f p).lastTie, .int .i64 (M.ofSet f p).lastTo, .int .i64 (M.ofSet f p).first, .int .i64 (M.ofSet f p).next, .bool (M.ofSet f p).doubles]) ∧ Below w.heap.size w w' := by
  by_cases ha : p.A = f.sets - 1
  · by_cases hb : p.B = f.sets - 1
    · have ho : M.ofSet f p = { f with tie := f.lastTie, to := f.lastTo } := by simp [M.ofSet, M.lastB, ha, hb]
      rw [ho]; clear ho
      go_enter Try.func53, Try.ntmps53
      go_wp2
      refine bodyPost_ret (v := .agg #[.int .i64 ({ f with tie := f.lastTie, to := f.lastTo }).sets, .int .i64 ({ f with tie := f.lastTie, to := f.lastTo }).games, .bool ({ f with tie := f.lastTie, to := f.lastTo }).noAd, .int .i64 ({ f with tie := f.lastTie, to := f.lastTo }).tie, .int .i64 ({ f with tie := f.lastTie, to := f.lastTo }).to, .int .i64 ({ f with tie := f.lastTie, to := f.lastTo }).lastTie, .int .i64 ({ f with tie := f.lastTie, to := f.lastTo }).lastTo, .int .i64 ({ f with tie := f.lastTie, to := f.lastTo }).first, .int .i64 ({ f with tie := f.lastTie, to := f.lastTo }).next, .bool ({ f with tie := f.lastTie, to := f.lastTo }).doubles]) (by simp [results, Try.results53, go_sem]) rfl ⟨rfl, ?_⟩
      exact (((Below.refl _ _).alloc (Nat.le_refl _) _).alloc (by simp) _).alloc (by simp; omega) _
    · have ho : M.ofSet f p = f := by simp [M.ofSet, M.lastB, hb]
      rw [ho]; clear ho
      go_enter Try.func53, Try.ntmps53
      go_wp2
      refine bodyPost_ret (v := .agg #[.int .i64 f.sets, .int .i64 f.games, .bool f.noAd, .int .i64 f.tie, .int .i64 f.to, .int .i64 f.lastTie, .int .i64 f.lastTo, .int .i64 f.first, .int .i64 f.next, .bool f.doubles]) (by simp [results, Try.results53, go_sem]) rfl ⟨rfl, ?_⟩
      exact (((Below.refl _ _).alloc (Nat.le_refl _) _).alloc (by simp) _).alloc (by simp; omega) _
  · have ho : M.ofSet f p = f := by simp [M.ofSet, M.lastB, ha]
    rw [ho]; clear ho
    go_enter Try.func53, Try.ntmps53
    go_wp2
    refine bodyPost_ret (v := .agg #[.int .i64 f.sets, .int .i64 f.games, .bool f.noAd, .int .i64 f.tie, .int .i64 f.to, .int .i64 f.lastTie, .int .i64 f.lastTo, .int .i64 f.first, .int .i64 f.next, .bool f.doubles]) (by simp [results, Try.results53, go_sem]) rfl ⟨rfl, ?_⟩
    exact (((Below.refl _ _).alloc (Nat.le_refl _) _).alloc (by simp) _).alloc (by simp; omega) _

end Go.Proofs.Ytlhbimifhclojaa
