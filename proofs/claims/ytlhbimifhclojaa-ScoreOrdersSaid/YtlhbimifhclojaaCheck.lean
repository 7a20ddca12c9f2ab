/-
  Contracts: Check and its two function literals.
-/
import Derived.Test.YtlhbimifhclojaaLeaf
namespace Go.Proofs.Ytlhbimifhclojaa
open Go.RowKit

theorem bcell {W w1 : World} (hb : Below W.heap.size W w1) : (∀ b o, b < W.heap.size → w1.cell? ⟨b, o, none⟩ = W.cell? ⟨b, o, none⟩) ∧ (∀ b o, b < W.heap.size → w1.frozen? ⟨b, o, none⟩ = W.frozen? ⟨b, o, none⟩) :=
  ⟨fun b o h => hb.cell (p := ⟨b, o, none⟩) h, fun b o h => hb.frozen (p := ⟨b, o, none⟩) h⟩

theorem within_any (n lo hi : Int) (w : World) :
    Calls Try.prog 33 #[.int .i64 n, .int .i64 lo, .int .i64 hi] w fun e w' => e = .returned (.bool (M.within n lo hi)) ∧ w = w' := by
  by_cases h1 : lo ≤ n
  · by_cases h2 : n ≤ hi
    · have ho : M.within n lo hi = true := by simp [M.within, h1, h2]
      rw [ho]; clear ho
      go_enter Try.func33, Try.ntmps33
      go_wp2
      go_ret
      exact ⟨rfl, rfl⟩
    · have ho : M.within n lo hi = false := by simp [M.within]; omega
      rw [ho]; clear ho
      go_enter Try.func33, Try.ntmps33
      go_wp2
      go_ret
      exact ⟨rfl, rfl⟩
  · have ho : M.within n lo hi = false := by simp [M.within]; omega
    rw [ho]; clear ho
    go_enter Try.func33, Try.ntmps33
    go_wp2
    go_ret
    exact ⟨rfl, rfl⟩

set_option maxHeartbeats 800000 in
theorem tieOk_any (n g : Int) (b : Nat) (w : World) (hg0 : -1000 ≤ g) (hg1 : g ≤ 1000) (hc : w.cell? ⟨b, 1, none⟩ = some (.int .i64 g)) :
    Calls Try.prog 34 #[.int .i64 n, .pointer (some ⟨b, 0, none⟩)] w fun e w' => e = .returned (.bool (M.tieOk g n)) ∧ w = w' := by
  cases h1 : (n == -1)
  · cases h2 : (n == 0)
    · cases h3 : (n == g - 1)
      · cases h4 : (n == g)
        all_goals
          first
            | (have ho : M.tieOk g n = false := by (unfold M.tieOk; rw [h1, h2, h3, h4]; rfl)
               rw [ho]; clear ho)
            | (have ho : M.tieOk g n = true := by (unfold M.tieOk; rw [h1, h2, h3, h4]; rfl)
               rw [ho]; clear ho)
          go_enter Try.func34, Try.ntmps34
          go_wp2
          go_ret
          exact ⟨rfl, rfl⟩
      · have ho : M.tieOk g n = true := by unfold M.tieOk; rw [h1, h2, h3]; rfl
        rw [ho]; clear ho
        go_enter Try.func34, Try.ntmps34
        go_wp2
        go_ret
        exact ⟨rfl, rfl⟩
    · have ho : M.tieOk g n = true := by unfold M.tieOk; rw [h1, h2]; rfl
      rw [ho]; clear ho
      go_enter Try.func34, Try.ntmps34
      go_wp2
      go_ret
      exact ⟨rfl, rfl⟩
  · have ho : M.tieOk g n = true := by unfold M.tieOk; rw [h1]; rfl
    rw [ho]; clear ho
    go_enter Try.func34, Try.ntmps34
    go_wp2
    go_ret
    exact ⟨rfl, rfl⟩

end Go.Proofs.Ytlhbimifhclojaa
