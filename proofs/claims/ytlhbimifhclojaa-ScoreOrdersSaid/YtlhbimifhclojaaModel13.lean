/-
  What the plain functions give at the law's example.
-/
import Derived.Test.YtlhbimifhclojaaExample
import Derived.KernelRfl
namespace Go.Proofs.Ytlhbimifhclojaa
open Go.RowKit
namespace M
def exM : Mt := (playF (start exF 0) exP).getD noM
theorem ex_some : (playF (start exF 0) exP).isSome = true := by decide +kernel
theorem ex_facts : exM.server = 1 ∧ exM.ends = 3 ∧ exM.balls = 2 ∧ exM.winner = -1 ∧ exM.sets = [⟨3, 1⟩] ∧ exM.games = ⟨0, 1⟩ ∧ exM.pts = ⟨0, 0⟩ := by decide +kernel
theorem ex_playM : playM exF 0 exP = exM := by
  unfold playM exM
  rw [if_pos (by decide +kernel), if_pos (by decide +kernel), if_neg (by decide +kernel)]
theorem ex_playE : playE exF 0 exP = 0 := by decide +kernel
theorem ex_ways : waysV exF [⟨2, 3⟩] = 4 ∧ waysE exF [⟨2, 3⟩] = 0 := by decide +kernel
theorem ex_least : leastV exF [] zero zero 0 = 16 ∧ leastE exF [] zero zero 0 = 0 := by decide +kernel
end M
end Go.Proofs.Ytlhbimifhclojaa
