/-
  Two pairs compared: one Bool.
-/
import Derived.Test.YtlhbimifhclojaaRows
import Derived.WalkKit
import Derived.WalkSpells
import Derived.WalkLawsBesides
namespace Go.Proofs.Ytlhbimifhclojaa
open Go.RowKit Go

theorem run_eql_pair (a b c d : Int) (w : World) :
    (binOp .eql 32 (.agg #[.int .i64 a, .int .i64 b]) (.agg #[.int .i64 c, .int .i64 d])).run Try.prog w = .ok (.bool (a == c && b == d)) w := by
  by_cases h1 : a = c
  · by_cases h2 : b = d
    · simp [go_sem, h1, h2, Try.underlying32]
    · simp [go_sem, h1, h2, Try.underlying32]
  · simp [go_sem, h1, Try.underlying32]

end Go.Proofs.Ytlhbimifhclojaa
