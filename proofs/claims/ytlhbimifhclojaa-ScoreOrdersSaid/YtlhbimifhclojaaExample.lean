/-
  Contracts: the law's Example.
-/
import Derived.Test.YtlhbimifhclojaaPlayed
namespace Go.Proofs.Ytlhbimifhclojaa
open Go.RowKit
attribute [local go_sem ↓] Go.wp_at_zero Go.wp_at_succ
namespace M
def exF : Fm := { sets := 2, games := 2, noAd := false, tie := 2, to := 3, lastTie := 0, lastTo := 4, first := 2, next := 2, doubles := false }
def exP : List Int := [0, 0, 0, 0, 1, 1, 1, 1, 0, 0, 0, 0, 0, 0, 0, 0, 1, 1, 1, 1]
end M
theorem heap3_0 (w : World) (A B C : Obj) : (((w.alloc A).alloc B).alloc C).heap[w.heap.size]? = some A :=
  (heap_alloc_old _ _ (by show w.heap.size < ((w.heap.push A).push B).size; simp; omega)).trans (heap_alloc2_old w A B)
theorem heap3_2 (w : World) (A B C : Obj) : (((w.alloc A).alloc B).alloc C).heap[w.heap.size + 1 + 1]? = some C := by
  have h := heap_alloc_new ((w.alloc A).alloc B) C
  have e : ((w.alloc A).alloc B).heap.size = w.heap.size + 1 + 1 := by
    show ((w.heap.push A).push B).size = _
    simp
  rwa [e] at h
theorem fmtRow : (Try.prog.info? 23).map (·.size) = some 10 := by kernel_rfl

def ExPost (w : World) (e : Ending) (w' : World) : Prop :=
  ∃ A : Option Addr, e = .returned (.tuple #[.agg #[.int .i64 2, .int .i64 2, .bool false, .int .i64 2, .int .i64 3, .int .i64 0, .int .i64 4, .int .i64 2, .int .i64 2, .bool false], .slice A 20 20]) ∧ RdI w' w'.heap.size A M.exP ∧ Below w.heap.size w w'

theorem ExPost.mk {w w' : World} {b : Nat} {t : TypeId} (hb : w'.heap[b]? = some (.cells #[.int .i64 0, .int .i64 0, .int .i64 0, .int .i64 0, .int .i64 1, .int .i64 1, .int .i64 1, .int .i64 1, .int .i64 0, .int .i64 0, .int .i64 0, .int .i64 0, .int .i64 0, .int .i64 0, .int .i64 0, .int .i64 0, .int .i64 1, .int .i64 1, .int .i64 1, .int .i64 1] t (0, 0))) (h : Below w.heap.size w w') :
    ExPost w (.returned (.tuple #[.agg #[.int .i64 2, .int .i64 2, .bool false, .int .i64 2, .int .i64 3, .int .i64 0, .int .i64 4, .int .i64 2, .int .i64 2, .bool false], .slice (some ⟨b, 0, none⟩) 20 20])) w' := by
  refine ⟨_, rfl, ?_, h⟩
  intro k x hk
  refine ⟨b, 0, rfl, (Array.getElem?_eq_some_iff.1 hb).1, ?_⟩
  rw [Nat.zero_add, cell_of_row _ _ _ _ _ _ hb]
  have hkl : k < 20 := (List.getElem?_eq_some_iff.1 hk).1
  match k, hkl with
  | 0, _ | 1, _ | 2, _ | 3, _ | 4, _ | 5, _ | 6, _ | 7, _ | 8, _ | 9, _ | 10, _ | 11, _ | 12, _ | 13, _ | 14, _ | 15, _ | 16, _ | 17, _ | 18, _ | 19, _ =>
    have hx : _ = x := Option.some.inj hk
    subst hx
    rfl

set_option maxHeartbeats 2000000 in
set_option maxRecDepth 100000 in
theorem Example_any (w : World) : Calls Try.prog 32 #[] w fun e w' => ExPost w e w' := by
  go_enter Try.func32, Try.ntmps32
  go_wp2
  refine bodyPost_ret (v := .tuple #[.agg #[.int .i64 2, .int .i64 2, .bool false, .int .i64 2, .int .i64 3, .int .i64 0, .int .i64 4, .int .i64 2, .int .i64 2, .bool false], .slice (some ⟨w.heap.size + 1 + 1, 0, none⟩) 20 20]) (results_row_tmp Try.results32 _ _ w.heap.size _ _ _ _ rfl (heap3_0 w _ _ _) Try.underlying23 rfl fmtRow) rfl ?_
  exact ExPost.mk (heap3_2 w _ _ _) (by (repeat' first | exact Below.refl _ _ | assumption | refine Below.drew ?_ | refine Below.alloc ?_ ?_ _ | refine Below.setCell ?_ ?_ _ | refine Below.trans ?_ (Below.mono (by assumption) ?_) | (simp; done) | (simp; omega) | omega))

end Go.Proofs.Ytlhbimifhclojaa
