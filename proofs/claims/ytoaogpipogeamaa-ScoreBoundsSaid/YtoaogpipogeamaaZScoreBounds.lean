/-
  For every format, every first server and every slice of points the law ScoreBounds returns true and leaves its arguments as they were. No condition.
-/
import Derived.Test.YtoaogpipogeamaaZB09
import Derived.Test.YtoaogpipogeamaaZB13
namespace Go.Proofs.Ytoaogpipogeamaa
open Go.ChangeShapes Go.WideShapes Go.ChangeAt Go.RowKit Go.Deep Go.Joins

theorem Try.ownScoreBounds : ownKnob Try.prog.godebug = none := by kernel_rfl

set_option maxRecDepth 100000 in
theorem scoreBounds_call (H : Type) (enc : TypeId × Value → H) (W : World) (base : Nat) (args : Array Value) (ds : List (DataW H)) (p : List MemPlace) (hval : ∀ (j : Nat) t v, Try.f9.params[j]? = some t → args[j]? = some v → Value.okWide Try.prog W .any base t v)
    (hA : DataW.TrodAll enc Try.prog W 0 (fun _ => true) true Try.f9.params.toList args.toList ds p) : Calls Try.prog 9 args W fun e W' => e = .returned (.bool true) ∧ Below W.heap.size W W' := by
  rw [Try.params9] at hA hval
  obtain ⟨v0, v1, d0, d1, p0, p1, rfl, rfl, rfl, h0, h1⟩ := trodAll_two hA
  obtain ⟨f, rfl⟩ := open_fmt (hval 0 23 v0 rfl rfl) h0
  obtain ⟨first, A, n, c, xs, rfl, hwf, hnc, hcm, hn, hr, hxw, hA0⟩ := open_points (hval 1 26 v1 rfl rfl) h1
  exact boundsLaw_any f first A n c xs W hn hr hcm hnc

set_option maxRecDepth 100000 in
theorem ScoreBounds_holds : Rows.ScoreBoundsSaid :=
  OpenClaim.holds_of_wide (p := Try.pinned) (s := Rows.scoreBoundsSpec) (c := Rows.scoreBoundsRow) 9 Try.f9 rfl rfl rfl rfl rfl rfl rfl ⟨rfl, rfl, rfl, rfl, rfl⟩ rfl rfl rfl rfl rfl (by kernel_rfl) Try.func9 (by kernel_rfl)
    (of_decide_eq_true (by kernel_rfl)) (by unfold Func.isWrapper; first | (rw [if_pos (by decide +kernel)]; kernel_rfl) | (rw [if_neg (by decide +kernel)]; exact ⟨rfl, rfl⟩))
    (fun os started H enc _ => law_lift (C := Try.checked) (F := 9) (fn := Try.f9) (s := Rows.scoreBoundsSpec) (bt := 4) started Try.ownScoreBounds (by kernel_rfl) Try.func9 (by kernel_rfl) Try.underlying4 rfl laidOut (of_decide_eq_true (by kernel_rfl))
      (fun ds hds => match ds, hds with | [_, _], _ => rfl)
      (ChangeSpec.witness6 (enc := enc) (C := Try.checked) false ⟨#[], #[.agg #[.int .i64 0, .int .i64 0, .bool false, .int .i64 0, .int .i64 0, .int .i64 0, .int .i64 0, .int .i64 0, .int .i64 0, .bool false], .agg #[.int .i64 0, .slice none 0 0]], []⟩ 8 (by kernel_rfl) (by kernel_rfl) (by kernel_rfl) (by kernel_rfl))
      (fun W base args ds p hval hA _ => scoreBounds_call H enc W base args ds p hval hA) _ _ _)

end Go.Proofs.Ytoaogpipogeamaa
