/-
  For every format, every slice of sets and every cut the law ScoreOrders returns true and leaves its arguments as they were. No condition.
-/
import Derived.Test.YtlhbimifhclojaaOrdersLaw2
import Derived.Test.YtlhbimifhclojaaRow
namespace Go.Proofs.Ytlhbimifhclojaa
open Go.ChangeShapes Go.WideShapes Go.ChangeAt Go.RowKit Go.Deep Go.Joins

theorem ordersLaw_any (f : M.Fm) (A : Option Addr) (n c : Nat) (cut : Int) (ps : List M.Pr) (w : World) (hn : ps.length = n) (hr : RdP w w.heap.size A ps) (hnc : n ≤ c) (hcm : c ≤ maxLen) :
    Calls Try.prog 8 #[.agg #[.int .i64 f.sets, .int .i64 f.games, .bool f.noAd, .int .i64 f.tie, .int .i64 f.to, .int .i64 f.lastTie, .int .i64 f.lastTo, .int .i64 f.first, .int .i64 f.next, .bool f.doubles], .slice A n c, .int .i64 cut] w fun e w' => e = .returned (.bool true) ∧ Below w.heap.size w w' := by
  cases hv : M.validB f
  · exact ordersLaw_out f A n c cut w (.inl hv)
  · by_cases h5 : (5 : Int) < n
    · exact ordersLaw_out f A n c cut w (.inr ⟨hv, .inl h5⟩)
    · by_cases h0 : cut < 0
      · exact ordersLaw_out f A n c cut w (.inr ⟨hv, .inr ⟨h5, .inl h0⟩⟩)
      · by_cases hk : (n : Int) ≤ cut
        · exact ordersLaw_out f A n c cut w (.inr ⟨hv, .inr ⟨h5, .inr ⟨h0, hk⟩⟩⟩)
        · obtain ⟨k, rfl⟩ := Int.eq_ofNat_of_zero_le (Int.not_lt.1 h0)
          by_cases he : M.waysE f ps = 0
          · exact ordersLaw_ok f A n c k ps w hv hn hr (by omega) hnc (by omega) hcm he
          · exact ordersLaw_err f A n c k ps w hv hn hr (by omega) hnc (by omega) hcm he

theorem Try.own' : ownKnob Try.prog.godebug = none := by kernel_rfl

set_option maxRecDepth 100000 in
theorem ordersRow_call (H : Type) (enc : TypeId × Value → H) (W : World) (base : Nat) (args : Array Value) (ds : List (DataW H)) (p : List MemPlace) (hval : ∀ (j : Nat) t v, Try.f8.params[j]? = some t → args[j]? = some v → Value.okWide Try.prog W .any base t v)
    (hA : DataW.TrodAll enc Try.prog W 0 (fun _ => true) true Try.f8.params.toList args.toList ds p) : Calls Try.prog 8 args W fun e w' => e = .returned (.bool true) ∧ Below W.heap.size W w' := by
  rw [Try.params8] at hA hval
  obtain ⟨v0, v1, v2, d0, d1, d2, p0, p1, p2, rfl, rfl, rfl, h0, h1, h2⟩ := trodAll_three hA
  obtain ⟨f, rfl⟩ := open_fmt (hval 0 23 v0 rfl rfl) h0
  obtain ⟨A, n, c, ps, rfl, hnc, hcm, hn, hr⟩ := open_pairs h1 (okWide_slice Try.underlying30 (hval 1 30 v1 rfl rfl))
  obtain ⟨cut, rfl, _, _, _⟩ := open_int Try.underlying3 (hval 2 3 v2 rfl rfl) h2
  exact ordersLaw_any f A n c cut ps W hn hr hnc hcm

set_option maxRecDepth 100000 in
theorem ScoreOrders_holds : Rows.ScoreOrdersSaid :=
  OpenClaim.holds_of_wide (p := Try.pinned) (s := Rows.scoreOrdersSpec) (c := Rows.scoreOrdersRow) 8 Try.f8 rfl rfl rfl rfl rfl rfl rfl ⟨rfl, rfl, rfl, rfl, rfl⟩ rfl rfl rfl rfl rfl (by kernel_rfl) Try.func8 (by kernel_rfl)
    (of_decide_eq_true (by kernel_rfl)) (by unfold Func.isWrapper; first | (rw [if_pos (by decide +kernel)]; kernel_rfl) | (rw [if_neg (by decide +kernel)]; exact ⟨rfl, rfl⟩))
    (fun os started H enc _ => law_lift (C := Try.checked) (F := 8) (fn := Try.f8) (s := Rows.scoreOrdersSpec) (bt := 4) started Try.own' (by kernel_rfl) Try.func8 (by kernel_rfl) Try.underlying4 rfl laidOut (of_decide_eq_true (by kernel_rfl))
      (fun ds hds => match ds, hds with | [_, _, _], _ => rfl)
      (ChangeSpec.witness6 (enc := enc) (C := Try.checked) false ⟨#[], #[.agg #[.int .i64 0, .int .i64 0, .bool false, .int .i64 0, .int .i64 0, .int .i64 0, .int .i64 0, .int .i64 0, .int .i64 0, .bool false], .slice none 0 0, .int .i64 0], []⟩ 8 (by kernel_rfl) (by kernel_rfl) (by kernel_rfl) (by kernel_rfl))
      (fun W base args ds p hval hA _ => ordersRow_call H enc W base args ds p hval hA) _ _ _)

end Go.Proofs.Ytlhbimifhclojaa
