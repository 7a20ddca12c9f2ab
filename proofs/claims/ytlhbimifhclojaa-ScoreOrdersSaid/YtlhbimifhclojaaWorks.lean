/-
  Contracts: the law's works.
-/
import Derived.Test.YtlhbimifhclojaaModel13
import Derived.Test.YtlhbimifhclojaaSameB
import Derived.Test.YtlhbimifhclojaaWays
import Derived.Test.YtlhbimifhclojaaLeast
import Derived.Laws.OwnMore
namespace Go.Proofs.Ytlhbimifhclojaa
open Go.RowKit
attribute [local go_sem ↓] Go.wp_at_zero Go.wp_at_succ

theorem flatP_at : ∀ (l : List M.Pr) (k : Nat) (p : M.Pr), l[k]? = some p → (flatP l)[k * 2]? = some (.int .i64 p.A) ∧ (flatP l)[k * 2 + 1]? = some (.int .i64 p.B)
  | [], k, p, h => by simp at h
  | g :: r, 0, p, h => by
    simp only [List.getElem?_cons_zero, Option.some.injEq] at h
    subst h
    exact ⟨rfl, rfl⟩
  | g :: r, k + 1, p, h => by
    have ih := flatP_at r k p (by simpa using h)
    have e : flatP (g :: r) = .int .i64 g.A :: .int .i64 g.B :: flatP r := rfl
    have e1 : (k + 1) * 2 = k * 2 + 1 + 1 := by omega
    rw [e, e1]
    simpa using ih
theorem owns_RdP {w : World} {base : Nat} {A : Option Addr} {n c : Nat} {ps : List M.Pr} (h : w.ownsRow base 32 2 (.slice A n c) n (flatP ps)) (hn : ps.length = n) : RdP w w.heap.size A ps := by
  intro k p hk
  have hkl : k < n := by rw [← hn]; exact (List.getElem?_eq_some_iff.1 hk).1
  obtain ⟨g, cap, e, hbg, hh⟩ := h.form (by omega)
  have e' : A = some ⟨g, 0, none⟩ ∧ c = cap := by
    simp only [Value.slice.injEq] at e
    exact ⟨e.1, e.2.2⟩
  obtain ⟨rfl, rfl⟩ := e'
  obtain ⟨h0, h1⟩ := flatP_at ps k p hk
  refine ⟨g, 0, rfl, ?_, ?_, ?_⟩
  · exact (h.lt g rfl).2
  · rw [Nat.zero_add, h.cellAt (k * 2) (by omega)]; exact h0
  · rw [Nat.zero_add, h.cellAt (k * 2 + 1) (by omega)]; exact h1

theorem Play_ex (A : Option Addr) (w : World) (hr : RdI w w.heap.size A M.exP) :
    Calls Try.prog 12 #[.agg #[.int .i64 2, .int .i64 2, .bool false, .int .i64 2, .int .i64 3, .int .i64 0, .int .i64 4, .int .i64 2, .int .i64 2, .bool false], .int .i64 0, .slice A 20 20] w fun e w' => ∃ A' c', e = .returned (.tuple #[.agg #[.slice A' 1 c', .int .i64 0, .int .i64 1, .int .i64 0, .int .i64 0, .int .i64 1, .int .i64 3, .int .i64 2, .int .i64 (-1)], .int .i64 0]) ∧ RdP w' w'.heap.size A' [⟨3, 1⟩] ∧ Below w.heap.size w w' := by
  refine (Play_any M.exF 0 A 20 20 M.exP w rfl hr (by omega)).mono ?_
  rintro e w' ⟨sv, rfl, hsv, hb⟩
  obtain ⟨A', c', rfl⟩ := own_form hsv
  have hp := M.ex_playM
  obtain ⟨f1, f2, f3, f4, f5, f6, f7⟩ := M.ex_facts
  rw [hp, f5] at hsv
  have hsv' : w'.ownsRow w.heap.size 32 2 (.slice A' 1 c') 1 (flatP [⟨3, 1⟩]) := hsv
  refine ⟨A', c', ?_, owns_RdP hsv' rfl, hb⟩
  rw [hp, M.ex_playE, f1, f2, f3, f4, f5, f6, f7]
  rfl
theorem Ways_ex (A : Option Addr) (w : World) (hr : RdP w w.heap.size A [⟨2, 3⟩]) :
    Calls Try.prog 31 #[.agg #[.int .i64 2, .int .i64 2, .bool false, .int .i64 2, .int .i64 3, .int .i64 0, .int .i64 4, .int .i64 2, .int .i64 2, .bool false], .slice A 1 1] w fun e w' => e = .returned (.tuple #[.int .i64 4, .int .i64 0]) ∧ Below w.heap.size w w' := by
  refine (Ways_any M.exF A 1 1 [⟨2, 3⟩] w rfl hr (by omega)).mono ?_
  rintro e w' ⟨rfl, hb⟩
  rw [M.ex_ways.1, M.ex_ways.2]
  exact ⟨rfl, hb⟩
theorem Least_ex (w : World) :
    Calls Try.prog 19 #[.agg #[.int .i64 2, .int .i64 2, .bool false, .int .i64 2, .int .i64 3, .int .i64 0, .int .i64 4, .int .i64 2, .int .i64 2, .bool false], .agg #[.slice none 0 0, .int .i64 0, .int .i64 0, .int .i64 0, .int .i64 0], .int .i64 0] w fun e w' => e = .returned (.tuple #[.int .i64 16, .int .i64 0]) ∧ Below w.heap.size w w' := by
  refine (Least_any M.exF none 0 0 [] M.zero M.zero 0 w rfl (RdP.nil _ _ _) (by omega)).mono ?_
  rintro e w' ⟨rfl, hb⟩
  rw [M.ex_least.1, M.ex_least.2]
  exact ⟨rfl, hb⟩
theorem sameBoard_ex (A1 A2 : Option Addr) (c1 c2 : Nat) (w : World) (h1 : RdP w w.heap.size A1 [⟨3, 1⟩]) (h2 : RdP w w.heap.size A2 [⟨3, 1⟩]) :
    Calls Try.prog 21 #[.agg #[.slice A1 1 c1, .int .i64 0, .int .i64 1, .int .i64 0, .int .i64 0], .agg #[.slice A2 1 c2, .int .i64 0, .int .i64 1, .int .i64 0, .int .i64 0]] w fun e w' => e = .returned (.bool true) ∧ Below w.heap.size w w' := by
  exact sameBoard_any A1 A2 1 1 c1 c2 [⟨3, 1⟩] [⟨3, 1⟩] ⟨0, 1⟩ ⟨0, 1⟩ ⟨0, 0⟩ ⟨0, 0⟩ w rfl rfl h1 h2 (by omega) (by omega)

theorem RdP_new (w : World) (p : M.Pr) (t : TypeId) : RdP (w.alloc (.cells #[.int .i64 p.A, .int .i64 p.B] t (0, 0))) (w.alloc (.cells #[.int .i64 p.A, .int .i64 p.B] t (0, 0))).heap.size (some ⟨w.heap.size, 0, none⟩) [p] := by
  intro k q hk
  have hk0 : k = 0 := by have := (List.getElem?_eq_some_iff.1 hk).1; simp at this; exact this
  subst hk0
  simp only [List.getElem?_cons_zero, Option.some.injEq] at hk
  subst hk
  exact ⟨w.heap.size, 0, rfl, by simp, (alloc_cell w _ rfl _ _ _).trans rfl, (alloc_cell w _ rfl _ _ _).trans rfl⟩

set_option maxHeartbeats 4000000 in
set_option maxRecDepth 100000 in
theorem works_any (w : World) : Calls Try.prog 9 #[] w fun e w' => e = .returned (.bool true) ∧ Below w.heap.size w w' := by
  go_enter Try.func9, Try.ntmps9
  go_upto_region 2 with (first | (go_at_call 32; refine (Example_any _).mono ?_; rintro e w1 ⟨A, rfl, hrd, hb1⟩; have HR1 := hide hrd; have HB1 := hide hb1; clear hrd hb1))
  have h23 : (w1.alloc (.cells #[.int .i64 2, .int .i64 2, .bool false, .int .i64 2, .int .i64 3, .int .i64 0, .int .i64 4, .int .i64 2, .int .i64 2, .bool false] 23 (0, 0))).heap[w1.heap.size]? = some (.cells #[.int .i64 2, .int .i64 2, .bool false, .int .i64 2, .int .i64 3, .int .i64 0, .int .i64 4, .int .i64 2, .int .i64 2, .bool false] 23 (0, 0)) := heap_alloc_new _ _
  have HR2 := hide ((HR1.out.below (Below.alloc (Below.refl _ _) (Nat.le_refl _) (.cells #[.int .i64 2, .int .i64 2, .bool false, .int .i64 2, .int .i64 3, .int .i64 0, .int .i64 4, .int .i64 2, .int .i64 2, .bool false] 23 (0, 0)))).mono (B' := (w1.alloc (.cells #[.int .i64 2, .int .i64 2, .bool false, .int .i64 2, .int .i64 3, .int .i64 0, .int .i64 4, .int .i64 2, .int .i64 2, .bool false] 23 (0, 0))).heap.size) (by simp))
  have HB2 := hide (Below.alloc HB1.out HB1.out.size (.cells #[.int .i64 2, .int .i64 2, .bool false, .int .i64 2, .int .i64 3, .int .i64 0, .int .i64 4, .int .i64 2, .int .i64 2, .bool false] 23 (0, 0)))
  have hq1 : w1.heap.size < (w1.alloc (.cells #[.int .i64 2, .int .i64 2, .bool false, .int .i64 2, .int .i64 3, .int .i64 0, .int .i64 4, .int .i64 2, .int .i64 2, .bool false] 23 (0, 0))).heap.size := by simp
  clear HR1 HB1
  generalize (w1.alloc (.cells #[.int .i64 2, .int .i64 2, .bool false, .int .i64 2, .int .i64 3, .int .i64 0, .int .i64 4, .int .i64 2, .int .i64 2, .bool false] 23 (0, 0))) = w2 at h23 HR2 HB2 hq1 ⊢
  generalize w1.heap.size = q1 at h23 hq1 ⊢
  have H23 := hide h23
  have hcc := fun i => cell_of_row w2 q1 i _ _ _ h23
  clear h23
  go_upto_region 3 with (first | (go_at_call 12; refine (Play_ex A _ HR2.out).mono ?_; rintro e w3 ⟨A', c', rfl, hrd, hb⟩; have HR3 := hide hrd; have HB3 := hide hb; clear hrd hb))
  have h36 : (w3.alloc (.cells #[.slice A' 1 c', .int .i64 0, .int .i64 1, .int .i64 0, .int .i64 0, .int .i64 1, .int .i64 3, .int .i64 2, .int .i64 (-1)] 36 (0, 0))).heap[w3.heap.size]? = some (.cells #[.slice A' 1 c', .int .i64 0, .int .i64 1, .int .i64 0, .int .i64 0, .int .i64 1, .int .i64 3, .int .i64 2, .int .i64 (-1)] 36 (0, 0)) := heap_alloc_new _ _
  have hz3 := HB3.out.size
  have h23 : (w3.alloc (.cells #[.slice A' 1 c', .int .i64 0, .int .i64 1, .int .i64 0, .int .i64 0, .int .i64 1, .int .i64 3, .int .i64 2, .int .i64 (-1)] 36 (0, 0))).heap[q1]? = some (.cells #[.int .i64 2, .int .i64 2, .bool false, .int .i64 2, .int .i64 3, .int .i64 0, .int .i64 4, .int .i64 2, .int .i64 2, .bool false] 23 (0, 0)) := (heap_alloc_old _ _ (by omega)).trans ((HB3.out.block q1 hq1).trans H23.out)
  have HR4 := hide ((HR3.out.below (Below.alloc (Below.refl _ _) (Nat.le_refl _) (.cells #[.slice A' 1 c', .int .i64 0, .int .i64 1, .int .i64 0, .int .i64 0, .int .i64 1, .int .i64 3, .int .i64 2, .int .i64 (-1)] 36 (0, 0)))).mono (B' := (w3.alloc (.cells #[.slice A' 1 c', .int .i64 0, .int .i64 1, .int .i64 0, .int .i64 0, .int .i64 1, .int .i64 3, .int .i64 2, .int .i64 (-1)] 36 (0, 0))).heap.size) (by simp))
  have HB4 := hide (Below.alloc (HB2.out.trans (HB3.out.mono HB2.out.size)) (Nat.le_trans HB2.out.size hz3) (.cells #[.slice A' 1 c', .int .i64 0, .int .i64 1, .int .i64 0, .int .i64 0, .int .i64 1, .int .i64 3, .int .i64 2, .int .i64 (-1)] 36 (0, 0)))
  have hq3 : w3.heap.size < (w3.alloc (.cells #[.slice A' 1 c', .int .i64 0, .int .i64 1, .int .i64 0, .int .i64 0, .int .i64 1, .int .i64 3, .int .i64 2, .int .i64 (-1)] 36 (0, 0))).heap.size := by simp
  have hq13 : q1 < w3.heap.size := by omega
  clear HR2 HB2 HR3 HB3 H23 hcc hq1 hz3
  generalize (w3.alloc (.cells #[.slice A' 1 c', .int .i64 0, .int .i64 1, .int .i64 0, .int .i64 0, .int .i64 1, .int .i64 3, .int .i64 2, .int .i64 (-1)] 36 (0, 0))) = w4 at h23 h36 HR4 HB4 hq3 ⊢
  generalize w3.heap.size = q3 at h36 hq3 hq13 ⊢
  have H23 := hide h23
  have H36 := hide h36
  have hcc := fun i => cell_of_row w4 q1 i _ _ _ h23
  clear h23 h36 w1 w2 w3
  go_upto_region 4 with (first | (go_at_call 31; refine (Ways_ex _ _ (RdP_new w4 ⟨2, 3⟩ 32)).mono ?_; rintro e w5 ⟨rfl, hb⟩; have HB5 := hide (show Below w4.heap.size w4 w5 from (Below.alloc (Below.refl _ _) (Nat.le_refl _) _).trans (hb.mono (by simp))); clear hb))
  have hz5 := HB5.out.size
  have h23 : w5.heap[q1]? = some (.cells #[.int .i64 2, .int .i64 2, .bool false, .int .i64 2, .int .i64 3, .int .i64 0, .int .i64 4, .int .i64 2, .int .i64 2, .bool false] 23 (0, 0)) := (HB5.out.block q1 (by omega)).trans H23.out
  have h36 : w5.heap[q3]? = some (.cells #[.slice A' 1 c', .int .i64 0, .int .i64 1, .int .i64 0, .int .i64 0, .int .i64 1, .int .i64 3, .int .i64 2, .int .i64 (-1)] 36 (0, 0)) := (HB5.out.block q3 hq3).trans H36.out
  have HR5 := hide ((HR4.out.below HB5.out).mono hz5)
  have HB5' := hide (HB4.out.trans (HB5.out.mono HB4.out.size))
  clear HR4 HB4 HB5 H23 H36 hcc
  have H36 := hide h36
  have hcc := fun i => cell_of_row w5 q1 i _ _ _ h23
  clear h23 h36
  go_upto_region 5 with (first | (go_at_call 19; refine (Least_ex _).mono ?_; rintro e w6 ⟨rfl, hb⟩; have HB6 := hide hb; clear hb))
  have hz6 := HB6.out.size
  have h36 : w6.heap[q3]? = some (.cells #[.slice A' 1 c', .int .i64 0, .int .i64 1, .int .i64 0, .int .i64 0, .int .i64 1, .int .i64 3, .int .i64 2, .int .i64 (-1)] 36 (0, 0)) := (HB6.out.block q3 (by omega)).trans H36.out
  have HR6 := hide ((HR5.out.below HB6.out).mono hz6)
  have HB7 := hide (HB5'.out.trans (HB6.out.mono HB5'.out.size))
  clear HR5 HB5' HB6 H36 hcc
  have hcc := fun i => cell_of_row w6 q3 i _ _ _ h36
  clear h36
  go_wp2_with (first | (go_at_call 21; refine (sameBoard_ex _ _ _ _ _ ((HR6.out.below (Below.alloc (Below.refl _ _) (Nat.le_refl _) _)).mono (by simp)) (RdP_new w6 ⟨3, 1⟩ 32)).mono ?_; rintro e w8 ⟨rfl, hb⟩; have HB8 := hide (show Below w6.heap.size w6 w8 from (Below.alloc (Below.refl _ _) (Nat.le_refl _) _).trans (hb.mono (by simp))); clear hb))
  go_ret
  exact ⟨rfl, HB7.out.trans (HB8.out.mono HB7.out.size)⟩

end Go.Proofs.Ytlhbimifhclojaa
