/-
  Part of a claim's texts: contracts of the program's functions and the plain functions that they compute, in build order.
-/
import Derived.Test.YtklomhmdiflfaaaRows
import Derived.Carry
import Derived.ProofKit
import Derived.Deep.Slices
import Derived.Deep.Fields
import Derived.Lib.SmallJoins
import Derived.Test.YtklomhmdiflfaaaZB04
import Derived.Test.YtklomhmdiflfaaaZB05
namespace Go.Proofs.Ytklomhmdiflfaaa
open Go.RowKit
attribute [local go_sem ↓] Go.wp_at_zero Go.wp_at_succ

set_option maxHeartbeats 4000000 in
theorem sameInts_eq (A1 A2 : Option Addr) (n c1 c2 : Nat) (xs : List Int) (w : World) (hn : xs.length = n) (hr1 : RdI w w.heap.size A1 xs) (hr2 : RdI w w.heap.size A2 xs) (hm : n ≤ 1000000) :
    Calls Try.prog 27 #[.slice A1 n c1, .slice A2 n c2] w fun e w' => e = .returned (.bool true) ∧ Below w.heap.size w w' := by
  have HN := hide hn
  have HR1 := hide hr1
  have HR2 := hide hr2
  clear hn hr1 hr2
  go_enter Try.func27, Try.ntmps27
  go_wp2_with fail
  go_loopw [5] (fun i wr => ∃ k : Nat, k ≤ n ∧ i = .int .i64 k ∧ Below w.heap.size w wr) (fun i _ => n - (intOf i).toNat)
  case atStart => exact ⟨0, by omega, rfl, by (repeat' first | exact zbR _ _ | assumption | refine zbD ?_ | refine zbA ?_ ?_ _ | refine zbS ?_ ?_ _ | refine zbT ?_ (by assumption) ?_ | (simp; done) | (simp; omega) | omega)⟩
  case round =>
    obtain ⟨k, hk, rfl, hB⟩ := hrel
    by_cases hlt : k < n
    · obtain ⟨p, hp'⟩ : ∃ q, xs[k]? = some q := ⟨_, List.getElem?_eq_getElem (by have := HN.out; omega)⟩
      obtain ⟨b, o, hA, hbB, c0⟩ := (HR1.out.below hB) k p hp'
      obtain ⟨b2, o2, hA2, hbB2, d0⟩ := (HR2.out.below hB) k p hp'
      subst hA hA2
      clear hp'
      have hlt' : (k : Int) < (n : Int) := by omega
      have hk0 : (0 : Int) ≤ (k : Int) := by omega
      go_wp2_with fail
      go_quiet (fail)
      go_wp2_with fail
      go_roundw
      case rel => exact ⟨k + 1, by omega, by go_num, below_drewN hB _⟩
      case measure => simp [intOf]; omega
    · have hkn : k = n := by omega
      subst hkn
      go_wp2_with fail
      go_ret
      exact ⟨rfl, hB⟩

theorem same1 (A : Option Addr) (c : Nat) (x : Int) (W : World) (q : Nat) (hq : W.heap[q]? = some (.cells #[.int .i64 x] 3 (0, 0))) (hr : RdI W W.heap.size A [x]) :
    Calls Try.prog 27 #[.slice A 1 c, .slice (some ⟨q, 0, none⟩) 1 1] W fun e w' => e = .returned (.bool true) ∧ Below W.heap.size W w' :=
  sameInts_eq A (some ⟨q, 0, none⟩) 1 c 1 [x] W rfl hr (rdI_one hq) (by omega)
theorem same2 (A : Option Addr) (c : Nat) (x y : Int) (W : World) (q : Nat) (hq : W.heap[q]? = some (.cells #[.int .i64 x, .int .i64 y] 3 (0, 0))) (hr : RdI W W.heap.size A [x, y]) :
    Calls Try.prog 27 #[.slice A 2 c, .slice (some ⟨q, 0, none⟩) 2 2] W fun e w' => e = .returned (.bool true) ∧ Below W.heap.size W w' :=
  sameInts_eq A (some ⟨q, 0, none⟩) 2 c 2 [x, y] W rfl hr (rdI_two hq) (by omega)
theorem same3 (A : Option Addr) (c : Nat) (x y z : Int) (W : World) (q : Nat) (hq : W.heap[q]? = some (.cells #[.int .i64 x, .int .i64 y, .int .i64 z] 3 (0, 0))) (hr : RdI W W.heap.size A [x, y, z]) :
    Calls Try.prog 27 #[.slice A 3 c, .slice (some ⟨q, 0, none⟩) 3 3] W fun e w' => e = .returned (.bool true) ∧ Below W.heap.size W w' :=
  sameInts_eq A (some ⟨q, 0, none⟩) 3 c 3 [x, y, z] W rfl hr (rdI_three hq) (by omega)
theorem list_ex (A : Option Addr) (w : World) (hr : RdN w w.heap.size A E.exL) :
    Calls Try.prog 14 #[.agg #[.int .i64 3, .int .i64 1, .int .i64 1, .int .i64 10, .int .i64 20], .slice A 11 11, .int .i64 12] w fun e w' => ∃ A1 c1 A2 c2 A3 c3 P, e = .returned (.tuple #[.agg #[.slice A1 3 c1, .slice A2 1 c2, .slice A3 2 c3, .int .i64 P], .int .i64 0]) ∧ RdI w' w'.heap.size A1 [9, 8, 5] ∧ RdI w' w'.heap.size A2 [7] ∧ RdI w' w'.heap.size A3 [6, 4] ∧ Below w.heap.size w w' := by
  refine (List_any E.exF A 11 11 E.exL 12 w rfl hr E.ex_wf (by omega)).mono ?_
  rintro e w' ⟨(⟨h0, _⟩ | ⟨_, d, A1, c1, A2, c2, A3, c3, hd, rfl, h1, h2, h3⟩), hb⟩
  · exact absurd (E.ex_err 12 0 (by omega) (by omega)) h0
  · have e0 : d = E.exL := by rw [E.ex_diffs] at hd; exact (Option.some.inj hd).symm
    subst e0
    rw [show E.atL E.exF 12 E.exL = E.atL E.exF 12 E.exL from rfl] at h1
    have r1 := owns_RdI h1 rfl
    have r2 := owns_RdI h2 rfl
    have r3 := owns_RdI h3 rfl
    rw [E.ex_main] at r1
    rw [E.ex_cards] at r2
    rw [E.ex_alts] at r3
    exact ⟨A1, c1, A2, c2, A3, c3, _, by rw [E.ex_main, E.ex_cards, E.ex_alts]; rfl, r1, r2, r3, hb⟩
theorem needs_ex (A : Option Addr) (w : World) (hr : RdN w w.heap.size A E.exL) :
    Calls Try.prog 23 #[.agg #[.int .i64 3, .int .i64 1, .int .i64 1, .int .i64 10, .int .i64 20], .slice A 11 11, .int .i64 10, .int .i64 4] w fun e w' => e = .returned (.tuple #[.int .i64 2, .int .i64 0]) ∧ Below w.heap.size w w' := by
  refine (Needs_any E.exF A 11 11 E.exL 10 4 w rfl hr E.ex_wf (by omega)).mono ?_
  rintro e w' ⟨rfl, hb⟩
  refine ⟨?_, hb⟩
  unfold NeedsPost needsV
  rw [if_pos (E.ex_err 10 4 (by omega) (by omega)), E.ex_diffs]
  dsimp only
  rw [E.ex_needs]
theorem when_ex (A : Option Addr) (w : World) (hr : RdN w w.heap.size A E.exL) :
    Calls Try.prog 25 #[.agg #[.int .i64 3, .int .i64 1, .int .i64 1, .int .i64 10, .int .i64 20], .slice A 11 11, .int .i64 4] w fun e w' => e = .returned (.tuple #[.int .i64 15, .int .i64 0]) ∧ Below w.heap.size w w' := by
  refine (When_any E.exF A 11 11 E.exL 4 w rfl hr E.ex_wf (by omega)).mono ?_
  rintro e w' ⟨rfl, hb⟩
  refine ⟨?_, hb⟩
  unfold WhenPost whenV
  rw [if_pos (E.ex_err 0 4 (by omega) (by omega)), E.ex_diffs]
  dsimp only
  rw [E.ex_when]

set_option maxHeartbeats 6400000 in
set_option maxRecDepth 100000 in
theorem works_any (w : World) : Calls Try.prog 11 #[] w fun e w' => e = .returned (.bool true) ∧ Below w.heap.size w w' := by
  go_enter Try.func11, Try.ntmps11
  go_wp2_with (first
    | (go_at_call 26; refine (Example_any _).mono ?_; rintro e w1 ⟨A, rfl, hr1, hb1⟩; have HR1 := hide hr1; have HB1 := hide hb1; clear hr1 hb1)
    | (go_at_call 14; refine (list_ex A _ ((HR1.out.below (by (repeat' first | exact zbR _ _ | assumption | refine zbD ?_ | refine zbA ?_ ?_ _ | refine zbS ?_ ?_ _ | refine zbT ?_ (by assumption) ?_ | (simp; done) | (simp; omega) | omega))).mono (by simp))).mono ?_; rintro e w2 ⟨A1, c1, A2, c2, A3, c3, P, rfl, hl1, hl2, hl3, hb2⟩; have HL1 := hide hl1; have HL2 := hide hl2; have HL3 := hide hl3; have HB2 := hide (zbT (show Below w1.heap.size w1 _ by (repeat' first | exact zbR _ _ | assumption | refine zbD ?_ | refine zbA ?_ ?_ _ | refine zbS ?_ ?_ _ | refine zbT ?_ (by assumption) ?_ | (simp; done) | (simp; omega) | omega)) hb2 (by simp)); have HF2 := hide ((hb2.block w1.heap.size (by simp)).trans (World.alloc_heap_new _ _)); have f0 : w2.cell? ⟨w1.heap.size, 0, none⟩ = some (.int .i64 3) := (blk_cell HF2.out 0).trans rfl; have f1 : w2.cell? ⟨w1.heap.size, 1, none⟩ = some (.int .i64 1) := (blk_cell HF2.out 1).trans rfl; have f2 : w2.cell? ⟨w1.heap.size, 2, none⟩ = some (.int .i64 1) := (blk_cell HF2.out 2).trans rfl; have f3 : w2.cell? ⟨w1.heap.size, 3, none⟩ = some (.int .i64 10) := (blk_cell HF2.out 3).trans rfl; have f4 : w2.cell? ⟨w1.heap.size, 4, none⟩ = some (.int .i64 20) := (blk_cell HF2.out 4).trans rfl; have l2 := blk_lt HF2.out; clear hl1 hl2 hl3 hb2)
    | (go_at_call 23; refine (needs_ex A _ (((HR1.out.below HB2.out).below (show Below w1.heap.size w2 _ by have := HB2.out.size; (repeat' first | exact zbR _ _ | assumption | refine zbD ?_ | refine zbA ?_ ?_ _ | refine zbS ?_ ?_ _ | refine zbT ?_ (by assumption) ?_ | (simp; done) | (simp; omega) | omega))).mono (by have := HB2.out.size; simp; omega))).mono ?_; rintro e w3 ⟨rfl, hb3⟩; have HB23 := hide (zbT (show Below w2.heap.size w2 _ by (repeat' first | exact zbR _ _ | assumption | refine zbD ?_ | refine zbA ?_ ?_ _ | refine zbS ?_ ?_ _ | refine zbT ?_ (by assumption) ?_ | (simp; done) | (simp; omega) | omega)) hb3 (by simp)); have HE3 := hide ((hb3.block w2.heap.size (by simp)).trans (World.alloc_heap_new w2 (.cells #[.slice A1 3 c1, .slice A2 1 c2, .slice A3 2 c3, .int .i64 P] 33))); have HF3 := hide ((HB23.out.block w1.heap.size (blk_lt HF2.out)).trans HF2.out); have g0 : w3.cell? ⟨w1.heap.size, 0, none⟩ = some (.int .i64 3) := (blk_cell HF3.out 0).trans rfl; have g1 : w3.cell? ⟨w1.heap.size, 1, none⟩ = some (.int .i64 1) := (blk_cell HF3.out 1).trans rfl; have g2 : w3.cell? ⟨w1.heap.size, 2, none⟩ = some (.int .i64 1) := (blk_cell HF3.out 2).trans rfl; have g3 : w3.cell? ⟨w1.heap.size, 3, none⟩ = some (.int .i64 10) := (blk_cell HF3.out 3).trans rfl; have g4 : w3.cell? ⟨w1.heap.size, 4, none⟩ = some (.int .i64 20) := (blk_cell HF3.out 4).trans rfl; have l3 := blk_lt HF3.out; clear hb3)
    | (go_at_call 25; refine (when_ex A _ (((HR1.out.below HB2.out).below (HB23.out.mono HB2.out.size)).mono (Nat.le_trans HB2.out.size HB23.out.size))).mono ?_; rintro e w4 ⟨rfl, hb4⟩; have HB24 := hide (zbT HB23.out hb4 HB23.out.size); have HE4 := hide ((hb4.block w2.heap.size (blk_lt HE3.out)).trans HE3.out); have e0 : w4.cell? ⟨w2.heap.size, 0, none⟩ = some (.slice A1 3 c1) := (blk_cell HE4.out 0).trans rfl; have l4 := blk_lt HE4.out; clear hb4)
    | (go_at_call 27; with_reducible refine (same3 A1 c1 9 8 5 _ _ (World.alloc_heap_new _ _) ?hr).mono ?_; (case hr => exact ((HL1.out.below HB24.out).below (show Below w2.heap.size w4 _ by have := HB24.out.size; (repeat' first | exact zbR _ _ | assumption | refine zbD ?_ | refine zbA ?_ ?_ _ | refine zbS ?_ ?_ _ | refine zbT ?_ (by assumption) ?_ | (simp; done) | (simp; omega) | omega))).mono (by have := HB24.out.size; simp; omega)); rintro e w5 ⟨rfl, hb9⟩; have HB25 := hide (zbT (HB24.out.trans (show Below w2.heap.size w4 _ by have := HB24.out.size; (repeat' first | exact zbR _ _ | assumption | refine zbD ?_ | refine zbA ?_ ?_ _ | refine zbS ?_ ?_ _ | refine zbT ?_ (by assumption) ?_ | (simp; done) | (simp; omega) | omega))) hb9 (by have := HB24.out.size; simp; omega)); have HE5 := hide ((hb9.block w2.heap.size (by have := blk_lt HE4.out; simp; omega)).trans ((Below.heap_alloc _ _ _ (blk_lt HE4.out)).trans HE4.out)); have e1 : w5.cell? ⟨w2.heap.size, 1, none⟩ = some (.slice A2 1 c2) := (blk_cell HE5.out 1).trans rfl; have l5 := blk_lt HE5.out; clear hb9)
    | (go_at_call 27; with_reducible refine (same1 A2 c2 7 _ _ (World.alloc_heap_new _ _) ?hr).mono ?_; (case hr => exact ((HL2.out.below HB25.out).below (show Below w2.heap.size w5 _ by have := HB25.out.size; (repeat' first | exact zbR _ _ | assumption | refine zbD ?_ | refine zbA ?_ ?_ _ | refine zbS ?_ ?_ _ | refine zbT ?_ (by assumption) ?_ | (simp; done) | (simp; omega) | omega))).mono (by have := HB25.out.size; simp; omega)); rintro e w6 ⟨rfl, hb9⟩; have HB26 := hide (zbT (HB25.out.trans (show Below w2.heap.size w5 _ by have := HB25.out.size; (repeat' first | exact zbR _ _ | assumption | refine zbD ?_ | refine zbA ?_ ?_ _ | refine zbS ?_ ?_ _ | refine zbT ?_ (by assumption) ?_ | (simp; done) | (simp; omega) | omega))) hb9 (by have := HB25.out.size; simp; omega)); have HE6 := hide ((hb9.block w2.heap.size (by have := blk_lt HE5.out; simp; omega)).trans ((Below.heap_alloc _ _ _ (blk_lt HE5.out)).trans HE5.out)); have e2 : w6.cell? ⟨w2.heap.size, 2, none⟩ = some (.slice A3 2 c3) := (blk_cell HE6.out 2).trans rfl; have l6 := blk_lt HE6.out; clear hb9)
    | (go_at_call 27; with_reducible refine (same2 A3 c3 6 4 _ _ (World.alloc_heap_new _ _) ?hr).mono ?_; (case hr => exact ((HL3.out.below HB26.out).below (show Below w2.heap.size w6 _ by have := HB26.out.size; (repeat' first | exact zbR _ _ | assumption | refine zbD ?_ | refine zbA ?_ ?_ _ | refine zbS ?_ ?_ _ | refine zbT ?_ (by assumption) ?_ | (simp; done) | (simp; omega) | omega))).mono (by have := HB26.out.size; simp; omega)); rintro e w7 ⟨rfl, hb9⟩; have HB27 := hide (zbT (HB26.out.trans (show Below w2.heap.size w6 _ by have := HB26.out.size; (repeat' first | exact zbR _ _ | assumption | refine zbD ?_ | refine zbA ?_ ?_ _ | refine zbS ?_ ?_ _ | refine zbT ?_ (by assumption) ?_ | (simp; done) | (simp; omega) | omega))) hb9 (by have := HB26.out.size; simp; omega)); clear hb9))
  go_ret
  exact ⟨rfl, HB1.out.trans ((HB2.out.trans (HB27.out.mono HB2.out.size)).mono HB1.out.size)⟩

end Go.Proofs.Ytklomhmdiflfaaa

namespace Go.Proofs.Ytklomhmdiflfaaa
namespace E

def inB (s : St) (y : Int) : Prop := (s.where_ y).1 = 1 ∨ (s.where_ y).1 = 2
theorem where_range (s : St) (y : Int) : (s.where_ y).1 = 0 ∨ (s.where_ y).1 = 1 ∨ (s.where_ y).1 = 2 ∨ (s.where_ y).1 = 3 := by
  unfold St.where_
  repeat' split
  all_goals simp
theorem not_in {s : St} {y : Int} (h : ¬ inB s y) : (s.where_ y).1 = 0 ∨ (s.where_ y).1 = 3 := by
  rcases where_range s y with e | e | e | e
  · exact .inl e
  · exact absurd (.inl e) h
  · exact absurd (.inr e) h
  · exact .inr e
theorem new_where (f : Fd) (y : Int) : ¬ inB (St.new f) y := by
  have e : (St.new f).alts = [] := by
    unfold St.alts St.order St.new
    simp
  unfold inB St.where_
  rw [e]
  simp [St.new, idx]

theorem filter_pre {a r : List Nt} {h : Int} (h1 : ∀ z ∈ a, z.hour ≤ h) (h2 : ∀ z ∈ r, h < z.hour) : (a ++ r).filter (fun x => decide (x.hour ≤ h)) = a := by
  rw [List.filter_append, List.filter_eq_self.2 (fun z hz => by simpa using h1 z hz), List.filter_eq_nil_iff.2 (fun z hz => by have := h2 z hz; simp; omega), List.append_nil]
theorem atL_pre (f : Fd) {a r : List Nt} {h : Int} (h1 : ∀ z ∈ a, z.hour ≤ h) (h2 : ∀ z ∈ r, h < z.hour) : atL f h (a ++ r) = a.foldl St.take (St.new f) := by
  unfold atL
  rw [filter_pre h1 h2]
theorem more_false {x : Nt} {r : List Nt} (hs : (x :: r).Pairwise (fun a b => a.hour ≤ b.hour)) (hm : moreB x r = false) : ∀ z ∈ r, x.hour < z.hour := by
  intro z hz
  match r, hm, hz, hs with
  | z0 :: r', hm, hz, hs =>
    obtain ⟨h1, h2⟩ := List.pairwise_cons.1 hs
    obtain ⟨h3, _⟩ := List.pairwise_cons.1 h2
    have h4 : z0.hour ≠ x.hour := of_decide_eq_false hm
    have h5 := h1 z0 (List.mem_cons_self ..)
    rcases List.mem_cons.1 hz with e | e
    · subst e; omega
    · have := h3 z e; omega
theorem more_gap {x : Nt} {r : List Nt} {h : Int} (hx : x.hour ≤ h) (hr : ∀ z ∈ r, h < z.hour) : moreB x r = false := by
  match r, hr with
  | [], _ => rfl
  | z0 :: _, hr =>
    have := hr z0 (List.mem_cons_self ..)
    exact decide_eq_false (by omega)

theorem when_spec (f : Fd) (y : Int) (d : List Nt) (hs : d.Pairwise (fun a b => a.hour ≤ b.hour)) : ∀ (r a : List Nt), d = a ++ r → (∀ h, (∀ z ∈ r, h < z.hour) → ¬ inB (atL f h d) y) →
    (St.when y (a.foldl St.take (St.new f)) r = none → ∀ h, ¬ inB (atL f h d) y) ∧
    (∀ t, St.when y (a.foldl St.take (St.new f)) r = some t → (∃ x ∈ r, x.hour = t) ∧ inB (atL f t d) y ∧ ∀ h, h < t → ¬ inB (atL f h d) y)
  | [], a, hd, H => ⟨fun _ h => H h (fun z hz => by cases hz), fun t ht => by cases ht⟩
  | x :: r, a, hd, H => by
    have hd1 : d = (a ++ [x]) ++ r := by rw [hd]; simp
    have hs2 : (a ++ x :: r).Pairwise (fun a b => a.hour ≤ b.hour) := hd ▸ hs
    obtain ⟨_, hsr, hax⟩ := List.pairwise_append.1 hs2
    have hle : ∀ z ∈ a ++ [x], z.hour ≤ x.hour := by
      intro z hz
      rcases List.mem_append.1 hz with e | e
      · exact hax z e x (List.mem_cons_self ..)
      · simp at e; subst e; exact Int.le_refl _
    have hfold : (a ++ [x]).foldl St.take (St.new f) = (a.foldl St.take (St.new f)).take x := by rw [List.foldl_append]; rfl
    have hge : ∀ z ∈ x :: r, x.hour ≤ z.hour := by
      intro z hz
      rcases List.mem_cons.1 hz with e | e
      · subst e; exact Int.le_refl _
      · exact (List.pairwise_cons.1 hsr).1 z e
    by_cases hc : moreB x r = false ∧ (((a.foldl St.take (St.new f)).take x).where_ y |>.1) = 1 ∨ moreB x r = false ∧ (((a.foldl St.take (St.new f)).take x).where_ y |>.1) = 2
    · have hc' : moreB x r = false ∧ ((((a.foldl St.take (St.new f)).take x).where_ y).1 = 1 ∨ (((a.foldl St.take (St.new f)).take x).where_ y).1 = 2) := by
        rcases hc with ⟨h1, h2⟩ | ⟨h1, h2⟩
        · exact ⟨h1, .inl h2⟩
        · exact ⟨h1, .inr h2⟩
      rw [when_step, if_pos hc']
      refine ⟨fun h => (by cases h), fun t ht => ?_⟩
      have ht := Option.some.inj ht
      subst ht
      refine ⟨⟨x, List.mem_cons_self .., rfl⟩, ?_, fun h hh => H h (fun z hz => Int.lt_of_lt_of_le hh (hge z hz))⟩
      rw [hd1, atL_pre f hle (more_false hsr hc'.1), hfold]
      exact hc'.2
    · have hc' : ¬ (moreB x r = false ∧ ((((a.foldl St.take (St.new f)).take x).where_ y).1 = 1 ∨ (((a.foldl St.take (St.new f)).take x).where_ y).1 = 2)) := by
        rintro ⟨h1, h2 | h2⟩
        · exact hc (.inl ⟨h1, h2⟩)
        · exact hc (.inr ⟨h1, h2⟩)
      rw [when_step, if_neg hc']
      have ih := when_spec f y d hs r (a ++ [x]) hd1 (fun h hr => by
        rcases Int.lt_or_le h x.hour with h1 | h1
        · exact H h (fun z hz => Int.lt_of_lt_of_le h1 (hge z hz))
        · have e : atL f h d = (a.foldl St.take (St.new f)).take x := by rw [hd1, atL_pre f (fun z hz => Int.le_trans (hle z hz) h1) hr, hfold]
          rw [e]
          exact fun hin => hc' ⟨more_gap h1 hr, hin⟩)
      rw [hfold] at ih
      exact ⟨ih.1, fun t ht => by
        obtain ⟨⟨z, hz, e⟩, h2⟩ := ih.2 t ht
        exact ⟨⟨z, List.mem_cons_of_mem _ hz, e⟩, h2⟩⟩

theorem taken_hours {d : List Nt} (h : Taken d) : d.Pairwise (fun a b => a.hour ≤ b.hour) :=
  List.Pairwise.imp (fun {a b} hab => by rw [leN_iff] at hab; omega) h.sorted
theorem when_first (f : Fd) (y : Int) {d : List Nt} (h : Taken d) :
    (St.when y (St.new f) d = none → ∀ t, ¬ inB (atL f t d) y) ∧ (∀ t, St.when y (St.new f) d = some t → (∃ x ∈ d, x.hour = t) ∧ inB (atL f t d) y ∧ ∀ u, u < t → ¬ inB (atL f u d) y) :=
  when_spec f y d (taken_hours h) d [] rfl (fun t ht => by
    have : atL f t d = St.new f := by
      have := atL_pre f (a := []) (r := d) (h := t) (fun z hz => by cases hz) ht
      exact this
    rw [this]
    exact new_where f y)
theorem valid_hour {x : Nt} (h : validNotice x = true) : 0 ≤ x.hour ∧ x.hour ≤ 9999 := by
  unfold validNotice within at h
  simp only [Bool.and_eq_true, decide_eq_true_eq] at h
  omega
theorem err_zero {f : Fd} {l : List Nt} {h p : Int} (hc : checkE f l = 0) (hh : 0 ≤ h ∧ h ≤ 9999) (hp : 0 ≤ p ∧ p ≤ 999) : errE f l h p = 0 := by
  unfold errE
  rw [if_neg (by rw [hc]; simp), if_pos ⟨by unfold within; simp [hh.1, hh.2], by unfold within; simp [hp.1, hp.2]⟩]
theorem check_diffs {f : Fd} {l : List Nt} (hc : checkE f l = 0) : ∃ d, diffs l = some d := by
  unfold checkE at hc
  split at hc
  · cases hd : diffs l with
    | none => rw [hd] at hc; cases hc
    | some d => exact ⟨d, rfl⟩
  · cases hc
end E
end Go.Proofs.Ytklomhmdiflfaaa

namespace Go.Proofs.Ytklomhmdiflfaaa
open Go.RowKit
attribute [local go_sem ↓] Go.wp_at_zero Go.wp_at_succ

def E.farB (n : Nat) : Bool := (decide (20 < n) && decide (n ≤ 60)) || decide (100 < n)
theorem Far_any (A : Option Addr) (n c : Nat) (w : World) (hm : n ≤ 1000000) :
    Calls Try.prog 10 #[.slice A n c] w fun e w' => e = .returned (.bool (E.farB n)) ∧ w = w' := by
  by_cases h1 : 20 < n
  · by_cases h2 : n ≤ 60
    · have e : E.farB n = true := by unfold E.farB; rw [decide_eq_true h1, decide_eq_true h2]; rfl
      have i1 : (20 : Int) < (n : Int) := by omega
      have i2 : (n : Int) ≤ 60 := by omega
      rw [e]
      clear h1 h2 e
      go_enter Try.func10, Try.ntmps10
      go_wp2
      go_ret
      exact ⟨rfl, rfl⟩
    · have i1 : (20 : Int) < (n : Int) := by omega
      have i2 : ¬ (n : Int) ≤ 60 := by omega
      by_cases h3 : 100 < n
      · have e : E.farB n = true := by unfold E.farB; rw [decide_eq_true h3]; simp
        have i3 : (100 : Int) < (n : Int) := by omega
        rw [e]
        clear h1 h2 h3 e
        go_enter Try.func10, Try.ntmps10
        go_wp2
        go_ret
        exact ⟨rfl, rfl⟩
      · have e : E.farB n = false := by unfold E.farB; rw [decide_eq_false h3, decide_eq_false h2]; simp
        have i3 : ¬ (100 : Int) < (n : Int) := by omega
        rw [e]
        clear h1 h2 h3 e
        go_enter Try.func10, Try.ntmps10
        go_wp2
        go_ret
        exact ⟨rfl, rfl⟩
  · have e : E.farB n = false := by unfold E.farB; rw [decide_eq_false h1, decide_eq_false (by omega : ¬ 100 < n)]; rfl
    have i1 : ¬ (20 : Int) < (n : Int) := by omega
    have i3 : ¬ (100 : Int) < (n : Int) := by omega
    rw [e]
    clear h1 e
    go_enter Try.func10, Try.ntmps10
    go_wp2
    go_ret
    exact ⟨rfl, rfl⟩
theorem isHour_any (h : Int) (w : World) :
    Calls Try.prog 20 #[.int .i64 h] w fun e w' => e = .returned (.bool (E.within h 0 9999)) ∧ w = w' := by
  by_cases h1 : 0 ≤ h <;> by_cases h2 : h ≤ 9999 <;>
    (go_enter Try.func20, Try.ntmps20
     go_wp2
     go_ret
     exact ⟨by simp [E.within, h1, h2], rfl⟩)
def E.readyB (f : E.Fd) (l : List E.Nt) (n : Nat) : Bool := !E.farB n && (E.checkE f l == 0)
set_option maxHeartbeats 1600000 in
set_option maxRecDepth 100000 in
theorem ready_any (f : E.Fd) (A : Option Addr) (n c : Nat) (l : List E.Nt) (w : World) (hn : l.length = n) (hr : RdN w w.heap.size A l) (hm : n ≤ 1000000) :
    Calls Try.prog 19 #[.agg #[.int .i64 f.places, .int .i64 f.wilds, .int .i64 f.guards, .int .i64 f.close, .int .i64 f.freeze], .slice A n c] w fun e w' => e = .returned (.bool (E.readyB f l n)) ∧ Below w.heap.size w w' := by
  have HN := hide hn
  have HR := hide hr
  have HM := hide hm
  have HF := fun W => hide (Far_any A n c W hm)
  obtain ⟨fb, hfb⟩ : ∃ fb, E.farB n = fb := ⟨_, rfl⟩
  have HFB := hide hfb
  rw [hfb] at HF
  obtain ⟨ce, hce⟩ : ∃ ce, E.checkE f l = ce := ⟨_, rfl⟩
  have HCE := hide hce
  clear hn hr hm hfb hce
  cases fb
  · go_enter Try.func19, Try.ntmps19
    go_wp2_with (first | (go_at_call 10; refine (HF _).out.mono ?_; rintro e w' ⟨rfl, rfl⟩) | (go_at_call 13; refine (refCheck_any f A n c l _ HN.out ((HR.out.below (by (repeat' first | exact zbR _ _ | assumption | refine zbD ?_ | refine zbA ?_ ?_ _ | refine zbS ?_ ?_ _ | refine zbT ?_ (by assumption) ?_ | (simp; done) | (simp; omega) | omega))).mono (by simp)) HM.out).mono ?_; rintro e w2 ⟨rfl, hb2⟩; rw [HCE.out]; have HB2 := hide (zbT (show Below w.heap.size w _ by (repeat' first | exact zbR _ _ | assumption | refine zbD ?_ | refine zbA ?_ ?_ _ | refine zbS ?_ ?_ _ | refine zbT ?_ (by assumption) ?_ | (simp; done) | (simp; omega) | omega)) hb2 (by simp)); clear hb2))
    go_ret
    exact ⟨by unfold E.readyB; rw [HFB.out, HCE.out]; rfl, HB2.out⟩
  · go_enter Try.func19, Try.ntmps19
    go_wp2_with (go_at_call 10; refine (HF _).out.mono ?_; rintro e w' ⟨rfl, rfl⟩)
    go_ret
    exact ⟨by unfold E.readyB; rw [HFB.out]; rfl, by (repeat' first | exact zbR _ _ | assumption | refine zbD ?_ | refine zbA ?_ ?_ _ | refine zbS ?_ ?_ _ | refine zbT ?_ (by assumption) ?_ | (simp; done) | (simp; omega) | omega)⟩

set_option maxHeartbeats 6400000 in
set_option maxRecDepth 100000 in
theorem firstLaw_any (f : E.Fd) (A : Option Addr) (n c : Nat) (l : List E.Nt) (h p : Int) (w : World) (hn : l.length = n) (hr : RdN w w.heap.size A l) (hid : ∀ x ∈ l, (Lit.int .i64 x.id).wf = true) (hm : n ≤ 1000000) :
    Calls Try.prog 9 #[.agg #[.int .i64 f.places, .int .i64 f.wilds, .int .i64 f.guards, .int .i64 f.close, .int .i64 f.freeze], .slice A n c, .agg #[.int .i64 h, .int .i64 p]] w fun e w' => e = .returned (.bool true) ∧ Below w.heap.size w w' := by
  have HN := hide hn
  have HR := hide hr
  have HID := hide hid
  clear hn hr hid
  obtain ⟨rd, hrd⟩ : ∃ rd, E.readyB f l n = rd := ⟨_, rfl⟩
  have HRD := hide hrd
  obtain ⟨ih, hih⟩ : ∃ ih, E.within h 0 9999 = ih := ⟨_, rfl⟩
  have HIH := hide hih
  have HM := hide hm
  clear hm hrd hih
  cases rd
  · go_enter Try.func9, Try.ntmps9
    obtain ⟨w0, hw0⟩ : ∃ w0, (w.alloc (.cells #[.int .i64 f.places, .int .i64 f.wilds, .int .i64 f.guards, .int .i64 f.close, .int .i64 f.freeze] 23)).alloc (.cells #[.int .i64 h, .int .i64 p] 26) = w0 := ⟨_, rfl⟩
    have HB0 := hide (show Below w.heap.size w w0 by rw [← hw0]; (repeat' first | exact zbR _ _ | assumption | refine zbD ?_ | refine zbA ?_ ?_ _ | refine zbS ?_ ?_ _ | refine zbT ?_ (by assumption) ?_ | (simp; done) | (simp; omega) | omega))
    have HS0 := hide (show w0.heap.size = w.heap.size + 1 + 1 by rw [← hw0]; simp)
    have HF0 := hide (show w0.heap[w.heap.size]? = some (.cells #[.int .i64 f.places, .int .i64 f.wilds, .int .i64 f.guards, .int .i64 f.close, .int .i64 f.freeze] 23 (0, 0)) by rw [← hw0]; exact (Below.heap_alloc _ _ _ (by first | (simp; done) | (simp; omega) | omega)).trans (World.alloc_heap_new _ _))
    have HA0 := hide (show w0.heap[w.heap.size + 1]? = some (.cells #[.int .i64 h, .int .i64 p] 26 (0, 0)) by rw [← hw0]; exact (congrArg _ (by simp)).trans (World.alloc_heap_new _ _))
    have HR0 := hide ((HR.out.below HB0.out).mono HB0.out.size)
    have HW0 := hide hw0
    clear hw0
    go_wp2_with (first | (go_at_call 19; rw [HW0.out]; refine (ready_any f A n c l w0 HN.out HR0.out HM.out).mono ?_; rintro e w1 ⟨rfl, hb1⟩; rw [HRD.out]; have HB1 := hide hb1; clear hb1; have HF1 := hide ((HB1.out).block w.heap.size (by have := HS0.out; omega) |>.trans HF0.out); have HA1 := hide ((HB1.out).block (w.heap.size + 1) (by have := HS0.out; omega) |>.trans HA0.out); have x10 : w1.cell? ⟨w.heap.size, 0, none⟩ = some (.int .i64 f.places) := (blk_cell HF1.out 0).trans rfl; have x11 : w1.cell? ⟨w.heap.size, 1, none⟩ = some (.int .i64 f.wilds) := (blk_cell HF1.out 1).trans rfl; have x12 : w1.cell? ⟨w.heap.size, 2, none⟩ = some (.int .i64 f.guards) := (blk_cell HF1.out 2).trans rfl; have x13 : w1.cell? ⟨w.heap.size, 3, none⟩ = some (.int .i64 f.close) := (blk_cell HF1.out 3).trans rfl; have x14 : w1.cell? ⟨w.heap.size, 4, none⟩ = some (.int .i64 f.freeze) := (blk_cell HF1.out 4).trans rfl; have y10 : w1.cell? ⟨w.heap.size + 1, 0, none⟩ = some (.int .i64 h) := (blk_cell HA1.out 0).trans rfl; have y11 : w1.cell? ⟨w.heap.size + 1, 1, none⟩ = some (.int .i64 p) := (blk_cell HA1.out 1).trans rfl; have l10 := blk_lt HF1.out; have l11 := blk_lt HA1.out) | (go_at_call 20; with_reducible refine (isHour_any h _).mono ?_; rintro e w' ⟨rfl, rfl⟩; rw [HIH.out]) | (go_at_call 11; refine (works_any _).mono ?_; rintro e w9 ⟨rfl, hb9⟩; have HB9 := hide (zbT HB1.out hb9 HB1.out.size); clear hb9))
    go_ret
    exact ⟨rfl, HB0.out.trans (HB9.out.mono HB0.out.size)⟩
  · cases ih
    · go_enter Try.func9, Try.ntmps9
      obtain ⟨w0, hw0⟩ : ∃ w0, (w.alloc (.cells #[.int .i64 f.places, .int .i64 f.wilds, .int .i64 f.guards, .int .i64 f.close, .int .i64 f.freeze] 23)).alloc (.cells #[.int .i64 h, .int .i64 p] 26) = w0 := ⟨_, rfl⟩
      have HB0 := hide (show Below w.heap.size w w0 by rw [← hw0]; (repeat' first | exact zbR _ _ | assumption | refine zbD ?_ | refine zbA ?_ ?_ _ | refine zbS ?_ ?_ _ | refine zbT ?_ (by assumption) ?_ | (simp; done) | (simp; omega) | omega))
      have HS0 := hide (show w0.heap.size = w.heap.size + 1 + 1 by rw [← hw0]; simp)
      have HF0 := hide (show w0.heap[w.heap.size]? = some (.cells #[.int .i64 f.places, .int .i64 f.wilds, .int .i64 f.guards, .int .i64 f.close, .int .i64 f.freeze] 23 (0, 0)) by rw [← hw0]; exact (Below.heap_alloc _ _ _ (by first | (simp; done) | (simp; omega) | omega)).trans (World.alloc_heap_new _ _))
      have HA0 := hide (show w0.heap[w.heap.size + 1]? = some (.cells #[.int .i64 h, .int .i64 p] 26 (0, 0)) by rw [← hw0]; exact (congrArg _ (by simp)).trans (World.alloc_heap_new _ _))
      have HR0 := hide ((HR.out.below HB0.out).mono HB0.out.size)
      have HW0 := hide hw0
      clear hw0
      go_wp2_with (first | (go_at_call 19; rw [HW0.out]; refine (ready_any f A n c l w0 HN.out HR0.out HM.out).mono ?_; rintro e w1 ⟨rfl, hb1⟩; rw [HRD.out]; have HB1 := hide hb1; clear hb1; have HF1 := hide ((HB1.out).block w.heap.size (by have := HS0.out; omega) |>.trans HF0.out); have HA1 := hide ((HB1.out).block (w.heap.size + 1) (by have := HS0.out; omega) |>.trans HA0.out); have x10 : w1.cell? ⟨w.heap.size, 0, none⟩ = some (.int .i64 f.places) := (blk_cell HF1.out 0).trans rfl; have x11 : w1.cell? ⟨w.heap.size, 1, none⟩ = some (.int .i64 f.wilds) := (blk_cell HF1.out 1).trans rfl; have x12 : w1.cell? ⟨w.heap.size, 2, none⟩ = some (.int .i64 f.guards) := (blk_cell HF1.out 2).trans rfl; have x13 : w1.cell? ⟨w.heap.size, 3, none⟩ = some (.int .i64 f.close) := (blk_cell HF1.out 3).trans rfl; have x14 : w1.cell? ⟨w.heap.size, 4, none⟩ = some (.int .i64 f.freeze) := (blk_cell HF1.out 4).trans rfl; have y10 : w1.cell? ⟨w.heap.size + 1, 0, none⟩ = some (.int .i64 h) := (blk_cell HA1.out 0).trans rfl; have y11 : w1.cell? ⟨w.heap.size + 1, 1, none⟩ = some (.int .i64 p) := (blk_cell HA1.out 1).trans rfl; have l10 := blk_lt HF1.out; have l11 := blk_lt HA1.out) | (go_at_call 20; with_reducible refine (isHour_any h _).mono ?_; rintro e w' ⟨rfl, rfl⟩; rw [HIH.out]) | (go_at_call 11; refine (works_any _).mono ?_; rintro e w9 ⟨rfl, hb9⟩; have HB9 := hide (zbT HB1.out hb9 HB1.out.size); clear hb9))
      go_ret
      exact ⟨rfl, HB0.out.trans (HB9.out.mono HB0.out.size)⟩
    · by_cases hp1 : p < 0
      · go_enter Try.func9, Try.ntmps9
        obtain ⟨w0, hw0⟩ : ∃ w0, (w.alloc (.cells #[.int .i64 f.places, .int .i64 f.wilds, .int .i64 f.guards, .int .i64 f.close, .int .i64 f.freeze] 23)).alloc (.cells #[.int .i64 h, .int .i64 p] 26) = w0 := ⟨_, rfl⟩
        have HB0 := hide (show Below w.heap.size w w0 by rw [← hw0]; (repeat' first | exact zbR _ _ | assumption | refine zbD ?_ | refine zbA ?_ ?_ _ | refine zbS ?_ ?_ _ | refine zbT ?_ (by assumption) ?_ | (simp; done) | (simp; omega) | omega))
        have HS0 := hide (show w0.heap.size = w.heap.size + 1 + 1 by rw [← hw0]; simp)
        have HF0 := hide (show w0.heap[w.heap.size]? = some (.cells #[.int .i64 f.places, .int .i64 f.wilds, .int .i64 f.guards, .int .i64 f.close, .int .i64 f.freeze] 23 (0, 0)) by rw [← hw0]; exact (Below.heap_alloc _ _ _ (by first | (simp; done) | (simp; omega) | omega)).trans (World.alloc_heap_new _ _))
        have HA0 := hide (show w0.heap[w.heap.size + 1]? = some (.cells #[.int .i64 h, .int .i64 p] 26 (0, 0)) by rw [← hw0]; exact (congrArg _ (by simp)).trans (World.alloc_heap_new _ _))
        have HR0 := hide ((HR.out.below HB0.out).mono HB0.out.size)
        have HW0 := hide hw0
        clear hw0
        go_wp2_with (first | (go_at_call 19; rw [HW0.out]; refine (ready_any f A n c l w0 HN.out HR0.out HM.out).mono ?_; rintro e w1 ⟨rfl, hb1⟩; rw [HRD.out]; have HB1 := hide hb1; clear hb1; have HF1 := hide ((HB1.out).block w.heap.size (by have := HS0.out; omega) |>.trans HF0.out); have HA1 := hide ((HB1.out).block (w.heap.size + 1) (by have := HS0.out; omega) |>.trans HA0.out); have x10 : w1.cell? ⟨w.heap.size, 0, none⟩ = some (.int .i64 f.places) := (blk_cell HF1.out 0).trans rfl; have x11 : w1.cell? ⟨w.heap.size, 1, none⟩ = some (.int .i64 f.wilds) := (blk_cell HF1.out 1).trans rfl; have x12 : w1.cell? ⟨w.heap.size, 2, none⟩ = some (.int .i64 f.guards) := (blk_cell HF1.out 2).trans rfl; have x13 : w1.cell? ⟨w.heap.size, 3, none⟩ = some (.int .i64 f.close) := (blk_cell HF1.out 3).trans rfl; have x14 : w1.cell? ⟨w.heap.size, 4, none⟩ = some (.int .i64 f.freeze) := (blk_cell HF1.out 4).trans rfl; have y10 : w1.cell? ⟨w.heap.size + 1, 0, none⟩ = some (.int .i64 h) := (blk_cell HA1.out 0).trans rfl; have y11 : w1.cell? ⟨w.heap.size + 1, 1, none⟩ = some (.int .i64 p) := (blk_cell HA1.out 1).trans rfl; have l10 := blk_lt HF1.out; have l11 := blk_lt HA1.out) | (go_at_call 20; with_reducible refine (isHour_any h _).mono ?_; rintro e w' ⟨rfl, rfl⟩; rw [HIH.out]) | (go_at_call 11; refine (works_any _).mono ?_; rintro e w9 ⟨rfl, hb9⟩; have HB9 := hide (zbT HB1.out hb9 HB1.out.size); clear hb9))
        go_ret
        exact ⟨rfl, HB0.out.trans (HB9.out.mono HB0.out.size)⟩
      · by_cases hp2 : 999 < p
        · have hp1' : 0 ≤ p := by omega
          clear hp1
          go_enter Try.func9, Try.ntmps9
          obtain ⟨w0, hw0⟩ : ∃ w0, (w.alloc (.cells #[.int .i64 f.places, .int .i64 f.wilds, .int .i64 f.guards, .int .i64 f.close, .int .i64 f.freeze] 23)).alloc (.cells #[.int .i64 h, .int .i64 p] 26) = w0 := ⟨_, rfl⟩
          have HB0 := hide (show Below w.heap.size w w0 by rw [← hw0]; (repeat' first | exact zbR _ _ | assumption | refine zbD ?_ | refine zbA ?_ ?_ _ | refine zbS ?_ ?_ _ | refine zbT ?_ (by assumption) ?_ | (simp; done) | (simp; omega) | omega))
          have HS0 := hide (show w0.heap.size = w.heap.size + 1 + 1 by rw [← hw0]; simp)
          have HF0 := hide (show w0.heap[w.heap.size]? = some (.cells #[.int .i64 f.places, .int .i64 f.wilds, .int .i64 f.guards, .int .i64 f.close, .int .i64 f.freeze] 23 (0, 0)) by rw [← hw0]; exact (Below.heap_alloc _ _ _ (by first | (simp; done) | (simp; omega) | omega)).trans (World.alloc_heap_new _ _))
          have HA0 := hide (show w0.heap[w.heap.size + 1]? = some (.cells #[.int .i64 h, .int .i64 p] 26 (0, 0)) by rw [← hw0]; exact (congrArg _ (by simp)).trans (World.alloc_heap_new _ _))
          have HR0 := hide ((HR.out.below HB0.out).mono HB0.out.size)
          have HW0 := hide hw0
          clear hw0
          go_wp2_with (first | (go_at_call 19; rw [HW0.out]; refine (ready_any f A n c l w0 HN.out HR0.out HM.out).mono ?_; rintro e w1 ⟨rfl, hb1⟩; rw [HRD.out]; have HB1 := hide hb1; clear hb1; have HF1 := hide ((HB1.out).block w.heap.size (by have := HS0.out; omega) |>.trans HF0.out); have HA1 := hide ((HB1.out).block (w.heap.size + 1) (by have := HS0.out; omega) |>.trans HA0.out); have x10 : w1.cell? ⟨w.heap.size, 0, none⟩ = some (.int .i64 f.places) := (blk_cell HF1.out 0).trans rfl; have x11 : w1.cell? ⟨w.heap.size, 1, none⟩ = some (.int .i64 f.wilds) := (blk_cell HF1.out 1).trans rfl; have x12 : w1.cell? ⟨w.heap.size, 2, none⟩ = some (.int .i64 f.guards) := (blk_cell HF1.out 2).trans rfl; have x13 : w1.cell? ⟨w.heap.size, 3, none⟩ = some (.int .i64 f.close) := (blk_cell HF1.out 3).trans rfl; have x14 : w1.cell? ⟨w.heap.size, 4, none⟩ = some (.int .i64 f.freeze) := (blk_cell HF1.out 4).trans rfl; have y10 : w1.cell? ⟨w.heap.size + 1, 0, none⟩ = some (.int .i64 h) := (blk_cell HA1.out 0).trans rfl; have y11 : w1.cell? ⟨w.heap.size + 1, 1, none⟩ = some (.int .i64 p) := (blk_cell HA1.out 1).trans rfl; have l10 := blk_lt HF1.out; have l11 := blk_lt HA1.out) | (go_at_call 20; with_reducible refine (isHour_any h _).mono ?_; rintro e w' ⟨rfl, rfl⟩; rw [HIH.out]) | (go_at_call 11; refine (works_any _).mono ?_; rintro e w9 ⟨rfl, hb9⟩; have HB9 := hide (zbT HB1.out hb9 HB1.out.size); clear hb9))
          go_ret
          exact ⟨rfl, HB0.out.trans (HB9.out.mono HB0.out.size)⟩
        · have hp1' : 0 ≤ p := by omega
          have hp2' : p ≤ 999 := by omega
          clear hp1 hp2
          have HP := hide (And.intro hp1' hp2')
          have HH := hide (show 0 ≤ h ∧ h ≤ 9999 by have := HIH.out; unfold E.within at this; simpa using this)
          have HCK := hide (show E.checkE f l = 0 by have := HRD.out; unfold E.readyB at this; simp only [Bool.and_eq_true, beq_iff_eq] at this; exact this.2)
          have ST := fun (u : Int) (W : World) (hr : RdN W W.heap.size A l) => Stand_any f A n c l u p W HN.out hr HID.out HM.out
          have HE1 := hide (E.err_zero (p := p) HCK.out HH.out HP.out)
          have HE0 := hide (E.err_zero (h := 0) (p := p) HCK.out (by omega) HP.out)
          obtain ⟨d, hd⟩ := E.check_diffs HCK.out
          have HD := hide hd
          have HT := hide (E.diffs_spec hd).2
          have hwf := E.when_first f p HT.out.1
          obtain ⟨s1, hs1⟩ : ∃ s1, ((E.atL f h d).where_ p).1 = s1 := ⟨_, rfl⟩
          obtain ⟨s2, hs2⟩ : ∃ s2, ((E.atL f h d).where_ p).2 = s2 := ⟨_, rfl⟩
          have HS1 := hide hs1
          have HST1 := hide (show StandVal f l h p = .tuple #[.int .i64 s1, .int .i64 s2, .int .i64 0] by unfold StandVal standV; rw [if_pos HE1.out, hd]; dsimp only; rw [hs1, hs2])
          clear hd hs1 hs2
          cases hwv : E.St.when p (E.St.new f) d with
          | none =>
            have HWV := hide (show WhenPost f l p = .tuple #[.int .i64 0, .int .i64 3] by unfold WhenPost whenV; rw [if_pos HE0.out, HD.out]; dsimp only; rw [hwv])
            have hn := E.not_in (hwf.1 hwv h)
            rw [HS1.out] at hn
            clear hwf hwv
            rcases hn with hv | hv
            · have q0 : (s1 == 0) = true := by rw [hv]; rfl
              clear hv
              go_enter Try.func9, Try.ntmps9
              obtain ⟨w0, hw0⟩ : ∃ w0, (w.alloc (.cells #[.int .i64 f.places, .int .i64 f.wilds, .int .i64 f.guards, .int .i64 f.close, .int .i64 f.freeze] 23)).alloc (.cells #[.int .i64 h, .int .i64 p] 26) = w0 := ⟨_, rfl⟩
              have HB0 := hide (show Below w.heap.size w w0 by rw [← hw0]; (repeat' first | exact zbR _ _ | assumption | refine zbD ?_ | refine zbA ?_ ?_ _ | refine zbS ?_ ?_ _ | refine zbT ?_ (by assumption) ?_ | (simp; done) | (simp; omega) | omega))
              have HS0 := hide (show w0.heap.size = w.heap.size + 1 + 1 by rw [← hw0]; simp)
              have HF0 := hide (show w0.heap[w.heap.size]? = some (.cells #[.int .i64 f.places, .int .i64 f.wilds, .int .i64 f.guards, .int .i64 f.close, .int .i64 f.freeze] 23 (0, 0)) by rw [← hw0]; exact (Below.heap_alloc _ _ _ (by first | (simp; done) | (simp; omega) | omega)).trans (World.alloc_heap_new _ _))
              have HA0 := hide (show w0.heap[w.heap.size + 1]? = some (.cells #[.int .i64 h, .int .i64 p] 26 (0, 0)) by rw [← hw0]; exact (congrArg _ (by simp)).trans (World.alloc_heap_new _ _))
              have HR0 := hide ((HR.out.below HB0.out).mono HB0.out.size)
              have HW0 := hide hw0
              clear hw0
              go_wp2_with (first | (go_at_call 19; rw [HW0.out]; refine (ready_any f A n c l w0 HN.out HR0.out HM.out).mono ?_; rintro e w1 ⟨rfl, hb1⟩; rw [HRD.out]; have HB1 := hide hb1; clear hb1; have HF1 := hide ((HB1.out).block w.heap.size (by have := HS0.out; omega) |>.trans HF0.out); have HA1 := hide ((HB1.out).block (w.heap.size + 1) (by have := HS0.out; omega) |>.trans HA0.out); have x10 : w1.cell? ⟨w.heap.size, 0, none⟩ = some (.int .i64 f.places) := (blk_cell HF1.out 0).trans rfl; have x11 : w1.cell? ⟨w.heap.size, 1, none⟩ = some (.int .i64 f.wilds) := (blk_cell HF1.out 1).trans rfl; have x12 : w1.cell? ⟨w.heap.size, 2, none⟩ = some (.int .i64 f.guards) := (blk_cell HF1.out 2).trans rfl; have x13 : w1.cell? ⟨w.heap.size, 3, none⟩ = some (.int .i64 f.close) := (blk_cell HF1.out 3).trans rfl; have x14 : w1.cell? ⟨w.heap.size, 4, none⟩ = some (.int .i64 f.freeze) := (blk_cell HF1.out 4).trans rfl; have y10 : w1.cell? ⟨w.heap.size + 1, 0, none⟩ = some (.int .i64 h) := (blk_cell HA1.out 0).trans rfl; have y11 : w1.cell? ⟨w.heap.size + 1, 1, none⟩ = some (.int .i64 p) := (blk_cell HA1.out 1).trans rfl; have l10 := blk_lt HF1.out; have l11 := blk_lt HA1.out) | (go_at_call 20; with_reducible refine (isHour_any h _).mono ?_; rintro e w' ⟨rfl, rfl⟩; rw [HIH.out]) | (go_at_call 25; refine (When_any f A n c l p w1 HN.out ((HR0.out.below HB1.out).mono HB1.out.size) HID.out HM.out).mono ?_; rintro e w2 ⟨rfl, hb2⟩; rw [HWV.out]; have HB2 := hide (zbT HB1.out hb2 HB1.out.size); clear hb2; have HF2 := hide ((HB2.out).block w.heap.size (by have := HS0.out; omega) |>.trans HF0.out); have HA2 := hide ((HB2.out).block (w.heap.size + 1) (by have := HS0.out; omega) |>.trans HA0.out); have x20 : w2.cell? ⟨w.heap.size, 0, none⟩ = some (.int .i64 f.places) := (blk_cell HF2.out 0).trans rfl; have x21 : w2.cell? ⟨w.heap.size, 1, none⟩ = some (.int .i64 f.wilds) := (blk_cell HF2.out 1).trans rfl; have x22 : w2.cell? ⟨w.heap.size, 2, none⟩ = some (.int .i64 f.guards) := (blk_cell HF2.out 2).trans rfl; have x23 : w2.cell? ⟨w.heap.size, 3, none⟩ = some (.int .i64 f.close) := (blk_cell HF2.out 3).trans rfl; have x24 : w2.cell? ⟨w.heap.size, 4, none⟩ = some (.int .i64 f.freeze) := (blk_cell HF2.out 4).trans rfl; have y20 : w2.cell? ⟨w.heap.size + 1, 0, none⟩ = some (.int .i64 h) := (blk_cell HA2.out 0).trans rfl; have y21 : w2.cell? ⟨w.heap.size + 1, 1, none⟩ = some (.int .i64 p) := (blk_cell HA2.out 1).trans rfl; have l20 := blk_lt HF2.out; have l21 := blk_lt HA2.out) | (go_at_call 16; with_reducible refine (ST h w2 ?hr).mono ?_; (case hr => exact ((HR0.out.below HB2.out).mono HB2.out.size)); rintro e w3 ⟨rfl, hb3⟩; rw [HST1.out]; have HB3 := hide (zbT HB2.out hb3 HB2.out.size); clear hb3; have HF3 := hide ((HB3.out).block w.heap.size (by have := HS0.out; omega) |>.trans HF0.out); have HA3 := hide ((HB3.out).block (w.heap.size + 1) (by have := HS0.out; omega) |>.trans HA0.out); have x30 : w3.cell? ⟨w.heap.size, 0, none⟩ = some (.int .i64 f.places) := (blk_cell HF3.out 0).trans rfl; have x31 : w3.cell? ⟨w.heap.size, 1, none⟩ = some (.int .i64 f.wilds) := (blk_cell HF3.out 1).trans rfl; have x32 : w3.cell? ⟨w.heap.size, 2, none⟩ = some (.int .i64 f.guards) := (blk_cell HF3.out 2).trans rfl; have x33 : w3.cell? ⟨w.heap.size, 3, none⟩ = some (.int .i64 f.close) := (blk_cell HF3.out 3).trans rfl; have x34 : w3.cell? ⟨w.heap.size, 4, none⟩ = some (.int .i64 f.freeze) := (blk_cell HF3.out 4).trans rfl; have y30 : w3.cell? ⟨w.heap.size + 1, 0, none⟩ = some (.int .i64 h) := (blk_cell HA3.out 0).trans rfl; have y31 : w3.cell? ⟨w.heap.size + 1, 1, none⟩ = some (.int .i64 p) := (blk_cell HA3.out 1).trans rfl; have l30 := blk_lt HF3.out; have l31 := blk_lt HA3.out) | (go_at_call 11; refine (works_any _).mono ?_; rintro e w9 ⟨rfl, hb9⟩; have HB9 := hide (zbT HB3.out hb9 HB3.out.size); clear hb9))
              go_ret
              exact ⟨rfl, HB0.out.trans (HB9.out.mono HB0.out.size)⟩
            · have q0 : (s1 == 0) = false := by rw [hv]; rfl
              have q3 : (s1 == 3) = true := by rw [hv]; rfl
              clear hv
              go_enter Try.func9, Try.ntmps9
              obtain ⟨w0, hw0⟩ : ∃ w0, (w.alloc (.cells #[.int .i64 f.places, .int .i64 f.wilds, .int .i64 f.guards, .int .i64 f.close, .int .i64 f.freeze] 23)).alloc (.cells #[.int .i64 h, .int .i64 p] 26) = w0 := ⟨_, rfl⟩
              have HB0 := hide (show Below w.heap.size w w0 by rw [← hw0]; (repeat' first | exact zbR _ _ | assumption | refine zbD ?_ | refine zbA ?_ ?_ _ | refine zbS ?_ ?_ _ | refine zbT ?_ (by assumption) ?_ | (simp; done) | (simp; omega) | omega))
              have HS0 := hide (show w0.heap.size = w.heap.size + 1 + 1 by rw [← hw0]; simp)
              have HF0 := hide (show w0.heap[w.heap.size]? = some (.cells #[.int .i64 f.places, .int .i64 f.wilds, .int .i64 f.guards, .int .i64 f.close, .int .i64 f.freeze] 23 (0, 0)) by rw [← hw0]; exact (Below.heap_alloc _ _ _ (by first | (simp; done) | (simp; omega) | omega)).trans (World.alloc_heap_new _ _))
              have HA0 := hide (show w0.heap[w.heap.size + 1]? = some (.cells #[.int .i64 h, .int .i64 p] 26 (0, 0)) by rw [← hw0]; exact (congrArg _ (by simp)).trans (World.alloc_heap_new _ _))
              have HR0 := hide ((HR.out.below HB0.out).mono HB0.out.size)
              have HW0 := hide hw0
              clear hw0
              go_wp2_with (first | (go_at_call 19; rw [HW0.out]; refine (ready_any f A n c l w0 HN.out HR0.out HM.out).mono ?_; rintro e w1 ⟨rfl, hb1⟩; rw [HRD.out]; have HB1 := hide hb1; clear hb1; have HF1 := hide ((HB1.out).block w.heap.size (by have := HS0.out; omega) |>.trans HF0.out); have HA1 := hide ((HB1.out).block (w.heap.size + 1) (by have := HS0.out; omega) |>.trans HA0.out); have x10 : w1.cell? ⟨w.heap.size, 0, none⟩ = some (.int .i64 f.places) := (blk_cell HF1.out 0).trans rfl; have x11 : w1.cell? ⟨w.heap.size, 1, none⟩ = some (.int .i64 f.wilds) := (blk_cell HF1.out 1).trans rfl; have x12 : w1.cell? ⟨w.heap.size, 2, none⟩ = some (.int .i64 f.guards) := (blk_cell HF1.out 2).trans rfl; have x13 : w1.cell? ⟨w.heap.size, 3, none⟩ = some (.int .i64 f.close) := (blk_cell HF1.out 3).trans rfl; have x14 : w1.cell? ⟨w.heap.size, 4, none⟩ = some (.int .i64 f.freeze) := (blk_cell HF1.out 4).trans rfl; have y10 : w1.cell? ⟨w.heap.size + 1, 0, none⟩ = some (.int .i64 h) := (blk_cell HA1.out 0).trans rfl; have y11 : w1.cell? ⟨w.heap.size + 1, 1, none⟩ = some (.int .i64 p) := (blk_cell HA1.out 1).trans rfl; have l10 := blk_lt HF1.out; have l11 := blk_lt HA1.out) | (go_at_call 20; with_reducible refine (isHour_any h _).mono ?_; rintro e w' ⟨rfl, rfl⟩; rw [HIH.out]) | (go_at_call 25; refine (When_any f A n c l p w1 HN.out ((HR0.out.below HB1.out).mono HB1.out.size) HID.out HM.out).mono ?_; rintro e w2 ⟨rfl, hb2⟩; rw [HWV.out]; have HB2 := hide (zbT HB1.out hb2 HB1.out.size); clear hb2; have HF2 := hide ((HB2.out).block w.heap.size (by have := HS0.out; omega) |>.trans HF0.out); have HA2 := hide ((HB2.out).block (w.heap.size + 1) (by have := HS0.out; omega) |>.trans HA0.out); have x20 : w2.cell? ⟨w.heap.size, 0, none⟩ = some (.int .i64 f.places) := (blk_cell HF2.out 0).trans rfl; have x21 : w2.cell? ⟨w.heap.size, 1, none⟩ = some (.int .i64 f.wilds) := (blk_cell HF2.out 1).trans rfl; have x22 : w2.cell? ⟨w.heap.size, 2, none⟩ = some (.int .i64 f.guards) := (blk_cell HF2.out 2).trans rfl; have x23 : w2.cell? ⟨w.heap.size, 3, none⟩ = some (.int .i64 f.close) := (blk_cell HF2.out 3).trans rfl; have x24 : w2.cell? ⟨w.heap.size, 4, none⟩ = some (.int .i64 f.freeze) := (blk_cell HF2.out 4).trans rfl; have y20 : w2.cell? ⟨w.heap.size + 1, 0, none⟩ = some (.int .i64 h) := (blk_cell HA2.out 0).trans rfl; have y21 : w2.cell? ⟨w.heap.size + 1, 1, none⟩ = some (.int .i64 p) := (blk_cell HA2.out 1).trans rfl; have l20 := blk_lt HF2.out; have l21 := blk_lt HA2.out) | (go_at_call 16; with_reducible refine (ST h w2 ?hr).mono ?_; (case hr => exact ((HR0.out.below HB2.out).mono HB2.out.size)); rintro e w3 ⟨rfl, hb3⟩; rw [HST1.out]; have HB3 := hide (zbT HB2.out hb3 HB2.out.size); clear hb3; have HF3 := hide ((HB3.out).block w.heap.size (by have := HS0.out; omega) |>.trans HF0.out); have HA3 := hide ((HB3.out).block (w.heap.size + 1) (by have := HS0.out; omega) |>.trans HA0.out); have x30 : w3.cell? ⟨w.heap.size, 0, none⟩ = some (.int .i64 f.places) := (blk_cell HF3.out 0).trans rfl; have x31 : w3.cell? ⟨w.heap.size, 1, none⟩ = some (.int .i64 f.wilds) := (blk_cell HF3.out 1).trans rfl; have x32 : w3.cell? ⟨w.heap.size, 2, none⟩ = some (.int .i64 f.guards) := (blk_cell HF3.out 2).trans rfl; have x33 : w3.cell? ⟨w.heap.size, 3, none⟩ = some (.int .i64 f.close) := (blk_cell HF3.out 3).trans rfl; have x34 : w3.cell? ⟨w.heap.size, 4, none⟩ = some (.int .i64 f.freeze) := (blk_cell HF3.out 4).trans rfl; have y30 : w3.cell? ⟨w.heap.size + 1, 0, none⟩ = some (.int .i64 h) := (blk_cell HA3.out 0).trans rfl; have y31 : w3.cell? ⟨w.heap.size + 1, 1, none⟩ = some (.int .i64 p) := (blk_cell HA3.out 1).trans rfl; have l30 := blk_lt HF3.out; have l31 := blk_lt HA3.out) | (go_at_call 11; refine (works_any _).mono ?_; rintro e w9 ⟨rfl, hb9⟩; have HB9 := hide (zbT HB3.out hb9 HB3.out.size); clear hb9))
              go_ret
              exact ⟨rfl, HB0.out.trans (HB9.out.mono HB0.out.size)⟩
          | some t =>
            have HWV := hide (show WhenPost f l p = .tuple #[.int .i64 t, .int .i64 0] by unfold WhenPost whenV; rw [if_pos HE0.out, HD.out]; dsimp only; rw [hwv])
            obtain ⟨⟨x0, hx0, hxt⟩, hin, hbe⟩ := hwf.2 t hwv
            have HX0 := hide (show ∃ x ∈ l, x.hour = t from ⟨x0, (HT.out.2 x0).1 hx0, hxt⟩)
            have HTH := hide (show 0 ≤ t ∧ t ≤ 9999 by have := E.valid_hour (HT.out.1.valid x0 hx0); rw [hxt] at this; exact this)
            have HE2 := hide (E.err_zero (p := p) HCK.out HTH.out HP.out)
            obtain ⟨z1, hz1⟩ : ∃ z1, ((E.atL f t d).where_ p).1 = z1 := ⟨_, rfl⟩
            obtain ⟨z2, hz2⟩ : ∃ z2, ((E.atL f t d).where_ p).2 = z2 := ⟨_, rfl⟩
            have HST2 := hide (show StandVal f l t p = .tuple #[.int .i64 z1, .int .i64 z2, .int .i64 0] by unfold StandVal standV; rw [if_pos HE2.out, HD.out]; dsimp only; rw [hz1, hz2])
            have HIN := hide (show z1 = 1 ∨ z1 = 2 by have := hin; unfold E.inB at this; rw [hz1] at this; exact this)
            have HBE := hide (show h < t → s1 = 0 ∨ s1 = 3 from fun hh => by have := E.not_in (hbe h hh); rw [HS1.out] at this; exact this)
            clear hwf hwv hx0 hxt hin hbe hz1 hz2
            go_enter Try.func9, Try.ntmps9
            obtain ⟨w0, hw0⟩ : ∃ w0, (w.alloc (.cells #[.int .i64 f.places, .int .i64 f.wilds, .int .i64 f.guards, .int .i64 f.close, .int .i64 f.freeze] 23)).alloc (.cells #[.int .i64 h, .int .i64 p] 26) = w0 := ⟨_, rfl⟩
            have HB0 := hide (show Below w.heap.size w w0 by rw [← hw0]; (repeat' first | exact zbR _ _ | assumption | refine zbD ?_ | refine zbA ?_ ?_ _ | refine zbS ?_ ?_ _ | refine zbT ?_ (by assumption) ?_ | (simp; done) | (simp; omega) | omega))
            have HS0 := hide (show w0.heap.size = w.heap.size + 1 + 1 by rw [← hw0]; simp)
            have HF0 := hide (show w0.heap[w.heap.size]? = some (.cells #[.int .i64 f.places, .int .i64 f.wilds, .int .i64 f.guards, .int .i64 f.close, .int .i64 f.freeze] 23 (0, 0)) by rw [← hw0]; exact (Below.heap_alloc _ _ _ (by first | (simp; done) | (simp; omega) | omega)).trans (World.alloc_heap_new _ _))
            have HA0 := hide (show w0.heap[w.heap.size + 1]? = some (.cells #[.int .i64 h, .int .i64 p] 26 (0, 0)) by rw [← hw0]; exact (congrArg _ (by simp)).trans (World.alloc_heap_new _ _))
            have HR0 := hide ((HR.out.below HB0.out).mono HB0.out.size)
            have HW0 := hide hw0
            clear hw0
            go_wp2_with (first | (go_at_call 19; rw [HW0.out]; refine (ready_any f A n c l w0 HN.out HR0.out HM.out).mono ?_; rintro e w1 ⟨rfl, hb1⟩; rw [HRD.out]; have HB1 := hide hb1; clear hb1; have HF1 := hide ((HB1.out).block w.heap.size (by have := HS0.out; omega) |>.trans HF0.out); have HA1 := hide ((HB1.out).block (w.heap.size + 1) (by have := HS0.out; omega) |>.trans HA0.out); have x10 : w1.cell? ⟨w.heap.size, 0, none⟩ = some (.int .i64 f.places) := (blk_cell HF1.out 0).trans rfl; have x11 : w1.cell? ⟨w.heap.size, 1, none⟩ = some (.int .i64 f.wilds) := (blk_cell HF1.out 1).trans rfl; have x12 : w1.cell? ⟨w.heap.size, 2, none⟩ = some (.int .i64 f.guards) := (blk_cell HF1.out 2).trans rfl; have x13 : w1.cell? ⟨w.heap.size, 3, none⟩ = some (.int .i64 f.close) := (blk_cell HF1.out 3).trans rfl; have x14 : w1.cell? ⟨w.heap.size, 4, none⟩ = some (.int .i64 f.freeze) := (blk_cell HF1.out 4).trans rfl; have y10 : w1.cell? ⟨w.heap.size + 1, 0, none⟩ = some (.int .i64 h) := (blk_cell HA1.out 0).trans rfl; have y11 : w1.cell? ⟨w.heap.size + 1, 1, none⟩ = some (.int .i64 p) := (blk_cell HA1.out 1).trans rfl; have l10 := blk_lt HF1.out; have l11 := blk_lt HA1.out) | (go_at_call 20; with_reducible refine (isHour_any h _).mono ?_; rintro e w' ⟨rfl, rfl⟩; rw [HIH.out]) | (go_at_call 25; refine (When_any f A n c l p w1 HN.out ((HR0.out.below HB1.out).mono HB1.out.size) HID.out HM.out).mono ?_; rintro e w2 ⟨rfl, hb2⟩; rw [HWV.out]; have HB2 := hide (zbT HB1.out hb2 HB1.out.size); clear hb2; have HF2 := hide ((HB2.out).block w.heap.size (by have := HS0.out; omega) |>.trans HF0.out); have HA2 := hide ((HB2.out).block (w.heap.size + 1) (by have := HS0.out; omega) |>.trans HA0.out); have x20 : w2.cell? ⟨w.heap.size, 0, none⟩ = some (.int .i64 f.places) := (blk_cell HF2.out 0).trans rfl; have x21 : w2.cell? ⟨w.heap.size, 1, none⟩ = some (.int .i64 f.wilds) := (blk_cell HF2.out 1).trans rfl; have x22 : w2.cell? ⟨w.heap.size, 2, none⟩ = some (.int .i64 f.guards) := (blk_cell HF2.out 2).trans rfl; have x23 : w2.cell? ⟨w.heap.size, 3, none⟩ = some (.int .i64 f.close) := (blk_cell HF2.out 3).trans rfl; have x24 : w2.cell? ⟨w.heap.size, 4, none⟩ = some (.int .i64 f.freeze) := (blk_cell HF2.out 4).trans rfl; have y20 : w2.cell? ⟨w.heap.size + 1, 0, none⟩ = some (.int .i64 h) := (blk_cell HA2.out 0).trans rfl; have y21 : w2.cell? ⟨w.heap.size + 1, 1, none⟩ = some (.int .i64 p) := (blk_cell HA2.out 1).trans rfl; have l20 := blk_lt HF2.out; have l21 := blk_lt HA2.out) | (go_at_call 16; with_reducible refine (ST h w2 ?hr).mono ?_; (case hr => exact ((HR0.out.below HB2.out).mono HB2.out.size)); rintro e w3 ⟨rfl, hb3⟩; rw [HST1.out]; have HB3 := hide (zbT HB2.out hb3 HB2.out.size); clear hb3; have HF3 := hide ((HB3.out).block w.heap.size (by have := HS0.out; omega) |>.trans HF0.out); have HA3 := hide ((HB3.out).block (w.heap.size + 1) (by have := HS0.out; omega) |>.trans HA0.out); have x30 : w3.cell? ⟨w.heap.size, 0, none⟩ = some (.int .i64 f.places) := (blk_cell HF3.out 0).trans rfl; have x31 : w3.cell? ⟨w.heap.size, 1, none⟩ = some (.int .i64 f.wilds) := (blk_cell HF3.out 1).trans rfl; have x32 : w3.cell? ⟨w.heap.size, 2, none⟩ = some (.int .i64 f.guards) := (blk_cell HF3.out 2).trans rfl; have x33 : w3.cell? ⟨w.heap.size, 3, none⟩ = some (.int .i64 f.close) := (blk_cell HF3.out 3).trans rfl; have x34 : w3.cell? ⟨w.heap.size, 4, none⟩ = some (.int .i64 f.freeze) := (blk_cell HF3.out 4).trans rfl; have y30 : w3.cell? ⟨w.heap.size + 1, 0, none⟩ = some (.int .i64 h) := (blk_cell HA3.out 0).trans rfl; have y31 : w3.cell? ⟨w.heap.size + 1, 1, none⟩ = some (.int .i64 p) := (blk_cell HA3.out 1).trans rfl; have l30 := blk_lt HF3.out; have l31 := blk_lt HA3.out) | (go_at_call 16; with_reducible refine (ST t w3 ?hr).mono ?_; (case hr => exact ((HR0.out.below HB3.out).mono HB3.out.size)); rintro e w4 ⟨rfl, hb4⟩; rw [HST2.out]; have HB4 := hide (zbT HB3.out hb4 HB3.out.size); clear hb4; have HF4 := hide ((HB4.out).block w.heap.size (by have := HS0.out; omega) |>.trans HF0.out); have HA4 := hide ((HB4.out).block (w.heap.size + 1) (by have := HS0.out; omega) |>.trans HA0.out); have x40 : w4.cell? ⟨w.heap.size, 0, none⟩ = some (.int .i64 f.places) := (blk_cell HF4.out 0).trans rfl; have x41 : w4.cell? ⟨w.heap.size, 1, none⟩ = some (.int .i64 f.wilds) := (blk_cell HF4.out 1).trans rfl; have x42 : w4.cell? ⟨w.heap.size, 2, none⟩ = some (.int .i64 f.guards) := (blk_cell HF4.out 2).trans rfl; have x43 : w4.cell? ⟨w.heap.size, 3, none⟩ = some (.int .i64 f.close) := (blk_cell HF4.out 3).trans rfl; have x44 : w4.cell? ⟨w.heap.size, 4, none⟩ = some (.int .i64 f.freeze) := (blk_cell HF4.out 4).trans rfl; have y40 : w4.cell? ⟨w.heap.size + 1, 0, none⟩ = some (.int .i64 h) := (blk_cell HA4.out 0).trans rfl; have y41 : w4.cell? ⟨w.heap.size + 1, 1, none⟩ = some (.int .i64 p) := (blk_cell HA4.out 1).trans rfl; have l40 := blk_lt HF4.out; have l41 := blk_lt HA4.out))
            go_loopw [15, 16] (fun fo i wr => ∃ (k : Nat) (q : Bool), k ≤ n ∧ i = .int .i64 k ∧ fo = .bool q ∧ Hid (q = true ∨ ∀ j x, j < k → l[j]? = some x → x.hour ≠ t) ∧ Hid (Below w0.heap.size w0 wr)) (fun _ i _ => n - (intOf i).toNat)
            case atStart => exact ⟨0, false, by omega, rfl, rfl, hide (.inr (fun j x hj => by omega)), HB4⟩
            case round =>
              obtain ⟨k, q, hk, rfl, rfl, HQ, HBR⟩ := hrel
              by_cases hlt : k < n
              · obtain ⟨x, hx⟩ : ∃ q, l[k]? = some q := ⟨_, List.getElem?_eq_getElem (by have := HN.out; omega)⟩
                obtain ⟨b, o, hA, hbB, d0, d1, d2, d3, d4⟩ := (HR0.out.below HBR.out) k x hx
                subst hA
                have HX := hide hx
                have hlt' : (k : Int) < (n : Int) := by omega
                have hk0 : (0 : Int) ≤ (k : Int) := by omega
                have hm6 := HM.out
                clear hx
                cases q
                · obtain ⟨g, hg⟩ : ∃ g, (x.hour == t) = g := ⟨_, rfl⟩
                  have HG := hide hg
                  clear hg
                  go_wp2_with fail
                  go_roundw
                  case rel => exact ⟨k + 1, x.hour == t, by omega, by go_num, rfl, hide (by
                    rcases HQ.out with h1 | h1
                    · cases h1
                    · by_cases e : x.hour = t
                      · exact .inl (by rw [e]; simp)
                      · refine .inr (fun j y hj hy => ?_)
                        rcases Nat.lt_or_ge j k with h2 | h2
                        · exact h1 j y h2 hy
                        · have : j = k := by omega
                          rw [this, HX.out] at hy
                          rw [← Option.some.inj hy]; exact e), HBR⟩
                  case measure => simp [intOf]; omega
                · go_wp2_with fail
                  go_roundw
                  case rel => exact ⟨k + 1, true, by omega, by go_num, rfl, hide (.inl rfl), HBR⟩
                  case measure => simp [intOf]; omega
              · have hkn : k = n := by omega
                subst hkn
                have hq : q = true := by
                  rcases HQ.out with h1 | h1
                  · exact h1
                  · obtain ⟨x, hx, e⟩ := HX0.out
                    obtain ⟨j, hj⟩ := List.mem_iff_getElem?.1 hx
                    exact absurd e (h1 j x (by have := (List.getElem?_eq_some_iff.1 hj).1; have := HN.out; omega) hj)
                subst hq
                have HFR := hide ((HBR.out.block (w.heap.size + 1) (by have := HS0.out; omega)).trans HA0.out)
                have yR0 : wr.cell? ⟨w.heap.size + 1, 0, none⟩ = some (.int .i64 h) := (blk_cell HFR.out 0).trans rfl
                have lR := blk_lt HFR.out
                by_cases hge : t ≤ h
                · rcases HIN.out with hz | hz
                  · have p1 : (z1 == 1) = true := by rw [hz]; rfl
                    clear hz
                    go_wp2_with (go_at_call 11; refine (works_any _).mono ?_; rintro e w9 ⟨rfl, hb9⟩; have HB9 := hide (zbT HBR.out hb9 HBR.out.size); clear hb9)
                    go_ret
                    exact ⟨rfl, HB0.out.trans (HB9.out.mono HB0.out.size)⟩
                  · have p1 : (z1 == 1) = false := by rw [hz]; rfl
                    have p2 : (z1 == 2) = true := by rw [hz]; rfl
                    clear hz
                    go_wp2_with (go_at_call 11; refine (works_any _).mono ?_; rintro e w9 ⟨rfl, hb9⟩; have HB9 := hide (zbT HBR.out hb9 HBR.out.size); clear hb9)
                    go_ret
                    exact ⟨rfl, HB0.out.trans (HB9.out.mono HB0.out.size)⟩
                · have hge' : h < t := by omega
                  clear hge
                  rcases HIN.out with hz | hz
                  · rcases HBE.out hge' with hv | hv
                    · have p1 : (z1 == 1) = true := by rw [hz]; rfl
                      clear hz
                      have q0 : (s1 == 0) = true := by rw [hv]; rfl
                      clear hv
                      go_wp2_with (go_at_call 11; refine (works_any _).mono ?_; rintro e w9 ⟨rfl, hb9⟩; have HB9 := hide (zbT HBR.out hb9 HBR.out.size); clear hb9)
                      go_ret
                      exact ⟨rfl, HB0.out.trans (HB9.out.mono HB0.out.size)⟩
                    · have p1 : (z1 == 1) = true := by rw [hz]; rfl
                      clear hz
                      have q0 : (s1 == 0) = false := by rw [hv]; rfl
                      have q3 : (s1 == 3) = true := by rw [hv]; rfl
                      clear hv
                      go_wp2_with (go_at_call 11; refine (works_any _).mono ?_; rintro e w9 ⟨rfl, hb9⟩; have HB9 := hide (zbT HBR.out hb9 HBR.out.size); clear hb9)
                      go_ret
                      exact ⟨rfl, HB0.out.trans (HB9.out.mono HB0.out.size)⟩
                  · rcases HBE.out hge' with hv | hv
                    · have p1 : (z1 == 1) = false := by rw [hz]; rfl
                      have p2 : (z1 == 2) = true := by rw [hz]; rfl
                      clear hz
                      have q0 : (s1 == 0) = true := by rw [hv]; rfl
                      clear hv
                      go_wp2_with (go_at_call 11; refine (works_any _).mono ?_; rintro e w9 ⟨rfl, hb9⟩; have HB9 := hide (zbT HBR.out hb9 HBR.out.size); clear hb9)
                      go_ret
                      exact ⟨rfl, HB0.out.trans (HB9.out.mono HB0.out.size)⟩
                    · have p1 : (z1 == 1) = false := by rw [hz]; rfl
                      have p2 : (z1 == 2) = true := by rw [hz]; rfl
                      clear hz
                      have q0 : (s1 == 0) = false := by rw [hv]; rfl
                      have q3 : (s1 == 3) = true := by rw [hv]; rfl
                      clear hv
                      go_wp2_with (go_at_call 11; refine (works_any _).mono ?_; rintro e w9 ⟨rfl, hb9⟩; have HB9 := hide (zbT HBR.out hb9 HBR.out.size); clear hb9)
                      go_ret
                      exact ⟨rfl, HB0.out.trans (HB9.out.mono HB0.out.size)⟩

end Go.Proofs.Ytklomhmdiflfaaa

namespace Go.Proofs.Ytklomhmdiflfaaa
open Go.ChangeShapes Go.WideShapes Go.ChangeAt Go.RowKit Go.Deep Go.Joins

theorem laidOut : laidOutB Try.prog = true := by kernel_rfl
section
variable {H : Type} {enc : TypeId × Value → H} {P : Program}

theorem trodAll_stays {W W' : World} {sp : Nat → Bool} (hl : laidOutB P = true) (hb : Below W.heap.size W W') : ∀ {ts : List TypeId} {vs : List Value} {ds : List (DataW H)} {ps : List MemPlace}, (∀ t ∈ ts, P.readableRec t = true ∧ t < P.types.size) → (∀ x ∈ ps, x.block < W.heap.size) → (∀ x ∈ ps, sp x.block = true) → DataW.TrodAll enc P W 0 (fun _ => true) true ts vs ds ps → DataW.TrodAll enc P W' 0 sp true ts vs ds ps
  | [], vs, ds, ps, _, _, _, h => by
    obtain ⟨rfl, rfl, rfl⟩ := trodAll_nil h
    exact trodAll_mk0
  | t :: ts, vs, ds, ps, hr, hlt, hsp, h => by
    obtain ⟨v, vs', d, ds', p, q, rfl, rfl, rfl, h0, h1⟩ := trodAll_cons h
    refine trodAll_cons_mk ?_ (trodAll_stays hl hb (fun t ht => hr t (List.mem_cons_of_mem _ ht)) (fun x hx => hlt x (List.mem_append_right _ hx)) (fun x hx => hsp x (List.mem_append_right _ hx)) h1)
    exact WideElems.Trod_stays hl (hr t (List.mem_cons_self ..)).1 (hr t (List.mem_cons_self ..)).2 h0 (fun x hx => hb.same (hlt x (List.mem_append_left _ hx))) (fun x hx => hsp x (List.mem_append_left _ hx))

theorem law_post {f : Func} {s : ChangeSpec} {fresh handsOn again : Bool} {W W' : World} {args : Array Value} {bt : TypeId} {ds gs : List (DataW H)} {before : List MemPlace}
    (hrt : f.resultTypes = #[bt]) (hbt : P.underlying bt = some .bool) (hsv : s.vars = []) (hs : s.fn H ds = { results := [.lit (.bool true)], args := ds }) (hl : laidOutB P = true) (hr : ∀ t ∈ f.params.toList, P.readableRec t = true ∧ t < P.types.size)
    (hW : DataW.Whole enc P f.params.toList s.vars false W args.toList ds gs before) (hb : Below W.heap.size W W') : s.post enc P f false fresh handsOn again W args (.bool true) W' := by
  have hlt : ∀ p ∈ before, p.block < W.heap.size := fun p hp => hW.lt p hp
  have hW1 := hW
  obtain ⟨p, q, hA, hV, hpq, hz, hn⟩ := hW
  rw [hsv] at hV
  obtain ⟨rfl, rfl⟩ := trodVars_none hV
  rw [List.append_nil] at hpq
  subst hpq
  have hs' : s.fn H (ds ++ []) = { results := [.lit (.bool true)], args := ds } := by rw [List.append_nil]; exact hs
  have hres : ∀ (b : Nat) (sp : Nat → Bool) (hd : Bool), DataW.TrodAll enc P W' b sp hd f.resultTypes.toList ((Value.bool true).resultList f.resultTypes.size) (s.fn H (ds ++ [])).results [] := by
    intro b sp hd
    rw [hs', hrt]
    exact trodAll_mk1 (shut_bool hbt true)
  have hargs : ∀ sp : Nat → Bool, (∀ x ∈ before, sp x.block = true) → DataW.TrodAll enc P W' 0 sp true f.params.toList args.toList (s.fn H (ds ++ [])).args before := by
    intro sp hsp
    rw [hs']
    exact trodAll_stays hl hb hr hlt hsp hA
  have hvars : ∀ sp : Nat → Bool, DataW.TrodVars enc P W' sp s.vars (s.fn H (ds ++ [])).vars [] := by
    intro sp
    rw [hs', hsv]
    rfl
  have hok : ∀ (j : Nat) (t : TypeId) (r : Value), f.resultTypes[j]? = some t → ((Value.bool true).resultList f.resultTypes.size)[j]? = some r → Value.okWide P W' .any 0 t r := by
    have := ok_one (P := P) (W' := W') (f := f) (v := .bool true) hrt rfl (okWide_bool_mk hbt true)
    exact this
  have hold : ∀ x ∈ before, (fun b => decide (b < W.heap.size)) x.block = true := fun x hx => by simpa using hlt x hx
  refine ⟨ds, [], before, [], before, [], hW1, hres _ _ _, hargs _ hold, hvars _, World.keptBut_mono (fun x hx => ⟨hx, ?_⟩) (hb.frame (· ∈ before)), fun _ => ?_⟩
  · first | exact Or.inr hx | exact Or.inr (Or.inl hx) | simpa using hx
  · refine ⟨hok, _, _, ([] ++ before) ++ [], ⟨[] ++ before, [], trodAll_append (hargs _ (fun _ _ => rfl)) (hres _ _ _), hvars _, rfl, ?_, fun ha => by cases ha⟩, ?_⟩
    · intro b off hx
      have hin : MemPlace.cell b off ∈ before := by simpa using hx
      rw [hb.frozen (hlt _ hin)]
      exact hz b off hin
    · exact fun p hp _ => by simpa using hp

theorem law_lift {C : Checked} {F : FuncId} {fn : Func} {s : ChangeSpec} {bt : TypeId} {os : Os} (started : os.Started) (own : ownKnob C.prog.godebug = none) (noInit : C.prog.inits.idxOf? F = none) (hfn : C.prog.funcs[F]? = some fn)
    (hrt : fn.resultTypes = #[bt]) (hbt : C.prog.underlying bt = some .bool) (hsv : s.vars = []) (hl : laidOutB C.prog = true) (hr : ∀ t ∈ fn.params.toList, C.prog.readableRec t = true ∧ t < C.prog.types.size)
    (hs : ∀ ds : List (DataW H), ds.length = fn.params.toList.length → s.fn H ds = { results := [.lit (.bool true)], args := ds })
    (witness : ∃ (w : World) (tape : Tape) (i : Input), w.os = os ∧ (w.forCall tape i).Shaped C.prog ∧ i.vars = [] ∧ Input.okWide C.prog (w.forCall tape i) .any w.heap.size F i ∧
      s.pre6 enc C.prog fn [] false (w.forCall tape i).memory i.args ∧ Assume.holds {} C.prog (lone (Frame.enter C.prog F i.args .normal) [] (w.forCall tape i)))
    (contract : ∀ (W : World) (base : Nat) (args : Array Value) (ds : List (DataW H)) (p : List MemPlace), (∀ (j : Nat) t v, fn.params[j]? = some t → args[j]? = some v → Value.okWide C.prog W .any base t v) →
      DataW.TrodAll enc C.prog W 0 (fun _ => true) true fn.params.toList args.toList ds p → (∀ x ∈ p, x.block < W.heap.size) → Calls C.prog F args W fun e w' => e = .returned (.bool true) ∧ Below W.heap.size W w') (fresh handsOn again : Bool) :
    ReturnsInHanded {} C os F .any (s.pre6 enc C.prog fn [] false) (s.post enc C.prog fn false fresh handsOn again) := by
  refine returnsInHanded_of_change own started noInit hfn witness ?_
  intro W base args ds gs before hval hW hc _
  have hW1 := hW
  obtain ⟨p, q, hA, hV, hpq, hz, hn⟩ := hW
  have hA1 : DataW.TrodAll enc C.prog W 0 (fun _ => true) true fn.params.toList args.toList ds p := hA
  rw [hsv] at hV
  obtain ⟨_, rfl⟩ := trodVars_none hV
  have hlen : ds.length = fn.params.toList.length := by
    clear hW1 hA hval hpq hc contract witness
    generalize fn.params.toList = ts at hA1
    generalize args.toList = vs at hA1
    induction ts generalizing vs ds p with
    | nil => obtain ⟨_, rfl, _⟩ := trodAll_nil hA1; rfl
    | cons t ts ih =>
      obtain ⟨_, _, _, _, _, _, rfl, rfl, rfl, _, h1⟩ := trodAll_cons hA1
      rw [List.length_cons, List.length_cons, ih _ _ _ h1]
  refine (contract W base args ds p hval hA1 (fun x hx => hW1.lt x (by rw [hpq]; exact List.mem_append_left _ hx))).mono fun e W' ⟨he, hb⟩ => ?_
  subst he
  exact ⟨_, rfl, law_post hrt hbt hsv (hs ds hlen) hl hr hW1 hb⟩
end

section
variable {H : Type} {enc : TypeId × Value → H} {w : World} {base : Nat} {spare : Nat → Bool} {held : Bool}
theorem trod_fields {P : Program} {t : TypeId} {fs : Array Field} {fuel : Nat} {cs : List Value} {x : DataW H × List MemPlace} (hs : P.underlying t = some (.struct fs)) (hone0 : (match P.underlying t with | some (.struct fs) => oneCellFields P fs && P.cellsOf t == fs.size | _ => false) = true)
    (h : DataW.trod enc P w base spare held fuel t cs = some x) :
    cs.length = fs.size ∧ ∀ (j : Nat) (f : Field), fs[j]? = some f → ∃ (c : Value) (y : DataW H × List MemPlace) (n : Nat), cs[j]? = some c ∧ DataW.trod enc P w base spare held n f.type [c] = some y := by
  rw [hs] at hone0
  simp only [Bool.and_eq_true, beq_iff_eq] at hone0
  obtain ⟨hone, hC⟩ := hone0
  obtain ⟨xs, n, _, _, hcl, hlen, hg⟩ := DataW.trod_struct hs h
  have hll : cs.length = fs.size := hcl.trans hC
  refine ⟨hll, fun j f hj => ?_⟩
  obtain ⟨o, k⟩ := hone_of hone j f hj
  have hjl : j < fs.size := (Array.getElem?_eq_some_iff.1 hj).1
  have h1 := hg j f hj
  rw [o, k] at h1
  have hone' : (cs.drop j).take 1 = [cs[j]'(by omega)] := by
    rw [List.drop_eq_getElem_cons (by omega)]
    rfl
  rw [hone', List.getElem?_eq_getElem (by omega)] at h1
  exact ⟨_, _, n, List.getElem?_eq_getElem (by omega), h1⟩

theorem open_fields {P : Program} {r : Reach} {b0 : Nat} {t : TypeId} {fs : Array Field} {v : Value} {d : DataW H} {p : List MemPlace} (hs : P.underlying t = some (.struct fs)) (hone0 : (match P.underlying t with | some (.struct fs) => oneCellFields P fs && P.cellsOf t == fs.size | _ => false) = true)
    (hv : Value.okWide P w r b0 t v) (h : DataW.Trod enc P w base spare held t v d p) :
    ∃ cs : List Value, v = .agg ⟨cs⟩ ∧ cs.length = fs.size ∧ ∀ (j : Nat) (f : Field), fs[j]? = some f → ∃ (c : Value) (y : DataW H × List MemPlace) (n : Nat), cs[j]? = some c ∧ DataW.trod enc P w base spare held n f.type [c] = some y := by
  obtain ⟨cs, rfl, hsz⟩ := okWide_struct hs hv
  obtain ⟨l⟩ := cs
  obtain ⟨fuel, hf⟩ := h
  have hcells : (Value.agg ⟨l⟩).cells.toList = l := by simp [Value.cells]
  rw [hcells] at hf
  exact ⟨l, rfl, trod_fields hs hone0 hf⟩

theorem spot_none {w : World} {a : Addr} {v : Value} (h : w.cell? a = some v) : a.spot = none ∧ a.block < w.heap.size := by
  unfold World.cell? at h
  split at h
  · rename_i hb
    refine ⟨?_, (Array.getElem?_eq_some_iff.1 hb).1⟩
    split at h
    · cases h
    · rename_i hs
      simpa using hs
  · cases h
theorem spot_first {w : World} {a : Addr} {v : Value} (h : w.cell? (a.add 0) = some v) : ∃ b o : Nat, a = ⟨b, o, none⟩ ∧ b < w.heap.size := by
  have e : a.add 0 = a := if_pos rfl
  rw [e] at h
  obtain ⟨hs, hb⟩ := spot_none h
  obtain ⟨b, o, s⟩ := a
  have hs' : s = none := hs
  subst hs'
  exact ⟨b, o, rfl, hb⟩
theorem fieldOne : (match Try.prog.underlying 23 with | some (.struct fs) => oneCellFields Try.prog fs && Try.prog.cellsOf 23 == fs.size | _ => false) = true := by kernel_rfl
set_option maxRecDepth 100000 in
theorem open_field {r : Reach} {b0 : Nat} {v : Value} {d : DataW H} {p : List MemPlace} (hv : Value.okWide Try.prog w r b0 23 v) (h : DataW.Trod enc Try.prog w base spare held 23 v d p) : ∃ f : E.Fd, v = .agg #[.int .i64 f.places, .int .i64 f.wilds, .int .i64 f.guards, .int .i64 f.close, .int .i64 f.freeze] := by
  obtain ⟨cs, rfl, hl, hf⟩ := open_fields Try.underlying23 fieldOne hv h
  match cs, hl with
  | [c0, c1, c2, c3, c4], _ =>
    obtain ⟨_, _, _, e0, h0⟩ := hf 0 _ rfl
    obtain ⟨_, _, _, e1, h1⟩ := hf 1 _ rfl
    obtain ⟨_, _, _, e2, h2⟩ := hf 2 _ rfl
    obtain ⟨_, _, _, e3, h3⟩ := hf 3 _ rfl
    obtain ⟨_, _, _, e4, h4⟩ := hf 4 _ rfl
    obtain ⟨n0, k0, _, w0⟩ := DataW.trod_int Try.underlying3 h0
    obtain ⟨n1, k1, _, w1⟩ := DataW.trod_int Try.underlying3 h1
    obtain ⟨n2, k2, _, w2⟩ := DataW.trod_int Try.underlying3 h2
    obtain ⟨n3, k3, _, w3⟩ := DataW.trod_int Try.underlying3 h3
    obtain ⟨n4, k4, _, w4⟩ := DataW.trod_int Try.underlying3 h4
    refine ⟨⟨n0, n1, n2, n3, n4⟩, ?_⟩
    simp only [List.getElem?_cons_zero, List.getElem?_cons_succ, Option.some.injEq] at e0 e1 e2 e3 e4
    simp only [List.cons.injEq, and_true] at k0 k1 k2 k3 k4
    rw [e0, e1, e2, e3, e4, k0, k1, k2, k3, k4]
theorem hoursOne : (match Try.prog.underlying 52 with | some (.struct fs) => oneCellFields Try.prog fs && Try.prog.cellsOf 52 == fs.size | _ => false) = true := by kernel_rfl
set_option maxRecDepth 100000 in
theorem open_hours {r : Reach} {b0 : Nat} {v : Value} {d : DataW H} {p : List MemPlace} (hv : Value.okWide Try.prog w r b0 52 v) (h : DataW.Trod enc Try.prog w base spare held 52 v d p) : ∃ a b : Int, v = .agg #[.int .i64 a, .int .i64 b] := by
  obtain ⟨cs, rfl, hl, hf⟩ := open_fields Try.underlying52 hoursOne hv h
  match cs, hl with
  | [c0, c1], _ =>
    obtain ⟨_, _, _, e0, h0⟩ := hf 0 _ rfl
    obtain ⟨_, _, _, e1, h1⟩ := hf 1 _ rfl
    obtain ⟨n0, k0, _, w0⟩ := DataW.trod_int Try.underlying3 h0
    obtain ⟨n1, k1, _, w1⟩ := DataW.trod_int Try.underlying3 h1
    refine ⟨n0, n1, ?_⟩
    simp only [List.getElem?_cons_zero, List.getElem?_cons_succ, Option.some.injEq] at e0 e1
    simp only [List.cons.injEq, and_true] at k0 k1
    rw [e0, e1, k0, k1]
theorem askedOne : (match Try.prog.underlying 26 with | some (.struct fs) => oneCellFields Try.prog fs && Try.prog.cellsOf 26 == fs.size | _ => false) = true := by kernel_rfl
set_option maxRecDepth 100000 in
theorem open_asked {r : Reach} {b0 : Nat} {v : Value} {d : DataW H} {p : List MemPlace} (hv : Value.okWide Try.prog w r b0 26 v) (h : DataW.Trod enc Try.prog w base spare held 26 v d p) : ∃ a b : Int, v = .agg #[.int .i64 a, .int .i64 b] := by
  obtain ⟨cs, rfl, hl, hf⟩ := open_fields Try.underlying26 askedOne hv h
  match cs, hl with
  | [c0, c1], _ =>
    obtain ⟨_, _, _, e0, h0⟩ := hf 0 _ rfl
    obtain ⟨_, _, _, e1, h1⟩ := hf 1 _ rfl
    obtain ⟨n0, k0, _, w0⟩ := DataW.trod_int Try.underlying3 h0
    obtain ⟨n1, k1, _, w1⟩ := DataW.trod_int Try.underlying3 h1
    refine ⟨n0, n1, ?_⟩
    simp only [List.getElem?_cons_zero, List.getElem?_cons_succ, Option.some.injEq] at e0 e1
    simp only [List.cons.injEq, and_true] at k0 k1
    rw [e0, e1, k0, k1]
theorem noticeCells : Try.prog.cellsOf 40 = 5 := by kernel_rfl
theorem noticeOne : (match Try.prog.underlying 40 with | some (.struct fs) => oneCellFields Try.prog fs && Try.prog.cellsOf 40 == fs.size | _ => false) = true := by kernel_rfl
set_option maxRecDepth 100000 in
theorem open_notices {v : Value} {d : DataW H} {p : List MemPlace} (h : DataW.Trod enc Try.prog w base (fun _ => true) held 24 v d p) (hok : ∃ a n c, v = .slice a n c) :
    ∃ (A : Option Addr) (n c : Nat) (xs : List E.Nt), v = .slice A n c ∧ n ≤ c ∧ c ≤ maxLen ∧ xs.length = n ∧ RdN w w.heap.size A xs ∧ (A = none → c = 0) ∧ ∀ x ∈ xs, (Lit.int .i64 x.id).wf = true := by
  obtain ⟨a0, n0, c0, rfl⟩ := hok
  obtain ⟨fuel, hf⟩ := h
  rcases Go.Deep.open_slice Try.underlying24 hf with ⟨hcs, _⟩ | ⟨a, len, cap, m, n, D, Pl, hcs, _, hle, hmax, hm, _, hi⟩
  · simp [Value.cells] at hcs
    obtain ⟨rfl, rfl, rfl⟩ := hcs
    exact ⟨none, 0, 0, [], rfl, Nat.le_refl _, Nat.zero_le _, rfl, RdN.nil _ _ _, fun _ => rfl, fun x hx => by cases hx⟩
  · simp [Value.cells] at hcs
    obtain ⟨rfl, rfl, rfl⟩ := hcs
    simp only [if_true] at hm
    rename Addr => a0'
    have each : ∀ i, i < n0 → ∃ q : E.Nt, w.cell? (a0'.add (i * 5)) = some (.int .i64 q.id) ∧ w.cell? ((a0'.add (i * 5)).add 1) = some (.int .i64 q.hour) ∧ w.cell? ((a0'.add (i * 5)).add 2) = some (.int .i64 q.kind) ∧ w.cell? ((a0'.add (i * 5)).add 3) = some (.int .i64 q.player) ∧ w.cell? ((a0'.add (i * 5)).add 4) = some (.int .i64 q.rank) ∧ (Lit.int .i64 q.id).wf = true := by
      intro i hil
      obtain ⟨cs', hc, ht⟩ := hi i (by omega)
      rw [noticeCells] at hc
      obtain ⟨_, hcl, hat⟩ := World.cells?_some hc
      obtain ⟨_, hff⟩ := trod_fields Try.underlying40 noticeOne ht
      match cs', hcl with
      | [c0', c1', c2', c3', c4'], _ =>
        obtain ⟨_, _, _, e0, g0⟩ := hff 0 _ rfl
        obtain ⟨_, _, _, e1, g1⟩ := hff 1 _ rfl
        obtain ⟨_, _, _, e2, g2⟩ := hff 2 _ rfl
        obtain ⟨_, _, _, e3, g3⟩ := hff 3 _ rfl
        obtain ⟨_, _, _, e4, g4⟩ := hff 4 _ rfl
        obtain ⟨n0', k0, _, w0⟩ := DataW.trod_int Try.underlying3 g0
        obtain ⟨n1', k1, _, w1⟩ := DataW.trod_int Try.underlying3 g1
        obtain ⟨n2', k2, _, w2⟩ := DataW.trod_int Try.underlying3 g2
        obtain ⟨n3', k3, _, w3⟩ := DataW.trod_int Try.underlying3 g3
        obtain ⟨n4', k4, _, w4⟩ := DataW.trod_int Try.underlying3 g4
        simp only [List.getElem?_cons_zero, List.getElem?_cons_succ, Option.some.injEq] at e0 e1 e2 e3 e4
        simp only [List.cons.injEq, and_true] at k0 k1 k2 k3 k4
        rw [← e0] at k0
        rw [← e1] at k1
        rw [← e2] at k2
        rw [← e3] at k3
        rw [← e4] at k4
        subst k0 k1 k2 k3 k4
        exact ⟨⟨n0', n1', n2', n3', n4'⟩, hat 0 (by omega), hat 1 (by omega), hat 2 (by omega), hat 3 (by omega), hat 4 (by omega), w0⟩
    have pick : ∀ k q, ((List.range n0).map (fun i => if h : i < n0 then (each i h).choose else ⟨0, 0, 0, 0, 0⟩))[k]? = some q → ∃ hkn : k < n0, (each k hkn).choose = q := by
      intro k q hk
      have hkn : k < n0 := by
        rcases Nat.lt_or_ge k n0 with hl | hl
        · exact hl
        · rw [List.getElem?_eq_none (by simp; omega)] at hk; cases hk
      refine ⟨hkn, ?_⟩
      rw [List.getElem?_map, List.getElem?_range hkn] at hk
      simpa [hkn] using hk
    refine ⟨some a0', n0, c0, (List.range n0).map (fun i => if h : i < n0 then (each i h).choose else ⟨0, 0, 0, 0, 0⟩), rfl, hle, hmax, by simp, ?_, (fun e => by cases e), fun q hq => ?_⟩
    · intro k q hk
      obtain ⟨hkn, hq⟩ := pick k q hk
      have hc := (each k hkn).choose_spec
      rw [hq] at hc
      obtain ⟨_, h00, _⟩ := each 0 (by omega)
      obtain ⟨b, o, rfl, hb'⟩ := spot_first (by rw [Nat.zero_mul] at h00; exact h00)
      rw [add_plain, add_plain, add_plain, add_plain, add_plain] at hc
      exact ⟨b, o, rfl, hb', hc.1, hc.2.1, hc.2.2.1, hc.2.2.2.1, hc.2.2.2.2.1⟩
    · obtain ⟨k, hk⟩ := List.mem_iff_getElem?.1 hq
      obtain ⟨hkn, hq'⟩ := pick k q hk
      have hc := (each k hkn).choose_spec
      rw [hq'] at hc
      exact hc.2.2.2.2.2
end
end Go.Proofs.Ytklomhmdiflfaaa

namespace Go.Proofs.Ytklomhmdiflfaaa
open Go.ChangeShapes Go.WideShapes Go.ChangeAt Go.RowKit Go.Deep Go.Joins
attribute [local go_sem ↓] Go.wp_at_zero Go.wp_at_succ

set_option maxHeartbeats 1600000 in
set_option maxRecDepth 100000 in
theorem far_long (A : Option Addr) (n c : Nat) (w : World) (h : 100 < n) :
    Calls Try.prog 10 #[.slice A n c] w fun e w' => e = .returned (.bool true) ∧ w = w' := by
  have i1 : (20 : Int) < (n : Int) := by omega
  have i2 : ¬ (n : Int) ≤ 60 := by omega
  have i3 : (100 : Int) < (n : Int) := by omega
  clear h
  go_enter Try.func10, Try.ntmps10
  go_wp2
  go_ret
  exact ⟨rfl, rfl⟩
set_option maxHeartbeats 1600000 in
set_option maxRecDepth 100000 in
theorem ready_long (f : E.Fd) (A : Option Addr) (n c : Nat) (w : World) (h : 100 < n) :
    Calls Try.prog 19 #[.agg #[.int .i64 f.places, .int .i64 f.wilds, .int .i64 f.guards, .int .i64 f.close, .int .i64 f.freeze], .slice A n c] w fun e w' => e = .returned (.bool false) ∧ Below w.heap.size w w' := by
  have HF := fun W => hide (far_long A n c W h)
  clear h
  go_enter Try.func19, Try.ntmps19
  go_wp2_with (go_at_call 10; refine (HF _).out.mono ?_; rintro e w' ⟨rfl, rfl⟩)
  go_ret
  exact ⟨rfl, by (repeat' first | exact zbR _ _ | assumption | refine zbD ?_ | refine zbA ?_ ?_ _ | refine zbS ?_ ?_ _ | refine zbT ?_ (by assumption) ?_ | (simp; done) | (simp; omega) | omega)⟩
set_option maxHeartbeats 1600000 in
set_option maxRecDepth 100000 in
theorem firstLaw_long (f : E.Fd) (A : Option Addr) (n c : Nat) (h p : Int) (w : World) (hn : 100 < n) :
    Calls Try.prog 9 #[.agg #[.int .i64 f.places, .int .i64 f.wilds, .int .i64 f.guards, .int .i64 f.close, .int .i64 f.freeze], .slice A n c, .agg #[.int .i64 h, .int .i64 p]] w fun e w' => e = .returned (.bool true) ∧ Below w.heap.size w w' := by
  have HR := fun W => hide (ready_long f A n c W hn)
  clear hn
  go_enter Try.func9, Try.ntmps9
  go_wp2_with (first | (go_at_call 19; refine (HR _).out.mono ?_; rintro e w1 ⟨rfl, hb1⟩; have HB1 := hide (zbT (show Below w.heap.size w _ by (repeat' first | exact zbR _ _ | assumption | refine zbD ?_ | refine zbA ?_ ?_ _ | refine zbS ?_ ?_ _ | refine zbT ?_ (by assumption) ?_ | (simp; done) | (simp; omega) | omega)) hb1 (by simp; omega)); clear hb1) | (go_at_call 11; refine (works_any _).mono ?_; rintro e w9 ⟨rfl, hb9⟩; have HB9 := hide (zbT HB1.out hb9 HB1.out.size); clear hb9))
  go_ret
  exact ⟨rfl, HB9.out⟩
theorem firstLaw_all (f : E.Fd) (A : Option Addr) (n c : Nat) (l : List E.Nt) (h p : Int) (w : World) (hn : l.length = n) (hr : RdN w w.heap.size A l) (hid : ∀ x ∈ l, (Lit.int .i64 x.id).wf = true) :
    Calls Try.prog 9 #[.agg #[.int .i64 f.places, .int .i64 f.wilds, .int .i64 f.guards, .int .i64 f.close, .int .i64 f.freeze], .slice A n c, .agg #[.int .i64 h, .int .i64 p]] w fun e w' => e = .returned (.bool true) ∧ Below w.heap.size w w' := by
  by_cases h1 : n ≤ 1000000
  · exact firstLaw_any f A n c l h p w hn hr hid h1
  · exact firstLaw_long f A n c h p w (by omega)

theorem Try.ownEntryFirst : ownKnob Try.prog.godebug = none := by kernel_rfl

set_option maxRecDepth 100000 in
theorem entryFirst_call (H : Type) (enc : TypeId × Value → H) (W : World) (base : Nat) (args : Array Value) (ds : List (DataW H)) (p : List MemPlace) (hval : ∀ (j : Nat) t v, Try.f9.params[j]? = some t → args[j]? = some v → Value.okWide Try.prog W .any base t v)
    (hA : DataW.TrodAll enc Try.prog W 0 (fun _ => true) true Try.f9.params.toList args.toList ds p) : Calls Try.prog 9 args W fun e W' => e = .returned (.bool true) ∧ Below W.heap.size W W' := by
  rw [Try.params9] at hA hval
  obtain ⟨v0, v1, v2, d0, d1, d2, p0, p1, p2, rfl, rfl, rfl, h0, h1, h2⟩ := trodAll_three hA
  obtain ⟨x0, rfl⟩ := open_field (hval 0 23 v0 rfl rfl) h0
  obtain ⟨A1, n1, c1, l1, rfl, hle1, hmx1, hn1, hr1, hno1, hwf1⟩ := open_notices h1 (okWide_slice Try.underlying24 (hval 1 24 v1 rfl rfl))
  obtain ⟨a2, b2, rfl⟩ := open_asked (hval 2 26 v2 rfl rfl) h2
  exact firstLaw_all x0 A1 n1 c1 l1 a2 b2 W hn1 hr1 hwf1

set_option maxRecDepth 100000 in
theorem EntryFirst_holds : Rows.EntryFirstSaid :=
  OpenClaim.holds_of_wide (p := Try.pinned) (s := Rows.entryFirstSpec) (c := Rows.entryFirstRow) 9 Try.f9 rfl rfl rfl rfl rfl rfl rfl ⟨rfl, rfl, rfl, rfl, rfl⟩ rfl rfl rfl rfl rfl (by kernel_rfl) Try.func9 (by kernel_rfl)
    (of_decide_eq_true (by kernel_rfl)) (by unfold Func.isWrapper; first | (rw [if_pos (by decide +kernel)]; kernel_rfl) | (rw [if_neg (by decide +kernel)]; exact ⟨rfl, rfl⟩))
    (fun os started H enc _ => law_lift (C := Try.checked) (F := 9) (fn := Try.f9) (s := Rows.entryFirstSpec) (bt := 4) started Try.ownEntryFirst (by kernel_rfl) Try.func9 (by kernel_rfl) Try.underlying4 rfl laidOut (of_decide_eq_true (by kernel_rfl))
      (fun ds hds => match ds, hds with | [_, _, _], _ => rfl)
      (ChangeSpec.witness6 (enc := enc) (C := Try.checked) false ⟨#[], #[.agg #[.int .i64 0, .int .i64 0, .int .i64 0, .int .i64 0, .int .i64 0], .slice none 0 0, .agg #[.int .i64 0, .int .i64 0]], []⟩ 8 (by kernel_rfl) (by kernel_rfl) (by kernel_rfl) (by kernel_rfl))
      (fun W base args ds p hval hA _ => entryFirst_call H enc W base args ds p hval hA) _ _ _)

end Go.Proofs.Ytklomhmdiflfaaa
