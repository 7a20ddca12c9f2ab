/-
  Part of a claim's texts: contracts of the program's functions and the plain functions that they compute, in build order.
-/
import Derived.Test.YtlpjkolocgkcpaaZB04
namespace Go.Proofs.Ytlpjkolocgkcpaa
open Go.RowKit
attribute [local go_sem ↓] Go.wp_at_zero Go.wp_at_succ

theorem ex_Enter {g f p t : Nat} (W : World) (h : ExAt W g f p t) : Calls Try.prog 17 #[.agg #[.int .i64 10, .int .i64 2, .int .i64 3, .int .i64 5, .slice (some ⟨g, 0, none⟩) 4 4, .slice (some ⟨f, 0, none⟩) 1 1], .int .i64 2] W fun e w' => ∃ (A : Option Addr) (c : Nat), e = .returned (.tuple #[.slice A 4 c, .int .i64 0]) ∧ RdI w' w'.heap.size A [10, -1, 12, 13] ∧ Below W.heap.size W w' :=
  (Enter_any G.exQ (some ⟨g, 0, none⟩) 4 4 (some ⟨f, 0, none⟩) 1 1 2 W h.qin).mono fun e w' h => by
    rw [G.ex_enter.1, G.ex_enter.2] at h
    obtain ⟨A, c, rfl, ho, hb⟩ := h
    exact ⟨A, c, rfl, owns_RdI ho rfl, hb⟩
theorem ex_Sure {g f p t : Nat} (W : World) (h : ExAt W g f p t) : Calls Try.prog 22 #[.agg #[.int .i64 10, .int .i64 2, .int .i64 3, .int .i64 5, .slice (some ⟨g, 0, none⟩) 4 4, .slice (some ⟨f, 0, none⟩) 1 1], .int .i64 4] W fun e w' => e = .returned (.tuple #[.agg #[.int .i64 12, .int .i64 13], .int .i64 0]) ∧ Below W.heap.size W w' :=
  (Sure_any G.exQ 4 (some ⟨g, 0, none⟩) 4 4 (some ⟨f, 0, none⟩) 1 1 W h.qin rfl).mono fun e w' h => by
    rw [G.ex_sure.1, G.ex_sure.2] at h
    exact h
theorem ex_Enough {g f p t : Nat} (W : World) (h : ExAt W g f p t) : Calls Try.prog 24 #[.agg #[.int .i64 10, .int .i64 2, .int .i64 3, .int .i64 5, .slice (some ⟨g, 0, none⟩) 4 4, .slice (some ⟨f, 0, none⟩) 1 1], .int .i64 2] W fun e w' => e = .returned (.tuple #[.int .i64 1, .int .i64 0]) ∧ Below W.heap.size W w' :=
  (Enough_any G.exQ 2 (some ⟨g, 0, none⟩) 4 4 (some ⟨f, 0, none⟩) 1 1 W h.qin rfl).mono fun e w' h => by
    rw [G.ex_enough.1, G.ex_enough.2] at h
    exact h
theorem ex_Total {g f p t : Nat} (W : World) (h : ExAt W g f p t) : Calls Try.prog 28 #[.agg #[.int .i64 60, .int .i64 120, .slice (some ⟨p, 0, none⟩) 3 3], .slice (some ⟨t, 0, none⟩) 4 4] W fun e w' => e = .returned (.tuple #[.int .i64 1501, .int .i64 0]) ∧ Below W.heap.size W w' :=
  (Total_any G.exX (some ⟨p, 0, none⟩) 3 3 (some ⟨t, 0, none⟩) 4 4 G.exL W rfl h.played (by omega) rfl h.tickets (fun q hq => by
    simp only [G.exL, List.mem_cons, List.not_mem_nil, or_false] at hq
    rcases hq with rfl | rfl | rfl | rfl <;> rfl) (by omega)).mono fun e w' h => by
    rw [G.ex_total.1, G.ex_total.2] at h
    exact h

theorem rdI_four {w : World} {q : Nat} {x y u v : Int} (hq : w.heap[q]? = some (.cells #[.int .i64 x, .int .i64 y, .int .i64 u, .int .i64 v] 3 (0, 0))) : RdI w w.heap.size (some ⟨q, 0, none⟩) [x, y, u, v] := by
  have c : ∀ i, w.cell? ⟨q, i, none⟩ = _ := fun i => blk_cell hq i
  intro k z hk
  refine ⟨q, 0, rfl, blk_lt hq, ?_⟩
  match k, hk with
  | 0, hk => cases hk; exact c 0
  | 1, hk => cases hk; exact c 1
  | 2, hk => cases hk; exact c 2
  | 3, hk => cases hk; exact c 3
  | k + 4, hk => cases hk

set_option maxHeartbeats 6400000 in
set_option maxRecDepth 100000 in
theorem works_any (w : World) : Calls Try.prog 13 #[] w fun e w' => e = .returned (.bool true) ∧ Below w.heap.size w w' := by
  go_enter Try.func13, Try.ntmps13
  go_upto_region 2 with (go_at_call 35; (with_reducible refine (Example_any _).mono ?_); rintro e w1 ⟨g, f, p, t, rfl, hx, hb⟩; have HX := hide hx; have HB1 := hide hb; clear hx hb)
  refine cap_w (M := Code.wp _ _ _ _) _ (fun w2 hw2 => ?_)
  have HB2 := hide (show Below w.heap.size w w2 by rw [hw2]; exact zbA (zbA HB1.out HB1.out.size _) (Nat.le_trans HB1.out.size (by simp)) _)
  have HX2 := hide (show ExAt w2 g f p t by rw [hw2]; exact HX.out.below (zbA (zbA (zbR _ _) (Nat.le_refl _) _) (by simp) _))
  have HQ2 := hide (show w2.heap[w1.heap.size]? = some (.cells #[.int .i64 10, .int .i64 2, .int .i64 3, .int .i64 5, .slice (some ⟨g, 0, none⟩) 4 4, .slice (some ⟨f, 0, none⟩) 1 1] 27 (0, 0)) by rw [hw2]; exact (Below.heap_alloc _ _ _ (by simp)).trans (World.alloc_heap_new _ _))
  have HT2 := hide (show w2.heap[w1.heap.size + 1]? = some (.cells #[.int .i64 60, .int .i64 120, .slice (some ⟨p, 0, none⟩) 3 3] 48 (0, 0)) by rw [hw2]; exact alloc_new_at (by simp))
  clear hw2
  obtain ⟨bq, hbq⟩ : ∃ x, w1.heap.size = x := ⟨_, rfl⟩
  rw [hbq] at HQ2 HT2 ⊢
  clear hbq
  obtain ⟨bx, hbx⟩ : ∃ x, bq + 1 = x := ⟨_, rfl⟩
  rw [hbx] at HT2 ⊢
  clear hbx
  have q0 : w2.cell? ⟨bq, 0, none⟩ = some (.int .i64 10) := (blk_cell HQ2.out 0).trans rfl
  have q1 : w2.cell? ⟨bq, 1, none⟩ = some (.int .i64 2) := (blk_cell HQ2.out 1).trans rfl
  have q2 : w2.cell? ⟨bq, 2, none⟩ = some (.int .i64 3) := (blk_cell HQ2.out 2).trans rfl
  have q3 : w2.cell? ⟨bq, 3, none⟩ = some (.int .i64 5) := (blk_cell HQ2.out 3).trans rfl
  have q4 : w2.cell? ⟨bq, 4, none⟩ = some (.slice (some ⟨g, 0, none⟩) 4 4) := (blk_cell HQ2.out 4).trans rfl
  have q5 : w2.cell? ⟨bq, 5, none⟩ = some (.slice (some ⟨f, 0, none⟩) 1 1) := (blk_cell HQ2.out 5).trans rfl
  have lq := blk_lt HQ2.out
  go_upto_region 3 with (go_at_call 17; (with_reducible refine (ex_Enter _ HX2.out).mono ?_); rintro e w3 ⟨A3, c3, rfl, hr3, hb3⟩; have HR3 := hide hr3; have HX3 := hide (HX2.out.below hb3); have HQ3 := bkT hb3 HQ2; have HT3 := bkT hb3 HT2; have HB3 := hide (zbT HB2.out hb3 HB2.out.size); clear hr3 hb3 q0 q1 q2 q3 q4 q5 lq)
  have q0 : w3.cell? ⟨bq, 0, none⟩ = some (.int .i64 10) := (blk_cell HQ3.out 0).trans rfl
  have q1 : w3.cell? ⟨bq, 1, none⟩ = some (.int .i64 2) := (blk_cell HQ3.out 1).trans rfl
  have q2 : w3.cell? ⟨bq, 2, none⟩ = some (.int .i64 3) := (blk_cell HQ3.out 2).trans rfl
  have q3 : w3.cell? ⟨bq, 3, none⟩ = some (.int .i64 5) := (blk_cell HQ3.out 3).trans rfl
  have q4 : w3.cell? ⟨bq, 4, none⟩ = some (.slice (some ⟨g, 0, none⟩) 4 4) := (blk_cell HQ3.out 4).trans rfl
  have q5 : w3.cell? ⟨bq, 5, none⟩ = some (.slice (some ⟨f, 0, none⟩) 1 1) := (blk_cell HQ3.out 5).trans rfl
  have lq := blk_lt HQ3.out
  go_upto_region 4 with (go_at_call 22; (with_reducible refine (ex_Sure _ HX3.out).mono ?_); rintro e w4 ⟨rfl, hb4⟩; have HR4 := hide ((HR3.out.below hb4).mono hb4.size); have HX4 := hide (HX3.out.below hb4); have HQ4 := bkT hb4 HQ3; have HT4 := bkT hb4 HT3; have HB4 := hide (zbT HB3.out hb4 HB3.out.size); clear hb4 q0 q1 q2 q3 q4 q5 lq)
  refine cap_w (M := Code.wp _ _ _ _) _ (fun w5 hw5 => ?_)
  have hb5 : Below w4.heap.size w4 w5 := by rw [hw5]; exact zbA (zbR _ _) (Nat.le_refl _) _
  have HS5 := hide (show w5.heap[w4.heap.size]? = some (.cells #[.int .i64 12, .int .i64 13] 23 (0, 0)) by rw [hw5]; exact World.alloc_heap_new _ _)
  have HR5 := hide ((HR4.out.below hb5).mono hb5.size)
  have HX5 := hide (HX4.out.below hb5)
  have HQ5 := bkT hb5 HQ4
  have HT5 := bkT hb5 HT4
  have HB5 := hide (zbT HB4.out hb5 HB4.out.size)
  clear hw5 hb5
  obtain ⟨bs, hbs⟩ : ∃ x, w4.heap.size = x := ⟨_, rfl⟩
  rw [hbs] at HS5 ⊢
  clear hbs
  have q0 : w5.cell? ⟨bq, 0, none⟩ = some (.int .i64 10) := (blk_cell HQ5.out 0).trans rfl
  have q1 : w5.cell? ⟨bq, 1, none⟩ = some (.int .i64 2) := (blk_cell HQ5.out 1).trans rfl
  have q2 : w5.cell? ⟨bq, 2, none⟩ = some (.int .i64 3) := (blk_cell HQ5.out 2).trans rfl
  have q3 : w5.cell? ⟨bq, 3, none⟩ = some (.int .i64 5) := (blk_cell HQ5.out 3).trans rfl
  have q4 : w5.cell? ⟨bq, 4, none⟩ = some (.slice (some ⟨g, 0, none⟩) 4 4) := (blk_cell HQ5.out 4).trans rfl
  have q5 : w5.cell? ⟨bq, 5, none⟩ = some (.slice (some ⟨f, 0, none⟩) 1 1) := (blk_cell HQ5.out 5).trans rfl
  have lq := blk_lt HQ5.out
  go_upto_region 5 with (go_at_call 24; (with_reducible refine (ex_Enough _ HX5.out).mono ?_); rintro e w6 ⟨rfl, hb6⟩; have HR6 := hide ((HR5.out.below hb6).mono hb6.size); have HX6 := hide (HX5.out.below hb6); have HT6 := bkT hb6 HT5; have HS6 := bkT hb6 HS5; have HB6 := hide (zbT HB5.out hb6 HB5.out.size); clear hb6 q0 q1 q2 q3 q4 q5 lq)
  have x0 : w6.cell? ⟨bx, 0, none⟩ = some (.int .i64 60) := (blk_cell HT6.out 0).trans rfl
  have x1 : w6.cell? ⟨bx, 1, none⟩ = some (.int .i64 120) := (blk_cell HT6.out 1).trans rfl
  have x2 : w6.cell? ⟨bx, 2, none⟩ = some (.slice (some ⟨p, 0, none⟩) 3 3) := (blk_cell HT6.out 2).trans rfl
  have lx := blk_lt HT6.out
  go_upto_region 6 with (go_at_call 28; (with_reducible refine (ex_Total _ HX6.out).mono ?_); rintro e w7 ⟨rfl, hb7⟩; have HR7 := hide ((HR6.out.below hb7).mono hb7.size); have HS7 := bkT hb7 HS6; have HB7 := hide (zbT HB6.out hb7 HB6.out.size); clear hb7 x0 x1 x2 lx)
  have s0 : w7.cell? ⟨bs, 0, none⟩ = some (.int .i64 12) := (blk_cell HS7.out 0).trans rfl
  have s1 : w7.cell? ⟨bs, 1, none⟩ = some (.int .i64 13) := (blk_cell HS7.out 1).trans rfl
  have ls := blk_lt HS7.out
  go_wp2_with (go_at_call 21; (with_reducible refine (sameInts_eq A3 _ 4 c3 4 [10, -1, 12, 13] _ rfl ((HR7.out.below (zbA (zbR _ _) (Nat.le_refl _) _)).mono (by simp)) (rdI_four (World.alloc_heap_new _ _)) (by omega)).mono ?_); rintro e w8 ⟨rfl, hb8⟩; have HB8 := hide (zbT (zbA HB7.out HB7.out.size _) hb8 (Nat.le_trans HB7.out.size (by simp))); have HS8 := hide ((hb8.block bs (by simp; omega)).trans ((Below.heap_alloc _ _ _ ls).trans HS7.out)); clear hb8 s0 s1 ls; have s0 : w8.cell? ⟨bs, 0, none⟩ = some (.int .i64 12) := (blk_cell HS8.out 0).trans rfl; have s1 : w8.cell? ⟨bs, 1, none⟩ = some (.int .i64 13) := (blk_cell HS8.out 1).trans rfl; have ls := blk_lt HS8.out)
  go_ret
  exact ⟨rfl, HB8.out⟩
end Go.Proofs.Ytlpjkolocgkcpaa

namespace Go.Proofs.Ytlpjkolocgkcpaa
open Go.RowKit
attribute [local go_sem ↓] Go.wp_at_zero Go.wp_at_succ

theorem QIn.seats {w : World} {q : G.Qu} {A : Option Addr} {n c : Nat} {F : Option Addr} {m d : Nat} (h : QIn w q A n c F m d) (s : Int) : QIn w { q with seats := s } A n c F m d := ⟨h.gl, h.fl, h.n1, h.m1, h.rg, h.rf, h.a, h.f, h.id⟩
set_option maxHeartbeats 3200000 in
set_option maxRecDepth 100000 in
theorem last_any (q : G.Qu) (A : Option Addr) (n c : Nat) (F : Option Addr) (m d : Nat) (w : World) (h : QIn w q A n c F m d) (hv : G.Valid q) :
    Calls Try.prog 33 #[.agg #[.int .i64 q.opn, .int .i64 q.lo, .int .i64 q.hi, .int .i64 q.seats, .slice A n c, .slice F m d]] w fun e w' => e = .returned (.int .i64 (G.lastK q n)) ∧ Below w.heap.size w w' := by
  have HI := hide h
  have HV := hide hv
  have hn40 : n ≤ 40 := by have := hv.gl; have := h.gl; omega
  clear h hv
  go_enter Try.func33, Try.ntmps33
  go_upto_region 1 with fail
  refine cap_w _ (fun w1 hw1 => ?_)
  have HB1 := hide (show Below w.heap.size w w1 by rw [hw1]; (repeat' first | exact zbR _ _ | assumption | refine zbD ?_ | refine zbA ?_ ?_ _ | refine zbS ?_ ?_ _ | refine zbT ?_ (by assumption) ?_ | (simp; done) | (simp; omega) | omega))
  have HQ := hide (show w1.heap[w.heap.size]? = some (.cells #[.int .i64 q.opn, .int .i64 q.lo, .int .i64 q.hi, .int .i64 q.seats, .slice A n c, .slice F m d] 27 (0, 0)) by rw [hw1]; exact World.alloc_heap_new _ _)
  have HR := hide ((HI.out.below HB1.out).rg)
  clear hw1
  obtain ⟨b0, hb0⟩ : ∃ x, w.heap.size = x := ⟨_, rfl⟩
  rw [hb0] at HQ ⊢
  clear hb0
  have q0 : w1.cell? ⟨b0, 0, none⟩ = some (.int .i64 q.opn) := (blk_cell HQ.out 0).trans rfl
  have q4 : w1.cell? ⟨b0, 4, none⟩ = some (.slice A n c) := (blk_cell HQ.out 4).trans rfl
  have lq := blk_lt HQ.out
  go_wp2
  go_loopw [3, 4] (fun v i wr => ∃ k : Nat, k ≤ n ∧ i = .int .i64 (k : Int) ∧ v = .int .i64 (G.lastK q k) ∧ wr = w1) (fun _ i _ => n - (intOf i).toNat)
  case atStart => exact ⟨0, by omega, rfl, rfl, rfl⟩
  case round =>
    obtain ⟨k, hk, rfl, rfl, rfl⟩ := hrel
    by_cases hlt : k < n
    · obtain ⟨pt, hpt⟩ : ∃ pt, q.gs[k]? = some pt := ⟨_, List.getElem?_eq_getElem (by rw [HI.out.gl]; exact hlt)⟩
      obtain ⟨bg, og, rfl, hbg, _, d1, _, _⟩ := HR.out k pt hpt
      have HST := hide (G.lastK_step hpt)
      obtain ⟨lk, hlk⟩ : ∃ x, G.lastK q k = x := ⟨_, rfl⟩
      rw [hlk] at HST ⊢
      have hltI : (k : Int) < (n : Int) := by omega
      clear hpt hlk
      by_cases hc : lk < pt.at_
      · have hm1 : (if lk < pt.at_ then pt.at_ else lk) = pt.at_ := if_pos hc
        have hm2 : max lk pt.at_ = pt.at_ := by omega
        have HST2 := hide (show G.lastK q (k + 1) = pt.at_ by rw [HST.out, if_pos hc])
        go_wp2
        go_roundw
        case rel => exact ⟨k + 1, by omega, by go_num, by rw [HST2.out], trivial⟩
        case measure => simp [intOf]; omega
      · have hc' : pt.at_ ≤ lk := by omega
        have hm1 : (if lk < pt.at_ then pt.at_ else lk) = lk := if_neg hc
        have hm2 : max lk pt.at_ = lk := by omega
        have HST2 := hide (show G.lastK q (k + 1) = lk by rw [HST.out, if_neg hc])
        clear hc
        go_wp2
        go_roundw
        case rel => exact ⟨k + 1, by omega, by go_num, by rw [HST2.out], trivial⟩
        case measure => simp [intOf]; omega
    · have hkn : k = n := by omega
      subst hkn
      go_wp2
      go_ret
      exact ⟨rfl, HB1.out⟩
set_option maxHeartbeats 12800000 in
set_option maxRecDepth 100000 in
theorem enoughLaw_any (q : G.Qu) (A : Option Addr) (n c : Nat) (F : Option Addr) (m d : Nat) (id fw : Int) (w : World) (h : QIn w q A n c F m d) (hn : n ≤ 100) (hm : m ≤ 100) (hA : A = none → c = 0) (hid : (Lit.int .i64 id).wf = true) :
    Calls Try.prog 8 #[.agg #[.int .i64 q.opn, .int .i64 q.lo, .int .i64 q.hi, .int .i64 q.seats, .slice A n c, .slice F m d], .int .i64 id, .int .i64 fw] w fun e w' => e = .returned (.bool true) ∧ Below w.heap.size w w' := by
  have HI := hide h
  have HWI := hide hid
  have HAN := hide hA
  clear h hid hA
  cases hrd : G.rdy q q.lo
  · have HRD := hide hrd
    clear hrd
    go_enter Try.func8, Try.ntmps8
    go_wp2_with (first | (go_at_call 30; (with_reducible refine (ready_any q A n c F m d q.lo _ (HI.out.below (show Below w.heap.size w _ by (repeat' first | exact zbR _ _ | assumption | refine zbD ?_ | refine zbA ?_ ?_ _ | refine zbS ?_ ?_ _ | refine zbT ?_ (by assumption) ?_ | (simp; done) | (simp; omega) | omega))) hn hm).mono ?_); rintro e w1 ⟨rfl, hb1⟩; rw [HRD.out]; have HB1 := hide (zbT (show Below w.heap.size w _ by (repeat' first | exact zbR _ _ | assumption | refine zbD ?_ | refine zbA ?_ ?_ _ | refine zbS ?_ ?_ _ | refine zbT ?_ (by assumption) ?_ | (simp; done) | (simp; omega) | omega)) hb1 (by simp)); have HQ1 := hide ((hb1.block _ (by simp)).trans (World.alloc_heap_new w (.cells #[.int .i64 q.opn, .int .i64 q.lo, .int .i64 q.hi, .int .i64 q.seats, .slice A n c, .slice F m d] 27 (0, 0)))); clear hb1; have q0 : w1.cell? ⟨w.heap.size, 0, none⟩ = some (.int .i64 q.opn) := (blk_cell HQ1.out 0).trans rfl; have q1 : w1.cell? ⟨w.heap.size, 1, none⟩ = some (.int .i64 q.lo) := (blk_cell HQ1.out 1).trans rfl; have q2 : w1.cell? ⟨w.heap.size, 2, none⟩ = some (.int .i64 q.hi) := (blk_cell HQ1.out 2).trans rfl; have q3 : w1.cell? ⟨w.heap.size, 3, none⟩ = some (.int .i64 q.seats) := (blk_cell HQ1.out 3).trans rfl; have q4 : w1.cell? ⟨w.heap.size, 4, none⟩ = some (.slice A n c) := (blk_cell HQ1.out 4).trans rfl; have q5 : w1.cell? ⟨w.heap.size, 5, none⟩ = some (.slice F m d) := (blk_cell HQ1.out 5).trans rfl; have lq := blk_lt HQ1.out) | (go_at_call 13; (with_reducible refine (works_any _).mono ?_); rintro e w9 ⟨rfl, hb9⟩; have HB9 := hide (zbT HB1.out hb9 HB1.out.size); clear hb9))
    go_ret
    exact ⟨rfl, HB9.out⟩
  · have HRD := hide hrd
    have HRY := hide (G.rdy_get hrd)
    have HEC := hide (G.enough_cases (G.rdy_get hrd).v (G.rdy_get hrd).p24 id)
    clear hrd
    have hs0 := HRY.out.v.s0
    have hs1 := HRY.out.v.s1
    have hp0 := G.people_pos HRY.out.v
    have hp24 := HRY.out.p24
    obtain ⟨er, her⟩ : ∃ x, G.enoughE q id = x := ⟨_, rfl⟩
    obtain ⟨nn, hnn⟩ : ∃ x, G.enoughV q id = x := ⟨_, rfl⟩
    obtain ⟨P, hP⟩ : ∃ x, G.people q.gs = x := ⟨_, rfl⟩
    have HEE := hide her
    have HEN := hide hnn
    have HPP := hide hP
    have hec := HEC.out
    rw [her, hnn, hP] at hec
    rw [hP] at hp0 hp24
    have HE := hide hec
    clear her hnn hP hec HEC
    go_enter Try.func8, Try.ntmps8
    go_upto_region 3 with (go_at_call 30; (with_reducible refine (ready_any q A n c F m d q.lo _ (HI.out.below (show Below w.heap.size w _ by (repeat' first | exact zbR _ _ | assumption | refine zbD ?_ | refine zbA ?_ ?_ _ | refine zbS ?_ ?_ _ | refine zbT ?_ (by assumption) ?_ | (simp; done) | (simp; omega) | omega))) hn hm).mono ?_); rintro e w1 ⟨rfl, hb1⟩; rw [HRD.out]; have HB1 := hide (zbT (show Below w.heap.size w _ by (repeat' first | exact zbR _ _ | assumption | refine zbD ?_ | refine zbA ?_ ?_ _ | refine zbS ?_ ?_ _ | refine zbT ?_ (by assumption) ?_ | (simp; done) | (simp; omega) | omega)) hb1 (by simp)); have HQ1 := hide ((hb1.block _ (by simp)).trans (World.alloc_heap_new w (.cells #[.int .i64 q.opn, .int .i64 q.lo, .int .i64 q.hi, .int .i64 q.seats, .slice A n c, .slice F m d] 27 (0, 0)))); clear hb1; have q0 : w1.cell? ⟨w.heap.size, 0, none⟩ = some (.int .i64 q.opn) := (blk_cell HQ1.out 0).trans rfl; have q1 : w1.cell? ⟨w.heap.size, 1, none⟩ = some (.int .i64 q.lo) := (blk_cell HQ1.out 1).trans rfl; have q2 : w1.cell? ⟨w.heap.size, 2, none⟩ = some (.int .i64 q.hi) := (blk_cell HQ1.out 2).trans rfl; have q3 : w1.cell? ⟨w.heap.size, 3, none⟩ = some (.int .i64 q.seats) := (blk_cell HQ1.out 3).trans rfl; have q4 : w1.cell? ⟨w.heap.size, 4, none⟩ = some (.slice A n c) := (blk_cell HQ1.out 4).trans rfl; have q5 : w1.cell? ⟨w.heap.size, 5, none⟩ = some (.slice F m d) := (blk_cell HQ1.out 5).trans rfl; have lq := blk_lt HQ1.out)
    go_upto_region 4 with (go_at_call 24; (with_reducible refine (Enough_any q id A n c F m d _ (HI.out.below HB1.out) HWI.out).mono ?_); rintro e w2 hP; rw [HEN.out, HEE.out] at hP; obtain ⟨rfl, hb2⟩ := hP; have HB2 := hide (zbT HB1.out hb2 HB1.out.size); have HQ2 := bkT hb2 HQ1; clear hb2 q0 q1 q2 q3 q4 q5 lq; have q0 : w2.cell? ⟨w.heap.size, 0, none⟩ = some (.int .i64 q.opn) := (blk_cell HQ2.out 0).trans rfl; have q1 : w2.cell? ⟨w.heap.size, 1, none⟩ = some (.int .i64 q.lo) := (blk_cell HQ2.out 1).trans rfl; have q2 : w2.cell? ⟨w.heap.size, 2, none⟩ = some (.int .i64 q.hi) := (blk_cell HQ2.out 2).trans rfl; have q3 : w2.cell? ⟨w.heap.size, 3, none⟩ = some (.int .i64 q.seats) := (blk_cell HQ2.out 3).trans rfl; have q4 : w2.cell? ⟨w.heap.size, 4, none⟩ = some (.slice A n c) := (blk_cell HQ2.out 4).trans rfl; have q5 : w2.cell? ⟨w.heap.size, 5, none⟩ = some (.slice F m d) := (blk_cell HQ2.out 5).trans rfl; have lq := blk_lt HQ2.out)
    go_upto_region 5 with (go_at_call 32; (with_reducible refine (People_ref q A n c F m d _ (HI.out.below HB2.out) HRY.out.v).mono ?_); rintro e w3 hP; rw [HPP.out] at hP; obtain ⟨rfl, hb3⟩ := hP; have HB3 := hide (zbT HB2.out hb3 HB2.out.size); have HQ3 := bkT hb3 HQ2; clear hb3 q0 q1 q2 q3 q4 q5 lq)
    obtain ⟨b0, hb0⟩ : ∃ x, w.heap.size = x := ⟨_, rfl⟩
    have HE0 := hide hb0
    rw [hb0] at HQ3 ⊢
    clear hb0 HQ1 HQ2 HB1 HB2
    go_wp2_with fail
    go_loopw [10] (fun i wr => ∃ k : Nat, k ≤ n ∧ i = .int .i64 k ∧ Hid (Below w3.heap.size w3 wr)) (fun i _ => n - (intOf i).toNat)
    case atStart => exact ⟨0, by omega, rfl, hide (Below.refl _ _)⟩
    case round =>
      obtain ⟨k, hk, rfl, HBr⟩ := hrel
      have HB4 := hide (zbT HB3.out HBr.out HB3.out.size)
      have HIr := hide (HI.out.below HB4.out)
      have HQr := bkT HBr.out HQ3
      have q0 : wr.cell? ⟨b0, 0, none⟩ = some (.int .i64 q.opn) := (blk_cell HQr.out 0).trans rfl
      have q1 : wr.cell? ⟨b0, 1, none⟩ = some (.int .i64 q.lo) := (blk_cell HQr.out 1).trans rfl
      have q2 : wr.cell? ⟨b0, 2, none⟩ = some (.int .i64 q.hi) := (blk_cell HQr.out 2).trans rfl
      have q3 : wr.cell? ⟨b0, 3, none⟩ = some (.int .i64 q.seats) := (blk_cell HQr.out 3).trans rfl
      have q4 : wr.cell? ⟨b0, 4, none⟩ = some (.slice A n c) := (blk_cell HQr.out 4).trans rfl
      have q5 : wr.cell? ⟨b0, 5, none⟩ = some (.slice F m d) := (blk_cell HQr.out 5).trans rfl
      have lq := blk_lt HQr.out
      by_cases hlt : k < n
      · obtain ⟨p, hp⟩ : ∃ p, q.gs[k]? = some p := ⟨_, List.getElem?_eq_getElem (by have := HI.out.gl; omega)⟩
        obtain ⟨bg, og, rfl, hbg, d0, d1, d2, d3⟩ := HIr.out.rg k p hp
        have HPK := hide hp
        have HIX := hide (G.idxOf_at HRY.out.v hp)
        have hlt' : (k : Int) < (n : Int) := by omega
        have hk0 : (0 : Int) ≤ (k : Int) := by omega
        have hlkb := G.lastK_bd HRY.out.v n
        obtain ⟨lk, hlk⟩ : ∃ x, G.lastK q n = x := ⟨_, rfl⟩
        rw [hlk] at hlkb
        have hlk0 : 0 ≤ lk := Int.le_trans HRY.out.v.o0 hlkb.1
        have hlk1 := hlkb.2.1
        have HLK := hide hlk
        clear hp hlk hlkb
        have hw1 : IntKind.i64.wrap (1440 - lk) = 1440 - lk := IntWalk.i64_in _ (by omega)
        have hw2 : IntKind.i64.wrap (1440 - lk + 1) = 1440 - lk + 1 := IntWalk.i64_in _ (by omega)
        have hw3 : IntKind.i64.wrap (P - q.seats) = P - q.seats := IntWalk.i64_in _ (by omega)
        have HZL := hide (fun (wl : World) (h : Below wr.heap.size wr wl) => zbT HBr.out h HBr.out.size)
        by_cases h1 : p.id = id
        · have e1 : (p.id == id) = true := by simpa using h1
          have HIX2 := hide (show G.idxOf q id = some k by rw [← h1]; exact HIX.out)
          by_cases h2 : p.quits = -1
          · have e2 : (p.quits == -1) = true := by simpa using h2
            by_cases h3 : P ≤ 1440 - lk + 1
            · have HE2 := hide (show er = 0 ∧ nn ≤ max 0 (P - q.seats) by
                rcases HE.out with ⟨h, _⟩ | ⟨g, h, _, hf⟩ | ⟨g, n', h, h4, h5, h6, h7, h8, h9, _⟩
                · rw [HIX2.out] at h; cases h
                · rw [HIX2.out] at h
                  cases h
                  exact absurd (hf p HPK.out h2 (by rw [HI.out.gl, HLK.out]; omega)) (fun h => h)
                · exact ⟨h4, by omega⟩)
              obtain ⟨rfl, hnm⟩ := HE2.out
              have h4 : (if q.seats < P then P else q.seats) ≤ 9999 := by split <;> omega
              have h4b : max q.seats P ≤ 9999 := by omega
              have h5 : nn ≤ (if 0 < P - q.seats then P - q.seats else 0) := by split <;> omega
              clear h1 h2
              by_cases h6 : 0 < P - q.seats
              · have m1 : (if 0 < P - q.seats then P - q.seats else 0) = P - q.seats := if_pos h6
                have m2 : max 0 (P - q.seats) = P - q.seats := by omega
                have m3 : max q.seats P = P := by omega
                have m4 : (if q.seats < P then P else q.seats) = P := if_pos (by omega)
                have m5 : P ≤ 9999 := by omega
                have m6 : nn ≤ P - q.seats := by omega
                clear h4 h4b h5
                go_wp2_with (go_at_call 33; (with_reducible refine (last_any q (some ⟨bg, og, none⟩) n c F m d _ HIr.out HRY.out.v).mono ?_); rintro e wl hP; rw [HLK.out] at hP; obtain ⟨rfl, hbl⟩ := hP; have HBL := hide hbl; have HQL := bkT hbl HQr; clear hbl q0 q1 q2 q3 q4 q5 lq; have q0 : wl.cell? ⟨b0, 0, none⟩ = some (.int .i64 q.opn) := (blk_cell HQL.out 0).trans rfl; have q1 : wl.cell? ⟨b0, 1, none⟩ = some (.int .i64 q.lo) := (blk_cell HQL.out 1).trans rfl; have q2 : wl.cell? ⟨b0, 2, none⟩ = some (.int .i64 q.hi) := (blk_cell HQL.out 2).trans rfl; have q3 : wl.cell? ⟨b0, 3, none⟩ = some (.int .i64 q.seats) := (blk_cell HQL.out 3).trans rfl; have q4 : wl.cell? ⟨b0, 4, none⟩ = some (.slice (some ⟨bg, og, none⟩) n c) := (blk_cell HQL.out 4).trans rfl; have q5 : wl.cell? ⟨b0, 5, none⟩ = some (.slice F m d) := (blk_cell HQL.out 5).trans rfl; have lq := blk_lt HQL.out)
                go_roundw
                case rel => exact ⟨k + 1, by omega, by go_num, hide (HZL.out _ HBL.out)⟩
                case measure => simp [intOf]; omega
              · have m1 : (if 0 < P - q.seats then P - q.seats else 0) = 0 := if_neg h6
                have m2 : max 0 (P - q.seats) = 0 := by omega
                have m3 : max q.seats P = q.seats := by omega
                have m4 : (if q.seats < P then P else q.seats) = q.seats := if_neg (by omega)
                have m6 : nn ≤ 0 := by omega
                have h6' : P - q.seats ≤ 0 := by omega
                clear h4 h4b h5 h6
                go_wp2_with (go_at_call 33; (with_reducible refine (last_any q (some ⟨bg, og, none⟩) n c F m d _ HIr.out HRY.out.v).mono ?_); rintro e wl hP; rw [HLK.out] at hP; obtain ⟨rfl, hbl⟩ := hP; have HBL := hide hbl; have HQL := bkT hbl HQr; clear hbl q0 q1 q2 q3 q4 q5 lq; have q0 : wl.cell? ⟨b0, 0, none⟩ = some (.int .i64 q.opn) := (blk_cell HQL.out 0).trans rfl; have q1 : wl.cell? ⟨b0, 1, none⟩ = some (.int .i64 q.lo) := (blk_cell HQL.out 1).trans rfl; have q2 : wl.cell? ⟨b0, 2, none⟩ = some (.int .i64 q.hi) := (blk_cell HQL.out 2).trans rfl; have q3 : wl.cell? ⟨b0, 3, none⟩ = some (.int .i64 q.seats) := (blk_cell HQL.out 3).trans rfl; have q4 : wl.cell? ⟨b0, 4, none⟩ = some (.slice (some ⟨bg, og, none⟩) n c) := (blk_cell HQL.out 4).trans rfl; have q5 : wl.cell? ⟨b0, 5, none⟩ = some (.slice F m d) := (blk_cell HQL.out 5).trans rfl; have lq := blk_lt HQL.out)
                go_roundw
                case rel => exact ⟨k + 1, by omega, by go_num, hide (HZL.out _ HBL.out)⟩
                case measure => simp [intOf]; omega
            · have h3' : 1440 - lk + 1 < P := by omega
              clear h1 h2 h3
              go_wp2_with (go_at_call 33; (with_reducible refine (last_any q (some ⟨bg, og, none⟩) n c F m d _ HIr.out HRY.out.v).mono ?_); rintro e wl hP; rw [HLK.out] at hP; obtain ⟨rfl, hbl⟩ := hP; have HBL := hide hbl; have HQL := bkT hbl HQr; clear hbl q0 q1 q2 q3 q4 q5 lq; have q0 : wl.cell? ⟨b0, 0, none⟩ = some (.int .i64 q.opn) := (blk_cell HQL.out 0).trans rfl; have q1 : wl.cell? ⟨b0, 1, none⟩ = some (.int .i64 q.lo) := (blk_cell HQL.out 1).trans rfl; have q2 : wl.cell? ⟨b0, 2, none⟩ = some (.int .i64 q.hi) := (blk_cell HQL.out 2).trans rfl; have q3 : wl.cell? ⟨b0, 3, none⟩ = some (.int .i64 q.seats) := (blk_cell HQL.out 3).trans rfl; have q4 : wl.cell? ⟨b0, 4, none⟩ = some (.slice (some ⟨bg, og, none⟩) n c) := (blk_cell HQL.out 4).trans rfl; have q5 : wl.cell? ⟨b0, 5, none⟩ = some (.slice F m d) := (blk_cell HQL.out 5).trans rfl; have lq := blk_lt HQL.out)
              go_roundw
              case rel => exact ⟨k + 1, by omega, by go_num, hide (HZL.out _ HBL.out)⟩
              case measure => simp [intOf]; omega
          · have e2 : (p.quits == -1) = false := by simpa using h2
            clear h1 h2
            go_wp2_with fail
            go_roundw
            case rel => exact ⟨k + 1, by omega, by go_num, HBr⟩
            case measure => simp [intOf]; omega
        · have e1 : (p.id == id) = false := by simpa using h1
          clear h1
          go_wp2_with fail
          go_roundw
          case rel => exact ⟨k + 1, by omega, by go_num, HBr⟩
          case measure => simp [intOf]; omega
      · have hkn : k = n := by omega
        subst hkn
        obtain ⟨n, hnn⟩ : ∃ n, n = k := ⟨_, rfl⟩
        subst hnn
        obtain ⟨w4, hw4⟩ : ∃ x, wr = x := ⟨_, rfl⟩
        rw [hw4] at HB4 HIr HQr q0 q1 q2 q3 q4 q5 lq ⊢
        have HQ4 := HQr
        have HI4 := HIr
        clear hw4 HBr HIr
        rcases HE.out with ⟨_, h1⟩ | ⟨g, _, h1, _⟩ | ⟨g, n', _, h1, h2, h3, h4, h5, h6, h7, h8⟩
        · subst h1
          go_wp2_with (go_at_call 13; (with_reducible refine (works_any _).mono ?_); rintro e w9 ⟨rfl, hb9⟩; have HB9 := hide (zbT HB4.out hb9 HB4.out.size); clear hb9)
          go_ret
          exact ⟨rfl, HB9.out⟩
        · subst h1
          go_wp2_with (go_at_call 13; (with_reducible refine (works_any _).mono ?_); rintro e w9 ⟨rfl, hb9⟩; have HB9 := hide (zbT HB4.out hb9 HB4.out.size); clear hb9)
          go_ret
          exact ⟨rfl, HB9.out⟩
        · subst h1 h2
          have hw1 : IntKind.i64.wrap (q.seats + nn) = q.seats + nn := IntWalk.i64_in _ (by omega)
          have HSE := hide h7
          have HS8 := hide h8
          clear h7 h8
          go_upto_region 14 with fail
          go_upto_region 15 with (go_at_call 14; (with_reducible refine (Copy_ref q A n c F m d _ HI4.out HAN.out hn hm).mono ?_); rintro e w5 ⟨A5, c5, F5, d5, rfl, hi5, hb5, _, _⟩; have HI5 := hide hi5; have HB5 := hide (zbT HB4.out hb5 HB4.out.size); have HQ5 := bkT hb5 HQ4; clear hi5 hb5 q0 q1 q2 q3 q4 q5 lq)
          refine cap_w _ (fun w6 hw6 => ?_)
          have HB6 := hide (show Below w.heap.size w w6 by rw [hw6]; exact zbA HB5.out HB5.out.size _)
          have HM6 := hide (show w6.heap[w5.heap.size]? = some (.cells #[.int .i64 q.opn, .int .i64 q.lo, .int .i64 q.hi, .int .i64 q.seats, .slice A5 n c5, .slice F5 m d5] 27 (0, 0)) by rw [hw6]; exact World.alloc_heap_new _ _)
          have HQ6 := hide (show w6.heap[b0]? = some (.cells #[.int .i64 q.opn, .int .i64 q.lo, .int .i64 q.hi, .int .i64 q.seats, .slice A n c, .slice F m d] 27 (0, 0)) by rw [hw6]; exact (Below.heap_alloc _ _ _ (blk_lt HQ5.out)).trans HQ5.out)
          have HB56 := hide (show Below w5.heap.size w5 w6 by rw [hw6]; exact zbA (zbR _ _) (Nat.le_refl _) _)
          have HBX := hide (show b0 < w5.heap.size from blk_lt HQ5.out)
          have HBW := hide (show w.heap.size ≤ w5.heap.size from HB5.out.size)
          clear hw6 HQ5 HB5
          obtain ⟨bm, hbm⟩ : ∃ x, w5.heap.size = x := ⟨_, rfl⟩
          rw [hbm] at HM6 HBX HBW ⊢
          have HBM := hide hbm
          clear hbm
          have q0 : w6.cell? ⟨b0, 0, none⟩ = some (.int .i64 q.opn) := (blk_cell HQ6.out 0).trans rfl
          have q1 : w6.cell? ⟨b0, 1, none⟩ = some (.int .i64 q.lo) := (blk_cell HQ6.out 1).trans rfl
          have q2 : w6.cell? ⟨b0, 2, none⟩ = some (.int .i64 q.hi) := (blk_cell HQ6.out 2).trans rfl
          have q3 : w6.cell? ⟨b0, 3, none⟩ = some (.int .i64 q.seats) := (blk_cell HQ6.out 3).trans rfl
          have q4 : w6.cell? ⟨b0, 4, none⟩ = some (.slice A n c) := (blk_cell HQ6.out 4).trans rfl
          have q5 : w6.cell? ⟨b0, 5, none⟩ = some (.slice F m d) := (blk_cell HQ6.out 5).trans rfl
          have lq := blk_lt HQ6.out
          have m0 : w6.cell? ⟨bm, 0, none⟩ = some (.int .i64 q.opn) := (blk_cell HM6.out 0).trans rfl
          have m1 : w6.cell? ⟨bm, 1, none⟩ = some (.int .i64 q.lo) := (blk_cell HM6.out 1).trans rfl
          have m2 : w6.cell? ⟨bm, 2, none⟩ = some (.int .i64 q.hi) := (blk_cell HM6.out 2).trans rfl
          have m3 : w6.cell? ⟨bm, 3, none⟩ = some (.int .i64 q.seats) := (blk_cell HM6.out 3).trans rfl
          have m4 : w6.cell? ⟨bm, 4, none⟩ = some (.slice A5 n c5) := (blk_cell HM6.out 4).trans rfl
          have m5 : w6.cell? ⟨bm, 5, none⟩ = some (.slice F5 m d5) := (blk_cell HM6.out 5).trans rfl
          have lm := blk_lt HM6.out
          have fz := blk_frozen HM6.out 3
          go_upto_region 16 with fail
          refine cap_w _ (fun w7 hw7 => ?_)
          have HM7 := hide (show w7.heap[bm]? = some (.cells #[.int .i64 q.opn, .int .i64 q.lo, .int .i64 q.hi, .int .i64 (q.seats + nn), .slice A5 n c5, .slice F5 m d5] 27 (0, 0)) by rw [hw7]; exact (blk_set HM6.out 3 _).trans (by rfl))
          have HQ7 := hide (show w7.heap[b0]? = some (.cells #[.int .i64 q.opn, .int .i64 q.lo, .int .i64 q.hi, .int .i64 q.seats, .slice A n c, .slice F m d] 27 (0, 0)) by rw [hw7]; exact blk_other HQ6.out (by have := HBX.out; omega) _ _)
          have HB7 := hide (show Below w.heap.size w w7 by rw [hw7]; exact zbS HB6.out HBW.out _)
          have HB57 := hide (show Below w5.heap.size w5 w7 by rw [hw7]; exact zbS HB56.out (by rw [HBM.out]; exact Nat.le_refl _) _)
          have HI7 := hide ((HI5.out.below HB57.out).seats (q.seats + nn))
          clear hw7 q0 q1 q2 q3 q4 q5 lq m0 m1 m2 m3 m4 m5 lm fz HM6 HQ6 HB6 HB56
          have m0 : w7.cell? ⟨bm, 0, none⟩ = some (.int .i64 q.opn) := (blk_cell HM7.out 0).trans rfl
          have m1 : w7.cell? ⟨bm, 1, none⟩ = some (.int .i64 q.lo) := (blk_cell HM7.out 1).trans rfl
          have m2 : w7.cell? ⟨bm, 2, none⟩ = some (.int .i64 q.hi) := (blk_cell HM7.out 2).trans rfl
          have m3 : w7.cell? ⟨bm, 3, none⟩ = some (.int .i64 (q.seats + nn)) := (blk_cell HM7.out 3).trans rfl
          have m4 : w7.cell? ⟨bm, 4, none⟩ = some (.slice A5 n c5) := (blk_cell HM7.out 4).trans rfl
          have m5 : w7.cell? ⟨bm, 5, none⟩ = some (.slice F5 m d5) := (blk_cell HM7.out 5).trans rfl
          have lm := blk_lt HM7.out
          go_upto_region 17 with (go_at_call 22; (with_reducible refine (Sure_any { q with seats := q.seats + nn } id A5 n c5 F5 m d5 _ HI7.out HWI.out).mono ?_); rintro e w8 hP; rw [HSE.out] at hP; obtain ⟨rfl, hb8⟩ := hP; have HB8 := hide (zbT HB7.out hb8 HB7.out.size); have HQ8 := bkT hb8 HQ7; have HM8 := bkT hb8 HM7; have HB58 := hide (zbT HB57.out hb8 HB57.out.size); clear hb8 m0 m1 m2 m3 m4 m5 lm)
          refine cap_w _ (fun wg hwg => ?_)
          have HBG := hide (show Below w.heap.size w wg by rw [hwg]; exact zbA HB8.out HB8.out.size _)
          have HQG := hide (show wg.heap[b0]? = some (.cells #[.int .i64 q.opn, .int .i64 q.lo, .int .i64 q.hi, .int .i64 q.seats, .slice A n c, .slice F m d] 27 (0, 0)) by rw [hwg]; exact (Below.heap_alloc _ _ _ (blk_lt HQ8.out)).trans HQ8.out)
          have HMG := hide (show wg.heap[bm]? = some (.cells #[.int .i64 q.opn, .int .i64 q.lo, .int .i64 q.hi, .int .i64 (q.seats + nn), .slice A5 n c5, .slice F5 m d5] 27 (0, 0)) by rw [hwg]; exact (Below.heap_alloc _ _ _ (blk_lt HM8.out)).trans HM8.out)
          have HB5G := hide (show Below w5.heap.size w5 wg by rw [hwg]; exact zbA HB58.out HB58.out.size _)
          clear hwg HQ8 HM8 HB58
          by_cases f1 : fw < 0
          · go_wp2_with (go_at_call 13; (with_reducible refine (works_any _).mono ?_); rintro e w9 ⟨rfl, hb9⟩; have HB9 := hide (zbT HBG.out hb9 HBG.out.size); clear hb9)
            go_ret
            exact ⟨rfl, HB9.out⟩
          · by_cases f2 : nn ≤ fw
            · have f1' : 0 ≤ fw := by omega
              clear f1
              go_wp2_with (go_at_call 13; (with_reducible refine (works_any _).mono ?_); rintro e w9 ⟨rfl, hb9⟩; have HB9 := hide (zbT HBG.out hb9 HBG.out.size); clear hb9)
              go_ret
              exact ⟨rfl, HB9.out⟩
            · have f1' : 0 ≤ fw := by omega
              have f2' : fw < nn := by omega
              clear f1 f2
              have HSF := hide (HS8.out fw f1' f2')
              have hw2 : IntKind.i64.wrap (q.seats + fw) = q.seats + fw := IntWalk.i64_in _ (by omega)
              have q0 : wg.cell? ⟨b0, 0, none⟩ = some (.int .i64 q.opn) := (blk_cell HQG.out 0).trans rfl
              have q1 : wg.cell? ⟨b0, 1, none⟩ = some (.int .i64 q.lo) := (blk_cell HQG.out 1).trans rfl
              have q2 : wg.cell? ⟨b0, 2, none⟩ = some (.int .i64 q.hi) := (blk_cell HQG.out 2).trans rfl
              have q3 : wg.cell? ⟨b0, 3, none⟩ = some (.int .i64 q.seats) := (blk_cell HQG.out 3).trans rfl
              have q4 : wg.cell? ⟨b0, 4, none⟩ = some (.slice A n c) := (blk_cell HQG.out 4).trans rfl
              have q5 : wg.cell? ⟨b0, 5, none⟩ = some (.slice F m d) := (blk_cell HQG.out 5).trans rfl
              have lq := blk_lt HQG.out
              have m0 : wg.cell? ⟨bm, 0, none⟩ = some (.int .i64 q.opn) := (blk_cell HMG.out 0).trans rfl
              have m1 : wg.cell? ⟨bm, 1, none⟩ = some (.int .i64 q.lo) := (blk_cell HMG.out 1).trans rfl
              have m2 : wg.cell? ⟨bm, 2, none⟩ = some (.int .i64 q.hi) := (blk_cell HMG.out 2).trans rfl
              have m3 : wg.cell? ⟨bm, 3, none⟩ = some (.int .i64 (q.seats + nn)) := (blk_cell HMG.out 3).trans rfl
              have m4 : wg.cell? ⟨bm, 4, none⟩ = some (.slice A5 n c5) := (blk_cell HMG.out 4).trans rfl
              have m5 : wg.cell? ⟨bm, 5, none⟩ = some (.slice F5 m d5) := (blk_cell HMG.out 5).trans rfl
              have lm := blk_lt HMG.out
              have fz := blk_frozen HMG.out 3
              go_upto_region 22 with fail
              refine cap_w _ (fun wb hwb => ?_)
              have HMb := hide (show wb.heap[bm]? = some (.cells #[.int .i64 q.opn, .int .i64 q.lo, .int .i64 q.hi, .int .i64 (q.seats + fw), .slice A5 n c5, .slice F5 m d5] 27 (0, 0)) by rw [hwb]; exact (blk_set HMG.out 3 _).trans (by rfl))
              have HBb := hide (show Below w.heap.size w wb by rw [hwb]; exact zbS HBG.out HBW.out _)
              have HIb := hide ((HI5.out.below (show Below w5.heap.size w5 wb by rw [hwb]; exact zbS HB5G.out (by rw [HBM.out]; exact Nat.le_refl _) _)).seats (q.seats + fw))
              clear hwb q0 q1 q2 q3 q4 q5 lq m0 m1 m2 m3 m4 m5 lm fz HMG HQG HBG HB5G
              have m0 : wb.cell? ⟨bm, 0, none⟩ = some (.int .i64 q.opn) := (blk_cell HMb.out 0).trans rfl
              have m1 : wb.cell? ⟨bm, 1, none⟩ = some (.int .i64 q.lo) := (blk_cell HMb.out 1).trans rfl
              have m2 : wb.cell? ⟨bm, 2, none⟩ = some (.int .i64 q.hi) := (blk_cell HMb.out 2).trans rfl
              have m3 : wb.cell? ⟨bm, 3, none⟩ = some (.int .i64 (q.seats + fw)) := (blk_cell HMb.out 3).trans rfl
              have m4 : wb.cell? ⟨bm, 4, none⟩ = some (.slice A5 n c5) := (blk_cell HMb.out 4).trans rfl
              have m5 : wb.cell? ⟨bm, 5, none⟩ = some (.slice F5 m d5) := (blk_cell HMb.out 5).trans rfl
              have lm := blk_lt HMb.out
              go_wp2_with (first | (go_at_call 22; (with_reducible refine (Sure_any { q with seats := q.seats + fw } id A5 n c5 F5 m d5 _ HIb.out HWI.out).mono ?_); rintro e wc hP; rw [HSF.out] at hP; obtain ⟨rfl, hbc⟩ := hP; have HBc := hide (zbT HBb.out hbc HBb.out.size); clear hbc m0 m1 m2 m3 m4 m5 lm) | (go_at_call 13; (with_reducible refine (works_any _).mono ?_); rintro e w9 ⟨rfl, hb9⟩; have HB9 := hide (zbT (zbA HBc.out HBc.out.size _) hb9 (Nat.le_trans HBc.out.size (by simp))); clear hb9))
              go_ret
              exact ⟨rfl, HB9.out⟩
set_option maxHeartbeats 3200000 in
set_option maxRecDepth 100000 in
theorem enoughLaw_long (q : G.Qu) (A : Option Addr) (n c : Nat) (F : Option Addr) (m d : Nat) (id fw : Int) (w : World) (h : 100 < n ∨ 100 < m) :
    Calls Try.prog 8 #[.agg #[.int .i64 q.opn, .int .i64 q.lo, .int .i64 q.hi, .int .i64 q.seats, .slice A n c, .slice F m d], .int .i64 id, .int .i64 fw] w fun e w' => e = .returned (.bool true) ∧ Below w.heap.size w w' := by
  have HL := hide h
  clear h
  go_enter Try.func8, Try.ntmps8
  go_wp2_with (first | (go_at_call 30; (with_reducible refine (ready_long q A n c F m d q.lo _ HL.out).mono ?_); rintro e w1 ⟨rfl, hb1⟩; have HB1 := hide (zbT (show Below w.heap.size w _ by (repeat' first | exact zbR _ _ | assumption | refine zbD ?_ | refine zbA ?_ ?_ _ | refine zbS ?_ ?_ _ | refine zbT ?_ (by assumption) ?_ | (simp; done) | (simp; omega) | omega)) hb1 (by simp)); clear hb1) | (go_at_call 13; (with_reducible refine (works_any _).mono ?_); rintro e w9 ⟨rfl, hb9⟩; have HB9 := hide (zbT HB1.out hb9 HB1.out.size); clear hb9))
  go_ret
  exact ⟨rfl, HB9.out⟩
end Go.Proofs.Ytlpjkolocgkcpaa
