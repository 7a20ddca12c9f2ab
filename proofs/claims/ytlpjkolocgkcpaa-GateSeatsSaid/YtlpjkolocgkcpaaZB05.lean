/-
  Part of a claim's texts: contracts of the program's functions and the plain functions that they compute, in build order.
-/
import Derived.Test.YtlpjkolocgkcpaaZB04
namespace Go.Proofs.Ytlpjkolocgkcpaa
open Go.RowKit
attribute [local go_sem ↓] Go.wp_at_zero Go.wp_at_succ

namespace G
theorem sumF_step {fs : List Fr} {m : Int} {k : Nat} {f : Fr} (h : fs[k]? = some f) : sumF (fs.take (k + 1)) m = sumF (fs.take k) m + if f.at_ ≤ m then f.count else 0 := by
  rw [List.take_add_one, h, sumF_app]
  congr 1
  unfold sumF
  rw [Option.toList_some, List.filter_cons]
  by_cases c : f.at_ ≤ m
  · rw [if_pos (by simpa using c), if_pos c]; simp
  · rw [if_neg (by simpa using c), if_neg c]; simp
theorem sumF_take_bd {q : Qu} (hv : Valid q) (k : Nat) (m : Int) : 0 ≤ sumF (q.fs.take k) m ∧ sumF (q.fs.take k) m ≤ 399960 := by
  have h1 := sumF_nonneg (fs := q.fs.take k) (fun f hf => hv.fv f (List.mem_of_mem_take hf)) m
  have h2 := sumF_le (fs := q.fs.take k) (fun f hf => hv.fv f (List.mem_of_mem_take hf)) m
  have h3 : (q.fs.take k).length ≤ 40 := by rw [List.length_take]; have := hv.fl; omega
  omega
end G
set_option maxHeartbeats 12800000 in
set_option maxRecDepth 100000 in
theorem seatsLaw_any (q : G.Qu) (A : Option Addr) (n c : Nat) (F : Option Addr) (m d : Nat) (rate mi id : Int) (w : World) (h : QIn w q A n c F m d) (hn : n ≤ 100) (hm : m ≤ 100) :
    Calls Try.prog 6 #[.agg #[.int .i64 q.opn, .int .i64 q.lo, .int .i64 q.hi, .int .i64 q.seats, .slice A n c, .slice F m d], .agg #[.int .i64 rate, .int .i64 mi, .int .i64 id]] w fun e w' => e = .returned (.bool true) ∧ Below w.heap.size w w' := by
  have HI := hide h
  clear h
  cases hrd : G.rdy q rate
  · have HRD := hide hrd
    clear hrd
    go_enter Try.func6, Try.ntmps6
    go_wp2_with (first | (go_at_call 30; (with_reducible refine (ready_any q A n c F m d rate _ (HI.out.below (show Below w.heap.size w _ by (repeat' first | exact zbR _ _ | assumption | refine zbD ?_ | refine zbA ?_ ?_ _ | refine zbS ?_ ?_ _ | refine zbT ?_ (by assumption) ?_ | (simp; done) | (simp; omega) | omega))) hn hm).mono ?_); rintro e w1 ⟨rfl, hb1⟩; rw [HRD.out]; have HB1 := hide (zbT (show Below w.heap.size w _ by (repeat' first | exact zbR _ _ | assumption | refine zbD ?_ | refine zbA ?_ ?_ _ | refine zbS ?_ ?_ _ | refine zbT ?_ (by assumption) ?_ | (simp; done) | (simp; omega) | omega)) hb1 (by simp; omega)); have HQ1 := hide ((hb1.block _ (by simp; omega)).trans ((Below.heap_alloc _ _ _ (by simp)).trans (World.alloc_heap_new w (.cells #[.int .i64 q.opn, .int .i64 q.lo, .int .i64 q.hi, .int .i64 q.seats, .slice A n c, .slice F m d] 27 (0, 0))))); have HA1 := hide ((hb1.block (w.heap.size + 1) (by simp)).trans (alloc_new_at (O := .cells #[.int .i64 rate, .int .i64 mi, .int .i64 id] 29 (0, 0)) (by simp))); clear hb1; have q0 : w1.cell? ⟨w.heap.size, 0, none⟩ = some (.int .i64 q.opn) := (blk_cell HQ1.out 0).trans rfl; have q1 : w1.cell? ⟨w.heap.size, 1, none⟩ = some (.int .i64 q.lo) := (blk_cell HQ1.out 1).trans rfl; have q2 : w1.cell? ⟨w.heap.size, 2, none⟩ = some (.int .i64 q.hi) := (blk_cell HQ1.out 2).trans rfl; have q3 : w1.cell? ⟨w.heap.size, 3, none⟩ = some (.int .i64 q.seats) := (blk_cell HQ1.out 3).trans rfl; have q4 : w1.cell? ⟨w.heap.size, 4, none⟩ = some (.slice A n c) := (blk_cell HQ1.out 4).trans rfl; have q5 : w1.cell? ⟨w.heap.size, 5, none⟩ = some (.slice F m d) := (blk_cell HQ1.out 5).trans rfl; have lq := blk_lt HQ1.out; have a0 : w1.cell? ⟨w.heap.size + 1, 0, none⟩ = some (.int .i64 rate) := (blk_cell HA1.out 0).trans rfl; have a1 : w1.cell? ⟨w.heap.size + 1, 1, none⟩ = some (.int .i64 mi) := (blk_cell HA1.out 1).trans rfl; have a2 : w1.cell? ⟨w.heap.size + 1, 2, none⟩ = some (.int .i64 id) := (blk_cell HA1.out 2).trans rfl; have la := blk_lt HA1.out) | (go_at_call 13; (with_reducible refine (works_any _).mono ?_); rintro e w9 ⟨rfl, hb9⟩; have HB9 := hide (zbT HB1.out hb9 HB1.out.size); clear hb9))
    go_ret
    exact ⟨rfl, HB9.out⟩
  · have HRD := hide hrd
    have HRY := hide (G.rdy_get hrd)
    clear hrd
    have hr1 : 1 ≤ rate := Int.le_trans HRY.out.v.l0 HRY.out.r0
    have hr100 : rate ≤ 100 := Int.le_trans HRY.out.r1 HRY.out.v.h1
    by_cases hmi0 : mi < 0
    · go_enter Try.func6, Try.ntmps6
      go_wp2_with (first | (go_at_call 30; (with_reducible refine (ready_any q A n c F m d rate _ (HI.out.below (show Below w.heap.size w _ by (repeat' first | exact zbR _ _ | assumption | refine zbD ?_ | refine zbA ?_ ?_ _ | refine zbS ?_ ?_ _ | refine zbT ?_ (by assumption) ?_ | (simp; done) | (simp; omega) | omega))) hn hm).mono ?_); rintro e w1 ⟨rfl, hb1⟩; rw [HRD.out]; have HB1 := hide (zbT (show Below w.heap.size w _ by (repeat' first | exact zbR _ _ | assumption | refine zbD ?_ | refine zbA ?_ ?_ _ | refine zbS ?_ ?_ _ | refine zbT ?_ (by assumption) ?_ | (simp; done) | (simp; omega) | omega)) hb1 (by simp; omega)); have HQ1 := hide ((hb1.block _ (by simp; omega)).trans ((Below.heap_alloc _ _ _ (by simp)).trans (World.alloc_heap_new w (.cells #[.int .i64 q.opn, .int .i64 q.lo, .int .i64 q.hi, .int .i64 q.seats, .slice A n c, .slice F m d] 27 (0, 0))))); have HA1 := hide ((hb1.block (w.heap.size + 1) (by simp)).trans (alloc_new_at (O := .cells #[.int .i64 rate, .int .i64 mi, .int .i64 id] 29 (0, 0)) (by simp))); clear hb1; have q0 : w1.cell? ⟨w.heap.size, 0, none⟩ = some (.int .i64 q.opn) := (blk_cell HQ1.out 0).trans rfl; have q1 : w1.cell? ⟨w.heap.size, 1, none⟩ = some (.int .i64 q.lo) := (blk_cell HQ1.out 1).trans rfl; have q2 : w1.cell? ⟨w.heap.size, 2, none⟩ = some (.int .i64 q.hi) := (blk_cell HQ1.out 2).trans rfl; have q3 : w1.cell? ⟨w.heap.size, 3, none⟩ = some (.int .i64 q.seats) := (blk_cell HQ1.out 3).trans rfl; have q4 : w1.cell? ⟨w.heap.size, 4, none⟩ = some (.slice A n c) := (blk_cell HQ1.out 4).trans rfl; have q5 : w1.cell? ⟨w.heap.size, 5, none⟩ = some (.slice F m d) := (blk_cell HQ1.out 5).trans rfl; have lq := blk_lt HQ1.out; have a0 : w1.cell? ⟨w.heap.size + 1, 0, none⟩ = some (.int .i64 rate) := (blk_cell HA1.out 0).trans rfl; have a1 : w1.cell? ⟨w.heap.size + 1, 1, none⟩ = some (.int .i64 mi) := (blk_cell HA1.out 1).trans rfl; have a2 : w1.cell? ⟨w.heap.size + 1, 2, none⟩ = some (.int .i64 id) := (blk_cell HA1.out 2).trans rfl; have la := blk_lt HA1.out) | (go_at_call 13; (with_reducible refine (works_any _).mono ?_); rintro e w9 ⟨rfl, hb9⟩; have HB9 := hide (zbT HB1.out hb9 HB1.out.size); clear hb9))
      go_ret
      exact ⟨rfl, HB9.out⟩
    · have hmi0' : 0 ≤ mi := by omega
      by_cases hmi1 : 1440 < mi
      · clear hmi0
        go_enter Try.func6, Try.ntmps6
        go_wp2_with (first | (go_at_call 30; (with_reducible refine (ready_any q A n c F m d rate _ (HI.out.below (show Below w.heap.size w _ by (repeat' first | exact zbR _ _ | assumption | refine zbD ?_ | refine zbA ?_ ?_ _ | refine zbS ?_ ?_ _ | refine zbT ?_ (by assumption) ?_ | (simp; done) | (simp; omega) | omega))) hn hm).mono ?_); rintro e w1 ⟨rfl, hb1⟩; rw [HRD.out]; have HB1 := hide (zbT (show Below w.heap.size w _ by (repeat' first | exact zbR _ _ | assumption | refine zbD ?_ | refine zbA ?_ ?_ _ | refine zbS ?_ ?_ _ | refine zbT ?_ (by assumption) ?_ | (simp; done) | (simp; omega) | omega)) hb1 (by simp; omega)); have HQ1 := hide ((hb1.block _ (by simp; omega)).trans ((Below.heap_alloc _ _ _ (by simp)).trans (World.alloc_heap_new w (.cells #[.int .i64 q.opn, .int .i64 q.lo, .int .i64 q.hi, .int .i64 q.seats, .slice A n c, .slice F m d] 27 (0, 0))))); have HA1 := hide ((hb1.block (w.heap.size + 1) (by simp)).trans (alloc_new_at (O := .cells #[.int .i64 rate, .int .i64 mi, .int .i64 id] 29 (0, 0)) (by simp))); clear hb1; have q0 : w1.cell? ⟨w.heap.size, 0, none⟩ = some (.int .i64 q.opn) := (blk_cell HQ1.out 0).trans rfl; have q1 : w1.cell? ⟨w.heap.size, 1, none⟩ = some (.int .i64 q.lo) := (blk_cell HQ1.out 1).trans rfl; have q2 : w1.cell? ⟨w.heap.size, 2, none⟩ = some (.int .i64 q.hi) := (blk_cell HQ1.out 2).trans rfl; have q3 : w1.cell? ⟨w.heap.size, 3, none⟩ = some (.int .i64 q.seats) := (blk_cell HQ1.out 3).trans rfl; have q4 : w1.cell? ⟨w.heap.size, 4, none⟩ = some (.slice A n c) := (blk_cell HQ1.out 4).trans rfl; have q5 : w1.cell? ⟨w.heap.size, 5, none⟩ = some (.slice F m d) := (blk_cell HQ1.out 5).trans rfl; have lq := blk_lt HQ1.out; have a0 : w1.cell? ⟨w.heap.size + 1, 0, none⟩ = some (.int .i64 rate) := (blk_cell HA1.out 0).trans rfl; have a1 : w1.cell? ⟨w.heap.size + 1, 1, none⟩ = some (.int .i64 mi) := (blk_cell HA1.out 1).trans rfl; have a2 : w1.cell? ⟨w.heap.size + 1, 2, none⟩ = some (.int .i64 id) := (blk_cell HA1.out 2).trans rfl; have la := blk_lt HA1.out) | (go_at_call 13; (with_reducible refine (works_any _).mono ?_); rintro e w9 ⟨rfl, hb9⟩; have HB9 := hide (zbT HB1.out hb9 HB1.out.size); clear hb9))
        go_ret
        exact ⟨rfl, HB9.out⟩
      · have hmi1' : mi ≤ 1440 := by omega
        clear hmi0 hmi1
        have HEE := hide (show G.enterE q rate = 0 by unfold G.enterE; rw [if_pos (G.valid_iff.2 HRY.out.v), if_pos (by unfold G.within; simp [HRY.out.r0, HRY.out.r1])])
        have HEV := hide (show G.enterV q rate = G.enter q rate by unfold G.enterV; rw [if_pos HEE.out])
        have HLN := hide (show (G.enter q rate).length = n by rw [G.enter_len]; exact HI.out.gl)
        go_enter Try.func6, Try.ntmps6
        go_upto_region 3 with (go_at_call 30; (with_reducible refine (ready_any q A n c F m d rate _ (HI.out.below (show Below w.heap.size w _ by (repeat' first | exact zbR _ _ | assumption | refine zbD ?_ | refine zbA ?_ ?_ _ | refine zbS ?_ ?_ _ | refine zbT ?_ (by assumption) ?_ | (simp; done) | (simp; omega) | omega))) hn hm).mono ?_); rintro e w1 ⟨rfl, hb1⟩; rw [HRD.out]; have HB1 := hide (zbT (show Below w.heap.size w _ by (repeat' first | exact zbR _ _ | assumption | refine zbD ?_ | refine zbA ?_ ?_ _ | refine zbS ?_ ?_ _ | refine zbT ?_ (by assumption) ?_ | (simp; done) | (simp; omega) | omega)) hb1 (by simp; omega)); have HQ1 := hide ((hb1.block _ (by simp; omega)).trans ((Below.heap_alloc _ _ _ (by simp)).trans (World.alloc_heap_new w (.cells #[.int .i64 q.opn, .int .i64 q.lo, .int .i64 q.hi, .int .i64 q.seats, .slice A n c, .slice F m d] 27 (0, 0))))); have HA1 := hide ((hb1.block (w.heap.size + 1) (by simp)).trans (alloc_new_at (O := .cells #[.int .i64 rate, .int .i64 mi, .int .i64 id] 29 (0, 0)) (by simp))); clear hb1; have q0 : w1.cell? ⟨w.heap.size, 0, none⟩ = some (.int .i64 q.opn) := (blk_cell HQ1.out 0).trans rfl; have q1 : w1.cell? ⟨w.heap.size, 1, none⟩ = some (.int .i64 q.lo) := (blk_cell HQ1.out 1).trans rfl; have q2 : w1.cell? ⟨w.heap.size, 2, none⟩ = some (.int .i64 q.hi) := (blk_cell HQ1.out 2).trans rfl; have q3 : w1.cell? ⟨w.heap.size, 3, none⟩ = some (.int .i64 q.seats) := (blk_cell HQ1.out 3).trans rfl; have q4 : w1.cell? ⟨w.heap.size, 4, none⟩ = some (.slice A n c) := (blk_cell HQ1.out 4).trans rfl; have q5 : w1.cell? ⟨w.heap.size, 5, none⟩ = some (.slice F m d) := (blk_cell HQ1.out 5).trans rfl; have lq := blk_lt HQ1.out; have a0 : w1.cell? ⟨w.heap.size + 1, 0, none⟩ = some (.int .i64 rate) := (blk_cell HA1.out 0).trans rfl; have a1 : w1.cell? ⟨w.heap.size + 1, 1, none⟩ = some (.int .i64 mi) := (blk_cell HA1.out 1).trans rfl; have a2 : w1.cell? ⟨w.heap.size + 1, 2, none⟩ = some (.int .i64 id) := (blk_cell HA1.out 2).trans rfl; have la := blk_lt HA1.out)
        go_upto_region 6 with (go_at_call 17; (with_reducible refine (Enter_any q A n c F m d rate _ (HI.out.below HB1.out)).mono ?_); rintro e w2 hP; rw [HEV.out, HEE.out] at hP; obtain ⟨A5, c5, rfl, ho2, hb2⟩ := hP; have HV2 := hide (owns_RdI ho2 rfl); have HB2 := hide hb2; have HQ2 := bkT hb2 HQ1; have HA2 := bkT hb2 HA1; rw [HLN.out]; clear ho2 hb2 q0 q1 q2 q3 q4 q5 lq a0 a1 a2 la; have q0 : w2.cell? ⟨w.heap.size, 0, none⟩ = some (.int .i64 q.opn) := (blk_cell HQ2.out 0).trans rfl; have q1 : w2.cell? ⟨w.heap.size, 1, none⟩ = some (.int .i64 q.lo) := (blk_cell HQ2.out 1).trans rfl; have q2 : w2.cell? ⟨w.heap.size, 2, none⟩ = some (.int .i64 q.hi) := (blk_cell HQ2.out 2).trans rfl; have q3 : w2.cell? ⟨w.heap.size, 3, none⟩ = some (.int .i64 q.seats) := (blk_cell HQ2.out 3).trans rfl; have q4 : w2.cell? ⟨w.heap.size, 4, none⟩ = some (.slice A n c) := (blk_cell HQ2.out 4).trans rfl; have q5 : w2.cell? ⟨w.heap.size, 5, none⟩ = some (.slice F m d) := (blk_cell HQ2.out 5).trans rfl; have lq := blk_lt HQ2.out; have a0 : w2.cell? ⟨w.heap.size + 1, 0, none⟩ = some (.int .i64 rate) := (blk_cell HA2.out 0).trans rfl; have a1 : w2.cell? ⟨w.heap.size + 1, 1, none⟩ = some (.int .i64 mi) := (blk_cell HA2.out 1).trans rfl; have a2 : w2.cell? ⟨w.heap.size + 1, 2, none⟩ = some (.int .i64 id) := (blk_cell HA2.out 2).trans rfl; have la := blk_lt HA2.out)
        refine cap_w (M := Code.wp _ _ _ _) _ (fun w3 hw3 => ?_)
        obtain rfl : w3 = w2 := hw3
        have HB3 := hide (zbT HB1.out HB2.out HB1.out.size)
        have HQ3 := HQ2
        have HA3 := HA2
        have HI3 := hide (HI.out.below HB3.out)
        have HV3 := HV2
        clear q0 q1 q2 q3 q4 q5 lq a0 a1 a2 la
        obtain ⟨b1, hb1⟩ : ∃ x, w.heap.size + 1 = x := ⟨_, rfl⟩
        rw [hb1] at HA3 ⊢
        obtain ⟨b0, hb0⟩ : ∃ x, w.heap.size = x := ⟨_, rfl⟩
        have HE0 := hide hb0
        rw [hb0] at HQ3 ⊢
        clear hb1 hb0
        have q0 : w3.cell? ⟨b0, 0, none⟩ = some (.int .i64 q.opn) := (blk_cell HQ3.out 0).trans rfl
        have q1 : w3.cell? ⟨b0, 1, none⟩ = some (.int .i64 q.lo) := (blk_cell HQ3.out 1).trans rfl
        have q2 : w3.cell? ⟨b0, 2, none⟩ = some (.int .i64 q.hi) := (blk_cell HQ3.out 2).trans rfl
        have q3 : w3.cell? ⟨b0, 3, none⟩ = some (.int .i64 q.seats) := (blk_cell HQ3.out 3).trans rfl
        have q4 : w3.cell? ⟨b0, 4, none⟩ = some (.slice A n c) := (blk_cell HQ3.out 4).trans rfl
        have q5 : w3.cell? ⟨b0, 5, none⟩ = some (.slice F m d) := (blk_cell HQ3.out 5).trans rfl
        have lq := blk_lt HQ3.out
        go_wp2_with fail
        go_loopw [7, 9] (fun v7 i wr => ∃ k : Nat, k ≤ m ∧ i = .int .i64 k ∧ v7 = .int .i64 (q.seats + G.sumF (q.fs.take k) mi) ∧ Hid (Below w3.heap.size w3 wr)) (fun _ i _ => m - (intOf i).toNat)
        case atStart => exact ⟨0, by omega, rfl, by show _ = Value.int .i64 (q.seats + 0); rw [Int.add_zero], hide (Below.refl _ _)⟩
        case round =>
          obtain ⟨k, hk, rfl, rfl, HBr⟩ := hrel
          have HQr := bkT HBr.out HQ3
          have HAr := bkT HBr.out HA3
          have q0 : wr.cell? ⟨b0, 0, none⟩ = some (.int .i64 q.opn) := (blk_cell HQr.out 0).trans rfl
          have q1 : wr.cell? ⟨b0, 1, none⟩ = some (.int .i64 q.lo) := (blk_cell HQr.out 1).trans rfl
          have q2 : wr.cell? ⟨b0, 2, none⟩ = some (.int .i64 q.hi) := (blk_cell HQr.out 2).trans rfl
          have q3 : wr.cell? ⟨b0, 3, none⟩ = some (.int .i64 q.seats) := (blk_cell HQr.out 3).trans rfl
          have q4 : wr.cell? ⟨b0, 4, none⟩ = some (.slice A n c) := (blk_cell HQr.out 4).trans rfl
          have q5 : wr.cell? ⟨b0, 5, none⟩ = some (.slice F m d) := (blk_cell HQr.out 5).trans rfl
          have lq := blk_lt HQr.out
          have a0 : wr.cell? ⟨b1, 0, none⟩ = some (.int .i64 rate) := (blk_cell HAr.out 0).trans rfl
          have a1 : wr.cell? ⟨b1, 1, none⟩ = some (.int .i64 mi) := (blk_cell HAr.out 1).trans rfl
          have a2 : wr.cell? ⟨b1, 2, none⟩ = some (.int .i64 id) := (blk_cell HAr.out 2).trans rfl
          have la := blk_lt HAr.out
          by_cases hlt : k < m
          · obtain ⟨f, hf⟩ : ∃ f, q.fs[k]? = some f := ⟨_, List.getElem?_eq_getElem (by have := HI.out.fl; omega)⟩
            obtain ⟨bf, of', rfl, hbf, d0, d1⟩ := ((HI3.out.below HBr.out).rf) k f hf
            have hlt' : (k : Int) < (m : Int) := by omega
            have hk0 : (0 : Int) ≤ (k : Int) := by omega
            have hbd := G.sumF_take_bd HRY.out.v k mi
            have hbd2 := G.sumF_take_bd HRY.out.v (k + 1) mi
            have HST := hide (G.sumF_step (m := mi) hf)
            have hs0 := HRY.out.v.s0
            have hs1 := HRY.out.v.s1
            clear hf
            obtain ⟨sm, hsm⟩ : ∃ x, G.sumF (q.fs.take k) mi = x := ⟨_, rfl⟩
            rw [hsm] at HST hbd ⊢
            clear hsm
            by_cases hc : f.at_ ≤ mi
            · have hcb : decide (f.at_ ≤ mi) = true := by simpa using hc
              have HST2 := hide (show G.sumF (q.fs.take (k + 1)) mi = sm + f.count by rw [HST.out, if_pos hc])
              rw [HST2.out] at hbd2
              have hw : IntKind.i64.wrap (q.seats + sm + f.count) = q.seats + sm + f.count := IntWalk.i64_in _ (by omega)
              go_upto_region 10 with fail
              go_quiet (fail)
              go_wp2_with fail
              go_roundw
              case rel => exact ⟨k + 1, by omega, by go_num, by rw [HST2.out, Int.add_assoc], hide (below_drewN HBr.out _)⟩
              case measure => simp [intOf]; omega
            · have hcb : decide (f.at_ ≤ mi) = false := by simpa using hc
              have HST2 := hide (show G.sumF (q.fs.take (k + 1)) mi = sm by rw [HST.out, if_neg hc, Int.add_zero])
              clear hc
              go_upto_region 10 with fail
              go_quiet (fail)
              go_wp2_with fail
              go_roundw
              case rel => exact ⟨k + 1, by omega, by go_num, by rw [HST2.out], hide (below_drewN HBr.out _)⟩
              case measure => simp [intOf]; omega
          · have hkm : k = m := by omega
            subst hkm
            rw [show q.fs.take k = q.fs from List.take_of_length_le (by have := HI.out.fl; omega)]
            obtain ⟨se, hse⟩ : ∃ x, q.seats + G.sumF q.fs mi = x := ⟨_, rfl⟩
            have HSE := hide hse
            rw [hse]
            clear hse hlt hk
            go_wp2_with fail
            obtain ⟨w4, hw4⟩ : ∃ x, wr = x := ⟨_, rfl⟩
            rw [hw4] at HBr ⊢
            have HB4 := HBr
            clear q0 q1 q2 q3 q4 q5 lq a0 a1 a2 la hw4 HBr
            have HQ4 := bkT HB4.out HQ3
            have HA4 := bkT HB4.out HA3
            have HI4 := hide (HI3.out.below HB4.out)
            have HV4 := hide ((HV3.out.below HB4.out).mono HB4.out.size)
            go_loopw [8, 10] (fun v8 i wr => ∃ k : Nat, k ≤ n ∧ i = .int .i64 k ∧ v8 = .int .i64 (G.inK q rate mi k) ∧ Hid (Below w4.heap.size w4 wr)) (fun _ i _ => n - (intOf i).toNat)
            case atStart => exact ⟨0, by omega, rfl, rfl, hide (Below.refl _ _)⟩
            case round =>
              obtain ⟨k, hk, rfl, rfl, HBr⟩ := hrel
              have HQr := bkT HBr.out HQ4
              have HAr := bkT HBr.out HA4
              have hpb := G.inK_bd HRY.out.v rate mi k
              have hp24 := HRY.out.p24
              by_cases hlt : k < n
              · obtain ⟨p, hp⟩ : ∃ p, q.gs[k]? = some p := ⟨_, List.getElem?_eq_getElem (by have := HI.out.gl; omega)⟩
                have hfair := G.enter_fairT HRY.out.v hr1 hp
                have hstep := G.inK_step (rate := rate) (m := mi) hp
                have hV := G.vParty_iff.1 (HRY.out.v.gv p (List.mem_of_getElem? hp))
                have hev := G.enter_getT q rate hp
                obtain ⟨v, hv⟩ : ∃ v, G.look p.id (G.R q rate) = v := ⟨_, rfl⟩
                rw [hv] at hfair hstep hev
                obtain ⟨bv, ov, rfl, hbv, v0⟩ := (HV4.out.below HBr.out) k v hev
                obtain ⟨bg, og, hAg, hbg, d0, d1, d2, d3⟩ := ((HI4.out.below HBr.out).rg) k p hp
                subst hAg
                have hlt' : (k : Int) < (n : Int) := by omega
                have hk0 : (0 : Int) ≤ (k : Int) := by omega
                have hz0 := hV.z0
                have hz1 := hV.z1
                have hqt := hV.qt
                have hat0 := hV.a0
                have hbv2 : bv < wr.heap.size := Nat.lt_of_lt_of_le hbv HBr.out.size
                clear hp hev hv hV
                obtain ⟨iv, hiv⟩ : ∃ x, G.inK q rate mi k = x := ⟨_, rfl⟩
                rw [hiv] at hstep hpb ⊢
                have HST := hide hstep
                clear hiv hstep
                have x3 : wr.cell? ⟨b0, 4, none⟩ = some (.slice (some ⟨bg, og, none⟩) n c) := (blk_cell HQr.out 4).trans rfl
                have lx3 := blk_lt HQr.out
                go_upto_region 16 with fail
                refine cap_w (M := Code.wp _ _ _ _) _ (fun w5 hw5 => ?_)
                have HB5 := hide (show Below wr.heap.size wr w5 by rw [hw5]; exact zbA (zbR _ _) (Nat.le_refl _) _)
                have HT5 := hide (show w5.heap[wr.heap.size]? = some (.cells #[.int .i64 p.id, .int .i64 p.at_, .int .i64 p.size, .int .i64 p.quits] 42 (0, 0)) by rw [hw5]; exact World.alloc_heap_new _ _)
                have u0 := (HB5.out.cell (p := ⟨bv, _, none⟩) hbv2).trans v0
                clear hw5 d0 d1 d2 d3 x3 lx3 v0
                have hbv3 := Nat.lt_of_lt_of_le hbv2 HB5.out.size
                have HQ5 := bkT HB5.out HQr
                have HA5 := bkT HB5.out HAr
                obtain ⟨g, hg⟩ : ∃ g, wr.heap.size = g := ⟨_, rfl⟩
                have HG := hide hg
                rw [hg] at HT5 ⊢
                clear hg
                have q0 : w5.cell? ⟨b0, 0, none⟩ = some (.int .i64 q.opn) := (blk_cell HQ5.out 0).trans rfl
                have lq := blk_lt HQ5.out
                have a0 : w5.cell? ⟨b1, 0, none⟩ = some (.int .i64 rate) := (blk_cell HA5.out 0).trans rfl
                have a1 : w5.cell? ⟨b1, 1, none⟩ = some (.int .i64 mi) := (blk_cell HA5.out 1).trans rfl
                have la := blk_lt HA5.out
                have c1 : w5.cell? ⟨g, 1, none⟩ = some (.int .i64 p.at_) := (blk_cell HT5.out 1).trans rfl
                have c2 : w5.cell? ⟨g, 2, none⟩ = some (.int .i64 p.size) := (blk_cell HT5.out 2).trans rfl
                have c3 : w5.cell? ⟨g, 3, none⟩ = some (.int .i64 p.quits) := (blk_cell HT5.out 3).trans rfl
                have lg := blk_lt HT5.out
                have hw1 : IntKind.i64.wrap (p.size + rate) = p.size + rate := IntWalk.i64_in _ (by omega)
                have hw2 : IntKind.i64.wrap (p.size + rate - 1) = p.size + rate - 1 := IntWalk.i64_in _ (by omega)
                have hdv0 : 0 ≤ (p.size + rate - 1) / rate := Int.ediv_nonneg (by omega) (by omega)
                have hdv1 : (p.size + rate - 1) / rate ≤ p.size + rate - 1 := Int.ediv_le_self _ (by omega)
                have htd : (p.size + rate - 1).tdiv rate = (p.size + rate - 1) / rate := Int.tdiv_eq_ediv_of_nonneg (by omega)
                obtain ⟨dv, hdv⟩ : ∃ x, (p.size + rate - 1) / rate = x := ⟨_, rfl⟩
                unfold G.Fair at hfair
                rw [hdv] at hdv0 hdv1 htd hfair
                have hw3 : IntKind.i64.wrap dv = dv := IntWalk.i64_in _ (by omega)
                have hr0 : (rate == 0) = false := by simp; omega
                have hr0' : ¬ rate = 0 := by omega
                have HBW := hide (zbT HBr.out HB5.out HBr.out.size)
                rcases hfair with rfl | ⟨f0, f1, f2, f3, f4⟩
                · have hw4 : IntKind.i64.wrap (-1 - dv) = -1 - dv := IntWalk.i64_in _ (by omega)
                  have HST2 := hide (show G.inK q rate mi (k + 1) = iv by rw [HST.out, if_neg (by omega), Int.add_zero])
                  go_wp2_with fail
                  go_quiet (fail)
                  go_wp2_with fail
                  go_quiet (fail)
                  go_wp2_with fail
                  go_quiet (fail)
                  go_wp2_with fail
                  go_roundw
                  case rel => exact ⟨k + 1, by omega, by go_num, by rw [HST2.out], hide (zbT HBW.out (below_drewN (zbR _ _) _) HBW.out.size)⟩
                  case measure => simp [intOf]; omega
                · have hw4 : IntKind.i64.wrap (v - dv) = v - dv := IntWalk.i64_in _ (by omega)
                  have e1 : decide (v < -1) = false := by simp; omega
                  have e2 : decide (1440 < v) = false := by simp; omega
                  have e3 : decide (0 ≤ v) = true := by simp; omega
                  have e4 : decide (v < q.opn) = false := by simp; omega
                  have e5 : decide (v < p.at_) = false := by simp; omega
                  by_cases h6 : v ≤ mi
                  · have e6 : decide (v ≤ mi) = true := by simp; omega
                    have HST2 := hide (show G.inK q rate mi (k + 1) = iv + p.size by rw [HST.out, if_pos ⟨f0, h6⟩])
                    have hw5 : IntKind.i64.wrap (iv + p.size) = iv + p.size := IntWalk.i64_in _ (by omega)
                    by_cases h7 : 0 ≤ p.quits
                    · have h8 := f4 h7
                      go_wp2_with fail
                      go_quiet (fail)
                      go_wp2_with fail
                      go_quiet (fail)
                      go_wp2_with fail
                      go_quiet (fail)
                      go_wp2_with fail
                      go_roundw
                      case rel => exact ⟨k + 1, by omega, by go_num, by rw [HST2.out], hide (zbT HBW.out (below_drewN (zbR _ _) _) HBW.out.size)⟩
                      case measure => simp [intOf]; omega
                    · have h8 : p.quits < 0 := by omega
                      clear h7 f4
                      go_wp2_with fail
                      go_quiet (fail)
                      go_wp2_with fail
                      go_quiet (fail)
                      go_wp2_with fail
                      go_quiet (fail)
                      go_wp2_with fail
                      go_roundw
                      case rel => exact ⟨k + 1, by omega, by go_num, by rw [HST2.out], hide (zbT HBW.out (below_drewN (zbR _ _) _) HBW.out.size)⟩
                      case measure => simp [intOf]; omega
                  · have e6 : decide (v ≤ mi) = false := by simp; omega
                    have HST2 := hide (show G.inK q rate mi (k + 1) = iv by rw [HST.out, if_neg (fun h => h6 h.2), Int.add_zero])
                    clear h6
                    by_cases h7 : 0 ≤ p.quits
                    · have h8 := f4 h7
                      go_wp2_with fail
                      go_quiet (fail)
                      go_wp2_with fail
                      go_quiet (fail)
                      go_wp2_with fail
                      go_quiet (fail)
                      go_wp2_with fail
                      go_roundw
                      case rel => exact ⟨k + 1, by omega, by go_num, by rw [HST2.out], hide (zbT HBW.out (below_drewN (zbR _ _) _) HBW.out.size)⟩
                      case measure => simp [intOf]; omega
                    · have h8 : p.quits < 0 := by omega
                      clear h7 f4
                      go_wp2_with fail
                      go_quiet (fail)
                      go_wp2_with fail
                      go_quiet (fail)
                      go_wp2_with fail
                      go_quiet (fail)
                      go_wp2_with fail
                      go_roundw
                      case rel => exact ⟨k + 1, by omega, by go_num, by rw [HST2.out], hide (zbT HBW.out (below_drewN (zbR _ _) _) HBW.out.size)⟩
                      case measure => simp [intOf]; omega
              · have hkn : k = n := by omega
                subst hkn
                have hse := G.enter_seats HRY.out.v hr1 mi
                rw [HI.out.gl] at hse
                unfold G.Qu.S at hse
                rw [HSE.out] at hse
                obtain ⟨iv, hiv⟩ : ∃ x, G.inK q rate mi k = x := ⟨_, rfl⟩
                rw [hiv] at hse hpb ⊢
                have q0 : wr.cell? ⟨b0, 0, none⟩ = some (.int .i64 q.opn) := (blk_cell HQr.out 0).trans rfl
                have lq := blk_lt HQr.out
                have a0 : wr.cell? ⟨b1, 0, none⟩ = some (.int .i64 rate) := (blk_cell HAr.out 0).trans rfl
                have a1 : wr.cell? ⟨b1, 1, none⟩ = some (.int .i64 mi) := (blk_cell HAr.out 1).trans rfl
                have la := blk_lt HAr.out
                have ho0 := HRY.out.v.o0
                have ho1 := HRY.out.v.o1
                have hse1 := hse.1
                have hw1 : IntKind.i64.wrap (mi - q.opn) = mi - q.opn := IntWalk.i64_in _ (by omega)
                have hw2 : IntKind.i64.wrap (mi - q.opn + 1) = mi - q.opn + 1 := IntWalk.i64_in _ (by omega)
                have hz9 := HBr.out.size
                by_cases h9 : 0 < mi - q.opn + 1
                · have hm1 : (if 0 < mi - q.opn + 1 then mi - q.opn + 1 else 0) = mi - q.opn + 1 := if_pos h9
                  have hm2 : max 0 (mi - q.opn + 1) = mi - q.opn + 1 := by omega
                  have hmul : 0 ≤ rate * (mi - q.opn + 1) := Int.mul_nonneg (by omega) (by omega)
                  have hmul2 : rate * (mi - q.opn + 1) ≤ 100 * 1441 := Int.mul_le_mul (by omega) (by omega) (by omega) (by omega)
                  have hw3 : IntKind.i64.wrap (rate * (mi - q.opn + 1)) = rate * (mi - q.opn + 1) := IntWalk.i64_in _ (by omega)
                  have hse2 : iv ≤ rate * (mi - q.opn + 1) := by have := hse.2; rw [Int.mul_comm] at this; omega
                  clear hse hiv
                  go_wp2_with (go_at_call 13; (with_reducible refine (works_any _).mono ?_); rintro e w9 ⟨rfl, hb9⟩; have HB9 := hide (zbT HB4.out (zbT HBr.out hb9 hz9) HB4.out.size); clear hb9)
                  go_ret
                  exact ⟨rfl, zbT HB3.out HB9.out HB3.out.size⟩
                · have hm0 : mi - q.opn + 1 ≤ 0 := by omega
                  have hm1 : (if 0 < mi - q.opn + 1 then mi - q.opn + 1 else 0) = 0 := if_neg h9
                  have hm2 : max 0 (mi - q.opn + 1) = 0 := by omega
                  have hse2 : iv ≤ 0 := by
                    have h := hse.2
                    have : (mi - q.opn + 1) * rate ≤ 0 := Int.mul_nonpos_of_nonpos_of_nonneg (by omega) (by omega)
                    omega
                  have hse3 : iv ≤ rate * 0 := by omega
                  clear hse hiv h9
                  go_wp2_with (go_at_call 13; (with_reducible refine (works_any _).mono ?_); rintro e w9 ⟨rfl, hb9⟩; have HB9 := hide (zbT HB4.out (zbT HBr.out hb9 hz9) HB4.out.size); clear hb9)
                  go_ret
                  exact ⟨rfl, zbT HB3.out HB9.out HB3.out.size⟩
set_option maxHeartbeats 3200000 in
set_option maxRecDepth 100000 in
theorem seatsLaw_long (q : G.Qu) (A : Option Addr) (n c : Nat) (F : Option Addr) (m d : Nat) (rate mi id : Int) (w : World) (h : 100 < n ∨ 100 < m) :
    Calls Try.prog 6 #[.agg #[.int .i64 q.opn, .int .i64 q.lo, .int .i64 q.hi, .int .i64 q.seats, .slice A n c, .slice F m d], .agg #[.int .i64 rate, .int .i64 mi, .int .i64 id]] w fun e w' => e = .returned (.bool true) ∧ Below w.heap.size w w' := by
  have HL := hide h
  clear h
  go_enter Try.func6, Try.ntmps6
  go_wp2_with (first | (go_at_call 30; (with_reducible refine (ready_long q A n c F m d rate _ HL.out).mono ?_); rintro e w1 ⟨rfl, hb1⟩; have HB1 := hide (zbT (show Below w.heap.size w _ by (repeat' first | exact zbR _ _ | assumption | refine zbD ?_ | refine zbA ?_ ?_ _ | refine zbS ?_ ?_ _ | refine zbT ?_ (by assumption) ?_ | (simp; done) | (simp; omega) | omega)) hb1 (by simp; omega)); clear hb1) | (go_at_call 13; (with_reducible refine (works_any _).mono ?_); rintro e w9 ⟨rfl, hb9⟩; have HB9 := hide (zbT HB1.out hb9 HB1.out.size); clear hb9))
  go_ret
  exact ⟨rfl, HB9.out⟩
end Go.Proofs.Ytlpjkolocgkcpaa
