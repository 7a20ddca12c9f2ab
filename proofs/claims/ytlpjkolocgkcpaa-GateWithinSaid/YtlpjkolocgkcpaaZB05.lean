/-
  Part of a claim's texts: contracts of the program's functions and the plain functions that they compute, in build order.
-/
import Derived.Deep.Cut
import Derived.Deep.CutRange
import Derived.Test.YtlpjkolocgkcpaaZB03
import Derived.Test.YtlpjkolocgkcpaaZB04
namespace Go.Proofs.Ytlpjkolocgkcpaa
open Go.RowKit
attribute [local go_sem ↓] Go.wp_at_zero Go.wp_at_succ

set_option maxHeartbeats 6400000 in
set_option maxRecDepth 100000 in
theorem Sure_any (q : G.Qu) (id : Int) (A : Option Addr) (n c : Nat) (F : Option Addr) (m d : Nat) (w : World) (h : QIn w q A n c F m d) (hid : (Lit.int .i64 id).wf = true) :
    Calls Try.prog 22 #[.agg #[.int .i64 q.opn, .int .i64 q.lo, .int .i64 q.hi, .int .i64 q.seats, .slice A n c, .slice F m d], .int .i64 id] w fun e w' => e = .returned (.tuple #[.agg #[.int .i64 (G.sureV q id).1, .int .i64 (G.sureV q id).2], .int .i64 (G.sureE q id)]) ∧ Below w.heap.size w w' := by
  have HI := hide h
  have HID := hide hid
  clear h hid
  obtain ⟨er, her⟩ : ∃ x, G.sureE q id = x := ⟨_, rfl⟩
  obtain ⟨va, hva⟩ : ∃ x, (G.sureV q id).1 = x := ⟨_, rfl⟩
  obtain ⟨vb, hvb⟩ : ∃ x, (G.sureV q id).2 = x := ⟨_, rfl⟩
  rw [her, hva, hvb]
  have HER := hide her
  have HVA := hide hva
  have HVB := hide hvb
  clear her hva hvb
  go_enter Try.func22, Try.ntmps22
  go_upto_region 1 with fail
  refine cap_w (M := Code.wp _ _ _ _) _ (fun w1 hw1 => ?_)
  have HB1 := hide (show Below w.heap.size w w1 by rw [hw1]; (repeat' first | exact zbR _ _ | assumption | refine zbD ?_ | refine zbA ?_ ?_ _ | refine zbS ?_ ?_ _ | refine zbT ?_ (by assumption) ?_ | (simp; done) | (simp; omega) | omega))
  have HQ := hide (show w1.heap[w.heap.size]? = some (.cells #[.int .i64 q.opn, .int .i64 q.lo, .int .i64 q.hi, .int .i64 q.seats, .slice A n c, .slice F m d] 27 (0, 0)) by
    rw [hw1]; exact (Below.heap_alloc _ _ _ (by simp)).trans (World.alloc_heap_new _ _))
  have HZ := hide (show w1.heap[w.heap.size + 1]? = some (.cells #[.int .i64 0, .int .i64 0] 23 (0, 0)) by
    rw [hw1]; exact alloc_new_at (by simp))
  clear hw1
  obtain ⟨b1, hb1⟩ : ∃ x, w.heap.size + 1 = x := ⟨_, rfl⟩
  rw [hb1] at HZ ⊢
  obtain ⟨b0, hb0⟩ : ∃ x, w.heap.size = x := ⟨_, rfl⟩
  have HBB := hide (show w.heap.size ≤ b1 by omega)
  rw [hb0] at HQ ⊢
  clear hb1 hb0
  have HI1 := hide (HI.out.below HB1.out)
  have q0 : w1.cell? ⟨b0, 0, none⟩ = some (.int .i64 q.opn) := (blk_cell HQ.out 0).trans rfl
  have q1 : w1.cell? ⟨b0, 1, none⟩ = some (.int .i64 q.lo) := (blk_cell HQ.out 1).trans rfl
  have q2 : w1.cell? ⟨b0, 2, none⟩ = some (.int .i64 q.hi) := (blk_cell HQ.out 2).trans rfl
  have q3 : w1.cell? ⟨b0, 3, none⟩ = some (.int .i64 q.seats) := (blk_cell HQ.out 3).trans rfl
  have q4 : w1.cell? ⟨b0, 4, none⟩ = some (.slice A n c) := (blk_cell HQ.out 4).trans rfl
  have q5 : w1.cell? ⟨b0, 5, none⟩ = some (.slice F m d) := (blk_cell HQ.out 5).trans rfl
  have lq := blk_lt HQ.out
  cases hv : G.valid q
  · have HV := hide hv
    have hE : G.sureE q id = 110 := by unfold G.sureE; rw [hv]; rfl
    have hVV : G.sureV q id = (0, 0) := by unfold G.sureV; rw [if_neg (by rw [hE]; decide)]
    have e0 := HER.out
    rw [hE] at e0
    have e1 := HVA.out
    rw [hVV] at e1
    have e2 := HVB.out
    rw [hVV] at e2
    dsimp only at e1 e2
    subst e0 e1 e2
    clear HER HVA HVB
    clear hv hE hVV
    go_upto_region 2 with (go_at_call 43; (with_reducible refine (openFor_any q id A n c F m d _ HI1.out HID.out).mono ?_); rintro e w2 ⟨hb2, hno, _⟩; obtain rfl := hno HV.out; clear hno; have HB2 := hide (zbT HB1.out hb2 HB1.out.size); have HZ2 := bkT hb2 HZ; clear hb2 q0 q1 q2 q3 q4 q5 lq)
    refine cap_w (M := Code.wp _ _ _ _) _ (fun w3 hw3 => ?_)
    have HB3 := hide (show Below w.heap.size w w3 by rw [hw3]; exact zbA HB2.out HB2.out.size _)
    have HZ3 := hide (show w3.heap[b1]? = some (.cells #[.int .i64 0, .int .i64 0] 23 (0, 0)) by rw [hw3]; exact (Below.heap_alloc _ _ _ (blk_lt HZ2.out)).trans HZ2.out)
    clear hw3
    go_wp2_with (refine wpList_store_row rfl 23 _ _ rfl b1 _ rfl rfl 23 _ HZ3.out spRow rfl (by simp [Value.oneCell']) ?_)
    refine cap_w (M := bodyPost _ _ _ _ _) _ (fun W9 hW9 => ?_)
    have HR9 := hide (show W9.heap[b1]? = some (.cells #[.int .i64 0, .int .i64 0] 23 (0, 0)) by rw [hW9]; exact setRow_heap _ _ _ _ _ _ HZ3.out)
    have HB9 := hide (show Below w.heap.size w W9 by rw [hW9]; exact below_row HB3.out HBB.out _)
    clear hW9
    have s0 : W9.cell? ⟨b1, 0, none⟩ = some (.int .i64 0) := (blk_cell HR9.out 0).trans rfl
    have s1 : W9.cell? ⟨b1, 1, none⟩ = some (.int .i64 0) := (blk_cell HR9.out 1).trans rfl
    exact bodyPost_ret (v := .tuple #[.agg #[.int .i64 0, .int .i64 0], .int .i64 110]) (by simp [results, Try.results22, go_sem, s0, s1]) rfl ⟨rfl, HB9.out⟩
  · have HV := hide hv
    cases hx : G.idxOf q id with
    | none =>
      have HX := hide hx
      have hE : G.sureE q id = 1 := by unfold G.sureE; rw [hv, if_pos rfl, hx]
      have hVV : G.sureV q id = (0, 0) := by unfold G.sureV; rw [if_neg (by rw [hE]; decide)]
      have e0 := HER.out
      rw [hE] at e0
      have e1 := HVA.out
      rw [hVV] at e1
      have e2 := HVB.out
      rw [hVV] at e2
      dsimp only at e1 e2
      subst e0 e1 e2
      clear HER HVA HVB
      clear hv hE hVV hx
      go_upto_region 2 with (go_at_call 43; (with_reducible refine (openFor_any q id A n c F m d _ HI1.out HID.out).mono ?_); rintro e w2 ⟨hb2, _, hyes⟩; obtain rfl := (hyes HV.out).1 HX.out; clear hyes; have HB2 := hide (zbT HB1.out hb2 HB1.out.size); have HZ2 := bkT hb2 HZ; clear hb2 q0 q1 q2 q3 q4 q5 lq)
      refine cap_w (M := Code.wp _ _ _ _) _ (fun w3 hw3 => ?_)
      have HB3 := hide (show Below w.heap.size w w3 by rw [hw3]; exact zbA HB2.out HB2.out.size _)
      have HZ3 := hide (show w3.heap[b1]? = some (.cells #[.int .i64 0, .int .i64 0] 23 (0, 0)) by rw [hw3]; exact (Below.heap_alloc _ _ _ (blk_lt HZ2.out)).trans HZ2.out)
      clear hw3
      go_wp2_with (refine wpList_store_row rfl 23 _ _ rfl b1 _ rfl rfl 23 _ HZ3.out spRow rfl (by simp [Value.oneCell']) ?_)
      refine cap_w (M := bodyPost _ _ _ _ _) _ (fun W9 hW9 => ?_)
      have HR9 := hide (show W9.heap[b1]? = some (.cells #[.int .i64 0, .int .i64 0] 23 (0, 0)) by rw [hW9]; exact setRow_heap _ _ _ _ _ _ HZ3.out)
      have HB9 := hide (show Below w.heap.size w W9 by rw [hW9]; exact below_row HB3.out HBB.out _)
      clear hW9
      have s0 : W9.cell? ⟨b1, 0, none⟩ = some (.int .i64 0) := (blk_cell HR9.out 0).trans rfl
      have s1 : W9.cell? ⟨b1, 1, none⟩ = some (.int .i64 0) := (blk_cell HR9.out 1).trans rfl
      exact bodyPost_ret (v := .tuple #[.agg #[.int .i64 0, .int .i64 0], .int .i64 1]) (by simp [results, Try.results22, go_sem, s0, s1]) rfl ⟨rfl, HB9.out⟩
    | some gi =>
      have HX := hide hx
      have HGI := hide (show gi < n by rw [← HI.out.gl]; exact G.idxOf_lt hx)
      have hval := G.valid_iff.1 hv
      have hrl := G.rates_len hval.lh
      have hul : (G.minutesOf q gi).length = (G.rates q).length := by unfold G.minutesOf; rw [List.length_map]
      have HU0 := hide (show 1 ≤ (G.minutesOf q gi).length by rw [hul]; have := hval.lh; omega)
      have HU1 := hide (show (G.minutesOf q gi).length ≤ 1000000 by rw [hul]; have := hval.h1; have := hval.l0; omega)
      clear hval hrl hul
      cases hc : (G.minutesOf q gi).contains (-1)
      · have HCN := hide hc
        have hE : G.sureE q id = 0 := by unfold G.sureE; rw [hv, if_pos rfl, hx]; dsimp only; rw [hc]; rfl
        have hVV : G.sureV q id = (G.minL (G.minutesOf q gi), G.maxL (G.minutesOf q gi)) := by unfold G.sureV; rw [if_pos hE, hx]
        have e0 := HER.out
        rw [hE] at e0
        have e1 := HVA.out
        rw [hVV] at e1
        have e2 := HVB.out
        rw [hVV] at e2
        dsimp only at e1 e2
        subst e0 e1 e2
        clear HER HVA HVB
        clear hv hE hVV hx hc
        go_upto_region 2 with (go_at_call 43; (with_reducible refine (openFor_any q id A n c F m d _ HI1.out HID.out).mono ?_); rintro e w2 ⟨hb2, _, hyes⟩; obtain ⟨F2, d2, fs2, g, O, co, ord, rfl, hpf, hL⟩ := (hyes HV.out).2 _ HX.out; have HPF := hide hpf; have HL := hide hL; clear hyes hpf hL; have HB2 := hide (zbT HB1.out hb2 HB1.out.size); have HZ2 := bkT hb2 HZ; clear hb2 q0 q1 q2 q3 q4 q5 lq)
        refine cap_w (M := Code.wp _ _ _ _) _ (fun w3 hw3 => ?_)
        have HB3 := hide (show Below w.heap.size w w3 by rw [hw3]; exact zbA HB2.out HB2.out.size _)
        have HZ3 := hide (show w3.heap[b1]? = some (.cells #[.int .i64 0, .int .i64 0] 23 (0, 0)) by rw [hw3]; exact (Below.heap_alloc _ _ _ (blk_lt HZ2.out)).trans HZ2.out)
        have HX3 := hide (show w3.heap[w2.heap.size]? = some (.cells #[.int .i64 q.opn, .int .i64 q.lo, .int .i64 q.hi, .int .i64 q.seats, .slice A n c, .slice F2 m d2, .map (some g), .slice O n co] 67 (0, 0)) by rw [hw3]; exact World.alloc_heap_new _ _)
        have HL3 := hide (HL.out.below (show Below w2.heap.size w2 w3 by rw [hw3]; exact zbA (zbR _ _) (Nat.le_refl _) _))
        have hx3 := HX3.out
        have x0 : w3.cell? ⟨w2.heap.size, 0, none⟩ = some (.int .i64 q.opn) := (blk_cell hx3 0).trans rfl
        have x1 : w3.cell? ⟨w2.heap.size, 1, none⟩ = some (.int .i64 q.lo) := (blk_cell hx3 1).trans rfl
        have x2 : w3.cell? ⟨w2.heap.size, 2, none⟩ = some (.int .i64 q.hi) := (blk_cell hx3 2).trans rfl
        have x3 : w3.cell? ⟨w2.heap.size, 3, none⟩ = some (.int .i64 q.seats) := (blk_cell hx3 3).trans rfl
        have x4 : w3.cell? ⟨w2.heap.size, 4, none⟩ = some (.slice A n c) := (blk_cell hx3 4).trans rfl
        have x5 : w3.cell? ⟨w2.heap.size, 5, none⟩ = some (.slice F2 m d2) := (blk_cell hx3 5).trans rfl
        have x6 : w3.cell? ⟨w2.heap.size, 6, none⟩ = some (.map (some g)) := (blk_cell hx3 6).trans rfl
        have x7 : w3.cell? ⟨w2.heap.size, 7, none⟩ = some (.slice O n co) := (blk_cell hx3 7).trans rfl
        have lx := blk_lt HX3.out
        clear hw3 hx3
        go_wp2_with (first | (go_at_call 44; (with_reducible refine (minutesOf_any { q with fs := fs2 } A n c F2 m d2 g O co ord gi _ HL3.out HGI.out).mono ?_); rintro e w5 ⟨A5, c5, rfl, ho5, hb5⟩; rw [G.minutesOf_fs HPF.out] at ho5 ⊢; have HO5 := hide ho5; have HZ5 := bkT hb5 HZ3; have HB5 := hide (zbT HB3.out hb5 HB3.out.size); clear ho5 hb5) | (go_at_call 45; (with_reducible refine (contains_any A5 _ c5 (G.minutesOf q gi) (-1) _ rfl (owns_RdI HO5.out rfl) HU1.out).mono ?_); rintro e w6 ⟨rfl, rfl⟩; rw [HCN.out]) | (go_at_call 41; (with_reducible refine (spanOf_any A5 _ c5 (G.minutesOf q gi) _ rfl (owns_RdI HO5.out rfl) HU1.out HU0.out).mono ?_); rintro e w6 ⟨rfl, hb6⟩; have HZ6 := bkT hb6 HZ5; have HB6 := hide (zbT HB5.out hb6 HB5.out.size); clear hb6) | (refine wpList_store_row rfl 23 _ _ rfl b1 _ rfl rfl 23 _ HZ6.out spRow rfl (by simp [Value.oneCell']) ?_))
        refine cap_w (M := bodyPost _ _ _ _ _) _ (fun W9 hW9 => ?_)
        have HR9 := hide (show W9.heap[b1]? = some (.cells #[.int .i64 (G.minL (G.minutesOf q gi)), .int .i64 (G.maxL (G.minutesOf q gi))] 23 (0, 0)) by rw [hW9]; exact setRow_heap _ _ _ _ _ _ HZ6.out)
        have HB9 := hide (show Below w.heap.size w W9 by rw [hW9]; exact below_row HB6.out HBB.out _)
        clear hW9
        have s0 : W9.cell? ⟨b1, 0, none⟩ = some (.int .i64 (G.minL (G.minutesOf q gi))) := (blk_cell HR9.out 0).trans rfl
        have s1 : W9.cell? ⟨b1, 1, none⟩ = some (.int .i64 (G.maxL (G.minutesOf q gi))) := (blk_cell HR9.out 1).trans rfl
        exact bodyPost_ret (v := .tuple #[.agg #[.int .i64 (G.minL (G.minutesOf q gi)), .int .i64 (G.maxL (G.minutesOf q gi))], .int .i64 0]) (by simp [results, Try.results22, go_sem, s0, s1]) rfl ⟨rfl, HB9.out⟩
      · have HCN := hide hc
        have hE : G.sureE q id = 3 := by unfold G.sureE; rw [hv, if_pos rfl, hx]; dsimp only; rw [hc]; rfl
        have hVV : G.sureV q id = (0, 0) := by unfold G.sureV; rw [if_neg (by rw [hE]; decide)]
        have e0 := HER.out
        rw [hE] at e0
        have e1 := HVA.out
        rw [hVV] at e1
        have e2 := HVB.out
        rw [hVV] at e2
        dsimp only at e1 e2
        subst e0 e1 e2
        clear HER HVA HVB
        clear hv hE hVV hx hc
        go_upto_region 2 with (go_at_call 43; (with_reducible refine (openFor_any q id A n c F m d _ HI1.out HID.out).mono ?_); rintro e w2 ⟨hb2, _, hyes⟩; obtain ⟨F2, d2, fs2, g, O, co, ord, rfl, hpf, hL⟩ := (hyes HV.out).2 _ HX.out; have HPF := hide hpf; have HL := hide hL; clear hyes hpf hL; have HB2 := hide (zbT HB1.out hb2 HB1.out.size); have HZ2 := bkT hb2 HZ; clear hb2 q0 q1 q2 q3 q4 q5 lq)
        refine cap_w (M := Code.wp _ _ _ _) _ (fun w3 hw3 => ?_)
        have HB3 := hide (show Below w.heap.size w w3 by rw [hw3]; exact zbA HB2.out HB2.out.size _)
        have HZ3 := hide (show w3.heap[b1]? = some (.cells #[.int .i64 0, .int .i64 0] 23 (0, 0)) by rw [hw3]; exact (Below.heap_alloc _ _ _ (blk_lt HZ2.out)).trans HZ2.out)
        have HX3 := hide (show w3.heap[w2.heap.size]? = some (.cells #[.int .i64 q.opn, .int .i64 q.lo, .int .i64 q.hi, .int .i64 q.seats, .slice A n c, .slice F2 m d2, .map (some g), .slice O n co] 67 (0, 0)) by rw [hw3]; exact World.alloc_heap_new _ _)
        have HL3 := hide (HL.out.below (show Below w2.heap.size w2 w3 by rw [hw3]; exact zbA (zbR _ _) (Nat.le_refl _) _))
        have hx3 := HX3.out
        have x0 : w3.cell? ⟨w2.heap.size, 0, none⟩ = some (.int .i64 q.opn) := (blk_cell hx3 0).trans rfl
        have x1 : w3.cell? ⟨w2.heap.size, 1, none⟩ = some (.int .i64 q.lo) := (blk_cell hx3 1).trans rfl
        have x2 : w3.cell? ⟨w2.heap.size, 2, none⟩ = some (.int .i64 q.hi) := (blk_cell hx3 2).trans rfl
        have x3 : w3.cell? ⟨w2.heap.size, 3, none⟩ = some (.int .i64 q.seats) := (blk_cell hx3 3).trans rfl
        have x4 : w3.cell? ⟨w2.heap.size, 4, none⟩ = some (.slice A n c) := (blk_cell hx3 4).trans rfl
        have x5 : w3.cell? ⟨w2.heap.size, 5, none⟩ = some (.slice F2 m d2) := (blk_cell hx3 5).trans rfl
        have x6 : w3.cell? ⟨w2.heap.size, 6, none⟩ = some (.map (some g)) := (blk_cell hx3 6).trans rfl
        have x7 : w3.cell? ⟨w2.heap.size, 7, none⟩ = some (.slice O n co) := (blk_cell hx3 7).trans rfl
        have lx := blk_lt HX3.out
        clear hw3 hx3
        go_wp2_with (first | (go_at_call 44; (with_reducible refine (minutesOf_any { q with fs := fs2 } A n c F2 m d2 g O co ord gi _ HL3.out HGI.out).mono ?_); rintro e w5 ⟨A5, c5, rfl, ho5, hb5⟩; rw [G.minutesOf_fs HPF.out] at ho5 ⊢; have HO5 := hide ho5; have HZ5 := bkT hb5 HZ3; have HB5 := hide (zbT HB3.out hb5 HB3.out.size); clear ho5 hb5) | (go_at_call 45; (with_reducible refine (contains_any A5 _ c5 (G.minutesOf q gi) (-1) _ rfl (owns_RdI HO5.out rfl) HU1.out).mono ?_); rintro e w6 ⟨rfl, rfl⟩; rw [HCN.out]) | (refine wpList_store_row rfl 23 _ _ rfl b1 _ rfl rfl 23 _ HZ5.out spRow rfl (by simp [Value.oneCell']) ?_))
        refine cap_w (M := bodyPost _ _ _ _ _) _ (fun W9 hW9 => ?_)
        have HR9 := hide (show W9.heap[b1]? = some (.cells #[.int .i64 0, .int .i64 0] 23 (0, 0)) by rw [hW9]; exact setRow_heap _ _ _ _ _ _ HZ5.out)
        have HB9 := hide (show Below w.heap.size w W9 by rw [hW9]; exact below_row HB5.out HBB.out _)
        clear hW9
        have s0 : W9.cell? ⟨b1, 0, none⟩ = some (.int .i64 0) := (blk_cell HR9.out 0).trans rfl
        have s1 : W9.cell? ⟨b1, 1, none⟩ = some (.int .i64 0) := (blk_cell HR9.out 1).trans rfl
        exact bodyPost_ret (v := .tuple #[.agg #[.int .i64 0, .int .i64 0], .int .i64 3]) (by simp [results, Try.results22, go_sem, s0, s1]) rfl ⟨rfl, HB9.out⟩
end Go.Proofs.Ytlpjkolocgkcpaa

namespace Go.Proofs.Ytlpjkolocgkcpaa
open Go.RowKit
attribute [local go_sem ↓] Go.wp_at_zero Go.wp_at_succ

theorem quRow : (Try.prog.info? 27).map (·.size) = some 6 := by kernel_rfl
theorem tmRow : (Try.prog.info? 48).map (·.size) = some 3 := by kernel_rfl
structure ExAt (w : World) (g f p t : Nat) : Prop where
  g : w.heap[g]? = some (.cells #[.int .i64 1, .int .i64 0, .int .i64 2, .int .i64 (-1), .int .i64 2, .int .i64 3, .int .i64 4, .int .i64 12, .int .i64 3, .int .i64 3, .int .i64 2, .int .i64 (-1), .int .i64 4, .int .i64 11, .int .i64 1, .int .i64 (-1)] 42 (0, 0))
  f : w.heap[f]? = some (.cells #[.int .i64 13, .int .i64 3] 54 (0, 0))
  p : w.heap[p]? = some (.cells #[.int .i64 30, .int .i64 90, .int .i64 200] 3 (0, 0))
  t : w.heap[t]? = some (.cells #[.int .i64 1, .int .i64 1001, .int .i64 0, .int .i64 0, .int .i64 2, .int .i64 1001, .int .i64 1, .int .i64 0, .int .i64 3, .int .i64 1001, .int .i64 1, .int .i64 600, .int .i64 4, .int .i64 1001, .int .i64 2, .int .i64 0] 61 (0, 0))
def ExPost (w : World) (e : Ending) (w' : World) : Prop := ∃ g f p t : Nat, e = .returned (.tuple #[.agg #[.int .i64 10, .int .i64 2, .int .i64 3, .int .i64 5, .slice (some ⟨g, 0, none⟩) 4 4, .slice (some ⟨f, 0, none⟩) 1 1], .agg #[.int .i64 60, .int .i64 120, .slice (some ⟨p, 0, none⟩) 3 3], .slice (some ⟨t, 0, none⟩) 4 4]) ∧ ExAt w' g f p t ∧ Below w.heap.size w w'

set_option maxHeartbeats 6400000 in
set_option maxRecDepth 100000 in
theorem Example_any (w : World) : Calls Try.prog 35 #[] w (ExPost w) := by
  go_enter Try.func35, Try.ntmps35
  go_upto_region 2 with fail
  refine cap_w (M := Code.wp _ _ _ _) _ (fun w1 hw1 => ?_)
  have HB1 := hide (show Below w.heap.size w w1 by rw [hw1]; (repeat' first | exact zbR _ _ | assumption | refine zbD ?_ | refine zbA ?_ ?_ _ | refine zbS ?_ ?_ _ | refine zbT ?_ (by assumption) ?_ | (simp; done) | (simp; omega) | omega))
  have H0 := hide (show w1.heap[w.heap.size]? = some (.cells #[.int .i64 0, .int .i64 0, .int .i64 0, .int .i64 0, .slice none 0 0, .slice none 0 0] 27 (0, 0)) by
    rw [hw1]; exact (Below.heap_alloc _ _ _ (by simp <;> omega)).trans ((Below.heap_alloc _ _ _ (by simp <;> omega)).trans ((Below.heap_alloc _ _ _ (by simp <;> omega)).trans ((Below.heap_alloc _ _ _ (by simp)).trans (World.alloc_heap_new _ _)))))
  have H1 := hide (show w1.heap[w.heap.size + 1]? = some (.cells #[.int .i64 0, .int .i64 0, .slice none 0 0] 48 (0, 0)) by
    rw [hw1]; exact (Below.heap_alloc _ _ _ (by simp <;> omega)).trans ((Below.heap_alloc _ _ _ (by simp <;> omega)).trans ((Below.heap_alloc _ _ _ (by simp)).trans (alloc_new_at (by simp)))))
  have H2 := hide (show w1.heap[w.heap.size + 1 + 1]? = some (.cells #[.int .i64 1, .int .i64 0, .int .i64 2, .int .i64 (-1), .int .i64 2, .int .i64 3, .int .i64 4, .int .i64 12, .int .i64 3, .int .i64 3, .int .i64 2, .int .i64 (-1), .int .i64 4, .int .i64 11, .int .i64 1, .int .i64 (-1)] 42 (0, 0)) by
    rw [hw1]; exact (Below.heap_alloc _ _ _ (by simp <;> omega)).trans ((Below.heap_alloc _ _ _ (by simp)).trans (alloc_new_at (by simp))))
  have H3 := hide (show w1.heap[w.heap.size + 1 + 1 + 1]? = some (.cells #[.int .i64 13, .int .i64 3] 54 (0, 0)) by
    rw [hw1]; exact (Below.heap_alloc _ _ _ (by simp)).trans (alloc_new_at (by simp)))
  have H4 := hide (show w1.heap[w.heap.size + 1 + 1 + 1 + 1]? = some (.cells #[.int .i64 10, .int .i64 2, .int .i64 3, .int .i64 5, .slice (some ⟨w.heap.size + 1 + 1, 0, none⟩) 4 4, .slice (some ⟨w.heap.size + 1 + 1 + 1, 0, none⟩) 1 1] 27 (0, 0)) by
    rw [hw1]; exact alloc_new_at (by simp))
  clear hw1
  obtain ⟨b0, hb0⟩ : ∃ x, w.heap.size = x := ⟨_, rfl⟩
  have HE0 := hide hb0
  rw [hb0] at H0 H1 H2 H3 H4 ⊢
  clear hb0
  obtain ⟨b1, hb1⟩ : ∃ x, b0 + 1 = x := ⟨_, rfl⟩
  rw [hb1] at H1 H2 H3 H4 ⊢
  obtain ⟨g, hg⟩ : ∃ x, b1 + 1 = x := ⟨_, rfl⟩
  rw [hg] at H2 H3 H4 ⊢
  obtain ⟨f, hf⟩ : ∃ x, g + 1 = x := ⟨_, rfl⟩
  rw [hf] at H3 H4 ⊢
  obtain ⟨b4, hb4⟩ : ∃ x, f + 1 = x := ⟨_, rfl⟩
  rw [hb4] at H4 ⊢
  have HE := hide (show b0 < b1 ∧ b1 < g ∧ g < f ∧ f < b4 by omega)
  clear hb1 hg hf hb4
  have q0 : w1.cell? ⟨b4, 0, none⟩ = some (.int .i64 10) := (blk_cell H4.out 0).trans rfl
  have q1 : w1.cell? ⟨b4, 1, none⟩ = some (.int .i64 2) := (blk_cell H4.out 1).trans rfl
  have q2 : w1.cell? ⟨b4, 2, none⟩ = some (.int .i64 3) := (blk_cell H4.out 2).trans rfl
  have q3 : w1.cell? ⟨b4, 3, none⟩ = some (.int .i64 5) := (blk_cell H4.out 3).trans rfl
  have q4 : w1.cell? ⟨b4, 4, none⟩ = some (.slice (some ⟨g, 0, none⟩) 4 4) := (blk_cell H4.out 4).trans rfl
  have q5 : w1.cell? ⟨b4, 5, none⟩ = some (.slice (some ⟨f, 0, none⟩) 1 1) := (blk_cell H4.out 5).trans rfl
  have lq := blk_lt H4.out
  go_wp2_with (first | (have HX0 := H0; refine cap_w (M := wpList _ _ _ _ _) _ (fun w2 hw2 => ?_); have HP := hide (show w2.heap[w1.heap.size]? = some (.cells #[.int .i64 30, .int .i64 90, .int .i64 200] 3 (0, 0)) by rw [hw2]; exact (Below.heap_alloc _ _ _ (by simp)).trans (World.alloc_heap_new _ _)); have HT := hide (show w2.heap[w1.heap.size + 1]? = some (.cells #[.int .i64 1, .int .i64 1001, .int .i64 0, .int .i64 0, .int .i64 2, .int .i64 1001, .int .i64 1, .int .i64 0, .int .i64 3, .int .i64 1001, .int .i64 1, .int .i64 600, .int .i64 4, .int .i64 1001, .int .i64 2, .int .i64 0] 61 (0, 0)) by rw [hw2]; exact alloc_new_at (by simp)); have HB2 := hide (show Below w1.heap.size w1 w2 by rw [hw2]; (repeat' first | exact zbR _ _ | assumption | refine zbD ?_ | refine zbA ?_ ?_ _ | refine zbS ?_ ?_ _ | refine zbT ?_ (by assumption) ?_ | (simp; done) | (simp; omega) | omega)); clear hw2 q0 q1 q2 q3 q4 q5 lq; obtain ⟨z1, hz1⟩ : ∃ x, w1.heap.size = x := ⟨_, rfl⟩; have HZ1 := hide hz1; rw [hz1] at HP HT ⊢; clear hz1; obtain ⟨z2, hz2⟩ : ∃ x, z1 + 1 = x := ⟨_, rfl⟩; have HZ2 := hide hz2; rw [hz2] at HT ⊢; clear hz2; refine wpList_store_row rfl 27 _ _ rfl b0 _ rfl rfl 27 _ (bkT HB2.out H0).out quRow rfl (by simp [Value.oneCell']) ?_; refine cap_w (M := wpList _ _ _ _ _) _ (fun w3 hw3 => ?_); have HR0 := hide (show w3.heap[b0]? = some (.cells #[.int .i64 10, .int .i64 2, .int .i64 3, .int .i64 5, .slice (some ⟨g, 0, none⟩) 4 4, .slice (some ⟨f, 0, none⟩) 1 1] 27 (0, 0)) by rw [hw3]; exact setRow_heap _ _ _ _ _ _ (bkT HB2.out H0).out); have HG3 := hide (show w2.grownBy w3 (some b0) by rw [hw3]; exact setRow_grown _ _ _); have H13 := bkG HG3.out (by have := HE.out; simp; omega) (bkT HB2.out H1); clear hw3 H0) | (refine wpList_store_row rfl 48 _ _ rfl b1 _ rfl rfl 48 _ H13.out tmRow rfl (by simp [Value.oneCell']) ?_))
  refine cap_w (M := bodyPost _ _ _ _ _) _ (fun W9 hW9 => ?_)
  have HR1 := hide (show W9.heap[b1]? = some (.cells #[.int .i64 60, .int .i64 120, .slice (some ⟨z1, 0, none⟩) 3 3] 48 (0, 0)) by rw [hW9]; exact setRow_heap _ _ _ _ _ _ H13.out)
  have HG9 := hide (show w3.grownBy W9 (some b1) by rw [hW9]; exact setRow_grown _ _ _)
  clear hW9
  have HR09 := bkG HG9.out (by have := HE.out; simp; omega) HR0
  have hz := blk_lt H4.out
  have HZZ := hide (show b4 < z1 ∧ z1 < z2 by have := HZ1.out; have := HZ2.out; omega)
  have to9 : ∀ (k : Nat) (ob : Obj), k ≠ b0 → k ≠ b1 → w2.heap[k]? = some ob → W9.heap[k]? = some ob := fun k ob h1 h2 h =>
    (bkG HG9.out (by simpa using h2) (bkG HG3.out (by simpa using h1) (hide h))).out
  have s0 : W9.cell? ⟨b0, 0, none⟩ = some (.int .i64 10) := (blk_cell HR09.out 0).trans rfl
  have s1 : W9.cell? ⟨b0, 1, none⟩ = some (.int .i64 2) := (blk_cell HR09.out 1).trans rfl
  have s2 : W9.cell? ⟨b0, 2, none⟩ = some (.int .i64 3) := (blk_cell HR09.out 2).trans rfl
  have s3 : W9.cell? ⟨b0, 3, none⟩ = some (.int .i64 5) := (blk_cell HR09.out 3).trans rfl
  have s4 : W9.cell? ⟨b0, 4, none⟩ = some (.slice (some ⟨g, 0, none⟩) 4 4) := (blk_cell HR09.out 4).trans rfl
  have s5 : W9.cell? ⟨b0, 5, none⟩ = some (.slice (some ⟨f, 0, none⟩) 1 1) := (blk_cell HR09.out 5).trans rfl
  have x0 : W9.cell? ⟨b1, 0, none⟩ = some (.int .i64 60) := (blk_cell HR1.out 0).trans rfl
  have x1 : W9.cell? ⟨b1, 1, none⟩ = some (.int .i64 120) := (blk_cell HR1.out 1).trans rfl
  have x2 : W9.cell? ⟨b1, 2, none⟩ = some (.slice (some ⟨z1, 0, none⟩) 3 3) := (blk_cell HR1.out 2).trans rfl
  have HB := hide (show Below w.heap.size w W9 from ((zbT HB1.out HB2.out HB1.out.size).trans (grown_below HG3.out (Nat.le_trans HB1.out.size HB2.out.size) (fun y hy => by have h5 := Option.some.inj hy; have := HE0.out; omega))).trans (grown_below HG9.out (Nat.le_trans (Nat.le_trans HB1.out.size HB2.out.size) HG3.out.size) (fun y hy => by have h5 := Option.some.inj hy; have := HE0.out; have := HE.out; omega)))
  have he := HE.out
  have hzz := HZZ.out
  refine bodyPost_ret (v := .tuple #[.agg #[.int .i64 10, .int .i64 2, .int .i64 3, .int .i64 5, .slice (some ⟨g, 0, none⟩) 4 4, .slice (some ⟨f, 0, none⟩) 1 1], .agg #[.int .i64 60, .int .i64 120, .slice (some ⟨z1, 0, none⟩) 3 3], .slice (some ⟨z2, 0, none⟩) 4 4]) (by simp [results, Try.results35, go_sem, s0, s1, s2, s3, s4, s5, x0, x1, x2]) rfl ⟨g, f, z1, z2, rfl, ⟨?_, ?_, ?_, ?_⟩, HB.out⟩
  · exact to9 _ _ (by omega) (by omega) (bkT HB2.out H2).out
  · exact to9 _ _ (by omega) (by omega) (bkT HB2.out H3).out
  · exact to9 _ _ (by omega) (by omega) HP.out
  · exact to9 _ _ (by omega) (by omega) HT.out
end Go.Proofs.Ytlpjkolocgkcpaa

namespace Go.Proofs.Ytlpjkolocgkcpaa
open Go.RowKit
attribute [local go_sem ↓] Go.wp_at_zero Go.wp_at_succ

set_option maxHeartbeats 3200000 in
set_option maxRecDepth 100000 in
theorem sameInts_eq (A1 A2 : Option Addr) (n c1 c2 : Nat) (xs : List Int) (w : World) (hn : xs.length = n) (hr1 : RdI w w.heap.size A1 xs) (hr2 : RdI w w.heap.size A2 xs) (hm : n ≤ 1000000) :
    Calls Try.prog 21 #[.slice A1 n c1, .slice A2 n c2] w fun e w' => e = .returned (.bool true) ∧ Below w.heap.size w w' := by
  have HN := hide hn
  have HR1 := hide hr1
  have HR2 := hide hr2
  clear hn hr1 hr2
  go_enter Try.func21, Try.ntmps21
  go_wp2_with fail
  go_loopw [5] (fun i wr => ∃ k : Nat, k ≤ n ∧ i = .int .i64 k ∧ Below w.heap.size w wr) (fun i _ => n - (intOf i).toNat)
  case atStart => exact ⟨0, by omega, rfl, by (repeat' first | exact zbR _ _ | assumption | refine zbD ?_ | refine zbA ?_ ?_ _ | refine zbS ?_ ?_ _ | refine zbT ?_ (by assumption) ?_ | (simp; done) | (simp; omega) | omega)⟩
  case round =>
    obtain ⟨k, hk, rfl, hB⟩ := hrel
    by_cases hlt : k < n
    · obtain ⟨p, hp'⟩ : ∃ q, xs[k]? = some q := ⟨_, List.getElem?_eq_getElem (by have := HN.out; omega)⟩
      obtain ⟨b, o, hA, hbB, c0⟩ := (HR1.out.below hB) k p hp'
      obtain ⟨b2, o2, hA2, hbB2, d0⟩ := (HR2.out.below hB) k p hp'
      subst hA hA2
      clear hp'
      have hlt' : (k : Int) < (n : Int) := by omega
      have hk0 : (0 : Int) ≤ (k : Int) := by omega
      go_wp2_with fail
      go_quiet (fail)
      go_wp2_with fail
      go_roundw
      case rel => exact ⟨k + 1, by omega, by go_num, below_drewN hB _⟩
      case measure => simp [intOf]; omega
    · have hkn : k = n := by omega
      subst hkn
      go_wp2_with fail
      go_ret
      exact ⟨rfl, hB⟩


theorem ExAt.qin {w : World} {g f p t : Nat} (h : ExAt w g f p t) : QIn w G.exQ (some ⟨g, 0, none⟩) 4 4 (some ⟨f, 0, none⟩) 1 1 := by
  have c : ∀ i, w.cell? ⟨g, i, none⟩ = _ := fun i => blk_cell h.g i
  have d : ∀ i, w.cell? ⟨f, i, none⟩ = _ := fun i => blk_cell h.f i
  refine ⟨rfl, rfl, by omega, by omega, fun k q hk => ?_, fun k q hk => ?_, fun b o e => ?_, fun e => (by cases e), fun q hq => ?_⟩
  · refine ⟨g, 0, rfl, blk_lt h.g, ?_⟩
    match k, hk with
    | 0, hk => cases hk; exact ⟨c 0, c 1, c 2, c 3⟩
    | 1, hk => cases hk; exact ⟨c 4, c 5, c 6, c 7⟩
    | 2, hk => cases hk; exact ⟨c 8, c 9, c 10, c 11⟩
    | 3, hk => cases hk; exact ⟨c 12, c 13, c 14, c 15⟩
    | k + 4, hk => cases hk
  · refine ⟨f, 0, rfl, blk_lt h.f, ?_⟩
    match k, hk with
    | 0, hk => cases hk; exact ⟨d 0, d 1⟩
    | k + 1, hk => cases hk
  · have : g = b := by simpa using congrArg (fun x => x.map (·.block)) e
    rw [← this]
    exact blk_lt h.g
  · simp only [G.exQ, List.mem_cons, List.not_mem_nil, or_false] at hq
    rcases hq with rfl | rfl | rfl | rfl <;> rfl
theorem ExAt.played {w : World} {g f p t : Nat} (h : ExAt w g f p t) : RdI w w.heap.size (some ⟨p, 0, none⟩) G.exX.played := by
  have c : ∀ i, w.cell? ⟨p, i, none⟩ = _ := fun i => blk_cell h.p i
  intro k x hk
  refine ⟨p, 0, rfl, blk_lt h.p, ?_⟩
  match k, hk with
  | 0, hk => cases hk; exact c 0
  | 1, hk => cases hk; exact c 1
  | 2, hk => cases hk; exact c 2
  | k + 3, hk => cases hk
theorem ExAt.tickets {w : World} {g f p t : Nat} (h : ExAt w g f p t) : RdT w w.heap.size (some ⟨t, 0, none⟩) G.exL := by
  have c : ∀ i, w.cell? ⟨t, i, none⟩ = _ := fun i => blk_cell h.t i
  intro k x hk
  refine ⟨t, 0, rfl, blk_lt h.t, ?_⟩
  match k, hk with
  | 0, hk => cases hk; exact ⟨c 0, c 1, c 2, c 3⟩
  | 1, hk => cases hk; exact ⟨c 4, c 5, c 6, c 7⟩
  | 2, hk => cases hk; exact ⟨c 8, c 9, c 10, c 11⟩
  | 3, hk => cases hk; exact ⟨c 12, c 13, c 14, c 15⟩
  | k + 4, hk => cases hk
theorem ExAt.below {w w' : World} {g f p t : Nat} (h : ExAt w g f p t) (hb : Below w.heap.size w w') : ExAt w' g f p t :=
  ⟨(bkT hb h.g).out, (bkT hb h.f).out, (bkT hb h.p).out, (bkT hb h.t).out⟩
end Go.Proofs.Ytlpjkolocgkcpaa

namespace Go.Proofs.Ytlpjkolocgkcpaa
open Go.RowKit
attribute [local go_sem ↓] Go.wp_at_zero Go.wp_at_succ

theorem ex_Enter {g f p t : Nat} (W : World) (h : ExAt W g f p t) : Calls Try.prog 17 #[.agg #[.int .i64 10, .int .i64 2, .int .i64 3, .int .i64 5, .slice (some ⟨g, 0, none⟩) 4 4, .slice (some ⟨f, 0, none⟩) 1 1], .int .i64 2] W fun e w' => ∃ (A : Option Addr) (c : Nat), e = .returned (.tuple #[.slice A 4 c, .int .i64 0]) ∧ RdI w' w'.heap.size A [10, -1, 12, 13] ∧ Below W.heap.size W w' :=
  (Enter_any G.exQ (some ⟨g, 0, none⟩) 4 4 (some ⟨f, 0, none⟩) 1 1 2 W h.qin).mono fun e w' h => by
    rw [G.ex_enter.1, G.ex_enter.2] at h
    obtain ⟨A, c, rfl, ho, hb⟩ := h
    exact ⟨A, c, rfl, owns_RdI ho rfl, hb⟩
theorem ex_Sure {g f p t : Nat} (W : World) (h : ExAt W g f p t) : Calls Try.prog 22 #[.agg #[.int .i64 10, .int .i64 2, .int .i64 3, .int .i64 5, .slice (some ⟨g, 0, none⟩) 4 4, .slice (some ⟨f, 0, none⟩) 1 1], .int .i64 4] W fun e w' => e = .returned (.tuple #[.agg #[.int .i64 12, .int .i64 13], .int .i64 0]) ∧ Below W.heap.size W w' :=
  (Sure_any G.exQ 4 (some ⟨g, 0, none⟩) 4 4 (some ⟨f, 0, none⟩) 1 1 W h.qin rfl).mono fun e w' h => by
    rw [G.ex_sure.1, G.ex_sure.2] at h
    exact h
theorem ex_Enough {g f p t : Nat} (W : World) (h : ExAt W g f p t) : Calls Try.prog 24 #[.agg #[.int .i64 10, .int .i64 2, .int .i64 3, .int .i64 5, .slice (some ⟨g, 0, none⟩) 4 4, .slice (some ⟨f, 0, none⟩) 1 1], .int .i64 2] W fun e w' => e = .returned (.tuple #[.int .i64 1, .int .i64 0]) ∧ Below W.heap.size W w' :=
  (Enough_any G.exQ 2 (some ⟨g, 0, none⟩) 4 4 (some ⟨f, 0, none⟩) 1 1 W h.qin rfl).mono fun e w' h => by
    rw [G.ex_enough.1, G.ex_enough.2] at h
    exact h
theorem ex_Total {g f p t : Nat} (W : World) (h : ExAt W g f p t) : Calls Try.prog 28 #[.agg #[.int .i64 60, .int .i64 120, .slice (some ⟨p, 0, none⟩) 3 3], .slice (some ⟨t, 0, none⟩) 4 4] W fun e w' => e = .returned (.tuple #[.int .i64 1501, .int .i64 0]) ∧ Below W.heap.size W w' :=
  (Total_any G.exX (some ⟨p, 0, none⟩) 3 3 (some ⟨t, 0, none⟩) 4 4 G.exL W rfl h.played (by omega) rfl h.tickets (fun q hq => by
    simp only [G.exL, List.mem_cons, List.not_mem_nil, or_false] at hq
    rcases hq with rfl | rfl | rfl | rfl <;> rfl) (by omega)).mono fun e w' h => by
    rw [G.ex_total.1, G.ex_total.2] at h
    exact h

theorem rdI_four {w : World} {q : Nat} {x y u v : Int} (hq : w.heap[q]? = some (.cells #[.int .i64 x, .int .i64 y, .int .i64 u, .int .i64 v] 3 (0, 0))) : RdI w w.heap.size (some ⟨q, 0, none⟩) [x, y, u, v] := by
  have c : ∀ i, w.cell? ⟨q, i, none⟩ = _ := fun i => blk_cell hq i
  intro k z hk
  refine ⟨q, 0, rfl, blk_lt hq, ?_⟩
  match k, hk with
  | 0, hk => cases hk; exact c 0
  | 1, hk => cases hk; exact c 1
  | 2, hk => cases hk; exact c 2
  | 3, hk => cases hk; exact c 3
  | k + 4, hk => cases hk

set_option maxHeartbeats 6400000 in
set_option maxRecDepth 100000 in
theorem works_any (w : World) : Calls Try.prog 13 #[] w fun e w' => e = .returned (.bool true) ∧ Below w.heap.size w w' := by
  go_enter Try.func13, Try.ntmps13
  go_upto_region 2 with (go_at_call 35; (with_reducible refine (Example_any _).mono ?_); rintro e w1 ⟨g, f, p, t, rfl, hx, hb⟩; have HX := hide hx; have HB1 := hide hb; clear hx hb)
  refine cap_w (M := Code.wp _ _ _ _) _ (fun w2 hw2 => ?_)
  have HB2 := hide (show Below w.heap.size w w2 by rw [hw2]; exact zbA (zbA HB1.out HB1.out.size _) (Nat.le_trans HB1.out.size (by simp)) _)
  have HX2 := hide (show ExAt w2 g f p t by rw [hw2]; exact HX.out.below (zbA (zbA (zbR _ _) (Nat.le_refl _) _) (by simp) _))
  have HQ2 := hide (show w2.heap[w1.heap.size]? = some (.cells #[.int .i64 10, .int .i64 2, .int .i64 3, .int .i64 5, .slice (some ⟨g, 0, none⟩) 4 4, .slice (some ⟨f, 0, none⟩) 1 1] 27 (0, 0)) by rw [hw2]; exact (Below.heap_alloc _ _ _ (by simp)).trans (World.alloc_heap_new _ _))
  have HT2 := hide (show w2.heap[w1.heap.size + 1]? = some (.cells #[.int .i64 60, .int .i64 120, .slice (some ⟨p, 0, none⟩) 3 3] 48 (0, 0)) by rw [hw2]; exact alloc_new_at (by simp))
  clear hw2
  obtain ⟨bq, hbq⟩ : ∃ x, w1.heap.size = x := ⟨_, rfl⟩
  rw [hbq] at HQ2 HT2 ⊢
  clear hbq
  obtain ⟨bx, hbx⟩ : ∃ x, bq + 1 = x := ⟨_, rfl⟩
  rw [hbx] at HT2 ⊢
  clear hbx
  have q0 : w2.cell? ⟨bq, 0, none⟩ = some (.int .i64 10) := (blk_cell HQ2.out 0).trans rfl
  have q1 : w2.cell? ⟨bq, 1, none⟩ = some (.int .i64 2) := (blk_cell HQ2.out 1).trans rfl
  have q2 : w2.cell? ⟨bq, 2, none⟩ = some (.int .i64 3) := (blk_cell HQ2.out 2).trans rfl
  have q3 : w2.cell? ⟨bq, 3, none⟩ = some (.int .i64 5) := (blk_cell HQ2.out 3).trans rfl
  have q4 : w2.cell? ⟨bq, 4, none⟩ = some (.slice (some ⟨g, 0, none⟩) 4 4) := (blk_cell HQ2.out 4).trans rfl
  have q5 : w2.cell? ⟨bq, 5, none⟩ = some (.slice (some ⟨f, 0, none⟩) 1 1) := (blk_cell HQ2.out 5).trans rfl
  have lq := blk_lt HQ2.out
  go_upto_region 3 with (go_at_call 17; (with_reducible refine (ex_Enter _ HX2.out).mono ?_); rintro e w3 ⟨A3, c3, rfl, hr3, hb3⟩; have HR3 := hide hr3; have HX3 := hide (HX2.out.below hb3); have HQ3 := bkT hb3 HQ2; have HT3 := bkT hb3 HT2; have HB3 := hide (zbT HB2.out hb3 HB2.out.size); clear hr3 hb3 q0 q1 q2 q3 q4 q5 lq)
  have q0 : w3.cell? ⟨bq, 0, none⟩ = some (.int .i64 10) := (blk_cell HQ3.out 0).trans rfl
  have q1 : w3.cell? ⟨bq, 1, none⟩ = some (.int .i64 2) := (blk_cell HQ3.out 1).trans rfl
  have q2 : w3.cell? ⟨bq, 2, none⟩ = some (.int .i64 3) := (blk_cell HQ3.out 2).trans rfl
  have q3 : w3.cell? ⟨bq, 3, none⟩ = some (.int .i64 5) := (blk_cell HQ3.out 3).trans rfl
  have q4 : w3.cell? ⟨bq, 4, none⟩ = some (.slice (some ⟨g, 0, none⟩) 4 4) := (blk_cell HQ3.out 4).trans rfl
  have q5 : w3.cell? ⟨bq, 5, none⟩ = some (.slice (some ⟨f, 0, none⟩) 1 1) := (blk_cell HQ3.out 5).trans rfl
  have lq := blk_lt HQ3.out
  go_upto_region 4 with (go_at_call 22; (with_reducible refine (ex_Sure _ HX3.out).mono ?_); rintro e w4 ⟨rfl, hb4⟩; have HR4 := hide ((HR3.out.below hb4).mono hb4.size); have HX4 := hide (HX3.out.below hb4); have HQ4 := bkT hb4 HQ3; have HT4 := bkT hb4 HT3; have HB4 := hide (zbT HB3.out hb4 HB3.out.size); clear hb4 q0 q1 q2 q3 q4 q5 lq)
  refine cap_w (M := Code.wp _ _ _ _) _ (fun w5 hw5 => ?_)
  have hb5 : Below w4.heap.size w4 w5 := by rw [hw5]; exact zbA (zbR _ _) (Nat.le_refl _) _
  have HS5 := hide (show w5.heap[w4.heap.size]? = some (.cells #[.int .i64 12, .int .i64 13] 23 (0, 0)) by rw [hw5]; exact World.alloc_heap_new _ _)
  have HR5 := hide ((HR4.out.below hb5).mono hb5.size)
  have HX5 := hide (HX4.out.below hb5)
  have HQ5 := bkT hb5 HQ4
  have HT5 := bkT hb5 HT4
  have HB5 := hide (zbT HB4.out hb5 HB4.out.size)
  clear hw5 hb5
  obtain ⟨bs, hbs⟩ : ∃ x, w4.heap.size = x := ⟨_, rfl⟩
  rw [hbs] at HS5 ⊢
  clear hbs
  have q0 : w5.cell? ⟨bq, 0, none⟩ = some (.int .i64 10) := (blk_cell HQ5.out 0).trans rfl
  have q1 : w5.cell? ⟨bq, 1, none⟩ = some (.int .i64 2) := (blk_cell HQ5.out 1).trans rfl
  have q2 : w5.cell? ⟨bq, 2, none⟩ = some (.int .i64 3) := (blk_cell HQ5.out 2).trans rfl
  have q3 : w5.cell? ⟨bq, 3, none⟩ = some (.int .i64 5) := (blk_cell HQ5.out 3).trans rfl
  have q4 : w5.cell? ⟨bq, 4, none⟩ = some (.slice (some ⟨g, 0, none⟩) 4 4) := (blk_cell HQ5.out 4).trans rfl
  have q5 : w5.cell? ⟨bq, 5, none⟩ = some (.slice (some ⟨f, 0, none⟩) 1 1) := (blk_cell HQ5.out 5).trans rfl
  have lq := blk_lt HQ5.out
  go_upto_region 5 with (go_at_call 24; (with_reducible refine (ex_Enough _ HX5.out).mono ?_); rintro e w6 ⟨rfl, hb6⟩; have HR6 := hide ((HR5.out.below hb6).mono hb6.size); have HX6 := hide (HX5.out.below hb6); have HT6 := bkT hb6 HT5; have HS6 := bkT hb6 HS5; have HB6 := hide (zbT HB5.out hb6 HB5.out.size); clear hb6 q0 q1 q2 q3 q4 q5 lq)
  have x0 : w6.cell? ⟨bx, 0, none⟩ = some (.int .i64 60) := (blk_cell HT6.out 0).trans rfl
  have x1 : w6.cell? ⟨bx, 1, none⟩ = some (.int .i64 120) := (blk_cell HT6.out 1).trans rfl
  have x2 : w6.cell? ⟨bx, 2, none⟩ = some (.slice (some ⟨p, 0, none⟩) 3 3) := (blk_cell HT6.out 2).trans rfl
  have lx := blk_lt HT6.out
  go_upto_region 6 with (go_at_call 28; (with_reducible refine (ex_Total _ HX6.out).mono ?_); rintro e w7 ⟨rfl, hb7⟩; have HR7 := hide ((HR6.out.below hb7).mono hb7.size); have HS7 := bkT hb7 HS6; have HB7 := hide (zbT HB6.out hb7 HB6.out.size); clear hb7 x0 x1 x2 lx)
  have s0 : w7.cell? ⟨bs, 0, none⟩ = some (.int .i64 12) := (blk_cell HS7.out 0).trans rfl
  have s1 : w7.cell? ⟨bs, 1, none⟩ = some (.int .i64 13) := (blk_cell HS7.out 1).trans rfl
  have ls := blk_lt HS7.out
  go_wp2_with (go_at_call 21; (with_reducible refine (sameInts_eq A3 _ 4 c3 4 [10, -1, 12, 13] _ rfl ((HR7.out.below (zbA (zbR _ _) (Nat.le_refl _) _)).mono (by simp)) (rdI_four (World.alloc_heap_new _ _)) (by omega)).mono ?_); rintro e w8 ⟨rfl, hb8⟩; have HB8 := hide (zbT (zbA HB7.out HB7.out.size _) hb8 (Nat.le_trans HB7.out.size (by simp))); have HS8 := hide ((hb8.block bs (by simp; omega)).trans ((Below.heap_alloc _ _ _ ls).trans HS7.out)); clear hb8 s0 s1 ls; have s0 : w8.cell? ⟨bs, 0, none⟩ = some (.int .i64 12) := (blk_cell HS8.out 0).trans rfl; have s1 : w8.cell? ⟨bs, 1, none⟩ = some (.int .i64 13) := (blk_cell HS8.out 1).trans rfl; have ls := blk_lt HS8.out)
  go_ret
  exact ⟨rfl, HB8.out⟩
end Go.Proofs.Ytlpjkolocgkcpaa

namespace Go.Proofs.Ytlpjkolocgkcpaa
open Go.RowKit
attribute [local go_sem ↓] Go.wp_at_zero Go.wp_at_succ

namespace G
def E0 (M : List Int) (x : Int) (c : Nat) : Bool := (M.take c).any (fun v => v == x)
def NV (M : List Int) (c : Nat) : Bool := (M.take c).any (fun v => decide (v < 0))
theorem E0_step {M : List Int} {c : Nat} {v : Int} (h : M[c]? = some v) (x : Int) : E0 M x (c + 1) = (E0 M x c || v == x) := any_take_step h _
theorem NV_step {M : List Int} {c : Nat} {v : Int} (h : M[c]? = some v) : NV M (c + 1) = (NV M c || decide (v < 0)) := any_take_step h _
end G
set_option maxHeartbeats 12800000 in
set_option maxRecDepth 100000 in
theorem withinLaw_any (q : G.Qu) (A : Option Addr) (n c : Nat) (F : Option Addr) (m d : Nat) (rate mi id : Int) (w : World) (h : QIn w q A n c F m d) (hn : n ≤ 100) (hm : m ≤ 100) (hid : (Lit.int .i64 id).wf = true) :
    Calls Try.prog 9 #[.agg #[.int .i64 q.opn, .int .i64 q.lo, .int .i64 q.hi, .int .i64 q.seats, .slice A n c, .slice F m d], .agg #[.int .i64 rate, .int .i64 mi, .int .i64 id]] w fun e w' => e = .returned (.bool true) ∧ Below w.heap.size w w' := by
  have HI := hide h
  have HWI := hide hid
  clear h hid
  cases hrd : G.rdy q rate
  · have HRD := hide hrd
    clear hrd
    go_enter Try.func9, Try.ntmps9
    go_wp2_with (first | (go_at_call 30; (with_reducible refine (ready_any q A n c F m d rate _ (HI.out.below (show Below w.heap.size w _ by (repeat' first | exact zbR _ _ | assumption | refine zbD ?_ | refine zbA ?_ ?_ _ | refine zbS ?_ ?_ _ | refine zbT ?_ (by assumption) ?_ | (simp; done) | (simp; omega) | omega))) hn hm).mono ?_); rintro e w1 ⟨rfl, hb1⟩; rw [HRD.out]; have HB1 := hide (zbT (show Below w.heap.size w _ by (repeat' first | exact zbR _ _ | assumption | refine zbD ?_ | refine zbA ?_ ?_ _ | refine zbS ?_ ?_ _ | refine zbT ?_ (by assumption) ?_ | (simp; done) | (simp; omega) | omega)) hb1 (by simp; omega)); have HQ1 := hide ((hb1.block _ (by simp; omega)).trans ((Below.heap_alloc _ _ _ (by simp)).trans (World.alloc_heap_new w (.cells #[.int .i64 q.opn, .int .i64 q.lo, .int .i64 q.hi, .int .i64 q.seats, .slice A n c, .slice F m d] 27 (0, 0))))); have HA1 := hide ((hb1.block (w.heap.size + 1) (by simp)).trans (alloc_new_at (O := .cells #[.int .i64 rate, .int .i64 mi, .int .i64 id] 29 (0, 0)) (by simp))); clear hb1; have q0 : w1.cell? ⟨w.heap.size, 0, none⟩ = some (.int .i64 q.opn) := (blk_cell HQ1.out 0).trans rfl; have q1 : w1.cell? ⟨w.heap.size, 1, none⟩ = some (.int .i64 q.lo) := (blk_cell HQ1.out 1).trans rfl; have q2 : w1.cell? ⟨w.heap.size, 2, none⟩ = some (.int .i64 q.hi) := (blk_cell HQ1.out 2).trans rfl; have q3 : w1.cell? ⟨w.heap.size, 3, none⟩ = some (.int .i64 q.seats) := (blk_cell HQ1.out 3).trans rfl; have q4 : w1.cell? ⟨w.heap.size, 4, none⟩ = some (.slice A n c) := (blk_cell HQ1.out 4).trans rfl; have q5 : w1.cell? ⟨w.heap.size, 5, none⟩ = some (.slice F m d) := (blk_cell HQ1.out 5).trans rfl; have lq := blk_lt HQ1.out; have a0 : w1.cell? ⟨w.heap.size + 1, 0, none⟩ = some (.int .i64 rate) := (blk_cell HA1.out 0).trans rfl; have a1 : w1.cell? ⟨w.heap.size + 1, 1, none⟩ = some (.int .i64 mi) := (blk_cell HA1.out 1).trans rfl; have a2 : w1.cell? ⟨w.heap.size + 1, 2, none⟩ = some (.int .i64 id) := (blk_cell HA1.out 2).trans rfl; have la := blk_lt HA1.out) | (go_at_call 13; (with_reducible refine (works_any _).mono ?_); rintro e w9 ⟨rfl, hb9⟩; have HB9 := hide (zbT HB1.out hb9 HB1.out.size); clear hb9))
    go_ret
    exact ⟨rfl, HB9.out⟩
  · have HRD := hide hrd
    have HRY := hide (G.rdy_get hrd)
    clear hrd
    have hr1 : 1 ≤ q.lo := HRY.out.v.l0
    have hr2 : q.lo ≤ q.hi := HRY.out.v.lh
    have hr3 : q.hi ≤ 100 := HRY.out.v.h1
    by_cases hmi0 : mi < 0
    · go_enter Try.func9, Try.ntmps9
      go_wp2_with (first | (go_at_call 30; (with_reducible refine (ready_any q A n c F m d rate _ (HI.out.below (show Below w.heap.size w _ by (repeat' first | exact zbR _ _ | assumption | refine zbD ?_ | refine zbA ?_ ?_ _ | refine zbS ?_ ?_ _ | refine zbT ?_ (by assumption) ?_ | (simp; done) | (simp; omega) | omega))) hn hm).mono ?_); rintro e w1 ⟨rfl, hb1⟩; rw [HRD.out]; have HB1 := hide (zbT (show Below w.heap.size w _ by (repeat' first | exact zbR _ _ | assumption | refine zbD ?_ | refine zbA ?_ ?_ _ | refine zbS ?_ ?_ _ | refine zbT ?_ (by assumption) ?_ | (simp; done) | (simp; omega) | omega)) hb1 (by simp; omega)); have HQ1 := hide ((hb1.block _ (by simp; omega)).trans ((Below.heap_alloc _ _ _ (by simp)).trans (World.alloc_heap_new w (.cells #[.int .i64 q.opn, .int .i64 q.lo, .int .i64 q.hi, .int .i64 q.seats, .slice A n c, .slice F m d] 27 (0, 0))))); have HA1 := hide ((hb1.block (w.heap.size + 1) (by simp)).trans (alloc_new_at (O := .cells #[.int .i64 rate, .int .i64 mi, .int .i64 id] 29 (0, 0)) (by simp))); clear hb1; have q0 : w1.cell? ⟨w.heap.size, 0, none⟩ = some (.int .i64 q.opn) := (blk_cell HQ1.out 0).trans rfl; have q1 : w1.cell? ⟨w.heap.size, 1, none⟩ = some (.int .i64 q.lo) := (blk_cell HQ1.out 1).trans rfl; have q2 : w1.cell? ⟨w.heap.size, 2, none⟩ = some (.int .i64 q.hi) := (blk_cell HQ1.out 2).trans rfl; have q3 : w1.cell? ⟨w.heap.size, 3, none⟩ = some (.int .i64 q.seats) := (blk_cell HQ1.out 3).trans rfl; have q4 : w1.cell? ⟨w.heap.size, 4, none⟩ = some (.slice A n c) := (blk_cell HQ1.out 4).trans rfl; have q5 : w1.cell? ⟨w.heap.size, 5, none⟩ = some (.slice F m d) := (blk_cell HQ1.out 5).trans rfl; have lq := blk_lt HQ1.out; have a0 : w1.cell? ⟨w.heap.size + 1, 0, none⟩ = some (.int .i64 rate) := (blk_cell HA1.out 0).trans rfl; have a1 : w1.cell? ⟨w.heap.size + 1, 1, none⟩ = some (.int .i64 mi) := (blk_cell HA1.out 1).trans rfl; have a2 : w1.cell? ⟨w.heap.size + 1, 2, none⟩ = some (.int .i64 id) := (blk_cell HA1.out 2).trans rfl; have la := blk_lt HA1.out) | (go_at_call 13; (with_reducible refine (works_any _).mono ?_); rintro e w9 ⟨rfl, hb9⟩; have HB9 := hide (zbT HB1.out hb9 HB1.out.size); clear hb9))
      go_ret
      exact ⟨rfl, HB9.out⟩
    · have hmi0' : 0 ≤ mi := by omega
      by_cases hmi1 : 1440 < mi
      · clear hmi0
        go_enter Try.func9, Try.ntmps9
        go_wp2_with (first | (go_at_call 30; (with_reducible refine (ready_any q A n c F m d rate _ (HI.out.below (show Below w.heap.size w _ by (repeat' first | exact zbR _ _ | assumption | refine zbD ?_ | refine zbA ?_ ?_ _ | refine zbS ?_ ?_ _ | refine zbT ?_ (by assumption) ?_ | (simp; done) | (simp; omega) | omega))) hn hm).mono ?_); rintro e w1 ⟨rfl, hb1⟩; rw [HRD.out]; have HB1 := hide (zbT (show Below w.heap.size w _ by (repeat' first | exact zbR _ _ | assumption | refine zbD ?_ | refine zbA ?_ ?_ _ | refine zbS ?_ ?_ _ | refine zbT ?_ (by assumption) ?_ | (simp; done) | (simp; omega) | omega)) hb1 (by simp; omega)); have HQ1 := hide ((hb1.block _ (by simp; omega)).trans ((Below.heap_alloc _ _ _ (by simp)).trans (World.alloc_heap_new w (.cells #[.int .i64 q.opn, .int .i64 q.lo, .int .i64 q.hi, .int .i64 q.seats, .slice A n c, .slice F m d] 27 (0, 0))))); have HA1 := hide ((hb1.block (w.heap.size + 1) (by simp)).trans (alloc_new_at (O := .cells #[.int .i64 rate, .int .i64 mi, .int .i64 id] 29 (0, 0)) (by simp))); clear hb1; have q0 : w1.cell? ⟨w.heap.size, 0, none⟩ = some (.int .i64 q.opn) := (blk_cell HQ1.out 0).trans rfl; have q1 : w1.cell? ⟨w.heap.size, 1, none⟩ = some (.int .i64 q.lo) := (blk_cell HQ1.out 1).trans rfl; have q2 : w1.cell? ⟨w.heap.size, 2, none⟩ = some (.int .i64 q.hi) := (blk_cell HQ1.out 2).trans rfl; have q3 : w1.cell? ⟨w.heap.size, 3, none⟩ = some (.int .i64 q.seats) := (blk_cell HQ1.out 3).trans rfl; have q4 : w1.cell? ⟨w.heap.size, 4, none⟩ = some (.slice A n c) := (blk_cell HQ1.out 4).trans rfl; have q5 : w1.cell? ⟨w.heap.size, 5, none⟩ = some (.slice F m d) := (blk_cell HQ1.out 5).trans rfl; have lq := blk_lt HQ1.out; have a0 : w1.cell? ⟨w.heap.size + 1, 0, none⟩ = some (.int .i64 rate) := (blk_cell HA1.out 0).trans rfl; have a1 : w1.cell? ⟨w.heap.size + 1, 1, none⟩ = some (.int .i64 mi) := (blk_cell HA1.out 1).trans rfl; have a2 : w1.cell? ⟨w.heap.size + 1, 2, none⟩ = some (.int .i64 id) := (blk_cell HA1.out 2).trans rfl; have la := blk_lt HA1.out) | (go_at_call 13; (with_reducible refine (works_any _).mono ?_); rintro e w9 ⟨rfl, hb9⟩; have HB9 := hide (zbT HB1.out hb9 HB1.out.size); clear hb9))
        go_ret
        exact ⟨rfl, HB9.out⟩
      · have hmi1' : mi ≤ 1440 := by omega
        clear hmi0 hmi1
        have HIE := hide (show G.insideE q mi = 0 by unfold G.insideE; rw [if_pos (G.valid_iff.2 HRY.out.v), if_pos (by unfold G.vMin G.within; simp; omega)])
        have HIV := hide (show G.insideV q mi = (G.minL (G.upTo q mi), G.maxL (G.upTo q mi)) by unfold G.insideV; rw [if_pos HIE.out])
        obtain ⟨U, hU⟩ : ∃ x, G.upTo q mi = x := ⟨_, rfl⟩
        obtain ⟨tL, htL⟩ : ∃ x, (G.insideV q mi).1 = x := ⟨_, rfl⟩
        obtain ⟨tH, htH⟩ : ∃ x, (G.insideV q mi).2 = x := ⟨_, rfl⟩
        have HTL := hide htL
        have HTH := hide htH
        have HUT := hide (show tL = G.minL U ∧ tH = G.maxL U by rw [← htL, ← htH, HIV.out, hU]; exact ⟨rfl, rfl⟩)
        have HUG := hide (fun (j : Nat) (hj : j < (q.hi - q.lo + 1).toNat) => (hU ▸ G.upTo_get HRY.out.v mi hj : U[j]? = _))
        have HUL := hide (show U.length = (q.hi - q.lo + 1).toNat by rw [← hU]; exact G.upTo_len q mi)
        clear hU htL htH HIV
        have HSC := hide (G.sure_cases HRY.out.v id)
        obtain ⟨M, hM⟩ : ∃ x, G.mm q id = x := ⟨_, rfl⟩
        obtain ⟨er, her⟩ : ∃ x, G.sureE q id = x := ⟨_, rfl⟩
        obtain ⟨sL, hsL⟩ : ∃ x, (G.sureV q id).1 = x := ⟨_, rfl⟩
        obtain ⟨sH, hsH⟩ : ∃ x, (G.sureV q id).2 = x := ⟨_, rfl⟩
        have HSE := hide her
        have HSL := hide hsL
        have HSH := hide hsH
        have HMM := hide hM
        have HSC2 := hide (show (G.idxOf q id = none ∧ er = 1) ∨ (∃ g, G.idxOf q id = some g ∧ er = 3 ∧ M.any (fun v => decide (v < 0)) = true) ∨ (∃ g, G.idxOf q id = some g ∧ er = 0 ∧ M.any (fun v => decide (v < 0)) = false ∧ sL = G.minL M ∧ sH = G.maxL M) by
          have h := HSC.out
          rw [hM, her] at h
          rcases h with h | ⟨g, h1, h2, h3⟩ | ⟨g, h1, h2, h3, h4⟩
          · exact .inl h
          · exact .inr (.inl ⟨g, h1, h2, h3⟩)
          · exact .inr (.inr ⟨g, h1, h2, h3, by rw [← hsL, h4], by rw [← hsH, h4]⟩))
        clear hM her hsL hsH HSC
        go_enter Try.func9, Try.ntmps9
        go_upto_region 3 with (go_at_call 30; (with_reducible refine (ready_any q A n c F m d rate _ (HI.out.below (show Below w.heap.size w _ by (repeat' first | exact zbR _ _ | assumption | refine zbD ?_ | refine zbA ?_ ?_ _ | refine zbS ?_ ?_ _ | refine zbT ?_ (by assumption) ?_ | (simp; done) | (simp; omega) | omega))) hn hm).mono ?_); rintro e w1 ⟨rfl, hb1⟩; rw [HRD.out]; have HB1 := hide (zbT (show Below w.heap.size w _ by (repeat' first | exact zbR _ _ | assumption | refine zbD ?_ | refine zbA ?_ ?_ _ | refine zbS ?_ ?_ _ | refine zbT ?_ (by assumption) ?_ | (simp; done) | (simp; omega) | omega)) hb1 (by simp; omega)); have HQ1 := hide ((hb1.block _ (by simp; omega)).trans ((Below.heap_alloc _ _ _ (by simp)).trans (World.alloc_heap_new w (.cells #[.int .i64 q.opn, .int .i64 q.lo, .int .i64 q.hi, .int .i64 q.seats, .slice A n c, .slice F m d] 27 (0, 0))))); have HA1 := hide ((hb1.block (w.heap.size + 1) (by simp)).trans (alloc_new_at (O := .cells #[.int .i64 rate, .int .i64 mi, .int .i64 id] 29 (0, 0)) (by simp))); clear hb1; have q0 : w1.cell? ⟨w.heap.size, 0, none⟩ = some (.int .i64 q.opn) := (blk_cell HQ1.out 0).trans rfl; have q1 : w1.cell? ⟨w.heap.size, 1, none⟩ = some (.int .i64 q.lo) := (blk_cell HQ1.out 1).trans rfl; have q2 : w1.cell? ⟨w.heap.size, 2, none⟩ = some (.int .i64 q.hi) := (blk_cell HQ1.out 2).trans rfl; have q3 : w1.cell? ⟨w.heap.size, 3, none⟩ = some (.int .i64 q.seats) := (blk_cell HQ1.out 3).trans rfl; have q4 : w1.cell? ⟨w.heap.size, 4, none⟩ = some (.slice A n c) := (blk_cell HQ1.out 4).trans rfl; have q5 : w1.cell? ⟨w.heap.size, 5, none⟩ = some (.slice F m d) := (blk_cell HQ1.out 5).trans rfl; have lq := blk_lt HQ1.out; have a0 : w1.cell? ⟨w.heap.size + 1, 0, none⟩ = some (.int .i64 rate) := (blk_cell HA1.out 0).trans rfl; have a1 : w1.cell? ⟨w.heap.size + 1, 1, none⟩ = some (.int .i64 mi) := (blk_cell HA1.out 1).trans rfl; have a2 : w1.cell? ⟨w.heap.size + 1, 2, none⟩ = some (.int .i64 id) := (blk_cell HA1.out 2).trans rfl; have la := blk_lt HA1.out)
        go_upto_region 4 with (go_at_call 22; (with_reducible refine (Sure_any q id A n c F m d _ (HI.out.below HB1.out) HWI.out).mono ?_); rintro e w2 hP; rw [HSE.out, HSL.out, HSH.out] at hP; obtain ⟨rfl, hb2⟩ := hP; have HB2 := hide (zbT HB1.out hb2 HB1.out.size); have HQ2 := bkT hb2 HQ1; have HA2 := bkT hb2 HA1; clear hb2 q0 q1 q2 q3 q4 q5 lq a0 a1 a2 la; have q0 : w2.cell? ⟨w.heap.size, 0, none⟩ = some (.int .i64 q.opn) := (blk_cell HQ2.out 0).trans rfl; have q1 : w2.cell? ⟨w.heap.size, 1, none⟩ = some (.int .i64 q.lo) := (blk_cell HQ2.out 1).trans rfl; have q2 : w2.cell? ⟨w.heap.size, 2, none⟩ = some (.int .i64 q.hi) := (blk_cell HQ2.out 2).trans rfl; have q3 : w2.cell? ⟨w.heap.size, 3, none⟩ = some (.int .i64 q.seats) := (blk_cell HQ2.out 3).trans rfl; have q4 : w2.cell? ⟨w.heap.size, 4, none⟩ = some (.slice A n c) := (blk_cell HQ2.out 4).trans rfl; have q5 : w2.cell? ⟨w.heap.size, 5, none⟩ = some (.slice F m d) := (blk_cell HQ2.out 5).trans rfl; have lq := blk_lt HQ2.out; have a0 : w2.cell? ⟨w.heap.size + 1, 0, none⟩ = some (.int .i64 rate) := (blk_cell HA2.out 0).trans rfl; have a1 : w2.cell? ⟨w.heap.size + 1, 1, none⟩ = some (.int .i64 mi) := (blk_cell HA2.out 1).trans rfl; have a2 : w2.cell? ⟨w.heap.size + 1, 2, none⟩ = some (.int .i64 id) := (blk_cell HA2.out 2).trans rfl; have la := blk_lt HA2.out)
        refine cap_w (M := Code.wp _ _ _ _) _ (fun w3 hw3 => ?_)
        have HB3 := hide (show Below w.heap.size w w3 by rw [hw3]; exact zbA HB2.out HB2.out.size _)
        have HQ3 := hide (show w3.heap[w.heap.size]? = some (.cells #[.int .i64 q.opn, .int .i64 q.lo, .int .i64 q.hi, .int .i64 q.seats, .slice A n c, .slice F m d] 27 (0, 0)) by rw [hw3]; exact (Below.heap_alloc _ _ _ (blk_lt HQ2.out)).trans HQ2.out)
        have HA3 := hide (show w3.heap[w.heap.size + 1]? = some (.cells #[.int .i64 rate, .int .i64 mi, .int .i64 id] 29 (0, 0)) by rw [hw3]; exact (Below.heap_alloc _ _ _ (blk_lt HA2.out)).trans HA2.out)
        have HS3 := hide (show w3.heap[w2.heap.size]? = some (.cells #[.int .i64 sL, .int .i64 sH] 23 (0, 0)) by rw [hw3]; exact World.alloc_heap_new _ _)
        have HZ2 := hide (show w.heap.size + 1 < w2.heap.size from blk_lt HA2.out)
        clear hw3 q0 q1 q2 q3 q4 q5 lq a0 a1 a2 la HQ2 HA2 HQ1 HA1 HB1
        obtain ⟨b5, hb5⟩ : ∃ x, w2.heap.size = x := ⟨_, rfl⟩
        rw [hb5] at HS3 HZ2 ⊢
        obtain ⟨b1, hb1⟩ : ∃ x, w.heap.size + 1 = x := ⟨_, rfl⟩
        rw [hb1] at HA3 HZ2 ⊢
        obtain ⟨b0, hb0⟩ : ∃ x, w.heap.size = x := ⟨_, rfl⟩
        have HE0 := hide hb0
        have HE1 := hide (show b0 < b1 by omega)
        rw [hb0] at HQ3 ⊢
        clear hb1 hb0 hb5
        have q0 : w3.cell? ⟨b0, 0, none⟩ = some (.int .i64 q.opn) := (blk_cell HQ3.out 0).trans rfl
        have q1 : w3.cell? ⟨b0, 1, none⟩ = some (.int .i64 q.lo) := (blk_cell HQ3.out 1).trans rfl
        have q2 : w3.cell? ⟨b0, 2, none⟩ = some (.int .i64 q.hi) := (blk_cell HQ3.out 2).trans rfl
        have q3 : w3.cell? ⟨b0, 3, none⟩ = some (.int .i64 q.seats) := (blk_cell HQ3.out 3).trans rfl
        have q4 : w3.cell? ⟨b0, 4, none⟩ = some (.slice A n c) := (blk_cell HQ3.out 4).trans rfl
        have q5 : w3.cell? ⟨b0, 5, none⟩ = some (.slice F m d) := (blk_cell HQ3.out 5).trans rfl
        have lq := blk_lt HQ3.out
        have a0 : w3.cell? ⟨b1, 0, none⟩ = some (.int .i64 rate) := (blk_cell HA3.out 0).trans rfl
        have a1 : w3.cell? ⟨b1, 1, none⟩ = some (.int .i64 mi) := (blk_cell HA3.out 1).trans rfl
        have a2 : w3.cell? ⟨b1, 2, none⟩ = some (.int .i64 id) := (blk_cell HA3.out 2).trans rfl
        have la := blk_lt HA3.out
        have ls := blk_lt HS3.out
        go_upto_region 5 with (go_at_call 19; (with_reducible refine (Inside_any q mi A n c F m d _ (HI.out.below HB3.out)).mono ?_); rintro e w4 hP; rw [HIE.out, HTL.out, HTH.out] at hP; obtain ⟨rfl, hb4⟩ := hP; have HB4 := hide (zbT HB3.out hb4 HB3.out.size); have HQ4 := bkT hb4 HQ3; have HA4 := bkT hb4 HA3; have HS4 := bkT hb4 HS3; clear hb4 q0 q1 q2 q3 q4 q5 lq a0 a1 a2 la ls; have q0 : w4.cell? ⟨b0, 0, none⟩ = some (.int .i64 q.opn) := (blk_cell HQ4.out 0).trans rfl; have q1 : w4.cell? ⟨b0, 1, none⟩ = some (.int .i64 q.lo) := (blk_cell HQ4.out 1).trans rfl; have q2 : w4.cell? ⟨b0, 2, none⟩ = some (.int .i64 q.hi) := (blk_cell HQ4.out 2).trans rfl; have q3 : w4.cell? ⟨b0, 3, none⟩ = some (.int .i64 q.seats) := (blk_cell HQ4.out 3).trans rfl; have q4 : w4.cell? ⟨b0, 4, none⟩ = some (.slice A n c) := (blk_cell HQ4.out 4).trans rfl; have q5 : w4.cell? ⟨b0, 5, none⟩ = some (.slice F m d) := (blk_cell HQ4.out 5).trans rfl; have lq := blk_lt HQ4.out; have a0 : w4.cell? ⟨b1, 0, none⟩ = some (.int .i64 rate) := (blk_cell HA4.out 0).trans rfl; have a1 : w4.cell? ⟨b1, 1, none⟩ = some (.int .i64 mi) := (blk_cell HA4.out 1).trans rfl; have a2 : w4.cell? ⟨b1, 2, none⟩ = some (.int .i64 id) := (blk_cell HA4.out 2).trans rfl; have la := blk_lt HA4.out)
        refine cap_w (M := Code.wp _ _ _ _) _ (fun w5 hw5 => ?_)
        have HB5 := hide (show Below w.heap.size w w5 by rw [hw5]; exact zbA HB4.out HB4.out.size _)
        have HQ5 := hide (show w5.heap[b0]? = some (.cells #[.int .i64 q.opn, .int .i64 q.lo, .int .i64 q.hi, .int .i64 q.seats, .slice A n c, .slice F m d] 27 (0, 0)) by rw [hw5]; exact (Below.heap_alloc _ _ _ (blk_lt HQ4.out)).trans HQ4.out)
        have HA5 := hide (show w5.heap[b1]? = some (.cells #[.int .i64 rate, .int .i64 mi, .int .i64 id] 29 (0, 0)) by rw [hw5]; exact (Below.heap_alloc _ _ _ (blk_lt HA4.out)).trans HA4.out)
        have HS5 := hide (show w5.heap[b5]? = some (.cells #[.int .i64 sL, .int .i64 sH] 23 (0, 0)) by rw [hw5]; exact (Below.heap_alloc _ _ _ (blk_lt HS4.out)).trans HS4.out)
        have HT5 := hide (show w5.heap[w4.heap.size]? = some (.cells #[.int .i64 tL, .int .i64 tH] 23 (0, 0)) by rw [hw5]; exact World.alloc_heap_new _ _)
        have HZ5 := hide (show b5 < w4.heap.size from blk_lt HS4.out)
        have HZW := hide (show w.heap.size ≤ w4.heap.size from HB4.out.size)
        clear hw5 q0 q1 q2 q3 q4 q5 lq a0 a1 a2 la HQ4 HA4 HS4 HQ3 HA3 HS3 HB3
        obtain ⟨b7, hb7⟩ : ∃ x, w4.heap.size = x := ⟨_, rfl⟩
        rw [hb7] at HT5 HZ5 HZW ⊢
        clear hb7
        go_upto_region 8 with fail
        refine cap_w (M := Code.wp _ _ _ _) _ (fun w6 hw6 => ?_)
        have HB56 := hide (show Below w5.heap.size w5 w6 by rw [hw6]; exact zbA (zbR _ _) (Nat.le_refl _) _)
        have HB6 := hide (zbT HB5.out HB56.out HB5.out.size)
        have HQ6 := bkT HB56.out HQ5
        have HA6 := bkT HB56.out HA5
        have HS6 := bkT HB56.out HS5
        have HT6 := bkT HB56.out HT5
        have HE6 := hide (show w6.heap[w5.heap.size]? = some (.cells #[.bool false, .bool false, .bool false, .bool false] 58 (0, 0)) by rw [hw6]; exact World.alloc_heap_new _ _)
        have HZ6 := hide (show b7 < w5.heap.size from blk_lt HT5.out)
        clear hw6 HQ5 HA5 HS5 HT5
        obtain ⟨b9, hb9⟩ : ∃ x, w5.heap.size = x := ⟨_, rfl⟩
        rw [hb9] at HE6 HZ6 ⊢
        clear hb9
        have q1 : w6.cell? ⟨b0, 1, none⟩ = some (.int .i64 q.lo) := (blk_cell HQ6.out 1).trans rfl
        have lq := blk_lt HQ6.out
        go_wp2_with fail
        clear q1 lq
        have HI6 := hide (HI.out.below HB6.out)
        go_loopw [10, 11, 12] (fun v10 v11 v12 wr => ∃ j : Nat, (j : Int) ≤ q.hi - q.lo + 1 ∧ v12 = .int .i64 (q.lo + (j : Int)) ∧ v10 = .bool (G.NV M (G.cnt q id j 0)) ∧ v11 = .bool (decide (0 < G.cnt q id j 0)) ∧ Hid (wr.heap[b9]? = some (.cells #[.bool (G.E0 M sL (G.cnt q id j 0)), .bool (G.E0 M sH (G.cnt q id j 0)), .bool (G.E0 U tL j), .bool (G.E0 U tH j)] 58 (0, 0))) ∧ Hid (w6.grownBy wr (some b9))) (fun _ _ i _ => (q.hi + 1 - intOf i).toNat)
        case atStart =>
          have hc0 : G.cnt q id 0 0 = 0 := by rw [G.cnt_start]; cases G.idxOf q id <;> rfl
          exact ⟨0, by omega, by show _ = Value.int .i64 (q.lo + 0); rw [Int.add_zero], by rw [hc0]; rfl, by rw [hc0]; rfl, hide (by rw [hc0]; exact HE6.out), hide (World.grownBy.refl _ _)⟩
        case round =>
          obtain ⟨j, hj, rfl, rfl, rfl, HEr, HGr⟩ := hrel
          have HBr := hide (gr_below HB6.out HGr.out (by have := HZ6.out; have := HZW.out; omega))
          have HQr := bkG HGr.out (by simp; have := HZ6.out; have := HZ5.out; have := HZ2.out; have := HE1.out; omega) HQ6
          have HAr := bkG HGr.out (by simp; have := HZ6.out; have := HZ5.out; have := HZ2.out; omega) HA6
          have HSr := bkG HGr.out (by simp; have := HZ6.out; have := HZ5.out; omega) HS6
          have HTr := bkG HGr.out (by simp; have := HZ6.out; omega) HT6
          have HIr := hide (HI.out.below HBr.out)
          have q0 : wr.cell? ⟨b0, 0, none⟩ = some (.int .i64 q.opn) := (blk_cell HQr.out 0).trans rfl
          have q1 : wr.cell? ⟨b0, 1, none⟩ = some (.int .i64 q.lo) := (blk_cell HQr.out 1).trans rfl
          have q2 : wr.cell? ⟨b0, 2, none⟩ = some (.int .i64 q.hi) := (blk_cell HQr.out 2).trans rfl
          have q3 : wr.cell? ⟨b0, 3, none⟩ = some (.int .i64 q.seats) := (blk_cell HQr.out 3).trans rfl
          have q4 : wr.cell? ⟨b0, 4, none⟩ = some (.slice A n c) := (blk_cell HQr.out 4).trans rfl
          have q5 : wr.cell? ⟨b0, 5, none⟩ = some (.slice F m d) := (blk_cell HQr.out 5).trans rfl
          have lq := blk_lt HQr.out
          obtain ⟨rr, hrr⟩ : ∃ x, q.lo + (j : Int) = x := ⟨_, rfl⟩
          by_cases hlt : q.lo + (j : Int) ≤ q.hi
          · have hjN : j < (q.hi - q.lo + 1).toNat := by omega
            have HEE := hide (show G.enterE q rr = 0 by unfold G.enterE; rw [if_pos (G.valid_iff.2 HRY.out.v), if_pos (by unfold G.within; simp; omega)])
            have HEV := hide (show G.enterV q rr = G.enter q rr by unfold G.enterV; rw [if_pos HEE.out])
            have HLN := hide (show (G.enter q rr).length = n by rw [G.enter_len]; exact HI.out.gl)
            have hrr1 : 1 ≤ rr := by omega
            have hrr2 : rr ≤ 100 := by omega
            have HRR := hide hrr
            have HUJ := hide (HUG.out j hjN)
            rw [hrr] at hlt HUJ ⊢
            clear hrr
            go_upto_region 13 with (go_at_call 17; (with_reducible refine (Enter_any q A n c F m d rr _ (HIr.out)).mono ?_); rintro e w7 hP; rw [HEV.out, HEE.out] at hP; obtain ⟨A7, c7, rfl, ho7, hb7⟩ := hP; have HO7 := hide ho7; have HOB := hide (show b9 < wr.heap.size from blk_lt HEr.out); have HB7 := hide hb7; rw [HLN.out]; clear ho7 hb7)
            have HBW8 := hide (zbT HBr.out HB7.out HBr.out.size)
            rw [HLN.out] at HO7
            obtain ⟨bz, hbz⟩ : ∃ x, wr.heap.size = x := ⟨_, rfl⟩
            rw [hbz] at HO7 HOB
            clear hbz
            have HG7 := hide (gr_trans HGr.out (gr_ofR (row := some b9) HB7.out))
            have HE7 := bkT HB7.out HEr
            have HQ7 := bkT HB7.out HQr
            have HA7 := bkT HB7.out HAr
            have HS7 := bkT HB7.out HSr
            have HT7 := bkT HB7.out HTr
            have HI7 := hide (HIr.out.below HB7.out)
            clear q0 q1 q2 q3 q4 q5 lq HEr HGr HBr HQr HAr HSr HTr HIr
            have q0 : w7.cell? ⟨b0, 0, none⟩ = some (.int .i64 q.opn) := (blk_cell HQ7.out 0).trans rfl
            have q1 : w7.cell? ⟨b0, 1, none⟩ = some (.int .i64 q.lo) := (blk_cell HQ7.out 1).trans rfl
            have q2 : w7.cell? ⟨b0, 2, none⟩ = some (.int .i64 q.hi) := (blk_cell HQ7.out 2).trans rfl
            have q3 : w7.cell? ⟨b0, 3, none⟩ = some (.int .i64 q.seats) := (blk_cell HQ7.out 3).trans rfl
            have q4 : w7.cell? ⟨b0, 4, none⟩ = some (.slice A n c) := (blk_cell HQ7.out 4).trans rfl
            have q5 : w7.cell? ⟨b0, 5, none⟩ = some (.slice F m d) := (blk_cell HQ7.out 5).trans rfl
            have lq := blk_lt HQ7.out
            obtain ⟨w8, hw8⟩ : ∃ x, w7 = x := ⟨_, rfl⟩
            rw [hw8] at HO7 HBW8 HG7 HE7 HQ7 HA7 HS7 HT7 HI7 q0 q1 q2 q3 q4 q5 lq ⊢
            clear hw8 HB7
            go_wp2_with fail
            clear q0 q1 q2 q3 q4 q5 lq
            go_loopw [10, 11, 15, 16] (fun v10 v11 v15 i wr => ∃ k : Nat, k ≤ n ∧ i = .int .i64 k ∧ v15 = .int .i64 (G.inK q rr mi k) ∧ v10 = .bool (G.NV M (G.cnt q id j k)) ∧ v11 = .bool (decide (0 < G.cnt q id j k)) ∧ Hid (wr.heap[b9]? = some (.cells #[.bool (G.E0 M sL (G.cnt q id j k)), .bool (G.E0 M sH (G.cnt q id j k)), .bool (G.E0 U tL j), .bool (G.E0 U tH j)] 58 (0, 0))) ∧ Hid (w8.grownBy wr (some b9))) (fun _ _ _ i _ => n - (intOf i).toNat)
            case atStart => exact ⟨0, by omega, rfl, rfl, rfl, rfl, HE7, hide (World.grownBy.refl _ _)⟩
            case round =>
              obtain ⟨k, hk, rfl, rfl, rfl, rfl, HEk, HGk⟩ := hrel
              have HBk := hide (gr_below HBW8.out HGk.out (by have := HZ6.out; have := HZW.out; omega))
              have HQk := bkG HGk.out (by simp; have := HZ6.out; have := HZ5.out; have := HZ2.out; have := HE1.out; omega) HQ7
              have HAk := bkG HGk.out (by simp; have := HZ6.out; have := HZ5.out; have := HZ2.out; omega) HA7
              have HSk := bkG HGk.out (by simp; have := HZ6.out; have := HZ5.out; omega) HS7
              have HTk := bkG HGk.out (by simp; have := HZ6.out; omega) HT7
              have HRk := hide (owns_RdI (HO7.out.kept HGk.out (.inr (row_ne' HO7.out HOB.out))) HLN.out)
              have hp24 := HRY.out.p24
              have hpb := G.inK_bd HRY.out.v rr mi k
              by_cases hkn : k < n
              · obtain ⟨p, hp⟩ : ∃ p, q.gs[k]? = some p := ⟨_, List.getElem?_eq_getElem (by have := HI.out.gl; omega)⟩
                have hfair := G.enter_fairT HRY.out.v hrr1 hp
                have HST := hide (G.inK_step (rate := rr) (m := mi) hp)
                have hV := G.vParty_iff.1 (HRY.out.v.gv p (List.mem_of_getElem? hp))
                have hev := G.enter_getT q rr hp
                have hmm := G.mm_get HRY.out.v hjN hp
                have hcy := G.cnt_yes HRY.out.v (j := j) hp
                have hcn : p.id ≠ id → G.cnt q id j (k + 1) = G.cnt q id j k := fun hne => G.cnt_no hp hne
                have hix := G.idxOf_at HRY.out.v hp
                rw [HRR.out] at hmm
                obtain ⟨v, hv⟩ : ∃ v, G.look p.id (G.R q rr) = v := ⟨_, rfl⟩
                rw [hv] at hfair HST hev hmm
                obtain ⟨bv, ov, rfl, hbv, v0⟩ := HRk.out k v hev
                obtain ⟨bg, og, hAg, hbg, d0, d1, d2, d3⟩ := ((HI.out.below HBk.out).rg) k p hp
                subst hAg
                have hlt' : (k : Int) < (n : Int) := by omega
                have hk0 : (0 : Int) ≤ (k : Int) := by omega
                have hz0 := hV.z0
                have hz1 := hV.z1
                clear hp hev hv hV
                have HMJ := hide hmm
                have HCY := hide hcy
                have HCN := hide hcn
                have HIX := hide hix
                have HFR := hide hfair
                clear hmm hcy hcn hix hfair
                obtain ⟨iv, hiv⟩ : ∃ x, G.inK q rr mi k = x := ⟨_, rfl⟩
                rw [hiv] at HST hpb ⊢
                clear hiv
                obtain ⟨iw, hiw⟩ : ∃ x, G.inK q rr mi (k + 1) = x := ⟨_, rfl⟩
                rw [hiw] at HST
                have HIW := hide hiw
                clear hiw
                have q4 : wr.cell? ⟨b0, 4, none⟩ = some (.slice (some ⟨bg, og, none⟩) n c) := (blk_cell HQk.out 4).trans rfl
                have lq := blk_lt HQk.out
                have a1 : wr.cell? ⟨b1, 1, none⟩ = some (.int .i64 mi) := (blk_cell HAk.out 1).trans rfl
                have a2 : wr.cell? ⟨b1, 2, none⟩ = some (.int .i64 id) := (blk_cell HAk.out 2).trans rfl
                have la := blk_lt HAk.out
                go_upto_region 19 with fail
                go_cut [94] from 81 to 94 (fun v94 wx => v94 = .bool (decide (0 ≤ v ∧ v ≤ mi)) ∧ Hid (Below wr.heap.size wr wx))
                case first =>
                  rename_i J0 K0 hJ0 hK0
                  rcases HFR.out with hf | ⟨f0, f1, f2, f3, f4⟩
                  · have e3 : decide (0 ≤ v) = false := by simp; omega
                    have hb : decide (0 ≤ v ∧ v ≤ mi) = false := by simp; omega
                    clear hf
                    go_quiet (fail)
                    (try dsimp only [Act.put, List.getElem_toArray, List.getElem_cons_succ, List.getElem_cons_zero])
                    (try simp only [zl, z0, z1])
                    (first | refine hK0 _ _ (Met.intro (hJ0 _ _ ?_)) | refine Met.intro (hJ0 _ _ ?_) | refine hJ0 _ _ ?_)
                    (repeat apply Exists.intro)
                    refine ⟨?rel, rfl⟩
                    case rel => exact ⟨by rw [hb], hide (below_drewN (zbR _ _) _)⟩
                  · have e3 : decide (0 ≤ v) = true := by simp; omega
                    by_cases h6 : v ≤ mi
                    · have e6 : decide (v ≤ mi) = true := by simp; omega
                      have hb : decide (0 ≤ v ∧ v ≤ mi) = true := by simp; omega
                      clear h6 f0 f1 f2 f3 f4
                      go_quiet (fail)
                      (try dsimp only [Act.put, List.getElem_toArray, List.getElem_cons_succ, List.getElem_cons_zero])
                      (try simp only [zl, z0, z1])
                      (first | refine hK0 _ _ (Met.intro (hJ0 _ _ ?_)) | refine Met.intro (hJ0 _ _ ?_) | refine hJ0 _ _ ?_)
                      (repeat apply Exists.intro)
                      refine ⟨?rel, rfl⟩
                      case rel => exact ⟨by rw [hb], hide (below_drewN (zbR _ _) _)⟩
                    · have e6 : decide (v ≤ mi) = false := by simp; omega
                      have hb : decide (0 ≤ v ∧ v ≤ mi) = false := by simp; omega
                      clear h6 f0 f1 f2 f3 f4
                      go_quiet (fail)
                      (try dsimp only [Act.put, List.getElem_toArray, List.getElem_cons_succ, List.getElem_cons_zero])
                      (try simp only [zl, z0, z1])
                      (first | refine hK0 _ _ (Met.intro (hJ0 _ _ ?_)) | refine Met.intro (hJ0 _ _ ?_) | refine hJ0 _ _ ?_)
                      (repeat apply Exists.intro)
                      refine ⟨?rel, rfl⟩
                      case rel => exact ⟨by rw [hb], hide (below_drewN (zbR _ _) _)⟩
                case rest =>
                 obtain ⟨rfl, HDX⟩ := hcut
                 obtain ⟨wq, hwq⟩ : ∃ q, wc = q := ⟨_, rfl⟩
                 rw [hwq] at HDX ⊢
                 clear hwq
                 have HQX := bkT HDX.out HQk
                 have q4x : wq.cell? ⟨b0, 4, none⟩ = some (.slice (some ⟨bg, og, none⟩) n c) := (blk_cell HQX.out 4).trans rfl
                 have lqx := blk_lt HQX.out
                 have d2x := (HDX.out.cell (p := ⟨bg, _, none⟩) hbg).trans d2
                 have hbgx := Nat.lt_of_lt_of_le hbg HDX.out.size
                 obtain ⟨bb, hbb⟩ : ∃ x, decide (0 ≤ v ∧ v ≤ mi) = x := ⟨_, rfl⟩
                 have HBB := hide hbb
                 rw [hbb]
                 clear hbb
                 go_upto_if 94 with fail
                 go_cut [15] from 95 to 102 (fun v15 wx => v15 = .int .i64 iw ∧ wx = wq)
                 case first =>
                  cases bb
                  · have HST2 := hide (show iw = iv by rw [HST.out, if_neg (of_decide_eq_false HBB.out), Int.add_zero])
                    clear HST HBB
                    go_wp2_with fail
                    go_meet
                    case rel => exact ⟨by rw [HST2.out], rfl⟩
                  · have HST2 := hide (show iw = iv + p.size by rw [HST.out, if_pos (of_decide_eq_true HBB.out)])
                    have hw5 : IntKind.i64.wrap (iv + p.size) = iv + p.size := IntWalk.i64_in _ (by omega)
                    clear HST HBB
                    go_wp2_with fail
                    go_meet
                    case rel => exact ⟨by rw [HST2.out], rfl⟩
                 case rest =>
                  obtain ⟨rfl, hwx⟩ := hcut
                  have HD9 := hide (show Below wr.heap.size wr wc by rw [hwx]; exact HDX.out)
                  clear hwx HDX HQX q4x lqx d2x hbgx
                  obtain ⟨w9, hw9⟩ : ∃ q, wc = q := ⟨_, rfl⟩
                  rw [hw9] at HD9 ⊢
                  clear hw9
                  have HG9 := hide (gr_trans HGk.out (gr_ofR (row := some b9) HD9.out))
                  have HE9 := bkT HD9.out HEk
                  have HA9 := bkT HD9.out HAk
                  have HQ9 := bkT HD9.out HQk
                  have HS9 := bkT HD9.out HSk
                  have u0 := (HD9.out.cell (p := ⟨bv, _, none⟩) hbv).trans v0
                  have HU0 := hide u0
                  have hbv9 := Nat.lt_of_lt_of_le hbv HD9.out.size
                  have y0 := (HD9.out.cell (p := ⟨bg, _, none⟩) hbg).trans d0
                  have hbg9 := Nat.lt_of_lt_of_le hbg HD9.out.size
                  have q4' : w9.cell? ⟨b0, 4, none⟩ = some (.slice (some ⟨bg, og, none⟩) n c) := (blk_cell HQ9.out 4).trans rfl
                  have lq' := blk_lt HQ9.out
                  have a2' : w9.cell? ⟨b1, 2, none⟩ = some (.int .i64 id) := (blk_cell HA9.out 2).trans rfl
                  have la' := blk_lt HA9.out
                  clear q4 lq a1 a2 la v0 d0 d1 d2 d3 hbv hbg
                  go_upto_region 21 with fail
                  by_cases hpi : p.id = id
                  · have e7 : (p.id != id) = false := by simp [hpi]
                    have hcy1 : G.cnt q id j k = j := by rw [← hpi]; exact HCY.out.1
                    have HC1 := hide (show G.cnt q id j (k + 1) = j + 1 by rw [← hpi]; exact HCY.out.2)
                    have HMJ2 := hide (show M[j]? = some v by rw [← HMM.out, ← hpi]; exact HMJ.out)
                    have HIX2 := hide (show G.idxOf q id = some k by rw [← hpi]; exact HIX.out)
                    rw [hcy1] at HE9 ⊢
                    clear hcy1 hpi
                    obtain ⟨nv, hnv⟩ : ∃ x, G.NV M j = x := ⟨_, rfl⟩
                    have HNV := hide hnv
                    rw [hnv]
                    clear hnv
                    go_quiet (fail)
                    clear e7
                    go_upto_region 23 with fail
                    refine cap_w _ (fun wd hwd => ?_)
                    have HDd := hide (show Below w9.heap.size w9 wd by rw [hwd]; exact below_drewN (zbR _ _) _)
                    have u_d := (HDd.out.cell (p := ⟨bv, _, none⟩) hbv9).trans u0
                    have hbv_d := Nat.lt_of_lt_of_le hbv9 HDd.out.size
                    have HSd := bkT HDd.out HS9
                    clear hwd u0 y0 q4' lq' a2' la' hbg9
                    go_cut [10] from 112 to 119 (fun v10 wx => v10 = .bool (G.NV M (j + 1)) ∧ wx = wd)
                    case first =>
                      cases nv
                      · go_wp2_with fail
                        go_meet
                        case rel => exact ⟨by rw [G.NV_step HMJ2.out, HNV.out]; rfl, rfl⟩
                      · go_wp2_with fail
                        go_meet
                        case rel => exact ⟨by rw [G.NV_step HMJ2.out, HNV.out]; rfl, rfl⟩
                    case rest =>
                      obtain ⟨rfl, hwx⟩ := hcut
                      obtain ⟨WD, hWD⟩ : ∃ q, wc = q := ⟨_, rfl⟩
                      rw [hWD] at hwx ⊢
                      clear hWD
                      rw [← hwx] at HSd HDd u_d hbv_d
                      clear hwx
                      have HSCK := hide (show (er = 3) ∨ (er = 0 ∧ sL ≤ v ∧ v ≤ sH) by
                        rcases HSC2.out with ⟨h, _⟩ | ⟨g, h1, h2, h3⟩ | ⟨g, h1, h2, h3, h4, h5⟩
                        · rw [HIX2.out] at h; cases h
                        · exact .inl h2
                        · exact .inr ⟨h2, by rw [h4]; exact G.minL_le (List.mem_of_getElem? HMJ2.out), by rw [h5]; exact G.le_maxL (List.mem_of_getElem? HMJ2.out)⟩)
                      go_upto_region 24 with fail
                      go_cut [139] from 120 to 139 (fun v139 wx => v139 = .bool false ∧ Hid (Below WD.heap.size WD wx))
                      case first =>
                        rename_i J0 K0 hJ0 hK0
                        have z0 : WD.cell? ⟨b5, 0, none⟩ = some (.int .i64 sL) := (blk_cell HSd.out 0).trans rfl
                        have z1 : WD.cell? ⟨b5, 1, none⟩ = some (.int .i64 sH) := (blk_cell HSd.out 1).trans rfl
                        have lz := blk_lt HSd.out
                        rcases HSCK.out with rfl | ⟨rfl, g1, g2⟩
                        · go_quiet (fail)
                          (try dsimp only [Act.put, List.getElem_toArray, List.getElem_cons_succ, List.getElem_cons_zero])
                          (try simp only [zl, z0, z1])
                          (first | refine hK0 _ _ (Met.intro (hJ0 _ _ ?_)) | refine Met.intro (hJ0 _ _ ?_) | refine hJ0 _ _ ?_)
                          (repeat apply Exists.intro)
                          refine ⟨?rel, rfl⟩
                          case rel => exact ⟨by first | rfl | simp, hide (below_drewN (zbR _ _) _)⟩
                        · have e8 : decide (v < sL) = false := by simp; omega
                          have e9 : decide (sH < v) = false := by simp; omega
                          go_quiet (fail)
                          (try dsimp only [Act.put, List.getElem_toArray, List.getElem_cons_succ, List.getElem_cons_zero])
                          (try simp only [zl, z0, z1])
                          (first | refine hK0 _ _ (Met.intro (hJ0 _ _ ?_)) | refine Met.intro (hJ0 _ _ ?_) | refine hJ0 _ _ ?_)
                          (repeat apply Exists.intro)
                          refine ⟨?rel, rfl⟩
                          case rel => exact ⟨by first | rfl | simp, hide (below_drewN (zbR _ _) _)⟩
                      case rest =>
                        obtain ⟨rfl, hbe⟩ := hcut
                        obtain ⟨wa, hwa⟩ : ∃ q, wc = q := ⟨_, rfl⟩
                        rw [hwa] at hbe ⊢
                        have HDa := hide (show Below w9.heap.size w9 wa from zbT HDd.out hbe.out HDd.out.size)
                        clear hwa hbe
                        go_upto_region 26 with fail
                        have HG_wa := hide (gr_trans HG9.out (gr_ofR (row := some b9) HDa.out))
                        have HE_wa := bkT HDa.out HE9
                        have HS_wa := bkT HDa.out HS9
                        have u_wa := (HDa.out.cell (p := ⟨bv, _, none⟩) hbv9).trans (show w9.cell? ⟨bv, ov + k, none⟩ = some (.int .i64 v) from HU0.out)
                        have hbv_wa := Nat.lt_of_lt_of_le hbv9 HDa.out.size
                        have HNE := hide (show bv ≠ b9 by have h := HO7.out.lt bv rfl; have := HOB.out; omega)
                        obtain ⟨x0, hx0⟩ : ∃ x, G.E0 M sL j = x := ⟨_, rfl⟩
                        obtain ⟨x1, hx1⟩ : ∃ x, G.E0 M sH j = x := ⟨_, rfl⟩
                        have HX0 := hide hx0
                        have HX1 := hide hx1
                        rw [hx0, hx1] at HE_wa
                        clear hx0 hx1
                        go_cut [] from 140 to 151 (fun wx => Hid (wx.heap[b9]? = some (.cells #[.bool (G.E0 M sL (j + 1)), .bool x1, .bool (G.E0 U tL j), .bool (G.E0 U tH j)] 58 (0, 0))) ∧ Hid (wa.grownBy wx (some b9)))
                        case first =>
                          rename_i J0 K0 hJ0 hK0
                          cases x0
                          · obtain ⟨V, hV⟩ : ∃ V, (wa).drew = V := ⟨_, rfl⟩
                            have HBV := hide (show Below wa.heap.size wa V by rw [← hV]; exact zbD (zbR _ _))
                            have HEV := bkT HBV.out HE_wa
                            have HSV := bkT HBV.out HS_wa
                            have x0 : V.cell? ⟨b9, 0, none⟩ = some (.bool false) := (blk_cell HEV.out 0).trans rfl
                            have fx : V.frozen? ⟨b9, 0, none⟩ = false := blk_frozen HEV.out 0
                            have lx := blk_lt HEV.out
                            have z0 : V.cell? ⟨b5, 0, none⟩ = some (.int .i64 sL) := (blk_cell HSV.out 0).trans rfl
                            have lz := blk_lt HSV.out
                            have u1 := (HBV.out.cell (p := ⟨bv, _, none⟩) hbv_wa).trans u_wa
                            have hbv1 := Nat.lt_of_lt_of_le hbv_wa HBV.out.size
                            refine wp_region_seg 12 (by kernel_rfl) (by kernel_rfl) ?_
                            simp only [List.take_succ_cons, List.take_zero]
                            rw [hV]
                            clear hV
                            iterate 12 (with_reducible refine stTake (v := ?_) (by kernel_rfl) ?_ ?_; rotate_left; (focus (go_simp; (try with_reducible rfl))); (try simp only [Act.put, zl, List.set_cons_zero, List.set_cons_succ]))
                            refine wpStill_nil ?_
                            refine opStore (w' := V.setCell ⟨b9, 0, none⟩ (.bool (v == sL))) rfl (by kernel_rfl) (by kernel_rfl) (by go_simp) ?_
                            (try simp only [Act.put])
                            refine wpAny_end (k := 13) (Nat.le_of_ble_eq_true (by kernel_rfl)) (by kernel_rfl) ?_
                            simp only [List.drop_succ_cons, List.drop_zero]
                            refine wpStill_nil ?_
                            (try dsimp only [Act.put, List.getElem_toArray, List.getElem_cons_succ, List.getElem_cons_zero])
                            (try simp only [zl, z0, z1])
                            (first | refine hK0 _ _ (Met.intro (hJ0 _ _ ?_)) | refine Met.intro (hJ0 _ _ ?_) | refine hJ0 _ _ ?_)
                            (repeat apply Exists.intro)
                            refine ⟨?rel, rfl⟩
                            case rel => exact ⟨hide (by rw [G.E0_step HMJ2.out, HX0.out]; simpa using blk_set HEV.out 0 (.bool (v == sL))), hide (gr_trans (gr_ofR (row := some b9) HBV.out) (set_grown V ⟨b9, 0, none⟩ _))⟩
                          · obtain ⟨V, hV⟩ : ∃ V, (wa).drew = V := ⟨_, rfl⟩
                            have HBV := hide (show Below wa.heap.size wa V by rw [← hV]; exact zbD (zbR _ _))
                            have HEV := bkT HBV.out HE_wa
                            have HSV := bkT HBV.out HS_wa
                            have x0 : V.cell? ⟨b9, 0, none⟩ = some (.bool true) := (blk_cell HEV.out 0).trans rfl
                            have fx : V.frozen? ⟨b9, 0, none⟩ = false := blk_frozen HEV.out 0
                            have lx := blk_lt HEV.out
                            have z0 : V.cell? ⟨b5, 0, none⟩ = some (.int .i64 sL) := (blk_cell HSV.out 0).trans rfl
                            have lz := blk_lt HSV.out
                            have u1 := (HBV.out.cell (p := ⟨bv, _, none⟩) hbv_wa).trans u_wa
                            have hbv1 := Nat.lt_of_lt_of_le hbv_wa HBV.out.size
                            refine wp_region_seg 12 (by kernel_rfl) (by kernel_rfl) ?_
                            simp only [List.take_succ_cons, List.take_zero]
                            rw [hV]
                            clear hV
                            iterate 3 (with_reducible refine stTake (v := ?_) (by kernel_rfl) ?_ ?_; rotate_left; (focus (go_simp; (try with_reducible rfl))); (try simp only [Act.put, zl, List.set_cons_zero, List.set_cons_succ]))
                            iterate 7 (with_reducible refine stSkip (by kernel_rfl) ?_; (try simp only [Act.put, zl, List.set_cons_zero, List.set_cons_succ]))
                            iterate 2 (with_reducible refine stTake (v := ?_) (by kernel_rfl) ?_ ?_; rotate_left; (focus (go_simp; (try with_reducible rfl))); (try simp only [Act.put, zl, List.set_cons_zero, List.set_cons_succ]))
                            refine wpStill_nil ?_
                            refine opStore (w' := V.setCell ⟨b9, 0, none⟩ (.bool true)) rfl (by kernel_rfl) (by kernel_rfl) (by go_simp) ?_
                            (try simp only [Act.put])
                            refine wpAny_end (k := 13) (Nat.le_of_ble_eq_true (by kernel_rfl)) (by kernel_rfl) ?_
                            simp only [List.drop_succ_cons, List.drop_zero]
                            refine wpStill_nil ?_
                            (try dsimp only [Act.put, List.getElem_toArray, List.getElem_cons_succ, List.getElem_cons_zero])
                            (try simp only [zl, z0, z1])
                            (first | refine hK0 _ _ (Met.intro (hJ0 _ _ ?_)) | refine Met.intro (hJ0 _ _ ?_) | refine hJ0 _ _ ?_)
                            (repeat apply Exists.intro)
                            refine ⟨?rel, rfl⟩
                            case rel => exact ⟨hide (by rw [G.E0_step HMJ2.out, HX0.out]; simpa using blk_set HEV.out 0 (.bool true)), hide (gr_trans (gr_ofR (row := some b9) HBV.out) (set_grown V ⟨b9, 0, none⟩ _))⟩
                        case rest =>
                          obtain ⟨HE_wb, hgb⟩ := hcut
                          obtain ⟨wb, hwb⟩ : ∃ q, wc = q := ⟨_, rfl⟩
                          rw [hwb] at HE_wb hgb ⊢
                          clear hwb
                          have HG_wb := hide (gr_trans HG_wa.out hgb.out)
                          have HS_wb := bkG hgb.out (by simp; have := HZ6.out; have := HZ5.out; omega) HS_wa
                          have u_wb : wb.cell? ⟨bv, ov + k, none⟩ = some (.int .i64 v) := (gr_cellS hgb.out hbv_wa (by simpa using HNE.out) _).trans u_wa
                          have hbv_wb := Nat.lt_of_lt_of_le hbv_wa hgb.out.size
                          go_upto_region 27 with fail
                          cases x1
                          · obtain ⟨V, hV⟩ : ∃ V, (wb).drew = V := ⟨_, rfl⟩
                            have HBV := hide (show Below wb.heap.size wb V by rw [← hV]; exact zbD (zbR _ _))
                            have HEV := bkT HBV.out HE_wb
                            have HSV := bkT HBV.out HS_wb
                            have x1 : V.cell? ⟨b9, 1, none⟩ = some (.bool false) := (blk_cell HEV.out 1).trans rfl
                            have fx : V.frozen? ⟨b9, 1, none⟩ = false := blk_frozen HEV.out 1
                            have lx := blk_lt HEV.out
                            have z1 : V.cell? ⟨b5, 1, none⟩ = some (.int .i64 sH) := (blk_cell HSV.out 1).trans rfl
                            have lz := blk_lt HSV.out
                            have u1 := (HBV.out.cell (p := ⟨bv, _, none⟩) hbv_wb).trans u_wb
                            have hbv1 := Nat.lt_of_lt_of_le hbv_wb HBV.out.size
                            refine wp_region_seg 12 (by kernel_rfl) (by kernel_rfl) ?_
                            simp only [List.take_succ_cons, List.take_zero]
                            rw [hV]
                            clear hV
                            iterate 12 (with_reducible refine stTake (v := ?_) (by kernel_rfl) ?_ ?_; rotate_left; (focus (go_simp; (try with_reducible rfl))); (try simp only [Act.put, zl, List.set_cons_zero, List.set_cons_succ]))
                            refine wpStill_nil ?_
                            refine opStore (w' := V.setCell ⟨b9, 1, none⟩ (.bool (v == sH))) rfl (by kernel_rfl) (by kernel_rfl) (by go_simp) ?_
                            (try simp only [Act.put])
                            refine wpAny_end (k := 13) (Nat.le_of_ble_eq_true (by kernel_rfl)) (by kernel_rfl) ?_
                            simp only [List.drop_succ_cons, List.drop_zero]
                            refine wpStill_nil ?_
                            (try dsimp only [Exit.then])
                            go_wp2_with fail
                            go_roundw
                            case rel => exact ⟨k + 1, by omega, by go_num, by rw [HIW.out], by rw [HC1.out], by rw [HC1.out]; simp, hide (by rw [HC1.out, show G.E0 M sH (j + 1) = _ from G.E0_step HMJ2.out sH, HX1.out]; simpa using blk_set HEV.out 1 (.bool (v == sH))), hide (gr_trans HG_wb.out (gr_trans (gr_ofR (row := some b9) HBV.out) (set_grown V ⟨b9, 1, none⟩ _)))⟩
                            case measure => simp [intOf]; omega
                          · obtain ⟨V, hV⟩ : ∃ V, (wb).drew = V := ⟨_, rfl⟩
                            have HBV := hide (show Below wb.heap.size wb V by rw [← hV]; exact zbD (zbR _ _))
                            have HEV := bkT HBV.out HE_wb
                            have HSV := bkT HBV.out HS_wb
                            have x1 : V.cell? ⟨b9, 1, none⟩ = some (.bool true) := (blk_cell HEV.out 1).trans rfl
                            have fx : V.frozen? ⟨b9, 1, none⟩ = false := blk_frozen HEV.out 1
                            have lx := blk_lt HEV.out
                            have z1 : V.cell? ⟨b5, 1, none⟩ = some (.int .i64 sH) := (blk_cell HSV.out 1).trans rfl
                            have lz := blk_lt HSV.out
                            have u1 := (HBV.out.cell (p := ⟨bv, _, none⟩) hbv_wb).trans u_wb
                            have hbv1 := Nat.lt_of_lt_of_le hbv_wb HBV.out.size
                            refine wp_region_seg 12 (by kernel_rfl) (by kernel_rfl) ?_
                            simp only [List.take_succ_cons, List.take_zero]
                            rw [hV]
                            clear hV
                            iterate 3 (with_reducible refine stTake (v := ?_) (by kernel_rfl) ?_ ?_; rotate_left; (focus (go_simp; (try with_reducible rfl))); (try simp only [Act.put, zl, List.set_cons_zero, List.set_cons_succ]))
                            iterate 7 (with_reducible refine stSkip (by kernel_rfl) ?_; (try simp only [Act.put, zl, List.set_cons_zero, List.set_cons_succ]))
                            iterate 2 (with_reducible refine stTake (v := ?_) (by kernel_rfl) ?_ ?_; rotate_left; (focus (go_simp; (try with_reducible rfl))); (try simp only [Act.put, zl, List.set_cons_zero, List.set_cons_succ]))
                            refine wpStill_nil ?_
                            refine opStore (w' := V.setCell ⟨b9, 1, none⟩ (.bool true)) rfl (by kernel_rfl) (by kernel_rfl) (by go_simp) ?_
                            (try simp only [Act.put])
                            refine wpAny_end (k := 13) (Nat.le_of_ble_eq_true (by kernel_rfl)) (by kernel_rfl) ?_
                            simp only [List.drop_succ_cons, List.drop_zero]
                            refine wpStill_nil ?_
                            (try dsimp only [Exit.then])
                            go_wp2_with fail
                            go_roundw
                            case rel => exact ⟨k + 1, by omega, by go_num, by rw [HIW.out], by rw [HC1.out], by rw [HC1.out]; simp, hide (by rw [HC1.out, show G.E0 M sH (j + 1) = _ from G.E0_step HMJ2.out sH, HX1.out]; simpa using blk_set HEV.out 1 (.bool true)), hide (gr_trans HG_wb.out (gr_trans (gr_ofR (row := some b9) HBV.out) (set_grown V ⟨b9, 1, none⟩ _)))⟩
                            case measure => simp [intOf]; omega
                  · have e7 : (p.id != id) = true := by simp [hpi]
                    have HC1 := hide (HCN.out hpi)
                    clear hpi
                    go_quiet (fail)
                    clear e7
                    go_wp2_with fail
                    go_roundw
                    case rel => exact ⟨k + 1, by omega, by go_num, by rw [HIW.out], by rw [HC1.out], by rw [HC1.out], hide (by rw [HC1.out]; exact HE9.out), hide (gr_drewNR HG9.out _)⟩
                    case measure => simp [intOf]; omega
              · have hkn' : k = n := by omega
                subst hkn'
                have hu := HUJ.out
                rw [HI.out.gl] at hu
                have hum := List.mem_of_getElem? hu
                have g1 : tL ≤ G.inK q rr mi k := by rw [HUT.out.1]; exact G.minL_le hum
                have g2 : G.inK q rr mi k ≤ tH := by rw [HUT.out.2]; exact G.le_maxL hum
                have HCE := hide (show G.cnt q id j k = G.cnt q id (j + 1) 0 by rw [← G.cnt_end, HI.out.gl])
                obtain ⟨iv, hiv⟩ : ∃ x, G.inK q rr mi k = x := ⟨_, rfl⟩
                rw [hiv] at g1 g2 hu ⊢
                have HUI := hide hu
                clear hiv hu hum hpb
                obtain ⟨x2, hx2⟩ : ∃ x, G.E0 U tL j = x := ⟨_, rfl⟩
                obtain ⟨x3, hx3⟩ : ∃ x, G.E0 U tH j = x := ⟨_, rfl⟩
                have HX2 := hide hx2
                have HX3 := hide hx3
                rw [hx2, hx3] at HEk
                clear hx2 hx3
                rw [HCE.out] at HEk ⊢
                have hrr := HRR.out
                have hw : IntKind.i64.wrap (rr + 1) = rr + 1 := IntWalk.i64_in _ (by omega)
                have t0 : wr.cell? ⟨b7, 0, none⟩ = some (.int .i64 tL) := (blk_cell HTk.out 0).trans rfl
                have t1 : wr.cell? ⟨b7, 1, none⟩ = some (.int .i64 tH) := (blk_cell HTk.out 1).trans rfl
                have lt := blk_lt HTk.out
                cases x2 <;> cases x3
                · have y2 : wr.cell? ⟨b9, 2, none⟩ = some (.bool false) := (blk_cell HEk.out 2).trans rfl
                  have y3 : wr.cell? ⟨b9, 3, none⟩ = some (.bool false) := (blk_cell HEk.out 3).trans rfl
                  have z2 : wr.frozen? ⟨b9, 2, none⟩ = false := blk_frozen HEk.out 2
                  have z3 : wr.frozen? ⟨b9, 3, none⟩ = false := blk_frozen HEk.out 3
                  have ly := blk_lt HEk.out
                  go_wp2_with fail
                  go_roundw
                  case rel =>
                    exact ⟨j + 1, by omega, by show Value.int .i64 _ = Value.int .i64 _; congr 1; omega, rfl, rfl, hide (by
                      rw [G.E0_step HUI.out, G.E0_step HUI.out, HX2.out, HX3.out]
                      have h1 := blk_set HEk.out 2 (.bool (iv == tL))
                      have h2 := blk_set h1 3 (.bool (iv == tH))
                      simpa using h2), hide (gr_trans HG7.out (gr_trans HGk.out (gr_trans (set_grown wr ⟨b9, 2, none⟩ _) (set_grown _ ⟨b9, 3, none⟩ _))))⟩
                  case measure => simp [intOf]; omega
                · have y2 : wr.cell? ⟨b9, 2, none⟩ = some (.bool false) := (blk_cell HEk.out 2).trans rfl
                  have y3 : wr.cell? ⟨b9, 3, none⟩ = some (.bool true) := (blk_cell HEk.out 3).trans rfl
                  have z2 : wr.frozen? ⟨b9, 2, none⟩ = false := blk_frozen HEk.out 2
                  have z3 : wr.frozen? ⟨b9, 3, none⟩ = false := blk_frozen HEk.out 3
                  have ly := blk_lt HEk.out
                  go_wp2_with fail
                  go_roundw
                  case rel =>
                    exact ⟨j + 1, by omega, by show Value.int .i64 _ = Value.int .i64 _; congr 1; omega, rfl, rfl, hide (by
                      rw [G.E0_step HUI.out, G.E0_step HUI.out, HX2.out, HX3.out]
                      have h1 := blk_set HEk.out 2 (.bool (iv == tL))
                      have h2 := blk_set h1 3 (.bool true)
                      simpa using h2), hide (gr_trans HG7.out (gr_trans HGk.out (gr_trans (set_grown wr ⟨b9, 2, none⟩ _) (set_grown _ ⟨b9, 3, none⟩ _))))⟩
                  case measure => simp [intOf]; omega
                · have y2 : wr.cell? ⟨b9, 2, none⟩ = some (.bool true) := (blk_cell HEk.out 2).trans rfl
                  have y3 : wr.cell? ⟨b9, 3, none⟩ = some (.bool false) := (blk_cell HEk.out 3).trans rfl
                  have z2 : wr.frozen? ⟨b9, 2, none⟩ = false := blk_frozen HEk.out 2
                  have z3 : wr.frozen? ⟨b9, 3, none⟩ = false := blk_frozen HEk.out 3
                  have ly := blk_lt HEk.out
                  go_wp2_with fail
                  go_roundw
                  case rel =>
                    exact ⟨j + 1, by omega, by show Value.int .i64 _ = Value.int .i64 _; congr 1; omega, rfl, rfl, hide (by
                      rw [G.E0_step HUI.out, G.E0_step HUI.out, HX2.out, HX3.out]
                      have h1 := blk_set HEk.out 2 (.bool true)
                      have h2 := blk_set h1 3 (.bool (iv == tH))
                      simpa using h2), hide (gr_trans HG7.out (gr_trans HGk.out (gr_trans (set_grown wr ⟨b9, 2, none⟩ _) (set_grown _ ⟨b9, 3, none⟩ _))))⟩
                  case measure => simp [intOf]; omega
                · have y2 : wr.cell? ⟨b9, 2, none⟩ = some (.bool true) := (blk_cell HEk.out 2).trans rfl
                  have y3 : wr.cell? ⟨b9, 3, none⟩ = some (.bool true) := (blk_cell HEk.out 3).trans rfl
                  have z2 : wr.frozen? ⟨b9, 2, none⟩ = false := blk_frozen HEk.out 2
                  have z3 : wr.frozen? ⟨b9, 3, none⟩ = false := blk_frozen HEk.out 3
                  have ly := blk_lt HEk.out
                  go_wp2_with fail
                  go_roundw
                  case rel =>
                    exact ⟨j + 1, by omega, by show Value.int .i64 _ = Value.int .i64 _; congr 1; omega, rfl, rfl, hide (by
                      rw [G.E0_step HUI.out, G.E0_step HUI.out, HX2.out, HX3.out]
                      have h1 := blk_set HEk.out 2 (.bool true)
                      have h2 := blk_set h1 3 (.bool true)
                      simpa using h2), hide (gr_trans HG7.out (gr_trans HGk.out (gr_trans (set_grown wr ⟨b9, 2, none⟩ _) (set_grown _ ⟨b9, 3, none⟩ _))))⟩
                  case measure => simp [intOf]; omega
          · have hjN : j = (q.hi - q.lo + 1).toNat := by omega
            have hj1 : 1 ≤ j := by omega
            clear hrr
            rcases HSC2.out with ⟨h1, rfl⟩ | ⟨g, h1, rfl, h3⟩ | ⟨g, h1, rfl, h3, h4, h5⟩
            · have hc : G.cnt q id j 0 = 0 := by rw [G.cnt_start, h1]
              rw [hc]
              clear h1 hc
              go_wp2_with (go_at_call 13; (with_reducible refine (works_any _).mono ?_); rintro e w9 ⟨rfl, hb9⟩; have HB9 := hide (zbT HBr.out hb9 HBr.out.size); clear hb9)
              go_ret
              exact ⟨rfl, HB9.out⟩
            · have hc : G.cnt q id j 0 = j := by rw [G.cnt_start, h1]
              have hL : M.length = j := by rw [← HMM.out, G.mm_len h1, hjN]
              have hK : decide (0 < G.cnt q id j 0) = true := by rw [hc]; simp; omega
              have hN : G.NV M (G.cnt q id j 0) = true := by rw [hc]; unfold G.NV; rw [List.take_of_length_le (by omega)]; exact h3
              rw [hK, hN]
              clear h1 hc hL hK hN h3
              go_wp2_with (go_at_call 13; (with_reducible refine (works_any _).mono ?_); rintro e w9 ⟨rfl, hb9⟩; have HB9 := hide (zbT HBr.out hb9 HBr.out.size); clear hb9)
              go_ret
              exact ⟨rfl, HB9.out⟩
            · have hc : G.cnt q id j 0 = j := by rw [G.cnt_start, h1]
              have hL : M.length = j := by rw [← HMM.out, G.mm_len h1, hjN]
              have hK : decide (0 < G.cnt q id j 0) = true := by rw [hc]; simp; omega
              have hN : G.NV M (G.cnt q id j 0) = false := by rw [hc]; unfold G.NV; rw [List.take_of_length_le (by omega)]; exact h3
              have hne : M ≠ [] := by intro e; rw [e] at hL; simp at hL; omega
              have hUL := HUL.out
              have hneU : U ≠ [] := by intro e; rw [e] at hUL; simp at hUL; omega
              have k0 : G.E0 M sL (G.cnt q id j 0) = true := by rw [hc, h4, ← hL]; exact G.take_any_mem (G.minL_mem hne)
              have k1 : G.E0 M sH (G.cnt q id j 0) = true := by rw [hc, h5, ← hL]; exact G.take_any_mem (G.maxL_mem hne)
              have k2 : G.E0 U tL j = true := by rw [HUT.out.1, hjN, ← hUL]; exact G.take_any_mem (G.minL_mem hneU)
              have k3 : G.E0 U tH j = true := by rw [HUT.out.2, hjN, ← hUL]; exact G.take_any_mem (G.maxL_mem hneU)
              rw [k0, k1, k2, k3] at HEr
              rw [hK, hN]
              clear h1 hc hL hK hN h3 h4 h5 hne hUL hneU k0 k1 k2 k3
              have e0 : wr.cell? ⟨b9, 0, none⟩ = some (.bool true) := (blk_cell HEr.out 0).trans rfl
              have e1 : wr.cell? ⟨b9, 1, none⟩ = some (.bool true) := (blk_cell HEr.out 1).trans rfl
              have e2 : wr.cell? ⟨b9, 2, none⟩ = some (.bool true) := (blk_cell HEr.out 2).trans rfl
              have e3 : wr.cell? ⟨b9, 3, none⟩ = some (.bool true) := (blk_cell HEr.out 3).trans rfl
              have le := blk_lt HEr.out
              go_wp2_with (go_at_call 13; (with_reducible refine (works_any _).mono ?_); rintro e w9 ⟨rfl, hb9⟩; have HB9 := hide (zbT HBr.out hb9 HBr.out.size); clear hb9)
              go_ret
              exact ⟨rfl, HB9.out⟩
set_option maxHeartbeats 3200000 in
set_option maxRecDepth 100000 in
theorem withinLaw_long (q : G.Qu) (A : Option Addr) (n c : Nat) (F : Option Addr) (m d : Nat) (rate mi id : Int) (w : World) (h : 100 < n ∨ 100 < m) :
    Calls Try.prog 9 #[.agg #[.int .i64 q.opn, .int .i64 q.lo, .int .i64 q.hi, .int .i64 q.seats, .slice A n c, .slice F m d], .agg #[.int .i64 rate, .int .i64 mi, .int .i64 id]] w fun e w' => e = .returned (.bool true) ∧ Below w.heap.size w w' := by
  have HL := hide h
  clear h
  go_enter Try.func9, Try.ntmps9
  go_wp2_with (first | (go_at_call 30; (with_reducible refine (ready_long q A n c F m d rate _ HL.out).mono ?_); rintro e w1 ⟨rfl, hb1⟩; have HB1 := hide (zbT (show Below w.heap.size w _ by (repeat' first | exact zbR _ _ | assumption | refine zbD ?_ | refine zbA ?_ ?_ _ | refine zbS ?_ ?_ _ | refine zbT ?_ (by assumption) ?_ | (simp; done) | (simp; omega) | omega)) hb1 (by simp; omega)); clear hb1) | (go_at_call 13; (with_reducible refine (works_any _).mono ?_); rintro e w9 ⟨rfl, hb9⟩; have HB9 := hide (zbT HB1.out hb9 HB1.out.size); clear hb9))
  go_ret
  exact ⟨rfl, HB9.out⟩
end Go.Proofs.Ytlpjkolocgkcpaa
