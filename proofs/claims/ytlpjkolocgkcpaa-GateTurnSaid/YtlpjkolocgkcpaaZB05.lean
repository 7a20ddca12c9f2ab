/-
  Part of a claim's texts: contracts of the program's functions and the plain functions that they compute, in build order.
-/
import Derived.Test.YtlpjkolocgkcpaaZB03
import Derived.Test.YtlpjkolocgkcpaaZB04
namespace Go.Proofs.Ytlpjkolocgkcpaa
open Go.RowKit
attribute [local go_sem ↓] Go.wp_at_zero Go.wp_at_succ

theorem G.idxOf_lt {q : G.Qu} {id : Int} {gi : Nat} (h : G.idxOf q id = some gi) : gi < q.gs.length := by
  unfold G.idxOf at h
  rw [List.findIdx?_eq_some_iff_getElem] at h
  exact h.1
set_option maxHeartbeats 6400000 in
set_option maxRecDepth 100000 in
theorem Enough_any (q : G.Qu) (id : Int) (A : Option Addr) (n c : Nat) (F : Option Addr) (m d : Nat) (w : World) (h : QIn w q A n c F m d) (hid : (Lit.int .i64 id).wf = true) :
    Calls Try.prog 24 #[.agg #[.int .i64 q.opn, .int .i64 q.lo, .int .i64 q.hi, .int .i64 q.seats, .slice A n c, .slice F m d], .int .i64 id] w fun e w' => e = .returned (.tuple #[.int .i64 (G.enoughV q id), .int .i64 (G.enoughE q id)]) ∧ Below w.heap.size w w' := by
  have HI := hide h
  have HID := hide hid
  clear h hid
  cases hv : G.valid q
  · have HV := hide hv
    have hE : G.enoughE q id = 110 := by unfold G.enoughE; rw [hv]; rfl
    have hVV : G.enoughV q id = 0 := by unfold G.enoughV; rw [hv]; rfl
    rw [hE, hVV]
    clear hv hE hVV
    go_enter Try.func24, Try.ntmps24
    go_wp2_with (go_at_call 43; (with_reducible refine (openFor_any q id A n c F m d _ (HI.out.below (show Below w.heap.size w (w.alloc (.cells #[.int .i64 q.opn, .int .i64 q.lo, .int .i64 q.hi, .int .i64 q.seats, .slice A n c, .slice F m d] 27)) from zbA (zbR _ _) (Nat.le_refl _) _)) HID.out).mono ?_); rintro e w2 ⟨hb2, hno, _⟩; obtain rfl := hno HV.out; clear hno; have HB2 := hide (zbT (show Below w.heap.size w (w.alloc (.cells #[.int .i64 q.opn, .int .i64 q.lo, .int .i64 q.hi, .int .i64 q.seats, .slice A n c, .slice F m d] 27)) from zbA (zbR _ _) (Nat.le_refl _) _) hb2 (by simp)); clear hb2)
    go_ret2
    exact ⟨rfl, zbA HB2.out HB2.out.size _⟩
  · have HV := hide hv
    cases hx : G.idxOf q id with
    | none =>
      have HX := hide hx
      have hE : G.enoughE q id = 1 := by unfold G.enoughE; rw [hv, if_pos rfl, hx]
      have hVV : G.enoughV q id = 0 := by unfold G.enoughV; rw [hv, if_pos rfl, hx]
      rw [hE, hVV]
      clear hv hE hVV hx
      go_enter Try.func24, Try.ntmps24
      go_wp2_with (go_at_call 43; (with_reducible refine (openFor_any q id A n c F m d _ (HI.out.below (show Below w.heap.size w (w.alloc (.cells #[.int .i64 q.opn, .int .i64 q.lo, .int .i64 q.hi, .int .i64 q.seats, .slice A n c, .slice F m d] 27)) from zbA (zbR _ _) (Nat.le_refl _) _)) HID.out).mono ?_); rintro e w2 ⟨hb2, _, hyes⟩; obtain rfl := (hyes HV.out).1 HX.out; clear hyes; have HB2 := hide (zbT (show Below w.heap.size w (w.alloc (.cells #[.int .i64 q.opn, .int .i64 q.lo, .int .i64 q.hi, .int .i64 q.seats, .slice A n c, .slice F m d] 27)) from zbA (zbR _ _) (Nat.le_refl _) _) hb2 (by simp)); clear hb2)
      go_ret2
      exact ⟨rfl, zbA HB2.out HB2.out.size _⟩
    | some gi =>
      have HX := hide hx
      have HGI := hide (show gi < n by rw [← HI.out.gl]; exact G.idxOf_lt hx)
      cases he : G.enough q gi with
      | none =>
        have HEN := hide he
        have hE : G.enoughE q id = 3 := by unfold G.enoughE; rw [hv, if_pos rfl, hx]; dsimp only; rw [he]; rfl
        have hVV : G.enoughV q id = 0 := by unfold G.enoughV; rw [hv, if_pos rfl, hx]; dsimp only; rw [he]; rfl
        rw [hE, hVV]
        clear hv hE hVV hx he
        go_enter Try.func24, Try.ntmps24
        go_wp2_with (first | (go_at_call 43; (with_reducible refine (openFor_any q id A n c F m d _ (HI.out.below (show Below w.heap.size w (w.alloc (.cells #[.int .i64 q.opn, .int .i64 q.lo, .int .i64 q.hi, .int .i64 q.seats, .slice A n c, .slice F m d] 27)) from zbA (zbR _ _) (Nat.le_refl _) _)) HID.out).mono ?_); rintro e w2 ⟨hb2, _, hyes⟩; obtain ⟨F2, d2, fs2, g, O, co, ord, rfl, hpf, hL⟩ := (hyes HV.out).2 _ HX.out; have HPF := hide hpf; have HL := hide hL; clear hyes hpf hL; have HB2 := hide (zbT (show Below w.heap.size w (w.alloc (.cells #[.int .i64 q.opn, .int .i64 q.lo, .int .i64 q.hi, .int .i64 q.seats, .slice A n c, .slice F m d] 27)) from zbA (zbR _ _) (Nat.le_refl _) _) hb2 (by simp)); clear hb2) | (go_at_call 48; (with_reducible refine (enough_any { q with fs := fs2 } A n c F2 m d2 g O co ord gi _ (HL.out.below (zbA (zbR _ _) (Nat.le_refl _) _)) HGI.out).mono ?_); rintro e w5 ⟨rfl, hb5⟩; rw [G.enough_fs HPF.out, HEN.out]; have HB5 := hide (zbT (zbA HB2.out HB2.out.size _) hb5 (Nat.le_trans HB2.out.size (by simp))); clear hb5))
        go_ret2
        exact ⟨rfl, HB5.out⟩
      | some s =>
        have HEN := hide he
        have hE : G.enoughE q id = 0 := by unfold G.enoughE; rw [hv, if_pos rfl, hx]; dsimp only; rw [he]; rfl
        have hVV : G.enoughV q id = s := by unfold G.enoughV; rw [hv, if_pos rfl, hx]; dsimp only; rw [he]; rfl
        rw [hE, hVV]
        clear hv hE hVV hx he
        go_enter Try.func24, Try.ntmps24
        go_wp2_with (first | (go_at_call 43; (with_reducible refine (openFor_any q id A n c F m d _ (HI.out.below (show Below w.heap.size w (w.alloc (.cells #[.int .i64 q.opn, .int .i64 q.lo, .int .i64 q.hi, .int .i64 q.seats, .slice A n c, .slice F m d] 27)) from zbA (zbR _ _) (Nat.le_refl _) _)) HID.out).mono ?_); rintro e w2 ⟨hb2, _, hyes⟩; obtain ⟨F2, d2, fs2, g, O, co, ord, rfl, hpf, hL⟩ := (hyes HV.out).2 _ HX.out; have HPF := hide hpf; have HL := hide hL; clear hyes hpf hL; have HB2 := hide (zbT (show Below w.heap.size w (w.alloc (.cells #[.int .i64 q.opn, .int .i64 q.lo, .int .i64 q.hi, .int .i64 q.seats, .slice A n c, .slice F m d] 27)) from zbA (zbR _ _) (Nat.le_refl _) _) hb2 (by simp)); clear hb2) | (go_at_call 48; (with_reducible refine (enough_any { q with fs := fs2 } A n c F2 m d2 g O co ord gi _ (HL.out.below (zbA (zbR _ _) (Nat.le_refl _) _)) HGI.out).mono ?_); rintro e w5 ⟨rfl, hb5⟩; rw [G.enough_fs HPF.out, HEN.out]; have HB5 := hide (zbT (zbA HB2.out HB2.out.size _) hb5 (Nat.le_trans HB2.out.size (by simp))); clear hb5))
        go_ret2
        exact ⟨rfl, HB5.out⟩
end Go.Proofs.Ytlpjkolocgkcpaa

namespace Go.Proofs.Ytlpjkolocgkcpaa
open Go.RowKit
attribute [local go_sem ↓] Go.wp_at_zero Go.wp_at_succ

set_option maxHeartbeats 6400000 in
set_option maxRecDepth 100000 in
theorem Sure_any (q : G.Qu) (id : Int) (A : Option Addr) (n c : Nat) (F : Option Addr) (m d : Nat) (w : World) (h : QIn w q A n c F m d) (hid : (Lit.int .i64 id).wf = true) :
    Calls Try.prog 22 #[.agg #[.int .i64 q.opn, .int .i64 q.lo, .int .i64 q.hi, .int .i64 q.seats, .slice A n c, .slice F m d], .int .i64 id] w fun e w' => e = .returned (.tuple #[.agg #[.int .i64 (G.sureV q id).1, .int .i64 (G.sureV q id).2], .int .i64 (G.sureE q id)]) ∧ Below w.heap.size w w' := by
  have HI := hide h
  have HID := hide hid
  clear h hid
  obtain ⟨er, her⟩ : ∃ x, G.sureE q id = x := ⟨_, rfl⟩
  obtain ⟨va, hva⟩ : ∃ x, (G.sureV q id).1 = x := ⟨_, rfl⟩
  obtain ⟨vb, hvb⟩ : ∃ x, (G.sureV q id).2 = x := ⟨_, rfl⟩
  rw [her, hva, hvb]
  have HER := hide her
  have HVA := hide hva
  have HVB := hide hvb
  clear her hva hvb
  go_enter Try.func22, Try.ntmps22
  go_upto_region 1 with fail
  refine cap_w (M := Code.wp _ _ _ _) _ (fun w1 hw1 => ?_)
  have HB1 := hide (show Below w.heap.size w w1 by rw [hw1]; (repeat' first | exact zbR _ _ | assumption | refine zbD ?_ | refine zbA ?_ ?_ _ | refine zbS ?_ ?_ _ | refine zbT ?_ (by assumption) ?_ | (simp; done) | (simp; omega) | omega))
  have HQ := hide (show w1.heap[w.heap.size]? = some (.cells #[.int .i64 q.opn, .int .i64 q.lo, .int .i64 q.hi, .int .i64 q.seats, .slice A n c, .slice F m d] 27 (0, 0)) by
    rw [hw1]; exact (Below.heap_alloc _ _ _ (by simp)).trans (World.alloc_heap_new _ _))
  have HZ := hide (show w1.heap[w.heap.size + 1]? = some (.cells #[.int .i64 0, .int .i64 0] 23 (0, 0)) by
    rw [hw1]; exact alloc_new_at (by simp))
  clear hw1
  obtain ⟨b1, hb1⟩ : ∃ x, w.heap.size + 1 = x := ⟨_, rfl⟩
  rw [hb1] at HZ ⊢
  obtain ⟨b0, hb0⟩ : ∃ x, w.heap.size = x := ⟨_, rfl⟩
  have HBB := hide (show w.heap.size ≤ b1 by omega)
  rw [hb0] at HQ ⊢
  clear hb1 hb0
  have HI1 := hide (HI.out.below HB1.out)
  have q0 : w1.cell? ⟨b0, 0, none⟩ = some (.int .i64 q.opn) := (blk_cell HQ.out 0).trans rfl
  have q1 : w1.cell? ⟨b0, 1, none⟩ = some (.int .i64 q.lo) := (blk_cell HQ.out 1).trans rfl
  have q2 : w1.cell? ⟨b0, 2, none⟩ = some (.int .i64 q.hi) := (blk_cell HQ.out 2).trans rfl
  have q3 : w1.cell? ⟨b0, 3, none⟩ = some (.int .i64 q.seats) := (blk_cell HQ.out 3).trans rfl
  have q4 : w1.cell? ⟨b0, 4, none⟩ = some (.slice A n c) := (blk_cell HQ.out 4).trans rfl
  have q5 : w1.cell? ⟨b0, 5, none⟩ = some (.slice F m d) := (blk_cell HQ.out 5).trans rfl
  have lq := blk_lt HQ.out
  cases hv : G.valid q
  · have HV := hide hv
    have hE : G.sureE q id = 110 := by unfold G.sureE; rw [hv]; rfl
    have hVV : G.sureV q id = (0, 0) := by unfold G.sureV; rw [if_neg (by rw [hE]; decide)]
    have e0 := HER.out
    rw [hE] at e0
    have e1 := HVA.out
    rw [hVV] at e1
    have e2 := HVB.out
    rw [hVV] at e2
    dsimp only at e1 e2
    subst e0 e1 e2
    clear HER HVA HVB
    clear hv hE hVV
    go_upto_region 2 with (go_at_call 43; (with_reducible refine (openFor_any q id A n c F m d _ HI1.out HID.out).mono ?_); rintro e w2 ⟨hb2, hno, _⟩; obtain rfl := hno HV.out; clear hno; have HB2 := hide (zbT HB1.out hb2 HB1.out.size); have HZ2 := bkT hb2 HZ; clear hb2 q0 q1 q2 q3 q4 q5 lq)
    refine cap_w (M := Code.wp _ _ _ _) _ (fun w3 hw3 => ?_)
    have HB3 := hide (show Below w.heap.size w w3 by rw [hw3]; exact zbA HB2.out HB2.out.size _)
    have HZ3 := hide (show w3.heap[b1]? = some (.cells #[.int .i64 0, .int .i64 0] 23 (0, 0)) by rw [hw3]; exact (Below.heap_alloc _ _ _ (blk_lt HZ2.out)).trans HZ2.out)
    clear hw3
    go_wp2_with (refine wpList_store_row rfl 23 _ _ rfl b1 _ rfl rfl 23 _ HZ3.out spRow rfl (by simp [Value.oneCell']) ?_)
    refine cap_w (M := bodyPost _ _ _ _ _) _ (fun W9 hW9 => ?_)
    have HR9 := hide (show W9.heap[b1]? = some (.cells #[.int .i64 0, .int .i64 0] 23 (0, 0)) by rw [hW9]; exact setRow_heap _ _ _ _ _ _ HZ3.out)
    have HB9 := hide (show Below w.heap.size w W9 by rw [hW9]; exact below_row HB3.out HBB.out _)
    clear hW9
    have s0 : W9.cell? ⟨b1, 0, none⟩ = some (.int .i64 0) := (blk_cell HR9.out 0).trans rfl
    have s1 : W9.cell? ⟨b1, 1, none⟩ = some (.int .i64 0) := (blk_cell HR9.out 1).trans rfl
    exact bodyPost_ret (v := .tuple #[.agg #[.int .i64 0, .int .i64 0], .int .i64 110]) (by simp [results, Try.results22, go_sem, s0, s1]) rfl ⟨rfl, HB9.out⟩
  · have HV := hide hv
    cases hx : G.idxOf q id with
    | none =>
      have HX := hide hx
      have hE : G.sureE q id = 1 := by unfold G.sureE; rw [hv, if_pos rfl, hx]
      have hVV : G.sureV q id = (0, 0) := by unfold G.sureV; rw [if_neg (by rw [hE]; decide)]
      have e0 := HER.out
      rw [hE] at e0
      have e1 := HVA.out
      rw [hVV] at e1
      have e2 := HVB.out
      rw [hVV] at e2
      dsimp only at e1 e2
      subst e0 e1 e2
      clear HER HVA HVB
      clear hv hE hVV hx
      go_upto_region 2 with (go_at_call 43; (with_reducible refine (openFor_any q id A n c F m d _ HI1.out HID.out).mono ?_); rintro e w2 ⟨hb2, _, hyes⟩; obtain rfl := (hyes HV.out).1 HX.out; clear hyes; have HB2 := hide (zbT HB1.out hb2 HB1.out.size); have HZ2 := bkT hb2 HZ; clear hb2 q0 q1 q2 q3 q4 q5 lq)
      refine cap_w (M := Code.wp _ _ _ _) _ (fun w3 hw3 => ?_)
      have HB3 := hide (show Below w.heap.size w w3 by rw [hw3]; exact zbA HB2.out HB2.out.size _)
      have HZ3 := hide (show w3.heap[b1]? = some (.cells #[.int .i64 0, .int .i64 0] 23 (0, 0)) by rw [hw3]; exact (Below.heap_alloc _ _ _ (blk_lt HZ2.out)).trans HZ2.out)
      clear hw3
      go_wp2_with (refine wpList_store_row rfl 23 _ _ rfl b1 _ rfl rfl 23 _ HZ3.out spRow rfl (by simp [Value.oneCell']) ?_)
      refine cap_w (M := bodyPost _ _ _ _ _) _ (fun W9 hW9 => ?_)
      have HR9 := hide (show W9.heap[b1]? = some (.cells #[.int .i64 0, .int .i64 0] 23 (0, 0)) by rw [hW9]; exact setRow_heap _ _ _ _ _ _ HZ3.out)
      have HB9 := hide (show Below w.heap.size w W9 by rw [hW9]; exact below_row HB3.out HBB.out _)
      clear hW9
      have s0 : W9.cell? ⟨b1, 0, none⟩ = some (.int .i64 0) := (blk_cell HR9.out 0).trans rfl
      have s1 : W9.cell? ⟨b1, 1, none⟩ = some (.int .i64 0) := (blk_cell HR9.out 1).trans rfl
      exact bodyPost_ret (v := .tuple #[.agg #[.int .i64 0, .int .i64 0], .int .i64 1]) (by simp [results, Try.results22, go_sem, s0, s1]) rfl ⟨rfl, HB9.out⟩
    | some gi =>
      have HX := hide hx
      have HGI := hide (show gi < n by rw [← HI.out.gl]; exact G.idxOf_lt hx)
      have hval := G.valid_iff.1 hv
      have hrl := G.rates_len hval.lh
      have hul : (G.minutesOf q gi).length = (G.rates q).length := by unfold G.minutesOf; rw [List.length_map]
      have HU0 := hide (show 1 ≤ (G.minutesOf q gi).length by rw [hul]; have := hval.lh; omega)
      have HU1 := hide (show (G.minutesOf q gi).length ≤ 1000000 by rw [hul]; have := hval.h1; have := hval.l0; omega)
      clear hval hrl hul
      cases hc : (G.minutesOf q gi).contains (-1)
      · have HCN := hide hc
        have hE : G.sureE q id = 0 := by unfold G.sureE; rw [hv, if_pos rfl, hx]; dsimp only; rw [hc]; rfl
        have hVV : G.sureV q id = (G.minL (G.minutesOf q gi), G.maxL (G.minutesOf q gi)) := by unfold G.sureV; rw [if_pos hE, hx]
        have e0 := HER.out
        rw [hE] at e0
        have e1 := HVA.out
        rw [hVV] at e1
        have e2 := HVB.out
        rw [hVV] at e2
        dsimp only at e1 e2
        subst e0 e1 e2
        clear HER HVA HVB
        clear hv hE hVV hx hc
        go_upto_region 2 with (go_at_call 43; (with_reducible refine (openFor_any q id A n c F m d _ HI1.out HID.out).mono ?_); rintro e w2 ⟨hb2, _, hyes⟩; obtain ⟨F2, d2, fs2, g, O, co, ord, rfl, hpf, hL⟩ := (hyes HV.out).2 _ HX.out; have HPF := hide hpf; have HL := hide hL; clear hyes hpf hL; have HB2 := hide (zbT HB1.out hb2 HB1.out.size); have HZ2 := bkT hb2 HZ; clear hb2 q0 q1 q2 q3 q4 q5 lq)
        refine cap_w (M := Code.wp _ _ _ _) _ (fun w3 hw3 => ?_)
        have HB3 := hide (show Below w.heap.size w w3 by rw [hw3]; exact zbA HB2.out HB2.out.size _)
        have HZ3 := hide (show w3.heap[b1]? = some (.cells #[.int .i64 0, .int .i64 0] 23 (0, 0)) by rw [hw3]; exact (Below.heap_alloc _ _ _ (blk_lt HZ2.out)).trans HZ2.out)
        have HX3 := hide (show w3.heap[w2.heap.size]? = some (.cells #[.int .i64 q.opn, .int .i64 q.lo, .int .i64 q.hi, .int .i64 q.seats, .slice A n c, .slice F2 m d2, .map (some g), .slice O n co] 67 (0, 0)) by rw [hw3]; exact World.alloc_heap_new _ _)
        have HL3 := hide (HL.out.below (show Below w2.heap.size w2 w3 by rw [hw3]; exact zbA (zbR _ _) (Nat.le_refl _) _))
        have hx3 := HX3.out
        have x0 : w3.cell? ⟨w2.heap.size, 0, none⟩ = some (.int .i64 q.opn) := (blk_cell hx3 0).trans rfl
        have x1 : w3.cell? ⟨w2.heap.size, 1, none⟩ = some (.int .i64 q.lo) := (blk_cell hx3 1).trans rfl
        have x2 : w3.cell? ⟨w2.heap.size, 2, none⟩ = some (.int .i64 q.hi) := (blk_cell hx3 2).trans rfl
        have x3 : w3.cell? ⟨w2.heap.size, 3, none⟩ = some (.int .i64 q.seats) := (blk_cell hx3 3).trans rfl
        have x4 : w3.cell? ⟨w2.heap.size, 4, none⟩ = some (.slice A n c) := (blk_cell hx3 4).trans rfl
        have x5 : w3.cell? ⟨w2.heap.size, 5, none⟩ = some (.slice F2 m d2) := (blk_cell hx3 5).trans rfl
        have x6 : w3.cell? ⟨w2.heap.size, 6, none⟩ = some (.map (some g)) := (blk_cell hx3 6).trans rfl
        have x7 : w3.cell? ⟨w2.heap.size, 7, none⟩ = some (.slice O n co) := (blk_cell hx3 7).trans rfl
        have lx := blk_lt HX3.out
        clear hw3 hx3
        go_wp2_with (first | (go_at_call 44; (with_reducible refine (minutesOf_any { q with fs := fs2 } A n c F2 m d2 g O co ord gi _ HL3.out HGI.out).mono ?_); rintro e w5 ⟨A5, c5, rfl, ho5, hb5⟩; rw [G.minutesOf_fs HPF.out] at ho5 ⊢; have HO5 := hide ho5; have HZ5 := bkT hb5 HZ3; have HB5 := hide (zbT HB3.out hb5 HB3.out.size); clear ho5 hb5) | (go_at_call 45; (with_reducible refine (contains_any A5 _ c5 (G.minutesOf q gi) (-1) _ rfl (owns_RdI HO5.out rfl) HU1.out).mono ?_); rintro e w6 ⟨rfl, rfl⟩; rw [HCN.out]) | (go_at_call 41; (with_reducible refine (spanOf_any A5 _ c5 (G.minutesOf q gi) _ rfl (owns_RdI HO5.out rfl) HU1.out HU0.out).mono ?_); rintro e w6 ⟨rfl, hb6⟩; have HZ6 := bkT hb6 HZ5; have HB6 := hide (zbT HB5.out hb6 HB5.out.size); clear hb6) | (refine wpList_store_row rfl 23 _ _ rfl b1 _ rfl rfl 23 _ HZ6.out spRow rfl (by simp [Value.oneCell']) ?_))
        refine cap_w (M := bodyPost _ _ _ _ _) _ (fun W9 hW9 => ?_)
        have HR9 := hide (show W9.heap[b1]? = some (.cells #[.int .i64 (G.minL (G.minutesOf q gi)), .int .i64 (G.maxL (G.minutesOf q gi))] 23 (0, 0)) by rw [hW9]; exact setRow_heap _ _ _ _ _ _ HZ6.out)
        have HB9 := hide (show Below w.heap.size w W9 by rw [hW9]; exact below_row HB6.out HBB.out _)
        clear hW9
        have s0 : W9.cell? ⟨b1, 0, none⟩ = some (.int .i64 (G.minL (G.minutesOf q gi))) := (blk_cell HR9.out 0).trans rfl
        have s1 : W9.cell? ⟨b1, 1, none⟩ = some (.int .i64 (G.maxL (G.minutesOf q gi))) := (blk_cell HR9.out 1).trans rfl
        exact bodyPost_ret (v := .tuple #[.agg #[.int .i64 (G.minL (G.minutesOf q gi)), .int .i64 (G.maxL (G.minutesOf q gi))], .int .i64 0]) (by simp [results, Try.results22, go_sem, s0, s1]) rfl ⟨rfl, HB9.out⟩
      · have HCN := hide hc
        have hE : G.sureE q id = 3 := by unfold G.sureE; rw [hv, if_pos rfl, hx]; dsimp only; rw [hc]; rfl
        have hVV : G.sureV q id = (0, 0) := by unfold G.sureV; rw [if_neg (by rw [hE]; decide)]
        have e0 := HER.out
        rw [hE] at e0
        have e1 := HVA.out
        rw [hVV] at e1
        have e2 := HVB.out
        rw [hVV] at e2
        dsimp only at e1 e2
        subst e0 e1 e2
        clear HER HVA HVB
        clear hv hE hVV hx hc
        go_upto_region 2 with (go_at_call 43; (with_reducible refine (openFor_any q id A n c F m d _ HI1.out HID.out).mono ?_); rintro e w2 ⟨hb2, _, hyes⟩; obtain ⟨F2, d2, fs2, g, O, co, ord, rfl, hpf, hL⟩ := (hyes HV.out).2 _ HX.out; have HPF := hide hpf; have HL := hide hL; clear hyes hpf hL; have HB2 := hide (zbT HB1.out hb2 HB1.out.size); have HZ2 := bkT hb2 HZ; clear hb2 q0 q1 q2 q3 q4 q5 lq)
        refine cap_w (M := Code.wp _ _ _ _) _ (fun w3 hw3 => ?_)
        have HB3 := hide (show Below w.heap.size w w3 by rw [hw3]; exact zbA HB2.out HB2.out.size _)
        have HZ3 := hide (show w3.heap[b1]? = some (.cells #[.int .i64 0, .int .i64 0] 23 (0, 0)) by rw [hw3]; exact (Below.heap_alloc _ _ _ (blk_lt HZ2.out)).trans HZ2.out)
        have HX3 := hide (show w3.heap[w2.heap.size]? = some (.cells #[.int .i64 q.opn, .int .i64 q.lo, .int .i64 q.hi, .int .i64 q.seats, .slice A n c, .slice F2 m d2, .map (some g), .slice O n co] 67 (0, 0)) by rw [hw3]; exact World.alloc_heap_new _ _)
        have HL3 := hide (HL.out.below (show Below w2.heap.size w2 w3 by rw [hw3]; exact zbA (zbR _ _) (Nat.le_refl _) _))
        have hx3 := HX3.out
        have x0 : w3.cell? ⟨w2.heap.size, 0, none⟩ = some (.int .i64 q.opn) := (blk_cell hx3 0).trans rfl
        have x1 : w3.cell? ⟨w2.heap.size, 1, none⟩ = some (.int .i64 q.lo) := (blk_cell hx3 1).trans rfl
        have x2 : w3.cell? ⟨w2.heap.size, 2, none⟩ = some (.int .i64 q.hi) := (blk_cell hx3 2).trans rfl
        have x3 : w3.cell? ⟨w2.heap.size, 3, none⟩ = some (.int .i64 q.seats) := (blk_cell hx3 3).trans rfl
        have x4 : w3.cell? ⟨w2.heap.size, 4, none⟩ = some (.slice A n c) := (blk_cell hx3 4).trans rfl
        have x5 : w3.cell? ⟨w2.heap.size, 5, none⟩ = some (.slice F2 m d2) := (blk_cell hx3 5).trans rfl
        have x6 : w3.cell? ⟨w2.heap.size, 6, none⟩ = some (.map (some g)) := (blk_cell hx3 6).trans rfl
        have x7 : w3.cell? ⟨w2.heap.size, 7, none⟩ = some (.slice O n co) := (blk_cell hx3 7).trans rfl
        have lx := blk_lt HX3.out
        clear hw3 hx3
        go_wp2_with (first | (go_at_call 44; (with_reducible refine (minutesOf_any { q with fs := fs2 } A n c F2 m d2 g O co ord gi _ HL3.out HGI.out).mono ?_); rintro e w5 ⟨A5, c5, rfl, ho5, hb5⟩; rw [G.minutesOf_fs HPF.out] at ho5 ⊢; have HO5 := hide ho5; have HZ5 := bkT hb5 HZ3; have HB5 := hide (zbT HB3.out hb5 HB3.out.size); clear ho5 hb5) | (go_at_call 45; (with_reducible refine (contains_any A5 _ c5 (G.minutesOf q gi) (-1) _ rfl (owns_RdI HO5.out rfl) HU1.out).mono ?_); rintro e w6 ⟨rfl, rfl⟩; rw [HCN.out]) | (refine wpList_store_row rfl 23 _ _ rfl b1 _ rfl rfl 23 _ HZ5.out spRow rfl (by simp [Value.oneCell']) ?_))
        refine cap_w (M := bodyPost _ _ _ _ _) _ (fun W9 hW9 => ?_)
        have HR9 := hide (show W9.heap[b1]? = some (.cells #[.int .i64 0, .int .i64 0] 23 (0, 0)) by rw [hW9]; exact setRow_heap _ _ _ _ _ _ HZ5.out)
        have HB9 := hide (show Below w.heap.size w W9 by rw [hW9]; exact below_row HB5.out HBB.out _)
        clear hW9
        have s0 : W9.cell? ⟨b1, 0, none⟩ = some (.int .i64 0) := (blk_cell HR9.out 0).trans rfl
        have s1 : W9.cell? ⟨b1, 1, none⟩ = some (.int .i64 0) := (blk_cell HR9.out 1).trans rfl
        exact bodyPost_ret (v := .tuple #[.agg #[.int .i64 0, .int .i64 0], .int .i64 3]) (by simp [results, Try.results22, go_sem, s0, s1]) rfl ⟨rfl, HB9.out⟩
end Go.Proofs.Ytlpjkolocgkcpaa

namespace Go.Proofs.Ytlpjkolocgkcpaa
open Go.RowKit
attribute [local go_sem ↓] Go.wp_at_zero Go.wp_at_succ

theorem quRow : (Try.prog.info? 27).map (·.size) = some 6 := by kernel_rfl
theorem tmRow : (Try.prog.info? 48).map (·.size) = some 3 := by kernel_rfl
structure ExAt (w : World) (g f p t : Nat) : Prop where
  g : w.heap[g]? = some (.cells #[.int .i64 1, .int .i64 0, .int .i64 2, .int .i64 (-1), .int .i64 2, .int .i64 3, .int .i64 4, .int .i64 12, .int .i64 3, .int .i64 3, .int .i64 2, .int .i64 (-1), .int .i64 4, .int .i64 11, .int .i64 1, .int .i64 (-1)] 42 (0, 0))
  f : w.heap[f]? = some (.cells #[.int .i64 13, .int .i64 3] 54 (0, 0))
  p : w.heap[p]? = some (.cells #[.int .i64 30, .int .i64 90, .int .i64 200] 3 (0, 0))
  t : w.heap[t]? = some (.cells #[.int .i64 1, .int .i64 1001, .int .i64 0, .int .i64 0, .int .i64 2, .int .i64 1001, .int .i64 1, .int .i64 0, .int .i64 3, .int .i64 1001, .int .i64 1, .int .i64 600, .int .i64 4, .int .i64 1001, .int .i64 2, .int .i64 0] 61 (0, 0))
def ExPost (w : World) (e : Ending) (w' : World) : Prop := ∃ g f p t : Nat, e = .returned (.tuple #[.agg #[.int .i64 10, .int .i64 2, .int .i64 3, .int .i64 5, .slice (some ⟨g, 0, none⟩) 4 4, .slice (some ⟨f, 0, none⟩) 1 1], .agg #[.int .i64 60, .int .i64 120, .slice (some ⟨p, 0, none⟩) 3 3], .slice (some ⟨t, 0, none⟩) 4 4]) ∧ ExAt w' g f p t ∧ Below w.heap.size w w'

set_option maxHeartbeats 6400000 in
set_option maxRecDepth 100000 in
theorem Example_any (w : World) : Calls Try.prog 35 #[] w (ExPost w) := by
  go_enter Try.func35, Try.ntmps35
  go_upto_region 2 with fail
  refine cap_w (M := Code.wp _ _ _ _) _ (fun w1 hw1 => ?_)
  have HB1 := hide (show Below w.heap.size w w1 by rw [hw1]; (repeat' first | exact zbR _ _ | assumption | refine zbD ?_ | refine zbA ?_ ?_ _ | refine zbS ?_ ?_ _ | refine zbT ?_ (by assumption) ?_ | (simp; done) | (simp; omega) | omega))
  have H0 := hide (show w1.heap[w.heap.size]? = some (.cells #[.int .i64 0, .int .i64 0, .int .i64 0, .int .i64 0, .slice none 0 0, .slice none 0 0] 27 (0, 0)) by
    rw [hw1]; exact (Below.heap_alloc _ _ _ (by simp <;> omega)).trans ((Below.heap_alloc _ _ _ (by simp <;> omega)).trans ((Below.heap_alloc _ _ _ (by simp <;> omega)).trans ((Below.heap_alloc _ _ _ (by simp)).trans (World.alloc_heap_new _ _)))))
  have H1 := hide (show w1.heap[w.heap.size + 1]? = some (.cells #[.int .i64 0, .int .i64 0, .slice none 0 0] 48 (0, 0)) by
    rw [hw1]; exact (Below.heap_alloc _ _ _ (by simp <;> omega)).trans ((Below.heap_alloc _ _ _ (by simp <;> omega)).trans ((Below.heap_alloc _ _ _ (by simp)).trans (alloc_new_at (by simp)))))
  have H2 := hide (show w1.heap[w.heap.size + 1 + 1]? = some (.cells #[.int .i64 1, .int .i64 0, .int .i64 2, .int .i64 (-1), .int .i64 2, .int .i64 3, .int .i64 4, .int .i64 12, .int .i64 3, .int .i64 3, .int .i64 2, .int .i64 (-1), .int .i64 4, .int .i64 11, .int .i64 1, .int .i64 (-1)] 42 (0, 0)) by
    rw [hw1]; exact (Below.heap_alloc _ _ _ (by simp <;> omega)).trans ((Below.heap_alloc _ _ _ (by simp)).trans (alloc_new_at (by simp))))
  have H3 := hide (show w1.heap[w.heap.size + 1 + 1 + 1]? = some (.cells #[.int .i64 13, .int .i64 3] 54 (0, 0)) by
    rw [hw1]; exact (Below.heap_alloc _ _ _ (by simp)).trans (alloc_new_at (by simp)))
  have H4 := hide (show w1.heap[w.heap.size + 1 + 1 + 1 + 1]? = some (.cells #[.int .i64 10, .int .i64 2, .int .i64 3, .int .i64 5, .slice (some ⟨w.heap.size + 1 + 1, 0, none⟩) 4 4, .slice (some ⟨w.heap.size + 1 + 1 + 1, 0, none⟩) 1 1] 27 (0, 0)) by
    rw [hw1]; exact alloc_new_at (by simp))
  clear hw1
  obtain ⟨b0, hb0⟩ : ∃ x, w.heap.size = x := ⟨_, rfl⟩
  have HE0 := hide hb0
  rw [hb0] at H0 H1 H2 H3 H4 ⊢
  clear hb0
  obtain ⟨b1, hb1⟩ : ∃ x, b0 + 1 = x := ⟨_, rfl⟩
  rw [hb1] at H1 H2 H3 H4 ⊢
  obtain ⟨g, hg⟩ : ∃ x, b1 + 1 = x := ⟨_, rfl⟩
  rw [hg] at H2 H3 H4 ⊢
  obtain ⟨f, hf⟩ : ∃ x, g + 1 = x := ⟨_, rfl⟩
  rw [hf] at H3 H4 ⊢
  obtain ⟨b4, hb4⟩ : ∃ x, f + 1 = x := ⟨_, rfl⟩
  rw [hb4] at H4 ⊢
  have HE := hide (show b0 < b1 ∧ b1 < g ∧ g < f ∧ f < b4 by omega)
  clear hb1 hg hf hb4
  have q0 : w1.cell? ⟨b4, 0, none⟩ = some (.int .i64 10) := (blk_cell H4.out 0).trans rfl
  have q1 : w1.cell? ⟨b4, 1, none⟩ = some (.int .i64 2) := (blk_cell H4.out 1).trans rfl
  have q2 : w1.cell? ⟨b4, 2, none⟩ = some (.int .i64 3) := (blk_cell H4.out 2).trans rfl
  have q3 : w1.cell? ⟨b4, 3, none⟩ = some (.int .i64 5) := (blk_cell H4.out 3).trans rfl
  have q4 : w1.cell? ⟨b4, 4, none⟩ = some (.slice (some ⟨g, 0, none⟩) 4 4) := (blk_cell H4.out 4).trans rfl
  have q5 : w1.cell? ⟨b4, 5, none⟩ = some (.slice (some ⟨f, 0, none⟩) 1 1) := (blk_cell H4.out 5).trans rfl
  have lq := blk_lt H4.out
  go_wp2_with (first | (have HX0 := H0; refine cap_w (M := wpList _ _ _ _ _) _ (fun w2 hw2 => ?_); have HP := hide (show w2.heap[w1.heap.size]? = some (.cells #[.int .i64 30, .int .i64 90, .int .i64 200] 3 (0, 0)) by rw [hw2]; exact (Below.heap_alloc _ _ _ (by simp)).trans (World.alloc_heap_new _ _)); have HT := hide (show w2.heap[w1.heap.size + 1]? = some (.cells #[.int .i64 1, .int .i64 1001, .int .i64 0, .int .i64 0, .int .i64 2, .int .i64 1001, .int .i64 1, .int .i64 0, .int .i64 3, .int .i64 1001, .int .i64 1, .int .i64 600, .int .i64 4, .int .i64 1001, .int .i64 2, .int .i64 0] 61 (0, 0)) by rw [hw2]; exact alloc_new_at (by simp)); have HB2 := hide (show Below w1.heap.size w1 w2 by rw [hw2]; (repeat' first | exact zbR _ _ | assumption | refine zbD ?_ | refine zbA ?_ ?_ _ | refine zbS ?_ ?_ _ | refine zbT ?_ (by assumption) ?_ | (simp; done) | (simp; omega) | omega)); clear hw2 q0 q1 q2 q3 q4 q5 lq; obtain ⟨z1, hz1⟩ : ∃ x, w1.heap.size = x := ⟨_, rfl⟩; have HZ1 := hide hz1; rw [hz1] at HP HT ⊢; clear hz1; obtain ⟨z2, hz2⟩ : ∃ x, z1 + 1 = x := ⟨_, rfl⟩; have HZ2 := hide hz2; rw [hz2] at HT ⊢; clear hz2; refine wpList_store_row rfl 27 _ _ rfl b0 _ rfl rfl 27 _ (bkT HB2.out H0).out quRow rfl (by simp [Value.oneCell']) ?_; refine cap_w (M := wpList _ _ _ _ _) _ (fun w3 hw3 => ?_); have HR0 := hide (show w3.heap[b0]? = some (.cells #[.int .i64 10, .int .i64 2, .int .i64 3, .int .i64 5, .slice (some ⟨g, 0, none⟩) 4 4, .slice (some ⟨f, 0, none⟩) 1 1] 27 (0, 0)) by rw [hw3]; exact setRow_heap _ _ _ _ _ _ (bkT HB2.out H0).out); have HG3 := hide (show w2.grownBy w3 (some b0) by rw [hw3]; exact setRow_grown _ _ _); have H13 := bkG HG3.out (by have := HE.out; simp; omega) (bkT HB2.out H1); clear hw3 H0) | (refine wpList_store_row rfl 48 _ _ rfl b1 _ rfl rfl 48 _ H13.out tmRow rfl (by simp [Value.oneCell']) ?_))
  refine cap_w (M := bodyPost _ _ _ _ _) _ (fun W9 hW9 => ?_)
  have HR1 := hide (show W9.heap[b1]? = some (.cells #[.int .i64 60, .int .i64 120, .slice (some ⟨z1, 0, none⟩) 3 3] 48 (0, 0)) by rw [hW9]; exact setRow_heap _ _ _ _ _ _ H13.out)
  have HG9 := hide (show w3.grownBy W9 (some b1) by rw [hW9]; exact setRow_grown _ _ _)
  clear hW9
  have HR09 := bkG HG9.out (by have := HE.out; simp; omega) HR0
  have hz := blk_lt H4.out
  have HZZ := hide (show b4 < z1 ∧ z1 < z2 by have := HZ1.out; have := HZ2.out; omega)
  have to9 : ∀ (k : Nat) (ob : Obj), k ≠ b0 → k ≠ b1 → w2.heap[k]? = some ob → W9.heap[k]? = some ob := fun k ob h1 h2 h =>
    (bkG HG9.out (by simpa using h2) (bkG HG3.out (by simpa using h1) (hide h))).out
  have s0 : W9.cell? ⟨b0, 0, none⟩ = some (.int .i64 10) := (blk_cell HR09.out 0).trans rfl
  have s1 : W9.cell? ⟨b0, 1, none⟩ = some (.int .i64 2) := (blk_cell HR09.out 1).trans rfl
  have s2 : W9.cell? ⟨b0, 2, none⟩ = some (.int .i64 3) := (blk_cell HR09.out 2).trans rfl
  have s3 : W9.cell? ⟨b0, 3, none⟩ = some (.int .i64 5) := (blk_cell HR09.out 3).trans rfl
  have s4 : W9.cell? ⟨b0, 4, none⟩ = some (.slice (some ⟨g, 0, none⟩) 4 4) := (blk_cell HR09.out 4).trans rfl
  have s5 : W9.cell? ⟨b0, 5, none⟩ = some (.slice (some ⟨f, 0, none⟩) 1 1) := (blk_cell HR09.out 5).trans rfl
  have x0 : W9.cell? ⟨b1, 0, none⟩ = some (.int .i64 60) := (blk_cell HR1.out 0).trans rfl
  have x1 : W9.cell? ⟨b1, 1, none⟩ = some (.int .i64 120) := (blk_cell HR1.out 1).trans rfl
  have x2 : W9.cell? ⟨b1, 2, none⟩ = some (.slice (some ⟨z1, 0, none⟩) 3 3) := (blk_cell HR1.out 2).trans rfl
  have HB := hide (show Below w.heap.size w W9 from ((zbT HB1.out HB2.out HB1.out.size).trans (grown_below HG3.out (Nat.le_trans HB1.out.size HB2.out.size) (fun y hy => by have h5 := Option.some.inj hy; have := HE0.out; omega))).trans (grown_below HG9.out (Nat.le_trans (Nat.le_trans HB1.out.size HB2.out.size) HG3.out.size) (fun y hy => by have h5 := Option.some.inj hy; have := HE0.out; have := HE.out; omega)))
  have he := HE.out
  have hzz := HZZ.out
  refine bodyPost_ret (v := .tuple #[.agg #[.int .i64 10, .int .i64 2, .int .i64 3, .int .i64 5, .slice (some ⟨g, 0, none⟩) 4 4, .slice (some ⟨f, 0, none⟩) 1 1], .agg #[.int .i64 60, .int .i64 120, .slice (some ⟨z1, 0, none⟩) 3 3], .slice (some ⟨z2, 0, none⟩) 4 4]) (by simp [results, Try.results35, go_sem, s0, s1, s2, s3, s4, s5, x0, x1, x2]) rfl ⟨g, f, z1, z2, rfl, ⟨?_, ?_, ?_, ?_⟩, HB.out⟩
  · exact to9 _ _ (by omega) (by omega) (bkT HB2.out H2).out
  · exact to9 _ _ (by omega) (by omega) (bkT HB2.out H3).out
  · exact to9 _ _ (by omega) (by omega) HP.out
  · exact to9 _ _ (by omega) (by omega) HT.out
end Go.Proofs.Ytlpjkolocgkcpaa

namespace Go.Proofs.Ytlpjkolocgkcpaa
open Go.RowKit
attribute [local go_sem ↓] Go.wp_at_zero Go.wp_at_succ

set_option maxHeartbeats 3200000 in
set_option maxRecDepth 100000 in
theorem sameInts_eq (A1 A2 : Option Addr) (n c1 c2 : Nat) (xs : List Int) (w : World) (hn : xs.length = n) (hr1 : RdI w w.heap.size A1 xs) (hr2 : RdI w w.heap.size A2 xs) (hm : n ≤ 1000000) :
    Calls Try.prog 21 #[.slice A1 n c1, .slice A2 n c2] w fun e w' => e = .returned (.bool true) ∧ Below w.heap.size w w' := by
  have HN := hide hn
  have HR1 := hide hr1
  have HR2 := hide hr2
  clear hn hr1 hr2
  go_enter Try.func21, Try.ntmps21
  go_wp2_with fail
  go_loopw [5] (fun i wr => ∃ k : Nat, k ≤ n ∧ i = .int .i64 k ∧ Below w.heap.size w wr) (fun i _ => n - (intOf i).toNat)
  case atStart => exact ⟨0, by omega, rfl, by (repeat' first | exact zbR _ _ | assumption | refine zbD ?_ | refine zbA ?_ ?_ _ | refine zbS ?_ ?_ _ | refine zbT ?_ (by assumption) ?_ | (simp; done) | (simp; omega) | omega)⟩
  case round =>
    obtain ⟨k, hk, rfl, hB⟩ := hrel
    by_cases hlt : k < n
    · obtain ⟨p, hp'⟩ : ∃ q, xs[k]? = some q := ⟨_, List.getElem?_eq_getElem (by have := HN.out; omega)⟩
      obtain ⟨b, o, hA, hbB, c0⟩ := (HR1.out.below hB) k p hp'
      obtain ⟨b2, o2, hA2, hbB2, d0⟩ := (HR2.out.below hB) k p hp'
      subst hA hA2
      clear hp'
      have hlt' : (k : Int) < (n : Int) := by omega
      have hk0 : (0 : Int) ≤ (k : Int) := by omega
      go_wp2_with fail
      go_quiet (fail)
      go_wp2_with fail
      go_roundw
      case rel => exact ⟨k + 1, by omega, by go_num, below_drewN hB _⟩
      case measure => simp [intOf]; omega
    · have hkn : k = n := by omega
      subst hkn
      go_wp2_with fail
      go_ret
      exact ⟨rfl, hB⟩


theorem ExAt.qin {w : World} {g f p t : Nat} (h : ExAt w g f p t) : QIn w G.exQ (some ⟨g, 0, none⟩) 4 4 (some ⟨f, 0, none⟩) 1 1 := by
  have c : ∀ i, w.cell? ⟨g, i, none⟩ = _ := fun i => blk_cell h.g i
  have d : ∀ i, w.cell? ⟨f, i, none⟩ = _ := fun i => blk_cell h.f i
  refine ⟨rfl, rfl, by omega, by omega, fun k q hk => ?_, fun k q hk => ?_, fun b o e => ?_, fun e => (by cases e), fun q hq => ?_⟩
  · refine ⟨g, 0, rfl, blk_lt h.g, ?_⟩
    match k, hk with
    | 0, hk => cases hk; exact ⟨c 0, c 1, c 2, c 3⟩
    | 1, hk => cases hk; exact ⟨c 4, c 5, c 6, c 7⟩
    | 2, hk => cases hk; exact ⟨c 8, c 9, c 10, c 11⟩
    | 3, hk => cases hk; exact ⟨c 12, c 13, c 14, c 15⟩
    | k + 4, hk => cases hk
  · refine ⟨f, 0, rfl, blk_lt h.f, ?_⟩
    match k, hk with
    | 0, hk => cases hk; exact ⟨d 0, d 1⟩
    | k + 1, hk => cases hk
  · have : g = b := by simpa using congrArg (fun x => x.map (·.block)) e
    rw [← this]
    exact blk_lt h.g
  · simp only [G.exQ, List.mem_cons, List.not_mem_nil, or_false] at hq
    rcases hq with rfl | rfl | rfl | rfl <;> rfl
theorem ExAt.played {w : World} {g f p t : Nat} (h : ExAt w g f p t) : RdI w w.heap.size (some ⟨p, 0, none⟩) G.exX.played := by
  have c : ∀ i, w.cell? ⟨p, i, none⟩ = _ := fun i => blk_cell h.p i
  intro k x hk
  refine ⟨p, 0, rfl, blk_lt h.p, ?_⟩
  match k, hk with
  | 0, hk => cases hk; exact c 0
  | 1, hk => cases hk; exact c 1
  | 2, hk => cases hk; exact c 2
  | k + 3, hk => cases hk
theorem ExAt.tickets {w : World} {g f p t : Nat} (h : ExAt w g f p t) : RdT w w.heap.size (some ⟨t, 0, none⟩) G.exL := by
  have c : ∀ i, w.cell? ⟨t, i, none⟩ = _ := fun i => blk_cell h.t i
  intro k x hk
  refine ⟨t, 0, rfl, blk_lt h.t, ?_⟩
  match k, hk with
  | 0, hk => cases hk; exact ⟨c 0, c 1, c 2, c 3⟩
  | 1, hk => cases hk; exact ⟨c 4, c 5, c 6, c 7⟩
  | 2, hk => cases hk; exact ⟨c 8, c 9, c 10, c 11⟩
  | 3, hk => cases hk; exact ⟨c 12, c 13, c 14, c 15⟩
  | k + 4, hk => cases hk
theorem ExAt.below {w w' : World} {g f p t : Nat} (h : ExAt w g f p t) (hb : Below w.heap.size w w') : ExAt w' g f p t :=
  ⟨(bkT hb h.g).out, (bkT hb h.f).out, (bkT hb h.p).out, (bkT hb h.t).out⟩
end Go.Proofs.Ytlpjkolocgkcpaa

namespace Go.Proofs.Ytlpjkolocgkcpaa
open Go.RowKit
attribute [local go_sem ↓] Go.wp_at_zero Go.wp_at_succ

theorem ex_Enter {g f p t : Nat} (W : World) (h : ExAt W g f p t) : Calls Try.prog 17 #[.agg #[.int .i64 10, .int .i64 2, .int .i64 3, .int .i64 5, .slice (some ⟨g, 0, none⟩) 4 4, .slice (some ⟨f, 0, none⟩) 1 1], .int .i64 2] W fun e w' => ∃ (A : Option Addr) (c : Nat), e = .returned (.tuple #[.slice A 4 c, .int .i64 0]) ∧ RdI w' w'.heap.size A [10, -1, 12, 13] ∧ Below W.heap.size W w' :=
  (Enter_any G.exQ (some ⟨g, 0, none⟩) 4 4 (some ⟨f, 0, none⟩) 1 1 2 W h.qin).mono fun e w' h => by
    rw [G.ex_enter.1, G.ex_enter.2] at h
    obtain ⟨A, c, rfl, ho, hb⟩ := h
    exact ⟨A, c, rfl, owns_RdI ho rfl, hb⟩
theorem ex_Sure {g f p t : Nat} (W : World) (h : ExAt W g f p t) : Calls Try.prog 22 #[.agg #[.int .i64 10, .int .i64 2, .int .i64 3, .int .i64 5, .slice (some ⟨g, 0, none⟩) 4 4, .slice (some ⟨f, 0, none⟩) 1 1], .int .i64 4] W fun e w' => e = .returned (.tuple #[.agg #[.int .i64 12, .int .i64 13], .int .i64 0]) ∧ Below W.heap.size W w' :=
  (Sure_any G.exQ 4 (some ⟨g, 0, none⟩) 4 4 (some ⟨f, 0, none⟩) 1 1 W h.qin rfl).mono fun e w' h => by
    rw [G.ex_sure.1, G.ex_sure.2] at h
    exact h
theorem ex_Enough {g f p t : Nat} (W : World) (h : ExAt W g f p t) : Calls Try.prog 24 #[.agg #[.int .i64 10, .int .i64 2, .int .i64 3, .int .i64 5, .slice (some ⟨g, 0, none⟩) 4 4, .slice (some ⟨f, 0, none⟩) 1 1], .int .i64 2] W fun e w' => e = .returned (.tuple #[.int .i64 1, .int .i64 0]) ∧ Below W.heap.size W w' :=
  (Enough_any G.exQ 2 (some ⟨g, 0, none⟩) 4 4 (some ⟨f, 0, none⟩) 1 1 W h.qin rfl).mono fun e w' h => by
    rw [G.ex_enough.1, G.ex_enough.2] at h
    exact h
theorem ex_Total {g f p t : Nat} (W : World) (h : ExAt W g f p t) : Calls Try.prog 28 #[.agg #[.int .i64 60, .int .i64 120, .slice (some ⟨p, 0, none⟩) 3 3], .slice (some ⟨t, 0, none⟩) 4 4] W fun e w' => e = .returned (.tuple #[.int .i64 1501, .int .i64 0]) ∧ Below W.heap.size W w' :=
  (Total_any G.exX (some ⟨p, 0, none⟩) 3 3 (some ⟨t, 0, none⟩) 4 4 G.exL W rfl h.played (by omega) rfl h.tickets (fun q hq => by
    simp only [G.exL, List.mem_cons, List.not_mem_nil, or_false] at hq
    rcases hq with rfl | rfl | rfl | rfl <;> rfl) (by omega)).mono fun e w' h => by
    rw [G.ex_total.1, G.ex_total.2] at h
    exact h

theorem rdI_four {w : World} {q : Nat} {x y u v : Int} (hq : w.heap[q]? = some (.cells #[.int .i64 x, .int .i64 y, .int .i64 u, .int .i64 v] 3 (0, 0))) : RdI w w.heap.size (some ⟨q, 0, none⟩) [x, y, u, v] := by
  have c : ∀ i, w.cell? ⟨q, i, none⟩ = _ := fun i => blk_cell hq i
  intro k z hk
  refine ⟨q, 0, rfl, blk_lt hq, ?_⟩
  match k, hk with
  | 0, hk => cases hk; exact c 0
  | 1, hk => cases hk; exact c 1
  | 2, hk => cases hk; exact c 2
  | 3, hk => cases hk; exact c 3
  | k + 4, hk => cases hk

set_option maxHeartbeats 6400000 in
set_option maxRecDepth 100000 in
theorem works_any (w : World) : Calls Try.prog 13 #[] w fun e w' => e = .returned (.bool true) ∧ Below w.heap.size w w' := by
  go_enter Try.func13, Try.ntmps13
  go_upto_region 2 with (go_at_call 35; (with_reducible refine (Example_any _).mono ?_); rintro e w1 ⟨g, f, p, t, rfl, hx, hb⟩; have HX := hide hx; have HB1 := hide hb; clear hx hb)
  refine cap_w (M := Code.wp _ _ _ _) _ (fun w2 hw2 => ?_)
  have HB2 := hide (show Below w.heap.size w w2 by rw [hw2]; exact zbA (zbA HB1.out HB1.out.size _) (Nat.le_trans HB1.out.size (by simp)) _)
  have HX2 := hide (show ExAt w2 g f p t by rw [hw2]; exact HX.out.below (zbA (zbA (zbR _ _) (Nat.le_refl _) _) (by simp) _))
  have HQ2 := hide (show w2.heap[w1.heap.size]? = some (.cells #[.int .i64 10, .int .i64 2, .int .i64 3, .int .i64 5, .slice (some ⟨g, 0, none⟩) 4 4, .slice (some ⟨f, 0, none⟩) 1 1] 27 (0, 0)) by rw [hw2]; exact (Below.heap_alloc _ _ _ (by simp)).trans (World.alloc_heap_new _ _))
  have HT2 := hide (show w2.heap[w1.heap.size + 1]? = some (.cells #[.int .i64 60, .int .i64 120, .slice (some ⟨p, 0, none⟩) 3 3] 48 (0, 0)) by rw [hw2]; exact alloc_new_at (by simp))
  clear hw2
  obtain ⟨bq, hbq⟩ : ∃ x, w1.heap.size = x := ⟨_, rfl⟩
  rw [hbq] at HQ2 HT2 ⊢
  clear hbq
  obtain ⟨bx, hbx⟩ : ∃ x, bq + 1 = x := ⟨_, rfl⟩
  rw [hbx] at HT2 ⊢
  clear hbx
  have q0 : w2.cell? ⟨bq, 0, none⟩ = some (.int .i64 10) := (blk_cell HQ2.out 0).trans rfl
  have q1 : w2.cell? ⟨bq, 1, none⟩ = some (.int .i64 2) := (blk_cell HQ2.out 1).trans rfl
  have q2 : w2.cell? ⟨bq, 2, none⟩ = some (.int .i64 3) := (blk_cell HQ2.out 2).trans rfl
  have q3 : w2.cell? ⟨bq, 3, none⟩ = some (.int .i64 5) := (blk_cell HQ2.out 3).trans rfl
  have q4 : w2.cell? ⟨bq, 4, none⟩ = some (.slice (some ⟨g, 0, none⟩) 4 4) := (blk_cell HQ2.out 4).trans rfl
  have q5 : w2.cell? ⟨bq, 5, none⟩ = some (.slice (some ⟨f, 0, none⟩) 1 1) := (blk_cell HQ2.out 5).trans rfl
  have lq := blk_lt HQ2.out
  go_upto_region 3 with (go_at_call 17; (with_reducible refine (ex_Enter _ HX2.out).mono ?_); rintro e w3 ⟨A3, c3, rfl, hr3, hb3⟩; have HR3 := hide hr3; have HX3 := hide (HX2.out.below hb3); have HQ3 := bkT hb3 HQ2; have HT3 := bkT hb3 HT2; have HB3 := hide (zbT HB2.out hb3 HB2.out.size); clear hr3 hb3 q0 q1 q2 q3 q4 q5 lq)
  have q0 : w3.cell? ⟨bq, 0, none⟩ = some (.int .i64 10) := (blk_cell HQ3.out 0).trans rfl
  have q1 : w3.cell? ⟨bq, 1, none⟩ = some (.int .i64 2) := (blk_cell HQ3.out 1).trans rfl
  have q2 : w3.cell? ⟨bq, 2, none⟩ = some (.int .i64 3) := (blk_cell HQ3.out 2).trans rfl
  have q3 : w3.cell? ⟨bq, 3, none⟩ = some (.int .i64 5) := (blk_cell HQ3.out 3).trans rfl
  have q4 : w3.cell? ⟨bq, 4, none⟩ = some (.slice (some ⟨g, 0, none⟩) 4 4) := (blk_cell HQ3.out 4).trans rfl
  have q5 : w3.cell? ⟨bq, 5, none⟩ = some (.slice (some ⟨f, 0, none⟩) 1 1) := (blk_cell HQ3.out 5).trans rfl
  have lq := blk_lt HQ3.out
  go_upto_region 4 with (go_at_call 22; (with_reducible refine (ex_Sure _ HX3.out).mono ?_); rintro e w4 ⟨rfl, hb4⟩; have HR4 := hide ((HR3.out.below hb4).mono hb4.size); have HX4 := hide (HX3.out.below hb4); have HQ4 := bkT hb4 HQ3; have HT4 := bkT hb4 HT3; have HB4 := hide (zbT HB3.out hb4 HB3.out.size); clear hb4 q0 q1 q2 q3 q4 q5 lq)
  refine cap_w (M := Code.wp _ _ _ _) _ (fun w5 hw5 => ?_)
  have hb5 : Below w4.heap.size w4 w5 := by rw [hw5]; exact zbA (zbR _ _) (Nat.le_refl _) _
  have HS5 := hide (show w5.heap[w4.heap.size]? = some (.cells #[.int .i64 12, .int .i64 13] 23 (0, 0)) by rw [hw5]; exact World.alloc_heap_new _ _)
  have HR5 := hide ((HR4.out.below hb5).mono hb5.size)
  have HX5 := hide (HX4.out.below hb5)
  have HQ5 := bkT hb5 HQ4
  have HT5 := bkT hb5 HT4
  have HB5 := hide (zbT HB4.out hb5 HB4.out.size)
  clear hw5 hb5
  obtain ⟨bs, hbs⟩ : ∃ x, w4.heap.size = x := ⟨_, rfl⟩
  rw [hbs] at HS5 ⊢
  clear hbs
  have q0 : w5.cell? ⟨bq, 0, none⟩ = some (.int .i64 10) := (blk_cell HQ5.out 0).trans rfl
  have q1 : w5.cell? ⟨bq, 1, none⟩ = some (.int .i64 2) := (blk_cell HQ5.out 1).trans rfl
  have q2 : w5.cell? ⟨bq, 2, none⟩ = some (.int .i64 3) := (blk_cell HQ5.out 2).trans rfl
  have q3 : w5.cell? ⟨bq, 3, none⟩ = some (.int .i64 5) := (blk_cell HQ5.out 3).trans rfl
  have q4 : w5.cell? ⟨bq, 4, none⟩ = some (.slice (some ⟨g, 0, none⟩) 4 4) := (blk_cell HQ5.out 4).trans rfl
  have q5 : w5.cell? ⟨bq, 5, none⟩ = some (.slice (some ⟨f, 0, none⟩) 1 1) := (blk_cell HQ5.out 5).trans rfl
  have lq := blk_lt HQ5.out
  go_upto_region 5 with (go_at_call 24; (with_reducible refine (ex_Enough _ HX5.out).mono ?_); rintro e w6 ⟨rfl, hb6⟩; have HR6 := hide ((HR5.out.below hb6).mono hb6.size); have HX6 := hide (HX5.out.below hb6); have HT6 := bkT hb6 HT5; have HS6 := bkT hb6 HS5; have HB6 := hide (zbT HB5.out hb6 HB5.out.size); clear hb6 q0 q1 q2 q3 q4 q5 lq)
  have x0 : w6.cell? ⟨bx, 0, none⟩ = some (.int .i64 60) := (blk_cell HT6.out 0).trans rfl
  have x1 : w6.cell? ⟨bx, 1, none⟩ = some (.int .i64 120) := (blk_cell HT6.out 1).trans rfl
  have x2 : w6.cell? ⟨bx, 2, none⟩ = some (.slice (some ⟨p, 0, none⟩) 3 3) := (blk_cell HT6.out 2).trans rfl
  have lx := blk_lt HT6.out
  go_upto_region 6 with (go_at_call 28; (with_reducible refine (ex_Total _ HX6.out).mono ?_); rintro e w7 ⟨rfl, hb7⟩; have HR7 := hide ((HR6.out.below hb7).mono hb7.size); have HS7 := bkT hb7 HS6; have HB7 := hide (zbT HB6.out hb7 HB6.out.size); clear hb7 x0 x1 x2 lx)
  have s0 : w7.cell? ⟨bs, 0, none⟩ = some (.int .i64 12) := (blk_cell HS7.out 0).trans rfl
  have s1 : w7.cell? ⟨bs, 1, none⟩ = some (.int .i64 13) := (blk_cell HS7.out 1).trans rfl
  have ls := blk_lt HS7.out
  go_wp2_with (go_at_call 21; (with_reducible refine (sameInts_eq A3 _ 4 c3 4 [10, -1, 12, 13] _ rfl ((HR7.out.below (zbA (zbR _ _) (Nat.le_refl _) _)).mono (by simp)) (rdI_four (World.alloc_heap_new _ _)) (by omega)).mono ?_); rintro e w8 ⟨rfl, hb8⟩; have HB8 := hide (zbT (zbA HB7.out HB7.out.size _) hb8 (Nat.le_trans HB7.out.size (by simp))); have HS8 := hide ((hb8.block bs (by simp; omega)).trans ((Below.heap_alloc _ _ _ ls).trans HS7.out)); clear hb8 s0 s1 ls; have s0 : w8.cell? ⟨bs, 0, none⟩ = some (.int .i64 12) := (blk_cell HS8.out 0).trans rfl; have s1 : w8.cell? ⟨bs, 1, none⟩ = some (.int .i64 13) := (blk_cell HS8.out 1).trans rfl; have ls := blk_lt HS8.out)
  go_ret
  exact ⟨rfl, HB8.out⟩
end Go.Proofs.Ytlpjkolocgkcpaa

namespace Go.Proofs.Ytlpjkolocgkcpaa
open Go.RowKit
attribute [local go_sem ↓] Go.wp_at_zero Go.wp_at_succ

theorem G.OrdS.at_ {gs : List G.Pt} {o : List Nat} {n : Nat} (h : G.OrdS gs o n) (hn : gs.length = n) (hnd : (gs.map (·.id)).Nodup) {k x : Nat} {p : G.Pt} (hx : o[k]? = some x) (hp : gs[x]? = some p) : (G.srt gs)[k]? = some p := by
  have e := congrArg (fun l => l[k]?) (h.srt hn hnd)
  simp only [List.getElem?_map, hx, Option.map_some] at e
  rw [hp] at e
  cases hs : (G.srt gs)[k]? with
  | none => rw [hs] at e; cases e
  | some z => rw [hs] at e; simpa using e.symm
set_option maxHeartbeats 12800000 in
set_option maxRecDepth 100000 in
theorem turnLaw_any (q : G.Qu) (A : Option Addr) (n c : Nat) (F : Option Addr) (m d : Nat) (rate : Int) (w : World) (h : QIn w q A n c F m d) (hn : n ≤ 100) (hm : m ≤ 100) :
    Calls Try.prog 7 #[.agg #[.int .i64 q.opn, .int .i64 q.lo, .int .i64 q.hi, .int .i64 q.seats, .slice A n c, .slice F m d], .int .i64 rate] w fun e w' => e = .returned (.bool true) ∧ Below w.heap.size w w' := by
  have HI := hide h
  clear h
  cases hrd : G.rdy q rate
  · have HRD := hide hrd
    clear hrd
    go_enter Try.func7, Try.ntmps7
    go_wp2_with (first | (go_at_call 30; (with_reducible refine (ready_any q A n c F m d rate _ (HI.out.below (show Below w.heap.size w _ by (repeat' first | exact zbR _ _ | assumption | refine zbD ?_ | refine zbA ?_ ?_ _ | refine zbS ?_ ?_ _ | refine zbT ?_ (by assumption) ?_ | (simp; done) | (simp; omega) | omega))) hn hm).mono ?_); rintro e w1 ⟨rfl, hb1⟩; rw [HRD.out]; have HB1 := hide (zbT (show Below w.heap.size w _ by (repeat' first | exact zbR _ _ | assumption | refine zbD ?_ | refine zbA ?_ ?_ _ | refine zbS ?_ ?_ _ | refine zbT ?_ (by assumption) ?_ | (simp; done) | (simp; omega) | omega)) hb1 (by simp)); have HQ1 := hide ((hb1.block _ (by simp)).trans (World.alloc_heap_new w (.cells #[.int .i64 q.opn, .int .i64 q.lo, .int .i64 q.hi, .int .i64 q.seats, .slice A n c, .slice F m d] 27 (0, 0)))); clear hb1; have q0 : w1.cell? ⟨w.heap.size, 0, none⟩ = some (.int .i64 q.opn) := (blk_cell HQ1.out 0).trans rfl; have q1 : w1.cell? ⟨w.heap.size, 1, none⟩ = some (.int .i64 q.lo) := (blk_cell HQ1.out 1).trans rfl; have q2 : w1.cell? ⟨w.heap.size, 2, none⟩ = some (.int .i64 q.hi) := (blk_cell HQ1.out 2).trans rfl; have q3 : w1.cell? ⟨w.heap.size, 3, none⟩ = some (.int .i64 q.seats) := (blk_cell HQ1.out 3).trans rfl; have q4 : w1.cell? ⟨w.heap.size, 4, none⟩ = some (.slice A n c) := (blk_cell HQ1.out 4).trans rfl; have q5 : w1.cell? ⟨w.heap.size, 5, none⟩ = some (.slice F m d) := (blk_cell HQ1.out 5).trans rfl; have lq := blk_lt HQ1.out) | (go_at_call 13; (with_reducible refine (works_any _).mono ?_); rintro e w9 ⟨rfl, hb9⟩; have HB9 := hide (zbT HB1.out hb9 HB1.out.size); clear hb9))
    go_ret
    exact ⟨rfl, HB9.out⟩
  · have HRD := hide hrd
    have HRY := hide (G.rdy_get hrd)
    clear hrd
    have hr1 : 1 ≤ rate := Int.le_trans HRY.out.v.l0 HRY.out.r0
    have HEE := hide (show G.enterE q rate = 0 by unfold G.enterE; rw [if_pos (G.valid_iff.2 HRY.out.v), if_pos (by unfold G.within; simp [HRY.out.r0, HRY.out.r1])])
    have HEV := hide (show G.enterV q rate = G.enter q rate by unfold G.enterV; rw [if_pos HEE.out])
    have HLN := hide (show (G.enter q rate).length = n by rw [G.enter_len]; exact HI.out.gl)
    go_enter Try.func7, Try.ntmps7
    go_upto_region 3 with (go_at_call 30; (with_reducible refine (ready_any q A n c F m d rate _ (HI.out.below (show Below w.heap.size w _ by (repeat' first | exact zbR _ _ | assumption | refine zbD ?_ | refine zbA ?_ ?_ _ | refine zbS ?_ ?_ _ | refine zbT ?_ (by assumption) ?_ | (simp; done) | (simp; omega) | omega))) hn hm).mono ?_); rintro e w1 ⟨rfl, hb1⟩; rw [HRD.out]; have HB1 := hide (zbT (show Below w.heap.size w _ by (repeat' first | exact zbR _ _ | assumption | refine zbD ?_ | refine zbA ?_ ?_ _ | refine zbS ?_ ?_ _ | refine zbT ?_ (by assumption) ?_ | (simp; done) | (simp; omega) | omega)) hb1 (by simp)); have HQ1 := hide ((hb1.block _ (by simp)).trans (World.alloc_heap_new w (.cells #[.int .i64 q.opn, .int .i64 q.lo, .int .i64 q.hi, .int .i64 q.seats, .slice A n c, .slice F m d] 27 (0, 0)))); clear hb1; have q0 : w1.cell? ⟨w.heap.size, 0, none⟩ = some (.int .i64 q.opn) := (blk_cell HQ1.out 0).trans rfl; have q1 : w1.cell? ⟨w.heap.size, 1, none⟩ = some (.int .i64 q.lo) := (blk_cell HQ1.out 1).trans rfl; have q2 : w1.cell? ⟨w.heap.size, 2, none⟩ = some (.int .i64 q.hi) := (blk_cell HQ1.out 2).trans rfl; have q3 : w1.cell? ⟨w.heap.size, 3, none⟩ = some (.int .i64 q.seats) := (blk_cell HQ1.out 3).trans rfl; have q4 : w1.cell? ⟨w.heap.size, 4, none⟩ = some (.slice A n c) := (blk_cell HQ1.out 4).trans rfl; have q5 : w1.cell? ⟨w.heap.size, 5, none⟩ = some (.slice F m d) := (blk_cell HQ1.out 5).trans rfl; have lq := blk_lt HQ1.out)
    go_upto_region 4 with (go_at_call 17; (with_reducible refine (Enter_any q A n c F m d rate _ (HI.out.below HB1.out)).mono ?_); rintro e w2 hP; rw [HEV.out, HEE.out] at hP; obtain ⟨A2, c2, rfl, ho2, hb2⟩ := hP; have HV2 := hide (owns_RdI ho2 rfl); have HB2 := hide (zbT HB1.out hb2 HB1.out.size); have HQ2 := bkT hb2 HQ1; rw [HLN.out]; clear ho2 hb2 q0 q1 q2 q3 q4 q5 lq; have q0 : w2.cell? ⟨w.heap.size, 0, none⟩ = some (.int .i64 q.opn) := (blk_cell HQ2.out 0).trans rfl; have q1 : w2.cell? ⟨w.heap.size, 1, none⟩ = some (.int .i64 q.lo) := (blk_cell HQ2.out 1).trans rfl; have q2 : w2.cell? ⟨w.heap.size, 2, none⟩ = some (.int .i64 q.hi) := (blk_cell HQ2.out 2).trans rfl; have q3 : w2.cell? ⟨w.heap.size, 3, none⟩ = some (.int .i64 q.seats) := (blk_cell HQ2.out 3).trans rfl; have q4 : w2.cell? ⟨w.heap.size, 4, none⟩ = some (.slice A n c) := (blk_cell HQ2.out 4).trans rfl; have q5 : w2.cell? ⟨w.heap.size, 5, none⟩ = some (.slice F m d) := (blk_cell HQ2.out 5).trans rfl; have lq := blk_lt HQ2.out)
    go_upto_region 7 with (go_at_call 31; (with_reducible refine (Order_ref q A n c F m d _ (HI.out.below HB2.out) hn).mono ?_); rintro e w3 ⟨A3, c3, o, rfl, hod, hr3, hb3⟩; have HOD := hide hod; have HO3 := hide hr3; have HV3 := hide ((HV2.out.below hb3).mono hb3.size); have HB3 := hide (zbT HB2.out hb3 HB2.out.size); have HQ3 := bkT hb3 HQ2; clear hod hr3 hb3 q0 q1 q2 q3 q4 q5 lq)
    obtain ⟨b0, hb0⟩ : ∃ x, w.heap.size = x := ⟨_, rfl⟩
    have HE0 := hide hb0
    rw [hb0] at HQ3 ⊢
    clear hb0 HQ1 HQ2 HB1 HB2 HV2
    go_wp2_with fail
    go_loopw [8] (fun i wr => ∃ k : Nat, k ≤ n ∧ i = .int .i64 k ∧ Hid (Below w3.heap.size w3 wr)) (fun i _ => n - (intOf i).toNat)
    case atStart => exact ⟨0, by omega, rfl, hide (Below.refl _ _)⟩
    case round =>
      obtain ⟨i, hi, rfl, HBr⟩ := hrel
      by_cases hlt : i < n
      · obtain ⟨y, hy⟩ : ∃ y, o[i]? = some y := ⟨_, List.getElem?_eq_getElem (by have := HOD.out.len; omega)⟩
        have HY := hide hy
        have hlt' : (i : Int) < (n : Int) := by omega
        have hi0 : (0 : Int) ≤ (i : Int) := by omega
        clear hy
        go_wp2_with fail
        go_loopw [9] (fun v wr => ∃ k : Nat, k ≤ i ∧ v = .int .i64 k ∧ Hid (Below w3.heap.size w3 wr)) (fun v _ => i - (intOf v).toNat)
        case atStart => exact ⟨0, by omega, rfl, HBr⟩
        case round =>
          clear HBr
          obtain ⟨k, hk, rfl, HBk⟩ := hrel
          by_cases hki : k < i
          · obtain ⟨x, hx⟩ : ∃ x, o[k]? = some x := ⟨_, List.getElem?_eq_getElem (by have := HOD.out.len; omega)⟩
            have hxn : x < n := by have := List.mem_range.1 (HOD.out.perm.mem_iff.1 (List.mem_of_getElem? hx)); omega
            have hyn : y < n := by have := List.mem_range.1 (HOD.out.perm.mem_iff.1 (List.mem_of_getElem? HY.out)); omega
            obtain ⟨px, hpx⟩ : ∃ p, q.gs[x]? = some p := ⟨_, List.getElem?_eq_getElem (by have := HI.out.gl; omega)⟩
            obtain ⟨py, hpy⟩ : ∃ p, q.gs[y]? = some p := ⟨_, List.getElem?_eq_getElem (by have := HI.out.gl; omega)⟩
            have hturn := G.enter_turn HRY.out.v hr1 hki (HOD.out.at_ HI.out.gl HRY.out.v.gn hx hpx) (HOD.out.at_ HI.out.gl HRY.out.v.gn HY.out hpy)
            have hfx := G.enter_fairT HRY.out.v hr1 hpx
            have hfy := G.enter_fairT HRY.out.v hr1 hpy
            have hex := G.enter_getT q rate hpx
            have hey := G.enter_getT q rate hpy
            obtain ⟨vx, hvx⟩ : ∃ v, G.look px.id (G.R q rate) = v := ⟨_, rfl⟩
            obtain ⟨vy, hvy⟩ : ∃ v, G.look py.id (G.R q rate) = v := ⟨_, rfl⟩
            rw [hvx] at hturn hfx hex
            rw [hvy] at hturn hfy hey
            have hfx0 : vx = -1 ∨ 0 ≤ vx := by rcases hfx with h | h; exact .inl h; exact .inr h.1
            have hfy0 : vy = -1 ∨ 0 ≤ vy := by rcases hfy with h | h; exact .inl h; exact .inr h.1
            have HTU := hide hturn
            obtain ⟨bo, oo, rfl, hbo, o0⟩ := (HO3.out.below HBk.out) k (x : Int) (by unfold ints; rw [List.getElem?_map, hx]; rfl)
            obtain ⟨bo', oo', eo, _, o1⟩ := (HO3.out.below HBk.out) i (y : Int) (by unfold ints; rw [List.getElem?_map, HY.out]; rfl)
            injection eo with eo
            injection eo with eo1 eo2
            subst eo1 eo2
            obtain ⟨bv, ov, rfl, hbv, v0⟩ := (HV3.out.below HBk.out) x vx hex
            obtain ⟨bv', ov', ev, _, v1⟩ := (HV3.out.below HBk.out) y vy hey
            injection ev with ev
            injection ev with ev1 ev2
            subst ev1 ev2
            have HBW := hide (zbT HB3.out HBk.out HB3.out.size)
            obtain ⟨bg, og, rfl, hbg, d0, d1, d2, d3⟩ := ((HI.out.below HBW.out).rg) x px hpx
            have HQk := bkT HBk.out HQ3
            have q4 : wr.cell? ⟨b0, 4, none⟩ = some (.slice (some ⟨bg, og, none⟩) n c) := (blk_cell HQk.out 4).trans rfl
            have lq := blk_lt HQk.out
            have hbo2 := Nat.lt_of_lt_of_le hbo HBk.out.size
            have hbv2 := Nat.lt_of_lt_of_le hbv HBk.out.size
            have hki' : (k : Int) < (i : Int) := by omega
            have hkn : (k : Int) < (n : Int) := by omega
            have hk0 : (0 : Int) ≤ (k : Int) := by omega
            have hx1 : (x : Int) < (n : Int) := by omega
            have hx0 : (0 : Int) ≤ (x : Int) := by omega
            have hy1 : (y : Int) < (n : Int) := by omega
            have hy0 : (0 : Int) ≤ (y : Int) := by omega
            clear hx hpx hpy hturn hfx hfy hex hey hvx hvy
            go_upto_region 13 with fail
            go_quiet (fail)
            by_cases h1 : vy < 0
            · go_wp2_with fail
              go_roundw
              case rel => exact ⟨k + 1, by omega, by go_num, hide (zbT HBk.out (below_drewN (zbR _ _) _) HBk.out.size)⟩
              case measure => simp [intOf]; omega
            · have h1' : 0 ≤ vy := by omega
              have e1 : decide (vy < vx) = false := by
                simp
                rcases HTU.out with h | ⟨_, h⟩ | ⟨h, _⟩ <;> omega
              clear h1
              go_upto_region 15 with fail
              by_cases h2 : vx < 0
              · have e2 : decide (vx < 0) = true := by simpa using h2
                have h3 : px.quits ≠ -1 ∧ px.quits ≤ vy := by rcases HTU.out with h | ⟨h, _⟩ | ⟨_, h, h'⟩ <;> omega
                have e3 : (px.quits == -1) = false := by simpa using h3.1
                have e4 : decide (vy < px.quits) = false := by simp; exact h3.2
                clear h2 h3
                go_quiet (fail)
                go_wp2_with fail
                go_roundw
                case rel => exact ⟨k + 1, by omega, by go_num, hide (zbT HBk.out (below_drewN (zbR _ _) _) HBk.out.size)⟩
                case measure => simp [intOf]; omega
              · have e2 : decide (vx < 0) = false := by simpa using h2
                clear h2
                go_quiet (fail)
                go_wp2_with fail
                go_roundw
                case rel => exact ⟨k + 1, by omega, by go_num, hide (zbT HBk.out (below_drewN (zbR _ _) _) HBk.out.size)⟩
                case measure => simp [intOf]; omega
          · have hki' : (i : Int) ≤ (k : Int) := by omega
            have hke : k = i := by omega
            subst hke
            go_wp2_with fail
            go_roundw
            case rel => exact ⟨k + 1, by omega, by go_num, HBk⟩
            case measure => simp [intOf]; omega
      · have hin : i = n := by omega
        have HON := hide HOD.out.len
        subst hin
        have HBW := hide (zbT HB3.out HBr.out HB3.out.size)
        go_wp2_with (go_at_call 13; (with_reducible refine (works_any _).mono ?_); rintro e w9 ⟨rfl, hb9⟩; have HB9 := hide (zbT HBW.out hb9 HBW.out.size); clear hb9)
        go_ret
        exact ⟨rfl, HB9.out⟩
set_option maxHeartbeats 3200000 in
set_option maxRecDepth 100000 in
theorem turnLaw_long (q : G.Qu) (A : Option Addr) (n c : Nat) (F : Option Addr) (m d : Nat) (rate : Int) (w : World) (h : 100 < n ∨ 100 < m) :
    Calls Try.prog 7 #[.agg #[.int .i64 q.opn, .int .i64 q.lo, .int .i64 q.hi, .int .i64 q.seats, .slice A n c, .slice F m d], .int .i64 rate] w fun e w' => e = .returned (.bool true) ∧ Below w.heap.size w w' := by
  have HL := hide h
  clear h
  go_enter Try.func7, Try.ntmps7
  go_wp2_with (first | (go_at_call 30; (with_reducible refine (ready_long q A n c F m d rate _ HL.out).mono ?_); rintro e w1 ⟨rfl, hb1⟩; have HB1 := hide (zbT (show Below w.heap.size w _ by (repeat' first | exact zbR _ _ | assumption | refine zbD ?_ | refine zbA ?_ ?_ _ | refine zbS ?_ ?_ _ | refine zbT ?_ (by assumption) ?_ | (simp; done) | (simp; omega) | omega)) hb1 (by simp)); clear hb1) | (go_at_call 13; (with_reducible refine (works_any _).mono ?_); rintro e w9 ⟨rfl, hb9⟩; have HB9 := hide (zbT HB1.out hb9 HB1.out.size); clear hb9))
  go_ret
  exact ⟨rfl, HB9.out⟩
end Go.Proofs.Ytlpjkolocgkcpaa
