/-
  Part of a claim's texts: contracts of the program's functions and the plain functions that they compute, in build order.
-/
import Derived.Laws.OwnMore
import Derived.RangeFuncBox
import Derived.Test.YtgnobonhohfofaaZB02
namespace Go.Proofs.Ytgnobonhohfofaa
open Go.RowKit
attribute [local go_sem ↓] Go.wp_at_zero Go.wp_at_succ

namespace L
theorem boxB_of {b : Bx} (h : BxOk b) : boxB b = true := by
  obtain ⟨h1, h2, h3, h4, h5, h6⟩ := h
  simp [boxB, spanIn, h1, h2, h3, h4, h5, h6]
theorem checkBE_yes {v : Vw} {b : Bx} (hv : viewB v = true) (hb : boxB b = true) : checkBE v b = 0 := by unfold checkBE; rw [hv, hb]; rfl
theorem callV_ok {v : Vw} {b : Bx} (h : checkBE v b = 0) : callV v b = callOf v b 0 := by unfold callV; rw [if_pos h]
theorem callE_ok {v : Vw} {b : Bx} (h : checkBE v b = 0) : callE v b = if callOf v b 0 = 0 then 3 else 0 := by unfold callE; rw [if_pos h]
theorem validB_ok {v : Vw} {b : Bx} (h : validB v b = true) : viewB v = true ∧ boxB b = true ∧ farB v = false := by
  unfold validB at h
  simp only [Bool.and_eq_true, Bool.not_eq_true'] at h
  exact ⟨h.2.1, h.2.2, h.1⟩
def Larger (b o : Bx) : Prop := o.l ≤ b.l ∧ b.r ≤ o.r ∧ o.b ≤ b.b ∧ b.t ≤ o.t ∧ BxOk o
theorem larger_cases {v : Vw} (hv : viewB v = true) {b o : Bx} (hb : boxB b = true) (h : Larger b o) :
    (callV v b = 0 ∧ callE v b = 3 ∧ callV v o = 0 ∧ callE v o = 3) ∨ (callV v b = 1 ∧ callE v b = 0 ∧ callV v o = 1 ∧ callE v o = 0) ∨ (callV v b = 2 ∧ callE v b = 0 ∧ callV v o = 2 ∧ callE v o = 0) ∨ (callV v b ≠ 1 ∧ callE v b = 0 ∧ callV v o ≠ 2 ∧ callE v o = 0) := by
  obtain ⟨h1, h2, h3, h4, h5⟩ := h
  have c1 := checkBE_yes hv hb
  have c2 := checkBE_yes hv (boxB_of h5)
  obtain ⟨a1, a2, a3⟩ := larger (viewB_ok hv) h1 h2 h3 h4 0
  rw [callV_ok c1, callE_ok c1, callV_ok c2, callE_ok c2]
  by_cases hz : callOf v b 0 = 0
  · exact .inl ⟨hz, by rw [if_pos hz], a1.1 hz, by rw [if_pos (a1.1 hz)]⟩
  · have hz' : callOf v o 0 ≠ 0 := fun e => hz (a1.2 e)
    rw [if_neg hz, if_neg hz']
    by_cases h1' : callOf v b 0 = 1
    · exact .inr (.inl ⟨h1', rfl, a2 h1', rfl⟩)
    · by_cases h2' : callOf v o 0 = 2
      · exact .inr (.inr (.inl ⟨a3 h2', rfl, h2', rfl⟩))
      · exact .inr (.inr (.inr ⟨h1', rfl, h2', rfl⟩))
end L

theorem Call_ints (v : L.Vw) (A : Option Addr) (n c : Nat) (l r b t : Int) (w : World) (hn : v.ss.length = n) (hr : RdS w w.heap.size A v.ss) :
    Calls Try.prog 17 #[.agg #[.int .i64 v.size, .slice A n c, .int .i64 v.wrong, .int .i64 v.hxl, .int .i64 v.hxh, .int .i64 v.hyl, .int .i64 v.hyh], .agg #[.int .i64 l, .int .i64 r, .int .i64 b, .int .i64 t]] w fun e w' => e = .returned (.tuple #[.int .i64 (L.callV v ⟨l, r, b, t⟩), .int .i64 (L.callE v ⟨l, r, b, t⟩)]) ∧ Below w.heap.size w w' :=
  Call_any v A n c ⟨l, r, b, t⟩ w hn hr
set_option maxRecDepth 100000 in
set_option maxHeartbeats 3200000 in
theorem largerLaw_out (v : L.Vw) (A : Option Addr) (n c : Nat) (b m : L.Bx) (w : World) (hn : v.ss.length = n) (hr : RdS w w.heap.size A v.ss) (h : L.validB v b = false ∨ (L.validB v b = true ∧ L.boxB m = false)) :
    Calls Try.prog 5 #[.agg #[.int .i64 v.size, .slice A n c, .int .i64 v.wrong, .int .i64 v.hxl, .int .i64 v.hxh, .int .i64 v.hyl, .int .i64 v.hyh], .agg #[.int .i64 b.l, .int .i64 b.r, .int .i64 b.b, .int .i64 b.t], .agg #[.int .i64 m.l, .int .i64 m.r, .int .i64 m.b, .int .i64 m.t]] w fun e w' => e = .returned (.bool true) ∧ Below w.heap.size w w' := by
  have HN := hide hn
  have HR := hide hr
  clear hn hr
  rcases h with h | ⟨h, hm⟩
  · have H := hide h
    clear h
    go_enter Try.func5, Try.ntmps5
    go_wp2_with (first | (go_at_call 15; refine (valid_any v A n c b _ HN.out ((HR.out.below (by (repeat' first | exact zbR _ _ | assumption | refine zbD ?_ | refine zbA ?_ ?_ _ | refine zbS ?_ ?_ _ | refine zbT ?_ (by assumption) ?_ | (simp; done) | (simp; omega) | omega))).mono (by first | (simp; done) | (simp; omega) | omega))).mono ?_; rintro e w2 ⟨rfl, hb2⟩; rw [H.out]; obtain ⟨hc2, hf2⟩ := bcell hb2; have q2 := hb2.size; (try simp only [World.size_alloc] at q2); have z2_0 : w.heap.size < w2.heap.size := (by omega); have z2_1 : w.heap.size + 1 < w2.heap.size := (by omega); have z2_2 : w.heap.size + 1 + 1 < w2.heap.size := (by omega)) | (go_at_call 16; refine (works_any _).mono ?_; rintro e w3 ⟨rfl, hb3⟩))
    go_ret
    exact ⟨rfl, by (repeat' first | exact zbR _ _ | assumption | refine zbD ?_ | refine zbA ?_ ?_ _ | refine zbS ?_ ?_ _ | refine zbT ?_ (by assumption) ?_ | (simp; done) | (simp; omega) | omega)⟩
  · have H := hide h
    have HM := hide hm
    clear h hm
    go_enter Try.func5, Try.ntmps5
    go_wp2_with (first | (go_at_call 15; refine (valid_any v A n c b _ HN.out ((HR.out.below (by (repeat' first | exact zbR _ _ | assumption | refine zbD ?_ | refine zbA ?_ ?_ _ | refine zbS ?_ ?_ _ | refine zbT ?_ (by assumption) ?_ | (simp; done) | (simp; omega) | omega))).mono (by first | (simp; done) | (simp; omega) | omega))).mono ?_; rintro e w2 ⟨rfl, hb2⟩; rw [H.out]; obtain ⟨hc2, hf2⟩ := bcell hb2; have q2 := hb2.size; (try simp only [World.size_alloc] at q2); have z2_0 : w.heap.size < w2.heap.size := (by omega); have z2_1 : w.heap.size + 1 < w2.heap.size := (by omega); have z2_2 : w.heap.size + 1 + 1 < w2.heap.size := (by omega)) | (go_at_call 25; refine (isBox_any m _).mono ?_; rintro e w4 ⟨rfl, hb4⟩; rw [HM.out]; obtain ⟨hc4, hf4⟩ := bcell hb4; have q4 := hb4.size; (try simp only [World.size_alloc] at q4); have z4_0 : w.heap.size < w4.heap.size := (by omega); have z4_1 : w.heap.size + 1 < w4.heap.size := (by omega); have z4_2 : w.heap.size + 1 + 1 < w4.heap.size := (by omega)) | (go_at_call 16; refine (works_any _).mono ?_; rintro e w3 ⟨rfl, hb3⟩))
    go_ret
    exact ⟨rfl, by (repeat' first | exact zbR _ _ | assumption | refine zbD ?_ | refine zbA ?_ ?_ _ | refine zbS ?_ ?_ _ | refine zbT ?_ (by assumption) ?_ | (simp; done) | (simp; omega) | omega)⟩

set_option maxRecDepth 100000 in
set_option maxHeartbeats 3200000 in
theorem largerLaw_in (v : L.Vw) (A : Option Addr) (n c : Nat) (b m : L.Bx) (w : World) (hn : v.ss.length = n) (hr : RdS w w.heap.size A v.ss) (h : L.validB v b = true) (hm : L.boxB m = true) :
    Calls Try.prog 5 #[.agg #[.int .i64 v.size, .slice A n c, .int .i64 v.wrong, .int .i64 v.hxl, .int .i64 v.hxh, .int .i64 v.hyl, .int .i64 v.hyh], .agg #[.int .i64 b.l, .int .i64 b.r, .int .i64 b.b, .int .i64 b.t], .agg #[.int .i64 m.l, .int .i64 m.r, .int .i64 m.b, .int .i64 m.t]] w fun e w' => e = .returned (.bool true) ∧ Below w.heap.size w w' := by
  have HN := hide hn
  have HR := hide hr
  have H := hide h
  have HM := hide hm
  obtain ⟨b1, b2, b3, b4, b5, b6⟩ := L.boxB_ok (L.validB_ok h).2.1
  obtain ⟨m1, m2, m3, m4, m5, m6⟩ := L.boxB_ok hm
  clear hn hr h hm
  go_enter Try.func5, Try.ntmps5
  go_upto_region 3 with (first | (go_at_call 15; refine (valid_any v A n c b _ HN.out ((HR.out.below (by (repeat' first | exact zbR _ _ | assumption | refine zbD ?_ | refine zbA ?_ ?_ _ | refine zbS ?_ ?_ _ | refine zbT ?_ (by assumption) ?_ | (simp; done) | (simp; omega) | omega))).mono (by first | (simp; done) | (simp; omega) | omega))).mono ?_; rintro e w2 ⟨rfl, hb2⟩; rw [H.out]; obtain ⟨hc2, hf2⟩ := bcell hb2; have q2 := hb2.size; (try simp only [World.size_alloc] at q2); have z2_0 : w.heap.size < w2.heap.size := (by omega); have z2_1 : w.heap.size + 1 < w2.heap.size := (by omega); have z2_2 : w.heap.size + 1 + 1 < w2.heap.size := (by omega)) | (go_at_call 25; refine (isBox_any m _).mono ?_; rintro e w4 ⟨rfl, hb4⟩; rw [HM.out]; obtain ⟨hc4, hf4⟩ := bcell hb4; have q4 := hb4.size; (try simp only [World.size_alloc] at q4); have z4_0 : w.heap.size < w4.heap.size := (by omega); have z4_1 : w.heap.size + 1 < w4.heap.size := (by omega); have z4_2 : w.heap.size + 1 + 1 < w4.heap.size := (by omega)))
  go_cut [7] from 22 to 42 (fun v7 wx => ∃ (q : Nat) (x1 x2 x3 x4 : Int), v7 = .pointer (some ⟨q, 0, none⟩) ∧ Hid (L.Larger b ⟨x1, x2, x3, x4⟩) ∧ Hid (wx.heap[q]? = some (.cells #[.int .i64 x1, .int .i64 x2, .int .i64 x3, .int .i64 x4] 28 (0, 0))) ∧ Hid (w4.heap.size ≤ q ∧ Below w4.heap.size w4 wx))
  case first =>
    go_wp2
    all_goals
      go_meet
      refine ⟨_, _, _, _, _, rfl, ?_, hide (World.alloc_heap_new _ _), hide ⟨Nat.le_refl _, (Below.refl _ _).alloc (Nat.le_refl _) _⟩⟩
      exact hide ⟨by dsimp only; omega, by dsimp only; omega, by dsimp only; omega, by dsimp only; omega, ⟨by dsimp only; omega, by dsimp only; omega, by dsimp only; omega, by dsimp only; omega, by dsimp only; omega, by dsimp only; omega⟩⟩
  case rest =>
    obtain ⟨q, x1, x2, x3, x4, rfl, HL, HQ, HW⟩ := hcut
    obtain ⟨hq, hW⟩ := HW.out
    obtain ⟨hc5, hf5⟩ := bcell hW
    have q5 := hW.size
    have o1 := (blk_cell HQ.out 0).trans rfl
    have o2 := (blk_cell HQ.out 1).trans rfl
    have o3 := (blk_cell HQ.out 2).trans rfl
    have o4 := (blk_cell HQ.out 3).trans rfl
    have lq : q < wc.heap.size := blk_lt HQ.out
    have y0 : w.heap.size < wc.heap.size := by omega
    have y1 : w.heap.size + 1 < wc.heap.size := by omega
    have HWW := hide hW
    rcases L.larger_cases (L.validB_ok H.out).1 (L.validB_ok H.out).2.1 HL.out with ⟨e1, e2, e3, e4⟩ | ⟨e1, e2, e3, e4⟩ | ⟨e1, e2, e3, e4⟩ | ⟨e1, e2, e3, e4⟩
    rotate_left 3
    · have d1 : (L.callV v b == 1) = false := by simpa using e1
      have d2 : (L.callV v ⟨x1, x2, x3, x4⟩ == 2) = false := by simpa using e3
      have d3 : (L.callV v b != 1) = true := by simpa using e1
      have d4 : (L.callV v ⟨x1, x2, x3, x4⟩ != 2) = true := by simpa using e3
      have E2 := hide e2
      have E4 := hide e4
      clear e1 e2 e3 e4
      go_wp2_with (first | (go_at_call 17; refine (Call_ints v A n c _ _ _ _ _ HN.out ((HR.out.below (by (repeat' first | exact zbR _ _ | assumption | refine zbD ?_ | refine zbA ?_ ?_ _ | refine zbS ?_ ?_ _ | refine zbT ?_ (by assumption) ?_ | (simp; done) | (simp; omega) | omega))).mono (by first | (simp; done) | (simp; omega) | omega))).mono ?_; rintro e w6 ⟨rfl, hb6⟩; (first | rw [E2.out] | rw [E4.out]); obtain ⟨hc6, hf6⟩ := bcell hb6; have q6 := hb6.size; (try simp only [World.size_alloc] at q6); have z6_0 : w.heap.size < w6.heap.size := (by omega); have z6_1 : q < w6.heap.size := (by omega)) | (go_at_call 16; refine (works_any _).mono ?_; rintro e w3 ⟨rfl, hb3⟩))
      go_ret
      exact ⟨rfl, by (repeat' first | exact zbR _ _ | assumption | refine zbD ?_ | refine zbA ?_ ?_ _ | refine zbS ?_ ?_ _ | refine zbT ?_ (by assumption) ?_ | (simp; done) | (simp; omega) | omega)⟩
    all_goals
      have E1 := hide e1
      have E2 := hide e2
      have E3 := hide e3
      have E4 := hide e4
      clear e1 e2 e3 e4
      go_wp2_with (first | (go_at_call 17; refine (Call_ints v A n c _ _ _ _ _ HN.out ((HR.out.below (by (repeat' first | exact zbR _ _ | assumption | refine zbD ?_ | refine zbA ?_ ?_ _ | refine zbS ?_ ?_ _ | refine zbT ?_ (by assumption) ?_ | (simp; done) | (simp; omega) | omega))).mono (by first | (simp; done) | (simp; omega) | omega))).mono ?_; rintro e w6 ⟨rfl, hb6⟩; (first | rw [E1.out, E2.out] | rw [E3.out, E4.out]); obtain ⟨hc6, hf6⟩ := bcell hb6; have q6 := hb6.size; (try simp only [World.size_alloc] at q6); have z6_0 : w.heap.size < w6.heap.size := (by omega); have z6_1 : q < w6.heap.size := (by omega)) | (go_at_call 16; refine (works_any _).mono ?_; rintro e w3 ⟨rfl, hb3⟩))
      go_ret
      exact ⟨rfl, by (repeat' first | exact zbR _ _ | assumption | refine zbD ?_ | refine zbA ?_ ?_ _ | refine zbS ?_ ?_ _ | refine zbT ?_ (by assumption) ?_ | (simp; done) | (simp; omega) | omega)⟩

end Go.Proofs.Ytgnobonhohfofaa

namespace Go.Proofs.Ytgnobonhohfofaa
namespace L

theorem cents_mem {n : Nat} {x y : Int} (hx0 : 0 ≤ x) (hx1 : x ≤ n) (hy0 : 0 ≤ y) (hy1 : y ≤ n) : (x, y) ∈ cents n := by
  simp only [cents, List.mem_flatMap, List.mem_map, List.mem_range]
  exact ⟨x.toNat, by omega, y.toNat, by omega, Prod.ext (Int.toNat_of_nonneg hx0) (Int.toNat_of_nonneg hy0)⟩
theorem mem_tcents {v : Vw} (hv : VwOk v) {c : Int × Int} {k : Int} : c ∈ tcents v k ↔ (0 ≤ c.1 ∧ c.1 ≤ v.size ∧ 0 ≤ c.2 ∧ c.2 ≤ v.size) ∧ okAt v k c = true := by
  unfold tcents
  rw [List.mem_filter]
  have h0 := hv.s0
  have hs : (v.size.toNat : Int) = v.size := Int.toNat_of_nonneg h0
  constructor
  · rintro ⟨h, h'⟩
    obtain ⟨a, b, c, d⟩ := mem_cents h
    exact ⟨⟨a, by omega, c, by omega⟩, h'⟩
  · rintro ⟨⟨a, b, c, d⟩, h'⟩
    exact ⟨cents_mem a (by omega) c (by omega), h'⟩
theorem okAt_zero (v : Vw) (c : Int × Int) : okAt v 0 c = decide (((wrongL v c.1 c.2).length : Int) ≤ v.wrong) := by
  unfold okAt; rw [wrongL_length]
theorem truth_mem {v : Vw} (hv : VwOk v) {m : Mk} (h : truthB v m = true) : (m.x, m.y) ∈ tcents v 0 ∧ v.hxl ≤ m.hx ∧ m.hx ≤ v.hxh ∧ v.hyl ≤ m.hy ∧ m.hy ≤ v.hyh := by
  unfold truthB at h
  rw [Bool.and_eq_true] at h
  obtain ⟨h1, h2⟩ := h
  unfold isMarkB markB within at h1
  simp only [Bool.and_eq_true, decide_eq_true_eq] at h1
  obtain ⟨⟨⟨⟨a, b⟩, c, d⟩, e, f⟩, g, i⟩ := h1
  exact ⟨(mem_tcents hv).2 ⟨⟨a, b, c, d⟩, by rw [okAt_zero]; exact h2⟩, e, f, g, i⟩
theorem truth_of {v : Vw} (hv : VwOk v) {c : Int × Int} {p q : Int} (hc : c ∈ tcents v 0) (h1 : v.hxl ≤ p) (h2 : p ≤ v.hxh) (h3 : v.hyl ≤ q) (h4 : q ≤ v.hyh) : truthB v ⟨c.1, c.2, p, q⟩ = true := by
  obtain ⟨⟨a, b, d, e⟩, f⟩ := (mem_tcents hv).1 hc
  rw [okAt_zero] at f
  unfold truthB isMarkB markB within
  simp only [Bool.and_eq_true, decide_eq_true_eq]
  exact ⟨⟨⟨⟨⟨a, b⟩, d, e⟩, h1, h2⟩, h3, h4⟩, by simpa using f⟩
theorem markB_of {m : Mk} (h : MkOk m) : markB m 40 1 9 1 9 = true := by
  obtain ⟨a, b, c, d, e, f, g, i⟩ := h
  unfold markB within
  simp only [Bool.and_eq_true, decide_eq_true_eq]
  exact ⟨⟨⟨⟨a, b⟩, c, d⟩, e, f⟩, g, i⟩
theorem truth_ok {v : Vw} (hv : VwOk v) {m : Mk} (h : truthB v m = true) : MkOk m := by
  unfold truthB at h
  rw [Bool.and_eq_true] at h
  exact (isMark_bd hv h.1).1
theorem touch_low {v : Vw} (hv : VwOk v) {m : Mk} {b : Bx} (h : truthB v m = true) (ht : touch ⟨m.x, m.y, v.hxl, v.hyl⟩ b = true) : touch m b = true := by
  obtain ⟨_, h1, h2, h3, h4⟩ := truth_mem hv h
  exact touch_axes hv.x0 hv.y0 h1 h3 ht
theorem touch_high {v : Vw} (hv : VwOk v) {m : Mk} {b : Bx} (h : truthB v m = true) (ht : touch m b = true) : touch ⟨m.x, m.y, v.hxh, v.hyh⟩ b = true := by
  obtain ⟨_, h1, h2, h3, h4⟩ := truth_mem hv h
  exact touch_axes (by have := hv.x0; omega) (by have := hv.y0; omega) h2 h4 ht
theorem found_some {v : Vw} (hv : VwOk v) {b : Bx} {call : Int} (h : (findC v b 0 call).isSome = true) : truthB v (foundM v b 0 call) = true ∧ touch (foundM v b 0 call) b = decide (call = 1) := by
  obtain ⟨c, hc⟩ := Option.isSome_iff_exists.1 h
  have e : foundM v b 0 call = ⟨c.1, c.2, hxOf v call, hyOf v call⟩ := by unfold foundM; rw [hc]; exact markOf_eq v call c
  have h1 : c ∈ tcents v 0 := List.mem_of_find?_eq_some hc
  have h2 : hitAt v b call c = true := List.find?_some hc
  rw [hitAt_eq] at h2
  rw [e]
  refine ⟨?_, by simpa using h2⟩
  have := hv.xx
  have := hv.yy
  exact truth_of hv h1 (by unfold hxOf; split <;> omega) (by unfold hxOf; split <;> omega) (by unfold hyOf; split <;> omega) (by unfold hyOf; split <;> omega)

theorem showE_1 {v : Vw} {b : Bx} (h : checkBE v b = 0) : showE v b 1 = if (findC v b 0 1).isSome then 0 else 3 := by unfold showE; rw [if_pos h, if_pos (by decide)]
theorem showE_2 {v : Vw} {b : Bx} (h : checkBE v b = 0) : showE v b 2 = if (findC v b 0 2).isSome then 0 else 3 := by unfold showE; rw [if_pos h, if_pos (by decide)]
theorem showM_1 {v : Vw} {b : Bx} (h : checkBE v b = 0) : showM v b 1 = foundM v b 0 1 := by unfold showM; rw [if_pos h, if_pos (by decide)]
theorem showM_2 {v : Vw} {b : Bx} (h : checkBE v b = 0) : showM v b 2 = foundM v b 0 2 := by unfold showM; rw [if_pos h, if_pos (by decide)]

structure SureOk (v : Vw) (b : Bx) (m : Mk) (cv e1 e2 : Int) : Prop where
  fcv : callV v b = cv
  fce : callE v b = 0
  f1 : showE v b 1 = e1
  f2 : showE v b 2 = e2
  tou : truthB v m = true → touE m b = 0
  tin : cv = 1 → truthB v m = true → touV m b = true
  tout : cv = 2 → truthB v m = true → touV m b = false
  t1 : e1 = 0 → truthB v (showM v b 1) = true ∧ touch (showM v b 1) b = true ∧ MkOk (showM v b 1)
  t2 : e2 = 0 → truthB v (showM v b 2) = true ∧ touch (showM v b 2) b = false ∧ MkOk (showM v b 2)

theorem sure_cases {v : Vw} (hv : viewB v = true) {b : Bx} (hb : boxB b = true) (m : Mk) :
    (callV v b = 0 ∧ callE v b = 3 ∧ truthB v m = false) ∨ SureOk v b m 1 0 3 ∨ SureOk v b m 2 3 0 ∨ SureOk v b m 3 0 0 := by
  have hc := checkBE_yes hv hb
  have hk := viewB_ok hv
  have T : truthB v m = true → touE m b = 0 ∧ touV m b = touch m b := fun h => by
    have := markB_of (truth_ok hk h)
    exact ⟨by unfold touE; rw [hb, this]; rfl, by unfold touV; rw [hb, this]; rfl⟩
  have F1 : (findC v b 0 1).isSome = true → truthB v (showM v b 1) = true ∧ touch (showM v b 1) b = true ∧ MkOk (showM v b 1) := fun h => by
    obtain ⟨a1, a2⟩ := found_some hk h
    rw [showM_1 hc]
    exact ⟨a1, by simpa using a2, truth_ok hk a1⟩
  have F2 : (findC v b 0 2).isSome = true → truthB v (showM v b 2) = true ∧ touch (showM v b 2) b = false ∧ MkOk (showM v b 2) := fun h => by
    obtain ⟨a1, a2⟩ := found_some hk h
    rw [showM_2 hc]
    exact ⟨a1, by simpa using a2, truth_ok hk a1⟩
  have i1 := find1 v b 0
  have i2 := find2 v b 0
  rcases call_cases v b 0 with ⟨h, a1, a2⟩ | ⟨h, a1, a2⟩ | ⟨h, a1, a2⟩ | ⟨h, a1, a2⟩
  · refine .inl ⟨by rw [callV_ok hc, h], by rw [callE_ok hc, if_pos h], ?_⟩
    cases ht : truthB v m
    · rfl
    · have := (truth_mem hk ht).1
      rw [(call_zero hk b 0).1 h] at this
      cases this
  · have s1 := i1.2 a1
    have s2 : (findC v b 0 2).isSome = false := by cases hq : (findC v b 0 2).isSome; rfl; exact (a2 (i2.1 hq)).elim
    refine .inr (.inl ⟨by rw [callV_ok hc, h], by rw [callE_ok hc, if_neg (by omega)], by rw [showE_1 hc, s1]; rfl, by rw [showE_2 hc, s2]; rfl, fun t => (T t).1, fun _ t => ?_, fun e => by omega, fun _ => F1 s1, fun e => by omega⟩)
    rw [(T t).2]
    have hm := (truth_mem hk t).1
    cases hl : touch ⟨m.x, m.y, v.hxl, v.hyl⟩ b
    · exact (a2 ⟨_, hm, hl⟩).elim
    · exact touch_low hk t hl
  · have s2 := i2.2 a2
    have s1 : (findC v b 0 1).isSome = false := by cases hq : (findC v b 0 1).isSome; rfl; exact (a1 (i1.1 hq)).elim
    refine .inr (.inr (.inl ⟨by rw [callV_ok hc, h], by rw [callE_ok hc, if_neg (by omega)], by rw [showE_1 hc, s1]; rfl, by rw [showE_2 hc, s2]; rfl, fun t => (T t).1, fun e => by omega, fun _ t => ?_, fun e => by omega, fun _ => F2 s2⟩))
    rw [(T t).2]
    have hm := (truth_mem hk t).1
    cases hl : touch m b
    · rfl
    · exact (a1 ⟨_, hm, touch_high hk t hl⟩).elim
  · have s1 := i1.2 a1
    have s2 := i2.2 a2
    exact .inr (.inr (.inr ⟨by rw [callV_ok hc, h], by rw [callE_ok hc, if_neg (by omega)], by rw [showE_1 hc, s1]; rfl, by rw [showE_2 hc, s2]; rfl, fun t => (T t).1, fun e => by omega, fun e => by omega, fun _ => F1 s1, fun _ => F2 s2⟩))
end L
end Go.Proofs.Ytgnobonhohfofaa

namespace Go.Proofs.Ytgnobonhohfofaa
open Go.RowKit
attribute [local go_sem ↓] Go.wp_at_zero Go.wp_at_succ

set_option maxRecDepth 100000 in
set_option maxHeartbeats 3200000 in
theorem wrongAbout_any (v : L.Vw) (A : Option Addr) (n c : Nat) (x y : Int) (w : World) (hn : v.ss.length = n) (hr : RdS w w.heap.size A v.ss) (ho : ∀ s ∈ v.ss, L.StOk s) (h8 : n ≤ 8) (hx0 : 0 ≤ x) (hx1 : x ≤ 40) (hy0 : 0 ≤ y) (hy1 : y ≤ 40) :
    Calls Try.prog 60 #[.agg #[.int .i64 v.size, .slice A n c, .int .i64 v.wrong, .int .i64 v.hxl, .int .i64 v.hxh, .int .i64 v.hyl, .int .i64 v.hyh], .int .i64 x, .int .i64 y] w fun e w' => ∃ sv c', e = .returned (.slice sv (L.wrongL v x y).length c') ∧ w'.ownsRow w.heap.size 3 1 (.slice sv (L.wrongL v x y).length c') (L.wrongL v x y).length (flatI (L.wrongL v x y)) ∧ Below w.heap.size w w' := by
  have HN := hide hn
  have HR := hide hr
  have HO := hide ho
  clear hn hr ho
  go_enter Try.func60, Try.ntmps60
  go_wp2_with (go_at_call 70; refine (wrongOn_any _ _ _ _).mono ?_; rintro e w' ⟨rfl, rfl⟩)
  obtain ⟨W0, hW0⟩ : ∃ W0, (((w.alloc (.cells #[.int .i64 v.size, .slice A n c, .int .i64 v.wrong, .int .i64 v.hxl, .int .i64 v.hxh, .int .i64 v.hyl, .int .i64 v.hyh] 26)).alloc (.cells #[.int .i64 x] 3)).alloc (.cells #[.int .i64 y] 3)).alloc (.cells #[.int .i64 0] 3) = W0 := ⟨_, rfl⟩
  have g0 : W0.cell? ⟨w.heap.size, 1, none⟩ = some (.slice A n c) := by rw [← hW0]; exact (zcP _ _ _ (by first | (simp; done) | (simp; omega))).trans ((zcP _ _ _ (by first | (simp; done) | (simp; omega))).trans ((zcP _ _ _ (by first | (simp; done) | (simp; omega))).trans ((zcA _ _ _ _ rfl).trans rfl)))
  have g1 : W0.cell? ⟨w.heap.size + 1, 0, none⟩ = some (.int .i64 x) := by rw [← hW0]; exact (zcP _ _ _ (by first | (simp; done) | (simp; omega))).trans ((zcP _ _ _ (by first | (simp; done) | (simp; omega))).trans ((zcA _ _ _ _ (by simp)).trans rfl))
  have g2 : W0.cell? ⟨w.heap.size + 1 + 1, 0, none⟩ = some (.int .i64 y) := by rw [← hW0]; exact (zcP _ _ _ (by first | (simp; done) | (simp; omega))).trans ((zcA _ _ _ _ (by simp)).trans rfl)
  have g3 : W0.cell? ⟨w.heap.size + 1 + 1 + 1, 0, none⟩ = some (.int .i64 0) := by rw [← hW0]; exact (zcA _ _ _ _ (by simp)).trans rfl
  have gs : W0.heap.size = w.heap.size + 1 + 1 + 1 + 1 := by rw [← hW0]; simp
  have gB : Below w.heap.size w W0 := by rw [← hW0]; (repeat' first | exact zbR _ _ | assumption | refine zbD ?_ | refine zbA ?_ ?_ _ | refine zbS ?_ ?_ _ | refine zbT ?_ (by assumption) ?_ | (simp; done) | (simp; omega) | omega)
  (try simp only [World.size_alloc])
  rw [hW0]
  clear hW0
  go_loopw [8, 17] (fun m i wr => ∃ j : Nat, j ≤ n ∧ i = .int .i64 j ∧ (∃ sv c', m = .slice sv (L.wrongFrom x y 0 (v.ss.take j)).length c' ∧ Hid (wr.ownsRow W0.heap.size 3 1 (.slice sv (L.wrongFrom x y 0 (v.ss.take j)).length c') (L.wrongFrom x y 0 (v.ss.take j)).length (flatI (L.wrongFrom x y 0 (v.ss.take j))))) ∧ Below W0.heap.size W0 wr) (fun _ i _ => n - (intOf i).toNat)
  case atStart => exact ⟨0, by omega, rfl, ⟨none, 0, rfl, hide (World.ownsRow_nil _ _ _ _)⟩, Below.refl _ _⟩
  case round =>
    obtain ⟨j, hj, rfl, ⟨sv, c', rfl, hown⟩, hB⟩ := hrel
    have hBs := hB.size
    have hB0 : Below w.heap.size w wr := gB.trans (hB.mono (by omega))
    have k1 : wr.cell? ⟨w.heap.size, 1, none⟩ = some (.slice A n c) := (hB.cell (p := ⟨w.heap.size, 1, none⟩) (by show w.heap.size < _; omega)).trans g0
    have hm : (L.wrongFrom x y 0 (v.ss.take j)).length ≤ 8 := by
      rw [L.wrongFrom_length]; have := L.many_take_le v.ss j x y 0; omega
    by_cases hlt : j < n
    · obtain ⟨s, hs⟩ : ∃ s, v.ss[j]? = some s := ⟨_, List.getElem?_eq_getElem (by have := HN.out; omega)⟩
      obtain ⟨b, o, hA, hbB, d0, d1, d2, d3⟩ := (HR.out.below hB0) j s hs
      subst hA
      have hso := HO.out s (List.mem_of_getElem? hs)
      have HM := hide (L.wrongFrom_take x y hs)
      clear hs
      have hlt' : (j : Int) < (n : Int) := by omega
      have hj0 : (0 : Int) ≤ (j : Int) := by omega
      have e0 : wr.cell? ⟨w.heap.size + 1, 0, none⟩ = some (.int .i64 x) := (hB.cell (p := ⟨w.heap.size + 1, 0, none⟩) (by show w.heap.size + 1 < _; omega)).trans g1
      have e1 : wr.cell? ⟨w.heap.size + 1 + 1, 0, none⟩ = some (.int .i64 y) := (hB.cell (p := ⟨w.heap.size + 1 + 1, 0, none⟩) (by show w.heap.size + 1 + 1 < _; omega)).trans g2
      have e2 : wr.cell? ⟨w.heap.size + 1 + 1 + 1, 0, none⟩ = some (.int .i64 0) := (hB.cell (p := ⟨w.heap.size + 1 + 1 + 1, 0, none⟩) (by show w.heap.size + 1 + 1 + 1 < _; omega)).trans g3
      have lw0 : w.heap.size + 1 < wr.heap.size := by omega
      have lw1 : w.heap.size + 1 + 1 < wr.heap.size := by omega
      have lw2 : w.heap.size + 1 + 1 + 1 < wr.heap.size := by omega
      have LS := hide hBs
      have GS := hide gs
      clear hBs gs
      cases hv : L.off x y 0 s
      · have HE : Hid (L.wrongFrom x y 0 (v.ss.take (j + 1)) = L.wrongFrom x y 0 (v.ss.take j)) := hide (by rw [HM.out, hv]; simp)
        go_wp2_with (go_at_call 74; refine (off_any s x y 0 _ _ _ _ hso hx0 hx1 hy0 hy1 (by omega) (by omega) (Nat.lt_of_lt_of_le lw0 (by simp)) (Nat.lt_of_lt_of_le lw1 (by simp)) (Nat.lt_of_lt_of_le lw2 (by simp)) ((zcP _ _ _ lw0).trans e0) ((zcP _ _ _ lw1).trans e1) ((zcP _ _ _ lw2).trans e2)).mono ?_; rintro e w3 ⟨rfl, hb3⟩; rw [hv]; have hb4 := (hB.trans (((Below.refl _ wr).alloc (Nat.le_refl _) _).mono LS.out)).trans (hb3.mono (by have := LS.out; simp; omega)))
        go_roundw
        case rel => exact ⟨j + 1, by omega, by go_num, ⟨sv, c', by rw [HE.out], hide (by rw [HE.out]; exact owns_below hown.out (((Below.refl _ wr).alloc (Nat.le_refl _) _).trans (hb3.mono (by simp))))⟩, hb4⟩
        case measure => simp [intOf]; omega
      · have HE : Hid (L.wrongFrom x y 0 (v.ss.take (j + 1)) = L.wrongFrom x y 0 (v.ss.take j) ++ [(j : Int)]) := hide (by rw [HM.out, hv]; rfl)
        have HL := hide (show (L.wrongFrom x y 0 (v.ss.take (j + 1))).length = (L.wrongFrom x y 0 (v.ss.take j)).length + 1 by rw [HE.out, List.length_append]; rfl)
        go_wp2_with (first | (go_at_call 74; refine (off_any s x y 0 _ _ _ _ hso hx0 hx1 hy0 hy1 (by omega) (by omega) (Nat.lt_of_lt_of_le lw0 (by simp)) (Nat.lt_of_lt_of_le lw1 (by simp)) (Nat.lt_of_lt_of_le lw2 (by simp)) ((zcP _ _ _ lw0).trans e0) ((zcP _ _ _ lw1).trans e1) ((zcP _ _ _ lw2).trans e2)).mono ?_; rintro e w3 ⟨rfl, hb3⟩; rw [hv]; have hb4 := (hB.trans (((Below.refl _ wr).alloc (Nat.le_refl _) _).mono LS.out)).trans (hb3.mono (by have := LS.out; simp; omega)); have HO3 := hide (owns_below hown.out (((Below.refl _ wr).alloc (Nat.le_refl _) _).trans (hb3.mono (by simp))))) | (refine wpList_app_at rfl (.tmp 25) (.tmp 27) rfl W0.heap.size _ (L.wrongFrom x y 0 (v.ss.take j)) _ rfl (HO3.out.alloc _) (some ⟨w3.heap.size, 0, none⟩) 1 1 [(j : Int)] rfl rfl (rdI_one (World.alloc_heap_new _ _)) (fun e => by cases e) (by omega) (by omega) (by have := hb4.size; simp; omega) ?_; intro A2 c2 w5 hown2 hgrow; have hg5 := grown_below (B := W0.heap.size) hgrow (by have := hb4.size; simp; omega) (fun g hg => (HO3.out.lt g hg).1); have HO2 := hide hown2; clear hown2 hgrow))
        go_roundw
        case rel => exact ⟨j + 1, by omega, by go_num, ⟨A2, c2, by rw [HL.out], hide (by rw [HL.out, HE.out]; exact HO2.out)⟩, (hb4.trans ((Below.refl _ w3).alloc hb4.size _)).trans hg5⟩
        case measure => simp [intOf]; omega
    · have hjn : j = n := by omega
      subst hjn
      have HE : Hid (L.wrongFrom x y 0 (v.ss.take j) = L.wrongL v x y) := hide (by rw [List.take_of_length_le (by have := HN.out; omega)]; rfl)
      go_wp2_with fail
      go_ret
      refine ⟨sv, c', ?_, ?_, hB0⟩
      · rw [← HE.out]; rfl
      · rw [← HE.out]; exact owns_mono hown.out (by omega)

end Go.Proofs.Ytgnobonhohfofaa

namespace Go.Proofs.Ytgnobonhohfofaa
open Go.RowKit
attribute [local go_sem ↓] Go.wp_at_zero Go.wp_at_succ

def L.wrgE (v : L.Vw) (m : L.Mk) : Int := if L.viewB v then (if L.isMarkB v m then 0 else 22) else 20
def L.wrgL (v : L.Vw) (m : L.Mk) : List Int := if L.viewB v then (if L.isMarkB v m then L.wrongL v m.x m.y else []) else []
def WrgPost (v : L.Vw) (m : L.Mk) (w : World) (e : Ending) (w' : World) : Prop :=
  ∃ sv c', e = .returned (.tuple #[.slice sv (L.wrgL v m).length c', .int .i64 (L.wrgE v m)]) ∧ w'.ownsRow w.heap.size 3 1 (.slice sv (L.wrgL v m).length c') (L.wrgL v m).length (flatI (L.wrgL v m)) ∧ Below w.heap.size w w'
theorem wrg_none {v : L.Vw} {m : L.Mk} {w w' : World} {k : Int} (h1 : L.wrgL v m = []) (h2 : L.wrgE v m = k) (hb : Below w.heap.size w w') : WrgPost v m w (.returned (.tuple #[.slice none 0 0, .int .i64 k])) w' := by
  unfold WrgPost
  rw [h1, h2]
  exact ⟨none, 0, rfl, World.ownsRow_nil _ _ _ _, hb⟩
theorem wrg_some {v : L.Vw} {m : L.Mk} {w w' : World} {sv : Option Addr} {c : Nat} {l : List Int} {n : Nat} (hn : l.length = n) (h1 : L.wrgL v m = l) (h2 : L.wrgE v m = 0) (ho : w'.ownsRow w.heap.size 3 1 (.slice sv n c) n (flatI l)) (hb : Below w.heap.size w w') : WrgPost v m w (.returned (.tuple #[.slice sv n c, .int .i64 0])) w' := by
  subst hn
  unfold WrgPost
  rw [h1, h2]
  exact ⟨sv, c, rfl, ho, hb⟩
theorem L.check_t {v : L.Vw} (h : L.viewB v = true) : L.checkE v = 0 := by unfold L.checkE; rw [h]; rfl
theorem L.check_f {v : L.Vw} (h : L.viewB v = false) : L.checkE v = 20 := by unfold L.checkE; rw [h]; rfl

set_option maxRecDepth 100000 in
set_option maxHeartbeats 1600000 in
theorem Wrong_any (v : L.Vw) (A : Option Addr) (n c : Nat) (m : L.Mk) (w : World) (hn : v.ss.length = n) (hr : RdS w w.heap.size A v.ss) :
    Calls Try.prog 31 #[.agg #[.int .i64 v.size, .slice A n c, .int .i64 v.wrong, .int .i64 v.hxl, .int .i64 v.hxh, .int .i64 v.hyl, .int .i64 v.hyh], .agg #[.int .i64 m.x, .int .i64 m.y, .int .i64 m.hx, .int .i64 m.hy]] w fun e w' => WrgPost v m w e w' := by
  have HN := hide hn
  have HR := hide hr
  clear hn hr
  cases hv : L.viewB v
  · have E1 := hide (show L.wrgL v m = [] by unfold L.wrgL; rw [hv]; rfl)
    have E2 := hide (show L.wrgE v m = 20 by unfold L.wrgE; rw [hv]; rfl)
    have HC := hide (L.check_f hv)
    clear hv
    go_enter Try.func31, Try.ntmps31
    go_wp2_with (go_at_call 35; refine (Check_any v A n c _ HN.out ((HR.out.below (by (repeat' first | exact zbR _ _ | assumption | refine zbD ?_ | refine zbA ?_ ?_ _ | refine zbS ?_ ?_ _ | refine zbT ?_ (by assumption) ?_ | (simp; done) | (simp; omega) | omega))).mono (by first | (simp; done) | (simp; omega) | omega))).mono ?_; rintro e w2 ⟨rfl, hb2⟩; rw [HC.out]; obtain ⟨hc2, hf2⟩ := bcell hb2; have q2 := hb2.size; (try simp only [World.size_alloc] at q2); have z2_0 : w.heap.size < w2.heap.size := (by omega); have z2_1 : w.heap.size + 1 < w2.heap.size := (by omega))
    go_ret2
    exact wrg_none E1.out E2.out (by (repeat' first | exact zbR _ _ | assumption | refine zbD ?_ | refine zbA ?_ ?_ _ | refine zbS ?_ ?_ _ | refine zbT ?_ (by assumption) ?_ | (simp; done) | (simp; omega) | omega))
  cases hm : L.isMarkB v m
  · have E1 := hide (show L.wrgL v m = [] by unfold L.wrgL; rw [hv, hm]; rfl)
    have E2 := hide (show L.wrgE v m = 22 by unfold L.wrgE; rw [hv, hm]; rfl)
    have HC := hide (L.check_t hv)
    have HM := hide (show L.markB m v.size v.hxl v.hxh v.hyl v.hyh = false from hm)
    clear hv hm
    go_enter Try.func31, Try.ntmps31
    go_wp2_with (first | (go_at_call 35; refine (Check_any v A n c _ HN.out ((HR.out.below (by (repeat' first | exact zbR _ _ | assumption | refine zbD ?_ | refine zbA ?_ ?_ _ | refine zbS ?_ ?_ _ | refine zbT ?_ (by assumption) ?_ | (simp; done) | (simp; omega) | omega))).mono (by first | (simp; done) | (simp; omega) | omega))).mono ?_; rintro e w2 ⟨rfl, hb2⟩; rw [HC.out]; obtain ⟨hc2, hf2⟩ := bcell hb2; have q2 := hb2.size; (try simp only [World.size_alloc] at q2); have z2_0 : w.heap.size < w2.heap.size := (by omega); have z2_1 : w.heap.size + 1 < w2.heap.size := (by omega)) | (go_at_call 52; refine (markWithin_any m _ _ _ _ _ _).mono ?_; rintro e w3 ⟨rfl, hb3⟩; rw [HM.out]; obtain ⟨hc3, hf3⟩ := bcell hb3; have q3 := hb3.size; (try simp only [World.size_alloc] at q3); have z3_0 : w.heap.size < w3.heap.size := (by omega); have z3_1 : w.heap.size + 1 < w3.heap.size := (by omega)))
    go_ret2
    exact wrg_none E1.out E2.out (by (repeat' first | exact zbR _ _ | assumption | refine zbD ?_ | refine zbA ?_ ?_ _ | refine zbS ?_ ?_ _ | refine zbT ?_ (by assumption) ?_ | (simp; done) | (simp; omega) | omega))
  · have E1 := hide (show L.wrgL v m = L.wrongL v m.x m.y by unfold L.wrgL; rw [hv, hm]; rfl)
    have E2 := hide (show L.wrgE v m = 0 by unfold L.wrgE; rw [hv, hm]; rfl)
    have HC := hide (L.check_t hv)
    have HM := hide (show L.markB m v.size v.hxl v.hxh v.hyl v.hyh = true from hm)
    have HV := hide (L.viewB_ok hv)
    have HB := hide (L.isMark_bd HV.out hm).1
    clear hv hm
    go_enter Try.func31, Try.ntmps31
    go_wp2_with (first | (go_at_call 35; refine (Check_any v A n c _ HN.out ((HR.out.below (by (repeat' first | exact zbR _ _ | assumption | refine zbD ?_ | refine zbA ?_ ?_ _ | refine zbS ?_ ?_ _ | refine zbT ?_ (by assumption) ?_ | (simp; done) | (simp; omega) | omega))).mono (by first | (simp; done) | (simp; omega) | omega))).mono ?_; rintro e w2 ⟨rfl, hb2⟩; rw [HC.out]; obtain ⟨hc2, hf2⟩ := bcell hb2; have q2 := hb2.size; (try simp only [World.size_alloc] at q2); have z2_0 : w.heap.size < w2.heap.size := (by omega); have z2_1 : w.heap.size + 1 < w2.heap.size := (by omega)) | (go_at_call 52; refine (markWithin_any m _ _ _ _ _ _).mono ?_; rintro e w3 ⟨rfl, hb3⟩; rw [HM.out]; obtain ⟨hc3, hf3⟩ := bcell hb3; have q3 := hb3.size; (try simp only [World.size_alloc] at q3); have z3_0 : w.heap.size < w3.heap.size := (by omega); have z3_1 : w.heap.size + 1 < w3.heap.size := (by omega)) | (go_at_call 60; refine (wrongAbout_any v A n c m.x m.y _ HN.out ((HR.out.below (by (repeat' first | exact zbR _ _ | assumption | refine zbD ?_ | refine zbA ?_ ?_ _ | refine zbS ?_ ?_ _ | refine zbT ?_ (by assumption) ?_ | (simp; done) | (simp; omega) | omega))).mono (by first | (simp; done) | (simp; omega) | omega)) HV.out.ok (by have := HV.out.n8; have := HN.out; omega) HB.out.x0 HB.out.x1 HB.out.y0 HB.out.y1).mono ?_; rintro e w4 ⟨sv, c4, rfl, hown, hb4⟩; have HO := hide hown; clear hown))
    go_ret2
    exact wrg_some rfl E1.out E2.out (owns_mono HO.out (by first | (simp; done) | (simp; omega) | omega)) (by (repeat' first | exact zbR _ _ | assumption | refine zbD ?_ | refine zbA ?_ ?_ _ | refine zbS ?_ ?_ _ | refine zbT ?_ (by assumption) ?_ | (simp; done) | (simp; omega) | omega))

set_option maxRecDepth 100000 in
set_option maxHeartbeats 1600000 in
theorem refWrongs_any (v : L.Vw) (A : Option Addr) (n c : Nat) (m : L.Mk) (w : World) (hn : v.ss.length = n) (hr : RdS w w.heap.size A v.ss) :
    Calls Try.prog 37 #[.agg #[.int .i64 v.size, .slice A n c, .int .i64 v.wrong, .int .i64 v.hxl, .int .i64 v.hxh, .int .i64 v.hyl, .int .i64 v.hyh], .agg #[.int .i64 m.x, .int .i64 m.y, .int .i64 m.hx, .int .i64 m.hy]] w fun e w' => WrgPost v m w e w' := by
  have HN := hide hn
  have HR := hide hr
  clear hn hr
  cases hv : L.viewB v
  · have E1 := hide (show L.wrgL v m = [] by unfold L.wrgL; rw [hv]; rfl)
    have E2 := hide (show L.wrgE v m = 20 by unfold L.wrgE; rw [hv]; rfl)
    have HC := hide (L.check_f hv)
    clear hv
    go_enter Try.func37, Try.ntmps37
    go_wp2_with (go_at_call 23; refine (RefCheck_any v A n c _ HN.out ((HR.out.below (by (repeat' first | exact zbR _ _ | assumption | refine zbD ?_ | refine zbA ?_ ?_ _ | refine zbS ?_ ?_ _ | refine zbT ?_ (by assumption) ?_ | (simp; done) | (simp; omega) | omega))).mono (by first | (simp; done) | (simp; omega) | omega))).mono ?_; rintro e w2 ⟨rfl, hb2⟩; rw [HC.out]; obtain ⟨hc2, hf2⟩ := bcell hb2; have q2 := hb2.size; (try simp only [World.size_alloc] at q2); have z2_0 : w.heap.size < w2.heap.size := (by omega); have z2_1 : w.heap.size + 1 < w2.heap.size := (by omega))
    go_ret2
    exact wrg_none E1.out E2.out (by (repeat' first | exact zbR _ _ | assumption | refine zbD ?_ | refine zbA ?_ ?_ _ | refine zbS ?_ ?_ _ | refine zbT ?_ (by assumption) ?_ | (simp; done) | (simp; omega) | omega))
  cases hm : L.isMarkB v m
  · have E1 := hide (show L.wrgL v m = [] by unfold L.wrgL; rw [hv, hm]; rfl)
    have E2 := hide (show L.wrgE v m = 22 by unfold L.wrgE; rw [hv, hm]; rfl)
    have HC := hide (L.check_t hv)
    have HM := hide (show L.markB m v.size v.hxl v.hxh v.hyl v.hyh = false from hm)
    clear hv hm
    go_enter Try.func37, Try.ntmps37
    go_wp2_with (first | (go_at_call 23; refine (RefCheck_any v A n c _ HN.out ((HR.out.below (by (repeat' first | exact zbR _ _ | assumption | refine zbD ?_ | refine zbA ?_ ?_ _ | refine zbS ?_ ?_ _ | refine zbT ?_ (by assumption) ?_ | (simp; done) | (simp; omega) | omega))).mono (by first | (simp; done) | (simp; omega) | omega))).mono ?_; rintro e w2 ⟨rfl, hb2⟩; rw [HC.out]; obtain ⟨hc2, hf2⟩ := bcell hb2; have q2 := hb2.size; (try simp only [World.size_alloc] at q2); have z2_0 : w.heap.size < w2.heap.size := (by omega); have z2_1 : w.heap.size + 1 < w2.heap.size := (by omega)) | (go_at_call 49; refine (isMark_any v A n c m _).mono ?_; rintro e w3 ⟨rfl, hb3⟩; rw [HM.out]; obtain ⟨hc3, hf3⟩ := bcell hb3; have q3 := hb3.size; (try simp only [World.size_alloc] at q3); have z3_0 : w.heap.size < w3.heap.size := (by omega); have z3_1 : w.heap.size + 1 < w3.heap.size := (by omega)))
    go_ret2
    exact wrg_none E1.out E2.out (by (repeat' first | exact zbR _ _ | assumption | refine zbD ?_ | refine zbA ?_ ?_ _ | refine zbS ?_ ?_ _ | refine zbT ?_ (by assumption) ?_ | (simp; done) | (simp; omega) | omega))
  · have E1 := hide (show L.wrgL v m = L.wrongL v m.x m.y by unfold L.wrgL; rw [hv, hm]; rfl)
    have E2 := hide (show L.wrgE v m = 0 by unfold L.wrgE; rw [hv, hm]; rfl)
    have HC := hide (L.check_t hv)
    have HM := hide (show L.markB m v.size v.hxl v.hxh v.hyl v.hyh = true from hm)
    have HV := hide (L.viewB_ok hv)
    have HB := hide (L.isMark_bd HV.out hm).1
    clear hv hm
    go_enter Try.func37, Try.ntmps37
    go_wp2_with (first | (go_at_call 23; refine (RefCheck_any v A n c _ HN.out ((HR.out.below (by (repeat' first | exact zbR _ _ | assumption | refine zbD ?_ | refine zbA ?_ ?_ _ | refine zbS ?_ ?_ _ | refine zbT ?_ (by assumption) ?_ | (simp; done) | (simp; omega) | omega))).mono (by first | (simp; done) | (simp; omega) | omega))).mono ?_; rintro e w2 ⟨rfl, hb2⟩; rw [HC.out]; obtain ⟨hc2, hf2⟩ := bcell hb2; have q2 := hb2.size; (try simp only [World.size_alloc] at q2); have z2_0 : w.heap.size < w2.heap.size := (by omega); have z2_1 : w.heap.size + 1 < w2.heap.size := (by omega)) | (go_at_call 49; refine (isMark_any v A n c m _).mono ?_; rintro e w3 ⟨rfl, hb3⟩; rw [HM.out]; obtain ⟨hc3, hf3⟩ := bcell hb3; have q3 := hb3.size; (try simp only [World.size_alloc] at q3); have z3_0 : w.heap.size < w3.heap.size := (by omega); have z3_1 : w.heap.size + 1 < w3.heap.size := (by omega)) | (go_at_call 50; refine (refWrong_any v A n c m.x m.y _ HN.out ((HR.out.below (by (repeat' first | exact zbR _ _ | assumption | refine zbD ?_ | refine zbA ?_ ?_ _ | refine zbS ?_ ?_ _ | refine zbT ?_ (by assumption) ?_ | (simp; done) | (simp; omega) | omega))).mono (by first | (simp; done) | (simp; omega) | omega)) HV.out.ok (by have := HV.out.n8; have := HN.out; omega) HB.out.x0 HB.out.x1 HB.out.y0 HB.out.y1).mono ?_; rintro e w4 ⟨sv, c4, rfl, hown, hb4⟩; have HO := hide hown; clear hown))
    go_ret2
    exact wrg_some rfl E1.out E2.out (owns_mono HO.out (by first | (simp; done) | (simp; omega) | omega)) (by (repeat' first | exact zbR _ _ | assumption | refine zbD ?_ | refine zbA ?_ ?_ _ | refine zbS ?_ ?_ _ | refine zbT ?_ (by assumption) ?_ | (simp; done) | (simp; omega) | omega))

end Go.Proofs.Ytgnobonhohfofaa

namespace Go.Proofs.Ytgnobonhohfofaa
open Go.RowKit
attribute [local go_sem ↓] Go.wp_at_zero Go.wp_at_succ
attribute [local go_sem] Oper.semAt_some

namespace L
def fewF (v : Vw) (l : List (Int × Int)) : Int := l.foldl (fun n c => min n ((wrongL v c.1 c.2).length : Int)) (v.ss.length : Int)
theorem fewF_snoc (v : Vw) (l : List (Int × Int)) (c : Int × Int) : fewF v (l ++ [c]) = min (fewF v l) ((wrongL v c.1 c.2).length : Int) := by unfold fewF; rw [List.foldl_append]; rfl
theorem fewF_bd (v : Vw) (l : List (Int × Int)) : 0 ≤ fewF v l ∧ fewF v l ≤ v.ss.length := by
  unfold fewF
  suffices h : ∀ (l : List (Int × Int)) (n : Int), 0 ≤ n → 0 ≤ l.foldl (fun n c => min n ((wrongL v c.1 c.2).length : Int)) n ∧ l.foldl (fun n c => min n ((wrongL v c.1 c.2).length : Int)) n ≤ n from h l _ (by omega)
  intro l
  induction l with
  | nil => intro n h; exact ⟨h, Int.le_refl _⟩
  | cons c r ih =>
    intro n h
    obtain ⟨h1, h2⟩ := ih (min n ((wrongL v c.1 c.2).length : Int)) (by omega)
    simp only [List.foldl_cons]
    exact ⟨h1, by omega⟩
def fewE (v : Vw) : Int := checkE v
def fewV (v : Vw) : Int := if checkE v = 0 then fewest v else 0
end L

set_option maxRecDepth 100000 in
set_option maxHeartbeats 3200000 in
theorem Fewest_yes (v : L.Vw) (A : Option Addr) (n c : Nat) (w : World) (hn : v.ss.length = n) (hr : RdS w w.heap.size A v.ss) (h : L.checkE v = 0) :
    Calls Try.prog 29 #[.agg #[.int .i64 v.size, .slice A n c, .int .i64 v.wrong, .int .i64 v.hxl, .int .i64 v.hxh, .int .i64 v.hyl, .int .i64 v.hyh]] w fun e w' => e = .returned (.tuple #[.int .i64 (L.fewV v), .int .i64 (L.fewE v)]) ∧ Below w.heap.size w w' := by
  have HN := hide hn
  have HR := hide hr
  have H := hide h
  have HV := hide (L.checkE_ok h)
  obtain ⟨N, hN⟩ : ∃ N : Nat, v.size = (N : Int) := ⟨v.size.toNat, (Int.toNat_of_nonneg (L.checkE_ok h).s0).symm⟩
  have hN40 : N ≤ 40 := by have := HV.out.s1; omega
  have HNt := hide (show v.size.toNat = N by omega)
  have E1 := hide (show L.fewV v = L.fewF v (L.cents N) by unfold L.fewV L.fewest; rw [if_pos h, HNt.out]; rfl)
  have E2 := hide (show L.fewE v = 0 from h)
  have hn8 : (n : Int) ≤ 8 := by have := HV.out.n8; omega
  have HSz := hide hN
  clear hn hr h hN
  refine calls_marks Try.func29 rfl ?_
  simp only [Try.ntmps29, List.size_toArray, List.length_cons, List.length_nil, Nat.reduceAdd, Nat.reduceSub, Array.replicate_succ, Array.replicate_zero, List.push_toArray, List.append_toArray, List.nil_append, List.cons_append]
  go_upto_region 1 with fail
  obtain ⟨W0, hW0⟩ : ∃ W0, w.alloc (.cells #[.int .i64 v.size, .slice A n c, .int .i64 v.wrong, .int .i64 v.hxl, .int .i64 v.hxh, .int .i64 v.hyl, .int .i64 v.hyh] 26) = W0 := ⟨_, rfl⟩
  have gp : W0.heap[w.heap.size]? = some (.cells #[.int .i64 v.size, .slice A n c, .int .i64 v.wrong, .int .i64 v.hxl, .int .i64 v.hxh, .int .i64 v.hyl, .int .i64 v.hyh] 26 (0, 0)) := by
    rw [← hW0]; exact World.alloc_heap_new _ _
  have gs : W0.heap.size = w.heap.size + 1 := by rw [← hW0]; simp
  have gB : Below w.heap.size w W0 := by rw [← hW0]; (repeat' first | exact zbR _ _ | assumption | refine zbD ?_ | refine zbA ?_ ?_ _ | refine zbS ?_ ?_ _ | refine zbT ?_ (by assumption) ?_ | (simp; done) | (simp; omega) | omega)
  rw [hW0]
  clear hW0
  obtain ⟨p, hp⟩ : ∃ p, w.heap.size = p := ⟨_, rfl⟩
  rw [hp]
  rw [hp] at gp
  have lp : p < W0.heap.size := by omega
  have HR0 := hide ((HR.out.below gB).mono gB.size)
  have GB := hide gB
  have GP := hide gp
  have cp0 := (blk_cell gp 0).trans rfl; have cp1 := (blk_cell gp 1).trans rfl; have cp2 := (blk_cell gp 2).trans rfl; have cp3 := (blk_cell gp 3).trans rfl; have cp4 := (blk_cell gp 4).trans rfl; have cp5 := (blk_cell gp 5).trans rfl; have cp6 := (blk_cell gp 6).trans rfl
  clear gp gB HR
  go_wp2_with (first | (go_at_call 35; refine (Check_any v A n c _ HN.out HR0.out).mono ?_; rintro e w2 ⟨rfl, hb2⟩; rw [H.out]; obtain ⟨hc2, hf2⟩ := bcell hb2; have q2 := hb2.size; have lp2 : p < w2.heap.size := (by omega)) | (go_at_call 59; refine (centres_any _ _).mono ?_; rintro e V ⟨rfl, rfl⟩))
  obtain ⟨V, hV⟩ : ∃ V, (w2.alloc (.cells #[.int .i64 (n : Int)] 3)).alloc (.cells #[.int .i64 v.size] 3) = V := ⟨_, rfl⟩
  have vf : V.heap[w2.heap.size]? = some (.cells #[.int .i64 (n : Int)] 3 (0, 0)) := by
    rw [← hV]; exact (Below.heap_alloc _ _ _ (by first | (simp; done) | (simp; omega) | omega)).trans (World.alloc_heap_new _ _)
  have vb : V.cell? ⟨w2.heap.size + 1, 0, none⟩ = some (.int .i64 (N : Int)) := by
    rw [← hV, ← HSz.out]; exact (zcA _ _ _ _ (by simp)).trans rfl
  have vs : V.heap.size = w2.heap.size + 1 + 1 := by rw [← hV]; simp
  have vB : Below w2.heap.size w2 V := by rw [← hV]; (repeat' first | exact zbR _ _ | assumption | refine zbD ?_ | refine zbA ?_ ?_ _ | refine zbS ?_ ?_ _ | refine zbT ?_ (by assumption) ?_ | (simp; done) | (simp; omega) | omega)
  rw [hV]
  clear hV
  obtain ⟨f, hf⟩ : ∃ f, w2.heap.size = f := ⟨_, rfl⟩
  rw [hf] at vf vb vs lp2 q2 vB
  rw [hf]
  have vp := (vB.block p (by omega)).trans ((hb2.block p lp).trans GP.out)
  have hBV : Below W0.heap.size W0 V := hb2.trans (vB.mono q2)
  have VP := hide vp
  have vf' : V.heap[f]? = some (.cells #[.int .i64 (L.fewF v [])] 3 (0, 0)) := by rw [vf]; unfold L.fewF; rw [List.foldl_nil, HN.out]
  have HBV := hide hBV
  clear cp0 cp1 cp2 cp3 cp4 cp5 cp6 hc2 hf2 hb2 vB vp vf hBV GP
  refine wp_rangeP (gf := 72) (lb := #[.pointer (some ⟨f + 1, 0, none⟩)]) rfl (enters_of Try.func72 (by kernel_rfl) rfl)
    (centres_seq N (f + 1) (fun x => x < V.heap.size ∧ x ≠ f) V hN40 (by omega) ⟨by omega, by omega⟩ vb) (Below.refl _ _) (fun x hx => hx.1) (fun _ => rfl)
    (fun pre X => Keeps (fun x => x ≠ f) V X ∧ X.heap[f]? = some (.cells #[.int .i64 (L.fewF v pre)] 3 (0, 0)))
    (fun _ _ _ => False)
    (OwnFrom.and (keeps_own (Nat.le_refl _)) (own_block (by omega) _))
    (fun _ _ _ _ _ hs _ _ => hs)
    ⟨Keeps.refl _ _, vf'⟩ ?a1 ?assign ?body ?done ?stop
  case assign =>
    intro l2 x X K hK
    simp only [encP]
    gi_wp2
    exact hK
  case body =>
    rintro l2 pre x X ⟨hK, hF⟩ hpre
    obtain ⟨hx0, hx1, hy0, hy1⟩ := L.mem_cents (hpre.subset (List.mem_append_right _ (List.mem_singleton.2 rfl)))
    have z3 := hK.rest.size
    have lpX : p < X.heap.size := by omega
    have lfX : f < X.heap.size := by omega
    obtain ⟨x1, x2⟩ := x
    dsimp only at hx0 hx1 hy0 hy1
    have hx1' : x1 ≤ 40 := by omega
    have hy1' : x2 ≤ 40 := by omega
    have bp := (hK.same p (show p ≠ f by omega) (by omega)).trans VP.out
    have cp0 := (blk_cell bp 0).trans rfl; have cp1 := (blk_cell bp 1).trans rfl; have cp2 := (blk_cell bp 2).trans rfl; have cp3 := (blk_cell bp 3).trans rfl; have cp4 := (blk_cell bp 4).trans rfl; have cp5 := (blk_cell bp 5).trans rfl; have cp6 := (blk_cell bp 6).trans rfl
    have HRX := hide (((HR0.out.below HBV.out).below (hK.below (n := W0.heap.size) (fun y hy => by show y ≠ f; omega) (by omega))).mono (B' := X.heap.size) (by omega))
    obtain ⟨mb0, mb1⟩ := L.fewF_bd v pre
    have EM := hide (L.fewF_snoc v pre (x1, x2))
    obtain ⟨mm, hmm⟩ : ∃ mm, L.fewF v pre = mm := ⟨_, rfl⟩
    rw [hmm] at hF EM mb0 mb1
    have mb2 : mm ≤ 8 := by have := HN.out; omega
    have cf0 := (blk_cell hF 0).trans rfl
    have ff0 := blk_frozen hF 0
    have HF := hide hF
    have HK := hide hK
    have hl8 : (L.wrongL v x1 x2).length ≤ 8 := by rw [L.wrongL_length]; have := L.many_le v.ss x1 x2 0; have := HN.out; omega
    obtain ⟨ln, hln⟩ : ∃ ln, (L.wrongL v x1 x2).length = ln := ⟨_, rfl⟩
    have HLN := hide hln
    rw [hln] at hl8
    clear bp hF hK hpre hmm hln
    gi_wp2
    gi_region_with ((refine ⟨trivial, ?_⟩; gi_at_call 60; refine (CallsIn.inRound l2 (callsIn_wide.2 (wrongAbout_any v A n c x1 x2 _ HN.out ((HRX.out.below (by (repeat' first | exact zbR _ _ | assumption | refine zbD ?_ | refine zbA ?_ ?_ _ | refine zbS ?_ ?_ _ | refine zbT ?_ (by assumption) ?_ | (simp; done) | (simp; omega) | omega))).mono (by first | (simp; done) | (simp; omega) | omega)) HV.out.ok (by omega) hx0 hx1' hy0 hy1'))).mono ?_; rintro e w3 ⟨sv, c3, rfl, hown, hb3⟩; clear hown; rw [HLN.out]; have cf3 := (hb3.cell (p := ⟨f, 0, none⟩) lfX).trans cf0; have ff3 := (hb3.frozen (p := ⟨f, 0, none⟩) lfX).trans ff0; have lf3 : f < w3.heap.size := (by have := hb3.size; (try simp at this); omega)))
    all_goals
      have hXw : Below X.heap.size X w3 := by (repeat' first | exact zbR _ _ | assumption | refine zbD ?_ | refine zbA ?_ ?_ _ | refine zbS ?_ ?_ _ | refine zbT ?_ (by assumption) ?_ | (simp; done) | (simp; omega) | omega)
      have q3 := (hXw.block f lfX).trans HF.out
      gi_wp2
      all_goals
        refine ⟨?_, ?_, ?_⟩
        · (repeat (first | (with_reducible exact Keeps.of_below hXw) | ((with_reducible refine Keeps.st ?_ ?_); rotate_left 1; (intro h; dsimp only at h; omega))))
        · (repeat (first | (with_reducible exact HK.out.trans (Keeps.of_below hXw)) | ((with_reducible refine Keeps.st ?_ ?_); rotate_left 1; (intro h; dsimp only at h; omega))))
        · rw [EM.out, HLN.out]
          exact cells1 (blk_set q3 0 _) rfl (by omega)
  case done =>
    rintro D X hD ⟨hK, hF⟩ hdef
    have z3 := hK.rest.size
    have hbX : Below p V X := hK.below (n := p) (fun y hy => by show y ≠ f; omega) (by omega)
    have cf0 := (blk_cell hF 0).trans rfl
    clear hF
    go_wp2
    refine ⟨by simp, .inl ⟨_, _, rfl, run_takeDeferred hdef, ?_⟩⟩
    rw [E1.out, E2.out]
    refine ⟨_, results_tmp2 rfl _ _ _, rfl, ?_⟩
    have h1 := GB.out
    have h2 := HBV.out
    rw [hp] at h1 ⊢
    have h3 := (h1.trans (h2.mono (by omega))).trans hbX
    exact below_turn' h3 (by omega) (by omega)
  case stop =>
    rintro D cd pre X _ _ h _
    exact h.elim

theorem Fewest_any (v : L.Vw) (A : Option Addr) (n c : Nat) (w : World) (hn : v.ss.length = n) (hr : RdS w w.heap.size A v.ss) :
    Calls Try.prog 29 #[.agg #[.int .i64 v.size, .slice A n c, .int .i64 v.wrong, .int .i64 v.hxl, .int .i64 v.hxh, .int .i64 v.hyl, .int .i64 v.hyh]] w fun e w' => e = .returned (.tuple #[.int .i64 (L.fewV v), .int .i64 (L.fewE v)]) ∧ Below w.heap.size w w' := by
  rcases L.checkE_cases v with h | h
  · exact Fewest_yes v A n c w hn hr h
  · have HN := hide hn
    have HR := hide hr
    have H := hide h
    have E1 := hide (show L.fewV v = 0 by unfold L.fewV; rw [if_neg (by omega)])
    have E2 := hide (show L.fewE v = 20 from h)
    clear hn hr h
    refine calls_marks Try.func29 rfl ?_
    simp only [Try.ntmps29, List.size_toArray, List.length_cons, List.length_nil, Nat.reduceAdd, Nat.reduceSub, Array.replicate_succ, Array.replicate_zero, List.push_toArray, List.append_toArray, List.nil_append, List.cons_append]
    go_wp2_with (go_at_call 35; refine (Check_any v A n c _ HN.out ((HR.out.below (by (repeat' first | exact zbR _ _ | assumption | refine zbD ?_ | refine zbA ?_ ?_ _ | refine zbS ?_ ?_ _ | refine zbT ?_ (by assumption) ?_ | (simp; done) | (simp; omega) | omega))).mono (by first | (simp; done) | (simp; omega) | omega))).mono ?_; rintro e w2 ⟨rfl, hb2⟩; rw [H.out])
    rw [E1.out, E2.out]
    exact ⟨_, results_tmp2 rfl _ _ _, rfl, by (repeat' first | exact zbR _ _ | assumption | refine zbD ?_ | refine zbA ?_ ?_ _ | refine zbS ?_ ?_ _ | refine zbT ?_ (by assumption) ?_ | (simp; done) | (simp; omega) | omega)⟩

end Go.Proofs.Ytgnobonhohfofaa

namespace Go.Proofs.Ytgnobonhohfofaa
open Go.RowKit
attribute [local go_sem ↓] Go.wp_at_zero Go.wp_at_succ
attribute [local go_sem] Oper.semAt_some

theorem flatI_set (xs : List Int) (i : Nat) (x : Int) : (flatI xs).set i (.int .i64 x) = flatI (xs.set i x) := by unfold flatI; rw [List.map_set]
theorem own_rowI {β : Type} {B base g n : Nat} (hg : g < B) (xs : β → List Value) : OwnFrom B (fun s W => W.ownsRow base 3 1 (.slice (some ⟨g, 0, none⟩) n n) n (xs s)) := fun _ _ _ row h hgr hr =>
  h.kept hgr (.inr (fun e => by have := (hr g e.symm).1; omega))
theorem run_make_ints (n : Nat) (hn : n ≤ 1000) (W : World) : (Instr.makeSlice 57 (.int .i64 (n : Int)) (.int .i64 (n : Int))).run Try.prog W = .ok (.slice (some ⟨W.heap.size, 0, none⟩) n n) (W.alloc (.cells (madeCells #[.int .i64 0] n) 3)) := by
  obtain ⟨i, hi, hz0, hz1, hz2⟩ := info_parts int_info
  have hr := run_make (P := Try.prog) W 57 3 i _ Try.underlying57 hi hz0 .i64 .i64 n n (by omega) (Int.le_refl _) (by rw [hz2]; omega) (by omega)
  rw [hr, hz1]
  simp [Value.cells]

namespace L
def cnt (v : Vw) (l : List (Int × Int)) (i : Nat) : Nat := (l.filter fun c => decide ((i : Int) ∈ wrongL v c.1 c.2)).length
theorem cnt_snoc (v : Vw) (l : List (Int × Int)) (c : Int × Int) (i : Nat) : cnt v (l ++ [c]) i = cnt v l i + (if (i : Int) ∈ wrongL v c.1 c.2 then 1 else 0) := by
  unfold cnt
  rw [List.filter_append, List.length_append]
  congr 1
  by_cases h : (i : Int) ∈ wrongL v c.1 c.2 <;> simp [List.filter_cons, h]
theorem cnt_le (v : Vw) (l : List (Int × Int)) (i : Nat) : cnt v l i ≤ l.length := List.length_filter_le _ _
def tms (v : Vw) (l : List (Int × Int)) (k : List Int) (n : Nat) : List Int := (List.range n).map fun i => (cnt v l i : Int) + (if (i : Int) ∈ k then 1 else 0)
theorem tms_length (v : Vw) (l : List (Int × Int)) (k : List Int) (n : Nat) : (tms v l k n).length = n := by unfold tms; simp
theorem tms_at {v : Vw} {l : List (Int × Int)} {k : List Int} {n i : Nat} (h : i < n) : (tms v l k n)[i]? = some ((cnt v l i : Int) + (if (i : Int) ∈ k then 1 else 0)) := by
  unfold tms; rw [List.getElem?_map, List.getElem?_range h]; rfl
theorem tms_nil (v : Vw) (n : Nat) : tms v [] [] n = List.replicate n 0 := by
  apply List.ext_getElem?
  intro i
  by_cases h : i < n
  · rw [tms_at h, List.getElem?_replicate, if_pos h]; simp [cnt]
  · rw [List.getElem?_eq_none (by rw [tms_length]; omega), List.getElem?_eq_none (by simp; omega)]
theorem tms_set {v : Vw} {l : List (Int × Int)} {k : List Int} {n i : Nat} (h : i < n) (hk : (i : Int) ∉ k) : (tms v l k n).set i ((cnt v l i : Int) + 1) = tms v l (k ++ [(i : Int)]) n := by
  apply List.ext_getElem?
  intro j
  rw [List.getElem?_set]
  by_cases hj : j < n
  · rw [tms_at hj, tms_at hj, tms_length]
    by_cases e : i = j
    · subst e; rw [if_pos rfl, if_pos hj, if_pos (by simp)]
    · rw [if_neg e]
      have e' : (j : Int) ≠ (i : Int) := by omega
      simp [e']
  · rw [if_neg (by omega), List.getElem?_eq_none (by rw [tms_length]; omega), List.getElem?_eq_none (by rw [tms_length]; omega)]
theorem tms_all (v : Vw) (l : List (Int × Int)) (c : Int × Int) (n : Nat) : tms v l (wrongL v c.1 c.2) n = tms v (l ++ [c]) [] n := by
  unfold tms
  refine List.map_congr_left fun i _ => ?_
  rw [cnt_snoc]
  by_cases h : (i : Int) ∈ wrongL v c.1 c.2 <;> simp [h]
theorem wrongFrom_mem {x y : Int} : ∀ {ss : List St} {i : Nat} {z : Int}, z ∈ wrongFrom x y i ss → ∃ j : Nat, z = (j : Int) ∧ i ≤ j ∧ j < i + ss.length
  | [], i, z, h => by simp [wrongFrom] at h
  | s :: r, i, z, h => by
    unfold wrongFrom at h
    split at h
    · rcases List.mem_cons.1 h with rfl | h
      · exact ⟨i, rfl, Nat.le_refl _, by simp⟩
      · obtain ⟨j, h1, h2, h3⟩ := wrongFrom_mem h
        exact ⟨j, h1, by omega, by simp; omega⟩
    · obtain ⟨j, h1, h2, h3⟩ := wrongFrom_mem h
      exact ⟨j, h1, by omega, by simp; omega⟩
theorem wrongFrom_nodup (x y : Int) : ∀ (ss : List St) (i : Nat), (wrongFrom x y i ss).Nodup
  | [], i => by simp [wrongFrom]
  | s :: r, i => by
    unfold wrongFrom
    split
    · rw [List.nodup_cons]
      refine ⟨fun h => ?_, wrongFrom_nodup x y r (i + 1)⟩
      obtain ⟨j, h1, h2, h3⟩ := wrongFrom_mem h
      omega
    · exact wrongFrom_nodup x y r (i + 1)
theorem nodup_take {l : List Int} (h : l.Nodup) {k : Nat} {z : Int} (hk : l[k]? = some z) : z ∉ l.take k := by
  intro hm
  obtain ⟨j, hj⟩ := List.getElem?_of_mem hm
  have hlt : j < k := by
    have := (List.getElem?_eq_some_iff.1 hj).1
    rw [List.length_take] at this
    omega
  rw [List.getElem?_take_of_lt hlt] at hj
  obtain ⟨h1, e1⟩ := List.getElem?_eq_some_iff.1 hj
  obtain ⟨h2, e2⟩ := List.getElem?_eq_some_iff.1 hk
  exact List.pairwise_iff_getElem.1 h j k h1 h2 hlt (by rw [e1, e2])
def blmFrom (v : Vw) (n : Nat) : List Int := ((List.range n).filter fun i => decide (cnt v (tcents v 0) i = (tcents v 0).length)).map fun i => ((i : Nat) : Int)
def blmE (v : Vw) : Int := if checkE v = 0 then (if tcents v 0 = [] then 3 else 0) else checkE v
def blmL (v : Vw) : List Int := if checkE v = 0 then (if tcents v 0 = [] then [] else blmFrom v v.ss.length) else []
theorem blmFrom_next (v : Vw) (k : Nat) : blmFrom v (k + 1) = blmFrom v k ++ (if cnt v (tcents v 0) k = (tcents v 0).length then [(k : Int)] else []) := by
  unfold blmFrom
  rw [List.range_succ, List.filter_append, List.map_append]
  congr 1
  by_cases h : cnt v (tcents v 0) k = (tcents v 0).length <;> simp [List.filter_cons, h]
theorem blmFrom_le (v : Vw) (k : Nat) : (blmFrom v k).length ≤ k := by
  unfold blmFrom
  rw [List.length_map]
  have := List.length_filter_le (fun i => decide (cnt v (tcents v 0) i = (tcents v 0).length)) (List.range k)
  rwa [List.length_range] at this
end L

def BlmPost (v : L.Vw) (w : World) (e : Ending) (w' : World) : Prop :=
  ∃ sv c', e = .returned (.tuple #[.slice sv (L.blmL v).length c', .int .i64 (L.blmE v)]) ∧ w'.ownsRow w.heap.size 3 1 (.slice sv (L.blmL v).length c') (L.blmL v).length (flatI (L.blmL v)) ∧ Below w.heap.size w w'

set_option maxRecDepth 100000 in
set_option maxHeartbeats 3200000 in
theorem Blame_yes (v : L.Vw) (A : Option Addr) (n c : Nat) (w : World) (hn : v.ss.length = n) (hr : RdS w w.heap.size A v.ss) (h : L.checkE v = 0) :
    Calls Try.prog 30 #[.agg #[.int .i64 v.size, .slice A n c, .int .i64 v.wrong, .int .i64 v.hxl, .int .i64 v.hxh, .int .i64 v.hyl, .int .i64 v.hyh]] w fun e w' => BlmPost v w e w' := by
  have HN := hide hn
  have HR := hide hr
  have H := hide h
  have HV := hide (L.checkE_ok h)
  have hn8 : (n : Int) ≤ 8 := by have := HV.out.n8; omega
  have hmk : ∀ W : World, (Instr.makeSlice 57 (.int .i64 (n : Int)) (.int .i64 (n : Int))).run Try.prog W = .ok (.slice (some ⟨W.heap.size, 0, none⟩) n n) (W.alloc (.cells (madeCells #[.int .i64 0] n) 3)) := fun W => run_make_ints n (by omega) W
  clear hn hr h
  refine calls_marks Try.func30 rfl ?_
  simp only [Try.ntmps30, List.size_toArray, List.length_cons, List.length_nil, Nat.reduceAdd, Nat.reduceSub, Array.replicate_succ, Array.replicate_zero, List.push_toArray, List.append_toArray, List.nil_append, List.cons_append]
  go_upto_region 1 with fail
  obtain ⟨W0, hW0⟩ : ∃ W0, w.alloc (.cells #[.int .i64 v.size, .slice A n c, .int .i64 v.wrong, .int .i64 v.hxl, .int .i64 v.hxh, .int .i64 v.hyl, .int .i64 v.hyh] 26) = W0 := ⟨_, rfl⟩
  have gp : W0.heap[w.heap.size]? = some (.cells #[.int .i64 v.size, .slice A n c, .int .i64 v.wrong, .int .i64 v.hxl, .int .i64 v.hxh, .int .i64 v.hyl, .int .i64 v.hyh] 26 (0, 0)) := by
    rw [← hW0]; exact World.alloc_heap_new _ _
  have gs : W0.heap.size = w.heap.size + 1 := by rw [← hW0]; simp
  have gB : Below w.heap.size w W0 := by rw [← hW0]; (repeat' first | exact zbR _ _ | assumption | refine zbD ?_ | refine zbA ?_ ?_ _ | refine zbS ?_ ?_ _ | refine zbT ?_ (by assumption) ?_ | (simp; done) | (simp; omega) | omega)
  rw [hW0]
  clear hW0
  obtain ⟨p, hp⟩ : ∃ p, w.heap.size = p := ⟨_, rfl⟩
  rw [hp]
  rw [hp] at gp
  have lp : p < W0.heap.size := by omega
  have HR0 := hide ((HR.out.below gB).mono gB.size)
  have GB := hide gB
  have GP := hide gp
  have cp0 := (blk_cell gp 0).trans rfl; have cp1 := (blk_cell gp 1).trans rfl; have cp2 := (blk_cell gp 2).trans rfl; have cp3 := (blk_cell gp 3).trans rfl; have cp4 := (blk_cell gp 4).trans rfl; have cp5 := (blk_cell gp 5).trans rfl; have cp6 := (blk_cell gp 6).trans rfl
  clear gp gB HR
  go_upto_region 6 with (go_at_call 35; refine (Check_any v A n c _ HN.out HR0.out).mono ?_; rintro e w2 ⟨rfl, hb2⟩; rw [H.out]; obtain ⟨hc2, hf2⟩ := bcell hb2; have q2 := hb2.size; have lp2 : p < w2.heap.size := (by omega))
  obtain ⟨W4, hW4⟩ : ∃ W4, ((w2.alloc (.cells #[.int .i64 0] 3)).alloc (.cells (madeCells #[.int .i64 0] n) 3)).alloc (.cells #[.slice (some ⟨w2.heap.size + 1, 0, none⟩) n n] 57) = W4 := ⟨_, rfl⟩
  have v0 : W4.heap[w2.heap.size]? = some (.cells #[.int .i64 0] 3 (0, 0)) := by
    rw [← hW4]; exact (Below.heap_alloc _ _ _ (by first | (simp; done) | (simp; omega) | omega)).trans ((Below.heap_alloc _ _ _ (by first | (simp; done) | (simp; omega) | omega)).trans (World.alloc_heap_new _ _))
  have v1 : W4.ownsRow (w2.heap.size + 1) 3 1 (.slice (some ⟨w2.heap.size + 1, 0, none⟩) n n) n (flatI (L.tms v [] [] n)) := by
    rw [← hW4, L.tms_nil]
    have h1 := World.ownsRow_lit (base := w2.heap.size + 1) (e := 3) (size := 1) (w2.alloc (.cells #[.int .i64 0] 3)) (madeCells #[.int .i64 0] n) n (by simp) (by unfold maxLen; omega) (by rw [size_madeCells]; omega)
    rw [World.size_alloc, toList_madeCells_one] at h1
    have h2 : flatI (List.replicate n 0) = List.replicate n (.int .i64 0) := by unfold flatI; rw [List.map_replicate]
    rw [h2]
    exact h1.alloc _
  have v2 : W4.cell? ⟨w2.heap.size + 1 + 1, 0, none⟩ = some (.slice (some ⟨w2.heap.size + 1, 0, none⟩) n n) := by
    rw [← hW4]; exact (zcA _ _ _ _ (by simp)).trans rfl
  have vs : W4.heap.size = w2.heap.size + 1 + 1 + 1 := by rw [← hW4]; simp
  have vB : Below w2.heap.size w2 W4 := by rw [← hW4]; (repeat' first | exact zbR _ _ | assumption | refine zbD ?_ | refine zbA ?_ ?_ _ | refine zbS ?_ ?_ _ | refine zbT ?_ (by assumption) ?_ | (simp; done) | (simp; omega) | omega)
  rw [hW4]
  clear hW4 hmk
  obtain ⟨f, hf⟩ : ∃ f, w2.heap.size = f := ⟨_, rfl⟩
  rw [hf] at v0 v1 v2 vs lp2 q2 vB
  rw [hf]
  have vp := (vB.block p (by omega)).trans ((hb2.block p lp).trans GP.out)
  have hBV : Below W0.heap.size W0 W4 := hb2.trans (vB.mono q2)
  have lp4 : p < W4.heap.size := by omega
  have V0 := hide v0
  have V1 := hide v1
  have V2 := hide v2
  have VP := hide vp
  have HB4 := hide hBV
  clear cp0 cp1 cp2 cp3 cp4 cp5 cp6 hc2 hf2 hb2 vB hBV v0 v1 v2
  have cp0 := (blk_cell vp 0).trans rfl; have cp1 := (blk_cell vp 1).trans rfl; have cp2 := (blk_cell vp 2).trans rfl; have cp3 := (blk_cell vp 3).trans rfl; have cp4 := (blk_cell vp 4).trans rfl; have cp5 := (blk_cell vp 5).trans rfl; have cp6 := (blk_cell vp 6).trans rfl
  have VS := hide vs
  clear vp vs
  go_wp2_with (go_at_call 58; refine (trueCentres_any v A n c 0 _).mono ?_; rintro e V ⟨rfl, hVb, hVs, hV0, hV1, hV2, hV3, hV4⟩)
  have vs := VS.out
  have hVW := hVb.size
  have vf : V.heap[f]? = some (.cells #[.int .i64 (([] : List (Int × Int)).length : Int)] 3 (0, 0)) := (hVb.block f (by omega)).trans V0.out
  have vr : V.ownsRow (f + 1) 3 1 (.slice (some ⟨f + 1, 0, none⟩) n n) n (flatI (L.tms v [] [] n)) := owns_below V1.out hVb
  have vc : V.cell? ⟨f + 1 + 1, 0, none⟩ = some (.slice (some ⟨f + 1, 0, none⟩) n n) := (hVb.cell (p := ⟨f + 1 + 1, 0, none⟩) (by show f + 1 + 1 < _; omega)).trans V2.out
  have vp := (hVb.block p lp4).trans VP.out
  have hBV : Below W0.heap.size W0 V := HB4.out.trans (hVb.mono (by omega))
  have HBV := hide hBV
  have HLen := hide (L.tcents_length HV.out 0)
  have VP' := hide vp
  have VC := hide vc
  clear cp0 cp1 cp2 cp3 cp4 cp5 cp6 vp vc hBV
  refine wp_rangeP (gf := 71) (lb := #[.pointer (some ⟨W4.heap.size, 0, none⟩), .pointer (some ⟨W4.heap.size + 1 + 1, 0, none⟩)]) rfl (enters_of Try.func71 (by kernel_rfl) rfl)
    (trueCentres_seq v A n c 0 W4.heap.size (W4.heap.size + 1) (W4.heap.size + 1 + 1) W0.heap.size (fun x => x < V.heap.size ∧ x ≠ f ∧ x ≠ f + 1) V HV.out HN.out HBV.out.size (HR0.out.below HBV.out) (fun x hx => ⟨by omega, by omega, by omega⟩) (fun x hx => hx.1) (by omega) (by omega) ⟨by omega, by omega, by omega⟩ ⟨by omega, by omega, by omega⟩ ⟨by omega, by omega, by omega⟩ hV0 hV1 hV2 hV3 hV4) (Below.refl _ _) (fun x hx => hx.1) (fun _ => rfl)
    (fun pre X => Keeps (fun x => x ≠ f ∧ x ≠ f + 1) V X ∧ X.heap[f]? = some (.cells #[.int .i64 (pre.length : Int)] 3 (0, 0)) ∧ X.ownsRow (f + 1) 3 1 (.slice (some ⟨f + 1, 0, none⟩) n n) n (flatI (L.tms v pre [] n)))
    (fun _ _ _ => False)
    (OwnFrom.and (keeps_own (Nat.le_refl _)) (OwnFrom.and (own_block (by omega) _) (own_rowI (by omega) _)))
    (fun _ _ _ _ _ hs _ _ => hs)
    ⟨Keeps.refl _ _, vf, vr⟩ ?a1 ?assign ?body ?done ?stop
  case assign =>
    intro l2 x X K hK
    simp only [encP]
    gi_wp2
    exact hK
  case body =>
    rintro l2 pre x X ⟨hK, hF, hT⟩ hpre
    have hmem := hpre.subset (List.mem_append_right _ (List.mem_singleton.2 rfl))
    obtain ⟨hx0, hx1, hy0, hy1⟩ := L.mem_cents (List.mem_filter.1 hmem).1
    have zs := HV.out.s1
    have z3 := hK.rest.size
    have hlen : pre.length < 1681 := by have := hpre.length_le; rw [List.length_append, List.length_singleton] at this; have := HLen.out; omega
    have lpX : p < X.heap.size := by omega
    have lfX : f < X.heap.size := by omega
    have lcX : f + 1 + 1 < X.heap.size := by omega
    obtain ⟨x1, x2⟩ := x
    dsimp only at hx0 hx1 hy0 hy1
    have hx1' : x1 ≤ 40 := by omega
    have hy1' : x2 ≤ 40 := by omega
    have bp := (hK.same p (show p ≠ f ∧ p ≠ f + 1 by omega) (by omega)).trans VP'.out
    have cp0 := (blk_cell bp 0).trans rfl; have cp1 := (blk_cell bp 1).trans rfl; have cp2 := (blk_cell bp 2).trans rfl; have cp3 := (blk_cell bp 3).trans rfl; have cp4 := (blk_cell bp 4).trans rfl; have cp5 := (blk_cell bp 5).trans rfl; have cp6 := (blk_cell bp 6).trans rfl
    have cc : X.cell? ⟨f + 1 + 1, 0, none⟩ = some (.slice (some ⟨f + 1, 0, none⟩) n n) := (hK.cell (show f + 1 + 1 ≠ f ∧ f + 1 + 1 ≠ f + 1 by omega) (by omega)).trans VC.out
    have HRX := hide ((HR0.out.below HBV.out).below (hK.below (n := W0.heap.size) (fun y hy => by show y ≠ f ∧ y ≠ f + 1; omega) (by omega)))
    obtain ⟨mm, hmm⟩ : ∃ mm : Int, (pre.length : Int) = mm := ⟨_, rfl⟩
    rw [hmm] at hF
    have mb0 : 0 ≤ mm := by omega
    have mb1 : mm ≤ 1681 := by omega
    have HPL := hide (show pre.length ≤ 1681 by omega)
    have EM := hide (show ((pre ++ [(x1, x2)]).length : Int) = mm + 1 by rw [List.length_append, ← hmm]; simp)
    have cf0 := (blk_cell hF 0).trans rfl
    have ff0 := blk_frozen hF 0
    have HF := hide hF
    have HK := hide hK
    have HT := hide hT
    obtain ⟨l, hl⟩ : ∃ l, L.wrongL v x1 x2 = l := ⟨_, rfl⟩
    have hl8 : l.length ≤ 8 := by rw [← hl, L.wrongL_length]; have := L.many_le v.ss x1 x2 0; have := HN.out; omega
    have HL := hide hl
    have HMem := hide (show ∀ z ∈ l, ∃ j : Nat, z = (j : Int) ∧ j < n from fun z hz => by
      rw [← hl] at hz
      obtain ⟨j, h1, _, h2⟩ := L.wrongFrom_mem hz
      exact ⟨j, h1, by have := HN.out; omega⟩)
    have HNd := hide (show l.Nodup by rw [← hl]; exact L.wrongFrom_nodup x1 x2 v.ss 0)
    clear bp hF hK hT hpre hmem hl hmm hlen hx1 hy1
    gi_wp2_with (refine ⟨trivial, ?_⟩; gi_at_call 60; refine (CallsIn.inRound l2 (callsIn_wide.2 (wrongAbout_any v A n c x1 x2 _ HN.out ((HRX.out.below (zbS (zbR _ _) (show W0.heap.size ≤ f by omega) _)).mono (by simp; omega)) HV.out.ok (by omega) hx0 hx1' hy0 hy1'))).mono ?_; rintro e w3 ⟨sv, c3, rfl, hown, hb3⟩; rw [HL.out] at hown ⊢; have HO3 := hide hown; clear hown)
    have hsz : (X.setCell ⟨f, 0, none⟩ (.int .i64 (mm + 1))).heap.size = X.heap.size := by simp
    have q3 := hb3.size
    rw [hsz] at q3
    have hF3 : w3.heap[f]? = some (.cells #[.int .i64 (mm + 1)] 3 (0, 0)) := (hb3.block f (by rw [hsz]; omega)).trans (blk_set HF.out 0 _)
    have hT3 : w3.ownsRow (f + 1) 3 1 (.slice (some ⟨f + 1, 0, none⟩) n n) n (flatI (L.tms v pre [] n)) := owns_below (ownsRow_setCell_below HT.out (show f < f + 1 by omega) _) hb3
    have cc3 : w3.cell? ⟨f + 1 + 1, 0, none⟩ = some (.slice (some ⟨f + 1, 0, none⟩) n n) := (hb3.cell (p := ⟨f + 1 + 1, 0, none⟩) (by rw [hsz]; exact lcX)).trans ((zsO _ _ _ _ (by simp)).trans cc)
    have lc3 : f + 1 + 1 < w3.heap.size := by omega
    have lf3 : f < w3.heap.size := by omega
    have hKw : ∀ S : Nat → Prop, ¬ S f → Keeps S X w3 := fun S hS => (Keeps.setAt X ⟨f, 0, none⟩ _ hS).trans (Keeps.of_below hb3)
    have HF3 := hide hF3
    have HT3 := hide hT3
    have CC3 := hide cc3
    have HKW := hide hKw
    have HO3' := hide (owns_mono HO3.out (show f + 1 + 1 ≤ _ by rw [hsz]; omega))
    clear cp0 cp1 cp2 cp3 cp4 cp5 cp6 cc cf0 ff0 hF3 hT3 cc3 hKw hb3 HO3 hsz
    gi_loopw [34] (fun t wr => ∃ j : Nat, j ≤ l.length ∧ t = .int .i64 j ∧ Hid (wr.ownsRow (f + 1) 3 1 (.slice (some ⟨f + 1, 0, none⟩) n n) n (flatI (L.tms v pre (l.take j) n))) ∧ Keeps (fun y => y ≠ f + 1) w3 wr) (fun t _ => l.length - (intOf t).toNat)
    case atStart => exact ⟨0, by omega, rfl, HT3, Keeps.refl _ _⟩
    case round =>
      obtain ⟨j, hj, rfl, hTj, hKj⟩ := hrel
      have ccj := (hKj.cell (show f + 1 + 1 ≠ f + 1 by omega) lc3).trans CC3.out
      have zj := hKj.rest.size
      have lcj : f + 1 + 1 < wr.heap.size := by omega
      by_cases hlt : j < l.length
      · obtain ⟨z, hz⟩ : ∃ z, l[j]? = some z := ⟨_, List.getElem?_eq_getElem hlt⟩
        obtain ⟨ci, rfl, hci⟩ := HMem.out z (List.mem_of_getElem? hz)
        obtain ⟨g, cap, e, hbg, hgl⟩ := HO3'.out.form (by omega)
        have e' : sv = some ⟨g, 0, none⟩ ∧ c3 = cap := by
          simp only [Value.slice.injEq] at e
          exact ⟨e.1, e.2.2⟩
        obtain ⟨rfl, rfl⟩ := e'
        have hnt := L.nodup_take HNd.out hz
        have lz := (hKj.cell (o := j) (show g ≠ f + 1 by omega) hgl).trans ((HO3'.out.cellAt j (by omega)).trans (flatI_at hz))
        have rz := (hTj.out.cellAt ci (by omega)).trans (flatI_at (L.tms_at hci))
        rw [if_neg hnt, Int.add_zero] at rz
        have fz := hTj.out.frozenAt ci
        have lrow := (hTj.out.lt (f + 1) rfl).2
        have hgj : g < wr.heap.size := by omega
        have cb0 : (0 : Int) ≤ (L.cnt v pre ci : Int) := by omega
        have cb1 : (L.cnt v pre ci : Int) ≤ 1681 := by have := L.cnt_le v pre ci; have := HPL.out; omega
        have hj0 : (0 : Int) ≤ (j : Int) := by omega
        have hlt' : (j : Int) < (l.length : Int) := by omega
        have hci0 : (0 : Int) ≤ (ci : Int) := by omega
        have hci1 : (ci : Int) < (n : Int) := by omega
        have HTK := hide (show l.take (j + 1) = l.take j ++ [(ci : Int)] by rw [List.take_add_one, hz]; rfl)
        have HNT := hide hnt
        have HCI := hide hci
        clear e hz hnt hci
        gi_wp2
        go_roundw
        case rel =>
          refine ⟨j + 1, by omega, by go_num, hide ?_, ?_⟩
          · rw [HTK.out, ← L.tms_set HCI.out HNT.out, ← flatI_set]
            exact (hTj.out.stored ci _).1
          · exact hKj.st (fun h => h rfl)
        case measure => simp [intOf]; omega
      · have hjn : j = l.length := by omega
        subst hjn
        gi_wp2
        refine ⟨?_, ?_, ?_, ?_⟩
        · exact (HKW.out _ (fun h => by rcases h with ⟨_, h, _⟩ | h <;> omega)).trans (hKj.less (fun k h => by rcases h with ⟨_, _, h⟩ | h <;> omega))
        · exact HK.out.trans ((HKW.out _ (fun h => h.1 rfl)).trans (hKj.less (fun k h => h.2)))
        · rw [EM.out]; exact (hKj.same f (show f ≠ f + 1 by omega) lf3).trans HF3.out
        · have := hTj.out
          rw [List.take_of_length_le (Nat.le_refl _), ← HL.out] at this
          rw [← L.tms_all v pre (x1, x2)]
          exact this
  case done =>
    rintro D X hD ⟨hK, hF, hT⟩ hdef
    have z3 := hK.rest.size
    have hbX : Below p V X := hK.below (n := p) (fun y hy => by show y ≠ f ∧ y ≠ f + 1; omega) (by omega)
    have hcX : X.cell? ⟨f + 1 + 1, 0, none⟩ = some (.slice (some ⟨f + 1, 0, none⟩) n n) := (hK.cell (show f + 1 + 1 ≠ f ∧ f + 1 + 1 ≠ f + 1 by omega) (by omega)).trans VC.out
    have cf0 := (blk_cell hF 0).trans rfl
    have lfX : f < X.heap.size := by omega
    have lcX : f + 1 + 1 < X.heap.size := by omega
    have h1 := GB.out
    have h2 := HBV.out
    have HBX := hide (show Below w.heap.size w X by
      rw [hp] at h1 ⊢
      exact (h1.trans (h2.mono (by omega))).trans hbX)
    have lD := (Array.getElem?_eq_some_iff.1 hdef).1
    have hD0 : w.heap.size ≤ D := by omega
    clear h1 h2 hK hbX vs hVs hVW hV0 hV1 hV2 hV3 hV4
    by_cases hT0 : L.tcents v 0 = []
    · have E1 := hide (show L.blmL v = [] by unfold L.blmL; rw [if_pos H.out, if_pos hT0])
      have E2 := hide (show L.blmE v = 3 by unfold L.blmE; rw [if_pos H.out, if_pos hT0])
      rw [hT0] at cf0
      simp only [List.length_nil] at cf0
      clear hF hT hT0
      go_wp2
      refine ⟨by simp, .inl ⟨_, _, rfl, run_takeDeferred hdef, ?_⟩⟩
      refine ⟨_, results_tmp2 rfl _ _ _, none, 0, ?_, ?_, below_turn' HBX.out hD0 HBX.out.size⟩
      · rw [E1.out, E2.out]; rfl
      · rw [E1.out]; exact World.ownsRow_nil _ _ _ _
    · have E1 := hide (show L.blmL v = L.blmFrom v n by unfold L.blmL; rw [if_pos H.out, if_neg hT0, HN.out])
      have E2 := hide (show L.blmE v = 0 by unfold L.blmE; rw [if_pos H.out, if_neg hT0])
      have hpos : 0 < (L.tcents v 0).length := List.length_pos_iff.2 hT0
      obtain ⟨mm, hmm⟩ : ∃ mm : Int, ((L.tcents v 0).length : Int) = mm := ⟨_, rfl⟩
      rw [hmm] at cf0
      have m1 : (mm == 0) = false := by simp; omega
      have HMM := hide hmm
      have HT := hide hT
      have mb1 : mm ≤ 1681 := by have := HLen.out; omega
      clear hF hT hT0 hpos hmm
      go_wp2
      go_loopw [11, 49] (fun al t wr => ∃ k : Nat, k ≤ n ∧ t = .int .i64 k ∧ (∃ sv c', al = .slice sv (L.blmFrom v k).length c' ∧ Hid (wr.ownsRow X.heap.size 3 1 (.slice sv (L.blmFrom v k).length c') (L.blmFrom v k).length (flatI (L.blmFrom v k)))) ∧ Below X.heap.size X wr) (fun _ t _ => n - (intOf t).toNat)
      case atStart => exact ⟨0, by omega, rfl, ⟨none, 0, rfl, hide (World.ownsRow_nil _ _ _ _)⟩, Below.refl _ _⟩
      case round =>
        obtain ⟨k, hk, rfl, ⟨sv, c', rfl, hown⟩, hB⟩ := hrel
        have qB := hB.size
        have cfr := (hB.cell (p := ⟨f, 0, none⟩) lfX).trans cf0
        have lfr : f < wr.heap.size := by omega
        have hle := L.blmFrom_le v k
        by_cases hlt : k < n
        · have tz := (hB.cell (p := ⟨f + 1, k, none⟩) (show f + 1 < X.heap.size by omega)).trans ((HT.out.cellAt k (by omega)).trans (flatI_at (L.tms_at hlt)))
          rw [if_neg (by simp), Int.add_zero] at tz
          have lrow : f + 1 < wr.heap.size := by omega
          have hk0 : (0 : Int) ≤ (k : Int) := by omega
          have hlt' : (k : Int) < (n : Int) := by omega
          have HNX := hide (L.blmFrom_next v k)
          by_cases hc : L.cnt v (L.tcents v 0) k = (L.tcents v 0).length
          · have hcm : ((L.cnt v (L.tcents v 0) k : Int)) = mm := by have := HMM.out; omega
            rw [hcm] at tz
            have HE := hide (show L.blmFrom v (k + 1) = L.blmFrom v k ++ [(k : Int)] by rw [HNX.out, if_pos hc])
            have HL := hide (show (L.blmFrom v (k + 1)).length = (L.blmFrom v k).length + 1 by rw [HE.out, List.length_append]; rfl)
            clear hc hcm
            go_wp2_with (refine wpList_app_at rfl (.tmp 57) (.tmp 59) rfl X.heap.size _ (L.blmFrom v k) _ rfl (hown.out.alloc _) (some ⟨wr.heap.size, 0, none⟩) 1 1 [(k : Int)] rfl rfl (rdI_one (World.alloc_heap_new _ _)) (fun e => by cases e) (by omega) (by omega) (by simp; omega) ?_; intro A2 c2 w5 hown2 hgrow; have hg5 := grown_below (B := X.heap.size) hgrow (by simp; omega) (fun g hg => (hown.out.lt g hg).1); have HO2 := hide hown2; clear hown2 hgrow)
            go_roundw
            case rel => exact ⟨k + 1, by omega, by go_num, ⟨A2, c2, by rw [HL.out], hide (by rw [HL.out, HE.out]; exact HO2.out)⟩, (hB.trans ((Below.refl _ wr).alloc qB _)).trans hg5⟩
            case measure => simp [intOf]; omega
          · have hcm : ((L.cnt v (L.tcents v 0) k : Int) == mm) = false := by have := HMM.out; simp only [beq_eq_false_iff_ne, ne_eq]; omega
            have HE := hide (show L.blmFrom v (k + 1) = L.blmFrom v k by rw [HNX.out, if_neg hc, List.append_nil])
            clear hc
            go_wp2_with fail
            go_roundw
            case rel => exact ⟨k + 1, by omega, by go_num, ⟨sv, c', by rw [HE.out], hide (by rw [HE.out]; exact hown.out)⟩, hB⟩
            case measure => simp [intOf]; omega
        · have hkn : k = n := by omega
          subst hkn
          go_wp2_with fail
          have hdr : wr.heap[D]? = some (.deferred (some [])) := (hB.block D lD).trans hdef
          refine ⟨by simp, .inl ⟨_, _, rfl, run_takeDeferred hdr, ?_⟩⟩
          refine ⟨_, results_tmp2 rfl _ _ _, sv, c', ?_, ?_, ?_⟩
          · rw [E1.out, E2.out]; rfl
          · rw [E1.out]; exact ownsRow_putObj (owns_mono hown.out HBX.out.size) _ hdr rfl
          · exact below_turn' (HBX.out.trans (hB.mono HBX.out.size)) hD0 (by have := HBX.out.size; omega)
  case stop =>
    rintro D cd pre X _ _ h _
    exact h.elim

theorem Blame_any (v : L.Vw) (A : Option Addr) (n c : Nat) (w : World) (hn : v.ss.length = n) (hr : RdS w w.heap.size A v.ss) :
    Calls Try.prog 30 #[.agg #[.int .i64 v.size, .slice A n c, .int .i64 v.wrong, .int .i64 v.hxl, .int .i64 v.hxh, .int .i64 v.hyl, .int .i64 v.hyh]] w fun e w' => BlmPost v w e w' := by
  rcases L.checkE_cases v with h | h
  · exact Blame_yes v A n c w hn hr h
  · have HN := hide hn
    have HR := hide hr
    have H := hide h
    have E1 := hide (show L.blmL v = [] by unfold L.blmL; rw [if_neg (by omega)])
    have E2 := hide (show L.blmE v = 20 by unfold L.blmE; rw [if_neg (by omega)]; exact h)
    clear hn hr h
    refine calls_marks Try.func30 rfl ?_
    simp only [Try.ntmps30, List.size_toArray, List.length_cons, List.length_nil, Nat.reduceAdd, Nat.reduceSub, Array.replicate_succ, Array.replicate_zero, List.push_toArray, List.append_toArray, List.nil_append, List.cons_append]
    go_wp2_with (go_at_call 35; refine (Check_any v A n c _ HN.out ((HR.out.below (by (repeat' first | exact zbR _ _ | assumption | refine zbD ?_ | refine zbA ?_ ?_ _ | refine zbS ?_ ?_ _ | refine zbT ?_ (by assumption) ?_ | (simp; done) | (simp; omega) | omega))).mono (by first | (simp; done) | (simp; omega) | omega))).mono ?_; rintro e w2 ⟨rfl, hb2⟩; rw [H.out])
    refine ⟨_, results_tmp2 rfl _ _ _, none, 0, ?_, ?_, by (repeat' first | exact zbR _ _ | assumption | refine zbD ?_ | refine zbA ?_ ?_ _ | refine zbS ?_ ?_ _ | refine zbT ?_ (by assumption) ?_ | (simp; done) | (simp; omega) | omega)⟩
    · rw [E1.out, E2.out]; rfl
    · rw [E1.out]; exact World.ownsRow_nil _ _ _ _

end Go.Proofs.Ytgnobonhohfofaa

namespace Go.Proofs.Ytgnobonhohfofaa
namespace L

theorem fewF_le (v : Vw) : ∀ (l : List (Int × Int)) (n : Int), l.foldl (fun n c => min n ((wrongL v c.1 c.2).length : Int)) n ≤ n ∧ ∀ c ∈ l, l.foldl (fun n c => min n ((wrongL v c.1 c.2).length : Int)) n ≤ ((wrongL v c.1 c.2).length : Int)
  | [], n => ⟨Int.le_refl _, fun c h => by cases h⟩
  | a :: r, n => by
    obtain ⟨h1, h2⟩ := fewF_le v r (min n ((wrongL v a.1 a.2).length : Int))
    simp only [List.foldl_cons]
    refine ⟨by omega, fun c hc => ?_⟩
    rcases List.mem_cons.1 hc with rfl | hc
    · omega
    · exact h2 c hc
theorem fewF_att (v : Vw) : ∀ (l : List (Int × Int)) (n : Int), l.foldl (fun n c => min n ((wrongL v c.1 c.2).length : Int)) n = n ∨ ∃ c ∈ l, l.foldl (fun n c => min n ((wrongL v c.1 c.2).length : Int)) n = ((wrongL v c.1 c.2).length : Int)
  | [], n => .inl rfl
  | a :: r, n => by
    simp only [List.foldl_cons]
    rcases fewF_att v r (min n ((wrongL v a.1 a.2).length : Int)) with h | ⟨c, hc, h⟩
    · rcases Int.le_total n ((wrongL v a.1 a.2).length : Int) with hl | hl
      · exact .inl (by rw [h]; omega)
      · exact .inr ⟨a, by simp, by rw [h]; omega⟩
    · exact .inr ⟨c, by simp [hc], h⟩
theorem few_iff {v : Vw} (hv : VwOk v) : tcents v 0 ≠ [] ↔ fewest v ≤ v.wrong := by
  constructor
  · intro h
    obtain ⟨c, hc⟩ := List.exists_mem_of_ne_nil _ h
    unfold tcents at hc
    rw [List.mem_filter, okAt_zero, decide_eq_true_eq] at hc
    have := (fewF_le v (cents v.size.toNat) (v.ss.length : Int)).2 c hc.1
    unfold fewest
    omega
  · intro h
    have h0 : ((0 : Int), (0 : Int)) ∈ cents v.size.toNat := cents_mem (Int.le_refl _) (by omega) (Int.le_refl _) (by omega)
    obtain ⟨c, hc, hw⟩ : ∃ c ∈ cents v.size.toNat, ((wrongL v c.1 c.2).length : Int) ≤ v.wrong := by
      rcases fewF_att v (cents v.size.toNat) (v.ss.length : Int) with h1 | ⟨c, hc, h1⟩
      · refine ⟨_, h0, ?_⟩
        have := many_le v.ss 0 0 0
        have h2 := wrongL_length v 0 0
        unfold fewest at h
        dsimp only
        omega
      · exact ⟨c, hc, by unfold fewest at h; omega⟩
    intro he
    have : c ∈ tcents v 0 := by
      unfold tcents
      rw [List.mem_filter, okAt_zero, decide_eq_true_eq]
      exact ⟨hc, hw⟩
    rw [he] at this
    cases this
theorem spanOf_mem (f : Int × Int → Int) : ∀ (l : List (Int × Int)) (s : Int × Int), ((l.foldl (fun s d => (min s.1 (f d), max s.2 (f d))) s).1 ≤ s.1 ∧ s.2 ≤ (l.foldl (fun s d => (min s.1 (f d), max s.2 (f d))) s).2) ∧ ∀ c ∈ l, (l.foldl (fun s d => (min s.1 (f d), max s.2 (f d))) s).1 ≤ f c ∧ f c ≤ (l.foldl (fun s d => (min s.1 (f d), max s.2 (f d))) s).2
  | [], s => ⟨⟨Int.le_refl _, Int.le_refl _⟩, fun c h => by cases h⟩
  | a :: r, s => by
    obtain ⟨⟨h1, h2⟩, h3⟩ := spanOf_mem f r (min s.1 (f a), max s.2 (f a))
    simp only [List.foldl_cons]
    dsimp only at h1 h2
    refine ⟨⟨by omega, by omega⟩, fun c hc => ?_⟩
    rcases List.mem_cons.1 hc with rfl | hc
    · exact ⟨by omega, by omega⟩
    · exact h3 c hc
theorem spanOf_in {f : Int × Int → Int} {l : List (Int × Int)} {c : Int × Int} (hc : c ∈ l) : (spanOf f l).1 ≤ f c ∧ f c ≤ (spanOf f l).2 := by
  cases l with
  | nil => cases hc
  | cons a r =>
    unfold spanOf
    obtain ⟨⟨h1, h2⟩, h3⟩ := spanOf_mem f r (f a, f a)
    dsimp only at h1 h2
    rcases List.mem_cons.1 hc with rfl | hc
    · exact ⟨h1, h2⟩
    · exact h3 c hc
theorem cnt_all {v : Vw} {l : List (Int × Int)} {i : Nat} (h : cnt v l i = l.length) {c : Int × Int} (hc : c ∈ l) : (i : Int) ∈ wrongL v c.1 c.2 := by
  unfold cnt at h
  have := List.length_filter_eq_length_iff.1 h c hc
  simpa using this
theorem blmFrom_all {v : Vw} {n : Nat} {z : Int} (h : z ∈ blmFrom v n) {c : Int × Int} (hc : c ∈ tcents v 0) : z ∈ wrongL v c.1 c.2 := by
  unfold blmFrom at h
  obtain ⟨i, hi, rfl⟩ := List.mem_map.1 h
  rw [List.mem_filter, decide_eq_true_eq] at hi
  exact cnt_all hi.2 hc

structure BlmNo (v : Vw) (m : Mk) : Prop where
  few : v.wrong < fewV v
  fe : fewE v = 0
  ce : cenE v = 3
  be : blmE v = 3
  bl : blmL v = []
  tr : truthB v m = false
structure BlmYes (v : Vw) (m : Mk) : Prop where
  few : fewV v ≤ v.wrong
  fe : fewE v = 0
  ce : cenE v = 0
  be : blmE v = 0
  bn : (blmL v).length ≤ v.ss.length
  t : truthB v m = true → wrgE v m = 0 ∧ 1 ≤ cenN v ∧ fewV v ≤ ((wrgL v m).length : Int) ∧ (cenX v).1 ≤ m.x ∧ m.x ≤ (cenX v).2 ∧ (cenY v).1 ≤ m.y ∧ m.y ≤ (cenY v).2 ∧ ∀ z ∈ blmL v, z ∈ wrgL v m
theorem blm_cases {v : Vw} (hv : viewB v = true) (m : Mk) : BlmNo v m ∨ BlmYes v m := by
  have hk := viewB_ok hv
  have hc := check_t hv
  have hf : fewV v = fewest v := by unfold fewV; rw [if_pos hc]
  by_cases ht : tcents v 0 = []
  · refine .inl ⟨?_, hc, by unfold cenE; rw [if_pos hc, if_pos ht], by unfold blmE; rw [if_pos hc, if_pos ht], by unfold blmL; rw [if_pos hc, if_pos ht], ?_⟩
    · rw [hf]
      have : ¬ fewest v ≤ v.wrong := fun h => (few_iff hk).2 h ht
      omega
    · cases hb : truthB v m
      · rfl
      · have := (truth_mem hk hb).1
        rw [ht] at this
        cases this
  · have hb : blmL v = blmFrom v v.ss.length := by unfold blmL; rw [if_pos hc, if_neg ht]
    refine .inr ⟨by rw [hf]; exact (few_iff hk).1 ht, hc, by unfold cenE; rw [if_pos hc, if_neg ht], by unfold blmE; rw [if_pos hc, if_neg ht], by rw [hb]; exact blmFrom_le _ _, fun htr => ?_⟩
    have hm := (truth_mem hk htr).1
    have hmk : isMarkB v m = true := by unfold truthB at htr; rw [Bool.and_eq_true] at htr; exact htr.1
    have hw : wrgL v m = wrongL v m.x m.y := by unfold wrgL; rw [hv, hmk]; rfl
    have hX : cenX v = spanOf (·.1) (tcents v 0) := by unfold cenX; rw [if_pos hc]
    have hY : cenY v = spanOf (·.2) (tcents v 0) := by unfold cenY; rw [if_pos hc]
    have hN : cenN v = ((tcents v 0).length : Int) := by unfold cenN; rw [if_pos hc]
    have sx := spanOf_in (f := (·.1)) hm
    have sy := spanOf_in (f := (·.2)) hm
    have hpos : 0 < (tcents v 0).length := List.length_pos_iff.2 ht
    refine ⟨by unfold wrgE; rw [hv, hmk]; rfl, by rw [hN]; omega, ?_, by rw [hX]; exact sx.1, by rw [hX]; exact sx.2, by rw [hY]; exact sy.1, by rw [hY]; exact sy.2, fun z hz => ?_⟩
    · rw [hf, hw]
      unfold tcents at hm
      exact (fewF_le v (cents v.size.toNat) (v.ss.length : Int)).2 _ (List.mem_filter.1 hm).1
    · rw [hb] at hz
      rw [hw]
      exact blmFrom_all hz hm
end L
end Go.Proofs.Ytgnobonhohfofaa

namespace Go.Proofs.Ytgnobonhohfofaa
open Go.RowKit
attribute [local go_sem ↓] Go.wp_at_zero Go.wp_at_succ

def RdM (w : World) (B : Nat) (A : Option Addr) (ss : List L.Mk) : Prop :=
  ∀ (k : Nat) (s : L.Mk), ss[k]? = some s → ∃ b o : Nat, A = some ⟨b, o, none⟩ ∧ b < B ∧ w.cell? ⟨b, o + k * 4, none⟩ = some (.int .i64 s.x) ∧ w.cell? ⟨b, o + k * 4 + 1, none⟩ = some (.int .i64 s.y) ∧ w.cell? ⟨b, o + k * 4 + 1 + 1, none⟩ = some (.int .i64 s.hx) ∧ w.cell? ⟨b, o + k * 4 + 1 + 1 + 1, none⟩ = some (.int .i64 s.hy)
theorem RdM.nil (w : World) (B : Nat) (A : Option Addr) : RdM w B A [] := fun k s h => by simp at h
theorem RdM.below {w w' : World} {B : Nat} {A : Option Addr} {ss : List L.Mk} (h : RdM w B A ss) (hb : Below B w w') : RdM w' B A ss := fun k s hk => by
  obtain ⟨b, o, hA, hlt, h0, h1, h2, h3⟩ := h k s hk
  exact ⟨b, o, hA, hlt, (hb.cell (p := ⟨b, _, none⟩) hlt).trans h0, (hb.cell (p := ⟨b, _, none⟩) hlt).trans h1, (hb.cell (p := ⟨b, _, none⟩) hlt).trans h2, (hb.cell (p := ⟨b, _, none⟩) hlt).trans h3⟩
theorem RdM.mono {w : World} {B B' : Nat} {A : Option Addr} {ss : List L.Mk} (h : RdM w B A ss) (hb : B ≤ B') : RdM w B' A ss := fun k s hk => by
  obtain ⟨b, o, hA, hlt, h0⟩ := h k s hk
  exact ⟨b, o, hA, Nat.lt_of_lt_of_le hlt hb, h0⟩
theorem RdM.take {w : World} {B : Nat} {A : Option Addr} {ss : List L.Mk} (h : RdM w B A ss) (n : Nat) : RdM w B A (ss.take n) := fun k s hk => h k s (by
  rcases Nat.lt_or_ge k n with hl | hl
  · rwa [List.getElem?_take_of_lt hl] at hk
  · rw [List.getElem?_eq_none (by rw [List.length_take]; omega)] at hk; cases hk)

def flatM (ss : List L.Mk) : List Value := ss.flatMap fun s => [.int .i64 s.x, .int .i64 s.y, .int .i64 s.hx, .int .i64 s.hy]
theorem flatM_length : ∀ ss : List L.Mk, (flatM ss).length = ss.length * 4
  | [] => rfl
  | s :: r => by
    have := flatM_length r
    simp only [flatM, List.flatMap_cons, List.length_append, List.length_cons, List.length_nil] at this ⊢
    omega
theorem flatM_at : ∀ {ss : List L.Mk} {k : Nat} {s : L.Mk}, ss[k]? = some s → (flatM ss)[k * 4]? = some (.int .i64 s.x) ∧ (flatM ss)[k * 4 + 1]? = some (.int .i64 s.y) ∧ (flatM ss)[k * 4 + 2]? = some (.int .i64 s.hx) ∧ (flatM ss)[k * 4 + 3]? = some (.int .i64 s.hy)
  | [], k, s, h => by simp at h
  | a :: r, 0, s, h => by
    have h' : a = s := Option.some.inj h
    subst h'
    exact ⟨rfl, rfl, rfl, rfl⟩
  | a :: r, k + 1, s, h => by
    have ih := flatM_at (ss := r) (k := k) (s := s) h
    have e : (k + 1) * 4 = k * 4 + 4 := by omega
    rw [e]
    exact ih
theorem flatM_one (ss : List L.Mk) : ∀ u ∈ flatM ss, u.oneCell' = true := by
  intro u hu
  simp only [flatM, List.mem_flatMap, List.mem_cons, List.not_mem_nil, or_false] at hu
  obtain ⟨s, _, rfl | rfl | rfl | rfl⟩ := hu <;> rfl
theorem flatM_app (a b : List L.Mk) : flatM (a ++ b) = flatM a ++ flatM b := by unfold flatM; simp
theorem flatM_cells {w : World} {B : Nat} {a : Addr} {ss : List L.Mk} (h : RdM w B (some a) ss) : ∀ j u, (flatM ss)[j]? = some u → w.cell? (a.add j) = some u := by
  intro j u hj
  have hl : j < ss.length * 4 := by rw [← flatM_length]; exact (List.getElem?_eq_some_iff.1 hj).1
  obtain ⟨s, hs⟩ : ∃ s, ss[j / 4]? = some s := ⟨_, List.getElem?_eq_getElem (by omega)⟩
  obtain ⟨b, o, e, _, c0, c1, c2, c3⟩ := h (j / 4) s hs
  injection e with e
  subst e
  obtain ⟨h0, h1, h2, h3⟩ := flatM_at hs
  rw [add_plain]
  obtain hm | hm | hm | hm : j % 4 = 0 ∨ j % 4 = 1 ∨ j % 4 = 2 ∨ j % 4 = 3 := by omega
  · have e : j / 4 * 4 = j := by omega
    rw [e] at h0 c0
    rw [hj] at h0
    rw [c0]; exact h0.symm
  · have e : j / 4 * 4 + 1 = j := by omega
    rw [e] at h1
    rw [Nat.add_assoc, e] at c1
    rw [hj] at h1
    rw [c1]; exact h1.symm
  · have e : j / 4 * 4 + 2 = j := by omega
    rw [e] at h2
    rw [Nat.add_assoc, Nat.add_assoc, e] at c2
    rw [hj] at h2
    rw [c2]; exact h2.symm
  · have e : j / 4 * 4 + 3 = j := by omega
    rw [e] at h3
    rw [Nat.add_assoc, Nat.add_assoc, Nat.add_assoc, e] at c3
    rw [hj] at h3
    rw [c3]; exact h3.symm
theorem owns_RdM {w : World} {base : Nat} {A : Option Addr} {n c : Nat} {ss : List L.Mk} (h : w.ownsRow base 30 4 (.slice A n c) n (flatM ss)) (hn : ss.length = n) : RdM w w.heap.size A ss := by
  intro k s hk
  have hkl : k < n := by rw [← hn]; exact (List.getElem?_eq_some_iff.1 hk).1
  obtain ⟨g, cap, e, hbg, hh⟩ := h.form (by omega)
  have e' : A = some ⟨g, 0, none⟩ ∧ c = cap := by
    simp only [Value.slice.injEq] at e
    exact ⟨e.1, e.2.2⟩
  obtain ⟨rfl, rfl⟩ := e'
  obtain ⟨h0, h1, h2, h3⟩ := flatM_at hk
  refine ⟨g, 0, rfl, (h.lt g rfl).2, ?_, ?_, ?_, ?_⟩
  · rw [Nat.zero_add, h.cellAt (k * 4) (by omega)]; exact h0
  · rw [Nat.zero_add, h.cellAt (k * 4 + 1) (by omega)]; exact h1
  · rw [Nat.zero_add, h.cellAt (k * 4 + 1 + 1) (by omega)]; exact h2
  · rw [Nat.zero_add, h.cellAt (k * 4 + 1 + 1 + 1) (by omega)]; exact h3
theorem mark_info : (Try.prog.info? 30).map (fun i => (i.zero, i.size, i.bytes)) = some (some (.agg #[.int .i64 0, .int .i64 0, .int .i64 0, .int .i64 0]), 4, 32) := by kernel_rfl
theorem RdM.none {w : World} {B : Nat} {ss : List L.Mk} (h : RdM w B none ss) : ss = [] := by
  match ss, h with
  | [], _ => rfl
  | x :: r, h => obtain ⟨_, _, e, _⟩ := h 0 x rfl; cases e
theorem run_app_marks {w : World} (ty : TypeId) (base : Nat) (v : Value) (ps : List L.Mk) (m0 : Nat) (hown : w.ownsRow base 30 4 v m0 (flatM ps))
    (A : Option Addr) (n c : Nat) (ss : List L.Mk) (hn : ss.length = n) (hr : RdM w w.heap.size A ss) (hA : A = none → c = 0) (h0 : m0 ≤ 1000000) (h1 : n ≤ 1000) (hbase : base ≤ w.heap.size) :
    ∃ A' c' w', (Builtin.append_ #[93, 93] ty #[v, .slice A n c]).run Try.prog w = .ok (.slice A' (m0 + n) c') w' ∧ w'.ownsRow base 30 4 (.slice A' (m0 + n) c') (m0 + n) (flatM (ps ++ ss)) ∧ w.grownBy w' v.ownBlock := by
  obtain ⟨i, hi, hz0, hz1, hz2⟩ := info_parts mark_info
  rcases A with _ | ad
  · have hx0 : ss = [] := hr.none
    subst hx0
    have hn0 : n = 0 := by simpa using hn.symm
    subst hn0
    have hc0 := hA rfl
    subst hc0
    obtain ⟨A', c', rfl⟩ := own_form hown
    have hrun := run_append_owned_none (P := Try.prog) (w := w) base 93 ty 30 i 4 Try.underlying93 hi (.slice A' m0 c') m0 (flatM ps) hown
    exact ⟨A', c', w, hrun, by simpa using hown, World.grownBy.refl w _⟩
  · obtain ⟨v', w', hrun, h2, h3, _, _⟩ := run_append_own_at (P := Try.prog) w base 93 ty 30 i _ 4 32 Try.underlying93 hi hz0 hz1 hz2 (by rfl) (by decide) v m0 (flatM ps) hown ad n c (flatM ss) (by rw [flatM_length]; omega) (flatM_cells hr) (flatM_one ss) (by unfold maxLen; omega) (by omega) hbase
    obtain ⟨A', c', rfl⟩ := own_form h2
    exact ⟨A', c', w', hrun, by rw [flatM_app]; exact h2, h3⟩
theorem wpList_app_marks {w : World} {ops : Array Oper} {rest : List Oper} {o : Oper} {a : Act} {Q : Exit → Act → World → Prop} (hgd : o.guard = none) (s x : Operand)
    (ho : o.op = .call { callee := .builtin .append, args := #[s, x], argTypes := #[93, 93] }) (base : Nat) (v : Value) (ps : List L.Mk) (m0 : Nat) (hs : a.eval s = v) (hown : w.ownsRow base 30 4 v m0 (flatM ps))
    (A : Option Addr) (n c : Nat) (ss : List L.Mk) (hx : a.eval x = .slice A n c) (hn : ss.length = n) (hr : RdM w w.heap.size A ss) (hA : A = none → c = 0) (h0 : m0 ≤ 1000000) (h1 : n ≤ 1000) (hbase : base ≤ w.heap.size) (N : Nat) (hN : m0 + n = N)
    (h : ∀ A' c' w', w'.ownsRow base 30 4 (.slice A' N c') N (flatM (ps ++ ss)) → w.grownBy w' v.ownBlock → wpList Try.prog ops Q rest (a.put o.dst (.slice A' N c')) w') :
    wpList Try.prog ops Q (o :: rest) a w := by
  subst hN
  refine wpList_plain hgd fun K hK => ?_
  obtain ⟨A', c', w', hr', h2, h3⟩ := run_app_marks o.type base v ps m0 hown A n c ss hn hr hA h0 h1 hbase
  unfold Oper.wp execOp
  simp only [ho, resolve, invoke, builtin, Sem.run_bind, Sem.run_pure, Result.andThen_ok, List.map_toArray, List.map_cons, List.map_nil, hs, hx, hr']
  exact hK _ _ (h A' c' w' h2 h3)


theorem rdM_one {w : World} {q : Nat} {s : L.Mk} (hq : w.heap[q]? = some (.cells #[.int .i64 s.x, .int .i64 s.y, .int .i64 s.hx, .int .i64 s.hy] 30 (0, 0))) : RdM w w.heap.size (some ⟨q, 0, none⟩) [s] := by
  intro k y hk
  match k, hk with
  | 0, hk =>
    have hy : s = y := Option.some.inj hk
    subst hy
    exact ⟨_, 0, rfl, blk_lt hq, (blk_cell hq 0).trans rfl, (blk_cell hq 1).trans rfl, (blk_cell hq 2).trans rfl, (blk_cell hq 3).trans rfl⟩
  | k + 1, hk => cases hk

end Go.Proofs.Ytgnobonhohfofaa

namespace Go.Proofs.Ytgnobonhohfofaa
open Go.RowKit
attribute [local go_sem ↓] Go.wp_at_zero Go.wp_at_succ

structure L.StPq (s : L.St) : Prop where
  p0 : -3 ≤ s.p
  p1 : s.p ≤ 3
  q0 : -3 ≤ s.q
  q1 : s.q ≤ 3
theorem L.StOk.pq {s : L.St} (h : L.StOk s) : L.StPq s := ⟨h.p0, h.p1, h.q0, h.q1⟩

set_option maxRecDepth 100000 in
set_option maxHeartbeats 3200000 in
theorem refWrong_pq (v : L.Vw) (A : Option Addr) (n c : Nat) (x y : Int) (w : World) (hn : v.ss.length = n) (hr : RdS w w.heap.size A v.ss) (ho : ∀ s ∈ v.ss, L.StPq s) (h8 : n ≤ 8) (hx0 : 0 ≤ x) (hx1 : x ≤ 40) (hy0 : 0 ≤ y) (hy1 : y ≤ 40) :
    Calls Try.prog 50 #[.agg #[.int .i64 v.size, .slice A n c, .int .i64 v.wrong, .int .i64 v.hxl, .int .i64 v.hxh, .int .i64 v.hyl, .int .i64 v.hyh], .int .i64 x, .int .i64 y] w fun e w' => ∃ sv c', e = .returned (.slice sv (L.wrongL v x y).length c') ∧ w'.ownsRow w.heap.size 3 1 (.slice sv (L.wrongL v x y).length c') (L.wrongL v x y).length (flatI (L.wrongL v x y)) ∧ Below w.heap.size w w' := by
  have HN := hide hn
  have HR := hide hr
  have HO := hide ho
  clear hn hr ho
  go_enter Try.func50, Try.ntmps50
  go_wp2
  go_loopw [7, 8] (fun m i wr => ∃ j : Nat, j ≤ n ∧ i = .int .i64 j ∧ (∃ sv c', m = .slice sv (L.wrongFrom x y 0 (v.ss.take j)).length c' ∧ Hid (wr.ownsRow (w.heap.size + 1) 3 1 (.slice sv (L.wrongFrom x y 0 (v.ss.take j)).length c') (L.wrongFrom x y 0 (v.ss.take j)).length (flatI (L.wrongFrom x y 0 (v.ss.take j))))) ∧ Below (w.heap.size + 1) (w.alloc (.cells #[.int .i64 v.size, .slice A n c, .int .i64 v.wrong, .int .i64 v.hxl, .int .i64 v.hxh, .int .i64 v.hyl, .int .i64 v.hyh] 26)) wr) (fun _ i _ => n - (intOf i).toNat)
  case atStart => exact ⟨0, by omega, rfl, ⟨none, 0, rfl, hide (World.ownsRow_nil _ _ _ _)⟩, by (repeat' first | exact zbR _ _ | assumption | refine zbD ?_ | refine zbA ?_ ?_ _ | refine zbS ?_ ?_ _ | refine zbT ?_ (by assumption) ?_ | (simp; done) | (simp; omega) | omega)⟩
  case round =>
    obtain ⟨j, hj, rfl, ⟨sv, c', rfl, hown⟩, hB⟩ := hrel
    have hBs := hB.size
    simp only [World.size_alloc] at hBs
    have hB0 : Below w.heap.size w wr := ((Below.refl _ w).alloc (Nat.le_refl _) _).trans (hB.mono (by omega))
    have k1 : wr.cell? ⟨w.heap.size, 1, none⟩ = some (.slice A n c) := (hB.cell (p := ⟨w.heap.size, 1, none⟩) (by show w.heap.size < _; omega)).trans (zcA _ _ _ _ rfl)
    have hm : (L.wrongFrom x y 0 (v.ss.take j)).length ≤ 8 := by
      rw [L.wrongFrom_length]; have := L.many_take_le v.ss j x y 0; omega
    by_cases hlt : j < n
    · obtain ⟨s, hs⟩ : ∃ s, v.ss[j]? = some s := ⟨_, List.getElem?_eq_getElem (by have := HN.out; omega)⟩
      obtain ⟨b, o, hA, hbB, d0, d1, d2, d3⟩ := (HR.out.below hB0) j s hs
      subst hA
      obtain ⟨p0, p1, q0, q1⟩ := HO.out s (List.mem_of_getElem? hs)
      obtain ⟨m0, m1⟩ : -120 ≤ s.p * x ∧ s.p * x ≤ 120 := by have := L.mul_bd p0 p1 hx0 hx1; omega
      obtain ⟨m2, m3⟩ : -120 ≤ s.q * y ∧ s.q * y ≤ 120 := by have := L.mul_bd q0 q1 hy0 hy1; omega
      have HM := hide (L.wrongFrom_take x y hs)
      have HZ := hide (L.off_zero x y s)
      clear hs
      have hlt' : (j : Int) < (n : Int) := by omega
      have hj0 : (0 : Int) ≤ (j : Int) := by omega
      cases hv : L.within (s.p * x + s.q * y) s.lo s.hi
      · have HE : Hid (L.wrongFrom x y 0 (v.ss.take (j + 1)) = L.wrongFrom x y 0 (v.ss.take j) ++ [(j : Int)]) := hide (by rw [HM.out, HZ.out, hv]; rfl)
        have HL := hide (show (L.wrongFrom x y 0 (v.ss.take (j + 1))).length = (L.wrongFrom x y 0 (v.ss.take j)).length + 1 by rw [HE.out, List.length_append]; rfl)
        go_wp2_with (first | (go_at_call 57; refine (refWithin_any _ _ _ _).mono ?_; rintro e w3 ⟨rfl, rfl⟩; rw [hv]) | (refine wpList_app_at rfl (.tmp 37) (.tmp 39) rfl (w.heap.size + 1) _ (L.wrongFrom x y 0 (v.ss.take j)) _ rfl (owns_below hown.out (((Below.refl _ wr).alloc (Nat.le_refl _) _).alloc (by first | (simp; done) | (simp; omega) | omega) _)) (some ⟨wr.heap.size + 1, 0, none⟩) 1 1 [(j : Int)] rfl rfl (rdI_one blk_new2) (fun e => by cases e) (by omega) (by omega) (by first | (simp; done) | (simp; omega) | omega) ?_; intro A2 c2 w5 hown2 hgrow; have hg5 := grown_below (B := w.heap.size + 1) hgrow (by first | (simp; done) | (simp; omega) | omega) (fun g hg => (hown.out.lt g hg).1); have HO2 := hide hown2; clear hown2 hgrow))
        go_roundw
        case rel => exact ⟨j + 1, by omega, by go_num, ⟨A2, c2, by rw [HL.out], hide (by rw [HL.out, HE.out]; exact HO2.out)⟩, (hB.trans (((Below.refl _ wr).alloc (by omega) _).alloc (by simp; omega) _)).trans hg5⟩
        case measure => simp [intOf]; omega
      · have HE : Hid (L.wrongFrom x y 0 (v.ss.take (j + 1)) = L.wrongFrom x y 0 (v.ss.take j)) := hide (by rw [HM.out, HZ.out, hv]; simp)
        go_wp2_with (go_at_call 57; refine (refWithin_any _ _ _ _).mono ?_; rintro e w3 ⟨rfl, rfl⟩; rw [hv])
        go_roundw
        case rel => exact ⟨j + 1, by omega, by go_num, ⟨sv, c', by rw [HE.out], hide (by rw [HE.out]; exact owns_below hown.out ((Below.refl _ wr).alloc (Nat.le_refl _) _))⟩, by (repeat' first | exact zbR _ _ | assumption | refine zbD ?_ | refine zbA ?_ ?_ _ | refine zbS ?_ ?_ _ | refine zbT ?_ (by assumption) ?_ | (simp; done) | (simp; omega) | omega)⟩
        case measure => simp [intOf]; omega
    · have hjn : j = n := by omega
      subst hjn
      have HE : Hid (L.wrongFrom x y 0 (v.ss.take j) = L.wrongL v x y) := hide (by rw [List.take_of_length_le (by have := HN.out; omega)]; rfl)
      go_wp2_with fail
      go_ret
      refine ⟨sv, c', ?_, ?_, hB0⟩
      · rw [← HE.out]; rfl
      · rw [← HE.out]; exact owns_mono hown.out (by omega)

end Go.Proofs.Ytgnobonhohfofaa

namespace Go.Proofs.Ytgnobonhohfofaa
open Go.RowKit
attribute [local go_sem ↓] Go.wp_at_zero Go.wp_at_succ

namespace L
theorem okAt_zero' (v : Vw) (c : Int × Int) : okAt v 0 c = decide (((wrongL v c.1 c.2).length : Int) ≤ v.wrong) := by unfold okAt; rw [wrongL_length]
structure VwW (v : Vw) : Prop where
  s0 : 0 ≤ v.size
  s1 : v.size ≤ 40
  w0 : 0 ≤ v.wrong
  w1 : v.wrong ≤ 3
  x0 : 1 ≤ v.hxl
  xx : v.hxl ≤ v.hxh
  x1 : v.hxh ≤ 9
  y0 : 1 ≤ v.hyl
  yy : v.hyl ≤ v.hyh
  y1 : v.hyh ≤ 9
  n8 : v.ss.length ≤ 8
  ok : ∀ s ∈ v.ss, StPq s
theorem VwOk.w {v : Vw} (h : VwOk v) : VwW v := ⟨h.s0, h.s1, h.w0, h.w1, h.x0, h.xx, h.x1, h.y0, h.yy, h.y1, h.n8, fun s hs => (h.ok s hs).pq⟩
def mk0 (c : Int × Int) : Mk := ⟨c.1, c.2, 0, 0⟩
def tcTo (v : Vw) (N i j : Nat) : List Mk := (((rowsTo N i ++ rowAt N i j)).filter (okAt v 0)).map mk0
theorem tcTo_row (v : Vw) (N i : Nat) : tcTo v N i (N + 1) = tcTo v N (i + 1) 0 := by
  unfold tcTo; rw [rowsTo_next]; rw [show rowAt N (i + 1) 0 = [] from rfl, List.append_nil]
theorem tcTo_next (v : Vw) (N i j : Nat) : tcTo v N i (j + 1) = tcTo v N i j ++ (if okAt v 0 ((i : Int), (j : Int)) then [mk0 ((i : Int), (j : Int))] else []) := by
  unfold tcTo
  rw [rowAt_next, ← List.append_assoc, List.filter_append, List.map_append]
  congr 1
  cases h : okAt v 0 ((i : Int), (j : Int)) <;> simp [List.filter_cons, h]
theorem tcTo_all (v : Vw) (N : Nat) : tcTo v N (N + 1) 0 = ((cents N).filter (okAt v 0)).map mk0 := by
  unfold tcTo; rw [show rowAt N (N + 1) 0 = [] from rfl, List.append_nil, ← cents_rows]
theorem tcTo_le (v : Vw) {N i j : Nat} (hN : N ≤ 40) (hi : i ≤ N) (hj : j ≤ N + 1) : (tcTo v N i j).length ≤ 1681 := by
  unfold tcTo
  rw [List.length_map]
  refine Nat.le_trans (List.length_filter_le _ _) ?_
  have h1 : (rowsTo N i ++ rowAt N i j).length ≤ (cents N).length := by
    rw [cents_rows]
    refine (List.IsPrefix.trans ?_ (rowsTo_pre N (show i + 1 ≤ N + 1 by omega))).length_le
    rw [rowsTo_next]
    exact (List.prefix_append_right_inj _).2 (rowAt_pre N i hj)
  rw [cents_length] at h1
  have h2 : N + 1 ≤ 41 := by omega
  have := Nat.mul_le_mul h2 h2
  omega
end L

theorem refWrong_N (v : L.Vw) (A : Option Addr) (n c N : Nat) (x y : Int) (w : World) (hN : v.size = (N : Int)) (hn : v.ss.length = n) (hr : RdS w w.heap.size A v.ss) (ho : ∀ s ∈ v.ss, L.StPq s) (h8 : n ≤ 8) (hx0 : 0 ≤ x) (hx1 : x ≤ 40) (hy0 : 0 ≤ y) (hy1 : y ≤ 40) :
    Calls Try.prog 50 #[.agg #[.int .i64 (N : Int), .slice A n c, .int .i64 v.wrong, .int .i64 v.hxl, .int .i64 v.hxh, .int .i64 v.hyl, .int .i64 v.hyh], .int .i64 x, .int .i64 y] w fun e w' => ∃ sv c', e = .returned (.slice sv (L.wrongL v x y).length c') ∧ w'.ownsRow w.heap.size 3 1 (.slice sv (L.wrongL v x y).length c') (L.wrongL v x y).length (flatI (L.wrongL v x y)) ∧ Below w.heap.size w w' := by
  rw [← hN]
  exact refWrong_pq v A n c x y w hn hr ho h8 hx0 hx1 hy0 hy1

set_option maxRecDepth 100000 in
set_option maxHeartbeats 6400000 in
theorem refCents_any (v : L.Vw) (A : Option Addr) (n c N : Nat) (w : World) (hv : L.VwW v) (hN : v.size = (N : Int)) (hn : v.ss.length = n) (hr : RdS w w.heap.size A v.ss) :
    Calls Try.prog 64 #[.agg #[.int .i64 v.size, .slice A n c, .int .i64 v.wrong, .int .i64 v.hxl, .int .i64 v.hxh, .int .i64 v.hyl, .int .i64 v.hyh]] w fun e w' => ∃ sv c', e = .returned (.slice sv ((L.tcents v 0).map L.mk0).length c') ∧ w'.ownsRow w.heap.size 30 4 (.slice sv ((L.tcents v 0).map L.mk0).length c') ((L.tcents v 0).map L.mk0).length (flatM ((L.tcents v 0).map L.mk0)) ∧ Below w.heap.size w w' := by
  have HN := hide hn
  have HR := hide hr
  have HV := hide hv
  have hN40 : N ≤ 40 := by have := hv.s1; omega
  have hn8 : n ≤ 8 := by have := hv.n8; omega
  have HALL := hide (show L.tcTo v N (N + 1) 0 = (L.tcents v 0).map L.mk0 by rw [L.tcTo_all]; unfold L.tcents; rw [show v.size.toNat = N by omega])
  have HSz := hide hN
  have hv1 : (0 : Int) ≤ v.wrong := hv.w0
  have hv2 : v.wrong ≤ 3 := hv.w1
  clear hn hr hv
  go_enter Try.func64, Try.ntmps64
  go_upto_region 1 with fail
  rw [hN]
  obtain ⟨W0, hW0⟩ : ∃ W0, w.alloc (.cells #[.int .i64 (N : Int), .slice A n c, .int .i64 v.wrong, .int .i64 v.hxl, .int .i64 v.hxh, .int .i64 v.hyl, .int .i64 v.hyh] 26) = W0 := ⟨_, rfl⟩
  have gp : W0.heap[w.heap.size]? = some (.cells #[.int .i64 (N : Int), .slice A n c, .int .i64 v.wrong, .int .i64 v.hxl, .int .i64 v.hxh, .int .i64 v.hyl, .int .i64 v.hyh] 26 (0, 0)) := by
    rw [← hW0]; exact World.alloc_heap_new _ _
  have gs : W0.heap.size = w.heap.size + 1 := by rw [← hW0]; simp
  have gB : Below w.heap.size w W0 := by rw [← hW0]; (repeat' first | exact zbR _ _ | assumption | refine zbD ?_ | refine zbA ?_ ?_ _ | refine zbS ?_ ?_ _ | refine zbT ?_ (by assumption) ?_ | (simp; done) | (simp; omega) | omega)
  rw [hW0]
  clear hW0 hN
  obtain ⟨p, hp⟩ : ∃ p, w.heap.size = p := ⟨_, rfl⟩
  rw [hp]
  rw [hp] at gp
  have lp : p < W0.heap.size := by omega
  have HR0 := hide ((HR.out.below gB).mono gB.size)
  have HP := hide hp
  have GB := hide gB
  have GP := hide gp
  have GS := hide gs
  clear gp gB HR hp gs
  go_wp2_with fail
  go_loopw [3, 4] (fun m t wr => ∃ i : Nat, i ≤ N + 1 ∧ t = .int .i64 i ∧ (∃ sv c', m = .slice sv (L.tcTo v N i 0).length c' ∧ Hid (wr.ownsRow W0.heap.size 30 4 (.slice sv (L.tcTo v N i 0).length c') (L.tcTo v N i 0).length (flatM (L.tcTo v N i 0)))) ∧ Below W0.heap.size W0 wr) (fun _ t _ => N + 1 - (intOf t).toNat)
  case atStart => exact ⟨0, by omega, rfl, ⟨none, 0, rfl, hide (World.ownsRow_nil _ _ _ _)⟩, Below.refl _ _⟩
  case round =>
    obtain ⟨i, hi, rfl, ⟨sv, c', rfl, hown⟩, hB⟩ := hrel
    have qB := hB.size
    have bp := (hB.block p lp).trans GP.out
    have cp0 := (blk_cell bp 0).trans rfl; have cp1 := (blk_cell bp 1).trans rfl; have cp2 := (blk_cell bp 2).trans rfl; have cp3 := (blk_cell bp 3).trans rfl; have cp4 := (blk_cell bp 4).trans rfl; have cp5 := (blk_cell bp 5).trans rfl; have cp6 := (blk_cell bp 6).trans rfl
    have lpr : p < wr.heap.size := by omega
    have hi0 : (0 : Int) ≤ (i : Int) := by omega
    have hi1 : (i : Int) ≤ 41 := by omega
    clear bp
    by_cases hlt : i < N + 1
    · have hlt' : (i : Int) ≤ (N : Int) := by omega
      have GPr := hide ((hB.block p lp).trans GP.out)
      go_wp2_with fail
      clear cp0 cp1 cp2 cp3 cp4 cp5 cp6
      go_loopw [3, 5] (fun m t wq => ∃ j : Nat, j ≤ N + 1 ∧ t = .int .i64 j ∧ (∃ sv c', m = .slice sv (L.tcTo v N i j).length c' ∧ Hid (wq.ownsRow W0.heap.size 30 4 (.slice sv (L.tcTo v N i j).length c') (L.tcTo v N i j).length (flatM (L.tcTo v N i j)))) ∧ Below W0.heap.size W0 wq) (fun _ t _ => N + 1 - (intOf t).toNat)
      case atStart => exact ⟨0, by omega, rfl, ⟨sv, c', rfl, hown⟩, hB⟩
      case round =>
        clear hown hB qB lpr GPr
        obtain ⟨j, hj, rfl, ⟨sv, c', rfl, hown⟩, hB⟩ := hrel
        have qB := hB.size
        have bp := (hB.block p lp).trans GP.out
        have cp0 := (blk_cell bp 0).trans rfl; have cp1 := (blk_cell bp 1).trans rfl; have cp2 := (blk_cell bp 2).trans rfl; have cp3 := (blk_cell bp 3).trans rfl; have cp4 := (blk_cell bp 4).trans rfl; have cp5 := (blk_cell bp 5).trans rfl; have cp6 := (blk_cell bp 6).trans rfl
        have GPr := hide bp
        have lpr : p < wr.heap.size := by omega
        have hj0 : (0 : Int) ≤ (j : Int) := by omega
        have hj1 : (j : Int) ≤ 41 := by omega
        clear bp
        by_cases hlt2 : j < N + 1
        · have hlt2' : (j : Int) ≤ (N : Int) := by omega
          have HRr := hide ((HR0.out.below hB).mono qB)
          have hle := L.tcTo_le v hN40 (show i ≤ N by omega) (show j ≤ N + 1 by omega)
          have HNX := hide (L.tcTo_next v N i j)
          obtain ⟨ln, hln⟩ : ∃ ln, (L.wrongL v (i : Int) (j : Int)).length = ln := ⟨_, rfl⟩
          have HOK := hide (show L.okAt v 0 ((i : Int), (j : Int)) = decide ((ln : Int) ≤ v.wrong) by rw [← hln]; exact L.okAt_zero' v _)
          have HLN := hide hln
          have hln8 : (ln : Int) ≤ 8 := by rw [← hln, L.wrongL_length]; have := L.many_le v.ss (i : Int) (j : Int) 0; have := HN.out; omega
          clear hln
          go_upto_region 8 with fail
          have hS : (fun w' => Below wr.heap.size wr w' ∧ p < w'.heap.size ∧ w'.cell? ⟨p, 0, none⟩ = some (.int .i64 (N : Int)) ∧ w'.cell? ⟨p, 1, none⟩ = some (.slice A n c) ∧ w'.cell? ⟨p, 2, none⟩ = some (.int .i64 v.wrong) ∧ w'.cell? ⟨p, 3, none⟩ = some (.int .i64 v.hxl) ∧ w'.cell? ⟨p, 4, none⟩ = some (.int .i64 v.hxh) ∧ w'.cell? ⟨p, 5, none⟩ = some (.int .i64 v.hyl) ∧ w'.cell? ⟨p, 6, none⟩ = some (.int .i64 v.hyh)) wr := ⟨Below.refl _ _, lpr, cp0, cp1, cp2, cp3, cp4, cp5, cp6⟩
          obtain ⟨W1, hW1⟩ : ∃ W1, wr = W1 := ⟨_, rfl⟩
          have HOW := hide hown.out
          have HB1 := hide hB
          rw [hW1] at hS HRr HOW HB1 ⊢
          clear hW1 hown hB qB lpr GPr cp0 cp1 cp2 cp3 cp4 cp5 cp6
          have hkeep : ∀ u u' : World, Below u.heap.size u u' → (Below W1.heap.size W1 u ∧ p < u.heap.size ∧ u.cell? ⟨p, 0, none⟩ = some (.int .i64 (N : Int)) ∧ u.cell? ⟨p, 1, none⟩ = some (.slice A n c) ∧ u.cell? ⟨p, 2, none⟩ = some (.int .i64 v.wrong) ∧ u.cell? ⟨p, 3, none⟩ = some (.int .i64 v.hxl) ∧ u.cell? ⟨p, 4, none⟩ = some (.int .i64 v.hxh) ∧ u.cell? ⟨p, 5, none⟩ = some (.int .i64 v.hyl) ∧ u.cell? ⟨p, 6, none⟩ = some (.int .i64 v.hyh)) → (Below W1.heap.size W1 u' ∧ p < u'.heap.size ∧ u'.cell? ⟨p, 0, none⟩ = some (.int .i64 (N : Int)) ∧ u'.cell? ⟨p, 1, none⟩ = some (.slice A n c) ∧ u'.cell? ⟨p, 2, none⟩ = some (.int .i64 v.wrong) ∧ u'.cell? ⟨p, 3, none⟩ = some (.int .i64 v.hxl) ∧ u'.cell? ⟨p, 4, none⟩ = some (.int .i64 v.hxh) ∧ u'.cell? ⟨p, 5, none⟩ = some (.int .i64 v.hyl) ∧ u'.cell? ⟨p, 6, none⟩ = some (.int .i64 v.hyh)) := by
            rintro u u' hb ⟨hB, l_p, k0, k1, k2, k3, k4, k5, k6⟩
            exact ⟨hB.trans (hb.mono hB.size), Nat.lt_of_lt_of_le l_p hb.size, (hb.cell (p := ⟨p, 0, none⟩) l_p).trans k0, (hb.cell (p := ⟨p, 1, none⟩) l_p).trans k1, (hb.cell (p := ⟨p, 2, none⟩) l_p).trans k2, (hb.cell (p := ⟨p, 3, none⟩) l_p).trans k3, (hb.cell (p := ⟨p, 4, none⟩) l_p).trans k4, (hb.cell (p := ⟨p, 5, none⟩) l_p).trans k5, (hb.cell (p := ⟨p, 6, none⟩) l_p).trans k6⟩
          (try dsimp only at hS)
          refine wp_region_held_drew (S := (fun w' => Below W1.heap.size W1 w' ∧ p < w'.heap.size ∧ w'.cell? ⟨p, 0, none⟩ = some (.int .i64 (N : Int)) ∧ w'.cell? ⟨p, 1, none⟩ = some (.slice A n c) ∧ w'.cell? ⟨p, 2, none⟩ = some (.int .i64 v.wrong) ∧ w'.cell? ⟨p, 3, none⟩ = some (.int .i64 v.hxl) ∧ w'.cell? ⟨p, 4, none⟩ = some (.int .i64 v.hxh) ∧ w'.cell? ⟨p, 5, none⟩ = some (.int .i64 v.hyl) ∧ w'.cell? ⟨p, 6, none⟩ = some (.int .i64 v.hyh))) (by kernel_rfl) ?_ (fun hHeld0 => ?_)
          · (try dsimp only); (first | (go_keep; done) | (go_split_ands; (repeat' apply And.intro) <;> first | (go_keep; done) | (simp [*, zcA, zcP, zfA, zfP]; done) | (simp [zcA, zcP] <;> rfl) | (simp [*, zsS, zsO, zsA]; done) | ((first | refine (hc _ _ ?_).trans ?_ | refine (hf _ _ ?_).trans ?_) <;> first | assumption | (simp; done) | (simp; omega) | omega | (go_keep; done) | (simp [*, zcA, zcP, zfA, zfP]; done) | (simp [zcA, zcP]; rfl)) | (repeat' first | exact zbR _ _ | assumption | refine zbD ?_ | refine zbA ?_ ?_ _ | refine zbS ?_ ?_ _ | refine zbT ?_ (by assumption) ?_ | (simp; done) | (simp; omega) | omega)))
          refine tL (v := ?_) 0 rfl (by kernel_rfl) (fun _ _ _ h => h) (Or.inl ⟨by rfl, ?_⟩) (by assumption) ?_; rotate_left
          · (intro w hSw; (try dsimp only at hSw); go_simp; try with_reducible rfl)
          try simp only [Act.put, zl, z0, z1]
          refine tL (v := ?_) 1 rfl (by kernel_rfl) (fun _ _ _ h => h) (Or.inl ⟨by rfl, ?_⟩) (by assumption) ?_; rotate_left
          · (intro w hSw; (try dsimp only at hSw); go_simp; try with_reducible rfl)
          try simp only [Act.put, zl, z0, z1]
          refine tL (v := ?_) 2 rfl (by kernel_rfl) (fun _ _ _ h => h) (Or.inl ⟨by rfl, ?_⟩) (by assumption) ?_; rotate_left
          · (intro w hSw; (try dsimp only at hSw); go_simp; try with_reducible rfl)
          try simp only [Act.put, zl, z0, z1]
          refine tL (v := ?_) 5 rfl (by kernel_rfl) (fun _ _ _ h => h) (Or.inl ⟨by rfl, ?_⟩) (by assumption) ?_; rotate_left
          · (intro w hSw; (try dsimp only at hSw); go_simp; try with_reducible rfl)
          try simp only [Act.put, zl, z0, z1]
          refine tL (v := ?_) 6 rfl (by kernel_rfl) (fun _ _ _ h => h) (Or.inl ⟨by rfl, ?_⟩) (by assumption) ?_; rotate_left
          · (intro w hSw; (try dsimp only at hSw); go_simp; try with_reducible rfl)
          try simp only [Act.put, zl, z0, z1]
          refine wpAnyH_ready (rs := [3]) (by kernel_rfl) (by simp) ?_
          refine consL 3 rfl (fun K hK => ?_) AllReadyH.nil
          go_simp
          (go_at_call 50; refine (refWrong_N v A n c N (i : Int) (j : Int) _ HSz.out HN.out (by first | exact (HRr.out.below hS.1).mono hS.1.size | exact (HRr.out.below (zbD hS.1)).mono hS.1.size) HV.out.ok hn8 hi0 (by omega) hj0 (by omega)).mono ?_; rintro e w6 ⟨sv6, c6, rfl, hown6, hb⟩; clear hown6; rw [HLN.out]; have hSn := hkeep _ _ hb (by assumption); (try clear hS); have hS := hSn; clear hSn)
          refine hK.out _ _ ?_ (fun hHeld1 => ?_)
          · (try dsimp only); exact hS
          clear hK K hHeld0
          try simp only [Act.put, zl, z0, z1]
          refine tL (v := ?_) 4 rfl (by kernel_rfl) (fun _ _ _ h => h) (Or.inl ⟨by rfl, ?_⟩) (by assumption) ?_; rotate_left
          · (intro w hSw; (try dsimp only at hSw); go_simp; try with_reducible rfl)
          try simp only [Act.put, zl, z0, z1]
          refine tL (v := ?_) 7 rfl (by kernel_rfl) (fun _ _ _ h => h) (Or.inl ⟨by rfl, ?_⟩) (by assumption) ?_; rotate_left
          · (intro w hSw; (try dsimp only at hSw); go_simp; try with_reducible rfl)
          try simp only [Act.put, zl, z0, z1]
          refine wpAnyH_done (by kernel_rfl) ?_ _
          obtain ⟨hB6, lp6, k_p0, k_p1, k_p2, k_p3, k_p4, k_p5, k_p6⟩ := hS
          have HO6 := hide (owns_below HOW.out hB6)
          have q6 := hB6.size
          have HB6 := hide (HB1.out.trans (hB6.mono HB1.out.size))
          have q60 := HB6.out.size
          clear hkeep hHeld1
          by_cases hw : (ln : Int) ≤ v.wrong
          · have HE := hide (show L.tcTo v N i (j + 1) = L.tcTo v N i j ++ [L.mk0 ((i : Int), (j : Int))] by rw [HNX.out, HOK.out, decide_eq_true hw]; rfl)
            have HL := hide (show (L.tcTo v N i (j + 1)).length = (L.tcTo v N i j).length + 1 by rw [HE.out, List.length_append]; rfl)
            clear hB6
            go_wp2_with (refine wpList_app_marks rfl (.tmp 26) (.tmp 30) rfl W0.heap.size _ (L.tcTo v N i j) _ rfl (HO6.out.alloc _) (some ⟨_, 0, none⟩) 1 1 [L.mk0 ((i : Int), (j : Int))] rfl rfl (rdM_one (World.alloc_heap_new _ _)) (fun e => by cases e) (by omega) (by omega) (by simp; omega) _ rfl ?_; intro A2 c2 w7 hown2 hgrow; have hg7 := grown_below (B := W0.heap.size) hgrow (by simp; omega) (fun g hg => (HO6.out.lt g hg).1); have HO2 := hide hown2; clear hown2 hgrow)
            go_roundw
            case rel => exact ⟨j + 1, by omega, by go_num, ⟨A2, c2, by rw [HL.out], hide (by rw [HL.out, HE.out]; exact HO2.out)⟩, (HB6.out.trans ((Below.refl _ _).alloc q60 _)).trans hg7⟩
            case measure => simp [intOf]; omega
          · have HE := hide (show L.tcTo v N i (j + 1) = L.tcTo v N i j by rw [HNX.out, HOK.out, decide_eq_false hw, if_neg (by decide), List.append_nil])
            clear hB6
            go_wp2_with fail
            go_roundw
            case rel => exact ⟨j + 1, by omega, by go_num, ⟨sv, c', by rw [HE.out], hide (by rw [HE.out]; exact HO6.out)⟩, HB6.out⟩
            case measure => simp [intOf]; omega
        · have hjn : j = N + 1 := by omega
          subst hjn
          go_wp2_with fail
          go_roundw
          case rel => exact ⟨i + 1, by omega, by go_num, ⟨sv, c', by rw [← L.tcTo_row], hide (by rw [← L.tcTo_row]; exact hown.out)⟩, hB⟩
          case measure => simp [intOf]; omega
    · have hin : i = N + 1 := by omega
      subst hin
      go_wp2_with fail
      go_ret
      refine ⟨sv, c', ?_, ?_, ?_⟩
      · rw [← HALL.out]; rfl
      · rw [← HALL.out]; exact owns_mono hown.out (by have := GS.out; have := HP.out; omega)
      · exact GB.out.trans (hB.mono GB.out.size)

end Go.Proofs.Ytgnobonhohfofaa

namespace Go.Proofs.Ytgnobonhohfofaa
namespace L

def spTo (f : Mk → Int) (l : List Mk) (i : Nat) : Int × Int := match l.take (max i 1) with
  | [] => (0, 0)
  | c :: r => r.foldl (fun s d => (min s.1 (f d), max s.2 (f d))) (f c, f c)
theorem spTo_zero {f : Mk → Int} {l : List Mk} {m : Mk} (h : l[0]? = some m) : spTo f l 0 = (f m, f m) := by
  cases l with
  | nil => simp at h
  | cons a r =>
    have e : a = m := Option.some.inj h
    subst e
    rfl
theorem spTo_next {f : Mk → Int} {l : List Mk} {i : Nat} {m : Mk} (h : l[i]? = some m) : spTo f l (i + 1) = (min (spTo f l i).1 (f m), max (spTo f l i).2 (f m)) := by
  cases l with
  | nil => simp at h
  | cons a r =>
    cases i with
    | zero =>
      have e : a = m := Option.some.inj h
      subst e
      show (f a, f a) = (min (f a) (f a), max (f a) (f a))
      rw [Int.min_self, Int.max_self]
    | succ i =>
      have h' : r[i]? = some m := h
      unfold spTo
      rw [show max (i + 1 + 1) 1 = (i + 1) + 1 by omega, show max (i + 1) 1 = i + 1 by omega, List.take_succ_cons, List.take_succ_cons]
      dsimp only
      rw [List.take_add_one, h', Option.toList_some, List.foldl_append]
      rfl
theorem spTo_all {g : Int × Int → Int} {f : Mk → Int} (hg : ∀ c, f (mk0 c) = g c) (l : List (Int × Int)) (hl : l ≠ []) : spTo f (l.map mk0) (l.map mk0).length = spanOf g l := by
  cases l with
  | nil => exact (hl rfl).elim
  | cons c r =>
    unfold spTo
    rw [show max ((c :: r).map mk0).length 1 = ((c :: r).map mk0).length by simp, List.take_of_length_le (Nat.le_refl _)]
    show (r.map mk0).foldl _ (f (mk0 c), f (mk0 c)) = r.foldl _ (g c, g c)
    rw [List.foldl_map, hg]
    simp only [hg]
def fwTo (v : Vw) (N i j : Nat) : Int := fewF v (rowsTo N i ++ rowAt N i j)
theorem fwTo_zero (v : Vw) (N : Nat) : fwTo v N 0 0 = (v.ss.length : Int) := rfl
theorem fwTo_row (v : Vw) (N i : Nat) : fwTo v N i (N + 1) = fwTo v N (i + 1) 0 := by
  unfold fwTo; rw [rowsTo_next]; rw [show rowAt N (i + 1) 0 = [] from rfl, List.append_nil]
theorem fwTo_next (v : Vw) (N i j : Nat) : fwTo v N i (j + 1) = min (fwTo v N i j) ((wrongL v (i : Int) (j : Int)).length : Int) := by
  unfold fwTo
  rw [rowAt_next, ← List.append_assoc, fewF_snoc]
theorem fwTo_all (v : Vw) (N : Nat) : fwTo v N (N + 1) 0 = fewF v (cents N) := by
  unfold fwTo; rw [show rowAt N (N + 1) 0 = [] from rfl, List.append_nil, ← cents_rows]
theorem fwTo_bd (v : Vw) (N i j : Nat) : 0 ≤ fwTo v N i j ∧ fwTo v N i j ≤ v.ss.length := fewF_bd v _
def alw (v : Vw) (l : List Mk) (i k : Nat) : Bool := (l.take k).all fun m => decide ((i : Int) ∈ wrongL v m.x m.y)
theorem alw_zero (v : Vw) (l : List Mk) (i : Nat) : alw v l i 0 = true := rfl
theorem alw_next {v : Vw} {l : List Mk} {k : Nat} {m : Mk} (h : l[k]? = some m) (i : Nat) : alw v l i (k + 1) = (alw v l i k && decide ((i : Int) ∈ wrongL v m.x m.y)) := by
  unfold alw
  rw [List.take_add_one, h, Option.toList_some, List.all_append]
  simp
theorem alw_all (v : Vw) (l : List (Int × Int)) (i : Nat) : alw v (l.map mk0) i (l.map mk0).length = decide (cnt v l i = l.length) := by
  unfold alw
  rw [List.take_of_length_le (Nat.le_refl _), Bool.eq_iff_iff, decide_eq_true_eq]
  unfold cnt
  rw [List.length_filter_eq_length_iff, List.all_eq_true]
  constructor
  · intro h c hc; exact h _ (List.mem_map.2 ⟨c, hc, rfl⟩)
  · intro h m hm
    obtain ⟨c, hc, rfl⟩ := List.mem_map.1 hm
    exact h c hc
end L
end Go.Proofs.Ytgnobonhohfofaa

namespace Go.Proofs.Ytgnobonhohfofaa
open Go

section
variable {P : Program} {ops : Array Oper} {Q : Exit → Act → World → Prop} {md : Region.Mode} {S : World → Prop} {T : Nat}

def wpAnyT (P : Program) (md : Region.Mode) (ops : Array Oper) (Q : Exit → Act → World → Prop) (S : World → Prop) (T : Nat) : Nat → Array Bool → Act → World → Prop
  | 0, listed, a, w => Region.ready md ops listed = [] ∧ Q .normal a w
  | fuel + 1, listed, a, w =>
    (Region.ready md ops listed = [] → Q .normal a w) ∧
    ∀ i ∈ Region.ready md ops listed, wpOp P ops Q i (fun a' w' => (i ≠ T → S w') ∧ wpAnyT P md ops Q S T fuel (listed.setIfInBounds i true) a' w') a w

theorem wpAny_of_T : ∀ (fuel : Nat) (listed : Array Bool) (a : Act) (w : World), wpAnyT P md ops Q S T fuel listed a w → wpAny P md ops Q fuel listed a w
  | 0, _, _, _, h => h
  | fuel + 1, _, _, _, h => ⟨h.1, fun i hi => wpOp_mono (fun a' w' h' => wpAny_of_T fuel _ a' w' h'.2) (h.2 i hi)⟩

def waits (md : Region.Mode) (ops : Array Oper) (T i : Nat) : Bool :=
  match ops[T]? with
  | some o => o.after.any fun e => Region.binds md e && e.on == i
  | none => true

theorem wpAnyT_first {i : Nat} {oi : Oper} {v : Value} (hi : ops[i]? = some oi) (hsel : ∀ (j : Nat) (o : Oper) cs b, ops[j]? = some o → o.op ≠ .select cs b) (hW : waits md ops T i = true)
    (hQ : ∀ c a w, Q (.panic c) (a.put oi.dst v) w → Q (.panic c) a w) :
    ∀ (fuel : Nat) (listed : Array Bool) (a : Act) (w : World),
      (∀ j oj, ops[j]? = some oj → j ≠ i → listed.getD j true = false → (∀ e ∈ oj.after, Region.binds md e = true → e.on ≠ i) → oi.apart ops oj = true) →
      i ∈ Region.ready md ops listed → YieldsIf P ops S oi v a → S w →
      wpAnyT P md ops Q S T fuel (listed.setIfInBounds i true) (a.put oi.dst v) w → wpAnyT P md ops Q S T (fuel + 1) listed a w := by
  intro fuel
  induction fuel with
  | zero =>
    intro listed a w _ hr hy hS H
    refine ⟨fun h => (by rw [h] at hr; cases hr), fun j hj => ?_⟩
    by_cases hji : j = i
    · subst hji; exact hy.wpOp hi hS ⟨fun _ => hS, H⟩
    · have := ready_mono hj hji
      rw [H.1] at this
      cases this
  | succ fuel ih =>
    intro listed a w hfree hr hy hS H
    refine ⟨fun h => (by rw [h] at hr; cases hr), fun j hj => ?_⟩
    by_cases hji : j = i
    · subst hji; exact hy.wpOp hi hS ⟨fun _ => hS, H⟩
    · have h1 := H.2 j (ready_mono hj hji)
      obtain ⟨hjun, oj, hoj, hall⟩ := mem_ready.1 hj
      have hnot : ∀ e ∈ oj.after, Region.binds md e = true → e.on ≠ i := fun e he hb heq => by
        have h1 := hall e he hb
        have h0 := (mem_ready.1 hr).1
        rw [heq] at h1
        rcases Nat.lt_or_ge i listed.size with h' | h'
        · simp [h'] at h0 h1; rw [h0] at h1; cases h1
        · simp [Array.getElem?_eq_none h'] at h1
      have hjT : j ≠ T := fun hjt => by
        subst hjt
        unfold waits at hW
        rw [hoj] at hW
        simp only [Array.any_eq_true'] at hW
        obtain ⟨e, he, hb⟩ := hW
        simp only [Bool.and_eq_true, beq_iff_eq] at hb
        exact hnot e he hb.1 hb.2
      have h2 := wpOp_putIf hoj (hfree j oj hoj hji hjun hnot) (fun cs b => hsel i oi cs b hi) (fun cs b => hsel j oj cs b hoj) hQ hy h1
      have hfree' : ∀ k ok, ops[k]? = some ok → k ≠ i → (listed.setIfInBounds j true).getD k true = false →
          (∀ e ∈ ok.after, Region.binds md e = true → e.on ≠ i) → oi.apart ops ok = true := fun k ok hk hki hun hno => by
        refine hfree k ok hk hki ?_ hno
        by_cases hjk : j = k
        · subst hjk; exact hjun
        · rw [getD_set_ne true hjk] at hun; exact hun
      refine wpOp_mono (fun a' w' h3 => ⟨h3.2.1, ih (listed.setIfInBounds j true) a' w' hfree' (ready_mono hr (Ne.symm hji)) h3.1 (h3.2.1 hjT) ?_⟩) h2
      rw [Array.setIfInBounds_comm _ _ hji]
      exact h3.2.2

def AllReadyT (P : Program) (md : Region.Mode) (ops : Array Oper) (Q : Exit → Act → World → Prop) (S : World → Prop) (T : Nat) (fuel : Nat) (listed : Array Bool) (a : Act) (w : World) (rs : List Nat) : Prop :=
  ∀ i ∈ rs, wpOp P ops Q i (fun a' w' => (i ≠ T → S w') ∧ wpAnyT P md ops Q S T fuel (listed.setIfInBounds i true) a' w') a w
theorem AllReadyT.nil {fuel : Nat} {listed : Array Bool} {a : Act} {w : World} : AllReadyT P md ops Q S T fuel listed a w [] := fun _ h => by cases h
theorem wpAnyT_ready {rs : List Nat} {fuel : Nat} {listed : Array Bool} {a : Act} {w : World} (hr : Region.ready md ops listed = rs) (hne : rs ≠ [])
    (h : AllReadyT P md ops Q S T fuel listed a w rs) : wpAnyT P md ops Q S T (fuel + 1) listed a w :=
  ⟨fun h0 => absurd (hr ▸ h0) hne, hr ▸ h⟩
theorem wpAnyT_done {listed : Array Bool} {a : Act} {w : World} (hr : Region.ready md ops listed = []) (h : Q .normal a w) :
    ∀ fuel, wpAnyT P md ops Q S T fuel listed a w
  | 0 => ⟨hr, h⟩
  | _ + 1 => ⟨fun _ => h, by rw [hr]; simp⟩
theorem wp_region_T_drew {id : Nat} {a : Act} {w : World} (T : Nat) (hm : P.follows .mixedOrders = true) (hS : S w.drew)
    (h : S w.drew → wpAnyT P .any ops Q S T ops.size (Array.replicate ops.size false) a w.drew) : (Code.region id ops true).wp P Q a w :=
  wp_region_any hm (wpAny_of_T _ _ _ _ (h hS))
end

theorem takeT {P : Program} {md : Region.Mode} {l rest : List Oper} {Q : Exit → Act → World → Prop} {S : World → Prop} {T : Nat} {oi : Oper} {v : Value} {fuel : Nat} {listed : Array Bool} {a : Act} {w : World} (i : Nat) (hi : l.drop i = oi :: rest)
    (hW : waits md l.toArray T i = true) (hs : Region.noSelect l.toArray = true) (hf : Region.free md l.toArray listed i = true) (hr : (Region.ready md l.toArray listed).contains i = true)
    (hQ : ∀ c a w, Q (.panic c) (a.put oi.dst v) w → Q (.panic c) a w) (hy : YieldsIf P l.toArray S oi v a) (hS : S w)
    (h : wpAnyT P md l.toArray Q S T fuel (listed.setIfInBounds i true) (a.put oi.dst v) w) : wpAnyT P md l.toArray Q S T (fuel + 1) listed a w :=
  wpAnyT_first (drop_get hi) (Region.noSelect_spec hs) hW hQ fuel listed a w (Region.free_spec (drop_get hi) hf) (by simpa using hr) hy hS h

theorem consT {P : Program} {md : Region.Mode} {l rest : List Oper} {Q : Exit → Act → World → Prop} {S : World → Prop} {T : Nat} {fuel : Nat} {listed : Array Bool} {a : Act} {w : World} {o : Oper} {rs : List Nat} (i : Nat) (ho : l.drop i = o :: rest)
    (h : ∀ K' : Act → World → Prop, Shut (∀ a w, S w → (S w → wpAnyT P md l.toArray Q S T fuel (listed.setIfInBounds i true) a w) → K' a w) → if Region.wanted o (yielded l.toArray a.tmps) = true then Oper.wp P o a w K' Q else K' (a.put o.dst undef) w)
    (hs : AllReadyT P md l.toArray Q S T fuel listed a w rs) : AllReadyT P md l.toArray Q S T fuel listed a w (i :: rs) := fun j hj => by
  rcases List.mem_cons.1 hj with rfl | hj
  · exact wpOp_step (drop_get ho) (fun K' hK => h K' (fun a w hS hW => hK a w ⟨fun _ => hS, hW hS⟩))
  · exact hs j hj

theorem lastT {P : Program} {md : Region.Mode} {l rest : List Oper} {Q : Exit → Act → World → Prop} {S : World → Prop} {T : Nat} {fuel : Nat} {listed : Array Bool} {a : Act} {w : World} {o : Oper} (ho : l.drop T = o :: rest)
    (h : ∀ K' : Act → World → Prop, Shut (∀ a w, wpAnyT P md l.toArray Q S T fuel (listed.setIfInBounds T true) a w → K' a w) → if Region.wanted o (yielded l.toArray a.tmps) = true then Oper.wp P o a w K' Q else K' (a.put o.dst undef) w) :
    AllReadyT P md l.toArray Q S T fuel listed a w [T] := fun j hj => by
  have e : j = T := by simpa using hj
  subst e
  exact wpOp_step (drop_get ho) (fun K' hK => h K' (fun a w hW => hK a w ⟨fun h => absurd rfl h, hW⟩))

end Go.Proofs.Ytgnobonhohfofaa
