/-
  For every view and every two boxes the law LinesLarger returns true and leaves its arguments as they were. No condition.
-/
import Derived.Test.YtgnobonhohfofaaZB02
namespace Go.Proofs.Ytgnobonhohfofaa
open Go.RowKit
attribute [local go_sem ↓] Go.wp_at_zero Go.wp_at_succ

def L.farB (v : L.Vw) : Bool := decide (40 < v.ss.length) || (L.viewB v && (decide (12 < v.size) || decide (5 < v.hxh) || decide (5 < v.hyh)))
def L.validB (v : L.Vw) (b : L.Bx) : Bool := !L.farB v && (L.viewB v && L.boxB b)
theorem L.check_view (v : L.Vw) : L.checkE v = if L.viewB v then 0 else 20 := rfl

set_option maxRecDepth 100000 in
set_option maxHeartbeats 1600000 in
theorem Far_any (v : L.Vw) (A : Option Addr) (n c : Nat) (w : World) (hn : v.ss.length = n) (hr : RdS w w.heap.size A v.ss) :
    Calls Try.prog 28 #[.agg #[.int .i64 v.size, .slice A n c, .int .i64 v.wrong, .int .i64 v.hxl, .int .i64 v.hxh, .int .i64 v.hyl, .int .i64 v.hyh]] w fun e w' => e = .returned (.bool (L.farB v)) ∧ Below w.heap.size w w' := by
  have HN := hide hn
  have HR := hide hr
  have hc := L.check_view v
  by_cases h40 : (40 : Int) < (n : Int)
  · have HE := hide (show L.farB v = true by unfold L.farB; rw [decide_eq_true (by omega)]; rfl)
    clear hn hr hc
    go_enter Try.func28, Try.ntmps28
    go_wp2
    go_ret
    exact ⟨by rw [HE.out]; rfl, by (repeat' first | exact zbR _ _ | assumption | refine zbD ?_ | refine zbA ?_ ?_ _ | refine zbS ?_ ?_ _ | refine zbT ?_ (by assumption) ?_ | (simp; done) | (simp; omega) | omega)⟩
  have hf : L.farB v = (L.viewB v && (decide (12 < v.size) || decide (5 < v.hxh) || decide (5 < v.hyh))) := by unfold L.farB; rw [decide_eq_false (by omega)]; rfl
  cases hv : L.viewB v
  · rw [hv] at hc hf
    have HC := hide (show L.checkE v = 20 from hc)
    have HE := hide (show L.farB v = false from hf)
    clear hn hr hc hv hf
    go_enter Try.func28, Try.ntmps28
    go_wp2_with (go_at_call 23; refine (RefCheck_any v A n c _ HN.out ((HR.out.below (by (repeat' first | exact zbR _ _ | assumption | refine zbD ?_ | refine zbA ?_ ?_ _ | refine zbS ?_ ?_ _ | refine zbT ?_ (by assumption) ?_ | (simp; done) | (simp; omega) | omega))).mono (by first | (simp; done) | (simp; omega) | omega))).mono ?_; rintro e w2 ⟨rfl, hb2⟩; rw [HC.out])
    go_ret
    exact ⟨by rw [HE.out]; rfl, by (repeat' first | exact zbR _ _ | assumption | refine zbD ?_ | refine zbA ?_ ?_ _ | refine zbS ?_ ?_ _ | refine zbT ?_ (by assumption) ?_ | (simp; done) | (simp; omega) | omega)⟩
  rw [hv] at hc hf
  have HC := hide (show L.checkE v = 0 from hc)
  have HF := hide hf
  clear hn hr hc hv hf
  rw [Bool.true_and] at HF
  go_enter Try.func28, Try.ntmps28
  go_wp2_with (go_at_call 23; refine (RefCheck_any v A n c _ HN.out ((HR.out.below (by (repeat' first | exact zbR _ _ | assumption | refine zbD ?_ | refine zbA ?_ ?_ _ | refine zbS ?_ ?_ _ | refine zbT ?_ (by assumption) ?_ | (simp; done) | (simp; omega) | omega))).mono (by first | (simp; done) | (simp; omega) | omega))).mono ?_; rintro e w2 ⟨rfl, hb2⟩; rw [HC.out]; obtain ⟨hc2, hf2⟩ := bcell hb2; have hz2 : w.heap.size < w2.heap.size := (by have := hb2.size; (try simp at this); omega))
  all_goals
    go_ret
    exact ⟨by rw [HF.out]; (first | rfl | (simp [*]; done)), by (repeat' first | exact zbR _ _ | assumption | refine zbD ?_ | refine zbA ?_ ?_ _ | refine zbS ?_ ?_ _ | refine zbT ?_ (by assumption) ?_ | (simp; done) | (simp; omega) | omega)⟩

theorem L.farB_no {v : L.Vw} (h : L.farB v = false) : v.ss.length ≤ 40 ∧ (L.viewB v = true → v.size ≤ 12 ∧ v.hxh ≤ 5 ∧ v.hyh ≤ 5) := by
  unfold L.farB at h
  simp only [Bool.or_eq_false_iff, decide_eq_false_iff_not, Bool.and_eq_false_iff] at h
  refine ⟨by omega, fun hv => ?_⟩
  rcases h.2 with h' | h'
  · rw [hv] at h'; cases h'
  · omega

set_option maxRecDepth 100000 in
set_option maxHeartbeats 1600000 in
theorem valid_any (v : L.Vw) (A : Option Addr) (n c : Nat) (b : L.Bx) (w : World) (hn : v.ss.length = n) (hr : RdS w w.heap.size A v.ss) :
    Calls Try.prog 15 #[.agg #[.int .i64 v.size, .slice A n c, .int .i64 v.wrong, .int .i64 v.hxl, .int .i64 v.hxh, .int .i64 v.hyl, .int .i64 v.hyh], .agg #[.int .i64 b.l, .int .i64 b.r, .int .i64 b.b, .int .i64 b.t]] w fun e w' => e = .returned (.bool (L.validB v b)) ∧ Below w.heap.size w w' := by
  have HN := hide hn
  have HR := hide hr
  have hc := L.check_view v
  have he : L.validB v b = (!L.farB v && (L.viewB v && L.boxB b)) := rfl
  cases hf : L.farB v <;> cases hv : L.viewB v <;> cases hb : L.boxB b
  all_goals
    rw [hv] at hc
    rw [hf, hv, hb] at he
    have HC := hide hc
    have HE := hide he
    have HF := hide hf
    have HB := hide hb
    clear hn hr hc he hf hv hb
    go_enter Try.func15, Try.ntmps15
    go_wp2_with (first | (go_at_call 28; refine (Far_any v A n c _ HN.out ((HR.out.below (by (repeat' first | exact zbR _ _ | assumption | refine zbD ?_ | refine zbA ?_ ?_ _ | refine zbS ?_ ?_ _ | refine zbT ?_ (by assumption) ?_ | (simp; done) | (simp; omega) | omega))).mono (by first | (simp; done) | (simp; omega) | omega))).mono ?_; rintro e w2 ⟨rfl, hb2⟩; rw [HF.out]; obtain ⟨hc2, hf2⟩ := bcell hb2; have hz2 : w.heap.size + 1 < w2.heap.size := (by have := hb2.size; (try simp at this); omega); have hy2 : w.heap.size < w2.heap.size := (by omega)) | (go_at_call 23; refine (RefCheck_any v A n c _ HN.out ((HR.out.below (by (repeat' first | exact zbR _ _ | assumption | refine zbD ?_ | refine zbA ?_ ?_ _ | refine zbS ?_ ?_ _ | refine zbT ?_ (by assumption) ?_ | (simp; done) | (simp; omega) | omega))).mono (by first | (simp; done) | (simp; omega) | omega))).mono ?_; rintro e w3 ⟨rfl, hb3⟩; rw [HC.out]; obtain ⟨hc3, hf3⟩ := bcell hb3; have hz3 : w.heap.size + 1 < w3.heap.size := (by have := hb3.size; (try simp at this); omega); (try simp only [if_true, Bool.false_eq_true, if_false])) | (go_at_call 25; refine (isBox_any b _).mono ?_; rintro e w4 ⟨rfl, hb4⟩; rw [HB.out]))
    go_ret
    exact ⟨by rw [HE.out]; rfl, by (repeat' first | exact zbR _ _ | assumption | refine zbD ?_ | refine zbA ?_ ?_ _ | refine zbS ?_ ?_ _ | refine zbT ?_ (by assumption) ?_ | (simp; done) | (simp; omega) | omega)⟩

end Go.Proofs.Ytgnobonhohfofaa

namespace Go.Proofs.Ytgnobonhohfofaa
open Go.RowKit
attribute [local go_sem ↓] Go.wp_at_zero Go.wp_at_succ

namespace L
theorem boxB_of {b : Bx} (h : BxOk b) : boxB b = true := by
  obtain ⟨h1, h2, h3, h4, h5, h6⟩ := h
  simp [boxB, spanIn, h1, h2, h3, h4, h5, h6]
theorem checkBE_yes {v : Vw} {b : Bx} (hv : viewB v = true) (hb : boxB b = true) : checkBE v b = 0 := by unfold checkBE; rw [hv, hb]; rfl
theorem callV_ok {v : Vw} {b : Bx} (h : checkBE v b = 0) : callV v b = callOf v b 0 := by unfold callV; rw [if_pos h]
theorem callE_ok {v : Vw} {b : Bx} (h : checkBE v b = 0) : callE v b = if callOf v b 0 = 0 then 3 else 0 := by unfold callE; rw [if_pos h]
theorem validB_ok {v : Vw} {b : Bx} (h : validB v b = true) : viewB v = true ∧ boxB b = true ∧ farB v = false := by
  unfold validB at h
  simp only [Bool.and_eq_true, Bool.not_eq_true'] at h
  exact ⟨h.2.1, h.2.2, h.1⟩
def Larger (b o : Bx) : Prop := o.l ≤ b.l ∧ b.r ≤ o.r ∧ o.b ≤ b.b ∧ b.t ≤ o.t ∧ BxOk o
theorem larger_cases {v : Vw} (hv : viewB v = true) {b o : Bx} (hb : boxB b = true) (h : Larger b o) :
    (callV v b = 0 ∧ callE v b = 3 ∧ callV v o = 0 ∧ callE v o = 3) ∨ (callV v b = 1 ∧ callE v b = 0 ∧ callV v o = 1 ∧ callE v o = 0) ∨ (callV v b = 2 ∧ callE v b = 0 ∧ callV v o = 2 ∧ callE v o = 0) ∨ (callV v b ≠ 1 ∧ callE v b = 0 ∧ callV v o ≠ 2 ∧ callE v o = 0) := by
  obtain ⟨h1, h2, h3, h4, h5⟩ := h
  have c1 := checkBE_yes hv hb
  have c2 := checkBE_yes hv (boxB_of h5)
  obtain ⟨a1, a2, a3⟩ := larger (viewB_ok hv) h1 h2 h3 h4 0
  rw [callV_ok c1, callE_ok c1, callV_ok c2, callE_ok c2]
  by_cases hz : callOf v b 0 = 0
  · exact .inl ⟨hz, by rw [if_pos hz], a1.1 hz, by rw [if_pos (a1.1 hz)]⟩
  · have hz' : callOf v o 0 ≠ 0 := fun e => hz (a1.2 e)
    rw [if_neg hz, if_neg hz']
    by_cases h1' : callOf v b 0 = 1
    · exact .inr (.inl ⟨h1', rfl, a2 h1', rfl⟩)
    · by_cases h2' : callOf v o 0 = 2
      · exact .inr (.inr (.inl ⟨a3 h2', rfl, h2', rfl⟩))
      · exact .inr (.inr (.inr ⟨h1', rfl, h2', rfl⟩))
end L

theorem Call_ints (v : L.Vw) (A : Option Addr) (n c : Nat) (l r b t : Int) (w : World) (hn : v.ss.length = n) (hr : RdS w w.heap.size A v.ss) :
    Calls Try.prog 17 #[.agg #[.int .i64 v.size, .slice A n c, .int .i64 v.wrong, .int .i64 v.hxl, .int .i64 v.hxh, .int .i64 v.hyl, .int .i64 v.hyh], .agg #[.int .i64 l, .int .i64 r, .int .i64 b, .int .i64 t]] w fun e w' => e = .returned (.tuple #[.int .i64 (L.callV v ⟨l, r, b, t⟩), .int .i64 (L.callE v ⟨l, r, b, t⟩)]) ∧ Below w.heap.size w w' :=
  Call_any v A n c ⟨l, r, b, t⟩ w hn hr
set_option maxRecDepth 100000 in
set_option maxHeartbeats 3200000 in
theorem largerLaw_out (v : L.Vw) (A : Option Addr) (n c : Nat) (b m : L.Bx) (w : World) (hn : v.ss.length = n) (hr : RdS w w.heap.size A v.ss) (h : L.validB v b = false ∨ (L.validB v b = true ∧ L.boxB m = false)) :
    Calls Try.prog 5 #[.agg #[.int .i64 v.size, .slice A n c, .int .i64 v.wrong, .int .i64 v.hxl, .int .i64 v.hxh, .int .i64 v.hyl, .int .i64 v.hyh], .agg #[.int .i64 b.l, .int .i64 b.r, .int .i64 b.b, .int .i64 b.t], .agg #[.int .i64 m.l, .int .i64 m.r, .int .i64 m.b, .int .i64 m.t]] w fun e w' => e = .returned (.bool true) ∧ Below w.heap.size w w' := by
  have HN := hide hn
  have HR := hide hr
  clear hn hr
  rcases h with h | ⟨h, hm⟩
  · have H := hide h
    clear h
    go_enter Try.func5, Try.ntmps5
    go_wp2_with (first | (go_at_call 15; refine (valid_any v A n c b _ HN.out ((HR.out.below (by (repeat' first | exact zbR _ _ | assumption | refine zbD ?_ | refine zbA ?_ ?_ _ | refine zbS ?_ ?_ _ | refine zbT ?_ (by assumption) ?_ | (simp; done) | (simp; omega) | omega))).mono (by first | (simp; done) | (simp; omega) | omega))).mono ?_; rintro e w2 ⟨rfl, hb2⟩; rw [H.out]; obtain ⟨hc2, hf2⟩ := bcell hb2; have q2 := hb2.size; (try simp only [World.size_alloc] at q2); have z2_0 : w.heap.size < w2.heap.size := (by omega); have z2_1 : w.heap.size + 1 < w2.heap.size := (by omega); have z2_2 : w.heap.size + 1 + 1 < w2.heap.size := (by omega)) | (go_at_call 16; refine (works_any _).mono ?_; rintro e w3 ⟨rfl, hb3⟩))
    go_ret
    exact ⟨rfl, by (repeat' first | exact zbR _ _ | assumption | refine zbD ?_ | refine zbA ?_ ?_ _ | refine zbS ?_ ?_ _ | refine zbT ?_ (by assumption) ?_ | (simp; done) | (simp; omega) | omega)⟩
  · have H := hide h
    have HM := hide hm
    clear h hm
    go_enter Try.func5, Try.ntmps5
    go_wp2_with (first | (go_at_call 15; refine (valid_any v A n c b _ HN.out ((HR.out.below (by (repeat' first | exact zbR _ _ | assumption | refine zbD ?_ | refine zbA ?_ ?_ _ | refine zbS ?_ ?_ _ | refine zbT ?_ (by assumption) ?_ | (simp; done) | (simp; omega) | omega))).mono (by first | (simp; done) | (simp; omega) | omega))).mono ?_; rintro e w2 ⟨rfl, hb2⟩; rw [H.out]; obtain ⟨hc2, hf2⟩ := bcell hb2; have q2 := hb2.size; (try simp only [World.size_alloc] at q2); have z2_0 : w.heap.size < w2.heap.size := (by omega); have z2_1 : w.heap.size + 1 < w2.heap.size := (by omega); have z2_2 : w.heap.size + 1 + 1 < w2.heap.size := (by omega)) | (go_at_call 25; refine (isBox_any m _).mono ?_; rintro e w4 ⟨rfl, hb4⟩; rw [HM.out]; obtain ⟨hc4, hf4⟩ := bcell hb4; have q4 := hb4.size; (try simp only [World.size_alloc] at q4); have z4_0 : w.heap.size < w4.heap.size := (by omega); have z4_1 : w.heap.size + 1 < w4.heap.size := (by omega); have z4_2 : w.heap.size + 1 + 1 < w4.heap.size := (by omega)) | (go_at_call 16; refine (works_any _).mono ?_; rintro e w3 ⟨rfl, hb3⟩))
    go_ret
    exact ⟨rfl, by (repeat' first | exact zbR _ _ | assumption | refine zbD ?_ | refine zbA ?_ ?_ _ | refine zbS ?_ ?_ _ | refine zbT ?_ (by assumption) ?_ | (simp; done) | (simp; omega) | omega)⟩

set_option maxRecDepth 100000 in
set_option maxHeartbeats 3200000 in
theorem largerLaw_in (v : L.Vw) (A : Option Addr) (n c : Nat) (b m : L.Bx) (w : World) (hn : v.ss.length = n) (hr : RdS w w.heap.size A v.ss) (h : L.validB v b = true) (hm : L.boxB m = true) :
    Calls Try.prog 5 #[.agg #[.int .i64 v.size, .slice A n c, .int .i64 v.wrong, .int .i64 v.hxl, .int .i64 v.hxh, .int .i64 v.hyl, .int .i64 v.hyh], .agg #[.int .i64 b.l, .int .i64 b.r, .int .i64 b.b, .int .i64 b.t], .agg #[.int .i64 m.l, .int .i64 m.r, .int .i64 m.b, .int .i64 m.t]] w fun e w' => e = .returned (.bool true) ∧ Below w.heap.size w w' := by
  have HN := hide hn
  have HR := hide hr
  have H := hide h
  have HM := hide hm
  obtain ⟨b1, b2, b3, b4, b5, b6⟩ := L.boxB_ok (L.validB_ok h).2.1
  obtain ⟨m1, m2, m3, m4, m5, m6⟩ := L.boxB_ok hm
  clear hn hr h hm
  go_enter Try.func5, Try.ntmps5
  go_upto_region 3 with (first | (go_at_call 15; refine (valid_any v A n c b _ HN.out ((HR.out.below (by (repeat' first | exact zbR _ _ | assumption | refine zbD ?_ | refine zbA ?_ ?_ _ | refine zbS ?_ ?_ _ | refine zbT ?_ (by assumption) ?_ | (simp; done) | (simp; omega) | omega))).mono (by first | (simp; done) | (simp; omega) | omega))).mono ?_; rintro e w2 ⟨rfl, hb2⟩; rw [H.out]; obtain ⟨hc2, hf2⟩ := bcell hb2; have q2 := hb2.size; (try simp only [World.size_alloc] at q2); have z2_0 : w.heap.size < w2.heap.size := (by omega); have z2_1 : w.heap.size + 1 < w2.heap.size := (by omega); have z2_2 : w.heap.size + 1 + 1 < w2.heap.size := (by omega)) | (go_at_call 25; refine (isBox_any m _).mono ?_; rintro e w4 ⟨rfl, hb4⟩; rw [HM.out]; obtain ⟨hc4, hf4⟩ := bcell hb4; have q4 := hb4.size; (try simp only [World.size_alloc] at q4); have z4_0 : w.heap.size < w4.heap.size := (by omega); have z4_1 : w.heap.size + 1 < w4.heap.size := (by omega); have z4_2 : w.heap.size + 1 + 1 < w4.heap.size := (by omega)))
  go_cut [7] from 22 to 42 (fun v7 wx => ∃ (q : Nat) (x1 x2 x3 x4 : Int), v7 = .pointer (some ⟨q, 0, none⟩) ∧ Hid (L.Larger b ⟨x1, x2, x3, x4⟩) ∧ Hid (wx.heap[q]? = some (.cells #[.int .i64 x1, .int .i64 x2, .int .i64 x3, .int .i64 x4] 28 (0, 0))) ∧ Hid (w4.heap.size ≤ q ∧ Below w4.heap.size w4 wx))
  case first =>
    go_wp2
    all_goals
      go_meet
      refine ⟨_, _, _, _, _, rfl, ?_, hide (World.alloc_heap_new _ _), hide ⟨Nat.le_refl _, (Below.refl _ _).alloc (Nat.le_refl _) _⟩⟩
      exact hide ⟨by dsimp only; omega, by dsimp only; omega, by dsimp only; omega, by dsimp only; omega, ⟨by dsimp only; omega, by dsimp only; omega, by dsimp only; omega, by dsimp only; omega, by dsimp only; omega, by dsimp only; omega⟩⟩
  case rest =>
    obtain ⟨q, x1, x2, x3, x4, rfl, HL, HQ, HW⟩ := hcut
    obtain ⟨hq, hW⟩ := HW.out
    obtain ⟨hc5, hf5⟩ := bcell hW
    have q5 := hW.size
    have o1 := (blk_cell HQ.out 0).trans rfl
    have o2 := (blk_cell HQ.out 1).trans rfl
    have o3 := (blk_cell HQ.out 2).trans rfl
    have o4 := (blk_cell HQ.out 3).trans rfl
    have lq : q < wc.heap.size := blk_lt HQ.out
    have y0 : w.heap.size < wc.heap.size := by omega
    have y1 : w.heap.size + 1 < wc.heap.size := by omega
    have HWW := hide hW
    rcases L.larger_cases (L.validB_ok H.out).1 (L.validB_ok H.out).2.1 HL.out with ⟨e1, e2, e3, e4⟩ | ⟨e1, e2, e3, e4⟩ | ⟨e1, e2, e3, e4⟩ | ⟨e1, e2, e3, e4⟩
    rotate_left 3
    · have d1 : (L.callV v b == 1) = false := by simpa using e1
      have d2 : (L.callV v ⟨x1, x2, x3, x4⟩ == 2) = false := by simpa using e3
      have d3 : (L.callV v b != 1) = true := by simpa using e1
      have d4 : (L.callV v ⟨x1, x2, x3, x4⟩ != 2) = true := by simpa using e3
      have E2 := hide e2
      have E4 := hide e4
      clear e1 e2 e3 e4
      go_wp2_with (first | (go_at_call 17; refine (Call_ints v A n c _ _ _ _ _ HN.out ((HR.out.below (by (repeat' first | exact zbR _ _ | assumption | refine zbD ?_ | refine zbA ?_ ?_ _ | refine zbS ?_ ?_ _ | refine zbT ?_ (by assumption) ?_ | (simp; done) | (simp; omega) | omega))).mono (by first | (simp; done) | (simp; omega) | omega))).mono ?_; rintro e w6 ⟨rfl, hb6⟩; (first | rw [E2.out] | rw [E4.out]); obtain ⟨hc6, hf6⟩ := bcell hb6; have q6 := hb6.size; (try simp only [World.size_alloc] at q6); have z6_0 : w.heap.size < w6.heap.size := (by omega); have z6_1 : q < w6.heap.size := (by omega)) | (go_at_call 16; refine (works_any _).mono ?_; rintro e w3 ⟨rfl, hb3⟩))
      go_ret
      exact ⟨rfl, by (repeat' first | exact zbR _ _ | assumption | refine zbD ?_ | refine zbA ?_ ?_ _ | refine zbS ?_ ?_ _ | refine zbT ?_ (by assumption) ?_ | (simp; done) | (simp; omega) | omega)⟩
    all_goals
      have E1 := hide e1
      have E2 := hide e2
      have E3 := hide e3
      have E4 := hide e4
      clear e1 e2 e3 e4
      go_wp2_with (first | (go_at_call 17; refine (Call_ints v A n c _ _ _ _ _ HN.out ((HR.out.below (by (repeat' first | exact zbR _ _ | assumption | refine zbD ?_ | refine zbA ?_ ?_ _ | refine zbS ?_ ?_ _ | refine zbT ?_ (by assumption) ?_ | (simp; done) | (simp; omega) | omega))).mono (by first | (simp; done) | (simp; omega) | omega))).mono ?_; rintro e w6 ⟨rfl, hb6⟩; (first | rw [E1.out, E2.out] | rw [E3.out, E4.out]); obtain ⟨hc6, hf6⟩ := bcell hb6; have q6 := hb6.size; (try simp only [World.size_alloc] at q6); have z6_0 : w.heap.size < w6.heap.size := (by omega); have z6_1 : q < w6.heap.size := (by omega)) | (go_at_call 16; refine (works_any _).mono ?_; rintro e w3 ⟨rfl, hb3⟩))
      go_ret
      exact ⟨rfl, by (repeat' first | exact zbR _ _ | assumption | refine zbD ?_ | refine zbA ?_ ?_ _ | refine zbS ?_ ?_ _ | refine zbT ?_ (by assumption) ?_ | (simp; done) | (simp; omega) | omega)⟩

end Go.Proofs.Ytgnobonhohfofaa

namespace Go.Proofs.Ytgnobonhohfofaa
open Go.ChangeShapes Go.WideShapes Go.ChangeAt Go.RowKit Go.Deep Go.Joins

theorem largerLaw_any (v : L.Vw) (A : Option Addr) (n c : Nat) (b m : L.Bx) (w : World) (hn : v.ss.length = n) (hr : RdS w w.heap.size A v.ss) :
    Calls Try.prog 5 #[.agg #[.int .i64 v.size, .slice A n c, .int .i64 v.wrong, .int .i64 v.hxl, .int .i64 v.hxh, .int .i64 v.hyl, .int .i64 v.hyh], .agg #[.int .i64 b.l, .int .i64 b.r, .int .i64 b.b, .int .i64 b.t], .agg #[.int .i64 m.l, .int .i64 m.r, .int .i64 m.b, .int .i64 m.t]] w fun e w' => e = .returned (.bool true) ∧ Below w.heap.size w w' := by
  cases h : L.validB v b
  · exact largerLaw_out v A n c b m w hn hr (.inl h)
  · cases hm : L.boxB m
    · exact largerLaw_out v A n c b m w hn hr (.inr ⟨h, hm⟩)
    · exact largerLaw_in v A n c b m w hn hr h hm

theorem Try.ownLinesLarger : ownKnob Try.prog.godebug = none := by kernel_rfl

set_option maxRecDepth 100000 in
theorem linesLarger_call (H : Type) (enc : TypeId × Value → H) (W : World) (base : Nat) (args : Array Value) (ds : List (DataW H)) (p : List MemPlace) (hval : ∀ (j : Nat) t v, Try.f5.params[j]? = some t → args[j]? = some v → Value.okWide Try.prog W .any base t v)
    (hA : DataW.TrodAll enc Try.prog W 0 (fun _ => true) true Try.f5.params.toList args.toList ds p) : Calls Try.prog 5 args W fun e W' => e = .returned (.bool true) ∧ Below W.heap.size W W' := by
  rw [Try.params5] at hA hval
  obtain ⟨v0, v1, v2, d0, d1, d2, p0, p1, p2, rfl, rfl, rfl, h0, h1, h2⟩ := trodAll_three hA
  obtain ⟨x, A, n, c, rfl, _, _, hn, hr, _, _⟩ := open_view (hval 0 26 v0 rfl rfl) h0
  obtain ⟨b, rfl, _⟩ := open_box (hval 1 28 v1 rfl rfl) h1
  obtain ⟨m, rfl, _⟩ := open_box (hval 2 28 v2 rfl rfl) h2
  exact largerLaw_any x A n c b m W hn hr

set_option maxRecDepth 100000 in
theorem LinesLarger_holds : Rows.LinesLargerSaid :=
  OpenClaim.holds_of_wide (p := Try.pinned) (s := Rows.linesLargerSpec) (c := Rows.linesLargerRow) 5 Try.f5 rfl rfl rfl rfl rfl rfl rfl ⟨rfl, rfl, rfl, rfl, rfl⟩ rfl rfl rfl rfl rfl (by kernel_rfl) Try.func5 (by kernel_rfl)
    (of_decide_eq_true (by kernel_rfl)) (by unfold Func.isWrapper; first | (rw [if_pos (by decide +kernel)]; kernel_rfl) | (rw [if_neg (by decide +kernel)]; exact ⟨rfl, rfl⟩))
    (fun os started H enc _ => law_lift (C := Try.checked) (F := 5) (fn := Try.f5) (s := Rows.linesLargerSpec) (bt := 4) started Try.ownLinesLarger (by kernel_rfl) Try.func5 (by kernel_rfl) Try.underlying4 rfl laidOut (of_decide_eq_true (by kernel_rfl))
      (fun ds hds => match ds, hds with | [_, _, _], _ => rfl)
      (ChangeSpec.witness6 (enc := enc) (C := Try.checked) false ⟨#[], #[.agg #[.int .i64 0, .slice none 0 0, .int .i64 0, .int .i64 0, .int .i64 0, .int .i64 0, .int .i64 0], .agg #[.int .i64 0, .int .i64 0, .int .i64 0, .int .i64 0], .agg #[.int .i64 0, .int .i64 0, .int .i64 0, .int .i64 0]], []⟩ 8 (by kernel_rfl) (by kernel_rfl) (by kernel_rfl) (by kernel_rfl))
      (fun W base args ds p hval hA _ => linesLarger_call H enc W base args ds p hval hA) _ _ _)

end Go.Proofs.Ytgnobonhohfofaa
