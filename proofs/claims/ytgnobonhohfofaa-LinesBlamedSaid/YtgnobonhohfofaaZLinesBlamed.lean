/-
  For every view and every mark the law LinesBlamed returns true and leaves its arguments as they were. No condition.
-/
import Derived.Deep.CutRange
import Derived.Deep.DeepCutAuto
import Derived.Deep.RegionHeld3
import Derived.KernelRfl
import Derived.Laws.OwnMore
import Derived.RangeFuncBox
import Derived.Test.YtgnobonhohfofaaZB01
import Derived.Test.YtgnobonhohfofaaZB02
namespace Go.Proofs.Ytgnobonhohfofaa
open Go.RowKit
attribute [local go_sem ↓] Go.wp_at_zero Go.wp_at_succ

theorem blk_new2 {w : World} {X Y : Obj} : ((w.alloc X).alloc Y).heap[w.heap.size + 1]? = some Y := by
  have := World.alloc_heap_new (w.alloc X) Y
  rwa [World.size_alloc] at this
theorem L.wrongFrom_take {ss : List L.St} {k : Nat} {s : L.St} (x y : Int) (hk : ss[k]? = some s) : L.wrongFrom x y 0 (ss.take (k + 1)) = L.wrongFrom x y 0 (ss.take k) ++ (if L.off x y 0 s then [(k : Int)] else []) := by
  rw [List.take_add_one, hk, Option.toList_some, L.wrongFrom_append]
  have hl : (ss.take k).length = k := by rw [List.length_take]; have := (List.getElem?_eq_some_iff.1 hk).1; omega
  rw [hl, Nat.zero_add]
  simp only [L.wrongFrom]
theorem L.off_zero (x y : Int) (s : L.St) : L.off x y 0 s = !L.within (s.p * x + s.q * y) s.lo s.hi := by unfold L.off; rw [Int.sub_zero, Int.add_zero]

set_option maxRecDepth 100000 in
set_option maxHeartbeats 3200000 in
theorem refWrong_any (v : L.Vw) (A : Option Addr) (n c : Nat) (x y : Int) (w : World) (hn : v.ss.length = n) (hr : RdS w w.heap.size A v.ss) (ho : ∀ s ∈ v.ss, L.StOk s) (h8 : n ≤ 8) (hx0 : 0 ≤ x) (hx1 : x ≤ 40) (hy0 : 0 ≤ y) (hy1 : y ≤ 40) :
    Calls Try.prog 50 #[.agg #[.int .i64 v.size, .slice A n c, .int .i64 v.wrong, .int .i64 v.hxl, .int .i64 v.hxh, .int .i64 v.hyl, .int .i64 v.hyh], .int .i64 x, .int .i64 y] w fun e w' => ∃ sv c', e = .returned (.slice sv (L.wrongL v x y).length c') ∧ w'.ownsRow w.heap.size 3 1 (.slice sv (L.wrongL v x y).length c') (L.wrongL v x y).length (flatI (L.wrongL v x y)) ∧ Below w.heap.size w w' := by
  have HN := hide hn
  have HR := hide hr
  have HO := hide ho
  clear hn hr ho
  go_enter Try.func50, Try.ntmps50
  go_wp2
  go_loopw [7, 8] (fun m i wr => ∃ j : Nat, j ≤ n ∧ i = .int .i64 j ∧ (∃ sv c', m = .slice sv (L.wrongFrom x y 0 (v.ss.take j)).length c' ∧ Hid (wr.ownsRow (w.heap.size + 1) 3 1 (.slice sv (L.wrongFrom x y 0 (v.ss.take j)).length c') (L.wrongFrom x y 0 (v.ss.take j)).length (flatI (L.wrongFrom x y 0 (v.ss.take j))))) ∧ Below (w.heap.size + 1) (w.alloc (.cells #[.int .i64 v.size, .slice A n c, .int .i64 v.wrong, .int .i64 v.hxl, .int .i64 v.hxh, .int .i64 v.hyl, .int .i64 v.hyh] 26)) wr) (fun _ i _ => n - (intOf i).toNat)
  case atStart => exact ⟨0, by omega, rfl, ⟨none, 0, rfl, hide (World.ownsRow_nil _ _ _ _)⟩, by (repeat' first | exact zbR _ _ | assumption | refine zbD ?_ | refine zbA ?_ ?_ _ | refine zbS ?_ ?_ _ | refine zbT ?_ (by assumption) ?_ | (simp; done) | (simp; omega) | omega)⟩
  case round =>
    obtain ⟨j, hj, rfl, ⟨sv, c', rfl, hown⟩, hB⟩ := hrel
    have hBs := hB.size
    simp only [World.size_alloc] at hBs
    have hB0 : Below w.heap.size w wr := ((Below.refl _ w).alloc (Nat.le_refl _) _).trans (hB.mono (by omega))
    have k1 : wr.cell? ⟨w.heap.size, 1, none⟩ = some (.slice A n c) := (hB.cell (p := ⟨w.heap.size, 1, none⟩) (by show w.heap.size < _; omega)).trans (zcA _ _ _ _ rfl)
    have hm : (L.wrongFrom x y 0 (v.ss.take j)).length ≤ 8 := by
      rw [L.wrongFrom_length]; have := L.many_take_le v.ss j x y 0; omega
    by_cases hlt : j < n
    · obtain ⟨s, hs⟩ : ∃ s, v.ss[j]? = some s := ⟨_, List.getElem?_eq_getElem (by have := HN.out; omega)⟩
      obtain ⟨b, o, hA, hbB, d0, d1, d2, d3⟩ := (HR.out.below hB0) j s hs
      subst hA
      obtain ⟨p0, p1, q0, q1, l0, lh, h1⟩ := HO.out s (List.mem_of_getElem? hs)
      obtain ⟨m0, m1⟩ : -120 ≤ s.p * x ∧ s.p * x ≤ 120 := by have := L.mul_bd p0 p1 hx0 hx1; omega
      obtain ⟨m2, m3⟩ : -120 ≤ s.q * y ∧ s.q * y ≤ 120 := by have := L.mul_bd q0 q1 hy0 hy1; omega
      have HM := hide (L.wrongFrom_take x y hs)
      have HZ := hide (L.off_zero x y s)
      clear hs
      have hlt' : (j : Int) < (n : Int) := by omega
      have hj0 : (0 : Int) ≤ (j : Int) := by omega
      cases hv : L.within (s.p * x + s.q * y) s.lo s.hi
      · have HE : Hid (L.wrongFrom x y 0 (v.ss.take (j + 1)) = L.wrongFrom x y 0 (v.ss.take j) ++ [(j : Int)]) := hide (by rw [HM.out, HZ.out, hv]; rfl)
        have HL := hide (show (L.wrongFrom x y 0 (v.ss.take (j + 1))).length = (L.wrongFrom x y 0 (v.ss.take j)).length + 1 by rw [HE.out, List.length_append]; rfl)
        go_wp2_with (first | (go_at_call 57; refine (refWithin_any _ _ _ _).mono ?_; rintro e w3 ⟨rfl, rfl⟩; rw [hv]) | (refine wpList_app_at rfl (.tmp 37) (.tmp 39) rfl (w.heap.size + 1) _ (L.wrongFrom x y 0 (v.ss.take j)) _ rfl (owns_below hown.out (((Below.refl _ wr).alloc (Nat.le_refl _) _).alloc (by first | (simp; done) | (simp; omega) | omega) _)) (some ⟨wr.heap.size + 1, 0, none⟩) 1 1 [(j : Int)] rfl rfl (rdI_one blk_new2) (fun e => by cases e) (by omega) (by omega) (by first | (simp; done) | (simp; omega) | omega) ?_; intro A2 c2 w5 hown2 hgrow; have hg5 := grown_below (B := w.heap.size + 1) hgrow (by first | (simp; done) | (simp; omega) | omega) (fun g hg => (hown.out.lt g hg).1); have HO2 := hide hown2; clear hown2 hgrow))
        go_roundw
        case rel => exact ⟨j + 1, by omega, by go_num, ⟨A2, c2, by rw [HL.out], hide (by rw [HL.out, HE.out]; exact HO2.out)⟩, (hB.trans (((Below.refl _ wr).alloc (by omega) _).alloc (by simp; omega) _)).trans hg5⟩
        case measure => simp [intOf]; omega
      · have HE : Hid (L.wrongFrom x y 0 (v.ss.take (j + 1)) = L.wrongFrom x y 0 (v.ss.take j)) := hide (by rw [HM.out, HZ.out, hv]; simp)
        go_wp2_with (go_at_call 57; refine (refWithin_any _ _ _ _).mono ?_; rintro e w3 ⟨rfl, rfl⟩; rw [hv])
        go_roundw
        case rel => exact ⟨j + 1, by omega, by go_num, ⟨sv, c', by rw [HE.out], hide (by rw [HE.out]; exact owns_below hown.out ((Below.refl _ wr).alloc (Nat.le_refl _) _))⟩, by (repeat' first | exact zbR _ _ | assumption | refine zbD ?_ | refine zbA ?_ ?_ _ | refine zbS ?_ ?_ _ | refine zbT ?_ (by assumption) ?_ | (simp; done) | (simp; omega) | omega)⟩
        case measure => simp [intOf]; omega
    · have hjn : j = n := by omega
      subst hjn
      have HE : Hid (L.wrongFrom x y 0 (v.ss.take j) = L.wrongL v x y) := hide (by rw [List.take_of_length_le (by have := HN.out; omega)]; rfl)
      go_wp2_with fail
      go_ret
      refine ⟨sv, c', ?_, ?_, hB0⟩
      · rw [← HE.out]; rfl
      · rw [← HE.out]; exact owns_mono hown.out (by omega)

end Go.Proofs.Ytgnobonhohfofaa

namespace Go.Proofs.Ytgnobonhohfofaa
open Go.RowKit
attribute [local go_sem ↓] Go.wp_at_zero Go.wp_at_succ

set_option maxRecDepth 100000 in
set_option maxHeartbeats 3200000 in
theorem wrongAbout_any (v : L.Vw) (A : Option Addr) (n c : Nat) (x y : Int) (w : World) (hn : v.ss.length = n) (hr : RdS w w.heap.size A v.ss) (ho : ∀ s ∈ v.ss, L.StOk s) (h8 : n ≤ 8) (hx0 : 0 ≤ x) (hx1 : x ≤ 40) (hy0 : 0 ≤ y) (hy1 : y ≤ 40) :
    Calls Try.prog 60 #[.agg #[.int .i64 v.size, .slice A n c, .int .i64 v.wrong, .int .i64 v.hxl, .int .i64 v.hxh, .int .i64 v.hyl, .int .i64 v.hyh], .int .i64 x, .int .i64 y] w fun e w' => ∃ sv c', e = .returned (.slice sv (L.wrongL v x y).length c') ∧ w'.ownsRow w.heap.size 3 1 (.slice sv (L.wrongL v x y).length c') (L.wrongL v x y).length (flatI (L.wrongL v x y)) ∧ Below w.heap.size w w' := by
  have HN := hide hn
  have HR := hide hr
  have HO := hide ho
  clear hn hr ho
  go_enter Try.func60, Try.ntmps60
  go_wp2_with (go_at_call 70; refine (wrongOn_any _ _ _ _).mono ?_; rintro e w' ⟨rfl, rfl⟩)
  obtain ⟨W0, hW0⟩ : ∃ W0, (((w.alloc (.cells #[.int .i64 v.size, .slice A n c, .int .i64 v.wrong, .int .i64 v.hxl, .int .i64 v.hxh, .int .i64 v.hyl, .int .i64 v.hyh] 26)).alloc (.cells #[.int .i64 x] 3)).alloc (.cells #[.int .i64 y] 3)).alloc (.cells #[.int .i64 0] 3) = W0 := ⟨_, rfl⟩
  have g0 : W0.cell? ⟨w.heap.size, 1, none⟩ = some (.slice A n c) := by rw [← hW0]; exact (zcP _ _ _ (by first | (simp; done) | (simp; omega))).trans ((zcP _ _ _ (by first | (simp; done) | (simp; omega))).trans ((zcP _ _ _ (by first | (simp; done) | (simp; omega))).trans ((zcA _ _ _ _ rfl).trans rfl)))
  have g1 : W0.cell? ⟨w.heap.size + 1, 0, none⟩ = some (.int .i64 x) := by rw [← hW0]; exact (zcP _ _ _ (by first | (simp; done) | (simp; omega))).trans ((zcP _ _ _ (by first | (simp; done) | (simp; omega))).trans ((zcA _ _ _ _ (by simp)).trans rfl))
  have g2 : W0.cell? ⟨w.heap.size + 1 + 1, 0, none⟩ = some (.int .i64 y) := by rw [← hW0]; exact (zcP _ _ _ (by first | (simp; done) | (simp; omega))).trans ((zcA _ _ _ _ (by simp)).trans rfl)
  have g3 : W0.cell? ⟨w.heap.size + 1 + 1 + 1, 0, none⟩ = some (.int .i64 0) := by rw [← hW0]; exact (zcA _ _ _ _ (by simp)).trans rfl
  have gs : W0.heap.size = w.heap.size + 1 + 1 + 1 + 1 := by rw [← hW0]; simp
  have gB : Below w.heap.size w W0 := by rw [← hW0]; (repeat' first | exact zbR _ _ | assumption | refine zbD ?_ | refine zbA ?_ ?_ _ | refine zbS ?_ ?_ _ | refine zbT ?_ (by assumption) ?_ | (simp; done) | (simp; omega) | omega)
  (try simp only [World.size_alloc])
  rw [hW0]
  clear hW0
  go_loopw [8, 17] (fun m i wr => ∃ j : Nat, j ≤ n ∧ i = .int .i64 j ∧ (∃ sv c', m = .slice sv (L.wrongFrom x y 0 (v.ss.take j)).length c' ∧ Hid (wr.ownsRow W0.heap.size 3 1 (.slice sv (L.wrongFrom x y 0 (v.ss.take j)).length c') (L.wrongFrom x y 0 (v.ss.take j)).length (flatI (L.wrongFrom x y 0 (v.ss.take j))))) ∧ Below W0.heap.size W0 wr) (fun _ i _ => n - (intOf i).toNat)
  case atStart => exact ⟨0, by omega, rfl, ⟨none, 0, rfl, hide (World.ownsRow_nil _ _ _ _)⟩, Below.refl _ _⟩
  case round =>
    obtain ⟨j, hj, rfl, ⟨sv, c', rfl, hown⟩, hB⟩ := hrel
    have hBs := hB.size
    have hB0 : Below w.heap.size w wr := gB.trans (hB.mono (by omega))
    have k1 : wr.cell? ⟨w.heap.size, 1, none⟩ = some (.slice A n c) := (hB.cell (p := ⟨w.heap.size, 1, none⟩) (by show w.heap.size < _; omega)).trans g0
    have hm : (L.wrongFrom x y 0 (v.ss.take j)).length ≤ 8 := by
      rw [L.wrongFrom_length]; have := L.many_take_le v.ss j x y 0; omega
    by_cases hlt : j < n
    · obtain ⟨s, hs⟩ : ∃ s, v.ss[j]? = some s := ⟨_, List.getElem?_eq_getElem (by have := HN.out; omega)⟩
      obtain ⟨b, o, hA, hbB, d0, d1, d2, d3⟩ := (HR.out.below hB0) j s hs
      subst hA
      have hso := HO.out s (List.mem_of_getElem? hs)
      have HM := hide (L.wrongFrom_take x y hs)
      clear hs
      have hlt' : (j : Int) < (n : Int) := by omega
      have hj0 : (0 : Int) ≤ (j : Int) := by omega
      have e0 : wr.cell? ⟨w.heap.size + 1, 0, none⟩ = some (.int .i64 x) := (hB.cell (p := ⟨w.heap.size + 1, 0, none⟩) (by show w.heap.size + 1 < _; omega)).trans g1
      have e1 : wr.cell? ⟨w.heap.size + 1 + 1, 0, none⟩ = some (.int .i64 y) := (hB.cell (p := ⟨w.heap.size + 1 + 1, 0, none⟩) (by show w.heap.size + 1 + 1 < _; omega)).trans g2
      have e2 : wr.cell? ⟨w.heap.size + 1 + 1 + 1, 0, none⟩ = some (.int .i64 0) := (hB.cell (p := ⟨w.heap.size + 1 + 1 + 1, 0, none⟩) (by show w.heap.size + 1 + 1 + 1 < _; omega)).trans g3
      have lw0 : w.heap.size + 1 < wr.heap.size := by omega
      have lw1 : w.heap.size + 1 + 1 < wr.heap.size := by omega
      have lw2 : w.heap.size + 1 + 1 + 1 < wr.heap.size := by omega
      have LS := hide hBs
      have GS := hide gs
      clear hBs gs
      cases hv : L.off x y 0 s
      · have HE : Hid (L.wrongFrom x y 0 (v.ss.take (j + 1)) = L.wrongFrom x y 0 (v.ss.take j)) := hide (by rw [HM.out, hv]; simp)
        go_wp2_with (go_at_call 74; refine (off_any s x y 0 _ _ _ _ hso hx0 hx1 hy0 hy1 (by omega) (by omega) (Nat.lt_of_lt_of_le lw0 (by simp)) (Nat.lt_of_lt_of_le lw1 (by simp)) (Nat.lt_of_lt_of_le lw2 (by simp)) ((zcP _ _ _ lw0).trans e0) ((zcP _ _ _ lw1).trans e1) ((zcP _ _ _ lw2).trans e2)).mono ?_; rintro e w3 ⟨rfl, hb3⟩; rw [hv]; have hb4 := (hB.trans (((Below.refl _ wr).alloc (Nat.le_refl _) _).mono LS.out)).trans (hb3.mono (by have := LS.out; simp; omega)))
        go_roundw
        case rel => exact ⟨j + 1, by omega, by go_num, ⟨sv, c', by rw [HE.out], hide (by rw [HE.out]; exact owns_below hown.out (((Below.refl _ wr).alloc (Nat.le_refl _) _).trans (hb3.mono (by simp))))⟩, hb4⟩
        case measure => simp [intOf]; omega
      · have HE : Hid (L.wrongFrom x y 0 (v.ss.take (j + 1)) = L.wrongFrom x y 0 (v.ss.take j) ++ [(j : Int)]) := hide (by rw [HM.out, hv]; rfl)
        have HL := hide (show (L.wrongFrom x y 0 (v.ss.take (j + 1))).length = (L.wrongFrom x y 0 (v.ss.take j)).length + 1 by rw [HE.out, List.length_append]; rfl)
        go_wp2_with (first | (go_at_call 74; refine (off_any s x y 0 _ _ _ _ hso hx0 hx1 hy0 hy1 (by omega) (by omega) (Nat.lt_of_lt_of_le lw0 (by simp)) (Nat.lt_of_lt_of_le lw1 (by simp)) (Nat.lt_of_lt_of_le lw2 (by simp)) ((zcP _ _ _ lw0).trans e0) ((zcP _ _ _ lw1).trans e1) ((zcP _ _ _ lw2).trans e2)).mono ?_; rintro e w3 ⟨rfl, hb3⟩; rw [hv]; have hb4 := (hB.trans (((Below.refl _ wr).alloc (Nat.le_refl _) _).mono LS.out)).trans (hb3.mono (by have := LS.out; simp; omega)); have HO3 := hide (owns_below hown.out (((Below.refl _ wr).alloc (Nat.le_refl _) _).trans (hb3.mono (by simp))))) | (refine wpList_app_at rfl (.tmp 25) (.tmp 27) rfl W0.heap.size _ (L.wrongFrom x y 0 (v.ss.take j)) _ rfl (HO3.out.alloc _) (some ⟨w3.heap.size, 0, none⟩) 1 1 [(j : Int)] rfl rfl (rdI_one (World.alloc_heap_new _ _)) (fun e => by cases e) (by omega) (by omega) (by have := hb4.size; simp; omega) ?_; intro A2 c2 w5 hown2 hgrow; have hg5 := grown_below (B := W0.heap.size) hgrow (by have := hb4.size; simp; omega) (fun g hg => (HO3.out.lt g hg).1); have HO2 := hide hown2; clear hown2 hgrow))
        go_roundw
        case rel => exact ⟨j + 1, by omega, by go_num, ⟨A2, c2, by rw [HL.out], hide (by rw [HL.out, HE.out]; exact HO2.out)⟩, (hb4.trans ((Below.refl _ w3).alloc hb4.size _)).trans hg5⟩
        case measure => simp [intOf]; omega
    · have hjn : j = n := by omega
      subst hjn
      have HE : Hid (L.wrongFrom x y 0 (v.ss.take j) = L.wrongL v x y) := hide (by rw [List.take_of_length_le (by have := HN.out; omega)]; rfl)
      go_wp2_with fail
      go_ret
      refine ⟨sv, c', ?_, ?_, hB0⟩
      · rw [← HE.out]; rfl
      · rw [← HE.out]; exact owns_mono hown.out (by omega)

end Go.Proofs.Ytgnobonhohfofaa

namespace Go.Proofs.Ytgnobonhohfofaa
open Go.RowKit
attribute [local go_sem ↓] Go.wp_at_zero Go.wp_at_succ

theorem ret_int {k : IntKind} {a b : Int} (h : a = b) : Ending.returned (.int k a) = .returned (.int k b) := by rw [h]
theorem refFar_any (n lo hi : Int) (w : World) (h0 : 0 ≤ n) (h1 : n ≤ 40) (h2 : 0 ≤ lo) (h3 : lo ≤ 40) (h4 : 0 ≤ hi) (h5 : hi ≤ 40) :
    Calls Try.prog 56 #[.int .i64 n, .int .i64 lo, .int .i64 hi] w fun e w' => e = .returned (.int .i64 (L.far n lo hi)) ∧ w' = w := by
  go_enter Try.func56, Try.ntmps56
  go_wp2
  all_goals
    go_ret
    exact ⟨ret_int (by unfold L.far; (try simp only [Array.getD_eq_getD_getElem?]); omega), rfl⟩

set_option maxHeartbeats 1600000 in
theorem refTouch_any (m : L.Mk) (b : L.Bx) (w : World) (hb : L.BxOk b) (hm : L.MkOk m) :
    Calls Try.prog 21 #[.agg #[.int .i64 m.x, .int .i64 m.y, .int .i64 m.hx, .int .i64 m.hy], .agg #[.int .i64 b.l, .int .i64 b.r, .int .i64 b.b, .int .i64 b.t]] w fun e w' => e = .returned (.bool (L.touch m b)) ∧ Below w.heap.size w w' := by
  obtain ⟨l0, lr, r1, b0, bt, t1⟩ := hb
  obtain ⟨x0, x1, y0, y1, p0, p1, q0, q1⟩ := hm
  obtain ⟨r0, r2⟩ := L.far_bd (d := L.far m.x b.l b.r) rfl x0 x1 l0 lr r1
  obtain ⟨s0, s1⟩ := L.far_bd (d := L.far m.y b.b b.t) rfl y0 y1 b0 bt t1
  obtain ⟨a1, a2⟩ : 0 ≤ (L.far m.x b.l b.r) * (L.far m.x b.l b.r) ∧ (L.far m.x b.l b.r) * (L.far m.x b.l b.r) ≤ 1600 := L.mul_in r0 r2 r0 r2
  obtain ⟨a3, a4⟩ : 0 ≤ (L.far m.x b.l b.r) * (L.far m.x b.l b.r) * m.hy ∧ (L.far m.x b.l b.r) * (L.far m.x b.l b.r) * m.hy ≤ 14400 := L.mul_in a1 a2 (by omega) q1
  obtain ⟨a5, a6⟩ : 0 ≤ (L.far m.x b.l b.r) * (L.far m.x b.l b.r) * m.hy * m.hy ∧ (L.far m.x b.l b.r) * (L.far m.x b.l b.r) * m.hy * m.hy ≤ 129600 := L.mul_in a3 a4 (by omega) q1
  obtain ⟨c1, c2⟩ : 0 ≤ (L.far m.y b.b b.t) * (L.far m.y b.b b.t) ∧ (L.far m.y b.b b.t) * (L.far m.y b.b b.t) ≤ 1600 := L.mul_in s0 s1 s0 s1
  obtain ⟨c3, c4⟩ : 0 ≤ (L.far m.y b.b b.t) * (L.far m.y b.b b.t) * m.hx ∧ (L.far m.y b.b b.t) * (L.far m.y b.b b.t) * m.hx ≤ 14400 := L.mul_in c1 c2 (by omega) p1
  obtain ⟨c5, c6⟩ : 0 ≤ (L.far m.y b.b b.t) * (L.far m.y b.b b.t) * m.hx * m.hx ∧ (L.far m.y b.b b.t) * (L.far m.y b.b b.t) * m.hx * m.hx ≤ 129600 := L.mul_in c3 c4 (by omega) p1
  obtain ⟨e1, e2⟩ : 0 ≤ m.hx * m.hx ∧ m.hx * m.hx ≤ 81 := L.mul_in (by omega) p1 (by omega) p1
  obtain ⟨e3, e4⟩ : 0 ≤ m.hx * m.hx * m.hy ∧ m.hx * m.hx * m.hy ≤ 729 := L.mul_in e1 e2 (by omega) q1
  obtain ⟨e5, e6⟩ : 0 ≤ m.hx * m.hx * m.hy * m.hy ∧ m.hx * m.hx * m.hy * m.hy ≤ 6561 := L.mul_in e3 e4 (by omega) q1
  have HE := hide (show L.touch m b = decide ((L.far m.x b.l b.r) * (L.far m.x b.l b.r) * m.hy * m.hy + (L.far m.y b.b b.t) * (L.far m.y b.b b.t) * m.hx * m.hx ≤ m.hx * m.hx * m.hy * m.hy) by unfold L.touch; rw [L.sq_mul, L.sq_mul (L.far m.y b.b b.t), L.sq_mul m.hx, Int.mul_assoc ((L.far m.x b.l b.r) * (L.far m.x b.l b.r)), Int.mul_assoc ((L.far m.y b.b b.t) * (L.far m.y b.b b.t)), Int.mul_assoc (m.hx * m.hx)])
  go_enter Try.func21, Try.ntmps21
  go_upto_region 1 with fail
  go_quiet ((go_at_call 56; exact Calls.quiet_of_same (refFar_any _ _ _ _ (by omega) (by omega) (by omega) (by omega) (by omega) (by omega))))
  all_goals
    go_wp2
    go_ret
    exact ⟨by rw [HE.out]; rfl, below_drewN (by (repeat' first | exact zbR _ _ | assumption | refine zbD ?_ | refine zbA ?_ ?_ _ | refine zbS ?_ ?_ _ | refine zbT ?_ (by assumption) ?_ | (simp; done) | (simp; omega) | omega)) _⟩

end Go.Proofs.Ytgnobonhohfofaa

namespace Go.Proofs.Ytgnobonhohfofaa
open Go

theorem drop_get {α : Type} {l rest : List α} {x : α} : ∀ {i : Nat}, l.drop i = x :: rest → l.toArray[i]? = some x := by
  intro i h
  have : l[i]? = some x := by
    have := congrArg List.head? h
    simpa [List.head?_drop] using this
  simpa using this

theorem takeL {P : Program} {md : Region.Mode} {l rest : List Oper} {Q : Exit → Act → World → Prop} {S : World → Prop} {oi : Oper} {v : Value} {fuel : Nat} {listed : Array Bool} {a : Act} {w : World} (i : Nat) (hi : l.drop i = oi :: rest)
    (hs : Region.noSelect l.toArray = true) (hf : Region.free md l.toArray listed i = true) (hr : (Region.ready md l.toArray listed).contains i = true)
    (hQ : ∀ c a w, Q (.panic c) (a.put oi.dst v) w → Q (.panic c) a w) (hy : YieldsIf P l.toArray S oi v a) (hS : S w)
    (h : wpAnyH P md l.toArray Q S fuel (listed.setIfInBounds i true) (a.put oi.dst v) w) : wpAnyH P md l.toArray Q S (fuel + 1) listed a w :=
  wpAnyH_take (drop_get hi) hs hf hr hQ hy hS h

theorem tL {P : Program} {md : Region.Mode} {l rest : List Oper} {Q : Exit → Act → World → Prop} {S : World → Prop} {oi : Oper} {v : Value} {fuel : Nat} {listed : Array Bool} {a : Act} {w : World} (i : Nat) (hi : l.drop i = oi :: rest)
    (hb : (Region.noSelect l.toArray && Region.free md l.toArray listed i && (Region.ready md l.toArray listed).contains i) = true)
    (hQ : ∀ c a w, Q (.panic c) (a.put oi.dst v) w → Q (.panic c) a w) (hy : YieldsIf P l.toArray S oi v a) (hS : S w)
    (h : wpAnyH P md l.toArray Q S fuel (listed.setIfInBounds i true) (a.put oi.dst v) w) : wpAnyH P md l.toArray Q S (fuel + 1) listed a w := by
  rw [Bool.and_eq_true, Bool.and_eq_true] at hb
  exact takeL i hi hb.1.1 hb.1.2 hb.2 hQ hy hS h
theorem zl {α : Type} (l : List α) (i : Nat) (a : α) : l.toArray.setIfInBounds i a = (l.set i a).toArray := List.setIfInBounds_toArray l i a
theorem z0 {α : Type} {x : α} {xs : List α} {a : α} : (x :: xs).set 0 a = a :: xs := List.set_cons_zero
theorem z1 {α : Type} {x : α} {xs : List α} {i : Nat} {a : α} : (x :: xs).set (i + 1) a = x :: xs.set i a := List.set_cons_succ

theorem consL {P : Program} {md : Region.Mode} {l rest : List Oper} {Q : Exit → Act → World → Prop} {S : World → Prop} {fuel : Nat} {listed : Array Bool} {a : Act} {w : World} {o : Oper} {rs : List Nat} (i : Nat) (ho : l.drop i = o :: rest)
    (h : ∀ K' : Act → World → Prop, Shut (∀ a w, S w → (S w → wpAnyH P md l.toArray Q S fuel (listed.setIfInBounds i true) a w) → K' a w) → if Region.wanted o (yielded l.toArray a.tmps) = true then Oper.wp P o a w K' Q else K' (a.put o.dst undef) w)
    (hs : AllReadyH P md l.toArray Q S fuel listed a w rs) : AllReadyH P md l.toArray Q S fuel listed a w (i :: rs) :=
  AllReadyH.cons (drop_get ho) h hs

end Go.Proofs.Ytgnobonhohfofaa

namespace Go.Proofs.Ytgnobonhohfofaa
open Go.RowKit
attribute [local go_sem ↓] Go.wp_at_zero Go.wp_at_succ

def L.isMarkB (v : L.Vw) (m : L.Mk) : Bool := L.markB m v.size v.hxl v.hxh v.hyl v.hyh
def L.truthB (v : L.Vw) (m : L.Mk) : Bool := L.isMarkB v m && decide (((L.wrongL v m.x m.y).length : Int) ≤ v.wrong)
theorem L.isMark_bd {v : L.Vw} (hv : L.VwOk v) {m : L.Mk} (h : L.isMarkB v m = true) : L.MkOk m ∧ m.x ≤ v.size ∧ m.y ≤ v.size := by
  unfold L.isMarkB L.markB L.within at h
  simp only [Bool.and_eq_true, decide_eq_true_eq] at h
  obtain ⟨⟨⟨⟨a, b⟩, c, d⟩, e, f⟩, g, i⟩ := h
  have := hv.s1; have := hv.x0; have := hv.x1; have := hv.y0; have := hv.y1; have := hv.xx; have := hv.yy
  exact ⟨⟨a, by omega, c, by omega, by omega, by omega, by omega, by omega⟩, b, d⟩

set_option maxRecDepth 100000 in
set_option maxHeartbeats 3200000 in
theorem isTruth_any (v : L.Vw) (A : Option Addr) (n c : Nat) (m : L.Mk) (w : World) (hv : L.VwOk v) (hn : v.ss.length = n) (hr : RdS w w.heap.size A v.ss) :
    Calls Try.prog 18 #[.agg #[.int .i64 v.size, .slice A n c, .int .i64 v.wrong, .int .i64 v.hxl, .int .i64 v.hxh, .int .i64 v.hyl, .int .i64 v.hyh], .agg #[.int .i64 m.x, .int .i64 m.y, .int .i64 m.hx, .int .i64 m.hy]] w fun e w' => e = .returned (.bool (L.truthB v m)) ∧ Below w.heap.size w w' := by
  have HN := hide hn
  have HR := hide hr
  have HV := hide hv
  clear hn hr hv
  cases hm : L.isMarkB v m
  · have HE := hide (show L.truthB v m = false by unfold L.truthB; rw [hm]; rfl)
    have HM := hide (show L.markB m v.size v.hxl v.hxh v.hyl v.hyh = false from hm)
    clear hm
    go_enter Try.func18, Try.ntmps18
    go_upto_region 1 with fail
    obtain ⟨W0, hW0⟩ : ∃ W0, (w.alloc (.cells #[.int .i64 v.size, .slice A n c, .int .i64 v.wrong, .int .i64 v.hxl, .int .i64 v.hxh, .int .i64 v.hyl, .int .i64 v.hyh] 26)).alloc (.cells #[.int .i64 m.x, .int .i64 m.y, .int .i64 m.hx, .int .i64 m.hy] 30) = W0 := ⟨_, rfl⟩
    rw [hW0]
    obtain ⟨p, hp⟩ : ∃ p, w.heap.size = p := ⟨_, rfl⟩
    obtain ⟨q, hq⟩ : ∃ q, w.heap.size + 1 = q := ⟨_, rfl⟩
    have hS : (fun w' => Below W0.heap.size W0 w' ∧ p < w'.heap.size ∧ q < w'.heap.size ∧ w'.cell? ⟨p, 0, none⟩ = some (.int .i64 v.size) ∧ w'.cell? ⟨p, 1, none⟩ = some (.slice A n c) ∧ w'.cell? ⟨p, 2, none⟩ = some (.int .i64 v.wrong) ∧ w'.cell? ⟨p, 3, none⟩ = some (.int .i64 v.hxl) ∧ w'.cell? ⟨p, 4, none⟩ = some (.int .i64 v.hxh) ∧ w'.cell? ⟨p, 5, none⟩ = some (.int .i64 v.hyl) ∧ w'.cell? ⟨p, 6, none⟩ = some (.int .i64 v.hyh) ∧ w'.cell? ⟨q, 0, none⟩ = some (.int .i64 m.x) ∧ w'.cell? ⟨q, 1, none⟩ = some (.int .i64 m.y) ∧ w'.cell? ⟨q, 2, none⟩ = some (.int .i64 m.hx) ∧ w'.cell? ⟨q, 3, none⟩ = some (.int .i64 m.hy)) W0 := by
      rw [← hW0, ← hp, ← hq]
      refine ⟨Below.refl _ _, (by first | (simp; done) | (simp; omega) | omega), (by first | (simp; done) | (simp; omega) | omega), (zcP _ _ _ (by first | (simp; done) | (simp; omega) | omega)).trans (zcA _ _ _ _ rfl), (zcP _ _ _ (by first | (simp; done) | (simp; omega) | omega)).trans (zcA _ _ _ _ rfl), (zcP _ _ _ (by first | (simp; done) | (simp; omega) | omega)).trans (zcA _ _ _ _ rfl), (zcP _ _ _ (by first | (simp; done) | (simp; omega) | omega)).trans (zcA _ _ _ _ rfl), (zcP _ _ _ (by first | (simp; done) | (simp; omega) | omega)).trans (zcA _ _ _ _ rfl), (zcP _ _ _ (by first | (simp; done) | (simp; omega) | omega)).trans (zcA _ _ _ _ rfl), (zcP _ _ _ (by first | (simp; done) | (simp; omega) | omega)).trans (zcA _ _ _ _ rfl), zcA _ _ _ _ (by simp), zcA _ _ _ _ (by simp), zcA _ _ _ _ (by simp), zcA _ _ _ _ (by simp)⟩
    have hs0 : W0.heap.size = w.heap.size + 1 + 1 := by rw [← hW0]; simp
    have hb0 : Below w.heap.size w W0 := by rw [← hW0]; (repeat' first | exact zbR _ _ | assumption | refine zbD ?_ | refine zbA ?_ ?_ _ | refine zbS ?_ ?_ _ | refine zbT ?_ (by assumption) ?_ | (simp; done) | (simp; omega) | omega)
    rw [hq, hp]
    have hq' : q = p + 1 := by omega
    have HP := hide hp
    have HB0 := hide hb0
    have HS0 := hide hs0
    have HQ := hide hq'
    clear hW0 hp hq hb0 hs0 hq'
    have hkeep : ∀ u u' : World, Below u.heap.size u u' → (Below W0.heap.size W0 u ∧ p < u.heap.size ∧ q < u.heap.size ∧ u.cell? ⟨p, 0, none⟩ = some (.int .i64 v.size) ∧ u.cell? ⟨p, 1, none⟩ = some (.slice A n c) ∧ u.cell? ⟨p, 2, none⟩ = some (.int .i64 v.wrong) ∧ u.cell? ⟨p, 3, none⟩ = some (.int .i64 v.hxl) ∧ u.cell? ⟨p, 4, none⟩ = some (.int .i64 v.hxh) ∧ u.cell? ⟨p, 5, none⟩ = some (.int .i64 v.hyl) ∧ u.cell? ⟨p, 6, none⟩ = some (.int .i64 v.hyh) ∧ u.cell? ⟨q, 0, none⟩ = some (.int .i64 m.x) ∧ u.cell? ⟨q, 1, none⟩ = some (.int .i64 m.y) ∧ u.cell? ⟨q, 2, none⟩ = some (.int .i64 m.hx) ∧ u.cell? ⟨q, 3, none⟩ = some (.int .i64 m.hy)) → (Below W0.heap.size W0 u' ∧ p < u'.heap.size ∧ q < u'.heap.size ∧ u'.cell? ⟨p, 0, none⟩ = some (.int .i64 v.size) ∧ u'.cell? ⟨p, 1, none⟩ = some (.slice A n c) ∧ u'.cell? ⟨p, 2, none⟩ = some (.int .i64 v.wrong) ∧ u'.cell? ⟨p, 3, none⟩ = some (.int .i64 v.hxl) ∧ u'.cell? ⟨p, 4, none⟩ = some (.int .i64 v.hxh) ∧ u'.cell? ⟨p, 5, none⟩ = some (.int .i64 v.hyl) ∧ u'.cell? ⟨p, 6, none⟩ = some (.int .i64 v.hyh) ∧ u'.cell? ⟨q, 0, none⟩ = some (.int .i64 m.x) ∧ u'.cell? ⟨q, 1, none⟩ = some (.int .i64 m.y) ∧ u'.cell? ⟨q, 2, none⟩ = some (.int .i64 m.hx) ∧ u'.cell? ⟨q, 3, none⟩ = some (.int .i64 m.hy)) := by
      rintro u u' hb ⟨hB, l_p, l_q, k0, k1, k2, k3, k4, k5, k6, k7, k8, k9, k10⟩
      exact ⟨hB.trans (hb.mono hB.size), Nat.lt_of_lt_of_le l_p hb.size, Nat.lt_of_lt_of_le l_q hb.size, (hb.cell (p := ⟨p, 0, none⟩) l_p).trans k0, (hb.cell (p := ⟨p, 1, none⟩) l_p).trans k1, (hb.cell (p := ⟨p, 2, none⟩) l_p).trans k2, (hb.cell (p := ⟨p, 3, none⟩) l_p).trans k3, (hb.cell (p := ⟨p, 4, none⟩) l_p).trans k4, (hb.cell (p := ⟨p, 5, none⟩) l_p).trans k5, (hb.cell (p := ⟨p, 6, none⟩) l_p).trans k6, (hb.cell (p := ⟨q, 0, none⟩) l_q).trans k7, (hb.cell (p := ⟨q, 1, none⟩) l_q).trans k8, (hb.cell (p := ⟨q, 2, none⟩) l_q).trans k9, (hb.cell (p := ⟨q, 3, none⟩) l_q).trans k10⟩
    dsimp only at hS
    refine wp_region_held_drew (S := (fun w' => Below W0.heap.size W0 w' ∧ p < w'.heap.size ∧ q < w'.heap.size ∧ w'.cell? ⟨p, 0, none⟩ = some (.int .i64 v.size) ∧ w'.cell? ⟨p, 1, none⟩ = some (.slice A n c) ∧ w'.cell? ⟨p, 2, none⟩ = some (.int .i64 v.wrong) ∧ w'.cell? ⟨p, 3, none⟩ = some (.int .i64 v.hxl) ∧ w'.cell? ⟨p, 4, none⟩ = some (.int .i64 v.hxh) ∧ w'.cell? ⟨p, 5, none⟩ = some (.int .i64 v.hyl) ∧ w'.cell? ⟨p, 6, none⟩ = some (.int .i64 v.hyh) ∧ w'.cell? ⟨q, 0, none⟩ = some (.int .i64 m.x) ∧ w'.cell? ⟨q, 1, none⟩ = some (.int .i64 m.y) ∧ w'.cell? ⟨q, 2, none⟩ = some (.int .i64 m.hx) ∧ w'.cell? ⟨q, 3, none⟩ = some (.int .i64 m.hy))) (by kernel_rfl) ?_ (fun hHeld0 => ?_)
    · (try dsimp only); (first | (go_keep; done) | (go_split_ands; (repeat' apply And.intro) <;> first | (go_keep; done) | (simp [*, zcA, zcP, zfA, zfP]; done) | (simp [zcA, zcP] <;> rfl) | (simp [*, zsS, zsO, zsA]; done) | ((first | refine (hc _ _ ?_).trans ?_ | refine (hf _ _ ?_).trans ?_) <;> first | assumption | (simp; done) | (simp; omega) | omega | (go_keep; done) | (simp [*, zcA, zcP, zfA, zfP]; done) | (simp [zcA, zcP]; rfl)) | (repeat' first | exact zbR _ _ | assumption | refine zbD ?_ | refine zbA ?_ ?_ _ | refine zbS ?_ ?_ _ | refine zbT ?_ (by assumption) ?_ | (simp; done) | (simp; omega) | omega)))
    refine tL (v := ?_) 0 rfl (by kernel_rfl) (fun _ _ _ h => h) (Or.inl ⟨by rfl, ?_⟩) (by assumption) ?_; rotate_left
    · (intro w hSw; (try dsimp only at hSw); go_simp; try with_reducible rfl)
    try simp only [Act.put, zl, z0, z1]
    refine tL (v := ?_) 1 rfl (by kernel_rfl) (fun _ _ _ h => h) (Or.inl ⟨by rfl, ?_⟩) (by assumption) ?_; rotate_left
    · (intro w hSw; (try dsimp only at hSw); go_simp; try with_reducible rfl)
    try simp only [Act.put, zl, z0, z1]
    refine wpAnyH_ready (rs := [2]) (by kernel_rfl) (by simp) ?_
    refine consL 2 rfl (fun K hK => ?_) AllReadyH.nil
    go_simp
    (go_at_call 49; refine (isMark_any v A n c m _).mono ?_; rintro e w2 ⟨rfl, hb⟩; rw [HM.out]; have hSn := hkeep _ _ hb (by assumption); (try clear hS); have hS := hSn; clear hSn)
    refine hK.out _ _ ?_ (fun hHeld1 => ?_)
    · (try dsimp only); exact hS
    clear hK K hHeld0
    try simp only [Act.put, zl, z0, z1]
    refine tL (v := ?_) 3 rfl (by kernel_rfl) (fun _ _ _ h => h) (Or.inl ⟨by rfl, ?_⟩) (by assumption) ?_; rotate_left
    · (intro w hSw; (try dsimp only at hSw); go_simp; try with_reducible rfl)
    try simp only [Act.put, zl, z0, z1]
    refine takeL 4 rfl (by kernel_rfl) (by kernel_rfl) (by kernel_rfl) (fun _ _ _ h => h) (Or.inr ⟨by rfl, rfl⟩) (by assumption) ?_
    try simp only [Act.put, zl, z0, z1]
    refine takeL 5 rfl (by kernel_rfl) (by kernel_rfl) (by kernel_rfl) (fun _ _ _ h => h) (Or.inr ⟨by rfl, rfl⟩) (by assumption) ?_
    try simp only [Act.put, zl, z0, z1]
    refine takeL 6 rfl (by kernel_rfl) (by kernel_rfl) (by kernel_rfl) (fun _ _ _ h => h) (Or.inr ⟨by rfl, rfl⟩) (by assumption) ?_
    try simp only [Act.put, zl, z0, z1]
    refine takeL 7 rfl (by kernel_rfl) (by kernel_rfl) (by kernel_rfl) (fun _ _ _ h => h) (Or.inr ⟨by rfl, rfl⟩) (by assumption) ?_
    try simp only [Act.put, zl, z0, z1]
    refine takeL 8 rfl (by kernel_rfl) (by kernel_rfl) (by kernel_rfl) (fun _ _ _ h => h) (Or.inr ⟨by rfl, rfl⟩) (by assumption) ?_
    try simp only [Act.put, zl, z0, z1]
    refine takeL 9 rfl (by kernel_rfl) (by kernel_rfl) (by kernel_rfl) (fun _ _ _ h => h) (Or.inr ⟨by rfl, rfl⟩) (by assumption) ?_
    try simp only [Act.put, zl, z0, z1]
    refine takeL 10 rfl (by kernel_rfl) (by kernel_rfl) (by kernel_rfl) (fun _ _ _ h => h) (Or.inr ⟨by rfl, rfl⟩) (by assumption) ?_
    try simp only [Act.put, zl, z0, z1]
    refine takeL 11 rfl (by kernel_rfl) (by kernel_rfl) (by kernel_rfl) (fun _ _ _ h => h) (Or.inr ⟨by rfl, rfl⟩) (by assumption) ?_
    try simp only [Act.put, zl, z0, z1]
    refine takeL 12 rfl (by kernel_rfl) (by kernel_rfl) (by kernel_rfl) (fun _ _ _ h => h) (Or.inr ⟨by rfl, rfl⟩) (by assumption) ?_
    try simp only [Act.put, zl, z0, z1]
    refine takeL 13 rfl (by kernel_rfl) (by kernel_rfl) (by kernel_rfl) (fun _ _ _ h => h) (Or.inr ⟨by rfl, rfl⟩) (by assumption) ?_
    try simp only [Act.put, zl, z0, z1]
    refine tL (v := ?_) 14 rfl (by kernel_rfl) (fun _ _ _ h => h) (Or.inl ⟨by rfl, ?_⟩) (by assumption) ?_; rotate_left
    · (intro w hSw; (try dsimp only at hSw); go_simp; try with_reducible rfl)
    try simp only [Act.put, zl, z0, z1]
    refine tL (v := ?_) 15 rfl (by kernel_rfl) (fun _ _ _ h => h) (Or.inl ⟨by rfl, ?_⟩) (by assumption) ?_; rotate_left
    · (intro w hSw; (try dsimp only at hSw); go_simp; try with_reducible rfl)
    try simp only [Act.put, zl, z0, z1]
    refine wpAnyH_done (by kernel_rfl) ?_ _
    go_wp2
    go_ret
    exact ⟨by rw [HE.out]; rfl, by (go_split_ands; (have h9 : Below W0.heap.size W0 _ := (by assumption); exact HB0.out.trans (h9.mono (by have := HS0.out; omega))))⟩
  · have HE := hide (show L.truthB v m = decide (((L.wrongL v m.x m.y).length : Int) ≤ v.wrong) by unfold L.truthB; rw [hm]; rfl)
    have HM := hide (show L.markB m v.size v.hxl v.hxh v.hyl v.hyh = true from hm)
    have HB := hide (L.isMark_bd HV.out hm).1
    clear hm
    go_enter Try.func18, Try.ntmps18
    go_upto_region 1 with fail
    obtain ⟨W0, hW0⟩ : ∃ W0, (w.alloc (.cells #[.int .i64 v.size, .slice A n c, .int .i64 v.wrong, .int .i64 v.hxl, .int .i64 v.hxh, .int .i64 v.hyl, .int .i64 v.hyh] 26)).alloc (.cells #[.int .i64 m.x, .int .i64 m.y, .int .i64 m.hx, .int .i64 m.hy] 30) = W0 := ⟨_, rfl⟩
    rw [hW0]
    obtain ⟨p, hp⟩ : ∃ p, w.heap.size = p := ⟨_, rfl⟩
    obtain ⟨q, hq⟩ : ∃ q, w.heap.size + 1 = q := ⟨_, rfl⟩
    have hS : (fun w' => Below W0.heap.size W0 w' ∧ p < w'.heap.size ∧ q < w'.heap.size ∧ w'.cell? ⟨p, 0, none⟩ = some (.int .i64 v.size) ∧ w'.cell? ⟨p, 1, none⟩ = some (.slice A n c) ∧ w'.cell? ⟨p, 2, none⟩ = some (.int .i64 v.wrong) ∧ w'.cell? ⟨p, 3, none⟩ = some (.int .i64 v.hxl) ∧ w'.cell? ⟨p, 4, none⟩ = some (.int .i64 v.hxh) ∧ w'.cell? ⟨p, 5, none⟩ = some (.int .i64 v.hyl) ∧ w'.cell? ⟨p, 6, none⟩ = some (.int .i64 v.hyh) ∧ w'.cell? ⟨q, 0, none⟩ = some (.int .i64 m.x) ∧ w'.cell? ⟨q, 1, none⟩ = some (.int .i64 m.y) ∧ w'.cell? ⟨q, 2, none⟩ = some (.int .i64 m.hx) ∧ w'.cell? ⟨q, 3, none⟩ = some (.int .i64 m.hy)) W0 := by
      rw [← hW0, ← hp, ← hq]
      refine ⟨Below.refl _ _, (by first | (simp; done) | (simp; omega) | omega), (by first | (simp; done) | (simp; omega) | omega), (zcP _ _ _ (by first | (simp; done) | (simp; omega) | omega)).trans (zcA _ _ _ _ rfl), (zcP _ _ _ (by first | (simp; done) | (simp; omega) | omega)).trans (zcA _ _ _ _ rfl), (zcP _ _ _ (by first | (simp; done) | (simp; omega) | omega)).trans (zcA _ _ _ _ rfl), (zcP _ _ _ (by first | (simp; done) | (simp; omega) | omega)).trans (zcA _ _ _ _ rfl), (zcP _ _ _ (by first | (simp; done) | (simp; omega) | omega)).trans (zcA _ _ _ _ rfl), (zcP _ _ _ (by first | (simp; done) | (simp; omega) | omega)).trans (zcA _ _ _ _ rfl), (zcP _ _ _ (by first | (simp; done) | (simp; omega) | omega)).trans (zcA _ _ _ _ rfl), zcA _ _ _ _ (by simp), zcA _ _ _ _ (by simp), zcA _ _ _ _ (by simp), zcA _ _ _ _ (by simp)⟩
    have hs0 : W0.heap.size = w.heap.size + 1 + 1 := by rw [← hW0]; simp
    have hb0 : Below w.heap.size w W0 := by rw [← hW0]; (repeat' first | exact zbR _ _ | assumption | refine zbD ?_ | refine zbA ?_ ?_ _ | refine zbS ?_ ?_ _ | refine zbT ?_ (by assumption) ?_ | (simp; done) | (simp; omega) | omega)
    rw [hq, hp]
    have hq' : q = p + 1 := by omega
    have HP := hide hp
    have HB0 := hide hb0
    have HS0 := hide hs0
    have HQ := hide hq'
    clear hW0 hp hq hb0 hs0 hq'
    have hkeep : ∀ u u' : World, Below u.heap.size u u' → (Below W0.heap.size W0 u ∧ p < u.heap.size ∧ q < u.heap.size ∧ u.cell? ⟨p, 0, none⟩ = some (.int .i64 v.size) ∧ u.cell? ⟨p, 1, none⟩ = some (.slice A n c) ∧ u.cell? ⟨p, 2, none⟩ = some (.int .i64 v.wrong) ∧ u.cell? ⟨p, 3, none⟩ = some (.int .i64 v.hxl) ∧ u.cell? ⟨p, 4, none⟩ = some (.int .i64 v.hxh) ∧ u.cell? ⟨p, 5, none⟩ = some (.int .i64 v.hyl) ∧ u.cell? ⟨p, 6, none⟩ = some (.int .i64 v.hyh) ∧ u.cell? ⟨q, 0, none⟩ = some (.int .i64 m.x) ∧ u.cell? ⟨q, 1, none⟩ = some (.int .i64 m.y) ∧ u.cell? ⟨q, 2, none⟩ = some (.int .i64 m.hx) ∧ u.cell? ⟨q, 3, none⟩ = some (.int .i64 m.hy)) → (Below W0.heap.size W0 u' ∧ p < u'.heap.size ∧ q < u'.heap.size ∧ u'.cell? ⟨p, 0, none⟩ = some (.int .i64 v.size) ∧ u'.cell? ⟨p, 1, none⟩ = some (.slice A n c) ∧ u'.cell? ⟨p, 2, none⟩ = some (.int .i64 v.wrong) ∧ u'.cell? ⟨p, 3, none⟩ = some (.int .i64 v.hxl) ∧ u'.cell? ⟨p, 4, none⟩ = some (.int .i64 v.hxh) ∧ u'.cell? ⟨p, 5, none⟩ = some (.int .i64 v.hyl) ∧ u'.cell? ⟨p, 6, none⟩ = some (.int .i64 v.hyh) ∧ u'.cell? ⟨q, 0, none⟩ = some (.int .i64 m.x) ∧ u'.cell? ⟨q, 1, none⟩ = some (.int .i64 m.y) ∧ u'.cell? ⟨q, 2, none⟩ = some (.int .i64 m.hx) ∧ u'.cell? ⟨q, 3, none⟩ = some (.int .i64 m.hy)) := by
      rintro u u' hb ⟨hB, l_p, l_q, k0, k1, k2, k3, k4, k5, k6, k7, k8, k9, k10⟩
      exact ⟨hB.trans (hb.mono hB.size), Nat.lt_of_lt_of_le l_p hb.size, Nat.lt_of_lt_of_le l_q hb.size, (hb.cell (p := ⟨p, 0, none⟩) l_p).trans k0, (hb.cell (p := ⟨p, 1, none⟩) l_p).trans k1, (hb.cell (p := ⟨p, 2, none⟩) l_p).trans k2, (hb.cell (p := ⟨p, 3, none⟩) l_p).trans k3, (hb.cell (p := ⟨p, 4, none⟩) l_p).trans k4, (hb.cell (p := ⟨p, 5, none⟩) l_p).trans k5, (hb.cell (p := ⟨p, 6, none⟩) l_p).trans k6, (hb.cell (p := ⟨q, 0, none⟩) l_q).trans k7, (hb.cell (p := ⟨q, 1, none⟩) l_q).trans k8, (hb.cell (p := ⟨q, 2, none⟩) l_q).trans k9, (hb.cell (p := ⟨q, 3, none⟩) l_q).trans k10⟩
    dsimp only at hS
    refine wp_region_held_drew (S := (fun w' => Below W0.heap.size W0 w' ∧ p < w'.heap.size ∧ q < w'.heap.size ∧ w'.cell? ⟨p, 0, none⟩ = some (.int .i64 v.size) ∧ w'.cell? ⟨p, 1, none⟩ = some (.slice A n c) ∧ w'.cell? ⟨p, 2, none⟩ = some (.int .i64 v.wrong) ∧ w'.cell? ⟨p, 3, none⟩ = some (.int .i64 v.hxl) ∧ w'.cell? ⟨p, 4, none⟩ = some (.int .i64 v.hxh) ∧ w'.cell? ⟨p, 5, none⟩ = some (.int .i64 v.hyl) ∧ w'.cell? ⟨p, 6, none⟩ = some (.int .i64 v.hyh) ∧ w'.cell? ⟨q, 0, none⟩ = some (.int .i64 m.x) ∧ w'.cell? ⟨q, 1, none⟩ = some (.int .i64 m.y) ∧ w'.cell? ⟨q, 2, none⟩ = some (.int .i64 m.hx) ∧ w'.cell? ⟨q, 3, none⟩ = some (.int .i64 m.hy))) (by kernel_rfl) ?_ (fun hHeld0 => ?_)
    · (try dsimp only); (first | (go_keep; done) | (go_split_ands; (repeat' apply And.intro) <;> first | (go_keep; done) | (simp [*, zcA, zcP, zfA, zfP]; done) | (simp [zcA, zcP] <;> rfl) | (simp [*, zsS, zsO, zsA]; done) | ((first | refine (hc _ _ ?_).trans ?_ | refine (hf _ _ ?_).trans ?_) <;> first | assumption | (simp; done) | (simp; omega) | omega | (go_keep; done) | (simp [*, zcA, zcP, zfA, zfP]; done) | (simp [zcA, zcP]; rfl)) | (repeat' first | exact zbR _ _ | assumption | refine zbD ?_ | refine zbA ?_ ?_ _ | refine zbS ?_ ?_ _ | refine zbT ?_ (by assumption) ?_ | (simp; done) | (simp; omega) | omega)))
    refine tL (v := ?_) 0 rfl (by kernel_rfl) (fun _ _ _ h => h) (Or.inl ⟨by rfl, ?_⟩) (by assumption) ?_; rotate_left
    · (intro w hSw; (try dsimp only at hSw); go_simp; try with_reducible rfl)
    try simp only [Act.put, zl, z0, z1]
    refine tL (v := ?_) 1 rfl (by kernel_rfl) (fun _ _ _ h => h) (Or.inl ⟨by rfl, ?_⟩) (by assumption) ?_; rotate_left
    · (intro w hSw; (try dsimp only at hSw); go_simp; try with_reducible rfl)
    try simp only [Act.put, zl, z0, z1]
    refine wpAnyH_ready (rs := [2]) (by kernel_rfl) (by simp) ?_
    refine consL 2 rfl (fun K hK => ?_) AllReadyH.nil
    go_simp
    (go_at_call 49; refine (isMark_any v A n c m _).mono ?_; rintro e w2 ⟨rfl, hb⟩; rw [HM.out]; have hSn := hkeep _ _ hb (by assumption); (try clear hS); have hS := hSn; clear hSn)
    refine hK.out _ _ ?_ (fun hHeld1 => ?_)
    · (try dsimp only); exact hS
    clear hK K hHeld0
    try simp only [Act.put, zl, z0, z1]
    refine tL (v := ?_) 3 rfl (by kernel_rfl) (fun _ _ _ h => h) (Or.inl ⟨by rfl, ?_⟩) (by assumption) ?_; rotate_left
    · (intro w hSw; (try dsimp only at hSw); go_simp; try with_reducible rfl)
    try simp only [Act.put, zl, z0, z1]
    refine tL (v := ?_) 4 rfl (by kernel_rfl) (fun _ _ _ h => h) (Or.inl ⟨by rfl, ?_⟩) (by assumption) ?_; rotate_left
    · (intro w hSw; (try dsimp only at hSw); go_simp; try with_reducible rfl)
    try simp only [Act.put, zl, z0, z1]
    refine tL (v := ?_) 5 rfl (by kernel_rfl) (fun _ _ _ h => h) (Or.inl ⟨by rfl, ?_⟩) (by assumption) ?_; rotate_left
    · (intro w hSw; (try dsimp only at hSw); go_simp; try with_reducible rfl)
    try simp only [Act.put, zl, z0, z1]
    refine tL (v := ?_) 6 rfl (by kernel_rfl) (fun _ _ _ h => h) (Or.inl ⟨by rfl, ?_⟩) (by assumption) ?_; rotate_left
    · (intro w hSw; (try dsimp only at hSw); go_simp; try with_reducible rfl)
    try simp only [Act.put, zl, z0, z1]
    refine tL (v := ?_) 7 rfl (by kernel_rfl) (fun _ _ _ h => h) (Or.inl ⟨by rfl, ?_⟩) (by assumption) ?_; rotate_left
    · (intro w hSw; (try dsimp only at hSw); go_simp; try with_reducible rfl)
    try simp only [Act.put, zl, z0, z1]
    refine tL (v := ?_) 8 rfl (by kernel_rfl) (fun _ _ _ h => h) (Or.inl ⟨by rfl, ?_⟩) (by assumption) ?_; rotate_left
    · (intro w hSw; (try dsimp only at hSw); go_simp; try with_reducible rfl)
    try simp only [Act.put, zl, z0, z1]
    refine tL (v := ?_) 11 rfl (by kernel_rfl) (fun _ _ _ h => h) (Or.inl ⟨by rfl, ?_⟩) (by assumption) ?_; rotate_left
    · (intro w hSw; (try dsimp only at hSw); go_simp; try with_reducible rfl)
    try simp only [Act.put, zl, z0, z1]
    refine tL (v := ?_) 12 rfl (by kernel_rfl) (fun _ _ _ h => h) (Or.inl ⟨by rfl, ?_⟩) (by assumption) ?_; rotate_left
    · (intro w hSw; (try dsimp only at hSw); go_simp; try with_reducible rfl)
    try simp only [Act.put, zl, z0, z1]
    refine wpAnyH_ready (rs := [9]) (by kernel_rfl) (by simp) ?_
    refine consL 9 rfl (fun K hK => ?_) AllReadyH.nil
    go_simp
    (go_at_call 50; refine (refWrong_any v A n c m.x m.y _ HN.out ((HR.out.below (HB0.out.trans (hS.1.mono (by have := HS0.out; omega)))).mono (by have := hS.1.size; have := HS0.out; omega)) HV.out.ok (by have := HV.out.n8; have := HN.out; omega) HB.out.x0 HB.out.x1 HB.out.y0 HB.out.y1).mono ?_; rintro e w3 ⟨sv, c3, rfl, hown, hb⟩; clear hown; have hSn := hkeep _ _ hb (by assumption); (try clear hS); have hS := hSn; clear hSn)
    refine hK.out _ _ ?_ (fun hHeld2 => ?_)
    · (try dsimp only); exact hS
    clear hK K hHeld1
    try simp only [Act.put, zl, z0, z1]
    refine tL (v := ?_) 10 rfl (by kernel_rfl) (fun _ _ _ h => h) (Or.inl ⟨by rfl, ?_⟩) (by assumption) ?_; rotate_left
    · (intro w hSw; (try dsimp only at hSw); go_simp; try with_reducible rfl)
    try simp only [Act.put, zl, z0, z1]
    refine tL (v := ?_) 13 rfl (by kernel_rfl) (fun _ _ _ h => h) (Or.inl ⟨by rfl, ?_⟩) (by assumption) ?_; rotate_left
    · (intro w hSw; (try dsimp only at hSw); go_simp; try with_reducible rfl)
    try simp only [Act.put, zl, z0, z1]
    refine tL (v := ?_) 14 rfl (by kernel_rfl) (fun _ _ _ h => h) (Or.inl ⟨by rfl, ?_⟩) (by assumption) ?_; rotate_left
    · (intro w hSw; (try dsimp only at hSw); go_simp; try with_reducible rfl)
    try simp only [Act.put, zl, z0, z1]
    refine tL (v := ?_) 15 rfl (by kernel_rfl) (fun _ _ _ h => h) (Or.inl ⟨by rfl, ?_⟩) (by assumption) ?_; rotate_left
    · (intro w hSw; (try dsimp only at hSw); go_simp; try with_reducible rfl)
    try simp only [Act.put, zl, z0, z1]
    refine wpAnyH_done (by kernel_rfl) ?_ _
    go_wp2
    go_ret
    exact ⟨by rw [HE.out]; rfl, by (go_split_ands; (have h9 : Below W0.heap.size W0 _ := (by assumption); exact HB0.out.trans (h9.mono (by have := HS0.out; omega))))⟩

end Go.Proofs.Ytgnobonhohfofaa

namespace Go.Proofs.Ytgnobonhohfofaa
open Go.RowKit
attribute [local go_sem ↓] Go.wp_at_zero Go.wp_at_succ

def L.wrgE (v : L.Vw) (m : L.Mk) : Int := if L.viewB v then (if L.isMarkB v m then 0 else 22) else 20
def L.wrgL (v : L.Vw) (m : L.Mk) : List Int := if L.viewB v then (if L.isMarkB v m then L.wrongL v m.x m.y else []) else []
def WrgPost (v : L.Vw) (m : L.Mk) (w : World) (e : Ending) (w' : World) : Prop :=
  ∃ sv c', e = .returned (.tuple #[.slice sv (L.wrgL v m).length c', .int .i64 (L.wrgE v m)]) ∧ w'.ownsRow w.heap.size 3 1 (.slice sv (L.wrgL v m).length c') (L.wrgL v m).length (flatI (L.wrgL v m)) ∧ Below w.heap.size w w'
theorem wrg_none {v : L.Vw} {m : L.Mk} {w w' : World} {k : Int} (h1 : L.wrgL v m = []) (h2 : L.wrgE v m = k) (hb : Below w.heap.size w w') : WrgPost v m w (.returned (.tuple #[.slice none 0 0, .int .i64 k])) w' := by
  unfold WrgPost
  rw [h1, h2]
  exact ⟨none, 0, rfl, World.ownsRow_nil _ _ _ _, hb⟩
theorem wrg_some {v : L.Vw} {m : L.Mk} {w w' : World} {sv : Option Addr} {c : Nat} {l : List Int} {n : Nat} (hn : l.length = n) (h1 : L.wrgL v m = l) (h2 : L.wrgE v m = 0) (ho : w'.ownsRow w.heap.size 3 1 (.slice sv n c) n (flatI l)) (hb : Below w.heap.size w w') : WrgPost v m w (.returned (.tuple #[.slice sv n c, .int .i64 0])) w' := by
  subst hn
  unfold WrgPost
  rw [h1, h2]
  exact ⟨sv, c, rfl, ho, hb⟩
theorem L.check_t {v : L.Vw} (h : L.viewB v = true) : L.checkE v = 0 := by unfold L.checkE; rw [h]; rfl
theorem L.check_f {v : L.Vw} (h : L.viewB v = false) : L.checkE v = 20 := by unfold L.checkE; rw [h]; rfl

set_option maxRecDepth 100000 in
set_option maxHeartbeats 1600000 in
theorem Wrong_any (v : L.Vw) (A : Option Addr) (n c : Nat) (m : L.Mk) (w : World) (hn : v.ss.length = n) (hr : RdS w w.heap.size A v.ss) :
    Calls Try.prog 31 #[.agg #[.int .i64 v.size, .slice A n c, .int .i64 v.wrong, .int .i64 v.hxl, .int .i64 v.hxh, .int .i64 v.hyl, .int .i64 v.hyh], .agg #[.int .i64 m.x, .int .i64 m.y, .int .i64 m.hx, .int .i64 m.hy]] w fun e w' => WrgPost v m w e w' := by
  have HN := hide hn
  have HR := hide hr
  clear hn hr
  cases hv : L.viewB v
  · have E1 := hide (show L.wrgL v m = [] by unfold L.wrgL; rw [hv]; rfl)
    have E2 := hide (show L.wrgE v m = 20 by unfold L.wrgE; rw [hv]; rfl)
    have HC := hide (L.check_f hv)
    clear hv
    go_enter Try.func31, Try.ntmps31
    go_wp2_with (go_at_call 35; refine (Check_any v A n c _ HN.out ((HR.out.below (by (repeat' first | exact zbR _ _ | assumption | refine zbD ?_ | refine zbA ?_ ?_ _ | refine zbS ?_ ?_ _ | refine zbT ?_ (by assumption) ?_ | (simp; done) | (simp; omega) | omega))).mono (by first | (simp; done) | (simp; omega) | omega))).mono ?_; rintro e w2 ⟨rfl, hb2⟩; rw [HC.out]; obtain ⟨hc2, hf2⟩ := bcell hb2; have q2 := hb2.size; (try simp only [World.size_alloc] at q2); have z2_0 : w.heap.size < w2.heap.size := (by omega); have z2_1 : w.heap.size + 1 < w2.heap.size := (by omega))
    go_ret2
    exact wrg_none E1.out E2.out (by (repeat' first | exact zbR _ _ | assumption | refine zbD ?_ | refine zbA ?_ ?_ _ | refine zbS ?_ ?_ _ | refine zbT ?_ (by assumption) ?_ | (simp; done) | (simp; omega) | omega))
  cases hm : L.isMarkB v m
  · have E1 := hide (show L.wrgL v m = [] by unfold L.wrgL; rw [hv, hm]; rfl)
    have E2 := hide (show L.wrgE v m = 22 by unfold L.wrgE; rw [hv, hm]; rfl)
    have HC := hide (L.check_t hv)
    have HM := hide (show L.markB m v.size v.hxl v.hxh v.hyl v.hyh = false from hm)
    clear hv hm
    go_enter Try.func31, Try.ntmps31
    go_wp2_with (first | (go_at_call 35; refine (Check_any v A n c _ HN.out ((HR.out.below (by (repeat' first | exact zbR _ _ | assumption | refine zbD ?_ | refine zbA ?_ ?_ _ | refine zbS ?_ ?_ _ | refine zbT ?_ (by assumption) ?_ | (simp; done) | (simp; omega) | omega))).mono (by first | (simp; done) | (simp; omega) | omega))).mono ?_; rintro e w2 ⟨rfl, hb2⟩; rw [HC.out]; obtain ⟨hc2, hf2⟩ := bcell hb2; have q2 := hb2.size; (try simp only [World.size_alloc] at q2); have z2_0 : w.heap.size < w2.heap.size := (by omega); have z2_1 : w.heap.size + 1 < w2.heap.size := (by omega)) | (go_at_call 52; refine (markWithin_any m _ _ _ _ _ _).mono ?_; rintro e w3 ⟨rfl, hb3⟩; rw [HM.out]; obtain ⟨hc3, hf3⟩ := bcell hb3; have q3 := hb3.size; (try simp only [World.size_alloc] at q3); have z3_0 : w.heap.size < w3.heap.size := (by omega); have z3_1 : w.heap.size + 1 < w3.heap.size := (by omega)))
    go_ret2
    exact wrg_none E1.out E2.out (by (repeat' first | exact zbR _ _ | assumption | refine zbD ?_ | refine zbA ?_ ?_ _ | refine zbS ?_ ?_ _ | refine zbT ?_ (by assumption) ?_ | (simp; done) | (simp; omega) | omega))
  · have E1 := hide (show L.wrgL v m = L.wrongL v m.x m.y by unfold L.wrgL; rw [hv, hm]; rfl)
    have E2 := hide (show L.wrgE v m = 0 by unfold L.wrgE; rw [hv, hm]; rfl)
    have HC := hide (L.check_t hv)
    have HM := hide (show L.markB m v.size v.hxl v.hxh v.hyl v.hyh = true from hm)
    have HV := hide (L.viewB_ok hv)
    have HB := hide (L.isMark_bd HV.out hm).1
    clear hv hm
    go_enter Try.func31, Try.ntmps31
    go_wp2_with (first | (go_at_call 35; refine (Check_any v A n c _ HN.out ((HR.out.below (by (repeat' first | exact zbR _ _ | assumption | refine zbD ?_ | refine zbA ?_ ?_ _ | refine zbS ?_ ?_ _ | refine zbT ?_ (by assumption) ?_ | (simp; done) | (simp; omega) | omega))).mono (by first | (simp; done) | (simp; omega) | omega))).mono ?_; rintro e w2 ⟨rfl, hb2⟩; rw [HC.out]; obtain ⟨hc2, hf2⟩ := bcell hb2; have q2 := hb2.size; (try simp only [World.size_alloc] at q2); have z2_0 : w.heap.size < w2.heap.size := (by omega); have z2_1 : w.heap.size + 1 < w2.heap.size := (by omega)) | (go_at_call 52; refine (markWithin_any m _ _ _ _ _ _).mono ?_; rintro e w3 ⟨rfl, hb3⟩; rw [HM.out]; obtain ⟨hc3, hf3⟩ := bcell hb3; have q3 := hb3.size; (try simp only [World.size_alloc] at q3); have z3_0 : w.heap.size < w3.heap.size := (by omega); have z3_1 : w.heap.size + 1 < w3.heap.size := (by omega)) | (go_at_call 60; refine (wrongAbout_any v A n c m.x m.y _ HN.out ((HR.out.below (by (repeat' first | exact zbR _ _ | assumption | refine zbD ?_ | refine zbA ?_ ?_ _ | refine zbS ?_ ?_ _ | refine zbT ?_ (by assumption) ?_ | (simp; done) | (simp; omega) | omega))).mono (by first | (simp; done) | (simp; omega) | omega)) HV.out.ok (by have := HV.out.n8; have := HN.out; omega) HB.out.x0 HB.out.x1 HB.out.y0 HB.out.y1).mono ?_; rintro e w4 ⟨sv, c4, rfl, hown, hb4⟩; have HO := hide hown; clear hown))
    go_ret2
    exact wrg_some rfl E1.out E2.out (owns_mono HO.out (by first | (simp; done) | (simp; omega) | omega)) (by (repeat' first | exact zbR _ _ | assumption | refine zbD ?_ | refine zbA ?_ ?_ _ | refine zbS ?_ ?_ _ | refine zbT ?_ (by assumption) ?_ | (simp; done) | (simp; omega) | omega))

set_option maxRecDepth 100000 in
set_option maxHeartbeats 1600000 in
theorem refWrongs_any (v : L.Vw) (A : Option Addr) (n c : Nat) (m : L.Mk) (w : World) (hn : v.ss.length = n) (hr : RdS w w.heap.size A v.ss) :
    Calls Try.prog 37 #[.agg #[.int .i64 v.size, .slice A n c, .int .i64 v.wrong, .int .i64 v.hxl, .int .i64 v.hxh, .int .i64 v.hyl, .int .i64 v.hyh], .agg #[.int .i64 m.x, .int .i64 m.y, .int .i64 m.hx, .int .i64 m.hy]] w fun e w' => WrgPost v m w e w' := by
  have HN := hide hn
  have HR := hide hr
  clear hn hr
  cases hv : L.viewB v
  · have E1 := hide (show L.wrgL v m = [] by unfold L.wrgL; rw [hv]; rfl)
    have E2 := hide (show L.wrgE v m = 20 by unfold L.wrgE; rw [hv]; rfl)
    have HC := hide (L.check_f hv)
    clear hv
    go_enter Try.func37, Try.ntmps37
    go_wp2_with (go_at_call 23; refine (RefCheck_any v A n c _ HN.out ((HR.out.below (by (repeat' first | exact zbR _ _ | assumption | refine zbD ?_ | refine zbA ?_ ?_ _ | refine zbS ?_ ?_ _ | refine zbT ?_ (by assumption) ?_ | (simp; done) | (simp; omega) | omega))).mono (by first | (simp; done) | (simp; omega) | omega))).mono ?_; rintro e w2 ⟨rfl, hb2⟩; rw [HC.out]; obtain ⟨hc2, hf2⟩ := bcell hb2; have q2 := hb2.size; (try simp only [World.size_alloc] at q2); have z2_0 : w.heap.size < w2.heap.size := (by omega); have z2_1 : w.heap.size + 1 < w2.heap.size := (by omega))
    go_ret2
    exact wrg_none E1.out E2.out (by (repeat' first | exact zbR _ _ | assumption | refine zbD ?_ | refine zbA ?_ ?_ _ | refine zbS ?_ ?_ _ | refine zbT ?_ (by assumption) ?_ | (simp; done) | (simp; omega) | omega))
  cases hm : L.isMarkB v m
  · have E1 := hide (show L.wrgL v m = [] by unfold L.wrgL; rw [hv, hm]; rfl)
    have E2 := hide (show L.wrgE v m = 22 by unfold L.wrgE; rw [hv, hm]; rfl)
    have HC := hide (L.check_t hv)
    have HM := hide (show L.markB m v.size v.hxl v.hxh v.hyl v.hyh = false from hm)
    clear hv hm
    go_enter Try.func37, Try.ntmps37
    go_wp2_with (first | (go_at_call 23; refine (RefCheck_any v A n c _ HN.out ((HR.out.below (by (repeat' first | exact zbR _ _ | assumption | refine zbD ?_ | refine zbA ?_ ?_ _ | refine zbS ?_ ?_ _ | refine zbT ?_ (by assumption) ?_ | (simp; done) | (simp; omega) | omega))).mono (by first | (simp; done) | (simp; omega) | omega))).mono ?_; rintro e w2 ⟨rfl, hb2⟩; rw [HC.out]; obtain ⟨hc2, hf2⟩ := bcell hb2; have q2 := hb2.size; (try simp only [World.size_alloc] at q2); have z2_0 : w.heap.size < w2.heap.size := (by omega); have z2_1 : w.heap.size + 1 < w2.heap.size := (by omega)) | (go_at_call 49; refine (isMark_any v A n c m _).mono ?_; rintro e w3 ⟨rfl, hb3⟩; rw [HM.out]; obtain ⟨hc3, hf3⟩ := bcell hb3; have q3 := hb3.size; (try simp only [World.size_alloc] at q3); have z3_0 : w.heap.size < w3.heap.size := (by omega); have z3_1 : w.heap.size + 1 < w3.heap.size := (by omega)))
    go_ret2
    exact wrg_none E1.out E2.out (by (repeat' first | exact zbR _ _ | assumption | refine zbD ?_ | refine zbA ?_ ?_ _ | refine zbS ?_ ?_ _ | refine zbT ?_ (by assumption) ?_ | (simp; done) | (simp; omega) | omega))
  · have E1 := hide (show L.wrgL v m = L.wrongL v m.x m.y by unfold L.wrgL; rw [hv, hm]; rfl)
    have E2 := hide (show L.wrgE v m = 0 by unfold L.wrgE; rw [hv, hm]; rfl)
    have HC := hide (L.check_t hv)
    have HM := hide (show L.markB m v.size v.hxl v.hxh v.hyl v.hyh = true from hm)
    have HV := hide (L.viewB_ok hv)
    have HB := hide (L.isMark_bd HV.out hm).1
    clear hv hm
    go_enter Try.func37, Try.ntmps37
    go_wp2_with (first | (go_at_call 23; refine (RefCheck_any v A n c _ HN.out ((HR.out.below (by (repeat' first | exact zbR _ _ | assumption | refine zbD ?_ | refine zbA ?_ ?_ _ | refine zbS ?_ ?_ _ | refine zbT ?_ (by assumption) ?_ | (simp; done) | (simp; omega) | omega))).mono (by first | (simp; done) | (simp; omega) | omega))).mono ?_; rintro e w2 ⟨rfl, hb2⟩; rw [HC.out]; obtain ⟨hc2, hf2⟩ := bcell hb2; have q2 := hb2.size; (try simp only [World.size_alloc] at q2); have z2_0 : w.heap.size < w2.heap.size := (by omega); have z2_1 : w.heap.size + 1 < w2.heap.size := (by omega)) | (go_at_call 49; refine (isMark_any v A n c m _).mono ?_; rintro e w3 ⟨rfl, hb3⟩; rw [HM.out]; obtain ⟨hc3, hf3⟩ := bcell hb3; have q3 := hb3.size; (try simp only [World.size_alloc] at q3); have z3_0 : w.heap.size < w3.heap.size := (by omega); have z3_1 : w.heap.size + 1 < w3.heap.size := (by omega)) | (go_at_call 50; refine (refWrong_any v A n c m.x m.y _ HN.out ((HR.out.below (by (repeat' first | exact zbR _ _ | assumption | refine zbD ?_ | refine zbA ?_ ?_ _ | refine zbS ?_ ?_ _ | refine zbT ?_ (by assumption) ?_ | (simp; done) | (simp; omega) | omega))).mono (by first | (simp; done) | (simp; omega) | omega)) HV.out.ok (by have := HV.out.n8; have := HN.out; omega) HB.out.x0 HB.out.x1 HB.out.y0 HB.out.y1).mono ?_; rintro e w4 ⟨sv, c4, rfl, hown, hb4⟩; have HO := hide hown; clear hown))
    go_ret2
    exact wrg_some rfl E1.out E2.out (owns_mono HO.out (by first | (simp; done) | (simp; omega) | omega)) (by (repeat' first | exact zbR _ _ | assumption | refine zbD ?_ | refine zbA ?_ ?_ _ | refine zbS ?_ ?_ _ | refine zbT ?_ (by assumption) ?_ | (simp; done) | (simp; omega) | omega))

end Go.Proofs.Ytgnobonhohfofaa

namespace Go.Proofs.Ytgnobonhohfofaa
open Go.RowKit
attribute [local go_sem ↓] Go.wp_at_zero Go.wp_at_succ
attribute [local go_sem] Oper.semAt_some

namespace L
def fewF (v : Vw) (l : List (Int × Int)) : Int := l.foldl (fun n c => min n ((wrongL v c.1 c.2).length : Int)) (v.ss.length : Int)
theorem fewF_snoc (v : Vw) (l : List (Int × Int)) (c : Int × Int) : fewF v (l ++ [c]) = min (fewF v l) ((wrongL v c.1 c.2).length : Int) := by unfold fewF; rw [List.foldl_append]; rfl
theorem fewF_bd (v : Vw) (l : List (Int × Int)) : 0 ≤ fewF v l ∧ fewF v l ≤ v.ss.length := by
  unfold fewF
  suffices h : ∀ (l : List (Int × Int)) (n : Int), 0 ≤ n → 0 ≤ l.foldl (fun n c => min n ((wrongL v c.1 c.2).length : Int)) n ∧ l.foldl (fun n c => min n ((wrongL v c.1 c.2).length : Int)) n ≤ n from h l _ (by omega)
  intro l
  induction l with
  | nil => intro n h; exact ⟨h, Int.le_refl _⟩
  | cons c r ih =>
    intro n h
    obtain ⟨h1, h2⟩ := ih (min n ((wrongL v c.1 c.2).length : Int)) (by omega)
    simp only [List.foldl_cons]
    exact ⟨h1, by omega⟩
def fewE (v : Vw) : Int := checkE v
def fewV (v : Vw) : Int := if checkE v = 0 then fewest v else 0
end L

set_option maxRecDepth 100000 in
set_option maxHeartbeats 3200000 in
theorem Fewest_yes (v : L.Vw) (A : Option Addr) (n c : Nat) (w : World) (hn : v.ss.length = n) (hr : RdS w w.heap.size A v.ss) (h : L.checkE v = 0) :
    Calls Try.prog 29 #[.agg #[.int .i64 v.size, .slice A n c, .int .i64 v.wrong, .int .i64 v.hxl, .int .i64 v.hxh, .int .i64 v.hyl, .int .i64 v.hyh]] w fun e w' => e = .returned (.tuple #[.int .i64 (L.fewV v), .int .i64 (L.fewE v)]) ∧ Below w.heap.size w w' := by
  have HN := hide hn
  have HR := hide hr
  have H := hide h
  have HV := hide (L.checkE_ok h)
  obtain ⟨N, hN⟩ : ∃ N : Nat, v.size = (N : Int) := ⟨v.size.toNat, (Int.toNat_of_nonneg (L.checkE_ok h).s0).symm⟩
  have hN40 : N ≤ 40 := by have := HV.out.s1; omega
  have HNt := hide (show v.size.toNat = N by omega)
  have E1 := hide (show L.fewV v = L.fewF v (L.cents N) by unfold L.fewV L.fewest; rw [if_pos h, HNt.out]; rfl)
  have E2 := hide (show L.fewE v = 0 from h)
  have hn8 : (n : Int) ≤ 8 := by have := HV.out.n8; omega
  have HSz := hide hN
  clear hn hr h hN
  refine calls_marks Try.func29 rfl ?_
  simp only [Try.ntmps29, List.size_toArray, List.length_cons, List.length_nil, Nat.reduceAdd, Nat.reduceSub, Array.replicate_succ, Array.replicate_zero, List.push_toArray, List.append_toArray, List.nil_append, List.cons_append]
  go_upto_region 1 with fail
  obtain ⟨W0, hW0⟩ : ∃ W0, w.alloc (.cells #[.int .i64 v.size, .slice A n c, .int .i64 v.wrong, .int .i64 v.hxl, .int .i64 v.hxh, .int .i64 v.hyl, .int .i64 v.hyh] 26) = W0 := ⟨_, rfl⟩
  have gp : W0.heap[w.heap.size]? = some (.cells #[.int .i64 v.size, .slice A n c, .int .i64 v.wrong, .int .i64 v.hxl, .int .i64 v.hxh, .int .i64 v.hyl, .int .i64 v.hyh] 26 (0, 0)) := by
    rw [← hW0]; exact World.alloc_heap_new _ _
  have gs : W0.heap.size = w.heap.size + 1 := by rw [← hW0]; simp
  have gB : Below w.heap.size w W0 := by rw [← hW0]; (repeat' first | exact zbR _ _ | assumption | refine zbD ?_ | refine zbA ?_ ?_ _ | refine zbS ?_ ?_ _ | refine zbT ?_ (by assumption) ?_ | (simp; done) | (simp; omega) | omega)
  rw [hW0]
  clear hW0
  obtain ⟨p, hp⟩ : ∃ p, w.heap.size = p := ⟨_, rfl⟩
  rw [hp]
  rw [hp] at gp
  have lp : p < W0.heap.size := by omega
  have HR0 := hide ((HR.out.below gB).mono gB.size)
  have GB := hide gB
  have GP := hide gp
  have cp0 := (blk_cell gp 0).trans rfl; have cp1 := (blk_cell gp 1).trans rfl; have cp2 := (blk_cell gp 2).trans rfl; have cp3 := (blk_cell gp 3).trans rfl; have cp4 := (blk_cell gp 4).trans rfl; have cp5 := (blk_cell gp 5).trans rfl; have cp6 := (blk_cell gp 6).trans rfl
  clear gp gB HR
  go_wp2_with (first | (go_at_call 35; refine (Check_any v A n c _ HN.out HR0.out).mono ?_; rintro e w2 ⟨rfl, hb2⟩; rw [H.out]; obtain ⟨hc2, hf2⟩ := bcell hb2; have q2 := hb2.size; have lp2 : p < w2.heap.size := (by omega)) | (go_at_call 59; refine (centres_any _ _).mono ?_; rintro e V ⟨rfl, rfl⟩))
  obtain ⟨V, hV⟩ : ∃ V, (w2.alloc (.cells #[.int .i64 (n : Int)] 3)).alloc (.cells #[.int .i64 v.size] 3) = V := ⟨_, rfl⟩
  have vf : V.heap[w2.heap.size]? = some (.cells #[.int .i64 (n : Int)] 3 (0, 0)) := by
    rw [← hV]; exact (Below.heap_alloc _ _ _ (by first | (simp; done) | (simp; omega) | omega)).trans (World.alloc_heap_new _ _)
  have vb : V.cell? ⟨w2.heap.size + 1, 0, none⟩ = some (.int .i64 (N : Int)) := by
    rw [← hV, ← HSz.out]; exact (zcA _ _ _ _ (by simp)).trans rfl
  have vs : V.heap.size = w2.heap.size + 1 + 1 := by rw [← hV]; simp
  have vB : Below w2.heap.size w2 V := by rw [← hV]; (repeat' first | exact zbR _ _ | assumption | refine zbD ?_ | refine zbA ?_ ?_ _ | refine zbS ?_ ?_ _ | refine zbT ?_ (by assumption) ?_ | (simp; done) | (simp; omega) | omega)
  rw [hV]
  clear hV
  obtain ⟨f, hf⟩ : ∃ f, w2.heap.size = f := ⟨_, rfl⟩
  rw [hf] at vf vb vs lp2 q2 vB
  rw [hf]
  have vp := (vB.block p (by omega)).trans ((hb2.block p lp).trans GP.out)
  have hBV : Below W0.heap.size W0 V := hb2.trans (vB.mono q2)
  have VP := hide vp
  have vf' : V.heap[f]? = some (.cells #[.int .i64 (L.fewF v [])] 3 (0, 0)) := by rw [vf]; unfold L.fewF; rw [List.foldl_nil, HN.out]
  have HBV := hide hBV
  clear cp0 cp1 cp2 cp3 cp4 cp5 cp6 hc2 hf2 hb2 vB vp vf hBV GP
  refine wp_rangeP (gf := 72) (lb := #[.pointer (some ⟨f + 1, 0, none⟩)]) rfl (enters_of Try.func72 (by kernel_rfl) rfl)
    (centres_seq N (f + 1) (fun x => x < V.heap.size ∧ x ≠ f) V hN40 (by omega) ⟨by omega, by omega⟩ vb) (Below.refl _ _) (fun x hx => hx.1) (fun _ => rfl)
    (fun pre X => Keeps (fun x => x ≠ f) V X ∧ X.heap[f]? = some (.cells #[.int .i64 (L.fewF v pre)] 3 (0, 0)))
    (fun _ _ _ => False)
    (OwnFrom.and (keeps_own (Nat.le_refl _)) (own_block (by omega) _))
    (fun _ _ _ _ _ hs _ _ => hs)
    ⟨Keeps.refl _ _, vf'⟩ ?a1 ?assign ?body ?done ?stop
  case assign =>
    intro l2 x X K hK
    simp only [encP]
    gi_wp2
    exact hK
  case body =>
    rintro l2 pre x X ⟨hK, hF⟩ hpre
    obtain ⟨hx0, hx1, hy0, hy1⟩ := L.mem_cents (hpre.subset (List.mem_append_right _ (List.mem_singleton.2 rfl)))
    have z3 := hK.rest.size
    have lpX : p < X.heap.size := by omega
    have lfX : f < X.heap.size := by omega
    obtain ⟨x1, x2⟩ := x
    dsimp only at hx0 hx1 hy0 hy1
    have hx1' : x1 ≤ 40 := by omega
    have hy1' : x2 ≤ 40 := by omega
    have bp := (hK.same p (show p ≠ f by omega) (by omega)).trans VP.out
    have cp0 := (blk_cell bp 0).trans rfl; have cp1 := (blk_cell bp 1).trans rfl; have cp2 := (blk_cell bp 2).trans rfl; have cp3 := (blk_cell bp 3).trans rfl; have cp4 := (blk_cell bp 4).trans rfl; have cp5 := (blk_cell bp 5).trans rfl; have cp6 := (blk_cell bp 6).trans rfl
    have HRX := hide (((HR0.out.below HBV.out).below (hK.below (n := W0.heap.size) (fun y hy => by show y ≠ f; omega) (by omega))).mono (B' := X.heap.size) (by omega))
    obtain ⟨mb0, mb1⟩ := L.fewF_bd v pre
    have EM := hide (L.fewF_snoc v pre (x1, x2))
    obtain ⟨mm, hmm⟩ : ∃ mm, L.fewF v pre = mm := ⟨_, rfl⟩
    rw [hmm] at hF EM mb0 mb1
    have mb2 : mm ≤ 8 := by have := HN.out; omega
    have cf0 := (blk_cell hF 0).trans rfl
    have ff0 := blk_frozen hF 0
    have HF := hide hF
    have HK := hide hK
    have hl8 : (L.wrongL v x1 x2).length ≤ 8 := by rw [L.wrongL_length]; have := L.many_le v.ss x1 x2 0; have := HN.out; omega
    obtain ⟨ln, hln⟩ : ∃ ln, (L.wrongL v x1 x2).length = ln := ⟨_, rfl⟩
    have HLN := hide hln
    rw [hln] at hl8
    clear bp hF hK hpre hmm hln
    gi_wp2
    gi_region_with ((refine ⟨trivial, ?_⟩; gi_at_call 60; refine (CallsIn.inRound l2 (callsIn_wide.2 (wrongAbout_any v A n c x1 x2 _ HN.out ((HRX.out.below (by (repeat' first | exact zbR _ _ | assumption | refine zbD ?_ | refine zbA ?_ ?_ _ | refine zbS ?_ ?_ _ | refine zbT ?_ (by assumption) ?_ | (simp; done) | (simp; omega) | omega))).mono (by first | (simp; done) | (simp; omega) | omega)) HV.out.ok (by omega) hx0 hx1' hy0 hy1'))).mono ?_; rintro e w3 ⟨sv, c3, rfl, hown, hb3⟩; clear hown; rw [HLN.out]; have cf3 := (hb3.cell (p := ⟨f, 0, none⟩) lfX).trans cf0; have ff3 := (hb3.frozen (p := ⟨f, 0, none⟩) lfX).trans ff0; have lf3 : f < w3.heap.size := (by have := hb3.size; (try simp at this); omega)))
    all_goals
      have hXw : Below X.heap.size X w3 := by (repeat' first | exact zbR _ _ | assumption | refine zbD ?_ | refine zbA ?_ ?_ _ | refine zbS ?_ ?_ _ | refine zbT ?_ (by assumption) ?_ | (simp; done) | (simp; omega) | omega)
      have q3 := (hXw.block f lfX).trans HF.out
      gi_wp2
      all_goals
        refine ⟨?_, ?_, ?_⟩
        · (repeat (first | (with_reducible exact Keeps.of_below hXw) | ((with_reducible refine Keeps.st ?_ ?_); rotate_left 1; (intro h; dsimp only at h; omega))))
        · (repeat (first | (with_reducible exact HK.out.trans (Keeps.of_below hXw)) | ((with_reducible refine Keeps.st ?_ ?_); rotate_left 1; (intro h; dsimp only at h; omega))))
        · rw [EM.out, HLN.out]
          exact cells1 (blk_set q3 0 _) rfl (by omega)
  case done =>
    rintro D X hD ⟨hK, hF⟩ hdef
    have z3 := hK.rest.size
    have hbX : Below p V X := hK.below (n := p) (fun y hy => by show y ≠ f; omega) (by omega)
    have cf0 := (blk_cell hF 0).trans rfl
    clear hF
    go_wp2
    refine ⟨by simp, .inl ⟨_, _, rfl, run_takeDeferred hdef, ?_⟩⟩
    rw [E1.out, E2.out]
    refine ⟨_, results_tmp2 rfl _ _ _, rfl, ?_⟩
    have h1 := GB.out
    have h2 := HBV.out
    rw [hp] at h1 ⊢
    have h3 := (h1.trans (h2.mono (by omega))).trans hbX
    exact below_turn' h3 (by omega) (by omega)
  case stop =>
    rintro D cd pre X _ _ h _
    exact h.elim

theorem Fewest_any (v : L.Vw) (A : Option Addr) (n c : Nat) (w : World) (hn : v.ss.length = n) (hr : RdS w w.heap.size A v.ss) :
    Calls Try.prog 29 #[.agg #[.int .i64 v.size, .slice A n c, .int .i64 v.wrong, .int .i64 v.hxl, .int .i64 v.hxh, .int .i64 v.hyl, .int .i64 v.hyh]] w fun e w' => e = .returned (.tuple #[.int .i64 (L.fewV v), .int .i64 (L.fewE v)]) ∧ Below w.heap.size w w' := by
  rcases L.checkE_cases v with h | h
  · exact Fewest_yes v A n c w hn hr h
  · have HN := hide hn
    have HR := hide hr
    have H := hide h
    have E1 := hide (show L.fewV v = 0 by unfold L.fewV; rw [if_neg (by omega)])
    have E2 := hide (show L.fewE v = 20 from h)
    clear hn hr h
    refine calls_marks Try.func29 rfl ?_
    simp only [Try.ntmps29, List.size_toArray, List.length_cons, List.length_nil, Nat.reduceAdd, Nat.reduceSub, Array.replicate_succ, Array.replicate_zero, List.push_toArray, List.append_toArray, List.nil_append, List.cons_append]
    go_wp2_with (go_at_call 35; refine (Check_any v A n c _ HN.out ((HR.out.below (by (repeat' first | exact zbR _ _ | assumption | refine zbD ?_ | refine zbA ?_ ?_ _ | refine zbS ?_ ?_ _ | refine zbT ?_ (by assumption) ?_ | (simp; done) | (simp; omega) | omega))).mono (by first | (simp; done) | (simp; omega) | omega))).mono ?_; rintro e w2 ⟨rfl, hb2⟩; rw [H.out])
    rw [E1.out, E2.out]
    exact ⟨_, results_tmp2 rfl _ _ _, rfl, by (repeat' first | exact zbR _ _ | assumption | refine zbD ?_ | refine zbA ?_ ?_ _ | refine zbS ?_ ?_ _ | refine zbT ?_ (by assumption) ?_ | (simp; done) | (simp; omega) | omega)⟩

end Go.Proofs.Ytgnobonhohfofaa

namespace Go.Proofs.Ytgnobonhohfofaa
open Go.RowKit
attribute [local go_sem ↓] Go.wp_at_zero Go.wp_at_succ
attribute [local go_sem] Oper.semAt_some

theorem flatI_set (xs : List Int) (i : Nat) (x : Int) : (flatI xs).set i (.int .i64 x) = flatI (xs.set i x) := by unfold flatI; rw [List.map_set]
theorem own_rowI {β : Type} {B base g n : Nat} (hg : g < B) (xs : β → List Value) : OwnFrom B (fun s W => W.ownsRow base 3 1 (.slice (some ⟨g, 0, none⟩) n n) n (xs s)) := fun _ _ _ row h hgr hr =>
  h.kept hgr (.inr (fun e => by have := (hr g e.symm).1; omega))
theorem run_make_ints (n : Nat) (hn : n ≤ 1000) (W : World) : (Instr.makeSlice 57 (.int .i64 (n : Int)) (.int .i64 (n : Int))).run Try.prog W = .ok (.slice (some ⟨W.heap.size, 0, none⟩) n n) (W.alloc (.cells (madeCells #[.int .i64 0] n) 3)) := by
  obtain ⟨i, hi, hz0, hz1, hz2⟩ := info_parts int_info
  have hr := run_make (P := Try.prog) W 57 3 i _ Try.underlying57 hi hz0 .i64 .i64 n n (by omega) (Int.le_refl _) (by rw [hz2]; omega) (by omega)
  rw [hr, hz1]
  simp [Value.cells]

namespace L
def cnt (v : Vw) (l : List (Int × Int)) (i : Nat) : Nat := (l.filter fun c => decide ((i : Int) ∈ wrongL v c.1 c.2)).length
theorem cnt_snoc (v : Vw) (l : List (Int × Int)) (c : Int × Int) (i : Nat) : cnt v (l ++ [c]) i = cnt v l i + (if (i : Int) ∈ wrongL v c.1 c.2 then 1 else 0) := by
  unfold cnt
  rw [List.filter_append, List.length_append]
  congr 1
  by_cases h : (i : Int) ∈ wrongL v c.1 c.2 <;> simp [List.filter_cons, h]
theorem cnt_le (v : Vw) (l : List (Int × Int)) (i : Nat) : cnt v l i ≤ l.length := List.length_filter_le _ _
def tms (v : Vw) (l : List (Int × Int)) (k : List Int) (n : Nat) : List Int := (List.range n).map fun i => (cnt v l i : Int) + (if (i : Int) ∈ k then 1 else 0)
theorem tms_length (v : Vw) (l : List (Int × Int)) (k : List Int) (n : Nat) : (tms v l k n).length = n := by unfold tms; simp
theorem tms_at {v : Vw} {l : List (Int × Int)} {k : List Int} {n i : Nat} (h : i < n) : (tms v l k n)[i]? = some ((cnt v l i : Int) + (if (i : Int) ∈ k then 1 else 0)) := by
  unfold tms; rw [List.getElem?_map, List.getElem?_range h]; rfl
theorem tms_nil (v : Vw) (n : Nat) : tms v [] [] n = List.replicate n 0 := by
  apply List.ext_getElem?
  intro i
  by_cases h : i < n
  · rw [tms_at h, List.getElem?_replicate, if_pos h]; simp [cnt]
  · rw [List.getElem?_eq_none (by rw [tms_length]; omega), List.getElem?_eq_none (by simp; omega)]
theorem tms_set {v : Vw} {l : List (Int × Int)} {k : List Int} {n i : Nat} (h : i < n) (hk : (i : Int) ∉ k) : (tms v l k n).set i ((cnt v l i : Int) + 1) = tms v l (k ++ [(i : Int)]) n := by
  apply List.ext_getElem?
  intro j
  rw [List.getElem?_set]
  by_cases hj : j < n
  · rw [tms_at hj, tms_at hj, tms_length]
    by_cases e : i = j
    · subst e; rw [if_pos rfl, if_pos hj, if_pos (by simp)]
    · rw [if_neg e]
      have e' : (j : Int) ≠ (i : Int) := by omega
      simp [e']
  · rw [if_neg (by omega), List.getElem?_eq_none (by rw [tms_length]; omega), List.getElem?_eq_none (by rw [tms_length]; omega)]
theorem tms_all (v : Vw) (l : List (Int × Int)) (c : Int × Int) (n : Nat) : tms v l (wrongL v c.1 c.2) n = tms v (l ++ [c]) [] n := by
  unfold tms
  refine List.map_congr_left fun i _ => ?_
  rw [cnt_snoc]
  by_cases h : (i : Int) ∈ wrongL v c.1 c.2 <;> simp [h]
theorem wrongFrom_mem {x y : Int} : ∀ {ss : List St} {i : Nat} {z : Int}, z ∈ wrongFrom x y i ss → ∃ j : Nat, z = (j : Int) ∧ i ≤ j ∧ j < i + ss.length
  | [], i, z, h => by simp [wrongFrom] at h
  | s :: r, i, z, h => by
    unfold wrongFrom at h
    split at h
    · rcases List.mem_cons.1 h with rfl | h
      · exact ⟨i, rfl, Nat.le_refl _, by simp⟩
      · obtain ⟨j, h1, h2, h3⟩ := wrongFrom_mem h
        exact ⟨j, h1, by omega, by simp; omega⟩
    · obtain ⟨j, h1, h2, h3⟩ := wrongFrom_mem h
      exact ⟨j, h1, by omega, by simp; omega⟩
theorem wrongFrom_nodup (x y : Int) : ∀ (ss : List St) (i : Nat), (wrongFrom x y i ss).Nodup
  | [], i => by simp [wrongFrom]
  | s :: r, i => by
    unfold wrongFrom
    split
    · rw [List.nodup_cons]
      refine ⟨fun h => ?_, wrongFrom_nodup x y r (i + 1)⟩
      obtain ⟨j, h1, h2, h3⟩ := wrongFrom_mem h
      omega
    · exact wrongFrom_nodup x y r (i + 1)
theorem nodup_take {l : List Int} (h : l.Nodup) {k : Nat} {z : Int} (hk : l[k]? = some z) : z ∉ l.take k := by
  intro hm
  obtain ⟨j, hj⟩ := List.getElem?_of_mem hm
  have hlt : j < k := by
    have := (List.getElem?_eq_some_iff.1 hj).1
    rw [List.length_take] at this
    omega
  rw [List.getElem?_take_of_lt hlt] at hj
  obtain ⟨h1, e1⟩ := List.getElem?_eq_some_iff.1 hj
  obtain ⟨h2, e2⟩ := List.getElem?_eq_some_iff.1 hk
  exact List.pairwise_iff_getElem.1 h j k h1 h2 hlt (by rw [e1, e2])
def blmFrom (v : Vw) (n : Nat) : List Int := ((List.range n).filter fun i => decide (cnt v (tcents v 0) i = (tcents v 0).length)).map fun i => ((i : Nat) : Int)
def blmE (v : Vw) : Int := if checkE v = 0 then (if tcents v 0 = [] then 3 else 0) else checkE v
def blmL (v : Vw) : List Int := if checkE v = 0 then (if tcents v 0 = [] then [] else blmFrom v v.ss.length) else []
theorem blmFrom_next (v : Vw) (k : Nat) : blmFrom v (k + 1) = blmFrom v k ++ (if cnt v (tcents v 0) k = (tcents v 0).length then [(k : Int)] else []) := by
  unfold blmFrom
  rw [List.range_succ, List.filter_append, List.map_append]
  congr 1
  by_cases h : cnt v (tcents v 0) k = (tcents v 0).length <;> simp [List.filter_cons, h]
theorem blmFrom_le (v : Vw) (k : Nat) : (blmFrom v k).length ≤ k := by
  unfold blmFrom
  rw [List.length_map]
  have := List.length_filter_le (fun i => decide (cnt v (tcents v 0) i = (tcents v 0).length)) (List.range k)
  rwa [List.length_range] at this
end L

def BlmPost (v : L.Vw) (w : World) (e : Ending) (w' : World) : Prop :=
  ∃ sv c', e = .returned (.tuple #[.slice sv (L.blmL v).length c', .int .i64 (L.blmE v)]) ∧ w'.ownsRow w.heap.size 3 1 (.slice sv (L.blmL v).length c') (L.blmL v).length (flatI (L.blmL v)) ∧ Below w.heap.size w w'

set_option maxRecDepth 100000 in
set_option maxHeartbeats 3200000 in
theorem Blame_yes (v : L.Vw) (A : Option Addr) (n c : Nat) (w : World) (hn : v.ss.length = n) (hr : RdS w w.heap.size A v.ss) (h : L.checkE v = 0) :
    Calls Try.prog 30 #[.agg #[.int .i64 v.size, .slice A n c, .int .i64 v.wrong, .int .i64 v.hxl, .int .i64 v.hxh, .int .i64 v.hyl, .int .i64 v.hyh]] w fun e w' => BlmPost v w e w' := by
  have HN := hide hn
  have HR := hide hr
  have H := hide h
  have HV := hide (L.checkE_ok h)
  have hn8 : (n : Int) ≤ 8 := by have := HV.out.n8; omega
  have hmk : ∀ W : World, (Instr.makeSlice 57 (.int .i64 (n : Int)) (.int .i64 (n : Int))).run Try.prog W = .ok (.slice (some ⟨W.heap.size, 0, none⟩) n n) (W.alloc (.cells (madeCells #[.int .i64 0] n) 3)) := fun W => run_make_ints n (by omega) W
  clear hn hr h
  refine calls_marks Try.func30 rfl ?_
  simp only [Try.ntmps30, List.size_toArray, List.length_cons, List.length_nil, Nat.reduceAdd, Nat.reduceSub, Array.replicate_succ, Array.replicate_zero, List.push_toArray, List.append_toArray, List.nil_append, List.cons_append]
  go_upto_region 1 with fail
  obtain ⟨W0, hW0⟩ : ∃ W0, w.alloc (.cells #[.int .i64 v.size, .slice A n c, .int .i64 v.wrong, .int .i64 v.hxl, .int .i64 v.hxh, .int .i64 v.hyl, .int .i64 v.hyh] 26) = W0 := ⟨_, rfl⟩
  have gp : W0.heap[w.heap.size]? = some (.cells #[.int .i64 v.size, .slice A n c, .int .i64 v.wrong, .int .i64 v.hxl, .int .i64 v.hxh, .int .i64 v.hyl, .int .i64 v.hyh] 26 (0, 0)) := by
    rw [← hW0]; exact World.alloc_heap_new _ _
  have gs : W0.heap.size = w.heap.size + 1 := by rw [← hW0]; simp
  have gB : Below w.heap.size w W0 := by rw [← hW0]; (repeat' first | exact zbR _ _ | assumption | refine zbD ?_ | refine zbA ?_ ?_ _ | refine zbS ?_ ?_ _ | refine zbT ?_ (by assumption) ?_ | (simp; done) | (simp; omega) | omega)
  rw [hW0]
  clear hW0
  obtain ⟨p, hp⟩ : ∃ p, w.heap.size = p := ⟨_, rfl⟩
  rw [hp]
  rw [hp] at gp
  have lp : p < W0.heap.size := by omega
  have HR0 := hide ((HR.out.below gB).mono gB.size)
  have GB := hide gB
  have GP := hide gp
  have cp0 := (blk_cell gp 0).trans rfl; have cp1 := (blk_cell gp 1).trans rfl; have cp2 := (blk_cell gp 2).trans rfl; have cp3 := (blk_cell gp 3).trans rfl; have cp4 := (blk_cell gp 4).trans rfl; have cp5 := (blk_cell gp 5).trans rfl; have cp6 := (blk_cell gp 6).trans rfl
  clear gp gB HR
  go_upto_region 6 with (go_at_call 35; refine (Check_any v A n c _ HN.out HR0.out).mono ?_; rintro e w2 ⟨rfl, hb2⟩; rw [H.out]; obtain ⟨hc2, hf2⟩ := bcell hb2; have q2 := hb2.size; have lp2 : p < w2.heap.size := (by omega))
  obtain ⟨W4, hW4⟩ : ∃ W4, ((w2.alloc (.cells #[.int .i64 0] 3)).alloc (.cells (madeCells #[.int .i64 0] n) 3)).alloc (.cells #[.slice (some ⟨w2.heap.size + 1, 0, none⟩) n n] 57) = W4 := ⟨_, rfl⟩
  have v0 : W4.heap[w2.heap.size]? = some (.cells #[.int .i64 0] 3 (0, 0)) := by
    rw [← hW4]; exact (Below.heap_alloc _ _ _ (by first | (simp; done) | (simp; omega) | omega)).trans ((Below.heap_alloc _ _ _ (by first | (simp; done) | (simp; omega) | omega)).trans (World.alloc_heap_new _ _))
  have v1 : W4.ownsRow (w2.heap.size + 1) 3 1 (.slice (some ⟨w2.heap.size + 1, 0, none⟩) n n) n (flatI (L.tms v [] [] n)) := by
    rw [← hW4, L.tms_nil]
    have h1 := World.ownsRow_lit (base := w2.heap.size + 1) (e := 3) (size := 1) (w2.alloc (.cells #[.int .i64 0] 3)) (madeCells #[.int .i64 0] n) n (by simp) (by unfold maxLen; omega) (by rw [size_madeCells]; omega)
    rw [World.size_alloc, toList_madeCells_one] at h1
    have h2 : flatI (List.replicate n 0) = List.replicate n (.int .i64 0) := by unfold flatI; rw [List.map_replicate]
    rw [h2]
    exact h1.alloc _
  have v2 : W4.cell? ⟨w2.heap.size + 1 + 1, 0, none⟩ = some (.slice (some ⟨w2.heap.size + 1, 0, none⟩) n n) := by
    rw [← hW4]; exact (zcA _ _ _ _ (by simp)).trans rfl
  have vs : W4.heap.size = w2.heap.size + 1 + 1 + 1 := by rw [← hW4]; simp
  have vB : Below w2.heap.size w2 W4 := by rw [← hW4]; (repeat' first | exact zbR _ _ | assumption | refine zbD ?_ | refine zbA ?_ ?_ _ | refine zbS ?_ ?_ _ | refine zbT ?_ (by assumption) ?_ | (simp; done) | (simp; omega) | omega)
  rw [hW4]
  clear hW4 hmk
  obtain ⟨f, hf⟩ : ∃ f, w2.heap.size = f := ⟨_, rfl⟩
  rw [hf] at v0 v1 v2 vs lp2 q2 vB
  rw [hf]
  have vp := (vB.block p (by omega)).trans ((hb2.block p lp).trans GP.out)
  have hBV : Below W0.heap.size W0 W4 := hb2.trans (vB.mono q2)
  have lp4 : p < W4.heap.size := by omega
  have V0 := hide v0
  have V1 := hide v1
  have V2 := hide v2
  have VP := hide vp
  have HB4 := hide hBV
  clear cp0 cp1 cp2 cp3 cp4 cp5 cp6 hc2 hf2 hb2 vB hBV v0 v1 v2
  have cp0 := (blk_cell vp 0).trans rfl; have cp1 := (blk_cell vp 1).trans rfl; have cp2 := (blk_cell vp 2).trans rfl; have cp3 := (blk_cell vp 3).trans rfl; have cp4 := (blk_cell vp 4).trans rfl; have cp5 := (blk_cell vp 5).trans rfl; have cp6 := (blk_cell vp 6).trans rfl
  have VS := hide vs
  clear vp vs
  go_wp2_with (go_at_call 58; refine (trueCentres_any v A n c 0 _).mono ?_; rintro e V ⟨rfl, hVb, hVs, hV0, hV1, hV2, hV3, hV4⟩)
  have vs := VS.out
  have hVW := hVb.size
  have vf : V.heap[f]? = some (.cells #[.int .i64 (([] : List (Int × Int)).length : Int)] 3 (0, 0)) := (hVb.block f (by omega)).trans V0.out
  have vr : V.ownsRow (f + 1) 3 1 (.slice (some ⟨f + 1, 0, none⟩) n n) n (flatI (L.tms v [] [] n)) := owns_below V1.out hVb
  have vc : V.cell? ⟨f + 1 + 1, 0, none⟩ = some (.slice (some ⟨f + 1, 0, none⟩) n n) := (hVb.cell (p := ⟨f + 1 + 1, 0, none⟩) (by show f + 1 + 1 < _; omega)).trans V2.out
  have vp := (hVb.block p lp4).trans VP.out
  have hBV : Below W0.heap.size W0 V := HB4.out.trans (hVb.mono (by omega))
  have HBV := hide hBV
  have HLen := hide (L.tcents_length HV.out 0)
  have VP' := hide vp
  have VC := hide vc
  clear cp0 cp1 cp2 cp3 cp4 cp5 cp6 vp vc hBV
  refine wp_rangeP (gf := 71) (lb := #[.pointer (some ⟨W4.heap.size, 0, none⟩), .pointer (some ⟨W4.heap.size + 1 + 1, 0, none⟩)]) rfl (enters_of Try.func71 (by kernel_rfl) rfl)
    (trueCentres_seq v A n c 0 W4.heap.size (W4.heap.size + 1) (W4.heap.size + 1 + 1) W0.heap.size (fun x => x < V.heap.size ∧ x ≠ f ∧ x ≠ f + 1) V HV.out HN.out HBV.out.size (HR0.out.below HBV.out) (fun x hx => ⟨by omega, by omega, by omega⟩) (fun x hx => hx.1) (by omega) (by omega) ⟨by omega, by omega, by omega⟩ ⟨by omega, by omega, by omega⟩ ⟨by omega, by omega, by omega⟩ hV0 hV1 hV2 hV3 hV4) (Below.refl _ _) (fun x hx => hx.1) (fun _ => rfl)
    (fun pre X => Keeps (fun x => x ≠ f ∧ x ≠ f + 1) V X ∧ X.heap[f]? = some (.cells #[.int .i64 (pre.length : Int)] 3 (0, 0)) ∧ X.ownsRow (f + 1) 3 1 (.slice (some ⟨f + 1, 0, none⟩) n n) n (flatI (L.tms v pre [] n)))
    (fun _ _ _ => False)
    (OwnFrom.and (keeps_own (Nat.le_refl _)) (OwnFrom.and (own_block (by omega) _) (own_rowI (by omega) _)))
    (fun _ _ _ _ _ hs _ _ => hs)
    ⟨Keeps.refl _ _, vf, vr⟩ ?a1 ?assign ?body ?done ?stop
  case assign =>
    intro l2 x X K hK
    simp only [encP]
    gi_wp2
    exact hK
  case body =>
    rintro l2 pre x X ⟨hK, hF, hT⟩ hpre
    have hmem := hpre.subset (List.mem_append_right _ (List.mem_singleton.2 rfl))
    obtain ⟨hx0, hx1, hy0, hy1⟩ := L.mem_cents (List.mem_filter.1 hmem).1
    have zs := HV.out.s1
    have z3 := hK.rest.size
    have hlen : pre.length < 1681 := by have := hpre.length_le; rw [List.length_append, List.length_singleton] at this; have := HLen.out; omega
    have lpX : p < X.heap.size := by omega
    have lfX : f < X.heap.size := by omega
    have lcX : f + 1 + 1 < X.heap.size := by omega
    obtain ⟨x1, x2⟩ := x
    dsimp only at hx0 hx1 hy0 hy1
    have hx1' : x1 ≤ 40 := by omega
    have hy1' : x2 ≤ 40 := by omega
    have bp := (hK.same p (show p ≠ f ∧ p ≠ f + 1 by omega) (by omega)).trans VP'.out
    have cp0 := (blk_cell bp 0).trans rfl; have cp1 := (blk_cell bp 1).trans rfl; have cp2 := (blk_cell bp 2).trans rfl; have cp3 := (blk_cell bp 3).trans rfl; have cp4 := (blk_cell bp 4).trans rfl; have cp5 := (blk_cell bp 5).trans rfl; have cp6 := (blk_cell bp 6).trans rfl
    have cc : X.cell? ⟨f + 1 + 1, 0, none⟩ = some (.slice (some ⟨f + 1, 0, none⟩) n n) := (hK.cell (show f + 1 + 1 ≠ f ∧ f + 1 + 1 ≠ f + 1 by omega) (by omega)).trans VC.out
    have HRX := hide ((HR0.out.below HBV.out).below (hK.below (n := W0.heap.size) (fun y hy => by show y ≠ f ∧ y ≠ f + 1; omega) (by omega)))
    obtain ⟨mm, hmm⟩ : ∃ mm : Int, (pre.length : Int) = mm := ⟨_, rfl⟩
    rw [hmm] at hF
    have mb0 : 0 ≤ mm := by omega
    have mb1 : mm ≤ 1681 := by omega
    have HPL := hide (show pre.length ≤ 1681 by omega)
    have EM := hide (show ((pre ++ [(x1, x2)]).length : Int) = mm + 1 by rw [List.length_append, ← hmm]; simp)
    have cf0 := (blk_cell hF 0).trans rfl
    have ff0 := blk_frozen hF 0
    have HF := hide hF
    have HK := hide hK
    have HT := hide hT
    obtain ⟨l, hl⟩ : ∃ l, L.wrongL v x1 x2 = l := ⟨_, rfl⟩
    have hl8 : l.length ≤ 8 := by rw [← hl, L.wrongL_length]; have := L.many_le v.ss x1 x2 0; have := HN.out; omega
    have HL := hide hl
    have HMem := hide (show ∀ z ∈ l, ∃ j : Nat, z = (j : Int) ∧ j < n from fun z hz => by
      rw [← hl] at hz
      obtain ⟨j, h1, _, h2⟩ := L.wrongFrom_mem hz
      exact ⟨j, h1, by have := HN.out; omega⟩)
    have HNd := hide (show l.Nodup by rw [← hl]; exact L.wrongFrom_nodup x1 x2 v.ss 0)
    clear bp hF hK hT hpre hmem hl hmm hlen hx1 hy1
    gi_wp2_with (refine ⟨trivial, ?_⟩; gi_at_call 60; refine (CallsIn.inRound l2 (callsIn_wide.2 (wrongAbout_any v A n c x1 x2 _ HN.out ((HRX.out.below (zbS (zbR _ _) (show W0.heap.size ≤ f by omega) _)).mono (by simp; omega)) HV.out.ok (by omega) hx0 hx1' hy0 hy1'))).mono ?_; rintro e w3 ⟨sv, c3, rfl, hown, hb3⟩; rw [HL.out] at hown ⊢; have HO3 := hide hown; clear hown)
    have hsz : (X.setCell ⟨f, 0, none⟩ (.int .i64 (mm + 1))).heap.size = X.heap.size := by simp
    have q3 := hb3.size
    rw [hsz] at q3
    have hF3 : w3.heap[f]? = some (.cells #[.int .i64 (mm + 1)] 3 (0, 0)) := (hb3.block f (by rw [hsz]; omega)).trans (blk_set HF.out 0 _)
    have hT3 : w3.ownsRow (f + 1) 3 1 (.slice (some ⟨f + 1, 0, none⟩) n n) n (flatI (L.tms v pre [] n)) := owns_below (ownsRow_setCell_below HT.out (show f < f + 1 by omega) _) hb3
    have cc3 : w3.cell? ⟨f + 1 + 1, 0, none⟩ = some (.slice (some ⟨f + 1, 0, none⟩) n n) := (hb3.cell (p := ⟨f + 1 + 1, 0, none⟩) (by rw [hsz]; exact lcX)).trans ((zsO _ _ _ _ (by simp)).trans cc)
    have lc3 : f + 1 + 1 < w3.heap.size := by omega
    have lf3 : f < w3.heap.size := by omega
    have hKw : ∀ S : Nat → Prop, ¬ S f → Keeps S X w3 := fun S hS => (Keeps.setAt X ⟨f, 0, none⟩ _ hS).trans (Keeps.of_below hb3)
    have HF3 := hide hF3
    have HT3 := hide hT3
    have CC3 := hide cc3
    have HKW := hide hKw
    have HO3' := hide (owns_mono HO3.out (show f + 1 + 1 ≤ _ by rw [hsz]; omega))
    clear cp0 cp1 cp2 cp3 cp4 cp5 cp6 cc cf0 ff0 hF3 hT3 cc3 hKw hb3 HO3 hsz
    gi_loopw [34] (fun t wr => ∃ j : Nat, j ≤ l.length ∧ t = .int .i64 j ∧ Hid (wr.ownsRow (f + 1) 3 1 (.slice (some ⟨f + 1, 0, none⟩) n n) n (flatI (L.tms v pre (l.take j) n))) ∧ Keeps (fun y => y ≠ f + 1) w3 wr) (fun t _ => l.length - (intOf t).toNat)
    case atStart => exact ⟨0, by omega, rfl, HT3, Keeps.refl _ _⟩
    case round =>
      obtain ⟨j, hj, rfl, hTj, hKj⟩ := hrel
      have ccj := (hKj.cell (show f + 1 + 1 ≠ f + 1 by omega) lc3).trans CC3.out
      have zj := hKj.rest.size
      have lcj : f + 1 + 1 < wr.heap.size := by omega
      by_cases hlt : j < l.length
      · obtain ⟨z, hz⟩ : ∃ z, l[j]? = some z := ⟨_, List.getElem?_eq_getElem hlt⟩
        obtain ⟨ci, rfl, hci⟩ := HMem.out z (List.mem_of_getElem? hz)
        obtain ⟨g, cap, e, hbg, hgl⟩ := HO3'.out.form (by omega)
        have e' : sv = some ⟨g, 0, none⟩ ∧ c3 = cap := by
          simp only [Value.slice.injEq] at e
          exact ⟨e.1, e.2.2⟩
        obtain ⟨rfl, rfl⟩ := e'
        have hnt := L.nodup_take HNd.out hz
        have lz := (hKj.cell (o := j) (show g ≠ f + 1 by omega) hgl).trans ((HO3'.out.cellAt j (by omega)).trans (flatI_at hz))
        have rz := (hTj.out.cellAt ci (by omega)).trans (flatI_at (L.tms_at hci))
        rw [if_neg hnt, Int.add_zero] at rz
        have fz := hTj.out.frozenAt ci
        have lrow := (hTj.out.lt (f + 1) rfl).2
        have hgj : g < wr.heap.size := by omega
        have cb0 : (0 : Int) ≤ (L.cnt v pre ci : Int) := by omega
        have cb1 : (L.cnt v pre ci : Int) ≤ 1681 := by have := L.cnt_le v pre ci; have := HPL.out; omega
        have hj0 : (0 : Int) ≤ (j : Int) := by omega
        have hlt' : (j : Int) < (l.length : Int) := by omega
        have hci0 : (0 : Int) ≤ (ci : Int) := by omega
        have hci1 : (ci : Int) < (n : Int) := by omega
        have HTK := hide (show l.take (j + 1) = l.take j ++ [(ci : Int)] by rw [List.take_add_one, hz]; rfl)
        have HNT := hide hnt
        have HCI := hide hci
        clear e hz hnt hci
        gi_wp2
        go_roundw
        case rel =>
          refine ⟨j + 1, by omega, by go_num, hide ?_, ?_⟩
          · rw [HTK.out, ← L.tms_set HCI.out HNT.out, ← flatI_set]
            exact (hTj.out.stored ci _).1
          · exact hKj.st (fun h => h rfl)
        case measure => simp [intOf]; omega
      · have hjn : j = l.length := by omega
        subst hjn
        gi_wp2
        refine ⟨?_, ?_, ?_, ?_⟩
        · exact (HKW.out _ (fun h => by rcases h with ⟨_, h, _⟩ | h <;> omega)).trans (hKj.less (fun k h => by rcases h with ⟨_, _, h⟩ | h <;> omega))
        · exact HK.out.trans ((HKW.out _ (fun h => h.1 rfl)).trans (hKj.less (fun k h => h.2)))
        · rw [EM.out]; exact (hKj.same f (show f ≠ f + 1 by omega) lf3).trans HF3.out
        · have := hTj.out
          rw [List.take_of_length_le (Nat.le_refl _), ← HL.out] at this
          rw [← L.tms_all v pre (x1, x2)]
          exact this
  case done =>
    rintro D X hD ⟨hK, hF, hT⟩ hdef
    have z3 := hK.rest.size
    have hbX : Below p V X := hK.below (n := p) (fun y hy => by show y ≠ f ∧ y ≠ f + 1; omega) (by omega)
    have hcX : X.cell? ⟨f + 1 + 1, 0, none⟩ = some (.slice (some ⟨f + 1, 0, none⟩) n n) := (hK.cell (show f + 1 + 1 ≠ f ∧ f + 1 + 1 ≠ f + 1 by omega) (by omega)).trans VC.out
    have cf0 := (blk_cell hF 0).trans rfl
    have lfX : f < X.heap.size := by omega
    have lcX : f + 1 + 1 < X.heap.size := by omega
    have h1 := GB.out
    have h2 := HBV.out
    have HBX := hide (show Below w.heap.size w X by
      rw [hp] at h1 ⊢
      exact (h1.trans (h2.mono (by omega))).trans hbX)
    have lD := (Array.getElem?_eq_some_iff.1 hdef).1
    have hD0 : w.heap.size ≤ D := by omega
    clear h1 h2 hK hbX vs hVs hVW hV0 hV1 hV2 hV3 hV4
    by_cases hT0 : L.tcents v 0 = []
    · have E1 := hide (show L.blmL v = [] by unfold L.blmL; rw [if_pos H.out, if_pos hT0])
      have E2 := hide (show L.blmE v = 3 by unfold L.blmE; rw [if_pos H.out, if_pos hT0])
      rw [hT0] at cf0
      simp only [List.length_nil] at cf0
      clear hF hT hT0
      go_wp2
      refine ⟨by simp, .inl ⟨_, _, rfl, run_takeDeferred hdef, ?_⟩⟩
      refine ⟨_, results_tmp2 rfl _ _ _, none, 0, ?_, ?_, below_turn' HBX.out hD0 HBX.out.size⟩
      · rw [E1.out, E2.out]; rfl
      · rw [E1.out]; exact World.ownsRow_nil _ _ _ _
    · have E1 := hide (show L.blmL v = L.blmFrom v n by unfold L.blmL; rw [if_pos H.out, if_neg hT0, HN.out])
      have E2 := hide (show L.blmE v = 0 by unfold L.blmE; rw [if_pos H.out, if_neg hT0])
      have hpos : 0 < (L.tcents v 0).length := List.length_pos_iff.2 hT0
      obtain ⟨mm, hmm⟩ : ∃ mm : Int, ((L.tcents v 0).length : Int) = mm := ⟨_, rfl⟩
      rw [hmm] at cf0
      have m1 : (mm == 0) = false := by simp; omega
      have HMM := hide hmm
      have HT := hide hT
      have mb1 : mm ≤ 1681 := by have := HLen.out; omega
      clear hF hT hT0 hpos hmm
      go_wp2
      go_loopw [11, 49] (fun al t wr => ∃ k : Nat, k ≤ n ∧ t = .int .i64 k ∧ (∃ sv c', al = .slice sv (L.blmFrom v k).length c' ∧ Hid (wr.ownsRow X.heap.size 3 1 (.slice sv (L.blmFrom v k).length c') (L.blmFrom v k).length (flatI (L.blmFrom v k)))) ∧ Below X.heap.size X wr) (fun _ t _ => n - (intOf t).toNat)
      case atStart => exact ⟨0, by omega, rfl, ⟨none, 0, rfl, hide (World.ownsRow_nil _ _ _ _)⟩, Below.refl _ _⟩
      case round =>
        obtain ⟨k, hk, rfl, ⟨sv, c', rfl, hown⟩, hB⟩ := hrel
        have qB := hB.size
        have cfr := (hB.cell (p := ⟨f, 0, none⟩) lfX).trans cf0
        have lfr : f < wr.heap.size := by omega
        have hle := L.blmFrom_le v k
        by_cases hlt : k < n
        · have tz := (hB.cell (p := ⟨f + 1, k, none⟩) (show f + 1 < X.heap.size by omega)).trans ((HT.out.cellAt k (by omega)).trans (flatI_at (L.tms_at hlt)))
          rw [if_neg (by simp), Int.add_zero] at tz
          have lrow : f + 1 < wr.heap.size := by omega
          have hk0 : (0 : Int) ≤ (k : Int) := by omega
          have hlt' : (k : Int) < (n : Int) := by omega
          have HNX := hide (L.blmFrom_next v k)
          by_cases hc : L.cnt v (L.tcents v 0) k = (L.tcents v 0).length
          · have hcm : ((L.cnt v (L.tcents v 0) k : Int)) = mm := by have := HMM.out; omega
            rw [hcm] at tz
            have HE := hide (show L.blmFrom v (k + 1) = L.blmFrom v k ++ [(k : Int)] by rw [HNX.out, if_pos hc])
            have HL := hide (show (L.blmFrom v (k + 1)).length = (L.blmFrom v k).length + 1 by rw [HE.out, List.length_append]; rfl)
            clear hc hcm
            go_wp2_with (refine wpList_app_at rfl (.tmp 57) (.tmp 59) rfl X.heap.size _ (L.blmFrom v k) _ rfl (hown.out.alloc _) (some ⟨wr.heap.size, 0, none⟩) 1 1 [(k : Int)] rfl rfl (rdI_one (World.alloc_heap_new _ _)) (fun e => by cases e) (by omega) (by omega) (by simp; omega) ?_; intro A2 c2 w5 hown2 hgrow; have hg5 := grown_below (B := X.heap.size) hgrow (by simp; omega) (fun g hg => (hown.out.lt g hg).1); have HO2 := hide hown2; clear hown2 hgrow)
            go_roundw
            case rel => exact ⟨k + 1, by omega, by go_num, ⟨A2, c2, by rw [HL.out], hide (by rw [HL.out, HE.out]; exact HO2.out)⟩, (hB.trans ((Below.refl _ wr).alloc qB _)).trans hg5⟩
            case measure => simp [intOf]; omega
          · have hcm : ((L.cnt v (L.tcents v 0) k : Int) == mm) = false := by have := HMM.out; simp only [beq_eq_false_iff_ne, ne_eq]; omega
            have HE := hide (show L.blmFrom v (k + 1) = L.blmFrom v k by rw [HNX.out, if_neg hc, List.append_nil])
            clear hc
            go_wp2_with fail
            go_roundw
            case rel => exact ⟨k + 1, by omega, by go_num, ⟨sv, c', by rw [HE.out], hide (by rw [HE.out]; exact hown.out)⟩, hB⟩
            case measure => simp [intOf]; omega
        · have hkn : k = n := by omega
          subst hkn
          go_wp2_with fail
          have hdr : wr.heap[D]? = some (.deferred (some [])) := (hB.block D lD).trans hdef
          refine ⟨by simp, .inl ⟨_, _, rfl, run_takeDeferred hdr, ?_⟩⟩
          refine ⟨_, results_tmp2 rfl _ _ _, sv, c', ?_, ?_, ?_⟩
          · rw [E1.out, E2.out]; rfl
          · rw [E1.out]; exact ownsRow_putObj (owns_mono hown.out HBX.out.size) _ hdr rfl
          · exact below_turn' (HBX.out.trans (hB.mono HBX.out.size)) hD0 (by have := HBX.out.size; omega)
  case stop =>
    rintro D cd pre X _ _ h _
    exact h.elim

theorem Blame_any (v : L.Vw) (A : Option Addr) (n c : Nat) (w : World) (hn : v.ss.length = n) (hr : RdS w w.heap.size A v.ss) :
    Calls Try.prog 30 #[.agg #[.int .i64 v.size, .slice A n c, .int .i64 v.wrong, .int .i64 v.hxl, .int .i64 v.hxh, .int .i64 v.hyl, .int .i64 v.hyh]] w fun e w' => BlmPost v w e w' := by
  rcases L.checkE_cases v with h | h
  · exact Blame_yes v A n c w hn hr h
  · have HN := hide hn
    have HR := hide hr
    have H := hide h
    have E1 := hide (show L.blmL v = [] by unfold L.blmL; rw [if_neg (by omega)])
    have E2 := hide (show L.blmE v = 20 by unfold L.blmE; rw [if_neg (by omega)]; exact h)
    clear hn hr h
    refine calls_marks Try.func30 rfl ?_
    simp only [Try.ntmps30, List.size_toArray, List.length_cons, List.length_nil, Nat.reduceAdd, Nat.reduceSub, Array.replicate_succ, Array.replicate_zero, List.push_toArray, List.append_toArray, List.nil_append, List.cons_append]
    go_wp2_with (go_at_call 35; refine (Check_any v A n c _ HN.out ((HR.out.below (by (repeat' first | exact zbR _ _ | assumption | refine zbD ?_ | refine zbA ?_ ?_ _ | refine zbS ?_ ?_ _ | refine zbT ?_ (by assumption) ?_ | (simp; done) | (simp; omega) | omega))).mono (by first | (simp; done) | (simp; omega) | omega))).mono ?_; rintro e w2 ⟨rfl, hb2⟩; rw [H.out])
    refine ⟨_, results_tmp2 rfl _ _ _, none, 0, ?_, ?_, by (repeat' first | exact zbR _ _ | assumption | refine zbD ?_ | refine zbA ?_ ?_ _ | refine zbS ?_ ?_ _ | refine zbT ?_ (by assumption) ?_ | (simp; done) | (simp; omega) | omega)⟩
    · rw [E1.out, E2.out]; rfl
    · rw [E1.out]; exact World.ownsRow_nil _ _ _ _

end Go.Proofs.Ytgnobonhohfofaa

namespace Go.Proofs.Ytgnobonhohfofaa
open Go.RowKit
attribute [local go_sem ↓] Go.wp_at_zero Go.wp_at_succ

namespace L
def touE (m : Mk) (b : Bx) : Int := if boxB b then (if markB m 40 1 9 1 9 then 0 else 22) else 21
def touV (m : Mk) (b : Bx) : Bool := boxB b && (markB m 40 1 9 1 9 && touch m b)
theorem markB_ok {m : Mk} (h : markB m 40 1 9 1 9 = true) : MkOk m := by
  unfold markB within at h
  simp only [Bool.and_eq_true, decide_eq_true_eq] at h
  obtain ⟨⟨⟨⟨a, b⟩, c, d⟩, e, f⟩, g, i⟩ := h
  exact ⟨a, b, c, d, e, f, g, i⟩
def showE (v : Vw) (b : Bx) (call : Int) : Int := if checkBE v b = 0 then (if sure call then (if (findC v b 0 call).isSome then 0 else 3) else 22) else checkBE v b
def showM (v : Vw) (b : Bx) (call : Int) : Mk := if checkBE v b = 0 then (if sure call then foundM v b 0 call else ⟨0, 0, 0, 0⟩) else ⟨0, 0, 0, 0⟩
theorem found_none {v : Vw} {b : Bx} {k call : Int} (h : (findC v b k call).isSome = false) : foundM v b k call = ⟨0, 0, 0, 0⟩ := by
  unfold foundM
  cases hf : findC v b k call
  · rfl
  · rw [hf] at h; cases h
end L

set_option maxRecDepth 100000 in
set_option maxHeartbeats 800000 in
theorem Touches_any (m : L.Mk) (b : L.Bx) (w : World) :
    Calls Try.prog 19 #[.agg #[.int .i64 m.x, .int .i64 m.y, .int .i64 m.hx, .int .i64 m.hy], .agg #[.int .i64 b.l, .int .i64 b.r, .int .i64 b.b, .int .i64 b.t]] w fun e w' => e = .returned (.tuple #[.bool (L.touV m b), .int .i64 (L.touE m b)]) ∧ Below w.heap.size w w' := by
  cases hb : L.boxB b
  · have E1 := hide (show L.touV m b = false by unfold L.touV; rw [hb]; rfl)
    have E2 := hide (show L.touE m b = 21 by unfold L.touE; rw [hb]; rfl)
    have HB := hide hb
    clear hb
    go_enter Try.func19, Try.ntmps19
    go_wp2_with (go_at_call 51; refine (validBox_any b _).mono ?_; rintro e w2 ⟨rfl, hb2⟩; rw [HB.out]; obtain ⟨hc2, hf2⟩ := bcell hb2; have q2 := hb2.size; (try simp only [World.size_alloc] at q2); have z2_0 : w.heap.size < w2.heap.size := (by omega); have z2_1 : w.heap.size + 1 < w2.heap.size := (by omega))
    go_ret2
    exact ⟨by rw [E1.out, E2.out]; rfl, by (repeat' first | exact zbR _ _ | assumption | refine zbD ?_ | refine zbA ?_ ?_ _ | refine zbS ?_ ?_ _ | refine zbT ?_ (by assumption) ?_ | (simp; done) | (simp; omega) | omega)⟩
  cases hm : L.markB m 40 1 9 1 9
  · have E1 := hide (show L.touV m b = false by unfold L.touV; rw [hb, hm]; rfl)
    have E2 := hide (show L.touE m b = 22 by unfold L.touE; rw [hb, hm]; rfl)
    have HB := hide hb
    have HM := hide hm
    clear hb hm
    go_enter Try.func19, Try.ntmps19
    go_wp2_with (first | (go_at_call 51; refine (validBox_any b _).mono ?_; rintro e w2 ⟨rfl, hb2⟩; rw [HB.out]; obtain ⟨hc2, hf2⟩ := bcell hb2; have q2 := hb2.size; (try simp only [World.size_alloc] at q2); have z2_0 : w.heap.size < w2.heap.size := (by omega); have z2_1 : w.heap.size + 1 < w2.heap.size := (by omega)) | (go_at_call 52; refine (markWithin_any m 40 1 9 1 9 _).mono ?_; rintro e w3 ⟨rfl, hb3⟩; rw [HM.out]; obtain ⟨hc3, hf3⟩ := bcell hb3; have q3 := hb3.size; (try simp only [World.size_alloc] at q3); have z3_0 : w.heap.size < w3.heap.size := (by omega); have z3_1 : w.heap.size + 1 < w3.heap.size := (by omega)))
    go_ret2
    exact ⟨by rw [E1.out, E2.out]; rfl, by (repeat' first | exact zbR _ _ | assumption | refine zbD ?_ | refine zbA ?_ ?_ _ | refine zbS ?_ ?_ _ | refine zbT ?_ (by assumption) ?_ | (simp; done) | (simp; omega) | omega)⟩
  · have E1 := hide (show L.touV m b = L.touch m b by unfold L.touV; rw [hb, hm]; rfl)
    have E2 := hide (show L.touE m b = 0 by unfold L.touE; rw [hb, hm]; rfl)
    have HB := hide hb
    have HM := hide hm
    clear hb hm
    go_enter Try.func19, Try.ntmps19
    go_wp2_with (first | (go_at_call 51; refine (validBox_any b _).mono ?_; rintro e w2 ⟨rfl, hb2⟩; rw [HB.out]; obtain ⟨hc2, hf2⟩ := bcell hb2; have q2 := hb2.size; (try simp only [World.size_alloc] at q2); have z2_0 : w.heap.size < w2.heap.size := (by omega); have z2_1 : w.heap.size + 1 < w2.heap.size := (by omega)) | (go_at_call 52; refine (markWithin_any m 40 1 9 1 9 _).mono ?_; rintro e w3 ⟨rfl, hb3⟩; rw [HM.out]; obtain ⟨hc3, hf3⟩ := bcell hb3; have q3 := hb3.size; (try simp only [World.size_alloc] at q3); have z3_0 : w.heap.size < w3.heap.size := (by omega); have z3_1 : w.heap.size + 1 < w3.heap.size := (by omega)) | (go_at_call 53; refine (touches_any m b _ (L.boxB_ok HB.out) (L.markB_ok HM.out)).mono ?_; rintro e w4 ⟨rfl, hb4⟩; obtain ⟨hc4, hf4⟩ := bcell hb4; have q4 := hb4.size; (try simp only [World.size_alloc] at q4); have z4_0 : w.heap.size < w4.heap.size := (by omega); have z4_1 : w.heap.size + 1 < w4.heap.size := (by omega)))
    go_ret2
    exact ⟨by rw [E1.out, E2.out]; rfl, by (repeat' first | exact zbR _ _ | assumption | refine zbD ?_ | refine zbA ?_ ?_ _ | refine zbS ?_ ?_ _ | refine zbT ?_ (by assumption) ?_ | (simp; done) | (simp; omega) | omega)⟩

end Go.Proofs.Ytgnobonhohfofaa

namespace Go.Proofs.Ytgnobonhohfofaa
open Go.RowKit
attribute [local go_sem ↓] Go.wp_at_zero Go.wp_at_succ

theorem show_results {Z : World} {g : Nat} {x y p q e : Int} {cs tmps : Array Value} (h3 : Z.heap[g]? = some (.cells cs 30 (0, 0)))
    (e3 : cs = #[.int .i64 x, .int .i64 y, .int .i64 p, .int .i64 q]) (t6 : tmps[6]? = some (.pointer (some ⟨g, 0, none⟩))) (t7 : tmps[7]? = some (.int .i64 e)) :
    (results Try.f20 tmps).run Try.prog Z = .ok (.tuple #[.agg #[.int .i64 x, .int .i64 y, .int .i64 p, .int .i64 q], .int .i64 e]) Z := by
  subst e3
  have k0 : Z.cell? ⟨g, 0, none⟩ = some (.int .i64 x) := blk_cell h3 0
  have k1 : Z.cell? ⟨g, 1, none⟩ = some (.int .i64 y) := blk_cell h3 1
  have k2 : Z.cell? ⟨g, 2, none⟩ = some (.int .i64 p) := blk_cell h3 2
  have k3 : Z.cell? ⟨g, 3, none⟩ = some (.int .i64 q) := blk_cell h3 3
  simp [results, Try.results20, go_sem, t6, t7, k0, k1, k2, k3]

theorem blk_new3 {w : World} {X Y Z : Obj} : (((w.alloc X).alloc Y).alloc Z).heap[w.heap.size + 1 + 1]? = some Z := by
  have := World.alloc_heap_new ((w.alloc X).alloc Y) Z
  rwa [World.size_alloc, World.size_alloc] at this

set_option maxRecDepth 100000 in
set_option maxHeartbeats 1600000 in
theorem Show_any (v : L.Vw) (A : Option Addr) (n c : Nat) (b : L.Bx) (call : Int) (w : World) (hn : v.ss.length = n) (hr : RdS w w.heap.size A v.ss) :
    Calls Try.prog 20 #[.agg #[.int .i64 v.size, .slice A n c, .int .i64 v.wrong, .int .i64 v.hxl, .int .i64 v.hxh, .int .i64 v.hyl, .int .i64 v.hyh], .agg #[.int .i64 b.l, .int .i64 b.r, .int .i64 b.b, .int .i64 b.t], .int .i64 call] w fun e w' => e = .returned (.tuple #[.agg #[.int .i64 ((L.showM v b call)).x, .int .i64 ((L.showM v b call)).y, .int .i64 ((L.showM v b call)).hx, .int .i64 ((L.showM v b call)).hy], .int .i64 (L.showE v b call)]) ∧ Below w.heap.size w w' := by
  have HN := hide hn
  have HR := hide hr
  clear hn hr
  rcases L.checkBE_cases v b with h | h | h
  · obtain ⟨hv, hb⟩ := L.checkBE_ok h
    have HV := hide hv
    have HB := hide hb
    have H := hide h
    clear hv hb h
    cases hs : L.sure call
    · have E1 := hide (show L.showM v b call = ⟨0, 0, 0, 0⟩ by unfold L.showM; rw [if_pos H.out, hs]; rfl)
      have E2 := hide (show L.showE v b call = 22 by unfold L.showE; rw [if_pos H.out, hs]; rfl)
      have HS := hide hs
      clear hs
      go_enter Try.func20, Try.ntmps20
      go_wp2_with (first | (go_at_call 47; refine (check_any v A n c b _ HN.out ((HR.out.below (by (repeat' first | exact zbR _ _ | assumption | refine zbD ?_ | refine zbA ?_ ?_ _ | refine zbS ?_ ?_ _ | refine zbT ?_ (by assumption) ?_ | (simp; done) | (simp; omega) | omega))).mono (by first | (simp; done) | (simp; omega) | omega))).mono ?_; rintro e w2 ⟨rfl, hb2⟩; rw [H.out]; obtain ⟨hc2, hf2⟩ := bcell hb2; have q2 := hb2.size; (try simp only [World.size_alloc] at q2); have z2_0 : w.heap.size < w2.heap.size := (by omega); have z2_1 : w.heap.size + 1 < w2.heap.size := (by omega); have z2_2 : w.heap.size + 1 + 1 < w2.heap.size := (by omega); have k3 := (hb2.block (w.heap.size + 1 + 1) (by first | (simp; done) | (simp; omega) | omega)).trans blk_new3; have c0 := (blk_cell k3 0).trans rfl; have c1 := (blk_cell k3 1).trans rfl; have c2 := (blk_cell k3 2).trans rfl; have c3 := (blk_cell k3 3).trans rfl; have f0 := blk_frozen k3 0; have f1 := blk_frozen k3 1; have f2 := blk_frozen k3 2; have f3 := blk_frozen k3 3; have K3 := hide k3; clear k3) | (go_at_call 54; refine (sure_any call _).mono ?_; rintro e w3 ⟨rfl, rfl⟩; rw [HS.out]))
      rw [E1.out, E2.out]
      exact bodyPost_ret (v := .tuple #[.agg #[.int .i64 0, .int .i64 0, .int .i64 0, .int .i64 0], .int .i64 (22)]) (show_results (blk_set (blk_set (blk_set (blk_set (K3.out) 0 (.int .i64 0)) 1 (.int .i64 0)) 2 (.int .i64 0)) 3 (.int .i64 0)) rfl rfl rfl) rfl ⟨rfl, by (repeat' first | exact zbR _ _ | assumption | refine zbD ?_ | refine zbA ?_ ?_ _ | refine zbS ?_ ?_ _ | refine zbT ?_ (by assumption) ?_ | (simp; done) | (simp; omega) | omega)⟩
    · cases hf : (L.findC v b 0 call).isSome
      · have E1 := hide (show L.showM v b call = ⟨0, 0, 0, 0⟩ by unfold L.showM; rw [if_pos H.out, hs]; exact L.found_none hf)
        have E2 := hide (show L.showE v b call = 3 by unfold L.showE; rw [if_pos H.out, hs, hf]; rfl)
        have HS := hide hs
        have HF := hide hf
        clear hs hf
        go_enter Try.func20, Try.ntmps20
        go_wp2_with (first | (go_at_call 47; refine (check_any v A n c b _ HN.out ((HR.out.below (by (repeat' first | exact zbR _ _ | assumption | refine zbD ?_ | refine zbA ?_ ?_ _ | refine zbS ?_ ?_ _ | refine zbT ?_ (by assumption) ?_ | (simp; done) | (simp; omega) | omega))).mono (by first | (simp; done) | (simp; omega) | omega))).mono ?_; rintro e w2 ⟨rfl, hb2⟩; rw [H.out]; obtain ⟨hc2, hf2⟩ := bcell hb2; have q2 := hb2.size; (try simp only [World.size_alloc] at q2); have z2_0 : w.heap.size < w2.heap.size := (by omega); have z2_1 : w.heap.size + 1 < w2.heap.size := (by omega); have z2_2 : w.heap.size + 1 + 1 < w2.heap.size := (by omega); have k2 := (hb2.block (w.heap.size + 1 + 1) (by first | (simp; done) | (simp; omega) | omega)).trans blk_new3; have K2 := hide k2; clear k2) | (go_at_call 54; refine (sure_any call _).mono ?_; rintro e w3 ⟨rfl, rfl⟩; rw [HS.out]) | (go_at_call 55; refine (find_any v A n c b 0 call _ HV.out HB.out HN.out ((HR.out.below (by (repeat' first | exact zbR _ _ | assumption | refine zbD ?_ | refine zbA ?_ ?_ _ | refine zbS ?_ ?_ _ | refine zbT ?_ (by assumption) ?_ | (simp; done) | (simp; omega) | omega))).mono (by first | (simp; done) | (simp; omega) | omega)) (by omega) (by omega)).mono ?_; rintro e w4 ⟨rfl, hb4⟩; rw [HF.out]; have q4 := hb4.size; have k3 := (hb4.block (w.heap.size + 1 + 1) (by omega)).trans K2.out; have c0 := (blk_cell k3 0).trans rfl; have c1 := (blk_cell k3 1).trans rfl; have c2 := (blk_cell k3 2).trans rfl; have c3 := (blk_cell k3 3).trans rfl; have f0 := blk_frozen k3 0; have f1 := blk_frozen k3 1; have f2 := blk_frozen k3 2; have f3 := blk_frozen k3 3; have z4_2 : w.heap.size + 1 + 1 < w4.heap.size := (by omega); have K3 := hide k3; clear k3))
        rw [E1.out, E2.out]
        exact bodyPost_ret (v := .tuple #[.agg #[.int .i64 0, .int .i64 0, .int .i64 0, .int .i64 0], .int .i64 (3)]) (show_results ((Below.heap_alloc _ _ _ (by simp only [World.size_setCell]; exact z4_2)).trans (blk_set (blk_set (blk_set (blk_set (K3.out) 0 (.int .i64 0)) 1 (.int .i64 0)) 2 (.int .i64 0)) 3 (.int .i64 0))) rfl rfl rfl) rfl ⟨rfl, by (repeat' first | exact zbR _ _ | assumption | refine zbD ?_ | refine zbA ?_ ?_ _ | refine zbS ?_ ?_ _ | refine zbT ?_ (by assumption) ?_ | (simp; done) | (simp; omega) | omega)⟩
      · have E1 := hide (show L.showM v b call = L.foundM v b 0 call by unfold L.showM; rw [if_pos H.out, hs]; rfl)
        have E2 := hide (show L.showE v b call = 0 by unfold L.showE; rw [if_pos H.out, hs, hf]; rfl)
        have HS := hide hs
        have HF := hide hf
        clear hs hf
        go_enter Try.func20, Try.ntmps20
        go_wp2_with (first | (go_at_call 47; refine (check_any v A n c b _ HN.out ((HR.out.below (by (repeat' first | exact zbR _ _ | assumption | refine zbD ?_ | refine zbA ?_ ?_ _ | refine zbS ?_ ?_ _ | refine zbT ?_ (by assumption) ?_ | (simp; done) | (simp; omega) | omega))).mono (by first | (simp; done) | (simp; omega) | omega))).mono ?_; rintro e w2 ⟨rfl, hb2⟩; rw [H.out]; obtain ⟨hc2, hf2⟩ := bcell hb2; have q2 := hb2.size; (try simp only [World.size_alloc] at q2); have z2_0 : w.heap.size < w2.heap.size := (by omega); have z2_1 : w.heap.size + 1 < w2.heap.size := (by omega); have z2_2 : w.heap.size + 1 + 1 < w2.heap.size := (by omega); have k2 := (hb2.block (w.heap.size + 1 + 1) (by first | (simp; done) | (simp; omega) | omega)).trans blk_new3; have K2 := hide k2; clear k2) | (go_at_call 54; refine (sure_any call _).mono ?_; rintro e w3 ⟨rfl, rfl⟩; rw [HS.out]) | (go_at_call 55; refine (find_any v A n c b 0 call _ HV.out HB.out HN.out ((HR.out.below (by (repeat' first | exact zbR _ _ | assumption | refine zbD ?_ | refine zbA ?_ ?_ _ | refine zbS ?_ ?_ _ | refine zbT ?_ (by assumption) ?_ | (simp; done) | (simp; omega) | omega))).mono (by first | (simp; done) | (simp; omega) | omega)) (by omega) (by omega)).mono ?_; rintro e w4 ⟨rfl, hb4⟩; rw [HF.out]; have q4 := hb4.size; have k3 := (hb4.block (w.heap.size + 1 + 1) (by omega)).trans K2.out; have c0 := (blk_cell k3 0).trans rfl; have c1 := (blk_cell k3 1).trans rfl; have c2 := (blk_cell k3 2).trans rfl; have c3 := (blk_cell k3 3).trans rfl; have f0 := blk_frozen k3 0; have f1 := blk_frozen k3 1; have f2 := blk_frozen k3 2; have f3 := blk_frozen k3 3; have z4_2 : w.heap.size + 1 + 1 < w4.heap.size := (by omega); have K3 := hide k3; clear k3))
        rw [E1.out, E2.out]
        exact bodyPost_ret (v := .tuple #[.agg #[.int .i64 (L.foundM v b 0 call).x, .int .i64 (L.foundM v b 0 call).y, .int .i64 (L.foundM v b 0 call).hx, .int .i64 (L.foundM v b 0 call).hy], .int .i64 (0)]) (show_results ((Below.heap_alloc _ _ _ (by simp only [World.size_setCell]; exact z4_2)).trans (blk_set (blk_set (blk_set (blk_set (K3.out) 0 (.int .i64 (L.foundM v b 0 call).x)) 1 (.int .i64 (L.foundM v b 0 call).y)) 2 (.int .i64 (L.foundM v b 0 call).hx)) 3 (.int .i64 (L.foundM v b 0 call).hy))) rfl rfl rfl) rfl ⟨rfl, by (repeat' first | exact zbR _ _ | assumption | refine zbD ?_ | refine zbA ?_ ?_ _ | refine zbS ?_ ?_ _ | refine zbT ?_ (by assumption) ?_ | (simp; done) | (simp; omega) | omega)⟩
  all_goals
    have E1 := hide (show L.showM v b call = ⟨0, 0, 0, 0⟩ by unfold L.showM; rw [if_neg (by omega)])
    have E2 := hide (show L.showE v b call = L.checkBE v b by unfold L.showE; rw [if_neg (by omega)])
    have H := hide h
    clear h
    go_enter Try.func20, Try.ntmps20
    go_wp2_with (go_at_call 47; refine (check_any v A n c b _ HN.out ((HR.out.below (by (repeat' first | exact zbR _ _ | assumption | refine zbD ?_ | refine zbA ?_ ?_ _ | refine zbS ?_ ?_ _ | refine zbT ?_ (by assumption) ?_ | (simp; done) | (simp; omega) | omega))).mono (by first | (simp; done) | (simp; omega) | omega))).mono ?_; rintro e w2 ⟨rfl, hb2⟩; rw [H.out]; have k3 := (hb2.block (w.heap.size + 1 + 1) (by first | (simp; done) | (simp; omega) | omega)).trans blk_new3; have c0 := (blk_cell k3 0).trans rfl; have c1 := (blk_cell k3 1).trans rfl; have c2 := (blk_cell k3 2).trans rfl; have c3 := (blk_cell k3 3).trans rfl; have f0 := blk_frozen k3 0; have f1 := blk_frozen k3 1; have f2 := blk_frozen k3 2; have f3 := blk_frozen k3 3; have K3 := hide k3; clear k3)
    rw [E1.out, E2.out, H.out]
    exact bodyPost_ret (v := .tuple #[.agg #[.int .i64 0, .int .i64 0, .int .i64 0, .int .i64 0], .int .i64 _]) (show_results (blk_set (blk_set (blk_set (blk_set (K3.out) 0 (.int .i64 0)) 1 (.int .i64 0)) 2 (.int .i64 0)) 3 (.int .i64 0)) rfl rfl rfl) rfl ⟨rfl, by (repeat' first | exact zbR _ _ | assumption | refine zbD ?_ | refine zbA ?_ ?_ _ | refine zbS ?_ ?_ _ | refine zbT ?_ (by assumption) ?_ | (simp; done) | (simp; omega) | omega)⟩

end Go.Proofs.Ytgnobonhohfofaa

namespace Go.Proofs.Ytgnobonhohfofaa
open Go.RowKit
attribute [local go_sem ↓] Go.wp_at_zero Go.wp_at_succ

def L.farB (v : L.Vw) : Bool := decide (40 < v.ss.length) || (L.viewB v && (decide (12 < v.size) || decide (5 < v.hxh) || decide (5 < v.hyh)))
def L.validB (v : L.Vw) (b : L.Bx) : Bool := !L.farB v && (L.viewB v && L.boxB b)
theorem L.check_view (v : L.Vw) : L.checkE v = if L.viewB v then 0 else 20 := rfl

set_option maxRecDepth 100000 in
set_option maxHeartbeats 1600000 in
theorem Far_any (v : L.Vw) (A : Option Addr) (n c : Nat) (w : World) (hn : v.ss.length = n) (hr : RdS w w.heap.size A v.ss) :
    Calls Try.prog 28 #[.agg #[.int .i64 v.size, .slice A n c, .int .i64 v.wrong, .int .i64 v.hxl, .int .i64 v.hxh, .int .i64 v.hyl, .int .i64 v.hyh]] w fun e w' => e = .returned (.bool (L.farB v)) ∧ Below w.heap.size w w' := by
  have HN := hide hn
  have HR := hide hr
  have hc := L.check_view v
  by_cases h40 : (40 : Int) < (n : Int)
  · have HE := hide (show L.farB v = true by unfold L.farB; rw [decide_eq_true (by omega)]; rfl)
    clear hn hr hc
    go_enter Try.func28, Try.ntmps28
    go_wp2
    go_ret
    exact ⟨by rw [HE.out]; rfl, by (repeat' first | exact zbR _ _ | assumption | refine zbD ?_ | refine zbA ?_ ?_ _ | refine zbS ?_ ?_ _ | refine zbT ?_ (by assumption) ?_ | (simp; done) | (simp; omega) | omega)⟩
  have hf : L.farB v = (L.viewB v && (decide (12 < v.size) || decide (5 < v.hxh) || decide (5 < v.hyh))) := by unfold L.farB; rw [decide_eq_false (by omega)]; rfl
  cases hv : L.viewB v
  · rw [hv] at hc hf
    have HC := hide (show L.checkE v = 20 from hc)
    have HE := hide (show L.farB v = false from hf)
    clear hn hr hc hv hf
    go_enter Try.func28, Try.ntmps28
    go_wp2_with (go_at_call 23; refine (RefCheck_any v A n c _ HN.out ((HR.out.below (by (repeat' first | exact zbR _ _ | assumption | refine zbD ?_ | refine zbA ?_ ?_ _ | refine zbS ?_ ?_ _ | refine zbT ?_ (by assumption) ?_ | (simp; done) | (simp; omega) | omega))).mono (by first | (simp; done) | (simp; omega) | omega))).mono ?_; rintro e w2 ⟨rfl, hb2⟩; rw [HC.out])
    go_ret
    exact ⟨by rw [HE.out]; rfl, by (repeat' first | exact zbR _ _ | assumption | refine zbD ?_ | refine zbA ?_ ?_ _ | refine zbS ?_ ?_ _ | refine zbT ?_ (by assumption) ?_ | (simp; done) | (simp; omega) | omega)⟩
  rw [hv] at hc hf
  have HC := hide (show L.checkE v = 0 from hc)
  have HF := hide hf
  clear hn hr hc hv hf
  rw [Bool.true_and] at HF
  go_enter Try.func28, Try.ntmps28
  go_wp2_with (go_at_call 23; refine (RefCheck_any v A n c _ HN.out ((HR.out.below (by (repeat' first | exact zbR _ _ | assumption | refine zbD ?_ | refine zbA ?_ ?_ _ | refine zbS ?_ ?_ _ | refine zbT ?_ (by assumption) ?_ | (simp; done) | (simp; omega) | omega))).mono (by first | (simp; done) | (simp; omega) | omega))).mono ?_; rintro e w2 ⟨rfl, hb2⟩; rw [HC.out]; obtain ⟨hc2, hf2⟩ := bcell hb2; have hz2 : w.heap.size < w2.heap.size := (by have := hb2.size; (try simp at this); omega))
  all_goals
    go_ret
    exact ⟨by rw [HF.out]; (first | rfl | (simp [*]; done)), by (repeat' first | exact zbR _ _ | assumption | refine zbD ?_ | refine zbA ?_ ?_ _ | refine zbS ?_ ?_ _ | refine zbT ?_ (by assumption) ?_ | (simp; done) | (simp; omega) | omega)⟩

theorem L.farB_no {v : L.Vw} (h : L.farB v = false) : v.ss.length ≤ 40 ∧ (L.viewB v = true → v.size ≤ 12 ∧ v.hxh ≤ 5 ∧ v.hyh ≤ 5) := by
  unfold L.farB at h
  simp only [Bool.or_eq_false_iff, decide_eq_false_iff_not, Bool.and_eq_false_iff] at h
  refine ⟨by omega, fun hv => ?_⟩
  rcases h.2 with h' | h'
  · rw [hv] at h'; cases h'
  · omega

set_option maxRecDepth 100000 in
set_option maxHeartbeats 1600000 in
theorem valid_any (v : L.Vw) (A : Option Addr) (n c : Nat) (b : L.Bx) (w : World) (hn : v.ss.length = n) (hr : RdS w w.heap.size A v.ss) :
    Calls Try.prog 15 #[.agg #[.int .i64 v.size, .slice A n c, .int .i64 v.wrong, .int .i64 v.hxl, .int .i64 v.hxh, .int .i64 v.hyl, .int .i64 v.hyh], .agg #[.int .i64 b.l, .int .i64 b.r, .int .i64 b.b, .int .i64 b.t]] w fun e w' => e = .returned (.bool (L.validB v b)) ∧ Below w.heap.size w w' := by
  have HN := hide hn
  have HR := hide hr
  have hc := L.check_view v
  have he : L.validB v b = (!L.farB v && (L.viewB v && L.boxB b)) := rfl
  cases hf : L.farB v <;> cases hv : L.viewB v <;> cases hb : L.boxB b
  all_goals
    rw [hv] at hc
    rw [hf, hv, hb] at he
    have HC := hide hc
    have HE := hide he
    have HF := hide hf
    have HB := hide hb
    clear hn hr hc he hf hv hb
    go_enter Try.func15, Try.ntmps15
    go_wp2_with (first | (go_at_call 28; refine (Far_any v A n c _ HN.out ((HR.out.below (by (repeat' first | exact zbR _ _ | assumption | refine zbD ?_ | refine zbA ?_ ?_ _ | refine zbS ?_ ?_ _ | refine zbT ?_ (by assumption) ?_ | (simp; done) | (simp; omega) | omega))).mono (by first | (simp; done) | (simp; omega) | omega))).mono ?_; rintro e w2 ⟨rfl, hb2⟩; rw [HF.out]; obtain ⟨hc2, hf2⟩ := bcell hb2; have hz2 : w.heap.size + 1 < w2.heap.size := (by have := hb2.size; (try simp at this); omega); have hy2 : w.heap.size < w2.heap.size := (by omega)) | (go_at_call 23; refine (RefCheck_any v A n c _ HN.out ((HR.out.below (by (repeat' first | exact zbR _ _ | assumption | refine zbD ?_ | refine zbA ?_ ?_ _ | refine zbS ?_ ?_ _ | refine zbT ?_ (by assumption) ?_ | (simp; done) | (simp; omega) | omega))).mono (by first | (simp; done) | (simp; omega) | omega))).mono ?_; rintro e w3 ⟨rfl, hb3⟩; rw [HC.out]; obtain ⟨hc3, hf3⟩ := bcell hb3; have hz3 : w.heap.size + 1 < w3.heap.size := (by have := hb3.size; (try simp at this); omega); (try simp only [if_true, Bool.false_eq_true, if_false])) | (go_at_call 25; refine (isBox_any b _).mono ?_; rintro e w4 ⟨rfl, hb4⟩; rw [HB.out]))
    go_ret
    exact ⟨by rw [HE.out]; rfl, by (repeat' first | exact zbR _ _ | assumption | refine zbD ?_ | refine zbA ?_ ?_ _ | refine zbS ?_ ?_ _ | refine zbT ?_ (by assumption) ?_ | (simp; done) | (simp; omega) | omega)⟩

end Go.Proofs.Ytgnobonhohfofaa

namespace Go.Proofs.Ytgnobonhohfofaa
open Go.RowKit
attribute [local go_sem ↓] Go.wp_at_zero Go.wp_at_succ

namespace L
theorem boxB_of {b : Bx} (h : BxOk b) : boxB b = true := by
  obtain ⟨h1, h2, h3, h4, h5, h6⟩ := h
  simp [boxB, spanIn, h1, h2, h3, h4, h5, h6]
theorem checkBE_yes {v : Vw} {b : Bx} (hv : viewB v = true) (hb : boxB b = true) : checkBE v b = 0 := by unfold checkBE; rw [hv, hb]; rfl
theorem callV_ok {v : Vw} {b : Bx} (h : checkBE v b = 0) : callV v b = callOf v b 0 := by unfold callV; rw [if_pos h]
theorem callE_ok {v : Vw} {b : Bx} (h : checkBE v b = 0) : callE v b = if callOf v b 0 = 0 then 3 else 0 := by unfold callE; rw [if_pos h]
theorem validB_ok {v : Vw} {b : Bx} (h : validB v b = true) : viewB v = true ∧ boxB b = true ∧ farB v = false := by
  unfold validB at h
  simp only [Bool.and_eq_true, Bool.not_eq_true'] at h
  exact ⟨h.2.1, h.2.2, h.1⟩
def Larger (b o : Bx) : Prop := o.l ≤ b.l ∧ b.r ≤ o.r ∧ o.b ≤ b.b ∧ b.t ≤ o.t ∧ BxOk o
theorem larger_cases {v : Vw} (hv : viewB v = true) {b o : Bx} (hb : boxB b = true) (h : Larger b o) :
    (callV v b = 0 ∧ callE v b = 3 ∧ callV v o = 0 ∧ callE v o = 3) ∨ (callV v b = 1 ∧ callE v b = 0 ∧ callV v o = 1 ∧ callE v o = 0) ∨ (callV v b = 2 ∧ callE v b = 0 ∧ callV v o = 2 ∧ callE v o = 0) ∨ (callV v b ≠ 1 ∧ callE v b = 0 ∧ callV v o ≠ 2 ∧ callE v o = 0) := by
  obtain ⟨h1, h2, h3, h4, h5⟩ := h
  have c1 := checkBE_yes hv hb
  have c2 := checkBE_yes hv (boxB_of h5)
  obtain ⟨a1, a2, a3⟩ := larger (viewB_ok hv) h1 h2 h3 h4 0
  rw [callV_ok c1, callE_ok c1, callV_ok c2, callE_ok c2]
  by_cases hz : callOf v b 0 = 0
  · exact .inl ⟨hz, by rw [if_pos hz], a1.1 hz, by rw [if_pos (a1.1 hz)]⟩
  · have hz' : callOf v o 0 ≠ 0 := fun e => hz (a1.2 e)
    rw [if_neg hz, if_neg hz']
    by_cases h1' : callOf v b 0 = 1
    · exact .inr (.inl ⟨h1', rfl, a2 h1', rfl⟩)
    · by_cases h2' : callOf v o 0 = 2
      · exact .inr (.inr (.inl ⟨a3 h2', rfl, h2', rfl⟩))
      · exact .inr (.inr (.inr ⟨h1', rfl, h2', rfl⟩))
end L

theorem Call_ints (v : L.Vw) (A : Option Addr) (n c : Nat) (l r b t : Int) (w : World) (hn : v.ss.length = n) (hr : RdS w w.heap.size A v.ss) :
    Calls Try.prog 17 #[.agg #[.int .i64 v.size, .slice A n c, .int .i64 v.wrong, .int .i64 v.hxl, .int .i64 v.hxh, .int .i64 v.hyl, .int .i64 v.hyh], .agg #[.int .i64 l, .int .i64 r, .int .i64 b, .int .i64 t]] w fun e w' => e = .returned (.tuple #[.int .i64 (L.callV v ⟨l, r, b, t⟩), .int .i64 (L.callE v ⟨l, r, b, t⟩)]) ∧ Below w.heap.size w w' :=
  Call_any v A n c ⟨l, r, b, t⟩ w hn hr
set_option maxRecDepth 100000 in
set_option maxHeartbeats 3200000 in
theorem largerLaw_out (v : L.Vw) (A : Option Addr) (n c : Nat) (b m : L.Bx) (w : World) (hn : v.ss.length = n) (hr : RdS w w.heap.size A v.ss) (h : L.validB v b = false ∨ (L.validB v b = true ∧ L.boxB m = false)) :
    Calls Try.prog 5 #[.agg #[.int .i64 v.size, .slice A n c, .int .i64 v.wrong, .int .i64 v.hxl, .int .i64 v.hxh, .int .i64 v.hyl, .int .i64 v.hyh], .agg #[.int .i64 b.l, .int .i64 b.r, .int .i64 b.b, .int .i64 b.t], .agg #[.int .i64 m.l, .int .i64 m.r, .int .i64 m.b, .int .i64 m.t]] w fun e w' => e = .returned (.bool true) ∧ Below w.heap.size w w' := by
  have HN := hide hn
  have HR := hide hr
  clear hn hr
  rcases h with h | ⟨h, hm⟩
  · have H := hide h
    clear h
    go_enter Try.func5, Try.ntmps5
    go_wp2_with (first | (go_at_call 15; refine (valid_any v A n c b _ HN.out ((HR.out.below (by (repeat' first | exact zbR _ _ | assumption | refine zbD ?_ | refine zbA ?_ ?_ _ | refine zbS ?_ ?_ _ | refine zbT ?_ (by assumption) ?_ | (simp; done) | (simp; omega) | omega))).mono (by first | (simp; done) | (simp; omega) | omega))).mono ?_; rintro e w2 ⟨rfl, hb2⟩; rw [H.out]; obtain ⟨hc2, hf2⟩ := bcell hb2; have q2 := hb2.size; (try simp only [World.size_alloc] at q2); have z2_0 : w.heap.size < w2.heap.size := (by omega); have z2_1 : w.heap.size + 1 < w2.heap.size := (by omega); have z2_2 : w.heap.size + 1 + 1 < w2.heap.size := (by omega)) | (go_at_call 16; refine (works_any _).mono ?_; rintro e w3 ⟨rfl, hb3⟩))
    go_ret
    exact ⟨rfl, by (repeat' first | exact zbR _ _ | assumption | refine zbD ?_ | refine zbA ?_ ?_ _ | refine zbS ?_ ?_ _ | refine zbT ?_ (by assumption) ?_ | (simp; done) | (simp; omega) | omega)⟩
  · have H := hide h
    have HM := hide hm
    clear h hm
    go_enter Try.func5, Try.ntmps5
    go_wp2_with (first | (go_at_call 15; refine (valid_any v A n c b _ HN.out ((HR.out.below (by (repeat' first | exact zbR _ _ | assumption | refine zbD ?_ | refine zbA ?_ ?_ _ | refine zbS ?_ ?_ _ | refine zbT ?_ (by assumption) ?_ | (simp; done) | (simp; omega) | omega))).mono (by first | (simp; done) | (simp; omega) | omega))).mono ?_; rintro e w2 ⟨rfl, hb2⟩; rw [H.out]; obtain ⟨hc2, hf2⟩ := bcell hb2; have q2 := hb2.size; (try simp only [World.size_alloc] at q2); have z2_0 : w.heap.size < w2.heap.size := (by omega); have z2_1 : w.heap.size + 1 < w2.heap.size := (by omega); have z2_2 : w.heap.size + 1 + 1 < w2.heap.size := (by omega)) | (go_at_call 25; refine (isBox_any m _).mono ?_; rintro e w4 ⟨rfl, hb4⟩; rw [HM.out]; obtain ⟨hc4, hf4⟩ := bcell hb4; have q4 := hb4.size; (try simp only [World.size_alloc] at q4); have z4_0 : w.heap.size < w4.heap.size := (by omega); have z4_1 : w.heap.size + 1 < w4.heap.size := (by omega); have z4_2 : w.heap.size + 1 + 1 < w4.heap.size := (by omega)) | (go_at_call 16; refine (works_any _).mono ?_; rintro e w3 ⟨rfl, hb3⟩))
    go_ret
    exact ⟨rfl, by (repeat' first | exact zbR _ _ | assumption | refine zbD ?_ | refine zbA ?_ ?_ _ | refine zbS ?_ ?_ _ | refine zbT ?_ (by assumption) ?_ | (simp; done) | (simp; omega) | omega)⟩

set_option maxRecDepth 100000 in
set_option maxHeartbeats 3200000 in
theorem largerLaw_in (v : L.Vw) (A : Option Addr) (n c : Nat) (b m : L.Bx) (w : World) (hn : v.ss.length = n) (hr : RdS w w.heap.size A v.ss) (h : L.validB v b = true) (hm : L.boxB m = true) :
    Calls Try.prog 5 #[.agg #[.int .i64 v.size, .slice A n c, .int .i64 v.wrong, .int .i64 v.hxl, .int .i64 v.hxh, .int .i64 v.hyl, .int .i64 v.hyh], .agg #[.int .i64 b.l, .int .i64 b.r, .int .i64 b.b, .int .i64 b.t], .agg #[.int .i64 m.l, .int .i64 m.r, .int .i64 m.b, .int .i64 m.t]] w fun e w' => e = .returned (.bool true) ∧ Below w.heap.size w w' := by
  have HN := hide hn
  have HR := hide hr
  have H := hide h
  have HM := hide hm
  obtain ⟨b1, b2, b3, b4, b5, b6⟩ := L.boxB_ok (L.validB_ok h).2.1
  obtain ⟨m1, m2, m3, m4, m5, m6⟩ := L.boxB_ok hm
  clear hn hr h hm
  go_enter Try.func5, Try.ntmps5
  go_upto_region 3 with (first | (go_at_call 15; refine (valid_any v A n c b _ HN.out ((HR.out.below (by (repeat' first | exact zbR _ _ | assumption | refine zbD ?_ | refine zbA ?_ ?_ _ | refine zbS ?_ ?_ _ | refine zbT ?_ (by assumption) ?_ | (simp; done) | (simp; omega) | omega))).mono (by first | (simp; done) | (simp; omega) | omega))).mono ?_; rintro e w2 ⟨rfl, hb2⟩; rw [H.out]; obtain ⟨hc2, hf2⟩ := bcell hb2; have q2 := hb2.size; (try simp only [World.size_alloc] at q2); have z2_0 : w.heap.size < w2.heap.size := (by omega); have z2_1 : w.heap.size + 1 < w2.heap.size := (by omega); have z2_2 : w.heap.size + 1 + 1 < w2.heap.size := (by omega)) | (go_at_call 25; refine (isBox_any m _).mono ?_; rintro e w4 ⟨rfl, hb4⟩; rw [HM.out]; obtain ⟨hc4, hf4⟩ := bcell hb4; have q4 := hb4.size; (try simp only [World.size_alloc] at q4); have z4_0 : w.heap.size < w4.heap.size := (by omega); have z4_1 : w.heap.size + 1 < w4.heap.size := (by omega); have z4_2 : w.heap.size + 1 + 1 < w4.heap.size := (by omega)))
  go_cut [7] from 22 to 42 (fun v7 wx => ∃ (q : Nat) (x1 x2 x3 x4 : Int), v7 = .pointer (some ⟨q, 0, none⟩) ∧ Hid (L.Larger b ⟨x1, x2, x3, x4⟩) ∧ Hid (wx.heap[q]? = some (.cells #[.int .i64 x1, .int .i64 x2, .int .i64 x3, .int .i64 x4] 28 (0, 0))) ∧ Hid (w4.heap.size ≤ q ∧ Below w4.heap.size w4 wx))
  case first =>
    go_wp2
    all_goals
      go_meet
      refine ⟨_, _, _, _, _, rfl, ?_, hide (World.alloc_heap_new _ _), hide ⟨Nat.le_refl _, (Below.refl _ _).alloc (Nat.le_refl _) _⟩⟩
      exact hide ⟨by dsimp only; omega, by dsimp only; omega, by dsimp only; omega, by dsimp only; omega, ⟨by dsimp only; omega, by dsimp only; omega, by dsimp only; omega, by dsimp only; omega, by dsimp only; omega, by dsimp only; omega⟩⟩
  case rest =>
    obtain ⟨q, x1, x2, x3, x4, rfl, HL, HQ, HW⟩ := hcut
    obtain ⟨hq, hW⟩ := HW.out
    obtain ⟨hc5, hf5⟩ := bcell hW
    have q5 := hW.size
    have o1 := (blk_cell HQ.out 0).trans rfl
    have o2 := (blk_cell HQ.out 1).trans rfl
    have o3 := (blk_cell HQ.out 2).trans rfl
    have o4 := (blk_cell HQ.out 3).trans rfl
    have lq : q < wc.heap.size := blk_lt HQ.out
    have y0 : w.heap.size < wc.heap.size := by omega
    have y1 : w.heap.size + 1 < wc.heap.size := by omega
    have HWW := hide hW
    rcases L.larger_cases (L.validB_ok H.out).1 (L.validB_ok H.out).2.1 HL.out with ⟨e1, e2, e3, e4⟩ | ⟨e1, e2, e3, e4⟩ | ⟨e1, e2, e3, e4⟩ | ⟨e1, e2, e3, e4⟩
    rotate_left 3
    · have d1 : (L.callV v b == 1) = false := by simpa using e1
      have d2 : (L.callV v ⟨x1, x2, x3, x4⟩ == 2) = false := by simpa using e3
      have d3 : (L.callV v b != 1) = true := by simpa using e1
      have d4 : (L.callV v ⟨x1, x2, x3, x4⟩ != 2) = true := by simpa using e3
      have E2 := hide e2
      have E4 := hide e4
      clear e1 e2 e3 e4
      go_wp2_with (first | (go_at_call 17; refine (Call_ints v A n c _ _ _ _ _ HN.out ((HR.out.below (by (repeat' first | exact zbR _ _ | assumption | refine zbD ?_ | refine zbA ?_ ?_ _ | refine zbS ?_ ?_ _ | refine zbT ?_ (by assumption) ?_ | (simp; done) | (simp; omega) | omega))).mono (by first | (simp; done) | (simp; omega) | omega))).mono ?_; rintro e w6 ⟨rfl, hb6⟩; (first | rw [E2.out] | rw [E4.out]); obtain ⟨hc6, hf6⟩ := bcell hb6; have q6 := hb6.size; (try simp only [World.size_alloc] at q6); have z6_0 : w.heap.size < w6.heap.size := (by omega); have z6_1 : q < w6.heap.size := (by omega)) | (go_at_call 16; refine (works_any _).mono ?_; rintro e w3 ⟨rfl, hb3⟩))
      go_ret
      exact ⟨rfl, by (repeat' first | exact zbR _ _ | assumption | refine zbD ?_ | refine zbA ?_ ?_ _ | refine zbS ?_ ?_ _ | refine zbT ?_ (by assumption) ?_ | (simp; done) | (simp; omega) | omega)⟩
    all_goals
      have E1 := hide e1
      have E2 := hide e2
      have E3 := hide e3
      have E4 := hide e4
      clear e1 e2 e3 e4
      go_wp2_with (first | (go_at_call 17; refine (Call_ints v A n c _ _ _ _ _ HN.out ((HR.out.below (by (repeat' first | exact zbR _ _ | assumption | refine zbD ?_ | refine zbA ?_ ?_ _ | refine zbS ?_ ?_ _ | refine zbT ?_ (by assumption) ?_ | (simp; done) | (simp; omega) | omega))).mono (by first | (simp; done) | (simp; omega) | omega))).mono ?_; rintro e w6 ⟨rfl, hb6⟩; (first | rw [E1.out, E2.out] | rw [E3.out, E4.out]); obtain ⟨hc6, hf6⟩ := bcell hb6; have q6 := hb6.size; (try simp only [World.size_alloc] at q6); have z6_0 : w.heap.size < w6.heap.size := (by omega); have z6_1 : q < w6.heap.size := (by omega)) | (go_at_call 16; refine (works_any _).mono ?_; rintro e w3 ⟨rfl, hb3⟩))
      go_ret
      exact ⟨rfl, by (repeat' first | exact zbR _ _ | assumption | refine zbD ?_ | refine zbA ?_ ?_ _ | refine zbS ?_ ?_ _ | refine zbT ?_ (by assumption) ?_ | (simp; done) | (simp; omega) | omega)⟩

end Go.Proofs.Ytgnobonhohfofaa

namespace Go.Proofs.Ytgnobonhohfofaa
namespace L

theorem cents_mem {n : Nat} {x y : Int} (hx0 : 0 ≤ x) (hx1 : x ≤ n) (hy0 : 0 ≤ y) (hy1 : y ≤ n) : (x, y) ∈ cents n := by
  simp only [cents, List.mem_flatMap, List.mem_map, List.mem_range]
  exact ⟨x.toNat, by omega, y.toNat, by omega, Prod.ext (Int.toNat_of_nonneg hx0) (Int.toNat_of_nonneg hy0)⟩
theorem mem_tcents {v : Vw} (hv : VwOk v) {c : Int × Int} {k : Int} : c ∈ tcents v k ↔ (0 ≤ c.1 ∧ c.1 ≤ v.size ∧ 0 ≤ c.2 ∧ c.2 ≤ v.size) ∧ okAt v k c = true := by
  unfold tcents
  rw [List.mem_filter]
  have h0 := hv.s0
  have hs : (v.size.toNat : Int) = v.size := Int.toNat_of_nonneg h0
  constructor
  · rintro ⟨h, h'⟩
    obtain ⟨a, b, c, d⟩ := mem_cents h
    exact ⟨⟨a, by omega, c, by omega⟩, h'⟩
  · rintro ⟨⟨a, b, c, d⟩, h'⟩
    exact ⟨cents_mem a (by omega) c (by omega), h'⟩
theorem okAt_zero (v : Vw) (c : Int × Int) : okAt v 0 c = decide (((wrongL v c.1 c.2).length : Int) ≤ v.wrong) := by
  unfold okAt; rw [wrongL_length]
theorem truth_mem {v : Vw} (hv : VwOk v) {m : Mk} (h : truthB v m = true) : (m.x, m.y) ∈ tcents v 0 ∧ v.hxl ≤ m.hx ∧ m.hx ≤ v.hxh ∧ v.hyl ≤ m.hy ∧ m.hy ≤ v.hyh := by
  unfold truthB at h
  rw [Bool.and_eq_true] at h
  obtain ⟨h1, h2⟩ := h
  unfold isMarkB markB within at h1
  simp only [Bool.and_eq_true, decide_eq_true_eq] at h1
  obtain ⟨⟨⟨⟨a, b⟩, c, d⟩, e, f⟩, g, i⟩ := h1
  exact ⟨(mem_tcents hv).2 ⟨⟨a, b, c, d⟩, by rw [okAt_zero]; exact h2⟩, e, f, g, i⟩
theorem truth_of {v : Vw} (hv : VwOk v) {c : Int × Int} {p q : Int} (hc : c ∈ tcents v 0) (h1 : v.hxl ≤ p) (h2 : p ≤ v.hxh) (h3 : v.hyl ≤ q) (h4 : q ≤ v.hyh) : truthB v ⟨c.1, c.2, p, q⟩ = true := by
  obtain ⟨⟨a, b, d, e⟩, f⟩ := (mem_tcents hv).1 hc
  rw [okAt_zero] at f
  unfold truthB isMarkB markB within
  simp only [Bool.and_eq_true, decide_eq_true_eq]
  exact ⟨⟨⟨⟨⟨a, b⟩, d, e⟩, h1, h2⟩, h3, h4⟩, by simpa using f⟩
theorem markB_of {m : Mk} (h : MkOk m) : markB m 40 1 9 1 9 = true := by
  obtain ⟨a, b, c, d, e, f, g, i⟩ := h
  unfold markB within
  simp only [Bool.and_eq_true, decide_eq_true_eq]
  exact ⟨⟨⟨⟨a, b⟩, c, d⟩, e, f⟩, g, i⟩
theorem truth_ok {v : Vw} (hv : VwOk v) {m : Mk} (h : truthB v m = true) : MkOk m := by
  unfold truthB at h
  rw [Bool.and_eq_true] at h
  exact (isMark_bd hv h.1).1
theorem touch_low {v : Vw} (hv : VwOk v) {m : Mk} {b : Bx} (h : truthB v m = true) (ht : touch ⟨m.x, m.y, v.hxl, v.hyl⟩ b = true) : touch m b = true := by
  obtain ⟨_, h1, h2, h3, h4⟩ := truth_mem hv h
  exact touch_axes hv.x0 hv.y0 h1 h3 ht
theorem touch_high {v : Vw} (hv : VwOk v) {m : Mk} {b : Bx} (h : truthB v m = true) (ht : touch m b = true) : touch ⟨m.x, m.y, v.hxh, v.hyh⟩ b = true := by
  obtain ⟨_, h1, h2, h3, h4⟩ := truth_mem hv h
  exact touch_axes (by have := hv.x0; omega) (by have := hv.y0; omega) h2 h4 ht
theorem found_some {v : Vw} (hv : VwOk v) {b : Bx} {call : Int} (h : (findC v b 0 call).isSome = true) : truthB v (foundM v b 0 call) = true ∧ touch (foundM v b 0 call) b = decide (call = 1) := by
  obtain ⟨c, hc⟩ := Option.isSome_iff_exists.1 h
  have e : foundM v b 0 call = ⟨c.1, c.2, hxOf v call, hyOf v call⟩ := by unfold foundM; rw [hc]; exact markOf_eq v call c
  have h1 : c ∈ tcents v 0 := List.mem_of_find?_eq_some hc
  have h2 : hitAt v b call c = true := List.find?_some hc
  rw [hitAt_eq] at h2
  rw [e]
  refine ⟨?_, by simpa using h2⟩
  have := hv.xx
  have := hv.yy
  exact truth_of hv h1 (by unfold hxOf; split <;> omega) (by unfold hxOf; split <;> omega) (by unfold hyOf; split <;> omega) (by unfold hyOf; split <;> omega)

theorem showE_1 {v : Vw} {b : Bx} (h : checkBE v b = 0) : showE v b 1 = if (findC v b 0 1).isSome then 0 else 3 := by unfold showE; rw [if_pos h, if_pos (by decide)]
theorem showE_2 {v : Vw} {b : Bx} (h : checkBE v b = 0) : showE v b 2 = if (findC v b 0 2).isSome then 0 else 3 := by unfold showE; rw [if_pos h, if_pos (by decide)]
theorem showM_1 {v : Vw} {b : Bx} (h : checkBE v b = 0) : showM v b 1 = foundM v b 0 1 := by unfold showM; rw [if_pos h, if_pos (by decide)]
theorem showM_2 {v : Vw} {b : Bx} (h : checkBE v b = 0) : showM v b 2 = foundM v b 0 2 := by unfold showM; rw [if_pos h, if_pos (by decide)]

structure SureOk (v : Vw) (b : Bx) (m : Mk) (cv e1 e2 : Int) : Prop where
  fcv : callV v b = cv
  fce : callE v b = 0
  f1 : showE v b 1 = e1
  f2 : showE v b 2 = e2
  tou : truthB v m = true → touE m b = 0
  tin : cv = 1 → truthB v m = true → touV m b = true
  tout : cv = 2 → truthB v m = true → touV m b = false
  t1 : e1 = 0 → truthB v (showM v b 1) = true ∧ touch (showM v b 1) b = true ∧ MkOk (showM v b 1)
  t2 : e2 = 0 → truthB v (showM v b 2) = true ∧ touch (showM v b 2) b = false ∧ MkOk (showM v b 2)

theorem sure_cases {v : Vw} (hv : viewB v = true) {b : Bx} (hb : boxB b = true) (m : Mk) :
    (callV v b = 0 ∧ callE v b = 3 ∧ truthB v m = false) ∨ SureOk v b m 1 0 3 ∨ SureOk v b m 2 3 0 ∨ SureOk v b m 3 0 0 := by
  have hc := checkBE_yes hv hb
  have hk := viewB_ok hv
  have T : truthB v m = true → touE m b = 0 ∧ touV m b = touch m b := fun h => by
    have := markB_of (truth_ok hk h)
    exact ⟨by unfold touE; rw [hb, this]; rfl, by unfold touV; rw [hb, this]; rfl⟩
  have F1 : (findC v b 0 1).isSome = true → truthB v (showM v b 1) = true ∧ touch (showM v b 1) b = true ∧ MkOk (showM v b 1) := fun h => by
    obtain ⟨a1, a2⟩ := found_some hk h
    rw [showM_1 hc]
    exact ⟨a1, by simpa using a2, truth_ok hk a1⟩
  have F2 : (findC v b 0 2).isSome = true → truthB v (showM v b 2) = true ∧ touch (showM v b 2) b = false ∧ MkOk (showM v b 2) := fun h => by
    obtain ⟨a1, a2⟩ := found_some hk h
    rw [showM_2 hc]
    exact ⟨a1, by simpa using a2, truth_ok hk a1⟩
  have i1 := find1 v b 0
  have i2 := find2 v b 0
  rcases call_cases v b 0 with ⟨h, a1, a2⟩ | ⟨h, a1, a2⟩ | ⟨h, a1, a2⟩ | ⟨h, a1, a2⟩
  · refine .inl ⟨by rw [callV_ok hc, h], by rw [callE_ok hc, if_pos h], ?_⟩
    cases ht : truthB v m
    · rfl
    · have := (truth_mem hk ht).1
      rw [(call_zero hk b 0).1 h] at this
      cases this
  · have s1 := i1.2 a1
    have s2 : (findC v b 0 2).isSome = false := by cases hq : (findC v b 0 2).isSome; rfl; exact (a2 (i2.1 hq)).elim
    refine .inr (.inl ⟨by rw [callV_ok hc, h], by rw [callE_ok hc, if_neg (by omega)], by rw [showE_1 hc, s1]; rfl, by rw [showE_2 hc, s2]; rfl, fun t => (T t).1, fun _ t => ?_, fun e => by omega, fun _ => F1 s1, fun e => by omega⟩)
    rw [(T t).2]
    have hm := (truth_mem hk t).1
    cases hl : touch ⟨m.x, m.y, v.hxl, v.hyl⟩ b
    · exact (a2 ⟨_, hm, hl⟩).elim
    · exact touch_low hk t hl
  · have s2 := i2.2 a2
    have s1 : (findC v b 0 1).isSome = false := by cases hq : (findC v b 0 1).isSome; rfl; exact (a1 (i1.1 hq)).elim
    refine .inr (.inr (.inl ⟨by rw [callV_ok hc, h], by rw [callE_ok hc, if_neg (by omega)], by rw [showE_1 hc, s1]; rfl, by rw [showE_2 hc, s2]; rfl, fun t => (T t).1, fun e => by omega, fun _ t => ?_, fun e => by omega, fun _ => F2 s2⟩))
    rw [(T t).2]
    have hm := (truth_mem hk t).1
    cases hl : touch m b
    · rfl
    · exact (a1 ⟨_, hm, touch_high hk t hl⟩).elim
  · have s1 := i1.2 a1
    have s2 := i2.2 a2
    exact .inr (.inr (.inr ⟨by rw [callV_ok hc, h], by rw [callE_ok hc, if_neg (by omega)], by rw [showE_1 hc, s1]; rfl, by rw [showE_2 hc, s2]; rfl, fun t => (T t).1, fun e => by omega, fun e => by omega, fun _ => F1 s1, fun _ => F2 s2⟩))
end L
end Go.Proofs.Ytgnobonhohfofaa

namespace Go.Proofs.Ytgnobonhohfofaa
namespace L

theorem fewF_le (v : Vw) : ∀ (l : List (Int × Int)) (n : Int), l.foldl (fun n c => min n ((wrongL v c.1 c.2).length : Int)) n ≤ n ∧ ∀ c ∈ l, l.foldl (fun n c => min n ((wrongL v c.1 c.2).length : Int)) n ≤ ((wrongL v c.1 c.2).length : Int)
  | [], n => ⟨Int.le_refl _, fun c h => by cases h⟩
  | a :: r, n => by
    obtain ⟨h1, h2⟩ := fewF_le v r (min n ((wrongL v a.1 a.2).length : Int))
    simp only [List.foldl_cons]
    refine ⟨by omega, fun c hc => ?_⟩
    rcases List.mem_cons.1 hc with rfl | hc
    · omega
    · exact h2 c hc
theorem fewF_att (v : Vw) : ∀ (l : List (Int × Int)) (n : Int), l.foldl (fun n c => min n ((wrongL v c.1 c.2).length : Int)) n = n ∨ ∃ c ∈ l, l.foldl (fun n c => min n ((wrongL v c.1 c.2).length : Int)) n = ((wrongL v c.1 c.2).length : Int)
  | [], n => .inl rfl
  | a :: r, n => by
    simp only [List.foldl_cons]
    rcases fewF_att v r (min n ((wrongL v a.1 a.2).length : Int)) with h | ⟨c, hc, h⟩
    · rcases Int.le_total n ((wrongL v a.1 a.2).length : Int) with hl | hl
      · exact .inl (by rw [h]; omega)
      · exact .inr ⟨a, by simp, by rw [h]; omega⟩
    · exact .inr ⟨c, by simp [hc], h⟩
theorem few_iff {v : Vw} (hv : VwOk v) : tcents v 0 ≠ [] ↔ fewest v ≤ v.wrong := by
  constructor
  · intro h
    obtain ⟨c, hc⟩ := List.exists_mem_of_ne_nil _ h
    unfold tcents at hc
    rw [List.mem_filter, okAt_zero, decide_eq_true_eq] at hc
    have := (fewF_le v (cents v.size.toNat) (v.ss.length : Int)).2 c hc.1
    unfold fewest
    omega
  · intro h
    have h0 : ((0 : Int), (0 : Int)) ∈ cents v.size.toNat := cents_mem (Int.le_refl _) (by omega) (Int.le_refl _) (by omega)
    obtain ⟨c, hc, hw⟩ : ∃ c ∈ cents v.size.toNat, ((wrongL v c.1 c.2).length : Int) ≤ v.wrong := by
      rcases fewF_att v (cents v.size.toNat) (v.ss.length : Int) with h1 | ⟨c, hc, h1⟩
      · refine ⟨_, h0, ?_⟩
        have := many_le v.ss 0 0 0
        have h2 := wrongL_length v 0 0
        unfold fewest at h
        dsimp only
        omega
      · exact ⟨c, hc, by unfold fewest at h; omega⟩
    intro he
    have : c ∈ tcents v 0 := by
      unfold tcents
      rw [List.mem_filter, okAt_zero, decide_eq_true_eq]
      exact ⟨hc, hw⟩
    rw [he] at this
    cases this
theorem spanOf_mem (f : Int × Int → Int) : ∀ (l : List (Int × Int)) (s : Int × Int), ((l.foldl (fun s d => (min s.1 (f d), max s.2 (f d))) s).1 ≤ s.1 ∧ s.2 ≤ (l.foldl (fun s d => (min s.1 (f d), max s.2 (f d))) s).2) ∧ ∀ c ∈ l, (l.foldl (fun s d => (min s.1 (f d), max s.2 (f d))) s).1 ≤ f c ∧ f c ≤ (l.foldl (fun s d => (min s.1 (f d), max s.2 (f d))) s).2
  | [], s => ⟨⟨Int.le_refl _, Int.le_refl _⟩, fun c h => by cases h⟩
  | a :: r, s => by
    obtain ⟨⟨h1, h2⟩, h3⟩ := spanOf_mem f r (min s.1 (f a), max s.2 (f a))
    simp only [List.foldl_cons]
    dsimp only at h1 h2
    refine ⟨⟨by omega, by omega⟩, fun c hc => ?_⟩
    rcases List.mem_cons.1 hc with rfl | hc
    · exact ⟨by omega, by omega⟩
    · exact h3 c hc
theorem spanOf_in {f : Int × Int → Int} {l : List (Int × Int)} {c : Int × Int} (hc : c ∈ l) : (spanOf f l).1 ≤ f c ∧ f c ≤ (spanOf f l).2 := by
  cases l with
  | nil => cases hc
  | cons a r =>
    unfold spanOf
    obtain ⟨⟨h1, h2⟩, h3⟩ := spanOf_mem f r (f a, f a)
    dsimp only at h1 h2
    rcases List.mem_cons.1 hc with rfl | hc
    · exact ⟨h1, h2⟩
    · exact h3 c hc
theorem cnt_all {v : Vw} {l : List (Int × Int)} {i : Nat} (h : cnt v l i = l.length) {c : Int × Int} (hc : c ∈ l) : (i : Int) ∈ wrongL v c.1 c.2 := by
  unfold cnt at h
  have := List.length_filter_eq_length_iff.1 h c hc
  simpa using this
theorem blmFrom_all {v : Vw} {n : Nat} {z : Int} (h : z ∈ blmFrom v n) {c : Int × Int} (hc : c ∈ tcents v 0) : z ∈ wrongL v c.1 c.2 := by
  unfold blmFrom at h
  obtain ⟨i, hi, rfl⟩ := List.mem_map.1 h
  rw [List.mem_filter, decide_eq_true_eq] at hi
  exact cnt_all hi.2 hc

structure BlmNo (v : Vw) (m : Mk) : Prop where
  few : v.wrong < fewV v
  fe : fewE v = 0
  ce : cenE v = 3
  be : blmE v = 3
  bl : blmL v = []
  tr : truthB v m = false
structure BlmYes (v : Vw) (m : Mk) : Prop where
  few : fewV v ≤ v.wrong
  fe : fewE v = 0
  ce : cenE v = 0
  be : blmE v = 0
  bn : (blmL v).length ≤ v.ss.length
  t : truthB v m = true → wrgE v m = 0 ∧ 1 ≤ cenN v ∧ fewV v ≤ ((wrgL v m).length : Int) ∧ (cenX v).1 ≤ m.x ∧ m.x ≤ (cenX v).2 ∧ (cenY v).1 ≤ m.y ∧ m.y ≤ (cenY v).2 ∧ ∀ z ∈ blmL v, z ∈ wrgL v m
theorem blm_cases {v : Vw} (hv : viewB v = true) (m : Mk) : BlmNo v m ∨ BlmYes v m := by
  have hk := viewB_ok hv
  have hc := check_t hv
  have hf : fewV v = fewest v := by unfold fewV; rw [if_pos hc]
  by_cases ht : tcents v 0 = []
  · refine .inl ⟨?_, hc, by unfold cenE; rw [if_pos hc, if_pos ht], by unfold blmE; rw [if_pos hc, if_pos ht], by unfold blmL; rw [if_pos hc, if_pos ht], ?_⟩
    · rw [hf]
      have : ¬ fewest v ≤ v.wrong := fun h => (few_iff hk).2 h ht
      omega
    · cases hb : truthB v m
      · rfl
      · have := (truth_mem hk hb).1
        rw [ht] at this
        cases this
  · have hb : blmL v = blmFrom v v.ss.length := by unfold blmL; rw [if_pos hc, if_neg ht]
    refine .inr ⟨by rw [hf]; exact (few_iff hk).1 ht, hc, by unfold cenE; rw [if_pos hc, if_neg ht], by unfold blmE; rw [if_pos hc, if_neg ht], by rw [hb]; exact blmFrom_le _ _, fun htr => ?_⟩
    have hm := (truth_mem hk htr).1
    have hmk : isMarkB v m = true := by unfold truthB at htr; rw [Bool.and_eq_true] at htr; exact htr.1
    have hw : wrgL v m = wrongL v m.x m.y := by unfold wrgL; rw [hv, hmk]; rfl
    have hX : cenX v = spanOf (·.1) (tcents v 0) := by unfold cenX; rw [if_pos hc]
    have hY : cenY v = spanOf (·.2) (tcents v 0) := by unfold cenY; rw [if_pos hc]
    have hN : cenN v = ((tcents v 0).length : Int) := by unfold cenN; rw [if_pos hc]
    have sx := spanOf_in (f := (·.1)) hm
    have sy := spanOf_in (f := (·.2)) hm
    have hpos : 0 < (tcents v 0).length := List.length_pos_iff.2 ht
    refine ⟨by unfold wrgE; rw [hv, hmk]; rfl, by rw [hN]; omega, ?_, by rw [hX]; exact sx.1, by rw [hX]; exact sx.2, by rw [hY]; exact sy.1, by rw [hY]; exact sy.2, fun z hz => ?_⟩
    · rw [hf, hw]
      unfold tcents at hm
      exact (fewF_le v (cents v.size.toNat) (v.ss.length : Int)).2 _ (List.mem_filter.1 hm).1
    · rw [hb] at hz
      rw [hw]
      exact blmFrom_all hz hm
end L
end Go.Proofs.Ytgnobonhohfofaa

namespace Go.Proofs.Ytgnobonhohfofaa
open Go.RowKit
attribute [local go_sem ↓] Go.wp_at_zero Go.wp_at_succ

theorem dec_app_f {z y : Int} {l : List Int} (h : decide (z ∈ l) = false) : decide (z ∈ l ++ [y]) = (y == z) := by
  rw [decide_eq_false_iff_not] at h
  by_cases e : y = z
  · subst e; simp
  · have e' : z ≠ y := fun h => e h.symm
    simp [h, e, e']
theorem dec_app_t {z y : Int} {l : List Int} (h : decide (z ∈ l) = true) : decide (z ∈ l ++ [y]) = true := by
  rw [decide_eq_true_eq] at h
  simp [h]
theorem L.wrgL_len' (v : L.Vw) (m : L.Mk) : (L.wrgL v m).length ≤ v.ss.length := by
  unfold L.wrgL
  split
  · split
    · rw [L.wrongL_length]; exact L.many_le _ _ _ _
    · simp
  · simp
theorem Centres_any' (v : L.Vw) (A : Option Addr) (n c : Nat) (w : World) (hn : v.ss.length = n) (hr : RdS w w.heap.size A v.ss) :
    Calls Try.prog 24 #[.agg #[.int .i64 v.size, .slice A n c, .int .i64 v.wrong, .int .i64 v.hxl, .int .i64 v.hxh, .int .i64 v.hyl, .int .i64 v.hyh]] w fun e w' => e = .returned (.tuple #[.int .i64 (L.cenN v), .agg #[.int .i64 (L.cenX v).1, .int .i64 (L.cenX v).2], .agg #[.int .i64 (L.cenY v).1, .int .i64 (L.cenY v).2], .int .i64 (L.cenE v)]) ∧ Below w.heap.size w w' := by
  rcases L.checkE_cases v with h | h
  · exact Centres_yes v A n c w hn hr h
  · exact Centres_no v A n c w hn hr h

set_option maxRecDepth 100000 in
set_option maxHeartbeats 6400000 in
theorem blamedLaw_far (v : L.Vw) (A : Option Addr) (n c : Nat) (m : L.Mk) (w : World) (hn : v.ss.length = n) (hr : RdS w w.heap.size A v.ss) (h : L.farB v = true) :
    Calls Try.prog 7 #[.agg #[.int .i64 v.size, .slice A n c, .int .i64 v.wrong, .int .i64 v.hxl, .int .i64 v.hxh, .int .i64 v.hyl, .int .i64 v.hyh], .agg #[.int .i64 m.x, .int .i64 m.y, .int .i64 m.hx, .int .i64 m.hy]] w fun e w' => e = .returned (.bool true) ∧ Below w.heap.size w w' := by
  have HN := hide hn
  have HR := hide hr
  clear hn hr
  have HF := hide h
  clear h
  go_enter Try.func7, Try.ntmps7
  go_upto_region 1 with fail
  obtain ⟨W0, hW0⟩ : ∃ W0, (w.alloc (.cells #[.int .i64 v.size, .slice A n c, .int .i64 v.wrong, .int .i64 v.hxl, .int .i64 v.hxh, .int .i64 v.hyl, .int .i64 v.hyh] 26)).alloc (.cells #[.int .i64 m.x, .int .i64 m.y, .int .i64 m.hx, .int .i64 m.hy] 30) = W0 := ⟨_, rfl⟩
  have gp : W0.heap[w.heap.size]? = some (.cells #[.int .i64 v.size, .slice A n c, .int .i64 v.wrong, .int .i64 v.hxl, .int .i64 v.hxh, .int .i64 v.hyl, .int .i64 v.hyh] 26 (0, 0)) := by
    rw [← hW0]; exact ((Below.heap_alloc _ _ _ (by first | (simp; done) | (simp; omega) | omega)).trans (World.alloc_heap_new _ _))
  have gq : W0.heap[w.heap.size + 1]? = some (.cells #[.int .i64 m.x, .int .i64 m.y, .int .i64 m.hx, .int .i64 m.hy] 30 (0, 0)) := by
    rw [← hW0]; exact ((congrArg _ (by simp)).trans (World.alloc_heap_new _ _))
  have gs : W0.heap.size = w.heap.size + 1 + 1 := by rw [← hW0]; simp
  have gB : Below w.heap.size w W0 := by rw [← hW0]; (repeat' first | exact zbR _ _ | assumption | refine zbD ?_ | refine zbA ?_ ?_ _ | refine zbS ?_ ?_ _ | refine zbT ?_ (by assumption) ?_ | (simp; done) | (simp; omega) | omega)
  rw [hW0]
  clear hW0
  obtain ⟨p, hp⟩ : ∃ p, w.heap.size = p := ⟨_, rfl⟩
  obtain ⟨q, hq⟩ : ∃ q, w.heap.size + 1 = q := ⟨_, rfl⟩
  rw [hq, hp]
  rw [hp] at gp
  rw [hq] at gq
  have lp : p < W0.heap.size := by omega
  have lq : q < W0.heap.size := by omega
  have HR0 := hide ((HR.out.below gB).mono gB.size)
  have GB := hide gB
  have GP := hide gp
  have cp0 := (blk_cell gp 0).trans rfl; have cp1 := (blk_cell gp 1).trans rfl; have cp2 := (blk_cell gp 2).trans rfl; have cp3 := (blk_cell gp 3).trans rfl; have cp4 := (blk_cell gp 4).trans rfl; have cp5 := (blk_cell gp 5).trans rfl; have cp6 := (blk_cell gp 6).trans rfl
  have GQ := hide gq
  have cq0 := (blk_cell gq 0).trans rfl; have cq1 := (blk_cell gq 1).trans rfl; have cq2 := (blk_cell gq 2).trans rfl; have cq3 := (blk_cell gq 3).trans rfl
  clear gp gq gB gs hp hq
  go_wp2_with (first | (go_at_call 28; refine (Far_any v A n c _ HN.out ((HR0.out.below (by (repeat' first | exact zbR _ _ | assumption | refine zbD ?_ | refine zbA ?_ ?_ _ | refine zbS ?_ ?_ _ | refine zbT ?_ (by assumption) ?_ | (simp; done) | (simp; omega) | omega))).mono (by first | (simp; done) | (simp; omega) | omega))).mono ?_; rintro e w2 ⟨rfl, hb2⟩; rw [HF.out]; obtain ⟨hc2, hf2⟩ := bcell hb2; have q2 := hb2.size; (try simp only [World.size_alloc] at q2); have z2_p : p < w2.heap.size := (by omega); have z2_q : q < w2.heap.size := (by omega)) | (go_at_call 16; refine (works_any _).mono ?_; rintro e w19 ⟨rfl, hb19⟩))
  go_ret
  exact ⟨rfl, GB.out.trans ((show Below W0.heap.size W0 _ by (repeat' first | exact zbR _ _ | assumption | refine zbD ?_ | refine zbA ?_ ?_ _ | refine zbS ?_ ?_ _ | refine zbT ?_ (by assumption) ?_ | (simp; done) | (simp; omega) | omega)).mono GB.out.size)⟩

set_option maxRecDepth 100000 in
set_option maxHeartbeats 6400000 in
theorem blamedLaw_bad (v : L.Vw) (A : Option Addr) (n c : Nat) (m : L.Mk) (w : World) (hn : v.ss.length = n) (hr : RdS w w.heap.size A v.ss) (hf : L.farB v = false) (h : L.viewB v = false) :
    Calls Try.prog 7 #[.agg #[.int .i64 v.size, .slice A n c, .int .i64 v.wrong, .int .i64 v.hxl, .int .i64 v.hxh, .int .i64 v.hyl, .int .i64 v.hyh], .agg #[.int .i64 m.x, .int .i64 m.y, .int .i64 m.hx, .int .i64 m.hy]] w fun e w' => e = .returned (.bool true) ∧ Below w.heap.size w w' := by
  have HN := hide hn
  have HR := hide hr
  clear hn hr
  have HF := hide hf
  have HC := hide (L.check_f h)
  clear h hf
  go_enter Try.func7, Try.ntmps7
  go_upto_region 1 with fail
  obtain ⟨W0, hW0⟩ : ∃ W0, (w.alloc (.cells #[.int .i64 v.size, .slice A n c, .int .i64 v.wrong, .int .i64 v.hxl, .int .i64 v.hxh, .int .i64 v.hyl, .int .i64 v.hyh] 26)).alloc (.cells #[.int .i64 m.x, .int .i64 m.y, .int .i64 m.hx, .int .i64 m.hy] 30) = W0 := ⟨_, rfl⟩
  have gp : W0.heap[w.heap.size]? = some (.cells #[.int .i64 v.size, .slice A n c, .int .i64 v.wrong, .int .i64 v.hxl, .int .i64 v.hxh, .int .i64 v.hyl, .int .i64 v.hyh] 26 (0, 0)) := by
    rw [← hW0]; exact ((Below.heap_alloc _ _ _ (by first | (simp; done) | (simp; omega) | omega)).trans (World.alloc_heap_new _ _))
  have gq : W0.heap[w.heap.size + 1]? = some (.cells #[.int .i64 m.x, .int .i64 m.y, .int .i64 m.hx, .int .i64 m.hy] 30 (0, 0)) := by
    rw [← hW0]; exact ((congrArg _ (by simp)).trans (World.alloc_heap_new _ _))
  have gs : W0.heap.size = w.heap.size + 1 + 1 := by rw [← hW0]; simp
  have gB : Below w.heap.size w W0 := by rw [← hW0]; (repeat' first | exact zbR _ _ | assumption | refine zbD ?_ | refine zbA ?_ ?_ _ | refine zbS ?_ ?_ _ | refine zbT ?_ (by assumption) ?_ | (simp; done) | (simp; omega) | omega)
  rw [hW0]
  clear hW0
  obtain ⟨p, hp⟩ : ∃ p, w.heap.size = p := ⟨_, rfl⟩
  obtain ⟨q, hq⟩ : ∃ q, w.heap.size + 1 = q := ⟨_, rfl⟩
  rw [hq, hp]
  rw [hp] at gp
  rw [hq] at gq
  have lp : p < W0.heap.size := by omega
  have lq : q < W0.heap.size := by omega
  have HR0 := hide ((HR.out.below gB).mono gB.size)
  have GB := hide gB
  have GP := hide gp
  have cp0 := (blk_cell gp 0).trans rfl; have cp1 := (blk_cell gp 1).trans rfl; have cp2 := (blk_cell gp 2).trans rfl; have cp3 := (blk_cell gp 3).trans rfl; have cp4 := (blk_cell gp 4).trans rfl; have cp5 := (blk_cell gp 5).trans rfl; have cp6 := (blk_cell gp 6).trans rfl
  have GQ := hide gq
  have cq0 := (blk_cell gq 0).trans rfl; have cq1 := (blk_cell gq 1).trans rfl; have cq2 := (blk_cell gq 2).trans rfl; have cq3 := (blk_cell gq 3).trans rfl
  clear gp gq gB gs hp hq
  go_wp2_with (first | (go_at_call 28; refine (Far_any v A n c _ HN.out ((HR0.out.below (by (repeat' first | exact zbR _ _ | assumption | refine zbD ?_ | refine zbA ?_ ?_ _ | refine zbS ?_ ?_ _ | refine zbT ?_ (by assumption) ?_ | (simp; done) | (simp; omega) | omega))).mono (by first | (simp; done) | (simp; omega) | omega))).mono ?_; rintro e w2 ⟨rfl, hb2⟩; rw [HF.out]; obtain ⟨hc2, hf2⟩ := bcell hb2; have q2 := hb2.size; (try simp only [World.size_alloc] at q2); have z2_p : p < w2.heap.size := (by omega); have z2_q : q < w2.heap.size := (by omega)) | (go_at_call 23; refine (RefCheck_any v A n c _ HN.out ((HR0.out.below (by (repeat' first | exact zbR _ _ | assumption | refine zbD ?_ | refine zbA ?_ ?_ _ | refine zbS ?_ ?_ _ | refine zbT ?_ (by assumption) ?_ | (simp; done) | (simp; omega) | omega))).mono (by first | (simp; done) | (simp; omega) | omega))).mono ?_; rintro e w3 ⟨rfl, hb3⟩; rw [HC.out]; obtain ⟨hc3, hf3⟩ := bcell hb3; have q3 := hb3.size; (try simp only [World.size_alloc] at q3); have z3_p : p < w3.heap.size := (by omega); have z3_q : q < w3.heap.size := (by omega)) | (go_at_call 16; refine (works_any _).mono ?_; rintro e w19 ⟨rfl, hb19⟩))
  go_ret
  exact ⟨rfl, GB.out.trans ((show Below W0.heap.size W0 _ by (repeat' first | exact zbR _ _ | assumption | refine zbD ?_ | refine zbA ?_ ?_ _ | refine zbS ?_ ?_ _ | refine zbT ?_ (by assumption) ?_ | (simp; done) | (simp; omega) | omega)).mono GB.out.size)⟩

set_option maxRecDepth 100000 in
set_option maxHeartbeats 6400000 in
theorem blamedLaw_no (v : L.Vw) (A : Option Addr) (n c : Nat) (m : L.Mk) (w : World) (hn : v.ss.length = n) (hr : RdS w w.heap.size A v.ss) (hf : L.farB v = false) (h : L.viewB v = true) (hb : L.BlmNo v m) :
    Calls Try.prog 7 #[.agg #[.int .i64 v.size, .slice A n c, .int .i64 v.wrong, .int .i64 v.hxl, .int .i64 v.hxh, .int .i64 v.hyl, .int .i64 v.hyh], .agg #[.int .i64 m.x, .int .i64 m.y, .int .i64 m.hx, .int .i64 m.hy]] w fun e w' => e = .returned (.bool true) ∧ Below w.heap.size w w' := by
  have HN := hide hn
  have HR := hide hr
  clear hn hr
  have HF := hide hf
  have HC := hide (L.check_t h)
  have HV := hide (L.viewB_ok h)
  obtain ⟨h1, h2, h3, h4, h5, h6⟩ := hb
  have HFE := hide h2
  have HCE := hide h3
  have HBE := hide h4
  have HBL := hide h5
  have HT := hide h6
  obtain ⟨few, hfew⟩ : ∃ x, L.fewV v = x := ⟨_, rfl⟩
  rw [hfew] at h1
  have HFW := hide hfew
  clear h hf h2 h3 h4 h5 h6 hfew
  go_enter Try.func7, Try.ntmps7
  go_upto_region 1 with fail
  obtain ⟨W0, hW0⟩ : ∃ W0, (w.alloc (.cells #[.int .i64 v.size, .slice A n c, .int .i64 v.wrong, .int .i64 v.hxl, .int .i64 v.hxh, .int .i64 v.hyl, .int .i64 v.hyh] 26)).alloc (.cells #[.int .i64 m.x, .int .i64 m.y, .int .i64 m.hx, .int .i64 m.hy] 30) = W0 := ⟨_, rfl⟩
  have gp : W0.heap[w.heap.size]? = some (.cells #[.int .i64 v.size, .slice A n c, .int .i64 v.wrong, .int .i64 v.hxl, .int .i64 v.hxh, .int .i64 v.hyl, .int .i64 v.hyh] 26 (0, 0)) := by
    rw [← hW0]; exact ((Below.heap_alloc _ _ _ (by first | (simp; done) | (simp; omega) | omega)).trans (World.alloc_heap_new _ _))
  have gq : W0.heap[w.heap.size + 1]? = some (.cells #[.int .i64 m.x, .int .i64 m.y, .int .i64 m.hx, .int .i64 m.hy] 30 (0, 0)) := by
    rw [← hW0]; exact ((congrArg _ (by simp)).trans (World.alloc_heap_new _ _))
  have gs : W0.heap.size = w.heap.size + 1 + 1 := by rw [← hW0]; simp
  have gB : Below w.heap.size w W0 := by rw [← hW0]; (repeat' first | exact zbR _ _ | assumption | refine zbD ?_ | refine zbA ?_ ?_ _ | refine zbS ?_ ?_ _ | refine zbT ?_ (by assumption) ?_ | (simp; done) | (simp; omega) | omega)
  rw [hW0]
  clear hW0
  obtain ⟨p, hp⟩ : ∃ p, w.heap.size = p := ⟨_, rfl⟩
  obtain ⟨q, hq⟩ : ∃ q, w.heap.size + 1 = q := ⟨_, rfl⟩
  rw [hq, hp]
  rw [hp] at gp
  rw [hq] at gq
  have lp : p < W0.heap.size := by omega
  have lq : q < W0.heap.size := by omega
  have HR0 := hide ((HR.out.below gB).mono gB.size)
  have GB := hide gB
  have GP := hide gp
  have cp0 := (blk_cell gp 0).trans rfl; have cp1 := (blk_cell gp 1).trans rfl; have cp2 := (blk_cell gp 2).trans rfl; have cp3 := (blk_cell gp 3).trans rfl; have cp4 := (blk_cell gp 4).trans rfl; have cp5 := (blk_cell gp 5).trans rfl; have cp6 := (blk_cell gp 6).trans rfl
  have GQ := hide gq
  have cq0 := (blk_cell gq 0).trans rfl; have cq1 := (blk_cell gq 1).trans rfl; have cq2 := (blk_cell gq 2).trans rfl; have cq3 := (blk_cell gq 3).trans rfl
  clear gp gq gB gs hp hq
  go_wp2_with (first | (go_at_call 28; refine (Far_any v A n c _ HN.out ((HR0.out.below (by (repeat' first | exact zbR _ _ | assumption | refine zbD ?_ | refine zbA ?_ ?_ _ | refine zbS ?_ ?_ _ | refine zbT ?_ (by assumption) ?_ | (simp; done) | (simp; omega) | omega))).mono (by first | (simp; done) | (simp; omega) | omega))).mono ?_; rintro e w2 ⟨rfl, hb2⟩; rw [HF.out]; obtain ⟨hc2, hf2⟩ := bcell hb2; have q2 := hb2.size; (try simp only [World.size_alloc] at q2); have z2_p : p < w2.heap.size := (by omega); have z2_q : q < w2.heap.size := (by omega)) | (go_at_call 23; refine (RefCheck_any v A n c _ HN.out ((HR0.out.below (by (repeat' first | exact zbR _ _ | assumption | refine zbD ?_ | refine zbA ?_ ?_ _ | refine zbS ?_ ?_ _ | refine zbT ?_ (by assumption) ?_ | (simp; done) | (simp; omega) | omega))).mono (by first | (simp; done) | (simp; omega) | omega))).mono ?_; rintro e w3 ⟨rfl, hb3⟩; rw [HC.out]; obtain ⟨hc3, hf3⟩ := bcell hb3; have q3 := hb3.size; (try simp only [World.size_alloc] at q3); have z3_p : p < w3.heap.size := (by omega); have z3_q : q < w3.heap.size := (by omega)) | (go_at_call 29; refine (Fewest_any v A n c _ HN.out ((HR0.out.below (by (repeat' first | exact zbR _ _ | assumption | refine zbD ?_ | refine zbA ?_ ?_ _ | refine zbS ?_ ?_ _ | refine zbT ?_ (by assumption) ?_ | (simp; done) | (simp; omega) | omega))).mono (by first | (simp; done) | (simp; omega) | omega))).mono ?_; rintro e w4 ⟨rfl, hb4⟩; rw [HFE.out, HFW.out]; obtain ⟨hc4, hf4⟩ := bcell hb4; have q4 := hb4.size; (try simp only [World.size_alloc] at q4); have z4_p : p < w4.heap.size := (by omega); have z4_q : q < w4.heap.size := (by omega)) | (go_at_call 24; refine (Centres_any' v A n c _ HN.out ((HR0.out.below (by (repeat' first | exact zbR _ _ | assumption | refine zbD ?_ | refine zbA ?_ ?_ _ | refine zbS ?_ ?_ _ | refine zbT ?_ (by assumption) ?_ | (simp; done) | (simp; omega) | omega))).mono (by first | (simp; done) | (simp; omega) | omega))).mono ?_; rintro e w5 ⟨rfl, hb5⟩; rw [HCE.out]; obtain ⟨hc5, hf5⟩ := bcell hb5; have q5 := hb5.size; (try simp only [World.size_alloc] at q5); have z5_p : p < w5.heap.size := (by omega); have z5_q : q < w5.heap.size := (by omega)) | (go_at_call 30; refine (Blame_any v A n c _ HN.out ((HR0.out.below (by (repeat' first | exact zbR _ _ | assumption | refine zbD ?_ | refine zbA ?_ ?_ _ | refine zbS ?_ ?_ _ | refine zbT ?_ (by assumption) ?_ | (simp; done) | (simp; omega) | omega))).mono (by first | (simp; done) | (simp; omega) | omega))).mono ?_; rintro e w6 ⟨svB, cB, rfl, hoB, hb6⟩; have y1 : p < w5.heap.size + 1 := (by omega); have y2 : p < w5.heap.size + 1 + 1 := (by omega); have y3 : q < w5.heap.size + 1 := (by omega); have y4 : q < w5.heap.size + 1 + 1 := (by omega); have y5 : w5.heap.size < w5.heap.size + 1 + 1 := (by omega); obtain ⟨hc6, hf6⟩ := bcell hb6; (try simp only [World.size_alloc] at hc6 hf6); have q6 := hb6.size; (try simp only [World.size_alloc] at q6); have z6_p : p < w6.heap.size := (by omega); have z6_q : q < w6.heap.size := (by omega); have z6_w5 : w5.heap.size < w6.heap.size := (by omega); have z6_w5_1 : w5.heap.size + 1 < w6.heap.size := (by omega); rw [HBE.out, HBL.out]; have HIB := hide (owns_RdI hoB rfl); clear hoB) | (go_at_call 18; refine (isTruth_any v A n c m _ HV.out HN.out ((HR0.out.below (by (repeat' first | exact zbR _ _ | assumption | refine zbD ?_ | refine zbA ?_ ?_ _ | refine zbS ?_ ?_ _ | refine zbT ?_ (by assumption) ?_ | (simp; done) | (simp; omega) | omega))).mono (by first | (simp; done) | (simp; omega) | omega))).mono ?_; rintro e w7 ⟨rfl, hb7⟩; rw [HT.out]; obtain ⟨hc7, hf7⟩ := bcell hb7; have q7 := hb7.size; (try simp only [World.size_alloc] at q7); have z7_p : p < w7.heap.size := (by omega); have z7_q : q < w7.heap.size := (by omega); have z7_w5 : w5.heap.size < w7.heap.size := (by omega); have z7_w5_1 : w5.heap.size + 1 < w7.heap.size := (by omega)) | (go_at_call 16; refine (works_any _).mono ?_; rintro e w19 ⟨rfl, hb19⟩))
  go_ret
  exact ⟨rfl, GB.out.trans ((show Below W0.heap.size W0 _ by (repeat' first | exact zbR _ _ | assumption | refine zbD ?_ | refine zbA ?_ ?_ _ | refine zbS ?_ ?_ _ | refine zbT ?_ (by assumption) ?_ | (simp; done) | (simp; omega) | omega)).mono GB.out.size)⟩

set_option maxRecDepth 100000 in
set_option maxHeartbeats 6400000 in
theorem blamedLaw_un (v : L.Vw) (A : Option Addr) (n c : Nat) (m : L.Mk) (w : World) (hn : v.ss.length = n) (hr : RdS w w.heap.size A v.ss) (hf : L.farB v = false) (h : L.viewB v = true) (hb : L.BlmYes v m) (ht : L.truthB v m = false) :
    Calls Try.prog 7 #[.agg #[.int .i64 v.size, .slice A n c, .int .i64 v.wrong, .int .i64 v.hxl, .int .i64 v.hxh, .int .i64 v.hyl, .int .i64 v.hyh], .agg #[.int .i64 m.x, .int .i64 m.y, .int .i64 m.hx, .int .i64 m.hy]] w fun e w' => e = .returned (.bool true) ∧ Below w.heap.size w w' := by
  have HN := hide hn
  have HR := hide hr
  clear hn hr
  have HF := hide hf
  have HC := hide (L.check_t h)
  have HV := hide (L.viewB_ok h)
  obtain ⟨h1, h2, h3, h4, h5, h6⟩ := hb
  have HFE := hide h2
  have HCE := hide h3
  have HBE := hide h4
  have HT := hide ht
  obtain ⟨few, hfew⟩ : ∃ x, L.fewV v = x := ⟨_, rfl⟩
  rw [hfew] at h1
  have HFW := hide hfew
  obtain ⟨lb, hlb⟩ : ∃ x, (L.blmL v).length = x := ⟨_, rfl⟩
  have hlb2 : (lb : Int) ≤ (n : Int) := by have := HN.out; omega
  have HLB := hide hlb
  clear h hf h2 h3 h4 h5 h6 hfew ht hlb
  go_enter Try.func7, Try.ntmps7
  go_upto_region 1 with fail
  obtain ⟨W0, hW0⟩ : ∃ W0, (w.alloc (.cells #[.int .i64 v.size, .slice A n c, .int .i64 v.wrong, .int .i64 v.hxl, .int .i64 v.hxh, .int .i64 v.hyl, .int .i64 v.hyh] 26)).alloc (.cells #[.int .i64 m.x, .int .i64 m.y, .int .i64 m.hx, .int .i64 m.hy] 30) = W0 := ⟨_, rfl⟩
  have gp : W0.heap[w.heap.size]? = some (.cells #[.int .i64 v.size, .slice A n c, .int .i64 v.wrong, .int .i64 v.hxl, .int .i64 v.hxh, .int .i64 v.hyl, .int .i64 v.hyh] 26 (0, 0)) := by
    rw [← hW0]; exact ((Below.heap_alloc _ _ _ (by first | (simp; done) | (simp; omega) | omega)).trans (World.alloc_heap_new _ _))
  have gq : W0.heap[w.heap.size + 1]? = some (.cells #[.int .i64 m.x, .int .i64 m.y, .int .i64 m.hx, .int .i64 m.hy] 30 (0, 0)) := by
    rw [← hW0]; exact ((congrArg _ (by simp)).trans (World.alloc_heap_new _ _))
  have gs : W0.heap.size = w.heap.size + 1 + 1 := by rw [← hW0]; simp
  have gB : Below w.heap.size w W0 := by rw [← hW0]; (repeat' first | exact zbR _ _ | assumption | refine zbD ?_ | refine zbA ?_ ?_ _ | refine zbS ?_ ?_ _ | refine zbT ?_ (by assumption) ?_ | (simp; done) | (simp; omega) | omega)
  rw [hW0]
  clear hW0
  obtain ⟨p, hp⟩ : ∃ p, w.heap.size = p := ⟨_, rfl⟩
  obtain ⟨q, hq⟩ : ∃ q, w.heap.size + 1 = q := ⟨_, rfl⟩
  rw [hq, hp]
  rw [hp] at gp
  rw [hq] at gq
  have lp : p < W0.heap.size := by omega
  have lq : q < W0.heap.size := by omega
  have HR0 := hide ((HR.out.below gB).mono gB.size)
  have GB := hide gB
  have GP := hide gp
  have cp0 := (blk_cell gp 0).trans rfl; have cp1 := (blk_cell gp 1).trans rfl; have cp2 := (blk_cell gp 2).trans rfl; have cp3 := (blk_cell gp 3).trans rfl; have cp4 := (blk_cell gp 4).trans rfl; have cp5 := (blk_cell gp 5).trans rfl; have cp6 := (blk_cell gp 6).trans rfl
  have GQ := hide gq
  have cq0 := (blk_cell gq 0).trans rfl; have cq1 := (blk_cell gq 1).trans rfl; have cq2 := (blk_cell gq 2).trans rfl; have cq3 := (blk_cell gq 3).trans rfl
  clear gp gq gB gs hp hq
  go_wp2_with (first | (go_at_call 28; refine (Far_any v A n c _ HN.out ((HR0.out.below (by (repeat' first | exact zbR _ _ | assumption | refine zbD ?_ | refine zbA ?_ ?_ _ | refine zbS ?_ ?_ _ | refine zbT ?_ (by assumption) ?_ | (simp; done) | (simp; omega) | omega))).mono (by first | (simp; done) | (simp; omega) | omega))).mono ?_; rintro e w2 ⟨rfl, hb2⟩; rw [HF.out]; obtain ⟨hc2, hf2⟩ := bcell hb2; have q2 := hb2.size; (try simp only [World.size_alloc] at q2); have z2_p : p < w2.heap.size := (by omega); have z2_q : q < w2.heap.size := (by omega)) | (go_at_call 23; refine (RefCheck_any v A n c _ HN.out ((HR0.out.below (by (repeat' first | exact zbR _ _ | assumption | refine zbD ?_ | refine zbA ?_ ?_ _ | refine zbS ?_ ?_ _ | refine zbT ?_ (by assumption) ?_ | (simp; done) | (simp; omega) | omega))).mono (by first | (simp; done) | (simp; omega) | omega))).mono ?_; rintro e w3 ⟨rfl, hb3⟩; rw [HC.out]; obtain ⟨hc3, hf3⟩ := bcell hb3; have q3 := hb3.size; (try simp only [World.size_alloc] at q3); have z3_p : p < w3.heap.size := (by omega); have z3_q : q < w3.heap.size := (by omega)) | (go_at_call 29; refine (Fewest_any v A n c _ HN.out ((HR0.out.below (by (repeat' first | exact zbR _ _ | assumption | refine zbD ?_ | refine zbA ?_ ?_ _ | refine zbS ?_ ?_ _ | refine zbT ?_ (by assumption) ?_ | (simp; done) | (simp; omega) | omega))).mono (by first | (simp; done) | (simp; omega) | omega))).mono ?_; rintro e w4 ⟨rfl, hb4⟩; rw [HFE.out, HFW.out]; obtain ⟨hc4, hf4⟩ := bcell hb4; have q4 := hb4.size; (try simp only [World.size_alloc] at q4); have z4_p : p < w4.heap.size := (by omega); have z4_q : q < w4.heap.size := (by omega)) | (go_at_call 24; refine (Centres_any' v A n c _ HN.out ((HR0.out.below (by (repeat' first | exact zbR _ _ | assumption | refine zbD ?_ | refine zbA ?_ ?_ _ | refine zbS ?_ ?_ _ | refine zbT ?_ (by assumption) ?_ | (simp; done) | (simp; omega) | omega))).mono (by first | (simp; done) | (simp; omega) | omega))).mono ?_; rintro e w5 ⟨rfl, hb5⟩; rw [HCE.out]; obtain ⟨hc5, hf5⟩ := bcell hb5; have q5 := hb5.size; (try simp only [World.size_alloc] at q5); have z5_p : p < w5.heap.size := (by omega); have z5_q : q < w5.heap.size := (by omega)) | (go_at_call 30; refine (Blame_any v A n c _ HN.out ((HR0.out.below (by (repeat' first | exact zbR _ _ | assumption | refine zbD ?_ | refine zbA ?_ ?_ _ | refine zbS ?_ ?_ _ | refine zbT ?_ (by assumption) ?_ | (simp; done) | (simp; omega) | omega))).mono (by first | (simp; done) | (simp; omega) | omega))).mono ?_; rintro e w6 ⟨svB, cB, rfl, hoB, hb6⟩; have y1 : p < w5.heap.size + 1 := (by omega); have y2 : p < w5.heap.size + 1 + 1 := (by omega); have y3 : q < w5.heap.size + 1 := (by omega); have y4 : q < w5.heap.size + 1 + 1 := (by omega); have y5 : w5.heap.size < w5.heap.size + 1 + 1 := (by omega); obtain ⟨hc6, hf6⟩ := bcell hb6; (try simp only [World.size_alloc] at hc6 hf6); have q6 := hb6.size; (try simp only [World.size_alloc] at q6); have z6_p : p < w6.heap.size := (by omega); have z6_q : q < w6.heap.size := (by omega); have z6_w5 : w5.heap.size < w6.heap.size := (by omega); have z6_w5_1 : w5.heap.size + 1 < w6.heap.size := (by omega); rw [HBE.out, HLB.out]; have HIB := hide (owns_RdI hoB rfl); clear hoB) | (go_at_call 18; refine (isTruth_any v A n c m _ HV.out HN.out ((HR0.out.below (by (repeat' first | exact zbR _ _ | assumption | refine zbD ?_ | refine zbA ?_ ?_ _ | refine zbS ?_ ?_ _ | refine zbT ?_ (by assumption) ?_ | (simp; done) | (simp; omega) | omega))).mono (by first | (simp; done) | (simp; omega) | omega))).mono ?_; rintro e w7 ⟨rfl, hb7⟩; rw [HT.out]; obtain ⟨hc7, hf7⟩ := bcell hb7; have q7 := hb7.size; (try simp only [World.size_alloc] at q7); have z7_p : p < w7.heap.size := (by omega); have z7_q : q < w7.heap.size := (by omega); have z7_w5 : w5.heap.size < w7.heap.size := (by omega); have z7_w5_1 : w5.heap.size + 1 < w7.heap.size := (by omega)) | (go_at_call 16; refine (works_any _).mono ?_; rintro e w19 ⟨rfl, hb19⟩))
  go_ret
  exact ⟨rfl, GB.out.trans ((show Below W0.heap.size W0 _ by (repeat' first | exact zbR _ _ | assumption | refine zbD ?_ | refine zbA ?_ ?_ _ | refine zbS ?_ ?_ _ | refine zbT ?_ (by assumption) ?_ | (simp; done) | (simp; omega) | omega)).mono GB.out.size)⟩

set_option maxRecDepth 100000 in
set_option maxHeartbeats 6400000 in
theorem blamedLaw_yes (v : L.Vw) (A : Option Addr) (n c : Nat) (m : L.Mk) (w : World) (hn : v.ss.length = n) (hr : RdS w w.heap.size A v.ss) (hf : L.farB v = false) (h : L.viewB v = true) (hb : L.BlmYes v m) (ht : L.truthB v m = true) :
    Calls Try.prog 7 #[.agg #[.int .i64 v.size, .slice A n c, .int .i64 v.wrong, .int .i64 v.hxl, .int .i64 v.hxh, .int .i64 v.hyl, .int .i64 v.hyh], .agg #[.int .i64 m.x, .int .i64 m.y, .int .i64 m.hx, .int .i64 m.hy]] w fun e w' => e = .returned (.bool true) ∧ Below w.heap.size w w' := by
  have HN := hide hn
  have HR := hide hr
  clear hn hr
  have HF := hide hf
  have HC := hide (L.check_t h)
  have HV := hide (L.viewB_ok h)
  obtain ⟨h1, h2, h3, h4, h5, h6⟩ := hb
  obtain ⟨k1, k2, k3, k4, k5, k6, k7, k8⟩ := h6 ht
  have HFE := hide h2
  have HCE := hide h3
  have HBE := hide h4
  have HT := hide ht
  have HWE := hide k1
  have HSub := hide k8
  obtain ⟨few, hfew⟩ : ∃ x, L.fewV v = x := ⟨_, rfl⟩
  obtain ⟨cn, hcn⟩ : ∃ x, L.cenN v = x := ⟨_, rfl⟩
  obtain ⟨xl, hxl⟩ : ∃ x, (L.cenX v).1 = x := ⟨_, rfl⟩
  obtain ⟨xh, hxh⟩ : ∃ x, (L.cenX v).2 = x := ⟨_, rfl⟩
  obtain ⟨yl, hyl⟩ : ∃ x, (L.cenY v).1 = x := ⟨_, rfl⟩
  obtain ⟨yh, hyh⟩ : ∃ x, (L.cenY v).2 = x := ⟨_, rfl⟩
  obtain ⟨lb, hlb⟩ : ∃ x, (L.blmL v).length = x := ⟨_, rfl⟩
  obtain ⟨lw, hlw⟩ : ∃ x, (L.wrgL v m).length = x := ⟨_, rfl⟩
  have hlb2 : (lb : Int) ≤ (n : Int) := by have := HN.out; omega
  rw [hfew] at h1 k3
  rw [hlw] at k3
  rw [hcn] at k2
  rw [hxl] at k4
  rw [hxh] at k5
  rw [hyl] at k6
  rw [hyh] at k7
  have HFW := hide hfew
  have HCN := hide hcn
  have HXL := hide hxl
  have HXH := hide hxh
  have HYL := hide hyl
  have HYH := hide hyh
  have HLB := hide hlb
  have HLW := hide hlw
  have hn8 : (n : Int) ≤ 8 := by have := HV.out.n8; have := HN.out; omega
  have hlw8 : (lw : Int) ≤ 8 := by have := L.wrgL_len' v m; have := HN.out; omega
  clear h hf h2 h3 h4 h5 h6 k1 k8 hfew ht hcn hxl hxh hyl hyh hlb hlw
  go_enter Try.func7, Try.ntmps7
  go_upto_region 1 with fail
  obtain ⟨W0, hW0⟩ : ∃ W0, (w.alloc (.cells #[.int .i64 v.size, .slice A n c, .int .i64 v.wrong, .int .i64 v.hxl, .int .i64 v.hxh, .int .i64 v.hyl, .int .i64 v.hyh] 26)).alloc (.cells #[.int .i64 m.x, .int .i64 m.y, .int .i64 m.hx, .int .i64 m.hy] 30) = W0 := ⟨_, rfl⟩
  have gp : W0.heap[w.heap.size]? = some (.cells #[.int .i64 v.size, .slice A n c, .int .i64 v.wrong, .int .i64 v.hxl, .int .i64 v.hxh, .int .i64 v.hyl, .int .i64 v.hyh] 26 (0, 0)) := by
    rw [← hW0]; exact ((Below.heap_alloc _ _ _ (by first | (simp; done) | (simp; omega) | omega)).trans (World.alloc_heap_new _ _))
  have gq : W0.heap[w.heap.size + 1]? = some (.cells #[.int .i64 m.x, .int .i64 m.y, .int .i64 m.hx, .int .i64 m.hy] 30 (0, 0)) := by
    rw [← hW0]; exact ((congrArg _ (by simp)).trans (World.alloc_heap_new _ _))
  have gs : W0.heap.size = w.heap.size + 1 + 1 := by rw [← hW0]; simp
  have gB : Below w.heap.size w W0 := by rw [← hW0]; (repeat' first | exact zbR _ _ | assumption | refine zbD ?_ | refine zbA ?_ ?_ _ | refine zbS ?_ ?_ _ | refine zbT ?_ (by assumption) ?_ | (simp; done) | (simp; omega) | omega)
  rw [hW0]
  clear hW0
  obtain ⟨p, hp⟩ : ∃ p, w.heap.size = p := ⟨_, rfl⟩
  obtain ⟨q, hq⟩ : ∃ q, w.heap.size + 1 = q := ⟨_, rfl⟩
  rw [hq, hp]
  rw [hp] at gp
  rw [hq] at gq
  have lp : p < W0.heap.size := by omega
  have lq : q < W0.heap.size := by omega
  have HR0 := hide ((HR.out.below gB).mono gB.size)
  have GB := hide gB
  have GP := hide gp
  have cp0 := (blk_cell gp 0).trans rfl; have cp1 := (blk_cell gp 1).trans rfl; have cp2 := (blk_cell gp 2).trans rfl; have cp3 := (blk_cell gp 3).trans rfl; have cp4 := (blk_cell gp 4).trans rfl; have cp5 := (blk_cell gp 5).trans rfl; have cp6 := (blk_cell gp 6).trans rfl
  have GQ := hide gq
  have cq0 := (blk_cell gq 0).trans rfl; have cq1 := (blk_cell gq 1).trans rfl; have cq2 := (blk_cell gq 2).trans rfl; have cq3 := (blk_cell gq 3).trans rfl
  clear gp gq gB gs hp hq
  go_wp2_with (first | (go_at_call 28; refine (Far_any v A n c _ HN.out ((HR0.out.below (by (repeat' first | exact zbR _ _ | assumption | refine zbD ?_ | refine zbA ?_ ?_ _ | refine zbS ?_ ?_ _ | refine zbT ?_ (by assumption) ?_ | (simp; done) | (simp; omega) | omega))).mono (by first | (simp; done) | (simp; omega) | omega))).mono ?_; rintro e w2 ⟨rfl, hb2⟩; rw [HF.out]; obtain ⟨hc2, hf2⟩ := bcell hb2; have q2 := hb2.size; (try simp only [World.size_alloc] at q2); have z2_p : p < w2.heap.size := (by omega); have z2_q : q < w2.heap.size := (by omega)) | (go_at_call 23; refine (RefCheck_any v A n c _ HN.out ((HR0.out.below (by (repeat' first | exact zbR _ _ | assumption | refine zbD ?_ | refine zbA ?_ ?_ _ | refine zbS ?_ ?_ _ | refine zbT ?_ (by assumption) ?_ | (simp; done) | (simp; omega) | omega))).mono (by first | (simp; done) | (simp; omega) | omega))).mono ?_; rintro e w3 ⟨rfl, hb3⟩; rw [HC.out]; obtain ⟨hc3, hf3⟩ := bcell hb3; have q3 := hb3.size; (try simp only [World.size_alloc] at q3); have z3_p : p < w3.heap.size := (by omega); have z3_q : q < w3.heap.size := (by omega)) | (go_at_call 29; refine (Fewest_any v A n c _ HN.out ((HR0.out.below (by (repeat' first | exact zbR _ _ | assumption | refine zbD ?_ | refine zbA ?_ ?_ _ | refine zbS ?_ ?_ _ | refine zbT ?_ (by assumption) ?_ | (simp; done) | (simp; omega) | omega))).mono (by first | (simp; done) | (simp; omega) | omega))).mono ?_; rintro e w4 ⟨rfl, hb4⟩; rw [HFE.out, HFW.out]; obtain ⟨hc4, hf4⟩ := bcell hb4; have q4 := hb4.size; (try simp only [World.size_alloc] at q4); have z4_p : p < w4.heap.size := (by omega); have z4_q : q < w4.heap.size := (by omega)) | (go_at_call 24; refine (Centres_any' v A n c _ HN.out ((HR0.out.below (by (repeat' first | exact zbR _ _ | assumption | refine zbD ?_ | refine zbA ?_ ?_ _ | refine zbS ?_ ?_ _ | refine zbT ?_ (by assumption) ?_ | (simp; done) | (simp; omega) | omega))).mono (by first | (simp; done) | (simp; omega) | omega))).mono ?_; rintro e w5 ⟨rfl, hb5⟩; rw [HCE.out, HCN.out, HXL.out, HXH.out, HYL.out, HYH.out]; obtain ⟨hc5, hf5⟩ := bcell hb5; have q5 := hb5.size; (try simp only [World.size_alloc] at q5); have z5_p : p < w5.heap.size := (by omega); have z5_q : q < w5.heap.size := (by omega)) | (go_at_call 30; refine (Blame_any v A n c _ HN.out ((HR0.out.below (by (repeat' first | exact zbR _ _ | assumption | refine zbD ?_ | refine zbA ?_ ?_ _ | refine zbS ?_ ?_ _ | refine zbT ?_ (by assumption) ?_ | (simp; done) | (simp; omega) | omega))).mono (by first | (simp; done) | (simp; omega) | omega))).mono ?_; rintro e w6 ⟨svB, cB, rfl, hoB, hb6⟩; have y1 : p < w5.heap.size + 1 := (by omega); have y2 : p < w5.heap.size + 1 + 1 := (by omega); have y3 : q < w5.heap.size + 1 := (by omega); have y4 : q < w5.heap.size + 1 + 1 := (by omega); have y5 : w5.heap.size < w5.heap.size + 1 + 1 := (by omega); obtain ⟨hc6, hf6⟩ := bcell hb6; (try simp only [World.size_alloc] at hc6 hf6); have q6 := hb6.size; (try simp only [World.size_alloc] at q6); have z6_p : p < w6.heap.size := (by omega); have z6_q : q < w6.heap.size := (by omega); have z6_w5 : w5.heap.size < w6.heap.size := (by omega); have z6_w5_1 : w5.heap.size + 1 < w6.heap.size := (by omega); rw [HBE.out, HLB.out]; have HIB := hide (owns_RdI hoB rfl); clear hoB) | (go_at_call 18; refine (isTruth_any v A n c m _ HV.out HN.out ((HR0.out.below (by (repeat' first | exact zbR _ _ | assumption | refine zbD ?_ | refine zbA ?_ ?_ _ | refine zbS ?_ ?_ _ | refine zbT ?_ (by assumption) ?_ | (simp; done) | (simp; omega) | omega))).mono (by first | (simp; done) | (simp; omega) | omega))).mono ?_; rintro e w7 ⟨rfl, hb7⟩; rw [HT.out]; obtain ⟨hc7, hf7⟩ := bcell hb7; have q7 := hb7.size; (try simp only [World.size_alloc] at q7); have z7_p : p < w7.heap.size := (by omega); have z7_q : q < w7.heap.size := (by omega); have z7_w5 : w5.heap.size < w7.heap.size := (by omega); have z7_w5_1 : w5.heap.size + 1 < w7.heap.size := (by omega)) | (go_at_call 31; refine (Wrong_any v A n c m _ HN.out ((HR0.out.below (by (repeat' first | exact zbR _ _ | assumption | refine zbD ?_ | refine zbA ?_ ?_ _ | refine zbS ?_ ?_ _ | refine zbT ?_ (by assumption) ?_ | (simp; done) | (simp; omega) | omega))).mono (by first | (simp; done) | (simp; omega) | omega))).mono ?_; rintro e w8 ⟨svW, cW, rfl, hoW, hb8⟩; obtain ⟨hc8, hf8⟩ := bcell hb8; have q8 := hb8.size; (try simp only [World.size_alloc] at q8); have z8_p : p < w8.heap.size := (by omega); have z8_q : q < w8.heap.size := (by omega); have z8_w5 : w5.heap.size < w8.heap.size := (by omega); have z8_w5_1 : w5.heap.size + 1 < w8.heap.size := (by omega); rw [HWE.out, HLW.out]; have HIW := hide (owns_RdI hoW rfl); clear hoW) | (go_at_call 16; refine (works_any _).mono ?_; rintro e w19 ⟨rfl, hb19⟩))
  have hB5 : Below W0.heap.size W0 w5 := ((hb2.trans (hb3.mono q2)).trans (hb4.mono (by omega))).trans (hb5.mono (by omega))
  have hB6 : Below W0.heap.size W0 w6 := (hB5.trans ((((Below.refl _ w5).alloc (Nat.le_refl _) _).alloc (by simp) _).mono hB5.size)).trans (hb6.mono (by have := hB5.size; simp; omega))
  have hB68 : Below w6.heap.size w6 w8 := hb7.trans (hb8.mono q7)
  have hB8 : Below w.heap.size w w8 := GB.out.trans ((hB6.trans (hB68.mono hB6.size)).mono GB.out.size)
  have HIB' := hide ((HIB.out.below hB68).mono (B' := w8.heap.size) (by omega))
  have HB8 := hide hB8
  clear hb2 hb3 hb4 hb5 hb6 hb7 hb8 hc2 hf2 hc3 hf3 hc4 hf4 hc5 hf5 hc6 hf6 hc7 hf7 hc8 hf8 q2 q3 q4 q5 q6 q7 q8 hB8 HIB
  go_loopw [15] (fun i wr => ∃ k : Nat, k ≤ lb ∧ i = .int .i64 k ∧ Below w8.heap.size w8 wr) (fun i _ => lb - (intOf i).toNat)
  case atStart => exact ⟨0, by omega, rfl, Below.refl _ _⟩
  case round =>
    obtain ⟨k, hk, rfl, hB⟩ := hrel
    have qB := hB.size
    by_cases hlt : k < lb
    · obtain ⟨z, hz⟩ : ∃ z, (L.blmL v)[k]? = some z := ⟨_, List.getElem?_eq_getElem (by have := HLB.out; omega)⟩
      have HZ := hide (HSub.out z (List.mem_of_getElem? hz))
      obtain ⟨b1, o1, hA1, hbB1, d1⟩ := (HIB'.out.below hB) k z hz
      subst hA1
      clear hz
      have hlt' : (k : Int) < (lb : Int) := by omega
      have hk0 : (0 : Int) ≤ (k : Int) := by omega
      have hk1 : (k : Int) ≤ 8 := by omega
      go_wp2_with fail
      go_loopw [16, 17] (fun fo t wr2 => ∃ j : Nat, j ≤ lw ∧ t = .int .i64 j ∧ fo = .bool (decide (z ∈ (L.wrgL v m).take j)) ∧ Below wr.heap.size wr wr2) (fun _ t _ => lw - (intOf t).toNat)
      case atStart => exact ⟨0, by omega, rfl, by simp, Below.refl _ _⟩
      case round =>
        obtain ⟨j, hj, rfl, rfl, hB2⟩ := hrel
        have qB2 := hB2.size
        by_cases hlt2 : j < lw
        · obtain ⟨y, hy⟩ : ∃ y, (L.wrgL v m)[j]? = some y := ⟨_, List.getElem?_eq_getElem (by have := HLW.out; omega)⟩
          obtain ⟨b2, o2, hA2, hbB2, d2⟩ := (HIW.out.below (hB.trans (hB2.mono qB))) j y hy
          subst hA2
          have d1' := (hB2.cell (p := ⟨b1, o1 + k, none⟩) (by show b1 < _; omega)).trans d1
          have HTK := hide (show (L.wrgL v m).take (j + 1) = (L.wrgL v m).take j ++ [y] by rw [List.take_add_one, hy]; rfl)
          clear hy
          have hlt2' : (j : Int) < (lw : Int) := by omega
          have hj0 : (0 : Int) ≤ (j : Int) := by omega
          cases hd : decide (z ∈ (L.wrgL v m).take j)
          · cases he : (y == z)
            all_goals
              go_wp2_with fail
              go_quiet (fail)
              go_wp2_with fail
              go_roundw
              case rel => exact ⟨j + 1, by omega, by go_num, by (have h1 : decide (z ∈ (L.wrgL v m).take (j + 1)) = (y == z) := by (rw [HTK.out]; exact dec_app_f hd)); rw [h1, he], below_drewN hB2 _⟩
              case measure => simp [intOf]; omega
          · go_wp2_with fail
            go_quiet (fail)
            go_wp2_with fail
            go_roundw
            case rel => exact ⟨j + 1, by omega, by go_num, by (have h1 : decide (z ∈ (L.wrgL v m).take (j + 1)) = true := by (rw [HTK.out]; exact dec_app_t hd)); rw [h1], below_drewN hB2 _⟩
            case measure => simp [intOf]; omega
        · have hjn : j = lw := by omega
          subst hjn
          have hd : decide (z ∈ (L.wrgL v m).take j) = true := by
            rw [List.take_of_length_le (by have := HLW.out; omega)]
            exact decide_eq_true HZ.out
          go_wp2_with fail
          go_roundw
          case rel => exact ⟨k + 1, by omega, by go_num, hB.trans (hB2.mono qB)⟩
          case measure => simp [intOf]; omega
    · have hkn : k = lb := by omega
      subst hkn
      go_wp2_with (go_at_call 16; refine (works_any _).mono ?_; rintro e w19 ⟨rfl, hb19⟩)
      go_ret
      exact ⟨rfl, (HB8.out.trans (hB.mono HB8.out.size)).trans (hb19.mono (by have := HB8.out.size; omega))⟩

theorem blamedLaw_any (v : L.Vw) (A : Option Addr) (n c : Nat) (m : L.Mk) (w : World) (hn : v.ss.length = n) (hr : RdS w w.heap.size A v.ss) :
    Calls Try.prog 7 #[.agg #[.int .i64 v.size, .slice A n c, .int .i64 v.wrong, .int .i64 v.hxl, .int .i64 v.hxh, .int .i64 v.hyl, .int .i64 v.hyh], .agg #[.int .i64 m.x, .int .i64 m.y, .int .i64 m.hx, .int .i64 m.hy]] w fun e w' => e = .returned (.bool true) ∧ Below w.heap.size w w' := by
  cases hf : L.farB v
  · cases h : L.viewB v
    · exact blamedLaw_bad v A n c m w hn hr hf h
    · rcases L.blm_cases h m with hb | hb
      · exact blamedLaw_no v A n c m w hn hr hf h hb
      · cases ht : L.truthB v m
        · exact blamedLaw_un v A n c m w hn hr hf h hb ht
        · exact blamedLaw_yes v A n c m w hn hr hf h hb ht
  · exact blamedLaw_far v A n c m w hn hr hf

end Go.Proofs.Ytgnobonhohfofaa

namespace Go.Proofs.Ytgnobonhohfofaa
open Go.ChangeShapes Go.WideShapes Go.ChangeAt Go.RowKit Go.Deep Go.Joins

theorem Try.ownLinesBlamed : ownKnob Try.prog.godebug = none := by kernel_rfl

set_option maxRecDepth 100000 in
theorem linesBlamed_call (H : Type) (enc : TypeId × Value → H) (W : World) (base : Nat) (args : Array Value) (ds : List (DataW H)) (p : List MemPlace) (hval : ∀ (j : Nat) t v, Try.f7.params[j]? = some t → args[j]? = some v → Value.okWide Try.prog W .any base t v)
    (hA : DataW.TrodAll enc Try.prog W 0 (fun _ => true) true Try.f7.params.toList args.toList ds p) : Calls Try.prog 7 args W fun e W' => e = .returned (.bool true) ∧ Below W.heap.size W W' := by
  rw [Try.params7] at hA hval
  obtain ⟨v0, v1, d0, d1, p0, p1, rfl, rfl, rfl, h0, h1⟩ := trodAll_two hA
  obtain ⟨x0, A0, n0, c0, rfl, hle0, hmx0, hn0, hr0, hno0, hwf0⟩ := open_view (hval 0 26 v0 rfl rfl) h0
  obtain ⟨x1, rfl, hwf1⟩ := open_mark (hval 1 30 v1 rfl rfl) h1
  exact blamedLaw_any x0 A0 n0 c0 x1 W hn0 hr0

set_option maxRecDepth 100000 in
theorem LinesBlamed_holds : Rows.LinesBlamedSaid :=
  OpenClaim.holds_of_wide (p := Try.pinned) (s := Rows.linesBlamedSpec) (c := Rows.linesBlamedRow) 7 Try.f7 rfl rfl rfl rfl rfl rfl rfl ⟨rfl, rfl, rfl, rfl, rfl⟩ rfl rfl rfl rfl rfl (by kernel_rfl) Try.func7 (by kernel_rfl)
    (of_decide_eq_true (by kernel_rfl)) (by unfold Func.isWrapper; first | (rw [if_pos (by decide +kernel)]; kernel_rfl) | (rw [if_neg (by decide +kernel)]; exact ⟨rfl, rfl⟩))
    (fun os started H enc _ => law_lift (C := Try.checked) (F := 7) (fn := Try.f7) (s := Rows.linesBlamedSpec) (bt := 4) started Try.ownLinesBlamed (by kernel_rfl) Try.func7 (by kernel_rfl) Try.underlying4 rfl laidOut (of_decide_eq_true (by kernel_rfl))
      (fun ds hds => match ds, hds with | [_, _], _ => rfl)
      (ChangeSpec.witness6 (enc := enc) (C := Try.checked) false ⟨#[], #[.agg #[.int .i64 0, .slice none 0 0, .int .i64 0, .int .i64 0, .int .i64 0, .int .i64 0, .int .i64 0], .agg #[.int .i64 0, .int .i64 0, .int .i64 0, .int .i64 0]], []⟩ 8 (by kernel_rfl) (by kernel_rfl) (by kernel_rfl) (by kernel_rfl))
      (fun W base args ds p hval hA _ => linesBlamed_call H enc W base args ds p hval hA) _ _ _)

end Go.Proofs.Ytgnobonhohfofaa
