/-
  For every view the law LinesCentres returns true and leaves its arguments as they were. No condition.
-/
import Derived.Laws.OwnMore
import Derived.RangeFuncBox
import Derived.Test.YtgnobonhohfofaaZB01
import Derived.Test.YtgnobonhohfofaaZB02
import Derived.Test.YtgnobonhohfofaaZB03
namespace Go.Proofs.Ytgnobonhohfofaa
open Go.RowKit
attribute [local go_sem ↓] Go.wp_at_zero Go.wp_at_succ

set_option maxRecDepth 100000 in
set_option maxHeartbeats 3200000 in
theorem wrongAbout_any (v : L.Vw) (A : Option Addr) (n c : Nat) (x y : Int) (w : World) (hn : v.ss.length = n) (hr : RdS w w.heap.size A v.ss) (ho : ∀ s ∈ v.ss, L.StOk s) (h8 : n ≤ 8) (hx0 : 0 ≤ x) (hx1 : x ≤ 40) (hy0 : 0 ≤ y) (hy1 : y ≤ 40) :
    Calls Try.prog 60 #[.agg #[.int .i64 v.size, .slice A n c, .int .i64 v.wrong, .int .i64 v.hxl, .int .i64 v.hxh, .int .i64 v.hyl, .int .i64 v.hyh], .int .i64 x, .int .i64 y] w fun e w' => ∃ sv c', e = .returned (.slice sv (L.wrongL v x y).length c') ∧ w'.ownsRow w.heap.size 3 1 (.slice sv (L.wrongL v x y).length c') (L.wrongL v x y).length (flatI (L.wrongL v x y)) ∧ Below w.heap.size w w' := by
  have HN := hide hn
  have HR := hide hr
  have HO := hide ho
  clear hn hr ho
  go_enter Try.func60, Try.ntmps60
  go_wp2_with (go_at_call 70; refine (wrongOn_any _ _ _ _).mono ?_; rintro e w' ⟨rfl, rfl⟩)
  obtain ⟨W0, hW0⟩ : ∃ W0, (((w.alloc (.cells #[.int .i64 v.size, .slice A n c, .int .i64 v.wrong, .int .i64 v.hxl, .int .i64 v.hxh, .int .i64 v.hyl, .int .i64 v.hyh] 26)).alloc (.cells #[.int .i64 x] 3)).alloc (.cells #[.int .i64 y] 3)).alloc (.cells #[.int .i64 0] 3) = W0 := ⟨_, rfl⟩
  have g0 : W0.cell? ⟨w.heap.size, 1, none⟩ = some (.slice A n c) := by rw [← hW0]; exact (zcP _ _ _ (by first | (simp; done) | (simp; omega))).trans ((zcP _ _ _ (by first | (simp; done) | (simp; omega))).trans ((zcP _ _ _ (by first | (simp; done) | (simp; omega))).trans ((zcA _ _ _ _ rfl).trans rfl)))
  have g1 : W0.cell? ⟨w.heap.size + 1, 0, none⟩ = some (.int .i64 x) := by rw [← hW0]; exact (zcP _ _ _ (by first | (simp; done) | (simp; omega))).trans ((zcP _ _ _ (by first | (simp; done) | (simp; omega))).trans ((zcA _ _ _ _ (by simp)).trans rfl))
  have g2 : W0.cell? ⟨w.heap.size + 1 + 1, 0, none⟩ = some (.int .i64 y) := by rw [← hW0]; exact (zcP _ _ _ (by first | (simp; done) | (simp; omega))).trans ((zcA _ _ _ _ (by simp)).trans rfl)
  have g3 : W0.cell? ⟨w.heap.size + 1 + 1 + 1, 0, none⟩ = some (.int .i64 0) := by rw [← hW0]; exact (zcA _ _ _ _ (by simp)).trans rfl
  have gs : W0.heap.size = w.heap.size + 1 + 1 + 1 + 1 := by rw [← hW0]; simp
  have gB : Below w.heap.size w W0 := by rw [← hW0]; (repeat' first | exact zbR _ _ | assumption | refine zbD ?_ | refine zbA ?_ ?_ _ | refine zbS ?_ ?_ _ | refine zbT ?_ (by assumption) ?_ | (simp; done) | (simp; omega) | omega)
  (try simp only [World.size_alloc])
  rw [hW0]
  clear hW0
  go_loopw [8, 17] (fun m i wr => ∃ j : Nat, j ≤ n ∧ i = .int .i64 j ∧ (∃ sv c', m = .slice sv (L.wrongFrom x y 0 (v.ss.take j)).length c' ∧ Hid (wr.ownsRow W0.heap.size 3 1 (.slice sv (L.wrongFrom x y 0 (v.ss.take j)).length c') (L.wrongFrom x y 0 (v.ss.take j)).length (flatI (L.wrongFrom x y 0 (v.ss.take j))))) ∧ Below W0.heap.size W0 wr) (fun _ i _ => n - (intOf i).toNat)
  case atStart => exact ⟨0, by omega, rfl, ⟨none, 0, rfl, hide (World.ownsRow_nil _ _ _ _)⟩, Below.refl _ _⟩
  case round =>
    obtain ⟨j, hj, rfl, ⟨sv, c', rfl, hown⟩, hB⟩ := hrel
    have hBs := hB.size
    have hB0 : Below w.heap.size w wr := gB.trans (hB.mono (by omega))
    have k1 : wr.cell? ⟨w.heap.size, 1, none⟩ = some (.slice A n c) := (hB.cell (p := ⟨w.heap.size, 1, none⟩) (by show w.heap.size < _; omega)).trans g0
    have hm : (L.wrongFrom x y 0 (v.ss.take j)).length ≤ 8 := by
      rw [L.wrongFrom_length]; have := L.many_take_le v.ss j x y 0; omega
    by_cases hlt : j < n
    · obtain ⟨s, hs⟩ : ∃ s, v.ss[j]? = some s := ⟨_, List.getElem?_eq_getElem (by have := HN.out; omega)⟩
      obtain ⟨b, o, hA, hbB, d0, d1, d2, d3⟩ := (HR.out.below hB0) j s hs
      subst hA
      have hso := HO.out s (List.mem_of_getElem? hs)
      have HM := hide (L.wrongFrom_take x y hs)
      clear hs
      have hlt' : (j : Int) < (n : Int) := by omega
      have hj0 : (0 : Int) ≤ (j : Int) := by omega
      have e0 : wr.cell? ⟨w.heap.size + 1, 0, none⟩ = some (.int .i64 x) := (hB.cell (p := ⟨w.heap.size + 1, 0, none⟩) (by show w.heap.size + 1 < _; omega)).trans g1
      have e1 : wr.cell? ⟨w.heap.size + 1 + 1, 0, none⟩ = some (.int .i64 y) := (hB.cell (p := ⟨w.heap.size + 1 + 1, 0, none⟩) (by show w.heap.size + 1 + 1 < _; omega)).trans g2
      have e2 : wr.cell? ⟨w.heap.size + 1 + 1 + 1, 0, none⟩ = some (.int .i64 0) := (hB.cell (p := ⟨w.heap.size + 1 + 1 + 1, 0, none⟩) (by show w.heap.size + 1 + 1 + 1 < _; omega)).trans g3
      have lw0 : w.heap.size + 1 < wr.heap.size := by omega
      have lw1 : w.heap.size + 1 + 1 < wr.heap.size := by omega
      have lw2 : w.heap.size + 1 + 1 + 1 < wr.heap.size := by omega
      have LS := hide hBs
      have GS := hide gs
      clear hBs gs
      cases hv : L.off x y 0 s
      · have HE : Hid (L.wrongFrom x y 0 (v.ss.take (j + 1)) = L.wrongFrom x y 0 (v.ss.take j)) := hide (by rw [HM.out, hv]; simp)
        go_wp2_with (go_at_call 74; refine (off_any s x y 0 _ _ _ _ hso hx0 hx1 hy0 hy1 (by omega) (by omega) (Nat.lt_of_lt_of_le lw0 (by simp)) (Nat.lt_of_lt_of_le lw1 (by simp)) (Nat.lt_of_lt_of_le lw2 (by simp)) ((zcP _ _ _ lw0).trans e0) ((zcP _ _ _ lw1).trans e1) ((zcP _ _ _ lw2).trans e2)).mono ?_; rintro e w3 ⟨rfl, hb3⟩; rw [hv]; have hb4 := (hB.trans (((Below.refl _ wr).alloc (Nat.le_refl _) _).mono LS.out)).trans (hb3.mono (by have := LS.out; simp; omega)))
        go_roundw
        case rel => exact ⟨j + 1, by omega, by go_num, ⟨sv, c', by rw [HE.out], hide (by rw [HE.out]; exact owns_below hown.out (((Below.refl _ wr).alloc (Nat.le_refl _) _).trans (hb3.mono (by simp))))⟩, hb4⟩
        case measure => simp [intOf]; omega
      · have HE : Hid (L.wrongFrom x y 0 (v.ss.take (j + 1)) = L.wrongFrom x y 0 (v.ss.take j) ++ [(j : Int)]) := hide (by rw [HM.out, hv]; rfl)
        have HL := hide (show (L.wrongFrom x y 0 (v.ss.take (j + 1))).length = (L.wrongFrom x y 0 (v.ss.take j)).length + 1 by rw [HE.out, List.length_append]; rfl)
        go_wp2_with (first | (go_at_call 74; refine (off_any s x y 0 _ _ _ _ hso hx0 hx1 hy0 hy1 (by omega) (by omega) (Nat.lt_of_lt_of_le lw0 (by simp)) (Nat.lt_of_lt_of_le lw1 (by simp)) (Nat.lt_of_lt_of_le lw2 (by simp)) ((zcP _ _ _ lw0).trans e0) ((zcP _ _ _ lw1).trans e1) ((zcP _ _ _ lw2).trans e2)).mono ?_; rintro e w3 ⟨rfl, hb3⟩; rw [hv]; have hb4 := (hB.trans (((Below.refl _ wr).alloc (Nat.le_refl _) _).mono LS.out)).trans (hb3.mono (by have := LS.out; simp; omega)); have HO3 := hide (owns_below hown.out (((Below.refl _ wr).alloc (Nat.le_refl _) _).trans (hb3.mono (by simp))))) | (refine wpList_app_at rfl (.tmp 25) (.tmp 27) rfl W0.heap.size _ (L.wrongFrom x y 0 (v.ss.take j)) _ rfl (HO3.out.alloc _) (some ⟨w3.heap.size, 0, none⟩) 1 1 [(j : Int)] rfl rfl (rdI_one (World.alloc_heap_new _ _)) (fun e => by cases e) (by omega) (by omega) (by have := hb4.size; simp; omega) ?_; intro A2 c2 w5 hown2 hgrow; have hg5 := grown_below (B := W0.heap.size) hgrow (by have := hb4.size; simp; omega) (fun g hg => (HO3.out.lt g hg).1); have HO2 := hide hown2; clear hown2 hgrow))
        go_roundw
        case rel => exact ⟨j + 1, by omega, by go_num, ⟨A2, c2, by rw [HL.out], hide (by rw [HL.out, HE.out]; exact HO2.out)⟩, (hb4.trans ((Below.refl _ w3).alloc hb4.size _)).trans hg5⟩
        case measure => simp [intOf]; omega
    · have hjn : j = n := by omega
      subst hjn
      have HE : Hid (L.wrongFrom x y 0 (v.ss.take j) = L.wrongL v x y) := hide (by rw [List.take_of_length_le (by have := HN.out; omega)]; rfl)
      go_wp2_with fail
      go_ret
      refine ⟨sv, c', ?_, ?_, hB0⟩
      · rw [← HE.out]; rfl
      · rw [← HE.out]; exact owns_mono hown.out (by omega)

end Go.Proofs.Ytgnobonhohfofaa

namespace Go.Proofs.Ytgnobonhohfofaa
open Go.RowKit
attribute [local go_sem ↓] Go.wp_at_zero Go.wp_at_succ

def L.wrgE (v : L.Vw) (m : L.Mk) : Int := if L.viewB v then (if L.isMarkB v m then 0 else 22) else 20
def L.wrgL (v : L.Vw) (m : L.Mk) : List Int := if L.viewB v then (if L.isMarkB v m then L.wrongL v m.x m.y else []) else []
def WrgPost (v : L.Vw) (m : L.Mk) (w : World) (e : Ending) (w' : World) : Prop :=
  ∃ sv c', e = .returned (.tuple #[.slice sv (L.wrgL v m).length c', .int .i64 (L.wrgE v m)]) ∧ w'.ownsRow w.heap.size 3 1 (.slice sv (L.wrgL v m).length c') (L.wrgL v m).length (flatI (L.wrgL v m)) ∧ Below w.heap.size w w'
theorem wrg_none {v : L.Vw} {m : L.Mk} {w w' : World} {k : Int} (h1 : L.wrgL v m = []) (h2 : L.wrgE v m = k) (hb : Below w.heap.size w w') : WrgPost v m w (.returned (.tuple #[.slice none 0 0, .int .i64 k])) w' := by
  unfold WrgPost
  rw [h1, h2]
  exact ⟨none, 0, rfl, World.ownsRow_nil _ _ _ _, hb⟩
theorem wrg_some {v : L.Vw} {m : L.Mk} {w w' : World} {sv : Option Addr} {c : Nat} {l : List Int} {n : Nat} (hn : l.length = n) (h1 : L.wrgL v m = l) (h2 : L.wrgE v m = 0) (ho : w'.ownsRow w.heap.size 3 1 (.slice sv n c) n (flatI l)) (hb : Below w.heap.size w w') : WrgPost v m w (.returned (.tuple #[.slice sv n c, .int .i64 0])) w' := by
  subst hn
  unfold WrgPost
  rw [h1, h2]
  exact ⟨sv, c, rfl, ho, hb⟩
theorem L.check_t {v : L.Vw} (h : L.viewB v = true) : L.checkE v = 0 := by unfold L.checkE; rw [h]; rfl
theorem L.check_f {v : L.Vw} (h : L.viewB v = false) : L.checkE v = 20 := by unfold L.checkE; rw [h]; rfl

set_option maxRecDepth 100000 in
set_option maxHeartbeats 1600000 in
theorem Wrong_any (v : L.Vw) (A : Option Addr) (n c : Nat) (m : L.Mk) (w : World) (hn : v.ss.length = n) (hr : RdS w w.heap.size A v.ss) :
    Calls Try.prog 31 #[.agg #[.int .i64 v.size, .slice A n c, .int .i64 v.wrong, .int .i64 v.hxl, .int .i64 v.hxh, .int .i64 v.hyl, .int .i64 v.hyh], .agg #[.int .i64 m.x, .int .i64 m.y, .int .i64 m.hx, .int .i64 m.hy]] w fun e w' => WrgPost v m w e w' := by
  have HN := hide hn
  have HR := hide hr
  clear hn hr
  cases hv : L.viewB v
  · have E1 := hide (show L.wrgL v m = [] by unfold L.wrgL; rw [hv]; rfl)
    have E2 := hide (show L.wrgE v m = 20 by unfold L.wrgE; rw [hv]; rfl)
    have HC := hide (L.check_f hv)
    clear hv
    go_enter Try.func31, Try.ntmps31
    go_wp2_with (go_at_call 35; refine (Check_any v A n c _ HN.out ((HR.out.below (by (repeat' first | exact zbR _ _ | assumption | refine zbD ?_ | refine zbA ?_ ?_ _ | refine zbS ?_ ?_ _ | refine zbT ?_ (by assumption) ?_ | (simp; done) | (simp; omega) | omega))).mono (by first | (simp; done) | (simp; omega) | omega))).mono ?_; rintro e w2 ⟨rfl, hb2⟩; rw [HC.out]; obtain ⟨hc2, hf2⟩ := bcell hb2; have q2 := hb2.size; (try simp only [World.size_alloc] at q2); have z2_0 : w.heap.size < w2.heap.size := (by omega); have z2_1 : w.heap.size + 1 < w2.heap.size := (by omega))
    go_ret2
    exact wrg_none E1.out E2.out (by (repeat' first | exact zbR _ _ | assumption | refine zbD ?_ | refine zbA ?_ ?_ _ | refine zbS ?_ ?_ _ | refine zbT ?_ (by assumption) ?_ | (simp; done) | (simp; omega) | omega))
  cases hm : L.isMarkB v m
  · have E1 := hide (show L.wrgL v m = [] by unfold L.wrgL; rw [hv, hm]; rfl)
    have E2 := hide (show L.wrgE v m = 22 by unfold L.wrgE; rw [hv, hm]; rfl)
    have HC := hide (L.check_t hv)
    have HM := hide (show L.markB m v.size v.hxl v.hxh v.hyl v.hyh = false from hm)
    clear hv hm
    go_enter Try.func31, Try.ntmps31
    go_wp2_with (first | (go_at_call 35; refine (Check_any v A n c _ HN.out ((HR.out.below (by (repeat' first | exact zbR _ _ | assumption | refine zbD ?_ | refine zbA ?_ ?_ _ | refine zbS ?_ ?_ _ | refine zbT ?_ (by assumption) ?_ | (simp; done) | (simp; omega) | omega))).mono (by first | (simp; done) | (simp; omega) | omega))).mono ?_; rintro e w2 ⟨rfl, hb2⟩; rw [HC.out]; obtain ⟨hc2, hf2⟩ := bcell hb2; have q2 := hb2.size; (try simp only [World.size_alloc] at q2); have z2_0 : w.heap.size < w2.heap.size := (by omega); have z2_1 : w.heap.size + 1 < w2.heap.size := (by omega)) | (go_at_call 52; refine (markWithin_any m _ _ _ _ _ _).mono ?_; rintro e w3 ⟨rfl, hb3⟩; rw [HM.out]; obtain ⟨hc3, hf3⟩ := bcell hb3; have q3 := hb3.size; (try simp only [World.size_alloc] at q3); have z3_0 : w.heap.size < w3.heap.size := (by omega); have z3_1 : w.heap.size + 1 < w3.heap.size := (by omega)))
    go_ret2
    exact wrg_none E1.out E2.out (by (repeat' first | exact zbR _ _ | assumption | refine zbD ?_ | refine zbA ?_ ?_ _ | refine zbS ?_ ?_ _ | refine zbT ?_ (by assumption) ?_ | (simp; done) | (simp; omega) | omega))
  · have E1 := hide (show L.wrgL v m = L.wrongL v m.x m.y by unfold L.wrgL; rw [hv, hm]; rfl)
    have E2 := hide (show L.wrgE v m = 0 by unfold L.wrgE; rw [hv, hm]; rfl)
    have HC := hide (L.check_t hv)
    have HM := hide (show L.markB m v.size v.hxl v.hxh v.hyl v.hyh = true from hm)
    have HV := hide (L.viewB_ok hv)
    have HB := hide (L.isMark_bd HV.out hm).1
    clear hv hm
    go_enter Try.func31, Try.ntmps31
    go_wp2_with (first | (go_at_call 35; refine (Check_any v A n c _ HN.out ((HR.out.below (by (repeat' first | exact zbR _ _ | assumption | refine zbD ?_ | refine zbA ?_ ?_ _ | refine zbS ?_ ?_ _ | refine zbT ?_ (by assumption) ?_ | (simp; done) | (simp; omega) | omega))).mono (by first | (simp; done) | (simp; omega) | omega))).mono ?_; rintro e w2 ⟨rfl, hb2⟩; rw [HC.out]; obtain ⟨hc2, hf2⟩ := bcell hb2; have q2 := hb2.size; (try simp only [World.size_alloc] at q2); have z2_0 : w.heap.size < w2.heap.size := (by omega); have z2_1 : w.heap.size + 1 < w2.heap.size := (by omega)) | (go_at_call 52; refine (markWithin_any m _ _ _ _ _ _).mono ?_; rintro e w3 ⟨rfl, hb3⟩; rw [HM.out]; obtain ⟨hc3, hf3⟩ := bcell hb3; have q3 := hb3.size; (try simp only [World.size_alloc] at q3); have z3_0 : w.heap.size < w3.heap.size := (by omega); have z3_1 : w.heap.size + 1 < w3.heap.size := (by omega)) | (go_at_call 60; refine (wrongAbout_any v A n c m.x m.y _ HN.out ((HR.out.below (by (repeat' first | exact zbR _ _ | assumption | refine zbD ?_ | refine zbA ?_ ?_ _ | refine zbS ?_ ?_ _ | refine zbT ?_ (by assumption) ?_ | (simp; done) | (simp; omega) | omega))).mono (by first | (simp; done) | (simp; omega) | omega)) HV.out.ok (by have := HV.out.n8; have := HN.out; omega) HB.out.x0 HB.out.x1 HB.out.y0 HB.out.y1).mono ?_; rintro e w4 ⟨sv, c4, rfl, hown, hb4⟩; have HO := hide hown; clear hown))
    go_ret2
    exact wrg_some rfl E1.out E2.out (owns_mono HO.out (by first | (simp; done) | (simp; omega) | omega)) (by (repeat' first | exact zbR _ _ | assumption | refine zbD ?_ | refine zbA ?_ ?_ _ | refine zbS ?_ ?_ _ | refine zbT ?_ (by assumption) ?_ | (simp; done) | (simp; omega) | omega))

set_option maxRecDepth 100000 in
set_option maxHeartbeats 1600000 in
theorem refWrongs_any (v : L.Vw) (A : Option Addr) (n c : Nat) (m : L.Mk) (w : World) (hn : v.ss.length = n) (hr : RdS w w.heap.size A v.ss) :
    Calls Try.prog 37 #[.agg #[.int .i64 v.size, .slice A n c, .int .i64 v.wrong, .int .i64 v.hxl, .int .i64 v.hxh, .int .i64 v.hyl, .int .i64 v.hyh], .agg #[.int .i64 m.x, .int .i64 m.y, .int .i64 m.hx, .int .i64 m.hy]] w fun e w' => WrgPost v m w e w' := by
  have HN := hide hn
  have HR := hide hr
  clear hn hr
  cases hv : L.viewB v
  · have E1 := hide (show L.wrgL v m = [] by unfold L.wrgL; rw [hv]; rfl)
    have E2 := hide (show L.wrgE v m = 20 by unfold L.wrgE; rw [hv]; rfl)
    have HC := hide (L.check_f hv)
    clear hv
    go_enter Try.func37, Try.ntmps37
    go_wp2_with (go_at_call 23; refine (RefCheck_any v A n c _ HN.out ((HR.out.below (by (repeat' first | exact zbR _ _ | assumption | refine zbD ?_ | refine zbA ?_ ?_ _ | refine zbS ?_ ?_ _ | refine zbT ?_ (by assumption) ?_ | (simp; done) | (simp; omega) | omega))).mono (by first | (simp; done) | (simp; omega) | omega))).mono ?_; rintro e w2 ⟨rfl, hb2⟩; rw [HC.out]; obtain ⟨hc2, hf2⟩ := bcell hb2; have q2 := hb2.size; (try simp only [World.size_alloc] at q2); have z2_0 : w.heap.size < w2.heap.size := (by omega); have z2_1 : w.heap.size + 1 < w2.heap.size := (by omega))
    go_ret2
    exact wrg_none E1.out E2.out (by (repeat' first | exact zbR _ _ | assumption | refine zbD ?_ | refine zbA ?_ ?_ _ | refine zbS ?_ ?_ _ | refine zbT ?_ (by assumption) ?_ | (simp; done) | (simp; omega) | omega))
  cases hm : L.isMarkB v m
  · have E1 := hide (show L.wrgL v m = [] by unfold L.wrgL; rw [hv, hm]; rfl)
    have E2 := hide (show L.wrgE v m = 22 by unfold L.wrgE; rw [hv, hm]; rfl)
    have HC := hide (L.check_t hv)
    have HM := hide (show L.markB m v.size v.hxl v.hxh v.hyl v.hyh = false from hm)
    clear hv hm
    go_enter Try.func37, Try.ntmps37
    go_wp2_with (first | (go_at_call 23; refine (RefCheck_any v A n c _ HN.out ((HR.out.below (by (repeat' first | exact zbR _ _ | assumption | refine zbD ?_ | refine zbA ?_ ?_ _ | refine zbS ?_ ?_ _ | refine zbT ?_ (by assumption) ?_ | (simp; done) | (simp; omega) | omega))).mono (by first | (simp; done) | (simp; omega) | omega))).mono ?_; rintro e w2 ⟨rfl, hb2⟩; rw [HC.out]; obtain ⟨hc2, hf2⟩ := bcell hb2; have q2 := hb2.size; (try simp only [World.size_alloc] at q2); have z2_0 : w.heap.size < w2.heap.size := (by omega); have z2_1 : w.heap.size + 1 < w2.heap.size := (by omega)) | (go_at_call 49; refine (isMark_any v A n c m _).mono ?_; rintro e w3 ⟨rfl, hb3⟩; rw [HM.out]; obtain ⟨hc3, hf3⟩ := bcell hb3; have q3 := hb3.size; (try simp only [World.size_alloc] at q3); have z3_0 : w.heap.size < w3.heap.size := (by omega); have z3_1 : w.heap.size + 1 < w3.heap.size := (by omega)))
    go_ret2
    exact wrg_none E1.out E2.out (by (repeat' first | exact zbR _ _ | assumption | refine zbD ?_ | refine zbA ?_ ?_ _ | refine zbS ?_ ?_ _ | refine zbT ?_ (by assumption) ?_ | (simp; done) | (simp; omega) | omega))
  · have E1 := hide (show L.wrgL v m = L.wrongL v m.x m.y by unfold L.wrgL; rw [hv, hm]; rfl)
    have E2 := hide (show L.wrgE v m = 0 by unfold L.wrgE; rw [hv, hm]; rfl)
    have HC := hide (L.check_t hv)
    have HM := hide (show L.markB m v.size v.hxl v.hxh v.hyl v.hyh = true from hm)
    have HV := hide (L.viewB_ok hv)
    have HB := hide (L.isMark_bd HV.out hm).1
    clear hv hm
    go_enter Try.func37, Try.ntmps37
    go_wp2_with (first | (go_at_call 23; refine (RefCheck_any v A n c _ HN.out ((HR.out.below (by (repeat' first | exact zbR _ _ | assumption | refine zbD ?_ | refine zbA ?_ ?_ _ | refine zbS ?_ ?_ _ | refine zbT ?_ (by assumption) ?_ | (simp; done) | (simp; omega) | omega))).mono (by first | (simp; done) | (simp; omega) | omega))).mono ?_; rintro e w2 ⟨rfl, hb2⟩; rw [HC.out]; obtain ⟨hc2, hf2⟩ := bcell hb2; have q2 := hb2.size; (try simp only [World.size_alloc] at q2); have z2_0 : w.heap.size < w2.heap.size := (by omega); have z2_1 : w.heap.size + 1 < w2.heap.size := (by omega)) | (go_at_call 49; refine (isMark_any v A n c m _).mono ?_; rintro e w3 ⟨rfl, hb3⟩; rw [HM.out]; obtain ⟨hc3, hf3⟩ := bcell hb3; have q3 := hb3.size; (try simp only [World.size_alloc] at q3); have z3_0 : w.heap.size < w3.heap.size := (by omega); have z3_1 : w.heap.size + 1 < w3.heap.size := (by omega)) | (go_at_call 50; refine (refWrong_any v A n c m.x m.y _ HN.out ((HR.out.below (by (repeat' first | exact zbR _ _ | assumption | refine zbD ?_ | refine zbA ?_ ?_ _ | refine zbS ?_ ?_ _ | refine zbT ?_ (by assumption) ?_ | (simp; done) | (simp; omega) | omega))).mono (by first | (simp; done) | (simp; omega) | omega)) HV.out.ok (by have := HV.out.n8; have := HN.out; omega) HB.out.x0 HB.out.x1 HB.out.y0 HB.out.y1).mono ?_; rintro e w4 ⟨sv, c4, rfl, hown, hb4⟩; have HO := hide hown; clear hown))
    go_ret2
    exact wrg_some rfl E1.out E2.out (owns_mono HO.out (by first | (simp; done) | (simp; omega) | omega)) (by (repeat' first | exact zbR _ _ | assumption | refine zbD ?_ | refine zbA ?_ ?_ _ | refine zbS ?_ ?_ _ | refine zbT ?_ (by assumption) ?_ | (simp; done) | (simp; omega) | omega))

end Go.Proofs.Ytgnobonhohfofaa

namespace Go.Proofs.Ytgnobonhohfofaa
open Go.RowKit
attribute [local go_sem ↓] Go.wp_at_zero Go.wp_at_succ
attribute [local go_sem] Oper.semAt_some

namespace L
def fewF (v : Vw) (l : List (Int × Int)) : Int := l.foldl (fun n c => min n ((wrongL v c.1 c.2).length : Int)) (v.ss.length : Int)
theorem fewF_snoc (v : Vw) (l : List (Int × Int)) (c : Int × Int) : fewF v (l ++ [c]) = min (fewF v l) ((wrongL v c.1 c.2).length : Int) := by unfold fewF; rw [List.foldl_append]; rfl
theorem fewF_bd (v : Vw) (l : List (Int × Int)) : 0 ≤ fewF v l ∧ fewF v l ≤ v.ss.length := by
  unfold fewF
  suffices h : ∀ (l : List (Int × Int)) (n : Int), 0 ≤ n → 0 ≤ l.foldl (fun n c => min n ((wrongL v c.1 c.2).length : Int)) n ∧ l.foldl (fun n c => min n ((wrongL v c.1 c.2).length : Int)) n ≤ n from h l _ (by omega)
  intro l
  induction l with
  | nil => intro n h; exact ⟨h, Int.le_refl _⟩
  | cons c r ih =>
    intro n h
    obtain ⟨h1, h2⟩ := ih (min n ((wrongL v c.1 c.2).length : Int)) (by omega)
    simp only [List.foldl_cons]
    exact ⟨h1, by omega⟩
def fewE (v : Vw) : Int := checkE v
def fewV (v : Vw) : Int := if checkE v = 0 then fewest v else 0
end L

set_option maxRecDepth 100000 in
set_option maxHeartbeats 3200000 in
theorem Fewest_yes (v : L.Vw) (A : Option Addr) (n c : Nat) (w : World) (hn : v.ss.length = n) (hr : RdS w w.heap.size A v.ss) (h : L.checkE v = 0) :
    Calls Try.prog 29 #[.agg #[.int .i64 v.size, .slice A n c, .int .i64 v.wrong, .int .i64 v.hxl, .int .i64 v.hxh, .int .i64 v.hyl, .int .i64 v.hyh]] w fun e w' => e = .returned (.tuple #[.int .i64 (L.fewV v), .int .i64 (L.fewE v)]) ∧ Below w.heap.size w w' := by
  have HN := hide hn
  have HR := hide hr
  have H := hide h
  have HV := hide (L.checkE_ok h)
  obtain ⟨N, hN⟩ : ∃ N : Nat, v.size = (N : Int) := ⟨v.size.toNat, (Int.toNat_of_nonneg (L.checkE_ok h).s0).symm⟩
  have hN40 : N ≤ 40 := by have := HV.out.s1; omega
  have HNt := hide (show v.size.toNat = N by omega)
  have E1 := hide (show L.fewV v = L.fewF v (L.cents N) by unfold L.fewV L.fewest; rw [if_pos h, HNt.out]; rfl)
  have E2 := hide (show L.fewE v = 0 from h)
  have hn8 : (n : Int) ≤ 8 := by have := HV.out.n8; omega
  have HSz := hide hN
  clear hn hr h hN
  refine calls_marks Try.func29 rfl ?_
  simp only [Try.ntmps29, List.size_toArray, List.length_cons, List.length_nil, Nat.reduceAdd, Nat.reduceSub, Array.replicate_succ, Array.replicate_zero, List.push_toArray, List.append_toArray, List.nil_append, List.cons_append]
  go_upto_region 1 with fail
  obtain ⟨W0, hW0⟩ : ∃ W0, w.alloc (.cells #[.int .i64 v.size, .slice A n c, .int .i64 v.wrong, .int .i64 v.hxl, .int .i64 v.hxh, .int .i64 v.hyl, .int .i64 v.hyh] 26) = W0 := ⟨_, rfl⟩
  have gp : W0.heap[w.heap.size]? = some (.cells #[.int .i64 v.size, .slice A n c, .int .i64 v.wrong, .int .i64 v.hxl, .int .i64 v.hxh, .int .i64 v.hyl, .int .i64 v.hyh] 26 (0, 0)) := by
    rw [← hW0]; exact World.alloc_heap_new _ _
  have gs : W0.heap.size = w.heap.size + 1 := by rw [← hW0]; simp
  have gB : Below w.heap.size w W0 := by rw [← hW0]; (repeat' first | exact zbR _ _ | assumption | refine zbD ?_ | refine zbA ?_ ?_ _ | refine zbS ?_ ?_ _ | refine zbT ?_ (by assumption) ?_ | (simp; done) | (simp; omega) | omega)
  rw [hW0]
  clear hW0
  obtain ⟨p, hp⟩ : ∃ p, w.heap.size = p := ⟨_, rfl⟩
  rw [hp]
  rw [hp] at gp
  have lp : p < W0.heap.size := by omega
  have HR0 := hide ((HR.out.below gB).mono gB.size)
  have GB := hide gB
  have GP := hide gp
  have cp0 := (blk_cell gp 0).trans rfl; have cp1 := (blk_cell gp 1).trans rfl; have cp2 := (blk_cell gp 2).trans rfl; have cp3 := (blk_cell gp 3).trans rfl; have cp4 := (blk_cell gp 4).trans rfl; have cp5 := (blk_cell gp 5).trans rfl; have cp6 := (blk_cell gp 6).trans rfl
  clear gp gB HR
  go_wp2_with (first | (go_at_call 35; refine (Check_any v A n c _ HN.out HR0.out).mono ?_; rintro e w2 ⟨rfl, hb2⟩; rw [H.out]; obtain ⟨hc2, hf2⟩ := bcell hb2; have q2 := hb2.size; have lp2 : p < w2.heap.size := (by omega)) | (go_at_call 59; refine (centres_any _ _).mono ?_; rintro e V ⟨rfl, rfl⟩))
  obtain ⟨V, hV⟩ : ∃ V, (w2.alloc (.cells #[.int .i64 (n : Int)] 3)).alloc (.cells #[.int .i64 v.size] 3) = V := ⟨_, rfl⟩
  have vf : V.heap[w2.heap.size]? = some (.cells #[.int .i64 (n : Int)] 3 (0, 0)) := by
    rw [← hV]; exact (Below.heap_alloc _ _ _ (by first | (simp; done) | (simp; omega) | omega)).trans (World.alloc_heap_new _ _)
  have vb : V.cell? ⟨w2.heap.size + 1, 0, none⟩ = some (.int .i64 (N : Int)) := by
    rw [← hV, ← HSz.out]; exact (zcA _ _ _ _ (by simp)).trans rfl
  have vs : V.heap.size = w2.heap.size + 1 + 1 := by rw [← hV]; simp
  have vB : Below w2.heap.size w2 V := by rw [← hV]; (repeat' first | exact zbR _ _ | assumption | refine zbD ?_ | refine zbA ?_ ?_ _ | refine zbS ?_ ?_ _ | refine zbT ?_ (by assumption) ?_ | (simp; done) | (simp; omega) | omega)
  rw [hV]
  clear hV
  obtain ⟨f, hf⟩ : ∃ f, w2.heap.size = f := ⟨_, rfl⟩
  rw [hf] at vf vb vs lp2 q2 vB
  rw [hf]
  have vp := (vB.block p (by omega)).trans ((hb2.block p lp).trans GP.out)
  have hBV : Below W0.heap.size W0 V := hb2.trans (vB.mono q2)
  have VP := hide vp
  have vf' : V.heap[f]? = some (.cells #[.int .i64 (L.fewF v [])] 3 (0, 0)) := by rw [vf]; unfold L.fewF; rw [List.foldl_nil, HN.out]
  have HBV := hide hBV
  clear cp0 cp1 cp2 cp3 cp4 cp5 cp6 hc2 hf2 hb2 vB vp vf hBV GP
  refine wp_rangeP (gf := 72) (lb := #[.pointer (some ⟨f + 1, 0, none⟩)]) rfl (enters_of Try.func72 (by kernel_rfl) rfl)
    (centres_seq N (f + 1) (fun x => x < V.heap.size ∧ x ≠ f) V hN40 (by omega) ⟨by omega, by omega⟩ vb) (Below.refl _ _) (fun x hx => hx.1) (fun _ => rfl)
    (fun pre X => Keeps (fun x => x ≠ f) V X ∧ X.heap[f]? = some (.cells #[.int .i64 (L.fewF v pre)] 3 (0, 0)))
    (fun _ _ _ => False)
    (OwnFrom.and (keeps_own (Nat.le_refl _)) (own_block (by omega) _))
    (fun _ _ _ _ _ hs _ _ => hs)
    ⟨Keeps.refl _ _, vf'⟩ ?a1 ?assign ?body ?done ?stop
  case assign =>
    intro l2 x X K hK
    simp only [encP]
    gi_wp2
    exact hK
  case body =>
    rintro l2 pre x X ⟨hK, hF⟩ hpre
    obtain ⟨hx0, hx1, hy0, hy1⟩ := L.mem_cents (hpre.subset (List.mem_append_right _ (List.mem_singleton.2 rfl)))
    have z3 := hK.rest.size
    have lpX : p < X.heap.size := by omega
    have lfX : f < X.heap.size := by omega
    obtain ⟨x1, x2⟩ := x
    dsimp only at hx0 hx1 hy0 hy1
    have hx1' : x1 ≤ 40 := by omega
    have hy1' : x2 ≤ 40 := by omega
    have bp := (hK.same p (show p ≠ f by omega) (by omega)).trans VP.out
    have cp0 := (blk_cell bp 0).trans rfl; have cp1 := (blk_cell bp 1).trans rfl; have cp2 := (blk_cell bp 2).trans rfl; have cp3 := (blk_cell bp 3).trans rfl; have cp4 := (blk_cell bp 4).trans rfl; have cp5 := (blk_cell bp 5).trans rfl; have cp6 := (blk_cell bp 6).trans rfl
    have HRX := hide (((HR0.out.below HBV.out).below (hK.below (n := W0.heap.size) (fun y hy => by show y ≠ f; omega) (by omega))).mono (B' := X.heap.size) (by omega))
    obtain ⟨mb0, mb1⟩ := L.fewF_bd v pre
    have EM := hide (L.fewF_snoc v pre (x1, x2))
    obtain ⟨mm, hmm⟩ : ∃ mm, L.fewF v pre = mm := ⟨_, rfl⟩
    rw [hmm] at hF EM mb0 mb1
    have mb2 : mm ≤ 8 := by have := HN.out; omega
    have cf0 := (blk_cell hF 0).trans rfl
    have ff0 := blk_frozen hF 0
    have HF := hide hF
    have HK := hide hK
    have hl8 : (L.wrongL v x1 x2).length ≤ 8 := by rw [L.wrongL_length]; have := L.many_le v.ss x1 x2 0; have := HN.out; omega
    obtain ⟨ln, hln⟩ : ∃ ln, (L.wrongL v x1 x2).length = ln := ⟨_, rfl⟩
    have HLN := hide hln
    rw [hln] at hl8
    clear bp hF hK hpre hmm hln
    gi_wp2
    gi_region_with ((refine ⟨trivial, ?_⟩; gi_at_call 60; refine (CallsIn.inRound l2 (callsIn_wide.2 (wrongAbout_any v A n c x1 x2 _ HN.out ((HRX.out.below (by (repeat' first | exact zbR _ _ | assumption | refine zbD ?_ | refine zbA ?_ ?_ _ | refine zbS ?_ ?_ _ | refine zbT ?_ (by assumption) ?_ | (simp; done) | (simp; omega) | omega))).mono (by first | (simp; done) | (simp; omega) | omega)) HV.out.ok (by omega) hx0 hx1' hy0 hy1'))).mono ?_; rintro e w3 ⟨sv, c3, rfl, hown, hb3⟩; clear hown; rw [HLN.out]; have cf3 := (hb3.cell (p := ⟨f, 0, none⟩) lfX).trans cf0; have ff3 := (hb3.frozen (p := ⟨f, 0, none⟩) lfX).trans ff0; have lf3 : f < w3.heap.size := (by have := hb3.size; (try simp at this); omega)))
    all_goals
      have hXw : Below X.heap.size X w3 := by (repeat' first | exact zbR _ _ | assumption | refine zbD ?_ | refine zbA ?_ ?_ _ | refine zbS ?_ ?_ _ | refine zbT ?_ (by assumption) ?_ | (simp; done) | (simp; omega) | omega)
      have q3 := (hXw.block f lfX).trans HF.out
      gi_wp2
      all_goals
        refine ⟨?_, ?_, ?_⟩
        · (repeat (first | (with_reducible exact Keeps.of_below hXw) | ((with_reducible refine Keeps.st ?_ ?_); rotate_left 1; (intro h; dsimp only at h; omega))))
        · (repeat (first | (with_reducible exact HK.out.trans (Keeps.of_below hXw)) | ((with_reducible refine Keeps.st ?_ ?_); rotate_left 1; (intro h; dsimp only at h; omega))))
        · rw [EM.out, HLN.out]
          exact cells1 (blk_set q3 0 _) rfl (by omega)
  case done =>
    rintro D X hD ⟨hK, hF⟩ hdef
    have z3 := hK.rest.size
    have hbX : Below p V X := hK.below (n := p) (fun y hy => by show y ≠ f; omega) (by omega)
    have cf0 := (blk_cell hF 0).trans rfl
    clear hF
    go_wp2
    refine ⟨by simp, .inl ⟨_, _, rfl, run_takeDeferred hdef, ?_⟩⟩
    rw [E1.out, E2.out]
    refine ⟨_, results_tmp2 rfl _ _ _, rfl, ?_⟩
    have h1 := GB.out
    have h2 := HBV.out
    rw [hp] at h1 ⊢
    have h3 := (h1.trans (h2.mono (by omega))).trans hbX
    exact below_turn' h3 (by omega) (by omega)
  case stop =>
    rintro D cd pre X _ _ h _
    exact h.elim

theorem Fewest_any (v : L.Vw) (A : Option Addr) (n c : Nat) (w : World) (hn : v.ss.length = n) (hr : RdS w w.heap.size A v.ss) :
    Calls Try.prog 29 #[.agg #[.int .i64 v.size, .slice A n c, .int .i64 v.wrong, .int .i64 v.hxl, .int .i64 v.hxh, .int .i64 v.hyl, .int .i64 v.hyh]] w fun e w' => e = .returned (.tuple #[.int .i64 (L.fewV v), .int .i64 (L.fewE v)]) ∧ Below w.heap.size w w' := by
  rcases L.checkE_cases v with h | h
  · exact Fewest_yes v A n c w hn hr h
  · have HN := hide hn
    have HR := hide hr
    have H := hide h
    have E1 := hide (show L.fewV v = 0 by unfold L.fewV; rw [if_neg (by omega)])
    have E2 := hide (show L.fewE v = 20 from h)
    clear hn hr h
    refine calls_marks Try.func29 rfl ?_
    simp only [Try.ntmps29, List.size_toArray, List.length_cons, List.length_nil, Nat.reduceAdd, Nat.reduceSub, Array.replicate_succ, Array.replicate_zero, List.push_toArray, List.append_toArray, List.nil_append, List.cons_append]
    go_wp2_with (go_at_call 35; refine (Check_any v A n c _ HN.out ((HR.out.below (by (repeat' first | exact zbR _ _ | assumption | refine zbD ?_ | refine zbA ?_ ?_ _ | refine zbS ?_ ?_ _ | refine zbT ?_ (by assumption) ?_ | (simp; done) | (simp; omega) | omega))).mono (by first | (simp; done) | (simp; omega) | omega))).mono ?_; rintro e w2 ⟨rfl, hb2⟩; rw [H.out])
    rw [E1.out, E2.out]
    exact ⟨_, results_tmp2 rfl _ _ _, rfl, by (repeat' first | exact zbR _ _ | assumption | refine zbD ?_ | refine zbA ?_ ?_ _ | refine zbS ?_ ?_ _ | refine zbT ?_ (by assumption) ?_ | (simp; done) | (simp; omega) | omega)⟩

end Go.Proofs.Ytgnobonhohfofaa

namespace Go.Proofs.Ytgnobonhohfofaa
open Go.RowKit
attribute [local go_sem ↓] Go.wp_at_zero Go.wp_at_succ
attribute [local go_sem] Oper.semAt_some

theorem flatI_set (xs : List Int) (i : Nat) (x : Int) : (flatI xs).set i (.int .i64 x) = flatI (xs.set i x) := by unfold flatI; rw [List.map_set]
theorem own_rowI {β : Type} {B base g n : Nat} (hg : g < B) (xs : β → List Value) : OwnFrom B (fun s W => W.ownsRow base 3 1 (.slice (some ⟨g, 0, none⟩) n n) n (xs s)) := fun _ _ _ row h hgr hr =>
  h.kept hgr (.inr (fun e => by have := (hr g e.symm).1; omega))
theorem run_make_ints (n : Nat) (hn : n ≤ 1000) (W : World) : (Instr.makeSlice 57 (.int .i64 (n : Int)) (.int .i64 (n : Int))).run Try.prog W = .ok (.slice (some ⟨W.heap.size, 0, none⟩) n n) (W.alloc (.cells (madeCells #[.int .i64 0] n) 3)) := by
  obtain ⟨i, hi, hz0, hz1, hz2⟩ := info_parts int_info
  have hr := run_make (P := Try.prog) W 57 3 i _ Try.underlying57 hi hz0 .i64 .i64 n n (by omega) (Int.le_refl _) (by rw [hz2]; omega) (by omega)
  rw [hr, hz1]
  simp [Value.cells]

namespace L
def cnt (v : Vw) (l : List (Int × Int)) (i : Nat) : Nat := (l.filter fun c => decide ((i : Int) ∈ wrongL v c.1 c.2)).length
theorem cnt_snoc (v : Vw) (l : List (Int × Int)) (c : Int × Int) (i : Nat) : cnt v (l ++ [c]) i = cnt v l i + (if (i : Int) ∈ wrongL v c.1 c.2 then 1 else 0) := by
  unfold cnt
  rw [List.filter_append, List.length_append]
  congr 1
  by_cases h : (i : Int) ∈ wrongL v c.1 c.2 <;> simp [List.filter_cons, h]
theorem cnt_le (v : Vw) (l : List (Int × Int)) (i : Nat) : cnt v l i ≤ l.length := List.length_filter_le _ _
def tms (v : Vw) (l : List (Int × Int)) (k : List Int) (n : Nat) : List Int := (List.range n).map fun i => (cnt v l i : Int) + (if (i : Int) ∈ k then 1 else 0)
theorem tms_length (v : Vw) (l : List (Int × Int)) (k : List Int) (n : Nat) : (tms v l k n).length = n := by unfold tms; simp
theorem tms_at {v : Vw} {l : List (Int × Int)} {k : List Int} {n i : Nat} (h : i < n) : (tms v l k n)[i]? = some ((cnt v l i : Int) + (if (i : Int) ∈ k then 1 else 0)) := by
  unfold tms; rw [List.getElem?_map, List.getElem?_range h]; rfl
theorem tms_nil (v : Vw) (n : Nat) : tms v [] [] n = List.replicate n 0 := by
  apply List.ext_getElem?
  intro i
  by_cases h : i < n
  · rw [tms_at h, List.getElem?_replicate, if_pos h]; simp [cnt]
  · rw [List.getElem?_eq_none (by rw [tms_length]; omega), List.getElem?_eq_none (by simp; omega)]
theorem tms_set {v : Vw} {l : List (Int × Int)} {k : List Int} {n i : Nat} (h : i < n) (hk : (i : Int) ∉ k) : (tms v l k n).set i ((cnt v l i : Int) + 1) = tms v l (k ++ [(i : Int)]) n := by
  apply List.ext_getElem?
  intro j
  rw [List.getElem?_set]
  by_cases hj : j < n
  · rw [tms_at hj, tms_at hj, tms_length]
    by_cases e : i = j
    · subst e; rw [if_pos rfl, if_pos hj, if_pos (by simp)]
    · rw [if_neg e]
      have e' : (j : Int) ≠ (i : Int) := by omega
      simp [e']
  · rw [if_neg (by omega), List.getElem?_eq_none (by rw [tms_length]; omega), List.getElem?_eq_none (by rw [tms_length]; omega)]
theorem tms_all (v : Vw) (l : List (Int × Int)) (c : Int × Int) (n : Nat) : tms v l (wrongL v c.1 c.2) n = tms v (l ++ [c]) [] n := by
  unfold tms
  refine List.map_congr_left fun i _ => ?_
  rw [cnt_snoc]
  by_cases h : (i : Int) ∈ wrongL v c.1 c.2 <;> simp [h]
theorem wrongFrom_mem {x y : Int} : ∀ {ss : List St} {i : Nat} {z : Int}, z ∈ wrongFrom x y i ss → ∃ j : Nat, z = (j : Int) ∧ i ≤ j ∧ j < i + ss.length
  | [], i, z, h => by simp [wrongFrom] at h
  | s :: r, i, z, h => by
    unfold wrongFrom at h
    split at h
    · rcases List.mem_cons.1 h with rfl | h
      · exact ⟨i, rfl, Nat.le_refl _, by simp⟩
      · obtain ⟨j, h1, h2, h3⟩ := wrongFrom_mem h
        exact ⟨j, h1, by omega, by simp; omega⟩
    · obtain ⟨j, h1, h2, h3⟩ := wrongFrom_mem h
      exact ⟨j, h1, by omega, by simp; omega⟩
theorem wrongFrom_nodup (x y : Int) : ∀ (ss : List St) (i : Nat), (wrongFrom x y i ss).Nodup
  | [], i => by simp [wrongFrom]
  | s :: r, i => by
    unfold wrongFrom
    split
    · rw [List.nodup_cons]
      refine ⟨fun h => ?_, wrongFrom_nodup x y r (i + 1)⟩
      obtain ⟨j, h1, h2, h3⟩ := wrongFrom_mem h
      omega
    · exact wrongFrom_nodup x y r (i + 1)
theorem nodup_take {l : List Int} (h : l.Nodup) {k : Nat} {z : Int} (hk : l[k]? = some z) : z ∉ l.take k := by
  intro hm
  obtain ⟨j, hj⟩ := List.getElem?_of_mem hm
  have hlt : j < k := by
    have := (List.getElem?_eq_some_iff.1 hj).1
    rw [List.length_take] at this
    omega
  rw [List.getElem?_take_of_lt hlt] at hj
  obtain ⟨h1, e1⟩ := List.getElem?_eq_some_iff.1 hj
  obtain ⟨h2, e2⟩ := List.getElem?_eq_some_iff.1 hk
  exact List.pairwise_iff_getElem.1 h j k h1 h2 hlt (by rw [e1, e2])
def blmFrom (v : Vw) (n : Nat) : List Int := ((List.range n).filter fun i => decide (cnt v (tcents v 0) i = (tcents v 0).length)).map fun i => ((i : Nat) : Int)
def blmE (v : Vw) : Int := if checkE v = 0 then (if tcents v 0 = [] then 3 else 0) else checkE v
def blmL (v : Vw) : List Int := if checkE v = 0 then (if tcents v 0 = [] then [] else blmFrom v v.ss.length) else []
theorem blmFrom_next (v : Vw) (k : Nat) : blmFrom v (k + 1) = blmFrom v k ++ (if cnt v (tcents v 0) k = (tcents v 0).length then [(k : Int)] else []) := by
  unfold blmFrom
  rw [List.range_succ, List.filter_append, List.map_append]
  congr 1
  by_cases h : cnt v (tcents v 0) k = (tcents v 0).length <;> simp [List.filter_cons, h]
theorem blmFrom_le (v : Vw) (k : Nat) : (blmFrom v k).length ≤ k := by
  unfold blmFrom
  rw [List.length_map]
  have := List.length_filter_le (fun i => decide (cnt v (tcents v 0) i = (tcents v 0).length)) (List.range k)
  rwa [List.length_range] at this
end L

def BlmPost (v : L.Vw) (w : World) (e : Ending) (w' : World) : Prop :=
  ∃ sv c', e = .returned (.tuple #[.slice sv (L.blmL v).length c', .int .i64 (L.blmE v)]) ∧ w'.ownsRow w.heap.size 3 1 (.slice sv (L.blmL v).length c') (L.blmL v).length (flatI (L.blmL v)) ∧ Below w.heap.size w w'

set_option maxRecDepth 100000 in
set_option maxHeartbeats 3200000 in
theorem Blame_yes (v : L.Vw) (A : Option Addr) (n c : Nat) (w : World) (hn : v.ss.length = n) (hr : RdS w w.heap.size A v.ss) (h : L.checkE v = 0) :
    Calls Try.prog 30 #[.agg #[.int .i64 v.size, .slice A n c, .int .i64 v.wrong, .int .i64 v.hxl, .int .i64 v.hxh, .int .i64 v.hyl, .int .i64 v.hyh]] w fun e w' => BlmPost v w e w' := by
  have HN := hide hn
  have HR := hide hr
  have H := hide h
  have HV := hide (L.checkE_ok h)
  have hn8 : (n : Int) ≤ 8 := by have := HV.out.n8; omega
  have hmk : ∀ W : World, (Instr.makeSlice 57 (.int .i64 (n : Int)) (.int .i64 (n : Int))).run Try.prog W = .ok (.slice (some ⟨W.heap.size, 0, none⟩) n n) (W.alloc (.cells (madeCells #[.int .i64 0] n) 3)) := fun W => run_make_ints n (by omega) W
  clear hn hr h
  refine calls_marks Try.func30 rfl ?_
  simp only [Try.ntmps30, List.size_toArray, List.length_cons, List.length_nil, Nat.reduceAdd, Nat.reduceSub, Array.replicate_succ, Array.replicate_zero, List.push_toArray, List.append_toArray, List.nil_append, List.cons_append]
  go_upto_region 1 with fail
  obtain ⟨W0, hW0⟩ : ∃ W0, w.alloc (.cells #[.int .i64 v.size, .slice A n c, .int .i64 v.wrong, .int .i64 v.hxl, .int .i64 v.hxh, .int .i64 v.hyl, .int .i64 v.hyh] 26) = W0 := ⟨_, rfl⟩
  have gp : W0.heap[w.heap.size]? = some (.cells #[.int .i64 v.size, .slice A n c, .int .i64 v.wrong, .int .i64 v.hxl, .int .i64 v.hxh, .int .i64 v.hyl, .int .i64 v.hyh] 26 (0, 0)) := by
    rw [← hW0]; exact World.alloc_heap_new _ _
  have gs : W0.heap.size = w.heap.size + 1 := by rw [← hW0]; simp
  have gB : Below w.heap.size w W0 := by rw [← hW0]; (repeat' first | exact zbR _ _ | assumption | refine zbD ?_ | refine zbA ?_ ?_ _ | refine zbS ?_ ?_ _ | refine zbT ?_ (by assumption) ?_ | (simp; done) | (simp; omega) | omega)
  rw [hW0]
  clear hW0
  obtain ⟨p, hp⟩ : ∃ p, w.heap.size = p := ⟨_, rfl⟩
  rw [hp]
  rw [hp] at gp
  have lp : p < W0.heap.size := by omega
  have HR0 := hide ((HR.out.below gB).mono gB.size)
  have GB := hide gB
  have GP := hide gp
  have cp0 := (blk_cell gp 0).trans rfl; have cp1 := (blk_cell gp 1).trans rfl; have cp2 := (blk_cell gp 2).trans rfl; have cp3 := (blk_cell gp 3).trans rfl; have cp4 := (blk_cell gp 4).trans rfl; have cp5 := (blk_cell gp 5).trans rfl; have cp6 := (blk_cell gp 6).trans rfl
  clear gp gB HR
  go_upto_region 6 with (go_at_call 35; refine (Check_any v A n c _ HN.out HR0.out).mono ?_; rintro e w2 ⟨rfl, hb2⟩; rw [H.out]; obtain ⟨hc2, hf2⟩ := bcell hb2; have q2 := hb2.size; have lp2 : p < w2.heap.size := (by omega))
  obtain ⟨W4, hW4⟩ : ∃ W4, ((w2.alloc (.cells #[.int .i64 0] 3)).alloc (.cells (madeCells #[.int .i64 0] n) 3)).alloc (.cells #[.slice (some ⟨w2.heap.size + 1, 0, none⟩) n n] 57) = W4 := ⟨_, rfl⟩
  have v0 : W4.heap[w2.heap.size]? = some (.cells #[.int .i64 0] 3 (0, 0)) := by
    rw [← hW4]; exact (Below.heap_alloc _ _ _ (by first | (simp; done) | (simp; omega) | omega)).trans ((Below.heap_alloc _ _ _ (by first | (simp; done) | (simp; omega) | omega)).trans (World.alloc_heap_new _ _))
  have v1 : W4.ownsRow (w2.heap.size + 1) 3 1 (.slice (some ⟨w2.heap.size + 1, 0, none⟩) n n) n (flatI (L.tms v [] [] n)) := by
    rw [← hW4, L.tms_nil]
    have h1 := World.ownsRow_lit (base := w2.heap.size + 1) (e := 3) (size := 1) (w2.alloc (.cells #[.int .i64 0] 3)) (madeCells #[.int .i64 0] n) n (by simp) (by unfold maxLen; omega) (by rw [size_madeCells]; omega)
    rw [World.size_alloc, toList_madeCells_one] at h1
    have h2 : flatI (List.replicate n 0) = List.replicate n (.int .i64 0) := by unfold flatI; rw [List.map_replicate]
    rw [h2]
    exact h1.alloc _
  have v2 : W4.cell? ⟨w2.heap.size + 1 + 1, 0, none⟩ = some (.slice (some ⟨w2.heap.size + 1, 0, none⟩) n n) := by
    rw [← hW4]; exact (zcA _ _ _ _ (by simp)).trans rfl
  have vs : W4.heap.size = w2.heap.size + 1 + 1 + 1 := by rw [← hW4]; simp
  have vB : Below w2.heap.size w2 W4 := by rw [← hW4]; (repeat' first | exact zbR _ _ | assumption | refine zbD ?_ | refine zbA ?_ ?_ _ | refine zbS ?_ ?_ _ | refine zbT ?_ (by assumption) ?_ | (simp; done) | (simp; omega) | omega)
  rw [hW4]
  clear hW4 hmk
  obtain ⟨f, hf⟩ : ∃ f, w2.heap.size = f := ⟨_, rfl⟩
  rw [hf] at v0 v1 v2 vs lp2 q2 vB
  rw [hf]
  have vp := (vB.block p (by omega)).trans ((hb2.block p lp).trans GP.out)
  have hBV : Below W0.heap.size W0 W4 := hb2.trans (vB.mono q2)
  have lp4 : p < W4.heap.size := by omega
  have V0 := hide v0
  have V1 := hide v1
  have V2 := hide v2
  have VP := hide vp
  have HB4 := hide hBV
  clear cp0 cp1 cp2 cp3 cp4 cp5 cp6 hc2 hf2 hb2 vB hBV v0 v1 v2
  have cp0 := (blk_cell vp 0).trans rfl; have cp1 := (blk_cell vp 1).trans rfl; have cp2 := (blk_cell vp 2).trans rfl; have cp3 := (blk_cell vp 3).trans rfl; have cp4 := (blk_cell vp 4).trans rfl; have cp5 := (blk_cell vp 5).trans rfl; have cp6 := (blk_cell vp 6).trans rfl
  have VS := hide vs
  clear vp vs
  go_wp2_with (go_at_call 58; refine (trueCentres_any v A n c 0 _).mono ?_; rintro e V ⟨rfl, hVb, hVs, hV0, hV1, hV2, hV3, hV4⟩)
  have vs := VS.out
  have hVW := hVb.size
  have vf : V.heap[f]? = some (.cells #[.int .i64 (([] : List (Int × Int)).length : Int)] 3 (0, 0)) := (hVb.block f (by omega)).trans V0.out
  have vr : V.ownsRow (f + 1) 3 1 (.slice (some ⟨f + 1, 0, none⟩) n n) n (flatI (L.tms v [] [] n)) := owns_below V1.out hVb
  have vc : V.cell? ⟨f + 1 + 1, 0, none⟩ = some (.slice (some ⟨f + 1, 0, none⟩) n n) := (hVb.cell (p := ⟨f + 1 + 1, 0, none⟩) (by show f + 1 + 1 < _; omega)).trans V2.out
  have vp := (hVb.block p lp4).trans VP.out
  have hBV : Below W0.heap.size W0 V := HB4.out.trans (hVb.mono (by omega))
  have HBV := hide hBV
  have HLen := hide (L.tcents_length HV.out 0)
  have VP' := hide vp
  have VC := hide vc
  clear cp0 cp1 cp2 cp3 cp4 cp5 cp6 vp vc hBV
  refine wp_rangeP (gf := 71) (lb := #[.pointer (some ⟨W4.heap.size, 0, none⟩), .pointer (some ⟨W4.heap.size + 1 + 1, 0, none⟩)]) rfl (enters_of Try.func71 (by kernel_rfl) rfl)
    (trueCentres_seq v A n c 0 W4.heap.size (W4.heap.size + 1) (W4.heap.size + 1 + 1) W0.heap.size (fun x => x < V.heap.size ∧ x ≠ f ∧ x ≠ f + 1) V HV.out HN.out HBV.out.size (HR0.out.below HBV.out) (fun x hx => ⟨by omega, by omega, by omega⟩) (fun x hx => hx.1) (by omega) (by omega) ⟨by omega, by omega, by omega⟩ ⟨by omega, by omega, by omega⟩ ⟨by omega, by omega, by omega⟩ hV0 hV1 hV2 hV3 hV4) (Below.refl _ _) (fun x hx => hx.1) (fun _ => rfl)
    (fun pre X => Keeps (fun x => x ≠ f ∧ x ≠ f + 1) V X ∧ X.heap[f]? = some (.cells #[.int .i64 (pre.length : Int)] 3 (0, 0)) ∧ X.ownsRow (f + 1) 3 1 (.slice (some ⟨f + 1, 0, none⟩) n n) n (flatI (L.tms v pre [] n)))
    (fun _ _ _ => False)
    (OwnFrom.and (keeps_own (Nat.le_refl _)) (OwnFrom.and (own_block (by omega) _) (own_rowI (by omega) _)))
    (fun _ _ _ _ _ hs _ _ => hs)
    ⟨Keeps.refl _ _, vf, vr⟩ ?a1 ?assign ?body ?done ?stop
  case assign =>
    intro l2 x X K hK
    simp only [encP]
    gi_wp2
    exact hK
  case body =>
    rintro l2 pre x X ⟨hK, hF, hT⟩ hpre
    have hmem := hpre.subset (List.mem_append_right _ (List.mem_singleton.2 rfl))
    obtain ⟨hx0, hx1, hy0, hy1⟩ := L.mem_cents (List.mem_filter.1 hmem).1
    have zs := HV.out.s1
    have z3 := hK.rest.size
    have hlen : pre.length < 1681 := by have := hpre.length_le; rw [List.length_append, List.length_singleton] at this; have := HLen.out; omega
    have lpX : p < X.heap.size := by omega
    have lfX : f < X.heap.size := by omega
    have lcX : f + 1 + 1 < X.heap.size := by omega
    obtain ⟨x1, x2⟩ := x
    dsimp only at hx0 hx1 hy0 hy1
    have hx1' : x1 ≤ 40 := by omega
    have hy1' : x2 ≤ 40 := by omega
    have bp := (hK.same p (show p ≠ f ∧ p ≠ f + 1 by omega) (by omega)).trans VP'.out
    have cp0 := (blk_cell bp 0).trans rfl; have cp1 := (blk_cell bp 1).trans rfl; have cp2 := (blk_cell bp 2).trans rfl; have cp3 := (blk_cell bp 3).trans rfl; have cp4 := (blk_cell bp 4).trans rfl; have cp5 := (blk_cell bp 5).trans rfl; have cp6 := (blk_cell bp 6).trans rfl
    have cc : X.cell? ⟨f + 1 + 1, 0, none⟩ = some (.slice (some ⟨f + 1, 0, none⟩) n n) := (hK.cell (show f + 1 + 1 ≠ f ∧ f + 1 + 1 ≠ f + 1 by omega) (by omega)).trans VC.out
    have HRX := hide ((HR0.out.below HBV.out).below (hK.below (n := W0.heap.size) (fun y hy => by show y ≠ f ∧ y ≠ f + 1; omega) (by omega)))
    obtain ⟨mm, hmm⟩ : ∃ mm : Int, (pre.length : Int) = mm := ⟨_, rfl⟩
    rw [hmm] at hF
    have mb0 : 0 ≤ mm := by omega
    have mb1 : mm ≤ 1681 := by omega
    have HPL := hide (show pre.length ≤ 1681 by omega)
    have EM := hide (show ((pre ++ [(x1, x2)]).length : Int) = mm + 1 by rw [List.length_append, ← hmm]; simp)
    have cf0 := (blk_cell hF 0).trans rfl
    have ff0 := blk_frozen hF 0
    have HF := hide hF
    have HK := hide hK
    have HT := hide hT
    obtain ⟨l, hl⟩ : ∃ l, L.wrongL v x1 x2 = l := ⟨_, rfl⟩
    have hl8 : l.length ≤ 8 := by rw [← hl, L.wrongL_length]; have := L.many_le v.ss x1 x2 0; have := HN.out; omega
    have HL := hide hl
    have HMem := hide (show ∀ z ∈ l, ∃ j : Nat, z = (j : Int) ∧ j < n from fun z hz => by
      rw [← hl] at hz
      obtain ⟨j, h1, _, h2⟩ := L.wrongFrom_mem hz
      exact ⟨j, h1, by have := HN.out; omega⟩)
    have HNd := hide (show l.Nodup by rw [← hl]; exact L.wrongFrom_nodup x1 x2 v.ss 0)
    clear bp hF hK hT hpre hmem hl hmm hlen hx1 hy1
    gi_wp2_with (refine ⟨trivial, ?_⟩; gi_at_call 60; refine (CallsIn.inRound l2 (callsIn_wide.2 (wrongAbout_any v A n c x1 x2 _ HN.out ((HRX.out.below (zbS (zbR _ _) (show W0.heap.size ≤ f by omega) _)).mono (by simp; omega)) HV.out.ok (by omega) hx0 hx1' hy0 hy1'))).mono ?_; rintro e w3 ⟨sv, c3, rfl, hown, hb3⟩; rw [HL.out] at hown ⊢; have HO3 := hide hown; clear hown)
    have hsz : (X.setCell ⟨f, 0, none⟩ (.int .i64 (mm + 1))).heap.size = X.heap.size := by simp
    have q3 := hb3.size
    rw [hsz] at q3
    have hF3 : w3.heap[f]? = some (.cells #[.int .i64 (mm + 1)] 3 (0, 0)) := (hb3.block f (by rw [hsz]; omega)).trans (blk_set HF.out 0 _)
    have hT3 : w3.ownsRow (f + 1) 3 1 (.slice (some ⟨f + 1, 0, none⟩) n n) n (flatI (L.tms v pre [] n)) := owns_below (ownsRow_setCell_below HT.out (show f < f + 1 by omega) _) hb3
    have cc3 : w3.cell? ⟨f + 1 + 1, 0, none⟩ = some (.slice (some ⟨f + 1, 0, none⟩) n n) := (hb3.cell (p := ⟨f + 1 + 1, 0, none⟩) (by rw [hsz]; exact lcX)).trans ((zsO _ _ _ _ (by simp)).trans cc)
    have lc3 : f + 1 + 1 < w3.heap.size := by omega
    have lf3 : f < w3.heap.size := by omega
    have hKw : ∀ S : Nat → Prop, ¬ S f → Keeps S X w3 := fun S hS => (Keeps.setAt X ⟨f, 0, none⟩ _ hS).trans (Keeps.of_below hb3)
    have HF3 := hide hF3
    have HT3 := hide hT3
    have CC3 := hide cc3
    have HKW := hide hKw
    have HO3' := hide (owns_mono HO3.out (show f + 1 + 1 ≤ _ by rw [hsz]; omega))
    clear cp0 cp1 cp2 cp3 cp4 cp5 cp6 cc cf0 ff0 hF3 hT3 cc3 hKw hb3 HO3 hsz
    gi_loopw [34] (fun t wr => ∃ j : Nat, j ≤ l.length ∧ t = .int .i64 j ∧ Hid (wr.ownsRow (f + 1) 3 1 (.slice (some ⟨f + 1, 0, none⟩) n n) n (flatI (L.tms v pre (l.take j) n))) ∧ Keeps (fun y => y ≠ f + 1) w3 wr) (fun t _ => l.length - (intOf t).toNat)
    case atStart => exact ⟨0, by omega, rfl, HT3, Keeps.refl _ _⟩
    case round =>
      obtain ⟨j, hj, rfl, hTj, hKj⟩ := hrel
      have ccj := (hKj.cell (show f + 1 + 1 ≠ f + 1 by omega) lc3).trans CC3.out
      have zj := hKj.rest.size
      have lcj : f + 1 + 1 < wr.heap.size := by omega
      by_cases hlt : j < l.length
      · obtain ⟨z, hz⟩ : ∃ z, l[j]? = some z := ⟨_, List.getElem?_eq_getElem hlt⟩
        obtain ⟨ci, rfl, hci⟩ := HMem.out z (List.mem_of_getElem? hz)
        obtain ⟨g, cap, e, hbg, hgl⟩ := HO3'.out.form (by omega)
        have e' : sv = some ⟨g, 0, none⟩ ∧ c3 = cap := by
          simp only [Value.slice.injEq] at e
          exact ⟨e.1, e.2.2⟩
        obtain ⟨rfl, rfl⟩ := e'
        have hnt := L.nodup_take HNd.out hz
        have lz := (hKj.cell (o := j) (show g ≠ f + 1 by omega) hgl).trans ((HO3'.out.cellAt j (by omega)).trans (flatI_at hz))
        have rz := (hTj.out.cellAt ci (by omega)).trans (flatI_at (L.tms_at hci))
        rw [if_neg hnt, Int.add_zero] at rz
        have fz := hTj.out.frozenAt ci
        have lrow := (hTj.out.lt (f + 1) rfl).2
        have hgj : g < wr.heap.size := by omega
        have cb0 : (0 : Int) ≤ (L.cnt v pre ci : Int) := by omega
        have cb1 : (L.cnt v pre ci : Int) ≤ 1681 := by have := L.cnt_le v pre ci; have := HPL.out; omega
        have hj0 : (0 : Int) ≤ (j : Int) := by omega
        have hlt' : (j : Int) < (l.length : Int) := by omega
        have hci0 : (0 : Int) ≤ (ci : Int) := by omega
        have hci1 : (ci : Int) < (n : Int) := by omega
        have HTK := hide (show l.take (j + 1) = l.take j ++ [(ci : Int)] by rw [List.take_add_one, hz]; rfl)
        have HNT := hide hnt
        have HCI := hide hci
        clear e hz hnt hci
        gi_wp2
        go_roundw
        case rel =>
          refine ⟨j + 1, by omega, by go_num, hide ?_, ?_⟩
          · rw [HTK.out, ← L.tms_set HCI.out HNT.out, ← flatI_set]
            exact (hTj.out.stored ci _).1
          · exact hKj.st (fun h => h rfl)
        case measure => simp [intOf]; omega
      · have hjn : j = l.length := by omega
        subst hjn
        gi_wp2
        refine ⟨?_, ?_, ?_, ?_⟩
        · exact (HKW.out _ (fun h => by rcases h with ⟨_, h, _⟩ | h <;> omega)).trans (hKj.less (fun k h => by rcases h with ⟨_, _, h⟩ | h <;> omega))
        · exact HK.out.trans ((HKW.out _ (fun h => h.1 rfl)).trans (hKj.less (fun k h => h.2)))
        · rw [EM.out]; exact (hKj.same f (show f ≠ f + 1 by omega) lf3).trans HF3.out
        · have := hTj.out
          rw [List.take_of_length_le (Nat.le_refl _), ← HL.out] at this
          rw [← L.tms_all v pre (x1, x2)]
          exact this
  case done =>
    rintro D X hD ⟨hK, hF, hT⟩ hdef
    have z3 := hK.rest.size
    have hbX : Below p V X := hK.below (n := p) (fun y hy => by show y ≠ f ∧ y ≠ f + 1; omega) (by omega)
    have hcX : X.cell? ⟨f + 1 + 1, 0, none⟩ = some (.slice (some ⟨f + 1, 0, none⟩) n n) := (hK.cell (show f + 1 + 1 ≠ f ∧ f + 1 + 1 ≠ f + 1 by omega) (by omega)).trans VC.out
    have cf0 := (blk_cell hF 0).trans rfl
    have lfX : f < X.heap.size := by omega
    have lcX : f + 1 + 1 < X.heap.size := by omega
    have h1 := GB.out
    have h2 := HBV.out
    have HBX := hide (show Below w.heap.size w X by
      rw [hp] at h1 ⊢
      exact (h1.trans (h2.mono (by omega))).trans hbX)
    have lD := (Array.getElem?_eq_some_iff.1 hdef).1
    have hD0 : w.heap.size ≤ D := by omega
    clear h1 h2 hK hbX vs hVs hVW hV0 hV1 hV2 hV3 hV4
    by_cases hT0 : L.tcents v 0 = []
    · have E1 := hide (show L.blmL v = [] by unfold L.blmL; rw [if_pos H.out, if_pos hT0])
      have E2 := hide (show L.blmE v = 3 by unfold L.blmE; rw [if_pos H.out, if_pos hT0])
      rw [hT0] at cf0
      simp only [List.length_nil] at cf0
      clear hF hT hT0
      go_wp2
      refine ⟨by simp, .inl ⟨_, _, rfl, run_takeDeferred hdef, ?_⟩⟩
      refine ⟨_, results_tmp2 rfl _ _ _, none, 0, ?_, ?_, below_turn' HBX.out hD0 HBX.out.size⟩
      · rw [E1.out, E2.out]; rfl
      · rw [E1.out]; exact World.ownsRow_nil _ _ _ _
    · have E1 := hide (show L.blmL v = L.blmFrom v n by unfold L.blmL; rw [if_pos H.out, if_neg hT0, HN.out])
      have E2 := hide (show L.blmE v = 0 by unfold L.blmE; rw [if_pos H.out, if_neg hT0])
      have hpos : 0 < (L.tcents v 0).length := List.length_pos_iff.2 hT0
      obtain ⟨mm, hmm⟩ : ∃ mm : Int, ((L.tcents v 0).length : Int) = mm := ⟨_, rfl⟩
      rw [hmm] at cf0
      have m1 : (mm == 0) = false := by simp; omega
      have HMM := hide hmm
      have HT := hide hT
      have mb1 : mm ≤ 1681 := by have := HLen.out; omega
      clear hF hT hT0 hpos hmm
      go_wp2
      go_loopw [11, 49] (fun al t wr => ∃ k : Nat, k ≤ n ∧ t = .int .i64 k ∧ (∃ sv c', al = .slice sv (L.blmFrom v k).length c' ∧ Hid (wr.ownsRow X.heap.size 3 1 (.slice sv (L.blmFrom v k).length c') (L.blmFrom v k).length (flatI (L.blmFrom v k)))) ∧ Below X.heap.size X wr) (fun _ t _ => n - (intOf t).toNat)
      case atStart => exact ⟨0, by omega, rfl, ⟨none, 0, rfl, hide (World.ownsRow_nil _ _ _ _)⟩, Below.refl _ _⟩
      case round =>
        obtain ⟨k, hk, rfl, ⟨sv, c', rfl, hown⟩, hB⟩ := hrel
        have qB := hB.size
        have cfr := (hB.cell (p := ⟨f, 0, none⟩) lfX).trans cf0
        have lfr : f < wr.heap.size := by omega
        have hle := L.blmFrom_le v k
        by_cases hlt : k < n
        · have tz := (hB.cell (p := ⟨f + 1, k, none⟩) (show f + 1 < X.heap.size by omega)).trans ((HT.out.cellAt k (by omega)).trans (flatI_at (L.tms_at hlt)))
          rw [if_neg (by simp), Int.add_zero] at tz
          have lrow : f + 1 < wr.heap.size := by omega
          have hk0 : (0 : Int) ≤ (k : Int) := by omega
          have hlt' : (k : Int) < (n : Int) := by omega
          have HNX := hide (L.blmFrom_next v k)
          by_cases hc : L.cnt v (L.tcents v 0) k = (L.tcents v 0).length
          · have hcm : ((L.cnt v (L.tcents v 0) k : Int)) = mm := by have := HMM.out; omega
            rw [hcm] at tz
            have HE := hide (show L.blmFrom v (k + 1) = L.blmFrom v k ++ [(k : Int)] by rw [HNX.out, if_pos hc])
            have HL := hide (show (L.blmFrom v (k + 1)).length = (L.blmFrom v k).length + 1 by rw [HE.out, List.length_append]; rfl)
            clear hc hcm
            go_wp2_with (refine wpList_app_at rfl (.tmp 57) (.tmp 59) rfl X.heap.size _ (L.blmFrom v k) _ rfl (hown.out.alloc _) (some ⟨wr.heap.size, 0, none⟩) 1 1 [(k : Int)] rfl rfl (rdI_one (World.alloc_heap_new _ _)) (fun e => by cases e) (by omega) (by omega) (by simp; omega) ?_; intro A2 c2 w5 hown2 hgrow; have hg5 := grown_below (B := X.heap.size) hgrow (by simp; omega) (fun g hg => (hown.out.lt g hg).1); have HO2 := hide hown2; clear hown2 hgrow)
            go_roundw
            case rel => exact ⟨k + 1, by omega, by go_num, ⟨A2, c2, by rw [HL.out], hide (by rw [HL.out, HE.out]; exact HO2.out)⟩, (hB.trans ((Below.refl _ wr).alloc qB _)).trans hg5⟩
            case measure => simp [intOf]; omega
          · have hcm : ((L.cnt v (L.tcents v 0) k : Int) == mm) = false := by have := HMM.out; simp only [beq_eq_false_iff_ne, ne_eq]; omega
            have HE := hide (show L.blmFrom v (k + 1) = L.blmFrom v k by rw [HNX.out, if_neg hc, List.append_nil])
            clear hc
            go_wp2_with fail
            go_roundw
            case rel => exact ⟨k + 1, by omega, by go_num, ⟨sv, c', by rw [HE.out], hide (by rw [HE.out]; exact hown.out)⟩, hB⟩
            case measure => simp [intOf]; omega
        · have hkn : k = n := by omega
          subst hkn
          go_wp2_with fail
          have hdr : wr.heap[D]? = some (.deferred (some [])) := (hB.block D lD).trans hdef
          refine ⟨by simp, .inl ⟨_, _, rfl, run_takeDeferred hdr, ?_⟩⟩
          refine ⟨_, results_tmp2 rfl _ _ _, sv, c', ?_, ?_, ?_⟩
          · rw [E1.out, E2.out]; rfl
          · rw [E1.out]; exact ownsRow_putObj (owns_mono hown.out HBX.out.size) _ hdr rfl
          · exact below_turn' (HBX.out.trans (hB.mono HBX.out.size)) hD0 (by have := HBX.out.size; omega)
  case stop =>
    rintro D cd pre X _ _ h _
    exact h.elim

theorem Blame_any (v : L.Vw) (A : Option Addr) (n c : Nat) (w : World) (hn : v.ss.length = n) (hr : RdS w w.heap.size A v.ss) :
    Calls Try.prog 30 #[.agg #[.int .i64 v.size, .slice A n c, .int .i64 v.wrong, .int .i64 v.hxl, .int .i64 v.hxh, .int .i64 v.hyl, .int .i64 v.hyh]] w fun e w' => BlmPost v w e w' := by
  rcases L.checkE_cases v with h | h
  · exact Blame_yes v A n c w hn hr h
  · have HN := hide hn
    have HR := hide hr
    have H := hide h
    have E1 := hide (show L.blmL v = [] by unfold L.blmL; rw [if_neg (by omega)])
    have E2 := hide (show L.blmE v = 20 by unfold L.blmE; rw [if_neg (by omega)]; exact h)
    clear hn hr h
    refine calls_marks Try.func30 rfl ?_
    simp only [Try.ntmps30, List.size_toArray, List.length_cons, List.length_nil, Nat.reduceAdd, Nat.reduceSub, Array.replicate_succ, Array.replicate_zero, List.push_toArray, List.append_toArray, List.nil_append, List.cons_append]
    go_wp2_with (go_at_call 35; refine (Check_any v A n c _ HN.out ((HR.out.below (by (repeat' first | exact zbR _ _ | assumption | refine zbD ?_ | refine zbA ?_ ?_ _ | refine zbS ?_ ?_ _ | refine zbT ?_ (by assumption) ?_ | (simp; done) | (simp; omega) | omega))).mono (by first | (simp; done) | (simp; omega) | omega))).mono ?_; rintro e w2 ⟨rfl, hb2⟩; rw [H.out])
    refine ⟨_, results_tmp2 rfl _ _ _, none, 0, ?_, ?_, by (repeat' first | exact zbR _ _ | assumption | refine zbD ?_ | refine zbA ?_ ?_ _ | refine zbS ?_ ?_ _ | refine zbT ?_ (by assumption) ?_ | (simp; done) | (simp; omega) | omega)⟩
    · rw [E1.out, E2.out]; rfl
    · rw [E1.out]; exact World.ownsRow_nil _ _ _ _

end Go.Proofs.Ytgnobonhohfofaa

namespace Go.Proofs.Ytgnobonhohfofaa
namespace L

theorem fewF_le (v : Vw) : ∀ (l : List (Int × Int)) (n : Int), l.foldl (fun n c => min n ((wrongL v c.1 c.2).length : Int)) n ≤ n ∧ ∀ c ∈ l, l.foldl (fun n c => min n ((wrongL v c.1 c.2).length : Int)) n ≤ ((wrongL v c.1 c.2).length : Int)
  | [], n => ⟨Int.le_refl _, fun c h => by cases h⟩
  | a :: r, n => by
    obtain ⟨h1, h2⟩ := fewF_le v r (min n ((wrongL v a.1 a.2).length : Int))
    simp only [List.foldl_cons]
    refine ⟨by omega, fun c hc => ?_⟩
    rcases List.mem_cons.1 hc with rfl | hc
    · omega
    · exact h2 c hc
theorem fewF_att (v : Vw) : ∀ (l : List (Int × Int)) (n : Int), l.foldl (fun n c => min n ((wrongL v c.1 c.2).length : Int)) n = n ∨ ∃ c ∈ l, l.foldl (fun n c => min n ((wrongL v c.1 c.2).length : Int)) n = ((wrongL v c.1 c.2).length : Int)
  | [], n => .inl rfl
  | a :: r, n => by
    simp only [List.foldl_cons]
    rcases fewF_att v r (min n ((wrongL v a.1 a.2).length : Int)) with h | ⟨c, hc, h⟩
    · rcases Int.le_total n ((wrongL v a.1 a.2).length : Int) with hl | hl
      · exact .inl (by rw [h]; omega)
      · exact .inr ⟨a, by simp, by rw [h]; omega⟩
    · exact .inr ⟨c, by simp [hc], h⟩
theorem few_iff {v : Vw} (hv : VwOk v) : tcents v 0 ≠ [] ↔ fewest v ≤ v.wrong := by
  constructor
  · intro h
    obtain ⟨c, hc⟩ := List.exists_mem_of_ne_nil _ h
    unfold tcents at hc
    rw [List.mem_filter, okAt_zero, decide_eq_true_eq] at hc
    have := (fewF_le v (cents v.size.toNat) (v.ss.length : Int)).2 c hc.1
    unfold fewest
    omega
  · intro h
    have h0 : ((0 : Int), (0 : Int)) ∈ cents v.size.toNat := cents_mem (Int.le_refl _) (by omega) (Int.le_refl _) (by omega)
    obtain ⟨c, hc, hw⟩ : ∃ c ∈ cents v.size.toNat, ((wrongL v c.1 c.2).length : Int) ≤ v.wrong := by
      rcases fewF_att v (cents v.size.toNat) (v.ss.length : Int) with h1 | ⟨c, hc, h1⟩
      · refine ⟨_, h0, ?_⟩
        have := many_le v.ss 0 0 0
        have h2 := wrongL_length v 0 0
        unfold fewest at h
        dsimp only
        omega
      · exact ⟨c, hc, by unfold fewest at h; omega⟩
    intro he
    have : c ∈ tcents v 0 := by
      unfold tcents
      rw [List.mem_filter, okAt_zero, decide_eq_true_eq]
      exact ⟨hc, hw⟩
    rw [he] at this
    cases this
theorem spanOf_mem (f : Int × Int → Int) : ∀ (l : List (Int × Int)) (s : Int × Int), ((l.foldl (fun s d => (min s.1 (f d), max s.2 (f d))) s).1 ≤ s.1 ∧ s.2 ≤ (l.foldl (fun s d => (min s.1 (f d), max s.2 (f d))) s).2) ∧ ∀ c ∈ l, (l.foldl (fun s d => (min s.1 (f d), max s.2 (f d))) s).1 ≤ f c ∧ f c ≤ (l.foldl (fun s d => (min s.1 (f d), max s.2 (f d))) s).2
  | [], s => ⟨⟨Int.le_refl _, Int.le_refl _⟩, fun c h => by cases h⟩
  | a :: r, s => by
    obtain ⟨⟨h1, h2⟩, h3⟩ := spanOf_mem f r (min s.1 (f a), max s.2 (f a))
    simp only [List.foldl_cons]
    dsimp only at h1 h2
    refine ⟨⟨by omega, by omega⟩, fun c hc => ?_⟩
    rcases List.mem_cons.1 hc with rfl | hc
    · exact ⟨by omega, by omega⟩
    · exact h3 c hc
theorem spanOf_in {f : Int × Int → Int} {l : List (Int × Int)} {c : Int × Int} (hc : c ∈ l) : (spanOf f l).1 ≤ f c ∧ f c ≤ (spanOf f l).2 := by
  cases l with
  | nil => cases hc
  | cons a r =>
    unfold spanOf
    obtain ⟨⟨h1, h2⟩, h3⟩ := spanOf_mem f r (f a, f a)
    dsimp only at h1 h2
    rcases List.mem_cons.1 hc with rfl | hc
    · exact ⟨h1, h2⟩
    · exact h3 c hc
theorem cnt_all {v : Vw} {l : List (Int × Int)} {i : Nat} (h : cnt v l i = l.length) {c : Int × Int} (hc : c ∈ l) : (i : Int) ∈ wrongL v c.1 c.2 := by
  unfold cnt at h
  have := List.length_filter_eq_length_iff.1 h c hc
  simpa using this
theorem blmFrom_all {v : Vw} {n : Nat} {z : Int} (h : z ∈ blmFrom v n) {c : Int × Int} (hc : c ∈ tcents v 0) : z ∈ wrongL v c.1 c.2 := by
  unfold blmFrom at h
  obtain ⟨i, hi, rfl⟩ := List.mem_map.1 h
  rw [List.mem_filter, decide_eq_true_eq] at hi
  exact cnt_all hi.2 hc

structure BlmNo (v : Vw) (m : Mk) : Prop where
  few : v.wrong < fewV v
  fe : fewE v = 0
  ce : cenE v = 3
  be : blmE v = 3
  bl : blmL v = []
  tr : truthB v m = false
structure BlmYes (v : Vw) (m : Mk) : Prop where
  few : fewV v ≤ v.wrong
  fe : fewE v = 0
  ce : cenE v = 0
  be : blmE v = 0
  bn : (blmL v).length ≤ v.ss.length
  t : truthB v m = true → wrgE v m = 0 ∧ 1 ≤ cenN v ∧ fewV v ≤ ((wrgL v m).length : Int) ∧ (cenX v).1 ≤ m.x ∧ m.x ≤ (cenX v).2 ∧ (cenY v).1 ≤ m.y ∧ m.y ≤ (cenY v).2 ∧ ∀ z ∈ blmL v, z ∈ wrgL v m
theorem blm_cases {v : Vw} (hv : viewB v = true) (m : Mk) : BlmNo v m ∨ BlmYes v m := by
  have hk := viewB_ok hv
  have hc := check_t hv
  have hf : fewV v = fewest v := by unfold fewV; rw [if_pos hc]
  by_cases ht : tcents v 0 = []
  · refine .inl ⟨?_, hc, by unfold cenE; rw [if_pos hc, if_pos ht], by unfold blmE; rw [if_pos hc, if_pos ht], by unfold blmL; rw [if_pos hc, if_pos ht], ?_⟩
    · rw [hf]
      have : ¬ fewest v ≤ v.wrong := fun h => (few_iff hk).2 h ht
      omega
    · cases hb : truthB v m
      · rfl
      · have := (truth_mem hk hb).1
        rw [ht] at this
        cases this
  · have hb : blmL v = blmFrom v v.ss.length := by unfold blmL; rw [if_pos hc, if_neg ht]
    refine .inr ⟨by rw [hf]; exact (few_iff hk).1 ht, hc, by unfold cenE; rw [if_pos hc, if_neg ht], by unfold blmE; rw [if_pos hc, if_neg ht], by rw [hb]; exact blmFrom_le _ _, fun htr => ?_⟩
    have hm := (truth_mem hk htr).1
    have hmk : isMarkB v m = true := by unfold truthB at htr; rw [Bool.and_eq_true] at htr; exact htr.1
    have hw : wrgL v m = wrongL v m.x m.y := by unfold wrgL; rw [hv, hmk]; rfl
    have hX : cenX v = spanOf (·.1) (tcents v 0) := by unfold cenX; rw [if_pos hc]
    have hY : cenY v = spanOf (·.2) (tcents v 0) := by unfold cenY; rw [if_pos hc]
    have hN : cenN v = ((tcents v 0).length : Int) := by unfold cenN; rw [if_pos hc]
    have sx := spanOf_in (f := (·.1)) hm
    have sy := spanOf_in (f := (·.2)) hm
    have hpos : 0 < (tcents v 0).length := List.length_pos_iff.2 ht
    refine ⟨by unfold wrgE; rw [hv, hmk]; rfl, by rw [hN]; omega, ?_, by rw [hX]; exact sx.1, by rw [hX]; exact sx.2, by rw [hY]; exact sy.1, by rw [hY]; exact sy.2, fun z hz => ?_⟩
    · rw [hf, hw]
      unfold tcents at hm
      exact (fewF_le v (cents v.size.toNat) (v.ss.length : Int)).2 _ (List.mem_filter.1 hm).1
    · rw [hb] at hz
      rw [hw]
      exact blmFrom_all hz hm
end L
end Go.Proofs.Ytgnobonhohfofaa

namespace Go.Proofs.Ytgnobonhohfofaa
namespace L

def spTo (f : Mk → Int) (l : List Mk) (i : Nat) : Int × Int := match l.take (max i 1) with
  | [] => (0, 0)
  | c :: r => r.foldl (fun s d => (min s.1 (f d), max s.2 (f d))) (f c, f c)
theorem spTo_zero {f : Mk → Int} {l : List Mk} {m : Mk} (h : l[0]? = some m) : spTo f l 0 = (f m, f m) := by
  cases l with
  | nil => simp at h
  | cons a r =>
    have e : a = m := Option.some.inj h
    subst e
    rfl
theorem spTo_next {f : Mk → Int} {l : List Mk} {i : Nat} {m : Mk} (h : l[i]? = some m) : spTo f l (i + 1) = (min (spTo f l i).1 (f m), max (spTo f l i).2 (f m)) := by
  cases l with
  | nil => simp at h
  | cons a r =>
    cases i with
    | zero =>
      have e : a = m := Option.some.inj h
      subst e
      show (f a, f a) = (min (f a) (f a), max (f a) (f a))
      rw [Int.min_self, Int.max_self]
    | succ i =>
      have h' : r[i]? = some m := h
      unfold spTo
      rw [show max (i + 1 + 1) 1 = (i + 1) + 1 by omega, show max (i + 1) 1 = i + 1 by omega, List.take_succ_cons, List.take_succ_cons]
      dsimp only
      rw [List.take_add_one, h', Option.toList_some, List.foldl_append]
      rfl
theorem spTo_all {g : Int × Int → Int} {f : Mk → Int} (hg : ∀ c, f (mk0 c) = g c) (l : List (Int × Int)) (hl : l ≠ []) : spTo f (l.map mk0) (l.map mk0).length = spanOf g l := by
  cases l with
  | nil => exact (hl rfl).elim
  | cons c r =>
    unfold spTo
    rw [show max ((c :: r).map mk0).length 1 = ((c :: r).map mk0).length by simp, List.take_of_length_le (Nat.le_refl _)]
    show (r.map mk0).foldl _ (f (mk0 c), f (mk0 c)) = r.foldl _ (g c, g c)
    rw [List.foldl_map, hg]
    simp only [hg]
def fwTo (v : Vw) (N i j : Nat) : Int := fewF v (rowsTo N i ++ rowAt N i j)
theorem fwTo_zero (v : Vw) (N : Nat) : fwTo v N 0 0 = (v.ss.length : Int) := rfl
theorem fwTo_row (v : Vw) (N i : Nat) : fwTo v N i (N + 1) = fwTo v N (i + 1) 0 := by
  unfold fwTo; rw [rowsTo_next]; rw [show rowAt N (i + 1) 0 = [] from rfl, List.append_nil]
theorem fwTo_next (v : Vw) (N i j : Nat) : fwTo v N i (j + 1) = min (fwTo v N i j) ((wrongL v (i : Int) (j : Int)).length : Int) := by
  unfold fwTo
  rw [rowAt_next, ← List.append_assoc, fewF_snoc]
theorem fwTo_all (v : Vw) (N : Nat) : fwTo v N (N + 1) 0 = fewF v (cents N) := by
  unfold fwTo; rw [show rowAt N (N + 1) 0 = [] from rfl, List.append_nil, ← cents_rows]
theorem fwTo_bd (v : Vw) (N i j : Nat) : 0 ≤ fwTo v N i j ∧ fwTo v N i j ≤ v.ss.length := fewF_bd v _
def alw (v : Vw) (l : List Mk) (i k : Nat) : Bool := (l.take k).all fun m => decide ((i : Int) ∈ wrongL v m.x m.y)
theorem alw_zero (v : Vw) (l : List Mk) (i : Nat) : alw v l i 0 = true := rfl
theorem alw_next {v : Vw} {l : List Mk} {k : Nat} {m : Mk} (h : l[k]? = some m) (i : Nat) : alw v l i (k + 1) = (alw v l i k && decide ((i : Int) ∈ wrongL v m.x m.y)) := by
  unfold alw
  rw [List.take_add_one, h, Option.toList_some, List.all_append]
  simp
theorem alw_all (v : Vw) (l : List (Int × Int)) (i : Nat) : alw v (l.map mk0) i (l.map mk0).length = decide (cnt v l i = l.length) := by
  unfold alw
  rw [List.take_of_length_le (Nat.le_refl _), Bool.eq_iff_iff, decide_eq_true_eq]
  unfold cnt
  rw [List.length_filter_eq_length_iff, List.all_eq_true]
  constructor
  · intro h c hc; exact h _ (List.mem_map.2 ⟨c, hc, rfl⟩)
  · intro h m hm
    obtain ⟨c, hc, rfl⟩ := List.mem_map.1 hm
    exact h c hc
end L
end Go.Proofs.Ytgnobonhohfofaa

namespace Go.Proofs.Ytgnobonhohfofaa
open Go.RowKit
attribute [local go_sem ↓] Go.wp_at_zero Go.wp_at_succ

theorem refcen_results {Z : World} {g3 g4 : Nat} {m a b c d e : Int} {c3 c4 tmps : Array Value} (h3 : Z.heap[g3]? = some (.cells c3 24 (0, 0))) (h4 : Z.heap[g4]? = some (.cells c4 24 (0, 0)))
    (e3 : c3 = #[.int .i64 a, .int .i64 b]) (e4 : c4 = #[.int .i64 c, .int .i64 d]) (t2 : tmps[2]? = some (.int .i64 m)) (t3 : tmps[3]? = some (.pointer (some ⟨g3, 0, none⟩))) (t4 : tmps[4]? = some (.pointer (some ⟨g4, 0, none⟩))) (t5 : tmps[5]? = some (.int .i64 e)) :
    (results Try.f38 tmps).run Try.prog Z = .ok (.tuple #[.int .i64 m, .agg #[.int .i64 a, .int .i64 b], .agg #[.int .i64 c, .int .i64 d], .int .i64 e]) Z := by
  subst e3 e4
  have k1 : Z.cell? ⟨g3, 0, none⟩ = some (.int .i64 a) := blk_cell h3 0
  have k2 : Z.cell? ⟨g3, 1, none⟩ = some (.int .i64 b) := blk_cell h3 1
  have k3 : Z.cell? ⟨g4, 0, none⟩ = some (.int .i64 c) := blk_cell h4 0
  have k4 : Z.cell? ⟨g4, 1, none⟩ = some (.int .i64 d) := blk_cell h4 1
  simp [results, Try.results38, go_sem, t2, t3, t4, t5, k1, k2, k3, k4]

set_option maxRecDepth 100000 in
set_option maxHeartbeats 6400000 in
theorem refCentres_any (v : L.Vw) (A : Option Addr) (n c : Nat) (w : World) (hn : v.ss.length = n) (hr : RdS w w.heap.size A v.ss) :
    Calls Try.prog 38 #[.agg #[.int .i64 v.size, .slice A n c, .int .i64 v.wrong, .int .i64 v.hxl, .int .i64 v.hxh, .int .i64 v.hyl, .int .i64 v.hyh]] w fun e w' => e = .returned (.tuple #[.int .i64 (L.cenN v), .agg #[.int .i64 (L.cenX v).1, .int .i64 (L.cenX v).2], .agg #[.int .i64 (L.cenY v).1, .int .i64 (L.cenY v).2], .int .i64 (L.cenE v)]) ∧ Below w.heap.size w w' := by
  have HN := hide hn
  have HR := hide hr
  clear hn hr
  go_enter Try.func38, Try.ntmps38
  go_upto_region 1 with fail
  obtain ⟨W0, hW0⟩ : ∃ W0, ((w.alloc (.cells #[.int .i64 v.size, .slice A n c, .int .i64 v.wrong, .int .i64 v.hxl, .int .i64 v.hxh, .int .i64 v.hyl, .int .i64 v.hyh] 26)).alloc (.cells #[.int .i64 0, .int .i64 0] 24)).alloc (.cells #[.int .i64 0, .int .i64 0] 24) = W0 := ⟨_, rfl⟩
  have gp : W0.heap[w.heap.size]? = some (.cells #[.int .i64 v.size, .slice A n c, .int .i64 v.wrong, .int .i64 v.hxl, .int .i64 v.hxh, .int .i64 v.hyl, .int .i64 v.hyh] 26 (0, 0)) := by
    rw [← hW0]; exact (Below.heap_alloc _ _ _ (by first | (simp; done) | (simp; omega) | omega)).trans ((Below.heap_alloc _ _ _ (by first | (simp; done) | (simp; omega) | omega)).trans (World.alloc_heap_new _ _))
  have g3 : W0.heap[w.heap.size + 1]? = some (.cells #[.int .i64 0, .int .i64 0] 24 (0, 0)) := by
    rw [← hW0]; exact (Below.heap_alloc _ _ _ (by first | (simp; done) | (simp; omega) | omega)).trans ((congrArg _ (by simp)).trans (World.alloc_heap_new _ _))
  have g4 : W0.heap[w.heap.size + 1 + 1]? = some (.cells #[.int .i64 0, .int .i64 0] 24 (0, 0)) := by
    rw [← hW0]; exact (congrArg _ (by simp)).trans (World.alloc_heap_new _ _)
  have gs : W0.heap.size = w.heap.size + 1 + 1 + 1 := by rw [← hW0]; simp
  have gB : Below w.heap.size w W0 := by rw [← hW0]; (repeat' first | exact zbR _ _ | assumption | refine zbD ?_ | refine zbA ?_ ?_ _ | refine zbS ?_ ?_ _ | refine zbT ?_ (by assumption) ?_ | (simp; done) | (simp; omega) | omega)
  rw [hW0]
  clear hW0
  obtain ⟨p, hp⟩ : ∃ p, w.heap.size = p := ⟨_, rfl⟩
  obtain ⟨q, hq⟩ : ∃ q, w.heap.size + 1 = q := ⟨_, rfl⟩
  obtain ⟨r, hr⟩ : ∃ r, w.heap.size + 1 + 1 = r := ⟨_, rfl⟩
  rw [hr, hq, hp]
  rw [hp] at gp
  rw [hq] at g3
  rw [hr] at g4
  have lp : p < W0.heap.size := by omega
  have lq : q < W0.heap.size := by omega
  have lr : r < W0.heap.size := by omega
  have hqr : q ≠ r := by omega
  have hpq : w.heap.size ≤ q := by omega
  have hpr : w.heap.size ≤ r := by omega
  have HR0 := hide ((HR.out.below gB).mono gB.size)
  have GB := hide gB
  have GP := hide gp
  have G3 := hide g3
  have G4 := hide g4
  have cp0 := (blk_cell gp 0).trans rfl; have cp1 := (blk_cell gp 1).trans rfl; have cp2 := (blk_cell gp 2).trans rfl; have cp3 := (blk_cell gp 3).trans rfl; have cp4 := (blk_cell gp 4).trans rfl; have cp5 := (blk_cell gp 5).trans rfl; have cp6 := (blk_cell gp 6).trans rfl
  clear gp g3 g4 gB gs hp hq hr
  rcases L.checkE_cases v with h | h
  · have hv := L.checkE_ok h
    have HV := hide hv
    have H := hide h
    clear h
    obtain ⟨N, hN⟩ : ∃ N : Nat, v.size = (N : Int) := ⟨v.size.toNat, (Int.toNat_of_nonneg hv.s0).symm⟩
    have HSz := hide hN
    obtain ⟨tc, htc⟩ : ∃ tc, (L.tcents v 0).map L.mk0 = tc := ⟨_, rfl⟩
    have HTC := hide htc
    have hlen : tc.length ≤ 1681 := by rw [← htc, List.length_map]; exact L.tcents_length hv 0
    have E1 := hide (show L.cenN v = (tc.length : Int) by unfold L.cenN; rw [if_pos H.out, ← htc, List.length_map])
    by_cases h0 : L.tcents v 0 = []
    · have htc0 : tc = [] := by rw [← htc, h0]; rfl
      have E2 := hide (show L.cenX v = (0, 0) by unfold L.cenX; rw [if_pos H.out, h0]; rfl)
      have E3 := hide (show L.cenY v = (0, 0) by unfold L.cenY; rw [if_pos H.out, h0]; rfl)
      have E4 := hide (show L.cenE v = 3 by unfold L.cenE; rw [if_pos H.out, if_pos h0])
      subst htc0
      clear hv hN htc h0
      go_wp2_with (first | (go_at_call 23; refine (RefCheck_any v A n c _ HN.out ((HR0.out.below (by (repeat' first | exact zbR _ _ | assumption | refine zbD ?_ | refine zbA ?_ ?_ _ | refine zbS ?_ ?_ _ | refine zbT ?_ (by assumption) ?_ | (simp; done) | (simp; omega) | omega))).mono (by first | (simp; done) | (simp; omega) | omega))).mono ?_; rintro e w2 ⟨rfl, hb2⟩; rw [H.out]; obtain ⟨hc2, hf2⟩ := bcell hb2; have q2 := hb2.size; have z2_p : p < w2.heap.size := (by omega)) | (go_at_call 64; refine (refCents_any v A n c N _ HV.out.w HSz.out HN.out ((HR0.out.below (by (repeat' first | exact zbR _ _ | assumption | refine zbD ?_ | refine zbA ?_ ?_ _ | refine zbS ?_ ?_ _ | refine zbT ?_ (by assumption) ?_ | (simp; done) | (simp; omega) | omega))).mono (by first | (simp; done) | (simp; omega) | omega))).mono ?_; rintro e w3 ⟨svc, cc, rfl, hownc, hb3⟩; rw [HTC.out] at hownc ⊢; have k3 := (hb3.block q (by omega)).trans ((hb2.block q lq).trans G3.out); have k4 := (hb3.block r (by omega)).trans ((hb2.block r lr).trans G4.out); have c3 := (blk_cell k3 0).trans rfl; have c4 := (blk_cell k3 1).trans rfl; have c5 := (blk_cell k4 0).trans rfl; have c6 := (blk_cell k4 1).trans rfl; have f3 := blk_frozen k3 0; have f4 := blk_frozen k3 1; have f5 := blk_frozen k4 0; have f6 := blk_frozen k4 1; have K3 := hide k3; have K4 := hide k4; have q3 := hb3.size; have z3q : q < w3.heap.size := (by omega); have z3r : r < w3.heap.size := (by omega); clear k3 k4))
      rw [E1.out, E2.out, E3.out, E4.out]
      refine bodyPost_ret (v := .tuple #[.int .i64 (([] : List L.Mk).length : Int), .agg #[.int .i64 0, .int .i64 0], .agg #[.int .i64 0, .int .i64 0], .int .i64 3]) (refcen_results (blk_other (blk_other (blk_set (blk_set K3.out 0 (.int .i64 0)) 1 (.int .i64 0)) hqr 0 (.int .i64 0)) hqr 1 (.int .i64 0)) (blk_set (blk_set (blk_other (blk_other K4.out (Ne.symm hqr) 0 (.int .i64 0)) (Ne.symm hqr) 1 (.int .i64 0)) 0 (.int .i64 0)) 1 (.int .i64 0)) rfl rfl rfl rfl rfl rfl) rfl ?_
      exact ⟨rfl, zbS (zbS (zbS (zbS ((GB.out.trans (hb2.mono GB.out.size)).trans (hb3.mono (by have := GB.out.size; omega))) hpq _) hpq _) hpr _) hpr _⟩
    · have E2 := hide (show L.cenX v = L.spTo (·.x) tc tc.length by unfold L.cenX; rw [if_pos H.out, ← htc, L.spTo_all (g := (·.1)) (fun _ => rfl) _ h0])
      have E3 := hide (show L.cenY v = L.spTo (·.y) tc tc.length by unfold L.cenY; rw [if_pos H.out, ← htc, L.spTo_all (g := (·.2)) (fun _ => rfl) _ h0])
      have E4 := hide (show L.cenE v = 0 by unfold L.cenE; rw [if_pos H.out, if_neg h0])
      have hpos : 0 < tc.length := by
        rw [← htc, List.length_map]
        exact List.length_pos_iff.2 h0
      have dpos : ((tc.length : Int) == 0) = false := by simp only [beq_eq_false_iff_ne, ne_eq]; omega
      obtain ⟨m0, hm0⟩ : ∃ m0, tc[0]? = some m0 := ⟨_, List.getElem?_eq_getElem hpos⟩
      have SX := hide (L.spTo_zero (f := (·.x)) hm0)
      have SY := hide (L.spTo_zero (f := (·.y)) hm0)
      have HXY := hide (show ∀ m ∈ tc, 0 ≤ m.x ∧ m.x ≤ 40 ∧ 0 ≤ m.y ∧ m.y ≤ 40 by
        intro m hm
        rw [← htc] at hm
        obtain ⟨d, hd, rfl⟩ := List.mem_map.1 hm
        obtain ⟨⟨a1, a2, a3, a4⟩, _⟩ := (L.mem_tcents hv).1 hd
        have := hv.s1
        exact ⟨a1, by show d.1 ≤ 40; omega, a3, by show d.2 ≤ 40; omega⟩)
      clear hv hN htc h0
      go_upto_region 6 with (first | (go_at_call 23; refine (RefCheck_any v A n c _ HN.out ((HR0.out.below (by (repeat' first | exact zbR _ _ | assumption | refine zbD ?_ | refine zbA ?_ ?_ _ | refine zbS ?_ ?_ _ | refine zbT ?_ (by assumption) ?_ | (simp; done) | (simp; omega) | omega))).mono (by first | (simp; done) | (simp; omega) | omega))).mono ?_; rintro e w2 ⟨rfl, hb2⟩; rw [H.out]; obtain ⟨hc2, hf2⟩ := bcell hb2; have q2 := hb2.size; have z2_p : p < w2.heap.size := (by omega)) | (go_at_call 64; refine (refCents_any v A n c N _ HV.out.w HSz.out HN.out ((HR0.out.below (by (repeat' first | exact zbR _ _ | assumption | refine zbD ?_ | refine zbA ?_ ?_ _ | refine zbS ?_ ?_ _ | refine zbT ?_ (by assumption) ?_ | (simp; done) | (simp; omega) | omega))).mono (by first | (simp; done) | (simp; omega) | omega))).mono ?_; rintro e w3 ⟨svc, cc, rfl, hownc, hb3⟩; rw [HTC.out] at hownc ⊢))
      obtain ⟨g, cap, e, hbg, hgl⟩ := hownc.form (by omega)
      have e' : svc = some ⟨g, 0, none⟩ ∧ cc = cap := by
        simp only [Value.slice.injEq] at e
        exact ⟨e.1, e.2.2⟩
      obtain ⟨rfl, rfl⟩ := e'
      have q3 := hb3.size
      have k3 := (hb3.block q (by omega)).trans ((hb2.block q lq).trans G3.out)
      have k4 := (hb3.block r (by omega)).trans ((hb2.block r lr).trans G4.out)
      have hgq : g ≠ q := by omega
      have hgr : g ≠ r := by omega
      obtain ⟨m0x, m0y, _, _⟩ := flatM_at hm0
      have s0 := (hownc.cellAt (0 * 4) (by omega)).trans m0x
      have s1 := (hownc.cellAt (0 * 4 + 1) (by omega)).trans m0y
      simp only [Nat.zero_mul, Nat.zero_add] at s0 s1
      have hS : (fun w' => g < w'.heap.size ∧ q < w'.heap.size ∧ r < w'.heap.size ∧ w'.frozen? ⟨q, 0, none⟩ = false ∧ w'.frozen? ⟨q, 1, none⟩ = false ∧ w'.frozen? ⟨r, 0, none⟩ = false ∧ w'.frozen? ⟨r, 1, none⟩ = false ∧ w'.cell? ⟨g, 0, none⟩ = some (.int .i64 m0.x) ∧ w'.cell? ⟨g, 1, none⟩ = some (.int .i64 m0.y) ∧ w'.cell? ⟨r, 0, none⟩ = some (.int .i64 0) ∧ w'.cell? ⟨r, 1, none⟩ = some (.int .i64 0)) w3 := ⟨hgl, by omega, by omega, blk_frozen k3 0, blk_frozen k3 1, blk_frozen k4 0, blk_frozen k4 1, s0, s1, (blk_cell k4 0).trans rfl, (blk_cell k4 1).trans rfl⟩
      have cq0 := (blk_cell k3 0).trans rfl
      have cq1 := (blk_cell k3 1).trans rfl
      have fq0 := blk_frozen k3 0
      have fq1 := blk_frozen k3 1
      have HC := hide hownc
      have HBW := hide ((GB.out.trans (hb2.mono GB.out.size)).trans (hb3.mono (by have := GB.out.size; omega)))
      have K3 := hide k3
      have K4 := hide k4
      have lq3 : q < w3.heap.size := by omega
      have lr3 : r < w3.heap.size := by omega
      clear e m0x m0y s0 s1 k3 k4 cp0 cp1 cp2 cp3 cp4 cp5 cp6 hc2 hf2 hb2 hb3 hownc q2 q3 z2_p hm0 dpos
      (try dsimp only at hS)
      refine wp_region_T_drew (S := (fun w' => g < w'.heap.size ∧ q < w'.heap.size ∧ r < w'.heap.size ∧ w'.frozen? ⟨q, 0, none⟩ = false ∧ w'.frozen? ⟨q, 1, none⟩ = false ∧ w'.frozen? ⟨r, 0, none⟩ = false ∧ w'.frozen? ⟨r, 1, none⟩ = false ∧ w'.cell? ⟨g, 0, none⟩ = some (.int .i64 m0.x) ∧ w'.cell? ⟨g, 1, none⟩ = some (.int .i64 m0.y) ∧ w'.cell? ⟨r, 0, none⟩ = some (.int .i64 0) ∧ w'.cell? ⟨r, 1, none⟩ = some (.int .i64 0))) 19 (by kernel_rfl) ?_ (fun hHeld0 => ?_)
      · (try dsimp only); (first | (go_keep; done) | (go_split_ands; (repeat' apply And.intro) <;> first | (go_keep; done) | (simp [*, zcA, zcP, zfA, zfP]; done) | (simp [zcA, zcP] <;> rfl) | (simp [*, zsS, zsO, zsA]; done) | ((first | refine (hc _ _ ?_).trans ?_ | refine (hf _ _ ?_).trans ?_) <;> first | assumption | (simp; done) | (simp; omega) | omega | (go_keep; done) | (simp [*, zcA, zcP, zfA, zfP]; done) | (simp [zcA, zcP]; rfl)) | (repeat' first | exact zbR _ _ | assumption | refine zbD ?_ | refine zbA ?_ ?_ _ | refine zbS ?_ ?_ _ | refine zbT ?_ (by assumption) ?_ | (simp; done) | (simp; omega) | omega)))
      refine takeT (v := ?_) 0 rfl (by kernel_rfl) (by kernel_rfl) (by kernel_rfl) (by kernel_rfl) (fun _ _ _ h => h) (Or.inl ⟨by rfl, ?_⟩) (by assumption) ?_; rotate_left
      · (intro w hSw; (try dsimp only at hSw); go_simp; try with_reducible rfl)
      try simp only [Act.put, zl, z0, z1]
      refine takeT (v := ?_) 1 rfl (by kernel_rfl) (by kernel_rfl) (by kernel_rfl) (by kernel_rfl) (fun _ _ _ h => h) (Or.inl ⟨by rfl, ?_⟩) (by assumption) ?_; rotate_left
      · (intro w hSw; (try dsimp only at hSw); go_simp; try with_reducible rfl)
      try simp only [Act.put, zl, z0, z1]
      refine takeT (v := ?_) 2 rfl (by kernel_rfl) (by kernel_rfl) (by kernel_rfl) (by kernel_rfl) (fun _ _ _ h => h) (Or.inl ⟨by rfl, ?_⟩) (by assumption) ?_; rotate_left
      · (intro w hSw; (try dsimp only at hSw); go_simp; try with_reducible rfl)
      try simp only [Act.put, zl, z0, z1]
      refine takeT (v := ?_) 3 rfl (by kernel_rfl) (by kernel_rfl) (by kernel_rfl) (by kernel_rfl) (fun _ _ _ h => h) (Or.inl ⟨by rfl, ?_⟩) (by assumption) ?_; rotate_left
      · (intro w hSw; (try dsimp only at hSw); go_simp; try with_reducible rfl)
      try simp only [Act.put, zl, z0, z1]
      refine takeT (v := ?_) 4 rfl (by kernel_rfl) (by kernel_rfl) (by kernel_rfl) (by kernel_rfl) (fun _ _ _ h => h) (Or.inl ⟨by rfl, ?_⟩) (by assumption) ?_; rotate_left
      · (intro w hSw; (try dsimp only at hSw); go_simp; try with_reducible rfl)
      try simp only [Act.put, zl, z0, z1]
      refine takeT (v := ?_) 5 rfl (by kernel_rfl) (by kernel_rfl) (by kernel_rfl) (by kernel_rfl) (fun _ _ _ h => h) (Or.inl ⟨by rfl, ?_⟩) (by assumption) ?_; rotate_left
      · (intro w hSw; (try dsimp only at hSw); go_simp; try with_reducible rfl)
      try simp only [Act.put, zl, z0, z1]
      refine takeT (v := ?_) 6 rfl (by kernel_rfl) (by kernel_rfl) (by kernel_rfl) (by kernel_rfl) (fun _ _ _ h => h) (Or.inl ⟨by rfl, ?_⟩) (by assumption) ?_; rotate_left
      · (intro w hSw; (try dsimp only at hSw); go_simp; try with_reducible rfl)
      try simp only [Act.put, zl, z0, z1]
      refine takeT (v := ?_) 7 rfl (by kernel_rfl) (by kernel_rfl) (by kernel_rfl) (by kernel_rfl) (fun _ _ _ h => h) (Or.inl ⟨by rfl, ?_⟩) (by assumption) ?_; rotate_left
      · (intro w hSw; (try dsimp only at hSw); go_simp; try with_reducible rfl)
      try simp only [Act.put, zl, z0, z1]
      refine takeT (v := ?_) 8 rfl (by kernel_rfl) (by kernel_rfl) (by kernel_rfl) (by kernel_rfl) (fun _ _ _ h => h) (Or.inl ⟨by rfl, ?_⟩) (by assumption) ?_; rotate_left
      · (intro w hSw; (try dsimp only at hSw); go_simp; try with_reducible rfl)
      try simp only [Act.put, zl, z0, z1]
      refine takeT (v := ?_) 9 rfl (by kernel_rfl) (by kernel_rfl) (by kernel_rfl) (by kernel_rfl) (fun _ _ _ h => h) (Or.inl ⟨by rfl, ?_⟩) (by assumption) ?_; rotate_left
      · (intro w hSw; (try dsimp only at hSw); go_simp; try with_reducible rfl)
      try simp only [Act.put, zl, z0, z1]
      refine takeT (v := ?_) 10 rfl (by kernel_rfl) (by kernel_rfl) (by kernel_rfl) (by kernel_rfl) (fun _ _ _ h => h) (Or.inl ⟨by rfl, ?_⟩) (by assumption) ?_; rotate_left
      · (intro w hSw; (try dsimp only at hSw); go_simp; try with_reducible rfl)
      try simp only [Act.put, zl, z0, z1]
      refine takeT (v := ?_) 11 rfl (by kernel_rfl) (by kernel_rfl) (by kernel_rfl) (by kernel_rfl) (fun _ _ _ h => h) (Or.inl ⟨by rfl, ?_⟩) (by assumption) ?_; rotate_left
      · (intro w hSw; (try dsimp only at hSw); go_simp; try with_reducible rfl)
      try simp only [Act.put, zl, z0, z1]
      refine takeT (v := ?_) 12 rfl (by kernel_rfl) (by kernel_rfl) (by kernel_rfl) (by kernel_rfl) (fun _ _ _ h => h) (Or.inl ⟨by rfl, ?_⟩) (by assumption) ?_; rotate_left
      · (intro w hSw; (try dsimp only at hSw); go_simp; try with_reducible rfl)
      try simp only [Act.put, zl, z0, z1]
      refine takeT (v := ?_) 13 rfl (by kernel_rfl) (by kernel_rfl) (by kernel_rfl) (by kernel_rfl) (fun _ _ _ h => h) (Or.inl ⟨by rfl, ?_⟩) (by assumption) ?_; rotate_left
      · (intro w hSw; (try dsimp only at hSw); go_simp; try with_reducible rfl)
      try simp only [Act.put, zl, z0, z1]
      refine takeT (v := ?_) 14 rfl (by kernel_rfl) (by kernel_rfl) (by kernel_rfl) (by kernel_rfl) (fun _ _ _ h => h) (Or.inl ⟨by rfl, ?_⟩) (by assumption) ?_; rotate_left
      · (intro w hSw; (try dsimp only at hSw); go_simp; try with_reducible rfl)
      try simp only [Act.put, zl, z0, z1]
      refine takeT (v := ?_) 15 rfl (by kernel_rfl) (by kernel_rfl) (by kernel_rfl) (by kernel_rfl) (fun _ _ _ h => h) (Or.inl ⟨by rfl, ?_⟩) (by assumption) ?_; rotate_left
      · (intro w hSw; (try dsimp only at hSw); go_simp; try with_reducible rfl)
      try simp only [Act.put, zl, z0, z1]
      refine takeT (v := ?_) 16 rfl (by kernel_rfl) (by kernel_rfl) (by kernel_rfl) (by kernel_rfl) (fun _ _ _ h => h) (Or.inl ⟨by rfl, ?_⟩) (by assumption) ?_; rotate_left
      · (intro w hSw; (try dsimp only at hSw); go_simp; try with_reducible rfl)
      try simp only [Act.put, zl, z0, z1]
      refine takeT (v := ?_) 17 rfl (by kernel_rfl) (by kernel_rfl) (by kernel_rfl) (by kernel_rfl) (fun _ _ _ h => h) (Or.inl ⟨by rfl, ?_⟩) (by assumption) ?_; rotate_left
      · (intro w hSw; (try dsimp only at hSw); go_simp; try with_reducible rfl)
      try simp only [Act.put, zl, z0, z1]
      refine wpAnyT_ready (rs := [18]) (by kernel_rfl) (by simp) ?_
      refine consT 18 rfl (fun K hK => ?_) AllReadyT.nil
      go_simp
      refine hK.out _ _ ?_ (fun hHeld1 => ?_)
      · (try dsimp only); (first | (go_keep; done) | (go_split_ands; (repeat' apply And.intro) <;> first | (go_keep; done) | (simp [*, zcA, zcP, zfA, zfP]; done) | (simp [zcA, zcP] <;> rfl) | (simp [*, zsS, zsO, zsA]; done) | ((first | refine (hc _ _ ?_).trans ?_ | refine (hf _ _ ?_).trans ?_) <;> first | assumption | (simp; done) | (simp; omega) | omega | (go_keep; done) | (simp [*, zcA, zcP, zfA, zfP]; done) | (simp [zcA, zcP]; rfl)) | (repeat' first | exact zbR _ _ | assumption | refine zbD ?_ | refine zbA ?_ ?_ _ | refine zbS ?_ ?_ _ | refine zbT ?_ (by assumption) ?_ | (simp; done) | (simp; omega) | omega)))
      clear hK K hHeld0
      try simp only [Act.put, zl, z0, z1]
      refine wpAnyT_ready (rs := [19]) (by kernel_rfl) (by simp) ?_
      refine lastT rfl (fun K hK => ?_)
      (try dsimp only at hHeld1)
      go_simp
      refine hK.out _ _ ?_
      clear hK K
      try simp only [Act.put, zl, z0, z1]
      refine wpAnyT_done (by kernel_rfl) ?_ _
      clear hHeld1 hS
      go_upto_region 8 with fail
      obtain ⟨W1, hW1⟩ : ∃ W1, World.drew (World.setCell (World.setCell (World.setCell (World.setCell w3 ⟨q, 0, none⟩ (.int .i64 m0.x)) ⟨q, 1, none⟩ (.int .i64 m0.x)) ⟨r, 0, none⟩ (.int .i64 m0.y)) ⟨r, 1, none⟩ (.int .i64 m0.y)) = W1 := ⟨_, rfl⟩
      have k1 : W1.heap[q]? = some (.cells #[.int .i64 m0.x, .int .i64 m0.x] 24 (0, 0)) := by rw [← hW1]; exact blk_other (blk_other (blk_set (blk_set (drew_blk K3.out) 0 _) 1 _) hqr 0 _) hqr 1 _
      have k2 : W1.heap[r]? = some (.cells #[.int .i64 m0.y, .int .i64 m0.y] 24 (0, 0)) := by rw [← hW1]; exact blk_set (blk_set (blk_other (blk_other (drew_blk K4.out) (Ne.symm hqr) 0 _) (Ne.symm hqr) 1 _) 0 _) 1 _
      have kK : Keeps (fun y => y ≠ q ∧ y ≠ r) w3 W1 := by rw [← hW1]; exact (((((Keeps.refl _ w3).st (fun h => h.1 rfl)).st (fun h => h.1 rfl)).st (fun h => h.2 rfl)).st (fun h => h.2 rfl)).trans (Keeps.of_below (zbD (zbR _ _)))
      rw [hW1]
      clear hW1 cq0 cq1 fq0 fq1
      have HC0 := HC.out
      go_loopw [7] (fun t wr => ∃ i : Nat, i ≤ tc.length ∧ t = .int .i64 i ∧ Hid (wr.heap[q]? = some (.cells #[.int .i64 (L.spTo (·.x) tc i).1, .int .i64 (L.spTo (·.x) tc i).2] 24 (0, 0))) ∧ Hid (wr.heap[r]? = some (.cells #[.int .i64 (L.spTo (·.y) tc i).1, .int .i64 (L.spTo (·.y) tc i).2] 24 (0, 0))) ∧ Keeps (fun y => y ≠ q ∧ y ≠ r) w3 wr) (fun t _ => tc.length - (intOf t).toNat)
      case atStart => exact ⟨0, by omega, rfl, hide (by rw [SX.out]; exact k1), hide (by rw [SY.out]; exact k2), kK⟩
      case round =>
        clear k1 k2 kK
        obtain ⟨i, hi, rfl, HQ, HRB, hK⟩ := hrel
        have qK := hK.rest.size
        have hi0 : (0 : Int) ≤ (i : Int) := by omega
        have lqr : q < wr.heap.size := by omega
        have lrr : r < wr.heap.size := by omega
        obtain ⟨a1, ha1⟩ : ∃ a1, (L.spTo (·.x) tc i).1 = a1 := ⟨_, rfl⟩
        obtain ⟨a2, ha2⟩ : ∃ a2, (L.spTo (·.x) tc i).2 = a2 := ⟨_, rfl⟩
        obtain ⟨b1, hb1⟩ : ∃ b1, (L.spTo (·.y) tc i).1 = b1 := ⟨_, rfl⟩
        obtain ⟨b2, hb2⟩ : ∃ b2, (L.spTo (·.y) tc i).2 = b2 := ⟨_, rfl⟩
        rw [ha1, ha2] at HQ
        rw [hb1, hb2] at HRB
        have k1 := HQ.out
        have k2 := HRB.out
        by_cases hlt : i < tc.length
        · obtain ⟨cm, hcm⟩ : ∃ cm, tc[i]? = some cm := ⟨_, List.getElem?_eq_getElem hlt⟩
          have hlt' : (i : Int) < (tc.length : Int) := by omega
          obtain ⟨x0, x1, y0, y1⟩ := HXY.out cm (List.mem_of_getElem? hcm)
          have NX := hide (show L.spTo (·.x) tc (i + 1) = (min a1 cm.x, max a2 cm.x) by rw [L.spTo_next hcm, ha1, ha2])
          have NY := hide (show L.spTo (·.y) tc (i + 1) = (min b1 cm.y, max b2 cm.y) by rw [L.spTo_next hcm, hb1, hb2])
          obtain ⟨m0x, m0y, _, _⟩ := flatM_at hcm
          have s0 := (hK.cell (b := g) (o := i * 4) ⟨hgq, hgr⟩ hgl).trans ((HC0.cellAt (i * 4) (by omega)).trans m0x)
          have s1 := (hK.cell (b := g) (o := i * 4 + 1) ⟨hgq, hgr⟩ hgl).trans ((HC0.cellAt (i * 4 + 1) (by omega)).trans m0y)
          have lgr : g < wr.heap.size := by omega
          clear m0x m0y hcm ha1 ha2 hb1 hb2
          go_upto_region 10 with fail
          have hS : (fun w' => g < w'.heap.size ∧ q < w'.heap.size ∧ w'.frozen? ⟨q, 0, none⟩ = false ∧ w'.frozen? ⟨q, 1, none⟩ = false ∧ w'.cell? ⟨q, 0, none⟩ = some (.int .i64 a1) ∧ w'.cell? ⟨q, 1, none⟩ = some (.int .i64 a2) ∧ w'.cell? ⟨g, i * 4, none⟩ = some (.int .i64 cm.x)) wr := ⟨lgr, lqr, blk_frozen k1 0, blk_frozen k1 1, (blk_cell k1 0).trans rfl, (blk_cell k1 1).trans rfl, s0⟩
          clear k1
          have HK2 := hide k2
          clear k2
          (try dsimp only at hS)
          refine wp_region_T_drew (S := (fun w' => g < w'.heap.size ∧ q < w'.heap.size ∧ w'.frozen? ⟨q, 0, none⟩ = false ∧ w'.frozen? ⟨q, 1, none⟩ = false ∧ w'.cell? ⟨q, 0, none⟩ = some (.int .i64 a1) ∧ w'.cell? ⟨q, 1, none⟩ = some (.int .i64 a2) ∧ w'.cell? ⟨g, i * 4, none⟩ = some (.int .i64 cm.x))) 17 (by kernel_rfl) ?_ (fun hHeld0 => ?_)
          · (try dsimp only); (first | (go_keep; done) | (go_split_ands; (repeat' apply And.intro) <;> first | (go_keep; done) | (simp [*, zcA, zcP, zfA, zfP]; done) | (simp [zcA, zcP] <;> rfl) | (simp [*, zsS, zsO, zsA]; done) | ((first | refine (hc _ _ ?_).trans ?_ | refine (hf _ _ ?_).trans ?_) <;> first | assumption | (simp; done) | (simp; omega) | omega | (go_keep; done) | (simp [*, zcA, zcP, zfA, zfP]; done) | (simp [zcA, zcP]; rfl)) | (repeat' first | exact zbR _ _ | assumption | refine zbD ?_ | refine zbA ?_ ?_ _ | refine zbS ?_ ?_ _ | refine zbT ?_ (by assumption) ?_ | (simp; done) | (simp; omega) | omega)))
          refine takeT (v := ?_) 0 rfl (by kernel_rfl) (by kernel_rfl) (by kernel_rfl) (by kernel_rfl) (fun _ _ _ h => h) (Or.inl ⟨by rfl, ?_⟩) (by assumption) ?_; rotate_left
          · (intro w hSw; (try dsimp only at hSw); go_simp; try with_reducible rfl)
          try simp only [Act.put, zl, z0, z1]
          refine takeT (v := ?_) 1 rfl (by kernel_rfl) (by kernel_rfl) (by kernel_rfl) (by kernel_rfl) (fun _ _ _ h => h) (Or.inl ⟨by rfl, ?_⟩) (by assumption) ?_; rotate_left
          · (intro w hSw; (try dsimp only at hSw); go_simp; try with_reducible rfl)
          try simp only [Act.put, zl, z0, z1]
          refine takeT (v := ?_) 2 rfl (by kernel_rfl) (by kernel_rfl) (by kernel_rfl) (by kernel_rfl) (fun _ _ _ h => h) (Or.inl ⟨by rfl, ?_⟩) (by assumption) ?_; rotate_left
          · (intro w hSw; (try dsimp only at hSw); go_simp; try with_reducible rfl)
          try simp only [Act.put, zl, z0, z1]
          refine takeT (v := ?_) 3 rfl (by kernel_rfl) (by kernel_rfl) (by kernel_rfl) (by kernel_rfl) (fun _ _ _ h => h) (Or.inl ⟨by rfl, ?_⟩) (by assumption) ?_; rotate_left
          · (intro w hSw; (try dsimp only at hSw); go_simp; try with_reducible rfl)
          try simp only [Act.put, zl, z0, z1]
          refine takeT (v := ?_) 4 rfl (by kernel_rfl) (by kernel_rfl) (by kernel_rfl) (by kernel_rfl) (fun _ _ _ h => h) (Or.inl ⟨by rfl, ?_⟩) (by assumption) ?_; rotate_left
          · (intro w hSw; (try dsimp only at hSw); go_simp; try with_reducible rfl)
          try simp only [Act.put, zl, z0, z1]
          refine takeT (v := ?_) 5 rfl (by kernel_rfl) (by kernel_rfl) (by kernel_rfl) (by kernel_rfl) (fun _ _ _ h => h) (Or.inl ⟨by rfl, ?_⟩) (by assumption) ?_; rotate_left
          · (intro w hSw; (try dsimp only at hSw); go_simp; try with_reducible rfl)
          try simp only [Act.put, zl, z0, z1]
          refine takeT (v := ?_) 6 rfl (by kernel_rfl) (by kernel_rfl) (by kernel_rfl) (by kernel_rfl) (fun _ _ _ h => h) (Or.inl ⟨by rfl, ?_⟩) (by assumption) ?_; rotate_left
          · (intro w hSw; (try dsimp only at hSw); go_simp; try with_reducible rfl)
          try simp only [Act.put, zl, z0, z1]
          refine takeT (v := ?_) 7 rfl (by kernel_rfl) (by kernel_rfl) (by kernel_rfl) (by kernel_rfl) (fun _ _ _ h => h) (Or.inl ⟨by rfl, ?_⟩) (by assumption) ?_; rotate_left
          · (intro w hSw; (try dsimp only at hSw); go_simp; try with_reducible rfl)
          try simp only [Act.put, zl, z0, z1]
          refine takeT (v := ?_) 8 rfl (by kernel_rfl) (by kernel_rfl) (by kernel_rfl) (by kernel_rfl) (fun _ _ _ h => h) (Or.inl ⟨by rfl, ?_⟩) (by assumption) ?_; rotate_left
          · (intro w hSw; (try dsimp only at hSw); go_simp; try with_reducible rfl)
          try simp only [Act.put, zl, z0, z1]
          refine takeT (v := ?_) 9 rfl (by kernel_rfl) (by kernel_rfl) (by kernel_rfl) (by kernel_rfl) (fun _ _ _ h => h) (Or.inl ⟨by rfl, ?_⟩) (by assumption) ?_; rotate_left
          · (intro w hSw; (try dsimp only at hSw); go_simp; try with_reducible rfl)
          try simp only [Act.put, zl, z0, z1]
          refine takeT (v := ?_) 10 rfl (by kernel_rfl) (by kernel_rfl) (by kernel_rfl) (by kernel_rfl) (fun _ _ _ h => h) (Or.inl ⟨by rfl, ?_⟩) (by assumption) ?_; rotate_left
          · (intro w hSw; (try dsimp only at hSw); go_simp; try with_reducible rfl)
          try simp only [Act.put, zl, z0, z1]
          refine takeT (v := ?_) 11 rfl (by kernel_rfl) (by kernel_rfl) (by kernel_rfl) (by kernel_rfl) (fun _ _ _ h => h) (Or.inl ⟨by rfl, ?_⟩) (by assumption) ?_; rotate_left
          · (intro w hSw; (try dsimp only at hSw); go_simp; try with_reducible rfl)
          try simp only [Act.put, zl, z0, z1]
          refine takeT (v := ?_) 12 rfl (by kernel_rfl) (by kernel_rfl) (by kernel_rfl) (by kernel_rfl) (fun _ _ _ h => h) (Or.inl ⟨by rfl, ?_⟩) (by assumption) ?_; rotate_left
          · (intro w hSw; (try dsimp only at hSw); go_simp; try with_reducible rfl)
          try simp only [Act.put, zl, z0, z1]
          refine takeT (v := ?_) 13 rfl (by kernel_rfl) (by kernel_rfl) (by kernel_rfl) (by kernel_rfl) (fun _ _ _ h => h) (Or.inl ⟨by rfl, ?_⟩) (by assumption) ?_; rotate_left
          · (intro w hSw; (try dsimp only at hSw); go_simp; try with_reducible rfl)
          try simp only [Act.put, zl, z0, z1]
          refine takeT (v := ?_) 14 rfl (by kernel_rfl) (by kernel_rfl) (by kernel_rfl) (by kernel_rfl) (fun _ _ _ h => h) (Or.inl ⟨by rfl, ?_⟩) (by assumption) ?_; rotate_left
          · (intro w hSw; (try dsimp only at hSw); go_simp; try with_reducible rfl)
          try simp only [Act.put, zl, z0, z1]
          refine takeT (v := ?_) 15 rfl (by kernel_rfl) (by kernel_rfl) (by kernel_rfl) (by kernel_rfl) (fun _ _ _ h => h) (Or.inl ⟨by rfl, ?_⟩) (by assumption) ?_; rotate_left
          · (intro w hSw; (try dsimp only at hSw); go_simp; try with_reducible rfl)
          try simp only [Act.put, zl, z0, z1]
          refine takeT (v := ?_) 16 rfl (by kernel_rfl) (by kernel_rfl) (by kernel_rfl) (by kernel_rfl) (fun _ _ _ h => h) (Or.inl ⟨by rfl, ?_⟩) (by assumption) ?_; rotate_left
          · (intro w hSw; (try dsimp only at hSw); go_simp; try with_reducible rfl)
          try simp only [Act.put, zl, z0, z1]
          refine wpAnyT_ready (rs := [17]) (by kernel_rfl) (by simp) ?_
          refine lastT rfl (fun K hK => ?_)
          (try dsimp only at hHeld0)
          go_simp
          refine hK.out _ _ ?_
          clear hK K
          try simp only [Act.put, zl, z0, z1]
          refine wpAnyT_done (by kernel_rfl) ?_ _
          obtain ⟨c1, hc1⟩ : ∃ c1, (if cm.x < a1 then cm.x else a1) = c1 := ⟨_, rfl⟩
          obtain ⟨c2, hc2⟩ : ∃ c2, (if a2 < cm.x then cm.x else a2) = c2 := ⟨_, rfl⟩
          obtain ⟨W1, hW1⟩ : ∃ W1, World.drew (World.setCell (World.setCell wr ⟨q, 0, none⟩ (.int .i64 c1)) ⟨q, 1, none⟩ (.int .i64 c2)) = W1 := ⟨_, rfl⟩
          have q1 : W1.heap[q]? = some (.cells #[.int .i64 c1, .int .i64 c2] 24 (0, 0)) := by rw [← hW1]; exact drew_blk (blk_set (blk_set HQ.out 0 _) 1 _)
          have r1 : W1.heap[r]? = some (.cells #[.int .i64 b1, .int .i64 b2] 24 (0, 0)) := by rw [← hW1]; exact drew_blk (blk_other (blk_other HK2.out (Ne.symm hqr) 0 _) (Ne.symm hqr) 1 _)
          have K1 : Keeps (fun y => y ≠ q ∧ y ≠ r) wr W1 := by rw [← hW1]; exact (((Keeps.refl _ wr).st (fun h => h.1 rfl)).st (fun h => h.1 rfl)).trans (Keeps.of_below (zbD (zbR _ _)))
          rw [hc1, hc2, hW1]
          clear hW1 hS
          have s1' := (K1.cell (b := g) (o := i * 4 + 1) ⟨hgq, hgr⟩ lgr).trans s1
          have qK1 := K1.rest.size
          have lg1 : g < W1.heap.size := by omega
          have lr1 : r < W1.heap.size := by omega
          have NX' := hide (show L.spTo (·.x) tc (i + 1) = (c1, c2) by rw [NX.out, ← hc1, ← hc2]; congr 1 <;> (split <;> omega))
          clear hc1 hc2 s1 s0
          go_upto_region 11 with fail
          have hS : (fun w' => g < w'.heap.size ∧ r < w'.heap.size ∧ w'.frozen? ⟨r, 0, none⟩ = false ∧ w'.frozen? ⟨r, 1, none⟩ = false ∧ w'.cell? ⟨r, 0, none⟩ = some (.int .i64 b1) ∧ w'.cell? ⟨r, 1, none⟩ = some (.int .i64 b2) ∧ w'.cell? ⟨g, i * 4 + 1, none⟩ = some (.int .i64 cm.y)) W1 := ⟨lg1, lr1, blk_frozen r1 0, blk_frozen r1 1, (blk_cell r1 0).trans rfl, (blk_cell r1 1).trans rfl, s1'⟩
          have HQ1 := hide q1
          have HR1 := hide r1
          clear q1 r1 s1'
          (try dsimp only at hS)
          refine wp_region_T_drew (S := (fun w' => g < w'.heap.size ∧ r < w'.heap.size ∧ w'.frozen? ⟨r, 0, none⟩ = false ∧ w'.frozen? ⟨r, 1, none⟩ = false ∧ w'.cell? ⟨r, 0, none⟩ = some (.int .i64 b1) ∧ w'.cell? ⟨r, 1, none⟩ = some (.int .i64 b2) ∧ w'.cell? ⟨g, i * 4 + 1, none⟩ = some (.int .i64 cm.y))) 17 (by kernel_rfl) ?_ (fun hHeld0 => ?_)
          · (try dsimp only); (first | (go_keep; done) | (go_split_ands; (repeat' apply And.intro) <;> first | (go_keep; done) | (simp [*, zcA, zcP, zfA, zfP]; done) | (simp [zcA, zcP] <;> rfl) | (simp [*, zsS, zsO, zsA]; done) | ((first | refine (hc _ _ ?_).trans ?_ | refine (hf _ _ ?_).trans ?_) <;> first | assumption | (simp; done) | (simp; omega) | omega | (go_keep; done) | (simp [*, zcA, zcP, zfA, zfP]; done) | (simp [zcA, zcP]; rfl)) | (repeat' first | exact zbR _ _ | assumption | refine zbD ?_ | refine zbA ?_ ?_ _ | refine zbS ?_ ?_ _ | refine zbT ?_ (by assumption) ?_ | (simp; done) | (simp; omega) | omega)))
          refine takeT (v := ?_) 0 rfl (by kernel_rfl) (by kernel_rfl) (by kernel_rfl) (by kernel_rfl) (fun _ _ _ h => h) (Or.inl ⟨by rfl, ?_⟩) (by assumption) ?_; rotate_left
          · (intro w hSw; (try dsimp only at hSw); go_simp; try with_reducible rfl)
          try simp only [Act.put, zl, z0, z1]
          refine takeT (v := ?_) 1 rfl (by kernel_rfl) (by kernel_rfl) (by kernel_rfl) (by kernel_rfl) (fun _ _ _ h => h) (Or.inl ⟨by rfl, ?_⟩) (by assumption) ?_; rotate_left
          · (intro w hSw; (try dsimp only at hSw); go_simp; try with_reducible rfl)
          try simp only [Act.put, zl, z0, z1]
          refine takeT (v := ?_) 2 rfl (by kernel_rfl) (by kernel_rfl) (by kernel_rfl) (by kernel_rfl) (fun _ _ _ h => h) (Or.inl ⟨by rfl, ?_⟩) (by assumption) ?_; rotate_left
          · (intro w hSw; (try dsimp only at hSw); go_simp; try with_reducible rfl)
          try simp only [Act.put, zl, z0, z1]
          refine takeT (v := ?_) 3 rfl (by kernel_rfl) (by kernel_rfl) (by kernel_rfl) (by kernel_rfl) (fun _ _ _ h => h) (Or.inl ⟨by rfl, ?_⟩) (by assumption) ?_; rotate_left
          · (intro w hSw; (try dsimp only at hSw); go_simp; try with_reducible rfl)
          try simp only [Act.put, zl, z0, z1]
          refine takeT (v := ?_) 4 rfl (by kernel_rfl) (by kernel_rfl) (by kernel_rfl) (by kernel_rfl) (fun _ _ _ h => h) (Or.inl ⟨by rfl, ?_⟩) (by assumption) ?_; rotate_left
          · (intro w hSw; (try dsimp only at hSw); go_simp; try with_reducible rfl)
          try simp only [Act.put, zl, z0, z1]
          refine takeT (v := ?_) 5 rfl (by kernel_rfl) (by kernel_rfl) (by kernel_rfl) (by kernel_rfl) (fun _ _ _ h => h) (Or.inl ⟨by rfl, ?_⟩) (by assumption) ?_; rotate_left
          · (intro w hSw; (try dsimp only at hSw); go_simp; try with_reducible rfl)
          try simp only [Act.put, zl, z0, z1]
          refine takeT (v := ?_) 6 rfl (by kernel_rfl) (by kernel_rfl) (by kernel_rfl) (by kernel_rfl) (fun _ _ _ h => h) (Or.inl ⟨by rfl, ?_⟩) (by assumption) ?_; rotate_left
          · (intro w hSw; (try dsimp only at hSw); go_simp; try with_reducible rfl)
          try simp only [Act.put, zl, z0, z1]
          refine takeT (v := ?_) 7 rfl (by kernel_rfl) (by kernel_rfl) (by kernel_rfl) (by kernel_rfl) (fun _ _ _ h => h) (Or.inl ⟨by rfl, ?_⟩) (by assumption) ?_; rotate_left
          · (intro w hSw; (try dsimp only at hSw); go_simp; try with_reducible rfl)
          try simp only [Act.put, zl, z0, z1]
          refine takeT (v := ?_) 8 rfl (by kernel_rfl) (by kernel_rfl) (by kernel_rfl) (by kernel_rfl) (fun _ _ _ h => h) (Or.inl ⟨by rfl, ?_⟩) (by assumption) ?_; rotate_left
          · (intro w hSw; (try dsimp only at hSw); go_simp; try with_reducible rfl)
          try simp only [Act.put, zl, z0, z1]
          refine takeT (v := ?_) 9 rfl (by kernel_rfl) (by kernel_rfl) (by kernel_rfl) (by kernel_rfl) (fun _ _ _ h => h) (Or.inl ⟨by rfl, ?_⟩) (by assumption) ?_; rotate_left
          · (intro w hSw; (try dsimp only at hSw); go_simp; try with_reducible rfl)
          try simp only [Act.put, zl, z0, z1]
          refine takeT (v := ?_) 10 rfl (by kernel_rfl) (by kernel_rfl) (by kernel_rfl) (by kernel_rfl) (fun _ _ _ h => h) (Or.inl ⟨by rfl, ?_⟩) (by assumption) ?_; rotate_left
          · (intro w hSw; (try dsimp only at hSw); go_simp; try with_reducible rfl)
          try simp only [Act.put, zl, z0, z1]
          refine takeT (v := ?_) 11 rfl (by kernel_rfl) (by kernel_rfl) (by kernel_rfl) (by kernel_rfl) (fun _ _ _ h => h) (Or.inl ⟨by rfl, ?_⟩) (by assumption) ?_; rotate_left
          · (intro w hSw; (try dsimp only at hSw); go_simp; try with_reducible rfl)
          try simp only [Act.put, zl, z0, z1]
          refine takeT (v := ?_) 12 rfl (by kernel_rfl) (by kernel_rfl) (by kernel_rfl) (by kernel_rfl) (fun _ _ _ h => h) (Or.inl ⟨by rfl, ?_⟩) (by assumption) ?_; rotate_left
          · (intro w hSw; (try dsimp only at hSw); go_simp; try with_reducible rfl)
          try simp only [Act.put, zl, z0, z1]
          refine takeT (v := ?_) 13 rfl (by kernel_rfl) (by kernel_rfl) (by kernel_rfl) (by kernel_rfl) (fun _ _ _ h => h) (Or.inl ⟨by rfl, ?_⟩) (by assumption) ?_; rotate_left
          · (intro w hSw; (try dsimp only at hSw); go_simp; try with_reducible rfl)
          try simp only [Act.put, zl, z0, z1]
          refine takeT (v := ?_) 14 rfl (by kernel_rfl) (by kernel_rfl) (by kernel_rfl) (by kernel_rfl) (fun _ _ _ h => h) (Or.inl ⟨by rfl, ?_⟩) (by assumption) ?_; rotate_left
          · (intro w hSw; (try dsimp only at hSw); go_simp; try with_reducible rfl)
          try simp only [Act.put, zl, z0, z1]
          refine takeT (v := ?_) 15 rfl (by kernel_rfl) (by kernel_rfl) (by kernel_rfl) (by kernel_rfl) (fun _ _ _ h => h) (Or.inl ⟨by rfl, ?_⟩) (by assumption) ?_; rotate_left
          · (intro w hSw; (try dsimp only at hSw); go_simp; try with_reducible rfl)
          try simp only [Act.put, zl, z0, z1]
          refine takeT (v := ?_) 16 rfl (by kernel_rfl) (by kernel_rfl) (by kernel_rfl) (by kernel_rfl) (fun _ _ _ h => h) (Or.inl ⟨by rfl, ?_⟩) (by assumption) ?_; rotate_left
          · (intro w hSw; (try dsimp only at hSw); go_simp; try with_reducible rfl)
          try simp only [Act.put, zl, z0, z1]
          refine wpAnyT_ready (rs := [17]) (by kernel_rfl) (by simp) ?_
          refine lastT rfl (fun K hK => ?_)
          (try dsimp only at hHeld0)
          go_simp
          refine hK.out _ _ ?_
          clear hK K
          try simp only [Act.put, zl, z0, z1]
          refine wpAnyT_done (by kernel_rfl) ?_ _
          obtain ⟨d1, hd1⟩ : ∃ d1, (if cm.y < b1 then cm.y else b1) = d1 := ⟨_, rfl⟩
          obtain ⟨d2, hd2⟩ : ∃ d2, (if b2 < cm.y then cm.y else b2) = d2 := ⟨_, rfl⟩
          rw [hd1, hd2]
          have NY' := hide (show L.spTo (·.y) tc (i + 1) = (d1, d2) by rw [NY.out, ← hd1, ← hd2]; congr 1 <;> (split <;> omega))
          clear hd1 hd2 hS
          go_wp2_with fail
          go_roundw
          case rel => exact ⟨i + 1, by omega, by go_num, hide (by rw [NX'.out]; exact drew_blk (blk_other (blk_other HQ1.out hqr 0 _) hqr 1 _)), hide (by rw [NY'.out]; exact drew_blk (blk_set (blk_set HR1.out 0 _) 1 _)), (hK.trans K1).trans ((((Keeps.refl _ W1).st (fun h => h.2 rfl)).st (fun h => h.2 rfl)).trans (Keeps.of_below (zbD (zbR _ _))))⟩
          case measure => simp [intOf]; omega
        · have hin : i = tc.length := by omega
          subst hin
          clear HC0
          go_upto_region 12 with fail
          have hS : (fun w' => q < w'.heap.size ∧ r < w'.heap.size ∧ w'.frozen? ⟨q, 0, none⟩ = false ∧ w'.frozen? ⟨q, 1, none⟩ = false ∧ w'.frozen? ⟨r, 0, none⟩ = false ∧ w'.frozen? ⟨r, 1, none⟩ = false ∧ w'.cell? ⟨q, 0, none⟩ = some (.int .i64 a1) ∧ w'.cell? ⟨q, 1, none⟩ = some (.int .i64 a2) ∧ w'.cell? ⟨r, 0, none⟩ = some (.int .i64 b1) ∧ w'.cell? ⟨r, 1, none⟩ = some (.int .i64 b2)) wr := ⟨lqr, lrr, blk_frozen k1 0, blk_frozen k1 1, blk_frozen k2 0, blk_frozen k2 1, (blk_cell k1 0).trans rfl, (blk_cell k1 1).trans rfl, (blk_cell k2 0).trans rfl, (blk_cell k2 1).trans rfl⟩
          clear k1 k2
          (try dsimp only at hS)
          refine wp_region_held_drew (S := (fun w' => q < w'.heap.size ∧ r < w'.heap.size ∧ w'.frozen? ⟨q, 0, none⟩ = false ∧ w'.frozen? ⟨q, 1, none⟩ = false ∧ w'.frozen? ⟨r, 0, none⟩ = false ∧ w'.frozen? ⟨r, 1, none⟩ = false ∧ w'.cell? ⟨q, 0, none⟩ = some (.int .i64 a1) ∧ w'.cell? ⟨q, 1, none⟩ = some (.int .i64 a2) ∧ w'.cell? ⟨r, 0, none⟩ = some (.int .i64 b1) ∧ w'.cell? ⟨r, 1, none⟩ = some (.int .i64 b2))) (by kernel_rfl) ?_ (fun hHeld0 => ?_)
          · (try dsimp only); (first | (go_keep; done) | (go_split_ands; (repeat' apply And.intro) <;> first | (go_keep; done) | (simp [*, zcA, zcP, zfA, zfP]; done) | (simp [zcA, zcP] <;> rfl) | (simp [*, zsS, zsO, zsA]; done) | ((first | refine (hc _ _ ?_).trans ?_ | refine (hf _ _ ?_).trans ?_) <;> first | assumption | (simp; done) | (simp; omega) | omega | (go_keep; done) | (simp [*, zcA, zcP, zfA, zfP]; done) | (simp [zcA, zcP]; rfl)) | (repeat' first | exact zbR _ _ | assumption | refine zbD ?_ | refine zbA ?_ ?_ _ | refine zbS ?_ ?_ _ | refine zbT ?_ (by assumption) ?_ | (simp; done) | (simp; omega) | omega)))
          refine tL (v := ?_) 0 rfl (by kernel_rfl) (fun _ _ _ h => h) (Or.inl ⟨by rfl, ?_⟩) (by assumption) ?_; rotate_left
          · (intro w hSw; (try dsimp only at hSw); go_simp; try with_reducible rfl)
          try simp only [Act.put, zl, z0, z1]
          refine tL (v := ?_) 1 rfl (by kernel_rfl) (fun _ _ _ h => h) (Or.inl ⟨by rfl, ?_⟩) (by assumption) ?_; rotate_left
          · (intro w hSw; (try dsimp only at hSw); go_simp; try with_reducible rfl)
          try simp only [Act.put, zl, z0, z1]
          refine tL (v := ?_) 2 rfl (by kernel_rfl) (fun _ _ _ h => h) (Or.inl ⟨by rfl, ?_⟩) (by assumption) ?_; rotate_left
          · (intro w hSw; (try dsimp only at hSw); go_simp; try with_reducible rfl)
          try simp only [Act.put, zl, z0, z1]
          refine tL (v := ?_) 3 rfl (by kernel_rfl) (fun _ _ _ h => h) (Or.inl ⟨by rfl, ?_⟩) (by assumption) ?_; rotate_left
          · (intro w hSw; (try dsimp only at hSw); go_simp; try with_reducible rfl)
          try simp only [Act.put, zl, z0, z1]
          refine tL (v := ?_) 4 rfl (by kernel_rfl) (fun _ _ _ h => h) (Or.inl ⟨by rfl, ?_⟩) (by assumption) ?_; rotate_left
          · (intro w hSw; (try dsimp only at hSw); go_simp; try with_reducible rfl)
          try simp only [Act.put, zl, z0, z1]
          refine wpAnyH_ready (rs := [5]) (by kernel_rfl) (by simp) ?_
          refine consL 5 rfl (fun K hK => ?_) AllReadyH.nil
          go_simp
          refine hK.out _ _ ?_ (fun hHeld1 => ?_)
          · (try dsimp only); (first | (go_keep; done) | (go_split_ands; (repeat' apply And.intro) <;> first | (go_keep; done) | (simp [*, zcA, zcP, zfA, zfP]; done) | (simp [zcA, zcP] <;> rfl) | (simp [*, zsS, zsO, zsA]; done) | ((first | refine (hc _ _ ?_).trans ?_ | refine (hf _ _ ?_).trans ?_) <;> first | assumption | (simp; done) | (simp; omega) | omega | (go_keep; done) | (simp [*, zcA, zcP, zfA, zfP]; done) | (simp [zcA, zcP]; rfl)) | (repeat' first | exact zbR _ _ | assumption | refine zbD ?_ | refine zbA ?_ ?_ _ | refine zbS ?_ ?_ _ | refine zbT ?_ (by assumption) ?_ | (simp; done) | (simp; omega) | omega)))
          clear hK K hHeld0
          try simp only [Act.put, zl, z0, z1]
          refine wpAnyH_ready (rs := [6]) (by kernel_rfl) (by simp) ?_
          refine consL 6 rfl (fun K hK => ?_) AllReadyH.nil
          go_simp
          refine hK.out _ _ ?_ (fun hHeld2 => ?_)
          · (try dsimp only); (first | (go_keep; done) | (go_split_ands; (repeat' apply And.intro) <;> first | (go_keep; done) | (simp [*, zcA, zcP, zfA, zfP]; done) | (simp [zcA, zcP] <;> rfl) | (simp [*, zsS, zsO, zsA]; done) | ((first | refine (hc _ _ ?_).trans ?_ | refine (hf _ _ ?_).trans ?_) <;> first | assumption | (simp; done) | (simp; omega) | omega | (go_keep; done) | (simp [*, zcA, zcP, zfA, zfP]; done) | (simp [zcA, zcP]; rfl)) | (repeat' first | exact zbR _ _ | assumption | refine zbD ?_ | refine zbA ?_ ?_ _ | refine zbS ?_ ?_ _ | refine zbT ?_ (by assumption) ?_ | (simp; done) | (simp; omega) | omega)))
          clear hK K hHeld1
          try simp only [Act.put, zl, z0, z1]
          refine tL (v := ?_) 7 rfl (by kernel_rfl) (fun _ _ _ h => h) (Or.inl ⟨by rfl, ?_⟩) (by assumption) ?_; rotate_left
          · (intro w hSw; (try dsimp only at hSw); go_simp; try with_reducible rfl)
          try simp only [Act.put, zl, z0, z1]
          refine wpAnyH_done (by kernel_rfl) ?_ _
          go_wp2_with fail
          rw [E1.out, E2.out, E3.out, E4.out, ha1, ha2, hb1, hb2]
          refine bodyPost_ret (v := .tuple #[.int .i64 (tc.length : Int), .agg #[.int .i64 a1, .int .i64 a2], .agg #[.int .i64 b1, .int .i64 b2], .int .i64 0]) (refcen_results (blk_other (blk_other (blk_set (blk_set (drew_blk HQ.out) 0 _) 1 _) hqr 0 _) hqr 1 _) (blk_set (blk_set (blk_other (blk_other (drew_blk HRB.out) (Ne.symm hqr) 0 _) (Ne.symm hqr) 1 _) 0 _) 1 _) rfl rfl rfl rfl rfl rfl) rfl ?_
          exact ⟨rfl, zbS (zbS (zbS (zbS (zbD (HBW.out.trans (hK.below (n := w.heap.size) (fun y hy => ⟨by omega, by omega⟩) (by have := HBW.out.size; omega)))) hpq _) hpq _) hpr _) hpr _⟩
  · have E1 := hide (show L.cenN v = 0 by unfold L.cenN; rw [if_neg (by rw [h]; omega)])
    have E2 := hide (show L.cenX v = (0, 0) by unfold L.cenX; rw [if_neg (by rw [h]; omega)])
    have E3 := hide (show L.cenY v = (0, 0) by unfold L.cenY; rw [if_neg (by rw [h]; omega)])
    have E4 := hide (show L.cenE v = 20 by unfold L.cenE; rw [if_neg (by rw [h]; omega)]; exact h)
    have H := hide h
    clear h
    go_wp2_with (go_at_call 23; refine (RefCheck_any v A n c _ HN.out ((HR0.out.below (by (repeat' first | exact zbR _ _ | assumption | refine zbD ?_ | refine zbA ?_ ?_ _ | refine zbS ?_ ?_ _ | refine zbT ?_ (by assumption) ?_ | (simp; done) | (simp; omega) | omega))).mono (by first | (simp; done) | (simp; omega) | omega))).mono ?_; rintro e w3 ⟨rfl, hb3⟩; rw [H.out]; have k3 := (hb3.block q (by omega)).trans G3.out; have k4 := (hb3.block r (by omega)).trans G4.out; have c3 := (blk_cell k3 0).trans rfl; have c4 := (blk_cell k3 1).trans rfl; have c5 := (blk_cell k4 0).trans rfl; have c6 := (blk_cell k4 1).trans rfl; have f3 := blk_frozen k3 0; have f4 := blk_frozen k3 1; have f5 := blk_frozen k4 0; have f6 := blk_frozen k4 1; have K3 := hide k3; have K4 := hide k4; clear k3 k4)
    rw [E1.out, E2.out, E3.out, E4.out]
    refine bodyPost_ret (v := .tuple #[.int .i64 0, .agg #[.int .i64 0, .int .i64 0], .agg #[.int .i64 0, .int .i64 0], .int .i64 20]) (refcen_results (blk_other (blk_other (blk_set (blk_set K3.out 0 (.int .i64 0)) 1 (.int .i64 0)) hqr 0 (.int .i64 0)) hqr 1 (.int .i64 0)) (blk_set (blk_set (blk_other (blk_other K4.out (Ne.symm hqr) 0 (.int .i64 0)) (Ne.symm hqr) 1 (.int .i64 0)) 0 (.int .i64 0)) 1 (.int .i64 0)) rfl rfl rfl rfl rfl rfl) rfl ?_
    exact ⟨rfl, zbS (zbS (zbS (zbS (GB.out.trans (hb3.mono GB.out.size)) hpq _) hpq _) hpr _) hpr _⟩

end Go.Proofs.Ytgnobonhohfofaa

namespace Go.Proofs.Ytgnobonhohfofaa
open Go.RowKit
attribute [local go_sem ↓] Go.wp_at_zero Go.wp_at_succ

theorem refCheck_N (v : L.Vw) (A : Option Addr) (n c N : Nat) (w : World) (hN : v.size = (N : Int)) (hn : v.ss.length = n) (hr : RdS w w.heap.size A v.ss) :
    Calls Try.prog 23 #[.agg #[.int .i64 (N : Int), .slice A n c, .int .i64 v.wrong, .int .i64 v.hxl, .int .i64 v.hxh, .int .i64 v.hyl, .int .i64 v.hyh]] w fun e w' => e = .returned (.int .i64 (L.checkE v)) ∧ Below w.heap.size w w' := by
  rw [← hN]
  exact RefCheck_any v A n c w hn hr

set_option maxRecDepth 100000 in
set_option maxHeartbeats 6400000 in
theorem refFewest_any (v : L.Vw) (A : Option Addr) (n c : Nat) (w : World) (hn : v.ss.length = n) (hr : RdS w w.heap.size A v.ss) :
    Calls Try.prog 39 #[.agg #[.int .i64 v.size, .slice A n c, .int .i64 v.wrong, .int .i64 v.hxl, .int .i64 v.hxh, .int .i64 v.hyl, .int .i64 v.hyh]] w fun e w' => e = .returned (.tuple #[.int .i64 (L.fewV v), .int .i64 (L.fewE v)]) ∧ Below w.heap.size w w' := by
  have HN := hide hn
  have HR := hide hr
  rcases L.checkE_cases v with h | h
  · have hv := L.checkE_ok h
    have HV := hide hv
    have H := hide h
    obtain ⟨N, hN⟩ : ∃ N : Nat, v.size = (N : Int) := ⟨v.size.toNat, (Int.toNat_of_nonneg hv.s0).symm⟩
    have hN40 : N ≤ 40 := by have := hv.s1; omega
    have hn8 : n ≤ 8 := by have := hv.n8; omega
    have E1 := hide (show L.fewV v = L.fwTo v N (N + 1) 0 by unfold L.fewV L.fewest; rw [if_pos h, L.fwTo_all, show v.size.toNat = N by omega]; rfl)
    have E2 := hide (show L.fewE v = 0 from h)
    have HSz := hide hN
    clear hn hr hv h
    go_enter Try.func39, Try.ntmps39
    go_upto_region 1 with fail
    rw [hN]
    obtain ⟨W0, hW0⟩ : ∃ W0, w.alloc (.cells #[.int .i64 (N : Int), .slice A n c, .int .i64 v.wrong, .int .i64 v.hxl, .int .i64 v.hxh, .int .i64 v.hyl, .int .i64 v.hyh] 26) = W0 := ⟨_, rfl⟩
    have gp : W0.heap[w.heap.size]? = some (.cells #[.int .i64 (N : Int), .slice A n c, .int .i64 v.wrong, .int .i64 v.hxl, .int .i64 v.hxh, .int .i64 v.hyl, .int .i64 v.hyh] 26 (0, 0)) := by
      rw [← hW0]; exact World.alloc_heap_new _ _
    have gs : W0.heap.size = w.heap.size + 1 := by rw [← hW0]; simp
    have gB : Below w.heap.size w W0 := by rw [← hW0]; (repeat' first | exact zbR _ _ | assumption | refine zbD ?_ | refine zbA ?_ ?_ _ | refine zbS ?_ ?_ _ | refine zbT ?_ (by assumption) ?_ | (simp; done) | (simp; omega) | omega)
    rw [hW0]
    clear hW0 hN
    obtain ⟨p, hp⟩ : ∃ p, w.heap.size = p := ⟨_, rfl⟩
    rw [hp]
    rw [hp] at gp
    have lp : p < W0.heap.size := by omega
    have HR0 := hide ((HR.out.below gB).mono gB.size)
    have HP := hide hp
    have GB := hide gB
    have GP := hide gp
    have cp0 := (blk_cell gp 0).trans rfl; have cp1 := (blk_cell gp 1).trans rfl; have cp2 := (blk_cell gp 2).trans rfl; have cp3 := (blk_cell gp 3).trans rfl; have cp4 := (blk_cell gp 4).trans rfl; have cp5 := (blk_cell gp 5).trans rfl; have cp6 := (blk_cell gp 6).trans rfl
    clear gp gB HR hp gs
    go_upto_region 3 with (go_at_call 23; refine (refCheck_N v A n c N _ HSz.out HN.out ((HR0.out.below (by (repeat' first | exact zbR _ _ | assumption | refine zbD ?_ | refine zbA ?_ ?_ _ | refine zbS ?_ ?_ _ | refine zbT ?_ (by assumption) ?_ | (simp; done) | (simp; omega) | omega))).mono (by first | (simp; done) | (simp; omega) | omega))).mono ?_; rintro e w2 ⟨rfl, hb2⟩; rw [H.out]; obtain ⟨hc2, hf2⟩ := bcell hb2; have q2 := hb2.size; have z2_p : p < w2.heap.size := (by omega))
    go_upto_region 5 with fail
    have bp2 := (hb2.block p lp).trans GP.out
    have GP2 := hide bp2
    have HR2 := hide ((HR0.out.below hb2).mono hb2.size)
    have GB2 := hide (GB.out.trans (hb2.mono GB.out.size))
    have E0 := hide (show L.fwTo v N 0 0 = (n : Int) by rw [L.fwTo_zero, HN.out])
    clear cp0 cp1 cp2 cp3 cp4 cp5 cp6 bp2 hc2 hf2 hb2 q2 lp GB GP HR0
    go_loopw [4, 5] (fun m t wr => ∃ i : Nat, i ≤ N + 1 ∧ t = .int .i64 i ∧ m = .int .i64 (L.fwTo v N i 0) ∧ Below w2.heap.size w2 wr) (fun _ t _ => N + 1 - (intOf t).toNat)
    case atStart => exact ⟨0, by omega, rfl, by rw [E0.out], Below.refl _ _⟩
    case round =>
      obtain ⟨i, hi, rfl, rfl, hB⟩ := hrel
      have qB := hB.size
      have bp := (hB.block p z2_p).trans GP2.out
      have cp0 := (blk_cell bp 0).trans rfl; have cp1 := (blk_cell bp 1).trans rfl; have cp2 := (blk_cell bp 2).trans rfl; have cp3 := (blk_cell bp 3).trans rfl; have cp4 := (blk_cell bp 4).trans rfl; have cp5 := (blk_cell bp 5).trans rfl; have cp6 := (blk_cell bp 6).trans rfl
      have lpr : p < wr.heap.size := by omega
      have hi0 : (0 : Int) ≤ (i : Int) := by omega
      have hi1 : (i : Int) ≤ 41 := by omega
      clear bp
      by_cases hlt : i < N + 1
      · have hlt' : (i : Int) ≤ (N : Int) := by omega
        go_wp2_with fail
        clear cp0 cp1 cp2 cp3 cp4 cp5 cp6
        go_loopw [4, 6] (fun m t wq => ∃ j : Nat, j ≤ N + 1 ∧ t = .int .i64 j ∧ m = .int .i64 (L.fwTo v N i j) ∧ Below w2.heap.size w2 wq) (fun _ t _ => N + 1 - (intOf t).toNat)
        case atStart => exact ⟨0, by omega, rfl, rfl, hB⟩
        case round =>
          clear hB qB lpr
          obtain ⟨j, hj, rfl, rfl, hB⟩ := hrel
          have qB := hB.size
          have bp := (hB.block p z2_p).trans GP2.out
          have cp0 := (blk_cell bp 0).trans rfl; have cp1 := (blk_cell bp 1).trans rfl; have cp2 := (blk_cell bp 2).trans rfl; have cp3 := (blk_cell bp 3).trans rfl; have cp4 := (blk_cell bp 4).trans rfl; have cp5 := (blk_cell bp 5).trans rfl; have cp6 := (blk_cell bp 6).trans rfl
          have lpr : p < wr.heap.size := by omega
          have hj0 : (0 : Int) ≤ (j : Int) := by omega
          have hj1 : (j : Int) ≤ 41 := by omega
          clear bp
          by_cases hlt2 : j < N + 1
          · have hlt2' : (j : Int) ≤ (N : Int) := by omega
            have HRr := hide ((HR2.out.below hB).mono qB)
            have HNX := hide (L.fwTo_next v N i j)
            obtain ⟨b0, b1⟩ := L.fwTo_bd v N i j
            obtain ⟨mm, hmm⟩ : ∃ mm, L.fwTo v N i j = mm := ⟨_, rfl⟩
            rw [hmm] at HNX b0 b1 ⊢
            obtain ⟨ln, hln⟩ : ∃ ln, (L.wrongL v (i : Int) (j : Int)).length = ln := ⟨_, rfl⟩
            have HLN := hide hln
            have hln8 : (ln : Int) ≤ 8 := by rw [← hln, L.wrongL_length]; have := L.many_le v.ss (i : Int) (j : Int) 0; have := HN.out; omega
            have hmm8 : mm ≤ 8 := by have := HN.out; omega
            clear hln hmm
            go_wp2_with (go_at_call 50; refine (refWrong_N v A n c N (i : Int) (j : Int) _ HSz.out HN.out ((HRr.out.below (by (repeat' first | exact zbR _ _ | assumption | refine zbD ?_ | refine zbA ?_ ?_ _ | refine zbS ?_ ?_ _ | refine zbT ?_ (by assumption) ?_ | (simp; done) | (simp; omega) | omega))).mono (by first | (simp; done) | (simp; omega) | omega)) HV.out.w.ok hn8 hi0 (by omega) hj0 (by omega)).mono ?_; rintro e w6 ⟨sv6, c6, rfl, hown6, hb6⟩; clear hown6; rw [HLN.out])
            all_goals
              go_roundw
              case rel => exact ⟨j + 1, by omega, by go_num, by rw [HNX.out, HLN.out]; first | rfl | (congr 1; omega), hB.trans (hb6.mono (by omega))⟩
              case measure => simp [intOf]; omega
          · have hjn : j = N + 1 := by omega
            subst hjn
            go_wp2_with fail
            go_roundw
            case rel => exact ⟨i + 1, by omega, by go_num, by rw [L.fwTo_row], hB⟩
            case measure => simp [intOf]; omega
      · have hin : i = N + 1 := by omega
        subst hin
        go_wp2_with fail
        go_ret2
        exact ⟨by rw [E1.out, E2.out]; rfl, GB2.out.trans (hB.mono GB2.out.size)⟩
  · have H := hide h
    have E1 := hide (show L.fewV v = 0 by unfold L.fewV; rw [if_neg (by omega)])
    have E2 := hide (show L.fewE v = 20 from h)
    clear hn hr h
    go_enter Try.func39, Try.ntmps39
    go_wp2_with (go_at_call 23; refine (RefCheck_any v A n c _ HN.out ((HR.out.below (by (repeat' first | exact zbR _ _ | assumption | refine zbD ?_ | refine zbA ?_ ?_ _ | refine zbS ?_ ?_ _ | refine zbT ?_ (by assumption) ?_ | (simp; done) | (simp; omega) | omega))).mono (by first | (simp; done) | (simp; omega) | omega))).mono ?_; rintro e w2 ⟨rfl, hb2⟩; rw [H.out]; obtain ⟨hc2, hf2⟩ := bcell hb2; have q2 := hb2.size; (try simp only [World.size_alloc] at q2); have z2_0 : w.heap.size < w2.heap.size := (by omega))
    go_ret2
    exact ⟨by rw [E1.out, E2.out]; rfl, by (repeat' first | exact zbR _ _ | assumption | refine zbD ?_ | refine zbA ?_ ?_ _ | refine zbS ?_ ?_ _ | refine zbT ?_ (by assumption) ?_ | (simp; done) | (simp; omega) | omega)⟩

set_option maxHeartbeats 4000000 in
theorem refIn_any (A : Option Addr) (n c : Nat) (xs : List Int) (z : Int) (w : World) (hn : xs.length = n) (hr : RdI w w.heap.size A xs) (hm : n ≤ 1000000) :
    Calls Try.prog 65 #[.slice A n c, .int .i64 z] w fun e w' => e = .returned (.bool (decide (z ∈ xs))) ∧ Below w.heap.size w w' := by
  have HN := hide hn
  have HR := hide hr
  clear hn hr
  go_enter Try.func65, Try.ntmps65
  go_wp2_with fail
  go_loopw [5] (fun i wr => ∃ k : Nat, k ≤ n ∧ i = .int .i64 k ∧ Hid (z ∉ xs.take k) ∧ Below w.heap.size w wr) (fun i _ => n - (intOf i).toNat)
  case atStart => exact ⟨0, by omega, rfl, hide (by simp), Below.refl _ _⟩
  case round =>
    obtain ⟨k, hk, rfl, hZ, hB⟩ := hrel
    by_cases hlt : k < n
    · obtain ⟨x, hx⟩ : ∃ q, xs[k]? = some q := ⟨_, List.getElem?_eq_getElem (by have := HN.out; omega)⟩
      obtain ⟨b, o, hA, hbB, c0⟩ := (HR.out.below hB) k x hx
      subst hA
      have hlt' : (k : Int) < (n : Int) := by omega
      have hk0 : (0 : Int) ≤ (k : Int) := by omega
      have HX := hide hx
      clear hx
      by_cases he : x = z
      · subst he
        have HM := hide (show decide (x ∈ xs) = true from decide_eq_true (List.mem_of_getElem? HX.out))
        go_wp2_with fail
        go_ret
        exact ⟨by rw [HM.out]; rfl, hB⟩
      · have HZ := hide (show z ∉ xs.take (k + 1) by
          rw [List.take_add_one, HX.out, Option.toList_some, List.mem_append, List.mem_singleton]
          rintro (h | h)
          · exact hZ.out h
          · exact he h.symm)
        have d0 : (x == z) = false := by simpa using he
        clear he
        go_wp2_with fail
        go_roundw
        case rel => exact ⟨k + 1, by omega, by go_num, HZ, hB⟩
        case measure => simp [intOf]; omega
    · have hkn : k = n := by omega
      subst hkn
      have HM := hide (show decide (z ∈ xs) = false from decide_eq_false (by have := hZ.out; rwa [List.take_of_length_le (by have := HN.out; omega)] at this))
      go_wp2_with fail
      go_ret
      exact ⟨by rw [HM.out]; rfl, hB⟩

end Go.Proofs.Ytgnobonhohfofaa

namespace Go.Proofs.Ytgnobonhohfofaa
open Go.RowKit
attribute [local go_sem ↓] Go.wp_at_zero Go.wp_at_succ

set_option maxRecDepth 100000 in
set_option maxHeartbeats 6400000 in
theorem refBlame_yes (v : L.Vw) (A : Option Addr) (n c : Nat) (w : World) (hn : v.ss.length = n) (hr : RdS w w.heap.size A v.ss) (h : L.checkE v = 0) (h0 : L.tcents v 0 ≠ []) :
    Calls Try.prog 40 #[.agg #[.int .i64 v.size, .slice A n c, .int .i64 v.wrong, .int .i64 v.hxl, .int .i64 v.hxh, .int .i64 v.hyl, .int .i64 v.hyh]] w fun e w' => BlmPost v w e w' := by
  have HN := hide hn
  have HR := hide hr
  have hv := L.checkE_ok h
  have HV := hide hv
  have H := hide h
  have hn8 : n ≤ 8 := by have := hv.n8; omega
  obtain ⟨N, hN⟩ : ∃ N : Nat, v.size = (N : Int) := ⟨v.size.toNat, (Int.toNat_of_nonneg hv.s0).symm⟩
  have HSz := hide hN
  obtain ⟨tc, htc⟩ : ∃ tc, (L.tcents v 0).map L.mk0 = tc := ⟨_, rfl⟩
  have HTC := hide htc
  have hlen : tc.length ≤ 1681 := by rw [← htc, List.length_map]; exact L.tcents_length hv 0
  have hpos : tc.length ≠ 0 := by rw [← htc, List.length_map]; exact fun e => h0 (List.eq_nil_of_length_eq_zero e)
  have E1 := hide (show L.blmL v = L.blmFrom v n by unfold L.blmL; rw [if_pos h, if_neg h0, hn])
  have E2 := hide (show L.blmE v = 0 by unfold L.blmE; rw [if_pos h, if_neg h0])
  have HALL := hide (show ∀ i, L.alw v tc i tc.length = decide (L.cnt v (L.tcents v 0) i = (L.tcents v 0).length) from fun i => by rw [← htc]; exact L.alw_all v _ i)
  have HXY := hide (show ∀ m ∈ tc, 0 ≤ m.x ∧ m.x ≤ 40 ∧ 0 ≤ m.y ∧ m.y ≤ 40 by
    intro m hm
    rw [← htc] at hm
    obtain ⟨d, hd, rfl⟩ := List.mem_map.1 hm
    obtain ⟨⟨a1, a2, a3, a4⟩, _⟩ := (L.mem_tcents hv).1 hd
    have := hv.s1
    exact ⟨a1, by show d.1 ≤ 40; omega, a3, by show d.2 ≤ 40; omega⟩)
  clear hn hr hv h h0 hN htc
  go_enter Try.func40, Try.ntmps40
  go_upto_region 1 with fail
  obtain ⟨W0, hW0⟩ : ∃ W0, w.alloc (.cells #[.int .i64 v.size, .slice A n c, .int .i64 v.wrong, .int .i64 v.hxl, .int .i64 v.hxh, .int .i64 v.hyl, .int .i64 v.hyh] 26) = W0 := ⟨_, rfl⟩
  have gp : W0.heap[w.heap.size]? = some (.cells #[.int .i64 v.size, .slice A n c, .int .i64 v.wrong, .int .i64 v.hxl, .int .i64 v.hxh, .int .i64 v.hyl, .int .i64 v.hyh] 26 (0, 0)) := by
    rw [← hW0]; exact World.alloc_heap_new _ _
  have gs : W0.heap.size = w.heap.size + 1 := by rw [← hW0]; simp
  have gB : Below w.heap.size w W0 := by rw [← hW0]; (repeat' first | exact zbR _ _ | assumption | refine zbD ?_ | refine zbA ?_ ?_ _ | refine zbS ?_ ?_ _ | refine zbT ?_ (by assumption) ?_ | (simp; done) | (simp; omega) | omega)
  rw [hW0]
  clear hW0
  obtain ⟨p, hp⟩ : ∃ p, w.heap.size = p := ⟨_, rfl⟩
  rw [hp]
  rw [hp] at gp
  have lp : p < W0.heap.size := by omega
  have HR0 := hide ((HR.out.below gB).mono gB.size)
  have HP := hide hp
  have GB := hide gB
  have GP := hide gp
  have cp0 := (blk_cell gp 0).trans rfl; have cp1 := (blk_cell gp 1).trans rfl; have cp2 := (blk_cell gp 2).trans rfl; have cp3 := (blk_cell gp 3).trans rfl; have cp4 := (blk_cell gp 4).trans rfl; have cp5 := (blk_cell gp 5).trans rfl; have cp6 := (blk_cell gp 6).trans rfl
  clear gp gB HR hp gs
  have dpos : ((tc.length : Int) == 0) = false := by simp only [beq_eq_false_iff_ne, ne_eq]; omega
  go_upto_region 8 with (first | (go_at_call 23; refine (RefCheck_any v A n c _ HN.out ((HR0.out.below (by (repeat' first | exact zbR _ _ | assumption | refine zbD ?_ | refine zbA ?_ ?_ _ | refine zbS ?_ ?_ _ | refine zbT ?_ (by assumption) ?_ | (simp; done) | (simp; omega) | omega))).mono (by first | (simp; done) | (simp; omega) | omega))).mono ?_; rintro e w2 ⟨rfl, hb2⟩; rw [H.out]; obtain ⟨hc2, hf2⟩ := bcell hb2; have q2 := hb2.size; have z2_p : p < w2.heap.size := (by omega)) | (go_at_call 64; refine (refCents_any v A n c N _ HV.out.w HSz.out HN.out ((HR0.out.below (by (repeat' first | exact zbR _ _ | assumption | refine zbD ?_ | refine zbA ?_ ?_ _ | refine zbS ?_ ?_ _ | refine zbT ?_ (by assumption) ?_ | (simp; done) | (simp; omega) | omega))).mono (by first | (simp; done) | (simp; omega) | omega))).mono ?_; rintro e w3 ⟨svc, cc, rfl, hownc, hb3⟩; rw [HTC.out] at hownc ⊢; have q3 := hb3.size; have z3_p : p < w3.heap.size := (by omega)))
  have GP3 := hide ((hb3.block p z2_p).trans ((hb2.block p lp).trans GP.out))
  have HB23 := hide (hb2.trans (hb3.mono q2))
  have HR3 := hide ((HR0.out.below HB23.out).mono (B' := w3.heap.size) (by have := HB23.out.size; omega))
  have GB3 := hide (GB.out.trans (HB23.out.mono GB.out.size))
  have HC := hide hownc
  have hw3 : w.heap.size ≤ w3.heap.size := GB3.out.size
  clear cp0 cp1 cp2 cp3 cp4 cp5 cp6 hc2 hf2 hb2 hb3 q2 q3 z2_p lp GP GB HR0 hownc dpos HB23
  go_loopw [5, 6] (fun m t wr => ∃ i : Nat, i ≤ n ∧ t = .int .i64 i ∧ (∃ sv c', m = .slice sv (L.blmFrom v i).length c' ∧ Hid (wr.ownsRow w3.heap.size 3 1 (.slice sv (L.blmFrom v i).length c') (L.blmFrom v i).length (flatI (L.blmFrom v i)))) ∧ Below w3.heap.size w3 wr) (fun _ t _ => n - (intOf t).toNat)
  case atStart => exact ⟨0, by omega, rfl, ⟨none, 0, rfl, hide (World.ownsRow_nil _ _ _ _)⟩, Below.refl _ _⟩
  case round =>
    obtain ⟨i, hi, rfl, ⟨sv, c', rfl, hown⟩, hB⟩ := hrel
    have qB := hB.size
    have bp := (hB.block p z3_p).trans GP3.out
    have cp0 := (blk_cell bp 0).trans rfl; have cp1 := (blk_cell bp 1).trans rfl; have cp2 := (blk_cell bp 2).trans rfl; have cp3 := (blk_cell bp 3).trans rfl; have cp4 := (blk_cell bp 4).trans rfl; have cp5 := (blk_cell bp 5).trans rfl; have cp6 := (blk_cell bp 6).trans rfl
    have lpr : p < wr.heap.size := by omega
    have hi0 : (0 : Int) ≤ (i : Int) := by omega
    have hle := L.blmFrom_le v i
    clear bp
    by_cases hlt : i < n
    · have hlt' : (i : Int) < (n : Int) := by omega
      have HOW := hide (show wr.ownsRow w3.heap.size 3 1 (.slice sv (L.blmFrom v i).length c') (L.blmFrom v i).length (flatI (L.blmFrom v i)) from hown.out)
      go_upto_region 12 with fail
      clear cp0 cp1 cp2 cp3 cp4 cp5 cp6 lpr
      obtain ⟨Wi, hWi⟩ : ∃ Wi, wr = Wi := ⟨_, rfl⟩
      rw [hWi] at HOW hB qB ⊢
      have HBi := hide hB
      clear hWi hown hB
      go_loopw [7, 8] (fun m t wq => ∃ k : Nat, k ≤ tc.length ∧ t = .int .i64 k ∧ m = .bool (L.alw v tc i k) ∧ Below Wi.heap.size Wi wq) (fun _ t _ => tc.length - (intOf t).toNat)
      case atStart => exact ⟨0, by omega, rfl, rfl, Below.refl _ _⟩
      case round =>
        obtain ⟨k, hk, rfl, rfl, hBq⟩ := hrel
        have qq := hBq.size
        have hB3 : Below w3.heap.size w3 wr := HBi.out.trans (hBq.mono HBi.out.size)
        have bp := (hB3.block p z3_p).trans GP3.out
        have cp0 := (blk_cell bp 0).trans rfl; have cp1 := (blk_cell bp 1).trans rfl; have cp2 := (blk_cell bp 2).trans rfl; have cp3 := (blk_cell bp 3).trans rfl; have cp4 := (blk_cell bp 4).trans rfl; have cp5 := (blk_cell bp 5).trans rfl; have cp6 := (blk_cell bp 6).trans rfl
        have lpr : p < wr.heap.size := by omega
        have hk0 : (0 : Int) ≤ (k : Int) := by omega
        clear bp
        by_cases hlk : k < tc.length
        · obtain ⟨cm, hcm⟩ : ∃ cm, tc[k]? = some cm := ⟨_, List.getElem?_eq_getElem hlk⟩
          have hlk' : (k : Int) < (tc.length : Int) := by omega
          obtain ⟨x0, x1, y0, y1⟩ := HXY.out cm (List.mem_of_getElem? hcm)
          have HNX := hide (L.alw_next (v := v) hcm i)
          cases ha : L.alw v tc i k
          · rw [ha] at HNX
            clear hcm
            go_upto_region 14 with fail
            have hS : (fun w' => Below Wi.heap.size Wi w') wr := hBq
            refine wp_region_held_drew (S := (fun w' => Below Wi.heap.size Wi w')) (by kernel_rfl) ?_ (fun hHeld0 => ?_)
            · (try dsimp only); (first | (go_keep; done) | (go_split_ands; (repeat' apply And.intro) <;> first | (go_keep; done) | (simp [*, zcA, zcP, zfA, zfP]; done) | (simp [zcA, zcP] <;> rfl) | (simp [*, zsS, zsO, zsA]; done) | ((first | refine (hc _ _ ?_).trans ?_ | refine (hf _ _ ?_).trans ?_) <;> first | assumption | (simp; done) | (simp; omega) | omega | (go_keep; done) | (simp [*, zcA, zcP, zfA, zfP]; done) | (simp [zcA, zcP]; rfl)) | (repeat' first | exact zbR _ _ | assumption | refine zbD ?_ | refine zbA ?_ ?_ _ | refine zbS ?_ ?_ _ | refine zbT ?_ (by assumption) ?_ | (simp; done) | (simp; omega) | omega)))
            refine tL (v := ?_) 0 rfl (by kernel_rfl) (fun _ _ _ h => h) (Or.inl ⟨by rfl, ?_⟩) (by assumption) ?_; rotate_left
            · (intro w hSw; (try dsimp only at hSw); go_simp; try with_reducible rfl)
            try simp only [Act.put, zl, z0, z1]
            refine tL (v := ?_) 1 rfl (by kernel_rfl) (fun _ _ _ h => h) (Or.inl ⟨by rfl, ?_⟩) (by assumption) ?_; rotate_left
            · (intro w hSw; (try dsimp only at hSw); go_simp; try with_reducible rfl)
            try simp only [Act.put, zl, z0, z1]
            refine takeL 2 rfl (by kernel_rfl) (by kernel_rfl) (by kernel_rfl) (fun _ _ _ h => h) (Or.inr ⟨by rfl, rfl⟩) (by assumption) ?_
            try simp only [Act.put, zl, z0, z1]
            refine takeL 3 rfl (by kernel_rfl) (by kernel_rfl) (by kernel_rfl) (fun _ _ _ h => h) (Or.inr ⟨by rfl, rfl⟩) (by assumption) ?_
            try simp only [Act.put, zl, z0, z1]
            refine takeL 4 rfl (by kernel_rfl) (by kernel_rfl) (by kernel_rfl) (fun _ _ _ h => h) (Or.inr ⟨by rfl, rfl⟩) (by assumption) ?_
            try simp only [Act.put, zl, z0, z1]
            refine takeL 5 rfl (by kernel_rfl) (by kernel_rfl) (by kernel_rfl) (fun _ _ _ h => h) (Or.inr ⟨by rfl, rfl⟩) (by assumption) ?_
            try simp only [Act.put, zl, z0, z1]
            refine takeL 6 rfl (by kernel_rfl) (by kernel_rfl) (by kernel_rfl) (fun _ _ _ h => h) (Or.inr ⟨by rfl, rfl⟩) (by assumption) ?_
            try simp only [Act.put, zl, z0, z1]
            refine takeL 7 rfl (by kernel_rfl) (by kernel_rfl) (by kernel_rfl) (fun _ _ _ h => h) (Or.inr ⟨by rfl, rfl⟩) (by assumption) ?_
            try simp only [Act.put, zl, z0, z1]
            refine takeL 8 rfl (by kernel_rfl) (by kernel_rfl) (by kernel_rfl) (fun _ _ _ h => h) (Or.inr ⟨by rfl, rfl⟩) (by assumption) ?_
            try simp only [Act.put, zl, z0, z1]
            refine takeL 9 rfl (by kernel_rfl) (by kernel_rfl) (by kernel_rfl) (fun _ _ _ h => h) (Or.inr ⟨by rfl, rfl⟩) (by assumption) ?_
            try simp only [Act.put, zl, z0, z1]
            refine takeL 10 rfl (by kernel_rfl) (by kernel_rfl) (by kernel_rfl) (fun _ _ _ h => h) (Or.inr ⟨by rfl, rfl⟩) (by assumption) ?_
            try simp only [Act.put, zl, z0, z1]
            refine takeL 11 rfl (by kernel_rfl) (by kernel_rfl) (by kernel_rfl) (fun _ _ _ h => h) (Or.inr ⟨by rfl, rfl⟩) (by assumption) ?_
            try simp only [Act.put, zl, z0, z1]
            refine takeL 12 rfl (by kernel_rfl) (by kernel_rfl) (by kernel_rfl) (fun _ _ _ h => h) (Or.inr ⟨by rfl, rfl⟩) (by assumption) ?_
            try simp only [Act.put, zl, z0, z1]
            refine takeL 13 rfl (by kernel_rfl) (by kernel_rfl) (by kernel_rfl) (fun _ _ _ h => h) (Or.inr ⟨by rfl, rfl⟩) (by assumption) ?_
            try simp only [Act.put, zl, z0, z1]
            refine takeL 14 rfl (by kernel_rfl) (by kernel_rfl) (by kernel_rfl) (fun _ _ _ h => h) (Or.inr ⟨by rfl, rfl⟩) (by assumption) ?_
            try simp only [Act.put, zl, z0, z1]
            refine takeL 15 rfl (by kernel_rfl) (by kernel_rfl) (by kernel_rfl) (fun _ _ _ h => h) (Or.inr ⟨by rfl, rfl⟩) (by assumption) ?_
            try simp only [Act.put, zl, z0, z1]
            refine tL (v := ?_) 16 rfl (by kernel_rfl) (fun _ _ _ h => h) (Or.inl ⟨by rfl, ?_⟩) (by assumption) ?_; rotate_left
            · (intro w hSw; (try dsimp only at hSw); go_simp; try with_reducible rfl)
            try simp only [Act.put, zl, z0, z1]
            refine tL (v := ?_) 17 rfl (by kernel_rfl) (fun _ _ _ h => h) (Or.inl ⟨by rfl, ?_⟩) (by assumption) ?_; rotate_left
            · (intro w hSw; (try dsimp only at hSw); go_simp; try with_reducible rfl)
            try simp only [Act.put, zl, z0, z1]
            refine wpAnyH_done (by kernel_rfl) ?_ _
            clear cp0 cp1 cp2 cp3 cp4 cp5 cp6
            go_wp2_with fail
            go_roundw
            case rel => exact ⟨k + 1, by omega, by go_num, by rw [HNX.out]; rfl, by (repeat' first | exact zbR _ _ | assumption | refine zbD ?_ | refine zbA ?_ ?_ _ | refine zbS ?_ ?_ _ | refine zbT ?_ (by assumption) ?_ | (simp; done) | (simp; omega) | omega)⟩
            case measure => simp [intOf]; omega
          · rw [ha] at HNX
            obtain ⟨g, cap, e, hbg, hgl⟩ := HC.out.form (by omega)
            have e' : svc = some ⟨g, 0, none⟩ ∧ cc = cap := by
              simp only [Value.slice.injEq] at e
              exact ⟨e.1, e.2.2⟩
            obtain ⟨rfl, rfl⟩ := e'
            obtain ⟨m0, m1, m2, m3⟩ := flatM_at hcm
            have s0 := (hB3.cell (p := ⟨g, k * 4, none⟩) hgl).trans ((HC.out.cellAt (k * 4) (by omega)).trans m0)
            have s1 := (hB3.cell (p := ⟨g, k * 4 + 1, none⟩) hgl).trans ((HC.out.cellAt (k * 4 + 1) (by omega)).trans m1)
            have lgr : g < wr.heap.size := by omega
            clear e m0 m1 m2 m3 hcm
            obtain ⟨ln, hln⟩ : ∃ ln, (L.wrongL v cm.x cm.y).length = ln := ⟨_, rfl⟩
            have HLN := hide hln
            have hln8 : ln ≤ 8 := by rw [← hln, L.wrongL_length]; have := L.many_le v.ss cm.x cm.y 0; have := HN.out; omega
            clear hln
            go_upto_region 14 with fail
            have hS : (fun w' => Below wr.heap.size wr w' ∧ p < w'.heap.size ∧ g < w'.heap.size ∧ w'.cell? ⟨p, 0, none⟩ = some (.int .i64 v.size) ∧ w'.cell? ⟨p, 1, none⟩ = some (.slice A n c) ∧ w'.cell? ⟨p, 2, none⟩ = some (.int .i64 v.wrong) ∧ w'.cell? ⟨p, 3, none⟩ = some (.int .i64 v.hxl) ∧ w'.cell? ⟨p, 4, none⟩ = some (.int .i64 v.hxh) ∧ w'.cell? ⟨p, 5, none⟩ = some (.int .i64 v.hyl) ∧ w'.cell? ⟨p, 6, none⟩ = some (.int .i64 v.hyh) ∧ w'.cell? ⟨g, k * 4, none⟩ = some (.int .i64 cm.x) ∧ w'.cell? ⟨g, k * 4 + 1, none⟩ = some (.int .i64 cm.y)) wr := ⟨Below.refl _ _, lpr, lgr, cp0, cp1, cp2, cp3, cp4, cp5, cp6, s0, s1⟩
            have HRr := hide ((HR3.out.below hB3).mono hB3.size)
            have HBq := hide hBq
            obtain ⟨W1, hW1⟩ : ∃ W1, wr = W1 := ⟨_, rfl⟩
            rw [hW1] at hS HRr HBq ⊢
            clear hW1 hBq hB3 qq lpr lgr s0 s1 cp0 cp1 cp2 cp3 cp4 cp5 cp6
            have hkeep : ∀ u u' : World, Below u.heap.size u u' → (Below W1.heap.size W1 u ∧ p < u.heap.size ∧ g < u.heap.size ∧ u.cell? ⟨p, 0, none⟩ = some (.int .i64 v.size) ∧ u.cell? ⟨p, 1, none⟩ = some (.slice A n c) ∧ u.cell? ⟨p, 2, none⟩ = some (.int .i64 v.wrong) ∧ u.cell? ⟨p, 3, none⟩ = some (.int .i64 v.hxl) ∧ u.cell? ⟨p, 4, none⟩ = some (.int .i64 v.hxh) ∧ u.cell? ⟨p, 5, none⟩ = some (.int .i64 v.hyl) ∧ u.cell? ⟨p, 6, none⟩ = some (.int .i64 v.hyh) ∧ u.cell? ⟨g, k * 4, none⟩ = some (.int .i64 cm.x) ∧ u.cell? ⟨g, k * 4 + 1, none⟩ = some (.int .i64 cm.y)) → (Below W1.heap.size W1 u' ∧ p < u'.heap.size ∧ g < u'.heap.size ∧ u'.cell? ⟨p, 0, none⟩ = some (.int .i64 v.size) ∧ u'.cell? ⟨p, 1, none⟩ = some (.slice A n c) ∧ u'.cell? ⟨p, 2, none⟩ = some (.int .i64 v.wrong) ∧ u'.cell? ⟨p, 3, none⟩ = some (.int .i64 v.hxl) ∧ u'.cell? ⟨p, 4, none⟩ = some (.int .i64 v.hxh) ∧ u'.cell? ⟨p, 5, none⟩ = some (.int .i64 v.hyl) ∧ u'.cell? ⟨p, 6, none⟩ = some (.int .i64 v.hyh) ∧ u'.cell? ⟨g, k * 4, none⟩ = some (.int .i64 cm.x) ∧ u'.cell? ⟨g, k * 4 + 1, none⟩ = some (.int .i64 cm.y)) := by
              rintro u u' hb ⟨hB, l_p, l_g, k0, k1, k2, k3, k4, k5, k6, k7, k8⟩
              exact ⟨hB.trans (hb.mono hB.size), Nat.lt_of_lt_of_le l_p hb.size, Nat.lt_of_lt_of_le l_g hb.size, (hb.cell (p := ⟨p, 0, none⟩) l_p).trans k0, (hb.cell (p := ⟨p, 1, none⟩) l_p).trans k1, (hb.cell (p := ⟨p, 2, none⟩) l_p).trans k2, (hb.cell (p := ⟨p, 3, none⟩) l_p).trans k3, (hb.cell (p := ⟨p, 4, none⟩) l_p).trans k4, (hb.cell (p := ⟨p, 5, none⟩) l_p).trans k5, (hb.cell (p := ⟨p, 6, none⟩) l_p).trans k6, (hb.cell (p := ⟨g, k * 4, none⟩) l_g).trans k7, (hb.cell (p := ⟨g, k * 4 + 1, none⟩) l_g).trans k8⟩
            (try dsimp only at hS)
            refine wp_region_held_drew (S := (fun w' => Below W1.heap.size W1 w' ∧ p < w'.heap.size ∧ g < w'.heap.size ∧ w'.cell? ⟨p, 0, none⟩ = some (.int .i64 v.size) ∧ w'.cell? ⟨p, 1, none⟩ = some (.slice A n c) ∧ w'.cell? ⟨p, 2, none⟩ = some (.int .i64 v.wrong) ∧ w'.cell? ⟨p, 3, none⟩ = some (.int .i64 v.hxl) ∧ w'.cell? ⟨p, 4, none⟩ = some (.int .i64 v.hxh) ∧ w'.cell? ⟨p, 5, none⟩ = some (.int .i64 v.hyl) ∧ w'.cell? ⟨p, 6, none⟩ = some (.int .i64 v.hyh) ∧ w'.cell? ⟨g, k * 4, none⟩ = some (.int .i64 cm.x) ∧ w'.cell? ⟨g, k * 4 + 1, none⟩ = some (.int .i64 cm.y))) (by kernel_rfl) ?_ (fun hHeld0 => ?_)
            · (try dsimp only); (first | (go_keep; done) | (go_split_ands; (repeat' apply And.intro) <;> first | (go_keep; done) | (simp [*, zcA, zcP, zfA, zfP]; done) | (simp [zcA, zcP] <;> rfl) | (simp [*, zsS, zsO, zsA]; done) | ((first | refine (hc _ _ ?_).trans ?_ | refine (hf _ _ ?_).trans ?_) <;> first | assumption | (simp; done) | (simp; omega) | omega | (go_keep; done) | (simp [*, zcA, zcP, zfA, zfP]; done) | (simp [zcA, zcP]; rfl)) | (repeat' first | exact zbR _ _ | assumption | refine zbD ?_ | refine zbA ?_ ?_ _ | refine zbS ?_ ?_ _ | refine zbT ?_ (by assumption) ?_ | (simp; done) | (simp; omega) | omega)))
            refine tL (v := ?_) 0 rfl (by kernel_rfl) (fun _ _ _ h => h) (Or.inl ⟨by rfl, ?_⟩) (by assumption) ?_; rotate_left
            · (intro w hSw; (try dsimp only at hSw); go_simp; try with_reducible rfl)
            try simp only [Act.put, zl, z0, z1]
            refine tL (v := ?_) 1 rfl (by kernel_rfl) (fun _ _ _ h => h) (Or.inl ⟨by rfl, ?_⟩) (by assumption) ?_; rotate_left
            · (intro w hSw; (try dsimp only at hSw); go_simp; try with_reducible rfl)
            try simp only [Act.put, zl, z0, z1]
            refine tL (v := ?_) 2 rfl (by kernel_rfl) (fun _ _ _ h => h) (Or.inl ⟨by rfl, ?_⟩) (by assumption) ?_; rotate_left
            · (intro w hSw; (try dsimp only at hSw); go_simp; try with_reducible rfl)
            try simp only [Act.put, zl, z0, z1]
            refine tL (v := ?_) 3 rfl (by kernel_rfl) (fun _ _ _ h => h) (Or.inl ⟨by rfl, ?_⟩) (by assumption) ?_; rotate_left
            · (intro w hSw; (try dsimp only at hSw); go_simp; try with_reducible rfl)
            try simp only [Act.put, zl, z0, z1]
            refine tL (v := ?_) 4 rfl (by kernel_rfl) (fun _ _ _ h => h) (Or.inl ⟨by rfl, ?_⟩) (by assumption) ?_; rotate_left
            · (intro w hSw; (try dsimp only at hSw); go_simp; try with_reducible rfl)
            try simp only [Act.put, zl, z0, z1]
            refine tL (v := ?_) 5 rfl (by kernel_rfl) (fun _ _ _ h => h) (Or.inl ⟨by rfl, ?_⟩) (by assumption) ?_; rotate_left
            · (intro w hSw; (try dsimp only at hSw); go_simp; try with_reducible rfl)
            try simp only [Act.put, zl, z0, z1]
            refine tL (v := ?_) 6 rfl (by kernel_rfl) (fun _ _ _ h => h) (Or.inl ⟨by rfl, ?_⟩) (by assumption) ?_; rotate_left
            · (intro w hSw; (try dsimp only at hSw); go_simp; try with_reducible rfl)
            try simp only [Act.put, zl, z0, z1]
            refine tL (v := ?_) 7 rfl (by kernel_rfl) (fun _ _ _ h => h) (Or.inl ⟨by rfl, ?_⟩) (by assumption) ?_; rotate_left
            · (intro w hSw; (try dsimp only at hSw); go_simp; try with_reducible rfl)
            try simp only [Act.put, zl, z0, z1]
            refine tL (v := ?_) 8 rfl (by kernel_rfl) (fun _ _ _ h => h) (Or.inl ⟨by rfl, ?_⟩) (by assumption) ?_; rotate_left
            · (intro w hSw; (try dsimp only at hSw); go_simp; try with_reducible rfl)
            try simp only [Act.put, zl, z0, z1]
            refine tL (v := ?_) 9 rfl (by kernel_rfl) (fun _ _ _ h => h) (Or.inl ⟨by rfl, ?_⟩) (by assumption) ?_; rotate_left
            · (intro w hSw; (try dsimp only at hSw); go_simp; try with_reducible rfl)
            try simp only [Act.put, zl, z0, z1]
            refine tL (v := ?_) 10 rfl (by kernel_rfl) (fun _ _ _ h => h) (Or.inl ⟨by rfl, ?_⟩) (by assumption) ?_; rotate_left
            · (intro w hSw; (try dsimp only at hSw); go_simp; try with_reducible rfl)
            try simp only [Act.put, zl, z0, z1]
            refine tL (v := ?_) 11 rfl (by kernel_rfl) (fun _ _ _ h => h) (Or.inl ⟨by rfl, ?_⟩) (by assumption) ?_; rotate_left
            · (intro w hSw; (try dsimp only at hSw); go_simp; try with_reducible rfl)
            try simp only [Act.put, zl, z0, z1]
            refine tL (v := ?_) 12 rfl (by kernel_rfl) (fun _ _ _ h => h) (Or.inl ⟨by rfl, ?_⟩) (by assumption) ?_; rotate_left
            · (intro w hSw; (try dsimp only at hSw); go_simp; try with_reducible rfl)
            try simp only [Act.put, zl, z0, z1]
            refine tL (v := ?_) 14 rfl (by kernel_rfl) (fun _ _ _ h => h) (Or.inl ⟨by rfl, ?_⟩) (by assumption) ?_; rotate_left
            · (intro w hSw; (try dsimp only at hSw); go_simp; try with_reducible rfl)
            try simp only [Act.put, zl, z0, z1]
            refine wpAnyH_ready (rs := [13]) (by kernel_rfl) (by simp) ?_
            refine consL 13 rfl (fun K hK => ?_) AllReadyH.nil
            go_simp
            (go_at_call 50; refine (refWrong_pq v A n c cm.x cm.y _ HN.out (by first | exact (HRr.out.below hS.1).mono hS.1.size | exact (HRr.out.below (zbD hS.1)).mono hS.1.size) HV.out.w.ok hn8 x0 x1 y0 y1).mono ?_; rintro e w6 ⟨sv6, c6, rfl, hown6, hb⟩; have HI := hide (owns_RdI hown6 rfl); clear hown6; rw [HLN.out]; have hSn := hkeep _ _ hb (by assumption); (try clear hS); have hS := hSn; clear hSn)
            refine hK.out _ _ ?_ (fun hHeld1 => ?_)
            · (try dsimp only); exact hS
            clear hK K hHeld0
            try simp only [Act.put, zl, z0, z1]
            refine wpAnyH_ready (rs := [15]) (by kernel_rfl) (by simp) ?_
            refine consL 15 rfl (fun K hK => ?_) AllReadyH.nil
            go_simp
            (go_at_call 65; refine (refIn_any sv6 ln c6 (L.wrongL v cm.x cm.y) (i : Int) _ HLN.out ((HI.out.below (by (repeat' first | exact zbR _ _ | assumption | refine zbD ?_ | refine zbA ?_ ?_ _ | refine zbS ?_ ?_ _ | refine zbT ?_ (by assumption) ?_ | (simp; done) | (simp; omega) | omega))).mono (by first | (simp; done) | (simp; omega) | omega)) (by omega)).mono ?_; rintro e w7 ⟨rfl, hb⟩; have hSn := hkeep _ _ hb (by assumption); (try clear hS); have hS := hSn; clear hSn)
            refine hK.out _ _ ?_ (fun hHeld2 => ?_)
            · (try dsimp only); exact hS
            clear hK K hHeld1
            try simp only [Act.put, zl, z0, z1]
            refine tL (v := ?_) 16 rfl (by kernel_rfl) (fun _ _ _ h => h) (Or.inl ⟨by rfl, ?_⟩) (by assumption) ?_; rotate_left
            · (intro w hSw; (try dsimp only at hSw); go_simp; try with_reducible rfl)
            try simp only [Act.put, zl, z0, z1]
            refine tL (v := ?_) 17 rfl (by kernel_rfl) (fun _ _ _ h => h) (Or.inl ⟨by rfl, ?_⟩) (by assumption) ?_; rotate_left
            · (intro w hSw; (try dsimp only at hSw); go_simp; try with_reducible rfl)
            try simp only [Act.put, zl, z0, z1]
            refine wpAnyH_done (by kernel_rfl) ?_ _
            all_goals
              obtain ⟨hB6, _, _, _⟩ := hS
              have HB6 := hide (HBq.out.trans (hB6.mono HBq.out.size))
              clear hkeep hB6
              go_wp2_with fail
              go_roundw
              case rel => exact ⟨k + 1, by omega, by go_num, by rw [HNX.out]; rfl, HB6.out⟩
              case measure => simp [intOf]; omega
        · have hkn : k = tc.length := by omega
          subst hkn
          have HNB := hide (L.blmFrom_next v i)
          have ha := HALL.out i
          have HOq := hide (owns_below HOW.out (hBq.mono (by omega)))
          by_cases hc : L.cnt v (L.tcents v 0) i = (L.tcents v 0).length
          · rw [if_pos hc] at HNB
            rw [decide_eq_true hc] at ha
            rw [ha]
            have HL := hide (show (L.blmFrom v (i + 1)).length = (L.blmFrom v i).length + 1 by rw [HNB.out, List.length_append]; rfl)
            have q3 := hB3.size
            clear ha hc cp0 cp1 cp2 cp3 cp4 cp5 cp6
            go_wp2_with (refine wpList_app_at rfl (.tmp 48) (.tmp 50) rfl w3.heap.size _ (L.blmFrom v i) _ rfl (HOq.out.alloc _) (some ⟨_, 0, none⟩) 1 1 [(i : Int)] rfl rfl (rdI_one (World.alloc_heap_new _ _)) (fun e => by cases e) (by omega) (by omega) (by simp; omega) ?_; intro A2 c2 w7 hown2 hgrow; have hg7 := grown_below (B := w3.heap.size) hgrow (by simp; omega) (fun g hg => (HOq.out.lt g hg).1); have HO2 := hide hown2; clear hown2 hgrow)
            go_roundw
            case rel => exact ⟨i + 1, by omega, by go_num, ⟨A2, c2, by rw [HL.out], hide (by rw [HL.out, HNB.out]; exact HO2.out)⟩, (hB3.trans ((Below.refl _ _).alloc q3 _)).trans hg7⟩
            case measure => simp [intOf]; omega
          · rw [if_neg hc, List.append_nil] at HNB
            rw [decide_eq_false hc] at ha
            rw [ha]
            clear ha hc
            go_wp2_with fail
            go_roundw
            case rel => exact ⟨i + 1, by omega, by go_num, ⟨sv, c', by rw [HNB.out], hide (by rw [HNB.out]; exact HOq.out)⟩, hB3⟩
            case measure => simp [intOf]; omega
    · have hin : i = n := by omega
      subst hin
      go_wp2_with fail
      go_ret2
      refine ⟨sv, c', ?_, ?_, ?_⟩
      · rw [E1.out, E2.out]; rfl
      · rw [E1.out]; exact owns_mono hown.out hw3
      · exact GB3.out.trans (hB.mono GB3.out.size)

set_option maxRecDepth 100000 in
set_option maxHeartbeats 6400000 in
theorem refBlame_any (v : L.Vw) (A : Option Addr) (n c : Nat) (w : World) (hn : v.ss.length = n) (hr : RdS w w.heap.size A v.ss) :
    Calls Try.prog 40 #[.agg #[.int .i64 v.size, .slice A n c, .int .i64 v.wrong, .int .i64 v.hxl, .int .i64 v.hxh, .int .i64 v.hyl, .int .i64 v.hyh]] w fun e w' => BlmPost v w e w' := by
  rcases L.checkE_cases v with h | h
  · by_cases h0 : L.tcents v 0 = []
    · have HN := hide hn
      have HR := hide hr
      have hv := L.checkE_ok h
      have HV := hide hv
      have H := hide h
      obtain ⟨N, hN⟩ : ∃ N : Nat, v.size = (N : Int) := ⟨v.size.toNat, (Int.toNat_of_nonneg hv.s0).symm⟩
      have HSz := hide hN
      have HTC := hide (show (L.tcents v 0).map L.mk0 = [] by rw [h0]; rfl)
      have E1 := hide (show L.blmL v = [] by unfold L.blmL; rw [if_pos h, if_pos h0])
      have E2 := hide (show L.blmE v = 3 by unfold L.blmE; rw [if_pos h, if_pos h0])
      clear hn hr hv h h0 hN
      go_enter Try.func40, Try.ntmps40
      go_wp2_with (first | (go_at_call 23; refine (RefCheck_any v A n c _ HN.out ((HR.out.below (by (repeat' first | exact zbR _ _ | assumption | refine zbD ?_ | refine zbA ?_ ?_ _ | refine zbS ?_ ?_ _ | refine zbT ?_ (by assumption) ?_ | (simp; done) | (simp; omega) | omega))).mono (by first | (simp; done) | (simp; omega) | omega))).mono ?_; rintro e w2 ⟨rfl, hb2⟩; rw [H.out]; obtain ⟨hc2, hf2⟩ := bcell hb2; have q2 := hb2.size; (try simp only [World.size_alloc] at q2); have z2_0 : w.heap.size < w2.heap.size := (by omega)) | (go_at_call 64; refine (refCents_any v A n c N _ HV.out.w HSz.out HN.out ((HR.out.below (by (repeat' first | exact zbR _ _ | assumption | refine zbD ?_ | refine zbA ?_ ?_ _ | refine zbS ?_ ?_ _ | refine zbT ?_ (by assumption) ?_ | (simp; done) | (simp; omega) | omega))).mono (by first | (simp; done) | (simp; omega) | omega))).mono ?_; rintro e w3 ⟨svc, cc, rfl, hownc, hb3⟩; clear hownc; rw [HTC.out]))
      go_ret2
      unfold BlmPost
      rw [E1.out, E2.out]
      exact ⟨none, 0, rfl, World.ownsRow_nil _ _ _ _, by (repeat' first | exact zbR _ _ | assumption | refine zbD ?_ | refine zbA ?_ ?_ _ | refine zbS ?_ ?_ _ | refine zbT ?_ (by assumption) ?_ | (simp; done) | (simp; omega) | omega)⟩
    · exact refBlame_yes v A n c w hn hr h h0
  · have HN := hide hn
    have HR := hide hr
    have E1 := hide (show L.blmL v = [] by unfold L.blmL; rw [if_neg (by omega)])
    have E2 := hide (show L.blmE v = 20 by unfold L.blmE; rw [if_neg (by omega)]; exact h)
    have H := hide h
    clear hn hr h
    go_enter Try.func40, Try.ntmps40
    go_wp2_with (go_at_call 23; refine (RefCheck_any v A n c _ HN.out ((HR.out.below (by (repeat' first | exact zbR _ _ | assumption | refine zbD ?_ | refine zbA ?_ ?_ _ | refine zbS ?_ ?_ _ | refine zbT ?_ (by assumption) ?_ | (simp; done) | (simp; omega) | omega))).mono (by first | (simp; done) | (simp; omega) | omega))).mono ?_; rintro e w2 ⟨rfl, hb2⟩; rw [H.out]; obtain ⟨hc2, hf2⟩ := bcell hb2; have q2 := hb2.size; (try simp only [World.size_alloc] at q2); have z2_0 : w.heap.size < w2.heap.size := (by omega))
    go_ret2
    unfold BlmPost
    rw [E1.out, E2.out]
    exact ⟨none, 0, rfl, World.ownsRow_nil _ _ _ _, by (repeat' first | exact zbR _ _ | assumption | refine zbD ?_ | refine zbA ?_ ?_ _ | refine zbS ?_ ?_ _ | refine zbT ?_ (by assumption) ?_ | (simp; done) | (simp; omega) | omega)⟩

end Go.Proofs.Ytgnobonhohfofaa

namespace Go.Proofs.Ytgnobonhohfofaa
open Go.RowKit
attribute [local go_sem ↓] Go.wp_at_zero Go.wp_at_succ

theorem dec_app_f {z y : Int} {l : List Int} (h : decide (z ∈ l) = false) : decide (z ∈ l ++ [y]) = (y == z) := by
  rw [decide_eq_false_iff_not] at h
  by_cases e : y = z
  · subst e; simp
  · have e' : z ≠ y := fun h => e h.symm
    simp [h, e, e']
theorem dec_app_t {z y : Int} {l : List Int} (h : decide (z ∈ l) = true) : decide (z ∈ l ++ [y]) = true := by
  rw [decide_eq_true_eq] at h
  simp [h]
theorem L.wrgL_len' (v : L.Vw) (m : L.Mk) : (L.wrgL v m).length ≤ v.ss.length := by
  unfold L.wrgL
  split
  · split
    · rw [L.wrongL_length]; exact L.many_le _ _ _ _
    · simp
  · simp
theorem Centres_any' (v : L.Vw) (A : Option Addr) (n c : Nat) (w : World) (hn : v.ss.length = n) (hr : RdS w w.heap.size A v.ss) :
    Calls Try.prog 24 #[.agg #[.int .i64 v.size, .slice A n c, .int .i64 v.wrong, .int .i64 v.hxl, .int .i64 v.hxh, .int .i64 v.hyl, .int .i64 v.hyh]] w fun e w' => e = .returned (.tuple #[.int .i64 (L.cenN v), .agg #[.int .i64 (L.cenX v).1, .int .i64 (L.cenX v).2], .agg #[.int .i64 (L.cenY v).1, .int .i64 (L.cenY v).2], .int .i64 (L.cenE v)]) ∧ Below w.heap.size w w' := by
  rcases L.checkE_cases v with h | h
  · exact Centres_yes v A n c w hn hr h
  · exact Centres_no v A n c w hn hr h

set_option maxRecDepth 100000 in
set_option maxHeartbeats 6400000 in
theorem blamedLaw_far (v : L.Vw) (A : Option Addr) (n c : Nat) (m : L.Mk) (w : World) (hn : v.ss.length = n) (hr : RdS w w.heap.size A v.ss) (h : L.farB v = true) :
    Calls Try.prog 7 #[.agg #[.int .i64 v.size, .slice A n c, .int .i64 v.wrong, .int .i64 v.hxl, .int .i64 v.hxh, .int .i64 v.hyl, .int .i64 v.hyh], .agg #[.int .i64 m.x, .int .i64 m.y, .int .i64 m.hx, .int .i64 m.hy]] w fun e w' => e = .returned (.bool true) ∧ Below w.heap.size w w' := by
  have HN := hide hn
  have HR := hide hr
  clear hn hr
  have HF := hide h
  clear h
  go_enter Try.func7, Try.ntmps7
  go_upto_region 1 with fail
  obtain ⟨W0, hW0⟩ : ∃ W0, (w.alloc (.cells #[.int .i64 v.size, .slice A n c, .int .i64 v.wrong, .int .i64 v.hxl, .int .i64 v.hxh, .int .i64 v.hyl, .int .i64 v.hyh] 26)).alloc (.cells #[.int .i64 m.x, .int .i64 m.y, .int .i64 m.hx, .int .i64 m.hy] 30) = W0 := ⟨_, rfl⟩
  have gp : W0.heap[w.heap.size]? = some (.cells #[.int .i64 v.size, .slice A n c, .int .i64 v.wrong, .int .i64 v.hxl, .int .i64 v.hxh, .int .i64 v.hyl, .int .i64 v.hyh] 26 (0, 0)) := by
    rw [← hW0]; exact ((Below.heap_alloc _ _ _ (by first | (simp; done) | (simp; omega) | omega)).trans (World.alloc_heap_new _ _))
  have gq : W0.heap[w.heap.size + 1]? = some (.cells #[.int .i64 m.x, .int .i64 m.y, .int .i64 m.hx, .int .i64 m.hy] 30 (0, 0)) := by
    rw [← hW0]; exact ((congrArg _ (by simp)).trans (World.alloc_heap_new _ _))
  have gs : W0.heap.size = w.heap.size + 1 + 1 := by rw [← hW0]; simp
  have gB : Below w.heap.size w W0 := by rw [← hW0]; (repeat' first | exact zbR _ _ | assumption | refine zbD ?_ | refine zbA ?_ ?_ _ | refine zbS ?_ ?_ _ | refine zbT ?_ (by assumption) ?_ | (simp; done) | (simp; omega) | omega)
  rw [hW0]
  clear hW0
  obtain ⟨p, hp⟩ : ∃ p, w.heap.size = p := ⟨_, rfl⟩
  obtain ⟨q, hq⟩ : ∃ q, w.heap.size + 1 = q := ⟨_, rfl⟩
  rw [hq, hp]
  rw [hp] at gp
  rw [hq] at gq
  have lp : p < W0.heap.size := by omega
  have lq : q < W0.heap.size := by omega
  have HR0 := hide ((HR.out.below gB).mono gB.size)
  have GB := hide gB
  have GP := hide gp
  have cp0 := (blk_cell gp 0).trans rfl; have cp1 := (blk_cell gp 1).trans rfl; have cp2 := (blk_cell gp 2).trans rfl; have cp3 := (blk_cell gp 3).trans rfl; have cp4 := (blk_cell gp 4).trans rfl; have cp5 := (blk_cell gp 5).trans rfl; have cp6 := (blk_cell gp 6).trans rfl
  have GQ := hide gq
  have cq0 := (blk_cell gq 0).trans rfl; have cq1 := (blk_cell gq 1).trans rfl; have cq2 := (blk_cell gq 2).trans rfl; have cq3 := (blk_cell gq 3).trans rfl
  clear gp gq gB gs hp hq
  go_wp2_with (first | (go_at_call 28; refine (Far_any v A n c _ HN.out ((HR0.out.below (by (repeat' first | exact zbR _ _ | assumption | refine zbD ?_ | refine zbA ?_ ?_ _ | refine zbS ?_ ?_ _ | refine zbT ?_ (by assumption) ?_ | (simp; done) | (simp; omega) | omega))).mono (by first | (simp; done) | (simp; omega) | omega))).mono ?_; rintro e w2 ⟨rfl, hb2⟩; rw [HF.out]; obtain ⟨hc2, hf2⟩ := bcell hb2; have q2 := hb2.size; (try simp only [World.size_alloc] at q2); have z2_p : p < w2.heap.size := (by omega); have z2_q : q < w2.heap.size := (by omega)) | (go_at_call 16; refine (works_any _).mono ?_; rintro e w19 ⟨rfl, hb19⟩))
  go_ret
  exact ⟨rfl, GB.out.trans ((show Below W0.heap.size W0 _ by (repeat' first | exact zbR _ _ | assumption | refine zbD ?_ | refine zbA ?_ ?_ _ | refine zbS ?_ ?_ _ | refine zbT ?_ (by assumption) ?_ | (simp; done) | (simp; omega) | omega)).mono GB.out.size)⟩

set_option maxRecDepth 100000 in
set_option maxHeartbeats 6400000 in
theorem blamedLaw_bad (v : L.Vw) (A : Option Addr) (n c : Nat) (m : L.Mk) (w : World) (hn : v.ss.length = n) (hr : RdS w w.heap.size A v.ss) (hf : L.farB v = false) (h : L.viewB v = false) :
    Calls Try.prog 7 #[.agg #[.int .i64 v.size, .slice A n c, .int .i64 v.wrong, .int .i64 v.hxl, .int .i64 v.hxh, .int .i64 v.hyl, .int .i64 v.hyh], .agg #[.int .i64 m.x, .int .i64 m.y, .int .i64 m.hx, .int .i64 m.hy]] w fun e w' => e = .returned (.bool true) ∧ Below w.heap.size w w' := by
  have HN := hide hn
  have HR := hide hr
  clear hn hr
  have HF := hide hf
  have HC := hide (L.check_f h)
  clear h hf
  go_enter Try.func7, Try.ntmps7
  go_upto_region 1 with fail
  obtain ⟨W0, hW0⟩ : ∃ W0, (w.alloc (.cells #[.int .i64 v.size, .slice A n c, .int .i64 v.wrong, .int .i64 v.hxl, .int .i64 v.hxh, .int .i64 v.hyl, .int .i64 v.hyh] 26)).alloc (.cells #[.int .i64 m.x, .int .i64 m.y, .int .i64 m.hx, .int .i64 m.hy] 30) = W0 := ⟨_, rfl⟩
  have gp : W0.heap[w.heap.size]? = some (.cells #[.int .i64 v.size, .slice A n c, .int .i64 v.wrong, .int .i64 v.hxl, .int .i64 v.hxh, .int .i64 v.hyl, .int .i64 v.hyh] 26 (0, 0)) := by
    rw [← hW0]; exact ((Below.heap_alloc _ _ _ (by first | (simp; done) | (simp; omega) | omega)).trans (World.alloc_heap_new _ _))
  have gq : W0.heap[w.heap.size + 1]? = some (.cells #[.int .i64 m.x, .int .i64 m.y, .int .i64 m.hx, .int .i64 m.hy] 30 (0, 0)) := by
    rw [← hW0]; exact ((congrArg _ (by simp)).trans (World.alloc_heap_new _ _))
  have gs : W0.heap.size = w.heap.size + 1 + 1 := by rw [← hW0]; simp
  have gB : Below w.heap.size w W0 := by rw [← hW0]; (repeat' first | exact zbR _ _ | assumption | refine zbD ?_ | refine zbA ?_ ?_ _ | refine zbS ?_ ?_ _ | refine zbT ?_ (by assumption) ?_ | (simp; done) | (simp; omega) | omega)
  rw [hW0]
  clear hW0
  obtain ⟨p, hp⟩ : ∃ p, w.heap.size = p := ⟨_, rfl⟩
  obtain ⟨q, hq⟩ : ∃ q, w.heap.size + 1 = q := ⟨_, rfl⟩
  rw [hq, hp]
  rw [hp] at gp
  rw [hq] at gq
  have lp : p < W0.heap.size := by omega
  have lq : q < W0.heap.size := by omega
  have HR0 := hide ((HR.out.below gB).mono gB.size)
  have GB := hide gB
  have GP := hide gp
  have cp0 := (blk_cell gp 0).trans rfl; have cp1 := (blk_cell gp 1).trans rfl; have cp2 := (blk_cell gp 2).trans rfl; have cp3 := (blk_cell gp 3).trans rfl; have cp4 := (blk_cell gp 4).trans rfl; have cp5 := (blk_cell gp 5).trans rfl; have cp6 := (blk_cell gp 6).trans rfl
  have GQ := hide gq
  have cq0 := (blk_cell gq 0).trans rfl; have cq1 := (blk_cell gq 1).trans rfl; have cq2 := (blk_cell gq 2).trans rfl; have cq3 := (blk_cell gq 3).trans rfl
  clear gp gq gB gs hp hq
  go_wp2_with (first | (go_at_call 28; refine (Far_any v A n c _ HN.out ((HR0.out.below (by (repeat' first | exact zbR _ _ | assumption | refine zbD ?_ | refine zbA ?_ ?_ _ | refine zbS ?_ ?_ _ | refine zbT ?_ (by assumption) ?_ | (simp; done) | (simp; omega) | omega))).mono (by first | (simp; done) | (simp; omega) | omega))).mono ?_; rintro e w2 ⟨rfl, hb2⟩; rw [HF.out]; obtain ⟨hc2, hf2⟩ := bcell hb2; have q2 := hb2.size; (try simp only [World.size_alloc] at q2); have z2_p : p < w2.heap.size := (by omega); have z2_q : q < w2.heap.size := (by omega)) | (go_at_call 23; refine (RefCheck_any v A n c _ HN.out ((HR0.out.below (by (repeat' first | exact zbR _ _ | assumption | refine zbD ?_ | refine zbA ?_ ?_ _ | refine zbS ?_ ?_ _ | refine zbT ?_ (by assumption) ?_ | (simp; done) | (simp; omega) | omega))).mono (by first | (simp; done) | (simp; omega) | omega))).mono ?_; rintro e w3 ⟨rfl, hb3⟩; rw [HC.out]; obtain ⟨hc3, hf3⟩ := bcell hb3; have q3 := hb3.size; (try simp only [World.size_alloc] at q3); have z3_p : p < w3.heap.size := (by omega); have z3_q : q < w3.heap.size := (by omega)) | (go_at_call 16; refine (works_any _).mono ?_; rintro e w19 ⟨rfl, hb19⟩))
  go_ret
  exact ⟨rfl, GB.out.trans ((show Below W0.heap.size W0 _ by (repeat' first | exact zbR _ _ | assumption | refine zbD ?_ | refine zbA ?_ ?_ _ | refine zbS ?_ ?_ _ | refine zbT ?_ (by assumption) ?_ | (simp; done) | (simp; omega) | omega)).mono GB.out.size)⟩

set_option maxRecDepth 100000 in
set_option maxHeartbeats 6400000 in
theorem blamedLaw_no (v : L.Vw) (A : Option Addr) (n c : Nat) (m : L.Mk) (w : World) (hn : v.ss.length = n) (hr : RdS w w.heap.size A v.ss) (hf : L.farB v = false) (h : L.viewB v = true) (hb : L.BlmNo v m) :
    Calls Try.prog 7 #[.agg #[.int .i64 v.size, .slice A n c, .int .i64 v.wrong, .int .i64 v.hxl, .int .i64 v.hxh, .int .i64 v.hyl, .int .i64 v.hyh], .agg #[.int .i64 m.x, .int .i64 m.y, .int .i64 m.hx, .int .i64 m.hy]] w fun e w' => e = .returned (.bool true) ∧ Below w.heap.size w w' := by
  have HN := hide hn
  have HR := hide hr
  clear hn hr
  have HF := hide hf
  have HC := hide (L.check_t h)
  have HV := hide (L.viewB_ok h)
  obtain ⟨h1, h2, h3, h4, h5, h6⟩ := hb
  have HFE := hide h2
  have HCE := hide h3
  have HBE := hide h4
  have HBL := hide h5
  have HT := hide h6
  obtain ⟨few, hfew⟩ : ∃ x, L.fewV v = x := ⟨_, rfl⟩
  rw [hfew] at h1
  have HFW := hide hfew
  clear h hf h2 h3 h4 h5 h6 hfew
  go_enter Try.func7, Try.ntmps7
  go_upto_region 1 with fail
  obtain ⟨W0, hW0⟩ : ∃ W0, (w.alloc (.cells #[.int .i64 v.size, .slice A n c, .int .i64 v.wrong, .int .i64 v.hxl, .int .i64 v.hxh, .int .i64 v.hyl, .int .i64 v.hyh] 26)).alloc (.cells #[.int .i64 m.x, .int .i64 m.y, .int .i64 m.hx, .int .i64 m.hy] 30) = W0 := ⟨_, rfl⟩
  have gp : W0.heap[w.heap.size]? = some (.cells #[.int .i64 v.size, .slice A n c, .int .i64 v.wrong, .int .i64 v.hxl, .int .i64 v.hxh, .int .i64 v.hyl, .int .i64 v.hyh] 26 (0, 0)) := by
    rw [← hW0]; exact ((Below.heap_alloc _ _ _ (by first | (simp; done) | (simp; omega) | omega)).trans (World.alloc_heap_new _ _))
  have gq : W0.heap[w.heap.size + 1]? = some (.cells #[.int .i64 m.x, .int .i64 m.y, .int .i64 m.hx, .int .i64 m.hy] 30 (0, 0)) := by
    rw [← hW0]; exact ((congrArg _ (by simp)).trans (World.alloc_heap_new _ _))
  have gs : W0.heap.size = w.heap.size + 1 + 1 := by rw [← hW0]; simp
  have gB : Below w.heap.size w W0 := by rw [← hW0]; (repeat' first | exact zbR _ _ | assumption | refine zbD ?_ | refine zbA ?_ ?_ _ | refine zbS ?_ ?_ _ | refine zbT ?_ (by assumption) ?_ | (simp; done) | (simp; omega) | omega)
  rw [hW0]
  clear hW0
  obtain ⟨p, hp⟩ : ∃ p, w.heap.size = p := ⟨_, rfl⟩
  obtain ⟨q, hq⟩ : ∃ q, w.heap.size + 1 = q := ⟨_, rfl⟩
  rw [hq, hp]
  rw [hp] at gp
  rw [hq] at gq
  have lp : p < W0.heap.size := by omega
  have lq : q < W0.heap.size := by omega
  have HR0 := hide ((HR.out.below gB).mono gB.size)
  have GB := hide gB
  have GP := hide gp
  have cp0 := (blk_cell gp 0).trans rfl; have cp1 := (blk_cell gp 1).trans rfl; have cp2 := (blk_cell gp 2).trans rfl; have cp3 := (blk_cell gp 3).trans rfl; have cp4 := (blk_cell gp 4).trans rfl; have cp5 := (blk_cell gp 5).trans rfl; have cp6 := (blk_cell gp 6).trans rfl
  have GQ := hide gq
  have cq0 := (blk_cell gq 0).trans rfl; have cq1 := (blk_cell gq 1).trans rfl; have cq2 := (blk_cell gq 2).trans rfl; have cq3 := (blk_cell gq 3).trans rfl
  clear gp gq gB gs hp hq
  go_wp2_with (first | (go_at_call 28; refine (Far_any v A n c _ HN.out ((HR0.out.below (by (repeat' first | exact zbR _ _ | assumption | refine zbD ?_ | refine zbA ?_ ?_ _ | refine zbS ?_ ?_ _ | refine zbT ?_ (by assumption) ?_ | (simp; done) | (simp; omega) | omega))).mono (by first | (simp; done) | (simp; omega) | omega))).mono ?_; rintro e w2 ⟨rfl, hb2⟩; rw [HF.out]; obtain ⟨hc2, hf2⟩ := bcell hb2; have q2 := hb2.size; (try simp only [World.size_alloc] at q2); have z2_p : p < w2.heap.size := (by omega); have z2_q : q < w2.heap.size := (by omega)) | (go_at_call 23; refine (RefCheck_any v A n c _ HN.out ((HR0.out.below (by (repeat' first | exact zbR _ _ | assumption | refine zbD ?_ | refine zbA ?_ ?_ _ | refine zbS ?_ ?_ _ | refine zbT ?_ (by assumption) ?_ | (simp; done) | (simp; omega) | omega))).mono (by first | (simp; done) | (simp; omega) | omega))).mono ?_; rintro e w3 ⟨rfl, hb3⟩; rw [HC.out]; obtain ⟨hc3, hf3⟩ := bcell hb3; have q3 := hb3.size; (try simp only [World.size_alloc] at q3); have z3_p : p < w3.heap.size := (by omega); have z3_q : q < w3.heap.size := (by omega)) | (go_at_call 29; refine (Fewest_any v A n c _ HN.out ((HR0.out.below (by (repeat' first | exact zbR _ _ | assumption | refine zbD ?_ | refine zbA ?_ ?_ _ | refine zbS ?_ ?_ _ | refine zbT ?_ (by assumption) ?_ | (simp; done) | (simp; omega) | omega))).mono (by first | (simp; done) | (simp; omega) | omega))).mono ?_; rintro e w4 ⟨rfl, hb4⟩; rw [HFE.out, HFW.out]; obtain ⟨hc4, hf4⟩ := bcell hb4; have q4 := hb4.size; (try simp only [World.size_alloc] at q4); have z4_p : p < w4.heap.size := (by omega); have z4_q : q < w4.heap.size := (by omega)) | (go_at_call 24; refine (Centres_any' v A n c _ HN.out ((HR0.out.below (by (repeat' first | exact zbR _ _ | assumption | refine zbD ?_ | refine zbA ?_ ?_ _ | refine zbS ?_ ?_ _ | refine zbT ?_ (by assumption) ?_ | (simp; done) | (simp; omega) | omega))).mono (by first | (simp; done) | (simp; omega) | omega))).mono ?_; rintro e w5 ⟨rfl, hb5⟩; rw [HCE.out]; obtain ⟨hc5, hf5⟩ := bcell hb5; have q5 := hb5.size; (try simp only [World.size_alloc] at q5); have z5_p : p < w5.heap.size := (by omega); have z5_q : q < w5.heap.size := (by omega)) | (go_at_call 30; refine (Blame_any v A n c _ HN.out ((HR0.out.below (by (repeat' first | exact zbR _ _ | assumption | refine zbD ?_ | refine zbA ?_ ?_ _ | refine zbS ?_ ?_ _ | refine zbT ?_ (by assumption) ?_ | (simp; done) | (simp; omega) | omega))).mono (by first | (simp; done) | (simp; omega) | omega))).mono ?_; rintro e w6 ⟨svB, cB, rfl, hoB, hb6⟩; have y1 : p < w5.heap.size + 1 := (by omega); have y2 : p < w5.heap.size + 1 + 1 := (by omega); have y3 : q < w5.heap.size + 1 := (by omega); have y4 : q < w5.heap.size + 1 + 1 := (by omega); have y5 : w5.heap.size < w5.heap.size + 1 + 1 := (by omega); obtain ⟨hc6, hf6⟩ := bcell hb6; (try simp only [World.size_alloc] at hc6 hf6); have q6 := hb6.size; (try simp only [World.size_alloc] at q6); have z6_p : p < w6.heap.size := (by omega); have z6_q : q < w6.heap.size := (by omega); have z6_w5 : w5.heap.size < w6.heap.size := (by omega); have z6_w5_1 : w5.heap.size + 1 < w6.heap.size := (by omega); rw [HBE.out, HBL.out]; have HIB := hide (owns_RdI hoB rfl); clear hoB) | (go_at_call 18; refine (isTruth_any v A n c m _ HV.out HN.out ((HR0.out.below (by (repeat' first | exact zbR _ _ | assumption | refine zbD ?_ | refine zbA ?_ ?_ _ | refine zbS ?_ ?_ _ | refine zbT ?_ (by assumption) ?_ | (simp; done) | (simp; omega) | omega))).mono (by first | (simp; done) | (simp; omega) | omega))).mono ?_; rintro e w7 ⟨rfl, hb7⟩; rw [HT.out]; obtain ⟨hc7, hf7⟩ := bcell hb7; have q7 := hb7.size; (try simp only [World.size_alloc] at q7); have z7_p : p < w7.heap.size := (by omega); have z7_q : q < w7.heap.size := (by omega); have z7_w5 : w5.heap.size < w7.heap.size := (by omega); have z7_w5_1 : w5.heap.size + 1 < w7.heap.size := (by omega)) | (go_at_call 16; refine (works_any _).mono ?_; rintro e w19 ⟨rfl, hb19⟩))
  go_ret
  exact ⟨rfl, GB.out.trans ((show Below W0.heap.size W0 _ by (repeat' first | exact zbR _ _ | assumption | refine zbD ?_ | refine zbA ?_ ?_ _ | refine zbS ?_ ?_ _ | refine zbT ?_ (by assumption) ?_ | (simp; done) | (simp; omega) | omega)).mono GB.out.size)⟩

set_option maxRecDepth 100000 in
set_option maxHeartbeats 6400000 in
theorem blamedLaw_un (v : L.Vw) (A : Option Addr) (n c : Nat) (m : L.Mk) (w : World) (hn : v.ss.length = n) (hr : RdS w w.heap.size A v.ss) (hf : L.farB v = false) (h : L.viewB v = true) (hb : L.BlmYes v m) (ht : L.truthB v m = false) :
    Calls Try.prog 7 #[.agg #[.int .i64 v.size, .slice A n c, .int .i64 v.wrong, .int .i64 v.hxl, .int .i64 v.hxh, .int .i64 v.hyl, .int .i64 v.hyh], .agg #[.int .i64 m.x, .int .i64 m.y, .int .i64 m.hx, .int .i64 m.hy]] w fun e w' => e = .returned (.bool true) ∧ Below w.heap.size w w' := by
  have HN := hide hn
  have HR := hide hr
  clear hn hr
  have HF := hide hf
  have HC := hide (L.check_t h)
  have HV := hide (L.viewB_ok h)
  obtain ⟨h1, h2, h3, h4, h5, h6⟩ := hb
  have HFE := hide h2
  have HCE := hide h3
  have HBE := hide h4
  have HT := hide ht
  obtain ⟨few, hfew⟩ : ∃ x, L.fewV v = x := ⟨_, rfl⟩
  rw [hfew] at h1
  have HFW := hide hfew
  obtain ⟨lb, hlb⟩ : ∃ x, (L.blmL v).length = x := ⟨_, rfl⟩
  have hlb2 : (lb : Int) ≤ (n : Int) := by have := HN.out; omega
  have HLB := hide hlb
  clear h hf h2 h3 h4 h5 h6 hfew ht hlb
  go_enter Try.func7, Try.ntmps7
  go_upto_region 1 with fail
  obtain ⟨W0, hW0⟩ : ∃ W0, (w.alloc (.cells #[.int .i64 v.size, .slice A n c, .int .i64 v.wrong, .int .i64 v.hxl, .int .i64 v.hxh, .int .i64 v.hyl, .int .i64 v.hyh] 26)).alloc (.cells #[.int .i64 m.x, .int .i64 m.y, .int .i64 m.hx, .int .i64 m.hy] 30) = W0 := ⟨_, rfl⟩
  have gp : W0.heap[w.heap.size]? = some (.cells #[.int .i64 v.size, .slice A n c, .int .i64 v.wrong, .int .i64 v.hxl, .int .i64 v.hxh, .int .i64 v.hyl, .int .i64 v.hyh] 26 (0, 0)) := by
    rw [← hW0]; exact ((Below.heap_alloc _ _ _ (by first | (simp; done) | (simp; omega) | omega)).trans (World.alloc_heap_new _ _))
  have gq : W0.heap[w.heap.size + 1]? = some (.cells #[.int .i64 m.x, .int .i64 m.y, .int .i64 m.hx, .int .i64 m.hy] 30 (0, 0)) := by
    rw [← hW0]; exact ((congrArg _ (by simp)).trans (World.alloc_heap_new _ _))
  have gs : W0.heap.size = w.heap.size + 1 + 1 := by rw [← hW0]; simp
  have gB : Below w.heap.size w W0 := by rw [← hW0]; (repeat' first | exact zbR _ _ | assumption | refine zbD ?_ | refine zbA ?_ ?_ _ | refine zbS ?_ ?_ _ | refine zbT ?_ (by assumption) ?_ | (simp; done) | (simp; omega) | omega)
  rw [hW0]
  clear hW0
  obtain ⟨p, hp⟩ : ∃ p, w.heap.size = p := ⟨_, rfl⟩
  obtain ⟨q, hq⟩ : ∃ q, w.heap.size + 1 = q := ⟨_, rfl⟩
  rw [hq, hp]
  rw [hp] at gp
  rw [hq] at gq
  have lp : p < W0.heap.size := by omega
  have lq : q < W0.heap.size := by omega
  have HR0 := hide ((HR.out.below gB).mono gB.size)
  have GB := hide gB
  have GP := hide gp
  have cp0 := (blk_cell gp 0).trans rfl; have cp1 := (blk_cell gp 1).trans rfl; have cp2 := (blk_cell gp 2).trans rfl; have cp3 := (blk_cell gp 3).trans rfl; have cp4 := (blk_cell gp 4).trans rfl; have cp5 := (blk_cell gp 5).trans rfl; have cp6 := (blk_cell gp 6).trans rfl
  have GQ := hide gq
  have cq0 := (blk_cell gq 0).trans rfl; have cq1 := (blk_cell gq 1).trans rfl; have cq2 := (blk_cell gq 2).trans rfl; have cq3 := (blk_cell gq 3).trans rfl
  clear gp gq gB gs hp hq
  go_wp2_with (first | (go_at_call 28; refine (Far_any v A n c _ HN.out ((HR0.out.below (by (repeat' first | exact zbR _ _ | assumption | refine zbD ?_ | refine zbA ?_ ?_ _ | refine zbS ?_ ?_ _ | refine zbT ?_ (by assumption) ?_ | (simp; done) | (simp; omega) | omega))).mono (by first | (simp; done) | (simp; omega) | omega))).mono ?_; rintro e w2 ⟨rfl, hb2⟩; rw [HF.out]; obtain ⟨hc2, hf2⟩ := bcell hb2; have q2 := hb2.size; (try simp only [World.size_alloc] at q2); have z2_p : p < w2.heap.size := (by omega); have z2_q : q < w2.heap.size := (by omega)) | (go_at_call 23; refine (RefCheck_any v A n c _ HN.out ((HR0.out.below (by (repeat' first | exact zbR _ _ | assumption | refine zbD ?_ | refine zbA ?_ ?_ _ | refine zbS ?_ ?_ _ | refine zbT ?_ (by assumption) ?_ | (simp; done) | (simp; omega) | omega))).mono (by first | (simp; done) | (simp; omega) | omega))).mono ?_; rintro e w3 ⟨rfl, hb3⟩; rw [HC.out]; obtain ⟨hc3, hf3⟩ := bcell hb3; have q3 := hb3.size; (try simp only [World.size_alloc] at q3); have z3_p : p < w3.heap.size := (by omega); have z3_q : q < w3.heap.size := (by omega)) | (go_at_call 29; refine (Fewest_any v A n c _ HN.out ((HR0.out.below (by (repeat' first | exact zbR _ _ | assumption | refine zbD ?_ | refine zbA ?_ ?_ _ | refine zbS ?_ ?_ _ | refine zbT ?_ (by assumption) ?_ | (simp; done) | (simp; omega) | omega))).mono (by first | (simp; done) | (simp; omega) | omega))).mono ?_; rintro e w4 ⟨rfl, hb4⟩; rw [HFE.out, HFW.out]; obtain ⟨hc4, hf4⟩ := bcell hb4; have q4 := hb4.size; (try simp only [World.size_alloc] at q4); have z4_p : p < w4.heap.size := (by omega); have z4_q : q < w4.heap.size := (by omega)) | (go_at_call 24; refine (Centres_any' v A n c _ HN.out ((HR0.out.below (by (repeat' first | exact zbR _ _ | assumption | refine zbD ?_ | refine zbA ?_ ?_ _ | refine zbS ?_ ?_ _ | refine zbT ?_ (by assumption) ?_ | (simp; done) | (simp; omega) | omega))).mono (by first | (simp; done) | (simp; omega) | omega))).mono ?_; rintro e w5 ⟨rfl, hb5⟩; rw [HCE.out]; obtain ⟨hc5, hf5⟩ := bcell hb5; have q5 := hb5.size; (try simp only [World.size_alloc] at q5); have z5_p : p < w5.heap.size := (by omega); have z5_q : q < w5.heap.size := (by omega)) | (go_at_call 30; refine (Blame_any v A n c _ HN.out ((HR0.out.below (by (repeat' first | exact zbR _ _ | assumption | refine zbD ?_ | refine zbA ?_ ?_ _ | refine zbS ?_ ?_ _ | refine zbT ?_ (by assumption) ?_ | (simp; done) | (simp; omega) | omega))).mono (by first | (simp; done) | (simp; omega) | omega))).mono ?_; rintro e w6 ⟨svB, cB, rfl, hoB, hb6⟩; have y1 : p < w5.heap.size + 1 := (by omega); have y2 : p < w5.heap.size + 1 + 1 := (by omega); have y3 : q < w5.heap.size + 1 := (by omega); have y4 : q < w5.heap.size + 1 + 1 := (by omega); have y5 : w5.heap.size < w5.heap.size + 1 + 1 := (by omega); obtain ⟨hc6, hf6⟩ := bcell hb6; (try simp only [World.size_alloc] at hc6 hf6); have q6 := hb6.size; (try simp only [World.size_alloc] at q6); have z6_p : p < w6.heap.size := (by omega); have z6_q : q < w6.heap.size := (by omega); have z6_w5 : w5.heap.size < w6.heap.size := (by omega); have z6_w5_1 : w5.heap.size + 1 < w6.heap.size := (by omega); rw [HBE.out, HLB.out]; have HIB := hide (owns_RdI hoB rfl); clear hoB) | (go_at_call 18; refine (isTruth_any v A n c m _ HV.out HN.out ((HR0.out.below (by (repeat' first | exact zbR _ _ | assumption | refine zbD ?_ | refine zbA ?_ ?_ _ | refine zbS ?_ ?_ _ | refine zbT ?_ (by assumption) ?_ | (simp; done) | (simp; omega) | omega))).mono (by first | (simp; done) | (simp; omega) | omega))).mono ?_; rintro e w7 ⟨rfl, hb7⟩; rw [HT.out]; obtain ⟨hc7, hf7⟩ := bcell hb7; have q7 := hb7.size; (try simp only [World.size_alloc] at q7); have z7_p : p < w7.heap.size := (by omega); have z7_q : q < w7.heap.size := (by omega); have z7_w5 : w5.heap.size < w7.heap.size := (by omega); have z7_w5_1 : w5.heap.size + 1 < w7.heap.size := (by omega)) | (go_at_call 16; refine (works_any _).mono ?_; rintro e w19 ⟨rfl, hb19⟩))
  go_ret
  exact ⟨rfl, GB.out.trans ((show Below W0.heap.size W0 _ by (repeat' first | exact zbR _ _ | assumption | refine zbD ?_ | refine zbA ?_ ?_ _ | refine zbS ?_ ?_ _ | refine zbT ?_ (by assumption) ?_ | (simp; done) | (simp; omega) | omega)).mono GB.out.size)⟩

set_option maxRecDepth 100000 in
set_option maxHeartbeats 6400000 in
theorem blamedLaw_yes (v : L.Vw) (A : Option Addr) (n c : Nat) (m : L.Mk) (w : World) (hn : v.ss.length = n) (hr : RdS w w.heap.size A v.ss) (hf : L.farB v = false) (h : L.viewB v = true) (hb : L.BlmYes v m) (ht : L.truthB v m = true) :
    Calls Try.prog 7 #[.agg #[.int .i64 v.size, .slice A n c, .int .i64 v.wrong, .int .i64 v.hxl, .int .i64 v.hxh, .int .i64 v.hyl, .int .i64 v.hyh], .agg #[.int .i64 m.x, .int .i64 m.y, .int .i64 m.hx, .int .i64 m.hy]] w fun e w' => e = .returned (.bool true) ∧ Below w.heap.size w w' := by
  have HN := hide hn
  have HR := hide hr
  clear hn hr
  have HF := hide hf
  have HC := hide (L.check_t h)
  have HV := hide (L.viewB_ok h)
  obtain ⟨h1, h2, h3, h4, h5, h6⟩ := hb
  obtain ⟨k1, k2, k3, k4, k5, k6, k7, k8⟩ := h6 ht
  have HFE := hide h2
  have HCE := hide h3
  have HBE := hide h4
  have HT := hide ht
  have HWE := hide k1
  have HSub := hide k8
  obtain ⟨few, hfew⟩ : ∃ x, L.fewV v = x := ⟨_, rfl⟩
  obtain ⟨cn, hcn⟩ : ∃ x, L.cenN v = x := ⟨_, rfl⟩
  obtain ⟨xl, hxl⟩ : ∃ x, (L.cenX v).1 = x := ⟨_, rfl⟩
  obtain ⟨xh, hxh⟩ : ∃ x, (L.cenX v).2 = x := ⟨_, rfl⟩
  obtain ⟨yl, hyl⟩ : ∃ x, (L.cenY v).1 = x := ⟨_, rfl⟩
  obtain ⟨yh, hyh⟩ : ∃ x, (L.cenY v).2 = x := ⟨_, rfl⟩
  obtain ⟨lb, hlb⟩ : ∃ x, (L.blmL v).length = x := ⟨_, rfl⟩
  obtain ⟨lw, hlw⟩ : ∃ x, (L.wrgL v m).length = x := ⟨_, rfl⟩
  have hlb2 : (lb : Int) ≤ (n : Int) := by have := HN.out; omega
  rw [hfew] at h1 k3
  rw [hlw] at k3
  rw [hcn] at k2
  rw [hxl] at k4
  rw [hxh] at k5
  rw [hyl] at k6
  rw [hyh] at k7
  have HFW := hide hfew
  have HCN := hide hcn
  have HXL := hide hxl
  have HXH := hide hxh
  have HYL := hide hyl
  have HYH := hide hyh
  have HLB := hide hlb
  have HLW := hide hlw
  have hn8 : (n : Int) ≤ 8 := by have := HV.out.n8; have := HN.out; omega
  have hlw8 : (lw : Int) ≤ 8 := by have := L.wrgL_len' v m; have := HN.out; omega
  clear h hf h2 h3 h4 h5 h6 k1 k8 hfew ht hcn hxl hxh hyl hyh hlb hlw
  go_enter Try.func7, Try.ntmps7
  go_upto_region 1 with fail
  obtain ⟨W0, hW0⟩ : ∃ W0, (w.alloc (.cells #[.int .i64 v.size, .slice A n c, .int .i64 v.wrong, .int .i64 v.hxl, .int .i64 v.hxh, .int .i64 v.hyl, .int .i64 v.hyh] 26)).alloc (.cells #[.int .i64 m.x, .int .i64 m.y, .int .i64 m.hx, .int .i64 m.hy] 30) = W0 := ⟨_, rfl⟩
  have gp : W0.heap[w.heap.size]? = some (.cells #[.int .i64 v.size, .slice A n c, .int .i64 v.wrong, .int .i64 v.hxl, .int .i64 v.hxh, .int .i64 v.hyl, .int .i64 v.hyh] 26 (0, 0)) := by
    rw [← hW0]; exact ((Below.heap_alloc _ _ _ (by first | (simp; done) | (simp; omega) | omega)).trans (World.alloc_heap_new _ _))
  have gq : W0.heap[w.heap.size + 1]? = some (.cells #[.int .i64 m.x, .int .i64 m.y, .int .i64 m.hx, .int .i64 m.hy] 30 (0, 0)) := by
    rw [← hW0]; exact ((congrArg _ (by simp)).trans (World.alloc_heap_new _ _))
  have gs : W0.heap.size = w.heap.size + 1 + 1 := by rw [← hW0]; simp
  have gB : Below w.heap.size w W0 := by rw [← hW0]; (repeat' first | exact zbR _ _ | assumption | refine zbD ?_ | refine zbA ?_ ?_ _ | refine zbS ?_ ?_ _ | refine zbT ?_ (by assumption) ?_ | (simp; done) | (simp; omega) | omega)
  rw [hW0]
  clear hW0
  obtain ⟨p, hp⟩ : ∃ p, w.heap.size = p := ⟨_, rfl⟩
  obtain ⟨q, hq⟩ : ∃ q, w.heap.size + 1 = q := ⟨_, rfl⟩
  rw [hq, hp]
  rw [hp] at gp
  rw [hq] at gq
  have lp : p < W0.heap.size := by omega
  have lq : q < W0.heap.size := by omega
  have HR0 := hide ((HR.out.below gB).mono gB.size)
  have GB := hide gB
  have GP := hide gp
  have cp0 := (blk_cell gp 0).trans rfl; have cp1 := (blk_cell gp 1).trans rfl; have cp2 := (blk_cell gp 2).trans rfl; have cp3 := (blk_cell gp 3).trans rfl; have cp4 := (blk_cell gp 4).trans rfl; have cp5 := (blk_cell gp 5).trans rfl; have cp6 := (blk_cell gp 6).trans rfl
  have GQ := hide gq
  have cq0 := (blk_cell gq 0).trans rfl; have cq1 := (blk_cell gq 1).trans rfl; have cq2 := (blk_cell gq 2).trans rfl; have cq3 := (blk_cell gq 3).trans rfl
  clear gp gq gB gs hp hq
  go_wp2_with (first | (go_at_call 28; refine (Far_any v A n c _ HN.out ((HR0.out.below (by (repeat' first | exact zbR _ _ | assumption | refine zbD ?_ | refine zbA ?_ ?_ _ | refine zbS ?_ ?_ _ | refine zbT ?_ (by assumption) ?_ | (simp; done) | (simp; omega) | omega))).mono (by first | (simp; done) | (simp; omega) | omega))).mono ?_; rintro e w2 ⟨rfl, hb2⟩; rw [HF.out]; obtain ⟨hc2, hf2⟩ := bcell hb2; have q2 := hb2.size; (try simp only [World.size_alloc] at q2); have z2_p : p < w2.heap.size := (by omega); have z2_q : q < w2.heap.size := (by omega)) | (go_at_call 23; refine (RefCheck_any v A n c _ HN.out ((HR0.out.below (by (repeat' first | exact zbR _ _ | assumption | refine zbD ?_ | refine zbA ?_ ?_ _ | refine zbS ?_ ?_ _ | refine zbT ?_ (by assumption) ?_ | (simp; done) | (simp; omega) | omega))).mono (by first | (simp; done) | (simp; omega) | omega))).mono ?_; rintro e w3 ⟨rfl, hb3⟩; rw [HC.out]; obtain ⟨hc3, hf3⟩ := bcell hb3; have q3 := hb3.size; (try simp only [World.size_alloc] at q3); have z3_p : p < w3.heap.size := (by omega); have z3_q : q < w3.heap.size := (by omega)) | (go_at_call 29; refine (Fewest_any v A n c _ HN.out ((HR0.out.below (by (repeat' first | exact zbR _ _ | assumption | refine zbD ?_ | refine zbA ?_ ?_ _ | refine zbS ?_ ?_ _ | refine zbT ?_ (by assumption) ?_ | (simp; done) | (simp; omega) | omega))).mono (by first | (simp; done) | (simp; omega) | omega))).mono ?_; rintro e w4 ⟨rfl, hb4⟩; rw [HFE.out, HFW.out]; obtain ⟨hc4, hf4⟩ := bcell hb4; have q4 := hb4.size; (try simp only [World.size_alloc] at q4); have z4_p : p < w4.heap.size := (by omega); have z4_q : q < w4.heap.size := (by omega)) | (go_at_call 24; refine (Centres_any' v A n c _ HN.out ((HR0.out.below (by (repeat' first | exact zbR _ _ | assumption | refine zbD ?_ | refine zbA ?_ ?_ _ | refine zbS ?_ ?_ _ | refine zbT ?_ (by assumption) ?_ | (simp; done) | (simp; omega) | omega))).mono (by first | (simp; done) | (simp; omega) | omega))).mono ?_; rintro e w5 ⟨rfl, hb5⟩; rw [HCE.out, HCN.out, HXL.out, HXH.out, HYL.out, HYH.out]; obtain ⟨hc5, hf5⟩ := bcell hb5; have q5 := hb5.size; (try simp only [World.size_alloc] at q5); have z5_p : p < w5.heap.size := (by omega); have z5_q : q < w5.heap.size := (by omega)) | (go_at_call 30; refine (Blame_any v A n c _ HN.out ((HR0.out.below (by (repeat' first | exact zbR _ _ | assumption | refine zbD ?_ | refine zbA ?_ ?_ _ | refine zbS ?_ ?_ _ | refine zbT ?_ (by assumption) ?_ | (simp; done) | (simp; omega) | omega))).mono (by first | (simp; done) | (simp; omega) | omega))).mono ?_; rintro e w6 ⟨svB, cB, rfl, hoB, hb6⟩; have y1 : p < w5.heap.size + 1 := (by omega); have y2 : p < w5.heap.size + 1 + 1 := (by omega); have y3 : q < w5.heap.size + 1 := (by omega); have y4 : q < w5.heap.size + 1 + 1 := (by omega); have y5 : w5.heap.size < w5.heap.size + 1 + 1 := (by omega); obtain ⟨hc6, hf6⟩ := bcell hb6; (try simp only [World.size_alloc] at hc6 hf6); have q6 := hb6.size; (try simp only [World.size_alloc] at q6); have z6_p : p < w6.heap.size := (by omega); have z6_q : q < w6.heap.size := (by omega); have z6_w5 : w5.heap.size < w6.heap.size := (by omega); have z6_w5_1 : w5.heap.size + 1 < w6.heap.size := (by omega); rw [HBE.out, HLB.out]; have HIB := hide (owns_RdI hoB rfl); clear hoB) | (go_at_call 18; refine (isTruth_any v A n c m _ HV.out HN.out ((HR0.out.below (by (repeat' first | exact zbR _ _ | assumption | refine zbD ?_ | refine zbA ?_ ?_ _ | refine zbS ?_ ?_ _ | refine zbT ?_ (by assumption) ?_ | (simp; done) | (simp; omega) | omega))).mono (by first | (simp; done) | (simp; omega) | omega))).mono ?_; rintro e w7 ⟨rfl, hb7⟩; rw [HT.out]; obtain ⟨hc7, hf7⟩ := bcell hb7; have q7 := hb7.size; (try simp only [World.size_alloc] at q7); have z7_p : p < w7.heap.size := (by omega); have z7_q : q < w7.heap.size := (by omega); have z7_w5 : w5.heap.size < w7.heap.size := (by omega); have z7_w5_1 : w5.heap.size + 1 < w7.heap.size := (by omega)) | (go_at_call 31; refine (Wrong_any v A n c m _ HN.out ((HR0.out.below (by (repeat' first | exact zbR _ _ | assumption | refine zbD ?_ | refine zbA ?_ ?_ _ | refine zbS ?_ ?_ _ | refine zbT ?_ (by assumption) ?_ | (simp; done) | (simp; omega) | omega))).mono (by first | (simp; done) | (simp; omega) | omega))).mono ?_; rintro e w8 ⟨svW, cW, rfl, hoW, hb8⟩; obtain ⟨hc8, hf8⟩ := bcell hb8; have q8 := hb8.size; (try simp only [World.size_alloc] at q8); have z8_p : p < w8.heap.size := (by omega); have z8_q : q < w8.heap.size := (by omega); have z8_w5 : w5.heap.size < w8.heap.size := (by omega); have z8_w5_1 : w5.heap.size + 1 < w8.heap.size := (by omega); rw [HWE.out, HLW.out]; have HIW := hide (owns_RdI hoW rfl); clear hoW) | (go_at_call 16; refine (works_any _).mono ?_; rintro e w19 ⟨rfl, hb19⟩))
  have hB5 : Below W0.heap.size W0 w5 := ((hb2.trans (hb3.mono q2)).trans (hb4.mono (by omega))).trans (hb5.mono (by omega))
  have hB6 : Below W0.heap.size W0 w6 := (hB5.trans ((((Below.refl _ w5).alloc (Nat.le_refl _) _).alloc (by simp) _).mono hB5.size)).trans (hb6.mono (by have := hB5.size; simp; omega))
  have hB68 : Below w6.heap.size w6 w8 := hb7.trans (hb8.mono q7)
  have hB8 : Below w.heap.size w w8 := GB.out.trans ((hB6.trans (hB68.mono hB6.size)).mono GB.out.size)
  have HIB' := hide ((HIB.out.below hB68).mono (B' := w8.heap.size) (by omega))
  have HB8 := hide hB8
  clear hb2 hb3 hb4 hb5 hb6 hb7 hb8 hc2 hf2 hc3 hf3 hc4 hf4 hc5 hf5 hc6 hf6 hc7 hf7 hc8 hf8 q2 q3 q4 q5 q6 q7 q8 hB8 HIB
  go_loopw [15] (fun i wr => ∃ k : Nat, k ≤ lb ∧ i = .int .i64 k ∧ Below w8.heap.size w8 wr) (fun i _ => lb - (intOf i).toNat)
  case atStart => exact ⟨0, by omega, rfl, Below.refl _ _⟩
  case round =>
    obtain ⟨k, hk, rfl, hB⟩ := hrel
    have qB := hB.size
    by_cases hlt : k < lb
    · obtain ⟨z, hz⟩ : ∃ z, (L.blmL v)[k]? = some z := ⟨_, List.getElem?_eq_getElem (by have := HLB.out; omega)⟩
      have HZ := hide (HSub.out z (List.mem_of_getElem? hz))
      obtain ⟨b1, o1, hA1, hbB1, d1⟩ := (HIB'.out.below hB) k z hz
      subst hA1
      clear hz
      have hlt' : (k : Int) < (lb : Int) := by omega
      have hk0 : (0 : Int) ≤ (k : Int) := by omega
      have hk1 : (k : Int) ≤ 8 := by omega
      go_wp2_with fail
      go_loopw [16, 17] (fun fo t wr2 => ∃ j : Nat, j ≤ lw ∧ t = .int .i64 j ∧ fo = .bool (decide (z ∈ (L.wrgL v m).take j)) ∧ Below wr.heap.size wr wr2) (fun _ t _ => lw - (intOf t).toNat)
      case atStart => exact ⟨0, by omega, rfl, by simp, Below.refl _ _⟩
      case round =>
        obtain ⟨j, hj, rfl, rfl, hB2⟩ := hrel
        have qB2 := hB2.size
        by_cases hlt2 : j < lw
        · obtain ⟨y, hy⟩ : ∃ y, (L.wrgL v m)[j]? = some y := ⟨_, List.getElem?_eq_getElem (by have := HLW.out; omega)⟩
          obtain ⟨b2, o2, hA2, hbB2, d2⟩ := (HIW.out.below (hB.trans (hB2.mono qB))) j y hy
          subst hA2
          have d1' := (hB2.cell (p := ⟨b1, o1 + k, none⟩) (by show b1 < _; omega)).trans d1
          have HTK := hide (show (L.wrgL v m).take (j + 1) = (L.wrgL v m).take j ++ [y] by rw [List.take_add_one, hy]; rfl)
          clear hy
          have hlt2' : (j : Int) < (lw : Int) := by omega
          have hj0 : (0 : Int) ≤ (j : Int) := by omega
          cases hd : decide (z ∈ (L.wrgL v m).take j)
          · cases he : (y == z)
            all_goals
              go_wp2_with fail
              go_quiet (fail)
              go_wp2_with fail
              go_roundw
              case rel => exact ⟨j + 1, by omega, by go_num, by (have h1 : decide (z ∈ (L.wrgL v m).take (j + 1)) = (y == z) := by (rw [HTK.out]; exact dec_app_f hd)); rw [h1, he], below_drewN hB2 _⟩
              case measure => simp [intOf]; omega
          · go_wp2_with fail
            go_quiet (fail)
            go_wp2_with fail
            go_roundw
            case rel => exact ⟨j + 1, by omega, by go_num, by (have h1 : decide (z ∈ (L.wrgL v m).take (j + 1)) = true := by (rw [HTK.out]; exact dec_app_t hd)); rw [h1], below_drewN hB2 _⟩
            case measure => simp [intOf]; omega
        · have hjn : j = lw := by omega
          subst hjn
          have hd : decide (z ∈ (L.wrgL v m).take j) = true := by
            rw [List.take_of_length_le (by have := HLW.out; omega)]
            exact decide_eq_true HZ.out
          go_wp2_with fail
          go_roundw
          case rel => exact ⟨k + 1, by omega, by go_num, hB.trans (hB2.mono qB)⟩
          case measure => simp [intOf]; omega
    · have hkn : k = lb := by omega
      subst hkn
      go_wp2_with (go_at_call 16; refine (works_any _).mono ?_; rintro e w19 ⟨rfl, hb19⟩)
      go_ret
      exact ⟨rfl, (HB8.out.trans (hB.mono HB8.out.size)).trans (hb19.mono (by have := HB8.out.size; omega))⟩

theorem blamedLaw_any (v : L.Vw) (A : Option Addr) (n c : Nat) (m : L.Mk) (w : World) (hn : v.ss.length = n) (hr : RdS w w.heap.size A v.ss) :
    Calls Try.prog 7 #[.agg #[.int .i64 v.size, .slice A n c, .int .i64 v.wrong, .int .i64 v.hxl, .int .i64 v.hxh, .int .i64 v.hyl, .int .i64 v.hyh], .agg #[.int .i64 m.x, .int .i64 m.y, .int .i64 m.hx, .int .i64 m.hy]] w fun e w' => e = .returned (.bool true) ∧ Below w.heap.size w w' := by
  cases hf : L.farB v
  · cases h : L.viewB v
    · exact blamedLaw_bad v A n c m w hn hr hf h
    · rcases L.blm_cases h m with hb | hb
      · exact blamedLaw_no v A n c m w hn hr hf h hb
      · cases ht : L.truthB v m
        · exact blamedLaw_un v A n c m w hn hr hf h hb ht
        · exact blamedLaw_yes v A n c m w hn hr hf h hb ht
  · exact blamedLaw_far v A n c m w hn hr hf

end Go.Proofs.Ytgnobonhohfofaa

namespace Go.Proofs.Ytgnobonhohfofaa
open Go.RowKit
attribute [local go_sem ↓] Go.wp_at_zero Go.wp_at_succ

theorem L.blmL_le (v : L.Vw) : (L.blmL v).length ≤ v.ss.length := by
  unfold L.blmL
  split
  · split
    · simp
    · exact L.blmFrom_le _ _
  · simp

set_option maxRecDepth 100000 in
set_option maxHeartbeats 6400000 in
theorem centLaw_far (v : L.Vw) (A : Option Addr) (n c : Nat) (w : World) (hn : v.ss.length = n) (hr : RdS w w.heap.size A v.ss) (hA : A = none → c = 0) (h : L.farB v = true) :
    Calls Try.prog 11 #[.agg #[.int .i64 v.size, .slice A n c, .int .i64 v.wrong, .int .i64 v.hxl, .int .i64 v.hxh, .int .i64 v.hyl, .int .i64 v.hyh]] w fun e w' => e = .returned (.bool true) ∧ Below w.heap.size w w' := by
  have HN := hide hn
  have HR := hide hr
  have HA := hide hA
  clear hn hr hA
  have HF := hide h
  clear h
  go_enter Try.func11, Try.ntmps11
  go_upto_region 1 with fail
  obtain ⟨W0, hW0⟩ : ∃ W0, w.alloc (.cells #[.int .i64 v.size, .slice A n c, .int .i64 v.wrong, .int .i64 v.hxl, .int .i64 v.hxh, .int .i64 v.hyl, .int .i64 v.hyh] 26) = W0 := ⟨_, rfl⟩
  have gp : W0.heap[w.heap.size]? = some (.cells #[.int .i64 v.size, .slice A n c, .int .i64 v.wrong, .int .i64 v.hxl, .int .i64 v.hxh, .int .i64 v.hyl, .int .i64 v.hyh] 26 (0, 0)) := by
    rw [← hW0]; exact (World.alloc_heap_new _ _)
  have gs : W0.heap.size = w.heap.size + 1 := by rw [← hW0]; simp
  have gB : Below w.heap.size w W0 := by rw [← hW0]; (repeat' first | exact zbR _ _ | assumption | refine zbD ?_ | refine zbA ?_ ?_ _ | refine zbS ?_ ?_ _ | refine zbT ?_ (by assumption) ?_ | (simp; done) | (simp; omega) | omega)
  rw [hW0]
  clear hW0
  obtain ⟨p, hp⟩ : ∃ p, w.heap.size = p := ⟨_, rfl⟩
  rw [hp]
  rw [hp] at gp
  have lp : p < W0.heap.size := by omega
  have HR0 := hide ((HR.out.below gB).mono gB.size)
  have GB := hide gB
  have GP := hide gp
  have cp0 := (blk_cell gp 0).trans rfl; have cp1 := (blk_cell gp 1).trans rfl; have cp2 := (blk_cell gp 2).trans rfl; have cp3 := (blk_cell gp 3).trans rfl; have cp4 := (blk_cell gp 4).trans rfl; have cp5 := (blk_cell gp 5).trans rfl; have cp6 := (blk_cell gp 6).trans rfl
  clear gp gB gs hp
  go_wp2_with (first | (go_at_call 28; refine (Far_any v A n c _ HN.out ((HR0.out.below (by (repeat' first | exact zbR _ _ | assumption | refine zbD ?_ | refine zbA ?_ ?_ _ | refine zbS ?_ ?_ _ | refine zbT ?_ (by assumption) ?_ | (simp; done) | (simp; omega) | omega))).mono (by first | (simp; done) | (simp; omega) | omega))).mono ?_; rintro e w2 ⟨rfl, hb2⟩; rw [HF.out]; obtain ⟨hc2, hf2⟩ := bcell hb2; have q2 := hb2.size; (try simp only [World.size_alloc] at q2); have z2_p : p < w2.heap.size := (by omega)) | (go_at_call 16; refine (works_any _).mono ?_; rintro e w19 ⟨rfl, hb19⟩))
  go_ret
  exact ⟨rfl, GB.out.trans ((show Below W0.heap.size W0 _ by (repeat' first | exact zbR _ _ | assumption | refine zbD ?_ | refine zbA ?_ ?_ _ | refine zbS ?_ ?_ _ | refine zbT ?_ (by assumption) ?_ | (simp; done) | (simp; omega) | omega)).mono GB.out.size)⟩

set_option maxRecDepth 100000 in
set_option maxHeartbeats 6400000 in
theorem centLaw_in (v : L.Vw) (A : Option Addr) (n c : Nat) (w : World) (hn : v.ss.length = n) (hr : RdS w w.heap.size A v.ss) (hA : A = none → c = 0) (h : L.farB v = false) :
    Calls Try.prog 11 #[.agg #[.int .i64 v.size, .slice A n c, .int .i64 v.wrong, .int .i64 v.hxl, .int .i64 v.hxh, .int .i64 v.hyl, .int .i64 v.hyh]] w fun e w' => e = .returned (.bool true) ∧ Below w.heap.size w w' := by
  have HN := hide hn
  have HR := hide hr
  have HA := hide hA
  clear hn hr hA
  have HF := hide h
  have hn40 : n ≤ 1000 := by have := (L.farB_no h).1; have := HN.out; omega
  obtain ⟨y1, hy1⟩ : ∃ y, L.cenN v = y := ⟨_, rfl⟩
  have H1 := hide hy1
  obtain ⟨y2, hy2⟩ : ∃ y, (L.cenX v).1 = y := ⟨_, rfl⟩
  have H2 := hide hy2
  obtain ⟨y3, hy3⟩ : ∃ y, (L.cenX v).2 = y := ⟨_, rfl⟩
  have H3 := hide hy3
  obtain ⟨y4, hy4⟩ : ∃ y, (L.cenY v).1 = y := ⟨_, rfl⟩
  have H4 := hide hy4
  obtain ⟨y5, hy5⟩ : ∃ y, (L.cenY v).2 = y := ⟨_, rfl⟩
  have H5 := hide hy5
  obtain ⟨y6, hy6⟩ : ∃ y, L.cenE v = y := ⟨_, rfl⟩
  have H6 := hide hy6
  clear h hy1 hy2 hy3 hy4 hy5 hy6
  go_enter Try.func11, Try.ntmps11
  go_upto_region 1 with fail
  obtain ⟨W0, hW0⟩ : ∃ W0, w.alloc (.cells #[.int .i64 v.size, .slice A n c, .int .i64 v.wrong, .int .i64 v.hxl, .int .i64 v.hxh, .int .i64 v.hyl, .int .i64 v.hyh] 26) = W0 := ⟨_, rfl⟩
  have gp : W0.heap[w.heap.size]? = some (.cells #[.int .i64 v.size, .slice A n c, .int .i64 v.wrong, .int .i64 v.hxl, .int .i64 v.hxh, .int .i64 v.hyl, .int .i64 v.hyh] 26 (0, 0)) := by
    rw [← hW0]; exact (World.alloc_heap_new _ _)
  have gs : W0.heap.size = w.heap.size + 1 := by rw [← hW0]; simp
  have gB : Below w.heap.size w W0 := by rw [← hW0]; (repeat' first | exact zbR _ _ | assumption | refine zbD ?_ | refine zbA ?_ ?_ _ | refine zbS ?_ ?_ _ | refine zbT ?_ (by assumption) ?_ | (simp; done) | (simp; omega) | omega)
  rw [hW0]
  clear hW0
  obtain ⟨p, hp⟩ : ∃ p, w.heap.size = p := ⟨_, rfl⟩
  rw [hp]
  rw [hp] at gp
  have lp : p < W0.heap.size := by omega
  have HR0 := hide ((HR.out.below gB).mono gB.size)
  have GB := hide gB
  have GP := hide gp
  have cp0 := (blk_cell gp 0).trans rfl; have cp1 := (blk_cell gp 1).trans rfl; have cp2 := (blk_cell gp 2).trans rfl; have cp3 := (blk_cell gp 3).trans rfl; have cp4 := (blk_cell gp 4).trans rfl; have cp5 := (blk_cell gp 5).trans rfl; have cp6 := (blk_cell gp 6).trans rfl
  clear gp gB gs hp
  go_upto_region 3 with (first | (go_at_call 28; refine (Far_any v A n c _ HN.out ((HR0.out.below (by (repeat' first | exact zbR _ _ | assumption | refine zbD ?_ | refine zbA ?_ ?_ _ | refine zbS ?_ ?_ _ | refine zbT ?_ (by assumption) ?_ | (simp; done) | (simp; omega) | omega))).mono (by first | (simp; done) | (simp; omega) | omega))).mono ?_; rintro e w2 ⟨rfl, hb2⟩; rw [HF.out]; obtain ⟨hc2, hf2⟩ := bcell hb2; have q2 := hb2.size; (try simp only [World.size_alloc] at q2); have z2_p : p < w2.heap.size := (by omega)))
  have z2_p : p < w2.heap.size := by omega
  have gp2 := (hb2.block p lp).trans GP.out
  have GP2 := hide gp2
  have HR2 := hide ((HR0.out.below hb2).mono hb2.size)
  have GB2 := hide (GB.out.trans (hb2.mono GB.out.size))
  clear cp0 cp1 cp2 cp3 cp4 cp5 cp6 hc2 hf2 hb2 lp q2 GB GP HR0
  have cp0 := (blk_cell gp2 0).trans rfl; have cp1 := (blk_cell gp2 1).trans rfl; have cp2 := (blk_cell gp2 2).trans rfl; have cp3 := (blk_cell gp2 3).trans rfl; have cp4 := (blk_cell gp2 4).trans rfl; have cp5 := (blk_cell gp2 5).trans rfl; have cp6 := (blk_cell gp2 6).trans rfl
  clear gp2
  go_upto_region 6 with (first | (go_at_call 26; refine (Copy_any v A n c _ HN.out ((HR2.out.below (by (repeat' first | exact zbR _ _ | assumption | refine zbD ?_ | refine zbA ?_ ?_ _ | refine zbS ?_ ?_ _ | refine zbT ?_ (by assumption) ?_ | (simp; done) | (simp; omega) | omega))).mono (by first | (simp; done) | (simp; omega) | omega)) HA.out hn40).mono ?_; rintro e w3 ⟨A', c', rfl, hown, hb3⟩; have HRO := hide (owns_RdS hown HN.out); clear hown; obtain ⟨hc3, hf3⟩ := bcell hb3; have q3 := hb3.size; have z3_p : p < w3.heap.size := (by omega)) | (go_at_call 24; refine (Centres_any' v A' n c' _ HN.out ((HRO.out.below (by (repeat' first | exact zbR _ _ | assumption | refine zbD ?_ | refine zbA ?_ ?_ _ | refine zbS ?_ ?_ _ | refine zbT ?_ (by assumption) ?_ | (simp; done) | (simp; omega) | omega))).mono (by first | (simp; done) | (simp; omega) | omega))).mono ?_; rintro e w4 ⟨rfl, hb4⟩; rw [H1.out, H2.out, H3.out, H4.out, H5.out, H6.out]; obtain ⟨hc4, hf4⟩ := bcell hb4; have q4 := hb4.size; (try simp only [World.size_alloc] at q4); have z4_p : p < w4.heap.size := (by omega); have z4_o : w3.heap.size < w4.heap.size := (by omega)) | (go_at_call 38; refine (refCentres_any v A n c _ HN.out ((HR2.out.below (by (repeat' first | exact zbR _ _ | assumption | refine zbD ?_ | refine zbA ?_ ?_ _ | refine zbS ?_ ?_ _ | refine zbT ?_ (by assumption) ?_ | (simp; done) | (simp; omega) | omega))).mono (by first | (simp; done) | (simp; omega) | omega))).mono ?_; rintro e w5 ⟨rfl, hb5⟩; rw [H1.out, H2.out, H3.out, H4.out, H5.out, H6.out]; obtain ⟨hc5, hf5⟩ := bcell hb5; have q5 := hb5.size; (try simp only [World.size_alloc] at q5)))
  obtain ⟨W1, hW1⟩ : ∃ W1, (w5.alloc (.cells #[.int .i64 y2, .int .i64 y3] 24)).alloc (.cells #[.int .i64 y4, .int .i64 y5] 24) = W1 := ⟨_, rfl⟩
  have B1 : Below w5.heap.size w5 W1 := by rw [← hW1]; (repeat' first | exact zbR _ _ | assumption | refine zbD ?_ | refine zbA ?_ ?_ _ | refine zbS ?_ ?_ _ | refine zbT ?_ (by assumption) ?_ | (simp; done) | (simp; omega) | omega)
  have Q1 : W1.heap.size = w5.heap.size + 1 + 1 := by rw [← hW1]; simp
  have g3 : W1.heap[w5.heap.size]? = some (.cells #[.int .i64 y2, .int .i64 y3] 24 (0, 0)) := by rw [← hW1]; exact (Below.heap_alloc _ _ _ (by first | (simp; done) | (simp; omega) | omega)).trans (World.alloc_heap_new _ _)
  have g4 : W1.heap[w5.heap.size + 1]? = some (.cells #[.int .i64 y4, .int .i64 y5] 24 (0, 0)) := by rw [← hW1]; exact (congrArg _ (by simp)).trans (World.alloc_heap_new _ _)
  have g1 : W1.heap[w4.heap.size]? = some (.cells #[.int .i64 y2, .int .i64 y3] 24 (0, 0)) := (B1.block _ (by first | (simp; done) | (simp; omega) | omega)).trans ((hb5.block _ (by first | (simp; done) | (simp; omega) | omega)).trans ((Below.heap_alloc _ _ _ (by first | (simp; done) | (simp; omega) | omega)).trans (World.alloc_heap_new _ _)))
  have g2 : W1.heap[w4.heap.size + 1]? = some (.cells #[.int .i64 y4, .int .i64 y5] 24 (0, 0)) := (B1.block _ (by first | (simp; done) | (simp; omega) | omega)).trans ((hb5.block _ (by first | (simp; done) | (simp; omega) | omega)).trans ((congrArg _ (by simp)).trans (World.alloc_heap_new _ _)))
  have go : W1.heap[w3.heap.size]? = some (.cells #[.int .i64 v.size, .slice A' n c', .int .i64 v.wrong, .int .i64 v.hxl, .int .i64 v.hxh, .int .i64 v.hyl, .int .i64 v.hyh] 26 (0, 0)) := (B1.block _ (by first | (simp; done) | (simp; omega) | omega)).trans ((hb5.block _ (by first | (simp; done) | (simp; omega) | omega)).trans ((Below.heap_alloc _ _ _ (by first | (simp; done) | (simp; omega) | omega)).trans ((Below.heap_alloc _ _ _ (by first | (simp; done) | (simp; omega) | omega)).trans ((hb4.block _ (by first | (simp; done) | (simp; omega) | omega)).trans (World.alloc_heap_new _ _)))))
  have gB : Below w2.heap.size w2 W1 := by
    have h4 : Below w2.heap.size w2 w4 := (hb3.alloc (show w2.heap.size ≤ w3.heap.size by omega) _).trans (hb4.mono (by simp; omega))
    have h5 : Below w2.heap.size w2 w5 := ((h4.alloc (show w2.heap.size ≤ w4.heap.size by omega) _).alloc (by simp; omega) _).trans (hb5.mono (by simp; omega))
    exact h5.trans (B1.mono (by omega))
  have gp := (gB.block p z2_p).trans GP2.out
  have HRO1 := hide ((HRO.out.below (show Below w3.heap.size w3 W1 from by
    have h4 : Below w3.heap.size w3 w4 := ((zbR _ _).alloc (Nat.le_refl _) _).trans (hb4.mono (by simp))
    have h5 : Below w3.heap.size w3 w5 := ((h4.alloc (by omega) _).alloc (by simp; omega) _).trans (hb5.mono (by simp; omega))
    exact h5.trans (B1.mono (by omega)))).mono (B' := W1.heap.size) (by omega))
  have HR1 := hide ((HR2.out.below gB).mono gB.size)
  have GB1 := hide (GB2.out.trans (gB.mono GB2.out.size))
  rw [hW1]
  clear hW1
  obtain ⟨o, ho⟩ : ∃ o, w3.heap.size = o := ⟨_, rfl⟩
  obtain ⟨a1, h1⟩ : ∃ o, w4.heap.size = o := ⟨_, rfl⟩
  obtain ⟨a2, h2⟩ : ∃ o, w4.heap.size + 1 = o := ⟨_, rfl⟩
  obtain ⟨a3, h3⟩ : ∃ o, w5.heap.size = o := ⟨_, rfl⟩
  obtain ⟨a4, h4⟩ : ∃ o, w5.heap.size + 1 = o := ⟨_, rfl⟩
  rw [h2, h1, h4, h3, ho]
  rw [ho] at go
  rw [h1] at g1
  rw [h2] at g2
  rw [h3] at g3
  rw [h4] at g4
  have lp : p < W1.heap.size := by have := gB.size; omega
  have lo : o < W1.heap.size := by omega
  have l1 : a1 < W1.heap.size := by omega
  have l2 : a2 < W1.heap.size := by omega
  have l3 : a3 < W1.heap.size := by omega
  have l4 : a4 < W1.heap.size := by omega
  clear ho h1 h2 h3 h4 Q1 gB B1 hb3 hb4 hb5 hc3 hf3 hc4 hf4 hc5 hf5 q3 q4 q5 z3_p z4_p z4_o cp0 cp1 cp2 cp3 cp4 cp5 cp6 z2_p HRO HR2 GB2 GP2
  have cp0 := (blk_cell gp 0).trans rfl; have cp1 := (blk_cell gp 1).trans rfl; have cp2 := (blk_cell gp 2).trans rfl; have cp3 := (blk_cell gp 3).trans rfl; have cp4 := (blk_cell gp 4).trans rfl; have cp5 := (blk_cell gp 5).trans rfl; have cp6 := (blk_cell gp 6).trans rfl
  have co0 := (blk_cell go 0).trans rfl; have co1 := (blk_cell go 1).trans rfl; have co2 := (blk_cell go 2).trans rfl; have co3 := (blk_cell go 3).trans rfl; have co4 := (blk_cell go 4).trans rfl; have co5 := (blk_cell go 5).trans rfl; have co6 := (blk_cell go 6).trans rfl
  have c1_0 := (blk_cell g1 0).trans rfl; have c1_1 := (blk_cell g1 1).trans rfl
  have c2_0 := (blk_cell g2 0).trans rfl; have c2_1 := (blk_cell g2 1).trans rfl
  have c3_0 := (blk_cell g3 0).trans rfl; have c3_1 := (blk_cell g3 1).trans rfl
  have c4_0 := (blk_cell g4 0).trans rfl; have c4_1 := (blk_cell g4 1).trans rfl
  clear gp go g1 g2 g3 g4
  go_wp2_with (first | (go_at_call 29; refine (Fewest_any v A' n c' _ HN.out ((HRO1.out.below (by (repeat' first | exact zbR _ _ | assumption | refine zbD ?_ | refine zbA ?_ ?_ _ | refine zbS ?_ ?_ _ | refine zbT ?_ (by assumption) ?_ | (simp; done) | (simp; omega) | omega))).mono (by first | (simp; done) | (simp; omega) | omega))).mono ?_; rintro e w6 ⟨rfl, hb6⟩; obtain ⟨hc6, hf6⟩ := bcell hb6; have q6 := hb6.size; (try simp only [World.size_alloc] at q6); have z6_p : p < w6.heap.size := (by omega); have z6_o : o < w6.heap.size := (by omega); have z6_a1 : a1 < w6.heap.size := (by omega); have z6_a2 : a2 < w6.heap.size := (by omega); have z6_a3 : a3 < w6.heap.size := (by omega); have z6_a4 : a4 < w6.heap.size := (by omega)) | (go_at_call 39; refine (refFewest_any v A n c _ HN.out ((HR1.out.below (by (repeat' first | exact zbR _ _ | assumption | refine zbD ?_ | refine zbA ?_ ?_ _ | refine zbS ?_ ?_ _ | refine zbT ?_ (by assumption) ?_ | (simp; done) | (simp; omega) | omega))).mono (by first | (simp; done) | (simp; omega) | omega))).mono ?_; rintro e w7 ⟨rfl, hb7⟩; obtain ⟨hc7, hf7⟩ := bcell hb7; have q7 := hb7.size; (try simp only [World.size_alloc] at q7); have z7_p : p < w7.heap.size := (by omega); have z7_o : o < w7.heap.size := (by omega); have z7_a1 : a1 < w7.heap.size := (by omega); have z7_a2 : a2 < w7.heap.size := (by omega); have z7_a3 : a3 < w7.heap.size := (by omega); have z7_a4 : a4 < w7.heap.size := (by omega)) | (go_at_call 30; refine (Blame_any v A' n c' _ HN.out ((HRO1.out.below (by (repeat' first | exact zbR _ _ | assumption | refine zbD ?_ | refine zbA ?_ ?_ _ | refine zbS ?_ ?_ _ | refine zbT ?_ (by assumption) ?_ | (simp; done) | (simp; omega) | omega))).mono (by first | (simp; done) | (simp; omega) | omega))).mono ?_; rintro e w8 ⟨sv8, c8, rfl, hown8, hb8⟩; obtain ⟨hc8, hf8⟩ := bcell hb8; have q8 := hb8.size; (try simp only [World.size_alloc] at q8); have z8_p : p < w8.heap.size := (by omega); have z8_o : o < w8.heap.size := (by omega); have z8_a1 : a1 < w8.heap.size := (by omega); have z8_a2 : a2 < w8.heap.size := (by omega); have z8_a3 : a3 < w8.heap.size := (by omega); have z8_a4 : a4 < w8.heap.size := (by omega); have HI8 := hide (owns_RdI hown8 rfl); clear hown8) | (go_at_call 40; refine (refBlame_any v A n c _ HN.out ((HR1.out.below (by (repeat' first | exact zbR _ _ | assumption | refine zbD ?_ | refine zbA ?_ ?_ _ | refine zbS ?_ ?_ _ | refine zbT ?_ (by assumption) ?_ | (simp; done) | (simp; omega) | omega))).mono (by first | (simp; done) | (simp; omega) | omega))).mono ?_; rintro e w9 ⟨sv9, c9, rfl, hown9, hb9⟩; obtain ⟨hc9, hf9⟩ := bcell hb9; have q9 := hb9.size; (try simp only [World.size_alloc] at q9); have z9_p : p < w9.heap.size := (by omega); have z9_o : o < w9.heap.size := (by omega); have z9_a1 : a1 < w9.heap.size := (by omega); have z9_a2 : a2 < w9.heap.size := (by omega); have z9_a3 : a3 < w9.heap.size := (by omega); have z9_a4 : a4 < w9.heap.size := (by omega); have HI9 := hide (owns_RdI hown9 rfl); clear hown9) | (go_at_call 34; refine (sameInts_any sv8 sv9 _ c8 c9 (L.blmL v) _ rfl ((HI8.out.below (by (repeat' first | exact zbR _ _ | assumption | refine zbD ?_ | refine zbA ?_ ?_ _ | refine zbS ?_ ?_ _ | refine zbT ?_ (by assumption) ?_ | (simp; done) | (simp; omega) | omega))).mono (by first | (simp; done) | (simp; omega) | omega)) ((HI9.out.below (by (repeat' first | exact zbR _ _ | assumption | refine zbD ?_ | refine zbA ?_ ?_ _ | refine zbS ?_ ?_ _ | refine zbT ?_ (by assumption) ?_ | (simp; done) | (simp; omega) | omega))).mono (by first | (simp; done) | (simp; omega) | omega)) (by have := L.blmL_le v; have := HN.out; omega)).mono ?_; rintro e w10 ⟨rfl, hb10⟩; have q10 := hb10.size) | (go_at_call 16; refine (works_any _).mono ?_; rintro e w19 ⟨rfl, hb19⟩))
  go_ret
  exact ⟨rfl, GB1.out.trans ((show Below W1.heap.size W1 _ by (repeat' first | exact zbR _ _ | assumption | refine zbD ?_ | refine zbA ?_ ?_ _ | refine zbS ?_ ?_ _ | refine zbT ?_ (by assumption) ?_ | (simp; done) | (simp; omega) | omega)).mono GB1.out.size)⟩

theorem centLaw_any (v : L.Vw) (A : Option Addr) (n c : Nat) (w : World) (hn : v.ss.length = n) (hr : RdS w w.heap.size A v.ss) (hA : A = none → c = 0) :
    Calls Try.prog 11 #[.agg #[.int .i64 v.size, .slice A n c, .int .i64 v.wrong, .int .i64 v.hxl, .int .i64 v.hxh, .int .i64 v.hyl, .int .i64 v.hyh]] w fun e w' => e = .returned (.bool true) ∧ Below w.heap.size w w' := by
  cases h : L.farB v
  · exact centLaw_in v A n c w hn hr hA h
  · exact centLaw_far v A n c w hn hr hA h

end Go.Proofs.Ytgnobonhohfofaa

namespace Go.Proofs.Ytgnobonhohfofaa
open Go.ChangeShapes Go.WideShapes Go.ChangeAt Go.RowKit Go.Deep Go.Joins

theorem Try.ownLinesCentres : ownKnob Try.prog.godebug = none := by kernel_rfl

set_option maxRecDepth 100000 in
theorem linesCentres_call (H : Type) (enc : TypeId × Value → H) (W : World) (base : Nat) (args : Array Value) (ds : List (DataW H)) (p : List MemPlace) (hval : ∀ (j : Nat) t v, Try.f11.params[j]? = some t → args[j]? = some v → Value.okWide Try.prog W .any base t v)
    (hA : DataW.TrodAll enc Try.prog W 0 (fun _ => true) true Try.f11.params.toList args.toList ds p) : Calls Try.prog 11 args W fun e W' => e = .returned (.bool true) ∧ Below W.heap.size W W' := by
  rw [Try.params11] at hA hval
  obtain ⟨v0, d0, rfl, rfl, h0⟩ := trodAll_one hA
  obtain ⟨x0, A0, n0, c0, rfl, hle0, hmx0, hn0, hr0, hno0, hwf0⟩ := open_view (hval 0 26 v0 rfl rfl) h0
  exact centLaw_any x0 A0 n0 c0 W hn0 hr0 hno0

set_option maxRecDepth 100000 in
theorem LinesCentres_holds : Rows.LinesCentresSaid :=
  OpenClaim.holds_of_wide (p := Try.pinned) (s := Rows.linesCentresSpec) (c := Rows.linesCentresRow) 11 Try.f11 rfl rfl rfl rfl rfl rfl rfl ⟨rfl, rfl, rfl, rfl, rfl⟩ rfl rfl rfl rfl rfl (by kernel_rfl) Try.func11 (by kernel_rfl)
    (of_decide_eq_true (by kernel_rfl)) (by unfold Func.isWrapper; first | (rw [if_pos (by decide +kernel)]; kernel_rfl) | (rw [if_neg (by decide +kernel)]; exact ⟨rfl, rfl⟩))
    (fun os started H enc _ => law_lift (C := Try.checked) (F := 11) (fn := Try.f11) (s := Rows.linesCentresSpec) (bt := 4) started Try.ownLinesCentres (by kernel_rfl) Try.func11 (by kernel_rfl) Try.underlying4 rfl laidOut (of_decide_eq_true (by kernel_rfl))
      (fun ds hds => match ds, hds with | [_], _ => rfl)
      (ChangeSpec.witness6 (enc := enc) (C := Try.checked) false ⟨#[], #[.agg #[.int .i64 0, .slice none 0 0, .int .i64 0, .int .i64 0, .int .i64 0, .int .i64 0, .int .i64 0]], []⟩ 8 (by kernel_rfl) (by kernel_rfl) (by kernel_rfl) (by kernel_rfl))
      (fun W base args ds p hval hA _ => linesCentres_call H enc W base args ds p hval hA) _ _ _)

end Go.Proofs.Ytgnobonhohfofaa
