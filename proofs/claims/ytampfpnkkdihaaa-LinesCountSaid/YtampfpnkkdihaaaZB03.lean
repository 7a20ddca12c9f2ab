/-
  Part of a claim's texts: contracts of the program's functions and the plain functions that they compute, in build order.
-/
import Derived.Test.YtampfpnkkdihaaaZB02
namespace Go.Proofs.Ytampfpnkkdihaaa
open Go.RowKit
attribute [local go_sem ↓] Go.wp_at_zero Go.wp_at_succ

def L.isMarkB (v : L.Vw) (m : L.Mk) : Bool := L.markB m v.size v.hxl v.hxh v.hyl v.hyh
def L.truthB (v : L.Vw) (m : L.Mk) : Bool := L.isMarkB v m && decide (((L.wrongL v m.x m.y).length : Int) ≤ v.wrong)
theorem L.isMark_bd {v : L.Vw} (hv : L.VwOk v) {m : L.Mk} (h : L.isMarkB v m = true) : L.MkOk m ∧ m.x ≤ v.size ∧ m.y ≤ v.size := by
  unfold L.isMarkB L.markB L.within at h
  simp only [Bool.and_eq_true, decide_eq_true_eq] at h
  obtain ⟨⟨⟨⟨a, b⟩, c, d⟩, e, f⟩, g, i⟩ := h
  have := hv.s1; have := hv.x0; have := hv.x1; have := hv.y0; have := hv.y1; have := hv.xx; have := hv.yy
  exact ⟨⟨a, by omega, c, by omega, by omega, by omega, by omega, by omega⟩, b, d⟩

set_option maxRecDepth 100000 in
set_option maxHeartbeats 3200000 in
theorem isTruth_any (v : L.Vw) (A : Option Addr) (n c : Nat) (m : L.Mk) (w : World) (hv : L.VwOk v) (hn : v.ss.length = n) (hr : RdS w w.heap.size A v.ss) :
    Calls Try.prog 18 #[.agg #[.int .i64 v.size, .slice A n c, .int .i64 v.wrong, .int .i64 v.hxl, .int .i64 v.hxh, .int .i64 v.hyl, .int .i64 v.hyh], .agg #[.int .i64 m.x, .int .i64 m.y, .int .i64 m.hx, .int .i64 m.hy]] w fun e w' => e = .returned (.bool (L.truthB v m)) ∧ Below w.heap.size w w' := by
  have HN := hide hn
  have HR := hide hr
  have HV := hide hv
  clear hn hr hv
  cases hm : L.isMarkB v m
  · have HE := hide (show L.truthB v m = false by unfold L.truthB; rw [hm]; rfl)
    have HM := hide (show L.markB m v.size v.hxl v.hxh v.hyl v.hyh = false from hm)
    clear hm
    go_enter Try.func18, Try.ntmps18
    go_upto_region 1 with fail
    obtain ⟨W0, hW0⟩ : ∃ W0, (w.alloc (.cells #[.int .i64 v.size, .slice A n c, .int .i64 v.wrong, .int .i64 v.hxl, .int .i64 v.hxh, .int .i64 v.hyl, .int .i64 v.hyh] 26)).alloc (.cells #[.int .i64 m.x, .int .i64 m.y, .int .i64 m.hx, .int .i64 m.hy] 30) = W0 := ⟨_, rfl⟩
    rw [hW0]
    obtain ⟨p, hp⟩ : ∃ p, w.heap.size = p := ⟨_, rfl⟩
    obtain ⟨q, hq⟩ : ∃ q, w.heap.size + 1 = q := ⟨_, rfl⟩
    have hS : (fun w' => Below W0.heap.size W0 w' ∧ p < w'.heap.size ∧ q < w'.heap.size ∧ w'.cell? ⟨p, 0, none⟩ = some (.int .i64 v.size) ∧ w'.cell? ⟨p, 1, none⟩ = some (.slice A n c) ∧ w'.cell? ⟨p, 2, none⟩ = some (.int .i64 v.wrong) ∧ w'.cell? ⟨p, 3, none⟩ = some (.int .i64 v.hxl) ∧ w'.cell? ⟨p, 4, none⟩ = some (.int .i64 v.hxh) ∧ w'.cell? ⟨p, 5, none⟩ = some (.int .i64 v.hyl) ∧ w'.cell? ⟨p, 6, none⟩ = some (.int .i64 v.hyh) ∧ w'.cell? ⟨q, 0, none⟩ = some (.int .i64 m.x) ∧ w'.cell? ⟨q, 1, none⟩ = some (.int .i64 m.y) ∧ w'.cell? ⟨q, 2, none⟩ = some (.int .i64 m.hx) ∧ w'.cell? ⟨q, 3, none⟩ = some (.int .i64 m.hy)) W0 := by
      rw [← hW0, ← hp, ← hq]
      refine ⟨Below.refl _ _, (by first | (simp; done) | (simp; omega) | omega), (by first | (simp; done) | (simp; omega) | omega), (zcP _ _ _ (by first | (simp; done) | (simp; omega) | omega)).trans (zcA _ _ _ _ rfl), (zcP _ _ _ (by first | (simp; done) | (simp; omega) | omega)).trans (zcA _ _ _ _ rfl), (zcP _ _ _ (by first | (simp; done) | (simp; omega) | omega)).trans (zcA _ _ _ _ rfl), (zcP _ _ _ (by first | (simp; done) | (simp; omega) | omega)).trans (zcA _ _ _ _ rfl), (zcP _ _ _ (by first | (simp; done) | (simp; omega) | omega)).trans (zcA _ _ _ _ rfl), (zcP _ _ _ (by first | (simp; done) | (simp; omega) | omega)).trans (zcA _ _ _ _ rfl), (zcP _ _ _ (by first | (simp; done) | (simp; omega) | omega)).trans (zcA _ _ _ _ rfl), zcA _ _ _ _ (by simp), zcA _ _ _ _ (by simp), zcA _ _ _ _ (by simp), zcA _ _ _ _ (by simp)⟩
    have hs0 : W0.heap.size = w.heap.size + 1 + 1 := by rw [← hW0]; simp
    have hb0 : Below w.heap.size w W0 := by rw [← hW0]; (repeat' first | exact zbR _ _ | assumption | refine zbD ?_ | refine zbA ?_ ?_ _ | refine zbS ?_ ?_ _ | refine zbT ?_ (by assumption) ?_ | (simp; done) | (simp; omega) | omega)
    rw [hq, hp]
    have hq' : q = p + 1 := by omega
    have HP := hide hp
    have HB0 := hide hb0
    have HS0 := hide hs0
    have HQ := hide hq'
    clear hW0 hp hq hb0 hs0 hq'
    have hkeep : ∀ u u' : World, Below u.heap.size u u' → (Below W0.heap.size W0 u ∧ p < u.heap.size ∧ q < u.heap.size ∧ u.cell? ⟨p, 0, none⟩ = some (.int .i64 v.size) ∧ u.cell? ⟨p, 1, none⟩ = some (.slice A n c) ∧ u.cell? ⟨p, 2, none⟩ = some (.int .i64 v.wrong) ∧ u.cell? ⟨p, 3, none⟩ = some (.int .i64 v.hxl) ∧ u.cell? ⟨p, 4, none⟩ = some (.int .i64 v.hxh) ∧ u.cell? ⟨p, 5, none⟩ = some (.int .i64 v.hyl) ∧ u.cell? ⟨p, 6, none⟩ = some (.int .i64 v.hyh) ∧ u.cell? ⟨q, 0, none⟩ = some (.int .i64 m.x) ∧ u.cell? ⟨q, 1, none⟩ = some (.int .i64 m.y) ∧ u.cell? ⟨q, 2, none⟩ = some (.int .i64 m.hx) ∧ u.cell? ⟨q, 3, none⟩ = some (.int .i64 m.hy)) → (Below W0.heap.size W0 u' ∧ p < u'.heap.size ∧ q < u'.heap.size ∧ u'.cell? ⟨p, 0, none⟩ = some (.int .i64 v.size) ∧ u'.cell? ⟨p, 1, none⟩ = some (.slice A n c) ∧ u'.cell? ⟨p, 2, none⟩ = some (.int .i64 v.wrong) ∧ u'.cell? ⟨p, 3, none⟩ = some (.int .i64 v.hxl) ∧ u'.cell? ⟨p, 4, none⟩ = some (.int .i64 v.hxh) ∧ u'.cell? ⟨p, 5, none⟩ = some (.int .i64 v.hyl) ∧ u'.cell? ⟨p, 6, none⟩ = some (.int .i64 v.hyh) ∧ u'.cell? ⟨q, 0, none⟩ = some (.int .i64 m.x) ∧ u'.cell? ⟨q, 1, none⟩ = some (.int .i64 m.y) ∧ u'.cell? ⟨q, 2, none⟩ = some (.int .i64 m.hx) ∧ u'.cell? ⟨q, 3, none⟩ = some (.int .i64 m.hy)) := by
      rintro u u' hb ⟨hB, l_p, l_q, k0, k1, k2, k3, k4, k5, k6, k7, k8, k9, k10⟩
      exact ⟨hB.trans (hb.mono hB.size), Nat.lt_of_lt_of_le l_p hb.size, Nat.lt_of_lt_of_le l_q hb.size, (hb.cell (p := ⟨p, 0, none⟩) l_p).trans k0, (hb.cell (p := ⟨p, 1, none⟩) l_p).trans k1, (hb.cell (p := ⟨p, 2, none⟩) l_p).trans k2, (hb.cell (p := ⟨p, 3, none⟩) l_p).trans k3, (hb.cell (p := ⟨p, 4, none⟩) l_p).trans k4, (hb.cell (p := ⟨p, 5, none⟩) l_p).trans k5, (hb.cell (p := ⟨p, 6, none⟩) l_p).trans k6, (hb.cell (p := ⟨q, 0, none⟩) l_q).trans k7, (hb.cell (p := ⟨q, 1, none⟩) l_q).trans k8, (hb.cell (p := ⟨q, 2, none⟩) l_q).trans k9, (hb.cell (p := ⟨q, 3, none⟩) l_q).trans k10⟩
    dsimp only at hS
    refine wp_region_held_drew (S := (fun w' => Below W0.heap.size W0 w' ∧ p < w'.heap.size ∧ q < w'.heap.size ∧ w'.cell? ⟨p, 0, none⟩ = some (.int .i64 v.size) ∧ w'.cell? ⟨p, 1, none⟩ = some (.slice A n c) ∧ w'.cell? ⟨p, 2, none⟩ = some (.int .i64 v.wrong) ∧ w'.cell? ⟨p, 3, none⟩ = some (.int .i64 v.hxl) ∧ w'.cell? ⟨p, 4, none⟩ = some (.int .i64 v.hxh) ∧ w'.cell? ⟨p, 5, none⟩ = some (.int .i64 v.hyl) ∧ w'.cell? ⟨p, 6, none⟩ = some (.int .i64 v.hyh) ∧ w'.cell? ⟨q, 0, none⟩ = some (.int .i64 m.x) ∧ w'.cell? ⟨q, 1, none⟩ = some (.int .i64 m.y) ∧ w'.cell? ⟨q, 2, none⟩ = some (.int .i64 m.hx) ∧ w'.cell? ⟨q, 3, none⟩ = some (.int .i64 m.hy))) (by kernel_rfl) ?_ (fun hHeld0 => ?_)
    · (try dsimp only); (first | (go_keep; done) | (go_split_ands; (repeat' apply And.intro) <;> first | (go_keep; done) | (simp [*, zcA, zcP, zfA, zfP]; done) | (simp [zcA, zcP] <;> rfl) | (simp [*, zsS, zsO, zsA]; done) | ((first | refine (hc _ _ ?_).trans ?_ | refine (hf _ _ ?_).trans ?_) <;> first | assumption | (simp; done) | (simp; omega) | omega | (go_keep; done) | (simp [*, zcA, zcP, zfA, zfP]; done) | (simp [zcA, zcP]; rfl)) | (repeat' first | exact zbR _ _ | assumption | refine zbD ?_ | refine zbA ?_ ?_ _ | refine zbS ?_ ?_ _ | refine zbT ?_ (by assumption) ?_ | (simp; done) | (simp; omega) | omega)))
    refine tL (v := ?_) 0 rfl (by kernel_rfl) (fun _ _ _ h => h) (Or.inl ⟨by rfl, ?_⟩) (by assumption) ?_; rotate_left
    · (intro w hSw; (try dsimp only at hSw); go_simp; try with_reducible rfl)
    try simp only [Act.put, zl, z0, z1]
    refine tL (v := ?_) 1 rfl (by kernel_rfl) (fun _ _ _ h => h) (Or.inl ⟨by rfl, ?_⟩) (by assumption) ?_; rotate_left
    · (intro w hSw; (try dsimp only at hSw); go_simp; try with_reducible rfl)
    try simp only [Act.put, zl, z0, z1]
    refine wpAnyH_ready (rs := [2]) (by kernel_rfl) (by simp) ?_
    refine consL 2 rfl (fun K hK => ?_) AllReadyH.nil
    go_simp
    (go_at_call 49; refine (isMark_any v A n c m _).mono ?_; rintro e w2 ⟨rfl, hb⟩; rw [HM.out]; have hSn := hkeep _ _ hb (by assumption); (try clear hS); have hS := hSn; clear hSn)
    refine hK.out _ _ ?_ (fun hHeld1 => ?_)
    · (try dsimp only); exact hS
    clear hK K hHeld0
    try simp only [Act.put, zl, z0, z1]
    refine tL (v := ?_) 3 rfl (by kernel_rfl) (fun _ _ _ h => h) (Or.inl ⟨by rfl, ?_⟩) (by assumption) ?_; rotate_left
    · (intro w hSw; (try dsimp only at hSw); go_simp; try with_reducible rfl)
    try simp only [Act.put, zl, z0, z1]
    refine takeL 4 rfl (by kernel_rfl) (by kernel_rfl) (by kernel_rfl) (fun _ _ _ h => h) (Or.inr ⟨by rfl, rfl⟩) (by assumption) ?_
    try simp only [Act.put, zl, z0, z1]
    refine takeL 5 rfl (by kernel_rfl) (by kernel_rfl) (by kernel_rfl) (fun _ _ _ h => h) (Or.inr ⟨by rfl, rfl⟩) (by assumption) ?_
    try simp only [Act.put, zl, z0, z1]
    refine takeL 6 rfl (by kernel_rfl) (by kernel_rfl) (by kernel_rfl) (fun _ _ _ h => h) (Or.inr ⟨by rfl, rfl⟩) (by assumption) ?_
    try simp only [Act.put, zl, z0, z1]
    refine takeL 7 rfl (by kernel_rfl) (by kernel_rfl) (by kernel_rfl) (fun _ _ _ h => h) (Or.inr ⟨by rfl, rfl⟩) (by assumption) ?_
    try simp only [Act.put, zl, z0, z1]
    refine takeL 8 rfl (by kernel_rfl) (by kernel_rfl) (by kernel_rfl) (fun _ _ _ h => h) (Or.inr ⟨by rfl, rfl⟩) (by assumption) ?_
    try simp only [Act.put, zl, z0, z1]
    refine takeL 9 rfl (by kernel_rfl) (by kernel_rfl) (by kernel_rfl) (fun _ _ _ h => h) (Or.inr ⟨by rfl, rfl⟩) (by assumption) ?_
    try simp only [Act.put, zl, z0, z1]
    refine takeL 10 rfl (by kernel_rfl) (by kernel_rfl) (by kernel_rfl) (fun _ _ _ h => h) (Or.inr ⟨by rfl, rfl⟩) (by assumption) ?_
    try simp only [Act.put, zl, z0, z1]
    refine takeL 11 rfl (by kernel_rfl) (by kernel_rfl) (by kernel_rfl) (fun _ _ _ h => h) (Or.inr ⟨by rfl, rfl⟩) (by assumption) ?_
    try simp only [Act.put, zl, z0, z1]
    refine takeL 12 rfl (by kernel_rfl) (by kernel_rfl) (by kernel_rfl) (fun _ _ _ h => h) (Or.inr ⟨by rfl, rfl⟩) (by assumption) ?_
    try simp only [Act.put, zl, z0, z1]
    refine takeL 13 rfl (by kernel_rfl) (by kernel_rfl) (by kernel_rfl) (fun _ _ _ h => h) (Or.inr ⟨by rfl, rfl⟩) (by assumption) ?_
    try simp only [Act.put, zl, z0, z1]
    refine tL (v := ?_) 14 rfl (by kernel_rfl) (fun _ _ _ h => h) (Or.inl ⟨by rfl, ?_⟩) (by assumption) ?_; rotate_left
    · (intro w hSw; (try dsimp only at hSw); go_simp; try with_reducible rfl)
    try simp only [Act.put, zl, z0, z1]
    refine tL (v := ?_) 15 rfl (by kernel_rfl) (fun _ _ _ h => h) (Or.inl ⟨by rfl, ?_⟩) (by assumption) ?_; rotate_left
    · (intro w hSw; (try dsimp only at hSw); go_simp; try with_reducible rfl)
    try simp only [Act.put, zl, z0, z1]
    refine wpAnyH_done (by kernel_rfl) ?_ _
    go_wp2
    go_ret
    exact ⟨by rw [HE.out]; rfl, by (go_split_ands; (have h9 : Below W0.heap.size W0 _ := (by assumption); exact HB0.out.trans (h9.mono (by have := HS0.out; omega))))⟩
  · have HE := hide (show L.truthB v m = decide (((L.wrongL v m.x m.y).length : Int) ≤ v.wrong) by unfold L.truthB; rw [hm]; rfl)
    have HM := hide (show L.markB m v.size v.hxl v.hxh v.hyl v.hyh = true from hm)
    have HB := hide (L.isMark_bd HV.out hm).1
    clear hm
    go_enter Try.func18, Try.ntmps18
    go_upto_region 1 with fail
    obtain ⟨W0, hW0⟩ : ∃ W0, (w.alloc (.cells #[.int .i64 v.size, .slice A n c, .int .i64 v.wrong, .int .i64 v.hxl, .int .i64 v.hxh, .int .i64 v.hyl, .int .i64 v.hyh] 26)).alloc (.cells #[.int .i64 m.x, .int .i64 m.y, .int .i64 m.hx, .int .i64 m.hy] 30) = W0 := ⟨_, rfl⟩
    rw [hW0]
    obtain ⟨p, hp⟩ : ∃ p, w.heap.size = p := ⟨_, rfl⟩
    obtain ⟨q, hq⟩ : ∃ q, w.heap.size + 1 = q := ⟨_, rfl⟩
    have hS : (fun w' => Below W0.heap.size W0 w' ∧ p < w'.heap.size ∧ q < w'.heap.size ∧ w'.cell? ⟨p, 0, none⟩ = some (.int .i64 v.size) ∧ w'.cell? ⟨p, 1, none⟩ = some (.slice A n c) ∧ w'.cell? ⟨p, 2, none⟩ = some (.int .i64 v.wrong) ∧ w'.cell? ⟨p, 3, none⟩ = some (.int .i64 v.hxl) ∧ w'.cell? ⟨p, 4, none⟩ = some (.int .i64 v.hxh) ∧ w'.cell? ⟨p, 5, none⟩ = some (.int .i64 v.hyl) ∧ w'.cell? ⟨p, 6, none⟩ = some (.int .i64 v.hyh) ∧ w'.cell? ⟨q, 0, none⟩ = some (.int .i64 m.x) ∧ w'.cell? ⟨q, 1, none⟩ = some (.int .i64 m.y) ∧ w'.cell? ⟨q, 2, none⟩ = some (.int .i64 m.hx) ∧ w'.cell? ⟨q, 3, none⟩ = some (.int .i64 m.hy)) W0 := by
      rw [← hW0, ← hp, ← hq]
      refine ⟨Below.refl _ _, (by first | (simp; done) | (simp; omega) | omega), (by first | (simp; done) | (simp; omega) | omega), (zcP _ _ _ (by first | (simp; done) | (simp; omega) | omega)).trans (zcA _ _ _ _ rfl), (zcP _ _ _ (by first | (simp; done) | (simp; omega) | omega)).trans (zcA _ _ _ _ rfl), (zcP _ _ _ (by first | (simp; done) | (simp; omega) | omega)).trans (zcA _ _ _ _ rfl), (zcP _ _ _ (by first | (simp; done) | (simp; omega) | omega)).trans (zcA _ _ _ _ rfl), (zcP _ _ _ (by first | (simp; done) | (simp; omega) | omega)).trans (zcA _ _ _ _ rfl), (zcP _ _ _ (by first | (simp; done) | (simp; omega) | omega)).trans (zcA _ _ _ _ rfl), (zcP _ _ _ (by first | (simp; done) | (simp; omega) | omega)).trans (zcA _ _ _ _ rfl), zcA _ _ _ _ (by simp), zcA _ _ _ _ (by simp), zcA _ _ _ _ (by simp), zcA _ _ _ _ (by simp)⟩
    have hs0 : W0.heap.size = w.heap.size + 1 + 1 := by rw [← hW0]; simp
    have hb0 : Below w.heap.size w W0 := by rw [← hW0]; (repeat' first | exact zbR _ _ | assumption | refine zbD ?_ | refine zbA ?_ ?_ _ | refine zbS ?_ ?_ _ | refine zbT ?_ (by assumption) ?_ | (simp; done) | (simp; omega) | omega)
    rw [hq, hp]
    have hq' : q = p + 1 := by omega
    have HP := hide hp
    have HB0 := hide hb0
    have HS0 := hide hs0
    have HQ := hide hq'
    clear hW0 hp hq hb0 hs0 hq'
    have hkeep : ∀ u u' : World, Below u.heap.size u u' → (Below W0.heap.size W0 u ∧ p < u.heap.size ∧ q < u.heap.size ∧ u.cell? ⟨p, 0, none⟩ = some (.int .i64 v.size) ∧ u.cell? ⟨p, 1, none⟩ = some (.slice A n c) ∧ u.cell? ⟨p, 2, none⟩ = some (.int .i64 v.wrong) ∧ u.cell? ⟨p, 3, none⟩ = some (.int .i64 v.hxl) ∧ u.cell? ⟨p, 4, none⟩ = some (.int .i64 v.hxh) ∧ u.cell? ⟨p, 5, none⟩ = some (.int .i64 v.hyl) ∧ u.cell? ⟨p, 6, none⟩ = some (.int .i64 v.hyh) ∧ u.cell? ⟨q, 0, none⟩ = some (.int .i64 m.x) ∧ u.cell? ⟨q, 1, none⟩ = some (.int .i64 m.y) ∧ u.cell? ⟨q, 2, none⟩ = some (.int .i64 m.hx) ∧ u.cell? ⟨q, 3, none⟩ = some (.int .i64 m.hy)) → (Below W0.heap.size W0 u' ∧ p < u'.heap.size ∧ q < u'.heap.size ∧ u'.cell? ⟨p, 0, none⟩ = some (.int .i64 v.size) ∧ u'.cell? ⟨p, 1, none⟩ = some (.slice A n c) ∧ u'.cell? ⟨p, 2, none⟩ = some (.int .i64 v.wrong) ∧ u'.cell? ⟨p, 3, none⟩ = some (.int .i64 v.hxl) ∧ u'.cell? ⟨p, 4, none⟩ = some (.int .i64 v.hxh) ∧ u'.cell? ⟨p, 5, none⟩ = some (.int .i64 v.hyl) ∧ u'.cell? ⟨p, 6, none⟩ = some (.int .i64 v.hyh) ∧ u'.cell? ⟨q, 0, none⟩ = some (.int .i64 m.x) ∧ u'.cell? ⟨q, 1, none⟩ = some (.int .i64 m.y) ∧ u'.cell? ⟨q, 2, none⟩ = some (.int .i64 m.hx) ∧ u'.cell? ⟨q, 3, none⟩ = some (.int .i64 m.hy)) := by
      rintro u u' hb ⟨hB, l_p, l_q, k0, k1, k2, k3, k4, k5, k6, k7, k8, k9, k10⟩
      exact ⟨hB.trans (hb.mono hB.size), Nat.lt_of_lt_of_le l_p hb.size, Nat.lt_of_lt_of_le l_q hb.size, (hb.cell (p := ⟨p, 0, none⟩) l_p).trans k0, (hb.cell (p := ⟨p, 1, none⟩) l_p).trans k1, (hb.cell (p := ⟨p, 2, none⟩) l_p).trans k2, (hb.cell (p := ⟨p, 3, none⟩) l_p).trans k3, (hb.cell (p := ⟨p, 4, none⟩) l_p).trans k4, (hb.cell (p := ⟨p, 5, none⟩) l_p).trans k5, (hb.cell (p := ⟨p, 6, none⟩) l_p).trans k6, (hb.cell (p := ⟨q, 0, none⟩) l_q).trans k7, (hb.cell (p := ⟨q, 1, none⟩) l_q).trans k8, (hb.cell (p := ⟨q, 2, none⟩) l_q).trans k9, (hb.cell (p := ⟨q, 3, none⟩) l_q).trans k10⟩
    dsimp only at hS
    refine wp_region_held_drew (S := (fun w' => Below W0.heap.size W0 w' ∧ p < w'.heap.size ∧ q < w'.heap.size ∧ w'.cell? ⟨p, 0, none⟩ = some (.int .i64 v.size) ∧ w'.cell? ⟨p, 1, none⟩ = some (.slice A n c) ∧ w'.cell? ⟨p, 2, none⟩ = some (.int .i64 v.wrong) ∧ w'.cell? ⟨p, 3, none⟩ = some (.int .i64 v.hxl) ∧ w'.cell? ⟨p, 4, none⟩ = some (.int .i64 v.hxh) ∧ w'.cell? ⟨p, 5, none⟩ = some (.int .i64 v.hyl) ∧ w'.cell? ⟨p, 6, none⟩ = some (.int .i64 v.hyh) ∧ w'.cell? ⟨q, 0, none⟩ = some (.int .i64 m.x) ∧ w'.cell? ⟨q, 1, none⟩ = some (.int .i64 m.y) ∧ w'.cell? ⟨q, 2, none⟩ = some (.int .i64 m.hx) ∧ w'.cell? ⟨q, 3, none⟩ = some (.int .i64 m.hy))) (by kernel_rfl) ?_ (fun hHeld0 => ?_)
    · (try dsimp only); (first | (go_keep; done) | (go_split_ands; (repeat' apply And.intro) <;> first | (go_keep; done) | (simp [*, zcA, zcP, zfA, zfP]; done) | (simp [zcA, zcP] <;> rfl) | (simp [*, zsS, zsO, zsA]; done) | ((first | refine (hc _ _ ?_).trans ?_ | refine (hf _ _ ?_).trans ?_) <;> first | assumption | (simp; done) | (simp; omega) | omega | (go_keep; done) | (simp [*, zcA, zcP, zfA, zfP]; done) | (simp [zcA, zcP]; rfl)) | (repeat' first | exact zbR _ _ | assumption | refine zbD ?_ | refine zbA ?_ ?_ _ | refine zbS ?_ ?_ _ | refine zbT ?_ (by assumption) ?_ | (simp; done) | (simp; omega) | omega)))
    refine tL (v := ?_) 0 rfl (by kernel_rfl) (fun _ _ _ h => h) (Or.inl ⟨by rfl, ?_⟩) (by assumption) ?_; rotate_left
    · (intro w hSw; (try dsimp only at hSw); go_simp; try with_reducible rfl)
    try simp only [Act.put, zl, z0, z1]
    refine tL (v := ?_) 1 rfl (by kernel_rfl) (fun _ _ _ h => h) (Or.inl ⟨by rfl, ?_⟩) (by assumption) ?_; rotate_left
    · (intro w hSw; (try dsimp only at hSw); go_simp; try with_reducible rfl)
    try simp only [Act.put, zl, z0, z1]
    refine wpAnyH_ready (rs := [2]) (by kernel_rfl) (by simp) ?_
    refine consL 2 rfl (fun K hK => ?_) AllReadyH.nil
    go_simp
    (go_at_call 49; refine (isMark_any v A n c m _).mono ?_; rintro e w2 ⟨rfl, hb⟩; rw [HM.out]; have hSn := hkeep _ _ hb (by assumption); (try clear hS); have hS := hSn; clear hSn)
    refine hK.out _ _ ?_ (fun hHeld1 => ?_)
    · (try dsimp only); exact hS
    clear hK K hHeld0
    try simp only [Act.put, zl, z0, z1]
    refine tL (v := ?_) 3 rfl (by kernel_rfl) (fun _ _ _ h => h) (Or.inl ⟨by rfl, ?_⟩) (by assumption) ?_; rotate_left
    · (intro w hSw; (try dsimp only at hSw); go_simp; try with_reducible rfl)
    try simp only [Act.put, zl, z0, z1]
    refine tL (v := ?_) 4 rfl (by kernel_rfl) (fun _ _ _ h => h) (Or.inl ⟨by rfl, ?_⟩) (by assumption) ?_; rotate_left
    · (intro w hSw; (try dsimp only at hSw); go_simp; try with_reducible rfl)
    try simp only [Act.put, zl, z0, z1]
    refine tL (v := ?_) 5 rfl (by kernel_rfl) (fun _ _ _ h => h) (Or.inl ⟨by rfl, ?_⟩) (by assumption) ?_; rotate_left
    · (intro w hSw; (try dsimp only at hSw); go_simp; try with_reducible rfl)
    try simp only [Act.put, zl, z0, z1]
    refine tL (v := ?_) 6 rfl (by kernel_rfl) (fun _ _ _ h => h) (Or.inl ⟨by rfl, ?_⟩) (by assumption) ?_; rotate_left
    · (intro w hSw; (try dsimp only at hSw); go_simp; try with_reducible rfl)
    try simp only [Act.put, zl, z0, z1]
    refine tL (v := ?_) 7 rfl (by kernel_rfl) (fun _ _ _ h => h) (Or.inl ⟨by rfl, ?_⟩) (by assumption) ?_; rotate_left
    · (intro w hSw; (try dsimp only at hSw); go_simp; try with_reducible rfl)
    try simp only [Act.put, zl, z0, z1]
    refine tL (v := ?_) 8 rfl (by kernel_rfl) (fun _ _ _ h => h) (Or.inl ⟨by rfl, ?_⟩) (by assumption) ?_; rotate_left
    · (intro w hSw; (try dsimp only at hSw); go_simp; try with_reducible rfl)
    try simp only [Act.put, zl, z0, z1]
    refine tL (v := ?_) 11 rfl (by kernel_rfl) (fun _ _ _ h => h) (Or.inl ⟨by rfl, ?_⟩) (by assumption) ?_; rotate_left
    · (intro w hSw; (try dsimp only at hSw); go_simp; try with_reducible rfl)
    try simp only [Act.put, zl, z0, z1]
    refine tL (v := ?_) 12 rfl (by kernel_rfl) (fun _ _ _ h => h) (Or.inl ⟨by rfl, ?_⟩) (by assumption) ?_; rotate_left
    · (intro w hSw; (try dsimp only at hSw); go_simp; try with_reducible rfl)
    try simp only [Act.put, zl, z0, z1]
    refine wpAnyH_ready (rs := [9]) (by kernel_rfl) (by simp) ?_
    refine consL 9 rfl (fun K hK => ?_) AllReadyH.nil
    go_simp
    (go_at_call 50; refine (refWrong_any v A n c m.x m.y _ HN.out ((HR.out.below (HB0.out.trans (hS.1.mono (by have := HS0.out; omega)))).mono (by have := hS.1.size; have := HS0.out; omega)) HV.out.ok (by have := HV.out.n8; have := HN.out; omega) HB.out.x0 HB.out.x1 HB.out.y0 HB.out.y1).mono ?_; rintro e w3 ⟨sv, c3, rfl, hown, hb⟩; clear hown; have hSn := hkeep _ _ hb (by assumption); (try clear hS); have hS := hSn; clear hSn)
    refine hK.out _ _ ?_ (fun hHeld2 => ?_)
    · (try dsimp only); exact hS
    clear hK K hHeld1
    try simp only [Act.put, zl, z0, z1]
    refine tL (v := ?_) 10 rfl (by kernel_rfl) (fun _ _ _ h => h) (Or.inl ⟨by rfl, ?_⟩) (by assumption) ?_; rotate_left
    · (intro w hSw; (try dsimp only at hSw); go_simp; try with_reducible rfl)
    try simp only [Act.put, zl, z0, z1]
    refine tL (v := ?_) 13 rfl (by kernel_rfl) (fun _ _ _ h => h) (Or.inl ⟨by rfl, ?_⟩) (by assumption) ?_; rotate_left
    · (intro w hSw; (try dsimp only at hSw); go_simp; try with_reducible rfl)
    try simp only [Act.put, zl, z0, z1]
    refine tL (v := ?_) 14 rfl (by kernel_rfl) (fun _ _ _ h => h) (Or.inl ⟨by rfl, ?_⟩) (by assumption) ?_; rotate_left
    · (intro w hSw; (try dsimp only at hSw); go_simp; try with_reducible rfl)
    try simp only [Act.put, zl, z0, z1]
    refine tL (v := ?_) 15 rfl (by kernel_rfl) (fun _ _ _ h => h) (Or.inl ⟨by rfl, ?_⟩) (by assumption) ?_; rotate_left
    · (intro w hSw; (try dsimp only at hSw); go_simp; try with_reducible rfl)
    try simp only [Act.put, zl, z0, z1]
    refine wpAnyH_done (by kernel_rfl) ?_ _
    go_wp2
    go_ret
    exact ⟨by rw [HE.out]; rfl, by (go_split_ands; (have h9 : Below W0.heap.size W0 _ := (by assumption); exact HB0.out.trans (h9.mono (by have := HS0.out; omega))))⟩

end Go.Proofs.Ytampfpnkkdihaaa

namespace Go.Proofs.Ytampfpnkkdihaaa
open Go.RowKit
attribute [local go_sem ↓] Go.wp_at_zero Go.wp_at_succ

namespace L
def touE (m : Mk) (b : Bx) : Int := if boxB b then (if markB m 40 1 9 1 9 then 0 else 22) else 21
def touV (m : Mk) (b : Bx) : Bool := boxB b && (markB m 40 1 9 1 9 && touch m b)
theorem markB_ok {m : Mk} (h : markB m 40 1 9 1 9 = true) : MkOk m := by
  unfold markB within at h
  simp only [Bool.and_eq_true, decide_eq_true_eq] at h
  obtain ⟨⟨⟨⟨a, b⟩, c, d⟩, e, f⟩, g, i⟩ := h
  exact ⟨a, b, c, d, e, f, g, i⟩
def showE (v : Vw) (b : Bx) (call : Int) : Int := if checkBE v b = 0 then (if sure call then (if (findC v b 0 call).isSome then 0 else 3) else 22) else checkBE v b
def showM (v : Vw) (b : Bx) (call : Int) : Mk := if checkBE v b = 0 then (if sure call then foundM v b 0 call else ⟨0, 0, 0, 0⟩) else ⟨0, 0, 0, 0⟩
theorem found_none {v : Vw} {b : Bx} {k call : Int} (h : (findC v b k call).isSome = false) : foundM v b k call = ⟨0, 0, 0, 0⟩ := by
  unfold foundM
  cases hf : findC v b k call
  · rfl
  · rw [hf] at h; cases h
end L

set_option maxRecDepth 100000 in
set_option maxHeartbeats 800000 in
theorem Touches_any (m : L.Mk) (b : L.Bx) (w : World) :
    Calls Try.prog 19 #[.agg #[.int .i64 m.x, .int .i64 m.y, .int .i64 m.hx, .int .i64 m.hy], .agg #[.int .i64 b.l, .int .i64 b.r, .int .i64 b.b, .int .i64 b.t]] w fun e w' => e = .returned (.tuple #[.bool (L.touV m b), .int .i64 (L.touE m b)]) ∧ Below w.heap.size w w' := by
  cases hb : L.boxB b
  · have E1 := hide (show L.touV m b = false by unfold L.touV; rw [hb]; rfl)
    have E2 := hide (show L.touE m b = 21 by unfold L.touE; rw [hb]; rfl)
    have HB := hide hb
    clear hb
    go_enter Try.func19, Try.ntmps19
    go_wp2_with (go_at_call 51; refine (validBox_any b _).mono ?_; rintro e w2 ⟨rfl, hb2⟩; rw [HB.out]; obtain ⟨hc2, hf2⟩ := bcell hb2; have q2 := hb2.size; (try simp only [World.size_alloc] at q2); have z2_0 : w.heap.size < w2.heap.size := (by omega); have z2_1 : w.heap.size + 1 < w2.heap.size := (by omega))
    go_ret2
    exact ⟨by rw [E1.out, E2.out]; rfl, by (repeat' first | exact zbR _ _ | assumption | refine zbD ?_ | refine zbA ?_ ?_ _ | refine zbS ?_ ?_ _ | refine zbT ?_ (by assumption) ?_ | (simp; done) | (simp; omega) | omega)⟩
  cases hm : L.markB m 40 1 9 1 9
  · have E1 := hide (show L.touV m b = false by unfold L.touV; rw [hb, hm]; rfl)
    have E2 := hide (show L.touE m b = 22 by unfold L.touE; rw [hb, hm]; rfl)
    have HB := hide hb
    have HM := hide hm
    clear hb hm
    go_enter Try.func19, Try.ntmps19
    go_wp2_with (first | (go_at_call 51; refine (validBox_any b _).mono ?_; rintro e w2 ⟨rfl, hb2⟩; rw [HB.out]; obtain ⟨hc2, hf2⟩ := bcell hb2; have q2 := hb2.size; (try simp only [World.size_alloc] at q2); have z2_0 : w.heap.size < w2.heap.size := (by omega); have z2_1 : w.heap.size + 1 < w2.heap.size := (by omega)) | (go_at_call 52; refine (markWithin_any m 40 1 9 1 9 _).mono ?_; rintro e w3 ⟨rfl, hb3⟩; rw [HM.out]; obtain ⟨hc3, hf3⟩ := bcell hb3; have q3 := hb3.size; (try simp only [World.size_alloc] at q3); have z3_0 : w.heap.size < w3.heap.size := (by omega); have z3_1 : w.heap.size + 1 < w3.heap.size := (by omega)))
    go_ret2
    exact ⟨by rw [E1.out, E2.out]; rfl, by (repeat' first | exact zbR _ _ | assumption | refine zbD ?_ | refine zbA ?_ ?_ _ | refine zbS ?_ ?_ _ | refine zbT ?_ (by assumption) ?_ | (simp; done) | (simp; omega) | omega)⟩
  · have E1 := hide (show L.touV m b = L.touch m b by unfold L.touV; rw [hb, hm]; rfl)
    have E2 := hide (show L.touE m b = 0 by unfold L.touE; rw [hb, hm]; rfl)
    have HB := hide hb
    have HM := hide hm
    clear hb hm
    go_enter Try.func19, Try.ntmps19
    go_wp2_with (first | (go_at_call 51; refine (validBox_any b _).mono ?_; rintro e w2 ⟨rfl, hb2⟩; rw [HB.out]; obtain ⟨hc2, hf2⟩ := bcell hb2; have q2 := hb2.size; (try simp only [World.size_alloc] at q2); have z2_0 : w.heap.size < w2.heap.size := (by omega); have z2_1 : w.heap.size + 1 < w2.heap.size := (by omega)) | (go_at_call 52; refine (markWithin_any m 40 1 9 1 9 _).mono ?_; rintro e w3 ⟨rfl, hb3⟩; rw [HM.out]; obtain ⟨hc3, hf3⟩ := bcell hb3; have q3 := hb3.size; (try simp only [World.size_alloc] at q3); have z3_0 : w.heap.size < w3.heap.size := (by omega); have z3_1 : w.heap.size + 1 < w3.heap.size := (by omega)) | (go_at_call 53; refine (touches_any m b _ (L.boxB_ok HB.out) (L.markB_ok HM.out)).mono ?_; rintro e w4 ⟨rfl, hb4⟩; obtain ⟨hc4, hf4⟩ := bcell hb4; have q4 := hb4.size; (try simp only [World.size_alloc] at q4); have z4_0 : w.heap.size < w4.heap.size := (by omega); have z4_1 : w.heap.size + 1 < w4.heap.size := (by omega)))
    go_ret2
    exact ⟨by rw [E1.out, E2.out]; rfl, by (repeat' first | exact zbR _ _ | assumption | refine zbD ?_ | refine zbA ?_ ?_ _ | refine zbS ?_ ?_ _ | refine zbT ?_ (by assumption) ?_ | (simp; done) | (simp; omega) | omega)⟩

end Go.Proofs.Ytampfpnkkdihaaa

namespace Go.Proofs.Ytampfpnkkdihaaa
open Go.RowKit
attribute [local go_sem ↓] Go.wp_at_zero Go.wp_at_succ

theorem show_results {Z : World} {g : Nat} {x y p q e : Int} {cs tmps : Array Value} (h3 : Z.heap[g]? = some (.cells cs 30 (0, 0)))
    (e3 : cs = #[.int .i64 x, .int .i64 y, .int .i64 p, .int .i64 q]) (t6 : tmps[6]? = some (.pointer (some ⟨g, 0, none⟩))) (t7 : tmps[7]? = some (.int .i64 e)) :
    (results Try.f20 tmps).run Try.prog Z = .ok (.tuple #[.agg #[.int .i64 x, .int .i64 y, .int .i64 p, .int .i64 q], .int .i64 e]) Z := by
  subst e3
  have k0 : Z.cell? ⟨g, 0, none⟩ = some (.int .i64 x) := blk_cell h3 0
  have k1 : Z.cell? ⟨g, 1, none⟩ = some (.int .i64 y) := blk_cell h3 1
  have k2 : Z.cell? ⟨g, 2, none⟩ = some (.int .i64 p) := blk_cell h3 2
  have k3 : Z.cell? ⟨g, 3, none⟩ = some (.int .i64 q) := blk_cell h3 3
  simp [results, Try.results20, go_sem, t6, t7, k0, k1, k2, k3]

theorem blk_new3 {w : World} {X Y Z : Obj} : (((w.alloc X).alloc Y).alloc Z).heap[w.heap.size + 1 + 1]? = some Z := by
  have := World.alloc_heap_new ((w.alloc X).alloc Y) Z
  rwa [World.size_alloc, World.size_alloc] at this

set_option maxRecDepth 100000 in
set_option maxHeartbeats 1600000 in
theorem Show_any (v : L.Vw) (A : Option Addr) (n c : Nat) (b : L.Bx) (call : Int) (w : World) (hn : v.ss.length = n) (hr : RdS w w.heap.size A v.ss) :
    Calls Try.prog 20 #[.agg #[.int .i64 v.size, .slice A n c, .int .i64 v.wrong, .int .i64 v.hxl, .int .i64 v.hxh, .int .i64 v.hyl, .int .i64 v.hyh], .agg #[.int .i64 b.l, .int .i64 b.r, .int .i64 b.b, .int .i64 b.t], .int .i64 call] w fun e w' => e = .returned (.tuple #[.agg #[.int .i64 ((L.showM v b call)).x, .int .i64 ((L.showM v b call)).y, .int .i64 ((L.showM v b call)).hx, .int .i64 ((L.showM v b call)).hy], .int .i64 (L.showE v b call)]) ∧ Below w.heap.size w w' := by
  have HN := hide hn
  have HR := hide hr
  clear hn hr
  rcases L.checkBE_cases v b with h | h | h
  · obtain ⟨hv, hb⟩ := L.checkBE_ok h
    have HV := hide hv
    have HB := hide hb
    have H := hide h
    clear hv hb h
    cases hs : L.sure call
    · have E1 := hide (show L.showM v b call = ⟨0, 0, 0, 0⟩ by unfold L.showM; rw [if_pos H.out, hs]; rfl)
      have E2 := hide (show L.showE v b call = 22 by unfold L.showE; rw [if_pos H.out, hs]; rfl)
      have HS := hide hs
      clear hs
      go_enter Try.func20, Try.ntmps20
      go_wp2_with (first | (go_at_call 47; refine (check_any v A n c b _ HN.out ((HR.out.below (by (repeat' first | exact zbR _ _ | assumption | refine zbD ?_ | refine zbA ?_ ?_ _ | refine zbS ?_ ?_ _ | refine zbT ?_ (by assumption) ?_ | (simp; done) | (simp; omega) | omega))).mono (by first | (simp; done) | (simp; omega) | omega))).mono ?_; rintro e w2 ⟨rfl, hb2⟩; rw [H.out]; obtain ⟨hc2, hf2⟩ := bcell hb2; have q2 := hb2.size; (try simp only [World.size_alloc] at q2); have z2_0 : w.heap.size < w2.heap.size := (by omega); have z2_1 : w.heap.size + 1 < w2.heap.size := (by omega); have z2_2 : w.heap.size + 1 + 1 < w2.heap.size := (by omega); have k3 := (hb2.block (w.heap.size + 1 + 1) (by first | (simp; done) | (simp; omega) | omega)).trans blk_new3; have c0 := (blk_cell k3 0).trans rfl; have c1 := (blk_cell k3 1).trans rfl; have c2 := (blk_cell k3 2).trans rfl; have c3 := (blk_cell k3 3).trans rfl; have f0 := blk_frozen k3 0; have f1 := blk_frozen k3 1; have f2 := blk_frozen k3 2; have f3 := blk_frozen k3 3; have K3 := hide k3; clear k3) | (go_at_call 54; refine (sure_any call _).mono ?_; rintro e w3 ⟨rfl, rfl⟩; rw [HS.out]))
      rw [E1.out, E2.out]
      exact bodyPost_ret (v := .tuple #[.agg #[.int .i64 0, .int .i64 0, .int .i64 0, .int .i64 0], .int .i64 (22)]) (show_results (blk_set (blk_set (blk_set (blk_set (K3.out) 0 (.int .i64 0)) 1 (.int .i64 0)) 2 (.int .i64 0)) 3 (.int .i64 0)) rfl rfl rfl) rfl ⟨rfl, by (repeat' first | exact zbR _ _ | assumption | refine zbD ?_ | refine zbA ?_ ?_ _ | refine zbS ?_ ?_ _ | refine zbT ?_ (by assumption) ?_ | (simp; done) | (simp; omega) | omega)⟩
    · cases hf : (L.findC v b 0 call).isSome
      · have E1 := hide (show L.showM v b call = ⟨0, 0, 0, 0⟩ by unfold L.showM; rw [if_pos H.out, hs]; exact L.found_none hf)
        have E2 := hide (show L.showE v b call = 3 by unfold L.showE; rw [if_pos H.out, hs, hf]; rfl)
        have HS := hide hs
        have HF := hide hf
        clear hs hf
        go_enter Try.func20, Try.ntmps20
        go_wp2_with (first | (go_at_call 47; refine (check_any v A n c b _ HN.out ((HR.out.below (by (repeat' first | exact zbR _ _ | assumption | refine zbD ?_ | refine zbA ?_ ?_ _ | refine zbS ?_ ?_ _ | refine zbT ?_ (by assumption) ?_ | (simp; done) | (simp; omega) | omega))).mono (by first | (simp; done) | (simp; omega) | omega))).mono ?_; rintro e w2 ⟨rfl, hb2⟩; rw [H.out]; obtain ⟨hc2, hf2⟩ := bcell hb2; have q2 := hb2.size; (try simp only [World.size_alloc] at q2); have z2_0 : w.heap.size < w2.heap.size := (by omega); have z2_1 : w.heap.size + 1 < w2.heap.size := (by omega); have z2_2 : w.heap.size + 1 + 1 < w2.heap.size := (by omega); have k2 := (hb2.block (w.heap.size + 1 + 1) (by first | (simp; done) | (simp; omega) | omega)).trans blk_new3; have K2 := hide k2; clear k2) | (go_at_call 54; refine (sure_any call _).mono ?_; rintro e w3 ⟨rfl, rfl⟩; rw [HS.out]) | (go_at_call 55; refine (find_any v A n c b 0 call _ HV.out HB.out HN.out ((HR.out.below (by (repeat' first | exact zbR _ _ | assumption | refine zbD ?_ | refine zbA ?_ ?_ _ | refine zbS ?_ ?_ _ | refine zbT ?_ (by assumption) ?_ | (simp; done) | (simp; omega) | omega))).mono (by first | (simp; done) | (simp; omega) | omega)) (by omega) (by omega)).mono ?_; rintro e w4 ⟨rfl, hb4⟩; rw [HF.out]; have q4 := hb4.size; have k3 := (hb4.block (w.heap.size + 1 + 1) (by omega)).trans K2.out; have c0 := (blk_cell k3 0).trans rfl; have c1 := (blk_cell k3 1).trans rfl; have c2 := (blk_cell k3 2).trans rfl; have c3 := (blk_cell k3 3).trans rfl; have f0 := blk_frozen k3 0; have f1 := blk_frozen k3 1; have f2 := blk_frozen k3 2; have f3 := blk_frozen k3 3; have z4_2 : w.heap.size + 1 + 1 < w4.heap.size := (by omega); have K3 := hide k3; clear k3))
        rw [E1.out, E2.out]
        exact bodyPost_ret (v := .tuple #[.agg #[.int .i64 0, .int .i64 0, .int .i64 0, .int .i64 0], .int .i64 (3)]) (show_results ((Below.heap_alloc _ _ _ (by simp only [World.size_setCell]; exact z4_2)).trans (blk_set (blk_set (blk_set (blk_set (K3.out) 0 (.int .i64 0)) 1 (.int .i64 0)) 2 (.int .i64 0)) 3 (.int .i64 0))) rfl rfl rfl) rfl ⟨rfl, by (repeat' first | exact zbR _ _ | assumption | refine zbD ?_ | refine zbA ?_ ?_ _ | refine zbS ?_ ?_ _ | refine zbT ?_ (by assumption) ?_ | (simp; done) | (simp; omega) | omega)⟩
      · have E1 := hide (show L.showM v b call = L.foundM v b 0 call by unfold L.showM; rw [if_pos H.out, hs]; rfl)
        have E2 := hide (show L.showE v b call = 0 by unfold L.showE; rw [if_pos H.out, hs, hf]; rfl)
        have HS := hide hs
        have HF := hide hf
        clear hs hf
        go_enter Try.func20, Try.ntmps20
        go_wp2_with (first | (go_at_call 47; refine (check_any v A n c b _ HN.out ((HR.out.below (by (repeat' first | exact zbR _ _ | assumption | refine zbD ?_ | refine zbA ?_ ?_ _ | refine zbS ?_ ?_ _ | refine zbT ?_ (by assumption) ?_ | (simp; done) | (simp; omega) | omega))).mono (by first | (simp; done) | (simp; omega) | omega))).mono ?_; rintro e w2 ⟨rfl, hb2⟩; rw [H.out]; obtain ⟨hc2, hf2⟩ := bcell hb2; have q2 := hb2.size; (try simp only [World.size_alloc] at q2); have z2_0 : w.heap.size < w2.heap.size := (by omega); have z2_1 : w.heap.size + 1 < w2.heap.size := (by omega); have z2_2 : w.heap.size + 1 + 1 < w2.heap.size := (by omega); have k2 := (hb2.block (w.heap.size + 1 + 1) (by first | (simp; done) | (simp; omega) | omega)).trans blk_new3; have K2 := hide k2; clear k2) | (go_at_call 54; refine (sure_any call _).mono ?_; rintro e w3 ⟨rfl, rfl⟩; rw [HS.out]) | (go_at_call 55; refine (find_any v A n c b 0 call _ HV.out HB.out HN.out ((HR.out.below (by (repeat' first | exact zbR _ _ | assumption | refine zbD ?_ | refine zbA ?_ ?_ _ | refine zbS ?_ ?_ _ | refine zbT ?_ (by assumption) ?_ | (simp; done) | (simp; omega) | omega))).mono (by first | (simp; done) | (simp; omega) | omega)) (by omega) (by omega)).mono ?_; rintro e w4 ⟨rfl, hb4⟩; rw [HF.out]; have q4 := hb4.size; have k3 := (hb4.block (w.heap.size + 1 + 1) (by omega)).trans K2.out; have c0 := (blk_cell k3 0).trans rfl; have c1 := (blk_cell k3 1).trans rfl; have c2 := (blk_cell k3 2).trans rfl; have c3 := (blk_cell k3 3).trans rfl; have f0 := blk_frozen k3 0; have f1 := blk_frozen k3 1; have f2 := blk_frozen k3 2; have f3 := blk_frozen k3 3; have z4_2 : w.heap.size + 1 + 1 < w4.heap.size := (by omega); have K3 := hide k3; clear k3))
        rw [E1.out, E2.out]
        exact bodyPost_ret (v := .tuple #[.agg #[.int .i64 (L.foundM v b 0 call).x, .int .i64 (L.foundM v b 0 call).y, .int .i64 (L.foundM v b 0 call).hx, .int .i64 (L.foundM v b 0 call).hy], .int .i64 (0)]) (show_results ((Below.heap_alloc _ _ _ (by simp only [World.size_setCell]; exact z4_2)).trans (blk_set (blk_set (blk_set (blk_set (K3.out) 0 (.int .i64 (L.foundM v b 0 call).x)) 1 (.int .i64 (L.foundM v b 0 call).y)) 2 (.int .i64 (L.foundM v b 0 call).hx)) 3 (.int .i64 (L.foundM v b 0 call).hy))) rfl rfl rfl) rfl ⟨rfl, by (repeat' first | exact zbR _ _ | assumption | refine zbD ?_ | refine zbA ?_ ?_ _ | refine zbS ?_ ?_ _ | refine zbT ?_ (by assumption) ?_ | (simp; done) | (simp; omega) | omega)⟩
  all_goals
    have E1 := hide (show L.showM v b call = ⟨0, 0, 0, 0⟩ by unfold L.showM; rw [if_neg (by omega)])
    have E2 := hide (show L.showE v b call = L.checkBE v b by unfold L.showE; rw [if_neg (by omega)])
    have H := hide h
    clear h
    go_enter Try.func20, Try.ntmps20
    go_wp2_with (go_at_call 47; refine (check_any v A n c b _ HN.out ((HR.out.below (by (repeat' first | exact zbR _ _ | assumption | refine zbD ?_ | refine zbA ?_ ?_ _ | refine zbS ?_ ?_ _ | refine zbT ?_ (by assumption) ?_ | (simp; done) | (simp; omega) | omega))).mono (by first | (simp; done) | (simp; omega) | omega))).mono ?_; rintro e w2 ⟨rfl, hb2⟩; rw [H.out]; have k3 := (hb2.block (w.heap.size + 1 + 1) (by first | (simp; done) | (simp; omega) | omega)).trans blk_new3; have c0 := (blk_cell k3 0).trans rfl; have c1 := (blk_cell k3 1).trans rfl; have c2 := (blk_cell k3 2).trans rfl; have c3 := (blk_cell k3 3).trans rfl; have f0 := blk_frozen k3 0; have f1 := blk_frozen k3 1; have f2 := blk_frozen k3 2; have f3 := blk_frozen k3 3; have K3 := hide k3; clear k3)
    rw [E1.out, E2.out, H.out]
    exact bodyPost_ret (v := .tuple #[.agg #[.int .i64 0, .int .i64 0, .int .i64 0, .int .i64 0], .int .i64 _]) (show_results (blk_set (blk_set (blk_set (blk_set (K3.out) 0 (.int .i64 0)) 1 (.int .i64 0)) 2 (.int .i64 0)) 3 (.int .i64 0)) rfl rfl rfl) rfl ⟨rfl, by (repeat' first | exact zbR _ _ | assumption | refine zbD ?_ | refine zbA ?_ ?_ _ | refine zbS ?_ ?_ _ | refine zbT ?_ (by assumption) ?_ | (simp; done) | (simp; omega) | omega)⟩

end Go.Proofs.Ytampfpnkkdihaaa

namespace Go.Proofs.Ytampfpnkkdihaaa
open Go.RowKit
attribute [local go_sem ↓] Go.wp_at_zero Go.wp_at_succ

def L.farB (v : L.Vw) : Bool := decide (40 < v.ss.length) || (L.viewB v && (decide (12 < v.size) || decide (5 < v.hxh) || decide (5 < v.hyh)))
def L.validB (v : L.Vw) (b : L.Bx) : Bool := !L.farB v && (L.viewB v && L.boxB b)
theorem L.check_view (v : L.Vw) : L.checkE v = if L.viewB v then 0 else 20 := rfl

set_option maxRecDepth 100000 in
set_option maxHeartbeats 1600000 in
theorem Far_any (v : L.Vw) (A : Option Addr) (n c : Nat) (w : World) (hn : v.ss.length = n) (hr : RdS w w.heap.size A v.ss) :
    Calls Try.prog 28 #[.agg #[.int .i64 v.size, .slice A n c, .int .i64 v.wrong, .int .i64 v.hxl, .int .i64 v.hxh, .int .i64 v.hyl, .int .i64 v.hyh]] w fun e w' => e = .returned (.bool (L.farB v)) ∧ Below w.heap.size w w' := by
  have HN := hide hn
  have HR := hide hr
  have hc := L.check_view v
  by_cases h40 : (40 : Int) < (n : Int)
  · have HE := hide (show L.farB v = true by unfold L.farB; rw [decide_eq_true (by omega)]; rfl)
    clear hn hr hc
    go_enter Try.func28, Try.ntmps28
    go_wp2
    go_ret
    exact ⟨by rw [HE.out]; rfl, by (repeat' first | exact zbR _ _ | assumption | refine zbD ?_ | refine zbA ?_ ?_ _ | refine zbS ?_ ?_ _ | refine zbT ?_ (by assumption) ?_ | (simp; done) | (simp; omega) | omega)⟩
  have hf : L.farB v = (L.viewB v && (decide (12 < v.size) || decide (5 < v.hxh) || decide (5 < v.hyh))) := by unfold L.farB; rw [decide_eq_false (by omega)]; rfl
  cases hv : L.viewB v
  · rw [hv] at hc hf
    have HC := hide (show L.checkE v = 20 from hc)
    have HE := hide (show L.farB v = false from hf)
    clear hn hr hc hv hf
    go_enter Try.func28, Try.ntmps28
    go_wp2_with (go_at_call 23; refine (RefCheck_any v A n c _ HN.out ((HR.out.below (by (repeat' first | exact zbR _ _ | assumption | refine zbD ?_ | refine zbA ?_ ?_ _ | refine zbS ?_ ?_ _ | refine zbT ?_ (by assumption) ?_ | (simp; done) | (simp; omega) | omega))).mono (by first | (simp; done) | (simp; omega) | omega))).mono ?_; rintro e w2 ⟨rfl, hb2⟩; rw [HC.out])
    go_ret
    exact ⟨by rw [HE.out]; rfl, by (repeat' first | exact zbR _ _ | assumption | refine zbD ?_ | refine zbA ?_ ?_ _ | refine zbS ?_ ?_ _ | refine zbT ?_ (by assumption) ?_ | (simp; done) | (simp; omega) | omega)⟩
  rw [hv] at hc hf
  have HC := hide (show L.checkE v = 0 from hc)
  have HF := hide hf
  clear hn hr hc hv hf
  rw [Bool.true_and] at HF
  go_enter Try.func28, Try.ntmps28
  go_wp2_with (go_at_call 23; refine (RefCheck_any v A n c _ HN.out ((HR.out.below (by (repeat' first | exact zbR _ _ | assumption | refine zbD ?_ | refine zbA ?_ ?_ _ | refine zbS ?_ ?_ _ | refine zbT ?_ (by assumption) ?_ | (simp; done) | (simp; omega) | omega))).mono (by first | (simp; done) | (simp; omega) | omega))).mono ?_; rintro e w2 ⟨rfl, hb2⟩; rw [HC.out]; obtain ⟨hc2, hf2⟩ := bcell hb2; have hz2 : w.heap.size < w2.heap.size := (by have := hb2.size; (try simp at this); omega))
  all_goals
    go_ret
    exact ⟨by rw [HF.out]; (first | rfl | (simp [*]; done)), by (repeat' first | exact zbR _ _ | assumption | refine zbD ?_ | refine zbA ?_ ?_ _ | refine zbS ?_ ?_ _ | refine zbT ?_ (by assumption) ?_ | (simp; done) | (simp; omega) | omega)⟩

theorem L.farB_no {v : L.Vw} (h : L.farB v = false) : v.ss.length ≤ 40 ∧ (L.viewB v = true → v.size ≤ 12 ∧ v.hxh ≤ 5 ∧ v.hyh ≤ 5) := by
  unfold L.farB at h
  simp only [Bool.or_eq_false_iff, decide_eq_false_iff_not, Bool.and_eq_false_iff] at h
  refine ⟨by omega, fun hv => ?_⟩
  rcases h.2 with h' | h'
  · rw [hv] at h'; cases h'
  · omega

set_option maxRecDepth 100000 in
set_option maxHeartbeats 1600000 in
theorem valid_any (v : L.Vw) (A : Option Addr) (n c : Nat) (b : L.Bx) (w : World) (hn : v.ss.length = n) (hr : RdS w w.heap.size A v.ss) :
    Calls Try.prog 15 #[.agg #[.int .i64 v.size, .slice A n c, .int .i64 v.wrong, .int .i64 v.hxl, .int .i64 v.hxh, .int .i64 v.hyl, .int .i64 v.hyh], .agg #[.int .i64 b.l, .int .i64 b.r, .int .i64 b.b, .int .i64 b.t]] w fun e w' => e = .returned (.bool (L.validB v b)) ∧ Below w.heap.size w w' := by
  have HN := hide hn
  have HR := hide hr
  have hc := L.check_view v
  have he : L.validB v b = (!L.farB v && (L.viewB v && L.boxB b)) := rfl
  cases hf : L.farB v <;> cases hv : L.viewB v <;> cases hb : L.boxB b
  all_goals
    rw [hv] at hc
    rw [hf, hv, hb] at he
    have HC := hide hc
    have HE := hide he
    have HF := hide hf
    have HB := hide hb
    clear hn hr hc he hf hv hb
    go_enter Try.func15, Try.ntmps15
    go_wp2_with (first | (go_at_call 28; refine (Far_any v A n c _ HN.out ((HR.out.below (by (repeat' first | exact zbR _ _ | assumption | refine zbD ?_ | refine zbA ?_ ?_ _ | refine zbS ?_ ?_ _ | refine zbT ?_ (by assumption) ?_ | (simp; done) | (simp; omega) | omega))).mono (by first | (simp; done) | (simp; omega) | omega))).mono ?_; rintro e w2 ⟨rfl, hb2⟩; rw [HF.out]; obtain ⟨hc2, hf2⟩ := bcell hb2; have hz2 : w.heap.size + 1 < w2.heap.size := (by have := hb2.size; (try simp at this); omega); have hy2 : w.heap.size < w2.heap.size := (by omega)) | (go_at_call 23; refine (RefCheck_any v A n c _ HN.out ((HR.out.below (by (repeat' first | exact zbR _ _ | assumption | refine zbD ?_ | refine zbA ?_ ?_ _ | refine zbS ?_ ?_ _ | refine zbT ?_ (by assumption) ?_ | (simp; done) | (simp; omega) | omega))).mono (by first | (simp; done) | (simp; omega) | omega))).mono ?_; rintro e w3 ⟨rfl, hb3⟩; rw [HC.out]; obtain ⟨hc3, hf3⟩ := bcell hb3; have hz3 : w.heap.size + 1 < w3.heap.size := (by have := hb3.size; (try simp at this); omega); (try simp only [if_true, Bool.false_eq_true, if_false])) | (go_at_call 25; refine (isBox_any b _).mono ?_; rintro e w4 ⟨rfl, hb4⟩; rw [HB.out]))
    go_ret
    exact ⟨by rw [HE.out]; rfl, by (repeat' first | exact zbR _ _ | assumption | refine zbD ?_ | refine zbA ?_ ?_ _ | refine zbS ?_ ?_ _ | refine zbT ?_ (by assumption) ?_ | (simp; done) | (simp; omega) | omega)⟩

end Go.Proofs.Ytampfpnkkdihaaa

namespace Go.Proofs.Ytampfpnkkdihaaa
open Go.RowKit
attribute [local go_sem ↓] Go.wp_at_zero Go.wp_at_succ

namespace L
def exV : Vw := ⟨10, [⟨1, 0, 4, 5⟩, ⟨0, 1, 6, 6⟩, ⟨1, 1, 9, 12⟩], 0, 2, 2, 1, 2⟩
def exB : Bx := ⟨0, 3, 0, 10⟩
theorem ex_call : callV exV exB = 1 ∧ callE exV exB = 0 := by decide +kernel
theorem ex_cen : cenN exV = 2 ∧ cenX exV = (4, 5) ∧ cenY exV = (6, 6) ∧ cenE exV = 0 := by decide +kernel
theorem ex_dec : decV 2 exV exB = 1 ∧ decK 2 exV exB = true ∧ decE 2 exV exB = 0 := by decide +kernel
end L
def LExPost (w : World) (e : Ending) (w' : World) : Prop :=
  ∃ A : Option Addr, e = .returned (.tuple #[.agg #[.int .i64 (L.exV).size, .slice A 3 3, .int .i64 (L.exV).wrong, .int .i64 (L.exV).hxl, .int .i64 (L.exV).hxh, .int .i64 (L.exV).hyl, .int .i64 (L.exV).hyh], .agg #[.int .i64 (L.exB).l, .int .i64 (L.exB).r, .int .i64 (L.exB).b, .int .i64 (L.exB).t]]) ∧ RdS w' w'.heap.size A L.exV.ss ∧ Below w.heap.size w w'

theorem ex_results {Z : World} {g0 g1 : Nat} {A : Option Addr} {cs0 cs1 tmps : Array Value} (h0 : Z.heap[g0]? = some (.cells cs0 26 (0, 0))) (h1 : Z.heap[g1]? = some (.cells cs1 28 (0, 0)))
    (e0 : cs0 = #[.int .i64 10, .slice A 3 3, .int .i64 0, .int .i64 2, .int .i64 2, .int .i64 1, .int .i64 2]) (e1 : cs1 = #[.int .i64 0, .int .i64 3, .int .i64 0, .int .i64 10]) (t0 : tmps[0]? = some (.pointer (some ⟨g0, 0, none⟩))) (t1 : tmps[1]? = some (.pointer (some ⟨g1, 0, none⟩))) :
    (results Try.f46 tmps).run Try.prog Z = .ok (.tuple #[.agg #[.int .i64 10, .slice A 3 3, .int .i64 0, .int .i64 2, .int .i64 2, .int .i64 1, .int .i64 2], .agg #[.int .i64 0, .int .i64 3, .int .i64 0, .int .i64 10]]) Z := by
  subst e0 e1
  have a0 : Z.cell? ⟨g0, 0, none⟩ = some (.int .i64 10) := blk_cell h0 0
  have a1 : Z.cell? ⟨g0, 1, none⟩ = some (.slice A 3 3) := blk_cell h0 1
  have a2 : Z.cell? ⟨g0, 2, none⟩ = some (.int .i64 0) := blk_cell h0 2
  have a3 : Z.cell? ⟨g0, 3, none⟩ = some (.int .i64 2) := blk_cell h0 3
  have a4 : Z.cell? ⟨g0, 4, none⟩ = some (.int .i64 2) := blk_cell h0 4
  have a5 : Z.cell? ⟨g0, 5, none⟩ = some (.int .i64 1) := blk_cell h0 5
  have a6 : Z.cell? ⟨g0, 6, none⟩ = some (.int .i64 2) := blk_cell h0 6
  have b0 : Z.cell? ⟨g1, 0, none⟩ = some (.int .i64 0) := blk_cell h1 0
  have b1 : Z.cell? ⟨g1, 1, none⟩ = some (.int .i64 3) := blk_cell h1 1
  have b2 : Z.cell? ⟨g1, 2, none⟩ = some (.int .i64 0) := blk_cell h1 2
  have b3 : Z.cell? ⟨g1, 3, none⟩ = some (.int .i64 10) := blk_cell h1 3
  simp [results, Try.results46, go_sem, t0, t1, a0, a1, a2, a3, a4, a5, a6, b0, b1, b2, b3]

theorem RdS.ofBlock {W : World} {g : Nat} {cs : Array Value} {t : TypeId} {ss : List L.St} (h : W.heap[g]? = some (.cells cs t (0, 0))) (hc : ∀ (k : Nat) (s : L.St), ss[k]? = some s → cs[k * 4]? = some (.int .i64 s.p) ∧ cs[k * 4 + 1]? = some (.int .i64 s.q) ∧ cs[k * 4 + 1 + 1]? = some (.int .i64 s.lo) ∧ cs[k * 4 + 1 + 1 + 1]? = some (.int .i64 s.hi)) :
    RdS W W.heap.size (some ⟨g, 0, Option.none⟩) ss := fun k s hk => by
  obtain ⟨h0, h1, h2, h3⟩ := hc k s hk
  refine ⟨g, 0, rfl, (Array.getElem?_eq_some_iff.1 h).1, ?_, ?_, ?_, ?_⟩
  · rw [Nat.zero_add, blk_cell h]; exact h0
  · rw [Nat.zero_add, blk_cell h]; exact h1
  · rw [Nat.zero_add, blk_cell h]; exact h2
  · rw [Nat.zero_add, blk_cell h]; exact h3

set_option maxHeartbeats 2000000 in
set_option maxRecDepth 100000 in
theorem Example_any (w : World) : Calls Try.prog 46 #[] w fun e w' => LExPost w e w' := by
  go_enter Try.func46, Try.ntmps46
  go_wp2
  have hb2 : ∀ (V : World) (o : Obj), (V.alloc o).heap[V.heap.size]? = some o := fun V o => World.alloc_heap_new V o
  refine bodyPost_ret (v := .tuple #[.agg #[.int .i64 10, .slice (some ⟨w.heap.size + 1 + 1, 0, none⟩) 3 3, .int .i64 0, .int .i64 2, .int .i64 2, .int .i64 1, .int .i64 2], .agg #[.int .i64 0, .int .i64 3, .int .i64 0, .int .i64 10]]) (ex_results (g0 := w.heap.size) (g1 := w.heap.size + 1) ((Below.heap_alloc _ _ _ (by first | (simp; done) | (simp; omega) | omega)).trans ((Below.heap_alloc _ _ _ (by first | (simp; done) | (simp; omega) | omega)).trans (hb2 _ _))) ((Below.heap_alloc _ _ _ (by first | (simp; done) | (simp; omega) | omega)).trans ((congrArg _ (by simp)).trans (hb2 _ _))) rfl rfl rfl rfl) rfl ?_
  refine ⟨_, rfl, RdS.ofBlock ((congrArg _ (by simp)).trans (hb2 _ _)) ?_, by (repeat' first | exact zbR _ _ | assumption | refine zbD ?_ | refine zbA ?_ ?_ _ | refine zbS ?_ ?_ _ | refine zbT ?_ (by assumption) ?_ | (simp; done) | (simp; omega) | omega)⟩
  intro k s hk
  have hkl : k < 3 := (List.getElem?_eq_some_iff.1 hk).1
  match k, hkl with
  | 0, _ | 1, _ | 2, _ =>
    have hx : _ = s := Option.some.inj hk
    subst hx
    exact ⟨rfl, rfl, rfl, rfl⟩

end Go.Proofs.Ytampfpnkkdihaaa

namespace Go.Proofs.Ytampfpnkkdihaaa
open Go.RowKit
attribute [local go_sem ↓] Go.wp_at_zero Go.wp_at_succ

theorem ExL (w : World) : Calls Try.prog 46 #[] w fun e w' => ∃ A : Option Addr, e = .returned (.tuple #[.agg #[.int .i64 10, .slice A 3 3, .int .i64 0, .int .i64 2, .int .i64 2, .int .i64 1, .int .i64 2], .agg #[.int .i64 0, .int .i64 3, .int .i64 0, .int .i64 10]]) ∧ Hid (RdS w' w'.heap.size A L.exV.ss) ∧ Below w.heap.size w w' :=
  (Example_any w).mono fun _ _ ⟨A, h1, h2, h3⟩ => ⟨A, h1, h2, h3⟩
theorem Call_ex (A : Option Addr) (w : World) (hr : RdS w w.heap.size A L.exV.ss) :
    Calls Try.prog 17 #[.agg #[.int .i64 10, .slice A 3 3, .int .i64 0, .int .i64 2, .int .i64 2, .int .i64 1, .int .i64 2], .agg #[.int .i64 0, .int .i64 3, .int .i64 0, .int .i64 10]] w fun e w' => e = .returned (.tuple #[.int .i64 1, .int .i64 0]) ∧ Below w.heap.size w w' := by
  refine (Call_any L.exV A 3 3 L.exB w rfl hr).mono ?_
  rintro e w' ⟨rfl, hb⟩
  rw [L.ex_call.1, L.ex_call.2]
  exact ⟨rfl, hb⟩
theorem Centres_ex (A : Option Addr) (w : World) (hr : RdS w w.heap.size A L.exV.ss) :
    Calls Try.prog 24 #[.agg #[.int .i64 10, .slice A 3 3, .int .i64 0, .int .i64 2, .int .i64 2, .int .i64 1, .int .i64 2]] w fun e w' => e = .returned (.tuple #[.int .i64 2, .agg #[.int .i64 4, .int .i64 5], .agg #[.int .i64 6, .int .i64 6], .int .i64 0]) ∧ Below w.heap.size w w' := by
  refine (Centres_yes L.exV A 3 3 w rfl hr (by decide +kernel)).mono ?_
  rintro e w' ⟨rfl, hb⟩
  obtain ⟨h1, h2, h3, h4⟩ := L.ex_cen
  rw [h1, h2, h3, h4]
  exact ⟨rfl, hb⟩
theorem Decide_ex (A : Option Addr) (w : World) (hr : RdS w w.heap.size A L.exV.ss) :
    Calls Try.prog 32 #[.int .i64 2, .agg #[.int .i64 10, .slice A 3 3, .int .i64 0, .int .i64 2, .int .i64 2, .int .i64 1, .int .i64 2], .agg #[.int .i64 0, .int .i64 3, .int .i64 0, .int .i64 10]] w fun e w' => e = .returned (.tuple #[.int .i64 1, .bool true, .int .i64 0]) ∧ Below w.heap.size w w' := by
  refine (Decide_any 2 L.exV A 3 3 L.exB w rfl hr).mono ?_
  rintro e w' ⟨rfl, hb⟩
  obtain ⟨h1, h2, h3⟩ := L.ex_dec
  rw [h1, h2, h3]
  exact ⟨rfl, hb⟩

set_option maxRecDepth 100000 in
set_option maxHeartbeats 3200000 in
theorem works_any (w : World) : Calls Try.prog 16 #[] w fun e w' => e = .returned (.bool true) ∧ Below w.heap.size w w' := by
  go_enter Try.func16, Try.ntmps16
  go_upto_region 2 with (go_at_call 46; refine (ExL _).mono ?_; rintro e w1 ⟨A, rfl, hr1, hb1⟩)
  obtain ⟨W1, hW1⟩ : ∃ W1, (w1.alloc (.cells #[.int .i64 10, .slice A 3 3, .int .i64 0, .int .i64 2, .int .i64 2, .int .i64 1, .int .i64 2] 26)).alloc (.cells #[.int .i64 0, .int .i64 3, .int .i64 0, .int .i64 10] 28) = W1 := ⟨_, rfl⟩
  have a0 : W1.cell? ⟨w1.heap.size, 0, none⟩ = some (.int .i64 10) := by rw [← hW1]; exact (zcP _ _ _ (by first | (simp; done) | (simp; omega))).trans (zcA _ _ _ _ rfl)
  have a1 : W1.cell? ⟨w1.heap.size, 1, none⟩ = some (.slice A 3 3) := by rw [← hW1]; exact (zcP _ _ _ (by first | (simp; done) | (simp; omega))).trans (zcA _ _ _ _ rfl)
  have a2 : W1.cell? ⟨w1.heap.size, 2, none⟩ = some (.int .i64 0) := by rw [← hW1]; exact (zcP _ _ _ (by first | (simp; done) | (simp; omega))).trans (zcA _ _ _ _ rfl)
  have a3 : W1.cell? ⟨w1.heap.size, 3, none⟩ = some (.int .i64 2) := by rw [← hW1]; exact (zcP _ _ _ (by first | (simp; done) | (simp; omega))).trans (zcA _ _ _ _ rfl)
  have a4 : W1.cell? ⟨w1.heap.size, 4, none⟩ = some (.int .i64 2) := by rw [← hW1]; exact (zcP _ _ _ (by first | (simp; done) | (simp; omega))).trans (zcA _ _ _ _ rfl)
  have a5 : W1.cell? ⟨w1.heap.size, 5, none⟩ = some (.int .i64 1) := by rw [← hW1]; exact (zcP _ _ _ (by first | (simp; done) | (simp; omega))).trans (zcA _ _ _ _ rfl)
  have a6 : W1.cell? ⟨w1.heap.size, 6, none⟩ = some (.int .i64 2) := by rw [← hW1]; exact (zcP _ _ _ (by first | (simp; done) | (simp; omega))).trans (zcA _ _ _ _ rfl)
  have b0 : W1.cell? ⟨w1.heap.size + 1, 0, none⟩ = some (.int .i64 0) := by rw [← hW1]; exact zcA _ _ _ _ (by simp)
  have b1 : W1.cell? ⟨w1.heap.size + 1, 1, none⟩ = some (.int .i64 3) := by rw [← hW1]; exact zcA _ _ _ _ (by simp)
  have b2 : W1.cell? ⟨w1.heap.size + 1, 2, none⟩ = some (.int .i64 0) := by rw [← hW1]; exact zcA _ _ _ _ (by simp)
  have b3 : W1.cell? ⟨w1.heap.size + 1, 3, none⟩ = some (.int .i64 10) := by rw [← hW1]; exact zcA _ _ _ _ (by simp)
  have hs1 : W1.heap.size = w1.heap.size + 1 + 1 := by rw [← hW1]; simp
  have hB1 : Below w1.heap.size w1 W1 := by rw [← hW1]; (repeat' first | exact zbR _ _ | assumption | refine zbD ?_ | refine zbA ?_ ?_ _ | refine zbS ?_ ?_ _ | refine zbT ?_ (by assumption) ?_ | (simp; done) | (simp; omega) | omega)
  rw [hW1]
  clear hW1
  have hz1 : w1.heap.size + 1 < W1.heap.size := by omega
  have hy1 : w1.heap.size < W1.heap.size := by omega
  go_wp2_with (first
    | (go_at_call 17; refine (Call_ex A _ ((hr1.out.below hB1).mono (by omega))).mono ?_; rintro e w2 ⟨rfl, hb2⟩; obtain ⟨hc2, hf2⟩ := bcell hb2; have hz2 : w1.heap.size + 1 < w2.heap.size := (by have := hb2.size; omega); have hy2 : w1.heap.size < w2.heap.size := (by omega))
    | (go_at_call 24; refine (Centres_ex A _ ((hr1.out.below (hB1.trans (hb2.mono (by omega)))).mono (by omega))).mono ?_; rintro e w3 ⟨rfl, hb3⟩; obtain ⟨hc3, hf3⟩ := bcell hb3; have hz3 : w1.heap.size + 1 < w3.heap.size := (by have := hb3.size; omega); have hy3 : w1.heap.size < w3.heap.size := (by omega))
    | (go_at_call 32; refine (Decide_ex A _ ((hr1.out.below (by (repeat' first | exact zbR _ _ | assumption | refine zbD ?_ | refine zbA ?_ ?_ _ | refine zbS ?_ ?_ _ | refine zbT ?_ (by assumption) ?_ | (simp; done) | (simp; omega) | omega))).mono (by first | (simp; done) | (simp; omega) | omega))).mono ?_; rintro e w4 ⟨rfl, hb4⟩; obtain ⟨hc4, hf4⟩ := bcell hb4; have hz4 : w3.heap.size + 1 < w4.heap.size := (by have := hb4.size; (try simp at this); omega); have hy4 : w3.heap.size < w4.heap.size := (by omega)))
  have q1 := hb1.size
  have q2 := hb2.size
  have q3 := hb3.size
  go_ret
  exact ⟨rfl, (((hb1.trans (hB1.mono q1)).trans (hb2.mono (by omega))).trans (hb3.mono (by omega))).trans ((((Below.refl _ w3).alloc (Nat.le_refl _) _).alloc (by simp) _).trans (hb4.mono (by simp; omega)) |>.mono (by omega))⟩

end Go.Proofs.Ytampfpnkkdihaaa

namespace Go.Proofs.Ytampfpnkkdihaaa
open Go.RowKit
attribute [local go_sem ↓] Go.wp_at_zero Go.wp_at_succ

namespace L
theorem boxB_of {b : Bx} (h : BxOk b) : boxB b = true := by
  obtain ⟨h1, h2, h3, h4, h5, h6⟩ := h
  simp [boxB, spanIn, h1, h2, h3, h4, h5, h6]
theorem checkBE_yes {v : Vw} {b : Bx} (hv : viewB v = true) (hb : boxB b = true) : checkBE v b = 0 := by unfold checkBE; rw [hv, hb]; rfl
theorem callV_ok {v : Vw} {b : Bx} (h : checkBE v b = 0) : callV v b = callOf v b 0 := by unfold callV; rw [if_pos h]
theorem callE_ok {v : Vw} {b : Bx} (h : checkBE v b = 0) : callE v b = if callOf v b 0 = 0 then 3 else 0 := by unfold callE; rw [if_pos h]
theorem validB_ok {v : Vw} {b : Bx} (h : validB v b = true) : viewB v = true ∧ boxB b = true ∧ farB v = false := by
  unfold validB at h
  simp only [Bool.and_eq_true, Bool.not_eq_true'] at h
  exact ⟨h.2.1, h.2.2, h.1⟩
def Larger (b o : Bx) : Prop := o.l ≤ b.l ∧ b.r ≤ o.r ∧ o.b ≤ b.b ∧ b.t ≤ o.t ∧ BxOk o
theorem larger_cases {v : Vw} (hv : viewB v = true) {b o : Bx} (hb : boxB b = true) (h : Larger b o) :
    (callV v b = 0 ∧ callE v b = 3 ∧ callV v o = 0 ∧ callE v o = 3) ∨ (callV v b = 1 ∧ callE v b = 0 ∧ callV v o = 1 ∧ callE v o = 0) ∨ (callV v b = 2 ∧ callE v b = 0 ∧ callV v o = 2 ∧ callE v o = 0) ∨ (callV v b ≠ 1 ∧ callE v b = 0 ∧ callV v o ≠ 2 ∧ callE v o = 0) := by
  obtain ⟨h1, h2, h3, h4, h5⟩ := h
  have c1 := checkBE_yes hv hb
  have c2 := checkBE_yes hv (boxB_of h5)
  obtain ⟨a1, a2, a3⟩ := larger (viewB_ok hv) h1 h2 h3 h4 0
  rw [callV_ok c1, callE_ok c1, callV_ok c2, callE_ok c2]
  by_cases hz : callOf v b 0 = 0
  · exact .inl ⟨hz, by rw [if_pos hz], a1.1 hz, by rw [if_pos (a1.1 hz)]⟩
  · have hz' : callOf v o 0 ≠ 0 := fun e => hz (a1.2 e)
    rw [if_neg hz, if_neg hz']
    by_cases h1' : callOf v b 0 = 1
    · exact .inr (.inl ⟨h1', rfl, a2 h1', rfl⟩)
    · by_cases h2' : callOf v o 0 = 2
      · exact .inr (.inr (.inl ⟨a3 h2', rfl, h2', rfl⟩))
      · exact .inr (.inr (.inr ⟨h1', rfl, h2', rfl⟩))
end L

theorem Call_ints (v : L.Vw) (A : Option Addr) (n c : Nat) (l r b t : Int) (w : World) (hn : v.ss.length = n) (hr : RdS w w.heap.size A v.ss) :
    Calls Try.prog 17 #[.agg #[.int .i64 v.size, .slice A n c, .int .i64 v.wrong, .int .i64 v.hxl, .int .i64 v.hxh, .int .i64 v.hyl, .int .i64 v.hyh], .agg #[.int .i64 l, .int .i64 r, .int .i64 b, .int .i64 t]] w fun e w' => e = .returned (.tuple #[.int .i64 (L.callV v ⟨l, r, b, t⟩), .int .i64 (L.callE v ⟨l, r, b, t⟩)]) ∧ Below w.heap.size w w' :=
  Call_any v A n c ⟨l, r, b, t⟩ w hn hr
set_option maxRecDepth 100000 in
set_option maxHeartbeats 3200000 in
theorem largerLaw_out (v : L.Vw) (A : Option Addr) (n c : Nat) (b m : L.Bx) (w : World) (hn : v.ss.length = n) (hr : RdS w w.heap.size A v.ss) (h : L.validB v b = false ∨ (L.validB v b = true ∧ L.boxB m = false)) :
    Calls Try.prog 5 #[.agg #[.int .i64 v.size, .slice A n c, .int .i64 v.wrong, .int .i64 v.hxl, .int .i64 v.hxh, .int .i64 v.hyl, .int .i64 v.hyh], .agg #[.int .i64 b.l, .int .i64 b.r, .int .i64 b.b, .int .i64 b.t], .agg #[.int .i64 m.l, .int .i64 m.r, .int .i64 m.b, .int .i64 m.t]] w fun e w' => e = .returned (.bool true) ∧ Below w.heap.size w w' := by
  have HN := hide hn
  have HR := hide hr
  clear hn hr
  rcases h with h | ⟨h, hm⟩
  · have H := hide h
    clear h
    go_enter Try.func5, Try.ntmps5
    go_wp2_with (first | (go_at_call 15; refine (valid_any v A n c b _ HN.out ((HR.out.below (by (repeat' first | exact zbR _ _ | assumption | refine zbD ?_ | refine zbA ?_ ?_ _ | refine zbS ?_ ?_ _ | refine zbT ?_ (by assumption) ?_ | (simp; done) | (simp; omega) | omega))).mono (by first | (simp; done) | (simp; omega) | omega))).mono ?_; rintro e w2 ⟨rfl, hb2⟩; rw [H.out]; obtain ⟨hc2, hf2⟩ := bcell hb2; have q2 := hb2.size; (try simp only [World.size_alloc] at q2); have z2_0 : w.heap.size < w2.heap.size := (by omega); have z2_1 : w.heap.size + 1 < w2.heap.size := (by omega); have z2_2 : w.heap.size + 1 + 1 < w2.heap.size := (by omega)) | (go_at_call 16; refine (works_any _).mono ?_; rintro e w3 ⟨rfl, hb3⟩))
    go_ret
    exact ⟨rfl, by (repeat' first | exact zbR _ _ | assumption | refine zbD ?_ | refine zbA ?_ ?_ _ | refine zbS ?_ ?_ _ | refine zbT ?_ (by assumption) ?_ | (simp; done) | (simp; omega) | omega)⟩
  · have H := hide h
    have HM := hide hm
    clear h hm
    go_enter Try.func5, Try.ntmps5
    go_wp2_with (first | (go_at_call 15; refine (valid_any v A n c b _ HN.out ((HR.out.below (by (repeat' first | exact zbR _ _ | assumption | refine zbD ?_ | refine zbA ?_ ?_ _ | refine zbS ?_ ?_ _ | refine zbT ?_ (by assumption) ?_ | (simp; done) | (simp; omega) | omega))).mono (by first | (simp; done) | (simp; omega) | omega))).mono ?_; rintro e w2 ⟨rfl, hb2⟩; rw [H.out]; obtain ⟨hc2, hf2⟩ := bcell hb2; have q2 := hb2.size; (try simp only [World.size_alloc] at q2); have z2_0 : w.heap.size < w2.heap.size := (by omega); have z2_1 : w.heap.size + 1 < w2.heap.size := (by omega); have z2_2 : w.heap.size + 1 + 1 < w2.heap.size := (by omega)) | (go_at_call 25; refine (isBox_any m _).mono ?_; rintro e w4 ⟨rfl, hb4⟩; rw [HM.out]; obtain ⟨hc4, hf4⟩ := bcell hb4; have q4 := hb4.size; (try simp only [World.size_alloc] at q4); have z4_0 : w.heap.size < w4.heap.size := (by omega); have z4_1 : w.heap.size + 1 < w4.heap.size := (by omega); have z4_2 : w.heap.size + 1 + 1 < w4.heap.size := (by omega)) | (go_at_call 16; refine (works_any _).mono ?_; rintro e w3 ⟨rfl, hb3⟩))
    go_ret
    exact ⟨rfl, by (repeat' first | exact zbR _ _ | assumption | refine zbD ?_ | refine zbA ?_ ?_ _ | refine zbS ?_ ?_ _ | refine zbT ?_ (by assumption) ?_ | (simp; done) | (simp; omega) | omega)⟩

set_option maxRecDepth 100000 in
set_option maxHeartbeats 3200000 in
theorem largerLaw_in (v : L.Vw) (A : Option Addr) (n c : Nat) (b m : L.Bx) (w : World) (hn : v.ss.length = n) (hr : RdS w w.heap.size A v.ss) (h : L.validB v b = true) (hm : L.boxB m = true) :
    Calls Try.prog 5 #[.agg #[.int .i64 v.size, .slice A n c, .int .i64 v.wrong, .int .i64 v.hxl, .int .i64 v.hxh, .int .i64 v.hyl, .int .i64 v.hyh], .agg #[.int .i64 b.l, .int .i64 b.r, .int .i64 b.b, .int .i64 b.t], .agg #[.int .i64 m.l, .int .i64 m.r, .int .i64 m.b, .int .i64 m.t]] w fun e w' => e = .returned (.bool true) ∧ Below w.heap.size w w' := by
  have HN := hide hn
  have HR := hide hr
  have H := hide h
  have HM := hide hm
  obtain ⟨b1, b2, b3, b4, b5, b6⟩ := L.boxB_ok (L.validB_ok h).2.1
  obtain ⟨m1, m2, m3, m4, m5, m6⟩ := L.boxB_ok hm
  clear hn hr h hm
  go_enter Try.func5, Try.ntmps5
  go_upto_region 3 with (first | (go_at_call 15; refine (valid_any v A n c b _ HN.out ((HR.out.below (by (repeat' first | exact zbR _ _ | assumption | refine zbD ?_ | refine zbA ?_ ?_ _ | refine zbS ?_ ?_ _ | refine zbT ?_ (by assumption) ?_ | (simp; done) | (simp; omega) | omega))).mono (by first | (simp; done) | (simp; omega) | omega))).mono ?_; rintro e w2 ⟨rfl, hb2⟩; rw [H.out]; obtain ⟨hc2, hf2⟩ := bcell hb2; have q2 := hb2.size; (try simp only [World.size_alloc] at q2); have z2_0 : w.heap.size < w2.heap.size := (by omega); have z2_1 : w.heap.size + 1 < w2.heap.size := (by omega); have z2_2 : w.heap.size + 1 + 1 < w2.heap.size := (by omega)) | (go_at_call 25; refine (isBox_any m _).mono ?_; rintro e w4 ⟨rfl, hb4⟩; rw [HM.out]; obtain ⟨hc4, hf4⟩ := bcell hb4; have q4 := hb4.size; (try simp only [World.size_alloc] at q4); have z4_0 : w.heap.size < w4.heap.size := (by omega); have z4_1 : w.heap.size + 1 < w4.heap.size := (by omega); have z4_2 : w.heap.size + 1 + 1 < w4.heap.size := (by omega)))
  go_cut [7] from 22 to 42 (fun v7 wx => ∃ (q : Nat) (x1 x2 x3 x4 : Int), v7 = .pointer (some ⟨q, 0, none⟩) ∧ Hid (L.Larger b ⟨x1, x2, x3, x4⟩) ∧ Hid (wx.heap[q]? = some (.cells #[.int .i64 x1, .int .i64 x2, .int .i64 x3, .int .i64 x4] 28 (0, 0))) ∧ Hid (w4.heap.size ≤ q ∧ Below w4.heap.size w4 wx))
  case first =>
    go_wp2
    all_goals
      go_meet
      refine ⟨_, _, _, _, _, rfl, ?_, hide (World.alloc_heap_new _ _), hide ⟨Nat.le_refl _, (Below.refl _ _).alloc (Nat.le_refl _) _⟩⟩
      exact hide ⟨by dsimp only; omega, by dsimp only; omega, by dsimp only; omega, by dsimp only; omega, ⟨by dsimp only; omega, by dsimp only; omega, by dsimp only; omega, by dsimp only; omega, by dsimp only; omega, by dsimp only; omega⟩⟩
  case rest =>
    obtain ⟨q, x1, x2, x3, x4, rfl, HL, HQ, HW⟩ := hcut
    obtain ⟨hq, hW⟩ := HW.out
    obtain ⟨hc5, hf5⟩ := bcell hW
    have q5 := hW.size
    have o1 := (blk_cell HQ.out 0).trans rfl
    have o2 := (blk_cell HQ.out 1).trans rfl
    have o3 := (blk_cell HQ.out 2).trans rfl
    have o4 := (blk_cell HQ.out 3).trans rfl
    have lq : q < wc.heap.size := blk_lt HQ.out
    have y0 : w.heap.size < wc.heap.size := by omega
    have y1 : w.heap.size + 1 < wc.heap.size := by omega
    have HWW := hide hW
    rcases L.larger_cases (L.validB_ok H.out).1 (L.validB_ok H.out).2.1 HL.out with ⟨e1, e2, e3, e4⟩ | ⟨e1, e2, e3, e4⟩ | ⟨e1, e2, e3, e4⟩ | ⟨e1, e2, e3, e4⟩
    rotate_left 3
    · have d1 : (L.callV v b == 1) = false := by simpa using e1
      have d2 : (L.callV v ⟨x1, x2, x3, x4⟩ == 2) = false := by simpa using e3
      have d3 : (L.callV v b != 1) = true := by simpa using e1
      have d4 : (L.callV v ⟨x1, x2, x3, x4⟩ != 2) = true := by simpa using e3
      have E2 := hide e2
      have E4 := hide e4
      clear e1 e2 e3 e4
      go_wp2_with (first | (go_at_call 17; refine (Call_ints v A n c _ _ _ _ _ HN.out ((HR.out.below (by (repeat' first | exact zbR _ _ | assumption | refine zbD ?_ | refine zbA ?_ ?_ _ | refine zbS ?_ ?_ _ | refine zbT ?_ (by assumption) ?_ | (simp; done) | (simp; omega) | omega))).mono (by first | (simp; done) | (simp; omega) | omega))).mono ?_; rintro e w6 ⟨rfl, hb6⟩; (first | rw [E2.out] | rw [E4.out]); obtain ⟨hc6, hf6⟩ := bcell hb6; have q6 := hb6.size; (try simp only [World.size_alloc] at q6); have z6_0 : w.heap.size < w6.heap.size := (by omega); have z6_1 : q < w6.heap.size := (by omega)) | (go_at_call 16; refine (works_any _).mono ?_; rintro e w3 ⟨rfl, hb3⟩))
      go_ret
      exact ⟨rfl, by (repeat' first | exact zbR _ _ | assumption | refine zbD ?_ | refine zbA ?_ ?_ _ | refine zbS ?_ ?_ _ | refine zbT ?_ (by assumption) ?_ | (simp; done) | (simp; omega) | omega)⟩
    all_goals
      have E1 := hide e1
      have E2 := hide e2
      have E3 := hide e3
      have E4 := hide e4
      clear e1 e2 e3 e4
      go_wp2_with (first | (go_at_call 17; refine (Call_ints v A n c _ _ _ _ _ HN.out ((HR.out.below (by (repeat' first | exact zbR _ _ | assumption | refine zbD ?_ | refine zbA ?_ ?_ _ | refine zbS ?_ ?_ _ | refine zbT ?_ (by assumption) ?_ | (simp; done) | (simp; omega) | omega))).mono (by first | (simp; done) | (simp; omega) | omega))).mono ?_; rintro e w6 ⟨rfl, hb6⟩; (first | rw [E1.out, E2.out] | rw [E3.out, E4.out]); obtain ⟨hc6, hf6⟩ := bcell hb6; have q6 := hb6.size; (try simp only [World.size_alloc] at q6); have z6_0 : w.heap.size < w6.heap.size := (by omega); have z6_1 : q < w6.heap.size := (by omega)) | (go_at_call 16; refine (works_any _).mono ?_; rintro e w3 ⟨rfl, hb3⟩))
      go_ret
      exact ⟨rfl, by (repeat' first | exact zbR _ _ | assumption | refine zbD ?_ | refine zbA ?_ ?_ _ | refine zbS ?_ ?_ _ | refine zbT ?_ (by assumption) ?_ | (simp; done) | (simp; omega) | omega)⟩

end Go.Proofs.Ytampfpnkkdihaaa

namespace Go.Proofs.Ytampfpnkkdihaaa
namespace L

theorem cents_mem {n : Nat} {x y : Int} (hx0 : 0 ≤ x) (hx1 : x ≤ n) (hy0 : 0 ≤ y) (hy1 : y ≤ n) : (x, y) ∈ cents n := by
  simp only [cents, List.mem_flatMap, List.mem_map, List.mem_range]
  exact ⟨x.toNat, by omega, y.toNat, by omega, Prod.ext (Int.toNat_of_nonneg hx0) (Int.toNat_of_nonneg hy0)⟩
theorem mem_tcents {v : Vw} (hv : VwOk v) {c : Int × Int} {k : Int} : c ∈ tcents v k ↔ (0 ≤ c.1 ∧ c.1 ≤ v.size ∧ 0 ≤ c.2 ∧ c.2 ≤ v.size) ∧ okAt v k c = true := by
  unfold tcents
  rw [List.mem_filter]
  have h0 := hv.s0
  have hs : (v.size.toNat : Int) = v.size := Int.toNat_of_nonneg h0
  constructor
  · rintro ⟨h, h'⟩
    obtain ⟨a, b, c, d⟩ := mem_cents h
    exact ⟨⟨a, by omega, c, by omega⟩, h'⟩
  · rintro ⟨⟨a, b, c, d⟩, h'⟩
    exact ⟨cents_mem a (by omega) c (by omega), h'⟩
theorem okAt_zero (v : Vw) (c : Int × Int) : okAt v 0 c = decide (((wrongL v c.1 c.2).length : Int) ≤ v.wrong) := by
  unfold okAt; rw [wrongL_length]
theorem truth_mem {v : Vw} (hv : VwOk v) {m : Mk} (h : truthB v m = true) : (m.x, m.y) ∈ tcents v 0 ∧ v.hxl ≤ m.hx ∧ m.hx ≤ v.hxh ∧ v.hyl ≤ m.hy ∧ m.hy ≤ v.hyh := by
  unfold truthB at h
  rw [Bool.and_eq_true] at h
  obtain ⟨h1, h2⟩ := h
  unfold isMarkB markB within at h1
  simp only [Bool.and_eq_true, decide_eq_true_eq] at h1
  obtain ⟨⟨⟨⟨a, b⟩, c, d⟩, e, f⟩, g, i⟩ := h1
  exact ⟨(mem_tcents hv).2 ⟨⟨a, b, c, d⟩, by rw [okAt_zero]; exact h2⟩, e, f, g, i⟩
theorem truth_of {v : Vw} (hv : VwOk v) {c : Int × Int} {p q : Int} (hc : c ∈ tcents v 0) (h1 : v.hxl ≤ p) (h2 : p ≤ v.hxh) (h3 : v.hyl ≤ q) (h4 : q ≤ v.hyh) : truthB v ⟨c.1, c.2, p, q⟩ = true := by
  obtain ⟨⟨a, b, d, e⟩, f⟩ := (mem_tcents hv).1 hc
  rw [okAt_zero] at f
  unfold truthB isMarkB markB within
  simp only [Bool.and_eq_true, decide_eq_true_eq]
  exact ⟨⟨⟨⟨⟨a, b⟩, d, e⟩, h1, h2⟩, h3, h4⟩, by simpa using f⟩
theorem markB_of {m : Mk} (h : MkOk m) : markB m 40 1 9 1 9 = true := by
  obtain ⟨a, b, c, d, e, f, g, i⟩ := h
  unfold markB within
  simp only [Bool.and_eq_true, decide_eq_true_eq]
  exact ⟨⟨⟨⟨a, b⟩, c, d⟩, e, f⟩, g, i⟩
theorem truth_ok {v : Vw} (hv : VwOk v) {m : Mk} (h : truthB v m = true) : MkOk m := by
  unfold truthB at h
  rw [Bool.and_eq_true] at h
  exact (isMark_bd hv h.1).1
theorem touch_low {v : Vw} (hv : VwOk v) {m : Mk} {b : Bx} (h : truthB v m = true) (ht : touch ⟨m.x, m.y, v.hxl, v.hyl⟩ b = true) : touch m b = true := by
  obtain ⟨_, h1, h2, h3, h4⟩ := truth_mem hv h
  exact touch_axes hv.x0 hv.y0 h1 h3 ht
theorem touch_high {v : Vw} (hv : VwOk v) {m : Mk} {b : Bx} (h : truthB v m = true) (ht : touch m b = true) : touch ⟨m.x, m.y, v.hxh, v.hyh⟩ b = true := by
  obtain ⟨_, h1, h2, h3, h4⟩ := truth_mem hv h
  exact touch_axes (by have := hv.x0; omega) (by have := hv.y0; omega) h2 h4 ht
theorem found_some {v : Vw} (hv : VwOk v) {b : Bx} {call : Int} (h : (findC v b 0 call).isSome = true) : truthB v (foundM v b 0 call) = true ∧ touch (foundM v b 0 call) b = decide (call = 1) := by
  obtain ⟨c, hc⟩ := Option.isSome_iff_exists.1 h
  have e : foundM v b 0 call = ⟨c.1, c.2, hxOf v call, hyOf v call⟩ := by unfold foundM; rw [hc]; exact markOf_eq v call c
  have h1 : c ∈ tcents v 0 := List.mem_of_find?_eq_some hc
  have h2 : hitAt v b call c = true := List.find?_some hc
  rw [hitAt_eq] at h2
  rw [e]
  refine ⟨?_, by simpa using h2⟩
  have := hv.xx
  have := hv.yy
  exact truth_of hv h1 (by unfold hxOf; split <;> omega) (by unfold hxOf; split <;> omega) (by unfold hyOf; split <;> omega) (by unfold hyOf; split <;> omega)

theorem showE_1 {v : Vw} {b : Bx} (h : checkBE v b = 0) : showE v b 1 = if (findC v b 0 1).isSome then 0 else 3 := by unfold showE; rw [if_pos h, if_pos (by decide)]
theorem showE_2 {v : Vw} {b : Bx} (h : checkBE v b = 0) : showE v b 2 = if (findC v b 0 2).isSome then 0 else 3 := by unfold showE; rw [if_pos h, if_pos (by decide)]
theorem showM_1 {v : Vw} {b : Bx} (h : checkBE v b = 0) : showM v b 1 = foundM v b 0 1 := by unfold showM; rw [if_pos h, if_pos (by decide)]
theorem showM_2 {v : Vw} {b : Bx} (h : checkBE v b = 0) : showM v b 2 = foundM v b 0 2 := by unfold showM; rw [if_pos h, if_pos (by decide)]

structure SureOk (v : Vw) (b : Bx) (m : Mk) (cv e1 e2 : Int) : Prop where
  fcv : callV v b = cv
  fce : callE v b = 0
  f1 : showE v b 1 = e1
  f2 : showE v b 2 = e2
  tou : truthB v m = true → touE m b = 0
  tin : cv = 1 → truthB v m = true → touV m b = true
  tout : cv = 2 → truthB v m = true → touV m b = false
  t1 : e1 = 0 → truthB v (showM v b 1) = true ∧ touch (showM v b 1) b = true ∧ MkOk (showM v b 1)
  t2 : e2 = 0 → truthB v (showM v b 2) = true ∧ touch (showM v b 2) b = false ∧ MkOk (showM v b 2)

theorem sure_cases {v : Vw} (hv : viewB v = true) {b : Bx} (hb : boxB b = true) (m : Mk) :
    (callV v b = 0 ∧ callE v b = 3 ∧ truthB v m = false) ∨ SureOk v b m 1 0 3 ∨ SureOk v b m 2 3 0 ∨ SureOk v b m 3 0 0 := by
  have hc := checkBE_yes hv hb
  have hk := viewB_ok hv
  have T : truthB v m = true → touE m b = 0 ∧ touV m b = touch m b := fun h => by
    have := markB_of (truth_ok hk h)
    exact ⟨by unfold touE; rw [hb, this]; rfl, by unfold touV; rw [hb, this]; rfl⟩
  have F1 : (findC v b 0 1).isSome = true → truthB v (showM v b 1) = true ∧ touch (showM v b 1) b = true ∧ MkOk (showM v b 1) := fun h => by
    obtain ⟨a1, a2⟩ := found_some hk h
    rw [showM_1 hc]
    exact ⟨a1, by simpa using a2, truth_ok hk a1⟩
  have F2 : (findC v b 0 2).isSome = true → truthB v (showM v b 2) = true ∧ touch (showM v b 2) b = false ∧ MkOk (showM v b 2) := fun h => by
    obtain ⟨a1, a2⟩ := found_some hk h
    rw [showM_2 hc]
    exact ⟨a1, by simpa using a2, truth_ok hk a1⟩
  have i1 := find1 v b 0
  have i2 := find2 v b 0
  rcases call_cases v b 0 with ⟨h, a1, a2⟩ | ⟨h, a1, a2⟩ | ⟨h, a1, a2⟩ | ⟨h, a1, a2⟩
  · refine .inl ⟨by rw [callV_ok hc, h], by rw [callE_ok hc, if_pos h], ?_⟩
    cases ht : truthB v m
    · rfl
    · have := (truth_mem hk ht).1
      rw [(call_zero hk b 0).1 h] at this
      cases this
  · have s1 := i1.2 a1
    have s2 : (findC v b 0 2).isSome = false := by cases hq : (findC v b 0 2).isSome; rfl; exact (a2 (i2.1 hq)).elim
    refine .inr (.inl ⟨by rw [callV_ok hc, h], by rw [callE_ok hc, if_neg (by omega)], by rw [showE_1 hc, s1]; rfl, by rw [showE_2 hc, s2]; rfl, fun t => (T t).1, fun _ t => ?_, fun e => by omega, fun _ => F1 s1, fun e => by omega⟩)
    rw [(T t).2]
    have hm := (truth_mem hk t).1
    cases hl : touch ⟨m.x, m.y, v.hxl, v.hyl⟩ b
    · exact (a2 ⟨_, hm, hl⟩).elim
    · exact touch_low hk t hl
  · have s2 := i2.2 a2
    have s1 : (findC v b 0 1).isSome = false := by cases hq : (findC v b 0 1).isSome; rfl; exact (a1 (i1.1 hq)).elim
    refine .inr (.inr (.inl ⟨by rw [callV_ok hc, h], by rw [callE_ok hc, if_neg (by omega)], by rw [showE_1 hc, s1]; rfl, by rw [showE_2 hc, s2]; rfl, fun t => (T t).1, fun e => by omega, fun _ t => ?_, fun e => by omega, fun _ => F2 s2⟩))
    rw [(T t).2]
    have hm := (truth_mem hk t).1
    cases hl : touch m b
    · rfl
    · exact (a1 ⟨_, hm, touch_high hk t hl⟩).elim
  · have s1 := i1.2 a1
    have s2 := i2.2 a2
    exact .inr (.inr (.inr ⟨by rw [callV_ok hc, h], by rw [callE_ok hc, if_neg (by omega)], by rw [showE_1 hc, s1]; rfl, by rw [showE_2 hc, s2]; rfl, fun t => (T t).1, fun e => by omega, fun e => by omega, fun _ => F1 s1, fun _ => F2 s2⟩))
end L
end Go.Proofs.Ytampfpnkkdihaaa

namespace Go.Proofs.Ytampfpnkkdihaaa
open Go.RowKit
attribute [local go_sem ↓] Go.wp_at_zero Go.wp_at_succ

namespace L
theorem truths_mem {v : Vw} {m : Mk} (h : m ∈ truths v) : ∃ c ∈ tcents v 0, m.x = c.1 ∧ m.y = c.2 ∧ v.hxl ≤ m.hx ∧ m.hx ≤ v.hxh ∧ v.hyl ≤ m.hy ∧ m.hy ≤ v.hyh := by
  unfold truths trC at h
  obtain ⟨k, hk, h⟩ := List.mem_flatMap.1 h
  obtain ⟨c, hc, rfl⟩ := List.mem_map.1 hk
  unfold trA at h
  obtain ⟨i, hi, h⟩ := List.mem_flatMap.1 h
  unfold trB at h
  obtain ⟨j, hj, rfl⟩ := List.mem_map.1 h
  rw [List.mem_range] at hi hj
  unfold nA at hi
  unfold nB at hj
  exact ⟨c, hc, rfl, rfl, by dsimp only; omega, by dsimp only; omega, by dsimp only; omega, by dsimp only; omega⟩
theorem truths_of {v : Vw} {c : Int × Int} (hc : c ∈ tcents v 0) {p q : Int} (h1 : v.hxl ≤ p) (h2 : p ≤ v.hxh) (h3 : v.hyl ≤ q) (h4 : q ≤ v.hyh) : (⟨c.1, c.2, p, q⟩ : Mk) ∈ truths v := by
  unfold truths trC
  refine List.mem_flatMap.2 ⟨mk0 c, List.mem_map.2 ⟨c, hc, rfl⟩, ?_⟩
  unfold trA
  refine List.mem_flatMap.2 ⟨(p - v.hxl).toNat, List.mem_range.2 (by unfold nA; omega), ?_⟩
  unfold trB
  refine List.mem_map.2 ⟨(q - v.hyl).toNat, List.mem_range.2 (by unfold nB; omega), ?_⟩
  have e1 : v.hxl + ((p - v.hxl).toNat : Int) = p := by omega
  have e2 : v.hyl + ((q - v.hyl).toNat : Int) = q := by omega
  rw [e1, e2]
  rfl
def cntT (b : Bx) (l : List Mk) : Nat := (l.filter fun m => touch m b).length
theorem cntT_le (b : Bx) (l : List Mk) : cntT b l ≤ l.length := List.length_filter_le _ _
theorem cntT_next (b : Bx) {l : List Mk} {i : Nat} {m : Mk} (h : l[i]? = some m) : cntT b (l.take (i + 1)) = cntT b (l.take i) + (if touch m b then 1 else 0) := by
  unfold cntT
  rw [List.take_add_one, h, Option.toList_some, List.filter_append, List.length_append]
  congr 1
  cases ht : touch m b <;> simp [List.filter_cons, ht]
def callR (l : List Mk) (b : Bx) : Int := if l.length = 0 then 0 else if cntT b l = l.length then 1 else if cntT b l = 0 then 2 else 3
theorem callR_eq {v : Vw} (hv : VwW v) (b : Bx) : callR (truths v) b = callOf v b 0 := by
  have lowT : ∀ m ∈ truths v, ¬ outAt' v b 0 → touch m b = true := fun m hm ho => by
    obtain ⟨c, hc, e1, e2, h1, h2, h3, h4⟩ := truths_mem hm
    cases hl : touch ⟨c.1, c.2, v.hxl, v.hyl⟩ b
    · exact (ho ⟨c, hc, hl⟩).elim
    · obtain ⟨x, y, p, q⟩ := m
      dsimp only at e1 e2 h1 h3
      subst e1 e2
      exact touch_axes hv.x0 hv.y0 h1 h3 hl
  have highF : ∀ m ∈ truths v, ¬ inAt' v b 0 → touch m b = false := fun m hm ho => by
    obtain ⟨c, hc, e1, e2, h1, h2, h3, h4⟩ := truths_mem hm
    cases hl : touch m b
    · rfl
    · refine (ho ⟨c, hc, ?_⟩).elim
      obtain ⟨x, y, p, q⟩ := m
      dsimp only at e1 e2 h1 h2 h3 h4
      subst e1 e2
      exact touch_axes (by have := hv.x0; omega) (by have := hv.y0; omega) h2 h4 hl
  have inM : inAt' v b 0 → ∃ m ∈ truths v, touch m b = true := fun ⟨c, hc, h⟩ => ⟨_, truths_of hc hv.xx (Int.le_refl _) hv.yy (Int.le_refl _), h⟩
  have outM : outAt' v b 0 → ∃ m ∈ truths v, touch m b = false := fun ⟨c, hc, h⟩ => ⟨_, truths_of hc (Int.le_refl _) hv.xx (Int.le_refl _) hv.yy, h⟩
  have pos : ∀ m ∈ truths v, (truths v).length ≠ 0 := fun m hm e => by rw [List.eq_nil_of_length_eq_zero e] at hm; cases hm
  have all : (∀ m ∈ truths v, touch m b = true) → cntT b (truths v) = (truths v).length := fun h => List.length_filter_eq_length_iff.2 (by simpa using h)
  have none : (∀ m ∈ truths v, touch m b = false) → cntT b (truths v) = 0 := fun h => by
    unfold cntT
    rw [List.length_eq_zero_iff, List.filter_eq_nil_iff]
    intro m hm
    rw [h m hm]
    decide
  unfold callR
  rcases call_cases v b 0 with ⟨e, h1, h2⟩ | ⟨e, h1, h2⟩ | ⟨e, h1, h2⟩ | ⟨e, h1, h2⟩
  · rw [e, if_pos]
    rcases hl : truths v with _ | ⟨m, r⟩
    · rfl
    · have hm : m ∈ truths v := by rw [hl]; simp
      have a1 := lowT m hm h2
      have a2 := highF m hm h1
      rw [a1] at a2
      cases a2
  · obtain ⟨m, hm, _⟩ := inM h1
    rw [e, if_neg (pos m hm), if_pos (all (fun m hm => lowT m hm h2))]
  · obtain ⟨m, hm, _⟩ := outM h2
    have := none (fun m hm => highF m hm h1)
    have hp := pos m hm
    rw [e, if_neg hp, if_neg (by omega), if_pos this]
  · obtain ⟨m, hm, ht⟩ := inM h1
    obtain ⟨m', hm', ht'⟩ := outM h2
    have a1 : cntT b (truths v) ≠ (truths v).length := fun h => by
      have := List.length_filter_eq_length_iff.1 h m' hm'
      rw [ht'] at this
      cases this
    have a2 : cntT b (truths v) ≠ 0 := fun h => by
      unfold cntT at h
      rw [List.length_eq_zero_iff, List.filter_eq_nil_iff] at h
      exact h m hm ht
    rw [e, if_neg (pos m hm), if_neg a1, if_neg a2]
theorem truths_ok {v : Vw} (hv : VwW v) {m : Mk} (h : m ∈ truths v) : MkOk m := by
  obtain ⟨c, hc, e1, e2, h1, h2, h3, h4⟩ := truths_mem h
  unfold tcents at hc
  obtain ⟨a1, a2, a3, a4⟩ := mem_cents (List.mem_filter.1 hc).1
  have := hv.s0; have := hv.s1; have := hv.x0; have := hv.x1; have := hv.y0; have := hv.y1
  exact ⟨by omega, by omega, by omega, by omega, by omega, by omega, by omega, by omega⟩
theorem truths_len {v : Vw} (hv : VwW v) : (truths v).length ≤ 200000 := by
  unfold truths
  rw [trC_len, List.length_map]
  have h1 : (tcents v 0).length ≤ (cents v.size.toNat).length := List.length_filter_le _ _
  rw [cents_length] at h1
  have h2 : v.size.toNat + 1 ≤ 41 := by have := hv.s0; have := hv.s1; omega
  have h3 := Nat.mul_le_mul h2 h2
  have hnA : nA v ≤ 9 := by unfold nA; have := hv.x0; have := hv.x1; omega
  have hnB : nB v ≤ 9 := by unfold nB; have := hv.y0; have := hv.y1; omega
  have h4 := Nat.mul_le_mul hnA hnB
  have h5 := Nat.mul_le_mul (show (tcents v 0).length ≤ 1681 by omega) h4
  omega
end L

set_option maxRecDepth 100000 in
set_option maxHeartbeats 6400000 in
theorem refcall_any (v : L.Vw) (A : Option Addr) (n c : Nat) (b : L.Bx) (w : World) (hv : L.VwW v) (hb : L.BxOk b) (hn : v.ss.length = n) (hr : RdS w w.heap.size A v.ss) :
    Calls Try.prog 67 #[.agg #[.int .i64 v.size, .slice A n c, .int .i64 v.wrong, .int .i64 v.hxl, .int .i64 v.hxh, .int .i64 v.hyl, .int .i64 v.hyh], .agg #[.int .i64 b.l, .int .i64 b.r, .int .i64 b.b, .int .i64 b.t]] w fun e w' => e = .returned (.int .i64 (L.callOf v b 0)) ∧ Below w.heap.size w w' := by
  have HN := hide hn
  have HR := hide hr
  have HV := hide hv
  have HB := hide hb
  have HE := hide (L.callR_eq hv b)
  obtain ⟨tl, htl⟩ : ∃ tl, L.truths v = tl := ⟨_, rfl⟩
  have HTL := hide htl
  have hlen : tl.length ≤ 200000 := by rw [← htl]; exact L.truths_len hv
  have HOKS := hide (show ∀ m ∈ tl, L.MkOk m from fun m hm => L.truths_ok hv (by rw [htl]; exact hm))
  clear hn hr hv hb
  rw [htl] at HE
  clear htl
  go_enter Try.func67, Try.ntmps67
  go_upto_region 1 with fail
  obtain ⟨W0, hW0⟩ : ∃ W0, (w.alloc (.cells #[.int .i64 v.size, .slice A n c, .int .i64 v.wrong, .int .i64 v.hxl, .int .i64 v.hxh, .int .i64 v.hyl, .int .i64 v.hyh] 26)).alloc (.cells #[.int .i64 b.l, .int .i64 b.r, .int .i64 b.b, .int .i64 b.t] 28) = W0 := ⟨_, rfl⟩
  have gp : W0.heap[w.heap.size]? = some (.cells #[.int .i64 v.size, .slice A n c, .int .i64 v.wrong, .int .i64 v.hxl, .int .i64 v.hxh, .int .i64 v.hyl, .int .i64 v.hyh] 26 (0, 0)) := by
    rw [← hW0]; exact (Below.heap_alloc _ _ _ (by first | (simp; done) | (simp; omega) | omega)).trans (World.alloc_heap_new _ _)
  have gq : W0.heap[w.heap.size + 1]? = some (.cells #[.int .i64 b.l, .int .i64 b.r, .int .i64 b.b, .int .i64 b.t] 28 (0, 0)) := by
    rw [← hW0]; exact blk_new2
  have gs : W0.heap.size = w.heap.size + 1 + 1 := by rw [← hW0]; simp
  have gB : Below w.heap.size w W0 := by rw [← hW0]; (repeat' first | exact zbR _ _ | assumption | refine zbD ?_ | refine zbA ?_ ?_ _ | refine zbS ?_ ?_ _ | refine zbT ?_ (by assumption) ?_ | (simp; done) | (simp; omega) | omega)
  rw [hW0]
  clear hW0
  obtain ⟨p, hp⟩ : ∃ p, w.heap.size = p := ⟨_, rfl⟩
  obtain ⟨q, hq⟩ : ∃ q, w.heap.size + 1 = q := ⟨_, rfl⟩
  rw [hq, hp]
  rw [hp] at gp
  rw [hq] at gq
  have lp : p < W0.heap.size := by omega
  have lq : q < W0.heap.size := by omega
  have HR0 := hide ((HR.out.below gB).mono gB.size)
  have GB := hide gB
  have GQ := hide gq
  have cp0 := (blk_cell gp 0).trans rfl; have cp1 := (blk_cell gp 1).trans rfl; have cp2 := (blk_cell gp 2).trans rfl; have cp3 := (blk_cell gp 3).trans rfl; have cp4 := (blk_cell gp 4).trans rfl; have cp5 := (blk_cell gp 5).trans rfl; have cp6 := (blk_cell gp 6).trans rfl
  clear gp gq gB gs hp hq HR
  go_wp2_with (go_at_call 73; refine (refTruths_any v A n c _ HV.out HN.out HR0.out).mono ?_; rintro e w2 ⟨svt, ct, rfl, hownt, hb2⟩; rw [HTL.out] at hownt ⊢)
  have GQ2 := hide ((hb2.block q lq).trans GQ.out)
  have GB2 := hide (GB.out.trans (hb2.mono GB.out.size))
  have q2 := hb2.size
  have lq2 : q < w2.heap.size := by omega
  have HT2 := hide hownt
  clear cp0 cp1 cp2 cp3 cp4 cp5 cp6 hownt hb2 lp lq q2 GQ GB HR0
  go_loopw [6, 7] (fun m t wr => ∃ i : Nat, i ≤ tl.length ∧ t = .int .i64 i ∧ m = .int .i64 (L.cntT b (tl.take i) : Int) ∧ Below w2.heap.size w2 wr) (fun _ t _ => tl.length - (intOf t).toNat)
  case atStart => exact ⟨0, by omega, rfl, by simp [L.cntT], Below.refl _ _⟩
  case round =>
    obtain ⟨i, hi, rfl, rfl, hB⟩ := hrel
    have qB := hB.size
    have hi0 : (0 : Int) ≤ (i : Int) := by omega
    have hcl := L.cntT_le b (tl.take i)
    rw [List.length_take] at hcl
    by_cases hlt : i < tl.length
    · obtain ⟨tm, htm⟩ : ∃ tm, tl[i]? = some tm := ⟨_, List.getElem?_eq_getElem hlt⟩
      obtain ⟨g, cap, e, hbg, hgl⟩ := HT2.out.form (by omega)
      have e' : svt = some ⟨g, 0, none⟩ ∧ ct = cap := by
        simp only [Value.slice.injEq] at e
        exact ⟨e.1, e.2.2⟩
      obtain ⟨rfl, rfl⟩ := e'
      obtain ⟨m0, m1, m2, m3⟩ := flatM_at htm
      have s0 := (hB.cell (p := ⟨g, i * 4, none⟩) hgl).trans ((HT2.out.cellAt (i * 4) (by omega)).trans m0)
      have s1 := (hB.cell (p := ⟨g, i * 4 + 1, none⟩) hgl).trans ((HT2.out.cellAt (i * 4 + 1) (by omega)).trans m1)
      have s2 := (hB.cell (p := ⟨g, i * 4 + 1 + 1, none⟩) hgl).trans ((HT2.out.cellAt (i * 4 + 1 + 1) (by omega)).trans m2)
      have s3 := (hB.cell (p := ⟨g, i * 4 + 1 + 1 + 1, none⟩) hgl).trans ((HT2.out.cellAt (i * 4 + 1 + 1 + 1) (by omega)).trans m3)
      have bq := (hB.block q lq2).trans GQ2.out
      have hlt' : (i : Int) < (tl.length : Int) := by omega
      have HTM := hide (HOKS.out tm (List.mem_of_getElem? htm))
      have HNX := hide (L.cntT_next b htm)
      have lgr : g < wr.heap.size := by omega
      have lqr : q < wr.heap.size := by omega
      have hc0 : (0 : Int) ≤ (L.cntT b (tl.take i) : Int) := by omega
      have hc1 : (L.cntT b (tl.take i) : Int) ≤ 200000 := by omega
      have cq0 := (blk_cell bq 0).trans rfl; have cq1 := (blk_cell bq 1).trans rfl; have cq2 := (blk_cell bq 2).trans rfl; have cq3 := (blk_cell bq 3).trans rfl
      clear e m0 m1 m2 m3 bq htm hcl
      go_upto_region 6 with fail
      have hS : (fun w' => Below wr.heap.size wr w' ∧ q < w'.heap.size ∧ g < w'.heap.size ∧ w'.cell? ⟨q, 0, none⟩ = some (.int .i64 b.l) ∧ w'.cell? ⟨q, 1, none⟩ = some (.int .i64 b.r) ∧ w'.cell? ⟨q, 2, none⟩ = some (.int .i64 b.b) ∧ w'.cell? ⟨q, 3, none⟩ = some (.int .i64 b.t) ∧ w'.cell? ⟨g, i * 4, none⟩ = some (.int .i64 tm.x) ∧ w'.cell? ⟨g, i * 4 + 1, none⟩ = some (.int .i64 tm.y) ∧ w'.cell? ⟨g, i * 4 + 1 + 1, none⟩ = some (.int .i64 tm.hx) ∧ w'.cell? ⟨g, i * 4 + 1 + 1 + 1, none⟩ = some (.int .i64 tm.hy)) wr := ⟨Below.refl _ _, lqr, lgr, cq0, cq1, cq2, cq3, s0, s1, s2, s3⟩
      have HB1 := hide hB
      obtain ⟨W1, hW1⟩ : ∃ W1, wr = W1 := ⟨_, rfl⟩
      rw [hW1] at hS HB1 ⊢
      clear hW1 hB qB lqr lgr cq0 cq1 cq2 cq3 s0 s1 s2 s3
      have hkeep : ∀ u u' : World, Below u.heap.size u u' → (Below W1.heap.size W1 u ∧ q < u.heap.size ∧ g < u.heap.size ∧ u.cell? ⟨q, 0, none⟩ = some (.int .i64 b.l) ∧ u.cell? ⟨q, 1, none⟩ = some (.int .i64 b.r) ∧ u.cell? ⟨q, 2, none⟩ = some (.int .i64 b.b) ∧ u.cell? ⟨q, 3, none⟩ = some (.int .i64 b.t) ∧ u.cell? ⟨g, i * 4, none⟩ = some (.int .i64 tm.x) ∧ u.cell? ⟨g, i * 4 + 1, none⟩ = some (.int .i64 tm.y) ∧ u.cell? ⟨g, i * 4 + 1 + 1, none⟩ = some (.int .i64 tm.hx) ∧ u.cell? ⟨g, i * 4 + 1 + 1 + 1, none⟩ = some (.int .i64 tm.hy)) → (Below W1.heap.size W1 u' ∧ q < u'.heap.size ∧ g < u'.heap.size ∧ u'.cell? ⟨q, 0, none⟩ = some (.int .i64 b.l) ∧ u'.cell? ⟨q, 1, none⟩ = some (.int .i64 b.r) ∧ u'.cell? ⟨q, 2, none⟩ = some (.int .i64 b.b) ∧ u'.cell? ⟨q, 3, none⟩ = some (.int .i64 b.t) ∧ u'.cell? ⟨g, i * 4, none⟩ = some (.int .i64 tm.x) ∧ u'.cell? ⟨g, i * 4 + 1, none⟩ = some (.int .i64 tm.y) ∧ u'.cell? ⟨g, i * 4 + 1 + 1, none⟩ = some (.int .i64 tm.hx) ∧ u'.cell? ⟨g, i * 4 + 1 + 1 + 1, none⟩ = some (.int .i64 tm.hy)) := by
        rintro u u' hb ⟨hB, l_q, l_g, k0, k1, k2, k3, k4, k5, k6, k7⟩
        exact ⟨hB.trans (hb.mono hB.size), Nat.lt_of_lt_of_le l_q hb.size, Nat.lt_of_lt_of_le l_g hb.size, (hb.cell (p := ⟨q, 0, none⟩) l_q).trans k0, (hb.cell (p := ⟨q, 1, none⟩) l_q).trans k1, (hb.cell (p := ⟨q, 2, none⟩) l_q).trans k2, (hb.cell (p := ⟨q, 3, none⟩) l_q).trans k3, (hb.cell (p := ⟨g, i * 4, none⟩) l_g).trans k4, (hb.cell (p := ⟨g, i * 4 + 1, none⟩) l_g).trans k5, (hb.cell (p := ⟨g, i * 4 + 1 + 1, none⟩) l_g).trans k6, (hb.cell (p := ⟨g, i * 4 + 1 + 1 + 1, none⟩) l_g).trans k7⟩
      (try dsimp only at hS)
      refine wp_region_held_drew (S := (fun w' => Below W1.heap.size W1 w' ∧ q < w'.heap.size ∧ g < w'.heap.size ∧ w'.cell? ⟨q, 0, none⟩ = some (.int .i64 b.l) ∧ w'.cell? ⟨q, 1, none⟩ = some (.int .i64 b.r) ∧ w'.cell? ⟨q, 2, none⟩ = some (.int .i64 b.b) ∧ w'.cell? ⟨q, 3, none⟩ = some (.int .i64 b.t) ∧ w'.cell? ⟨g, i * 4, none⟩ = some (.int .i64 tm.x) ∧ w'.cell? ⟨g, i * 4 + 1, none⟩ = some (.int .i64 tm.y) ∧ w'.cell? ⟨g, i * 4 + 1 + 1, none⟩ = some (.int .i64 tm.hx) ∧ w'.cell? ⟨g, i * 4 + 1 + 1 + 1, none⟩ = some (.int .i64 tm.hy))) (by kernel_rfl) ?_ (fun hHeld0 => ?_)
      · (try dsimp only); (first | (go_keep; done) | (go_split_ands; (repeat' apply And.intro) <;> first | (go_keep; done) | (simp [*, zcA, zcP, zfA, zfP]; done) | (simp [zcA, zcP] <;> rfl) | (simp [*, zsS, zsO, zsA]; done) | ((first | refine (hc _ _ ?_).trans ?_ | refine (hf _ _ ?_).trans ?_) <;> first | assumption | (simp; done) | (simp; omega) | omega | (go_keep; done) | (simp [*, zcA, zcP, zfA, zfP]; done) | (simp [zcA, zcP]; rfl)) | (repeat' first | exact zbR _ _ | assumption | refine zbD ?_ | refine zbA ?_ ?_ _ | refine zbS ?_ ?_ _ | refine zbT ?_ (by assumption) ?_ | (simp; done) | (simp; omega) | omega)))
      refine tL (v := ?_) 0 rfl (by kernel_rfl) (fun _ _ _ h => h) (Or.inl ⟨by rfl, ?_⟩) (by assumption) ?_; rotate_left
      · (intro w hSw; (try dsimp only at hSw); go_simp; try with_reducible rfl)
      try simp only [Act.put, zl, z0, z1]
      refine tL (v := ?_) 1 rfl (by kernel_rfl) (fun _ _ _ h => h) (Or.inl ⟨by rfl, ?_⟩) (by assumption) ?_; rotate_left
      · (intro w hSw; (try dsimp only at hSw); go_simp; try with_reducible rfl)
      try simp only [Act.put, zl, z0, z1]
      refine tL (v := ?_) 2 rfl (by kernel_rfl) (fun _ _ _ h => h) (Or.inl ⟨by rfl, ?_⟩) (by assumption) ?_; rotate_left
      · (intro w hSw; (try dsimp only at hSw); go_simp; try with_reducible rfl)
      try simp only [Act.put, zl, z0, z1]
      refine tL (v := ?_) 3 rfl (by kernel_rfl) (fun _ _ _ h => h) (Or.inl ⟨by rfl, ?_⟩) (by assumption) ?_; rotate_left
      · (intro w hSw; (try dsimp only at hSw); go_simp; try with_reducible rfl)
      try simp only [Act.put, zl, z0, z1]
      refine tL (v := ?_) 4 rfl (by kernel_rfl) (fun _ _ _ h => h) (Or.inl ⟨by rfl, ?_⟩) (by assumption) ?_; rotate_left
      · (intro w hSw; (try dsimp only at hSw); go_simp; try with_reducible rfl)
      try simp only [Act.put, zl, z0, z1]
      refine wpAnyH_ready (rs := [5]) (by kernel_rfl) (by simp) ?_
      refine consL 5 rfl (fun K hK => ?_) AllReadyH.nil
      go_simp
      (go_at_call 21; refine (refTouch_any tm b _ HB.out HTM.out).mono ?_; rintro e w6 ⟨rfl, hb⟩; have hSn := hkeep _ _ hb (by assumption); (try clear hS); have hS := hSn; clear hSn)
      refine hK.out _ _ ?_ (fun hHeld1 => ?_)
      · (try dsimp only); exact hS
      clear hK K hHeld0
      try simp only [Act.put, zl, z0, z1]
      refine wpAnyH_done (by kernel_rfl) ?_ _
      obtain ⟨hB6, _, _, _⟩ := hS
      have HB6 := hide (HB1.out.trans (hB6.mono HB1.out.size))
      clear hkeep hHeld1 hB6
      cases ht : L.touch tm b
      all_goals
        rw [ht] at HNX
        go_wp2_with fail
        go_roundw
        case rel => exact ⟨i + 1, by omega, by go_num, by (first | (rw [HNX.out]; simp; done) | (rw [HNX.out]; go_num)), HB6.out⟩
        case measure => simp [intOf]; omega
    · have hin : i = tl.length := by omega
      subst hin
      have hT := List.take_of_length_le (Nat.le_refl tl.length)
      rw [hT] at hcl ⊢
      obtain ⟨cn, hcn⟩ : ∃ cn, L.cntT b tl = cn := ⟨_, rfl⟩
      obtain ⟨ln, hln⟩ : ∃ ln, tl.length = ln := ⟨_, rfl⟩
      unfold L.callR at HE
      rw [hcn, hln] at HE
      rw [hcn, hln] at hcl
      rw [hcn]
      simp only [hln]
      have HLN := hide hln
      clear hT hcn hln hlen hlt hi
      by_cases e0 : ln = 0
      · rw [if_pos e0] at HE
        subst e0
        go_wp2_with fail
        go_ret
        exact ⟨by rw [← HE.out]; rfl, GB2.out.trans (hB.mono GB2.out.size)⟩
      · rw [if_neg e0] at HE
        have d0 : ((ln : Int) == 0) = false := by simp only [beq_eq_false_iff_ne, ne_eq]; omega
        by_cases e1 : cn = ln
        · rw [if_pos e1] at HE
          subst e1
          go_wp2_with fail
          go_ret
          exact ⟨by rw [← HE.out]; rfl, GB2.out.trans (hB.mono GB2.out.size)⟩
        · rw [if_neg e1] at HE
          have d1 : ((cn : Int) == (ln : Int)) = false := by simp only [beq_eq_false_iff_ne, ne_eq]; omega
          by_cases e2 : cn = 0
          · rw [if_pos e2] at HE
            subst e2
            go_wp2_with fail
            go_ret
            exact ⟨by rw [← HE.out]; rfl, GB2.out.trans (hB.mono GB2.out.size)⟩
          · rw [if_neg e2] at HE
            have d2 : ((cn : Int) == 0) = false := by simp only [beq_eq_false_iff_ne, ne_eq]; omega
            go_wp2_with fail
            go_ret
            exact ⟨by rw [← HE.out]; rfl, GB2.out.trans (hB.mono GB2.out.size)⟩

end Go.Proofs.Ytampfpnkkdihaaa

namespace Go.Proofs.Ytampfpnkkdihaaa
namespace L

structure Ap where
  kind : Int
  side : Int
  said : Int
  v : Vw
  A : Option Addr
  n : Nat
  c : Nat
  b : Bx

structure Rs where
  bad : Bool
  ds : List Int
  l0 : Int
  l1 : Int

def Rs.left (s : Rs) (side : Int) : Int := if side = 0 then s.l0 else s.l1
def askOk (a : Ap) (s : Rs) : Bool := decide (decE a.said a.v a.b = 0) && within a.side 0 1 && !(s.left a.side == 0)
def stepR (each more : Int) (s : Rs) (a : Ap) : Rs :=
  if a.kind = 1 then { s with l0 := each, l1 := each }
  else if a.kind = 2 then { s with l0 := s.l0 + more, l1 := s.l1 + more }
  else if a.kind = 3 then
    if askOk a s then
      { s with ds := s.ds ++ [decV a.said a.v a.b], l0 := if a.side = 0 ∧ decK a.said a.v a.b = false then s.l0 - 1 else s.l0, l1 := if a.side = 1 ∧ decK a.said a.v a.b = false then s.l1 - 1 else s.l1 }
    else { s with bad := true }
  else { s with bad := true }
def runFrom (each more : Int) : Rs → List Ap → Rs
  | s, [] => s
  | s, a :: r => if (stepR each more s a).bad then stepR each more s a else runFrom each more (stepR each more s a) r
def rs0 : Rs := ⟨false, [], 0, 0⟩
def runR (each more : Int) (l : List Ap) : Rs := runFrom each more rs0 l
theorem stepR_bad {each more : Int} {s : Rs} {a : Ap} (h : s.bad = false) : (stepR each more s a).bad = true ∨ (stepR each more s a).bad = false := by
  cases (stepR each more s a).bad <;> simp
theorem runFrom_take {each more : Int} : ∀ {l : List Ap} {i : Nat} {s : Rs} {a : Ap}, l[i]? = some a → (runFrom each more s (l.take i)).bad = false → runFrom each more s (l.take (i + 1)) = stepR each more (runFrom each more s (l.take i)) a
  | [], i, s, a, h, _ => by simp at h
  | b :: r, 0, s, a, h, hb => by
    have e : b = a := Option.some.inj h
    subst e
    show (if (stepR each more s b).bad then stepR each more s b else stepR each more s b) = stepR each more s b
    split <;> rfl
  | b :: r, i + 1, s, a, h, hb => by
    have h' : r[i]? = some a := h
    rw [List.take_succ_cons] at hb ⊢
    rw [List.take_succ_cons]
    simp only [runFrom] at hb ⊢
    cases hs : (stepR each more s b).bad
    · rw [hs] at hb
      simp only [Bool.false_eq_true, if_false] at hb ⊢
      exact runFrom_take h' hb
    · rw [hs] at hb
      simp only [if_true] at hb
      rw [hs] at hb
      cases hb
theorem runFrom_stay {each more : Int} : ∀ {l : List Ap} {i : Nat} {s : Rs}, (runFrom each more s (l.take i)).bad = true → (runFrom each more s l).bad = true
  | [], i, s, h => by simpa using h
  | b :: r, 0, s, h => by
    have h' : s.bad = true := h
    have : (stepR each more s b).bad = true := by
      unfold stepR
      split
      · exact h'
      · split
        · exact h'
        · split
          · split
            · exact h'
            · rfl
          · rfl
    simp only [runFrom, this, if_true]
  | b :: r, i + 1, s, h => by
    rw [List.take_succ_cons] at h
    simp only [runFrom] at h ⊢
    cases hs : (stepR each more s b).bad
    · rw [hs] at h
      simp only [Bool.false_eq_true, if_false] at h ⊢
      exact runFrom_stay h
    · simp [hs]
theorem runFrom_len {each more : Int} : ∀ {l : List Ap} {s : Rs}, (runFrom each more s l).ds.length ≤ s.ds.length + l.length
  | [], s => by simp [runFrom]
  | a :: r, s => by
    have h1 : (stepR each more s a).ds.length ≤ s.ds.length + 1 := by
      unfold stepR
      split
      · simp
      · split
        · simp
        · split
          · split <;> simp
          · simp
    simp only [runFrom]
    split
    · simp only [List.length_cons]; omega
    · have := runFrom_len (l := r) (s := stepR each more s a) (each := each) (more := more)
      simp only [List.length_cons]; omega
structure RsBd (s : Rs) (i : Nat) : Prop where
  a0 : 0 ≤ s.l0
  a1 : s.l0 ≤ 9 + 9 * i
  b0 : 0 ≤ s.l1
  b1 : s.l1 ≤ 9 + 9 * i
theorem stepR_bd {each more : Int} {s : Rs} {a : Ap} {i : Nat} (h : RsBd s i) (h1 : 0 ≤ each) (h2 : each ≤ 9) (h3 : 0 ≤ more) (h4 : more ≤ 9) : RsBd (stepR each more s a) (i + 1) := by
  obtain ⟨a0, a1, b0, b1⟩ := h
  unfold stepR
  split
  · exact ⟨by simp only; omega, by simp only; omega, by simp only; omega, by simp only; omega⟩
  · split
    · exact ⟨by simp only; omega, by simp only; omega, by simp only; omega, by simp only; omega⟩
    · split
      · split
        · rename_i hk
          unfold askOk at hk
          simp only [Bool.and_eq_true, Bool.not_eq_true', beq_eq_false_iff_ne, ne_eq] at hk
          have hl := hk.2
          unfold Rs.left at hl
          refine ⟨?_, ?_, ?_, ?_⟩ <;> simp only
          · split
            · rename_i hs
              rw [if_pos hs.1] at hl
              omega
            · exact a0
          · split <;> omega
          · split
            · rename_i hs
              rw [if_neg (by omega)] at hl
              omega
            · exact b0
          · split <;> omega
        · exact ⟨a0, by simp only; omega, b0, by simp only; omega⟩
      · exact ⟨a0, by simp only; omega, b0, by simp only; omega⟩
def ruleOk (each more : Int) (n : Nat) : Bool := within each 0 9 && within more 0 9 && decide (n ≤ 30)
def runBad (each more : Int) (l : List Ap) : Bool := !ruleOk each more l.length || (runR each more l).bad
def runE (each more : Int) (l : List Ap) : Int := if runBad each more l then 23 else 0
def runD (each more : Int) (l : List Ap) : List Int := if runBad each more l then [] else (runR each more l).ds
def runL (each more : Int) (l : List Ap) : Int × Int := if runBad each more l then (0, 0) else ((runR each more l).l0, (runR each more l).l1)
end L

structure ApAt (w : World) (B b o : Nat) (a : L.Ap) : Prop where
  c0 : w.cell? ⟨b, o, none⟩ = some (.int .i64 a.kind)
  c1 : w.cell? ⟨b, o + 1, none⟩ = some (.int .i64 a.side)
  c2 : w.cell? ⟨b, o + 1 + 1, none⟩ = some (.int .i64 a.said)
  c3 : w.cell? ⟨b, o + 1 + 1 + 1, none⟩ = some (.int .i64 a.v.size)
  c4 : w.cell? ⟨b, o + 1 + 1 + 1 + 1, none⟩ = some (.slice a.A a.n a.c)
  c5 : w.cell? ⟨b, o + 1 + 1 + 1 + 1 + 1, none⟩ = some (.int .i64 a.v.wrong)
  c6 : w.cell? ⟨b, o + 1 + 1 + 1 + 1 + 1 + 1, none⟩ = some (.int .i64 a.v.hxl)
  c7 : w.cell? ⟨b, o + 1 + 1 + 1 + 1 + 1 + 1 + 1, none⟩ = some (.int .i64 a.v.hxh)
  c8 : w.cell? ⟨b, o + 1 + 1 + 1 + 1 + 1 + 1 + 1 + 1, none⟩ = some (.int .i64 a.v.hyl)
  c9 : w.cell? ⟨b, o + 1 + 1 + 1 + 1 + 1 + 1 + 1 + 1 + 1, none⟩ = some (.int .i64 a.v.hyh)
  c10 : w.cell? ⟨b, o + 1 + 1 + 1 + 1 + 1 + 1 + 1 + 1 + 1 + 1, none⟩ = some (.int .i64 a.b.l)
  c11 : w.cell? ⟨b, o + 1 + 1 + 1 + 1 + 1 + 1 + 1 + 1 + 1 + 1 + 1, none⟩ = some (.int .i64 a.b.r)
  c12 : w.cell? ⟨b, o + 1 + 1 + 1 + 1 + 1 + 1 + 1 + 1 + 1 + 1 + 1 + 1, none⟩ = some (.int .i64 a.b.b)
  c13 : w.cell? ⟨b, o + 1 + 1 + 1 + 1 + 1 + 1 + 1 + 1 + 1 + 1 + 1 + 1 + 1, none⟩ = some (.int .i64 a.b.t)
  len : a.v.ss.length = a.n
  rd : RdS w B a.A a.v.ss
  nil : a.A = none → a.c = 0
open Go.RowKit in
theorem ApAt.below {w w' : World} {B b o : Nat} {a : L.Ap} (h : ApAt w B b o a) (hb : b < B) (hw : Below B w w') : ApAt w' B b o a := by
  have k : ∀ {j : Nat} {v : Value}, w.cell? ⟨b, j, none⟩ = some v → w'.cell? ⟨b, j, none⟩ = some v := fun {j v} h => (hw.cell (p := ⟨b, j, none⟩) hb).trans h
  exact ⟨k h.c0, k h.c1, k h.c2, k h.c3, k h.c4, k h.c5, k h.c6, k h.c7, k h.c8, k h.c9, k h.c10, k h.c11, k h.c12, k h.c13, h.len, h.rd.below hw, h.nil⟩
theorem ApAt.mono {w : World} {B B' b o : Nat} {a : L.Ap} (h : ApAt w B b o a) (hB : B ≤ B') : ApAt w B' b o a :=
  ⟨h.c0, h.c1, h.c2, h.c3, h.c4, h.c5, h.c6, h.c7, h.c8, h.c9, h.c10, h.c11, h.c12, h.c13, h.len, h.rd.mono hB, h.nil⟩
def RdA (w : World) (B : Nat) (A : Option Addr) (l : List L.Ap) : Prop :=
  ∀ (k : Nat) (a : L.Ap), l[k]? = some a → ∃ b o : Nat, A = some ⟨b, o, none⟩ ∧ b < B ∧ ApAt w B b (o + k * 14) a
theorem RdA.nil (w : World) (B : Nat) (A : Option Addr) : RdA w B A [] := fun k s h => by simp at h
open Go.RowKit in
theorem RdA.below {w w' : World} {B : Nat} {A : Option Addr} {l : List L.Ap} (h : RdA w B A l) (hb : Below B w w') : RdA w' B A l := fun k a hk => by
  obtain ⟨b, o, hA, hlt, h0⟩ := h k a hk
  exact ⟨b, o, hA, hlt, h0.below hlt hb⟩
theorem RdA.mono {w : World} {B B' : Nat} {A : Option Addr} {l : List L.Ap} (h : RdA w B A l) (hb : B ≤ B') : RdA w B' A l := fun k a hk => by
  obtain ⟨b, o, hA, hlt, h0⟩ := h k a hk
  exact ⟨b, o, hA, Nat.lt_of_lt_of_le hlt hb, h0.mono hb⟩

end Go.Proofs.Ytampfpnkkdihaaa

namespace Go.Proofs.Ytampfpnkkdihaaa
namespace L

def apNew : Ap := ⟨1, 0, 0, ⟨0, [], 0, 0, 0, 0, 0⟩, none, 0, 0, ⟨0, 0, 0, 0⟩⟩
def apTie : Ap := ⟨2, 0, 0, ⟨0, [], 0, 0, 0, 0, 0⟩, none, 0, 0, ⟨0, 0, 0, 0⟩⟩
def rsE (each : Int) : Rs := ⟨false, [], each, each⟩
theorem runFrom_app {each more : Int} : ∀ {l r : List Ap} {s : Rs}, (runFrom each more s l).bad = false → runFrom each more s (l ++ r) = runFrom each more (runFrom each more s l) r
  | [], r, s, _ => rfl
  | a :: l, r, s, h => by
    simp only [runFrom, List.cons_append] at h ⊢
    cases hs : (stepR each more s a).bad
    · rw [hs] at h
      simp only [Bool.false_eq_true, if_false] at h ⊢
      exact runFrom_app h
    · rw [hs] at h
      simp only [if_true] at h
      rw [hs] at h
      cases h
theorem run_new {each more : Int} (l : List Ap) : runR each more (apNew :: l) = runFrom each more (rsE each) l := by
  unfold runR
  simp only [runFrom]
  rfl
structure CountFin (each more : Int) (l : List Ap) (s : Rs) : Prop where
  d : runD each more (apNew :: l) = s.ds
  l0 : (runL each more (apNew :: l)).1 = s.l0
  l1 : (runL each more (apNew :: l)).2 = s.l1
  e : runE each more (apNew :: l) = 0
  d' : runD each more (apNew :: l ++ [apTie]) = s.ds
  l0' : (runL each more (apNew :: l ++ [apTie])).1 = s.l0 + more
  l1' : (runL each more (apNew :: l ++ [apTie])).2 = s.l1 + more
  e' : runE each more (apNew :: l ++ [apTie]) = 0
theorem count_fin {each more : Int} {l : List Ap} {s : Rs} (h1 : within each 0 9 = true) (h2 : within more 0 9 = true) (hl : l.length ≤ 8) (hs : runFrom each more (rsE each) l = s) (hb : s.bad = false) : CountFin each more l s := by
  have r1 : runR each more (apNew :: l) = s := by rw [run_new, hs]
  have r2 : runR each more (apNew :: l ++ [apTie]) = { s with l0 := s.l0 + more, l1 := s.l1 + more } := by
    show runR each more (apNew :: (l ++ [apTie])) = _
    rw [run_new, runFrom_app (by rw [hs]; exact hb), hs]
    simp only [runFrom]
    have : stepR each more s apTie = { s with l0 := s.l0 + more, l1 := s.l1 + more } := rfl
    rw [this]
    split <;> rfl
  have b1 : runBad each more (apNew :: l) = false := by
    unfold runBad ruleOk
    rw [r1, hb, h1, h2, decide_eq_true (by simp only [List.length_cons]; omega)]
    rfl
  have b2 : runBad each more (apNew :: l ++ [apTie]) = false := by
    unfold runBad ruleOk
    rw [r2, h1, h2, decide_eq_true (by simp only [List.length_cons, List.length_append, List.length_nil]; omega)]
    simpa using hb
  refine ⟨?_, ?_, ?_, ?_, ?_, ?_, ?_, ?_⟩
  · unfold runD; rw [b1, r1]; rfl
  · unfold runL; rw [b1, r1]; rfl
  · unfold runL; rw [b1, r1]; rfl
  · unfold runE; rw [b1]; rfl
  · unfold runD; rw [b2, r2]; rfl
  · unfold runL; rw [b2, r2]; rfl
  · unfold runL; rw [b2, r2]; rfl
  · unfold runE; rw [b2]; rfl
theorem step_ask {each more : Int} {s : Rs} {a : Ap} (hk : a.kind = 3) (hv : validB a.v a.b = true) (hs : sure a.said = true) (hside : a.side = 0 ∨ a.side = 1) (hl : s.left a.side ≠ 0) :
    stepR each more s a = { s with ds := s.ds ++ [decV a.said a.v a.b], l0 := if a.side = 0 ∧ decK a.said a.v a.b = false then s.l0 - 1 else s.l0, l1 := if a.side = 1 ∧ decK a.said a.v a.b = false then s.l1 - 1 else s.l1 } := by
  obtain ⟨hvv, hbb, _⟩ := validB_ok hv
  have hc := checkBE_yes hvv hbb
  have hd : decE a.said a.v a.b = 0 := by unfold decE; rw [if_pos hc, hs]; rfl
  have hok : askOk a s = true := by
    unfold askOk
    rw [hd]
    have hw : within a.side 0 1 = true := by rcases hside with h | h <;> rw [h] <;> rfl
    rw [hw]
    simp [hl]
  unfold stepR
  rw [if_neg (by omega), if_neg (by omega), if_pos hk, if_pos hok]
theorem ask_vals {a : Ap} (hv : validB a.v a.b = true) (hs : sure a.said = true) :
    decE a.said a.v a.b = 0 ∧ ((callV a.v a.b = 0 ∧ callE a.v a.b = 3 ∧ decV a.said a.v a.b = a.said ∧ decK a.said a.v a.b = true) ∨ (callV a.v a.b = 3 ∧ callE a.v a.b = 0 ∧ decV a.said a.v a.b = a.said ∧ decK a.said a.v a.b = true) ∨ (callV a.v a.b = 1 ∧ callE a.v a.b = 0 ∧ decV a.said a.v a.b = 1 ∧ decK a.said a.v a.b = ((1 : Int) != a.said)) ∨ (callV a.v a.b = 2 ∧ callE a.v a.b = 0 ∧ decV a.said a.v a.b = 2 ∧ decK a.said a.v a.b = ((2 : Int) != a.said))) := by
  obtain ⟨hvv, hbb, _⟩ := validB_ok hv
  have hc := checkBE_yes hvv hbb
  refine ⟨by unfold decE; rw [if_pos hc, hs]; rfl, ?_⟩
  rw [callV_ok hc, callE_ok hc]
  unfold decV decK
  rw [if_pos hc, if_pos hc, hs]
  obtain ⟨r0, r3⟩ := callOf_rng a.v a.b 0
  have h4 : callOf a.v a.b 0 = 0 ∨ callOf a.v a.b 0 = 1 ∨ callOf a.v a.b 0 = 2 ∨ callOf a.v a.b 0 = 3 := by omega
  rcases h4 with h | h | h | h <;> rw [h]
  · exact .inl ⟨rfl, rfl, rfl, rfl⟩
  · exact .inr (.inr (.inl ⟨rfl, rfl, rfl, rfl⟩))
  · exact .inr (.inr (.inr ⟨rfl, rfl, rfl, rfl⟩))
  · exact .inr (.inl ⟨rfl, rfl, rfl, rfl⟩)
end L
end Go.Proofs.Ytampfpnkkdihaaa

namespace Go.Proofs.Ytampfpnkkdihaaa
open Go

section
variable {P : Program} {ops : Array Oper} {Q : Exit → Act → World → Prop} {md : Region.Mode} {S : World → Prop} {T : Nat}

def wpAnyT (P : Program) (md : Region.Mode) (ops : Array Oper) (Q : Exit → Act → World → Prop) (S : World → Prop) (T : Nat) : Nat → Array Bool → Act → World → Prop
  | 0, listed, a, w => Region.ready md ops listed = [] ∧ Q .normal a w
  | fuel + 1, listed, a, w =>
    (Region.ready md ops listed = [] → Q .normal a w) ∧
    ∀ i ∈ Region.ready md ops listed, wpOp P ops Q i (fun a' w' => (i ≠ T → S w') ∧ wpAnyT P md ops Q S T fuel (listed.setIfInBounds i true) a' w') a w

theorem wpAny_of_T : ∀ (fuel : Nat) (listed : Array Bool) (a : Act) (w : World), wpAnyT P md ops Q S T fuel listed a w → wpAny P md ops Q fuel listed a w
  | 0, _, _, _, h => h
  | fuel + 1, _, _, _, h => ⟨h.1, fun i hi => wpOp_mono (fun a' w' h' => wpAny_of_T fuel _ a' w' h'.2) (h.2 i hi)⟩

def waits (md : Region.Mode) (ops : Array Oper) (T i : Nat) : Bool :=
  match ops[T]? with
  | some o => o.after.any fun e => Region.binds md e && e.on == i
  | none => true

theorem wpAnyT_first {i : Nat} {oi : Oper} {v : Value} (hi : ops[i]? = some oi) (hsel : ∀ (j : Nat) (o : Oper) cs b, ops[j]? = some o → o.op ≠ .select cs b) (hW : waits md ops T i = true)
    (hQ : ∀ c a w, Q (.panic c) (a.put oi.dst v) w → Q (.panic c) a w) :
    ∀ (fuel : Nat) (listed : Array Bool) (a : Act) (w : World),
      (∀ j oj, ops[j]? = some oj → j ≠ i → listed.getD j true = false → (∀ e ∈ oj.after, Region.binds md e = true → e.on ≠ i) → oi.apart ops oj = true) →
      i ∈ Region.ready md ops listed → YieldsIf P ops S oi v a → S w →
      wpAnyT P md ops Q S T fuel (listed.setIfInBounds i true) (a.put oi.dst v) w → wpAnyT P md ops Q S T (fuel + 1) listed a w := by
  intro fuel
  induction fuel with
  | zero =>
    intro listed a w _ hr hy hS H
    refine ⟨fun h => (by rw [h] at hr; cases hr), fun j hj => ?_⟩
    by_cases hji : j = i
    · subst hji; exact hy.wpOp hi hS ⟨fun _ => hS, H⟩
    · have := ready_mono hj hji
      rw [H.1] at this
      cases this
  | succ fuel ih =>
    intro listed a w hfree hr hy hS H
    refine ⟨fun h => (by rw [h] at hr; cases hr), fun j hj => ?_⟩
    by_cases hji : j = i
    · subst hji; exact hy.wpOp hi hS ⟨fun _ => hS, H⟩
    · have h1 := H.2 j (ready_mono hj hji)
      obtain ⟨hjun, oj, hoj, hall⟩ := mem_ready.1 hj
      have hnot : ∀ e ∈ oj.after, Region.binds md e = true → e.on ≠ i := fun e he hb heq => by
        have h1 := hall e he hb
        have h0 := (mem_ready.1 hr).1
        rw [heq] at h1
        rcases Nat.lt_or_ge i listed.size with h' | h'
        · simp [h'] at h0 h1; rw [h0] at h1; cases h1
        · simp [Array.getElem?_eq_none h'] at h1
      have hjT : j ≠ T := fun hjt => by
        subst hjt
        unfold waits at hW
        rw [hoj] at hW
        simp only [Array.any_eq_true'] at hW
        obtain ⟨e, he, hb⟩ := hW
        simp only [Bool.and_eq_true, beq_iff_eq] at hb
        exact hnot e he hb.1 hb.2
      have h2 := wpOp_putIf hoj (hfree j oj hoj hji hjun hnot) (fun cs b => hsel i oi cs b hi) (fun cs b => hsel j oj cs b hoj) hQ hy h1
      have hfree' : ∀ k ok, ops[k]? = some ok → k ≠ i → (listed.setIfInBounds j true).getD k true = false →
          (∀ e ∈ ok.after, Region.binds md e = true → e.on ≠ i) → oi.apart ops ok = true := fun k ok hk hki hun hno => by
        refine hfree k ok hk hki ?_ hno
        by_cases hjk : j = k
        · subst hjk; exact hjun
        · rw [getD_set_ne true hjk] at hun; exact hun
      refine wpOp_mono (fun a' w' h3 => ⟨h3.2.1, ih (listed.setIfInBounds j true) a' w' hfree' (ready_mono hr (Ne.symm hji)) h3.1 (h3.2.1 hjT) ?_⟩) h2
      rw [Array.setIfInBounds_comm _ _ hji]
      exact h3.2.2

def AllReadyT (P : Program) (md : Region.Mode) (ops : Array Oper) (Q : Exit → Act → World → Prop) (S : World → Prop) (T : Nat) (fuel : Nat) (listed : Array Bool) (a : Act) (w : World) (rs : List Nat) : Prop :=
  ∀ i ∈ rs, wpOp P ops Q i (fun a' w' => (i ≠ T → S w') ∧ wpAnyT P md ops Q S T fuel (listed.setIfInBounds i true) a' w') a w
theorem AllReadyT.nil {fuel : Nat} {listed : Array Bool} {a : Act} {w : World} : AllReadyT P md ops Q S T fuel listed a w [] := fun _ h => by cases h
theorem wpAnyT_ready {rs : List Nat} {fuel : Nat} {listed : Array Bool} {a : Act} {w : World} (hr : Region.ready md ops listed = rs) (hne : rs ≠ [])
    (h : AllReadyT P md ops Q S T fuel listed a w rs) : wpAnyT P md ops Q S T (fuel + 1) listed a w :=
  ⟨fun h0 => absurd (hr ▸ h0) hne, hr ▸ h⟩
theorem wpAnyT_done {listed : Array Bool} {a : Act} {w : World} (hr : Region.ready md ops listed = []) (h : Q .normal a w) :
    ∀ fuel, wpAnyT P md ops Q S T fuel listed a w
  | 0 => ⟨hr, h⟩
  | _ + 1 => ⟨fun _ => h, by rw [hr]; simp⟩
theorem wp_region_T_drew {id : Nat} {a : Act} {w : World} (T : Nat) (hm : P.follows .mixedOrders = true) (hS : S w.drew)
    (h : S w.drew → wpAnyT P .any ops Q S T ops.size (Array.replicate ops.size false) a w.drew) : (Code.region id ops true).wp P Q a w :=
  wp_region_any hm (wpAny_of_T _ _ _ _ (h hS))
end

theorem takeT {P : Program} {md : Region.Mode} {l rest : List Oper} {Q : Exit → Act → World → Prop} {S : World → Prop} {T : Nat} {oi : Oper} {v : Value} {fuel : Nat} {listed : Array Bool} {a : Act} {w : World} (i : Nat) (hi : l.drop i = oi :: rest)
    (hW : waits md l.toArray T i = true) (hs : Region.noSelect l.toArray = true) (hf : Region.free md l.toArray listed i = true) (hr : (Region.ready md l.toArray listed).contains i = true)
    (hQ : ∀ c a w, Q (.panic c) (a.put oi.dst v) w → Q (.panic c) a w) (hy : YieldsIf P l.toArray S oi v a) (hS : S w)
    (h : wpAnyT P md l.toArray Q S T fuel (listed.setIfInBounds i true) (a.put oi.dst v) w) : wpAnyT P md l.toArray Q S T (fuel + 1) listed a w :=
  wpAnyT_first (drop_get hi) (Region.noSelect_spec hs) hW hQ fuel listed a w (Region.free_spec (drop_get hi) hf) (by simpa using hr) hy hS h

theorem consT {P : Program} {md : Region.Mode} {l rest : List Oper} {Q : Exit → Act → World → Prop} {S : World → Prop} {T : Nat} {fuel : Nat} {listed : Array Bool} {a : Act} {w : World} {o : Oper} {rs : List Nat} (i : Nat) (ho : l.drop i = o :: rest)
    (h : ∀ K' : Act → World → Prop, Shut (∀ a w, S w → (S w → wpAnyT P md l.toArray Q S T fuel (listed.setIfInBounds i true) a w) → K' a w) → if Region.wanted o (yielded l.toArray a.tmps) = true then Oper.wp P o a w K' Q else K' (a.put o.dst undef) w)
    (hs : AllReadyT P md l.toArray Q S T fuel listed a w rs) : AllReadyT P md l.toArray Q S T fuel listed a w (i :: rs) := fun j hj => by
  rcases List.mem_cons.1 hj with rfl | hj
  · exact wpOp_step (drop_get ho) (fun K' hK => h K' (fun a w hS hW => hK a w ⟨fun _ => hS, hW hS⟩))
  · exact hs j hj

theorem lastT {P : Program} {md : Region.Mode} {l rest : List Oper} {Q : Exit → Act → World → Prop} {S : World → Prop} {T : Nat} {fuel : Nat} {listed : Array Bool} {a : Act} {w : World} {o : Oper} (ho : l.drop T = o :: rest)
    (h : ∀ K' : Act → World → Prop, Shut (∀ a w, wpAnyT P md l.toArray Q S T fuel (listed.setIfInBounds T true) a w → K' a w) → if Region.wanted o (yielded l.toArray a.tmps) = true then Oper.wp P o a w K' Q else K' (a.put o.dst undef) w) :
    AllReadyT P md l.toArray Q S T fuel listed a w [T] := fun j hj => by
  have e : j = T := by simpa using hj
  subst e
  exact wpOp_step (drop_get ho) (fun K' hK => h K' (fun a w hW => hK a w ⟨fun h => absurd rfl h, hW⟩))

end Go.Proofs.Ytampfpnkkdihaaa
