/-
  Contracts: runOfGames.
-/
import Derived.Test.YtlhbimifhclojaaPoints
import Derived.Test.YtlhbimifhclojaaModel
import Derived.Deep.LoopGhost
namespace Go.Proofs.Ytlhbimifhclojaa
open Go.RowKit
attribute [local go_sem ↓] Go.wp_at_zero Go.wp_at_succ

set_option maxHeartbeats 3200000 in
theorem runF_any (f : M.Fm) (p : M.Pr) (s : Int) (n : Nat) (w : World) (hv : M.Valid f) (hp0 : -1000 ≤ p.A ∧ -1000 ≤ p.B) (hp2 : p.A ≤ 1000 ∧ p.B ≤ 1000) (hs0 : 0 ≤ s) (hs1 : s ≤ 1) (hn : n ≤ 10000) (he : M.Enough f s n p) :
    Calls Try.prog 80 #[.agg #[.int .i64 f.sets, .int .i64 f.games, .bool f.noAd, .int .i64 f.tie, .int .i64 f.to, .int .i64 f.lastTie, .int .i64 f.lastTo, .int .i64 f.first, .int .i64 f.next, .bool f.doubles], .agg #[.int .i64 p.A, .int .i64 p.B], .int .i64 s] w fun e w' => e = .returned (.tuple #[.int .i64 (M.runF f s n p).1, .int .i64 (M.runF f s n p).2]) ∧ Below w.heap.size w w' := by
  have HV := hide hv
  have HE := hide he
  have H0 := hide hp0
  have H2 := hide hp2
  have HS := hide (show s = 0 ∨ s = 1 by omega)
  clear hv he hp0 hp2
  go_enter Try.func80, Try.ntmps80
  go_wp2
  go_loopg [6, 7] n (fun m a b wr => m ≤ n ∧ ∃ g : M.Pr, ∃ k c : Int, a = .int .i64 k ∧ b = .int .i64 c ∧ Hid (k = n - m) ∧ 0 ≤ k ∧ k ≤ 10000 ∧ 0 ≤ c ∧ c ≤ 15 * k ∧ Hid (M.runF f s n p = (k + (M.runF f s m g).1, c + (M.runF f s m g).2)) ∧ Hid (M.Enough f s m g) ∧ Hid (-1000 ≤ g.A ∧ -1000 ≤ g.B) ∧ Hid (g.A ≤ 1000 + k ∧ g.B ≤ 1000 + k) ∧ wr.cell? ⟨w.heap.size, 0, none⟩ = some (.int .i64 f.sets) ∧ wr.cell? ⟨w.heap.size, 1, none⟩ = some (.int .i64 f.games) ∧ wr.cell? ⟨w.heap.size, 2, none⟩ = some (.bool f.noAd) ∧ wr.cell? ⟨w.heap.size, 3, none⟩ = some (.int .i64 f.tie) ∧ wr.cell? ⟨w.heap.size, 4, none⟩ = some (.int .i64 f.to) ∧ wr.cell? ⟨w.heap.size, 5, none⟩ = some (.int .i64 f.lastTie) ∧ wr.cell? ⟨w.heap.size, 6, none⟩ = some (.int .i64 f.lastTo) ∧ wr.cell? ⟨w.heap.size, 7, none⟩ = some (.int .i64 f.first) ∧ wr.cell? ⟨w.heap.size, 8, none⟩ = some (.int .i64 f.next) ∧ wr.cell? ⟨w.heap.size, 9, none⟩ = some (.bool f.doubles) ∧ wr.cell? ⟨w.heap.size + 1, 0, none⟩ = some (.int .i64 g.A) ∧ wr.cell? ⟨w.heap.size + 1, 1, none⟩ = some (.int .i64 g.B) ∧ wr.frozen? ⟨w.heap.size + 1, 0, none⟩ = false ∧ wr.frozen? ⟨w.heap.size + 1, 1, none⟩ = false ∧ Below w.heap.size w wr ∧ w.heap.size < wr.heap.size ∧ w.heap.size + 1 < wr.heap.size)
  case atStart => exact ⟨Nat.le_refl _, p, 0, 0, rfl, rfl, hide (by omega), by omega, by omega, by omega, by omega, hide (by simp), HE, H0, hide (by have := H2.out; omega), by (first | (go_keep; done) | (go_split_ands; (repeat' apply And.intro) <;> first | (go_keep; done) | (simp [*, World.cell?_alloc_at, World.cell?_alloc_past, World.frozen?_alloc_at, World.frozen?_alloc_past]; done) | (simp [World.cell?_alloc_at, World.cell?_alloc_past]; done) | (simp [World.cell?_alloc_at, World.cell?_alloc_past]; rfl) | (simp [*, World.cell?_setCell_same', World.cell?_setCell_other, World.cell?_alloc_some]; done) | (refine (hc _ _ (by first | (simp; done) | (simp; omega) | omega)).trans ?_; (first | (go_keep; done) | assumption | (simp [*, World.cell?_alloc_at, World.cell?_alloc_past, World.frozen?_alloc_at, World.frozen?_alloc_past]; done) | (simp [World.cell?_alloc_at, World.cell?_alloc_past]; rfl))) | (refine (hf _ _ (by first | (simp; done) | (simp; omega) | omega)).trans ?_; (first | (go_keep; done) | assumption | (simp [*, World.cell?_alloc_at, World.cell?_alloc_past, World.frozen?_alloc_at, World.frozen?_alloc_past]; done))) | (repeat' first | exact Below.refl _ _ | assumption | refine Below.drew ?_ | refine Below.alloc ?_ ?_ _ | refine Below.setCell ?_ ?_ _ | refine Below.trans ?_ (Below.mono (by assumption) ?_) | (simp; done) | (simp; omega) | omega) | (simp; omega) | omega))⟩
  case round =>
    obtain ⟨hmn, g, k, c, rfl, rfl, hk, hk0, hk1, hc0, hc1, hr, hen, h0, h2, hS0⟩ := hrel
    have hz : M.Small M.zero := ⟨by decide, by decide, by decide, by decide⟩
    have hg : M.Small g := ⟨by have := h0.out; omega, by have := h2.out; omega, by have := h0.out; omega, by have := h2.out; omega⟩
    have hg9 : g.A ≤ 999999 ∧ g.B ≤ 999999 := by have := h2.out; omega
    have HZ := hide hz
    have HG := hide hg
    have HG9 := hide hg9
    clear hz hg hg9
    have hp := M.pts_bd HV.out s g
    have hp1 : 1 ≤ M.pointsOfGame f (M.isTie f g) M.zero s := hp.1
    have hp2 : M.pointsOfGame f (M.isTie f g) M.zero s ≤ 15 := hp.2
    have ew : IntKind.i64.wrap (c + M.pointsOfGame f (M.isTie f g) M.zero s) = c + M.pointsOfGame f (M.isTie f g) M.zero s := IntWalk.i64_in _ (by omega)
    clear hp
    cases he : M.endsSet f g s
    · obtain ⟨m, hm⟩ : ∃ m, gk = m + 1 := by
        cases gk with
        | zero => exact absurd (hen.out.zero HS.out) (by simp [he])
        | succ m => exact ⟨m, rfl⟩
      have hr' := hr.out
      rw [hm, M.runF_on he] at hr'
      have HR := hide hr'
      have HE2 : Hid (M.Enough f s m (M.plus g s)) := hide (by have := hen.out; rw [hm] at this; exact this.next HS.out)
      have HP1 : Hid (-1000 ≤ (M.plus g s).A ∧ -1000 ≤ (M.plus g s).B) := hide (by have := h0.out; unfold M.plus; split <;> (dsimp; omega))
      have HP2 : Hid ((M.plus g s).A ≤ 1000 + (k + 1) ∧ (M.plus g s).B ≤ 1000 + (k + 1)) := hide (by have := h2.out; unfold M.plus; split <;> (dsimp; omega))
      have hk2 : k + 1 ≤ 10000 := by have := hk.out; omega
      have HK : Hid (k + 1 = n - m) := hide (by have := hk.out; omega)
      have hmg : m < gk := by omega
      have hmn' : m ≤ n := by omega
      have HM := hide hm
      clear hr' hm
      go_wp2
      refine wp_region_held_drew (S := (fun w' => w'.cell? ⟨w.heap.size, 0, none⟩ = some (.int .i64 f.sets) ∧ w'.cell? ⟨w.heap.size, 1, none⟩ = some (.int .i64 f.games) ∧ w'.cell? ⟨w.heap.size, 2, none⟩ = some (.bool f.noAd) ∧ w'.cell? ⟨w.heap.size, 3, none⟩ = some (.int .i64 f.tie) ∧ w'.cell? ⟨w.heap.size, 4, none⟩ = some (.int .i64 f.to) ∧ w'.cell? ⟨w.heap.size, 5, none⟩ = some (.int .i64 f.lastTie) ∧ w'.cell? ⟨w.heap.size, 6, none⟩ = some (.int .i64 f.lastTo) ∧ w'.cell? ⟨w.heap.size, 7, none⟩ = some (.int .i64 f.first) ∧ w'.cell? ⟨w.heap.size, 8, none⟩ = some (.int .i64 f.next) ∧ w'.cell? ⟨w.heap.size, 9, none⟩ = some (.bool f.doubles) ∧ w'.cell? ⟨w.heap.size + 1, 0, none⟩ = some (.int .i64 g.A) ∧ w'.cell? ⟨w.heap.size + 1, 1, none⟩ = some (.int .i64 g.B) ∧ w'.frozen? ⟨w.heap.size + 1, 0, none⟩ = false ∧ w'.frozen? ⟨w.heap.size + 1, 1, none⟩ = false ∧ Below w.heap.size w w' ∧ w.heap.size < w'.heap.size ∧ w.heap.size + 1 < w'.heap.size)) (by kernel_rfl) ?_ (fun hHeld0 => ?_)
      · (try dsimp only); (first | (go_keep; done) | (go_split_ands; (repeat' apply And.intro) <;> first | (go_keep; done) | (simp [*, World.cell?_alloc_at, World.cell?_alloc_past, World.frozen?_alloc_at, World.frozen?_alloc_past]; done) | (simp [World.cell?_alloc_at, World.cell?_alloc_past]; done) | (simp [World.cell?_alloc_at, World.cell?_alloc_past]; rfl) | (simp [*, World.cell?_setCell_same', World.cell?_setCell_other, World.cell?_alloc_some]; done) | (refine (hc _ _ (by first | (simp; done) | (simp; omega) | omega)).trans ?_; (first | (go_keep; done) | assumption | (simp [*, World.cell?_alloc_at, World.cell?_alloc_past, World.frozen?_alloc_at, World.frozen?_alloc_past]; done) | (simp [World.cell?_alloc_at, World.cell?_alloc_past]; rfl))) | (refine (hf _ _ (by first | (simp; done) | (simp; omega) | omega)).trans ?_; (first | (go_keep; done) | assumption | (simp [*, World.cell?_alloc_at, World.cell?_alloc_past, World.frozen?_alloc_at, World.frozen?_alloc_past]; done))) | (repeat' first | exact Below.refl _ _ | assumption | refine Below.drew ?_ | refine Below.alloc ?_ ?_ _ | refine Below.setCell ?_ ?_ _ | refine Below.trans ?_ (Below.mono (by assumption) ?_) | (simp; done) | (simp; omega) | omega) | (simp; omega) | omega))
      refine takeL (v := ?_) 0 rfl (by kernel_rfl) (by kernel_rfl) (by kernel_rfl) (fun _ _ _ h => h) (Or.inl ⟨by rfl, ?_⟩) (by assumption) ?_
      rotate_left
      · (intro w hSw; (try dsimp only at hSw); go_simp; try with_reducible rfl)
      try simp only [Act.put, List.setIfInBounds_toArray, List.set_cons_zero, List.set_cons_succ]
      refine takeL (v := ?_) 1 rfl (by kernel_rfl) (by kernel_rfl) (by kernel_rfl) (fun _ _ _ h => h) (Or.inl ⟨by rfl, ?_⟩) (by assumption) ?_
      rotate_left
      · (intro w hSw; (try dsimp only at hSw); go_simp; try with_reducible rfl)
      try simp only [Act.put, List.setIfInBounds_toArray, List.set_cons_zero, List.set_cons_succ]
      refine takeL (v := ?_) 2 rfl (by kernel_rfl) (by kernel_rfl) (by kernel_rfl) (fun _ _ _ h => h) (Or.inl ⟨by rfl, ?_⟩) (by assumption) ?_
      rotate_left
      · (intro w hSw; (try dsimp only at hSw); go_simp; try with_reducible rfl)
      try simp only [Act.put, List.setIfInBounds_toArray, List.set_cons_zero, List.set_cons_succ]
      refine takeL (v := ?_) 3 rfl (by kernel_rfl) (by kernel_rfl) (by kernel_rfl) (fun _ _ _ h => h) (Or.inl ⟨by rfl, ?_⟩) (by assumption) ?_
      rotate_left
      · (intro w hSw; (try dsimp only at hSw); go_simp; try with_reducible rfl)
      try simp only [Act.put, List.setIfInBounds_toArray, List.set_cons_zero, List.set_cons_succ]
      refine takeL (v := ?_) 5 rfl (by kernel_rfl) (by kernel_rfl) (by kernel_rfl) (fun _ _ _ h => h) (Or.inl ⟨by rfl, ?_⟩) (by assumption) ?_
      rotate_left
      · (intro w hSw; (try dsimp only at hSw); go_simp; try with_reducible rfl)
      try simp only [Act.put, List.setIfInBounds_toArray, List.set_cons_zero, List.set_cons_succ]
      refine takeL (v := ?_) 6 rfl (by kernel_rfl) (by kernel_rfl) (by kernel_rfl) (fun _ _ _ h => h) (Or.inl ⟨by rfl, ?_⟩) (by assumption) ?_
      rotate_left
      · (intro w hSw; (try dsimp only at hSw); go_simp; try with_reducible rfl)
      try simp only [Act.put, List.setIfInBounds_toArray, List.set_cons_zero, List.set_cons_succ]
      refine wpAnyH_ready (rs := [4]) (by kernel_rfl) (by simp) ?_
      refine consL 4 rfl (fun K hK => ?_) AllReadyH.nil
      go_simp
      (first | (go_at_call 64; refine (isTie_any f g _).mono ?_; rintro e w' ⟨rfl, hb⟩; obtain ⟨hc, hf⟩ := bcell hb; have hz := hb.size; (try simp at hz)) | (go_at_call 68; refine (pointsOfGame_any f (M.isTie f g) M.zero s _ HV.out HZ.out hs0 hs1).mono ?_; rintro e w' ⟨rfl, hb⟩; obtain ⟨hc, hf⟩ := bcell hb; have hz := hb.size; (try simp at hz)))
      refine hK.out _ _ ?_ (fun hHeld1 => ?_)
      · (try dsimp only); (first | (go_keep; done) | (go_split_ands; (repeat' apply And.intro) <;> first | (go_keep; done) | (simp [*, World.cell?_alloc_at, World.cell?_alloc_past, World.frozen?_alloc_at, World.frozen?_alloc_past]; done) | (simp [World.cell?_alloc_at, World.cell?_alloc_past]; done) | (simp [World.cell?_alloc_at, World.cell?_alloc_past]; rfl) | (simp [*, World.cell?_setCell_same', World.cell?_setCell_other, World.cell?_alloc_some]; done) | (refine (hc _ _ (by first | (simp; done) | (simp; omega) | omega)).trans ?_; (first | (go_keep; done) | assumption | (simp [*, World.cell?_alloc_at, World.cell?_alloc_past, World.frozen?_alloc_at, World.frozen?_alloc_past]; done) | (simp [World.cell?_alloc_at, World.cell?_alloc_past]; rfl))) | (refine (hf _ _ (by first | (simp; done) | (simp; omega) | omega)).trans ?_; (first | (go_keep; done) | assumption | (simp [*, World.cell?_alloc_at, World.cell?_alloc_past, World.frozen?_alloc_at, World.frozen?_alloc_past]; done))) | (repeat' first | exact Below.refl _ _ | assumption | refine Below.drew ?_ | refine Below.alloc ?_ ?_ _ | refine Below.setCell ?_ ?_ _ | refine Below.trans ?_ (Below.mono (by assumption) ?_) | (simp; done) | (simp; omega) | omega) | (simp; omega) | omega))
      clear hK K hHeld0
      try simp only [Act.put, List.setIfInBounds_toArray, List.set_cons_zero, List.set_cons_succ]
      refine wpAnyH_ready (rs := [7]) (by kernel_rfl) (by simp) ?_
      refine consL 7 rfl (fun K hK => ?_) AllReadyH.nil
      go_simp
      (first | (go_at_call 64; refine (isTie_any f g _).mono ?_; rintro e w' ⟨rfl, hb⟩; obtain ⟨hc, hf⟩ := bcell hb; have hz := hb.size; (try simp at hz)) | (go_at_call 68; refine (pointsOfGame_any f (M.isTie f g) M.zero s _ HV.out HZ.out hs0 hs1).mono ?_; rintro e w' ⟨rfl, hb⟩; obtain ⟨hc, hf⟩ := bcell hb; have hz := hb.size; (try simp at hz)))
      refine hK.out _ _ ?_ (fun hHeld2 => ?_)
      · (try dsimp only); (first | (go_keep; done) | (go_split_ands; (repeat' apply And.intro) <;> first | (go_keep; done) | (simp [*, World.cell?_alloc_at, World.cell?_alloc_past, World.frozen?_alloc_at, World.frozen?_alloc_past]; done) | (simp [World.cell?_alloc_at, World.cell?_alloc_past]; done) | (simp [World.cell?_alloc_at, World.cell?_alloc_past]; rfl) | (simp [*, World.cell?_setCell_same', World.cell?_setCell_other, World.cell?_alloc_some]; done) | (refine (hc _ _ (by first | (simp; done) | (simp; omega) | omega)).trans ?_; (first | (go_keep; done) | assumption | (simp [*, World.cell?_alloc_at, World.cell?_alloc_past, World.frozen?_alloc_at, World.frozen?_alloc_past]; done) | (simp [World.cell?_alloc_at, World.cell?_alloc_past]; rfl))) | (refine (hf _ _ (by first | (simp; done) | (simp; omega) | omega)).trans ?_; (first | (go_keep; done) | assumption | (simp [*, World.cell?_alloc_at, World.cell?_alloc_past, World.frozen?_alloc_at, World.frozen?_alloc_past]; done))) | (repeat' first | exact Below.refl _ _ | assumption | refine Below.drew ?_ | refine Below.alloc ?_ ?_ _ | refine Below.setCell ?_ ?_ _ | refine Below.trans ?_ (Below.mono (by assumption) ?_) | (simp; done) | (simp; omega) | omega) | (simp; omega) | omega))
      clear hK K hHeld1
      try simp only [Act.put, List.setIfInBounds_toArray, List.set_cons_zero, List.set_cons_succ]
      refine takeL (v := ?_) 8 rfl (by kernel_rfl) (by kernel_rfl) (by kernel_rfl) (fun _ _ _ h => h) (Or.inl ⟨by rfl, ?_⟩) (by assumption) ?_
      rotate_left
      · (intro w hSw; (try dsimp only at hSw); go_simp; try with_reducible rfl)
      try simp only [Act.put, List.setIfInBounds_toArray, List.set_cons_zero, List.set_cons_succ]
      refine takeL (v := ?_) 9 rfl (by kernel_rfl) (by kernel_rfl) (by kernel_rfl) (fun _ _ _ h => h) (Or.inl ⟨by rfl, ?_⟩) (by assumption) ?_
      rotate_left
      · (intro w hSw; (try dsimp only at hSw); go_simp; try with_reducible rfl)
      try simp only [Act.put, List.setIfInBounds_toArray, List.set_cons_zero, List.set_cons_succ]
      refine wpAnyH_done (by kernel_rfl) ?_ _
      go_wp2_with (first | (go_at_call 69; refine (endsSet_any f g _ _ HG.out HG9.out).mono ?_; rintro e w4 ⟨rfl, hb⟩; obtain ⟨hc, hf⟩ := bcell hb; have hz := hb.size; (try simp at hz); have hSn : ((fun w' => w'.cell? ⟨w.heap.size, 0, none⟩ = some (.int .i64 f.sets) ∧ w'.cell? ⟨w.heap.size, 1, none⟩ = some (.int .i64 f.games) ∧ w'.cell? ⟨w.heap.size, 2, none⟩ = some (.bool f.noAd) ∧ w'.cell? ⟨w.heap.size, 3, none⟩ = some (.int .i64 f.tie) ∧ w'.cell? ⟨w.heap.size, 4, none⟩ = some (.int .i64 f.to) ∧ w'.cell? ⟨w.heap.size, 5, none⟩ = some (.int .i64 f.lastTie) ∧ w'.cell? ⟨w.heap.size, 6, none⟩ = some (.int .i64 f.lastTo) ∧ w'.cell? ⟨w.heap.size, 7, none⟩ = some (.int .i64 f.first) ∧ w'.cell? ⟨w.heap.size, 8, none⟩ = some (.int .i64 f.next) ∧ w'.cell? ⟨w.heap.size, 9, none⟩ = some (.bool f.doubles) ∧ w'.cell? ⟨w.heap.size + 1, 0, none⟩ = some (.int .i64 g.A) ∧ w'.cell? ⟨w.heap.size + 1, 1, none⟩ = some (.int .i64 g.B) ∧ w'.frozen? ⟨w.heap.size + 1, 0, none⟩ = false ∧ w'.frozen? ⟨w.heap.size + 1, 1, none⟩ = false ∧ Below w.heap.size w w' ∧ w.heap.size < w'.heap.size ∧ w.heap.size + 1 < w'.heap.size)) w4 := (by (try dsimp only); (first | (go_keep; done) | (go_split_ands; (repeat' apply And.intro) <;> first | (go_keep; done) | (simp [*, World.cell?_alloc_at, World.cell?_alloc_past, World.frozen?_alloc_at, World.frozen?_alloc_past]; done) | (simp [World.cell?_alloc_at, World.cell?_alloc_past]; done) | (simp [World.cell?_alloc_at, World.cell?_alloc_past]; rfl) | (simp [*, World.cell?_setCell_same', World.cell?_setCell_other, World.cell?_alloc_some]; done) | (refine (hc _ _ (by first | (simp; done) | (simp; omega) | omega)).trans ?_; (first | (go_keep; done) | assumption | (simp [*, World.cell?_alloc_at, World.cell?_alloc_past, World.frozen?_alloc_at, World.frozen?_alloc_past]; done) | (simp [World.cell?_alloc_at, World.cell?_alloc_past]; rfl))) | (refine (hf _ _ (by first | (simp; done) | (simp; omega) | omega)).trans ?_; (first | (go_keep; done) | assumption | (simp [*, World.cell?_alloc_at, World.cell?_alloc_past, World.frozen?_alloc_at, World.frozen?_alloc_past]; done))) | (repeat' first | exact Below.refl _ _ | assumption | refine Below.drew ?_ | refine Below.alloc ?_ ?_ _ | refine Below.setCell ?_ ?_ _ | refine Below.trans ?_ (Below.mono (by assumption) ?_) | (simp; done) | (simp; omega) | omega) | (simp; omega) | omega))); (try dsimp only at hSn); (try clear hS); have hS := hSn; clear hSn hc hf) | (go_at_call 55; refine (plus_any g s _ HG.out).mono ?_; rintro e w5 ⟨rfl, hb⟩; obtain ⟨hc, hf⟩ := bcell hb; have hz := hb.size; (try simp at hz); have hSn : ((fun w' => w'.cell? ⟨w.heap.size, 0, none⟩ = some (.int .i64 f.sets) ∧ w'.cell? ⟨w.heap.size, 1, none⟩ = some (.int .i64 f.games) ∧ w'.cell? ⟨w.heap.size, 2, none⟩ = some (.bool f.noAd) ∧ w'.cell? ⟨w.heap.size, 3, none⟩ = some (.int .i64 f.tie) ∧ w'.cell? ⟨w.heap.size, 4, none⟩ = some (.int .i64 f.to) ∧ w'.cell? ⟨w.heap.size, 5, none⟩ = some (.int .i64 f.lastTie) ∧ w'.cell? ⟨w.heap.size, 6, none⟩ = some (.int .i64 f.lastTo) ∧ w'.cell? ⟨w.heap.size, 7, none⟩ = some (.int .i64 f.first) ∧ w'.cell? ⟨w.heap.size, 8, none⟩ = some (.int .i64 f.next) ∧ w'.cell? ⟨w.heap.size, 9, none⟩ = some (.bool f.doubles) ∧ w'.cell? ⟨w.heap.size + 1, 0, none⟩ = some (.int .i64 g.A) ∧ w'.cell? ⟨w.heap.size + 1, 1, none⟩ = some (.int .i64 g.B) ∧ w'.frozen? ⟨w.heap.size + 1, 0, none⟩ = false ∧ w'.frozen? ⟨w.heap.size + 1, 1, none⟩ = false ∧ Below w.heap.size w w' ∧ w.heap.size < w'.heap.size ∧ w.heap.size + 1 < w'.heap.size)) w5 := (by (try dsimp only); (first | (go_keep; done) | (go_split_ands; (repeat' apply And.intro) <;> first | (go_keep; done) | (simp [*, World.cell?_alloc_at, World.cell?_alloc_past, World.frozen?_alloc_at, World.frozen?_alloc_past]; done) | (simp [World.cell?_alloc_at, World.cell?_alloc_past]; done) | (simp [World.cell?_alloc_at, World.cell?_alloc_past]; rfl) | (simp [*, World.cell?_setCell_same', World.cell?_setCell_other, World.cell?_alloc_some]; done) | (refine (hc _ _ (by first | (simp; done) | (simp; omega) | omega)).trans ?_; (first | (go_keep; done) | assumption | (simp [*, World.cell?_alloc_at, World.cell?_alloc_past, World.frozen?_alloc_at, World.frozen?_alloc_past]; done) | (simp [World.cell?_alloc_at, World.cell?_alloc_past]; rfl))) | (refine (hf _ _ (by first | (simp; done) | (simp; omega) | omega)).trans ?_; (first | (go_keep; done) | assumption | (simp [*, World.cell?_alloc_at, World.cell?_alloc_past, World.frozen?_alloc_at, World.frozen?_alloc_past]; done))) | (repeat' first | exact Below.refl _ _ | assumption | refine Below.drew ?_ | refine Below.alloc ?_ ?_ _ | refine Below.setCell ?_ ?_ _ | refine Below.trans ?_ (Below.mono (by assumption) ?_) | (simp; done) | (simp; omega) | omega) | (simp; omega) | omega))); (try dsimp only at hSn); (try clear hS); have hS := hSn; clear hSn hc hf))
      go_roundg m
      case measure => exact hmg
      case rel => exact ⟨hmn', M.plus g s, k + 1, c + M.pointsOfGame f (M.isTie f g) M.zero s, rfl, rfl, HK, by omega, hk2, by omega, by omega, hide (by rw [HR.out]; simp only [M.pts, Int.add_assoc]), HE2, HP1, HP2, by (first | (go_keep; done) | (go_split_ands; (repeat' apply And.intro) <;> first | (go_keep; done) | (simp [*, World.cell?_alloc_at, World.cell?_alloc_past, World.frozen?_alloc_at, World.frozen?_alloc_past]; done) | (simp [World.cell?_alloc_at, World.cell?_alloc_past]; done) | (simp [World.cell?_alloc_at, World.cell?_alloc_past]; rfl) | (simp [*, World.cell?_setCell_same', World.cell?_setCell_other, World.cell?_alloc_some]; done) | (refine (hc _ _ (by first | (simp; done) | (simp; omega) | omega)).trans ?_; (first | (go_keep; done) | assumption | (simp [*, World.cell?_alloc_at, World.cell?_alloc_past, World.frozen?_alloc_at, World.frozen?_alloc_past]; done) | (simp [World.cell?_alloc_at, World.cell?_alloc_past]; rfl))) | (refine (hf _ _ (by first | (simp; done) | (simp; omega) | omega)).trans ?_; (first | (go_keep; done) | assumption | (simp [*, World.cell?_alloc_at, World.cell?_alloc_past, World.frozen?_alloc_at, World.frozen?_alloc_past]; done))) | (repeat' first | exact Below.refl _ _ | assumption | refine Below.drew ?_ | refine Below.alloc ?_ ?_ _ | refine Below.setCell ?_ ?_ _ | refine Below.trans ?_ (Below.mono (by assumption) ?_) | (simp; done) | (simp; omega) | omega) | (simp; omega) | omega))⟩
    · have hr' := hr.out
      rw [M.runF_end he] at hr'
      have HR := hide hr'
      clear hr'
      go_wp2
      refine wp_region_held_drew (S := (fun w' => w'.cell? ⟨w.heap.size, 0, none⟩ = some (.int .i64 f.sets) ∧ w'.cell? ⟨w.heap.size, 1, none⟩ = some (.int .i64 f.games) ∧ w'.cell? ⟨w.heap.size, 2, none⟩ = some (.bool f.noAd) ∧ w'.cell? ⟨w.heap.size, 3, none⟩ = some (.int .i64 f.tie) ∧ w'.cell? ⟨w.heap.size, 4, none⟩ = some (.int .i64 f.to) ∧ w'.cell? ⟨w.heap.size, 5, none⟩ = some (.int .i64 f.lastTie) ∧ w'.cell? ⟨w.heap.size, 6, none⟩ = some (.int .i64 f.lastTo) ∧ w'.cell? ⟨w.heap.size, 7, none⟩ = some (.int .i64 f.first) ∧ w'.cell? ⟨w.heap.size, 8, none⟩ = some (.int .i64 f.next) ∧ w'.cell? ⟨w.heap.size, 9, none⟩ = some (.bool f.doubles) ∧ w'.cell? ⟨w.heap.size + 1, 0, none⟩ = some (.int .i64 g.A) ∧ w'.cell? ⟨w.heap.size + 1, 1, none⟩ = some (.int .i64 g.B) ∧ w'.frozen? ⟨w.heap.size + 1, 0, none⟩ = false ∧ w'.frozen? ⟨w.heap.size + 1, 1, none⟩ = false ∧ Below w.heap.size w w' ∧ w.heap.size < w'.heap.size ∧ w.heap.size + 1 < w'.heap.size)) (by kernel_rfl) ?_ (fun hHeld0 => ?_)
      · (try dsimp only); (first | (go_keep; done) | (go_split_ands; (repeat' apply And.intro) <;> first | (go_keep; done) | (simp [*, World.cell?_alloc_at, World.cell?_alloc_past, World.frozen?_alloc_at, World.frozen?_alloc_past]; done) | (simp [World.cell?_alloc_at, World.cell?_alloc_past]; done) | (simp [World.cell?_alloc_at, World.cell?_alloc_past]; rfl) | (simp [*, World.cell?_setCell_same', World.cell?_setCell_other, World.cell?_alloc_some]; done) | (refine (hc _ _ (by first | (simp; done) | (simp; omega) | omega)).trans ?_; (first | (go_keep; done) | assumption | (simp [*, World.cell?_alloc_at, World.cell?_alloc_past, World.frozen?_alloc_at, World.frozen?_alloc_past]; done) | (simp [World.cell?_alloc_at, World.cell?_alloc_past]; rfl))) | (refine (hf _ _ (by first | (simp; done) | (simp; omega) | omega)).trans ?_; (first | (go_keep; done) | assumption | (simp [*, World.cell?_alloc_at, World.cell?_alloc_past, World.frozen?_alloc_at, World.frozen?_alloc_past]; done))) | (repeat' first | exact Below.refl _ _ | assumption | refine Below.drew ?_ | refine Below.alloc ?_ ?_ _ | refine Below.setCell ?_ ?_ _ | refine Below.trans ?_ (Below.mono (by assumption) ?_) | (simp; done) | (simp; omega) | omega) | (simp; omega) | omega))
      refine takeL (v := ?_) 0 rfl (by kernel_rfl) (by kernel_rfl) (by kernel_rfl) (fun _ _ _ h => h) (Or.inl ⟨by rfl, ?_⟩) (by assumption) ?_
      rotate_left
      · (intro w hSw; (try dsimp only at hSw); go_simp; try with_reducible rfl)
      try simp only [Act.put, List.setIfInBounds_toArray, List.set_cons_zero, List.set_cons_succ]
      refine takeL (v := ?_) 1 rfl (by kernel_rfl) (by kernel_rfl) (by kernel_rfl) (fun _ _ _ h => h) (Or.inl ⟨by rfl, ?_⟩) (by assumption) ?_
      rotate_left
      · (intro w hSw; (try dsimp only at hSw); go_simp; try with_reducible rfl)
      try simp only [Act.put, List.setIfInBounds_toArray, List.set_cons_zero, List.set_cons_succ]
      refine takeL (v := ?_) 2 rfl (by kernel_rfl) (by kernel_rfl) (by kernel_rfl) (fun _ _ _ h => h) (Or.inl ⟨by rfl, ?_⟩) (by assumption) ?_
      rotate_left
      · (intro w hSw; (try dsimp only at hSw); go_simp; try with_reducible rfl)
      try simp only [Act.put, List.setIfInBounds_toArray, List.set_cons_zero, List.set_cons_succ]
      refine takeL (v := ?_) 3 rfl (by kernel_rfl) (by kernel_rfl) (by kernel_rfl) (fun _ _ _ h => h) (Or.inl ⟨by rfl, ?_⟩) (by assumption) ?_
      rotate_left
      · (intro w hSw; (try dsimp only at hSw); go_simp; try with_reducible rfl)
      try simp only [Act.put, List.setIfInBounds_toArray, List.set_cons_zero, List.set_cons_succ]
      refine takeL (v := ?_) 5 rfl (by kernel_rfl) (by kernel_rfl) (by kernel_rfl) (fun _ _ _ h => h) (Or.inl ⟨by rfl, ?_⟩) (by assumption) ?_
      rotate_left
      · (intro w hSw; (try dsimp only at hSw); go_simp; try with_reducible rfl)
      try simp only [Act.put, List.setIfInBounds_toArray, List.set_cons_zero, List.set_cons_succ]
      refine takeL (v := ?_) 6 rfl (by kernel_rfl) (by kernel_rfl) (by kernel_rfl) (fun _ _ _ h => h) (Or.inl ⟨by rfl, ?_⟩) (by assumption) ?_
      rotate_left
      · (intro w hSw; (try dsimp only at hSw); go_simp; try with_reducible rfl)
      try simp only [Act.put, List.setIfInBounds_toArray, List.set_cons_zero, List.set_cons_succ]
      refine wpAnyH_ready (rs := [4]) (by kernel_rfl) (by simp) ?_
      refine consL 4 rfl (fun K hK => ?_) AllReadyH.nil
      go_simp
      (first | (go_at_call 64; refine (isTie_any f g _).mono ?_; rintro e w' ⟨rfl, hb⟩; obtain ⟨hc, hf⟩ := bcell hb; have hz := hb.size; (try simp at hz)) | (go_at_call 68; refine (pointsOfGame_any f (M.isTie f g) M.zero s _ HV.out HZ.out hs0 hs1).mono ?_; rintro e w' ⟨rfl, hb⟩; obtain ⟨hc, hf⟩ := bcell hb; have hz := hb.size; (try simp at hz)))
      refine hK.out _ _ ?_ (fun hHeld1 => ?_)
      · (try dsimp only); (first | (go_keep; done) | (go_split_ands; (repeat' apply And.intro) <;> first | (go_keep; done) | (simp [*, World.cell?_alloc_at, World.cell?_alloc_past, World.frozen?_alloc_at, World.frozen?_alloc_past]; done) | (simp [World.cell?_alloc_at, World.cell?_alloc_past]; done) | (simp [World.cell?_alloc_at, World.cell?_alloc_past]; rfl) | (simp [*, World.cell?_setCell_same', World.cell?_setCell_other, World.cell?_alloc_some]; done) | (refine (hc _ _ (by first | (simp; done) | (simp; omega) | omega)).trans ?_; (first | (go_keep; done) | assumption | (simp [*, World.cell?_alloc_at, World.cell?_alloc_past, World.frozen?_alloc_at, World.frozen?_alloc_past]; done) | (simp [World.cell?_alloc_at, World.cell?_alloc_past]; rfl))) | (refine (hf _ _ (by first | (simp; done) | (simp; omega) | omega)).trans ?_; (first | (go_keep; done) | assumption | (simp [*, World.cell?_alloc_at, World.cell?_alloc_past, World.frozen?_alloc_at, World.frozen?_alloc_past]; done))) | (repeat' first | exact Below.refl _ _ | assumption | refine Below.drew ?_ | refine Below.alloc ?_ ?_ _ | refine Below.setCell ?_ ?_ _ | refine Below.trans ?_ (Below.mono (by assumption) ?_) | (simp; done) | (simp; omega) | omega) | (simp; omega) | omega))
      clear hK K hHeld0
      try simp only [Act.put, List.setIfInBounds_toArray, List.set_cons_zero, List.set_cons_succ]
      refine wpAnyH_ready (rs := [7]) (by kernel_rfl) (by simp) ?_
      refine consL 7 rfl (fun K hK => ?_) AllReadyH.nil
      go_simp
      (first | (go_at_call 64; refine (isTie_any f g _).mono ?_; rintro e w' ⟨rfl, hb⟩; obtain ⟨hc, hf⟩ := bcell hb; have hz := hb.size; (try simp at hz)) | (go_at_call 68; refine (pointsOfGame_any f (M.isTie f g) M.zero s _ HV.out HZ.out hs0 hs1).mono ?_; rintro e w' ⟨rfl, hb⟩; obtain ⟨hc, hf⟩ := bcell hb; have hz := hb.size; (try simp at hz)))
      refine hK.out _ _ ?_ (fun hHeld2 => ?_)
      · (try dsimp only); (first | (go_keep; done) | (go_split_ands; (repeat' apply And.intro) <;> first | (go_keep; done) | (simp [*, World.cell?_alloc_at, World.cell?_alloc_past, World.frozen?_alloc_at, World.frozen?_alloc_past]; done) | (simp [World.cell?_alloc_at, World.cell?_alloc_past]; done) | (simp [World.cell?_alloc_at, World.cell?_alloc_past]; rfl) | (simp [*, World.cell?_setCell_same', World.cell?_setCell_other, World.cell?_alloc_some]; done) | (refine (hc _ _ (by first | (simp; done) | (simp; omega) | omega)).trans ?_; (first | (go_keep; done) | assumption | (simp [*, World.cell?_alloc_at, World.cell?_alloc_past, World.frozen?_alloc_at, World.frozen?_alloc_past]; done) | (simp [World.cell?_alloc_at, World.cell?_alloc_past]; rfl))) | (refine (hf _ _ (by first | (simp; done) | (simp; omega) | omega)).trans ?_; (first | (go_keep; done) | assumption | (simp [*, World.cell?_alloc_at, World.cell?_alloc_past, World.frozen?_alloc_at, World.frozen?_alloc_past]; done))) | (repeat' first | exact Below.refl _ _ | assumption | refine Below.drew ?_ | refine Below.alloc ?_ ?_ _ | refine Below.setCell ?_ ?_ _ | refine Below.trans ?_ (Below.mono (by assumption) ?_) | (simp; done) | (simp; omega) | omega) | (simp; omega) | omega))
      clear hK K hHeld1
      try simp only [Act.put, List.setIfInBounds_toArray, List.set_cons_zero, List.set_cons_succ]
      refine takeL (v := ?_) 8 rfl (by kernel_rfl) (by kernel_rfl) (by kernel_rfl) (fun _ _ _ h => h) (Or.inl ⟨by rfl, ?_⟩) (by assumption) ?_
      rotate_left
      · (intro w hSw; (try dsimp only at hSw); go_simp; try with_reducible rfl)
      try simp only [Act.put, List.setIfInBounds_toArray, List.set_cons_zero, List.set_cons_succ]
      refine takeL (v := ?_) 9 rfl (by kernel_rfl) (by kernel_rfl) (by kernel_rfl) (fun _ _ _ h => h) (Or.inl ⟨by rfl, ?_⟩) (by assumption) ?_
      rotate_left
      · (intro w hSw; (try dsimp only at hSw); go_simp; try with_reducible rfl)
      try simp only [Act.put, List.setIfInBounds_toArray, List.set_cons_zero, List.set_cons_succ]
      refine wpAnyH_done (by kernel_rfl) ?_ _
      go_wp2_with (first | (go_at_call 69; refine (endsSet_any f g _ _ HG.out HG9.out).mono ?_; rintro e w4 ⟨rfl, hb⟩; obtain ⟨hc, hf⟩ := bcell hb; have hz := hb.size; (try simp at hz); have hSn : ((fun w' => w'.cell? ⟨w.heap.size, 0, none⟩ = some (.int .i64 f.sets) ∧ w'.cell? ⟨w.heap.size, 1, none⟩ = some (.int .i64 f.games) ∧ w'.cell? ⟨w.heap.size, 2, none⟩ = some (.bool f.noAd) ∧ w'.cell? ⟨w.heap.size, 3, none⟩ = some (.int .i64 f.tie) ∧ w'.cell? ⟨w.heap.size, 4, none⟩ = some (.int .i64 f.to) ∧ w'.cell? ⟨w.heap.size, 5, none⟩ = some (.int .i64 f.lastTie) ∧ w'.cell? ⟨w.heap.size, 6, none⟩ = some (.int .i64 f.lastTo) ∧ w'.cell? ⟨w.heap.size, 7, none⟩ = some (.int .i64 f.first) ∧ w'.cell? ⟨w.heap.size, 8, none⟩ = some (.int .i64 f.next) ∧ w'.cell? ⟨w.heap.size, 9, none⟩ = some (.bool f.doubles) ∧ w'.cell? ⟨w.heap.size + 1, 0, none⟩ = some (.int .i64 g.A) ∧ w'.cell? ⟨w.heap.size + 1, 1, none⟩ = some (.int .i64 g.B) ∧ w'.frozen? ⟨w.heap.size + 1, 0, none⟩ = false ∧ w'.frozen? ⟨w.heap.size + 1, 1, none⟩ = false ∧ Below w.heap.size w w' ∧ w.heap.size < w'.heap.size ∧ w.heap.size + 1 < w'.heap.size)) w4 := (by (try dsimp only); (first | (go_keep; done) | (go_split_ands; (repeat' apply And.intro) <;> first | (go_keep; done) | (simp [*, World.cell?_alloc_at, World.cell?_alloc_past, World.frozen?_alloc_at, World.frozen?_alloc_past]; done) | (simp [World.cell?_alloc_at, World.cell?_alloc_past]; done) | (simp [World.cell?_alloc_at, World.cell?_alloc_past]; rfl) | (simp [*, World.cell?_setCell_same', World.cell?_setCell_other, World.cell?_alloc_some]; done) | (refine (hc _ _ (by first | (simp; done) | (simp; omega) | omega)).trans ?_; (first | (go_keep; done) | assumption | (simp [*, World.cell?_alloc_at, World.cell?_alloc_past, World.frozen?_alloc_at, World.frozen?_alloc_past]; done) | (simp [World.cell?_alloc_at, World.cell?_alloc_past]; rfl))) | (refine (hf _ _ (by first | (simp; done) | (simp; omega) | omega)).trans ?_; (first | (go_keep; done) | assumption | (simp [*, World.cell?_alloc_at, World.cell?_alloc_past, World.frozen?_alloc_at, World.frozen?_alloc_past]; done))) | (repeat' first | exact Below.refl _ _ | assumption | refine Below.drew ?_ | refine Below.alloc ?_ ?_ _ | refine Below.setCell ?_ ?_ _ | refine Below.trans ?_ (Below.mono (by assumption) ?_) | (simp; done) | (simp; omega) | omega) | (simp; omega) | omega))); (try dsimp only at hSn); (try clear hS); have hS := hSn; clear hSn hc hf))
      go_ret2
      exact ⟨by rw [HR.out]; rfl, by (go_split_ands; (repeat' first | exact Below.refl _ _ | assumption | refine Below.drew ?_ | refine Below.alloc ?_ ?_ _ | refine Below.setCell ?_ ?_ _ | refine Below.trans ?_ (Below.mono (by assumption) ?_) | (simp; done) | (simp; omega) | omega))⟩

end Go.Proofs.Ytlhbimifhclojaa
