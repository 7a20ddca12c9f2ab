/-
  Contracts: point.
-/
import Derived.Test.YtlhbimifhclojaaEndGame
import Derived.Test.YtlhbimifhclojaaEnds
namespace Go.Proofs.Ytlhbimifhclojaa
open Go.RowKit
attribute [local go_sem ↓] Go.wp_at_zero Go.wp_at_succ

structure M.Ok (m : M.Mt) (k : Nat) : Prop where
  v : M.Valid m.f
  log : m.log.length ≤ k
  sets : m.sets.length ≤ k
  op : 0 ≤ m.opens ∧ m.opens ≤ 1
  balls : 0 ≤ m.balls ∧ m.balls ≤ k
  ends : 0 ≤ m.ends ∧ m.ends ≤ k
  games : 0 ≤ m.games.A ∧ 0 ≤ m.games.B ∧ m.games.A ≤ k ∧ m.games.B ≤ k
  pts : 0 ≤ m.pts.A ∧ 0 ≤ m.pts.B ∧ m.pts.A ≤ k ∧ m.pts.B ≤ k
  won : 0 ≤ m.won.A ∧ 0 ≤ m.won.B ∧ m.won.A ≤ k ∧ m.won.B ≤ k
theorem small_of {p : M.Pr} {k : Nat} (h : 0 ≤ p.A ∧ 0 ≤ p.B ∧ p.A ≤ k ∧ p.B ≤ k) (hk : k ≤ 10000) : M.Small p := ⟨by omega, by omega, by omega, by omega⟩
theorem plus_le {p : M.Pr} {k : Nat} (side : Int) (h : 0 ≤ p.A ∧ 0 ≤ p.B ∧ p.A ≤ k ∧ p.B ≤ k) : 0 ≤ (M.plus p side).A ∧ 0 ≤ (M.plus p side).B ∧ (M.plus p side).A ≤ (k + 1 : Nat) ∧ (M.plus p side).B ≤ (k + 1 : Nat) := by
  unfold M.plus
  split <;> (dsimp only; omega)

def BoxAt (w : World) (q : Nat) (f : M.Fm) : Prop := w.cell? ⟨q, 0, none⟩ = some (.int .i64 f.sets) ∧ w.cell? ⟨q, 1, none⟩ = some (.int .i64 f.games) ∧ w.cell? ⟨q, 2, none⟩ = some (.bool f.noAd) ∧ w.cell? ⟨q, 3, none⟩ = some (.int .i64 f.tie) ∧ w.cell? ⟨q, 4, none⟩ = some (.int .i64 f.to) ∧ w.cell? ⟨q, 5, none⟩ = some (.int .i64 f.lastTie) ∧ w.cell? ⟨q, 6, none⟩ = some (.int .i64 f.lastTo) ∧ w.cell? ⟨q, 7, none⟩ = some (.int .i64 f.first) ∧ w.cell? ⟨q, 8, none⟩ = some (.int .i64 f.next) ∧ w.cell? ⟨q, 9, none⟩ = some (.bool f.doubles)
theorem BoxAt.below {w w' : World} {q : Nat} {f : M.Fm} (h : BoxAt w q f) (hb : Below w.heap.size w w') (hq : q < w.heap.size) : BoxAt w' q f := by
  have hc := (bcell hb).1
  unfold BoxAt at *
  simpa only [hc _ _ hq] using h
theorem BoxAt.set {w : World} {q b : Nat} {f : M.Fm} (h : BoxAt w q f) (hne : b ≠ q) (i : Nat) (u : Value) : BoxAt (w.setCell ⟨b, i, none⟩ u) q f := by
  have hc : ∀ j, (w.setCell ⟨b, i, none⟩ u).cell? ⟨q, j, none⟩ = w.cell? ⟨q, j, none⟩ := fun j => World.cell?_setCell_far _ _ _ _ hne
  unfold BoxAt at *
  simpa only [hc] using h

theorem point_end {m : M.Mt} {side : Int} (h : M.endsGame (M.ofSet m.f m.won) (M.isTie (M.ofSet m.f m.won) m.games) (M.plus m.pts side) side = true) : M.point m side = M.endGame { m with pts := M.plus m.pts side } side := if_pos h
theorem point_not {m : M.Mt} {side : Int} (h : M.endsGame (M.ofSet m.f m.won) (M.isTie (M.ofSet m.f m.won) m.games) (M.plus m.pts side) side = false) (ht : M.isTie (M.ofSet m.f m.won) m.games = false) : M.point m side = { m with pts := M.plus m.pts side } :=
  (if_neg (fun h' => by rw [h] at h'; cases h')).trans (if_neg (fun h' => by rw [ht] at h'; cases h'))
theorem point_tie {m : M.Mt} {side : Int} (h : M.endsGame (M.ofSet m.f m.won) (M.isTie (M.ofSet m.f m.won) m.games) (M.plus m.pts side) side = false) (ht : M.isTie (M.ofSet m.f m.won) m.games = true) : M.point m side = { m with pts := M.plus m.pts side, ends := if ((M.plus m.pts side).A + (M.plus m.pts side).B) % 6 = 0 then m.ends + 1 else m.ends, server := M.serverOf m.opens m.f.doubles m.log.length (((M.plus m.pts side).A + (M.plus m.pts side).B + 1) / 2) } :=
  (if_neg (fun h' => by rw [h] at h'; cases h')).trans (if_pos ht)

theorem box_store {w1 : World} {q : Nat} {cs : Array Value} {t : TypeId} (f : M.Fm) (h0 : w1.heap[q]? = some (.cells cs t (0, 0))) (hs : cs.size = 10) : BoxAt ((((((((((w1.setCell ⟨q, 0, none⟩ (.int .i64 f.sets)).setCell ⟨q, 1, none⟩ (.int .i64 f.games)).setCell ⟨q, 2, none⟩ (.bool f.noAd)).setCell ⟨q, 3, none⟩ (.int .i64 f.tie)).setCell ⟨q, 4, none⟩ (.int .i64 f.to)).setCell ⟨q, 5, none⟩ (.int .i64 f.lastTie)).setCell ⟨q, 6, none⟩ (.int .i64 f.lastTo)).setCell ⟨q, 7, none⟩ (.int .i64 f.first)).setCell ⟨q, 8, none⟩ (.int .i64 f.next)).setCell ⟨q, 9, none⟩ (.bool f.doubles)) q f := by
  have h1 := blk_set h0 0 (.int .i64 f.sets)
  have h2 := blk_set h1 1 (.int .i64 f.games)
  have h3 := blk_set h2 2 (.bool f.noAd)
  have h4 := blk_set h3 3 (.int .i64 f.tie)
  have h5 := blk_set h4 4 (.int .i64 f.to)
  have h6 := blk_set h5 5 (.int .i64 f.lastTie)
  have h7 := blk_set h6 6 (.int .i64 f.lastTo)
  have h8 := blk_set h7 7 (.int .i64 f.first)
  have h9 := blk_set h8 8 (.int .i64 f.next)
  have h10 := blk_set h9 9 (.bool f.doubles)
  have e := fun i => cell_of_row _ _ i _ _ _ h10
  clear h0 h1 h2 h3 h4 h5 h6 h7 h8 h9 h10
  unfold BoxAt
  (repeat' apply And.intro) <;> (rw [e]; simp [hs])
theorem box_alloc (w1 : World) (f : M.Fm) : BoxAt (w1.alloc (.cells #[.int .i64 f.sets, .int .i64 f.games, .bool f.noAd, .int .i64 f.tie, .int .i64 f.to, .int .i64 f.lastTie, .int .i64 f.lastTo, .int .i64 f.first, .int .i64 f.next, .bool f.doubles] 23 (0, 0))) w1.heap.size f := by
  unfold BoxAt
  (repeat' apply And.intro) <;> exact (alloc_cell _ _ rfl _ _ _).trans rfl

set_option maxHeartbeats 8000000 in
set_option maxRecDepth 100000 in
theorem point_any {w : World} {base b : Nat} {m : M.Mt} {sv gv : Value} (side : Int) (k : Nat) (h : MAt w base b m sv gv) (hm : M.Ok m k) (hk : k ≤ 900) (hs0 : 0 ≤ side) (hs1 : side ≤ 1) :
    Calls Try.prog 57 #[.pointer (some ⟨b, 0, none⟩), .int .i64 side] w fun e w' => e = .returned (.tuple #[]) ∧ (∃ sv' gv', MAt w' base b (M.point m side) sv' gv') ∧ Below base w w' := by
  have H := hide h
  have HM := hide hm
  have HPS := hide (small_of hm.pts (by omega))
  have HPL := hide (plus_le side hm.pts)
  have HP1 := hide (small_of (plus_le side hm.pts) (by omega))
  have HSL : Hid (-1000 ≤ m.f.sets ∧ m.f.sets ≤ 1000) := hide (by have := hm.v.s0; have := hm.v.s1; omega)
  have hbb : base ≤ b := h.1
  have hmc0 := h.mc
  have hlb := h.lt
  have hlt0 : ¬ w.heap.size = b := by omega
  have hlt1 : ¬ b = w.heap.size := by omega
  clear h hm
  go_enter Try.func57, Try.ntmps57
  go_wp2_with fail
  refine wp_region_T_drew (S := (fun w' => b < w'.heap.size ∧ w'.cell? ⟨b, 0, none⟩ = some (.int .i64 m.f.sets) ∧ w'.cell? ⟨b, 1, none⟩ = some (.int .i64 m.f.games) ∧ w'.cell? ⟨b, 2, none⟩ = some (.bool m.f.noAd) ∧ w'.cell? ⟨b, 3, none⟩ = some (.int .i64 m.f.tie) ∧ w'.cell? ⟨b, 4, none⟩ = some (.int .i64 m.f.to) ∧ w'.cell? ⟨b, 5, none⟩ = some (.int .i64 m.f.lastTie) ∧ w'.cell? ⟨b, 6, none⟩ = some (.int .i64 m.f.lastTo) ∧ w'.cell? ⟨b, 7, none⟩ = some (.int .i64 m.f.first) ∧ w'.cell? ⟨b, 8, none⟩ = some (.int .i64 m.f.next) ∧ w'.cell? ⟨b, 9, none⟩ = some (.bool m.f.doubles) ∧ w'.cell? ⟨b, 10, none⟩ = some (sv) ∧ w'.cell? ⟨b, 11, none⟩ = some (.int .i64 m.games.A) ∧ w'.cell? ⟨b, 12, none⟩ = some (.int .i64 m.games.B) ∧ w'.cell? ⟨b, 13, none⟩ = some (.int .i64 m.pts.A) ∧ w'.cell? ⟨b, 14, none⟩ = some (.int .i64 m.pts.B) ∧ w'.cell? ⟨b, 15, none⟩ = some (.int .i64 m.server) ∧ w'.cell? ⟨b, 16, none⟩ = some (.int .i64 m.ends) ∧ w'.cell? ⟨b, 17, none⟩ = some (.int .i64 m.balls) ∧ w'.cell? ⟨b, 18, none⟩ = some (.int .i64 m.winner) ∧ w'.cell? ⟨b, 19, none⟩ = some (.int .i64 m.opens) ∧ w'.cell? ⟨b, 20, none⟩ = some (.int .i64 m.won.A) ∧ w'.cell? ⟨b, 21, none⟩ = some (.int .i64 m.won.B) ∧ w'.cell? ⟨b, 22, none⟩ = some (.bool m.fresh) ∧ w'.cell? ⟨b, 23, none⟩ = some (gv))) 10 (by kernel_rfl) ?_ (fun hHeld0 => ?_)
  · (try dsimp only); (first | (go_keep; done) | (go_split_ands; (repeat' apply And.intro) <;> first | (go_keep; done) | (simp [*, World.cell?_alloc_at, World.cell?_alloc_past, World.frozen?_alloc_at, World.frozen?_alloc_past]; done) | (simp [World.cell?_alloc_at, World.cell?_alloc_past]; done) | (simp [World.cell?_alloc_at, World.cell?_alloc_past]; rfl) | (simp [*, World.cell?_setCell_same', World.cell?_setCell_other, World.cell?_alloc_some]; done) | (refine (hc _ _ (by first | (simp; done) | (simp; omega) | omega)).trans ?_; (first | (go_keep; done) | assumption | (simp [*, World.cell?_alloc_at, World.cell?_alloc_past, World.frozen?_alloc_at, World.frozen?_alloc_past]; done) | (simp [World.cell?_alloc_at, World.cell?_alloc_past]; rfl))) | (refine (hf _ _ (by first | (simp; done) | (simp; omega) | omega)).trans ?_; (first | (go_keep; done) | assumption | (simp [*, World.cell?_alloc_at, World.cell?_alloc_past, World.frozen?_alloc_at, World.frozen?_alloc_past]; done))) | (repeat' first | exact Below.refl _ _ | assumption | refine Below.drew ?_ | refine Below.alloc ?_ ?_ _ | refine Below.setCell ?_ ?_ _ | refine Below.trans ?_ (Below.mono (by assumption) ?_) | (simp; done) | (simp; omega) | omega) | (simp; omega) | omega))
  refine takeT (v := ?_) 0 rfl (by kernel_rfl) (by kernel_rfl) (by kernel_rfl) (by kernel_rfl) (fun _ _ _ h => h) (Or.inl ⟨by rfl, ?_⟩) (by assumption) ?_
  rotate_left
  · (intro w hSw; (try dsimp only at hSw); go_simp; try with_reducible rfl)
  try simp only [Act.put, List.setIfInBounds_toArray, List.set_cons_zero, List.set_cons_succ]
  refine takeT (v := ?_) 1 rfl (by kernel_rfl) (by kernel_rfl) (by kernel_rfl) (by kernel_rfl) (fun _ _ _ h => h) (Or.inl ⟨by rfl, ?_⟩) (by assumption) ?_
  rotate_left
  · (intro w hSw; (try dsimp only at hSw); go_simp; try with_reducible rfl)
  try simp only [Act.put, List.setIfInBounds_toArray, List.set_cons_zero, List.set_cons_succ]
  refine takeT (v := ?_) 2 rfl (by kernel_rfl) (by kernel_rfl) (by kernel_rfl) (by kernel_rfl) (fun _ _ _ h => h) (Or.inl ⟨by rfl, ?_⟩) (by assumption) ?_
  rotate_left
  · (intro w hSw; (try dsimp only at hSw); go_simp; try with_reducible rfl)
  try simp only [Act.put, List.setIfInBounds_toArray, List.set_cons_zero, List.set_cons_succ]
  refine takeT (v := ?_) 3 rfl (by kernel_rfl) (by kernel_rfl) (by kernel_rfl) (by kernel_rfl) (fun _ _ _ h => h) (Or.inl ⟨by rfl, ?_⟩) (by assumption) ?_
  rotate_left
  · (intro w hSw; (try dsimp only at hSw); go_simp; try with_reducible rfl)
  try simp only [Act.put, List.setIfInBounds_toArray, List.set_cons_zero, List.set_cons_succ]
  refine takeT (v := ?_) 4 rfl (by kernel_rfl) (by kernel_rfl) (by kernel_rfl) (by kernel_rfl) (fun _ _ _ h => h) (Or.inl ⟨by rfl, ?_⟩) (by assumption) ?_
  rotate_left
  · (intro w hSw; (try dsimp only at hSw); go_simp; try with_reducible rfl)
  try simp only [Act.put, List.setIfInBounds_toArray, List.set_cons_zero, List.set_cons_succ]
  refine takeT (v := ?_) 5 rfl (by kernel_rfl) (by kernel_rfl) (by kernel_rfl) (by kernel_rfl) (fun _ _ _ h => h) (Or.inl ⟨by rfl, ?_⟩) (by assumption) ?_
  rotate_left
  · (intro w hSw; (try dsimp only at hSw); go_simp; try with_reducible rfl)
  try simp only [Act.put, List.setIfInBounds_toArray, List.set_cons_zero, List.set_cons_succ]
  refine takeT (v := ?_) 6 rfl (by kernel_rfl) (by kernel_rfl) (by kernel_rfl) (by kernel_rfl) (fun _ _ _ h => h) (Or.inl ⟨by rfl, ?_⟩) (by assumption) ?_
  rotate_left
  · (intro w hSw; (try dsimp only at hSw); go_simp; try with_reducible rfl)
  try simp only [Act.put, List.setIfInBounds_toArray, List.set_cons_zero, List.set_cons_succ]
  refine takeT (v := ?_) 7 rfl (by kernel_rfl) (by kernel_rfl) (by kernel_rfl) (by kernel_rfl) (fun _ _ _ h => h) (Or.inl ⟨by rfl, ?_⟩) (by assumption) ?_
  rotate_left
  · (intro w hSw; (try dsimp only at hSw); go_simp; try with_reducible rfl)
  try simp only [Act.put, List.setIfInBounds_toArray, List.set_cons_zero, List.set_cons_succ]
  refine wpAnyT_ready (rs := [8, 9]) (by kernel_rfl) (by simp) ?_
  refine consT 8 rfl (fun K hK => ?_) ?_
  go_simp
  (first | (go_at_call 53; refine (ofSet_any m.f m.won _ HSL.out.1 HSL.out.2).mono ?_; rintro e w1 ⟨rfl, hbw1⟩; obtain ⟨hc, hf⟩ := bcell hbw1; have hzw1 := hbw1.size; (try simp at hzw1)))
  refine hK.out _ _ ?_ (fun hHeld1 => ?_)
  · (try dsimp only); (first | (go_keep; done) | (go_split_ands; (repeat' apply And.intro) <;> first | (go_keep; done) | (simp [*, World.cell?_alloc_at, World.cell?_alloc_past, World.frozen?_alloc_at, World.frozen?_alloc_past]; done) | (simp [World.cell?_alloc_at, World.cell?_alloc_past]; done) | (simp [World.cell?_alloc_at, World.cell?_alloc_past]; rfl) | (simp [*, World.cell?_setCell_same', World.cell?_setCell_other, World.cell?_alloc_some]; done) | (refine (hc _ _ (by first | (simp; done) | (simp; omega) | omega)).trans ?_; (first | (go_keep; done) | assumption | (simp [*, World.cell?_alloc_at, World.cell?_alloc_past, World.frozen?_alloc_at, World.frozen?_alloc_past]; done) | (simp [World.cell?_alloc_at, World.cell?_alloc_past]; rfl))) | (refine (hf _ _ (by first | (simp; done) | (simp; omega) | omega)).trans ?_; (first | (go_keep; done) | assumption | (simp [*, World.cell?_alloc_at, World.cell?_alloc_past, World.frozen?_alloc_at, World.frozen?_alloc_past]; done))) | (repeat' first | exact Below.refl _ _ | assumption | refine Below.drew ?_ | refine Below.alloc ?_ ?_ _ | refine Below.setCell ?_ ?_ _ | refine Below.trans ?_ (Below.mono (by assumption) ?_) | (simp; done) | (simp; omega) | omega) | (simp; omega) | omega))
  clear hK K hHeld0
  try simp only [Act.put, List.setIfInBounds_toArray, List.set_cons_zero, List.set_cons_succ]
  refine wpAnyT_ready (rs := [9]) (by kernel_rfl) (by simp) ?_
  refine consT 9 rfl (fun K hK => ?_) AllReadyT.nil
  go_simp
  refine hK.out _ _ ?_ (fun hHeld2 => ?_)
  · (try dsimp only); (first | (go_keep; done) | (go_split_ands; (repeat' apply And.intro) <;> first | (go_keep; done) | (simp [*, World.cell?_alloc_at, World.cell?_alloc_past, World.frozen?_alloc_at, World.frozen?_alloc_past]; done) | (simp [World.cell?_alloc_at, World.cell?_alloc_past]; done) | (simp [World.cell?_alloc_at, World.cell?_alloc_past]; rfl) | (simp [*, World.cell?_setCell_same', World.cell?_setCell_other, World.cell?_alloc_some]; done) | (refine (hc _ _ (by first | (simp; done) | (simp; omega) | omega)).trans ?_; (first | (go_keep; done) | assumption | (simp [*, World.cell?_alloc_at, World.cell?_alloc_past, World.frozen?_alloc_at, World.frozen?_alloc_past]; done) | (simp [World.cell?_alloc_at, World.cell?_alloc_past]; rfl))) | (refine (hf _ _ (by first | (simp; done) | (simp; omega) | omega)).trans ?_; (first | (go_keep; done) | assumption | (simp [*, World.cell?_alloc_at, World.cell?_alloc_past, World.frozen?_alloc_at, World.frozen?_alloc_past]; done))) | (repeat' first | exact Below.refl _ _ | assumption | refine Below.drew ?_ | refine Below.alloc ?_ ?_ _ | refine Below.setCell ?_ ?_ _ | refine Below.trans ?_ (Below.mono (by assumption) ?_) | (simp; done) | (simp; omega) | omega) | (simp; omega) | omega))
  clear hK K hHeld1
  try simp only [Act.put, List.setIfInBounds_toArray, List.set_cons_zero, List.set_cons_succ]
  refine wpAnyT_ready (rs := [10]) (by kernel_rfl) (by simp) ?_
  refine lastT rfl (fun K hK => ?_)
  (try dsimp only at hHeld2)
  go_simp
  refine hK.out _ _ ?_
  clear hK K
  try simp only [Act.put, List.setIfInBounds_toArray, List.set_cons_zero, List.set_cons_succ]
  refine wpAnyT_done (by kernel_rfl) ?_ _
  rotate_left 1
  refine consT 9 rfl (fun K hK => ?_) AllReadyT.nil
  go_simp
  refine hK.out _ _ ?_ (fun hHeld1 => ?_)
  · (try dsimp only); (first | (go_keep; done) | (go_split_ands; (repeat' apply And.intro) <;> first | (go_keep; done) | (simp [*, World.cell?_alloc_at, World.cell?_alloc_past, World.frozen?_alloc_at, World.frozen?_alloc_past]; done) | (simp [World.cell?_alloc_at, World.cell?_alloc_past]; done) | (simp [World.cell?_alloc_at, World.cell?_alloc_past]; rfl) | (simp [*, World.cell?_setCell_same', World.cell?_setCell_other, World.cell?_alloc_some]; done) | (refine (hc _ _ (by first | (simp; done) | (simp; omega) | omega)).trans ?_; (first | (go_keep; done) | assumption | (simp [*, World.cell?_alloc_at, World.cell?_alloc_past, World.frozen?_alloc_at, World.frozen?_alloc_past]; done) | (simp [World.cell?_alloc_at, World.cell?_alloc_past]; rfl))) | (refine (hf _ _ (by first | (simp; done) | (simp; omega) | omega)).trans ?_; (first | (go_keep; done) | assumption | (simp [*, World.cell?_alloc_at, World.cell?_alloc_past, World.frozen?_alloc_at, World.frozen?_alloc_past]; done))) | (repeat' first | exact Below.refl _ _ | assumption | refine Below.drew ?_ | refine Below.alloc ?_ ?_ _ | refine Below.setCell ?_ ?_ _ | refine Below.trans ?_ (Below.mono (by assumption) ?_) | (simp; done) | (simp; omega) | omega) | (simp; omega) | omega))
  clear hK K hHeld0
  try simp only [Act.put, List.setIfInBounds_toArray, List.set_cons_zero, List.set_cons_succ]
  refine wpAnyT_ready (rs := [8]) (by kernel_rfl) (by simp) ?_
  refine consT 8 rfl (fun K hK => ?_) AllReadyT.nil
  go_simp
  (first | (go_at_call 53; refine (ofSet_any m.f m.won _ HSL.out.1 HSL.out.2).mono ?_; rintro e w1 ⟨rfl, hbw1⟩; obtain ⟨hc, hf⟩ := bcell hbw1; have hzw1 := hbw1.size; (try simp at hzw1)))
  refine hK.out _ _ ?_ (fun hHeld2 => ?_)
  · (try dsimp only); (first | (go_keep; done) | (go_split_ands; (repeat' apply And.intro) <;> first | (go_keep; done) | (simp [*, World.cell?_alloc_at, World.cell?_alloc_past, World.frozen?_alloc_at, World.frozen?_alloc_past]; done) | (simp [World.cell?_alloc_at, World.cell?_alloc_past]; done) | (simp [World.cell?_alloc_at, World.cell?_alloc_past]; rfl) | (simp [*, World.cell?_setCell_same', World.cell?_setCell_other, World.cell?_alloc_some]; done) | (refine (hc _ _ (by first | (simp; done) | (simp; omega) | omega)).trans ?_; (first | (go_keep; done) | assumption | (simp [*, World.cell?_alloc_at, World.cell?_alloc_past, World.frozen?_alloc_at, World.frozen?_alloc_past]; done) | (simp [World.cell?_alloc_at, World.cell?_alloc_past]; rfl))) | (refine (hf _ _ (by first | (simp; done) | (simp; omega) | omega)).trans ?_; (first | (go_keep; done) | assumption | (simp [*, World.cell?_alloc_at, World.cell?_alloc_past, World.frozen?_alloc_at, World.frozen?_alloc_past]; done))) | (repeat' first | exact Below.refl _ _ | assumption | refine Below.drew ?_ | refine Below.alloc ?_ ?_ _ | refine Below.setCell ?_ ?_ _ | refine Below.trans ?_ (Below.mono (by assumption) ?_) | (simp; done) | (simp; omega) | omega) | (simp; omega) | omega))
  clear hK K hHeld1
  try simp only [Act.put, List.setIfInBounds_toArray, List.set_cons_zero, List.set_cons_succ]
  refine wpAnyT_ready (rs := [10]) (by kernel_rfl) (by simp) ?_
  refine lastT rfl (fun K hK => ?_)
  (try dsimp only at hHeld2)
  go_simp
  refine hK.out _ _ ?_
  clear hK K
  try simp only [Act.put, List.setIfInBounds_toArray, List.set_cons_zero, List.set_cons_succ]
  refine wpAnyT_done (by kernel_rfl) ?_ _
  focus
    have hb1 : Below w.heap.size w w1 := ((Below.refl w.heap.size w).alloc (Nat.le_refl _) _).drew.trans (hbw1.mono (by simp))
    have hb2 : Below w.heap.size w ((((((((((w1.setCell ⟨w.heap.size, 0, none⟩ (.int .i64 (M.ofSet m.f m.won).sets)).setCell ⟨w.heap.size, 1, none⟩ (.int .i64 (M.ofSet m.f m.won).games)).setCell ⟨w.heap.size, 2, none⟩ (.bool (M.ofSet m.f m.won).noAd)).setCell ⟨w.heap.size, 3, none⟩ (.int .i64 (M.ofSet m.f m.won).tie)).setCell ⟨w.heap.size, 4, none⟩ (.int .i64 (M.ofSet m.f m.won).to)).setCell ⟨w.heap.size, 5, none⟩ (.int .i64 (M.ofSet m.f m.won).lastTie)).setCell ⟨w.heap.size, 6, none⟩ (.int .i64 (M.ofSet m.f m.won).lastTo)).setCell ⟨w.heap.size, 7, none⟩ (.int .i64 (M.ofSet m.f m.won).first)).setCell ⟨w.heap.size, 8, none⟩ (.int .i64 (M.ofSet m.f m.won).next)).setCell ⟨w.heap.size, 9, none⟩ (.bool (M.ofSet m.f m.won).doubles)) := ((((((((((hb1.setCell (Nat.le_refl _) _).setCell (Nat.le_refl _) _).setCell (Nat.le_refl _) _).setCell (Nat.le_refl _) _).setCell (Nat.le_refl _) _).setCell (Nat.le_refl _) _).setCell (Nat.le_refl _) _).setCell (Nat.le_refl _) _).setCell (Nat.le_refl _) _).setCell (Nat.le_refl _) _)
    have hf2 : BoxAt ((((((((((w1.setCell ⟨w.heap.size, 0, none⟩ (.int .i64 (M.ofSet m.f m.won).sets)).setCell ⟨w.heap.size, 1, none⟩ (.int .i64 (M.ofSet m.f m.won).games)).setCell ⟨w.heap.size, 2, none⟩ (.bool (M.ofSet m.f m.won).noAd)).setCell ⟨w.heap.size, 3, none⟩ (.int .i64 (M.ofSet m.f m.won).tie)).setCell ⟨w.heap.size, 4, none⟩ (.int .i64 (M.ofSet m.f m.won).to)).setCell ⟨w.heap.size, 5, none⟩ (.int .i64 (M.ofSet m.f m.won).lastTie)).setCell ⟨w.heap.size, 6, none⟩ (.int .i64 (M.ofSet m.f m.won).lastTo)).setCell ⟨w.heap.size, 7, none⟩ (.int .i64 (M.ofSet m.f m.won).first)).setCell ⟨w.heap.size, 8, none⟩ (.int .i64 (M.ofSet m.f m.won).next)).setCell ⟨w.heap.size, 9, none⟩ (.bool (M.ofSet m.f m.won).doubles)) w.heap.size (M.ofSet m.f m.won) := box_store (cs := #[.int .i64 0, .int .i64 0, .bool false, .int .i64 0, .int .i64 0, .int .i64 0, .int .i64 0, .int .i64 0, .int .i64 0, .bool false]) (t := 23) _ ((hbw1.block w.heap.size (by simp)).trans (by first | (simp; done) | (show (w.heap.push _)[w.heap.size]? = _; simp; done))) rfl
    have hq2 : w.heap.size < ((((((((((w1.setCell ⟨w.heap.size, 0, none⟩ (.int .i64 (M.ofSet m.f m.won).sets)).setCell ⟨w.heap.size, 1, none⟩ (.int .i64 (M.ofSet m.f m.won).games)).setCell ⟨w.heap.size, 2, none⟩ (.bool (M.ofSet m.f m.won).noAd)).setCell ⟨w.heap.size, 3, none⟩ (.int .i64 (M.ofSet m.f m.won).tie)).setCell ⟨w.heap.size, 4, none⟩ (.int .i64 (M.ofSet m.f m.won).to)).setCell ⟨w.heap.size, 5, none⟩ (.int .i64 (M.ofSet m.f m.won).lastTie)).setCell ⟨w.heap.size, 6, none⟩ (.int .i64 (M.ofSet m.f m.won).lastTo)).setCell ⟨w.heap.size, 7, none⟩ (.int .i64 (M.ofSet m.f m.won).first)).setCell ⟨w.heap.size, 8, none⟩ (.int .i64 (M.ofSet m.f m.won).next)).setCell ⟨w.heap.size, 9, none⟩ (.bool (M.ofSet m.f m.won).doubles)).heap.size := by simp; omega
    have hqb : ¬ b = w.heap.size := hlt1
    have hqb2 : ¬ w.heap.size = b := hlt0
    have hB2 : Below base w ((((((((((w1.setCell ⟨w.heap.size, 0, none⟩ (.int .i64 (M.ofSet m.f m.won).sets)).setCell ⟨w.heap.size, 1, none⟩ (.int .i64 (M.ofSet m.f m.won).games)).setCell ⟨w.heap.size, 2, none⟩ (.bool (M.ofSet m.f m.won).noAd)).setCell ⟨w.heap.size, 3, none⟩ (.int .i64 (M.ofSet m.f m.won).tie)).setCell ⟨w.heap.size, 4, none⟩ (.int .i64 (M.ofSet m.f m.won).to)).setCell ⟨w.heap.size, 5, none⟩ (.int .i64 (M.ofSet m.f m.won).lastTie)).setCell ⟨w.heap.size, 6, none⟩ (.int .i64 (M.ofSet m.f m.won).lastTo)).setCell ⟨w.heap.size, 7, none⟩ (.int .i64 (M.ofSet m.f m.won).first)).setCell ⟨w.heap.size, 8, none⟩ (.int .i64 (M.ofSet m.f m.won).next)).setCell ⟨w.heap.size, 9, none⟩ (.bool (M.ofSet m.f m.won).doubles)) := hb2.mono (by omega)
    have h2 := H.out.below hb2
    clear hb2 hc hf hzw1 hbw1 hmc0 hHeld2 hlt0 hlt1
    generalize ((((((((((w1.setCell ⟨w.heap.size, 0, none⟩ (.int .i64 (M.ofSet m.f m.won).sets)).setCell ⟨w.heap.size, 1, none⟩ (.int .i64 (M.ofSet m.f m.won).games)).setCell ⟨w.heap.size, 2, none⟩ (.bool (M.ofSet m.f m.won).noAd)).setCell ⟨w.heap.size, 3, none⟩ (.int .i64 (M.ofSet m.f m.won).tie)).setCell ⟨w.heap.size, 4, none⟩ (.int .i64 (M.ofSet m.f m.won).to)).setCell ⟨w.heap.size, 5, none⟩ (.int .i64 (M.ofSet m.f m.won).lastTie)).setCell ⟨w.heap.size, 6, none⟩ (.int .i64 (M.ofSet m.f m.won).lastTo)).setCell ⟨w.heap.size, 7, none⟩ (.int .i64 (M.ofSet m.f m.won).first)).setCell ⟨w.heap.size, 8, none⟩ (.int .i64 (M.ofSet m.f m.won).next)).setCell ⟨w.heap.size, 9, none⟩ (.bool (M.ofSet m.f m.won).doubles)) = w2 at hf2 hq2 h2 hB2 ⊢
    generalize w.heap.size = q at hf2 hq2 hqb hqb2 ⊢
  rotate_left
  focus
    have hb2 : Below w.heap.size w (w1.alloc (.cells #[.int .i64 ((M.ofSet m.f m.won)).sets, .int .i64 ((M.ofSet m.f m.won)).games, .bool ((M.ofSet m.f m.won)).noAd, .int .i64 ((M.ofSet m.f m.won)).tie, .int .i64 ((M.ofSet m.f m.won)).to, .int .i64 ((M.ofSet m.f m.won)).lastTie, .int .i64 ((M.ofSet m.f m.won)).lastTo, .int .i64 ((M.ofSet m.f m.won)).first, .int .i64 ((M.ofSet m.f m.won)).next, .bool ((M.ofSet m.f m.won)).doubles] 23 (0, 0))) := ((Below.refl _ w).drew.trans (hbw1.mono (by simp))).alloc (by omega) _
    have hf2 : BoxAt (w1.alloc (.cells #[.int .i64 ((M.ofSet m.f m.won)).sets, .int .i64 ((M.ofSet m.f m.won)).games, .bool ((M.ofSet m.f m.won)).noAd, .int .i64 ((M.ofSet m.f m.won)).tie, .int .i64 ((M.ofSet m.f m.won)).to, .int .i64 ((M.ofSet m.f m.won)).lastTie, .int .i64 ((M.ofSet m.f m.won)).lastTo, .int .i64 ((M.ofSet m.f m.won)).first, .int .i64 ((M.ofSet m.f m.won)).next, .bool ((M.ofSet m.f m.won)).doubles] 23 (0, 0))) w1.heap.size (M.ofSet m.f m.won) := box_alloc _ _
    have hq2 : w1.heap.size < (w1.alloc (.cells #[.int .i64 ((M.ofSet m.f m.won)).sets, .int .i64 ((M.ofSet m.f m.won)).games, .bool ((M.ofSet m.f m.won)).noAd, .int .i64 ((M.ofSet m.f m.won)).tie, .int .i64 ((M.ofSet m.f m.won)).to, .int .i64 ((M.ofSet m.f m.won)).lastTie, .int .i64 ((M.ofSet m.f m.won)).lastTo, .int .i64 ((M.ofSet m.f m.won)).first, .int .i64 ((M.ofSet m.f m.won)).next, .bool ((M.ofSet m.f m.won)).doubles] 23 (0, 0))).heap.size := by simp
    have hqb : ¬ b = w1.heap.size := by omega
    have hqb2 : ¬ w1.heap.size = b := by omega
    have hB2 : Below base w (w1.alloc (.cells #[.int .i64 ((M.ofSet m.f m.won)).sets, .int .i64 ((M.ofSet m.f m.won)).games, .bool ((M.ofSet m.f m.won)).noAd, .int .i64 ((M.ofSet m.f m.won)).tie, .int .i64 ((M.ofSet m.f m.won)).to, .int .i64 ((M.ofSet m.f m.won)).lastTie, .int .i64 ((M.ofSet m.f m.won)).lastTo, .int .i64 ((M.ofSet m.f m.won)).first, .int .i64 ((M.ofSet m.f m.won)).next, .bool ((M.ofSet m.f m.won)).doubles] 23 (0, 0))) := hb2.mono (by omega)
    have h2 := H.out.below hb2
    clear hb2 hc hf hmc0 hHeld2 hlt0 hlt1
    generalize (w1.alloc (.cells #[.int .i64 ((M.ofSet m.f m.won)).sets, .int .i64 ((M.ofSet m.f m.won)).games, .bool ((M.ofSet m.f m.won)).noAd, .int .i64 ((M.ofSet m.f m.won)).tie, .int .i64 ((M.ofSet m.f m.won)).to, .int .i64 ((M.ofSet m.f m.won)).lastTie, .int .i64 ((M.ofSet m.f m.won)).lastTo, .int .i64 ((M.ofSet m.f m.won)).first, .int .i64 ((M.ofSet m.f m.won)).next, .bool ((M.ofSet m.f m.won)).doubles] 23 (0, 0))) = w2 at hf2 hq2 h2 hB2 ⊢
    generalize w1.heap.size = q at hf2 hq2 hqb hqb2 hzw1 ⊢
  all_goals
    have H2 := hide h2
    have HF2 := hide hf2
    have c2 := h2.mc
    have f2 := hf2
    have hl2 := h2.lt
    unfold BoxAt at f2
    clear h2 hf2
    go_wp2_with fail
    refine wp_region_held_drew (S := (fun w' => q < w'.heap.size ∧ w'.cell? ⟨b, 0, none⟩ = some (.int .i64 m.f.sets) ∧ w'.cell? ⟨b, 1, none⟩ = some (.int .i64 m.f.games) ∧ w'.cell? ⟨b, 2, none⟩ = some (.bool m.f.noAd) ∧ w'.cell? ⟨b, 3, none⟩ = some (.int .i64 m.f.tie) ∧ w'.cell? ⟨b, 4, none⟩ = some (.int .i64 m.f.to) ∧ w'.cell? ⟨b, 5, none⟩ = some (.int .i64 m.f.lastTie) ∧ w'.cell? ⟨b, 6, none⟩ = some (.int .i64 m.f.lastTo) ∧ w'.cell? ⟨b, 7, none⟩ = some (.int .i64 m.f.first) ∧ w'.cell? ⟨b, 8, none⟩ = some (.int .i64 m.f.next) ∧ w'.cell? ⟨b, 9, none⟩ = some (.bool m.f.doubles) ∧ w'.cell? ⟨b, 10, none⟩ = some (sv) ∧ w'.cell? ⟨b, 11, none⟩ = some (.int .i64 m.games.A) ∧ w'.cell? ⟨b, 12, none⟩ = some (.int .i64 m.games.B) ∧ w'.cell? ⟨b, 13, none⟩ = some (.int .i64 m.pts.A) ∧ w'.cell? ⟨b, 14, none⟩ = some (.int .i64 m.pts.B) ∧ w'.cell? ⟨b, 15, none⟩ = some (.int .i64 m.server) ∧ w'.cell? ⟨b, 16, none⟩ = some (.int .i64 m.ends) ∧ w'.cell? ⟨b, 17, none⟩ = some (.int .i64 m.balls) ∧ w'.cell? ⟨b, 18, none⟩ = some (.int .i64 m.winner) ∧ w'.cell? ⟨b, 19, none⟩ = some (.int .i64 m.opens) ∧ w'.cell? ⟨b, 20, none⟩ = some (.int .i64 m.won.A) ∧ w'.cell? ⟨b, 21, none⟩ = some (.int .i64 m.won.B) ∧ w'.cell? ⟨b, 22, none⟩ = some (.bool m.fresh) ∧ w'.cell? ⟨b, 23, none⟩ = some (gv) ∧ w'.cell? ⟨q, 0, none⟩ = some (.int .i64 ((M.ofSet m.f m.won)).sets) ∧ w'.cell? ⟨q, 1, none⟩ = some (.int .i64 ((M.ofSet m.f m.won)).games) ∧ w'.cell? ⟨q, 2, none⟩ = some (.bool ((M.ofSet m.f m.won)).noAd) ∧ w'.cell? ⟨q, 3, none⟩ = some (.int .i64 ((M.ofSet m.f m.won)).tie) ∧ w'.cell? ⟨q, 4, none⟩ = some (.int .i64 ((M.ofSet m.f m.won)).to) ∧ w'.cell? ⟨q, 5, none⟩ = some (.int .i64 ((M.ofSet m.f m.won)).lastTie) ∧ w'.cell? ⟨q, 6, none⟩ = some (.int .i64 ((M.ofSet m.f m.won)).lastTo) ∧ w'.cell? ⟨q, 7, none⟩ = some (.int .i64 ((M.ofSet m.f m.won)).first) ∧ w'.cell? ⟨q, 8, none⟩ = some (.int .i64 ((M.ofSet m.f m.won)).next) ∧ w'.cell? ⟨q, 9, none⟩ = some (.bool ((M.ofSet m.f m.won)).doubles))) (by kernel_rfl) ?_ (fun hHeld0 => ?_)
    · (try dsimp only); (first | (go_keep; done) | (go_split_ands; (repeat' apply And.intro) <;> first | (go_keep; done) | (simp [*, World.cell?_alloc_at, World.cell?_alloc_past, World.frozen?_alloc_at, World.frozen?_alloc_past]; done) | (simp [World.cell?_alloc_at, World.cell?_alloc_past]; done) | (simp [World.cell?_alloc_at, World.cell?_alloc_past]; rfl) | (simp [*, World.cell?_setCell_same', World.cell?_setCell_other, World.cell?_alloc_some]; done) | (refine (hc _ _ (by first | (simp; done) | (simp; omega) | omega)).trans ?_; (first | (go_keep; done) | assumption | (simp [*, World.cell?_alloc_at, World.cell?_alloc_past, World.frozen?_alloc_at, World.frozen?_alloc_past]; done) | (simp [World.cell?_alloc_at, World.cell?_alloc_past]; rfl))) | (refine (hf _ _ (by first | (simp; done) | (simp; omega) | omega)).trans ?_; (first | (go_keep; done) | assumption | (simp [*, World.cell?_alloc_at, World.cell?_alloc_past, World.frozen?_alloc_at, World.frozen?_alloc_past]; done))) | (repeat' first | exact Below.refl _ _ | assumption | refine Below.drew ?_ | refine Below.alloc ?_ ?_ _ | refine Below.setCell ?_ ?_ _ | refine Below.trans ?_ (Below.mono (by assumption) ?_) | (simp; done) | (simp; omega) | omega) | (simp; omega) | omega))
    refine takeL (v := ?_) 0 rfl (by kernel_rfl) (by kernel_rfl) (by kernel_rfl) (fun _ _ _ h => h) (Or.inl ⟨by rfl, ?_⟩) (by assumption) ?_
    rotate_left
    · (intro w hSw; (try dsimp only at hSw); go_simp; try with_reducible rfl)
    try simp only [Act.put, List.setIfInBounds_toArray, List.set_cons_zero, List.set_cons_succ]
    refine takeL (v := ?_) 1 rfl (by kernel_rfl) (by kernel_rfl) (by kernel_rfl) (fun _ _ _ h => h) (Or.inl ⟨by rfl, ?_⟩) (by assumption) ?_
    rotate_left
    · (intro w hSw; (try dsimp only at hSw); go_simp; try with_reducible rfl)
    try simp only [Act.put, List.setIfInBounds_toArray, List.set_cons_zero, List.set_cons_succ]
    refine takeL (v := ?_) 2 rfl (by kernel_rfl) (by kernel_rfl) (by kernel_rfl) (fun _ _ _ h => h) (Or.inl ⟨by rfl, ?_⟩) (by assumption) ?_
    rotate_left
    · (intro w hSw; (try dsimp only at hSw); go_simp; try with_reducible rfl)
    try simp only [Act.put, List.setIfInBounds_toArray, List.set_cons_zero, List.set_cons_succ]
    refine takeL (v := ?_) 3 rfl (by kernel_rfl) (by kernel_rfl) (by kernel_rfl) (fun _ _ _ h => h) (Or.inl ⟨by rfl, ?_⟩) (by assumption) ?_
    rotate_left
    · (intro w hSw; (try dsimp only at hSw); go_simp; try with_reducible rfl)
    try simp only [Act.put, List.setIfInBounds_toArray, List.set_cons_zero, List.set_cons_succ]
    refine takeL (v := ?_) 4 rfl (by kernel_rfl) (by kernel_rfl) (by kernel_rfl) (fun _ _ _ h => h) (Or.inl ⟨by rfl, ?_⟩) (by assumption) ?_
    rotate_left
    · (intro w hSw; (try dsimp only at hSw); go_simp; try with_reducible rfl)
    try simp only [Act.put, List.setIfInBounds_toArray, List.set_cons_zero, List.set_cons_succ]
    refine takeL (v := ?_) 5 rfl (by kernel_rfl) (by kernel_rfl) (by kernel_rfl) (fun _ _ _ h => h) (Or.inl ⟨by rfl, ?_⟩) (by assumption) ?_
    rotate_left
    · (intro w hSw; (try dsimp only at hSw); go_simp; try with_reducible rfl)
    try simp only [Act.put, List.setIfInBounds_toArray, List.set_cons_zero, List.set_cons_succ]
    refine takeL (v := ?_) 6 rfl (by kernel_rfl) (by kernel_rfl) (by kernel_rfl) (fun _ _ _ h => h) (Or.inl ⟨by rfl, ?_⟩) (by assumption) ?_
    rotate_left
    · (intro w hSw; (try dsimp only at hSw); go_simp; try with_reducible rfl)
    try simp only [Act.put, List.setIfInBounds_toArray, List.set_cons_zero, List.set_cons_succ]
    refine wpAnyH_ready (rs := [7]) (by kernel_rfl) (by simp) ?_
    refine consL 7 rfl (fun K hK => ?_) AllReadyH.nil
    go_simp
    (first | (go_at_call 64; refine (isTie_any (M.ofSet m.f m.won) m.games _).mono ?_; rintro e w3 ⟨rfl, hbw3⟩; obtain ⟨hc, hf⟩ := bcell hbw3; have hzw3 := hbw3.size; (try simp at hzw3)))
    refine hK.out _ _ ?_ (fun hHeld1 => ?_)
    · (try dsimp only); (first | (go_keep; done) | (go_split_ands; (repeat' apply And.intro) <;> first | (go_keep; done) | (simp [*, World.cell?_alloc_at, World.cell?_alloc_past, World.frozen?_alloc_at, World.frozen?_alloc_past]; done) | (simp [World.cell?_alloc_at, World.cell?_alloc_past]; done) | (simp [World.cell?_alloc_at, World.cell?_alloc_past]; rfl) | (simp [*, World.cell?_setCell_same', World.cell?_setCell_other, World.cell?_alloc_some]; done) | (refine (hc _ _ (by first | (simp; done) | (simp; omega) | omega)).trans ?_; (first | (go_keep; done) | assumption | (simp [*, World.cell?_alloc_at, World.cell?_alloc_past, World.frozen?_alloc_at, World.frozen?_alloc_past]; done) | (simp [World.cell?_alloc_at, World.cell?_alloc_past]; rfl))) | (refine (hf _ _ (by first | (simp; done) | (simp; omega) | omega)).trans ?_; (first | (go_keep; done) | assumption | (simp [*, World.cell?_alloc_at, World.cell?_alloc_past, World.frozen?_alloc_at, World.frozen?_alloc_past]; done))) | (repeat' first | exact Below.refl _ _ | assumption | refine Below.drew ?_ | refine Below.alloc ?_ ?_ _ | refine Below.setCell ?_ ?_ _ | refine Below.trans ?_ (Below.mono (by assumption) ?_) | (simp; done) | (simp; omega) | omega) | (simp; omega) | omega))
    clear hK K hHeld0
    try simp only [Act.put, List.setIfInBounds_toArray, List.set_cons_zero, List.set_cons_succ]
    refine takeL (v := ?_) 8 rfl (by kernel_rfl) (by kernel_rfl) (by kernel_rfl) (fun _ _ _ h => h) (Or.inl ⟨by rfl, ?_⟩) (by assumption) ?_
    rotate_left
    · (intro w hSw; (try dsimp only at hSw); go_simp; try with_reducible rfl)
    try simp only [Act.put, List.setIfInBounds_toArray, List.set_cons_zero, List.set_cons_succ]
    refine wpAnyH_done (by kernel_rfl) ?_ _
    have h3 := H2.out.drew.below hbw3
    have hf3 := (show BoxAt w2.drew q (M.ofSet m.f m.won) from HF2.out).below hbw3 (by simp; omega)
    have hB3 : Below base w w3 := hB2.drew.trans (hbw3.mono (by simp; have := H2.out.lt; omega))
    have H3 := hide h3
    have HF3 := hide hf3
    have c3 := h3.mc
    have fr3 := h3.fr
    have hl3 := h3.lt
    have hq3 : q < w3.heap.size := by omega
    clear h3 hf3 hHeld1 c2 f2 hc hf
    go_wp2_with (first | (go_at_call 55; refine (plus_any m.pts side _ HPS.out).mono ?_; rintro e w4 ⟨rfl, hb4⟩; have h4 := H3.out.below hb4; have HF4 := hide (HF3.out.below hb4 hq3); have c4 := h4.mc; have fr4 := h4.fr; have hl4 := h4.lt; have hz4 := hb4.size; have H4 := hide h4; clear c3 fr3 h4))
    have k1 : MAt _ base b { m with pts := ⟨(M.plus m.pts side).A, m.pts.B⟩ } sv gv := H4.out.set 13 (.int .i64 (M.plus m.pts side).A) rfl rfl rfl
    have h5 : MAt ((w4.setCell ⟨b, 13, none⟩ (.int .i64 (M.plus m.pts side).A)).setCell ⟨b, 14, none⟩ (.int .i64 (M.plus m.pts side).B)) base b { m with pts := M.plus m.pts side } sv gv := k1.set 14 (.int .i64 (M.plus m.pts side).B) rfl rfl rfl
    have hf5 := (HF4.out.set hqb 13 (.int .i64 (M.plus m.pts side).A)).set hqb 14 (.int .i64 (M.plus m.pts side).B)
    have hB5 : Below base w ((w4.setCell ⟨b, 13, none⟩ (.int .i64 (M.plus m.pts side).A)).setCell ⟨b, 14, none⟩ (.int .i64 (M.plus m.pts side).B)) := ((hB3.trans (hb4.mono (by omega))).setCell (by exact hbb) _).setCell (by exact hbb) _
    have hq5 : q < ((w4.setCell ⟨b, 13, none⟩ (.int .i64 (M.plus m.pts side).A)).setCell ⟨b, 14, none⟩ (.int .i64 (M.plus m.pts side).B)).heap.size := by simp; omega
    clear k1 c4 fr4
    generalize ((w4.setCell ⟨b, 13, none⟩ (.int .i64 (M.plus m.pts side).A)).setCell ⟨b, 14, none⟩ (.int .i64 (M.plus m.pts side).B)) = w5 at h5 hf5 hB5 hq5 ⊢
    have H5 := hide h5
    have HF5 := hide hf5
    have c5 := h5.mc
    dsimp only at c5
    have f5 := hf5
    unfold BoxAt at f5
    have hl5 := h5.lt
    clear h5 hf5
    have pb := HPL.out
    have e1 : IntKind.i64.wrap ((M.plus m.pts side).A + (M.plus m.pts side).B) = (M.plus m.pts side).A + (M.plus m.pts side).B := IntWalk.i64_in _ (by omega)
    have e2 : ((M.plus m.pts side).A + (M.plus m.pts side).B).tmod 6 = ((M.plus m.pts side).A + (M.plus m.pts side).B) % 6 := Int.tmod_eq_emod_of_nonneg (by omega)
    have e3 : IntKind.i64.wrap ((M.plus m.pts side).A + (M.plus m.pts side).B + 1) = (M.plus m.pts side).A + (M.plus m.pts side).B + 1 := IntWalk.i64_in _ (by omega)
    have e4 : ((M.plus m.pts side).A + (M.plus m.pts side).B + 1).tdiv 2 = ((M.plus m.pts side).A + (M.plus m.pts side).B + 1) / 2 := Int.tdiv_eq_ediv_of_nonneg (by omega)
    have e5 : IntKind.i64.wrap (((M.plus m.pts side).A + (M.plus m.pts side).B + 1) / 2) = ((M.plus m.pts side).A + (M.plus m.pts side).B + 1) / 2 := IntWalk.i64_in _ (by omega)
    have e6 : IntKind.i64.wrap (((M.plus m.pts side).A + (M.plus m.pts side).B) % 6) = ((M.plus m.pts side).A + (M.plus m.pts side).B) % 6 := IntWalk.i64_in _ (by omega)
    have HPB := hide pb
    clear pb
    go_wp2_with fail
    refine wp_region_held_drew (S := (fun w' => q < w'.heap.size ∧ w'.cell? ⟨b, 0, none⟩ = some (.int .i64 ({ m with pts := M.plus m.pts side }).f.sets) ∧ w'.cell? ⟨b, 1, none⟩ = some (.int .i64 ({ m with pts := M.plus m.pts side }).f.games) ∧ w'.cell? ⟨b, 2, none⟩ = some (.bool ({ m with pts := M.plus m.pts side }).f.noAd) ∧ w'.cell? ⟨b, 3, none⟩ = some (.int .i64 ({ m with pts := M.plus m.pts side }).f.tie) ∧ w'.cell? ⟨b, 4, none⟩ = some (.int .i64 ({ m with pts := M.plus m.pts side }).f.to) ∧ w'.cell? ⟨b, 5, none⟩ = some (.int .i64 ({ m with pts := M.plus m.pts side }).f.lastTie) ∧ w'.cell? ⟨b, 6, none⟩ = some (.int .i64 ({ m with pts := M.plus m.pts side }).f.lastTo) ∧ w'.cell? ⟨b, 7, none⟩ = some (.int .i64 ({ m with pts := M.plus m.pts side }).f.first) ∧ w'.cell? ⟨b, 8, none⟩ = some (.int .i64 ({ m with pts := M.plus m.pts side }).f.next) ∧ w'.cell? ⟨b, 9, none⟩ = some (.bool ({ m with pts := M.plus m.pts side }).f.doubles) ∧ w'.cell? ⟨b, 10, none⟩ = some (sv) ∧ w'.cell? ⟨b, 11, none⟩ = some (.int .i64 ({ m with pts := M.plus m.pts side }).games.A) ∧ w'.cell? ⟨b, 12, none⟩ = some (.int .i64 ({ m with pts := M.plus m.pts side }).games.B) ∧ w'.cell? ⟨b, 13, none⟩ = some (.int .i64 ({ m with pts := M.plus m.pts side }).pts.A) ∧ w'.cell? ⟨b, 14, none⟩ = some (.int .i64 ({ m with pts := M.plus m.pts side }).pts.B) ∧ w'.cell? ⟨b, 15, none⟩ = some (.int .i64 ({ m with pts := M.plus m.pts side }).server) ∧ w'.cell? ⟨b, 16, none⟩ = some (.int .i64 ({ m with pts := M.plus m.pts side }).ends) ∧ w'.cell? ⟨b, 17, none⟩ = some (.int .i64 ({ m with pts := M.plus m.pts side }).balls) ∧ w'.cell? ⟨b, 18, none⟩ = some (.int .i64 ({ m with pts := M.plus m.pts side }).winner) ∧ w'.cell? ⟨b, 19, none⟩ = some (.int .i64 ({ m with pts := M.plus m.pts side }).opens) ∧ w'.cell? ⟨b, 20, none⟩ = some (.int .i64 ({ m with pts := M.plus m.pts side }).won.A) ∧ w'.cell? ⟨b, 21, none⟩ = some (.int .i64 ({ m with pts := M.plus m.pts side }).won.B) ∧ w'.cell? ⟨b, 22, none⟩ = some (.bool ({ m with pts := M.plus m.pts side }).fresh) ∧ w'.cell? ⟨b, 23, none⟩ = some (gv) ∧ w'.cell? ⟨q, 0, none⟩ = some (.int .i64 ((M.ofSet m.f m.won)).sets) ∧ w'.cell? ⟨q, 1, none⟩ = some (.int .i64 ((M.ofSet m.f m.won)).games) ∧ w'.cell? ⟨q, 2, none⟩ = some (.bool ((M.ofSet m.f m.won)).noAd) ∧ w'.cell? ⟨q, 3, none⟩ = some (.int .i64 ((M.ofSet m.f m.won)).tie) ∧ w'.cell? ⟨q, 4, none⟩ = some (.int .i64 ((M.ofSet m.f m.won)).to) ∧ w'.cell? ⟨q, 5, none⟩ = some (.int .i64 ((M.ofSet m.f m.won)).lastTie) ∧ w'.cell? ⟨q, 6, none⟩ = some (.int .i64 ((M.ofSet m.f m.won)).lastTo) ∧ w'.cell? ⟨q, 7, none⟩ = some (.int .i64 ((M.ofSet m.f m.won)).first) ∧ w'.cell? ⟨q, 8, none⟩ = some (.int .i64 ((M.ofSet m.f m.won)).next) ∧ w'.cell? ⟨q, 9, none⟩ = some (.bool ((M.ofSet m.f m.won)).doubles))) (by kernel_rfl) ?_ (fun hHeld0 => ?_)
    · (try dsimp only); (first | (go_keep; done) | (go_split_ands; (repeat' apply And.intro) <;> first | (go_keep; done) | (simp [*, World.cell?_alloc_at, World.cell?_alloc_past, World.frozen?_alloc_at, World.frozen?_alloc_past]; done) | (simp [World.cell?_alloc_at, World.cell?_alloc_past]; done) | (simp [World.cell?_alloc_at, World.cell?_alloc_past]; rfl) | (simp [*, World.cell?_setCell_same', World.cell?_setCell_other, World.cell?_alloc_some]; done) | (refine (hc _ _ (by first | (simp; done) | (simp; omega) | omega)).trans ?_; (first | (go_keep; done) | assumption | (simp [*, World.cell?_alloc_at, World.cell?_alloc_past, World.frozen?_alloc_at, World.frozen?_alloc_past]; done) | (simp [World.cell?_alloc_at, World.cell?_alloc_past]; rfl))) | (refine (hf _ _ (by first | (simp; done) | (simp; omega) | omega)).trans ?_; (first | (go_keep; done) | assumption | (simp [*, World.cell?_alloc_at, World.cell?_alloc_past, World.frozen?_alloc_at, World.frozen?_alloc_past]; done))) | (repeat' first | exact Below.refl _ _ | assumption | refine Below.drew ?_ | refine Below.alloc ?_ ?_ _ | refine Below.setCell ?_ ?_ _ | refine Below.trans ?_ (Below.mono (by assumption) ?_) | (simp; done) | (simp; omega) | omega) | (simp; omega) | omega))
    refine takeL (v := ?_) 0 rfl (by kernel_rfl) (by kernel_rfl) (by kernel_rfl) (fun _ _ _ h => h) (Or.inl ⟨by rfl, ?_⟩) (by assumption) ?_
    rotate_left
    · (intro w hSw; (try dsimp only at hSw); go_simp; try with_reducible rfl)
    try simp only [Act.put, List.setIfInBounds_toArray, List.set_cons_zero, List.set_cons_succ]
    refine takeL (v := ?_) 1 rfl (by kernel_rfl) (by kernel_rfl) (by kernel_rfl) (fun _ _ _ h => h) (Or.inl ⟨by rfl, ?_⟩) (by assumption) ?_
    rotate_left
    · (intro w hSw; (try dsimp only at hSw); go_simp; try with_reducible rfl)
    try simp only [Act.put, List.setIfInBounds_toArray, List.set_cons_zero, List.set_cons_succ]
    refine takeL (v := ?_) 2 rfl (by kernel_rfl) (by kernel_rfl) (by kernel_rfl) (fun _ _ _ h => h) (Or.inl ⟨by rfl, ?_⟩) (by assumption) ?_
    rotate_left
    · (intro w hSw; (try dsimp only at hSw); go_simp; try with_reducible rfl)
    try simp only [Act.put, List.setIfInBounds_toArray, List.set_cons_zero, List.set_cons_succ]
    refine takeL (v := ?_) 3 rfl (by kernel_rfl) (by kernel_rfl) (by kernel_rfl) (fun _ _ _ h => h) (Or.inl ⟨by rfl, ?_⟩) (by assumption) ?_
    rotate_left
    · (intro w hSw; (try dsimp only at hSw); go_simp; try with_reducible rfl)
    try simp only [Act.put, List.setIfInBounds_toArray, List.set_cons_zero, List.set_cons_succ]
    refine takeL (v := ?_) 4 rfl (by kernel_rfl) (by kernel_rfl) (by kernel_rfl) (fun _ _ _ h => h) (Or.inl ⟨by rfl, ?_⟩) (by assumption) ?_
    rotate_left
    · (intro w hSw; (try dsimp only at hSw); go_simp; try with_reducible rfl)
    try simp only [Act.put, List.setIfInBounds_toArray, List.set_cons_zero, List.set_cons_succ]
    refine takeL (v := ?_) 5 rfl (by kernel_rfl) (by kernel_rfl) (by kernel_rfl) (fun _ _ _ h => h) (Or.inl ⟨by rfl, ?_⟩) (by assumption) ?_
    rotate_left
    · (intro w hSw; (try dsimp only at hSw); go_simp; try with_reducible rfl)
    try simp only [Act.put, List.setIfInBounds_toArray, List.set_cons_zero, List.set_cons_succ]
    refine takeL (v := ?_) 6 rfl (by kernel_rfl) (by kernel_rfl) (by kernel_rfl) (fun _ _ _ h => h) (Or.inl ⟨by rfl, ?_⟩) (by assumption) ?_
    rotate_left
    · (intro w hSw; (try dsimp only at hSw); go_simp; try with_reducible rfl)
    try simp only [Act.put, List.setIfInBounds_toArray, List.set_cons_zero, List.set_cons_succ]
    refine takeL (v := ?_) 7 rfl (by kernel_rfl) (by kernel_rfl) (by kernel_rfl) (fun _ _ _ h => h) (Or.inl ⟨by rfl, ?_⟩) (by assumption) ?_
    rotate_left
    · (intro w hSw; (try dsimp only at hSw); go_simp; try with_reducible rfl)
    try simp only [Act.put, List.setIfInBounds_toArray, List.set_cons_zero, List.set_cons_succ]
    refine takeL (v := ?_) 8 rfl (by kernel_rfl) (by kernel_rfl) (by kernel_rfl) (fun _ _ _ h => h) (Or.inl ⟨by rfl, ?_⟩) (by assumption) ?_
    rotate_left
    · (intro w hSw; (try dsimp only at hSw); go_simp; try with_reducible rfl)
    try simp only [Act.put, List.setIfInBounds_toArray, List.set_cons_zero, List.set_cons_succ]
    refine takeL (v := ?_) 9 rfl (by kernel_rfl) (by kernel_rfl) (by kernel_rfl) (fun _ _ _ h => h) (Or.inl ⟨by rfl, ?_⟩) (by assumption) ?_
    rotate_left
    · (intro w hSw; (try dsimp only at hSw); go_simp; try with_reducible rfl)
    try simp only [Act.put, List.setIfInBounds_toArray, List.set_cons_zero, List.set_cons_succ]
    refine takeL (v := ?_) 10 rfl (by kernel_rfl) (by kernel_rfl) (by kernel_rfl) (fun _ _ _ h => h) (Or.inl ⟨by rfl, ?_⟩) (by assumption) ?_
    rotate_left
    · (intro w hSw; (try dsimp only at hSw); go_simp; try with_reducible rfl)
    try simp only [Act.put, List.setIfInBounds_toArray, List.set_cons_zero, List.set_cons_succ]
    refine takeL (v := ?_) 11 rfl (by kernel_rfl) (by kernel_rfl) (by kernel_rfl) (fun _ _ _ h => h) (Or.inl ⟨by rfl, ?_⟩) (by assumption) ?_
    rotate_left
    · (intro w hSw; (try dsimp only at hSw); go_simp; try with_reducible rfl)
    try simp only [Act.put, List.setIfInBounds_toArray, List.set_cons_zero, List.set_cons_succ]
    refine takeL (v := ?_) 12 rfl (by kernel_rfl) (by kernel_rfl) (by kernel_rfl) (fun _ _ _ h => h) (Or.inl ⟨by rfl, ?_⟩) (by assumption) ?_
    rotate_left
    · (intro w hSw; (try dsimp only at hSw); go_simp; try with_reducible rfl)
    try simp only [Act.put, List.setIfInBounds_toArray, List.set_cons_zero, List.set_cons_succ]
    refine takeL (v := ?_) 13 rfl (by kernel_rfl) (by kernel_rfl) (by kernel_rfl) (fun _ _ _ h => h) (Or.inl ⟨by rfl, ?_⟩) (by assumption) ?_
    rotate_left
    · (intro w hSw; (try dsimp only at hSw); go_simp; try with_reducible rfl)
    try simp only [Act.put, List.setIfInBounds_toArray, List.set_cons_zero, List.set_cons_succ]
    refine takeL (v := ?_) 14 rfl (by kernel_rfl) (by kernel_rfl) (by kernel_rfl) (fun _ _ _ h => h) (Or.inl ⟨by rfl, ?_⟩) (by assumption) ?_
    rotate_left
    · (intro w hSw; (try dsimp only at hSw); go_simp; try with_reducible rfl)
    try simp only [Act.put, List.setIfInBounds_toArray, List.set_cons_zero, List.set_cons_succ]
    refine takeL (v := ?_) 15 rfl (by kernel_rfl) (by kernel_rfl) (by kernel_rfl) (fun _ _ _ h => h) (Or.inl ⟨by rfl, ?_⟩) (by assumption) ?_
    rotate_left
    · (intro w hSw; (try dsimp only at hSw); go_simp; try with_reducible rfl)
    try simp only [Act.put, List.setIfInBounds_toArray, List.set_cons_zero, List.set_cons_succ]
    refine wpAnyH_done (by kernel_rfl) ?_ _
    go_wp2_with fail
    refine wp_region_held_drew (S := (fun w' => q < w'.heap.size ∧ w'.cell? ⟨b, 0, none⟩ = some (.int .i64 ({ m with pts := M.plus m.pts side }).f.sets) ∧ w'.cell? ⟨b, 1, none⟩ = some (.int .i64 ({ m with pts := M.plus m.pts side }).f.games) ∧ w'.cell? ⟨b, 2, none⟩ = some (.bool ({ m with pts := M.plus m.pts side }).f.noAd) ∧ w'.cell? ⟨b, 3, none⟩ = some (.int .i64 ({ m with pts := M.plus m.pts side }).f.tie) ∧ w'.cell? ⟨b, 4, none⟩ = some (.int .i64 ({ m with pts := M.plus m.pts side }).f.to) ∧ w'.cell? ⟨b, 5, none⟩ = some (.int .i64 ({ m with pts := M.plus m.pts side }).f.lastTie) ∧ w'.cell? ⟨b, 6, none⟩ = some (.int .i64 ({ m with pts := M.plus m.pts side }).f.lastTo) ∧ w'.cell? ⟨b, 7, none⟩ = some (.int .i64 ({ m with pts := M.plus m.pts side }).f.first) ∧ w'.cell? ⟨b, 8, none⟩ = some (.int .i64 ({ m with pts := M.plus m.pts side }).f.next) ∧ w'.cell? ⟨b, 9, none⟩ = some (.bool ({ m with pts := M.plus m.pts side }).f.doubles) ∧ w'.cell? ⟨b, 10, none⟩ = some (sv) ∧ w'.cell? ⟨b, 11, none⟩ = some (.int .i64 ({ m with pts := M.plus m.pts side }).games.A) ∧ w'.cell? ⟨b, 12, none⟩ = some (.int .i64 ({ m with pts := M.plus m.pts side }).games.B) ∧ w'.cell? ⟨b, 13, none⟩ = some (.int .i64 ({ m with pts := M.plus m.pts side }).pts.A) ∧ w'.cell? ⟨b, 14, none⟩ = some (.int .i64 ({ m with pts := M.plus m.pts side }).pts.B) ∧ w'.cell? ⟨b, 15, none⟩ = some (.int .i64 ({ m with pts := M.plus m.pts side }).server) ∧ w'.cell? ⟨b, 16, none⟩ = some (.int .i64 ({ m with pts := M.plus m.pts side }).ends) ∧ w'.cell? ⟨b, 17, none⟩ = some (.int .i64 ({ m with pts := M.plus m.pts side }).balls) ∧ w'.cell? ⟨b, 18, none⟩ = some (.int .i64 ({ m with pts := M.plus m.pts side }).winner) ∧ w'.cell? ⟨b, 19, none⟩ = some (.int .i64 ({ m with pts := M.plus m.pts side }).opens) ∧ w'.cell? ⟨b, 20, none⟩ = some (.int .i64 ({ m with pts := M.plus m.pts side }).won.A) ∧ w'.cell? ⟨b, 21, none⟩ = some (.int .i64 ({ m with pts := M.plus m.pts side }).won.B) ∧ w'.cell? ⟨b, 22, none⟩ = some (.bool ({ m with pts := M.plus m.pts side }).fresh) ∧ w'.cell? ⟨b, 23, none⟩ = some (gv) ∧ w'.cell? ⟨q, 0, none⟩ = some (.int .i64 ((M.ofSet m.f m.won)).sets) ∧ w'.cell? ⟨q, 1, none⟩ = some (.int .i64 ((M.ofSet m.f m.won)).games) ∧ w'.cell? ⟨q, 2, none⟩ = some (.bool ((M.ofSet m.f m.won)).noAd) ∧ w'.cell? ⟨q, 3, none⟩ = some (.int .i64 ((M.ofSet m.f m.won)).tie) ∧ w'.cell? ⟨q, 4, none⟩ = some (.int .i64 ((M.ofSet m.f m.won)).to) ∧ w'.cell? ⟨q, 5, none⟩ = some (.int .i64 ((M.ofSet m.f m.won)).lastTie) ∧ w'.cell? ⟨q, 6, none⟩ = some (.int .i64 ((M.ofSet m.f m.won)).lastTo) ∧ w'.cell? ⟨q, 7, none⟩ = some (.int .i64 ((M.ofSet m.f m.won)).first) ∧ w'.cell? ⟨q, 8, none⟩ = some (.int .i64 ((M.ofSet m.f m.won)).next) ∧ w'.cell? ⟨q, 9, none⟩ = some (.bool ((M.ofSet m.f m.won)).doubles))) (by kernel_rfl) ?_ (fun hHeld0 => ?_)
    · (try dsimp only); (first | (go_keep; done) | (go_split_ands; (repeat' apply And.intro) <;> first | (go_keep; done) | (simp [*, World.cell?_alloc_at, World.cell?_alloc_past, World.frozen?_alloc_at, World.frozen?_alloc_past]; done) | (simp [World.cell?_alloc_at, World.cell?_alloc_past]; done) | (simp [World.cell?_alloc_at, World.cell?_alloc_past]; rfl) | (simp [*, World.cell?_setCell_same', World.cell?_setCell_other, World.cell?_alloc_some]; done) | (refine (hc _ _ (by first | (simp; done) | (simp; omega) | omega)).trans ?_; (first | (go_keep; done) | assumption | (simp [*, World.cell?_alloc_at, World.cell?_alloc_past, World.frozen?_alloc_at, World.frozen?_alloc_past]; done) | (simp [World.cell?_alloc_at, World.cell?_alloc_past]; rfl))) | (refine (hf _ _ (by first | (simp; done) | (simp; omega) | omega)).trans ?_; (first | (go_keep; done) | assumption | (simp [*, World.cell?_alloc_at, World.cell?_alloc_past, World.frozen?_alloc_at, World.frozen?_alloc_past]; done))) | (repeat' first | exact Below.refl _ _ | assumption | refine Below.drew ?_ | refine Below.alloc ?_ ?_ _ | refine Below.setCell ?_ ?_ _ | refine Below.trans ?_ (Below.mono (by assumption) ?_) | (simp; done) | (simp; omega) | omega) | (simp; omega) | omega))
    refine takeL (v := ?_) 0 rfl (by kernel_rfl) (by kernel_rfl) (by kernel_rfl) (fun _ _ _ h => h) (Or.inl ⟨by rfl, ?_⟩) (by assumption) ?_
    rotate_left
    · (intro w hSw; (try dsimp only at hSw); go_simp; try with_reducible rfl)
    try simp only [Act.put, List.setIfInBounds_toArray, List.set_cons_zero, List.set_cons_succ]
    refine takeL (v := ?_) 1 rfl (by kernel_rfl) (by kernel_rfl) (by kernel_rfl) (fun _ _ _ h => h) (Or.inl ⟨by rfl, ?_⟩) (by assumption) ?_
    rotate_left
    · (intro w hSw; (try dsimp only at hSw); go_simp; try with_reducible rfl)
    try simp only [Act.put, List.setIfInBounds_toArray, List.set_cons_zero, List.set_cons_succ]
    refine takeL (v := ?_) 2 rfl (by kernel_rfl) (by kernel_rfl) (by kernel_rfl) (fun _ _ _ h => h) (Or.inl ⟨by rfl, ?_⟩) (by assumption) ?_
    rotate_left
    · (intro w hSw; (try dsimp only at hSw); go_simp; try with_reducible rfl)
    try simp only [Act.put, List.setIfInBounds_toArray, List.set_cons_zero, List.set_cons_succ]
    refine takeL (v := ?_) 3 rfl (by kernel_rfl) (by kernel_rfl) (by kernel_rfl) (fun _ _ _ h => h) (Or.inl ⟨by rfl, ?_⟩) (by assumption) ?_
    rotate_left
    · (intro w hSw; (try dsimp only at hSw); go_simp; try with_reducible rfl)
    try simp only [Act.put, List.setIfInBounds_toArray, List.set_cons_zero, List.set_cons_succ]
    refine takeL (v := ?_) 4 rfl (by kernel_rfl) (by kernel_rfl) (by kernel_rfl) (fun _ _ _ h => h) (Or.inl ⟨by rfl, ?_⟩) (by assumption) ?_
    rotate_left
    · (intro w hSw; (try dsimp only at hSw); go_simp; try with_reducible rfl)
    try simp only [Act.put, List.setIfInBounds_toArray, List.set_cons_zero, List.set_cons_succ]
    refine takeL (v := ?_) 5 rfl (by kernel_rfl) (by kernel_rfl) (by kernel_rfl) (fun _ _ _ h => h) (Or.inl ⟨by rfl, ?_⟩) (by assumption) ?_
    rotate_left
    · (intro w hSw; (try dsimp only at hSw); go_simp; try with_reducible rfl)
    try simp only [Act.put, List.setIfInBounds_toArray, List.set_cons_zero, List.set_cons_succ]
    refine takeL (v := ?_) 6 rfl (by kernel_rfl) (by kernel_rfl) (by kernel_rfl) (fun _ _ _ h => h) (Or.inl ⟨by rfl, ?_⟩) (by assumption) ?_
    rotate_left
    · (intro w hSw; (try dsimp only at hSw); go_simp; try with_reducible rfl)
    try simp only [Act.put, List.setIfInBounds_toArray, List.set_cons_zero, List.set_cons_succ]
    refine takeL (v := ?_) 7 rfl (by kernel_rfl) (by kernel_rfl) (by kernel_rfl) (fun _ _ _ h => h) (Or.inl ⟨by rfl, ?_⟩) (by assumption) ?_
    rotate_left
    · (intro w hSw; (try dsimp only at hSw); go_simp; try with_reducible rfl)
    try simp only [Act.put, List.setIfInBounds_toArray, List.set_cons_zero, List.set_cons_succ]
    refine takeL (v := ?_) 8 rfl (by kernel_rfl) (by kernel_rfl) (by kernel_rfl) (fun _ _ _ h => h) (Or.inl ⟨by rfl, ?_⟩) (by assumption) ?_
    rotate_left
    · (intro w hSw; (try dsimp only at hSw); go_simp; try with_reducible rfl)
    try simp only [Act.put, List.setIfInBounds_toArray, List.set_cons_zero, List.set_cons_succ]
    refine wpAnyH_ready (rs := [9]) (by kernel_rfl) (by simp) ?_
    refine consL 9 rfl (fun K hK => ?_) AllReadyH.nil
    go_simp
    (first | (go_at_call 72; refine (endsGame_any (M.ofSet m.f m.won) (M.isTie (M.ofSet m.f m.won) m.games) (M.plus m.pts side) side _ HP1.out hs0 hs1).mono ?_; rintro e w6 ⟨rfl, hbw6⟩; obtain ⟨hc, hf⟩ := bcell hbw6; have hzw6 := hbw6.size; (try simp at hzw6)))
    refine hK.out _ _ ?_ (fun hHeld1 => ?_)
    · (try dsimp only); (first | (go_keep; done) | (go_split_ands; (repeat' apply And.intro) <;> first | (go_keep; done) | (simp [*, World.cell?_alloc_at, World.cell?_alloc_past, World.frozen?_alloc_at, World.frozen?_alloc_past]; done) | (simp [World.cell?_alloc_at, World.cell?_alloc_past]; done) | (simp [World.cell?_alloc_at, World.cell?_alloc_past]; rfl) | (simp [*, World.cell?_setCell_same', World.cell?_setCell_other, World.cell?_alloc_some]; done) | (refine (hc _ _ (by first | (simp; done) | (simp; omega) | omega)).trans ?_; (first | (go_keep; done) | assumption | (simp [*, World.cell?_alloc_at, World.cell?_alloc_past, World.frozen?_alloc_at, World.frozen?_alloc_past]; done) | (simp [World.cell?_alloc_at, World.cell?_alloc_past]; rfl))) | (refine (hf _ _ (by first | (simp; done) | (simp; omega) | omega)).trans ?_; (first | (go_keep; done) | assumption | (simp [*, World.cell?_alloc_at, World.cell?_alloc_past, World.frozen?_alloc_at, World.frozen?_alloc_past]; done))) | (repeat' first | exact Below.refl _ _ | assumption | refine Below.drew ?_ | refine Below.alloc ?_ ?_ _ | refine Below.setCell ?_ ?_ _ | refine Below.trans ?_ (Below.mono (by assumption) ?_) | (simp; done) | (simp; omega) | omega) | (simp; omega) | omega))
    clear hK K hHeld0
    try simp only [Act.put, List.setIfInBounds_toArray, List.set_cons_zero, List.set_cons_succ]
    refine takeL (v := ?_) 10 rfl (by kernel_rfl) (by kernel_rfl) (by kernel_rfl) (fun _ _ _ h => h) (Or.inl ⟨by rfl, ?_⟩) (by assumption) ?_
    rotate_left
    · (intro w hSw; (try dsimp only at hSw); go_simp; try with_reducible rfl)
    try simp only [Act.put, List.setIfInBounds_toArray, List.set_cons_zero, List.set_cons_succ]
    refine wpAnyH_done (by kernel_rfl) ?_ _
    have h6 := H5.out.drew.drew.below hbw6
    have HF6 := hide ((show BoxAt w5.drew.drew q (M.ofSet m.f m.won) from HF5.out).below hbw6 (by simp; omega))
    have hB6 : Below base w w6 := hB5.drew.drew.trans (hbw6.mono (by simp; omega))
    have H6 := hide h6
    have c6 := h6.mc
    dsimp only at c6
    have fr6 := h6.fr
    have hl6 := h6.lt
    have f6 := HF6.out
    unfold BoxAt at f6
    clear h6 c5 f5 hHeld1 hHeld0 hc hf
    cases hE : M.endsGame (M.ofSet m.f m.won) (M.isTie (M.ofSet m.f m.won) m.games) (M.plus m.pts side) side
    · have HEE := hide hE
      clear hE
      cases hT : M.isTie (M.ofSet m.f m.won) m.games
      · have HTT := hide hT
        clear hT
        go_wp2
        go_end0
        refine ⟨rfl, ⟨sv, gv, ?_⟩, hB6⟩
        have e : M.point m side = { m with pts := M.plus m.pts side } := point_not HEE.out HTT.out
        rw [e]; exact H6.out
      · have HTT := hide hT
        clear hT
        obtain ⟨A, c, eA⟩ := own_form H6.out.2.2.2
        dsimp only at eA
        subst eA
        cases h6b : (((M.plus m.pts side).A + (M.plus m.pts side).B) % 6 == 0)
        · have H6B := hide h6b
          go_wp2_with (first | (go_at_call 74; refine (server_any b m.opens m.log.length (((M.plus m.pts side).A + (M.plus m.pts side).B + 1) / 2) m.f.doubles _ (by have cc := H6.out.mc; (dsimp only at cc); go_split_ands; assumption) (by have cc := H6.out.mc; (dsimp only at cc); go_split_ands; assumption) HM.out.op.1 HM.out.op.2 (by omega) (by have := HM.out.log; omega) (by have := HPB.out; omega) (by have := HPB.out; omega)).mono ?_; rintro e w8 ⟨rfl, hb8⟩; have h8 := H6.out.below hb8; have c8 := h8.mc; (dsimp only at c8); have fr8 := h8.fr; have hz8 := hb8.size; (try simp at hz8); have H8 := hide h8; clear h8))
          have h9 : MAt (w8.setCell ⟨b, 15, none⟩ (.int .i64 (M.serverOf m.opens m.f.doubles m.log.length (((M.plus m.pts side).A + (M.plus m.pts side).B + 1) / 2)))) base b { m with pts := M.plus m.pts side, server := M.serverOf m.opens m.f.doubles m.log.length (((M.plus m.pts side).A + (M.plus m.pts side).B + 1) / 2) } sv (.slice A m.log.length c) := H8.out.set 15 (.int .i64 (M.serverOf m.opens m.f.doubles m.log.length (((M.plus m.pts side).A + (M.plus m.pts side).B + 1) / 2))) rfl rfl rfl
          go_end0
          refine ⟨rfl, ⟨sv, .slice A m.log.length c, ?_⟩, Below.setCell (hB6.trans (hb8.mono (by omega))) (by exact hbb) _⟩
          have hp : ¬ (((M.plus m.pts side).A + (M.plus m.pts side).B) % 6 = 0) := by simpa using H6B.out
          have e : M.point m side = { m with pts := M.plus m.pts side, server := M.serverOf m.opens m.f.doubles m.log.length (((M.plus m.pts side).A + (M.plus m.pts side).B + 1) / 2) } := by rw [point_tie HEE.out HTT.out, if_neg hp]
          rw [e]; exact h9
        · have H6B := hide h6b
          have he0 := HM.out.ends.1
          have he1 := HM.out.ends.2
          have h7 : MAt (w6.setCell ⟨b, 16, none⟩ (.int .i64 (m.ends + 1))) base b { m with pts := M.plus m.pts side, ends := m.ends + 1 } sv (.slice A m.log.length c) := H6.out.set 16 (.int .i64 (m.ends + 1)) rfl rfl rfl
          have H7 := hide h7
          have hB7 := hB6.setCell (p := ⟨b, 16, none⟩) (by exact hbb) (.int .i64 (m.ends + 1))
          clear h7
          go_wp2_with (first | (go_at_call 74; refine (server_any b m.opens m.log.length (((M.plus m.pts side).A + (M.plus m.pts side).B + 1) / 2) m.f.doubles _ (by have cc := H7.out.mc; (dsimp only at cc); go_split_ands; assumption) (by have cc := H7.out.mc; (dsimp only at cc); go_split_ands; assumption) HM.out.op.1 HM.out.op.2 (by omega) (by have := HM.out.log; omega) (by have := HPB.out; omega) (by have := HPB.out; omega)).mono ?_; rintro e w8 ⟨rfl, hb8⟩; have h8 := H7.out.below hb8; have c8 := h8.mc; (dsimp only at c8); have fr8 := h8.fr; have hz8 := hb8.size; (try simp at hz8); have H8 := hide h8; clear h8))
          have h9 : MAt (w8.setCell ⟨b, 15, none⟩ (.int .i64 (M.serverOf m.opens m.f.doubles m.log.length (((M.plus m.pts side).A + (M.plus m.pts side).B + 1) / 2)))) base b { m with pts := M.plus m.pts side, ends := m.ends + 1, server := M.serverOf m.opens m.f.doubles m.log.length (((M.plus m.pts side).A + (M.plus m.pts side).B + 1) / 2) } sv (.slice A m.log.length c) := H8.out.set 15 (.int .i64 (M.serverOf m.opens m.f.doubles m.log.length (((M.plus m.pts side).A + (M.plus m.pts side).B + 1) / 2))) rfl rfl rfl
          go_end0
          refine ⟨rfl, ⟨sv, .slice A m.log.length c, ?_⟩, Below.setCell (hB7.trans (hb8.mono (by simp; omega))) (by exact hbb) _⟩
          have hp : ((M.plus m.pts side).A + (M.plus m.pts side).B) % 6 = 0 := by simpa using H6B.out
          have e : M.point m side = { m with pts := M.plus m.pts side, ends := m.ends + 1, server := M.serverOf m.opens m.f.doubles m.log.length (((M.plus m.pts side).A + (M.plus m.pts side).B + 1) / 2) } := by rw [point_tie HEE.out HTT.out, if_pos hp]
          rw [e]; exact h9
    · have HEE := hide hE
      clear hE
      have e : M.point m side = M.endGame { m with pts := M.plus m.pts side } side := point_end HEE.out
      have HPE := hide e
      clear e
      go_wp2_with (first | (go_at_call 73; refine (endGame_any (m := { m with pts := M.plus m.pts side }) side H6.out HM.out.v (by have := HM.out.log; show m.log.length ≤ _; omega) HM.out.op (by have := HM.out.balls; show 0 ≤ m.balls ∧ m.balls ≤ _; omega) ⟨small_of HM.out.games (by omega), by have := HM.out.games; show m.games.A ≤ _ ∧ m.games.B ≤ _; omega⟩ (by have := HM.out.sets; show m.sets.length ≤ _; omega) (by have := HM.out.games; exact ⟨this.1, this.2.1⟩) (small_of HM.out.won (by omega)) (by have := HM.out.ends; show 0 ≤ m.ends ∧ m.ends ≤ _; omega)).mono ?_; rintro e w8 ⟨rfl, hm8, hb8⟩; have HM8 := hide hm8; clear hm8))
      go_end0
      refine ⟨rfl, ?_, hB6.trans hb8⟩
      rw [HPE.out]
      exact HM8.out

end Go.Proofs.Ytlhbimifhclojaa
