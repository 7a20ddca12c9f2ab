/-
  Part of a claim's texts: contracts of the program's functions and the plain functions that they compute, in build order.
-/
import Derived.Laws.Tables
import Derived.Deep.Cut
import Derived.KernelRfl
import Derived.Test.YtmhaapghiecfcaaRows
import Derived.WalkKit
import Derived.WalkSpells
import Derived.WalkLawsBesides
import Derived.DeepKeys4
import Derived.Maps.OwnOps
import Derived.Maps.Views
import Derived.Maps.OwnSet
import Derived.Test.YtmhaapghiecfcaaZB01
import Derived.Test.YtmhaapghiecfcaaZB02
import Derived.Test.YtmhaapghiecfcaaZB03
namespace Go.Proofs.Ytmhaapghiecfcaa
open Go.RowKit
attribute [local go_sem ↓] Go.wp_at_zero Go.wp_at_succ

set_option maxHeartbeats 1600000 in
theorem endsGame_any (f : M.Fm) (t : Bool) (p : M.Pr) (s : Int) (w : World) (hp : M.Small p) (hs0 : 0 ≤ s) (hs1 : s ≤ 1) :
    Calls Try.prog 77 #[.agg #[.int .i64 f.sets, .int .i64 f.games, .bool f.noAd, .int .i64 f.tie, .int .i64 f.to, .int .i64 f.lastTie, .int .i64 f.lastTo, .int .i64 f.first, .int .i64 f.next, .bool f.doubles], .bool t, .agg #[.int .i64 p.A, .int .i64 p.B], .int .i64 s] w fun e w' => e = .returned (.bool (M.endsGame f t p s)) ∧ Below w.heap.size w w' := by
  have b1 := hp.of_lo s
  have b2 := hp.of_hi s
  have b3 := hp.of_lo (1 - s)
  have b4 := hp.of_hi (1 - s)
  have e1 : IntKind.i64.wrap (1 - s) = 1 - s := IntWalk.i64_in _ (by omega)
  have e2 : IntKind.i64.wrap (M.of p s - M.of p (1 - s)) = M.of p s - M.of p (1 - s) := IntWalk.i64_in _ (by omega)
  cases h1 : decide (M.aimTo f t ≤ M.of p s)
  · have ho : M.endsGame f t p s = false := by unfold M.endsGame; rw [h1]; rfl
    rw [ho]; clear ho
    go_enter Try.func77, Try.ntmps77
    go_wp2_with (go_at_call 84; refine (aims_any f t _).mono ?_; rintro e w' ⟨rfl, hb⟩; obtain ⟨hc, hf⟩ := bcell hb; have hz := hb.size; (try simp at hz))
    refine wp_region_held_drew (S := (fun w' => w'.cell? ⟨w.heap.size + 1, 0, none⟩ = some (.int .i64 p.A) ∧ w'.cell? ⟨w.heap.size + 1, 1, none⟩ = some (.int .i64 p.B) ∧ Below w.heap.size w w' ∧ w.heap.size < w'.heap.size ∧ w.heap.size + 1 < w'.heap.size)) (by kernel_rfl) ?_ (fun hD0 => ?_)
    · (try dsimp only); (exact kp)
    refine tW ?_ 0 rfl (by kernel_rfl) (fun _ _ _ h => h) (by rfl) (by assumption) ?_ ?_; rotate_left; (focus (intro w hSw; (try dsimp only at hSw); go_simp; try with_reducible rfl)); try simp only [Act.put, zl, z0, z1]
    refine tW ?_ 1 rfl (by kernel_rfl) (fun _ _ _ h => h) (by rfl) (by assumption) ?_ ?_; rotate_left; (focus (intro w hSw; (try dsimp only at hSw); go_simp; try with_reducible rfl)); try simp only [Act.put, zl, z0, z1]
    refine tW ?_ 3 rfl (by kernel_rfl) (fun _ _ _ h => h) (by rfl) (by assumption) ?_ ?_; rotate_left; (focus (intro w hSw; (try dsimp only at hSw); go_simp; try with_reducible rfl)); try simp only [Act.put, zl, z0, z1]
    refine wpAnyH_ready (rs := [2]) (by kernel_rfl) (by simp) ?_; refine consL 2 rfl (fun K hK => ?_) AllReadyH.nil; go_simp
    (go_at_call 72; refine (of_any p _ _).mono ?_; rintro e w' ⟨rfl, hb⟩; obtain ⟨hc, hf⟩ := bcell hb; have hz := hb.size; (try simp at hz))
    refine hK.out _ _ ?_ (fun hD1 => ?_)
    · (try dsimp only); (exact kp)
    clear hK K hD0; try simp only [Act.put, zl, z0, z1]
    refine tW ?_ 4 rfl (by kernel_rfl) (fun _ _ _ h => h) (by rfl) (by assumption) ?_ ?_; rotate_left; (focus (intro w hSw; (try dsimp only at hSw); go_simp; try with_reducible rfl)); try simp only [Act.put, zl, z0, z1]
    refine tW ?_ 5 rfl (by kernel_rfl) (fun _ _ _ h => h) (by rfl) (by assumption) ?_ ?_; rotate_left; (focus (intro w hSw; (try dsimp only at hSw); go_simp; try with_reducible rfl)); try simp only [Act.put, zl, z0, z1]
    refine takeL 6 rfl (by kernel_rfl) (by kernel_rfl) (by kernel_rfl) (fun _ _ _ h => h) (Or.inr ⟨by rfl, rfl⟩) (by assumption) ?_; try simp only [Act.put, zl, z0, z1]
    refine takeL 7 rfl (by kernel_rfl) (by kernel_rfl) (by kernel_rfl) (fun _ _ _ h => h) (Or.inr ⟨by rfl, rfl⟩) (by assumption) ?_; try simp only [Act.put, zl, z0, z1]
    refine takeL 8 rfl (by kernel_rfl) (by kernel_rfl) (by kernel_rfl) (fun _ _ _ h => h) (Or.inr ⟨by rfl, rfl⟩) (by assumption) ?_; try simp only [Act.put, zl, z0, z1]
    refine takeL 9 rfl (by kernel_rfl) (by kernel_rfl) (by kernel_rfl) (fun _ _ _ h => h) (Or.inr ⟨by rfl, rfl⟩) (by assumption) ?_; try simp only [Act.put, zl, z0, z1]
    refine takeL 10 rfl (by kernel_rfl) (by kernel_rfl) (by kernel_rfl) (fun _ _ _ h => h) (Or.inr ⟨by rfl, rfl⟩) (by assumption) ?_; try simp only [Act.put, zl, z0, z1]
    refine takeL 11 rfl (by kernel_rfl) (by kernel_rfl) (by kernel_rfl) (fun _ _ _ h => h) (Or.inr ⟨by rfl, rfl⟩) (by assumption) ?_; try simp only [Act.put, zl, z0, z1]
    refine takeL 12 rfl (by kernel_rfl) (by kernel_rfl) (by kernel_rfl) (fun _ _ _ h => h) (Or.inr ⟨by rfl, rfl⟩) (by assumption) ?_; try simp only [Act.put, zl, z0, z1]
    refine takeL 13 rfl (by kernel_rfl) (by kernel_rfl) (by kernel_rfl) (fun _ _ _ h => h) (Or.inr ⟨by rfl, rfl⟩) (by assumption) ?_; try simp only [Act.put, zl, z0, z1]
    refine takeL 14 rfl (by kernel_rfl) (by kernel_rfl) (by kernel_rfl) (fun _ _ _ h => h) (Or.inr ⟨by rfl, rfl⟩) (by assumption) ?_; try simp only [Act.put, zl, z0, z1]
    refine takeL 15 rfl (by kernel_rfl) (by kernel_rfl) (by kernel_rfl) (fun _ _ _ h => h) (Or.inr ⟨by rfl, rfl⟩) (by assumption) ?_; try simp only [Act.put, zl, z0, z1]
    refine tW ?_ 16 rfl (by kernel_rfl) (fun _ _ _ h => h) (by rfl) (by assumption) ?_ ?_; rotate_left; (focus (intro w hSw; (try dsimp only at hSw); go_simp; try with_reducible rfl)); try simp only [Act.put, zl, z0, z1]
    refine tW ?_ 17 rfl (by kernel_rfl) (fun _ _ _ h => h) (by rfl) (by assumption) ?_ ?_; rotate_left; (focus (intro w hSw; (try dsimp only at hSw); go_simp; try with_reducible rfl)); try simp only [Act.put, zl, z0, z1]
    refine wpAnyH_done (by kernel_rfl) ?_ _
    go_wp2
    go_ret
    exact ⟨rfl, by go_split_ands; assumption⟩
  · cases h2 : decide (M.aimLead f t ≤ M.of p s - M.of p (1 - s))
    all_goals
      first
        | (have ho : M.endsGame f t p s = false := by (unfold M.endsGame; rw [h1, h2]; rfl)
           rw [ho]; clear ho)
        | (have ho : M.endsGame f t p s = true := by (unfold M.endsGame; rw [h1, h2]; rfl)
           rw [ho]; clear ho)
      go_enter Try.func77, Try.ntmps77
      go_wp2_with (go_at_call 84; refine (aims_any f t _).mono ?_; rintro e w' ⟨rfl, hb⟩; obtain ⟨hc, hf⟩ := bcell hb; have hz := hb.size; (try simp at hz))
      refine wp_region_held_drew (S := (fun w' => w'.cell? ⟨w.heap.size + 1, 0, none⟩ = some (.int .i64 p.A) ∧ w'.cell? ⟨w.heap.size + 1, 1, none⟩ = some (.int .i64 p.B) ∧ Below w.heap.size w w' ∧ w.heap.size < w'.heap.size ∧ w.heap.size + 1 < w'.heap.size)) (by kernel_rfl) ?_ (fun hD0 => ?_)
      · (try dsimp only); (exact kp)
      refine tW ?_ 0 rfl (by kernel_rfl) (fun _ _ _ h => h) (by rfl) (by assumption) ?_ ?_; rotate_left; (focus (intro w hSw; (try dsimp only at hSw); go_simp; try with_reducible rfl)); try simp only [Act.put, zl, z0, z1]
      refine tW ?_ 1 rfl (by kernel_rfl) (fun _ _ _ h => h) (by rfl) (by assumption) ?_ ?_; rotate_left; (focus (intro w hSw; (try dsimp only at hSw); go_simp; try with_reducible rfl)); try simp only [Act.put, zl, z0, z1]
      refine tW ?_ 3 rfl (by kernel_rfl) (fun _ _ _ h => h) (by rfl) (by assumption) ?_ ?_; rotate_left; (focus (intro w hSw; (try dsimp only at hSw); go_simp; try with_reducible rfl)); try simp only [Act.put, zl, z0, z1]
      refine wpAnyH_ready (rs := [2]) (by kernel_rfl) (by simp) ?_; refine consL 2 rfl (fun K hK => ?_) AllReadyH.nil; go_simp
      (go_at_call 72; refine (of_any p _ _).mono ?_; rintro e w' ⟨rfl, hb⟩; obtain ⟨hc, hf⟩ := bcell hb; have hz := hb.size; (try simp at hz))
      refine hK.out _ _ ?_ (fun hD1 => ?_)
      · (try dsimp only); (exact kp)
      clear hK K hD0; try simp only [Act.put, zl, z0, z1]
      refine tW ?_ 4 rfl (by kernel_rfl) (fun _ _ _ h => h) (by rfl) (by assumption) ?_ ?_; rotate_left; (focus (intro w hSw; (try dsimp only at hSw); go_simp; try with_reducible rfl)); try simp only [Act.put, zl, z0, z1]
      refine tW ?_ 5 rfl (by kernel_rfl) (fun _ _ _ h => h) (by rfl) (by assumption) ?_ ?_; rotate_left; (focus (intro w hSw; (try dsimp only at hSw); go_simp; try with_reducible rfl)); try simp only [Act.put, zl, z0, z1]
      refine tW ?_ 6 rfl (by kernel_rfl) (fun _ _ _ h => h) (by rfl) (by assumption) ?_ ?_; rotate_left; (focus (intro w hSw; (try dsimp only at hSw); go_simp; try with_reducible rfl)); try simp only [Act.put, zl, z0, z1]
      refine tW ?_ 7 rfl (by kernel_rfl) (fun _ _ _ h => h) (by rfl) (by assumption) ?_ ?_; rotate_left; (focus (intro w hSw; (try dsimp only at hSw); go_simp; try with_reducible rfl)); try simp only [Act.put, zl, z0, z1]
      refine tW ?_ 9 rfl (by kernel_rfl) (fun _ _ _ h => h) (by rfl) (by assumption) ?_ ?_; rotate_left; (focus (intro w hSw; (try dsimp only at hSw); go_simp; try with_reducible rfl)); try simp only [Act.put, zl, z0, z1]
      refine tW ?_ 10 rfl (by kernel_rfl) (fun _ _ _ h => h) (by rfl) (by assumption) ?_ ?_; rotate_left; (focus (intro w hSw; (try dsimp only at hSw); go_simp; try with_reducible rfl)); try simp only [Act.put, zl, z0, z1]
      refine tW ?_ 11 rfl (by kernel_rfl) (fun _ _ _ h => h) (by rfl) (by assumption) ?_ ?_; rotate_left; (focus (intro w hSw; (try dsimp only at hSw); go_simp; try with_reducible rfl)); try simp only [Act.put, zl, z0, z1]
      refine tW ?_ 14 rfl (by kernel_rfl) (fun _ _ _ h => h) (by rfl) (by assumption) ?_ ?_; rotate_left; (focus (intro w hSw; (try dsimp only at hSw); go_simp; try with_reducible rfl)); try simp only [Act.put, zl, z0, z1]
      refine wpAnyH_ready (rs := [8]) (by kernel_rfl) (by simp) ?_; refine consL 8 rfl (fun K hK => ?_) AllReadyH.nil; go_simp
      (go_at_call 72; refine (of_any p _ _).mono ?_; rintro e w' ⟨rfl, hb⟩; obtain ⟨hc, hf⟩ := bcell hb; have hz := hb.size; (try simp at hz))
      refine hK.out _ _ ?_ (fun hD2 => ?_)
      · (try dsimp only); (exact kp)
      clear hK K hD1; try simp only [Act.put, zl, z0, z1]
      refine wpAnyH_ready (rs := [12]) (by kernel_rfl) (by simp) ?_; refine consL 12 rfl (fun K hK => ?_) AllReadyH.nil; go_simp
      (go_at_call 72; refine (of_any p _ _).mono ?_; rintro e w' ⟨rfl, hb⟩; obtain ⟨hc, hf⟩ := bcell hb; have hz := hb.size; (try simp at hz))
      refine hK.out _ _ ?_ (fun hD3 => ?_)
      · (try dsimp only); (exact kp)
      clear hK K hD2; try simp only [Act.put, zl, z0, z1]
      refine tW ?_ 13 rfl (by kernel_rfl) (fun _ _ _ h => h) (by rfl) (by assumption) ?_ ?_; rotate_left; (focus (intro w hSw; (try dsimp only at hSw); go_simp; try with_reducible rfl)); try simp only [Act.put, zl, z0, z1]
      refine tW ?_ 15 rfl (by kernel_rfl) (fun _ _ _ h => h) (by rfl) (by assumption) ?_ ?_; rotate_left; (focus (intro w hSw; (try dsimp only at hSw); go_simp; try with_reducible rfl)); try simp only [Act.put, zl, z0, z1]
      refine tW ?_ 16 rfl (by kernel_rfl) (fun _ _ _ h => h) (by rfl) (by assumption) ?_ ?_; rotate_left; (focus (intro w hSw; (try dsimp only at hSw); go_simp; try with_reducible rfl)); try simp only [Act.put, zl, z0, z1]
      refine tW ?_ 17 rfl (by kernel_rfl) (fun _ _ _ h => h) (by rfl) (by assumption) ?_ ?_; rotate_left; (focus (intro w hSw; (try dsimp only at hSw); go_simp; try with_reducible rfl)); try simp only [Act.put, zl, z0, z1]
      refine wpAnyH_done (by kernel_rfl) ?_ _
      go_wp2
      go_ret
      exact ⟨rfl, by go_split_ands; assumption⟩

end Go.Proofs.Ytmhaapghiecfcaa

namespace Go.Proofs.Ytmhaapghiecfcaa
open Go.RowKit
attribute [local go_sem ↓] Go.wp_at_zero Go.wp_at_succ

structure M.Ok (m : M.Mt) (k : Nat) : Prop where
  v : M.Valid m.f
  log : m.log.length ≤ k
  sets : m.sets.length ≤ k
  op : 0 ≤ m.opens ∧ m.opens ≤ 1
  balls : 0 ≤ m.balls ∧ m.balls ≤ k
  ends : 0 ≤ m.ends ∧ m.ends ≤ k
  games : 0 ≤ m.games.A ∧ 0 ≤ m.games.B ∧ m.games.A ≤ k ∧ m.games.B ≤ k
  pts : 0 ≤ m.pts.A ∧ 0 ≤ m.pts.B ∧ m.pts.A ≤ k ∧ m.pts.B ≤ k
  won : 0 ≤ m.won.A ∧ 0 ≤ m.won.B ∧ m.won.A ≤ k ∧ m.won.B ≤ k
theorem small_of {p : M.Pr} {k : Nat} (h : 0 ≤ p.A ∧ 0 ≤ p.B ∧ p.A ≤ k ∧ p.B ≤ k) (hk : k ≤ 10000) : M.Small p := ⟨by omega, by omega, by omega, by omega⟩
theorem plus_le {p : M.Pr} {k : Nat} (side : Int) (h : 0 ≤ p.A ∧ 0 ≤ p.B ∧ p.A ≤ k ∧ p.B ≤ k) : 0 ≤ (M.plus p side).A ∧ 0 ≤ (M.plus p side).B ∧ (M.plus p side).A ≤ (k + 1 : Nat) ∧ (M.plus p side).B ≤ (k + 1 : Nat) := by
  unfold M.plus
  split <;> (dsimp only; omega)

def BoxAt (w : World) (q : Nat) (f : M.Fm) : Prop := w.cell? ⟨q, 0, none⟩ = some (.int .i64 f.sets) ∧ w.cell? ⟨q, 1, none⟩ = some (.int .i64 f.games) ∧ w.cell? ⟨q, 2, none⟩ = some (.bool f.noAd) ∧ w.cell? ⟨q, 3, none⟩ = some (.int .i64 f.tie) ∧ w.cell? ⟨q, 4, none⟩ = some (.int .i64 f.to) ∧ w.cell? ⟨q, 5, none⟩ = some (.int .i64 f.lastTie) ∧ w.cell? ⟨q, 6, none⟩ = some (.int .i64 f.lastTo) ∧ w.cell? ⟨q, 7, none⟩ = some (.int .i64 f.first) ∧ w.cell? ⟨q, 8, none⟩ = some (.int .i64 f.next) ∧ w.cell? ⟨q, 9, none⟩ = some (.bool f.doubles)
theorem BoxAt.below {w w' : World} {q : Nat} {f : M.Fm} (h : BoxAt w q f) (hb : Below w.heap.size w w') (hq : q < w.heap.size) : BoxAt w' q f := by
  have hc := (bcell hb).1
  unfold BoxAt at *
  simpa only [hc _ _ hq] using h
theorem BoxAt.set {w : World} {q b : Nat} {f : M.Fm} (h : BoxAt w q f) (hne : b ≠ q) (i : Nat) (u : Value) : BoxAt (w.setCell ⟨b, i, none⟩ u) q f := by
  have hc : ∀ j, (w.setCell ⟨b, i, none⟩ u).cell? ⟨q, j, none⟩ = w.cell? ⟨q, j, none⟩ := fun j => World.cell?_setCell_far _ _ _ _ hne
  unfold BoxAt at *
  simpa only [hc] using h

theorem point_end {m : M.Mt} {side : Int} (h : M.endsGame (M.ofSet m.f m.won) (M.isTie (M.ofSet m.f m.won) m.games) (M.plus m.pts side) side = true) : M.point m side = M.endGame { m with pts := M.plus m.pts side } side := if_pos h
theorem point_not {m : M.Mt} {side : Int} (h : M.endsGame (M.ofSet m.f m.won) (M.isTie (M.ofSet m.f m.won) m.games) (M.plus m.pts side) side = false) (ht : M.isTie (M.ofSet m.f m.won) m.games = false) : M.point m side = { m with pts := M.plus m.pts side } :=
  (if_neg (fun h' => by rw [h] at h'; cases h')).trans (if_neg (fun h' => by rw [ht] at h'; cases h'))
theorem point_tie {m : M.Mt} {side : Int} (h : M.endsGame (M.ofSet m.f m.won) (M.isTie (M.ofSet m.f m.won) m.games) (M.plus m.pts side) side = false) (ht : M.isTie (M.ofSet m.f m.won) m.games = true) : M.point m side = { m with pts := M.plus m.pts side, ends := if ((M.plus m.pts side).A + (M.plus m.pts side).B) % 6 = 0 then m.ends + 1 else m.ends, server := M.serverOf m.opens m.f.doubles m.log.length (((M.plus m.pts side).A + (M.plus m.pts side).B + 1) / 2) } :=
  (if_neg (fun h' => by rw [h] at h'; cases h')).trans (if_pos ht)

theorem box_store {w1 : World} {q : Nat} {cs : Array Value} {t : TypeId} (f : M.Fm) (h0 : w1.heap[q]? = some (.cells cs t (0, 0))) (hs : cs.size = 10) : BoxAt ((((((((((w1.setCell ⟨q, 0, none⟩ (.int .i64 f.sets)).setCell ⟨q, 1, none⟩ (.int .i64 f.games)).setCell ⟨q, 2, none⟩ (.bool f.noAd)).setCell ⟨q, 3, none⟩ (.int .i64 f.tie)).setCell ⟨q, 4, none⟩ (.int .i64 f.to)).setCell ⟨q, 5, none⟩ (.int .i64 f.lastTie)).setCell ⟨q, 6, none⟩ (.int .i64 f.lastTo)).setCell ⟨q, 7, none⟩ (.int .i64 f.first)).setCell ⟨q, 8, none⟩ (.int .i64 f.next)).setCell ⟨q, 9, none⟩ (.bool f.doubles)) q f := by
  have h1 := blk_set h0 0 (.int .i64 f.sets)
  have h2 := blk_set h1 1 (.int .i64 f.games)
  have h3 := blk_set h2 2 (.bool f.noAd)
  have h4 := blk_set h3 3 (.int .i64 f.tie)
  have h5 := blk_set h4 4 (.int .i64 f.to)
  have h6 := blk_set h5 5 (.int .i64 f.lastTie)
  have h7 := blk_set h6 6 (.int .i64 f.lastTo)
  have h8 := blk_set h7 7 (.int .i64 f.first)
  have h9 := blk_set h8 8 (.int .i64 f.next)
  have h10 := blk_set h9 9 (.bool f.doubles)
  have e := fun i => cell_of_row _ _ i _ _ _ h10
  clear h0 h1 h2 h3 h4 h5 h6 h7 h8 h9 h10
  unfold BoxAt
  (repeat' apply And.intro) <;> (rw [e]; simp [hs])
theorem box_alloc (w1 : World) (f : M.Fm) : BoxAt (w1.alloc (.cells #[.int .i64 f.sets, .int .i64 f.games, .bool f.noAd, .int .i64 f.tie, .int .i64 f.to, .int .i64 f.lastTie, .int .i64 f.lastTo, .int .i64 f.first, .int .i64 f.next, .bool f.doubles] 23 (0, 0))) w1.heap.size f := by
  unfold BoxAt
  (repeat' apply And.intro) <;> exact (alloc_cell _ _ rfl _ _ _).trans rfl

set_option maxHeartbeats 8000000 in
set_option maxRecDepth 100000 in
theorem point_any {w : World} {base b : Nat} {m : M.Mt} {sv gv : Value} (side : Int) (k : Nat) (h : MAt w base b m sv gv) (hm : M.Ok m k) (hk : k ≤ 900) (hs0 : 0 ≤ side) (hs1 : side ≤ 1) :
    Calls Try.prog 62 #[.pointer (some ⟨b, 0, none⟩), .int .i64 side] w fun e w' => e = .returned (.tuple #[]) ∧ (∃ sv' gv', MAt w' base b (M.point m side) sv' gv') ∧ Below base w w' := by
  have H := hide h
  have HM := hide hm
  have HPS := hide (small_of hm.pts (by omega))
  have HPL := hide (plus_le side hm.pts)
  have HP1 := hide (small_of (plus_le side hm.pts) (by omega))
  have HSL : Hid (-1000 ≤ m.f.sets ∧ m.f.sets ≤ 1000) := hide (by have := hm.v.s0; have := hm.v.s1; omega)
  have hbb : base ≤ b := h.1
  have hmc0 := h.mc
  have hlb := h.lt
  have hlt0 : ¬ w.heap.size = b := by omega
  have hlt1 : ¬ b = w.heap.size := by omega
  clear h hm
  go_enter Try.func62, Try.ntmps62
  go_wp2_with fail
  refine wp_region_T_drew (S := (fun w' => b < w'.heap.size ∧ w'.cell? ⟨b, 0, none⟩ = some (.int .i64 m.f.sets) ∧ w'.cell? ⟨b, 1, none⟩ = some (.int .i64 m.f.games) ∧ w'.cell? ⟨b, 2, none⟩ = some (.bool m.f.noAd) ∧ w'.cell? ⟨b, 3, none⟩ = some (.int .i64 m.f.tie) ∧ w'.cell? ⟨b, 4, none⟩ = some (.int .i64 m.f.to) ∧ w'.cell? ⟨b, 5, none⟩ = some (.int .i64 m.f.lastTie) ∧ w'.cell? ⟨b, 6, none⟩ = some (.int .i64 m.f.lastTo) ∧ w'.cell? ⟨b, 7, none⟩ = some (.int .i64 m.f.first) ∧ w'.cell? ⟨b, 8, none⟩ = some (.int .i64 m.f.next) ∧ w'.cell? ⟨b, 9, none⟩ = some (.bool m.f.doubles) ∧ w'.cell? ⟨b, 10, none⟩ = some (sv) ∧ w'.cell? ⟨b, 11, none⟩ = some (.int .i64 m.games.A) ∧ w'.cell? ⟨b, 12, none⟩ = some (.int .i64 m.games.B) ∧ w'.cell? ⟨b, 13, none⟩ = some (.int .i64 m.pts.A) ∧ w'.cell? ⟨b, 14, none⟩ = some (.int .i64 m.pts.B) ∧ w'.cell? ⟨b, 15, none⟩ = some (.int .i64 m.server) ∧ w'.cell? ⟨b, 16, none⟩ = some (.int .i64 m.ends) ∧ w'.cell? ⟨b, 17, none⟩ = some (.int .i64 m.balls) ∧ w'.cell? ⟨b, 18, none⟩ = some (.int .i64 m.winner) ∧ w'.cell? ⟨b, 19, none⟩ = some (.int .i64 m.opens) ∧ w'.cell? ⟨b, 20, none⟩ = some (.int .i64 m.won.A) ∧ w'.cell? ⟨b, 21, none⟩ = some (.int .i64 m.won.B) ∧ w'.cell? ⟨b, 22, none⟩ = some (.bool m.fresh) ∧ w'.cell? ⟨b, 23, none⟩ = some (gv))) 10 (by kernel_rfl) ?_ (fun hD0 => ?_)
  · (try dsimp only); (exact kp)
  refine takeT (v := ?_) 0 rfl (by kernel_rfl) (by kernel_rfl) (by kernel_rfl) (by kernel_rfl) (fun _ _ _ h => h) (Or.inl ⟨by rfl, ?_⟩) (by assumption) ?_; rotate_left
  · (intro w hSw; (try dsimp only at hSw); go_simp; try with_reducible rfl)
  try simp only [Act.put, zl, z0, z1]
  refine takeT (v := ?_) 1 rfl (by kernel_rfl) (by kernel_rfl) (by kernel_rfl) (by kernel_rfl) (fun _ _ _ h => h) (Or.inl ⟨by rfl, ?_⟩) (by assumption) ?_; rotate_left
  · (intro w hSw; (try dsimp only at hSw); go_simp; try with_reducible rfl)
  try simp only [Act.put, zl, z0, z1]
  refine takeT (v := ?_) 2 rfl (by kernel_rfl) (by kernel_rfl) (by kernel_rfl) (by kernel_rfl) (fun _ _ _ h => h) (Or.inl ⟨by rfl, ?_⟩) (by assumption) ?_; rotate_left
  · (intro w hSw; (try dsimp only at hSw); go_simp; try with_reducible rfl)
  try simp only [Act.put, zl, z0, z1]
  refine takeT (v := ?_) 3 rfl (by kernel_rfl) (by kernel_rfl) (by kernel_rfl) (by kernel_rfl) (fun _ _ _ h => h) (Or.inl ⟨by rfl, ?_⟩) (by assumption) ?_; rotate_left
  · (intro w hSw; (try dsimp only at hSw); go_simp; try with_reducible rfl)
  try simp only [Act.put, zl, z0, z1]
  refine takeT (v := ?_) 4 rfl (by kernel_rfl) (by kernel_rfl) (by kernel_rfl) (by kernel_rfl) (fun _ _ _ h => h) (Or.inl ⟨by rfl, ?_⟩) (by assumption) ?_; rotate_left
  · (intro w hSw; (try dsimp only at hSw); go_simp; try with_reducible rfl)
  try simp only [Act.put, zl, z0, z1]
  refine takeT (v := ?_) 5 rfl (by kernel_rfl) (by kernel_rfl) (by kernel_rfl) (by kernel_rfl) (fun _ _ _ h => h) (Or.inl ⟨by rfl, ?_⟩) (by assumption) ?_; rotate_left
  · (intro w hSw; (try dsimp only at hSw); go_simp; try with_reducible rfl)
  try simp only [Act.put, zl, z0, z1]
  refine takeT (v := ?_) 6 rfl (by kernel_rfl) (by kernel_rfl) (by kernel_rfl) (by kernel_rfl) (fun _ _ _ h => h) (Or.inl ⟨by rfl, ?_⟩) (by assumption) ?_; rotate_left
  · (intro w hSw; (try dsimp only at hSw); go_simp; try with_reducible rfl)
  try simp only [Act.put, zl, z0, z1]
  refine takeT (v := ?_) 7 rfl (by kernel_rfl) (by kernel_rfl) (by kernel_rfl) (by kernel_rfl) (fun _ _ _ h => h) (Or.inl ⟨by rfl, ?_⟩) (by assumption) ?_; rotate_left
  · (intro w hSw; (try dsimp only at hSw); go_simp; try with_reducible rfl)
  try simp only [Act.put, zl, z0, z1]
  refine wpAnyT_ready (rs := [8, 9]) (by kernel_rfl) (by simp) ?_; refine consT 8 rfl (fun K hK => ?_) ?_; go_simp
  (go_at_call 55; refine (ofSet_any m.f m.won _ HSL.out.1 HSL.out.2).mono ?_; rintro e w1 ⟨rfl, hbw1⟩; obtain ⟨hc, hf⟩ := bcell hbw1; have hzw1 := hbw1.size; (try simp at hzw1))
  refine hK.out _ _ ?_ (fun hD1 => ?_)
  · (try dsimp only); (exact kp)
  clear hK K hD0; try simp only [Act.put, zl, z0, z1]
  refine wpAnyT_ready (rs := [9]) (by kernel_rfl) (by simp) ?_; refine consT 9 rfl (fun K hK => ?_) AllReadyT.nil; go_simp
  refine hK.out _ _ ?_ (fun hD2 => ?_)
  · (try dsimp only); (exact kp)
  clear hK K hD1; try simp only [Act.put, zl, z0, z1]
  refine wpAnyT_ready (rs := [10]) (by kernel_rfl) (by simp) ?_
  refine lastT rfl (fun K hK => ?_)
  (try dsimp only at hD2)
  go_simp
  refine hK.out _ _ ?_
  clear hK K
  try simp only [Act.put, zl, z0, z1]
  refine wpAnyT_done (by kernel_rfl) ?_ _
  rotate_left 1
  refine consT 9 rfl (fun K hK => ?_) AllReadyT.nil
  go_simp
  refine hK.out _ _ ?_ (fun hD1 => ?_)
  · (try dsimp only); (exact kp)
  clear hK K hD0; try simp only [Act.put, zl, z0, z1]
  refine wpAnyT_ready (rs := [8]) (by kernel_rfl) (by simp) ?_; refine consT 8 rfl (fun K hK => ?_) AllReadyT.nil; go_simp
  (go_at_call 55; refine (ofSet_any m.f m.won _ HSL.out.1 HSL.out.2).mono ?_; rintro e w1 ⟨rfl, hbw1⟩; obtain ⟨hc, hf⟩ := bcell hbw1; have hzw1 := hbw1.size; (try simp at hzw1))
  refine hK.out _ _ ?_ (fun hD2 => ?_)
  · (try dsimp only); (exact kp)
  clear hK K hD1; try simp only [Act.put, zl, z0, z1]
  refine wpAnyT_ready (rs := [10]) (by kernel_rfl) (by simp) ?_
  refine lastT rfl (fun K hK => ?_)
  (try dsimp only at hD2)
  go_simp
  refine hK.out _ _ ?_
  clear hK K
  try simp only [Act.put, zl, z0, z1]
  refine wpAnyT_done (by kernel_rfl) ?_ _
  focus
    have hb1 : Below w.heap.size w w1 := ((Below.refl w.heap.size w).alloc (Nat.le_refl _) _).drew.trans (hbw1.mono (by simp))
    have hb2 : Below w.heap.size w ((((((((((w1.setCell ⟨w.heap.size, 0, none⟩ (.int .i64 (M.ofSet m.f m.won).sets)).setCell ⟨w.heap.size, 1, none⟩ (.int .i64 (M.ofSet m.f m.won).games)).setCell ⟨w.heap.size, 2, none⟩ (.bool (M.ofSet m.f m.won).noAd)).setCell ⟨w.heap.size, 3, none⟩ (.int .i64 (M.ofSet m.f m.won).tie)).setCell ⟨w.heap.size, 4, none⟩ (.int .i64 (M.ofSet m.f m.won).to)).setCell ⟨w.heap.size, 5, none⟩ (.int .i64 (M.ofSet m.f m.won).lastTie)).setCell ⟨w.heap.size, 6, none⟩ (.int .i64 (M.ofSet m.f m.won).lastTo)).setCell ⟨w.heap.size, 7, none⟩ (.int .i64 (M.ofSet m.f m.won).first)).setCell ⟨w.heap.size, 8, none⟩ (.int .i64 (M.ofSet m.f m.won).next)).setCell ⟨w.heap.size, 9, none⟩ (.bool (M.ofSet m.f m.won).doubles)) := ((((((((((hb1.setCell (Nat.le_refl _) _).setCell (Nat.le_refl _) _).setCell (Nat.le_refl _) _).setCell (Nat.le_refl _) _).setCell (Nat.le_refl _) _).setCell (Nat.le_refl _) _).setCell (Nat.le_refl _) _).setCell (Nat.le_refl _) _).setCell (Nat.le_refl _) _).setCell (Nat.le_refl _) _)
    have hf2 : BoxAt ((((((((((w1.setCell ⟨w.heap.size, 0, none⟩ (.int .i64 (M.ofSet m.f m.won).sets)).setCell ⟨w.heap.size, 1, none⟩ (.int .i64 (M.ofSet m.f m.won).games)).setCell ⟨w.heap.size, 2, none⟩ (.bool (M.ofSet m.f m.won).noAd)).setCell ⟨w.heap.size, 3, none⟩ (.int .i64 (M.ofSet m.f m.won).tie)).setCell ⟨w.heap.size, 4, none⟩ (.int .i64 (M.ofSet m.f m.won).to)).setCell ⟨w.heap.size, 5, none⟩ (.int .i64 (M.ofSet m.f m.won).lastTie)).setCell ⟨w.heap.size, 6, none⟩ (.int .i64 (M.ofSet m.f m.won).lastTo)).setCell ⟨w.heap.size, 7, none⟩ (.int .i64 (M.ofSet m.f m.won).first)).setCell ⟨w.heap.size, 8, none⟩ (.int .i64 (M.ofSet m.f m.won).next)).setCell ⟨w.heap.size, 9, none⟩ (.bool (M.ofSet m.f m.won).doubles)) w.heap.size (M.ofSet m.f m.won) := box_store (cs := #[.int .i64 0, .int .i64 0, .bool false, .int .i64 0, .int .i64 0, .int .i64 0, .int .i64 0, .int .i64 0, .int .i64 0, .bool false]) (t := 23) _ ((hbw1.block w.heap.size (by simp)).trans (by first | (simp; done) | (show (w.heap.push _)[w.heap.size]? = _; simp; done))) rfl
    have hq2 : w.heap.size < ((((((((((w1.setCell ⟨w.heap.size, 0, none⟩ (.int .i64 (M.ofSet m.f m.won).sets)).setCell ⟨w.heap.size, 1, none⟩ (.int .i64 (M.ofSet m.f m.won).games)).setCell ⟨w.heap.size, 2, none⟩ (.bool (M.ofSet m.f m.won).noAd)).setCell ⟨w.heap.size, 3, none⟩ (.int .i64 (M.ofSet m.f m.won).tie)).setCell ⟨w.heap.size, 4, none⟩ (.int .i64 (M.ofSet m.f m.won).to)).setCell ⟨w.heap.size, 5, none⟩ (.int .i64 (M.ofSet m.f m.won).lastTie)).setCell ⟨w.heap.size, 6, none⟩ (.int .i64 (M.ofSet m.f m.won).lastTo)).setCell ⟨w.heap.size, 7, none⟩ (.int .i64 (M.ofSet m.f m.won).first)).setCell ⟨w.heap.size, 8, none⟩ (.int .i64 (M.ofSet m.f m.won).next)).setCell ⟨w.heap.size, 9, none⟩ (.bool (M.ofSet m.f m.won).doubles)).heap.size := by simp; omega
    have hqb : ¬ b = w.heap.size := hlt1
    have hqb2 : ¬ w.heap.size = b := hlt0
    have hB2 : Below base w ((((((((((w1.setCell ⟨w.heap.size, 0, none⟩ (.int .i64 (M.ofSet m.f m.won).sets)).setCell ⟨w.heap.size, 1, none⟩ (.int .i64 (M.ofSet m.f m.won).games)).setCell ⟨w.heap.size, 2, none⟩ (.bool (M.ofSet m.f m.won).noAd)).setCell ⟨w.heap.size, 3, none⟩ (.int .i64 (M.ofSet m.f m.won).tie)).setCell ⟨w.heap.size, 4, none⟩ (.int .i64 (M.ofSet m.f m.won).to)).setCell ⟨w.heap.size, 5, none⟩ (.int .i64 (M.ofSet m.f m.won).lastTie)).setCell ⟨w.heap.size, 6, none⟩ (.int .i64 (M.ofSet m.f m.won).lastTo)).setCell ⟨w.heap.size, 7, none⟩ (.int .i64 (M.ofSet m.f m.won).first)).setCell ⟨w.heap.size, 8, none⟩ (.int .i64 (M.ofSet m.f m.won).next)).setCell ⟨w.heap.size, 9, none⟩ (.bool (M.ofSet m.f m.won).doubles)) := hb2.mono (by omega)
    have h2 := H.out.below hb2
    clear hb2 hc hf hzw1 hbw1 hmc0 hD2 hlt0 hlt1
    generalize ((((((((((w1.setCell ⟨w.heap.size, 0, none⟩ (.int .i64 (M.ofSet m.f m.won).sets)).setCell ⟨w.heap.size, 1, none⟩ (.int .i64 (M.ofSet m.f m.won).games)).setCell ⟨w.heap.size, 2, none⟩ (.bool (M.ofSet m.f m.won).noAd)).setCell ⟨w.heap.size, 3, none⟩ (.int .i64 (M.ofSet m.f m.won).tie)).setCell ⟨w.heap.size, 4, none⟩ (.int .i64 (M.ofSet m.f m.won).to)).setCell ⟨w.heap.size, 5, none⟩ (.int .i64 (M.ofSet m.f m.won).lastTie)).setCell ⟨w.heap.size, 6, none⟩ (.int .i64 (M.ofSet m.f m.won).lastTo)).setCell ⟨w.heap.size, 7, none⟩ (.int .i64 (M.ofSet m.f m.won).first)).setCell ⟨w.heap.size, 8, none⟩ (.int .i64 (M.ofSet m.f m.won).next)).setCell ⟨w.heap.size, 9, none⟩ (.bool (M.ofSet m.f m.won).doubles)) = w2 at hf2 hq2 h2 hB2 ⊢
    generalize w.heap.size = q at hf2 hq2 hqb hqb2 ⊢
  rotate_left
  focus
    have hb2 : Below w.heap.size w (w1.alloc (.cells #[.int .i64 ((M.ofSet m.f m.won)).sets, .int .i64 ((M.ofSet m.f m.won)).games, .bool ((M.ofSet m.f m.won)).noAd, .int .i64 ((M.ofSet m.f m.won)).tie, .int .i64 ((M.ofSet m.f m.won)).to, .int .i64 ((M.ofSet m.f m.won)).lastTie, .int .i64 ((M.ofSet m.f m.won)).lastTo, .int .i64 ((M.ofSet m.f m.won)).first, .int .i64 ((M.ofSet m.f m.won)).next, .bool ((M.ofSet m.f m.won)).doubles] 23 (0, 0))) := ((Below.refl _ w).drew.trans (hbw1.mono (by simp))).alloc (by omega) _
    have hf2 : BoxAt (w1.alloc (.cells #[.int .i64 ((M.ofSet m.f m.won)).sets, .int .i64 ((M.ofSet m.f m.won)).games, .bool ((M.ofSet m.f m.won)).noAd, .int .i64 ((M.ofSet m.f m.won)).tie, .int .i64 ((M.ofSet m.f m.won)).to, .int .i64 ((M.ofSet m.f m.won)).lastTie, .int .i64 ((M.ofSet m.f m.won)).lastTo, .int .i64 ((M.ofSet m.f m.won)).first, .int .i64 ((M.ofSet m.f m.won)).next, .bool ((M.ofSet m.f m.won)).doubles] 23 (0, 0))) w1.heap.size (M.ofSet m.f m.won) := box_alloc _ _
    have hq2 : w1.heap.size < (w1.alloc (.cells #[.int .i64 ((M.ofSet m.f m.won)).sets, .int .i64 ((M.ofSet m.f m.won)).games, .bool ((M.ofSet m.f m.won)).noAd, .int .i64 ((M.ofSet m.f m.won)).tie, .int .i64 ((M.ofSet m.f m.won)).to, .int .i64 ((M.ofSet m.f m.won)).lastTie, .int .i64 ((M.ofSet m.f m.won)).lastTo, .int .i64 ((M.ofSet m.f m.won)).first, .int .i64 ((M.ofSet m.f m.won)).next, .bool ((M.ofSet m.f m.won)).doubles] 23 (0, 0))).heap.size := by simp
    have hqb : ¬ b = w1.heap.size := by omega
    have hqb2 : ¬ w1.heap.size = b := by omega
    have hB2 : Below base w (w1.alloc (.cells #[.int .i64 ((M.ofSet m.f m.won)).sets, .int .i64 ((M.ofSet m.f m.won)).games, .bool ((M.ofSet m.f m.won)).noAd, .int .i64 ((M.ofSet m.f m.won)).tie, .int .i64 ((M.ofSet m.f m.won)).to, .int .i64 ((M.ofSet m.f m.won)).lastTie, .int .i64 ((M.ofSet m.f m.won)).lastTo, .int .i64 ((M.ofSet m.f m.won)).first, .int .i64 ((M.ofSet m.f m.won)).next, .bool ((M.ofSet m.f m.won)).doubles] 23 (0, 0))) := hb2.mono (by omega)
    have h2 := H.out.below hb2
    clear hb2 hc hf hmc0 hD2 hlt0 hlt1
    generalize (w1.alloc (.cells #[.int .i64 ((M.ofSet m.f m.won)).sets, .int .i64 ((M.ofSet m.f m.won)).games, .bool ((M.ofSet m.f m.won)).noAd, .int .i64 ((M.ofSet m.f m.won)).tie, .int .i64 ((M.ofSet m.f m.won)).to, .int .i64 ((M.ofSet m.f m.won)).lastTie, .int .i64 ((M.ofSet m.f m.won)).lastTo, .int .i64 ((M.ofSet m.f m.won)).first, .int .i64 ((M.ofSet m.f m.won)).next, .bool ((M.ofSet m.f m.won)).doubles] 23 (0, 0))) = w2 at hf2 hq2 h2 hB2 ⊢
    generalize w1.heap.size = q at hf2 hq2 hqb hqb2 hzw1 ⊢
  all_goals
    have H2 := hide h2
    have HF2 := hide hf2
    have c2 := h2.mc
    have f2 := hf2
    have hl2 := h2.lt
    unfold BoxAt at f2
    clear h2 hf2
    go_wp2_with fail
    refine wp_region_held_drew (S := (fun w' => q < w'.heap.size ∧ w'.cell? ⟨b, 0, none⟩ = some (.int .i64 m.f.sets) ∧ w'.cell? ⟨b, 1, none⟩ = some (.int .i64 m.f.games) ∧ w'.cell? ⟨b, 2, none⟩ = some (.bool m.f.noAd) ∧ w'.cell? ⟨b, 3, none⟩ = some (.int .i64 m.f.tie) ∧ w'.cell? ⟨b, 4, none⟩ = some (.int .i64 m.f.to) ∧ w'.cell? ⟨b, 5, none⟩ = some (.int .i64 m.f.lastTie) ∧ w'.cell? ⟨b, 6, none⟩ = some (.int .i64 m.f.lastTo) ∧ w'.cell? ⟨b, 7, none⟩ = some (.int .i64 m.f.first) ∧ w'.cell? ⟨b, 8, none⟩ = some (.int .i64 m.f.next) ∧ w'.cell? ⟨b, 9, none⟩ = some (.bool m.f.doubles) ∧ w'.cell? ⟨b, 10, none⟩ = some (sv) ∧ w'.cell? ⟨b, 11, none⟩ = some (.int .i64 m.games.A) ∧ w'.cell? ⟨b, 12, none⟩ = some (.int .i64 m.games.B) ∧ w'.cell? ⟨b, 13, none⟩ = some (.int .i64 m.pts.A) ∧ w'.cell? ⟨b, 14, none⟩ = some (.int .i64 m.pts.B) ∧ w'.cell? ⟨b, 15, none⟩ = some (.int .i64 m.server) ∧ w'.cell? ⟨b, 16, none⟩ = some (.int .i64 m.ends) ∧ w'.cell? ⟨b, 17, none⟩ = some (.int .i64 m.balls) ∧ w'.cell? ⟨b, 18, none⟩ = some (.int .i64 m.winner) ∧ w'.cell? ⟨b, 19, none⟩ = some (.int .i64 m.opens) ∧ w'.cell? ⟨b, 20, none⟩ = some (.int .i64 m.won.A) ∧ w'.cell? ⟨b, 21, none⟩ = some (.int .i64 m.won.B) ∧ w'.cell? ⟨b, 22, none⟩ = some (.bool m.fresh) ∧ w'.cell? ⟨b, 23, none⟩ = some (gv) ∧ w'.cell? ⟨q, 0, none⟩ = some (.int .i64 ((M.ofSet m.f m.won)).sets) ∧ w'.cell? ⟨q, 1, none⟩ = some (.int .i64 ((M.ofSet m.f m.won)).games) ∧ w'.cell? ⟨q, 2, none⟩ = some (.bool ((M.ofSet m.f m.won)).noAd) ∧ w'.cell? ⟨q, 3, none⟩ = some (.int .i64 ((M.ofSet m.f m.won)).tie) ∧ w'.cell? ⟨q, 4, none⟩ = some (.int .i64 ((M.ofSet m.f m.won)).to) ∧ w'.cell? ⟨q, 5, none⟩ = some (.int .i64 ((M.ofSet m.f m.won)).lastTie) ∧ w'.cell? ⟨q, 6, none⟩ = some (.int .i64 ((M.ofSet m.f m.won)).lastTo) ∧ w'.cell? ⟨q, 7, none⟩ = some (.int .i64 ((M.ofSet m.f m.won)).first) ∧ w'.cell? ⟨q, 8, none⟩ = some (.int .i64 ((M.ofSet m.f m.won)).next) ∧ w'.cell? ⟨q, 9, none⟩ = some (.bool ((M.ofSet m.f m.won)).doubles))) (by kernel_rfl) ?_ (fun hD0 => ?_)
    · (try dsimp only); (exact kp)
    refine tW ?_ 0 rfl (by kernel_rfl) (fun _ _ _ h => h) (by rfl) (by assumption) ?_ ?_; rotate_left; (focus (intro w hSw; (try dsimp only at hSw); go_simp; try with_reducible rfl)); try simp only [Act.put, zl, z0, z1]
    refine tW ?_ 1 rfl (by kernel_rfl) (fun _ _ _ h => h) (by rfl) (by assumption) ?_ ?_; rotate_left; (focus (intro w hSw; (try dsimp only at hSw); go_simp; try with_reducible rfl)); try simp only [Act.put, zl, z0, z1]
    refine tW ?_ 2 rfl (by kernel_rfl) (fun _ _ _ h => h) (by rfl) (by assumption) ?_ ?_; rotate_left; (focus (intro w hSw; (try dsimp only at hSw); go_simp; try with_reducible rfl)); try simp only [Act.put, zl, z0, z1]
    refine tW ?_ 3 rfl (by kernel_rfl) (fun _ _ _ h => h) (by rfl) (by assumption) ?_ ?_; rotate_left; (focus (intro w hSw; (try dsimp only at hSw); go_simp; try with_reducible rfl)); try simp only [Act.put, zl, z0, z1]
    refine tW ?_ 4 rfl (by kernel_rfl) (fun _ _ _ h => h) (by rfl) (by assumption) ?_ ?_; rotate_left; (focus (intro w hSw; (try dsimp only at hSw); go_simp; try with_reducible rfl)); try simp only [Act.put, zl, z0, z1]
    refine tW ?_ 5 rfl (by kernel_rfl) (fun _ _ _ h => h) (by rfl) (by assumption) ?_ ?_; rotate_left; (focus (intro w hSw; (try dsimp only at hSw); go_simp; try with_reducible rfl)); try simp only [Act.put, zl, z0, z1]
    refine tW ?_ 6 rfl (by kernel_rfl) (fun _ _ _ h => h) (by rfl) (by assumption) ?_ ?_; rotate_left; (focus (intro w hSw; (try dsimp only at hSw); go_simp; try with_reducible rfl)); try simp only [Act.put, zl, z0, z1]
    refine wpAnyH_ready (rs := [7]) (by kernel_rfl) (by simp) ?_; refine consL 7 rfl (fun K hK => ?_) AllReadyH.nil; go_simp
    (go_at_call 69; refine (isTie_any (M.ofSet m.f m.won) m.games _).mono ?_; rintro e w3 ⟨rfl, hbw3⟩; obtain ⟨hc, hf⟩ := bcell hbw3; have hzw3 := hbw3.size; (try simp at hzw3))
    refine hK.out _ _ ?_ (fun hD1 => ?_)
    · (try dsimp only); (exact kp)
    clear hK K hD0; try simp only [Act.put, zl, z0, z1]
    refine tW ?_ 8 rfl (by kernel_rfl) (fun _ _ _ h => h) (by rfl) (by assumption) ?_ ?_; rotate_left; (focus (intro w hSw; (try dsimp only at hSw); go_simp; try with_reducible rfl)); try simp only [Act.put, zl, z0, z1]
    refine wpAnyH_done (by kernel_rfl) ?_ _
    have h3 := H2.out.drew.below hbw3
    have hf3 := (show BoxAt w2.drew q (M.ofSet m.f m.won) from HF2.out).below hbw3 (by simp; omega)
    have hB3 : Below base w w3 := hB2.drew.trans (hbw3.mono (by simp; have := H2.out.lt; omega))
    have H3 := hide h3
    have HF3 := hide hf3
    have c3 := h3.mc
    have fr3 := h3.fr
    have hl3 := h3.lt
    have hq3 : q < w3.heap.size := by omega
    clear h3 hf3 hD1 c2 f2 hc hf
    go_wp2_with (first | (go_at_call 57; refine (plus_any m.pts side _ HPS.out).mono ?_; rintro e w4 ⟨rfl, hb4⟩; have h4 := H3.out.below hb4; have HF4 := hide (HF3.out.below hb4 hq3); have c4 := h4.mc; have fr4 := h4.fr; have hl4 := h4.lt; have hz4 := hb4.size; have H4 := hide h4; clear c3 fr3 h4))
    have k1 : MAt _ base b { m with pts := ⟨(M.plus m.pts side).A, m.pts.B⟩ } sv gv := H4.out.set 13 (.int .i64 (M.plus m.pts side).A) rfl rfl rfl
    have h5 : MAt ((w4.setCell ⟨b, 13, none⟩ (.int .i64 (M.plus m.pts side).A)).setCell ⟨b, 14, none⟩ (.int .i64 (M.plus m.pts side).B)) base b { m with pts := M.plus m.pts side } sv gv := k1.set 14 (.int .i64 (M.plus m.pts side).B) rfl rfl rfl
    have hf5 := (HF4.out.set hqb 13 (.int .i64 (M.plus m.pts side).A)).set hqb 14 (.int .i64 (M.plus m.pts side).B)
    have hB5 : Below base w ((w4.setCell ⟨b, 13, none⟩ (.int .i64 (M.plus m.pts side).A)).setCell ⟨b, 14, none⟩ (.int .i64 (M.plus m.pts side).B)) := ((hB3.trans (hb4.mono (by omega))).setCell (by exact hbb) _).setCell (by exact hbb) _
    have hq5 : q < ((w4.setCell ⟨b, 13, none⟩ (.int .i64 (M.plus m.pts side).A)).setCell ⟨b, 14, none⟩ (.int .i64 (M.plus m.pts side).B)).heap.size := by simp; omega
    clear k1 c4 fr4
    generalize ((w4.setCell ⟨b, 13, none⟩ (.int .i64 (M.plus m.pts side).A)).setCell ⟨b, 14, none⟩ (.int .i64 (M.plus m.pts side).B)) = w5 at h5 hf5 hB5 hq5 ⊢
    have H5 := hide h5
    have HF5 := hide hf5
    have c5 := h5.mc
    dsimp only at c5
    have f5 := hf5
    unfold BoxAt at f5
    have hl5 := h5.lt
    clear h5 hf5
    have pb := HPL.out
    have e1 : IntKind.i64.wrap ((M.plus m.pts side).A + (M.plus m.pts side).B) = (M.plus m.pts side).A + (M.plus m.pts side).B := IntWalk.i64_in _ (by omega)
    have e2 : ((M.plus m.pts side).A + (M.plus m.pts side).B).tmod 6 = ((M.plus m.pts side).A + (M.plus m.pts side).B) % 6 := Int.tmod_eq_emod_of_nonneg (by omega)
    have e3 : IntKind.i64.wrap ((M.plus m.pts side).A + (M.plus m.pts side).B + 1) = (M.plus m.pts side).A + (M.plus m.pts side).B + 1 := IntWalk.i64_in _ (by omega)
    have e4 : ((M.plus m.pts side).A + (M.plus m.pts side).B + 1).tdiv 2 = ((M.plus m.pts side).A + (M.plus m.pts side).B + 1) / 2 := Int.tdiv_eq_ediv_of_nonneg (by omega)
    have e5 : IntKind.i64.wrap (((M.plus m.pts side).A + (M.plus m.pts side).B + 1) / 2) = ((M.plus m.pts side).A + (M.plus m.pts side).B + 1) / 2 := IntWalk.i64_in _ (by omega)
    have e6 : IntKind.i64.wrap (((M.plus m.pts side).A + (M.plus m.pts side).B) % 6) = ((M.plus m.pts side).A + (M.plus m.pts side).B) % 6 := IntWalk.i64_in _ (by omega)
    have HPB := hide pb
    clear pb
    go_wp2_with fail
    refine wp_region_held_drew (S := (fun w' => q < w'.heap.size ∧ w'.cell? ⟨b, 0, none⟩ = some (.int .i64 ({ m with pts := M.plus m.pts side }).f.sets) ∧ w'.cell? ⟨b, 1, none⟩ = some (.int .i64 ({ m with pts := M.plus m.pts side }).f.games) ∧ w'.cell? ⟨b, 2, none⟩ = some (.bool ({ m with pts := M.plus m.pts side }).f.noAd) ∧ w'.cell? ⟨b, 3, none⟩ = some (.int .i64 ({ m with pts := M.plus m.pts side }).f.tie) ∧ w'.cell? ⟨b, 4, none⟩ = some (.int .i64 ({ m with pts := M.plus m.pts side }).f.to) ∧ w'.cell? ⟨b, 5, none⟩ = some (.int .i64 ({ m with pts := M.plus m.pts side }).f.lastTie) ∧ w'.cell? ⟨b, 6, none⟩ = some (.int .i64 ({ m with pts := M.plus m.pts side }).f.lastTo) ∧ w'.cell? ⟨b, 7, none⟩ = some (.int .i64 ({ m with pts := M.plus m.pts side }).f.first) ∧ w'.cell? ⟨b, 8, none⟩ = some (.int .i64 ({ m with pts := M.plus m.pts side }).f.next) ∧ w'.cell? ⟨b, 9, none⟩ = some (.bool ({ m with pts := M.plus m.pts side }).f.doubles) ∧ w'.cell? ⟨b, 10, none⟩ = some (sv) ∧ w'.cell? ⟨b, 11, none⟩ = some (.int .i64 ({ m with pts := M.plus m.pts side }).games.A) ∧ w'.cell? ⟨b, 12, none⟩ = some (.int .i64 ({ m with pts := M.plus m.pts side }).games.B) ∧ w'.cell? ⟨b, 13, none⟩ = some (.int .i64 ({ m with pts := M.plus m.pts side }).pts.A) ∧ w'.cell? ⟨b, 14, none⟩ = some (.int .i64 ({ m with pts := M.plus m.pts side }).pts.B) ∧ w'.cell? ⟨b, 15, none⟩ = some (.int .i64 ({ m with pts := M.plus m.pts side }).server) ∧ w'.cell? ⟨b, 16, none⟩ = some (.int .i64 ({ m with pts := M.plus m.pts side }).ends) ∧ w'.cell? ⟨b, 17, none⟩ = some (.int .i64 ({ m with pts := M.plus m.pts side }).balls) ∧ w'.cell? ⟨b, 18, none⟩ = some (.int .i64 ({ m with pts := M.plus m.pts side }).winner) ∧ w'.cell? ⟨b, 19, none⟩ = some (.int .i64 ({ m with pts := M.plus m.pts side }).opens) ∧ w'.cell? ⟨b, 20, none⟩ = some (.int .i64 ({ m with pts := M.plus m.pts side }).won.A) ∧ w'.cell? ⟨b, 21, none⟩ = some (.int .i64 ({ m with pts := M.plus m.pts side }).won.B) ∧ w'.cell? ⟨b, 22, none⟩ = some (.bool ({ m with pts := M.plus m.pts side }).fresh) ∧ w'.cell? ⟨b, 23, none⟩ = some (gv) ∧ w'.cell? ⟨q, 0, none⟩ = some (.int .i64 ((M.ofSet m.f m.won)).sets) ∧ w'.cell? ⟨q, 1, none⟩ = some (.int .i64 ((M.ofSet m.f m.won)).games) ∧ w'.cell? ⟨q, 2, none⟩ = some (.bool ((M.ofSet m.f m.won)).noAd) ∧ w'.cell? ⟨q, 3, none⟩ = some (.int .i64 ((M.ofSet m.f m.won)).tie) ∧ w'.cell? ⟨q, 4, none⟩ = some (.int .i64 ((M.ofSet m.f m.won)).to) ∧ w'.cell? ⟨q, 5, none⟩ = some (.int .i64 ((M.ofSet m.f m.won)).lastTie) ∧ w'.cell? ⟨q, 6, none⟩ = some (.int .i64 ((M.ofSet m.f m.won)).lastTo) ∧ w'.cell? ⟨q, 7, none⟩ = some (.int .i64 ((M.ofSet m.f m.won)).first) ∧ w'.cell? ⟨q, 8, none⟩ = some (.int .i64 ((M.ofSet m.f m.won)).next) ∧ w'.cell? ⟨q, 9, none⟩ = some (.bool ((M.ofSet m.f m.won)).doubles))) (by kernel_rfl) ?_ (fun hD0 => ?_)
    · (try dsimp only); (exact kp)
    refine tW ?_ 0 rfl (by kernel_rfl) (fun _ _ _ h => h) (by rfl) (by assumption) ?_ ?_; rotate_left; (focus (intro w hSw; (try dsimp only at hSw); go_simp; try with_reducible rfl)); try simp only [Act.put, zl, z0, z1]
    refine tW ?_ 1 rfl (by kernel_rfl) (fun _ _ _ h => h) (by rfl) (by assumption) ?_ ?_; rotate_left; (focus (intro w hSw; (try dsimp only at hSw); go_simp; try with_reducible rfl)); try simp only [Act.put, zl, z0, z1]
    refine tW ?_ 2 rfl (by kernel_rfl) (fun _ _ _ h => h) (by rfl) (by assumption) ?_ ?_; rotate_left; (focus (intro w hSw; (try dsimp only at hSw); go_simp; try with_reducible rfl)); try simp only [Act.put, zl, z0, z1]
    refine tW ?_ 3 rfl (by kernel_rfl) (fun _ _ _ h => h) (by rfl) (by assumption) ?_ ?_; rotate_left; (focus (intro w hSw; (try dsimp only at hSw); go_simp; try with_reducible rfl)); try simp only [Act.put, zl, z0, z1]
    refine tW ?_ 4 rfl (by kernel_rfl) (fun _ _ _ h => h) (by rfl) (by assumption) ?_ ?_; rotate_left; (focus (intro w hSw; (try dsimp only at hSw); go_simp; try with_reducible rfl)); try simp only [Act.put, zl, z0, z1]
    refine tW ?_ 5 rfl (by kernel_rfl) (fun _ _ _ h => h) (by rfl) (by assumption) ?_ ?_; rotate_left; (focus (intro w hSw; (try dsimp only at hSw); go_simp; try with_reducible rfl)); try simp only [Act.put, zl, z0, z1]
    refine tW ?_ 6 rfl (by kernel_rfl) (fun _ _ _ h => h) (by rfl) (by assumption) ?_ ?_; rotate_left; (focus (intro w hSw; (try dsimp only at hSw); go_simp; try with_reducible rfl)); try simp only [Act.put, zl, z0, z1]
    refine tW ?_ 7 rfl (by kernel_rfl) (fun _ _ _ h => h) (by rfl) (by assumption) ?_ ?_; rotate_left; (focus (intro w hSw; (try dsimp only at hSw); go_simp; try with_reducible rfl)); try simp only [Act.put, zl, z0, z1]
    refine tW ?_ 8 rfl (by kernel_rfl) (fun _ _ _ h => h) (by rfl) (by assumption) ?_ ?_; rotate_left; (focus (intro w hSw; (try dsimp only at hSw); go_simp; try with_reducible rfl)); try simp only [Act.put, zl, z0, z1]
    refine tW ?_ 9 rfl (by kernel_rfl) (fun _ _ _ h => h) (by rfl) (by assumption) ?_ ?_; rotate_left; (focus (intro w hSw; (try dsimp only at hSw); go_simp; try with_reducible rfl)); try simp only [Act.put, zl, z0, z1]
    refine tW ?_ 10 rfl (by kernel_rfl) (fun _ _ _ h => h) (by rfl) (by assumption) ?_ ?_; rotate_left; (focus (intro w hSw; (try dsimp only at hSw); go_simp; try with_reducible rfl)); try simp only [Act.put, zl, z0, z1]
    refine tW ?_ 11 rfl (by kernel_rfl) (fun _ _ _ h => h) (by rfl) (by assumption) ?_ ?_; rotate_left; (focus (intro w hSw; (try dsimp only at hSw); go_simp; try with_reducible rfl)); try simp only [Act.put, zl, z0, z1]
    refine tW ?_ 12 rfl (by kernel_rfl) (fun _ _ _ h => h) (by rfl) (by assumption) ?_ ?_; rotate_left; (focus (intro w hSw; (try dsimp only at hSw); go_simp; try with_reducible rfl)); try simp only [Act.put, zl, z0, z1]
    refine tW ?_ 13 rfl (by kernel_rfl) (fun _ _ _ h => h) (by rfl) (by assumption) ?_ ?_; rotate_left; (focus (intro w hSw; (try dsimp only at hSw); go_simp; try with_reducible rfl)); try simp only [Act.put, zl, z0, z1]
    refine tW ?_ 14 rfl (by kernel_rfl) (fun _ _ _ h => h) (by rfl) (by assumption) ?_ ?_; rotate_left; (focus (intro w hSw; (try dsimp only at hSw); go_simp; try with_reducible rfl)); try simp only [Act.put, zl, z0, z1]
    refine tW ?_ 15 rfl (by kernel_rfl) (fun _ _ _ h => h) (by rfl) (by assumption) ?_ ?_; rotate_left; (focus (intro w hSw; (try dsimp only at hSw); go_simp; try with_reducible rfl)); try simp only [Act.put, zl, z0, z1]
    refine wpAnyH_done (by kernel_rfl) ?_ _
    go_wp2_with fail
    refine wp_region_held_drew (S := (fun w' => q < w'.heap.size ∧ w'.cell? ⟨b, 0, none⟩ = some (.int .i64 ({ m with pts := M.plus m.pts side }).f.sets) ∧ w'.cell? ⟨b, 1, none⟩ = some (.int .i64 ({ m with pts := M.plus m.pts side }).f.games) ∧ w'.cell? ⟨b, 2, none⟩ = some (.bool ({ m with pts := M.plus m.pts side }).f.noAd) ∧ w'.cell? ⟨b, 3, none⟩ = some (.int .i64 ({ m with pts := M.plus m.pts side }).f.tie) ∧ w'.cell? ⟨b, 4, none⟩ = some (.int .i64 ({ m with pts := M.plus m.pts side }).f.to) ∧ w'.cell? ⟨b, 5, none⟩ = some (.int .i64 ({ m with pts := M.plus m.pts side }).f.lastTie) ∧ w'.cell? ⟨b, 6, none⟩ = some (.int .i64 ({ m with pts := M.plus m.pts side }).f.lastTo) ∧ w'.cell? ⟨b, 7, none⟩ = some (.int .i64 ({ m with pts := M.plus m.pts side }).f.first) ∧ w'.cell? ⟨b, 8, none⟩ = some (.int .i64 ({ m with pts := M.plus m.pts side }).f.next) ∧ w'.cell? ⟨b, 9, none⟩ = some (.bool ({ m with pts := M.plus m.pts side }).f.doubles) ∧ w'.cell? ⟨b, 10, none⟩ = some (sv) ∧ w'.cell? ⟨b, 11, none⟩ = some (.int .i64 ({ m with pts := M.plus m.pts side }).games.A) ∧ w'.cell? ⟨b, 12, none⟩ = some (.int .i64 ({ m with pts := M.plus m.pts side }).games.B) ∧ w'.cell? ⟨b, 13, none⟩ = some (.int .i64 ({ m with pts := M.plus m.pts side }).pts.A) ∧ w'.cell? ⟨b, 14, none⟩ = some (.int .i64 ({ m with pts := M.plus m.pts side }).pts.B) ∧ w'.cell? ⟨b, 15, none⟩ = some (.int .i64 ({ m with pts := M.plus m.pts side }).server) ∧ w'.cell? ⟨b, 16, none⟩ = some (.int .i64 ({ m with pts := M.plus m.pts side }).ends) ∧ w'.cell? ⟨b, 17, none⟩ = some (.int .i64 ({ m with pts := M.plus m.pts side }).balls) ∧ w'.cell? ⟨b, 18, none⟩ = some (.int .i64 ({ m with pts := M.plus m.pts side }).winner) ∧ w'.cell? ⟨b, 19, none⟩ = some (.int .i64 ({ m with pts := M.plus m.pts side }).opens) ∧ w'.cell? ⟨b, 20, none⟩ = some (.int .i64 ({ m with pts := M.plus m.pts side }).won.A) ∧ w'.cell? ⟨b, 21, none⟩ = some (.int .i64 ({ m with pts := M.plus m.pts side }).won.B) ∧ w'.cell? ⟨b, 22, none⟩ = some (.bool ({ m with pts := M.plus m.pts side }).fresh) ∧ w'.cell? ⟨b, 23, none⟩ = some (gv) ∧ w'.cell? ⟨q, 0, none⟩ = some (.int .i64 ((M.ofSet m.f m.won)).sets) ∧ w'.cell? ⟨q, 1, none⟩ = some (.int .i64 ((M.ofSet m.f m.won)).games) ∧ w'.cell? ⟨q, 2, none⟩ = some (.bool ((M.ofSet m.f m.won)).noAd) ∧ w'.cell? ⟨q, 3, none⟩ = some (.int .i64 ((M.ofSet m.f m.won)).tie) ∧ w'.cell? ⟨q, 4, none⟩ = some (.int .i64 ((M.ofSet m.f m.won)).to) ∧ w'.cell? ⟨q, 5, none⟩ = some (.int .i64 ((M.ofSet m.f m.won)).lastTie) ∧ w'.cell? ⟨q, 6, none⟩ = some (.int .i64 ((M.ofSet m.f m.won)).lastTo) ∧ w'.cell? ⟨q, 7, none⟩ = some (.int .i64 ((M.ofSet m.f m.won)).first) ∧ w'.cell? ⟨q, 8, none⟩ = some (.int .i64 ((M.ofSet m.f m.won)).next) ∧ w'.cell? ⟨q, 9, none⟩ = some (.bool ((M.ofSet m.f m.won)).doubles))) (by kernel_rfl) ?_ (fun hD0 => ?_)
    · (try dsimp only); (exact kp)
    refine tW ?_ 0 rfl (by kernel_rfl) (fun _ _ _ h => h) (by rfl) (by assumption) ?_ ?_; rotate_left; (focus (intro w hSw; (try dsimp only at hSw); go_simp; try with_reducible rfl)); try simp only [Act.put, zl, z0, z1]
    refine tW ?_ 1 rfl (by kernel_rfl) (fun _ _ _ h => h) (by rfl) (by assumption) ?_ ?_; rotate_left; (focus (intro w hSw; (try dsimp only at hSw); go_simp; try with_reducible rfl)); try simp only [Act.put, zl, z0, z1]
    refine tW ?_ 2 rfl (by kernel_rfl) (fun _ _ _ h => h) (by rfl) (by assumption) ?_ ?_; rotate_left; (focus (intro w hSw; (try dsimp only at hSw); go_simp; try with_reducible rfl)); try simp only [Act.put, zl, z0, z1]
    refine tW ?_ 3 rfl (by kernel_rfl) (fun _ _ _ h => h) (by rfl) (by assumption) ?_ ?_; rotate_left; (focus (intro w hSw; (try dsimp only at hSw); go_simp; try with_reducible rfl)); try simp only [Act.put, zl, z0, z1]
    refine tW ?_ 4 rfl (by kernel_rfl) (fun _ _ _ h => h) (by rfl) (by assumption) ?_ ?_; rotate_left; (focus (intro w hSw; (try dsimp only at hSw); go_simp; try with_reducible rfl)); try simp only [Act.put, zl, z0, z1]
    refine tW ?_ 5 rfl (by kernel_rfl) (fun _ _ _ h => h) (by rfl) (by assumption) ?_ ?_; rotate_left; (focus (intro w hSw; (try dsimp only at hSw); go_simp; try with_reducible rfl)); try simp only [Act.put, zl, z0, z1]
    refine tW ?_ 6 rfl (by kernel_rfl) (fun _ _ _ h => h) (by rfl) (by assumption) ?_ ?_; rotate_left; (focus (intro w hSw; (try dsimp only at hSw); go_simp; try with_reducible rfl)); try simp only [Act.put, zl, z0, z1]
    refine tW ?_ 7 rfl (by kernel_rfl) (fun _ _ _ h => h) (by rfl) (by assumption) ?_ ?_; rotate_left; (focus (intro w hSw; (try dsimp only at hSw); go_simp; try with_reducible rfl)); try simp only [Act.put, zl, z0, z1]
    refine tW ?_ 8 rfl (by kernel_rfl) (fun _ _ _ h => h) (by rfl) (by assumption) ?_ ?_; rotate_left; (focus (intro w hSw; (try dsimp only at hSw); go_simp; try with_reducible rfl)); try simp only [Act.put, zl, z0, z1]
    refine wpAnyH_ready (rs := [9]) (by kernel_rfl) (by simp) ?_; refine consL 9 rfl (fun K hK => ?_) AllReadyH.nil; go_simp
    (go_at_call 77; refine (endsGame_any (M.ofSet m.f m.won) (M.isTie (M.ofSet m.f m.won) m.games) (M.plus m.pts side) side _ HP1.out hs0 hs1).mono ?_; rintro e w6 ⟨rfl, hbw6⟩; obtain ⟨hc, hf⟩ := bcell hbw6; have hzw6 := hbw6.size; (try simp at hzw6))
    refine hK.out _ _ ?_ (fun hD1 => ?_)
    · (try dsimp only); (exact kp)
    clear hK K hD0; try simp only [Act.put, zl, z0, z1]
    refine tW ?_ 10 rfl (by kernel_rfl) (fun _ _ _ h => h) (by rfl) (by assumption) ?_ ?_; rotate_left; (focus (intro w hSw; (try dsimp only at hSw); go_simp; try with_reducible rfl)); try simp only [Act.put, zl, z0, z1]
    refine wpAnyH_done (by kernel_rfl) ?_ _
    have h6 := H5.out.drew.drew.below hbw6
    have HF6 := hide ((show BoxAt w5.drew.drew q (M.ofSet m.f m.won) from HF5.out).below hbw6 (by simp; omega))
    have hB6 : Below base w w6 := hB5.drew.drew.trans (hbw6.mono (by simp; omega))
    have H6 := hide h6
    have c6 := h6.mc
    dsimp only at c6
    have fr6 := h6.fr
    have hl6 := h6.lt
    have f6 := HF6.out
    unfold BoxAt at f6
    clear h6 c5 f5 hD1 hD0 hc hf
    cases hE : M.endsGame (M.ofSet m.f m.won) (M.isTie (M.ofSet m.f m.won) m.games) (M.plus m.pts side) side
    · have HEE := hide hE
      clear hE
      cases hT : M.isTie (M.ofSet m.f m.won) m.games
      · have HTT := hide hT
        clear hT
        go_wp2
        go_end0
        refine ⟨rfl, ⟨sv, gv, ?_⟩, hB6⟩
        have e : M.point m side = { m with pts := M.plus m.pts side } := point_not HEE.out HTT.out
        rw [e]; exact H6.out
      · have HTT := hide hT
        clear hT
        obtain ⟨A, c, eA⟩ := own_form H6.out.2.2.2
        dsimp only at eA
        subst eA
        cases h6b : (((M.plus m.pts side).A + (M.plus m.pts side).B) % 6 == 0)
        · have H6B := hide h6b
          go_wp2_with (first | (go_at_call 79; refine (server_any b m.opens m.log.length (((M.plus m.pts side).A + (M.plus m.pts side).B + 1) / 2) m.f.doubles _ (by have cc := H6.out.mc; (dsimp only at cc); go_split_ands; assumption) (by have cc := H6.out.mc; (dsimp only at cc); go_split_ands; assumption) HM.out.op.1 HM.out.op.2 (by omega) (by have := HM.out.log; omega) (by have := HPB.out; omega) (by have := HPB.out; omega)).mono ?_; rintro e w8 ⟨rfl, hb8⟩; have h8 := H6.out.below hb8; have c8 := h8.mc; (dsimp only at c8); have fr8 := h8.fr; have hz8 := hb8.size; (try simp at hz8); have H8 := hide h8; clear h8))
          have h9 : MAt (w8.setCell ⟨b, 15, none⟩ (.int .i64 (M.serverOf m.opens m.f.doubles m.log.length (((M.plus m.pts side).A + (M.plus m.pts side).B + 1) / 2)))) base b { m with pts := M.plus m.pts side, server := M.serverOf m.opens m.f.doubles m.log.length (((M.plus m.pts side).A + (M.plus m.pts side).B + 1) / 2) } sv (.slice A m.log.length c) := H8.out.set 15 (.int .i64 (M.serverOf m.opens m.f.doubles m.log.length (((M.plus m.pts side).A + (M.plus m.pts side).B + 1) / 2))) rfl rfl rfl
          go_end0
          refine ⟨rfl, ⟨sv, .slice A m.log.length c, ?_⟩, Below.setCell (hB6.trans (hb8.mono (by omega))) (by exact hbb) _⟩
          have hp : ¬ (((M.plus m.pts side).A + (M.plus m.pts side).B) % 6 = 0) := by simpa using H6B.out
          have e : M.point m side = { m with pts := M.plus m.pts side, server := M.serverOf m.opens m.f.doubles m.log.length (((M.plus m.pts side).A + (M.plus m.pts side).B + 1) / 2) } := by rw [point_tie HEE.out HTT.out, if_neg hp]
          rw [e]; exact h9
        · have H6B := hide h6b
          have he0 := HM.out.ends.1
          have he1 := HM.out.ends.2
          have h7 : MAt (w6.setCell ⟨b, 16, none⟩ (.int .i64 (m.ends + 1))) base b { m with pts := M.plus m.pts side, ends := m.ends + 1 } sv (.slice A m.log.length c) := H6.out.set 16 (.int .i64 (m.ends + 1)) rfl rfl rfl
          have H7 := hide h7
          have hB7 := hB6.setCell (p := ⟨b, 16, none⟩) (by exact hbb) (.int .i64 (m.ends + 1))
          clear h7
          go_wp2_with (first | (go_at_call 79; refine (server_any b m.opens m.log.length (((M.plus m.pts side).A + (M.plus m.pts side).B + 1) / 2) m.f.doubles _ (by have cc := H7.out.mc; (dsimp only at cc); go_split_ands; assumption) (by have cc := H7.out.mc; (dsimp only at cc); go_split_ands; assumption) HM.out.op.1 HM.out.op.2 (by omega) (by have := HM.out.log; omega) (by have := HPB.out; omega) (by have := HPB.out; omega)).mono ?_; rintro e w8 ⟨rfl, hb8⟩; have h8 := H7.out.below hb8; have c8 := h8.mc; (dsimp only at c8); have fr8 := h8.fr; have hz8 := hb8.size; (try simp at hz8); have H8 := hide h8; clear h8))
          have h9 : MAt (w8.setCell ⟨b, 15, none⟩ (.int .i64 (M.serverOf m.opens m.f.doubles m.log.length (((M.plus m.pts side).A + (M.plus m.pts side).B + 1) / 2)))) base b { m with pts := M.plus m.pts side, ends := m.ends + 1, server := M.serverOf m.opens m.f.doubles m.log.length (((M.plus m.pts side).A + (M.plus m.pts side).B + 1) / 2) } sv (.slice A m.log.length c) := H8.out.set 15 (.int .i64 (M.serverOf m.opens m.f.doubles m.log.length (((M.plus m.pts side).A + (M.plus m.pts side).B + 1) / 2))) rfl rfl rfl
          go_end0
          refine ⟨rfl, ⟨sv, .slice A m.log.length c, ?_⟩, Below.setCell (hB7.trans (hb8.mono (by simp; omega))) (by exact hbb) _⟩
          have hp : ((M.plus m.pts side).A + (M.plus m.pts side).B) % 6 = 0 := by simpa using H6B.out
          have e : M.point m side = { m with pts := M.plus m.pts side, ends := m.ends + 1, server := M.serverOf m.opens m.f.doubles m.log.length (((M.plus m.pts side).A + (M.plus m.pts side).B + 1) / 2) } := by rw [point_tie HEE.out HTT.out, if_pos hp]
          rw [e]; exact h9
    · have HEE := hide hE
      clear hE
      have e : M.point m side = M.endGame { m with pts := M.plus m.pts side } side := point_end HEE.out
      have HPE := hide e
      clear e
      go_wp2_with (first | (go_at_call 78; refine (endGame_any (m := { m with pts := M.plus m.pts side }) side H6.out HM.out.v (by have := HM.out.log; show m.log.length ≤ _; omega) HM.out.op (by have := HM.out.balls; show 0 ≤ m.balls ∧ m.balls ≤ _; omega) ⟨small_of HM.out.games (by omega), by have := HM.out.games; show m.games.A ≤ _ ∧ m.games.B ≤ _; omega⟩ (by have := HM.out.sets; show m.sets.length ≤ _; omega) (by have := HM.out.games; exact ⟨this.1, this.2.1⟩) (small_of HM.out.won (by omega)) (by have := HM.out.ends; show 0 ≤ m.ends ∧ m.ends ≤ _; omega)).mono ?_; rintro e w8 ⟨rfl, hm8, hb8⟩; have HM8 := hide hm8; clear hm8))
      go_end0
      refine ⟨rfl, ?_, hB6.trans hb8⟩
      rw [HPE.out]
      exact HM8.out

end Go.Proofs.Ytmhaapghiecfcaa

namespace Go.Proofs.Ytmhaapghiecfcaa
open Go.RowKit

theorem Ok.mono {m : M.Mt} {k k' : Nat} (h : M.Ok m k) (hk : k ≤ k') : M.Ok m k' := by
  obtain ⟨a1, a2, a3, a4, a5, a6, a7, a8, a9⟩ := h
  exact ⟨a1, by omega, by omega, a4, by omega, by omega, by omega, by omega, by omega⟩
theorem Ok.withPts {m : M.Mt} {k : Nat} {p : M.Pr} (h : M.Ok m k) (hp : 0 ≤ p.A ∧ 0 ≤ p.B ∧ p.A ≤ (k + 1 : Nat) ∧ p.B ≤ (k + 1 : Nat)) : M.Ok { m with pts := p } (k + 1) := by
  obtain ⟨a1, a2, a3, a4, a5, a6, a7, a8, a9⟩ := h
  exact ⟨a1, by dsimp only; omega, by dsimp only; omega, a4, by dsimp only; omega, by dsimp only; omega, by dsimp only; omega, hp, by dsimp only; omega⟩
theorem zero_le (k : Nat) : 0 ≤ M.zero.A ∧ 0 ≤ M.zero.B ∧ M.zero.A ≤ (k : Nat) ∧ M.zero.B ≤ (k : Nat) := by
  unfold M.zero
  dsimp only
  omega
theorem Ok.endSet {m : M.Mt} {k : Nat} {p : M.Pr} (side : Int) (h : M.Ok m k) : M.Ok (M.endSet { m with pts := p } side) (k + 1) ∧ (M.endSet { m with pts := p } side).balls ≤ k ∧ (M.endSet { m with pts := p } side).ends ≤ k := by
  obtain ⟨a1, a2, a3, a4, a5, a6, a7, a8, a9⟩ := h
  have hg := plus_le side a7
  have hw := plus_le side a9
  have hz := zero_le (k + 1)
  unfold M.endSet
  split
  · refine ⟨⟨a1, ?_, ?_, a4, ?_, ?_, hz, hz, hw⟩, a5.2, a6.2⟩
    · dsimp only; simp; omega
    · dsimp only; simp; omega
    · dsimp only; omega
    · dsimp only; omega
  · refine ⟨⟨a1, ?_, ?_, a4, ?_, ?_, hg, hz, ?_⟩, a5.2, a6.2⟩
    · dsimp only; simp; omega
    · dsimp only; omega
    · dsimp only; omega
    · dsimp only; omega
    · dsimp only; omega
theorem Ok.begin {m : M.Mt} {k : Nat} (h : M.Ok m (k + 1)) (hb : m.balls ≤ k) : M.Ok (M.begin m) (k + 1) := by
  obtain ⟨a1, a2, a3, a4, a5, a6, a7, a8, a9⟩ := h
  refine ⟨a1, a2, a3, a4, ?_, a6, a7, a8, a9⟩
  unfold M.begin
  dsimp only
  split <;> omega
theorem Ok.endGame {m : M.Mt} {k : Nat} {p : M.Pr} (side : Int) (h : M.Ok m k) : M.Ok (M.endGame { m with pts := p } side) (k + 1) := by
  obtain ⟨h1, h2, h3⟩ := Ok.endSet (p := p) side h
  obtain ⟨n, hn⟩ : ∃ n, M.endSet { m with pts := p } side = n := ⟨_, rfl⟩
  rw [endGame_of hn]
  rw [hn] at h1 h2 h3
  obtain ⟨a1, a2, a3, a4, a5, a6, a7, a8, a9⟩ := h1
  split
  · exact ⟨a1, a2, a3, a4, a5, a6, a7, a8, a9⟩
  · split
    · exact Ok.begin ⟨a1, a2, a3, a4, a5, by dsimp only; omega, a7, a8, a9⟩ h2
    · exact Ok.begin ⟨a1, a2, a3, a4, a5, a6, a7, a8, a9⟩ h2
theorem Ok.point {m : M.Mt} {k : Nat} (side : Int) (h : M.Ok m k) : M.Ok (M.point m side) (k + 1) := by
  have hp := plus_le side h.pts
  cases hE : M.endsGame (M.ofSet m.f m.won) (M.isTie (M.ofSet m.f m.won) m.games) (M.plus m.pts side) side
  · cases hT : M.isTie (M.ofSet m.f m.won) m.games
    · rw [point_not hE hT]
      exact Ok.withPts h hp
    · rw [point_tie hE hT]
      obtain ⟨a1, a2, a3, a4, a5, a6, a7, a8, a9⟩ := h
      refine ⟨a1, by dsimp only; omega, by dsimp only; omega, a4, by dsimp only; omega, ?_, by dsimp only; omega, hp, by dsimp only; omega⟩
      dsimp only
      split <;> omega
  · rw [point_end hE]
    exact Ok.endGame side h

end Go.Proofs.Ytmhaapghiecfcaa

namespace Go.Proofs.Ytmhaapghiecfcaa
open Go.RowKit
namespace M

def nat (a b : Nat) : Pr := ⟨a, b⟩
def good (s : Fm) (e : Pr) (a b : Nat) : Bool := (decide ((a : Int) = e.A) && decide ((b : Int) = e.B)) || (decide (0 < a + b) && gamesArise s (nat a b))
def cell (s : Fm) (e : Pr) (a b l d : Nat) : Nat := if good s e a b then l + d else if a = 0 ∧ b = 0 then 1 else 0
def row (s : Fm) (e : Pr) (a : Nat) (up : Nat → Nat) : Nat → Nat
  | 0 => cell s e a 0 (up 0) 0
  | b + 1 => cell s e a (b + 1) (up (b + 1)) (row s e a up b)
def wy (s : Fm) (e : Pr) : Nat → Nat → Nat
  | 0 => row s e 0 (fun _ => 0)
  | a + 1 => row s e (a + 1) (wy s e a)
def left (s : Fm) (e : Pr) (a b : Nat) : Nat := match a with
  | 0 => 0
  | a + 1 => wy s e a b
def down (s : Fm) (e : Pr) (a b : Nat) : Nat := match b with
  | 0 => 0
  | b + 1 => wy s e a b
theorem wy_eq (s : Fm) (e : Pr) (a b : Nat) : wy s e a b = cell s e a b (left s e a b) (down s e a b) := by
  cases a <;> cases b <;> rfl

def seen (e : Pr) (a b : Nat) (p : Pr) : Bool := decide (0 ≤ p.A ∧ p.A ≤ e.A ∧ 0 ≤ p.B ∧ p.B ≤ e.B ∧ (p.A < a ∨ (p.A = a ∧ p.B < b)))
def hold (s : Fm) (e : Pr) (a b : Nat) (p : Pr) : Int := if seen e a b p then (wy s e p.A.toNat p.B.toNat : Int) else if p = zero then 1 else 0

theorem nat_A (a b : Nat) : (nat a b).A.toNat = a := Int.toNat_natCast a
theorem nat_B (a b : Nat) : (nat a b).B.toNat = b := Int.toNat_natCast b
theorem hold_left {s : Fm} {e : Pr} {a b : Nat} (hb : (b : Int) ≤ e.B) (ha : (a : Int) ≤ e.A) : hold s e a b (minus (nat a b) 0) = left s e a b := by
  unfold hold minus nat
  simp only [if_true]
  cases a with
  | zero =>
    rw [if_neg (by simp [seen]), if_neg (by intro h; simp [zero] at h)]; rfl
  | succ a =>
    rw [if_pos (by simp only [seen, decide_eq_true_eq]; omega)]
    have h1 : ((a + 1 : Nat) : Int) - 1 = (a : Int) := by omega
    simp only [h1, Int.toNat_natCast]; rfl
theorem hold_down {s : Fm} {e : Pr} {a b : Nat} (hb : (b : Int) ≤ e.B) (ha : (a : Int) ≤ e.A) : hold s e a b (minus (nat a b) 1) = down s e a b := by
  unfold hold minus nat
  rw [if_neg (by decide : ¬ (1 : Int) = 0)]
  cases b with
  | zero =>
    rw [if_neg (by simp [seen]), if_neg (by intro h; simp [zero] at h)]; rfl
  | succ b =>
    rw [if_pos (by simp [seen]; omega)]
    have h1 : ((b + 1 : Nat) : Int) - 1 = (b : Int) := by omega
    simp only [h1, Int.toNat_natCast]; rfl
theorem seen_succ {e : Pr} {a b : Nat} (hb : (b : Int) ≤ e.B) (ha : (a : Int) ≤ e.A) (p : Pr) : seen e a (b + 1) p = (seen e a b p || decide (p = nat a b)) := by
  rw [Bool.eq_iff_iff]
  simp only [seen, Bool.or_eq_true, decide_eq_true_eq]
  constructor
  · rintro ⟨h1, h2, h3, h4, h5⟩
    by_cases h : p.A < a ∨ (p.A = a ∧ p.B < b)
    · exact .inl ⟨h1, h2, h3, h4, h⟩
    · right
      obtain ⟨x, y⟩ := p
      simp only [nat, Pr.mk.injEq]
      simp only at h h5
      omega
  · rintro (⟨h1, h2, h3, h4, h5⟩ | h)
    · exact ⟨h1, h2, h3, h4, by omega⟩
    · subst h; dsimp only [nat]; omega
theorem hold_same {s : Fm} {e : Pr} {a b : Nat} (hb : (b : Int) ≤ e.B) (ha : (a : Int) ≤ e.A) (h : good s e a b = false) (p : Pr) : hold s e a (b + 1) p = hold s e a b p := by
  unfold hold
  rw [seen_succ hb ha]
  by_cases hs : seen e a b p = true
  · rw [hs]; rfl
  · have hs' : seen e a b p = false := by simpa using hs
    rw [hs', Bool.false_or]
    by_cases hp : p = nat a b
    · subst hp
      simp only [decide_true, if_true, Bool.false_eq_true, if_false, nat_A, nat_B]
      rw [wy_eq]; unfold cell
      rw [if_neg (by simp [h])]
      by_cases h0 : a = 0 ∧ b = 0
      · rw [if_pos h0, if_pos (show nat a b = zero by rw [h0.1, h0.2]; rfl)]; rfl
      · rw [if_neg h0, if_neg (show ¬ nat a b = zero by simp only [nat, zero, Pr.mk.injEq]; omega)]; rfl
    · simp [hp]
theorem hold_next {s : Fm} {e : Pr} {a b : Nat} (hb : (b : Int) ≤ e.B) (ha : (a : Int) ≤ e.A) (h : good s e a b = true) (p : Pr) :
    hold s e a (b + 1) p = if p = nat a b then ((left s e a b : Int) + down s e a b) else hold s e a b p := by
  unfold hold
  rw [seen_succ hb ha]
  by_cases hp : p = nat a b
  · subst hp
    simp only [decide_true, Bool.or_true, if_true, nat_A, nat_B]
    rw [wy_eq]; unfold cell
    rw [if_pos h]; omega
  · simp [hp]
theorem hold_row {s : Fm} {e : Pr} {a b : Nat} (hb : (b : Int) = e.B + 1) (p : Pr) : hold s e a b p = hold s e (a + 1) 0 p := by
  have : seen e a b p = seen e (a + 1) 0 p := by
    rw [Bool.eq_iff_iff]
    simp only [seen, decide_eq_true_eq]
    constructor <;> (rintro ⟨h1, h2, h3, h4, h5⟩; exact ⟨h1, h2, h3, h4, by omega⟩)
  unfold hold; rw [this]
theorem hold_start (s : Fm) (e : Pr) (p : Pr) : hold s e 0 0 p = if p = zero then 1 else 0 := by
  unfold hold
  rw [if_neg (by simp only [seen, decide_eq_true_eq]; omega)]
def orders (s : Fm) (e : Pr) : Nat := wy s e e.A.toNat e.B.toNat
theorem hold_end {s : Fm} {e : Pr} {a : Nat} (h : 0 ≤ e.A ∧ 0 ≤ e.B) (ha : (a : Int) = e.A + 1) : hold s e a 0 e = orders s e := by
  unfold hold orders
  rw [if_pos (by simp only [seen, decide_eq_true_eq]; omega)]

theorem gamesArise_far {s : Fm} (hv : Valid s) {a b : Nat} (h : gamesArise s (nat a b) = true) : (a ≤ 8 ∧ b ≤ 8) ∨ (a ≤ b + 1 ∧ b ≤ a + 1) := by
  have hg := hv.g1
  unfold gamesArise at h
  rw [Bool.and_eq_true, Bool.or_eq_true] at h
  obtain ⟨_, h | h⟩ := h
  · left
    have h' := of_decide_eq_true h
    unfold hi nat at h'
    dsimp only at h'
    split at h' <;> omega
  · right
    unfold near at h
    rw [Bool.and_eq_true] at h
    have h1 := of_decide_eq_true h.1
    have h2 := of_decide_eq_true h.2
    dsimp only [nat] at h1 h2
    omega
def pot (a b : Nat) : Nat := if a ≤ 8 ∧ b ≤ 8 then a + b else 16 + min a b
theorem wy_bd {s : Fm} (hv : Valid s) (e : Pr) : ∀ n a b : Nat, a + b = n → (a : Int) ≤ e.A → (b : Int) ≤ e.B → ¬ ((a : Int) = e.A ∧ (b : Int) = e.B) → wy s e a b ≤ 2 ^ pot a b := by
  intro n
  induction n using Nat.strongRecOn with
  | _ n ih =>
    intro a b hn ha hb hne
    rw [wy_eq]; unfold cell
    split
    · rename_i hgood
      have hga : gamesArise s (nat a b) = true ∧ 0 < a + b := by
        unfold good at hgood
        simp only [Bool.or_eq_true, Bool.and_eq_true, decide_eq_true_eq] at hgood
        rcases hgood with h | h
        · exact absurd h hne
        · exact ⟨h.2, h.1⟩
      have hfar := gamesArise_far hv hga.1
    
      have hl : left s e a b ≤ if a = 0 then 0 else 2 ^ pot (a - 1) b := by
        cases a with
        | zero => simp [left]
        | succ a => simp only [left, Nat.add_sub_cancel]; rw [if_neg (by omega)]; exact ih (a + b) (by omega) a b rfl (by omega) hb (by omega)
      have hd : down s e a b ≤ if b = 0 then 0 else 2 ^ pot a (b - 1) := by
        cases b with
        | zero => simp [down]
        | succ b => simp only [down, Nat.add_sub_cancel]; rw [if_neg (by omega)]; exact ih (a + b) (by omega) a b rfl ha (by omega) (by omega)
    
      have hz : ∀ x y : Nat, x + y < n → (x : Int) ≤ e.A → (y : Int) ≤ e.B → ¬ ((x : Int) = e.A ∧ (y : Int) = e.B) → ¬ (x ≤ 8 ∧ y ≤ 8) → ¬ (x ≤ y + 1 ∧ y ≤ x + 1) → wy s e x y = 0 := by
        intro x y _ _ _ h1 h2 h3
        rw [wy_eq]; unfold cell
        rw [if_neg, if_neg (by omega)]
        unfold good
        simp only [Bool.or_eq_true, Bool.and_eq_true, decide_eq_true_eq]
        rintro (h | h)
        · exact h1 h
        · rcases gamesArise_far hv h.2 with h | h
          · exact h2 h
          · exact h3 h
      by_cases hs : a ≤ 8 ∧ b ≤ 8
      · have e0 : pot a b = a + b := if_pos hs
        rw [e0]
        have hl' : a ≠ 0 → left s e a b ≤ 2 ^ (a + b - 1) := fun h => by
          rw [if_neg h] at hl
          have : pot (a - 1) b = a + b - 1 := by unfold pot; rw [if_pos (by omega)]; omega
          rwa [this] at hl
        have hd' : b ≠ 0 → down s e a b ≤ 2 ^ (a + b - 1) := fun h => by
          rw [if_neg h] at hd
          have : pot a (b - 1) = a + b - 1 := by unfold pot; rw [if_pos (by omega)]; omega
          rwa [this] at hd
        have h2 : 2 ^ (a + b) = 2 ^ (a + b - 1) * 2 := by rw [← Nat.pow_succ]; congr 1; omega
        rw [h2]
        by_cases h0 : a = 0
        · rw [if_pos h0] at hl; have := hd' (by omega); omega
        · by_cases h1 : b = 0
          · rw [if_pos h1] at hd; have := hl' h0; omega
          · have := hl' h0; have := hd' h1; omega
      · have hnear : a ≤ b + 1 ∧ b ≤ a + 1 := by
          rcases hfar with h | h
          · exact absurd h hs
          · exact h
        have e0 : pot a b = 16 + min a b := if_neg hs
        rw [e0]
        rcases (show a = b ∨ a = b + 1 ∨ b = a + 1 by omega) with h | h | h
        · subst h
          rw [if_neg (by omega)] at hl hd
          have e1 : pot (a - 1) a = 16 + (a - 1) := by unfold pot; rw [if_neg (by omega)]; omega
          have e2 : pot a (a - 1) = 16 + (a - 1) := by unfold pot; rw [if_neg (by omega)]; omega
          rw [e1] at hl; rw [e2] at hd
          have h2 : 2 ^ (16 + min a a) = 2 ^ (16 + (a - 1)) * 2 := by rw [← Nat.pow_succ]; congr 1; omega
          rw [h2]; omega
        · subst h
          have hd0 : down s e (b + 1) b = 0 := by
            cases b with
            | zero => rfl
            | succ b => exact hz (b + 1 + 1) b (by omega) ha (by omega) (by omega) (by omega) (by omega)
          rw [hd0]
          rw [if_neg (by omega)] at hl
          have e1 : pot (b + 1 - 1) b ≤ 16 + min (b + 1) b := by unfold pot; split <;> omega
          have := Nat.pow_le_pow_right (n := 2) (by decide) e1
          omega
        · subst h
          have hd0 : left s e a (a + 1) = 0 := by
            cases a with
            | zero => rfl
            | succ a => exact hz a (a + 1 + 1) (by omega) (by omega) hb (by omega) (by omega) (by omega)
          rw [hd0]
          rw [if_neg (by omega)] at hd
          have e1 : pot a (a + 1 - 1) ≤ 16 + min a (a + 1) := by unfold pot; split <;> omega
          have := Nat.pow_le_pow_right (n := 2) (by decide) e1
          omega
    · split
      · exact Nat.one_le_two_pow
      · exact Nat.zero_le _
theorem wy_most {s : Fm} (hv : Valid s) {e : Pr} (he : e.A ≤ 40 ∧ e.B ≤ 40) {a b : Nat} (ha : (a : Int) ≤ e.A) (hb : (b : Int) ≤ e.B) (hne : ¬ ((a : Int) = e.A ∧ (b : Int) = e.B)) : wy s e a b ≤ 72057594037927936 := by
  have h := wy_bd hv e _ a b rfl ha hb hne
  have h2 : pot a b ≤ 56 := by unfold pot; split <;> omega
  exact Nat.le_trans h (Nat.le_trans (Nat.pow_le_pow_right (by decide) h2) (by decide))
theorem left_most {s : Fm} (hv : Valid s) {e : Pr} (he : e.A ≤ 40 ∧ e.B ≤ 40) {a b : Nat} (ha : (a : Int) ≤ e.A) (hb : (b : Int) ≤ e.B) : left s e a b ≤ 72057594037927936 := by
  cases a with
  | zero => simp [left]
  | succ a => exact wy_most hv he (by omega) hb (by omega)
theorem down_most {s : Fm} (hv : Valid s) {e : Pr} (he : e.A ≤ 40 ∧ e.B ≤ 40) {a b : Nat} (ha : (a : Int) ≤ e.A) (hb : (b : Int) ≤ e.B) : down s e a b ≤ 72057594037927936 := by
  cases b with
  | zero => simp [down]
  | succ b => exact wy_most hv he ha (by omega) (by omega)

end M
end Go.Proofs.Ytmhaapghiecfcaa

namespace Go.Proofs.Ytmhaapghiecfcaa
open Go.RowKit
namespace M

theorem gamesArise_iff (s : Fm) (a b : Nat) : gamesArise s (nat a b) = true ↔ (s.tie < 0 ∨ (max a b : Nat) ≤ s.tie) ∧ ((max a b : Nat) < s.games ∨ (a ≤ b + 1 ∧ b ≤ a + 1)) := by
  have hh : hi (nat a b) = ((max a b : Nat) : Int) := by unfold hi nat; dsimp only; split <;> omega
  unfold gamesArise near
  rw [hh]
  simp only [Bool.and_eq_true, Bool.or_eq_true, Bool.not_eq_true', Bool.and_eq_false_iff, decide_eq_false_iff_not, decide_eq_true_eq]
  have hA : (nat a b).A = (a : Int) := rfl
  have hB : (nat a b).B = (b : Int) := rfl
  rw [hA, hB]
  omega
theorem gamesArise_back {s : Fm} {a b : Nat} (h : gamesArise s (nat a b) = true) (h0 : 0 < a + b) : (∃ x, a = x + 1 ∧ gamesArise s (nat x b) = true) ∨ (∃ y, b = y + 1 ∧ gamesArise s (nat a y) = true) := by
  rw [gamesArise_iff] at h
  by_cases hab : b ≤ a
  · left
    refine ⟨a - 1, by omega, ?_⟩
    rw [gamesArise_iff]; omega
  · right
    refine ⟨b - 1, by omega, ?_⟩
    rw [gamesArise_iff]; omega
theorem wy_pos {s : Fm} {e : Pr} (he : e ≠ zero) : ∀ n a b : Nat, a + b = n → gamesArise s (nat a b) = true → 1 ≤ wy s e a b := by
  intro n
  induction n using Nat.strongRecOn with
  | _ n ih =>
    intro a b hn hg
    rw [wy_eq]; unfold cell
    by_cases h0 : a = 0 ∧ b = 0
    · rw [if_neg]
      · rw [if_pos h0]; exact Nat.le_refl _
      · unfold good
        simp only [Bool.or_eq_true, Bool.and_eq_true, decide_eq_true_eq]
        rintro (h | h)
        · apply he
          obtain ⟨x, y⟩ := e
          simp only [zero, Pr.mk.injEq]
          simp only at h
          omega
        · omega
    · rw [if_pos (by unfold good; rw [hg]; simp; omega)]
      rcases gamesArise_back hg (by omega) with ⟨x, hx, hgx⟩ | ⟨y, hy, hgy⟩
      · subst hx
        have := ih (x + b) (by omega) x b rfl hgx
        simp only [left]; omega
      · subst hy
        have := ih (a + y) (by omega) a y rfl hgy
        simp only [down]; omega
theorem orders_pos {s : Fm} {e : Pr} (hf : 0 ≤ e.A ∧ 0 ≤ e.B) (h : setWinner s e ≠ -1) : 1 ≤ orders s e := by
  have hex : ∃ k : Int, (k = 0 ∨ k = 1) ∧ endsBy s e k = true := by
    unfold setWinner at h
    by_cases h1 : endsBy s e 0 = true
    · exact ⟨0, .inl rfl, h1⟩
    · by_cases h2 : endsBy s e 1 = true
      · exact ⟨1, .inr rfl, h2⟩
      · rw [if_neg h1, if_neg h2] at h; exact absurd rfl h
  obtain ⟨k, hk, hb⟩ := hex
  unfold endsBy at hb
  simp only [Bool.and_eq_true, decide_eq_true_eq] at hb
  obtain ⟨h0, hg, _⟩ := hb
  have hne : e ≠ zero := by
    rintro rfl
    rcases hk with rfl | rfl <;> simp [of, minus, zero] at h0
  unfold orders
  rw [wy_eq]; unfold cell
  have hgood : good s e e.A.toNat e.B.toNat = true := by
    unfold good
    rw [decide_eq_true (Int.toNat_of_nonneg hf.1), decide_eq_true (Int.toNat_of_nonneg hf.2)]; rfl
  rw [if_pos hgood]
  rcases hk with rfl | rfl
  · have hA : 1 ≤ e.A := by simp [of, minus] at h0; omega
    obtain ⟨x, hx⟩ : ∃ x, e.A.toNat = x + 1 := ⟨e.A.toNat - 1, by omega⟩
    have hm : minus e 0 = nat x e.B.toNat := by
      obtain ⟨p, q⟩ := e
      simp only [minus, nat, if_true, Pr.mk.injEq]
      simp only at hx hf
      omega
    rw [hm] at hg
    have := wy_pos hne _ x e.B.toNat rfl hg
    rw [hx]; simp only [left]; omega
  · have hB : 1 ≤ e.B := by simp [of, minus] at h0; omega
    obtain ⟨y, hy⟩ : ∃ y, e.B.toNat = y + 1 := ⟨e.B.toNat - 1, by omega⟩
    have hm : minus e 1 = nat e.A.toNat y := by
      obtain ⟨p, q⟩ := e
      simp only [minus, nat]
      rw [if_neg (by decide)]
      simp only [Pr.mk.injEq]
      simp only at hy hf
      omega
    rw [hm] at hg
    have := wy_pos hne _ e.A.toNat y rfl hg
    rw [hy]; simp only [down]; omega
theorem orders_most {s : Fm} (hv : Valid s) {e : Pr} (hf : 0 ≤ e.A ∧ e.A ≤ 40 ∧ 0 ≤ e.B ∧ e.B ≤ 40) : orders s e ≤ 144115188075855872 := by
  unfold orders
  rw [wy_eq]; unfold cell
  have hl := left_most hv (e := e) ⟨hf.2.1, hf.2.2.2⟩ (a := e.A.toNat) (b := e.B.toNat) (by omega) (by omega)
  have hd := down_most hv (e := e) ⟨hf.2.1, hf.2.2.2⟩ (a := e.A.toNat) (b := e.B.toNat) (by omega) (by omega)
  split
  · omega
  · split <;> omega

def swap (p : Pr) : Pr := ⟨p.B, p.A⟩
def maxWays : Nat := 1000000000000
def waysB (f : Fm) : Pr → Nat → List Pr → Option Nat
  | _, w, [] => some w
  | won, w, g :: r => if maxWays < w * orders (ofSet f won) g then none else waysB f (plus won (setWinner (ofSet f won) g)) (w * orders (ofSet f won) g) r
def waysE (f : Fm) (ps : List Pr) : Int := if swE f ps zero zero ≠ 0 then swE f ps zero zero else match waysB f zero 1 ps with
  | none => 2
  | some _ => 0
def waysV (f : Fm) (ps : List Pr) : Int := if swE f ps zero zero ≠ 0 then 0 else match waysB f zero 1 ps with
  | none => 0
  | some w => w

end M
end Go.Proofs.Ytmhaapghiecfcaa

namespace Go.Proofs.Ytmhaapghiecfcaa
open Go.RowKit
namespace M

theorem hi_swap (p : Pr) : hi (swap p) = hi p := by unfold hi swap; dsimp only; split <;> split <;> omega
theorem near_swap (p : Pr) : near (swap p) = near p := by
  unfold near swap; dsimp only; rw [Bool.eq_iff_iff]; simp only [Bool.and_eq_true, decide_eq_true_eq]; omega
structure OrdersLaw (f : Fm) (ps : List Pr) (cut : Nat) (g : Pr) (a s l : Nat) : Prop where
  all : waysV f ps = a
  some : waysV f (ps.take (cut + 1)) = s
  someE : waysE f (ps.take (cut + 1)) = 0
  less : waysV f (ps.take cut) = l
  lessE : waysE f (ps.take cut) = 0
  mir : waysV f (ps.take cut ++ [swap g]) = s
  mirE : waysE f (ps.take cut ++ [swap g]) = 0
  l1 : 1 ≤ l
  ls : l ≤ s
  sa : s ≤ a
  amost : a ≤ 1000000000000
  dls : (s : Int) % (l : Int) = 0
  dsa : (a : Int) % (s : Int) = 0

end M
end Go.Proofs.Ytmhaapghiecfcaa

namespace Go.Proofs.Ytmhaapghiecfcaa
open Go.RowKit
namespace M

def noF : Fm := { sets := 0, games := 0, noAd := false, tie := 0, to := 0, lastTie := 0, lastTo := 0, first := 0, next := 0, doubles := false }
def noM : Mt := { f := noF, sets := [], games := zero, pts := zero, server := 0, ends := 0, balls := 0, winner := 0, opens := 0, won := zero, fresh := false, log := [] }
def playE (f : Fm) (first : Int) (ps : List Int) : Int :=
  if validB f then (if within first 0 1 then (if 600 < ps.length then 2 else match playF (start f first) ps with
    | none => 11
    | some _ => 0) else 1) else 10
def playM (f : Fm) (first : Int) (ps : List Int) : Mt :=
  if validB f then (if within first 0 1 then (if 600 < ps.length then noM else (playF (start f first) ps).getD noM) else noM) else noM
theorem playF_cons (m : Mt) (p : Int) (r : List Int) : playF m (p :: r) = if (p ≠ 0 ∧ p ≠ 1) ∨ m.winner ≠ -1 then none else playF (point m p) r := rfl
theorem start_ok {f : Fm} {first : Int} (hv : Valid f) (h : 0 ≤ first ∧ first ≤ 1) : Ok (start f first) 0 :=
  ⟨hv, by simp [start], by simp [start], h, by simp [start], by simp [start], by simp [start, zero], by simp [start, zero], by simp [start, zero]⟩

end M

end Go.Proofs.Ytmhaapghiecfcaa

namespace Go.Proofs.Ytmhaapghiecfcaa
open Go.RowKit
attribute [local go_sem ↓] Go.wp_at_zero Go.wp_at_succ

def PlayPost (f : M.Fm) (first : Int) (xs : List Int) (w : World) (e : Ending) (w' : World) : Prop :=
  ∃ sv gv, e = .returned (.tuple #[.agg #[.int .i64 (M.playM f first xs).f.sets, .int .i64 (M.playM f first xs).f.games, .bool (M.playM f first xs).f.noAd, .int .i64 (M.playM f first xs).f.tie, .int .i64 (M.playM f first xs).f.to, .int .i64 (M.playM f first xs).f.lastTie, .int .i64 (M.playM f first xs).f.lastTo, .int .i64 (M.playM f first xs).f.first, .int .i64 (M.playM f first xs).f.next, .bool (M.playM f first xs).f.doubles, sv, .int .i64 (M.playM f first xs).games.A, .int .i64 (M.playM f first xs).games.B, .int .i64 (M.playM f first xs).pts.A, .int .i64 (M.playM f first xs).pts.B, .int .i64 (M.playM f first xs).server, .int .i64 (M.playM f first xs).ends, .int .i64 (M.playM f first xs).balls, .int .i64 (M.playM f first xs).winner, .int .i64 (M.playM f first xs).opens, .int .i64 (M.playM f first xs).won.A, .int .i64 (M.playM f first xs).won.B, .bool (M.playM f first xs).fresh, gv], .int .i64 (M.playE f first xs)]) ∧ w'.ownsRow w.heap.size 32 2 sv (M.playM f first xs).sets.length (flatP (M.playM f first xs).sets) ∧ w'.ownsRow w.heap.size 44 7 gv (M.playM f first xs).log.length (flatG (M.playM f first xs).log) ∧ Below w.heap.size w w'

theorem PlayPost.no {f : M.Fm} {first : Int} {xs : List Int} {w w' : World} {n : Int} (hm : M.playM f first xs = M.noM) (he : M.playE f first xs = n) (hb : Below w.heap.size w w') :
    PlayPost f first xs w (.returned (.tuple #[.agg #[.int .i64 0, .int .i64 0, .bool false, .int .i64 0, .int .i64 0, .int .i64 0, .int .i64 0, .int .i64 0, .int .i64 0, .bool false, .slice none 0 0, .int .i64 0, .int .i64 0, .int .i64 0, .int .i64 0, .int .i64 0, .int .i64 0, .int .i64 0, .int .i64 0, .int .i64 0, .int .i64 0, .int .i64 0, .bool false, .slice none 0 0], .int .i64 n])) w' := by
  refine ⟨.slice none 0 0, .slice none 0 0, ?_, ?_, ?_, hb⟩
  · rw [hm, he]; rfl
  · rw [hm]; exact World.ownsRow_nil _ _ _ _
  · rw [hm]; exact World.ownsRow_nil _ _ _ _

theorem results_row_tmp {P : Program} {fn : Func} {p t : Tmp} {ty : TypeId} (h : fn.results = #[.cell p ty, .tmp t]) (tmps : Array Value) (w : World) (g : Nat) (t0 : TypeId) (cs : Array Value) (fr : Nat × Nat) (d : TypeDesc)
    (hp : tmps.getD p undef = .pointer (some ⟨g, 0, none⟩)) (hg : w.heap[g]? = some (.cells cs t0 fr))
    (hu : P.underlying ty = some d) (hd : (match d with | .struct _ | .array _ _ => true | _ => false) = true) (hi : (P.info? ty).map (·.size) = some cs.size) :
    (results fn tmps).run P w = .ok (.tuple #[.agg cs, tmps.getD t undef]) w := by
  have hp' : tmps[p]?.getD undef = .pointer (some ⟨g, 0, none⟩) := by simpa using hp
  simp [results, h, hp', asAddr, run_loadVar_row w g t0 ty cs fr d hg hu hd hi]
theorem matchRow : (Try.prog.info? 75).map (·.size) = some 24 := by kernel_rfl
theorem store_zero {ops : Array Oper} {rest : List Oper} {o : Oper} {a : Act} {w : World} {Q : Exit → Act → World → Prop} (hgd : o.guard = none) (x y : Operand) (ho : o.op = .store 75 x y)
    (g : Nat) (hx : a.eval x = .pointer (some ⟨g, 0, none⟩)) (hy : a.eval y = .agg #[.int .i64 0, .int .i64 0, .bool false, .int .i64 0, .int .i64 0, .int .i64 0, .int .i64 0, .int .i64 0, .int .i64 0, .bool false, .slice none 0 0, .int .i64 0, .int .i64 0, .int .i64 0, .int .i64 0, .int .i64 0, .int .i64 0, .int .i64 0, .int .i64 0, .int .i64 0, .int .i64 0, .int .i64 0, .bool false, .slice none 0 0]) (hg : w.heap[g]? = some (.cells #[.int .i64 0, .int .i64 0, .bool false, .int .i64 0, .int .i64 0, .int .i64 0, .int .i64 0, .int .i64 0, .int .i64 0, .bool false, .slice none 0 0, .int .i64 0, .int .i64 0, .int .i64 0, .int .i64 0, .int .i64 0, .int .i64 0, .int .i64 0, .int .i64 0, .int .i64 0, .int .i64 0, .int .i64 0, .bool false, .slice none 0 0] 75 (0, 0)))
    (h : wpList Try.prog ops Q rest (a.put o.dst undef) w) : wpList Try.prog ops Q (o :: rest) a w := by
  refine wpList_store_row hgd 75 x y ho g _ hx hy 75 _ hg matchRow rfl (by simp [Value.oneCell']) ?_
  rw [setRow_self _ _ _ _ _ hg]
  exact h


set_option maxHeartbeats 1000000 in
theorem play_no0 (f : M.Fm) (first : Int) (A : Option Addr) (n c : Nat) (xs : List Int) (w : World) (hn : xs.length = n) (hm : n ≤ 1000000) (hv : M.validB f = false) :
    Calls Try.prog 39 #[.agg #[.int .i64 f.sets, .int .i64 f.games, .bool f.noAd, .int .i64 f.tie, .int .i64 f.to, .int .i64 f.lastTie, .int .i64 f.lastTo, .int .i64 f.first, .int .i64 f.next, .bool f.doubles], .int .i64 first, .slice A n c] w fun e w' => PlayPost f first xs w e w' := by
  have h1 : M.playE f first xs = 10 := if_neg (by simp [hv])
  have h2 : M.playM f first xs = M.noM := if_neg (by simp [hv])
  have H1 := hide h1
  have H2 := hide h2
  clear h1 h2
  go_enter Try.func39, Try.ntmps39
  go_wp2_with (first | (go_at_call 11; refine (Check_bad f _ hv).mono ?_; rintro e w1 ⟨rfl, hb1⟩; have h71 : w1.heap[w.heap.size + 1]? = some (.cells #[.int .i64 0, .int .i64 0, .bool false, .int .i64 0, .int .i64 0, .int .i64 0, .int .i64 0, .int .i64 0, .int .i64 0, .bool false, .slice none 0 0, .int .i64 0, .int .i64 0, .int .i64 0, .int .i64 0, .int .i64 0, .int .i64 0, .int .i64 0, .int .i64 0, .int .i64 0, .int .i64 0, .int .i64 0, .bool false, .slice none 0 0] 75 (0, 0)) := (hb1.block _ (by simp)).trans (heap_alloc2_new w _ _); have HB := hide (show Below w.heap.size w w1 from Below.trans (by (exact kb)) (hb1.mono (by simp; omega))); clear hb1) | (refine store_zero rfl _ _ rfl (w.heap.size + 1) rfl rfl h71 ?_))
  refine bodyPost_ret (v := .tuple #[.agg #[.int .i64 0, .int .i64 0, .bool false, .int .i64 0, .int .i64 0, .int .i64 0, .int .i64 0, .int .i64 0, .int .i64 0, .bool false, .slice none 0 0, .int .i64 0, .int .i64 0, .int .i64 0, .int .i64 0, .int .i64 0, .int .i64 0, .int .i64 0, .int .i64 0, .int .i64 0, .int .i64 0, .int .i64 0, .bool false, .slice none 0 0], .int .i64 10]) (results_row_tmp Try.results39 _ _ (w.heap.size + 1) _ _ _ _ rfl h71 Try.underlying75 rfl matchRow) rfl ?_
  exact PlayPost.no H2.out H1.out HB.out

set_option maxHeartbeats 1000000 in
theorem play_no1 (f : M.Fm) (first : Int) (A : Option Addr) (n c : Nat) (xs : List Int) (w : World) (hn : xs.length = n) (hm : n ≤ 1000000) (hv : M.validB f = true) (hf : M.within first 0 1 = false) :
    Calls Try.prog 39 #[.agg #[.int .i64 f.sets, .int .i64 f.games, .bool f.noAd, .int .i64 f.tie, .int .i64 f.to, .int .i64 f.lastTie, .int .i64 f.lastTo, .int .i64 f.first, .int .i64 f.next, .bool f.doubles], .int .i64 first, .slice A n c] w fun e w' => PlayPost f first xs w e w' := by
  have h1 : M.playE f first xs = 1 := (if_pos hv).trans (if_neg (by simp [hf]))
  have h2 : M.playM f first xs = M.noM := (if_pos hv).trans (if_neg (by simp [hf]))
  have H1 := hide h1
  have H2 := hide h2
  clear h1 h2
  have e0 : (first != 0) = true := by simp [M.within] at hf; simp; omega
  have e1 : (first != 1) = true := by simp [M.within] at hf; simp; omega
  go_enter Try.func39, Try.ntmps39
  go_wp2_with (first | (go_at_call 11; refine (Check_good f _ hv).mono ?_; rintro e w1 ⟨rfl, hb1⟩; have h71 : w1.heap[w.heap.size + 1]? = some (.cells #[.int .i64 0, .int .i64 0, .bool false, .int .i64 0, .int .i64 0, .int .i64 0, .int .i64 0, .int .i64 0, .int .i64 0, .bool false, .slice none 0 0, .int .i64 0, .int .i64 0, .int .i64 0, .int .i64 0, .int .i64 0, .int .i64 0, .int .i64 0, .int .i64 0, .int .i64 0, .int .i64 0, .int .i64 0, .bool false, .slice none 0 0] 75 (0, 0)) := (hb1.block _ (by simp)).trans (heap_alloc2_new w _ _); have HB := hide (show Below w.heap.size w w1 from Below.trans (by (exact kb)) (hb1.mono (by simp; omega))); clear hb1) | (refine store_zero rfl _ _ rfl (w.heap.size + 1) rfl rfl h71 ?_))
  refine bodyPost_ret (v := .tuple #[.agg #[.int .i64 0, .int .i64 0, .bool false, .int .i64 0, .int .i64 0, .int .i64 0, .int .i64 0, .int .i64 0, .int .i64 0, .bool false, .slice none 0 0, .int .i64 0, .int .i64 0, .int .i64 0, .int .i64 0, .int .i64 0, .int .i64 0, .int .i64 0, .int .i64 0, .int .i64 0, .int .i64 0, .int .i64 0, .bool false, .slice none 0 0], .int .i64 1]) (results_row_tmp Try.results39 _ _ (w.heap.size + 1) _ _ _ _ rfl h71 Try.underlying75 rfl matchRow) rfl ?_
  exact PlayPost.no H2.out H1.out HB.out

set_option maxHeartbeats 1000000 in
theorem play_no2 (f : M.Fm) (first : Int) (A : Option Addr) (n c : Nat) (xs : List Int) (w : World) (hn : xs.length = n) (hm : n ≤ 1000000) (hv : M.validB f = true) (hf : M.within first 0 1 = true) (hl : 600 < n) :
    Calls Try.prog 39 #[.agg #[.int .i64 f.sets, .int .i64 f.games, .bool f.noAd, .int .i64 f.tie, .int .i64 f.to, .int .i64 f.lastTie, .int .i64 f.lastTo, .int .i64 f.first, .int .i64 f.next, .bool f.doubles], .int .i64 first, .slice A n c] w fun e w' => PlayPost f first xs w e w' := by
  have h1 : M.playE f first xs = 2 := (if_pos hv).trans ((if_pos hf).trans (if_pos (by omega)))
  have h2 : M.playM f first xs = M.noM := (if_pos hv).trans ((if_pos hf).trans (if_pos (by omega)))
  have H1 := hide h1
  have H2 := hide h2
  clear h1 h2
  have hl2 : (600 : Int) < (n : Int) := by omega
  have hff : first = 0 ∨ first = 1 := by simp [M.within] at hf; omega
  clear hf
  rcases hff with e | e
  all_goals
    subst e
    go_enter Try.func39, Try.ntmps39
    go_wp2_with (first | (go_at_call 11; refine (Check_good f _ hv).mono ?_; rintro e w1 ⟨rfl, hb1⟩; have h71 : w1.heap[w.heap.size + 1]? = some (.cells #[.int .i64 0, .int .i64 0, .bool false, .int .i64 0, .int .i64 0, .int .i64 0, .int .i64 0, .int .i64 0, .int .i64 0, .bool false, .slice none 0 0, .int .i64 0, .int .i64 0, .int .i64 0, .int .i64 0, .int .i64 0, .int .i64 0, .int .i64 0, .int .i64 0, .int .i64 0, .int .i64 0, .int .i64 0, .bool false, .slice none 0 0] 75 (0, 0)) := (hb1.block _ (by simp)).trans (heap_alloc2_new w _ _); have HB := hide (show Below w.heap.size w w1 from Below.trans (by (exact kb)) (hb1.mono (by simp; omega))); clear hb1) | (refine store_zero rfl _ _ rfl (w.heap.size + 1) rfl rfl h71 ?_))
    refine bodyPost_ret (v := .tuple #[.agg #[.int .i64 0, .int .i64 0, .bool false, .int .i64 0, .int .i64 0, .int .i64 0, .int .i64 0, .int .i64 0, .int .i64 0, .bool false, .slice none 0 0, .int .i64 0, .int .i64 0, .int .i64 0, .int .i64 0, .int .i64 0, .int .i64 0, .int .i64 0, .int .i64 0, .int .i64 0, .int .i64 0, .int .i64 0, .bool false, .slice none 0 0], .int .i64 2]) (results_row_tmp Try.results39 _ _ (w.heap.size + 1) _ _ _ _ rfl h71 Try.underlying75 rfl matchRow) rfl ?_
    exact PlayPost.no H2.out H1.out HB.out
end Go.Proofs.Ytmhaapghiecfcaa

namespace Go.Proofs.Ytmhaapghiecfcaa
open Go.RowKit
attribute [local go_sem ↓] Go.wp_at_zero Go.wp_at_succ

theorem owns_mono {w : World} {base base' : Nat} {e : TypeId} {size : Nat} {v : Value} {n : Nat} {xs : List Value} (h : w.ownsRow base e size v n xs) (hb : base' ≤ base) : w.ownsRow base' e size v n xs :=
  ⟨h.1, h.2.imp id fun ⟨g, cap, cur, e1, hg, r⟩ => ⟨g, cap, cur, e1, Nat.le_trans hb hg, r⟩⟩
theorem PlayPost.err {f : M.Fm} {first : Int} {xs : List Int} {w w' : World} {m : M.Mt} {l : List Int} (hv : M.validB f = true) (hf : M.within first 0 1 = true) (hl : xs.length ≤ 600) (hp : M.playF m l = M.playF (M.start f first) xs) (hn : M.playF m l = none) (hb : Below w.heap.size w w') :
    PlayPost f first xs w (.returned (.tuple #[.agg #[.int .i64 0, .int .i64 0, .bool false, .int .i64 0, .int .i64 0, .int .i64 0, .int .i64 0, .int .i64 0, .int .i64 0, .bool false, .slice none 0 0, .int .i64 0, .int .i64 0, .int .i64 0, .int .i64 0, .int .i64 0, .int .i64 0, .int .i64 0, .int .i64 0, .int .i64 0, .int .i64 0, .int .i64 0, .bool false, .slice none 0 0], .int .i64 11])) w' := by
  rw [hn] at hp
  refine PlayPost.no ?_ ?_ hb
  · unfold M.playM; rw [if_pos hv, if_pos hf, if_neg (by omega), ← hp]; rfl
  · unfold M.playE; rw [if_pos hv, if_pos hf, if_neg (by omega), ← hp]

theorem play_fin {f : M.Fm} {first : Int} {xs : List Int} {w wr : World} {m : M.Mt} {q : Nat} {sv gv : Value} {old : Array Value} (hv : M.validB f = true) (hf : M.within first 0 1 = true) (hl : xs.length ≤ 600) (hp : some m = M.playF (M.start f first) xs) (h : MAt wr q q m sv gv)
    (h71 : wr.heap[w.heap.size + 1]? = some (.cells old 75 (0, 0))) (hq : w.heap.size ≤ q) (hb : Below w.heap.size w wr) :
    PlayPost f first xs w (.returned (.tuple #[.agg #[.int .i64 m.f.sets, .int .i64 m.f.games, .bool m.f.noAd, .int .i64 m.f.tie, .int .i64 m.f.to, .int .i64 m.f.lastTie, .int .i64 m.f.lastTo, .int .i64 m.f.first, .int .i64 m.f.next, .bool m.f.doubles, sv, .int .i64 m.games.A, .int .i64 m.games.B, .int .i64 m.pts.A, .int .i64 m.pts.B, .int .i64 m.server, .int .i64 m.ends, .int .i64 m.balls, .int .i64 m.winner, .int .i64 m.opens, .int .i64 m.won.A, .int .i64 m.won.B, .bool m.fresh, gv], .int .i64 0])) (wr.setRow (w.heap.size + 1) #[.int .i64 m.f.sets, .int .i64 m.f.games, .bool m.f.noAd, .int .i64 m.f.tie, .int .i64 m.f.to, .int .i64 m.f.lastTie, .int .i64 m.f.lastTo, .int .i64 m.f.first, .int .i64 m.f.next, .bool m.f.doubles, sv, .int .i64 m.games.A, .int .i64 m.games.B, .int .i64 m.pts.A, .int .i64 m.pts.B, .int .i64 m.server, .int .i64 m.ends, .int .i64 m.balls, .int .i64 m.winner, .int .i64 m.opens, .int .i64 m.won.A, .int .i64 m.won.B, .bool m.fresh, gv]) := by
  have hg : wr.grownBy (wr.setRow (w.heap.size + 1) #[.int .i64 m.f.sets, .int .i64 m.f.games, .bool m.f.noAd, .int .i64 m.f.tie, .int .i64 m.f.to, .int .i64 m.f.lastTie, .int .i64 m.f.lastTo, .int .i64 m.f.first, .int .i64 m.f.next, .bool m.f.doubles, sv, .int .i64 m.games.A, .int .i64 m.games.B, .int .i64 m.pts.A, .int .i64 m.pts.B, .int .i64 m.server, .int .i64 m.ends, .int .i64 m.balls, .int .i64 m.winner, .int .i64 m.opens, .int .i64 m.won.A, .int .i64 m.won.B, .bool m.fresh, gv]) (some (w.heap.size + 1)) := ⟨rfl, rfl, rfl, by simp, fun k _ hk => setRow_other wr _ k _ (fun e => hk (by rw [e]))⟩
  have e1 : M.playM f first xs = m := by unfold M.playM; rw [if_pos hv, if_pos hf, if_neg (by omega), ← hp]; rfl
  have e2 : M.playE f first xs = 0 := by unfold M.playE; rw [if_pos hv, if_pos hf, if_neg (by omega), ← hp]
  refine ⟨sv, gv, by rw [e1, e2], ?_, ?_, ?_⟩
  · rw [e1]; exact owns_mono (h.2.2.1.kept hg (.inr (row_ne h.2.2.1 h71 (by decide)))) hq
  · rw [e1]; exact owns_mono (h.2.2.2.kept hg (.inr (row_ne h.2.2.2 h71 (by decide)))) hq
  · exact ⟨hb.os, hb.tape, hb.output, by simp; exact hb.size, fun i hi => (setRow_other wr _ i _ (by omega)).trans (hb.block i hi)⟩

set_option maxHeartbeats 4000000 in
set_option maxRecDepth 100000 in
theorem play_yes (f : M.Fm) (first : Int) (A : Option Addr) (n c : Nat) (xs : List Int) (w : World) (hn : xs.length = n) (hr : RdI w w.heap.size A xs) (hm : n ≤ 600) (hv : M.validB f = true) (hf : M.within first 0 1 = true) :
    Calls Try.prog 39 #[.agg #[.int .i64 f.sets, .int .i64 f.games, .bool f.noAd, .int .i64 f.tie, .int .i64 f.to, .int .i64 f.lastTie, .int .i64 f.lastTo, .int .i64 f.first, .int .i64 f.next, .bool f.doubles], .int .i64 first, .slice A n c] w fun e w' => PlayPost f first xs w e w' := by
  have HN := hide hn
  have HR := hide hr
  have HV := hide hv
  have HF := hide hf
  have hff : first = 0 ∨ first = 1 := by simp [M.within] at hf; omega
  have HST := hide (M.start_ok (f := f) (first := first) ((M.validB_iff f).1 hv) (by omega))
  have hl2 : ¬ (600 : Int) < (n : Int) := by omega
  have hdec : decide ((600 : Int) < (n : Int)) = false := by simpa using hl2
  have hguard : ((first != 0) = false) ∨ ((first != 0) = true ∧ (first != 1) = false) := by
    rcases hff with e | e
    · left; rw [e]; rfl
    · right; rw [e]; exact ⟨rfl, rfl⟩
  clear hn hr hf hff
  go_enter Try.func39, Try.ntmps39
  rcases hguard with hg0 | ⟨hg0, hg1⟩
  all_goals
    go_upto_region 9 with (first | (go_at_call 11; refine (Check_good f _ HV.out).mono ?_; rintro e w1 ⟨rfl, hb1⟩; have h71 : w1.heap[w.heap.size + 1]? = some (.cells #[.int .i64 0, .int .i64 0, .bool false, .int .i64 0, .int .i64 0, .int .i64 0, .int .i64 0, .int .i64 0, .int .i64 0, .bool false, .slice none 0 0, .int .i64 0, .int .i64 0, .int .i64 0, .int .i64 0, .int .i64 0, .int .i64 0, .int .i64 0, .int .i64 0, .int .i64 0, .int .i64 0, .int .i64 0, .bool false, .slice none 0 0] 75 (0, 0)) := (hb1.block _ (by simp)).trans (heap_alloc2_new w _ _); have h23 := (hb1.block w.heap.size (by simp; omega)).trans (heap_alloc2_old w _ _); have hcf := fun i => cell_of_row w1 w.heap.size i _ _ _ h23; have hq1 : w.heap.size + 1 < w1.heap.size := (by have := hb1.size; simp at this; omega); have HB1 := hide (show Below w.heap.size w w1 from Below.trans (by (exact kb)) (hb1.mono (by simp; omega))); clear hb1 h23) | (refine wpList_store_row rfl 75 _ _ rfl w1.heap.size _ rfl rfl 75 _ (heap_alloc_new w1 _) matchRow rfl (by simp [Value.oneCell']) ?_))
    have h2 : MAt (World.setRow (w1.alloc (.cells #[.int .i64 0, .int .i64 0, .bool false, .int .i64 0, .int .i64 0, .int .i64 0, .int .i64 0, .int .i64 0, .int .i64 0, .bool false, .slice none 0 0, .int .i64 0, .int .i64 0, .int .i64 0, .int .i64 0, .int .i64 0, .int .i64 0, .int .i64 0, .int .i64 0, .int .i64 0, .int .i64 0, .int .i64 0, .bool false, .slice none 0 0] 75 (0, 0))) w1.heap.size #[.int .i64 f.sets, .int .i64 f.games, .bool f.noAd, .int .i64 f.tie, .int .i64 f.to, .int .i64 f.lastTie, .int .i64 f.lastTo, .int .i64 f.first, .int .i64 f.next, .bool f.doubles, .slice none 0 0, .int .i64 0, .int .i64 0, .int .i64 0, .int .i64 0, .int .i64 first, .int .i64 0, .int .i64 0, .int .i64 (-1), .int .i64 first, .int .i64 0, .int .i64 0, .bool false, .slice none 0 0]) w1.heap.size w1.heap.size (M.start f first) (.slice none 0 0) (.slice none 0 0) := ⟨Nat.le_refl _, setRow_heap _ w1.heap.size _ _ 75 (0, 0) (heap_alloc_new w1 (.cells #[.int .i64 0, .int .i64 0, .bool false, .int .i64 0, .int .i64 0, .int .i64 0, .int .i64 0, .int .i64 0, .int .i64 0, .bool false, .slice none 0 0, .int .i64 0, .int .i64 0, .int .i64 0, .int .i64 0, .int .i64 0, .int .i64 0, .int .i64 0, .int .i64 0, .int .i64 0, .int .i64 0, .int .i64 0, .bool false, .slice none 0 0] 75 (0, 0))), World.ownsRow_nil _ _ _ _, World.ownsRow_nil _ _ _ _⟩
    have h71b : (World.setRow (w1.alloc (.cells #[.int .i64 0, .int .i64 0, .bool false, .int .i64 0, .int .i64 0, .int .i64 0, .int .i64 0, .int .i64 0, .int .i64 0, .bool false, .slice none 0 0, .int .i64 0, .int .i64 0, .int .i64 0, .int .i64 0, .int .i64 0, .int .i64 0, .int .i64 0, .int .i64 0, .int .i64 0, .int .i64 0, .int .i64 0, .bool false, .slice none 0 0] 75 (0, 0))) w1.heap.size #[.int .i64 f.sets, .int .i64 f.games, .bool f.noAd, .int .i64 f.tie, .int .i64 f.to, .int .i64 f.lastTie, .int .i64 f.lastTo, .int .i64 f.first, .int .i64 f.next, .bool f.doubles, .slice none 0 0, .int .i64 0, .int .i64 0, .int .i64 0, .int .i64 0, .int .i64 first, .int .i64 0, .int .i64 0, .int .i64 (-1), .int .i64 first, .int .i64 0, .int .i64 0, .bool false, .slice none 0 0]).heap[w.heap.size + 1]? = some (.cells #[.int .i64 0, .int .i64 0, .bool false, .int .i64 0, .int .i64 0, .int .i64 0, .int .i64 0, .int .i64 0, .int .i64 0, .bool false, .slice none 0 0, .int .i64 0, .int .i64 0, .int .i64 0, .int .i64 0, .int .i64 0, .int .i64 0, .int .i64 0, .int .i64 0, .int .i64 0, .int .i64 0, .int .i64 0, .bool false, .slice none 0 0] 75 (0, 0)) := (setRow_other _ _ _ _ (by omega)).trans ((heap_alloc_old _ _ (by omega)).trans h71)
    have HB2 : Below w.heap.size w (World.setRow (w1.alloc (.cells #[.int .i64 0, .int .i64 0, .bool false, .int .i64 0, .int .i64 0, .int .i64 0, .int .i64 0, .int .i64 0, .int .i64 0, .bool false, .slice none 0 0, .int .i64 0, .int .i64 0, .int .i64 0, .int .i64 0, .int .i64 0, .int .i64 0, .int .i64 0, .int .i64 0, .int .i64 0, .int .i64 0, .int .i64 0, .bool false, .slice none 0 0] 75 (0, 0))) w1.heap.size #[.int .i64 f.sets, .int .i64 f.games, .bool f.noAd, .int .i64 f.tie, .int .i64 f.to, .int .i64 f.lastTie, .int .i64 f.lastTo, .int .i64 f.first, .int .i64 f.next, .bool f.doubles, .slice none 0 0, .int .i64 0, .int .i64 0, .int .i64 0, .int .i64 0, .int .i64 first, .int .i64 0, .int .i64 0, .int .i64 (-1), .int .i64 first, .int .i64 0, .int .i64 0, .bool false, .slice none 0 0]) := ⟨HB1.out.os, HB1.out.tape, HB1.out.output, by simp; have := HB1.out.size; omega, fun i hi => (setRow_other _ _ i _ (by omega)).trans ((heap_alloc_old _ _ (by omega)).trans (HB1.out.block i hi))⟩
    generalize (World.setRow (w1.alloc (.cells #[.int .i64 0, .int .i64 0, .bool false, .int .i64 0, .int .i64 0, .int .i64 0, .int .i64 0, .int .i64 0, .int .i64 0, .bool false, .slice none 0 0, .int .i64 0, .int .i64 0, .int .i64 0, .int .i64 0, .int .i64 0, .int .i64 0, .int .i64 0, .int .i64 0, .int .i64 0, .int .i64 0, .int .i64 0, .bool false, .slice none 0 0] 75 (0, 0))) w1.heap.size #[.int .i64 f.sets, .int .i64 f.games, .bool f.noAd, .int .i64 f.tie, .int .i64 f.to, .int .i64 f.lastTie, .int .i64 f.lastTo, .int .i64 f.first, .int .i64 f.next, .bool f.doubles, .slice none 0 0, .int .i64 0, .int .i64 0, .int .i64 0, .int .i64 0, .int .i64 first, .int .i64 0, .int .i64 0, .int .i64 (-1), .int .i64 first, .int .i64 0, .int .i64 0, .bool false, .slice none 0 0]) = w2 at h2 h71b HB2 ⊢
    have H2 := hide h2
    have H71 := hide h71b
    clear h2 h71b h71 hcf HB1 hg0
    (try clear hg1)
    generalize w1.heap.size = q at *
    clear w1
    go_wp2_with fail
    go_loopw [36] (fun i wr => ∃ k : Nat, k ≤ n ∧ i = .int .i64 k ∧ ∃ (m : M.Mt) (sv gv : Value), Hid (M.playF m (xs.drop k) = M.playF (M.start f first) xs) ∧ Hid (M.Ok m k) ∧ Hid (MAt wr q q m sv gv) ∧ Hid (wr.heap[w.heap.size + 1]? = some (.cells #[.int .i64 0, .int .i64 0, .bool false, .int .i64 0, .int .i64 0, .int .i64 0, .int .i64 0, .int .i64 0, .int .i64 0, .bool false, .slice none 0 0, .int .i64 0, .int .i64 0, .int .i64 0, .int .i64 0, .int .i64 0, .int .i64 0, .int .i64 0, .int .i64 0, .int .i64 0, .int .i64 0, .int .i64 0, .bool false, .slice none 0 0] 75 (0, 0))) ∧ Below w.heap.size w wr) (fun i _ => n - (intOf i).toNat)
    case atStart => exact ⟨0, by omega, rfl, M.start f first, _, _, hide (by rfl), HST, H2, H71, HB2⟩
    case round =>
      obtain ⟨k, hk, rfl, m, sv, gv, hpl, hok, hat, hz7, hB⟩ := hrel
      have cw : wr.cell? ⟨q, 18, none⟩ = some (.int .i64 m.winner) := (cell_of_row wr q 18 _ _ _ hat.out.2.1).trans rfl
      by_cases hlt : k < n
      · obtain ⟨x, hx⟩ : ∃ x, xs[k]? = some x := ⟨_, List.getElem?_eq_getElem (by have := HN.out; omega)⟩
        obtain ⟨b, o, hA, hbB, c0⟩ := (HR.out.below hB) k x hx
        subst hA
        have hd : xs.drop k = x :: xs.drop (k + 1) := by
          obtain ⟨hl, rfl⟩ := List.getElem?_eq_some_iff.1 hx
          exact List.drop_eq_getElem_cons hl
        have HD := hide hd
        clear hd hx
        cases hw : (m.winner != -1)
        · cases h0 : (x != 0)
          · have HPL : Hid (M.playF (M.point m x) (xs.drop (k + 1)) = M.playF (M.start f first) xs) := hide (by rw [← hpl.out, HD.out, M.playF_cons, if_neg (by simp at hw h0; omega)])
            have hx0 : 0 ≤ x ∧ x ≤ 1 := by simp at h0; omega
            go_wp2_with (first | (go_at_call 62; refine (point_any x k hat.out hok.out (by omega) hx0.1 hx0.2).mono ?_; rintro e wr' ⟨rfl, ⟨sv', gv', hat'⟩, hb'⟩; have HAT := hide hat'; clear hat'))
            go_roundw
            case rel => exact ⟨k + 1, by omega, by go_num, M.point m x, sv', gv', HPL, hide (Ok.point x hok.out), HAT, hide ((hb'.block _ (by omega)).trans hz7.out), hB.trans (hb'.mono (by omega))⟩
            case measure => simp [intOf]; omega
          · cases h1 : (x != 1)
            · have HPL : Hid (M.playF (M.point m x) (xs.drop (k + 1)) = M.playF (M.start f first) xs) := hide (by rw [← hpl.out, HD.out, M.playF_cons, if_neg (by simp at hw h1; omega)])
              have hx0 : 0 ≤ x ∧ x ≤ 1 := by simp at h1; omega
              go_wp2_with (first | (go_at_call 62; refine (point_any x k hat.out hok.out (by omega) hx0.1 hx0.2).mono ?_; rintro e wr' ⟨rfl, ⟨sv', gv', hat'⟩, hb'⟩; have HAT := hide hat'; clear hat'))
              go_roundw
              case rel => exact ⟨k + 1, by omega, by go_num, M.point m x, sv', gv', HPL, hide (Ok.point x hok.out), HAT, hide ((hb'.block _ (by omega)).trans hz7.out), hB.trans (hb'.mono (by omega))⟩
              case measure => simp [intOf]; omega
            · have hnone : M.playF m (xs.drop k) = none := by rw [HD.out, M.playF_cons, if_pos (by simp at h0 h1; omega)]
              have HNO := hide hnone
              clear hnone
              go_wp2_with (first | (refine store_zero rfl _ _ rfl (w.heap.size + 1) rfl rfl hz7.out ?_))
              refine bodyPost_ret (v := .tuple #[.agg #[.int .i64 0, .int .i64 0, .bool false, .int .i64 0, .int .i64 0, .int .i64 0, .int .i64 0, .int .i64 0, .int .i64 0, .bool false, .slice none 0 0, .int .i64 0, .int .i64 0, .int .i64 0, .int .i64 0, .int .i64 0, .int .i64 0, .int .i64 0, .int .i64 0, .int .i64 0, .int .i64 0, .int .i64 0, .bool false, .slice none 0 0], .int .i64 11]) (results_row_tmp Try.results39 _ _ (w.heap.size + 1) _ _ _ _ rfl hz7.out Try.underlying75 rfl matchRow) rfl ?_
              exact PlayPost.err HV.out HF.out (by have := HN.out; omega) hpl.out HNO.out hB
        · cases h0 : (x != 0)
          · have hnone : M.playF m (xs.drop k) = none := by rw [HD.out, M.playF_cons, if_pos (by simp at hw; omega)]
            have HNO := hide hnone
            clear hnone
            go_wp2_with (first | (refine store_zero rfl _ _ rfl (w.heap.size + 1) rfl rfl hz7.out ?_))
            refine bodyPost_ret (v := .tuple #[.agg #[.int .i64 0, .int .i64 0, .bool false, .int .i64 0, .int .i64 0, .int .i64 0, .int .i64 0, .int .i64 0, .int .i64 0, .bool false, .slice none 0 0, .int .i64 0, .int .i64 0, .int .i64 0, .int .i64 0, .int .i64 0, .int .i64 0, .int .i64 0, .int .i64 0, .int .i64 0, .int .i64 0, .int .i64 0, .bool false, .slice none 0 0], .int .i64 11]) (results_row_tmp Try.results39 _ _ (w.heap.size + 1) _ _ _ _ rfl hz7.out Try.underlying75 rfl matchRow) rfl ?_
            exact PlayPost.err HV.out HF.out (by have := HN.out; omega) hpl.out HNO.out hB
          · cases h1 : (x != 1)
            all_goals
              have hnone : M.playF m (xs.drop k) = none := by rw [HD.out, M.playF_cons, if_pos (by simp at hw; omega)]
              have HNO := hide hnone
              clear hnone
              go_wp2_with (first | (refine store_zero rfl _ _ rfl (w.heap.size + 1) rfl rfl hz7.out ?_))
              refine bodyPost_ret (v := .tuple #[.agg #[.int .i64 0, .int .i64 0, .bool false, .int .i64 0, .int .i64 0, .int .i64 0, .int .i64 0, .int .i64 0, .int .i64 0, .bool false, .slice none 0 0, .int .i64 0, .int .i64 0, .int .i64 0, .int .i64 0, .int .i64 0, .int .i64 0, .int .i64 0, .int .i64 0, .int .i64 0, .int .i64 0, .int .i64 0, .bool false, .slice none 0 0], .int .i64 11]) (results_row_tmp Try.results39 _ _ (w.heap.size + 1) _ _ _ _ rfl hz7.out Try.underlying75 rfl matchRow) rfl ?_
              exact PlayPost.err HV.out HF.out (by have := HN.out; omega) hpl.out HNO.out hB
      · have hkn : k = n := by omega
        have hs : some m = M.playF (M.start f first) xs := by rw [← hpl.out, List.drop_of_length_le (by have := HN.out; omega)]; rfl
        have HS := hide hs
        clear hs
        obtain ⟨A1, c1, e1⟩ := own_form hat.out.2.2.1
        obtain ⟨A2, c2, e2⟩ := own_form hat.out.2.2.2
        subst e1 e2
        subst hkn
        go_wp2_with (first | (refine wpList_load_row rfl 75 _ rfl q rfl 75 _ (0, 0) _ hat.out.2.1 Try.underlying75 rfl matchRow ?_) | (refine wpList_store_row rfl 75 _ _ rfl (w.heap.size + 1) _ rfl rfl 75 _ hz7.out matchRow rfl (by simp [Value.oneCell']) ?_))
        refine bodyPost_ret (v := .tuple #[.agg #[.int .i64 m.f.sets, .int .i64 m.f.games, .bool m.f.noAd, .int .i64 m.f.tie, .int .i64 m.f.to, .int .i64 m.f.lastTie, .int .i64 m.f.lastTo, .int .i64 m.f.first, .int .i64 m.f.next, .bool m.f.doubles, .slice A1 m.sets.length c1, .int .i64 m.games.A, .int .i64 m.games.B, .int .i64 m.pts.A, .int .i64 m.pts.B, .int .i64 m.server, .int .i64 m.ends, .int .i64 m.balls, .int .i64 m.winner, .int .i64 m.opens, .int .i64 m.won.A, .int .i64 m.won.B, .bool m.fresh, .slice A2 m.log.length c2], .int .i64 0]) (results_row_tmp Try.results39 _ _ (w.heap.size + 1) _ _ _ _ rfl (setRow_heap _ _ _ _ _ _ hz7.out) Try.underlying75 rfl matchRow) rfl ?_
        exact play_fin HV.out HF.out (by have := HN.out; omega) HS.out hat.out hz7.out (by omega) hB

end Go.Proofs.Ytmhaapghiecfcaa

namespace Go.Proofs.Ytmhaapghiecfcaa
open Go.RowKit
attribute [local go_sem ↓] Go.wp_at_zero Go.wp_at_succ

theorem play_any (f : M.Fm) (first : Int) (A : Option Addr) (n c : Nat) (xs : List Int) (w : World) (hn : xs.length = n) (hr : RdI w w.heap.size A xs) (hm : n ≤ 1000000) :
    Calls Try.prog 39 #[.agg #[.int .i64 f.sets, .int .i64 f.games, .bool f.noAd, .int .i64 f.tie, .int .i64 f.to, .int .i64 f.lastTie, .int .i64 f.lastTo, .int .i64 f.first, .int .i64 f.next, .bool f.doubles], .int .i64 first, .slice A n c] w fun e w' => PlayPost f first xs w e w' := by
  cases hv : M.validB f
  · exact play_no0 f first A n c xs w hn hm hv
  · cases hf : M.within first 0 1
    · exact play_no1 f first A n c xs w hn hm hv hf
    · by_cases hl : 600 < n
      · exact play_no2 f first A n c xs w hn hm hv hf hl
      · exact play_yes f first A n c xs w hn hr (by omega) hv hf

def PlayedPost (f : M.Fm) (first : Int) (xs : List Int) (w : World) (e : Ending) (w' : World) : Prop :=
  ∃ sv, e = .returned (.tuple #[.agg #[sv, .int .i64 (M.playM f first xs).games.A, .int .i64 (M.playM f first xs).games.B, .int .i64 (M.playM f first xs).pts.A, .int .i64 (M.playM f first xs).pts.B, .int .i64 (M.playM f first xs).server, .int .i64 (M.playM f first xs).ends, .int .i64 (M.playM f first xs).balls, .int .i64 (M.playM f first xs).winner], .int .i64 (M.playE f first xs)]) ∧
    w'.ownsRow w.heap.size 32 2 sv (M.playM f first xs).sets.length (flatP (M.playM f first xs).sets) ∧ Below w.heap.size w w'
theorem scoreRow : (Try.prog.info? 36).map (·.size) = some 9 := by kernel_rfl

set_option maxHeartbeats 4000000 in
set_option maxRecDepth 100000 in
theorem Play_any (f : M.Fm) (first : Int) (A : Option Addr) (n c : Nat) (xs : List Int) (w : World) (hn : xs.length = n) (hr : RdI w w.heap.size A xs) (hm : n ≤ 1000000) :
    Calls Try.prog 13 #[.agg #[.int .i64 f.sets, .int .i64 f.games, .bool f.noAd, .int .i64 f.tie, .int .i64 f.to, .int .i64 f.lastTie, .int .i64 f.lastTo, .int .i64 f.first, .int .i64 f.next, .bool f.doubles], .int .i64 first, .slice A n c] w fun e w' => PlayedPost f first xs w e w' := by
  have HN := hide hn
  have HR := hide hr
  clear hn hr
  go_enter Try.func13, Try.ntmps13
  go_upto_region 2 with (first | (go_at_call 39; refine (play_any f first A n c xs _ HN.out ((HR.out.below (by (exact kb))).mono (by simp; omega)) hm).mono ?_; rintro e w1 ⟨sv, gv, rfl, hsv, hgv, hb1⟩; have hb1' := hb1; obtain ⟨A1, c1, e1⟩ := own_form hsv; obtain ⟨A2, c2, e2⟩ := own_form hgv; subst e1 e2; have HSV := hide hsv; have HGV := hide hgv; clear hsv hgv; have h36 : w1.heap[w.heap.size + 1]? = some (.cells #[.slice none 0 0, .int .i64 0, .int .i64 0, .int .i64 0, .int .i64 0, .int .i64 0, .int .i64 0, .int .i64 0, .int .i64 0] 36 (0, 0)) := (hb1.block _ (by simp)).trans (heap_alloc2_new w _ _); have hq1 : w.heap.size + 1 < w1.heap.size := (by have := hb1.size; simp at this; omega); have HB1 := hide (show Below w.heap.size w w1 from Below.trans (by (exact kb)) (hb1.mono (by simp; omega))); clear hb1) | (refine wpList_store_row rfl 75 _ _ rfl w1.heap.size _ rfl rfl 75 _ (heap_alloc_new w1 _) matchRow rfl (by simp [Value.oneCell']) ?_))
  have hblk : (World.setRow (w1.alloc (.cells #[.int .i64 0, .int .i64 0, .bool false, .int .i64 0, .int .i64 0, .int .i64 0, .int .i64 0, .int .i64 0, .int .i64 0, .bool false, .slice none 0 0, .int .i64 0, .int .i64 0, .int .i64 0, .int .i64 0, .int .i64 0, .int .i64 0, .int .i64 0, .int .i64 0, .int .i64 0, .int .i64 0, .int .i64 0, .bool false, .slice none 0 0] 75 (0, 0))) w1.heap.size #[.int .i64 (M.playM f first xs).f.sets, .int .i64 (M.playM f first xs).f.games, .bool (M.playM f first xs).f.noAd, .int .i64 (M.playM f first xs).f.tie, .int .i64 (M.playM f first xs).f.to, .int .i64 (M.playM f first xs).f.lastTie, .int .i64 (M.playM f first xs).f.lastTo, .int .i64 (M.playM f first xs).f.first, .int .i64 (M.playM f first xs).f.next, .bool (M.playM f first xs).f.doubles, .slice A1 (M.playM f first xs).sets.length c1, .int .i64 (M.playM f first xs).games.A, .int .i64 (M.playM f first xs).games.B, .int .i64 (M.playM f first xs).pts.A, .int .i64 (M.playM f first xs).pts.B, .int .i64 (M.playM f first xs).server, .int .i64 (M.playM f first xs).ends, .int .i64 (M.playM f first xs).balls, .int .i64 (M.playM f first xs).winner, .int .i64 (M.playM f first xs).opens, .int .i64 (M.playM f first xs).won.A, .int .i64 (M.playM f first xs).won.B, .bool (M.playM f first xs).fresh, .slice A2 (M.playM f first xs).log.length c2]).heap[w1.heap.size]? = some (.cells #[.int .i64 (M.playM f first xs).f.sets, .int .i64 (M.playM f first xs).f.games, .bool (M.playM f first xs).f.noAd, .int .i64 (M.playM f first xs).f.tie, .int .i64 (M.playM f first xs).f.to, .int .i64 (M.playM f first xs).f.lastTie, .int .i64 (M.playM f first xs).f.lastTo, .int .i64 (M.playM f first xs).f.first, .int .i64 (M.playM f first xs).f.next, .bool (M.playM f first xs).f.doubles, .slice A1 (M.playM f first xs).sets.length c1, .int .i64 (M.playM f first xs).games.A, .int .i64 (M.playM f first xs).games.B, .int .i64 (M.playM f first xs).pts.A, .int .i64 (M.playM f first xs).pts.B, .int .i64 (M.playM f first xs).server, .int .i64 (M.playM f first xs).ends, .int .i64 (M.playM f first xs).balls, .int .i64 (M.playM f first xs).winner, .int .i64 (M.playM f first xs).opens, .int .i64 (M.playM f first xs).won.A, .int .i64 (M.playM f first xs).won.B, .bool (M.playM f first xs).fresh, .slice A2 (M.playM f first xs).log.length c2] 75 (0, 0)) := setRow_heap _ w1.heap.size _ _ 75 (0, 0) (heap_alloc_new w1 (.cells #[.int .i64 0, .int .i64 0, .bool false, .int .i64 0, .int .i64 0, .int .i64 0, .int .i64 0, .int .i64 0, .int .i64 0, .bool false, .slice none 0 0, .int .i64 0, .int .i64 0, .int .i64 0, .int .i64 0, .int .i64 0, .int .i64 0, .int .i64 0, .int .i64 0, .int .i64 0, .int .i64 0, .int .i64 0, .bool false, .slice none 0 0] 75 (0, 0)))
  have hgr : w1.grownBy (World.setRow (w1.alloc (.cells #[.int .i64 0, .int .i64 0, .bool false, .int .i64 0, .int .i64 0, .int .i64 0, .int .i64 0, .int .i64 0, .int .i64 0, .bool false, .slice none 0 0, .int .i64 0, .int .i64 0, .int .i64 0, .int .i64 0, .int .i64 0, .int .i64 0, .int .i64 0, .int .i64 0, .int .i64 0, .int .i64 0, .int .i64 0, .bool false, .slice none 0 0] 75 (0, 0))) w1.heap.size #[.int .i64 (M.playM f first xs).f.sets, .int .i64 (M.playM f first xs).f.games, .bool (M.playM f first xs).f.noAd, .int .i64 (M.playM f first xs).f.tie, .int .i64 (M.playM f first xs).f.to, .int .i64 (M.playM f first xs).f.lastTie, .int .i64 (M.playM f first xs).f.lastTo, .int .i64 (M.playM f first xs).f.first, .int .i64 (M.playM f first xs).f.next, .bool (M.playM f first xs).f.doubles, .slice A1 (M.playM f first xs).sets.length c1, .int .i64 (M.playM f first xs).games.A, .int .i64 (M.playM f first xs).games.B, .int .i64 (M.playM f first xs).pts.A, .int .i64 (M.playM f first xs).pts.B, .int .i64 (M.playM f first xs).server, .int .i64 (M.playM f first xs).ends, .int .i64 (M.playM f first xs).balls, .int .i64 (M.playM f first xs).winner, .int .i64 (M.playM f first xs).opens, .int .i64 (M.playM f first xs).won.A, .int .i64 (M.playM f first xs).won.B, .bool (M.playM f first xs).fresh, .slice A2 (M.playM f first xs).log.length c2]) none := ⟨rfl, rfl, rfl, by simp, fun k hk _ => (setRow_other _ _ k _ (by omega)).trans (heap_alloc_old _ _ hk)⟩
  have HBB := hide (show Below w.heap.size w (World.setRow (w1.alloc (.cells #[.int .i64 0, .int .i64 0, .bool false, .int .i64 0, .int .i64 0, .int .i64 0, .int .i64 0, .int .i64 0, .int .i64 0, .bool false, .slice none 0 0, .int .i64 0, .int .i64 0, .int .i64 0, .int .i64 0, .int .i64 0, .int .i64 0, .int .i64 0, .int .i64 0, .int .i64 0, .int .i64 0, .int .i64 0, .bool false, .slice none 0 0] 75 (0, 0))) w1.heap.size #[.int .i64 (M.playM f first xs).f.sets, .int .i64 (M.playM f first xs).f.games, .bool (M.playM f first xs).f.noAd, .int .i64 (M.playM f first xs).f.tie, .int .i64 (M.playM f first xs).f.to, .int .i64 (M.playM f first xs).f.lastTie, .int .i64 (M.playM f first xs).f.lastTo, .int .i64 (M.playM f first xs).f.first, .int .i64 (M.playM f first xs).f.next, .bool (M.playM f first xs).f.doubles, .slice A1 (M.playM f first xs).sets.length c1, .int .i64 (M.playM f first xs).games.A, .int .i64 (M.playM f first xs).games.B, .int .i64 (M.playM f first xs).pts.A, .int .i64 (M.playM f first xs).pts.B, .int .i64 (M.playM f first xs).server, .int .i64 (M.playM f first xs).ends, .int .i64 (M.playM f first xs).balls, .int .i64 (M.playM f first xs).winner, .int .i64 (M.playM f first xs).opens, .int .i64 (M.playM f first xs).won.A, .int .i64 (M.playM f first xs).won.B, .bool (M.playM f first xs).fresh, .slice A2 (M.playM f first xs).log.length c2]) from ⟨HB1.out.os, HB1.out.tape, HB1.out.output, by simp; have := HB1.out.size; omega, fun i hi => (setRow_other _ _ i _ (by omega)).trans ((heap_alloc_old _ _ (by omega)).trans (HB1.out.block i hi))⟩)
  have h36b : (World.setRow (w1.alloc (.cells #[.int .i64 0, .int .i64 0, .bool false, .int .i64 0, .int .i64 0, .int .i64 0, .int .i64 0, .int .i64 0, .int .i64 0, .bool false, .slice none 0 0, .int .i64 0, .int .i64 0, .int .i64 0, .int .i64 0, .int .i64 0, .int .i64 0, .int .i64 0, .int .i64 0, .int .i64 0, .int .i64 0, .int .i64 0, .bool false, .slice none 0 0] 75 (0, 0))) w1.heap.size #[.int .i64 (M.playM f first xs).f.sets, .int .i64 (M.playM f first xs).f.games, .bool (M.playM f first xs).f.noAd, .int .i64 (M.playM f first xs).f.tie, .int .i64 (M.playM f first xs).f.to, .int .i64 (M.playM f first xs).f.lastTie, .int .i64 (M.playM f first xs).f.lastTo, .int .i64 (M.playM f first xs).f.first, .int .i64 (M.playM f first xs).f.next, .bool (M.playM f first xs).f.doubles, .slice A1 (M.playM f first xs).sets.length c1, .int .i64 (M.playM f first xs).games.A, .int .i64 (M.playM f first xs).games.B, .int .i64 (M.playM f first xs).pts.A, .int .i64 (M.playM f first xs).pts.B, .int .i64 (M.playM f first xs).server, .int .i64 (M.playM f first xs).ends, .int .i64 (M.playM f first xs).balls, .int .i64 (M.playM f first xs).winner, .int .i64 (M.playM f first xs).opens, .int .i64 (M.playM f first xs).won.A, .int .i64 (M.playM f first xs).won.B, .bool (M.playM f first xs).fresh, .slice A2 (M.playM f first xs).log.length c2]).heap[w.heap.size + 1]? = some (.cells #[.slice none 0 0, .int .i64 0, .int .i64 0, .int .i64 0, .int .i64 0, .int .i64 0, .int .i64 0, .int .i64 0, .int .i64 0] 36 (0, 0)) := (setRow_other _ _ _ _ (by omega)).trans ((heap_alloc_old _ _ (by omega)).trans h36)
  have HO := hide (owns_mono (base' := w.heap.size) (HSV.out.kept hgr (by simp [Value.ownBlock]; cases A1 <;> simp)) (by simp; omega))
  have H36 := hide h36b
  clear h36 h36b HSV HGV hb1' HB1
  generalize (World.setRow (w1.alloc (.cells #[.int .i64 0, .int .i64 0, .bool false, .int .i64 0, .int .i64 0, .int .i64 0, .int .i64 0, .int .i64 0, .int .i64 0, .bool false, .slice none 0 0, .int .i64 0, .int .i64 0, .int .i64 0, .int .i64 0, .int .i64 0, .int .i64 0, .int .i64 0, .int .i64 0, .int .i64 0, .int .i64 0, .int .i64 0, .bool false, .slice none 0 0] 75 (0, 0))) w1.heap.size #[.int .i64 (M.playM f first xs).f.sets, .int .i64 (M.playM f first xs).f.games, .bool (M.playM f first xs).f.noAd, .int .i64 (M.playM f first xs).f.tie, .int .i64 (M.playM f first xs).f.to, .int .i64 (M.playM f first xs).f.lastTie, .int .i64 (M.playM f first xs).f.lastTo, .int .i64 (M.playM f first xs).f.first, .int .i64 (M.playM f first xs).f.next, .bool (M.playM f first xs).f.doubles, .slice A1 (M.playM f first xs).sets.length c1, .int .i64 (M.playM f first xs).games.A, .int .i64 (M.playM f first xs).games.B, .int .i64 (M.playM f first xs).pts.A, .int .i64 (M.playM f first xs).pts.B, .int .i64 (M.playM f first xs).server, .int .i64 (M.playM f first xs).ends, .int .i64 (M.playM f first xs).balls, .int .i64 (M.playM f first xs).winner, .int .i64 (M.playM f first xs).opens, .int .i64 (M.playM f first xs).won.A, .int .i64 (M.playM f first xs).won.B, .bool (M.playM f first xs).fresh, .slice A2 (M.playM f first xs).log.length c2]) = w2 at hblk HBB HO H36 ⊢
  have hcc := fun i => cell_of_row w2 w1.heap.size i _ _ _ hblk
  clear hblk hgr
  generalize w1.heap.size = q at *
  go_wp2_with (first | (refine wpList_store_row rfl 36 _ _ rfl (w.heap.size + 1) _ rfl rfl 36 _ H36.out scoreRow rfl (by simp [Value.oneCell']) ?_))
  refine bodyPost_ret (v := .tuple #[.agg #[.slice A1 (M.playM f first xs).sets.length c1, .int .i64 (M.playM f first xs).games.A, .int .i64 (M.playM f first xs).games.B, .int .i64 (M.playM f first xs).pts.A, .int .i64 (M.playM f first xs).pts.B, .int .i64 (M.playM f first xs).server, .int .i64 (M.playM f first xs).ends, .int .i64 (M.playM f first xs).balls, .int .i64 (M.playM f first xs).winner], .int .i64 (M.playE f first xs)]) (results_row_tmp Try.results13 _ _ (w.heap.size + 1) _ _ _ _ rfl (setRow_heap _ _ _ _ _ _ H36.out) Try.underlying36 rfl scoreRow) rfl ?_
  have hg3 : w2.grownBy (w2.setRow (w.heap.size + 1) #[.slice A1 (M.playM f first xs).sets.length c1, .int .i64 (M.playM f first xs).games.A, .int .i64 (M.playM f first xs).games.B, .int .i64 (M.playM f first xs).pts.A, .int .i64 (M.playM f first xs).pts.B, .int .i64 (M.playM f first xs).server, .int .i64 (M.playM f first xs).ends, .int .i64 (M.playM f first xs).balls, .int .i64 (M.playM f first xs).winner]) (some (w.heap.size + 1)) := ⟨rfl, rfl, rfl, by simp, fun k _ hk => setRow_other w2 _ k _ (fun e => hk (by rw [e]))⟩
  refine ⟨_, rfl, HO.out.kept hg3 (.inr (row_ne HO.out H36.out (by decide))), HBB.out.os, HBB.out.tape, HBB.out.output, by simp; exact HBB.out.size, fun i hi => (setRow_other w2 _ i _ (by omega)).trans (HBB.out.block i hi)⟩

end Go.Proofs.Ytmhaapghiecfcaa

namespace Go.Proofs.Ytmhaapghiecfcaa
open Go.RowKit
attribute [local go_sem ↓] Go.wp_at_zero Go.wp_at_succ
namespace M
def exF : Fm := { sets := 2, games := 2, noAd := false, tie := 2, to := 3, lastTie := 0, lastTo := 4, first := 2, next := 2, doubles := false }
def exP : List Int := [0, 0, 0, 0, 1, 1, 1, 1, 0, 0, 0, 0, 0, 0, 0, 0, 1, 1, 1, 1]
end M
theorem heap3_0 (w : World) (A B C : Obj) : (((w.alloc A).alloc B).alloc C).heap[w.heap.size]? = some A :=
  (heap_alloc_old _ _ (by show w.heap.size < ((w.heap.push A).push B).size; simp; omega)).trans (heap_alloc2_old w A B)
theorem heap3_2 (w : World) (A B C : Obj) : (((w.alloc A).alloc B).alloc C).heap[w.heap.size + 1 + 1]? = some C := by
  have h := heap_alloc_new ((w.alloc A).alloc B) C
  have e : ((w.alloc A).alloc B).heap.size = w.heap.size + 1 + 1 := by
    show ((w.heap.push A).push B).size = _
    simp
  rwa [e] at h
theorem fmtRow : (Try.prog.info? 23).map (·.size) = some 10 := by kernel_rfl

def ExPost (w : World) (e : Ending) (w' : World) : Prop :=
  ∃ A : Option Addr, e = .returned (.tuple #[.agg #[.int .i64 2, .int .i64 2, .bool false, .int .i64 2, .int .i64 3, .int .i64 0, .int .i64 4, .int .i64 2, .int .i64 2, .bool false], .slice A 20 20]) ∧ RdI w' w'.heap.size A M.exP ∧ Below w.heap.size w w'

theorem ExPost.mk {w w' : World} {b : Nat} {t : TypeId} (hb : w'.heap[b]? = some (.cells #[.int .i64 0, .int .i64 0, .int .i64 0, .int .i64 0, .int .i64 1, .int .i64 1, .int .i64 1, .int .i64 1, .int .i64 0, .int .i64 0, .int .i64 0, .int .i64 0, .int .i64 0, .int .i64 0, .int .i64 0, .int .i64 0, .int .i64 1, .int .i64 1, .int .i64 1, .int .i64 1] t (0, 0))) (h : Below w.heap.size w w') :
    ExPost w (.returned (.tuple #[.agg #[.int .i64 2, .int .i64 2, .bool false, .int .i64 2, .int .i64 3, .int .i64 0, .int .i64 4, .int .i64 2, .int .i64 2, .bool false], .slice (some ⟨b, 0, none⟩) 20 20])) w' := by
  refine ⟨_, rfl, ?_, h⟩
  intro k x hk
  refine ⟨b, 0, rfl, (Array.getElem?_eq_some_iff.1 hb).1, ?_⟩
  rw [Nat.zero_add, cell_of_row _ _ _ _ _ _ hb]
  have hkl : k < 20 := (List.getElem?_eq_some_iff.1 hk).1
  match k, hkl with
  | 0, _ | 1, _ | 2, _ | 3, _ | 4, _ | 5, _ | 6, _ | 7, _ | 8, _ | 9, _ | 10, _ | 11, _ | 12, _ | 13, _ | 14, _ | 15, _ | 16, _ | 17, _ | 18, _ | 19, _ =>
    have hx : _ = x := Option.some.inj hk
    subst hx
    rfl

set_option maxHeartbeats 2000000 in
set_option maxRecDepth 100000 in
theorem Example_any (w : World) : Calls Try.prog 34 #[] w fun e w' => ExPost w e w' := by
  go_enter Try.func34, Try.ntmps34
  go_wp2
  refine bodyPost_ret (v := .tuple #[.agg #[.int .i64 2, .int .i64 2, .bool false, .int .i64 2, .int .i64 3, .int .i64 0, .int .i64 4, .int .i64 2, .int .i64 2, .bool false], .slice (some ⟨w.heap.size + 1 + 1, 0, none⟩) 20 20]) (results_row_tmp Try.results34 _ _ w.heap.size _ _ _ _ rfl (heap3_0 w _ _ _) Try.underlying23 rfl fmtRow) rfl ?_
  exact ExPost.mk (heap3_2 w _ _ _) (by (exact kb))

end Go.Proofs.Ytmhaapghiecfcaa

namespace Go.Proofs.Ytmhaapghiecfcaa
open Go.RowKit
namespace M
def exM : Mt := (playF (start exF 0) exP).getD noM
theorem ex_facts : exM.server = 1 ∧ exM.ends = 3 ∧ exM.balls = 2 ∧ exM.winner = -1 ∧ exM.sets = [⟨3, 1⟩] ∧ exM.games = ⟨0, 1⟩ ∧ exM.pts = ⟨0, 0⟩ := by decide +kernel
theorem ex_playM : playM exF 0 exP = exM := by
  unfold playM exM
  rw [if_pos (by decide +kernel), if_pos (by decide +kernel), if_neg (by decide +kernel)]
theorem ex_playE : playE exF 0 exP = 0 := by decide +kernel
theorem ex_ways : waysV exF [⟨2, 3⟩] = 4 ∧ waysE exF [⟨2, 3⟩] = 0 := by decide +kernel
theorem ex_least : leastV exF [] zero zero 0 = 16 ∧ leastE exF [] zero zero 0 = 0 := by decide +kernel
end M
end Go.Proofs.Ytmhaapghiecfcaa

namespace Go.Proofs.Ytmhaapghiecfcaa
open Go.RowKit Go

theorem run_eql_pair (a b c d : Int) (w : World) :
    (binOp .eql 32 (.agg #[.int .i64 a, .int .i64 b]) (.agg #[.int .i64 c, .int .i64 d])).run Try.prog w = .ok (.bool (a == c && b == d)) w := by
  by_cases h1 : a = c
  · by_cases h2 : b = d
    · simp [go_sem, h1, h2, Try.underlying32]
    · simp [go_sem, h1, h2, Try.underlying32]
  · simp [go_sem, h1, Try.underlying32]

end Go.Proofs.Ytmhaapghiecfcaa

namespace Go.Proofs.Ytmhaapghiecfcaa
open Go.RowKit
theorem run_neq_pair (a b c d : Int) (w : World) :
    (binOp .neq 32 (.agg #[.int .i64 a, .int .i64 b]) (.agg #[.int .i64 c, .int .i64 d])).run Try.prog w = .ok (.bool (!(a == c && b == d))) w := by
  by_cases h1 : a = c
  · by_cases h2 : b = d
    · simp [go_sem, h1, h2, Try.underlying32]
    · simp [go_sem, h1, h2, Try.underlying32]
  · simp [go_sem, h1, Try.underlying32]
attribute [local go_sem ↓] Go.wp_at_zero Go.wp_at_succ run_eql_pair run_neq_pair

theorem below_drewN {B : Nat} {a w : World} (h : Below B a w) (n : Nat) : Below B a (w.drewN n) := ⟨h.os, h.tape, h.output, h.size, h.block⟩
theorem pr_eq {g h : M.Pr} : (g.A == h.A && g.B == h.B) = decide (g = h) := by
  obtain ⟨a, b⟩ := g
  obtain ⟨c, d⟩ := h
  rw [Bool.eq_iff_iff]
  simp
def M.sameB (ps qs : List M.Pr) (g1 g2 p1 p2 : M.Pr) : Bool := decide (ps = qs) && decide (g1 = g2) && decide (p1 = p2)
theorem take_next {ps qs : List M.Pr} {k : Nat} {p q : M.Pr} (h : ps.take k = qs.take k) (hp : ps[k]? = some p) (hq : qs[k]? = some q) (he : p = q) : ps.take (k + 1) = qs.take (k + 1) := by
  rw [List.take_add_one, List.take_add_one, h, hp, hq, he]
theorem take_diff {ps qs : List M.Pr} {k : Nat} {p q : M.Pr} (hp : ps[k]? = some p) (hq : qs[k]? = some q) (he : p ≠ q) : ps ≠ qs := by
  rintro rfl
  rw [hp] at hq
  exact he (Option.some.inj hq)

set_option maxHeartbeats 4000000 in
theorem sameBoard_any (A1 A2 : Option Addr) (n1 n2 c1 c2 : Nat) (ps qs : List M.Pr) (g1 g2 p1 p2 : M.Pr) (w : World) (hn1 : ps.length = n1) (hn2 : qs.length = n2) (hr1 : RdP w w.heap.size A1 ps) (hr2 : RdP w w.heap.size A2 qs) (hm : n1 ≤ 1000000) (hm2 : n2 ≤ 1000000) :
    Calls Try.prog 22 #[.agg #[.slice A1 n1 c1, .int .i64 g1.A, .int .i64 g1.B, .int .i64 p1.A, .int .i64 p1.B], .agg #[.slice A2 n2 c2, .int .i64 g2.A, .int .i64 g2.B, .int .i64 p2.A, .int .i64 p2.B]] w fun e w' => e = .returned (.bool (M.sameB ps qs g1 g2 p1 p2)) ∧ Below w.heap.size w w' := by
  have HN1 := hide hn1
  have HN2 := hide hn2
  have HR1 := hide hr1
  have HR2 := hide hr2
  clear hn1 hn2 hr1 hr2
  cases hl : ((n1 : Int) != (n2 : Int))
  · obtain rfl : n1 = n2 := by simp at hl; omega
    cases hg : (g1.A == g2.A && g1.B == g2.B)
    · have ho : M.sameB ps qs g1 g2 p1 p2 = false := by unfold M.sameB; rw [← pr_eq (g := g1), hg]; simp
      rw [ho]; clear ho
      go_enter Try.func22, Try.ntmps22
      go_wp2_with fail
      go_ret
      exact ⟨rfl, by (exact kb)⟩
    · cases hp : (p1.A == p2.A && p1.B == p2.B)
      · have ho : M.sameB ps qs g1 g2 p1 p2 = false := by unfold M.sameB; rw [← pr_eq (g := p1), hp]; simp
        rw [ho]; clear ho
        go_enter Try.func22, Try.ntmps22
        go_wp2_with fail
        go_ret
        exact ⟨rfl, by (exact kb)⟩
      · have ho : M.sameB ps qs g1 g2 p1 p2 = decide (ps = qs) := by unfold M.sameB; rw [← pr_eq (g := g1), hg, ← pr_eq (g := p1), hp]; simp
        rw [ho]; clear ho
        go_enter Try.func22, Try.ntmps22
        go_wp2_with fail
        go_loopw [5] (fun i wr => ∃ k : Nat, k ≤ n1 ∧ i = .int .i64 k ∧ Hid (ps.take k = qs.take k) ∧ wr.cell? ⟨w.heap.size, 0, none⟩ = some (.slice A1 n1 c1) ∧ wr.cell? ⟨w.heap.size + 1, 0, none⟩ = some (.slice A2 n1 c2) ∧ Below w.heap.size w wr ∧ w.heap.size < wr.heap.size ∧ w.heap.size + 1 < wr.heap.size) (fun i _ => n1 - (intOf i).toNat)
        case atStart => exact ⟨0, by omega, rfl, hide rfl, by (exact kp)⟩
        case round =>
          obtain ⟨k, hk, rfl, hno, hS0⟩ := hrel
          by_cases hlt : k < n1
          · obtain ⟨p, hp'⟩ : ∃ q, ps[k]? = some q := ⟨_, List.getElem?_eq_getElem (by have := HN1.out; omega)⟩
            obtain ⟨q, hq'⟩ : ∃ q, qs[k]? = some q := ⟨_, List.getElem?_eq_getElem (by have := HN2.out; omega)⟩
            obtain ⟨b, o, hA, hbB, c0, c1'⟩ := (HR1.out.below hS0.2.2.1) k p hp'
            obtain ⟨b2, o2, hA2, hbB2, d0, d1⟩ := (HR2.out.below hS0.2.2.1) k q hq'
            subst hA hA2
            have HP := hide hp'
            have HQ := hide hq'
            clear hp' hq'
            have hlt' : (k : Int) < (n1 : Int) := by omega
            have hk0 : (0 : Int) ≤ (k : Int) := by omega
            obtain ⟨hx0, hx1, hB, hz0, hz1⟩ := hS0
            cases he : (p.A == q.A && p.B == q.B)
            · have hne : ps ≠ qs := take_diff HP.out HQ.out (by rw [pr_eq] at he; simpa using he)
              have hd : decide (ps = qs) = false := decide_eq_false hne
              have HDD := hide hd
              clear hne hd
              go_wp2_with fail
              go_quiet (fail)
              go_wp2_with fail
              go_ret
              exact ⟨by rw [HDD.out]; rfl, below_drewN hB _⟩
            · have HT := hide (take_next hno.out HP.out HQ.out (by rw [pr_eq] at he; simpa using he))
              go_wp2_with fail
              go_quiet (fail)
              go_wp2_with fail
              go_roundw
              case rel => exact ⟨k + 1, by omega, by go_num, HT, by simp [hx0], by simp [hx1], below_drewN hB _, by simp [hz0], by simp [hz1]⟩
              case measure => simp [intOf]; omega
          · have hkn : k = n1 := by omega
            have hall : ps = qs := by
              have := hno.out
              rwa [List.take_of_length_le (by have := HN1.out; omega), List.take_of_length_le (by have := HN2.out; omega)] at this
            have hd : decide (ps = qs) = true := decide_eq_true hall
            have HDD := hide hd
            clear hall hd
            subst hkn
            obtain ⟨hx0, hx1, hB, hz0, hz1⟩ := hS0
            go_wp2_with fail
            go_ret
            exact ⟨by rw [HDD.out]; rfl, by (exact kb)⟩
  · have ho : M.sameB ps qs g1 g2 p1 p2 = false := by
      have : ps ≠ qs := by rintro rfl; have h1 := HN1.out; have h2 := HN2.out; simp at hl; omega
      unfold M.sameB; rw [decide_eq_false this]; rfl
    rw [ho]; clear ho
    go_enter Try.func22, Try.ntmps22
    go_wp2_with fail
    go_ret
    exact ⟨rfl, by (exact kb)⟩

end Go.Proofs.Ytmhaapghiecfcaa

namespace Go.Proofs.Ytmhaapghiecfcaa
open Go.RowKit Go.Maps

theorem laidOut : laidOutB Try.prog = true := by kernel_rfl
theorem rowPair : 32 < Try.prog.types.size := of_decide_eq_true (by kernel_rfl)
theorem widePair : (match Try.prog.underlying 32 with | some (.array _ _) | some (.struct _) => true | _ => false) = true := by kernel_rfl
theorem pairKey : Try.prog.keyTypeAt 2 32 = true := by kernel_rfl
set_option maxRecDepth 100000 in
theorem pairLaw : WideMaps.KeyLaw Try.prog 32 := deep_law_laid laidOut (m := 2) (by omega) rowPair pairKey widePair
theorem pairKeyed : Keyed Try.prog 32 := Keyed.of_law pairLaw
theorem pairType : Try.prog.keyType 32 = true := by kernel_rfl
theorem pairCells : Try.prog.cellsOf 32 = 2 := by kernel_rfl
theorem intCells : Try.prog.cellsOf 3 = 1 := by kernel_rfl

def keyL (p : M.Pr) : Lit := .string (keyBytes [.int .i64 p.A, .int .i64 p.B])
theorem wfA {p : M.Pr} (hp : M.Small p) : (Lit.int .i64 p.A).wf = true := WalkArith.wf_i64 (by have := hp.a0; have := hp.a1; omega)
theorem wfB {p : M.Pr} (hp : M.Small p) : (Lit.int .i64 p.B).wf = true := WalkArith.wf_i64 (by have := hp.b0; have := hp.b1; omega)
theorem keyP_eq (p : M.Pr) (hp : M.Small p) : keyOf Try.prog 32 (.agg #[.int .i64 p.A, .int .i64 p.B]) = some (keyL p) := by
  obtain ⟨m, hm⟩ : ∃ m, Try.prog.types.size = m + 1 := ⟨Try.prog.types.size - 1, by have := rowPair; omega⟩
  unfold keyOf
  simp only [Try.underlying32]
  rw [if_pos (by simp [pairType, Value.formed, Try.underlying32, pairCells]), hm]
  unfold Program.keyLits
  simp only [Try.underlying32, Value.cells]
  rw [if_pos (by rw [pairCells]; exact ⟨rfl, by simp⟩)]
  simp [intCells, Program.keyLits, Try.underlying3, wfA hp, wfB hp, keyL]

theorem keyL_ne {p q : M.Pr} (hp : M.Small p) (hq : M.Small q) (h : p ≠ q) : keyL p ≠ keyL q := fun e => by
  have := pairKeyed.inj (keyP_eq p hp) (by rw [e]; exact keyP_eq q hq)
  injection this with this
  have h0 := congrArg (fun a : Array Value => a[0]?) this
  have h1 := congrArg (fun a : Array Value => a[1]?) this
  simp at h0 h1
  exact h (by cases p; cases q; simp_all)

def MapF (w : World) (B : Nat) (F : M.Pr → Int) (n : Nat) : Prop :=
  ∃ D : DataW Unit, IsMap D ∧ w.ownsMap Try.prog 32 (plainElem Try.prog 3) B n D ∧ ∀ p, M.Small p → D.atKey (keyL p) (.lit (.int .i64 0)) = .lit (.int .i64 (F p))

theorem zeroInt (w : World) : (zeroValue 3).run Try.prog w = .ok (.int .i64 0) w := by kernel_rfl

open Classical in
noncomputable def upd (F : M.Pr → Int) (p : M.Pr) (v : Int) : M.Pr → Int := fun q => if q = p then v else F q

theorem MapF.made (w : World) : MapF (w.alloc (.map #[] 0)) w.heap.size (fun _ => 0) 0 :=
  ⟨.map [], isMap_empty, World.ownsMap_made _ _ _ _, fun p _ => by simp [DataW.atKey]⟩
theorem MapF.lt {w : World} {B n : Nat} {F : M.Pr → Int} (h : MapF w B F n) : B < w.heap.size := by
  obtain ⟨D, _, h, _⟩ := h; exact h.lt
theorem MapF.below {w w' : World} {B n : Nat} {F : M.Pr → Int} (h : MapF w B F n) (hb : Below w.heap.size w w') : MapF w' B F n := by
  obtain ⟨D, hi, h, hF⟩ := h
  exact ⟨D, hi, h.kept (row := none) ⟨hb.os, hb.tape, hb.output, hb.size, fun i hi _ => hb.block i hi⟩ (by simp), hF⟩
theorem MapF.look {w : World} {B n : Nat} {F : M.Pr → Int} (h : MapF w B F n) (p : M.Pr) (hp : M.Small p) :
    (Instr.lookup 112 (.map (some B)) (.agg #[.int .i64 p.A, .int .i64 p.B]) false).run Try.prog w = .ok (.int .i64 (F p)) w := by
  obtain ⟨D, hi, h, hF⟩ := h
  obtain ⟨c, hrun, hat, _⟩ := h.lookup_int pairKeyed Try.underlying112 Try.underlying3 (zeroInt w) (keyP_eq p hp)
  rw [hF p hp] at hat
  simp only [DataW.lit.injEq, Lit.int.injEq, true_and] at hat
  rw [hat]; exact hrun
set_option maxRecDepth 100000 in
theorem MapF.store {w : World} {B n : Nat} {F : M.Pr → Int} (h : MapF w B F n) (hn : n < 1000000) (p : M.Pr) (hp : M.Small p) (v : Int) (hv : (Lit.int .i64 v).wf = true) :
    ∃ w', (Instr.mapUpdate 112 (.map (some B)) (.agg #[.int .i64 p.A, .int .i64 p.B]) (.int .i64 v)).run Try.prog w = .ok () w' ∧ MapF w' B (upd F p v) (n + 1) ∧ w.grownBy w' (some B) := by
  obtain ⟨D, hi, h, hF⟩ := h
  obtain ⟨w', hrun, ho, hg⟩ := h.update pairKeyed Try.underlying112 (by simp only [maxLen]; omega) (keyP_eq p hp) (plainElem_int Try.underlying3 hv)
  refine ⟨w', hrun, ⟨_, hi.put _ _, ho, fun q hq => ?_⟩, hg⟩
  unfold upd
  by_cases e : q = p
  · rw [if_pos e, e]
    exact atKey_put_same hi (pairKeyed.key (keyP_eq p hp)) _ _
  · rw [if_neg e, atKey_put_other (keyL_ne hq hp e)]
    exact hF q hq

end Go.Proofs.Ytmhaapghiecfcaa
