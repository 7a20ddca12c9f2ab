/-
  Part of a claim's texts: contracts of the program's functions and the plain functions that they compute, in build order.
-/
import Derived.Deep.AppendLies
import Derived.Test.YtmhaapghiecfcaaZB01
import Derived.Test.YtmhaapghiecfcaaZB02
namespace Go.Proofs.Ytmhaapghiecfcaa
open Go.RowKit
attribute [local go_sem ↓] Go.wp_at_zero Go.wp_at_succ

set_option maxHeartbeats 4000000 in
set_option maxRecDepth 100000 in
theorem changes_few (b : Nat) (m : M.Mt) (sv : Value) (A : Option Addr) (n c : Nat) (w : World) (hv : M.Valid m.f) (hn : m.log.length = n) (hn2 : n ≤ 9000) (hb : b < w.heap.size) (hmc : w.cell? ⟨b, 0, none⟩ = some (.int .i64 m.f.sets) ∧ w.cell? ⟨b, 1, none⟩ = some (.int .i64 m.f.games) ∧ w.cell? ⟨b, 2, none⟩ = some (.bool m.f.noAd) ∧ w.cell? ⟨b, 3, none⟩ = some (.int .i64 m.f.tie) ∧ w.cell? ⟨b, 4, none⟩ = some (.int .i64 m.f.to) ∧ w.cell? ⟨b, 5, none⟩ = some (.int .i64 m.f.lastTie) ∧ w.cell? ⟨b, 6, none⟩ = some (.int .i64 m.f.lastTo) ∧ w.cell? ⟨b, 7, none⟩ = some (.int .i64 m.f.first) ∧ w.cell? ⟨b, 8, none⟩ = some (.int .i64 m.f.next) ∧ w.cell? ⟨b, 9, none⟩ = some (.bool m.f.doubles) ∧ w.cell? ⟨b, 10, none⟩ = some (sv) ∧ w.cell? ⟨b, 11, none⟩ = some (.int .i64 m.games.A) ∧ w.cell? ⟨b, 12, none⟩ = some (.int .i64 m.games.B) ∧ w.cell? ⟨b, 13, none⟩ = some (.int .i64 m.pts.A) ∧ w.cell? ⟨b, 14, none⟩ = some (.int .i64 m.pts.B) ∧ w.cell? ⟨b, 15, none⟩ = some (.int .i64 m.server) ∧ w.cell? ⟨b, 16, none⟩ = some (.int .i64 m.ends) ∧ w.cell? ⟨b, 17, none⟩ = some (.int .i64 m.balls) ∧ w.cell? ⟨b, 18, none⟩ = some (.int .i64 m.winner) ∧ w.cell? ⟨b, 19, none⟩ = some (.int .i64 m.opens) ∧ w.cell? ⟨b, 20, none⟩ = some (.int .i64 m.won.A) ∧ w.cell? ⟨b, 21, none⟩ = some (.int .i64 m.won.B) ∧ w.cell? ⟨b, 22, none⟩ = some (.bool m.fresh) ∧ w.cell? ⟨b, 23, none⟩ = some (.slice A n c)) (hlt : n < 2) :
    Calls Try.prog 87 #[.pointer (some ⟨b, 0, none⟩), .int .i64 (n : Int)] w fun e w' => e = .returned (.bool (M.changesB m)) ∧ Below w.heap.size w w' := by
  have f0 := hv.f0
  have f1 := hv.f1
  have n0 := hv.n0
  have n1 := hv.n1
  have v0 := hv.s0
  have v1 := hv.s1
  have hd : decide (2 ≤ n) = false := decide_eq_false (by omega)
  obtain ⟨Sx, Sxd⟩ : ∃ Sx : World → Prop, Hid (Sx = (fun w' => Below w.heap.size w w' ∧ w'.cell? ⟨b, 0, none⟩ = some (.int .i64 m.f.sets) ∧ w'.cell? ⟨b, 1, none⟩ = some (.int .i64 m.f.games) ∧ w'.cell? ⟨b, 2, none⟩ = some (.bool m.f.noAd) ∧ w'.cell? ⟨b, 3, none⟩ = some (.int .i64 m.f.tie) ∧ w'.cell? ⟨b, 4, none⟩ = some (.int .i64 m.f.to) ∧ w'.cell? ⟨b, 5, none⟩ = some (.int .i64 m.f.lastTie) ∧ w'.cell? ⟨b, 6, none⟩ = some (.int .i64 m.f.lastTo) ∧ w'.cell? ⟨b, 7, none⟩ = some (.int .i64 m.f.first) ∧ w'.cell? ⟨b, 8, none⟩ = some (.int .i64 m.f.next) ∧ w'.cell? ⟨b, 9, none⟩ = some (.bool m.f.doubles) ∧ w'.cell? ⟨b, 10, none⟩ = some (sv) ∧ w'.cell? ⟨b, 11, none⟩ = some (.int .i64 m.games.A) ∧ w'.cell? ⟨b, 12, none⟩ = some (.int .i64 m.games.B) ∧ w'.cell? ⟨b, 13, none⟩ = some (.int .i64 m.pts.A) ∧ w'.cell? ⟨b, 14, none⟩ = some (.int .i64 m.pts.B) ∧ w'.cell? ⟨b, 15, none⟩ = some (.int .i64 m.server) ∧ w'.cell? ⟨b, 16, none⟩ = some (.int .i64 m.ends) ∧ w'.cell? ⟨b, 17, none⟩ = some (.int .i64 m.balls) ∧ w'.cell? ⟨b, 18, none⟩ = some (.int .i64 m.winner) ∧ w'.cell? ⟨b, 19, none⟩ = some (.int .i64 m.opens) ∧ w'.cell? ⟨b, 20, none⟩ = some (.int .i64 m.won.A) ∧ w'.cell? ⟨b, 21, none⟩ = some (.int .i64 m.won.B) ∧ w'.cell? ⟨b, 22, none⟩ = some (.bool m.fresh) ∧ w'.cell? ⟨b, 23, none⟩ = some (.slice A n c))) := ⟨_, hide rfl⟩
  cases h1 : M.dueB m.f.first m.f.next n
  · have ho : M.changesB m = false := by unfold M.changesB; rw [hn]; rw [hd]; simp [h1]
    rw [ho]; clear ho
    go_enter Try.func87, Try.ntmps87
    go_wp2_with (first | (go_at_call 88; refine (due_any b m.f.first m.f.next _ _ (by go_split_ands; assumption) (by go_split_ands; assumption) f0 f1 n0 n1 (by omega) (by omega)).mono ?_; rintro e w1 ⟨rfl, hb⟩; obtain ⟨hc, hf⟩ := bcell hb; have hz := hb.size; (try simp at hz); have hSn : Sx w1 := (by rw [Sxd.out]; (try dsimp only); (exact kp)); rw [Sxd.out] at hSn; (try dsimp only at hSn); (try clear hS); have hS := hSn; clear hSn hc hf) | (go_at_call 55; refine (ofSet_any m.f m.won _ (by omega) (by omega)).mono ?_; rintro e w1 ⟨rfl, hb⟩; obtain ⟨hc, hf⟩ := bcell hb; have hz := hb.size; (try simp at hz); have hSn : Sx w1 := (by rw [Sxd.out]; (try dsimp only); (exact kp)); rw [Sxd.out] at hSn; (try dsimp only at hSn); (try clear hS); have hS := hSn; clear hSn hc hf) | (go_at_call 69; refine (isTie_any (M.ofSet m.f m.won) m.games _).mono ?_; rintro e w1 ⟨rfl, hb⟩; obtain ⟨hc, hf⟩ := bcell hb; have hz := hb.size; (try simp at hz); have hSn : Sx w1 := (by rw [Sxd.out]; (try dsimp only); (exact kp)); rw [Sxd.out] at hSn; (try dsimp only at hSn); (try clear hS); have hS := hSn; clear hSn hc hf))
    refine wp_region_held_drew (S := (fun w' => Below w.heap.size w w' ∧ w'.cell? ⟨b, 0, none⟩ = some (.int .i64 m.f.sets) ∧ w'.cell? ⟨b, 1, none⟩ = some (.int .i64 m.f.games) ∧ w'.cell? ⟨b, 2, none⟩ = some (.bool m.f.noAd) ∧ w'.cell? ⟨b, 3, none⟩ = some (.int .i64 m.f.tie) ∧ w'.cell? ⟨b, 4, none⟩ = some (.int .i64 m.f.to) ∧ w'.cell? ⟨b, 5, none⟩ = some (.int .i64 m.f.lastTie) ∧ w'.cell? ⟨b, 6, none⟩ = some (.int .i64 m.f.lastTo) ∧ w'.cell? ⟨b, 7, none⟩ = some (.int .i64 m.f.first) ∧ w'.cell? ⟨b, 8, none⟩ = some (.int .i64 m.f.next) ∧ w'.cell? ⟨b, 9, none⟩ = some (.bool m.f.doubles) ∧ w'.cell? ⟨b, 10, none⟩ = some (sv) ∧ w'.cell? ⟨b, 11, none⟩ = some (.int .i64 m.games.A) ∧ w'.cell? ⟨b, 12, none⟩ = some (.int .i64 m.games.B) ∧ w'.cell? ⟨b, 13, none⟩ = some (.int .i64 m.pts.A) ∧ w'.cell? ⟨b, 14, none⟩ = some (.int .i64 m.pts.B) ∧ w'.cell? ⟨b, 15, none⟩ = some (.int .i64 m.server) ∧ w'.cell? ⟨b, 16, none⟩ = some (.int .i64 m.ends) ∧ w'.cell? ⟨b, 17, none⟩ = some (.int .i64 m.balls) ∧ w'.cell? ⟨b, 18, none⟩ = some (.int .i64 m.winner) ∧ w'.cell? ⟨b, 19, none⟩ = some (.int .i64 m.opens) ∧ w'.cell? ⟨b, 20, none⟩ = some (.int .i64 m.won.A) ∧ w'.cell? ⟨b, 21, none⟩ = some (.int .i64 m.won.B) ∧ w'.cell? ⟨b, 22, none⟩ = some (.bool m.fresh) ∧ w'.cell? ⟨b, 23, none⟩ = some (.slice A n c))) (by kernel_rfl) ?_ (fun hD0 => ?_)
    · (try dsimp only); (exact kp)
    refine tW ?_ 0 rfl (by kernel_rfl) (fun _ _ _ h => h) (by rfl) (by assumption) ?_ ?_; rotate_left; (focus (intro w hSw; (try dsimp only at hSw); go_simp; try with_reducible rfl)); try simp only [Act.put, zl, z0, z1]
    refine tW ?_ 1 rfl (by kernel_rfl) (fun _ _ _ h => h) (by rfl) (by assumption) ?_ ?_; rotate_left; (focus (intro w hSw; (try dsimp only at hSw); go_simp; try with_reducible rfl)); try simp only [Act.put, zl, z0, z1]
    refine wpAnyH_ready (rs := [2]) (by kernel_rfl) (by simp) ?_; refine consL 2 rfl (fun K hK => ?_) AllReadyH.nil; go_simp
    (go_at_call 88; refine (due_any b m.f.first m.f.next _ _ (by go_split_ands; assumption) (by go_split_ands; assumption) f0 f1 n0 n1 (by omega) (by omega)).mono ?_; rintro e w' ⟨rfl, hb⟩; obtain ⟨hc, hf⟩ := bcell hb; have hz := hb.size; (try simp at hz))
    refine hK.out _ _ ?_ (fun hD1 => ?_)
    · (try dsimp only); (exact kp)
    clear hK K hD0; try simp only [Act.put, zl, z0, z1]
    refine tW ?_ 3 rfl (by kernel_rfl) (fun _ _ _ h => h) (by rfl) (by assumption) ?_ ?_; rotate_left; (focus (intro w hSw; (try dsimp only at hSw); go_simp; try with_reducible rfl)); try simp only [Act.put, zl, z0, z1]
    refine takeL 4 rfl (by kernel_rfl) (by kernel_rfl) (by kernel_rfl) (fun _ _ _ h => h) (Or.inr ⟨by rfl, rfl⟩) (by assumption) ?_; try simp only [Act.put, zl, z0, z1]
    refine takeL 5 rfl (by kernel_rfl) (by kernel_rfl) (by kernel_rfl) (fun _ _ _ h => h) (Or.inr ⟨by rfl, rfl⟩) (by assumption) ?_; try simp only [Act.put, zl, z0, z1]
    refine takeL 6 rfl (by kernel_rfl) (by kernel_rfl) (by kernel_rfl) (fun _ _ _ h => h) (Or.inr ⟨by rfl, rfl⟩) (by assumption) ?_; try simp only [Act.put, zl, z0, z1]
    refine takeL 7 rfl (by kernel_rfl) (by kernel_rfl) (by kernel_rfl) (fun _ _ _ h => h) (Or.inr ⟨by rfl, rfl⟩) (by assumption) ?_; try simp only [Act.put, zl, z0, z1]
    refine takeL 8 rfl (by kernel_rfl) (by kernel_rfl) (by kernel_rfl) (fun _ _ _ h => h) (Or.inr ⟨by rfl, rfl⟩) (by assumption) ?_; try simp only [Act.put, zl, z0, z1]
    refine takeL 9 rfl (by kernel_rfl) (by kernel_rfl) (by kernel_rfl) (fun _ _ _ h => h) (Or.inr ⟨by rfl, rfl⟩) (by assumption) ?_; try simp only [Act.put, zl, z0, z1]
    refine takeL 10 rfl (by kernel_rfl) (by kernel_rfl) (by kernel_rfl) (fun _ _ _ h => h) (Or.inr ⟨by rfl, rfl⟩) (by assumption) ?_; try simp only [Act.put, zl, z0, z1]
    refine takeL 11 rfl (by kernel_rfl) (by kernel_rfl) (by kernel_rfl) (fun _ _ _ h => h) (Or.inr ⟨by rfl, rfl⟩) (by assumption) ?_; try simp only [Act.put, zl, z0, z1]
    refine takeL 12 rfl (by kernel_rfl) (by kernel_rfl) (by kernel_rfl) (fun _ _ _ h => h) (Or.inr ⟨by rfl, rfl⟩) (by assumption) ?_; try simp only [Act.put, zl, z0, z1]
    refine takeL 13 rfl (by kernel_rfl) (by kernel_rfl) (by kernel_rfl) (fun _ _ _ h => h) (Or.inr ⟨by rfl, rfl⟩) (by assumption) ?_; try simp only [Act.put, zl, z0, z1]
    refine takeL 14 rfl (by kernel_rfl) (by kernel_rfl) (by kernel_rfl) (fun _ _ _ h => h) (Or.inr ⟨by rfl, rfl⟩) (by assumption) ?_; try simp only [Act.put, zl, z0, z1]
    refine takeL 15 rfl (by kernel_rfl) (by kernel_rfl) (by kernel_rfl) (fun _ _ _ h => h) (Or.inr ⟨by rfl, rfl⟩) (by assumption) ?_; try simp only [Act.put, zl, z0, z1]
    refine takeL 16 rfl (by kernel_rfl) (by kernel_rfl) (by kernel_rfl) (fun _ _ _ h => h) (Or.inr ⟨by rfl, rfl⟩) (by assumption) ?_; try simp only [Act.put, zl, z0, z1]
    refine takeL 17 rfl (by kernel_rfl) (by kernel_rfl) (by kernel_rfl) (fun _ _ _ h => h) (Or.inr ⟨by rfl, rfl⟩) (by assumption) ?_; try simp only [Act.put, zl, z0, z1]
    refine takeL 18 rfl (by kernel_rfl) (by kernel_rfl) (by kernel_rfl) (fun _ _ _ h => h) (Or.inr ⟨by rfl, rfl⟩) (by assumption) ?_; try simp only [Act.put, zl, z0, z1]
    refine takeL 19 rfl (by kernel_rfl) (by kernel_rfl) (by kernel_rfl) (fun _ _ _ h => h) (Or.inr ⟨by rfl, rfl⟩) (by assumption) ?_; try simp only [Act.put, zl, z0, z1]
    refine takeL 20 rfl (by kernel_rfl) (by kernel_rfl) (by kernel_rfl) (fun _ _ _ h => h) (Or.inr ⟨by rfl, rfl⟩) (by assumption) ?_; try simp only [Act.put, zl, z0, z1]
    refine tW ?_ 21 rfl (by kernel_rfl) (fun _ _ _ h => h) (by rfl) (by assumption) ?_ ?_; rotate_left; (focus (intro w hSw; (try dsimp only at hSw); go_simp; try with_reducible rfl)); try simp only [Act.put, zl, z0, z1]
    refine tW ?_ 22 rfl (by kernel_rfl) (fun _ _ _ h => h) (by rfl) (by assumption) ?_ ?_; rotate_left; (focus (intro w hSw; (try dsimp only at hSw); go_simp; try with_reducible rfl)); try simp only [Act.put, zl, z0, z1]
    refine wpAnyH_done (by kernel_rfl) ?_ _
    go_wp2
    go_ret
    exact ⟨rfl, by (go_split_ands; (exact kb))⟩
  · cases h2 : M.isTie (M.ofSet m.f m.won) m.games
    all_goals
      first
        | (have ho : M.changesB m = true := by (unfold M.changesB; rw [hn]; rw [hd]; simp [h1, h2]; done)
           rw [ho]; clear ho)
        | (have ho : M.changesB m = false := by (unfold M.changesB; rw [hn]; rw [hd]; simp [h1, h2]; done)
           rw [ho]; clear ho)
      go_enter Try.func87, Try.ntmps87
      go_wp2_with (first | (go_at_call 88; refine (due_any b m.f.first m.f.next _ _ (by go_split_ands; assumption) (by go_split_ands; assumption) f0 f1 n0 n1 (by omega) (by omega)).mono ?_; rintro e w1 ⟨rfl, hb⟩; obtain ⟨hc, hf⟩ := bcell hb; have hz := hb.size; (try simp at hz); have hSn : Sx w1 := (by rw [Sxd.out]; (try dsimp only); (exact kp)); rw [Sxd.out] at hSn; (try dsimp only at hSn); (try clear hS); have hS := hSn; clear hSn hc hf) | (go_at_call 55; refine (ofSet_any m.f m.won _ (by omega) (by omega)).mono ?_; rintro e w1 ⟨rfl, hb⟩; obtain ⟨hc, hf⟩ := bcell hb; have hz := hb.size; (try simp at hz); have hSn : Sx w1 := (by rw [Sxd.out]; (try dsimp only); (exact kp)); rw [Sxd.out] at hSn; (try dsimp only at hSn); (try clear hS); have hS := hSn; clear hSn hc hf) | (go_at_call 69; refine (isTie_any (M.ofSet m.f m.won) m.games _).mono ?_; rintro e w1 ⟨rfl, hb⟩; obtain ⟨hc, hf⟩ := bcell hb; have hz := hb.size; (try simp at hz); have hSn : Sx w1 := (by rw [Sxd.out]; (try dsimp only); (exact kp)); rw [Sxd.out] at hSn; (try dsimp only at hSn); (try clear hS); have hS := hSn; clear hSn hc hf))
      refine wp_region_held_drew (S := (fun w' => Below w.heap.size w w' ∧ w'.cell? ⟨b, 0, none⟩ = some (.int .i64 m.f.sets) ∧ w'.cell? ⟨b, 1, none⟩ = some (.int .i64 m.f.games) ∧ w'.cell? ⟨b, 2, none⟩ = some (.bool m.f.noAd) ∧ w'.cell? ⟨b, 3, none⟩ = some (.int .i64 m.f.tie) ∧ w'.cell? ⟨b, 4, none⟩ = some (.int .i64 m.f.to) ∧ w'.cell? ⟨b, 5, none⟩ = some (.int .i64 m.f.lastTie) ∧ w'.cell? ⟨b, 6, none⟩ = some (.int .i64 m.f.lastTo) ∧ w'.cell? ⟨b, 7, none⟩ = some (.int .i64 m.f.first) ∧ w'.cell? ⟨b, 8, none⟩ = some (.int .i64 m.f.next) ∧ w'.cell? ⟨b, 9, none⟩ = some (.bool m.f.doubles) ∧ w'.cell? ⟨b, 10, none⟩ = some (sv) ∧ w'.cell? ⟨b, 11, none⟩ = some (.int .i64 m.games.A) ∧ w'.cell? ⟨b, 12, none⟩ = some (.int .i64 m.games.B) ∧ w'.cell? ⟨b, 13, none⟩ = some (.int .i64 m.pts.A) ∧ w'.cell? ⟨b, 14, none⟩ = some (.int .i64 m.pts.B) ∧ w'.cell? ⟨b, 15, none⟩ = some (.int .i64 m.server) ∧ w'.cell? ⟨b, 16, none⟩ = some (.int .i64 m.ends) ∧ w'.cell? ⟨b, 17, none⟩ = some (.int .i64 m.balls) ∧ w'.cell? ⟨b, 18, none⟩ = some (.int .i64 m.winner) ∧ w'.cell? ⟨b, 19, none⟩ = some (.int .i64 m.opens) ∧ w'.cell? ⟨b, 20, none⟩ = some (.int .i64 m.won.A) ∧ w'.cell? ⟨b, 21, none⟩ = some (.int .i64 m.won.B) ∧ w'.cell? ⟨b, 22, none⟩ = some (.bool m.fresh) ∧ w'.cell? ⟨b, 23, none⟩ = some (.slice A n c))) (by kernel_rfl) ?_ (fun hD0 => ?_)
      · (try dsimp only); (exact kp)
      refine tW ?_ 0 rfl (by kernel_rfl) (fun _ _ _ h => h) (by rfl) (by assumption) ?_ ?_; rotate_left; (focus (intro w hSw; (try dsimp only at hSw); go_simp; try with_reducible rfl)); try simp only [Act.put, zl, z0, z1]
      refine tW ?_ 1 rfl (by kernel_rfl) (fun _ _ _ h => h) (by rfl) (by assumption) ?_ ?_; rotate_left; (focus (intro w hSw; (try dsimp only at hSw); go_simp; try with_reducible rfl)); try simp only [Act.put, zl, z0, z1]
      refine wpAnyH_ready (rs := [2]) (by kernel_rfl) (by simp) ?_; refine consL 2 rfl (fun K hK => ?_) AllReadyH.nil; go_simp
      (go_at_call 88; refine (due_any b m.f.first m.f.next _ _ (by go_split_ands; assumption) (by go_split_ands; assumption) f0 f1 n0 n1 (by omega) (by omega)).mono ?_; rintro e w' ⟨rfl, hb⟩; obtain ⟨hc, hf⟩ := bcell hb; have hz := hb.size; (try simp at hz))
      refine hK.out _ _ ?_ (fun hD1 => ?_)
      · (try dsimp only); (exact kp)
      clear hK K hD0; try simp only [Act.put, zl, z0, z1]
      refine tW ?_ 3 rfl (by kernel_rfl) (fun _ _ _ h => h) (by rfl) (by assumption) ?_ ?_; rotate_left; (focus (intro w hSw; (try dsimp only at hSw); go_simp; try with_reducible rfl)); try simp only [Act.put, zl, z0, z1]
      refine tW ?_ 4 rfl (by kernel_rfl) (fun _ _ _ h => h) (by rfl) (by assumption) ?_ ?_; rotate_left; (focus (intro w hSw; (try dsimp only at hSw); go_simp; try with_reducible rfl)); try simp only [Act.put, zl, z0, z1]
      refine tW ?_ 5 rfl (by kernel_rfl) (fun _ _ _ h => h) (by rfl) (by assumption) ?_ ?_; rotate_left; (focus (intro w hSw; (try dsimp only at hSw); go_simp; try with_reducible rfl)); try simp only [Act.put, zl, z0, z1]
      refine tW ?_ 6 rfl (by kernel_rfl) (fun _ _ _ h => h) (by rfl) (by assumption) ?_ ?_; rotate_left; (focus (intro w hSw; (try dsimp only at hSw); go_simp; try with_reducible rfl)); try simp only [Act.put, zl, z0, z1]
      refine tW ?_ 7 rfl (by kernel_rfl) (fun _ _ _ h => h) (by rfl) (by assumption) ?_ ?_; rotate_left; (focus (intro w hSw; (try dsimp only at hSw); go_simp; try with_reducible rfl)); try simp only [Act.put, zl, z0, z1]
      refine tW ?_ 8 rfl (by kernel_rfl) (fun _ _ _ h => h) (by rfl) (by assumption) ?_ ?_; rotate_left; (focus (intro w hSw; (try dsimp only at hSw); go_simp; try with_reducible rfl)); try simp only [Act.put, zl, z0, z1]
      refine tW ?_ 9 rfl (by kernel_rfl) (fun _ _ _ h => h) (by rfl) (by assumption) ?_ ?_; rotate_left; (focus (intro w hSw; (try dsimp only at hSw); go_simp; try with_reducible rfl)); try simp only [Act.put, zl, z0, z1]
      refine tW ?_ 10 rfl (by kernel_rfl) (fun _ _ _ h => h) (by rfl) (by assumption) ?_ ?_; rotate_left; (focus (intro w hSw; (try dsimp only at hSw); go_simp; try with_reducible rfl)); try simp only [Act.put, zl, z0, z1]
      refine tW ?_ 11 rfl (by kernel_rfl) (fun _ _ _ h => h) (by rfl) (by assumption) ?_ ?_; rotate_left; (focus (intro w hSw; (try dsimp only at hSw); go_simp; try with_reducible rfl)); try simp only [Act.put, zl, z0, z1]
      refine tW ?_ 13 rfl (by kernel_rfl) (fun _ _ _ h => h) (by rfl) (by assumption) ?_ ?_; rotate_left; (focus (intro w hSw; (try dsimp only at hSw); go_simp; try with_reducible rfl)); try simp only [Act.put, zl, z0, z1]
      refine tW ?_ 14 rfl (by kernel_rfl) (fun _ _ _ h => h) (by rfl) (by assumption) ?_ ?_; rotate_left; (focus (intro w hSw; (try dsimp only at hSw); go_simp; try with_reducible rfl)); try simp only [Act.put, zl, z0, z1]
      refine tW ?_ 15 rfl (by kernel_rfl) (fun _ _ _ h => h) (by rfl) (by assumption) ?_ ?_; rotate_left; (focus (intro w hSw; (try dsimp only at hSw); go_simp; try with_reducible rfl)); try simp only [Act.put, zl, z0, z1]
      refine tW ?_ 16 rfl (by kernel_rfl) (fun _ _ _ h => h) (by rfl) (by assumption) ?_ ?_; rotate_left; (focus (intro w hSw; (try dsimp only at hSw); go_simp; try with_reducible rfl)); try simp only [Act.put, zl, z0, z1]
      refine tW ?_ 17 rfl (by kernel_rfl) (fun _ _ _ h => h) (by rfl) (by assumption) ?_ ?_; rotate_left; (focus (intro w hSw; (try dsimp only at hSw); go_simp; try with_reducible rfl)); try simp only [Act.put, zl, z0, z1]
      refine tW ?_ 18 rfl (by kernel_rfl) (fun _ _ _ h => h) (by rfl) (by assumption) ?_ ?_; rotate_left; (focus (intro w hSw; (try dsimp only at hSw); go_simp; try with_reducible rfl)); try simp only [Act.put, zl, z0, z1]
      refine wpAnyH_ready (rs := [12]) (by kernel_rfl) (by simp) ?_; refine consL 12 rfl (fun K hK => ?_) AllReadyH.nil; go_simp
      (go_at_call 55; refine (ofSet_any m.f m.won _ (by omega) (by omega)).mono ?_; rintro e w' ⟨rfl, hb⟩; obtain ⟨hc, hf⟩ := bcell hb; have hz := hb.size; (try simp at hz))
      refine hK.out _ _ ?_ (fun hD2 => ?_)
      · (try dsimp only); (exact kp)
      clear hK K hD1; try simp only [Act.put, zl, z0, z1]
      refine wpAnyH_ready (rs := [19]) (by kernel_rfl) (by simp) ?_; refine consL 19 rfl (fun K hK => ?_) AllReadyH.nil; go_simp
      (go_at_call 69; refine (isTie_any (M.ofSet m.f m.won) m.games _).mono ?_; rintro e w' ⟨rfl, hb⟩; obtain ⟨hc, hf⟩ := bcell hb; have hz := hb.size; (try simp at hz))
      refine hK.out _ _ ?_ (fun hD3 => ?_)
      · (try dsimp only); (exact kp)
      clear hK K hD2; try simp only [Act.put, zl, z0, z1]
      refine tW ?_ 20 rfl (by kernel_rfl) (fun _ _ _ h => h) (by rfl) (by assumption) ?_ ?_; rotate_left; (focus (intro w hSw; (try dsimp only at hSw); go_simp; try with_reducible rfl)); try simp only [Act.put, zl, z0, z1]
      refine tW ?_ 21 rfl (by kernel_rfl) (fun _ _ _ h => h) (by rfl) (by assumption) ?_ ?_; rotate_left; (focus (intro w hSw; (try dsimp only at hSw); go_simp; try with_reducible rfl)); try simp only [Act.put, zl, z0, z1]
      refine tW ?_ 22 rfl (by kernel_rfl) (fun _ _ _ h => h) (by rfl) (by assumption) ?_ ?_; rotate_left; (focus (intro w hSw; (try dsimp only at hSw); go_simp; try with_reducible rfl)); try simp only [Act.put, zl, z0, z1]
      refine wpAnyH_done (by kernel_rfl) ?_ _
      go_wp2
      go_ret
      exact ⟨rfl, by (go_split_ands; (exact kb))⟩

set_option maxHeartbeats 4000000 in
set_option maxRecDepth 100000 in
theorem changes_many (b : Nat) (m : M.Mt) (sv : Value) (g n c : Nat) (w : World) (hv : M.Valid m.f) (hn : m.log.length = n) (hn2 : n ≤ 9000) (hb : b < w.heap.size) (hmc : w.cell? ⟨b, 0, none⟩ = some (.int .i64 m.f.sets) ∧ w.cell? ⟨b, 1, none⟩ = some (.int .i64 m.f.games) ∧ w.cell? ⟨b, 2, none⟩ = some (.bool m.f.noAd) ∧ w.cell? ⟨b, 3, none⟩ = some (.int .i64 m.f.tie) ∧ w.cell? ⟨b, 4, none⟩ = some (.int .i64 m.f.to) ∧ w.cell? ⟨b, 5, none⟩ = some (.int .i64 m.f.lastTie) ∧ w.cell? ⟨b, 6, none⟩ = some (.int .i64 m.f.lastTo) ∧ w.cell? ⟨b, 7, none⟩ = some (.int .i64 m.f.first) ∧ w.cell? ⟨b, 8, none⟩ = some (.int .i64 m.f.next) ∧ w.cell? ⟨b, 9, none⟩ = some (.bool m.f.doubles) ∧ w.cell? ⟨b, 10, none⟩ = some (sv) ∧ w.cell? ⟨b, 11, none⟩ = some (.int .i64 m.games.A) ∧ w.cell? ⟨b, 12, none⟩ = some (.int .i64 m.games.B) ∧ w.cell? ⟨b, 13, none⟩ = some (.int .i64 m.pts.A) ∧ w.cell? ⟨b, 14, none⟩ = some (.int .i64 m.pts.B) ∧ w.cell? ⟨b, 15, none⟩ = some (.int .i64 m.server) ∧ w.cell? ⟨b, 16, none⟩ = some (.int .i64 m.ends) ∧ w.cell? ⟨b, 17, none⟩ = some (.int .i64 m.balls) ∧ w.cell? ⟨b, 18, none⟩ = some (.int .i64 m.winner) ∧ w.cell? ⟨b, 19, none⟩ = some (.int .i64 m.opens) ∧ w.cell? ⟨b, 20, none⟩ = some (.int .i64 m.won.A) ∧ w.cell? ⟨b, 21, none⟩ = some (.int .i64 m.won.B) ∧ w.cell? ⟨b, 22, none⟩ = some (.bool m.fresh) ∧ w.cell? ⟨b, 23, none⟩ = some (.slice (some ⟨g, 0, none⟩) n c)) (hlt : 2 ≤ n) (ht : w.cell? ⟨g, (n - 2) * 7 + 1, none⟩ = some (.bool (M.tieAt m.log (n - 2)))) :
    Calls Try.prog 87 #[.pointer (some ⟨b, 0, none⟩), .int .i64 (n : Int)] w fun e w' => e = .returned (.bool (M.changesB m)) ∧ Below w.heap.size w w' := by
  have f0 := hv.f0
  have f1 := hv.f1
  have n0 := hv.n0
  have n1 := hv.n1
  have v0 := hv.s0
  have v1 := hv.s1
  have hd : decide (2 ≤ n) = true := decide_eq_true hlt
  obtain ⟨Sx, Sxd⟩ : ∃ Sx : World → Prop, Hid (Sx = (fun w' => Below w.heap.size w w' ∧ w'.cell? ⟨b, 0, none⟩ = some (.int .i64 m.f.sets) ∧ w'.cell? ⟨b, 1, none⟩ = some (.int .i64 m.f.games) ∧ w'.cell? ⟨b, 2, none⟩ = some (.bool m.f.noAd) ∧ w'.cell? ⟨b, 3, none⟩ = some (.int .i64 m.f.tie) ∧ w'.cell? ⟨b, 4, none⟩ = some (.int .i64 m.f.to) ∧ w'.cell? ⟨b, 5, none⟩ = some (.int .i64 m.f.lastTie) ∧ w'.cell? ⟨b, 6, none⟩ = some (.int .i64 m.f.lastTo) ∧ w'.cell? ⟨b, 7, none⟩ = some (.int .i64 m.f.first) ∧ w'.cell? ⟨b, 8, none⟩ = some (.int .i64 m.f.next) ∧ w'.cell? ⟨b, 9, none⟩ = some (.bool m.f.doubles) ∧ w'.cell? ⟨b, 10, none⟩ = some (sv) ∧ w'.cell? ⟨b, 11, none⟩ = some (.int .i64 m.games.A) ∧ w'.cell? ⟨b, 12, none⟩ = some (.int .i64 m.games.B) ∧ w'.cell? ⟨b, 13, none⟩ = some (.int .i64 m.pts.A) ∧ w'.cell? ⟨b, 14, none⟩ = some (.int .i64 m.pts.B) ∧ w'.cell? ⟨b, 15, none⟩ = some (.int .i64 m.server) ∧ w'.cell? ⟨b, 16, none⟩ = some (.int .i64 m.ends) ∧ w'.cell? ⟨b, 17, none⟩ = some (.int .i64 m.balls) ∧ w'.cell? ⟨b, 18, none⟩ = some (.int .i64 m.winner) ∧ w'.cell? ⟨b, 19, none⟩ = some (.int .i64 m.opens) ∧ w'.cell? ⟨b, 20, none⟩ = some (.int .i64 m.won.A) ∧ w'.cell? ⟨b, 21, none⟩ = some (.int .i64 m.won.B) ∧ w'.cell? ⟨b, 22, none⟩ = some (.bool m.fresh) ∧ w'.cell? ⟨b, 23, none⟩ = some (.slice (some ⟨g, 0, none⟩) n c))) := ⟨_, hide rfl⟩
  cases ht2 : M.tieAt m.log (n - 2)
  · rw [ht2] at ht
    cases h1 : M.dueB m.f.first m.f.next n
    · have ho : M.changesB m = false := by unfold M.changesB; rw [hn]; simp [hd, ht2, h1]
      rw [ho]; clear ho
      go_enter Try.func87, Try.ntmps87
      go_wp2_with (first | (go_at_call 88; refine (due_any b m.f.first m.f.next _ _ (by go_split_ands; assumption) (by go_split_ands; assumption) f0 f1 n0 n1 (by omega) (by omega)).mono ?_; rintro e w1 ⟨rfl, hb⟩; obtain ⟨hc, hf⟩ := bcell hb; have hz := hb.size; (try simp at hz); have hSn : Sx w1 := (by rw [Sxd.out]; (try dsimp only); (exact kp)); rw [Sxd.out] at hSn; (try dsimp only at hSn); (try clear hS); have hS := hSn; clear hSn hc hf) | (go_at_call 55; refine (ofSet_any m.f m.won _ (by omega) (by omega)).mono ?_; rintro e w1 ⟨rfl, hb⟩; obtain ⟨hc, hf⟩ := bcell hb; have hz := hb.size; (try simp at hz); have hSn : Sx w1 := (by rw [Sxd.out]; (try dsimp only); (exact kp)); rw [Sxd.out] at hSn; (try dsimp only at hSn); (try clear hS); have hS := hSn; clear hSn hc hf) | (go_at_call 69; refine (isTie_any (M.ofSet m.f m.won) m.games _).mono ?_; rintro e w1 ⟨rfl, hb⟩; obtain ⟨hc, hf⟩ := bcell hb; have hz := hb.size; (try simp at hz); have hSn : Sx w1 := (by rw [Sxd.out]; (try dsimp only); (exact kp)); rw [Sxd.out] at hSn; (try dsimp only at hSn); (try clear hS); have hS := hSn; clear hSn hc hf))
      refine wp_region_held_drew (S := (fun w' => Below w.heap.size w w' ∧ w'.cell? ⟨b, 0, none⟩ = some (.int .i64 m.f.sets) ∧ w'.cell? ⟨b, 1, none⟩ = some (.int .i64 m.f.games) ∧ w'.cell? ⟨b, 2, none⟩ = some (.bool m.f.noAd) ∧ w'.cell? ⟨b, 3, none⟩ = some (.int .i64 m.f.tie) ∧ w'.cell? ⟨b, 4, none⟩ = some (.int .i64 m.f.to) ∧ w'.cell? ⟨b, 5, none⟩ = some (.int .i64 m.f.lastTie) ∧ w'.cell? ⟨b, 6, none⟩ = some (.int .i64 m.f.lastTo) ∧ w'.cell? ⟨b, 7, none⟩ = some (.int .i64 m.f.first) ∧ w'.cell? ⟨b, 8, none⟩ = some (.int .i64 m.f.next) ∧ w'.cell? ⟨b, 9, none⟩ = some (.bool m.f.doubles) ∧ w'.cell? ⟨b, 10, none⟩ = some (sv) ∧ w'.cell? ⟨b, 11, none⟩ = some (.int .i64 m.games.A) ∧ w'.cell? ⟨b, 12, none⟩ = some (.int .i64 m.games.B) ∧ w'.cell? ⟨b, 13, none⟩ = some (.int .i64 m.pts.A) ∧ w'.cell? ⟨b, 14, none⟩ = some (.int .i64 m.pts.B) ∧ w'.cell? ⟨b, 15, none⟩ = some (.int .i64 m.server) ∧ w'.cell? ⟨b, 16, none⟩ = some (.int .i64 m.ends) ∧ w'.cell? ⟨b, 17, none⟩ = some (.int .i64 m.balls) ∧ w'.cell? ⟨b, 18, none⟩ = some (.int .i64 m.winner) ∧ w'.cell? ⟨b, 19, none⟩ = some (.int .i64 m.opens) ∧ w'.cell? ⟨b, 20, none⟩ = some (.int .i64 m.won.A) ∧ w'.cell? ⟨b, 21, none⟩ = some (.int .i64 m.won.B) ∧ w'.cell? ⟨b, 22, none⟩ = some (.bool m.fresh) ∧ w'.cell? ⟨b, 23, none⟩ = some (.slice (some ⟨g, 0, none⟩) n c))) (by kernel_rfl) ?_ (fun hD0 => ?_)
      · (try dsimp only); (exact kp)
      refine tW ?_ 0 rfl (by kernel_rfl) (fun _ _ _ h => h) (by rfl) (by assumption) ?_ ?_; rotate_left; (focus (intro w hSw; (try dsimp only at hSw); go_simp; try with_reducible rfl)); try simp only [Act.put, zl, z0, z1]
      refine tW ?_ 1 rfl (by kernel_rfl) (fun _ _ _ h => h) (by rfl) (by assumption) ?_ ?_; rotate_left; (focus (intro w hSw; (try dsimp only at hSw); go_simp; try with_reducible rfl)); try simp only [Act.put, zl, z0, z1]
      refine wpAnyH_ready (rs := [2]) (by kernel_rfl) (by simp) ?_; refine consL 2 rfl (fun K hK => ?_) AllReadyH.nil; go_simp
      (go_at_call 88; refine (due_any b m.f.first m.f.next _ _ (by go_split_ands; assumption) (by go_split_ands; assumption) f0 f1 n0 n1 (by omega) (by omega)).mono ?_; rintro e w' ⟨rfl, hb⟩; obtain ⟨hc, hf⟩ := bcell hb; have hz := hb.size; (try simp at hz))
      refine hK.out _ _ ?_ (fun hD1 => ?_)
      · (try dsimp only); (exact kp)
      clear hK K hD0; try simp only [Act.put, zl, z0, z1]
      refine tW ?_ 3 rfl (by kernel_rfl) (fun _ _ _ h => h) (by rfl) (by assumption) ?_ ?_; rotate_left; (focus (intro w hSw; (try dsimp only at hSw); go_simp; try with_reducible rfl)); try simp only [Act.put, zl, z0, z1]
      refine takeL 4 rfl (by kernel_rfl) (by kernel_rfl) (by kernel_rfl) (fun _ _ _ h => h) (Or.inr ⟨by rfl, rfl⟩) (by assumption) ?_; try simp only [Act.put, zl, z0, z1]
      refine takeL 5 rfl (by kernel_rfl) (by kernel_rfl) (by kernel_rfl) (fun _ _ _ h => h) (Or.inr ⟨by rfl, rfl⟩) (by assumption) ?_; try simp only [Act.put, zl, z0, z1]
      refine takeL 6 rfl (by kernel_rfl) (by kernel_rfl) (by kernel_rfl) (fun _ _ _ h => h) (Or.inr ⟨by rfl, rfl⟩) (by assumption) ?_; try simp only [Act.put, zl, z0, z1]
      refine takeL 7 rfl (by kernel_rfl) (by kernel_rfl) (by kernel_rfl) (fun _ _ _ h => h) (Or.inr ⟨by rfl, rfl⟩) (by assumption) ?_; try simp only [Act.put, zl, z0, z1]
      refine takeL 8 rfl (by kernel_rfl) (by kernel_rfl) (by kernel_rfl) (fun _ _ _ h => h) (Or.inr ⟨by rfl, rfl⟩) (by assumption) ?_; try simp only [Act.put, zl, z0, z1]
      refine takeL 9 rfl (by kernel_rfl) (by kernel_rfl) (by kernel_rfl) (fun _ _ _ h => h) (Or.inr ⟨by rfl, rfl⟩) (by assumption) ?_; try simp only [Act.put, zl, z0, z1]
      refine takeL 10 rfl (by kernel_rfl) (by kernel_rfl) (by kernel_rfl) (fun _ _ _ h => h) (Or.inr ⟨by rfl, rfl⟩) (by assumption) ?_; try simp only [Act.put, zl, z0, z1]
      refine takeL 11 rfl (by kernel_rfl) (by kernel_rfl) (by kernel_rfl) (fun _ _ _ h => h) (Or.inr ⟨by rfl, rfl⟩) (by assumption) ?_; try simp only [Act.put, zl, z0, z1]
      refine takeL 12 rfl (by kernel_rfl) (by kernel_rfl) (by kernel_rfl) (fun _ _ _ h => h) (Or.inr ⟨by rfl, rfl⟩) (by assumption) ?_; try simp only [Act.put, zl, z0, z1]
      refine takeL 13 rfl (by kernel_rfl) (by kernel_rfl) (by kernel_rfl) (fun _ _ _ h => h) (Or.inr ⟨by rfl, rfl⟩) (by assumption) ?_; try simp only [Act.put, zl, z0, z1]
      refine takeL 14 rfl (by kernel_rfl) (by kernel_rfl) (by kernel_rfl) (fun _ _ _ h => h) (Or.inr ⟨by rfl, rfl⟩) (by assumption) ?_; try simp only [Act.put, zl, z0, z1]
      refine takeL 15 rfl (by kernel_rfl) (by kernel_rfl) (by kernel_rfl) (fun _ _ _ h => h) (Or.inr ⟨by rfl, rfl⟩) (by assumption) ?_; try simp only [Act.put, zl, z0, z1]
      refine takeL 16 rfl (by kernel_rfl) (by kernel_rfl) (by kernel_rfl) (fun _ _ _ h => h) (Or.inr ⟨by rfl, rfl⟩) (by assumption) ?_; try simp only [Act.put, zl, z0, z1]
      refine takeL 17 rfl (by kernel_rfl) (by kernel_rfl) (by kernel_rfl) (fun _ _ _ h => h) (Or.inr ⟨by rfl, rfl⟩) (by assumption) ?_; try simp only [Act.put, zl, z0, z1]
      refine takeL 18 rfl (by kernel_rfl) (by kernel_rfl) (by kernel_rfl) (fun _ _ _ h => h) (Or.inr ⟨by rfl, rfl⟩) (by assumption) ?_; try simp only [Act.put, zl, z0, z1]
      refine takeL 19 rfl (by kernel_rfl) (by kernel_rfl) (by kernel_rfl) (fun _ _ _ h => h) (Or.inr ⟨by rfl, rfl⟩) (by assumption) ?_; try simp only [Act.put, zl, z0, z1]
      refine takeL 20 rfl (by kernel_rfl) (by kernel_rfl) (by kernel_rfl) (fun _ _ _ h => h) (Or.inr ⟨by rfl, rfl⟩) (by assumption) ?_; try simp only [Act.put, zl, z0, z1]
      refine tW ?_ 21 rfl (by kernel_rfl) (fun _ _ _ h => h) (by rfl) (by assumption) ?_ ?_; rotate_left; (focus (intro w hSw; (try dsimp only at hSw); go_simp; try with_reducible rfl)); try simp only [Act.put, zl, z0, z1]
      refine tW ?_ 22 rfl (by kernel_rfl) (fun _ _ _ h => h) (by rfl) (by assumption) ?_ ?_; rotate_left; (focus (intro w hSw; (try dsimp only at hSw); go_simp; try with_reducible rfl)); try simp only [Act.put, zl, z0, z1]
      refine wpAnyH_done (by kernel_rfl) ?_ _
      go_wp2
      go_ret
      exact ⟨rfl, by (go_split_ands; (exact kb))⟩
    · cases h2 : M.isTie (M.ofSet m.f m.won) m.games
      all_goals
        first
          | (have ho : M.changesB m = true := by (unfold M.changesB; rw [hn]; simp [hd, ht2, h1, h2]; done)
             rw [ho]; clear ho)
          | (have ho : M.changesB m = false := by (unfold M.changesB; rw [hn]; simp [hd, ht2, h1, h2]; done)
             rw [ho]; clear ho)
        go_enter Try.func87, Try.ntmps87
        go_wp2_with (first | (go_at_call 88; refine (due_any b m.f.first m.f.next _ _ (by go_split_ands; assumption) (by go_split_ands; assumption) f0 f1 n0 n1 (by omega) (by omega)).mono ?_; rintro e w1 ⟨rfl, hb⟩; obtain ⟨hc, hf⟩ := bcell hb; have hz := hb.size; (try simp at hz); have hSn : Sx w1 := (by rw [Sxd.out]; (try dsimp only); (exact kp)); rw [Sxd.out] at hSn; (try dsimp only at hSn); (try clear hS); have hS := hSn; clear hSn hc hf) | (go_at_call 55; refine (ofSet_any m.f m.won _ (by omega) (by omega)).mono ?_; rintro e w1 ⟨rfl, hb⟩; obtain ⟨hc, hf⟩ := bcell hb; have hz := hb.size; (try simp at hz); have hSn : Sx w1 := (by rw [Sxd.out]; (try dsimp only); (exact kp)); rw [Sxd.out] at hSn; (try dsimp only at hSn); (try clear hS); have hS := hSn; clear hSn hc hf) | (go_at_call 69; refine (isTie_any (M.ofSet m.f m.won) m.games _).mono ?_; rintro e w1 ⟨rfl, hb⟩; obtain ⟨hc, hf⟩ := bcell hb; have hz := hb.size; (try simp at hz); have hSn : Sx w1 := (by rw [Sxd.out]; (try dsimp only); (exact kp)); rw [Sxd.out] at hSn; (try dsimp only at hSn); (try clear hS); have hS := hSn; clear hSn hc hf))
        refine wp_region_held_drew (S := (fun w' => Below w.heap.size w w' ∧ w'.cell? ⟨b, 0, none⟩ = some (.int .i64 m.f.sets) ∧ w'.cell? ⟨b, 1, none⟩ = some (.int .i64 m.f.games) ∧ w'.cell? ⟨b, 2, none⟩ = some (.bool m.f.noAd) ∧ w'.cell? ⟨b, 3, none⟩ = some (.int .i64 m.f.tie) ∧ w'.cell? ⟨b, 4, none⟩ = some (.int .i64 m.f.to) ∧ w'.cell? ⟨b, 5, none⟩ = some (.int .i64 m.f.lastTie) ∧ w'.cell? ⟨b, 6, none⟩ = some (.int .i64 m.f.lastTo) ∧ w'.cell? ⟨b, 7, none⟩ = some (.int .i64 m.f.first) ∧ w'.cell? ⟨b, 8, none⟩ = some (.int .i64 m.f.next) ∧ w'.cell? ⟨b, 9, none⟩ = some (.bool m.f.doubles) ∧ w'.cell? ⟨b, 10, none⟩ = some (sv) ∧ w'.cell? ⟨b, 11, none⟩ = some (.int .i64 m.games.A) ∧ w'.cell? ⟨b, 12, none⟩ = some (.int .i64 m.games.B) ∧ w'.cell? ⟨b, 13, none⟩ = some (.int .i64 m.pts.A) ∧ w'.cell? ⟨b, 14, none⟩ = some (.int .i64 m.pts.B) ∧ w'.cell? ⟨b, 15, none⟩ = some (.int .i64 m.server) ∧ w'.cell? ⟨b, 16, none⟩ = some (.int .i64 m.ends) ∧ w'.cell? ⟨b, 17, none⟩ = some (.int .i64 m.balls) ∧ w'.cell? ⟨b, 18, none⟩ = some (.int .i64 m.winner) ∧ w'.cell? ⟨b, 19, none⟩ = some (.int .i64 m.opens) ∧ w'.cell? ⟨b, 20, none⟩ = some (.int .i64 m.won.A) ∧ w'.cell? ⟨b, 21, none⟩ = some (.int .i64 m.won.B) ∧ w'.cell? ⟨b, 22, none⟩ = some (.bool m.fresh) ∧ w'.cell? ⟨b, 23, none⟩ = some (.slice (some ⟨g, 0, none⟩) n c))) (by kernel_rfl) ?_ (fun hD0 => ?_)
        · (try dsimp only); (exact kp)
        refine tW ?_ 0 rfl (by kernel_rfl) (fun _ _ _ h => h) (by rfl) (by assumption) ?_ ?_; rotate_left; (focus (intro w hSw; (try dsimp only at hSw); go_simp; try with_reducible rfl)); try simp only [Act.put, zl, z0, z1]
        refine tW ?_ 1 rfl (by kernel_rfl) (fun _ _ _ h => h) (by rfl) (by assumption) ?_ ?_; rotate_left; (focus (intro w hSw; (try dsimp only at hSw); go_simp; try with_reducible rfl)); try simp only [Act.put, zl, z0, z1]
        refine wpAnyH_ready (rs := [2]) (by kernel_rfl) (by simp) ?_; refine consL 2 rfl (fun K hK => ?_) AllReadyH.nil; go_simp
        (go_at_call 88; refine (due_any b m.f.first m.f.next _ _ (by go_split_ands; assumption) (by go_split_ands; assumption) f0 f1 n0 n1 (by omega) (by omega)).mono ?_; rintro e w' ⟨rfl, hb⟩; obtain ⟨hc, hf⟩ := bcell hb; have hz := hb.size; (try simp at hz))
        refine hK.out _ _ ?_ (fun hD1 => ?_)
        · (try dsimp only); (exact kp)
        clear hK K hD0; try simp only [Act.put, zl, z0, z1]
        refine tW ?_ 3 rfl (by kernel_rfl) (fun _ _ _ h => h) (by rfl) (by assumption) ?_ ?_; rotate_left; (focus (intro w hSw; (try dsimp only at hSw); go_simp; try with_reducible rfl)); try simp only [Act.put, zl, z0, z1]
        refine tW ?_ 4 rfl (by kernel_rfl) (fun _ _ _ h => h) (by rfl) (by assumption) ?_ ?_; rotate_left; (focus (intro w hSw; (try dsimp only at hSw); go_simp; try with_reducible rfl)); try simp only [Act.put, zl, z0, z1]
        refine tW ?_ 5 rfl (by kernel_rfl) (fun _ _ _ h => h) (by rfl) (by assumption) ?_ ?_; rotate_left; (focus (intro w hSw; (try dsimp only at hSw); go_simp; try with_reducible rfl)); try simp only [Act.put, zl, z0, z1]
        refine tW ?_ 6 rfl (by kernel_rfl) (fun _ _ _ h => h) (by rfl) (by assumption) ?_ ?_; rotate_left; (focus (intro w hSw; (try dsimp only at hSw); go_simp; try with_reducible rfl)); try simp only [Act.put, zl, z0, z1]
        refine tW ?_ 7 rfl (by kernel_rfl) (fun _ _ _ h => h) (by rfl) (by assumption) ?_ ?_; rotate_left; (focus (intro w hSw; (try dsimp only at hSw); go_simp; try with_reducible rfl)); try simp only [Act.put, zl, z0, z1]
        refine tW ?_ 8 rfl (by kernel_rfl) (fun _ _ _ h => h) (by rfl) (by assumption) ?_ ?_; rotate_left; (focus (intro w hSw; (try dsimp only at hSw); go_simp; try with_reducible rfl)); try simp only [Act.put, zl, z0, z1]
        refine tW ?_ 9 rfl (by kernel_rfl) (fun _ _ _ h => h) (by rfl) (by assumption) ?_ ?_; rotate_left; (focus (intro w hSw; (try dsimp only at hSw); go_simp; try with_reducible rfl)); try simp only [Act.put, zl, z0, z1]
        refine tW ?_ 10 rfl (by kernel_rfl) (fun _ _ _ h => h) (by rfl) (by assumption) ?_ ?_; rotate_left; (focus (intro w hSw; (try dsimp only at hSw); go_simp; try with_reducible rfl)); try simp only [Act.put, zl, z0, z1]
        refine tW ?_ 11 rfl (by kernel_rfl) (fun _ _ _ h => h) (by rfl) (by assumption) ?_ ?_; rotate_left; (focus (intro w hSw; (try dsimp only at hSw); go_simp; try with_reducible rfl)); try simp only [Act.put, zl, z0, z1]
        refine tW ?_ 13 rfl (by kernel_rfl) (fun _ _ _ h => h) (by rfl) (by assumption) ?_ ?_; rotate_left; (focus (intro w hSw; (try dsimp only at hSw); go_simp; try with_reducible rfl)); try simp only [Act.put, zl, z0, z1]
        refine tW ?_ 14 rfl (by kernel_rfl) (fun _ _ _ h => h) (by rfl) (by assumption) ?_ ?_; rotate_left; (focus (intro w hSw; (try dsimp only at hSw); go_simp; try with_reducible rfl)); try simp only [Act.put, zl, z0, z1]
        refine tW ?_ 15 rfl (by kernel_rfl) (fun _ _ _ h => h) (by rfl) (by assumption) ?_ ?_; rotate_left; (focus (intro w hSw; (try dsimp only at hSw); go_simp; try with_reducible rfl)); try simp only [Act.put, zl, z0, z1]
        refine tW ?_ 16 rfl (by kernel_rfl) (fun _ _ _ h => h) (by rfl) (by assumption) ?_ ?_; rotate_left; (focus (intro w hSw; (try dsimp only at hSw); go_simp; try with_reducible rfl)); try simp only [Act.put, zl, z0, z1]
        refine tW ?_ 17 rfl (by kernel_rfl) (fun _ _ _ h => h) (by rfl) (by assumption) ?_ ?_; rotate_left; (focus (intro w hSw; (try dsimp only at hSw); go_simp; try with_reducible rfl)); try simp only [Act.put, zl, z0, z1]
        refine tW ?_ 18 rfl (by kernel_rfl) (fun _ _ _ h => h) (by rfl) (by assumption) ?_ ?_; rotate_left; (focus (intro w hSw; (try dsimp only at hSw); go_simp; try with_reducible rfl)); try simp only [Act.put, zl, z0, z1]
        refine wpAnyH_ready (rs := [12]) (by kernel_rfl) (by simp) ?_; refine consL 12 rfl (fun K hK => ?_) AllReadyH.nil; go_simp
        (go_at_call 55; refine (ofSet_any m.f m.won _ (by omega) (by omega)).mono ?_; rintro e w' ⟨rfl, hb⟩; obtain ⟨hc, hf⟩ := bcell hb; have hz := hb.size; (try simp at hz))
        refine hK.out _ _ ?_ (fun hD2 => ?_)
        · (try dsimp only); (exact kp)
        clear hK K hD1; try simp only [Act.put, zl, z0, z1]
        refine wpAnyH_ready (rs := [19]) (by kernel_rfl) (by simp) ?_; refine consL 19 rfl (fun K hK => ?_) AllReadyH.nil; go_simp
        (go_at_call 69; refine (isTie_any (M.ofSet m.f m.won) m.games _).mono ?_; rintro e w' ⟨rfl, hb⟩; obtain ⟨hc, hf⟩ := bcell hb; have hz := hb.size; (try simp at hz))
        refine hK.out _ _ ?_ (fun hD3 => ?_)
        · (try dsimp only); (exact kp)
        clear hK K hD2; try simp only [Act.put, zl, z0, z1]
        refine tW ?_ 20 rfl (by kernel_rfl) (fun _ _ _ h => h) (by rfl) (by assumption) ?_ ?_; rotate_left; (focus (intro w hSw; (try dsimp only at hSw); go_simp; try with_reducible rfl)); try simp only [Act.put, zl, z0, z1]
        refine tW ?_ 21 rfl (by kernel_rfl) (fun _ _ _ h => h) (by rfl) (by assumption) ?_ ?_; rotate_left; (focus (intro w hSw; (try dsimp only at hSw); go_simp; try with_reducible rfl)); try simp only [Act.put, zl, z0, z1]
        refine tW ?_ 22 rfl (by kernel_rfl) (fun _ _ _ h => h) (by rfl) (by assumption) ?_ ?_; rotate_left; (focus (intro w hSw; (try dsimp only at hSw); go_simp; try with_reducible rfl)); try simp only [Act.put, zl, z0, z1]
        refine wpAnyH_done (by kernel_rfl) ?_ _
        go_wp2
        go_ret
        exact ⟨rfl, by (go_split_ands; (exact kb))⟩

  · rw [ht2] at ht
    cases hd2 : M.dueB m.f.first m.f.next ((n : Int) - 2)
    · skip
      cases h1 : M.dueB m.f.first m.f.next n
      · have ho : M.changesB m = false := by unfold M.changesB; rw [hn]; simp [hd, ht2, hd2, h1]
        rw [ho]; clear ho
        go_enter Try.func87, Try.ntmps87
        go_wp2_with (first | (go_at_call 88; refine (due_any b m.f.first m.f.next _ _ (by go_split_ands; assumption) (by go_split_ands; assumption) f0 f1 n0 n1 (by omega) (by omega)).mono ?_; rintro e w1 ⟨rfl, hb⟩; obtain ⟨hc, hf⟩ := bcell hb; have hz := hb.size; (try simp at hz); have hSn : Sx w1 := (by rw [Sxd.out]; (try dsimp only); (exact kp)); rw [Sxd.out] at hSn; (try dsimp only at hSn); (try clear hS); have hS := hSn; clear hSn hc hf) | (go_at_call 55; refine (ofSet_any m.f m.won _ (by omega) (by omega)).mono ?_; rintro e w1 ⟨rfl, hb⟩; obtain ⟨hc, hf⟩ := bcell hb; have hz := hb.size; (try simp at hz); have hSn : Sx w1 := (by rw [Sxd.out]; (try dsimp only); (exact kp)); rw [Sxd.out] at hSn; (try dsimp only at hSn); (try clear hS); have hS := hSn; clear hSn hc hf) | (go_at_call 69; refine (isTie_any (M.ofSet m.f m.won) m.games _).mono ?_; rintro e w1 ⟨rfl, hb⟩; obtain ⟨hc, hf⟩ := bcell hb; have hz := hb.size; (try simp at hz); have hSn : Sx w1 := (by rw [Sxd.out]; (try dsimp only); (exact kp)); rw [Sxd.out] at hSn; (try dsimp only at hSn); (try clear hS); have hS := hSn; clear hSn hc hf))
        refine wp_region_held_drew (S := (fun w' => Below w.heap.size w w' ∧ w'.cell? ⟨b, 0, none⟩ = some (.int .i64 m.f.sets) ∧ w'.cell? ⟨b, 1, none⟩ = some (.int .i64 m.f.games) ∧ w'.cell? ⟨b, 2, none⟩ = some (.bool m.f.noAd) ∧ w'.cell? ⟨b, 3, none⟩ = some (.int .i64 m.f.tie) ∧ w'.cell? ⟨b, 4, none⟩ = some (.int .i64 m.f.to) ∧ w'.cell? ⟨b, 5, none⟩ = some (.int .i64 m.f.lastTie) ∧ w'.cell? ⟨b, 6, none⟩ = some (.int .i64 m.f.lastTo) ∧ w'.cell? ⟨b, 7, none⟩ = some (.int .i64 m.f.first) ∧ w'.cell? ⟨b, 8, none⟩ = some (.int .i64 m.f.next) ∧ w'.cell? ⟨b, 9, none⟩ = some (.bool m.f.doubles) ∧ w'.cell? ⟨b, 10, none⟩ = some (sv) ∧ w'.cell? ⟨b, 11, none⟩ = some (.int .i64 m.games.A) ∧ w'.cell? ⟨b, 12, none⟩ = some (.int .i64 m.games.B) ∧ w'.cell? ⟨b, 13, none⟩ = some (.int .i64 m.pts.A) ∧ w'.cell? ⟨b, 14, none⟩ = some (.int .i64 m.pts.B) ∧ w'.cell? ⟨b, 15, none⟩ = some (.int .i64 m.server) ∧ w'.cell? ⟨b, 16, none⟩ = some (.int .i64 m.ends) ∧ w'.cell? ⟨b, 17, none⟩ = some (.int .i64 m.balls) ∧ w'.cell? ⟨b, 18, none⟩ = some (.int .i64 m.winner) ∧ w'.cell? ⟨b, 19, none⟩ = some (.int .i64 m.opens) ∧ w'.cell? ⟨b, 20, none⟩ = some (.int .i64 m.won.A) ∧ w'.cell? ⟨b, 21, none⟩ = some (.int .i64 m.won.B) ∧ w'.cell? ⟨b, 22, none⟩ = some (.bool m.fresh) ∧ w'.cell? ⟨b, 23, none⟩ = some (.slice (some ⟨g, 0, none⟩) n c))) (by kernel_rfl) ?_ (fun hD0 => ?_)
        · (try dsimp only); (exact kp)
        refine tW ?_ 0 rfl (by kernel_rfl) (fun _ _ _ h => h) (by rfl) (by assumption) ?_ ?_; rotate_left; (focus (intro w hSw; (try dsimp only at hSw); go_simp; try with_reducible rfl)); try simp only [Act.put, zl, z0, z1]
        refine tW ?_ 1 rfl (by kernel_rfl) (fun _ _ _ h => h) (by rfl) (by assumption) ?_ ?_; rotate_left; (focus (intro w hSw; (try dsimp only at hSw); go_simp; try with_reducible rfl)); try simp only [Act.put, zl, z0, z1]
        refine wpAnyH_ready (rs := [2]) (by kernel_rfl) (by simp) ?_; refine consL 2 rfl (fun K hK => ?_) AllReadyH.nil; go_simp
        (go_at_call 88; refine (due_any b m.f.first m.f.next _ _ (by go_split_ands; assumption) (by go_split_ands; assumption) f0 f1 n0 n1 (by omega) (by omega)).mono ?_; rintro e w' ⟨rfl, hb⟩; obtain ⟨hc, hf⟩ := bcell hb; have hz := hb.size; (try simp at hz))
        refine hK.out _ _ ?_ (fun hD1 => ?_)
        · (try dsimp only); (exact kp)
        clear hK K hD0; try simp only [Act.put, zl, z0, z1]
        refine tW ?_ 3 rfl (by kernel_rfl) (fun _ _ _ h => h) (by rfl) (by assumption) ?_ ?_; rotate_left; (focus (intro w hSw; (try dsimp only at hSw); go_simp; try with_reducible rfl)); try simp only [Act.put, zl, z0, z1]
        refine takeL 4 rfl (by kernel_rfl) (by kernel_rfl) (by kernel_rfl) (fun _ _ _ h => h) (Or.inr ⟨by rfl, rfl⟩) (by assumption) ?_; try simp only [Act.put, zl, z0, z1]
        refine takeL 5 rfl (by kernel_rfl) (by kernel_rfl) (by kernel_rfl) (fun _ _ _ h => h) (Or.inr ⟨by rfl, rfl⟩) (by assumption) ?_; try simp only [Act.put, zl, z0, z1]
        refine takeL 6 rfl (by kernel_rfl) (by kernel_rfl) (by kernel_rfl) (fun _ _ _ h => h) (Or.inr ⟨by rfl, rfl⟩) (by assumption) ?_; try simp only [Act.put, zl, z0, z1]
        refine takeL 7 rfl (by kernel_rfl) (by kernel_rfl) (by kernel_rfl) (fun _ _ _ h => h) (Or.inr ⟨by rfl, rfl⟩) (by assumption) ?_; try simp only [Act.put, zl, z0, z1]
        refine takeL 8 rfl (by kernel_rfl) (by kernel_rfl) (by kernel_rfl) (fun _ _ _ h => h) (Or.inr ⟨by rfl, rfl⟩) (by assumption) ?_; try simp only [Act.put, zl, z0, z1]
        refine takeL 9 rfl (by kernel_rfl) (by kernel_rfl) (by kernel_rfl) (fun _ _ _ h => h) (Or.inr ⟨by rfl, rfl⟩) (by assumption) ?_; try simp only [Act.put, zl, z0, z1]
        refine takeL 10 rfl (by kernel_rfl) (by kernel_rfl) (by kernel_rfl) (fun _ _ _ h => h) (Or.inr ⟨by rfl, rfl⟩) (by assumption) ?_; try simp only [Act.put, zl, z0, z1]
        refine takeL 11 rfl (by kernel_rfl) (by kernel_rfl) (by kernel_rfl) (fun _ _ _ h => h) (Or.inr ⟨by rfl, rfl⟩) (by assumption) ?_; try simp only [Act.put, zl, z0, z1]
        refine takeL 12 rfl (by kernel_rfl) (by kernel_rfl) (by kernel_rfl) (fun _ _ _ h => h) (Or.inr ⟨by rfl, rfl⟩) (by assumption) ?_; try simp only [Act.put, zl, z0, z1]
        refine takeL 13 rfl (by kernel_rfl) (by kernel_rfl) (by kernel_rfl) (fun _ _ _ h => h) (Or.inr ⟨by rfl, rfl⟩) (by assumption) ?_; try simp only [Act.put, zl, z0, z1]
        refine takeL 14 rfl (by kernel_rfl) (by kernel_rfl) (by kernel_rfl) (fun _ _ _ h => h) (Or.inr ⟨by rfl, rfl⟩) (by assumption) ?_; try simp only [Act.put, zl, z0, z1]
        refine takeL 15 rfl (by kernel_rfl) (by kernel_rfl) (by kernel_rfl) (fun _ _ _ h => h) (Or.inr ⟨by rfl, rfl⟩) (by assumption) ?_; try simp only [Act.put, zl, z0, z1]
        refine takeL 16 rfl (by kernel_rfl) (by kernel_rfl) (by kernel_rfl) (fun _ _ _ h => h) (Or.inr ⟨by rfl, rfl⟩) (by assumption) ?_; try simp only [Act.put, zl, z0, z1]
        refine takeL 17 rfl (by kernel_rfl) (by kernel_rfl) (by kernel_rfl) (fun _ _ _ h => h) (Or.inr ⟨by rfl, rfl⟩) (by assumption) ?_; try simp only [Act.put, zl, z0, z1]
        refine takeL 18 rfl (by kernel_rfl) (by kernel_rfl) (by kernel_rfl) (fun _ _ _ h => h) (Or.inr ⟨by rfl, rfl⟩) (by assumption) ?_; try simp only [Act.put, zl, z0, z1]
        refine takeL 19 rfl (by kernel_rfl) (by kernel_rfl) (by kernel_rfl) (fun _ _ _ h => h) (Or.inr ⟨by rfl, rfl⟩) (by assumption) ?_; try simp only [Act.put, zl, z0, z1]
        refine takeL 20 rfl (by kernel_rfl) (by kernel_rfl) (by kernel_rfl) (fun _ _ _ h => h) (Or.inr ⟨by rfl, rfl⟩) (by assumption) ?_; try simp only [Act.put, zl, z0, z1]
        refine tW ?_ 21 rfl (by kernel_rfl) (fun _ _ _ h => h) (by rfl) (by assumption) ?_ ?_; rotate_left; (focus (intro w hSw; (try dsimp only at hSw); go_simp; try with_reducible rfl)); try simp only [Act.put, zl, z0, z1]
        refine tW ?_ 22 rfl (by kernel_rfl) (fun _ _ _ h => h) (by rfl) (by assumption) ?_ ?_; rotate_left; (focus (intro w hSw; (try dsimp only at hSw); go_simp; try with_reducible rfl)); try simp only [Act.put, zl, z0, z1]
        refine wpAnyH_done (by kernel_rfl) ?_ _
        go_wp2
        go_ret
        exact ⟨rfl, by (go_split_ands; (exact kb))⟩
      · cases h2 : M.isTie (M.ofSet m.f m.won) m.games
        all_goals
          first
            | (have ho : M.changesB m = true := by (unfold M.changesB; rw [hn]; simp [hd, ht2, hd2, h1, h2]; done)
               rw [ho]; clear ho)
            | (have ho : M.changesB m = false := by (unfold M.changesB; rw [hn]; simp [hd, ht2, hd2, h1, h2]; done)
               rw [ho]; clear ho)
          go_enter Try.func87, Try.ntmps87
          go_wp2_with (first | (go_at_call 88; refine (due_any b m.f.first m.f.next _ _ (by go_split_ands; assumption) (by go_split_ands; assumption) f0 f1 n0 n1 (by omega) (by omega)).mono ?_; rintro e w1 ⟨rfl, hb⟩; obtain ⟨hc, hf⟩ := bcell hb; have hz := hb.size; (try simp at hz); have hSn : Sx w1 := (by rw [Sxd.out]; (try dsimp only); (exact kp)); rw [Sxd.out] at hSn; (try dsimp only at hSn); (try clear hS); have hS := hSn; clear hSn hc hf) | (go_at_call 55; refine (ofSet_any m.f m.won _ (by omega) (by omega)).mono ?_; rintro e w1 ⟨rfl, hb⟩; obtain ⟨hc, hf⟩ := bcell hb; have hz := hb.size; (try simp at hz); have hSn : Sx w1 := (by rw [Sxd.out]; (try dsimp only); (exact kp)); rw [Sxd.out] at hSn; (try dsimp only at hSn); (try clear hS); have hS := hSn; clear hSn hc hf) | (go_at_call 69; refine (isTie_any (M.ofSet m.f m.won) m.games _).mono ?_; rintro e w1 ⟨rfl, hb⟩; obtain ⟨hc, hf⟩ := bcell hb; have hz := hb.size; (try simp at hz); have hSn : Sx w1 := (by rw [Sxd.out]; (try dsimp only); (exact kp)); rw [Sxd.out] at hSn; (try dsimp only at hSn); (try clear hS); have hS := hSn; clear hSn hc hf))
          refine wp_region_held_drew (S := (fun w' => Below w.heap.size w w' ∧ w'.cell? ⟨b, 0, none⟩ = some (.int .i64 m.f.sets) ∧ w'.cell? ⟨b, 1, none⟩ = some (.int .i64 m.f.games) ∧ w'.cell? ⟨b, 2, none⟩ = some (.bool m.f.noAd) ∧ w'.cell? ⟨b, 3, none⟩ = some (.int .i64 m.f.tie) ∧ w'.cell? ⟨b, 4, none⟩ = some (.int .i64 m.f.to) ∧ w'.cell? ⟨b, 5, none⟩ = some (.int .i64 m.f.lastTie) ∧ w'.cell? ⟨b, 6, none⟩ = some (.int .i64 m.f.lastTo) ∧ w'.cell? ⟨b, 7, none⟩ = some (.int .i64 m.f.first) ∧ w'.cell? ⟨b, 8, none⟩ = some (.int .i64 m.f.next) ∧ w'.cell? ⟨b, 9, none⟩ = some (.bool m.f.doubles) ∧ w'.cell? ⟨b, 10, none⟩ = some (sv) ∧ w'.cell? ⟨b, 11, none⟩ = some (.int .i64 m.games.A) ∧ w'.cell? ⟨b, 12, none⟩ = some (.int .i64 m.games.B) ∧ w'.cell? ⟨b, 13, none⟩ = some (.int .i64 m.pts.A) ∧ w'.cell? ⟨b, 14, none⟩ = some (.int .i64 m.pts.B) ∧ w'.cell? ⟨b, 15, none⟩ = some (.int .i64 m.server) ∧ w'.cell? ⟨b, 16, none⟩ = some (.int .i64 m.ends) ∧ w'.cell? ⟨b, 17, none⟩ = some (.int .i64 m.balls) ∧ w'.cell? ⟨b, 18, none⟩ = some (.int .i64 m.winner) ∧ w'.cell? ⟨b, 19, none⟩ = some (.int .i64 m.opens) ∧ w'.cell? ⟨b, 20, none⟩ = some (.int .i64 m.won.A) ∧ w'.cell? ⟨b, 21, none⟩ = some (.int .i64 m.won.B) ∧ w'.cell? ⟨b, 22, none⟩ = some (.bool m.fresh) ∧ w'.cell? ⟨b, 23, none⟩ = some (.slice (some ⟨g, 0, none⟩) n c))) (by kernel_rfl) ?_ (fun hD0 => ?_)
          · (try dsimp only); (exact kp)
          refine tW ?_ 0 rfl (by kernel_rfl) (fun _ _ _ h => h) (by rfl) (by assumption) ?_ ?_; rotate_left; (focus (intro w hSw; (try dsimp only at hSw); go_simp; try with_reducible rfl)); try simp only [Act.put, zl, z0, z1]
          refine tW ?_ 1 rfl (by kernel_rfl) (fun _ _ _ h => h) (by rfl) (by assumption) ?_ ?_; rotate_left; (focus (intro w hSw; (try dsimp only at hSw); go_simp; try with_reducible rfl)); try simp only [Act.put, zl, z0, z1]
          refine wpAnyH_ready (rs := [2]) (by kernel_rfl) (by simp) ?_; refine consL 2 rfl (fun K hK => ?_) AllReadyH.nil; go_simp
          (go_at_call 88; refine (due_any b m.f.first m.f.next _ _ (by go_split_ands; assumption) (by go_split_ands; assumption) f0 f1 n0 n1 (by omega) (by omega)).mono ?_; rintro e w' ⟨rfl, hb⟩; obtain ⟨hc, hf⟩ := bcell hb; have hz := hb.size; (try simp at hz))
          refine hK.out _ _ ?_ (fun hD1 => ?_)
          · (try dsimp only); (exact kp)
          clear hK K hD0; try simp only [Act.put, zl, z0, z1]
          refine tW ?_ 3 rfl (by kernel_rfl) (fun _ _ _ h => h) (by rfl) (by assumption) ?_ ?_; rotate_left; (focus (intro w hSw; (try dsimp only at hSw); go_simp; try with_reducible rfl)); try simp only [Act.put, zl, z0, z1]
          refine tW ?_ 4 rfl (by kernel_rfl) (fun _ _ _ h => h) (by rfl) (by assumption) ?_ ?_; rotate_left; (focus (intro w hSw; (try dsimp only at hSw); go_simp; try with_reducible rfl)); try simp only [Act.put, zl, z0, z1]
          refine tW ?_ 5 rfl (by kernel_rfl) (fun _ _ _ h => h) (by rfl) (by assumption) ?_ ?_; rotate_left; (focus (intro w hSw; (try dsimp only at hSw); go_simp; try with_reducible rfl)); try simp only [Act.put, zl, z0, z1]
          refine tW ?_ 6 rfl (by kernel_rfl) (fun _ _ _ h => h) (by rfl) (by assumption) ?_ ?_; rotate_left; (focus (intro w hSw; (try dsimp only at hSw); go_simp; try with_reducible rfl)); try simp only [Act.put, zl, z0, z1]
          refine tW ?_ 7 rfl (by kernel_rfl) (fun _ _ _ h => h) (by rfl) (by assumption) ?_ ?_; rotate_left; (focus (intro w hSw; (try dsimp only at hSw); go_simp; try with_reducible rfl)); try simp only [Act.put, zl, z0, z1]
          refine tW ?_ 8 rfl (by kernel_rfl) (fun _ _ _ h => h) (by rfl) (by assumption) ?_ ?_; rotate_left; (focus (intro w hSw; (try dsimp only at hSw); go_simp; try with_reducible rfl)); try simp only [Act.put, zl, z0, z1]
          refine tW ?_ 9 rfl (by kernel_rfl) (fun _ _ _ h => h) (by rfl) (by assumption) ?_ ?_; rotate_left; (focus (intro w hSw; (try dsimp only at hSw); go_simp; try with_reducible rfl)); try simp only [Act.put, zl, z0, z1]
          refine tW ?_ 10 rfl (by kernel_rfl) (fun _ _ _ h => h) (by rfl) (by assumption) ?_ ?_; rotate_left; (focus (intro w hSw; (try dsimp only at hSw); go_simp; try with_reducible rfl)); try simp only [Act.put, zl, z0, z1]
          refine tW ?_ 11 rfl (by kernel_rfl) (fun _ _ _ h => h) (by rfl) (by assumption) ?_ ?_; rotate_left; (focus (intro w hSw; (try dsimp only at hSw); go_simp; try with_reducible rfl)); try simp only [Act.put, zl, z0, z1]
          refine tW ?_ 13 rfl (by kernel_rfl) (fun _ _ _ h => h) (by rfl) (by assumption) ?_ ?_; rotate_left; (focus (intro w hSw; (try dsimp only at hSw); go_simp; try with_reducible rfl)); try simp only [Act.put, zl, z0, z1]
          refine tW ?_ 14 rfl (by kernel_rfl) (fun _ _ _ h => h) (by rfl) (by assumption) ?_ ?_; rotate_left; (focus (intro w hSw; (try dsimp only at hSw); go_simp; try with_reducible rfl)); try simp only [Act.put, zl, z0, z1]
          refine tW ?_ 15 rfl (by kernel_rfl) (fun _ _ _ h => h) (by rfl) (by assumption) ?_ ?_; rotate_left; (focus (intro w hSw; (try dsimp only at hSw); go_simp; try with_reducible rfl)); try simp only [Act.put, zl, z0, z1]
          refine tW ?_ 16 rfl (by kernel_rfl) (fun _ _ _ h => h) (by rfl) (by assumption) ?_ ?_; rotate_left; (focus (intro w hSw; (try dsimp only at hSw); go_simp; try with_reducible rfl)); try simp only [Act.put, zl, z0, z1]
          refine tW ?_ 17 rfl (by kernel_rfl) (fun _ _ _ h => h) (by rfl) (by assumption) ?_ ?_; rotate_left; (focus (intro w hSw; (try dsimp only at hSw); go_simp; try with_reducible rfl)); try simp only [Act.put, zl, z0, z1]
          refine tW ?_ 18 rfl (by kernel_rfl) (fun _ _ _ h => h) (by rfl) (by assumption) ?_ ?_; rotate_left; (focus (intro w hSw; (try dsimp only at hSw); go_simp; try with_reducible rfl)); try simp only [Act.put, zl, z0, z1]
          refine wpAnyH_ready (rs := [12]) (by kernel_rfl) (by simp) ?_; refine consL 12 rfl (fun K hK => ?_) AllReadyH.nil; go_simp
          (go_at_call 55; refine (ofSet_any m.f m.won _ (by omega) (by omega)).mono ?_; rintro e w' ⟨rfl, hb⟩; obtain ⟨hc, hf⟩ := bcell hb; have hz := hb.size; (try simp at hz))
          refine hK.out _ _ ?_ (fun hD2 => ?_)
          · (try dsimp only); (exact kp)
          clear hK K hD1; try simp only [Act.put, zl, z0, z1]
          refine wpAnyH_ready (rs := [19]) (by kernel_rfl) (by simp) ?_; refine consL 19 rfl (fun K hK => ?_) AllReadyH.nil; go_simp
          (go_at_call 69; refine (isTie_any (M.ofSet m.f m.won) m.games _).mono ?_; rintro e w' ⟨rfl, hb⟩; obtain ⟨hc, hf⟩ := bcell hb; have hz := hb.size; (try simp at hz))
          refine hK.out _ _ ?_ (fun hD3 => ?_)
          · (try dsimp only); (exact kp)
          clear hK K hD2; try simp only [Act.put, zl, z0, z1]
          refine tW ?_ 20 rfl (by kernel_rfl) (fun _ _ _ h => h) (by rfl) (by assumption) ?_ ?_; rotate_left; (focus (intro w hSw; (try dsimp only at hSw); go_simp; try with_reducible rfl)); try simp only [Act.put, zl, z0, z1]
          refine tW ?_ 21 rfl (by kernel_rfl) (fun _ _ _ h => h) (by rfl) (by assumption) ?_ ?_; rotate_left; (focus (intro w hSw; (try dsimp only at hSw); go_simp; try with_reducible rfl)); try simp only [Act.put, zl, z0, z1]
          refine tW ?_ 22 rfl (by kernel_rfl) (fun _ _ _ h => h) (by rfl) (by assumption) ?_ ?_; rotate_left; (focus (intro w hSw; (try dsimp only at hSw); go_simp; try with_reducible rfl)); try simp only [Act.put, zl, z0, z1]
          refine wpAnyH_done (by kernel_rfl) ?_ _
          go_wp2
          go_ret
          exact ⟨rfl, by (go_split_ands; (exact kb))⟩

    · have ho : M.changesB m = true := by unfold M.changesB; rw [hn]; simp [hd, ht2, hd2]
      rw [ho]; clear ho
      go_enter Try.func87, Try.ntmps87
      go_wp2_with (first | (go_at_call 88; refine (due_any b m.f.first m.f.next _ _ (by go_split_ands; assumption) (by go_split_ands; assumption) f0 f1 n0 n1 (by omega) (by omega)).mono ?_; rintro e w1 ⟨rfl, hb⟩; obtain ⟨hc, hf⟩ := bcell hb; have hz := hb.size; (try simp at hz); have hSn : Sx w1 := (by rw [Sxd.out]; (try dsimp only); (exact kp)); rw [Sxd.out] at hSn; (try dsimp only at hSn); (try clear hS); have hS := hSn; clear hSn hc hf) | (go_at_call 55; refine (ofSet_any m.f m.won _ (by omega) (by omega)).mono ?_; rintro e w1 ⟨rfl, hb⟩; obtain ⟨hc, hf⟩ := bcell hb; have hz := hb.size; (try simp at hz); have hSn : Sx w1 := (by rw [Sxd.out]; (try dsimp only); (exact kp)); rw [Sxd.out] at hSn; (try dsimp only at hSn); (try clear hS); have hS := hSn; clear hSn hc hf) | (go_at_call 69; refine (isTie_any (M.ofSet m.f m.won) m.games _).mono ?_; rintro e w1 ⟨rfl, hb⟩; obtain ⟨hc, hf⟩ := bcell hb; have hz := hb.size; (try simp at hz); have hSn : Sx w1 := (by rw [Sxd.out]; (try dsimp only); (exact kp)); rw [Sxd.out] at hSn; (try dsimp only at hSn); (try clear hS); have hS := hSn; clear hSn hc hf))
      go_ret
      exact ⟨rfl, by (go_split_ands; (exact kb))⟩

end Go.Proofs.Ytmhaapghiecfcaa

namespace Go.Proofs.Ytmhaapghiecfcaa
open Go.RowKit

def flatP (l : List M.Pr) : List Value := l.flatMap fun p => [.int .i64 p.A, .int .i64 p.B]
def flatG (l : List M.Gm) : List Value := l.flatMap fun g => [.int .i64 g.set, .bool g.tie, .int .i64 g.server, .int .i64 g.winner, .int .i64 g.pts.A, .int .i64 g.pts.B, .bool g.fresh]

def MAt (w : World) (base b : Nat) (m : M.Mt) (sv gv : Value) : Prop :=
  base ≤ b ∧ w.heap[b]? = some (.cells #[.int .i64 m.f.sets, .int .i64 m.f.games, .bool m.f.noAd, .int .i64 m.f.tie, .int .i64 m.f.to, .int .i64 m.f.lastTie, .int .i64 m.f.lastTo, .int .i64 m.f.first, .int .i64 m.f.next, .bool m.f.doubles, sv, .int .i64 m.games.A, .int .i64 m.games.B, .int .i64 m.pts.A, .int .i64 m.pts.B, .int .i64 m.server, .int .i64 m.ends, .int .i64 m.balls, .int .i64 m.winner, .int .i64 m.opens, .int .i64 m.won.A, .int .i64 m.won.B, .bool m.fresh, gv] 75 (0, 0)) ∧ w.ownsRow base 32 2 sv m.sets.length (flatP m.sets) ∧ w.ownsRow base 44 7 gv m.log.length (flatG m.log)

section
variable {w w' : World} {base b : Nat} {m : M.Mt} {sv gv : Value}
theorem MAt.lt (h : MAt w base b m sv gv) : b < w.heap.size := by
  rcases Nat.lt_or_ge b w.heap.size with hl | hl
  · exact hl
  · have := h.2.1; rw [Array.getElem?_eq_none hl] at this; cases this
theorem MAt.mc (h : MAt w base b m sv gv) : w.cell? ⟨b, 0, none⟩ = some (.int .i64 m.f.sets) ∧ w.cell? ⟨b, 1, none⟩ = some (.int .i64 m.f.games) ∧ w.cell? ⟨b, 2, none⟩ = some (.bool m.f.noAd) ∧ w.cell? ⟨b, 3, none⟩ = some (.int .i64 m.f.tie) ∧ w.cell? ⟨b, 4, none⟩ = some (.int .i64 m.f.to) ∧ w.cell? ⟨b, 5, none⟩ = some (.int .i64 m.f.lastTie) ∧ w.cell? ⟨b, 6, none⟩ = some (.int .i64 m.f.lastTo) ∧ w.cell? ⟨b, 7, none⟩ = some (.int .i64 m.f.first) ∧ w.cell? ⟨b, 8, none⟩ = some (.int .i64 m.f.next) ∧ w.cell? ⟨b, 9, none⟩ = some (.bool m.f.doubles) ∧ w.cell? ⟨b, 10, none⟩ = some (sv) ∧ w.cell? ⟨b, 11, none⟩ = some (.int .i64 m.games.A) ∧ w.cell? ⟨b, 12, none⟩ = some (.int .i64 m.games.B) ∧ w.cell? ⟨b, 13, none⟩ = some (.int .i64 m.pts.A) ∧ w.cell? ⟨b, 14, none⟩ = some (.int .i64 m.pts.B) ∧ w.cell? ⟨b, 15, none⟩ = some (.int .i64 m.server) ∧ w.cell? ⟨b, 16, none⟩ = some (.int .i64 m.ends) ∧ w.cell? ⟨b, 17, none⟩ = some (.int .i64 m.balls) ∧ w.cell? ⟨b, 18, none⟩ = some (.int .i64 m.winner) ∧ w.cell? ⟨b, 19, none⟩ = some (.int .i64 m.opens) ∧ w.cell? ⟨b, 20, none⟩ = some (.int .i64 m.won.A) ∧ w.cell? ⟨b, 21, none⟩ = some (.int .i64 m.won.B) ∧ w.cell? ⟨b, 22, none⟩ = some (.bool m.fresh) ∧ w.cell? ⟨b, 23, none⟩ = some (gv) := by
  have hc := fun i => cell_of_row w b i _ _ _ h.2.1
  (repeat' apply And.intro) <;> (rw [hc]; rfl)
theorem MAt.fr (h : MAt w base b m sv gv) (i : Nat) : w.frozen? ⟨b, i, none⟩ = false := by
  have := h.2.1
  simp [World.frozen?, this]
theorem MAt.drew (h : MAt w base b m sv gv) : MAt w.drew base b m sv gv := h
theorem MAt.below (h : MAt w base b m sv gv) (hb : Below w.heap.size w w') : MAt w' base b m sv gv :=
  have hg : w.grownBy w' none := ⟨hb.os, hb.tape, hb.output, hb.size, fun i hi _ => hb.block i hi⟩
  ⟨h.1, (hb.block b h.lt).trans h.2.1, h.2.2.1.kept hg (by cases sv.ownBlock <;> simp), h.2.2.2.kept hg (by cases gv.ownBlock <;> simp)⟩
theorem row_ne {e : TypeId} {n size : Nat} {xs : List Value} {v : Value} {cs : Array Value} {t : TypeId} (h : w.ownsRow base e size v n xs) (hb : w.heap[b]? = some (.cells cs t (0, 0))) (ht : e ≠ t) : v.ownBlock ≠ some b := by
  rcases h.2 with ⟨rfl, _⟩ | ⟨g, cap, cur, rfl, _, hh, _⟩
  · simp [Value.ownBlock]
  · intro he
    have hgb : g = b := by simpa [Value.ownBlock] using he
    subst hgb
    rw [hb] at hh
    simp only [Option.some.injEq, Obj.cells.injEq] at hh
    exact ht hh.2.1.symm
theorem setCell_grown (w : World) (a : Addr) (u : Value) : w.grownBy (w.setCell a u) (some a.block) :=
  ⟨rfl, rfl, rfl, by simp [World.setCell], fun k _ hk => Below.heap_setCell w a u k (fun e => hk (by rw [e]))⟩
theorem blk_set {cs : Array Value} {t : TypeId} (h : w.heap[b]? = some (.cells cs t (0, 0))) (i : Nat) (u : Value) : (w.setCell ⟨b, i, none⟩ u).heap[b]? = some (.cells (cs.setIfInBounds i u) t (0, 0)) := by
  simp [World.setCell, Array.getElem?_modify, h]
theorem MAt.set (h : MAt w base b m sv gv) (i : Nat) (u : Value) {m' : M.Mt} (he : (#[.int .i64 m.f.sets, .int .i64 m.f.games, .bool m.f.noAd, .int .i64 m.f.tie, .int .i64 m.f.to, .int .i64 m.f.lastTie, .int .i64 m.f.lastTo, .int .i64 m.f.first, .int .i64 m.f.next, .bool m.f.doubles, sv, .int .i64 m.games.A, .int .i64 m.games.B, .int .i64 m.pts.A, .int .i64 m.pts.B, .int .i64 m.server, .int .i64 m.ends, .int .i64 m.balls, .int .i64 m.winner, .int .i64 m.opens, .int .i64 m.won.A, .int .i64 m.won.B, .bool m.fresh, gv] : Array Value).setIfInBounds i u = #[.int .i64 m'.f.sets, .int .i64 m'.f.games, .bool m'.f.noAd, .int .i64 m'.f.tie, .int .i64 m'.f.to, .int .i64 m'.f.lastTie, .int .i64 m'.f.lastTo, .int .i64 m'.f.first, .int .i64 m'.f.next, .bool m'.f.doubles, sv, .int .i64 m'.games.A, .int .i64 m'.games.B, .int .i64 m'.pts.A, .int .i64 m'.pts.B, .int .i64 m'.server, .int .i64 m'.ends, .int .i64 m'.balls, .int .i64 m'.winner, .int .i64 m'.opens, .int .i64 m'.won.A, .int .i64 m'.won.B, .bool m'.fresh, gv]) (hs : m'.sets = m.sets) (hl : m'.log = m.log) :
    MAt (w.setCell ⟨b, i, none⟩ u) base b m' sv gv := by
  refine ⟨h.1, ?_, ?_, ?_⟩
  · rw [blk_set h.2.1, he]
  · rw [hs]; exact h.2.2.1.kept (setCell_grown w _ u) (.inr (row_ne h.2.2.1 h.2.1 (by decide)))
  · rw [hl]; exact h.2.2.2.kept (setCell_grown w _ u) (.inr (row_ne h.2.2.2 h.2.1 (by decide)))
theorem own_form {e : TypeId} {n size : Nat} {xs : List Value} {v : Value} (h : w.ownsRow base e size v n xs) : ∃ A c, v = .slice A n c := by
  rcases h.2 with ⟨rfl, rfl⟩ | ⟨g, cap, cur, rfl, _⟩
  · exact ⟨none, 0, rfl⟩
  · exact ⟨_, cap, rfl⟩
theorem flatG_tie : ∀ (l : List M.Gm) (k : Nat), k < l.length → (flatG l)[k * 7 + 1]? = some (.bool (M.tieAt l k))
  | [], k, h => by simp at h
  | g :: r, 0, _ => by simp [flatG, M.tieAt]
  | g :: r, k + 1, h => by
    have := flatG_tie r k (by simpa using h)
    unfold flatG at this ⊢
    rw [List.flatMap_cons, List.getElem?_append_right (by simp; omega)]
    have e : (k + 1) * 7 + 1 - [Value.int .i64 g.set, .bool g.tie, .int .i64 g.server, .int .i64 g.winner, .int .i64 g.pts.A, .int .i64 g.pts.B, .bool g.fresh].length = k * 7 + 1 := by simp; omega
    rw [e, this]; rfl
theorem flatP_length : ∀ l : List M.Pr, (flatP l).length = l.length * 2
  | [] => rfl
  | g :: r => by
    have := flatP_length r
    unfold flatP at this ⊢
    simp only [List.flatMap_cons, List.length_append, List.length_cons, List.length_nil, this]
    omega

theorem changes_at (h : MAt w base b m sv gv) (hv : M.Valid m.f) (hn : m.log.length ≤ 9000) :
    Calls Try.prog 87 #[.pointer (some ⟨b, 0, none⟩), .int .i64 (m.log.length : Int)] w fun e w' => e = .returned (.bool (M.changesB m)) ∧ Below w.heap.size w w' := by
  obtain ⟨A, c, rfl⟩ := own_form h.2.2.2
  by_cases h2 : m.log.length < 2
  · exact changes_few b m sv A _ c w hv rfl hn h.lt h.mc h2
  · obtain ⟨g, cap, e, _, _⟩ := h.2.2.2.form (by omega)
    rw [e] at h
    refine changes_many b m sv g _ cap w hv rfl hn h.lt h.mc (by omega) ?_
    rw [h.2.2.2.cellAt _ (by omega)]
    exact flatG_tie m.log _ (by omega)
end

end Go.Proofs.Ytmhaapghiecfcaa

namespace Go.Proofs.Ytmhaapghiecfcaa
open Go.RowKit

set_option maxHeartbeats 4000000 in
set_option maxRecDepth 100000 in
theorem beginGame_any {w : World} {base b : Nat} {m : M.Mt} {sv gv : Value} (h : MAt w base b m sv gv) (hv : M.Valid m.f) (hn : m.log.length ≤ 9000) (ho : 0 ≤ m.opens ∧ m.opens ≤ 1) (hbal : 0 ≤ m.balls ∧ m.balls ≤ 100000) :
    Calls Try.prog 85 #[.pointer (some ⟨b, 0, none⟩)] w fun e w' => e = .returned (.tuple #[]) ∧ MAt w' base b (M.begin m) sv gv ∧ Below base w w' := by
  obtain ⟨A, c, e⟩ := own_form h.2.2.2
  subst e
  obtain ⟨ho0, ho1⟩ := ho
  obtain ⟨hb0, hb1⟩ := hbal
  have H := hide h
  have HV := hide hv
  have HN := hide hn
  have hbb : base ≤ b := h.1
  have c0 := h.mc
  have fr0 := h.fr
  have hlb := h.lt
  clear h hv
  cases hch : M.changesB m
  · skip
    have hch2 : M.changesB { m with server := M.serverOf m.opens m.f.doubles m.log.length 0 } = false := hch
    go_enter Try.func85, Try.ntmps85
    go_wp2_with fail
    refine (server_any b m.opens m.log.length 0 m.f.doubles _ (by simp [c0]) (by simp [c0]) ho0 ho1 (by omega) (by omega) (by omega) (by omega)).mono ?_
    rintro e w1 ⟨rfl, hb1⟩
    have h1 := H.out.below hb1
    have c1 := h1.mc
    have fr1 := h1.fr
    go_wp2_with fail
    have h2 : MAt _ base b { m with server := M.serverOf m.opens m.f.doubles m.log.length 0 } sv (.slice A m.log.length c) := h1.set 15 (.int .i64 (M.serverOf m.opens m.f.doubles m.log.length 0)) rfl rfl rfl
    refine (changes_at h2 HV.out HN.out).mono ?_
    rintro e w3 ⟨rfl, hb3⟩
    have h3 := h2.below hb3
    have c3 := h3.mc
    have fr3 := h3.fr
    have hB3 : Below base w w3 := ((hb1.mono (by omega)).setCell (by exact hbb) _).trans (hb3.mono (by have := hb1.size; simp; omega))
    clear h2
    go_wp2_with fail
    have h4 : MAt _ base b { { m with server := M.serverOf m.opens m.f.doubles m.log.length 0 } with fresh := false } sv (.slice A m.log.length c) := h3.set 22 (.bool false) rfl rfl rfl
    go_end0
    refine ⟨rfl, ?_, ?_⟩
    · have e : M.begin m = { { m with server := M.serverOf m.opens m.f.doubles m.log.length 0 } with fresh := false } := by unfold M.begin; rw [hch]; rfl
      rw [e]; exact h4
    · exact (hB3.setCell (by exact hbb) _)

  · skip
    have hch2 : M.changesB { m with server := M.serverOf m.opens m.f.doubles m.log.length 0 } = true := hch
    go_enter Try.func85, Try.ntmps85
    go_wp2_with fail
    refine (server_any b m.opens m.log.length 0 m.f.doubles _ (by simp [c0]) (by simp [c0]) ho0 ho1 (by omega) (by omega) (by omega) (by omega)).mono ?_
    rintro e w1 ⟨rfl, hb1⟩
    have h1 := H.out.below hb1
    have c1 := h1.mc
    have fr1 := h1.fr
    go_wp2_with fail
    have h2 : MAt _ base b { m with server := M.serverOf m.opens m.f.doubles m.log.length 0 } sv (.slice A m.log.length c) := h1.set 15 (.int .i64 (M.serverOf m.opens m.f.doubles m.log.length 0)) rfl rfl rfl
    refine (changes_at h2 HV.out HN.out).mono ?_
    rintro e w3 ⟨rfl, hb3⟩
    have h3 := h2.below hb3
    have c3 := h3.mc
    have fr3 := h3.fr
    have hB3 : Below base w w3 := ((hb1.mono (by omega)).setCell (by exact hbb) _).trans (hb3.mono (by have := hb1.size; simp; omega))
    clear h2
    go_wp2_with fail
    have h4 : MAt _ base b { { m with server := M.serverOf m.opens m.f.doubles m.log.length 0 } with fresh := true } sv (.slice A m.log.length c) := h3.set 22 (.bool true) rfl rfl rfl
    have h5 : MAt _ base b { { m with server := M.serverOf m.opens m.f.doubles m.log.length 0 } with fresh := true, balls := m.balls + 1 } sv (.slice A m.log.length c) := h4.set 17 (.int .i64 (m.balls + 1)) rfl rfl rfl
    go_end0
    refine ⟨rfl, ?_, ?_⟩
    · have e : M.begin m = { { m with server := M.serverOf m.opens m.f.doubles m.log.length 0 } with fresh := true, balls := m.balls + 1 } := by unfold M.begin; rw [hch]; rfl
      rw [e]; exact h5
    · exact ((hB3.setCell (by exact hbb) _).setCell (by exact hbb) _)

end Go.Proofs.Ytmhaapghiecfcaa

namespace Go.Proofs.Ytmhaapghiecfcaa
open Go.RowKit
attribute [local go_sem ↓] Go.wp_at_zero Go.wp_at_succ

theorem game_info : (Try.prog.info? 44).map (fun i => (i.zero, i.size, i.bytes)) = some (some (.agg #[.int .i64 0, .bool false, .int .i64 0, .int .i64 0, .int .i64 0, .int .i64 0, .bool false]), 7, 56) := by kernel_rfl
theorem pair_info : (Try.prog.info? 32).map (fun i => (i.zero, i.size, i.bytes)) = some (some (.agg #[.int .i64 0, .int .i64 0]), 2, 16) := by kernel_rfl
theorem alloc_cell (w : World) (q : Nat) (hq : w.heap.size = q) (cs : Array Value) (t : TypeId) (i : Nat) : (w.alloc (.cells cs t (0, 0))).cell? ⟨q, i, none⟩ = cs[i]? := by
  subst hq
  exact cell_of_row _ _ _ cs t (0, 0) (by first | (simp; done) | (show (w.heap.push _)[w.heap.size]? = _; simp; done))
theorem endSet_parts (m : M.Mt) (side : Int) : (M.endSet m side).f = m.f ∧ (M.endSet m side).log.length = m.log.length + 1 ∧ (M.endSet m side).opens = m.opens ∧ (M.endSet m side).balls = m.balls ∧ (M.endSet m side).ends = m.ends := by
  unfold M.endSet
  split <;> simp
theorem endGame_of {m n : M.Mt} {side : Int} (h : M.endSet m side = n) : M.endGame m side = (if M.winner m.f n.won ≠ -1 then { n with winner := M.winner m.f n.won, server := -1 } else M.begin (if ((M.plus m.games side).A + (M.plus m.games side).B) % 2 = 1 then { n with winner := M.winner m.f n.won, ends := n.ends + 1 } else { n with winner := M.winner m.f n.won })) := by
  subst h
  rfl
theorem plus_bd {p : M.Pr} (side : Int) (h0 : 0 ≤ p.A ∧ 0 ≤ p.B) (h1 : p.A ≤ 999999 ∧ p.B ≤ 999999) : 0 ≤ (M.plus p side).A ∧ 0 ≤ (M.plus p side).B ∧ (M.plus p side).A ≤ 1000000 ∧ (M.plus p side).B ≤ 1000000 := by
  unfold M.plus
  split <;> (dsimp only; omega)
theorem rows_ne {w : World} {base : Nat} {e e' : TypeId} {n n' size size' : Nat} {xs xs' : List Value} {v v' : Value} (h : w.ownsRow base e size v n xs) (h' : w.ownsRow base e' size' v' n' xs') (he : e ≠ e') : v.ownBlock = none ∨ v.ownBlock ≠ v'.ownBlock := by
  rcases h.2 with ⟨rfl, _⟩ | ⟨g, cap, cur, rfl, _, hh, _⟩
  · exact .inl rfl
  · right
    intro heq
    have : v'.ownBlock ≠ some g := row_ne h' hh (Ne.symm he)
    exact this (by rw [← heq]; rfl)
theorem flatG_one (g : M.Gm) : ∀ u ∈ flatG [g], u.oneCell' = true := by
  intro u hu
  simp [flatG] at hu
  rcases hu with rfl | rfl | rfl | rfl | rfl | rfl | rfl <;> rfl
theorem flatP_one (g : M.Pr) : ∀ u ∈ flatP [g], u.oneCell' = true := by
  intro u hu
  simp [flatP] at hu
  rcases hu with rfl | rfl <;> rfl
theorem news_G (w : World) (g : M.Gm) : ∀ j u, (flatG [g])[j]? = some u → (w.alloc (.cells #[.int .i64 g.set, .bool g.tie, .int .i64 g.server, .int .i64 g.winner, .int .i64 g.pts.A, .int .i64 g.pts.B, .bool g.fresh] 44 (0, 0))).cell? ((⟨w.heap.size, 0, none⟩ : Addr).add j) = some u :=
  fun j u hu => World.news_of_block (t := 44) (fr := (0, 0)) (cs := #[.int .i64 g.set, .bool g.tie, .int .i64 g.server, .int .i64 g.winner, .int .i64 g.pts.A, .int .i64 g.pts.B, .bool g.fresh]) (by first | (simp; done) | (show (w.heap.push _)[w.heap.size]? = _; simp; done)) j u hu
theorem news_P (w : World) (g : M.Pr) : ∀ j u, (flatP [g])[j]? = some u → (w.alloc (.cells #[.int .i64 g.A, .int .i64 g.B] 32 (0, 0))).cell? ((⟨w.heap.size, 0, none⟩ : Addr).add j) = some u :=
  fun j u hu => World.news_of_block (t := 32) (fr := (0, 0)) (cs := #[.int .i64 g.A, .int .i64 g.B]) (by first | (simp; done) | (show (w.heap.push _)[w.heap.size]? = _; simp; done)) j u hu
theorem flatG_app (l : List M.Gm) (g : M.Gm) : flatG (l ++ [g]) = flatG l ++ flatG [g] := by unfold flatG; simp
theorem flatP_app (l : List M.Pr) (g : M.Pr) : flatP (l ++ [g]) = flatP l ++ flatP [g] := by unfold flatP; simp
theorem pushG {w w' : World} {base b : Nat} {m : M.Mt} {sv gv gv' : Value} {g : M.Gm} (h : MAt w base b m sv gv) (hg : w.grownBy w' gv.ownBlock) (ho : w'.ownsRow base 44 7 gv' (m.log.length + 1) (flatG m.log ++ flatG [g])) :
    (∀ i, w'.frozen? ⟨b, i, none⟩ = false) ∧ MAt (w'.setCell ⟨b, 23, none⟩ gv') base b { m with log := m.log ++ [g] } sv gv' := by
  have hne := row_ne h.2.2.2 h.2.1 (by decide)
  have hb' : w'.heap[b]? = some (.cells #[.int .i64 m.f.sets, .int .i64 m.f.games, .bool m.f.noAd, .int .i64 m.f.tie, .int .i64 m.f.to, .int .i64 m.f.lastTie, .int .i64 m.f.lastTo, .int .i64 m.f.first, .int .i64 m.f.next, .bool m.f.doubles, sv, .int .i64 m.games.A, .int .i64 m.games.B, .int .i64 m.pts.A, .int .i64 m.pts.B, .int .i64 m.server, .int .i64 m.ends, .int .i64 m.balls, .int .i64 m.winner, .int .i64 m.opens, .int .i64 m.won.A, .int .i64 m.won.B, .bool m.fresh, gv] 75 (0, 0)) := (hg.block b h.lt (Ne.symm hne)).trans h.2.1
  refine ⟨fun i => by simp [World.frozen?, hb'], h.1, ?_, ?_, ?_⟩
  · rw [blk_set hb']; rfl
  · exact (h.2.2.1.kept hg (rows_ne h.2.2.1 h.2.2.2 (by decide))).kept (setCell_grown w' _ gv') (.inr (row_ne h.2.2.1 h.2.1 (by decide)))
  · show (w'.setCell ⟨b, 23, none⟩ gv').ownsRow base 44 7 gv' (m.log ++ [g]).length (flatG (m.log ++ [g]))
    rw [flatG_app, List.length_append]
    exact ho.kept (setCell_grown w' _ gv') (.inr (row_ne ho hb' (by decide)))
theorem pushP {w w' : World} {base b : Nat} {m : M.Mt} {sv sv' gv : Value} {g : M.Pr} (h : MAt w base b m sv gv) (hg : w.grownBy w' sv.ownBlock) (ho : w'.ownsRow base 32 2 sv' (m.sets.length + 1) (flatP m.sets ++ flatP [g])) :
    (∀ i, w'.frozen? ⟨b, i, none⟩ = false) ∧ MAt (w'.setCell ⟨b, 10, none⟩ sv') base b { m with sets := m.sets ++ [g] } sv' gv := by
  have hne := row_ne h.2.2.1 h.2.1 (by decide)
  have hb' : w'.heap[b]? = some (.cells #[.int .i64 m.f.sets, .int .i64 m.f.games, .bool m.f.noAd, .int .i64 m.f.tie, .int .i64 m.f.to, .int .i64 m.f.lastTie, .int .i64 m.f.lastTo, .int .i64 m.f.first, .int .i64 m.f.next, .bool m.f.doubles, sv, .int .i64 m.games.A, .int .i64 m.games.B, .int .i64 m.pts.A, .int .i64 m.pts.B, .int .i64 m.server, .int .i64 m.ends, .int .i64 m.balls, .int .i64 m.winner, .int .i64 m.opens, .int .i64 m.won.A, .int .i64 m.won.B, .bool m.fresh, gv] 75 (0, 0)) := (hg.block b h.lt (Ne.symm hne)).trans h.2.1
  refine ⟨fun i => by simp [World.frozen?, hb'], h.1, ?_, ?_, ?_⟩
  · rw [blk_set hb']; rfl
  · show (w'.setCell ⟨b, 10, none⟩ sv').ownsRow base 32 2 sv' (m.sets ++ [g]).length (flatP (m.sets ++ [g]))
    rw [flatP_app, List.length_append]
    exact ho.kept (setCell_grown w' _ sv') (.inr (row_ne ho hb' (by decide)))
  · exact (h.2.2.2.kept hg (rows_ne h.2.2.2 h.2.2.1 (by decide))).kept (setCell_grown w' _ sv') (.inr (row_ne h.2.2.2 h.2.1 (by decide)))
theorem far_cells {w w1 : World} {row : Option Nat} (hg : w.grownBy w1 row) : ∀ b o, b < w.heap.size → some b ≠ row → w1.cell? ⟨b, o, none⟩ = w.cell? ⟨b, o, none⟩ := fun b o h hne => hg.cell_far ⟨b, o, none⟩ h hne

set_option maxHeartbeats 8000000 in
set_option maxRecDepth 100000 in
theorem endGame_any {w : World} {base b : Nat} {m : M.Mt} {sv gv : Value} (side : Int) (h : MAt w base b m sv gv) (hv : M.Valid m.f) (hn : m.log.length ≤ 8999) (ho : 0 ≤ m.opens ∧ m.opens ≤ 1) (hbal : 0 ≤ m.balls ∧ m.balls ≤ 90000) (hsm : M.Small m.games ∧ m.games.A ≤ 999999 ∧ m.games.B ≤ 999999) (hse : m.sets.length ≤ 1000) (hg0 : 0 ≤ m.games.A ∧ 0 ≤ m.games.B) (hwon : M.Small m.won) (hends : 0 ≤ m.ends ∧ m.ends ≤ 100000) :
    Calls Try.prog 78 #[.pointer (some ⟨b, 0, none⟩), .agg #[.int .i64 (M.ofSet m.f m.won).sets, .int .i64 (M.ofSet m.f m.won).games, .bool (M.ofSet m.f m.won).noAd, .int .i64 (M.ofSet m.f m.won).tie, .int .i64 (M.ofSet m.f m.won).to, .int .i64 (M.ofSet m.f m.won).lastTie, .int .i64 (M.ofSet m.f m.won).lastTo, .int .i64 (M.ofSet m.f m.won).first, .int .i64 (M.ofSet m.f m.won).next, .bool (M.ofSet m.f m.won).doubles], .int .i64 side] w fun e w' => e = .returned (.tuple #[]) ∧ (∃ sv' gv', MAt w' base b (M.endGame m side) sv' gv') ∧ Below base w w' := by
  obtain ⟨A, c, e⟩ := own_form h.2.2.2
  obtain ⟨A2, c2, e2⟩ := own_form h.2.2.1
  subst e e2
  obtain ⟨ho0, ho1⟩ := ho
  have H := hide h
  have HV := hide hv
  have HN := hide hn
  have HBAL := hide hbal
  have HSM := hide hsm
  have HSE := hide hse
  have HG0 := hide hg0
  have HWON := hide hwon
  have HENDS := hide hends
  clear hg0 hwon hends
  obtain ⟨gp, hpi, hpz0, hpz1, hpz2⟩ := info_parts pair_info
  have HO0 := hide (And.intro ho0 ho1)
  have hbb : base ≤ b := h.1
  have hmc0 := h.mc
  have fr0 := h.fr
  have hlb := h.lt
  have hlt0 : w.heap.size ≠ b := by omega
  clear h hv hn hbal hsm hse
  obtain ⟨gi, hi, hz0, hz1, hz2⟩ := info_parts game_info
  go_enter Try.func78, Try.ntmps78
  go_wp2_with fail
  refine wp_region_T_drew (S := (fun w' => w.heap.size < w'.heap.size ∧ w'.cell? ⟨b, 0, none⟩ = some (.int .i64 m.f.sets) ∧ w'.cell? ⟨b, 1, none⟩ = some (.int .i64 m.f.games) ∧ w'.cell? ⟨b, 2, none⟩ = some (.bool m.f.noAd) ∧ w'.cell? ⟨b, 3, none⟩ = some (.int .i64 m.f.tie) ∧ w'.cell? ⟨b, 4, none⟩ = some (.int .i64 m.f.to) ∧ w'.cell? ⟨b, 5, none⟩ = some (.int .i64 m.f.lastTie) ∧ w'.cell? ⟨b, 6, none⟩ = some (.int .i64 m.f.lastTo) ∧ w'.cell? ⟨b, 7, none⟩ = some (.int .i64 m.f.first) ∧ w'.cell? ⟨b, 8, none⟩ = some (.int .i64 m.f.next) ∧ w'.cell? ⟨b, 9, none⟩ = some (.bool m.f.doubles) ∧ w'.cell? ⟨b, 10, none⟩ = some (.slice A2 m.sets.length c2) ∧ w'.cell? ⟨b, 11, none⟩ = some (.int .i64 m.games.A) ∧ w'.cell? ⟨b, 12, none⟩ = some (.int .i64 m.games.B) ∧ w'.cell? ⟨b, 13, none⟩ = some (.int .i64 m.pts.A) ∧ w'.cell? ⟨b, 14, none⟩ = some (.int .i64 m.pts.B) ∧ w'.cell? ⟨b, 15, none⟩ = some (.int .i64 m.server) ∧ w'.cell? ⟨b, 16, none⟩ = some (.int .i64 m.ends) ∧ w'.cell? ⟨b, 17, none⟩ = some (.int .i64 m.balls) ∧ w'.cell? ⟨b, 18, none⟩ = some (.int .i64 m.winner) ∧ w'.cell? ⟨b, 19, none⟩ = some (.int .i64 m.opens) ∧ w'.cell? ⟨b, 20, none⟩ = some (.int .i64 m.won.A) ∧ w'.cell? ⟨b, 21, none⟩ = some (.int .i64 m.won.B) ∧ w'.cell? ⟨b, 22, none⟩ = some (.bool m.fresh) ∧ w'.cell? ⟨b, 23, none⟩ = some (.slice A m.log.length c) ∧ w'.cell? ⟨w.heap.size, 0, none⟩ = some (.int .i64 ((M.ofSet m.f m.won)).sets) ∧ w'.cell? ⟨w.heap.size, 1, none⟩ = some (.int .i64 ((M.ofSet m.f m.won)).games) ∧ w'.cell? ⟨w.heap.size, 2, none⟩ = some (.bool ((M.ofSet m.f m.won)).noAd) ∧ w'.cell? ⟨w.heap.size, 3, none⟩ = some (.int .i64 ((M.ofSet m.f m.won)).tie) ∧ w'.cell? ⟨w.heap.size, 4, none⟩ = some (.int .i64 ((M.ofSet m.f m.won)).to) ∧ w'.cell? ⟨w.heap.size, 5, none⟩ = some (.int .i64 ((M.ofSet m.f m.won)).lastTie) ∧ w'.cell? ⟨w.heap.size, 6, none⟩ = some (.int .i64 ((M.ofSet m.f m.won)).lastTo) ∧ w'.cell? ⟨w.heap.size, 7, none⟩ = some (.int .i64 ((M.ofSet m.f m.won)).first) ∧ w'.cell? ⟨w.heap.size, 8, none⟩ = some (.int .i64 ((M.ofSet m.f m.won)).next) ∧ w'.cell? ⟨w.heap.size, 9, none⟩ = some (.bool ((M.ofSet m.f m.won)).doubles))) 43 (by kernel_rfl) ?_ (fun hD0 => ?_)
  · (try dsimp only); first | (go_split_ands; (repeat' apply And.intro) <;> first | (simp; omega) | omega | (refine (hc3.out _).trans ?_; assumption) | (refine (hcx.out _).trans ?_; assumption)) | (exact kp)
  refine takeT (v := ?_) 0 rfl (by kernel_rfl) (by kernel_rfl) (by kernel_rfl) (by kernel_rfl) (fun _ _ _ h => h) (Or.inl ⟨by rfl, ?_⟩) (by assumption) ?_; rotate_left
  · (intro w hSw; (try dsimp only at hSw); go_simp; try with_reducible rfl)
  try simp only [Act.put, zl, z0, z1]
  refine takeT (v := ?_) 1 rfl (by kernel_rfl) (by kernel_rfl) (by kernel_rfl) (by kernel_rfl) (fun _ _ _ h => h) (Or.inl ⟨by rfl, ?_⟩) (by assumption) ?_; rotate_left
  · (intro w hSw; (try dsimp only at hSw); go_simp; try with_reducible rfl)
  try simp only [Act.put, zl, z0, z1]
  refine takeT (v := ?_) 2 rfl (by kernel_rfl) (by kernel_rfl) (by kernel_rfl) (by kernel_rfl) (fun _ _ _ h => h) (Or.inl ⟨by rfl, ?_⟩) (by assumption) ?_; rotate_left
  · (intro w hSw; (try dsimp only at hSw); go_simp; try with_reducible rfl)
  try simp only [Act.put, zl, z0, z1]
  refine takeT (v := ?_) 3 rfl (by kernel_rfl) (by kernel_rfl) (by kernel_rfl) (by kernel_rfl) (fun _ _ _ h => h) (Or.inl ⟨by rfl, ?_⟩) (by assumption) ?_; rotate_left
  · (intro w hSw; (try dsimp only at hSw); go_simp; try with_reducible rfl)
  try simp only [Act.put, zl, z0, z1]
  refine takeT (v := ?_) 4 rfl (by kernel_rfl) (by kernel_rfl) (by kernel_rfl) (by kernel_rfl) (fun _ _ _ h => h) (Or.inl ⟨by rfl, ?_⟩) (by assumption) ?_; rotate_left
  · (intro w hSw; (try dsimp only at hSw); go_simp; try with_reducible rfl)
  try simp only [Act.put, zl, z0, z1]
  refine takeT (v := ?_) 5 rfl (by kernel_rfl) (by kernel_rfl) (by kernel_rfl) (by kernel_rfl) (fun _ _ _ h => h) (Or.inl ⟨by rfl, ?_⟩) (by assumption) ?_; rotate_left
  · (intro w hSw; (try dsimp only at hSw); go_simp; try with_reducible rfl)
  try simp only [Act.put, zl, z0, z1]
  refine takeT (v := ?_) 6 rfl (by kernel_rfl) (by kernel_rfl) (by kernel_rfl) (by kernel_rfl) (fun _ _ _ h => h) (Or.inl ⟨by rfl, ?_⟩) (by assumption) ?_; rotate_left
  · (intro w hSw; (try dsimp only at hSw); go_simp; try with_reducible rfl)
  try simp only [Act.put, zl, z0, z1]
  refine takeT (v := ?_) 7 rfl (by kernel_rfl) (by kernel_rfl) (by kernel_rfl) (by kernel_rfl) (fun _ _ _ h => h) (Or.inl ⟨by rfl, ?_⟩) (by assumption) ?_; rotate_left
  · (intro w hSw; (try dsimp only at hSw); go_simp; try with_reducible rfl)
  try simp only [Act.put, zl, z0, z1]
  refine takeT (v := ?_) 8 rfl (by kernel_rfl) (by kernel_rfl) (by kernel_rfl) (by kernel_rfl) (fun _ _ _ h => h) (Or.inl ⟨by rfl, ?_⟩) (by assumption) ?_; rotate_left
  · (intro w hSw; (try dsimp only at hSw); go_simp; try with_reducible rfl)
  try simp only [Act.put, zl, z0, z1]
  refine takeT (v := ?_) 9 rfl (by kernel_rfl) (by kernel_rfl) (by kernel_rfl) (by kernel_rfl) (fun _ _ _ h => h) (Or.inl ⟨by rfl, ?_⟩) (by assumption) ?_; rotate_left
  · (intro w hSw; (try dsimp only at hSw); go_simp; try with_reducible rfl)
  try simp only [Act.put, zl, z0, z1]
  refine takeT (v := ?_) 10 rfl (by kernel_rfl) (by kernel_rfl) (by kernel_rfl) (by kernel_rfl) (fun _ _ _ h => h) (Or.inl ⟨by rfl, ?_⟩) (by assumption) ?_; rotate_left
  · (intro w hSw; (try dsimp only at hSw); go_simp; try with_reducible rfl)
  try simp only [Act.put, zl, z0, z1]
  refine takeT (v := ?_) 11 rfl (by kernel_rfl) (by kernel_rfl) (by kernel_rfl) (by kernel_rfl) (fun _ _ _ h => h) (Or.inl ⟨by rfl, ?_⟩) (by assumption) ?_; rotate_left
  · (intro w hSw; (try dsimp only at hSw); go_simp; try with_reducible rfl)
  try simp only [Act.put, zl, z0, z1]
  refine takeT (v := ?_) 12 rfl (by kernel_rfl) (by kernel_rfl) (by kernel_rfl) (by kernel_rfl) (fun _ _ _ h => h) (Or.inl ⟨by rfl, ?_⟩) (by assumption) ?_; rotate_left
  · (intro w hSw; (try dsimp only at hSw); go_simp; try with_reducible rfl)
  try simp only [Act.put, zl, z0, z1]
  refine takeT (v := ?_) 13 rfl (by kernel_rfl) (by kernel_rfl) (by kernel_rfl) (by kernel_rfl) (fun _ _ _ h => h) (Or.inl ⟨by rfl, ?_⟩) (by assumption) ?_; rotate_left
  · (intro w hSw; (try dsimp only at hSw); go_simp; try with_reducible rfl)
  try simp only [Act.put, zl, z0, z1]
  refine takeT (v := ?_) 14 rfl (by kernel_rfl) (by kernel_rfl) (by kernel_rfl) (by kernel_rfl) (fun _ _ _ h => h) (Or.inl ⟨by rfl, ?_⟩) (by assumption) ?_; rotate_left
  · (intro w hSw; (try dsimp only at hSw); go_simp; try with_reducible rfl)
  try simp only [Act.put, zl, z0, z1]
  refine takeT (v := ?_) 15 rfl (by kernel_rfl) (by kernel_rfl) (by kernel_rfl) (by kernel_rfl) (fun _ _ _ h => h) (Or.inl ⟨by rfl, ?_⟩) (by assumption) ?_; rotate_left
  · (intro w hSw; (try dsimp only at hSw); go_simp; try with_reducible rfl)
  try simp only [Act.put, zl, z0, z1]
  refine takeT (v := ?_) 16 rfl (by kernel_rfl) (by kernel_rfl) (by kernel_rfl) (by kernel_rfl) (fun _ _ _ h => h) (Or.inl ⟨by rfl, ?_⟩) (by assumption) ?_; rotate_left
  · (intro w hSw; (try dsimp only at hSw); go_simp; try with_reducible rfl)
  try simp only [Act.put, zl, z0, z1]
  refine takeT (v := ?_) 17 rfl (by kernel_rfl) (by kernel_rfl) (by kernel_rfl) (by kernel_rfl) (fun _ _ _ h => h) (Or.inl ⟨by rfl, ?_⟩) (by assumption) ?_; rotate_left
  · (intro w hSw; (try dsimp only at hSw); go_simp; try with_reducible rfl)
  try simp only [Act.put, zl, z0, z1]
  refine takeT (v := ?_) 18 rfl (by kernel_rfl) (by kernel_rfl) (by kernel_rfl) (by kernel_rfl) (fun _ _ _ h => h) (Or.inl ⟨by rfl, ?_⟩) (by assumption) ?_; rotate_left
  · (intro w hSw; (try dsimp only at hSw); go_simp; try with_reducible rfl)
  try simp only [Act.put, zl, z0, z1]
  refine takeT (v := ?_) 20 rfl (by kernel_rfl) (by kernel_rfl) (by kernel_rfl) (by kernel_rfl) (fun _ _ _ h => h) (Or.inl ⟨by rfl, ?_⟩) (by assumption) ?_; rotate_left
  · (intro w hSw; (try dsimp only at hSw); go_simp; try with_reducible rfl)
  try simp only [Act.put, zl, z0, z1]
  refine takeT (v := ?_) 21 rfl (by kernel_rfl) (by kernel_rfl) (by kernel_rfl) (by kernel_rfl) (fun _ _ _ h => h) (Or.inl ⟨by rfl, ?_⟩) (by assumption) ?_; rotate_left
  · (intro w hSw; (try dsimp only at hSw); go_simp; try with_reducible rfl)
  try simp only [Act.put, zl, z0, z1]
  refine takeT (v := ?_) 22 rfl (by kernel_rfl) (by kernel_rfl) (by kernel_rfl) (by kernel_rfl) (fun _ _ _ h => h) (Or.inl ⟨by rfl, ?_⟩) (by assumption) ?_; rotate_left
  · (intro w hSw; (try dsimp only at hSw); go_simp; try with_reducible rfl)
  try simp only [Act.put, zl, z0, z1]
  refine takeT (v := ?_) 23 rfl (by kernel_rfl) (by kernel_rfl) (by kernel_rfl) (by kernel_rfl) (fun _ _ _ h => h) (Or.inl ⟨by rfl, ?_⟩) (by assumption) ?_; rotate_left
  · (intro w hSw; (try dsimp only at hSw); go_simp; try with_reducible rfl)
  try simp only [Act.put, zl, z0, z1]
  refine takeT (v := ?_) 24 rfl (by kernel_rfl) (by kernel_rfl) (by kernel_rfl) (by kernel_rfl) (fun _ _ _ h => h) (Or.inl ⟨by rfl, ?_⟩) (by assumption) ?_; rotate_left
  · (intro w hSw; (try dsimp only at hSw); go_simp; try with_reducible rfl)
  try simp only [Act.put, zl, z0, z1]
  refine takeT (v := ?_) 25 rfl (by kernel_rfl) (by kernel_rfl) (by kernel_rfl) (by kernel_rfl) (fun _ _ _ h => h) (Or.inl ⟨by rfl, ?_⟩) (by assumption) ?_; rotate_left
  · (intro w hSw; (try dsimp only at hSw); go_simp; try with_reducible rfl)
  try simp only [Act.put, zl, z0, z1]
  refine takeT (v := ?_) 27 rfl (by kernel_rfl) (by kernel_rfl) (by kernel_rfl) (by kernel_rfl) (fun _ _ _ h => h) (Or.inl ⟨by rfl, ?_⟩) (by assumption) ?_; rotate_left
  · (intro w hSw; (try dsimp only at hSw); go_simp; try with_reducible rfl)
  try simp only [Act.put, zl, z0, z1]
  refine takeT (v := ?_) 28 rfl (by kernel_rfl) (by kernel_rfl) (by kernel_rfl) (by kernel_rfl) (fun _ _ _ h => h) (Or.inl ⟨by rfl, ?_⟩) (by assumption) ?_; rotate_left
  · (intro w hSw; (try dsimp only at hSw); go_simp; try with_reducible rfl)
  try simp only [Act.put, zl, z0, z1]
  refine takeT (v := ?_) 29 rfl (by kernel_rfl) (by kernel_rfl) (by kernel_rfl) (by kernel_rfl) (fun _ _ _ h => h) (Or.inl ⟨by rfl, ?_⟩) (by assumption) ?_; rotate_left
  · (intro w hSw; (try dsimp only at hSw); go_simp; try with_reducible rfl)
  try simp only [Act.put, zl, z0, z1]
  refine takeT (v := ?_) 30 rfl (by kernel_rfl) (by kernel_rfl) (by kernel_rfl) (by kernel_rfl) (fun _ _ _ h => h) (Or.inl ⟨by rfl, ?_⟩) (by assumption) ?_; rotate_left
  · (intro w hSw; (try dsimp only at hSw); go_simp; try with_reducible rfl)
  try simp only [Act.put, zl, z0, z1]
  refine takeT (v := ?_) 31 rfl (by kernel_rfl) (by kernel_rfl) (by kernel_rfl) (by kernel_rfl) (fun _ _ _ h => h) (Or.inl ⟨by rfl, ?_⟩) (by assumption) ?_; rotate_left
  · (intro w hSw; (try dsimp only at hSw); go_simp; try with_reducible rfl)
  try simp only [Act.put, zl, z0, z1]
  refine takeT (v := ?_) 32 rfl (by kernel_rfl) (by kernel_rfl) (by kernel_rfl) (by kernel_rfl) (fun _ _ _ h => h) (Or.inl ⟨by rfl, ?_⟩) (by assumption) ?_; rotate_left
  · (intro w hSw; (try dsimp only at hSw); go_simp; try with_reducible rfl)
  try simp only [Act.put, zl, z0, z1]
  refine takeT (v := ?_) 33 rfl (by kernel_rfl) (by kernel_rfl) (by kernel_rfl) (by kernel_rfl) (fun _ _ _ h => h) (Or.inl ⟨by rfl, ?_⟩) (by assumption) ?_; rotate_left
  · (intro w hSw; (try dsimp only at hSw); go_simp; try with_reducible rfl)
  try simp only [Act.put, zl, z0, z1]
  refine takeT (v := ?_) 34 rfl (by kernel_rfl) (by kernel_rfl) (by kernel_rfl) (by kernel_rfl) (fun _ _ _ h => h) (Or.inl ⟨by rfl, ?_⟩) (by assumption) ?_; rotate_left
  · (intro w hSw; (try dsimp only at hSw); go_simp; try with_reducible rfl)
  try simp only [Act.put, zl, z0, z1]
  refine takeT (v := ?_) 35 rfl (by kernel_rfl) (by kernel_rfl) (by kernel_rfl) (by kernel_rfl) (fun _ _ _ h => h) (Or.inl ⟨by rfl, ?_⟩) (by assumption) ?_; rotate_left
  · (intro w hSw; (try dsimp only at hSw); go_simp; try with_reducible rfl)
  try simp only [Act.put, zl, z0, z1]
  refine takeT (v := ?_) 36 rfl (by kernel_rfl) (by kernel_rfl) (by kernel_rfl) (by kernel_rfl) (fun _ _ _ h => h) (Or.inl ⟨by rfl, ?_⟩) (by assumption) ?_; rotate_left
  · (intro w hSw; (try dsimp only at hSw); go_simp; try with_reducible rfl)
  try simp only [Act.put, zl, z0, z1]
  refine takeT (v := ?_) 37 rfl (by kernel_rfl) (by kernel_rfl) (by kernel_rfl) (by kernel_rfl) (fun _ _ _ h => h) (Or.inl ⟨by rfl, ?_⟩) (by assumption) ?_; rotate_left
  · (intro w hSw; (try dsimp only at hSw); go_simp; try with_reducible rfl)
  try simp only [Act.put, zl, z0, z1]
  refine wpAnyT_ready (rs := [19]) (by kernel_rfl) (by simp) ?_; refine consT 19 rfl (fun K hK => ?_) AllReadyT.nil; go_simp
  (go_at_call 69; refine (isTie_any (M.ofSet m.f m.won) m.games _).mono ?_; rintro e w1 ⟨rfl, hbI⟩; obtain ⟨hc, hf⟩ := bcell hbI; have hzI := hbI.size; (try simp at hzI))
  refine hK.out _ _ ?_ (fun hD1 => ?_)
  · (try dsimp only); first | (go_split_ands; (repeat' apply And.intro) <;> first | (simp; omega) | omega | (refine (hc3.out _).trans ?_; assumption) | (refine (hcx.out _).trans ?_; assumption)) | (exact kp)
  clear hK K hD0; try simp only [Act.put, zl, z0, z1]
  refine wpAnyT_ready (rs := [26]) (by kernel_rfl) (by simp) ?_; refine consT 26 rfl (fun K hK => ?_) AllReadyT.nil; go_simp
  (go_at_call 79; refine (server_any b m.opens m.log.length 0 m.f.doubles _ (by go_split_ands; assumption) (by go_split_ands; assumption) ho0 ho1 (by omega) (by have := HN.out; omega) (by omega) (by omega)).mono ?_; rintro e w2 ⟨rfl, hbS⟩; obtain ⟨hc, hf⟩ := bcell hbS; have hzS := hbS.size; (try simp at hzS))
  refine hK.out _ _ ?_ (fun hD2 => ?_)
  · (try dsimp only); first | (go_split_ands; (repeat' apply And.intro) <;> first | (simp; omega) | omega | (refine (hc3.out _).trans ?_; assumption) | (refine (hcx.out _).trans ?_; assumption)) | (exact kp)
  clear hK K hD1; try simp only [Act.put, zl, z0, z1]
  refine takeT (v := ?_) 38 rfl (by kernel_rfl) (by kernel_rfl) (by kernel_rfl) (by kernel_rfl) (fun _ _ _ h => h) (Or.inl ⟨by rfl, ?_⟩) (by assumption) ?_; rotate_left
  · (intro w hSw; (try dsimp only at hSw); go_simp; try with_reducible rfl)
  try simp only [Act.put, zl, z0, z1]
  refine wpAnyT_ready (rs := [39]) (by kernel_rfl) (by simp) ?_; refine consT 39 rfl (fun K hK => ?_) AllReadyT.nil; go_simp
  refine hK.out _ _ ?_ (fun hD3 => ?_)
  · (try dsimp only); first | (go_split_ands; (repeat' apply And.intro) <;> first | (simp; omega) | omega | (refine (hc3.out _).trans ?_; assumption) | (refine (hcx.out _).trans ?_; assumption)) | (exact kp)
  clear hK K hD2; try simp only [Act.put, zl, z0, z1]
  refine wpAnyT_ready (rs := [40]) (by kernel_rfl) (by simp) ?_; refine consT 40 rfl (fun K hK => ?_) AllReadyT.nil
  have hB2 : Below w.heap.size w w2 := (((Below.refl _ w).alloc (Nat.le_refl _) _).drew.trans (hbI.mono (by simp))).trans (hbS.mono (by omega)); have hBS2 := hB2.size; have h2 := H.out.below hB2; have h2a := h2.below ((Below.refl _ _).alloc (Nat.le_refl _) (.cells #[.int .i64 (M.gameOf m side).set, .bool (M.gameOf m side).tie, .int .i64 (M.gameOf m side).server, .int .i64 (M.gameOf m side).winner, .int .i64 (M.gameOf m side).pts.A, .int .i64 (M.gameOf m side).pts.B, .bool (M.gameOf m side).fresh] 44 (0, 0))); refine step_append_lies _ rfl (.tmp 12) (.tmp 47) 39 rfl base 44 gi _ 7 56 rfl hi hz0 hz1 hz2 (by rfl) (by decide) (.slice A m.log.length c) m.log.length (flatG m.log) rfl h2a.2.2.2 ⟨_, 0, none⟩ 1 1 (flatG [M.gameOf m side]) rfl rfl (news_G w2 (M.gameOf m side)) (flatG_one _) (by decide) (by have := HN.out; simp [maxLen]; omega) (by have := HN.out; omega) (by simp; omega) _ rfl ?_; intro g cap w3 hown3 hgrow hat hlt; have hfar := far_cells hgrow; have hne1 := row_ne h2a.2.2.2 h2a.2.1 (by decide); have hc3 := hide (fun o => hfar b o (by simp; omega) (Ne.symm hne1)); have hne2 : (Value.slice A m.log.length c).ownBlock ≠ some w.heap.size := (fun hh => by have := (H.out.2.2.2.lt _ hh).2; omega); have hcx := hide (fun o => hfar w.heap.size o (by simp; omega) (Ne.symm hne2)); clear hfar; obtain ⟨fr3, h4⟩ := pushG h2a hgrow hown3; have hz3 := hgrow.size; (try simp at hz3)
  refine hK.out _ _ ?_ (fun hD4 => ?_)
  · (try dsimp only); first | (go_split_ands; (repeat' apply And.intro) <;> first | (simp; omega) | omega | (refine (hc3.out _).trans ?_; assumption) | (refine (hcx.out _).trans ?_; assumption)) | (exact kp)
  clear hK K hD3; try simp only [Act.put, zl, z0, z1]
  refine wpAnyT_ready (rs := [41]) (by kernel_rfl) (by simp) ?_; refine consT 41 rfl (fun K hK => ?_) AllReadyT.nil; go_simp
  refine hK.out _ _ ?_ (fun hD5 => ?_)
  · (try dsimp only); first | exact hD4 | (first | (go_split_ands; (repeat' apply And.intro) <;> first | (simp; omega) | omega | (refine (hc3.out _).trans ?_; assumption) | (refine (hcx.out _).trans ?_; assumption)) | (exact kp))
  clear hK K hD4; try simp only [Act.put, zl, z0, z1]
  refine takeT (v := ?_) 42 rfl (by kernel_rfl) (by kernel_rfl) (by kernel_rfl) (by kernel_rfl) (fun _ _ _ h => h) (Or.inl ⟨by rfl, ?_⟩) (by assumption) ?_; rotate_left
  · (intro w hSw; (try dsimp only at hSw); go_simp; try with_reducible rfl)
  try simp only [Act.put, zl, z0, z1]
  refine wpAnyT_ready (rs := [43]) (by kernel_rfl) (by simp) ?_
  refine lastT rfl (fun K hK => ?_)
  (try dsimp only at hD5)
  go_simp
  refine hK.out _ _ ?_
  clear hK K
  try simp only [Act.put, zl, z0, z1]
  refine wpAnyT_done (by kernel_rfl) ?_ _
  have hbs : base ≤ w.heap.size := by omega
  have hB4 : Below base w (w3.setCell ⟨b, 23, none⟩ (.slice (some ⟨g, 0, none⟩) (m.log.length + 1) cap)) := (((hB2.mono hbs).alloc (by omega) _).grown hgrow (by simp; omega) (fun k hk => (H.out.2.2.2.lt _ hk).1)).setCell (by exact hbb) _
  have hx4 : w.heap.size < (w3.setCell ⟨b, 23, none⟩ (.slice (some ⟨g, 0, none⟩) (m.log.length + 1) cap)).heap.size := by simp; omega
  have hf4 : (w3.setCell ⟨b, 23, none⟩ (.slice (some ⟨g, 0, none⟩) (m.log.length + 1) cap)).cell? ⟨w.heap.size, 0, none⟩ = some (.int .i64 ((M.ofSet m.f m.won)).sets) ∧ (w3.setCell ⟨b, 23, none⟩ (.slice (some ⟨g, 0, none⟩) (m.log.length + 1) cap)).cell? ⟨w.heap.size, 1, none⟩ = some (.int .i64 ((M.ofSet m.f m.won)).games) ∧ (w3.setCell ⟨b, 23, none⟩ (.slice (some ⟨g, 0, none⟩) (m.log.length + 1) cap)).cell? ⟨w.heap.size, 2, none⟩ = some (.bool ((M.ofSet m.f m.won)).noAd) ∧ (w3.setCell ⟨b, 23, none⟩ (.slice (some ⟨g, 0, none⟩) (m.log.length + 1) cap)).cell? ⟨w.heap.size, 3, none⟩ = some (.int .i64 ((M.ofSet m.f m.won)).tie) ∧ (w3.setCell ⟨b, 23, none⟩ (.slice (some ⟨g, 0, none⟩) (m.log.length + 1) cap)).cell? ⟨w.heap.size, 4, none⟩ = some (.int .i64 ((M.ofSet m.f m.won)).to) ∧ (w3.setCell ⟨b, 23, none⟩ (.slice (some ⟨g, 0, none⟩) (m.log.length + 1) cap)).cell? ⟨w.heap.size, 5, none⟩ = some (.int .i64 ((M.ofSet m.f m.won)).lastTie) ∧ (w3.setCell ⟨b, 23, none⟩ (.slice (some ⟨g, 0, none⟩) (m.log.length + 1) cap)).cell? ⟨w.heap.size, 6, none⟩ = some (.int .i64 ((M.ofSet m.f m.won)).lastTo) ∧ (w3.setCell ⟨b, 23, none⟩ (.slice (some ⟨g, 0, none⟩) (m.log.length + 1) cap)).cell? ⟨w.heap.size, 7, none⟩ = some (.int .i64 ((M.ofSet m.f m.won)).first) ∧ (w3.setCell ⟨b, 23, none⟩ (.slice (some ⟨g, 0, none⟩) (m.log.length + 1) cap)).cell? ⟨w.heap.size, 8, none⟩ = some (.int .i64 ((M.ofSet m.f m.won)).next) ∧ (w3.setCell ⟨b, 23, none⟩ (.slice (some ⟨g, 0, none⟩) (m.log.length + 1) cap)).cell? ⟨w.heap.size, 9, none⟩ = some (.bool ((M.ofSet m.f m.won)).doubles) := by
    clear h4 hB4 hx4 fr3 hcx hc3 hmc0
    go_split_ands
    (repeat' apply And.intro) <;> (refine (World.cell?_setCell_far _ _ _ _ (by simp; omega)).trans ?_; assumption)
  clear hD5 hown3 hgrow hat hlt hne1 hne2 hc3 hcx fr3 hz3 h2a h2 hBS2 hmc0 fr0
  generalize (w3.setCell ⟨b, 23, none⟩ (.slice (some ⟨g, 0, none⟩) (m.log.length + 1) cap)) = w4 at h4 hB4 hx4 hf4 ⊢
  generalize (Value.slice (some ⟨g, 0, none⟩) (m.log.length + 1) cap) = gv4 at h4 ⊢
  have c4 : w4.cell? ⟨b, 0, none⟩ = some (.int .i64 m.f.sets) ∧ w4.cell? ⟨b, 1, none⟩ = some (.int .i64 m.f.games) ∧ w4.cell? ⟨b, 2, none⟩ = some (.bool m.f.noAd) ∧ w4.cell? ⟨b, 3, none⟩ = some (.int .i64 m.f.tie) ∧ w4.cell? ⟨b, 4, none⟩ = some (.int .i64 m.f.to) ∧ w4.cell? ⟨b, 5, none⟩ = some (.int .i64 m.f.lastTie) ∧ w4.cell? ⟨b, 6, none⟩ = some (.int .i64 m.f.lastTo) ∧ w4.cell? ⟨b, 7, none⟩ = some (.int .i64 m.f.first) ∧ w4.cell? ⟨b, 8, none⟩ = some (.int .i64 m.f.next) ∧ w4.cell? ⟨b, 9, none⟩ = some (.bool m.f.doubles) ∧ w4.cell? ⟨b, 10, none⟩ = some (.slice A2 m.sets.length c2) ∧ w4.cell? ⟨b, 11, none⟩ = some (.int .i64 m.games.A) ∧ w4.cell? ⟨b, 12, none⟩ = some (.int .i64 m.games.B) ∧ w4.cell? ⟨b, 13, none⟩ = some (.int .i64 m.pts.A) ∧ w4.cell? ⟨b, 14, none⟩ = some (.int .i64 m.pts.B) ∧ w4.cell? ⟨b, 15, none⟩ = some (.int .i64 m.server) ∧ w4.cell? ⟨b, 16, none⟩ = some (.int .i64 m.ends) ∧ w4.cell? ⟨b, 17, none⟩ = some (.int .i64 m.balls) ∧ w4.cell? ⟨b, 18, none⟩ = some (.int .i64 m.winner) ∧ w4.cell? ⟨b, 19, none⟩ = some (.int .i64 m.opens) ∧ w4.cell? ⟨b, 20, none⟩ = some (.int .i64 m.won.A) ∧ w4.cell? ⟨b, 21, none⟩ = some (.int .i64 m.won.B) ∧ w4.cell? ⟨b, 22, none⟩ = some (.bool m.fresh) ∧ w4.cell? ⟨b, 23, none⟩ = some (gv4) := h4.mc
  have H4 := hide h4
  have fr4 := h4.fr
  have hl4 := h4.lt
  clear h4
  go_wp2_with fail
  refine wp_region_held_drew (S := (fun w' => w.heap.size < w'.heap.size ∧ w'.cell? ⟨b, 0, none⟩ = some (.int .i64 m.f.sets) ∧ w'.cell? ⟨b, 1, none⟩ = some (.int .i64 m.f.games) ∧ w'.cell? ⟨b, 2, none⟩ = some (.bool m.f.noAd) ∧ w'.cell? ⟨b, 3, none⟩ = some (.int .i64 m.f.tie) ∧ w'.cell? ⟨b, 4, none⟩ = some (.int .i64 m.f.to) ∧ w'.cell? ⟨b, 5, none⟩ = some (.int .i64 m.f.lastTie) ∧ w'.cell? ⟨b, 6, none⟩ = some (.int .i64 m.f.lastTo) ∧ w'.cell? ⟨b, 7, none⟩ = some (.int .i64 m.f.first) ∧ w'.cell? ⟨b, 8, none⟩ = some (.int .i64 m.f.next) ∧ w'.cell? ⟨b, 9, none⟩ = some (.bool m.f.doubles) ∧ w'.cell? ⟨b, 10, none⟩ = some (.slice A2 m.sets.length c2) ∧ w'.cell? ⟨b, 11, none⟩ = some (.int .i64 m.games.A) ∧ w'.cell? ⟨b, 12, none⟩ = some (.int .i64 m.games.B) ∧ w'.cell? ⟨b, 13, none⟩ = some (.int .i64 m.pts.A) ∧ w'.cell? ⟨b, 14, none⟩ = some (.int .i64 m.pts.B) ∧ w'.cell? ⟨b, 15, none⟩ = some (.int .i64 m.server) ∧ w'.cell? ⟨b, 16, none⟩ = some (.int .i64 m.ends) ∧ w'.cell? ⟨b, 17, none⟩ = some (.int .i64 m.balls) ∧ w'.cell? ⟨b, 18, none⟩ = some (.int .i64 m.winner) ∧ w'.cell? ⟨b, 19, none⟩ = some (.int .i64 m.opens) ∧ w'.cell? ⟨b, 20, none⟩ = some (.int .i64 m.won.A) ∧ w'.cell? ⟨b, 21, none⟩ = some (.int .i64 m.won.B) ∧ w'.cell? ⟨b, 22, none⟩ = some (.bool m.fresh) ∧ w'.cell? ⟨b, 23, none⟩ = some (gv4) ∧ w'.cell? ⟨w.heap.size, 0, none⟩ = some (.int .i64 ((M.ofSet m.f m.won)).sets) ∧ w'.cell? ⟨w.heap.size, 1, none⟩ = some (.int .i64 ((M.ofSet m.f m.won)).games) ∧ w'.cell? ⟨w.heap.size, 2, none⟩ = some (.bool ((M.ofSet m.f m.won)).noAd) ∧ w'.cell? ⟨w.heap.size, 3, none⟩ = some (.int .i64 ((M.ofSet m.f m.won)).tie) ∧ w'.cell? ⟨w.heap.size, 4, none⟩ = some (.int .i64 ((M.ofSet m.f m.won)).to) ∧ w'.cell? ⟨w.heap.size, 5, none⟩ = some (.int .i64 ((M.ofSet m.f m.won)).lastTie) ∧ w'.cell? ⟨w.heap.size, 6, none⟩ = some (.int .i64 ((M.ofSet m.f m.won)).lastTo) ∧ w'.cell? ⟨w.heap.size, 7, none⟩ = some (.int .i64 ((M.ofSet m.f m.won)).first) ∧ w'.cell? ⟨w.heap.size, 8, none⟩ = some (.int .i64 ((M.ofSet m.f m.won)).next) ∧ w'.cell? ⟨w.heap.size, 9, none⟩ = some (.bool ((M.ofSet m.f m.won)).doubles))) (by kernel_rfl) ?_ (fun hD0 => ?_)
  · (try dsimp only); (exact kp)
  refine tW ?_ 0 rfl (by kernel_rfl) (fun _ _ _ h => h) (by rfl) (by assumption) ?_ ?_; rotate_left; (focus (intro w hSw; (try dsimp only at hSw); go_simp; try with_reducible rfl)); try simp only [Act.put, zl, z0, z1]
  refine tW ?_ 1 rfl (by kernel_rfl) (fun _ _ _ h => h) (by rfl) (by assumption) ?_ ?_; rotate_left; (focus (intro w hSw; (try dsimp only at hSw); go_simp; try with_reducible rfl)); try simp only [Act.put, zl, z0, z1]
  refine tW ?_ 2 rfl (by kernel_rfl) (fun _ _ _ h => h) (by rfl) (by assumption) ?_ ?_; rotate_left; (focus (intro w hSw; (try dsimp only at hSw); go_simp; try with_reducible rfl)); try simp only [Act.put, zl, z0, z1]
  refine tW ?_ 3 rfl (by kernel_rfl) (fun _ _ _ h => h) (by rfl) (by assumption) ?_ ?_; rotate_left; (focus (intro w hSw; (try dsimp only at hSw); go_simp; try with_reducible rfl)); try simp only [Act.put, zl, z0, z1]
  refine tW ?_ 4 rfl (by kernel_rfl) (fun _ _ _ h => h) (by rfl) (by assumption) ?_ ?_; rotate_left; (focus (intro w hSw; (try dsimp only at hSw); go_simp; try with_reducible rfl)); try simp only [Act.put, zl, z0, z1]
  refine tW ?_ 5 rfl (by kernel_rfl) (fun _ _ _ h => h) (by rfl) (by assumption) ?_ ?_; rotate_left; (focus (intro w hSw; (try dsimp only at hSw); go_simp; try with_reducible rfl)); try simp only [Act.put, zl, z0, z1]
  refine tW ?_ 6 rfl (by kernel_rfl) (fun _ _ _ h => h) (by rfl) (by assumption) ?_ ?_; rotate_left; (focus (intro w hSw; (try dsimp only at hSw); go_simp; try with_reducible rfl)); try simp only [Act.put, zl, z0, z1]
  refine tW ?_ 7 rfl (by kernel_rfl) (fun _ _ _ h => h) (by rfl) (by assumption) ?_ ?_; rotate_left; (focus (intro w hSw; (try dsimp only at hSw); go_simp; try with_reducible rfl)); try simp only [Act.put, zl, z0, z1]
  refine wpAnyH_ready (rs := [8]) (by kernel_rfl) (by simp) ?_; refine consL 8 rfl (fun K hK => ?_) AllReadyH.nil; go_simp
  (go_at_call 74; refine (endsSet_any (M.ofSet m.f m.won) m.games side _ HSM.out.1 HSM.out.2).mono ?_; rintro e w5 ⟨rfl, hbE⟩; obtain ⟨hc, hf⟩ := bcell hbE; have hzE := hbE.size; (try simp at hzE))
  refine hK.out _ _ ?_ (fun hD1 => ?_)
  · (try dsimp only); (exact kp)
  clear hK K hD0; try simp only [Act.put, zl, z0, z1]
  refine tW ?_ 9 rfl (by kernel_rfl) (fun _ _ _ h => h) (by rfl) (by assumption) ?_ ?_; rotate_left; (focus (intro w hSw; (try dsimp only at hSw); go_simp; try with_reducible rfl)); try simp only [Act.put, zl, z0, z1]
  refine wpAnyH_done (by kernel_rfl) ?_ _
  have h5 := (H4.out.drew).below hbE
  have hB5 : Below base w w5 := hB4.drew.trans (hbE.mono (by simp; omega))
  have H5 := hide h5
  have c5 := h5.mc
  dsimp only at c5
  have fr5 := h5.fr
  have hl5 := h5.lt
  clear h5 c4 fr4 hf4 hD1
  obtain ⟨nf, nl, no, nb, ne⟩ := endSet_parts m side
  obtain ⟨n, hnE⟩ : ∃ n, M.endSet m side = n := ⟨_, rfl⟩
  have HE := hide (endGame_of hnE)
  rw [hnE] at nf nl no nb ne
  rw [← nf] at HE
  have HNF := hide nf
  have HNL := hide nl
  have HNO := hide no
  have HNB := hide nb
  have HNN := hide ne
  clear nf nl no nb ne
  have HNE := hide hnE
  clear hnE
  cases hset : M.endsSet (M.ofSet m.f m.won) m.games side
  case' false =>
    go_wp2_with (first | (go_at_call 57; refine (plus_any m.games side _ HSM.out.1).mono ?_; rintro e w6 ⟨rfl, hb6⟩; have h6 := H5.out.below hb6; have c6 := h6.mc; (dsimp only at c6); have fr6 := h6.fr; have hl6 := h6.lt; have hz6 := hb6.size; have hn6 : ¬ w6.heap.size = b := (by omega); have hn6' : ¬ b = w6.heap.size := (by omega); have H6 := hide h6; clear c5 fr5 h6))
    have hs1 : MAt _ base b { m with log := m.log ++ [M.gameOf m side], games := ⟨(M.plus m.games side).A, m.games.B⟩ } (.slice A2 m.sets.length c2) gv4 := H6.out.set 11 (.int .i64 (M.plus m.games side).A) rfl rfl rfl
    have hs2 : MAt _ base b { m with log := m.log ++ [M.gameOf m side], games := M.plus m.games side } (.slice A2 m.sets.length c2) gv4 := hs1.set 12 (.int .i64 (M.plus m.games side).B) rfl rfl rfl
    have hs3 : MAt _ base b { m with log := m.log ++ [M.gameOf m side], games := M.plus m.games side, pts := ⟨0, m.pts.B⟩ } (.slice A2 m.sets.length c2) gv4 := hs2.set 13 (.int .i64 0) rfl rfl rfl
    have hs4 : MAt _ base b { m with log := m.log ++ [M.gameOf m side], games := M.plus m.games side, pts := M.zero } (.slice A2 m.sets.length c2) gv4 := hs3.set 14 (.int .i64 0) rfl rfl rfl
    have h7 : MAt (((((w6.setCell ⟨b, 11, none⟩ (.int .i64 (M.plus m.games side).A)).setCell ⟨b, 12, none⟩ (.int .i64 (M.plus m.games side).B)).setCell ⟨b, 13, none⟩ (.int .i64 0)).setCell ⟨b, 14, none⟩ (.int .i64 0)).alloc (.cells #[.int .i64 (M.plus m.games side).A, .int .i64 (M.plus m.games side).B] 32 (0, 0))) base b { m with log := m.log ++ [M.gameOf m side], games := M.plus m.games side, pts := M.zero } (.slice A2 m.sets.length c2) gv4 := hs4.below ((Below.refl _ _).alloc (Nat.le_refl _) _)
    have hB7 : Below base w (((((w6.setCell ⟨b, 11, none⟩ (.int .i64 (M.plus m.games side).A)).setCell ⟨b, 12, none⟩ (.int .i64 (M.plus m.games side).B)).setCell ⟨b, 13, none⟩ (.int .i64 0)).setCell ⟨b, 14, none⟩ (.int .i64 0)).alloc (.cells #[.int .i64 (M.plus m.games side).A, .int .i64 (M.plus m.games side).B] 32 (0, 0))) := (((((hB5.trans (hb6.mono (by omega))).setCell (by exact hbb) _).setCell (by exact hbb) _).setCell (by exact hbb) _).setCell (by exact hbb) _).alloc (by simp; omega) _
    have hq7 : w6.heap.size < (((((w6.setCell ⟨b, 11, none⟩ (.int .i64 (M.plus m.games side).A)).setCell ⟨b, 12, none⟩ (.int .i64 (M.plus m.games side).B)).setCell ⟨b, 13, none⟩ (.int .i64 0)).setCell ⟨b, 14, none⟩ (.int .i64 0)).alloc (.cells #[.int .i64 (M.plus m.games side).A, .int .i64 (M.plus m.games side).B] 32 (0, 0))).heap.size := by simp
    have p0 : (((((w6.setCell ⟨b, 11, none⟩ (.int .i64 (M.plus m.games side).A)).setCell ⟨b, 12, none⟩ (.int .i64 (M.plus m.games side).B)).setCell ⟨b, 13, none⟩ (.int .i64 0)).setCell ⟨b, 14, none⟩ (.int .i64 0)).alloc (.cells #[.int .i64 (M.plus m.games side).A, .int .i64 (M.plus m.games side).B] 32 (0, 0))).cell? ⟨w6.heap.size, 0, none⟩ = some (.int .i64 (M.plus m.games side).A) := (alloc_cell _ _ (by simp) _ _ 0).trans rfl
    have p1 : (((((w6.setCell ⟨b, 11, none⟩ (.int .i64 (M.plus m.games side).A)).setCell ⟨b, 12, none⟩ (.int .i64 (M.plus m.games side).B)).setCell ⟨b, 13, none⟩ (.int .i64 0)).setCell ⟨b, 14, none⟩ (.int .i64 0)).alloc (.cells #[.int .i64 (M.plus m.games side).A, .int .i64 (M.plus m.games side).B] 32 (0, 0))).cell? ⟨w6.heap.size, 1, none⟩ = some (.int .i64 (M.plus m.games side).B) := (alloc_cell _ _ (by simp) _ _ 1).trans rfl
    clear hs1 hs2 hs3 hs4 c6 fr6 H6
    have e : { m with log := m.log ++ [M.gameOf m side], games := M.plus m.games side, pts := M.zero } = n := by rw [← HNE.out]; unfold M.endSet; rw [hset]; rfl
    rw [e] at h7
    generalize (((((w6.setCell ⟨b, 11, none⟩ (.int .i64 (M.plus m.games side).A)).setCell ⟨b, 12, none⟩ (.int .i64 (M.plus m.games side).B)).setCell ⟨b, 13, none⟩ (.int .i64 0)).setCell ⟨b, 14, none⟩ (.int .i64 0)).alloc (.cells #[.int .i64 (M.plus m.games side).A, .int .i64 (M.plus m.games side).B] 32 (0, 0))) = w7 at h7 hB7 hq7 p0 p1 ⊢
    generalize (Value.slice A2 m.sets.length c2) = sv7 at h7 ⊢
    have H7 := hide h7
    clear h7 e
  case' true =>
    go_wp2_with (first | (go_at_call 57; refine (plus_any m.games side _ HSM.out.1).mono ?_; rintro e w6 ⟨rfl, hb6⟩; have h6 := H5.out.below hb6; have c6 := h6.mc; (dsimp only at c6); have fr6 := h6.fr; have hl6 := h6.lt; have hz6 := hb6.size; have hn6 : ¬ w6.heap.size = b := (by omega); have hn6' : ¬ b = w6.heap.size := (by omega); have H6 := hide h6; clear c5 fr5 h6))
    have hs1 : MAt _ base b { m with log := m.log ++ [M.gameOf m side], games := ⟨(M.plus m.games side).A, m.games.B⟩ } (.slice A2 m.sets.length c2) gv4 := H6.out.set 11 (.int .i64 (M.plus m.games side).A) rfl rfl rfl
    have hs2 : MAt _ base b { m with log := m.log ++ [M.gameOf m side], games := M.plus m.games side } (.slice A2 m.sets.length c2) gv4 := hs1.set 12 (.int .i64 (M.plus m.games side).B) rfl rfl rfl
    have hs3 : MAt _ base b { m with log := m.log ++ [M.gameOf m side], games := M.plus m.games side, pts := ⟨0, m.pts.B⟩ } (.slice A2 m.sets.length c2) gv4 := hs2.set 13 (.int .i64 0) rfl rfl rfl
    have hs4 : MAt _ base b { m with log := m.log ++ [M.gameOf m side], games := M.plus m.games side, pts := M.zero } (.slice A2 m.sets.length c2) gv4 := hs3.set 14 (.int .i64 0) rfl rfl rfl
    have h7 : MAt (((((w6.setCell ⟨b, 11, none⟩ (.int .i64 (M.plus m.games side).A)).setCell ⟨b, 12, none⟩ (.int .i64 (M.plus m.games side).B)).setCell ⟨b, 13, none⟩ (.int .i64 0)).setCell ⟨b, 14, none⟩ (.int .i64 0)).alloc (.cells #[.int .i64 (M.plus m.games side).A, .int .i64 (M.plus m.games side).B] 32 (0, 0))) base b { m with log := m.log ++ [M.gameOf m side], games := M.plus m.games side, pts := M.zero } (.slice A2 m.sets.length c2) gv4 := hs4.below ((Below.refl _ _).alloc (Nat.le_refl _) _)
    have hB7 : Below base w (((((w6.setCell ⟨b, 11, none⟩ (.int .i64 (M.plus m.games side).A)).setCell ⟨b, 12, none⟩ (.int .i64 (M.plus m.games side).B)).setCell ⟨b, 13, none⟩ (.int .i64 0)).setCell ⟨b, 14, none⟩ (.int .i64 0)).alloc (.cells #[.int .i64 (M.plus m.games side).A, .int .i64 (M.plus m.games side).B] 32 (0, 0))) := (((((hB5.trans (hb6.mono (by omega))).setCell (by exact hbb) _).setCell (by exact hbb) _).setCell (by exact hbb) _).setCell (by exact hbb) _).alloc (by simp; omega) _
    have hq7 : w6.heap.size < (((((w6.setCell ⟨b, 11, none⟩ (.int .i64 (M.plus m.games side).A)).setCell ⟨b, 12, none⟩ (.int .i64 (M.plus m.games side).B)).setCell ⟨b, 13, none⟩ (.int .i64 0)).setCell ⟨b, 14, none⟩ (.int .i64 0)).alloc (.cells #[.int .i64 (M.plus m.games side).A, .int .i64 (M.plus m.games side).B] 32 (0, 0))).heap.size := by simp
    have p0 : (((((w6.setCell ⟨b, 11, none⟩ (.int .i64 (M.plus m.games side).A)).setCell ⟨b, 12, none⟩ (.int .i64 (M.plus m.games side).B)).setCell ⟨b, 13, none⟩ (.int .i64 0)).setCell ⟨b, 14, none⟩ (.int .i64 0)).alloc (.cells #[.int .i64 (M.plus m.games side).A, .int .i64 (M.plus m.games side).B] 32 (0, 0))).cell? ⟨w6.heap.size, 0, none⟩ = some (.int .i64 (M.plus m.games side).A) := (alloc_cell _ _ (by simp) _ _ 0).trans rfl
    have p1 : (((((w6.setCell ⟨b, 11, none⟩ (.int .i64 (M.plus m.games side).A)).setCell ⟨b, 12, none⟩ (.int .i64 (M.plus m.games side).B)).setCell ⟨b, 13, none⟩ (.int .i64 0)).setCell ⟨b, 14, none⟩ (.int .i64 0)).alloc (.cells #[.int .i64 (M.plus m.games side).A, .int .i64 (M.plus m.games side).B] 32 (0, 0))).cell? ⟨w6.heap.size, 1, none⟩ = some (.int .i64 (M.plus m.games side).B) := (alloc_cell _ _ (by simp) _ _ 1).trans rfl
    clear hs1 hs2 hs3 hs4 c6 fr6 H6
    generalize (((((w6.setCell ⟨b, 11, none⟩ (.int .i64 (M.plus m.games side).A)).setCell ⟨b, 12, none⟩ (.int .i64 (M.plus m.games side).B)).setCell ⟨b, 13, none⟩ (.int .i64 0)).setCell ⟨b, 14, none⟩ (.int .i64 0)).alloc (.cells #[.int .i64 (M.plus m.games side).A, .int .i64 (M.plus m.games side).B] 32 (0, 0))) = w6b at h7 hB7 hq7 p0 p1 ⊢
    have H7a := hide h7
    have hl7 := h7.lt
    clear h7
    have c7 := H7a.out.mc
    dsimp only at c7
    refine wp_region_T_drew (S := (fun w' => w6.heap.size < w'.heap.size ∧ w'.cell? ⟨w6.heap.size, 0, none⟩ = some (.int .i64 (M.plus m.games side).A) ∧ w'.cell? ⟨w6.heap.size, 1, none⟩ = some (.int .i64 (M.plus m.games side).B) ∧ w'.cell? ⟨b, 0, none⟩ = some (.int .i64 ({ m with games := M.plus m.games side, pts := M.zero }).f.sets) ∧ w'.cell? ⟨b, 1, none⟩ = some (.int .i64 ({ m with games := M.plus m.games side, pts := M.zero }).f.games) ∧ w'.cell? ⟨b, 2, none⟩ = some (.bool ({ m with games := M.plus m.games side, pts := M.zero }).f.noAd) ∧ w'.cell? ⟨b, 3, none⟩ = some (.int .i64 ({ m with games := M.plus m.games side, pts := M.zero }).f.tie) ∧ w'.cell? ⟨b, 4, none⟩ = some (.int .i64 ({ m with games := M.plus m.games side, pts := M.zero }).f.to) ∧ w'.cell? ⟨b, 5, none⟩ = some (.int .i64 ({ m with games := M.plus m.games side, pts := M.zero }).f.lastTie) ∧ w'.cell? ⟨b, 6, none⟩ = some (.int .i64 ({ m with games := M.plus m.games side, pts := M.zero }).f.lastTo) ∧ w'.cell? ⟨b, 7, none⟩ = some (.int .i64 ({ m with games := M.plus m.games side, pts := M.zero }).f.first) ∧ w'.cell? ⟨b, 8, none⟩ = some (.int .i64 ({ m with games := M.plus m.games side, pts := M.zero }).f.next) ∧ w'.cell? ⟨b, 9, none⟩ = some (.bool ({ m with games := M.plus m.games side, pts := M.zero }).f.doubles) ∧ w'.cell? ⟨b, 10, none⟩ = some (.slice A2 m.sets.length c2) ∧ w'.cell? ⟨b, 11, none⟩ = some (.int .i64 ({ m with games := M.plus m.games side, pts := M.zero }).games.A) ∧ w'.cell? ⟨b, 12, none⟩ = some (.int .i64 ({ m with games := M.plus m.games side, pts := M.zero }).games.B) ∧ w'.cell? ⟨b, 13, none⟩ = some (.int .i64 ({ m with games := M.plus m.games side, pts := M.zero }).pts.A) ∧ w'.cell? ⟨b, 14, none⟩ = some (.int .i64 ({ m with games := M.plus m.games side, pts := M.zero }).pts.B) ∧ w'.cell? ⟨b, 15, none⟩ = some (.int .i64 ({ m with games := M.plus m.games side, pts := M.zero }).server) ∧ w'.cell? ⟨b, 16, none⟩ = some (.int .i64 ({ m with games := M.plus m.games side, pts := M.zero }).ends) ∧ w'.cell? ⟨b, 17, none⟩ = some (.int .i64 ({ m with games := M.plus m.games side, pts := M.zero }).balls) ∧ w'.cell? ⟨b, 18, none⟩ = some (.int .i64 ({ m with games := M.plus m.games side, pts := M.zero }).winner) ∧ w'.cell? ⟨b, 19, none⟩ = some (.int .i64 ({ m with games := M.plus m.games side, pts := M.zero }).opens) ∧ w'.cell? ⟨b, 20, none⟩ = some (.int .i64 ({ m with games := M.plus m.games side, pts := M.zero }).won.A) ∧ w'.cell? ⟨b, 21, none⟩ = some (.int .i64 ({ m with games := M.plus m.games side, pts := M.zero }).won.B) ∧ w'.cell? ⟨b, 22, none⟩ = some (.bool ({ m with games := M.plus m.games side, pts := M.zero }).fresh) ∧ w'.cell? ⟨b, 23, none⟩ = some (gv4))) 14 (by kernel_rfl) ?_ (fun hD0 => ?_)
    · (try dsimp only); first | (go_split_ands; (repeat' apply And.intro) <;> first | (simp; omega) | omega | (refine (hc3.out _).trans ?_; assumption) | (refine (hcx.out _).trans ?_; assumption)) | (exact kp)
    refine takeT (v := ?_) 0 rfl (by kernel_rfl) (by kernel_rfl) (by kernel_rfl) (by kernel_rfl) (fun _ _ _ h => h) (Or.inl ⟨by rfl, ?_⟩) (by assumption) ?_; rotate_left
    · (intro w hSw; (try dsimp only at hSw); go_simp; try with_reducible rfl)
    try simp only [Act.put, zl, z0, z1]
    refine takeT (v := ?_) 1 rfl (by kernel_rfl) (by kernel_rfl) (by kernel_rfl) (by kernel_rfl) (fun _ _ _ h => h) (Or.inl ⟨by rfl, ?_⟩) (by assumption) ?_; rotate_left
    · (intro w hSw; (try dsimp only at hSw); go_simp; try with_reducible rfl)
    try simp only [Act.put, zl, z0, z1]
    refine takeT (v := ?_) 2 rfl (by kernel_rfl) (by kernel_rfl) (by kernel_rfl) (by kernel_rfl) (fun _ _ _ h => h) (Or.inl ⟨by rfl, ?_⟩) (by assumption) ?_; rotate_left
    · (intro w hSw; (try dsimp only at hSw); go_simp; try with_reducible rfl)
    try simp only [Act.put, zl, z0, z1]
    refine takeT (v := ?_) 3 rfl (by kernel_rfl) (by kernel_rfl) (by kernel_rfl) (by kernel_rfl) (fun _ _ _ h => h) (Or.inl ⟨by rfl, ?_⟩) (by assumption) ?_; rotate_left
    · (intro w hSw; (try dsimp only at hSw); go_simp; try with_reducible rfl)
    try simp only [Act.put, zl, z0, z1]
    refine takeT (v := ?_) 4 rfl (by kernel_rfl) (by kernel_rfl) (by kernel_rfl) (by kernel_rfl) (fun _ _ _ h => h) (Or.inl ⟨by rfl, ?_⟩) (by assumption) ?_; rotate_left
    · (intro w hSw; (try dsimp only at hSw); go_simp; try with_reducible rfl)
    try simp only [Act.put, zl, z0, z1]
    refine takeT (v := ?_) 5 rfl (by kernel_rfl) (by kernel_rfl) (by kernel_rfl) (by kernel_rfl) (fun _ _ _ h => h) (Or.inl ⟨by rfl, ?_⟩) (by assumption) ?_; rotate_left
    · (intro w hSw; (try dsimp only at hSw); go_simp; try with_reducible rfl)
    try simp only [Act.put, zl, z0, z1]
    refine takeT (v := ?_) 6 rfl (by kernel_rfl) (by kernel_rfl) (by kernel_rfl) (by kernel_rfl) (fun _ _ _ h => h) (Or.inl ⟨by rfl, ?_⟩) (by assumption) ?_; rotate_left
    · (intro w hSw; (try dsimp only at hSw); go_simp; try with_reducible rfl)
    try simp only [Act.put, zl, z0, z1]
    refine takeT (v := ?_) 7 rfl (by kernel_rfl) (by kernel_rfl) (by kernel_rfl) (by kernel_rfl) (fun _ _ _ h => h) (Or.inl ⟨by rfl, ?_⟩) (by assumption) ?_; rotate_left
    · (intro w hSw; (try dsimp only at hSw); go_simp; try with_reducible rfl)
    try simp only [Act.put, zl, z0, z1]
    refine wpAnyT_ready (rs := [8]) (by kernel_rfl) (by simp) ?_; refine consT 8 rfl (fun K hK => ?_) AllReadyT.nil; go_simp
    refine hK.out _ _ ?_ (fun hD1 => ?_)
    · (try dsimp only); first | (go_split_ands; (repeat' apply And.intro) <;> first | (simp; omega) | omega | (refine (hc3.out _).trans ?_; assumption) | (refine (hcx.out _).trans ?_; assumption)) | (exact kp)
    clear hK K hD0; try simp only [Act.put, zl, z0, z1]
    refine wpAnyT_ready (rs := [9]) (by kernel_rfl) (by simp) ?_; refine consT 9 rfl (fun K hK => ?_) AllReadyT.nil
    have h2a := H7a.out.drew.below ((Below.refl _ _).alloc (Nat.le_refl _) (.cells #[.int .i64 (M.plus m.games side).A, .int .i64 (M.plus m.games side).B] 32 (0, 0))); refine step_append_lies _ rfl (.tmp 87) (.tmp 89) 30 rfl base 32 gp _ 2 16 rfl hpi hpz0 hpz1 hpz2 (by rfl) (by decide) (.slice A2 m.sets.length c2) m.sets.length (flatP m.sets) rfl h2a.2.2.1 ⟨_, 0, none⟩ 1 1 (flatP [M.plus m.games side]) rfl rfl (news_P w6b.drew (M.plus m.games side)) (flatP_one _) (by decide) (by have := HSE.out; simp [maxLen]; omega) (by have := HSE.out; omega) (by simp; omega) _ rfl ?_; intro g2 cap2 w8 hown8 hgrow8 hat8 hlt8; have hfar := far_cells hgrow8; have hne1 := row_ne h2a.2.2.1 h2a.2.1 (by decide); have hc3 := hide (fun o => hfar b o (by simp; omega) (Ne.symm hne1)); have hne2 : (Value.slice A2 m.sets.length c2).ownBlock ≠ some w6.heap.size := (fun hh => by have h0 := H.out.2.2.1.lt _ hh; omega); have hcx := hide (fun o => hfar w6.heap.size o (by simp; omega) (Ne.symm hne2)); clear hfar; obtain ⟨fr8, h8⟩ := pushP h2a hgrow8 hown8; have hz8 := hgrow8.size; (try simp at hz8)
    refine hK.out _ _ ?_ (fun hD2 => ?_)
    · (try dsimp only); first | (go_split_ands; (repeat' apply And.intro) <;> first | (simp; omega) | omega | (refine (hc3.out _).trans ?_; assumption) | (refine (hcx.out _).trans ?_; assumption)) | (exact kp)
    clear hK K hD1; try simp only [Act.put, zl, z0, z1]
    refine wpAnyT_ready (rs := [10]) (by kernel_rfl) (by simp) ?_; refine consT 10 rfl (fun K hK => ?_) AllReadyT.nil; go_simp
    refine hK.out _ _ ?_ (fun hD3 => ?_)
    · (try dsimp only); first | exact hD2 | (first | (go_split_ands; (repeat' apply And.intro) <;> first | (simp; omega) | omega | (refine (hc3.out _).trans ?_; assumption) | (refine (hcx.out _).trans ?_; assumption)) | (exact kp))
    clear hK K hD2; try simp only [Act.put, zl, z0, z1]
    refine wpAnyT_ready (rs := [11]) (by kernel_rfl) (by simp) ?_; refine consT 11 rfl (fun K hK => ?_) AllReadyT.nil; go_simp
    refine hK.out _ _ ?_ (fun hD4 => ?_)
    · (try dsimp only); first | exact hD3 | (first | (go_split_ands; (repeat' apply And.intro) <;> first | (simp; omega) | omega | (refine (hc3.out _).trans ?_; assumption) | (refine (hcx.out _).trans ?_; assumption)) | (exact kp))
    clear hK K hD3; try simp only [Act.put, zl, z0, z1]
    refine wpAnyT_ready (rs := [12]) (by kernel_rfl) (by simp) ?_; refine consT 12 rfl (fun K hK => ?_) AllReadyT.nil; go_simp
    refine hK.out _ _ ?_ (fun hD5 => ?_)
    · (try dsimp only); first | exact hD4 | (first | (go_split_ands; (repeat' apply And.intro) <;> first | (simp; omega) | omega | (refine (hc3.out _).trans ?_; assumption) | (refine (hcx.out _).trans ?_; assumption)) | (exact kp))
    clear hK K hD4; try simp only [Act.put, zl, z0, z1]
    refine takeT (v := ?_) 13 rfl (by kernel_rfl) (by kernel_rfl) (by kernel_rfl) (by kernel_rfl) (fun _ _ _ h => h) (Or.inl ⟨by rfl, ?_⟩) (by assumption) ?_; rotate_left
    · (intro w hSw; (try dsimp only at hSw); go_simp; try with_reducible rfl)
    try simp only [Act.put, zl, z0, z1]
    refine wpAnyT_ready (rs := [14]) (by kernel_rfl) (by simp) ?_
    refine lastT rfl (fun K hK => ?_)
    (try dsimp only at hD5)
    go_simp
    refine hK.out _ _ ?_
    clear hK K
    try simp only [Act.put, zl, z0, z1]
    refine wpAnyT_done (by kernel_rfl) ?_ _
    have hB8 : Below base w (w8.setCell ⟨b, 10, none⟩ (.slice (some ⟨g2, 0, none⟩) (m.sets.length + 1) cap2)) := ((hB7.drew.alloc (by simp; omega) _).grown hgrow8 (by simp; omega) (fun k hk => (H.out.2.2.1.lt _ hk).1)).setCell (by exact hbb) _
    have q8 : (w8.setCell ⟨b, 10, none⟩ (.slice (some ⟨g2, 0, none⟩) (m.sets.length + 1) cap2)).cell? ⟨w6.heap.size, 0, none⟩ = some (.int .i64 (M.plus m.games side).A) := (World.cell?_setCell_far _ _ _ _ (by simp; omega)).trans hD5.2.1
    have q9 : (w8.setCell ⟨b, 10, none⟩ (.slice (some ⟨g2, 0, none⟩) (m.sets.length + 1) cap2)).cell? ⟨w6.heap.size, 1, none⟩ = some (.int .i64 (M.plus m.games side).B) := (World.cell?_setCell_far _ _ _ _ (by simp; omega)).trans hD5.2.2.1
    have hq8 : w6.heap.size < (w8.setCell ⟨b, 10, none⟩ (.slice (some ⟨g2, 0, none⟩) (m.sets.length + 1) cap2)).heap.size := by simp; omega
    clear hD5 hown8 hgrow8 hat8 hlt8 hne1 hne2 hc3 hcx fr8 hz8 h2a c7 hB7 hq7 p0 p1
    generalize (w8.setCell ⟨b, 10, none⟩ (.slice (some ⟨g2, 0, none⟩) (m.sets.length + 1) cap2)) = w9 at h8 hB8 q8 q9 hq8 ⊢
    generalize (Value.slice (some ⟨g2, 0, none⟩) (m.sets.length + 1) cap2) = sv7 at h8 ⊢
    have H8 := hide h8
    have c8 := h8.mc
    dsimp only at c8
    have fr8 := h8.fr
    have hl8 := h8.lt
    clear h8
    go_wp2_with (first | (go_at_call 57; refine (plus_any m.won side _ HWON.out).mono ?_; rintro e w10 ⟨rfl, hb10⟩; have hz10 := hb10.size; (try simp at hz10); have k1 : MAt _ base b { m with log := m.log ++ [M.gameOf m side], sets := m.sets ++ [M.plus m.games side], games := ⟨0, (M.plus m.games side).B⟩, pts := M.zero } sv7 gv4 := H8.out.set 11 (.int .i64 0) rfl rfl rfl; have k2 : MAt _ base b { m with log := m.log ++ [M.gameOf m side], sets := m.sets ++ [M.plus m.games side], games := M.zero, pts := M.zero } sv7 gv4 := k1.set 12 (.int .i64 0) rfl rfl rfl; have h10 := k2.below hb10; have c10 := h10.mc; (dsimp only at c10); have fr10 := h10.fr; have hl10 := h10.lt; have H10 := hide h10; have q10 := (hb10.cell (p := ⟨w6.heap.size, 0, none⟩) (by simp; omega)).trans ((World.cell?_setCell_far _ _ _ _ (by simp; omega)).trans ((World.cell?_setCell_far _ _ _ _ (by simp; omega)).trans q8)); have q11 := (hb10.cell (p := ⟨w6.heap.size, 1, none⟩) (by simp; omega)).trans ((World.cell?_setCell_far _ _ _ _ (by simp; omega)).trans ((World.cell?_setCell_far _ _ _ _ (by simp; omega)).trans q9)); have hB10 := ((hB8.setCell (p := ⟨b, 11, none⟩) (by exact hbb) (.int .i64 0)).setCell (p := ⟨b, 12, none⟩) (by exact hbb) (.int .i64 0)).trans (hb10.mono (by simp; omega)); clear k1 k2 h10 c8 fr8 q8 q9))
    have k3 : MAt _ base b { m with log := m.log ++ [M.gameOf m side], sets := m.sets ++ [M.plus m.games side], games := M.zero, pts := M.zero, won := ⟨(M.plus m.won side).A, m.won.B⟩ } sv7 gv4 := H10.out.set 20 (.int .i64 (M.plus m.won side).A) rfl rfl rfl
    have h7 : MAt _ base b { m with log := m.log ++ [M.gameOf m side], sets := m.sets ++ [M.plus m.games side], games := M.zero, pts := M.zero, won := M.plus m.won side } sv7 gv4 := k3.set 21 (.int .i64 (M.plus m.won side).B) rfl rfl rfl
    have hB7 := (hB10.setCell (p := ⟨b, 20, none⟩) (by exact hbb) (.int .i64 (M.plus m.won side).A)).setCell (p := ⟨b, 21, none⟩) (by exact hbb) (.int .i64 (M.plus m.won side).B)
    have hq7 : w6.heap.size < ((w10.setCell ⟨b, 20, none⟩ (.int .i64 (M.plus m.won side).A)).setCell ⟨b, 21, none⟩ (.int .i64 (M.plus m.won side).B)).heap.size := by simp; omega
    have p0 : ((w10.setCell ⟨b, 20, none⟩ (.int .i64 (M.plus m.won side).A)).setCell ⟨b, 21, none⟩ (.int .i64 (M.plus m.won side).B)).cell? ⟨w6.heap.size, 0, none⟩ = _ := (World.cell?_setCell_far _ _ _ _ (by simp; omega)).trans ((World.cell?_setCell_far _ _ _ _ (by simp; omega)).trans q10)
    have p1 : ((w10.setCell ⟨b, 20, none⟩ (.int .i64 (M.plus m.won side).A)).setCell ⟨b, 21, none⟩ (.int .i64 (M.plus m.won side).B)).cell? ⟨w6.heap.size, 1, none⟩ = _ := (World.cell?_setCell_far _ _ _ _ (by simp; omega)).trans ((World.cell?_setCell_far _ _ _ _ (by simp; omega)).trans q11)
    have e : { m with log := m.log ++ [M.gameOf m side], sets := m.sets ++ [M.plus m.games side], games := M.zero, pts := M.zero, won := M.plus m.won side } = n := by rw [← HNE.out]; unfold M.endSet; rw [hset]; rfl
    rw [e] at h7
    clear q10 q11 k3 c10 fr10 hB10
    generalize ((w10.setCell ⟨b, 20, none⟩ (.int .i64 (M.plus m.won side).A)).setCell ⟨b, 21, none⟩ (.int .i64 (M.plus m.won side).B)) = w7 at h7 hB7 hq7 p0 p1 ⊢
    have H7 := hide h7
    clear h7 e
  all_goals
    have c7 := H7.out.mc
    have hl7 := H7.out.lt
    refine wp_region_T_drew (S := (fun w' => w6.heap.size < w'.heap.size ∧ w'.cell? ⟨w6.heap.size, 0, none⟩ = some (.int .i64 (M.plus m.games side).A) ∧ w'.cell? ⟨w6.heap.size, 1, none⟩ = some (.int .i64 (M.plus m.games side).B) ∧ w'.cell? ⟨b, 0, none⟩ = some (.int .i64 n.f.sets) ∧ w'.cell? ⟨b, 1, none⟩ = some (.int .i64 n.f.games) ∧ w'.cell? ⟨b, 2, none⟩ = some (.bool n.f.noAd) ∧ w'.cell? ⟨b, 3, none⟩ = some (.int .i64 n.f.tie) ∧ w'.cell? ⟨b, 4, none⟩ = some (.int .i64 n.f.to) ∧ w'.cell? ⟨b, 5, none⟩ = some (.int .i64 n.f.lastTie) ∧ w'.cell? ⟨b, 6, none⟩ = some (.int .i64 n.f.lastTo) ∧ w'.cell? ⟨b, 7, none⟩ = some (.int .i64 n.f.first) ∧ w'.cell? ⟨b, 8, none⟩ = some (.int .i64 n.f.next) ∧ w'.cell? ⟨b, 9, none⟩ = some (.bool n.f.doubles) ∧ w'.cell? ⟨b, 10, none⟩ = some (sv7) ∧ w'.cell? ⟨b, 11, none⟩ = some (.int .i64 n.games.A) ∧ w'.cell? ⟨b, 12, none⟩ = some (.int .i64 n.games.B) ∧ w'.cell? ⟨b, 13, none⟩ = some (.int .i64 n.pts.A) ∧ w'.cell? ⟨b, 14, none⟩ = some (.int .i64 n.pts.B) ∧ w'.cell? ⟨b, 15, none⟩ = some (.int .i64 n.server) ∧ w'.cell? ⟨b, 16, none⟩ = some (.int .i64 n.ends) ∧ w'.cell? ⟨b, 17, none⟩ = some (.int .i64 n.balls) ∧ w'.cell? ⟨b, 18, none⟩ = some (.int .i64 n.winner) ∧ w'.cell? ⟨b, 19, none⟩ = some (.int .i64 n.opens) ∧ w'.cell? ⟨b, 20, none⟩ = some (.int .i64 n.won.A) ∧ w'.cell? ⟨b, 21, none⟩ = some (.int .i64 n.won.B) ∧ w'.cell? ⟨b, 22, none⟩ = some (.bool n.fresh) ∧ w'.cell? ⟨b, 23, none⟩ = some (gv4))) 13 (by kernel_rfl) ?_ (fun hD0 => ?_)
    · (try dsimp only); (exact kp)
    refine takeT (v := ?_) 0 rfl (by kernel_rfl) (by kernel_rfl) (by kernel_rfl) (by kernel_rfl) (fun _ _ _ h => h) (Or.inl ⟨by rfl, ?_⟩) (by assumption) ?_; rotate_left
    · (intro w hSw; (try dsimp only at hSw); go_simp; try with_reducible rfl)
    try simp only [Act.put, zl, z0, z1]
    refine takeT (v := ?_) 1 rfl (by kernel_rfl) (by kernel_rfl) (by kernel_rfl) (by kernel_rfl) (fun _ _ _ h => h) (Or.inl ⟨by rfl, ?_⟩) (by assumption) ?_; rotate_left
    · (intro w hSw; (try dsimp only at hSw); go_simp; try with_reducible rfl)
    try simp only [Act.put, zl, z0, z1]
    refine takeT (v := ?_) 2 rfl (by kernel_rfl) (by kernel_rfl) (by kernel_rfl) (by kernel_rfl) (fun _ _ _ h => h) (Or.inl ⟨by rfl, ?_⟩) (by assumption) ?_; rotate_left
    · (intro w hSw; (try dsimp only at hSw); go_simp; try with_reducible rfl)
    try simp only [Act.put, zl, z0, z1]
    refine takeT (v := ?_) 3 rfl (by kernel_rfl) (by kernel_rfl) (by kernel_rfl) (by kernel_rfl) (fun _ _ _ h => h) (Or.inl ⟨by rfl, ?_⟩) (by assumption) ?_; rotate_left
    · (intro w hSw; (try dsimp only at hSw); go_simp; try with_reducible rfl)
    try simp only [Act.put, zl, z0, z1]
    refine takeT (v := ?_) 4 rfl (by kernel_rfl) (by kernel_rfl) (by kernel_rfl) (by kernel_rfl) (fun _ _ _ h => h) (Or.inl ⟨by rfl, ?_⟩) (by assumption) ?_; rotate_left
    · (intro w hSw; (try dsimp only at hSw); go_simp; try with_reducible rfl)
    try simp only [Act.put, zl, z0, z1]
    refine takeT (v := ?_) 5 rfl (by kernel_rfl) (by kernel_rfl) (by kernel_rfl) (by kernel_rfl) (fun _ _ _ h => h) (Or.inl ⟨by rfl, ?_⟩) (by assumption) ?_; rotate_left
    · (intro w hSw; (try dsimp only at hSw); go_simp; try with_reducible rfl)
    try simp only [Act.put, zl, z0, z1]
    refine takeT (v := ?_) 6 rfl (by kernel_rfl) (by kernel_rfl) (by kernel_rfl) (by kernel_rfl) (fun _ _ _ h => h) (Or.inl ⟨by rfl, ?_⟩) (by assumption) ?_; rotate_left
    · (intro w hSw; (try dsimp only at hSw); go_simp; try with_reducible rfl)
    try simp only [Act.put, zl, z0, z1]
    refine takeT (v := ?_) 7 rfl (by kernel_rfl) (by kernel_rfl) (by kernel_rfl) (by kernel_rfl) (fun _ _ _ h => h) (Or.inl ⟨by rfl, ?_⟩) (by assumption) ?_; rotate_left
    · (intro w hSw; (try dsimp only at hSw); go_simp; try with_reducible rfl)
    try simp only [Act.put, zl, z0, z1]
    refine takeT (v := ?_) 8 rfl (by kernel_rfl) (by kernel_rfl) (by kernel_rfl) (by kernel_rfl) (fun _ _ _ h => h) (Or.inl ⟨by rfl, ?_⟩) (by assumption) ?_; rotate_left
    · (intro w hSw; (try dsimp only at hSw); go_simp; try with_reducible rfl)
    try simp only [Act.put, zl, z0, z1]
    refine wpAnyT_ready (rs := [9]) (by kernel_rfl) (by simp) ?_; refine consT 9 rfl (fun K hK => ?_) AllReadyT.nil; go_simp
    (go_at_call 46; refine (winner_any n.f n.won _).mono ?_; rintro e w8 ⟨rfl, hbW⟩; obtain ⟨hc, hf⟩ := bcell hbW; have hzW := hbW.size; (try simp at hzW); have fr8 := (H7.out.drew.below hbW).fr)
    refine hK.out _ _ ?_ (fun hD1 => ?_)
    · (try dsimp only); (exact kp)
    clear hK K hD0; try simp only [Act.put, zl, z0, z1]
    refine wpAnyT_ready (rs := [10]) (by kernel_rfl) (by simp) ?_; refine consT 10 rfl (fun K hK => ?_) AllReadyT.nil; go_simp
    refine hK.out _ _ ?_ (fun hD2 => ?_)
    · (try dsimp only); first | exact hD1 | ((exact kp))
    clear hK K hD1; try simp only [Act.put, zl, z0, z1]
    refine wpAnyT_ready (rs := [11]) (by kernel_rfl) (by simp) ?_; refine consT 11 rfl (fun K hK => ?_) AllReadyT.nil; go_simp
    refine hK.out _ _ ?_ (fun hD3 => ?_)
    · (try dsimp only); first | exact hD2 | ((exact kp))
    clear hK K hD2; try simp only [Act.put, zl, z0, z1]
    refine takeT (v := ?_) 12 rfl (by kernel_rfl) (by kernel_rfl) (by kernel_rfl) (by kernel_rfl) (fun _ _ _ h => h) (Or.inl ⟨by rfl, ?_⟩) (by assumption) ?_; rotate_left
    · (intro w hSw; (try dsimp only at hSw); go_simp; try with_reducible rfl)
    try simp only [Act.put, zl, z0, z1]
    refine wpAnyT_ready (rs := [13]) (by kernel_rfl) (by simp) ?_
    refine lastT rfl (fun K hK => ?_)
    (try dsimp only at hD3)
    go_simp
    refine hK.out _ _ ?_
    clear hK K
    try simp only [Act.put, zl, z0, z1]
    refine wpAnyT_done (by kernel_rfl) ?_ _
    have h9 : MAt (w8.setCell ⟨b, 18, none⟩ (.int .i64 (M.winner n.f n.won))) base b { n with winner := M.winner n.f n.won } sv7 gv4 := ((H7.out.drew).below hbW).set 18 (.int .i64 (M.winner n.f n.won)) rfl rfl rfl
    have hB9 : Below base w (w8.setCell ⟨b, 18, none⟩ (.int .i64 (M.winner n.f n.won))) := (hB7.drew.trans (hbW.mono (by simp; omega))).setCell (by exact hbb) _
    have p2 : (w8.setCell ⟨b, 18, none⟩ (.int .i64 (M.winner n.f n.won))).cell? ⟨w6.heap.size, 0, none⟩ = some (.int .i64 (M.plus m.games side).A) := (World.cell?_setCell_far _ _ _ _ (by simp; omega)).trans hD3.2.1
    have p3 : (w8.setCell ⟨b, 18, none⟩ (.int .i64 (M.winner n.f n.won))).cell? ⟨w6.heap.size, 1, none⟩ = some (.int .i64 (M.plus m.games side).B) := (World.cell?_setCell_far _ _ _ _ (by simp; omega)).trans hD3.2.2.1
    clear hD3 fr8 hc hf hzW c7 p0 p1 hB7
    generalize (w8.setCell ⟨b, 18, none⟩ (.int .i64 (M.winner n.f n.won))) = w9 at h9 hB9 p2 p3 ⊢
    have H9 := hide h9
    have c9 := h9.mc
    dsimp only at c9
    have fr9 := h9.fr
    clear h9
    have HV9 : Hid (M.Valid n.f) := hide (by rw [HNF.out]; exact HV.out)
    have HL9 : Hid (n.log.length ≤ 9000) := hide (by rw [HNL.out]; have := HN.out; omega)
    have HO9 : Hid (0 ≤ n.opens ∧ n.opens ≤ 1) := hide (by rw [HNO.out]; exact HO0.out)
    have HB9 : Hid (0 ≤ n.balls ∧ n.balls ≤ 100000) := hide (by rw [HNB.out]; have := HBAL.out; omega)
    have hn0 : 0 ≤ n.ends := by rw [HNN.out]; exact HENDS.out.1
    have hn1 : n.ends ≤ 100000 := by rw [HNN.out]; exact HENDS.out.2
    obtain ⟨pb0, pb1, pb2, pb3⟩ := plus_bd side HG0.out HSM.out.2
    by_cases hw : M.winner n.f n.won = -1
    · have HW := hide hw
      have c10 := c9
      rw [hw] at c10
      clear c9 hw
      have e1 : IntKind.i64.wrap ((M.plus m.games side).A + (M.plus m.games side).B) = (M.plus m.games side).A + (M.plus m.games side).B := IntWalk.i64_in _ (by omega)
      have e2 : ((M.plus m.games side).A + (M.plus m.games side).B).tmod 2 = ((M.plus m.games side).A + (M.plus m.games side).B) % 2 := Int.tmod_eq_emod_of_nonneg (by omega)
      cases hpar : (((M.plus m.games side).A + (M.plus m.games side).B) % 2 == 1)
      · go_wp2_with (first | (go_at_call 85; refine (beginGame_any (m := { n with winner := M.winner n.f n.won }) H9.out HV9.out HL9.out HO9.out HB9.out).mono ?_; rintro e w12 ⟨rfl, h12, hb12⟩))
        go_end0
        refine ⟨rfl, ⟨sv7, gv4, ?_⟩, hB9.trans hb12⟩
        have hp : ¬ (((M.plus m.games side).A + (M.plus m.games side).B) % 2 = 1) := by simpa using hpar
        rw [HE.out, if_neg (fun h => h HW.out), if_neg hp]
        exact h12
      · have h10 : MAt _ base b { n with winner := M.winner n.f n.won, ends := n.ends + 1 } sv7 gv4 := H9.out.set 16 (.int .i64 (n.ends + 1)) rfl rfl rfl
        have H10 := hide h10
        clear h10
        go_wp2_with (first | (go_at_call 85; refine (beginGame_any (m := { n with winner := M.winner n.f n.won, ends := n.ends + 1 }) H10.out HV9.out HL9.out HO9.out HB9.out).mono ?_; rintro e w12 ⟨rfl, h12, hb12⟩))
        go_end0
        refine ⟨rfl, ⟨sv7, gv4, ?_⟩, (hB9.setCell (by exact hbb) _).trans hb12⟩
        have hp : ((M.plus m.games side).A + (M.plus m.games side).B) % 2 = 1 := by simpa using hpar
        rw [HE.out, if_neg (fun h => h HW.out), if_pos hp]
        exact h12
    · have hwb : (M.winner n.f n.won == -1) = false := beq_eq_false_iff_ne.2 hw
      have hwn : (M.winner n.f n.won != -1) = true := by simpa using hw
      have h10 : MAt _ base b { n with winner := M.winner n.f n.won, server := -1 } sv7 gv4 := H9.out.set 15 (.int .i64 (-1)) rfl rfl rfl
      have H10 := hide h10
      have HW := hide hw
      clear h10
      go_wp2
      first | go_ret | (refine bodyPost_ret (v := .tuple #[]) (by simp [results, Try.results78, go_sem]) rfl ?_)
      refine ⟨rfl, ⟨sv7, gv4, ?_⟩, (hB9.setCell (by exact hbb) _)⟩
      rw [HE.out, if_pos HW.out]
      exact H10.out

end Go.Proofs.Ytmhaapghiecfcaa
