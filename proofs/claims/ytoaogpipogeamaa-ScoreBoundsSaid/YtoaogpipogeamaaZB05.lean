/-
  Part of a claim's texts: contracts of the program's functions and the plain functions that they compute, in build order.
-/
import Derived.Deep.AppendLies
import Derived.Test.YtoaogpipogeamaaZB04
namespace Go.Proofs.Ytoaogpipogeamaa
open Go.RowKit
attribute [local go_sem ↓] Go.wp_at_zero Go.wp_at_succ

set_option maxHeartbeats 4000000 in
set_option maxRecDepth 100000 in
theorem changes_few (b : Nat) (m : M.Mt) (sv : Value) (A : Option Addr) (n c : Nat) (w : World) (hv : M.Valid m.f) (hn : m.log.length = n) (hn2 : n ≤ 9000) (hb : b < w.heap.size) (hmc : w.cell? ⟨b, 0, none⟩ = some (.int .i64 m.f.sets) ∧ w.cell? ⟨b, 1, none⟩ = some (.int .i64 m.f.games) ∧ w.cell? ⟨b, 2, none⟩ = some (.bool m.f.noAd) ∧ w.cell? ⟨b, 3, none⟩ = some (.int .i64 m.f.tie) ∧ w.cell? ⟨b, 4, none⟩ = some (.int .i64 m.f.to) ∧ w.cell? ⟨b, 5, none⟩ = some (.int .i64 m.f.lastTie) ∧ w.cell? ⟨b, 6, none⟩ = some (.int .i64 m.f.lastTo) ∧ w.cell? ⟨b, 7, none⟩ = some (.int .i64 m.f.first) ∧ w.cell? ⟨b, 8, none⟩ = some (.int .i64 m.f.next) ∧ w.cell? ⟨b, 9, none⟩ = some (.bool m.f.doubles) ∧ w.cell? ⟨b, 10, none⟩ = some (sv) ∧ w.cell? ⟨b, 11, none⟩ = some (.int .i64 m.games.A) ∧ w.cell? ⟨b, 12, none⟩ = some (.int .i64 m.games.B) ∧ w.cell? ⟨b, 13, none⟩ = some (.int .i64 m.pts.A) ∧ w.cell? ⟨b, 14, none⟩ = some (.int .i64 m.pts.B) ∧ w.cell? ⟨b, 15, none⟩ = some (.int .i64 m.server) ∧ w.cell? ⟨b, 16, none⟩ = some (.int .i64 m.ends) ∧ w.cell? ⟨b, 17, none⟩ = some (.int .i64 m.balls) ∧ w.cell? ⟨b, 18, none⟩ = some (.int .i64 m.winner) ∧ w.cell? ⟨b, 19, none⟩ = some (.int .i64 m.opens) ∧ w.cell? ⟨b, 20, none⟩ = some (.int .i64 m.won.A) ∧ w.cell? ⟨b, 21, none⟩ = some (.int .i64 m.won.B) ∧ w.cell? ⟨b, 22, none⟩ = some (.bool m.fresh) ∧ w.cell? ⟨b, 23, none⟩ = some (.slice A n c)) (hlt : n < 2) :
    Calls Try.prog 87 #[.pointer (some ⟨b, 0, none⟩), .int .i64 (n : Int)] w fun e w' => e = .returned (.bool (M.changesB m)) ∧ Below w.heap.size w w' := by
  have f0 := hv.f0
  have f1 := hv.f1
  have n0 := hv.n0
  have n1 := hv.n1
  have v0 := hv.s0
  have v1 := hv.s1
  have hd : decide (2 ≤ n) = false := decide_eq_false (by omega)
  obtain ⟨Sx, Sxd⟩ : ∃ Sx : World → Prop, Hid (Sx = (fun w' => Below w.heap.size w w' ∧ w'.cell? ⟨b, 0, none⟩ = some (.int .i64 m.f.sets) ∧ w'.cell? ⟨b, 1, none⟩ = some (.int .i64 m.f.games) ∧ w'.cell? ⟨b, 2, none⟩ = some (.bool m.f.noAd) ∧ w'.cell? ⟨b, 3, none⟩ = some (.int .i64 m.f.tie) ∧ w'.cell? ⟨b, 4, none⟩ = some (.int .i64 m.f.to) ∧ w'.cell? ⟨b, 5, none⟩ = some (.int .i64 m.f.lastTie) ∧ w'.cell? ⟨b, 6, none⟩ = some (.int .i64 m.f.lastTo) ∧ w'.cell? ⟨b, 7, none⟩ = some (.int .i64 m.f.first) ∧ w'.cell? ⟨b, 8, none⟩ = some (.int .i64 m.f.next) ∧ w'.cell? ⟨b, 9, none⟩ = some (.bool m.f.doubles) ∧ w'.cell? ⟨b, 10, none⟩ = some (sv) ∧ w'.cell? ⟨b, 11, none⟩ = some (.int .i64 m.games.A) ∧ w'.cell? ⟨b, 12, none⟩ = some (.int .i64 m.games.B) ∧ w'.cell? ⟨b, 13, none⟩ = some (.int .i64 m.pts.A) ∧ w'.cell? ⟨b, 14, none⟩ = some (.int .i64 m.pts.B) ∧ w'.cell? ⟨b, 15, none⟩ = some (.int .i64 m.server) ∧ w'.cell? ⟨b, 16, none⟩ = some (.int .i64 m.ends) ∧ w'.cell? ⟨b, 17, none⟩ = some (.int .i64 m.balls) ∧ w'.cell? ⟨b, 18, none⟩ = some (.int .i64 m.winner) ∧ w'.cell? ⟨b, 19, none⟩ = some (.int .i64 m.opens) ∧ w'.cell? ⟨b, 20, none⟩ = some (.int .i64 m.won.A) ∧ w'.cell? ⟨b, 21, none⟩ = some (.int .i64 m.won.B) ∧ w'.cell? ⟨b, 22, none⟩ = some (.bool m.fresh) ∧ w'.cell? ⟨b, 23, none⟩ = some (.slice A n c))) := ⟨_, hide rfl⟩
  cases h1 : M.dueB m.f.first m.f.next n
  · have ho : M.changesB m = false := by unfold M.changesB; rw [hn]; rw [hd]; simp [h1]
    rw [ho]; clear ho
    go_enter Try.func87, Try.ntmps87
    go_wp2_with (first | (go_at_call 88; refine (due_any b m.f.first m.f.next _ _ (by go_split_ands; assumption) (by go_split_ands; assumption) f0 f1 n0 n1 (by omega) (by omega)).mono ?_; rintro e w1 ⟨rfl, hb⟩; obtain ⟨hc, hf⟩ := bcell hb; have hz := hb.size; (try simp at hz); have hSn : Sx w1 := (by rw [Sxd.out]; (try dsimp only); (first | (go_keep; done) | (go_split_ands; (repeat' apply And.intro) <;> first | (go_keep; done) | (simp [*, zcA, zcP, zfA, zfP]; done) | (simp [zcA, zcP] <;> rfl) | (simp [*, zsS, zsO, zsA]; done) | ((first | refine (hc _ _ ?_).trans ?_ | refine (hf _ _ ?_).trans ?_) <;> first | assumption | (simp; done) | (simp; omega) | omega | (go_keep; done) | (simp [*, zcA, zcP, zfA, zfP]; done) | (simp [zcA, zcP]; rfl)) | (repeat' first | exact zbR _ _ | assumption | refine zbD ?_ | refine zbA ?_ ?_ _ | refine zbS ?_ ?_ _ | refine zbT ?_ (by assumption) ?_ | (simp; done) | (simp; omega) | omega)))); rw [Sxd.out] at hSn; (try dsimp only at hSn); (try clear hS); have hS := hSn; clear hSn hc hf) | (go_at_call 55; refine (ofSet_any m.f m.won _ (by omega) (by omega)).mono ?_; rintro e w1 ⟨rfl, hb⟩; obtain ⟨hc, hf⟩ := bcell hb; have hz := hb.size; (try simp at hz); have hSn : Sx w1 := (by rw [Sxd.out]; (try dsimp only); (first | (go_keep; done) | (go_split_ands; (repeat' apply And.intro) <;> first | (go_keep; done) | (simp [*, zcA, zcP, zfA, zfP]; done) | (simp [zcA, zcP] <;> rfl) | (simp [*, zsS, zsO, zsA]; done) | ((first | refine (hc _ _ ?_).trans ?_ | refine (hf _ _ ?_).trans ?_) <;> first | assumption | (simp; done) | (simp; omega) | omega | (go_keep; done) | (simp [*, zcA, zcP, zfA, zfP]; done) | (simp [zcA, zcP]; rfl)) | (repeat' first | exact zbR _ _ | assumption | refine zbD ?_ | refine zbA ?_ ?_ _ | refine zbS ?_ ?_ _ | refine zbT ?_ (by assumption) ?_ | (simp; done) | (simp; omega) | omega)))); rw [Sxd.out] at hSn; (try dsimp only at hSn); (try clear hS); have hS := hSn; clear hSn hc hf) | (go_at_call 69; refine (isTie_any (M.ofSet m.f m.won) m.games _).mono ?_; rintro e w1 ⟨rfl, hb⟩; obtain ⟨hc, hf⟩ := bcell hb; have hz := hb.size; (try simp at hz); have hSn : Sx w1 := (by rw [Sxd.out]; (try dsimp only); (first | (go_keep; done) | (go_split_ands; (repeat' apply And.intro) <;> first | (go_keep; done) | (simp [*, zcA, zcP, zfA, zfP]; done) | (simp [zcA, zcP] <;> rfl) | (simp [*, zsS, zsO, zsA]; done) | ((first | refine (hc _ _ ?_).trans ?_ | refine (hf _ _ ?_).trans ?_) <;> first | assumption | (simp; done) | (simp; omega) | omega | (go_keep; done) | (simp [*, zcA, zcP, zfA, zfP]; done) | (simp [zcA, zcP]; rfl)) | (repeat' first | exact zbR _ _ | assumption | refine zbD ?_ | refine zbA ?_ ?_ _ | refine zbS ?_ ?_ _ | refine zbT ?_ (by assumption) ?_ | (simp; done) | (simp; omega) | omega)))); rw [Sxd.out] at hSn; (try dsimp only at hSn); (try clear hS); have hS := hSn; clear hSn hc hf))
    refine wp_region_held_drew (S := (fun w' => Below w.heap.size w w' ∧ w'.cell? ⟨b, 0, none⟩ = some (.int .i64 m.f.sets) ∧ w'.cell? ⟨b, 1, none⟩ = some (.int .i64 m.f.games) ∧ w'.cell? ⟨b, 2, none⟩ = some (.bool m.f.noAd) ∧ w'.cell? ⟨b, 3, none⟩ = some (.int .i64 m.f.tie) ∧ w'.cell? ⟨b, 4, none⟩ = some (.int .i64 m.f.to) ∧ w'.cell? ⟨b, 5, none⟩ = some (.int .i64 m.f.lastTie) ∧ w'.cell? ⟨b, 6, none⟩ = some (.int .i64 m.f.lastTo) ∧ w'.cell? ⟨b, 7, none⟩ = some (.int .i64 m.f.first) ∧ w'.cell? ⟨b, 8, none⟩ = some (.int .i64 m.f.next) ∧ w'.cell? ⟨b, 9, none⟩ = some (.bool m.f.doubles) ∧ w'.cell? ⟨b, 10, none⟩ = some (sv) ∧ w'.cell? ⟨b, 11, none⟩ = some (.int .i64 m.games.A) ∧ w'.cell? ⟨b, 12, none⟩ = some (.int .i64 m.games.B) ∧ w'.cell? ⟨b, 13, none⟩ = some (.int .i64 m.pts.A) ∧ w'.cell? ⟨b, 14, none⟩ = some (.int .i64 m.pts.B) ∧ w'.cell? ⟨b, 15, none⟩ = some (.int .i64 m.server) ∧ w'.cell? ⟨b, 16, none⟩ = some (.int .i64 m.ends) ∧ w'.cell? ⟨b, 17, none⟩ = some (.int .i64 m.balls) ∧ w'.cell? ⟨b, 18, none⟩ = some (.int .i64 m.winner) ∧ w'.cell? ⟨b, 19, none⟩ = some (.int .i64 m.opens) ∧ w'.cell? ⟨b, 20, none⟩ = some (.int .i64 m.won.A) ∧ w'.cell? ⟨b, 21, none⟩ = some (.int .i64 m.won.B) ∧ w'.cell? ⟨b, 22, none⟩ = some (.bool m.fresh) ∧ w'.cell? ⟨b, 23, none⟩ = some (.slice A n c))) (by kernel_rfl) ?_ (fun hD0 => ?_)
    · (try dsimp only); (first | (go_keep; done) | (go_split_ands; (repeat' apply And.intro) <;> first | (go_keep; done) | (simp [*, zcA, zcP, zfA, zfP]; done) | (simp [zcA, zcP] <;> rfl) | (simp [*, zsS, zsO, zsA]; done) | ((first | refine (hc _ _ ?_).trans ?_ | refine (hf _ _ ?_).trans ?_) <;> first | assumption | (simp; done) | (simp; omega) | omega | (go_keep; done) | (simp [*, zcA, zcP, zfA, zfP]; done) | (simp [zcA, zcP]; rfl)) | (repeat' first | exact zbR _ _ | assumption | refine zbD ?_ | refine zbA ?_ ?_ _ | refine zbS ?_ ?_ _ | refine zbT ?_ (by assumption) ?_ | (simp; done) | (simp; omega) | omega)))
    refine tW ?_ 0 rfl (by kernel_rfl) (fun _ _ _ h => h) (by rfl) (by assumption) ?_ ?_; rotate_left; (focus (intro w hSw; (try dsimp only at hSw); go_simp; try with_reducible rfl)); try simp only [Act.put, zl, z0, z1]
    refine tW ?_ 1 rfl (by kernel_rfl) (fun _ _ _ h => h) (by rfl) (by assumption) ?_ ?_; rotate_left; (focus (intro w hSw; (try dsimp only at hSw); go_simp; try with_reducible rfl)); try simp only [Act.put, zl, z0, z1]
    refine wpAnyH_ready (rs := [2]) (by kernel_rfl) (by simp) ?_; refine consL 2 rfl (fun K hK => ?_) AllReadyH.nil; go_simp
    (go_at_call 88; refine (due_any b m.f.first m.f.next _ _ (by go_split_ands; assumption) (by go_split_ands; assumption) f0 f1 n0 n1 (by omega) (by omega)).mono ?_; rintro e w' ⟨rfl, hb⟩; obtain ⟨hc, hf⟩ := bcell hb; have hz := hb.size; (try simp at hz))
    refine hK.out _ _ ?_ (fun hD1 => ?_)
    · (try dsimp only); (first | (go_keep; done) | (go_split_ands; (repeat' apply And.intro) <;> first | (go_keep; done) | (simp [*, zcA, zcP, zfA, zfP]; done) | (simp [zcA, zcP] <;> rfl) | (simp [*, zsS, zsO, zsA]; done) | ((first | refine (hc _ _ ?_).trans ?_ | refine (hf _ _ ?_).trans ?_) <;> first | assumption | (simp; done) | (simp; omega) | omega | (go_keep; done) | (simp [*, zcA, zcP, zfA, zfP]; done) | (simp [zcA, zcP]; rfl)) | (repeat' first | exact zbR _ _ | assumption | refine zbD ?_ | refine zbA ?_ ?_ _ | refine zbS ?_ ?_ _ | refine zbT ?_ (by assumption) ?_ | (simp; done) | (simp; omega) | omega)))
    clear hK K hD0; try simp only [Act.put, zl, z0, z1]
    refine tW ?_ 3 rfl (by kernel_rfl) (fun _ _ _ h => h) (by rfl) (by assumption) ?_ ?_; rotate_left; (focus (intro w hSw; (try dsimp only at hSw); go_simp; try with_reducible rfl)); try simp only [Act.put, zl, z0, z1]
    refine takeL 4 rfl (by kernel_rfl) (by kernel_rfl) (by kernel_rfl) (fun _ _ _ h => h) (Or.inr ⟨by rfl, rfl⟩) (by assumption) ?_; try simp only [Act.put, zl, z0, z1]
    refine takeL 5 rfl (by kernel_rfl) (by kernel_rfl) (by kernel_rfl) (fun _ _ _ h => h) (Or.inr ⟨by rfl, rfl⟩) (by assumption) ?_; try simp only [Act.put, zl, z0, z1]
    refine takeL 6 rfl (by kernel_rfl) (by kernel_rfl) (by kernel_rfl) (fun _ _ _ h => h) (Or.inr ⟨by rfl, rfl⟩) (by assumption) ?_; try simp only [Act.put, zl, z0, z1]
    refine takeL 7 rfl (by kernel_rfl) (by kernel_rfl) (by kernel_rfl) (fun _ _ _ h => h) (Or.inr ⟨by rfl, rfl⟩) (by assumption) ?_; try simp only [Act.put, zl, z0, z1]
    refine takeL 8 rfl (by kernel_rfl) (by kernel_rfl) (by kernel_rfl) (fun _ _ _ h => h) (Or.inr ⟨by rfl, rfl⟩) (by assumption) ?_; try simp only [Act.put, zl, z0, z1]
    refine takeL 9 rfl (by kernel_rfl) (by kernel_rfl) (by kernel_rfl) (fun _ _ _ h => h) (Or.inr ⟨by rfl, rfl⟩) (by assumption) ?_; try simp only [Act.put, zl, z0, z1]
    refine takeL 10 rfl (by kernel_rfl) (by kernel_rfl) (by kernel_rfl) (fun _ _ _ h => h) (Or.inr ⟨by rfl, rfl⟩) (by assumption) ?_; try simp only [Act.put, zl, z0, z1]
    refine takeL 11 rfl (by kernel_rfl) (by kernel_rfl) (by kernel_rfl) (fun _ _ _ h => h) (Or.inr ⟨by rfl, rfl⟩) (by assumption) ?_; try simp only [Act.put, zl, z0, z1]
    refine takeL 12 rfl (by kernel_rfl) (by kernel_rfl) (by kernel_rfl) (fun _ _ _ h => h) (Or.inr ⟨by rfl, rfl⟩) (by assumption) ?_; try simp only [Act.put, zl, z0, z1]
    refine takeL 13 rfl (by kernel_rfl) (by kernel_rfl) (by kernel_rfl) (fun _ _ _ h => h) (Or.inr ⟨by rfl, rfl⟩) (by assumption) ?_; try simp only [Act.put, zl, z0, z1]
    refine takeL 14 rfl (by kernel_rfl) (by kernel_rfl) (by kernel_rfl) (fun _ _ _ h => h) (Or.inr ⟨by rfl, rfl⟩) (by assumption) ?_; try simp only [Act.put, zl, z0, z1]
    refine takeL 15 rfl (by kernel_rfl) (by kernel_rfl) (by kernel_rfl) (fun _ _ _ h => h) (Or.inr ⟨by rfl, rfl⟩) (by assumption) ?_; try simp only [Act.put, zl, z0, z1]
    refine takeL 16 rfl (by kernel_rfl) (by kernel_rfl) (by kernel_rfl) (fun _ _ _ h => h) (Or.inr ⟨by rfl, rfl⟩) (by assumption) ?_; try simp only [Act.put, zl, z0, z1]
    refine takeL 17 rfl (by kernel_rfl) (by kernel_rfl) (by kernel_rfl) (fun _ _ _ h => h) (Or.inr ⟨by rfl, rfl⟩) (by assumption) ?_; try simp only [Act.put, zl, z0, z1]
    refine takeL 18 rfl (by kernel_rfl) (by kernel_rfl) (by kernel_rfl) (fun _ _ _ h => h) (Or.inr ⟨by rfl, rfl⟩) (by assumption) ?_; try simp only [Act.put, zl, z0, z1]
    refine takeL 19 rfl (by kernel_rfl) (by kernel_rfl) (by kernel_rfl) (fun _ _ _ h => h) (Or.inr ⟨by rfl, rfl⟩) (by assumption) ?_; try simp only [Act.put, zl, z0, z1]
    refine takeL 20 rfl (by kernel_rfl) (by kernel_rfl) (by kernel_rfl) (fun _ _ _ h => h) (Or.inr ⟨by rfl, rfl⟩) (by assumption) ?_; try simp only [Act.put, zl, z0, z1]
    refine tW ?_ 21 rfl (by kernel_rfl) (fun _ _ _ h => h) (by rfl) (by assumption) ?_ ?_; rotate_left; (focus (intro w hSw; (try dsimp only at hSw); go_simp; try with_reducible rfl)); try simp only [Act.put, zl, z0, z1]
    refine tW ?_ 22 rfl (by kernel_rfl) (fun _ _ _ h => h) (by rfl) (by assumption) ?_ ?_; rotate_left; (focus (intro w hSw; (try dsimp only at hSw); go_simp; try with_reducible rfl)); try simp only [Act.put, zl, z0, z1]
    refine wpAnyH_done (by kernel_rfl) ?_ _
    go_wp2
    go_ret
    exact ⟨rfl, by (go_split_ands; (repeat' first | exact zbR _ _ | assumption | refine zbD ?_ | refine zbA ?_ ?_ _ | refine zbS ?_ ?_ _ | refine zbT ?_ (by assumption) ?_ | (simp; done) | (simp; omega) | omega))⟩
  · cases h2 : M.isTie (M.ofSet m.f m.won) m.games
    all_goals
      first
        | (have ho : M.changesB m = true := by (unfold M.changesB; rw [hn]; rw [hd]; simp [h1, h2]; done)
           rw [ho]; clear ho)
        | (have ho : M.changesB m = false := by (unfold M.changesB; rw [hn]; rw [hd]; simp [h1, h2]; done)
           rw [ho]; clear ho)
      go_enter Try.func87, Try.ntmps87
      go_wp2_with (first | (go_at_call 88; refine (due_any b m.f.first m.f.next _ _ (by go_split_ands; assumption) (by go_split_ands; assumption) f0 f1 n0 n1 (by omega) (by omega)).mono ?_; rintro e w1 ⟨rfl, hb⟩; obtain ⟨hc, hf⟩ := bcell hb; have hz := hb.size; (try simp at hz); have hSn : Sx w1 := (by rw [Sxd.out]; (try dsimp only); (first | (go_keep; done) | (go_split_ands; (repeat' apply And.intro) <;> first | (go_keep; done) | (simp [*, zcA, zcP, zfA, zfP]; done) | (simp [zcA, zcP] <;> rfl) | (simp [*, zsS, zsO, zsA]; done) | ((first | refine (hc _ _ ?_).trans ?_ | refine (hf _ _ ?_).trans ?_) <;> first | assumption | (simp; done) | (simp; omega) | omega | (go_keep; done) | (simp [*, zcA, zcP, zfA, zfP]; done) | (simp [zcA, zcP]; rfl)) | (repeat' first | exact zbR _ _ | assumption | refine zbD ?_ | refine zbA ?_ ?_ _ | refine zbS ?_ ?_ _ | refine zbT ?_ (by assumption) ?_ | (simp; done) | (simp; omega) | omega)))); rw [Sxd.out] at hSn; (try dsimp only at hSn); (try clear hS); have hS := hSn; clear hSn hc hf) | (go_at_call 55; refine (ofSet_any m.f m.won _ (by omega) (by omega)).mono ?_; rintro e w1 ⟨rfl, hb⟩; obtain ⟨hc, hf⟩ := bcell hb; have hz := hb.size; (try simp at hz); have hSn : Sx w1 := (by rw [Sxd.out]; (try dsimp only); (first | (go_keep; done) | (go_split_ands; (repeat' apply And.intro) <;> first | (go_keep; done) | (simp [*, zcA, zcP, zfA, zfP]; done) | (simp [zcA, zcP] <;> rfl) | (simp [*, zsS, zsO, zsA]; done) | ((first | refine (hc _ _ ?_).trans ?_ | refine (hf _ _ ?_).trans ?_) <;> first | assumption | (simp; done) | (simp; omega) | omega | (go_keep; done) | (simp [*, zcA, zcP, zfA, zfP]; done) | (simp [zcA, zcP]; rfl)) | (repeat' first | exact zbR _ _ | assumption | refine zbD ?_ | refine zbA ?_ ?_ _ | refine zbS ?_ ?_ _ | refine zbT ?_ (by assumption) ?_ | (simp; done) | (simp; omega) | omega)))); rw [Sxd.out] at hSn; (try dsimp only at hSn); (try clear hS); have hS := hSn; clear hSn hc hf) | (go_at_call 69; refine (isTie_any (M.ofSet m.f m.won) m.games _).mono ?_; rintro e w1 ⟨rfl, hb⟩; obtain ⟨hc, hf⟩ := bcell hb; have hz := hb.size; (try simp at hz); have hSn : Sx w1 := (by rw [Sxd.out]; (try dsimp only); (first | (go_keep; done) | (go_split_ands; (repeat' apply And.intro) <;> first | (go_keep; done) | (simp [*, zcA, zcP, zfA, zfP]; done) | (simp [zcA, zcP] <;> rfl) | (simp [*, zsS, zsO, zsA]; done) | ((first | refine (hc _ _ ?_).trans ?_ | refine (hf _ _ ?_).trans ?_) <;> first | assumption | (simp; done) | (simp; omega) | omega | (go_keep; done) | (simp [*, zcA, zcP, zfA, zfP]; done) | (simp [zcA, zcP]; rfl)) | (repeat' first | exact zbR _ _ | assumption | refine zbD ?_ | refine zbA ?_ ?_ _ | refine zbS ?_ ?_ _ | refine zbT ?_ (by assumption) ?_ | (simp; done) | (simp; omega) | omega)))); rw [Sxd.out] at hSn; (try dsimp only at hSn); (try clear hS); have hS := hSn; clear hSn hc hf))
      refine wp_region_held_drew (S := (fun w' => Below w.heap.size w w' ∧ w'.cell? ⟨b, 0, none⟩ = some (.int .i64 m.f.sets) ∧ w'.cell? ⟨b, 1, none⟩ = some (.int .i64 m.f.games) ∧ w'.cell? ⟨b, 2, none⟩ = some (.bool m.f.noAd) ∧ w'.cell? ⟨b, 3, none⟩ = some (.int .i64 m.f.tie) ∧ w'.cell? ⟨b, 4, none⟩ = some (.int .i64 m.f.to) ∧ w'.cell? ⟨b, 5, none⟩ = some (.int .i64 m.f.lastTie) ∧ w'.cell? ⟨b, 6, none⟩ = some (.int .i64 m.f.lastTo) ∧ w'.cell? ⟨b, 7, none⟩ = some (.int .i64 m.f.first) ∧ w'.cell? ⟨b, 8, none⟩ = some (.int .i64 m.f.next) ∧ w'.cell? ⟨b, 9, none⟩ = some (.bool m.f.doubles) ∧ w'.cell? ⟨b, 10, none⟩ = some (sv) ∧ w'.cell? ⟨b, 11, none⟩ = some (.int .i64 m.games.A) ∧ w'.cell? ⟨b, 12, none⟩ = some (.int .i64 m.games.B) ∧ w'.cell? ⟨b, 13, none⟩ = some (.int .i64 m.pts.A) ∧ w'.cell? ⟨b, 14, none⟩ = some (.int .i64 m.pts.B) ∧ w'.cell? ⟨b, 15, none⟩ = some (.int .i64 m.server) ∧ w'.cell? ⟨b, 16, none⟩ = some (.int .i64 m.ends) ∧ w'.cell? ⟨b, 17, none⟩ = some (.int .i64 m.balls) ∧ w'.cell? ⟨b, 18, none⟩ = some (.int .i64 m.winner) ∧ w'.cell? ⟨b, 19, none⟩ = some (.int .i64 m.opens) ∧ w'.cell? ⟨b, 20, none⟩ = some (.int .i64 m.won.A) ∧ w'.cell? ⟨b, 21, none⟩ = some (.int .i64 m.won.B) ∧ w'.cell? ⟨b, 22, none⟩ = some (.bool m.fresh) ∧ w'.cell? ⟨b, 23, none⟩ = some (.slice A n c))) (by kernel_rfl) ?_ (fun hD0 => ?_)
      · (try dsimp only); (first | (go_keep; done) | (go_split_ands; (repeat' apply And.intro) <;> first | (go_keep; done) | (simp [*, zcA, zcP, zfA, zfP]; done) | (simp [zcA, zcP] <;> rfl) | (simp [*, zsS, zsO, zsA]; done) | ((first | refine (hc _ _ ?_).trans ?_ | refine (hf _ _ ?_).trans ?_) <;> first | assumption | (simp; done) | (simp; omega) | omega | (go_keep; done) | (simp [*, zcA, zcP, zfA, zfP]; done) | (simp [zcA, zcP]; rfl)) | (repeat' first | exact zbR _ _ | assumption | refine zbD ?_ | refine zbA ?_ ?_ _ | refine zbS ?_ ?_ _ | refine zbT ?_ (by assumption) ?_ | (simp; done) | (simp; omega) | omega)))
      refine tW ?_ 0 rfl (by kernel_rfl) (fun _ _ _ h => h) (by rfl) (by assumption) ?_ ?_; rotate_left; (focus (intro w hSw; (try dsimp only at hSw); go_simp; try with_reducible rfl)); try simp only [Act.put, zl, z0, z1]
      refine tW ?_ 1 rfl (by kernel_rfl) (fun _ _ _ h => h) (by rfl) (by assumption) ?_ ?_; rotate_left; (focus (intro w hSw; (try dsimp only at hSw); go_simp; try with_reducible rfl)); try simp only [Act.put, zl, z0, z1]
      refine wpAnyH_ready (rs := [2]) (by kernel_rfl) (by simp) ?_; refine consL 2 rfl (fun K hK => ?_) AllReadyH.nil; go_simp
      (go_at_call 88; refine (due_any b m.f.first m.f.next _ _ (by go_split_ands; assumption) (by go_split_ands; assumption) f0 f1 n0 n1 (by omega) (by omega)).mono ?_; rintro e w' ⟨rfl, hb⟩; obtain ⟨hc, hf⟩ := bcell hb; have hz := hb.size; (try simp at hz))
      refine hK.out _ _ ?_ (fun hD1 => ?_)
      · (try dsimp only); (first | (go_keep; done) | (go_split_ands; (repeat' apply And.intro) <;> first | (go_keep; done) | (simp [*, zcA, zcP, zfA, zfP]; done) | (simp [zcA, zcP] <;> rfl) | (simp [*, zsS, zsO, zsA]; done) | ((first | refine (hc _ _ ?_).trans ?_ | refine (hf _ _ ?_).trans ?_) <;> first | assumption | (simp; done) | (simp; omega) | omega | (go_keep; done) | (simp [*, zcA, zcP, zfA, zfP]; done) | (simp [zcA, zcP]; rfl)) | (repeat' first | exact zbR _ _ | assumption | refine zbD ?_ | refine zbA ?_ ?_ _ | refine zbS ?_ ?_ _ | refine zbT ?_ (by assumption) ?_ | (simp; done) | (simp; omega) | omega)))
      clear hK K hD0; try simp only [Act.put, zl, z0, z1]
      refine tW ?_ 3 rfl (by kernel_rfl) (fun _ _ _ h => h) (by rfl) (by assumption) ?_ ?_; rotate_left; (focus (intro w hSw; (try dsimp only at hSw); go_simp; try with_reducible rfl)); try simp only [Act.put, zl, z0, z1]
      refine tW ?_ 4 rfl (by kernel_rfl) (fun _ _ _ h => h) (by rfl) (by assumption) ?_ ?_; rotate_left; (focus (intro w hSw; (try dsimp only at hSw); go_simp; try with_reducible rfl)); try simp only [Act.put, zl, z0, z1]
      refine tW ?_ 5 rfl (by kernel_rfl) (fun _ _ _ h => h) (by rfl) (by assumption) ?_ ?_; rotate_left; (focus (intro w hSw; (try dsimp only at hSw); go_simp; try with_reducible rfl)); try simp only [Act.put, zl, z0, z1]
      refine tW ?_ 6 rfl (by kernel_rfl) (fun _ _ _ h => h) (by rfl) (by assumption) ?_ ?_; rotate_left; (focus (intro w hSw; (try dsimp only at hSw); go_simp; try with_reducible rfl)); try simp only [Act.put, zl, z0, z1]
      refine tW ?_ 7 rfl (by kernel_rfl) (fun _ _ _ h => h) (by rfl) (by assumption) ?_ ?_; rotate_left; (focus (intro w hSw; (try dsimp only at hSw); go_simp; try with_reducible rfl)); try simp only [Act.put, zl, z0, z1]
      refine tW ?_ 8 rfl (by kernel_rfl) (fun _ _ _ h => h) (by rfl) (by assumption) ?_ ?_; rotate_left; (focus (intro w hSw; (try dsimp only at hSw); go_simp; try with_reducible rfl)); try simp only [Act.put, zl, z0, z1]
      refine tW ?_ 9 rfl (by kernel_rfl) (fun _ _ _ h => h) (by rfl) (by assumption) ?_ ?_; rotate_left; (focus (intro w hSw; (try dsimp only at hSw); go_simp; try with_reducible rfl)); try simp only [Act.put, zl, z0, z1]
      refine tW ?_ 10 rfl (by kernel_rfl) (fun _ _ _ h => h) (by rfl) (by assumption) ?_ ?_; rotate_left; (focus (intro w hSw; (try dsimp only at hSw); go_simp; try with_reducible rfl)); try simp only [Act.put, zl, z0, z1]
      refine tW ?_ 11 rfl (by kernel_rfl) (fun _ _ _ h => h) (by rfl) (by assumption) ?_ ?_; rotate_left; (focus (intro w hSw; (try dsimp only at hSw); go_simp; try with_reducible rfl)); try simp only [Act.put, zl, z0, z1]
      refine tW ?_ 13 rfl (by kernel_rfl) (fun _ _ _ h => h) (by rfl) (by assumption) ?_ ?_; rotate_left; (focus (intro w hSw; (try dsimp only at hSw); go_simp; try with_reducible rfl)); try simp only [Act.put, zl, z0, z1]
      refine tW ?_ 14 rfl (by kernel_rfl) (fun _ _ _ h => h) (by rfl) (by assumption) ?_ ?_; rotate_left; (focus (intro w hSw; (try dsimp only at hSw); go_simp; try with_reducible rfl)); try simp only [Act.put, zl, z0, z1]
      refine tW ?_ 15 rfl (by kernel_rfl) (fun _ _ _ h => h) (by rfl) (by assumption) ?_ ?_; rotate_left; (focus (intro w hSw; (try dsimp only at hSw); go_simp; try with_reducible rfl)); try simp only [Act.put, zl, z0, z1]
      refine tW ?_ 16 rfl (by kernel_rfl) (fun _ _ _ h => h) (by rfl) (by assumption) ?_ ?_; rotate_left; (focus (intro w hSw; (try dsimp only at hSw); go_simp; try with_reducible rfl)); try simp only [Act.put, zl, z0, z1]
      refine tW ?_ 17 rfl (by kernel_rfl) (fun _ _ _ h => h) (by rfl) (by assumption) ?_ ?_; rotate_left; (focus (intro w hSw; (try dsimp only at hSw); go_simp; try with_reducible rfl)); try simp only [Act.put, zl, z0, z1]
      refine tW ?_ 18 rfl (by kernel_rfl) (fun _ _ _ h => h) (by rfl) (by assumption) ?_ ?_; rotate_left; (focus (intro w hSw; (try dsimp only at hSw); go_simp; try with_reducible rfl)); try simp only [Act.put, zl, z0, z1]
      refine wpAnyH_ready (rs := [12]) (by kernel_rfl) (by simp) ?_; refine consL 12 rfl (fun K hK => ?_) AllReadyH.nil; go_simp
      (go_at_call 55; refine (ofSet_any m.f m.won _ (by omega) (by omega)).mono ?_; rintro e w' ⟨rfl, hb⟩; obtain ⟨hc, hf⟩ := bcell hb; have hz := hb.size; (try simp at hz))
      refine hK.out _ _ ?_ (fun hD2 => ?_)
      · (try dsimp only); (first | (go_keep; done) | (go_split_ands; (repeat' apply And.intro) <;> first | (go_keep; done) | (simp [*, zcA, zcP, zfA, zfP]; done) | (simp [zcA, zcP] <;> rfl) | (simp [*, zsS, zsO, zsA]; done) | ((first | refine (hc _ _ ?_).trans ?_ | refine (hf _ _ ?_).trans ?_) <;> first | assumption | (simp; done) | (simp; omega) | omega | (go_keep; done) | (simp [*, zcA, zcP, zfA, zfP]; done) | (simp [zcA, zcP]; rfl)) | (repeat' first | exact zbR _ _ | assumption | refine zbD ?_ | refine zbA ?_ ?_ _ | refine zbS ?_ ?_ _ | refine zbT ?_ (by assumption) ?_ | (simp; done) | (simp; omega) | omega)))
      clear hK K hD1; try simp only [Act.put, zl, z0, z1]
      refine wpAnyH_ready (rs := [19]) (by kernel_rfl) (by simp) ?_; refine consL 19 rfl (fun K hK => ?_) AllReadyH.nil; go_simp
      (go_at_call 69; refine (isTie_any (M.ofSet m.f m.won) m.games _).mono ?_; rintro e w' ⟨rfl, hb⟩; obtain ⟨hc, hf⟩ := bcell hb; have hz := hb.size; (try simp at hz))
      refine hK.out _ _ ?_ (fun hD3 => ?_)
      · (try dsimp only); (first | (go_keep; done) | (go_split_ands; (repeat' apply And.intro) <;> first | (go_keep; done) | (simp [*, zcA, zcP, zfA, zfP]; done) | (simp [zcA, zcP] <;> rfl) | (simp [*, zsS, zsO, zsA]; done) | ((first | refine (hc _ _ ?_).trans ?_ | refine (hf _ _ ?_).trans ?_) <;> first | assumption | (simp; done) | (simp; omega) | omega | (go_keep; done) | (simp [*, zcA, zcP, zfA, zfP]; done) | (simp [zcA, zcP]; rfl)) | (repeat' first | exact zbR _ _ | assumption | refine zbD ?_ | refine zbA ?_ ?_ _ | refine zbS ?_ ?_ _ | refine zbT ?_ (by assumption) ?_ | (simp; done) | (simp; omega) | omega)))
      clear hK K hD2; try simp only [Act.put, zl, z0, z1]
      refine tW ?_ 20 rfl (by kernel_rfl) (fun _ _ _ h => h) (by rfl) (by assumption) ?_ ?_; rotate_left; (focus (intro w hSw; (try dsimp only at hSw); go_simp; try with_reducible rfl)); try simp only [Act.put, zl, z0, z1]
      refine tW ?_ 21 rfl (by kernel_rfl) (fun _ _ _ h => h) (by rfl) (by assumption) ?_ ?_; rotate_left; (focus (intro w hSw; (try dsimp only at hSw); go_simp; try with_reducible rfl)); try simp only [Act.put, zl, z0, z1]
      refine tW ?_ 22 rfl (by kernel_rfl) (fun _ _ _ h => h) (by rfl) (by assumption) ?_ ?_; rotate_left; (focus (intro w hSw; (try dsimp only at hSw); go_simp; try with_reducible rfl)); try simp only [Act.put, zl, z0, z1]
      refine wpAnyH_done (by kernel_rfl) ?_ _
      go_wp2
      go_ret
      exact ⟨rfl, by (go_split_ands; (repeat' first | exact zbR _ _ | assumption | refine zbD ?_ | refine zbA ?_ ?_ _ | refine zbS ?_ ?_ _ | refine zbT ?_ (by assumption) ?_ | (simp; done) | (simp; omega) | omega))⟩

set_option maxHeartbeats 4000000 in
set_option maxRecDepth 100000 in
theorem changes_many (b : Nat) (m : M.Mt) (sv : Value) (g n c : Nat) (w : World) (hv : M.Valid m.f) (hn : m.log.length = n) (hn2 : n ≤ 9000) (hb : b < w.heap.size) (hmc : w.cell? ⟨b, 0, none⟩ = some (.int .i64 m.f.sets) ∧ w.cell? ⟨b, 1, none⟩ = some (.int .i64 m.f.games) ∧ w.cell? ⟨b, 2, none⟩ = some (.bool m.f.noAd) ∧ w.cell? ⟨b, 3, none⟩ = some (.int .i64 m.f.tie) ∧ w.cell? ⟨b, 4, none⟩ = some (.int .i64 m.f.to) ∧ w.cell? ⟨b, 5, none⟩ = some (.int .i64 m.f.lastTie) ∧ w.cell? ⟨b, 6, none⟩ = some (.int .i64 m.f.lastTo) ∧ w.cell? ⟨b, 7, none⟩ = some (.int .i64 m.f.first) ∧ w.cell? ⟨b, 8, none⟩ = some (.int .i64 m.f.next) ∧ w.cell? ⟨b, 9, none⟩ = some (.bool m.f.doubles) ∧ w.cell? ⟨b, 10, none⟩ = some (sv) ∧ w.cell? ⟨b, 11, none⟩ = some (.int .i64 m.games.A) ∧ w.cell? ⟨b, 12, none⟩ = some (.int .i64 m.games.B) ∧ w.cell? ⟨b, 13, none⟩ = some (.int .i64 m.pts.A) ∧ w.cell? ⟨b, 14, none⟩ = some (.int .i64 m.pts.B) ∧ w.cell? ⟨b, 15, none⟩ = some (.int .i64 m.server) ∧ w.cell? ⟨b, 16, none⟩ = some (.int .i64 m.ends) ∧ w.cell? ⟨b, 17, none⟩ = some (.int .i64 m.balls) ∧ w.cell? ⟨b, 18, none⟩ = some (.int .i64 m.winner) ∧ w.cell? ⟨b, 19, none⟩ = some (.int .i64 m.opens) ∧ w.cell? ⟨b, 20, none⟩ = some (.int .i64 m.won.A) ∧ w.cell? ⟨b, 21, none⟩ = some (.int .i64 m.won.B) ∧ w.cell? ⟨b, 22, none⟩ = some (.bool m.fresh) ∧ w.cell? ⟨b, 23, none⟩ = some (.slice (some ⟨g, 0, none⟩) n c)) (hlt : 2 ≤ n) (ht : w.cell? ⟨g, (n - 2) * 7 + 1, none⟩ = some (.bool (M.tieAt m.log (n - 2)))) :
    Calls Try.prog 87 #[.pointer (some ⟨b, 0, none⟩), .int .i64 (n : Int)] w fun e w' => e = .returned (.bool (M.changesB m)) ∧ Below w.heap.size w w' := by
  have f0 := hv.f0
  have f1 := hv.f1
  have n0 := hv.n0
  have n1 := hv.n1
  have v0 := hv.s0
  have v1 := hv.s1
  have hd : decide (2 ≤ n) = true := decide_eq_true hlt
  obtain ⟨Sx, Sxd⟩ : ∃ Sx : World → Prop, Hid (Sx = (fun w' => Below w.heap.size w w' ∧ w'.cell? ⟨b, 0, none⟩ = some (.int .i64 m.f.sets) ∧ w'.cell? ⟨b, 1, none⟩ = some (.int .i64 m.f.games) ∧ w'.cell? ⟨b, 2, none⟩ = some (.bool m.f.noAd) ∧ w'.cell? ⟨b, 3, none⟩ = some (.int .i64 m.f.tie) ∧ w'.cell? ⟨b, 4, none⟩ = some (.int .i64 m.f.to) ∧ w'.cell? ⟨b, 5, none⟩ = some (.int .i64 m.f.lastTie) ∧ w'.cell? ⟨b, 6, none⟩ = some (.int .i64 m.f.lastTo) ∧ w'.cell? ⟨b, 7, none⟩ = some (.int .i64 m.f.first) ∧ w'.cell? ⟨b, 8, none⟩ = some (.int .i64 m.f.next) ∧ w'.cell? ⟨b, 9, none⟩ = some (.bool m.f.doubles) ∧ w'.cell? ⟨b, 10, none⟩ = some (sv) ∧ w'.cell? ⟨b, 11, none⟩ = some (.int .i64 m.games.A) ∧ w'.cell? ⟨b, 12, none⟩ = some (.int .i64 m.games.B) ∧ w'.cell? ⟨b, 13, none⟩ = some (.int .i64 m.pts.A) ∧ w'.cell? ⟨b, 14, none⟩ = some (.int .i64 m.pts.B) ∧ w'.cell? ⟨b, 15, none⟩ = some (.int .i64 m.server) ∧ w'.cell? ⟨b, 16, none⟩ = some (.int .i64 m.ends) ∧ w'.cell? ⟨b, 17, none⟩ = some (.int .i64 m.balls) ∧ w'.cell? ⟨b, 18, none⟩ = some (.int .i64 m.winner) ∧ w'.cell? ⟨b, 19, none⟩ = some (.int .i64 m.opens) ∧ w'.cell? ⟨b, 20, none⟩ = some (.int .i64 m.won.A) ∧ w'.cell? ⟨b, 21, none⟩ = some (.int .i64 m.won.B) ∧ w'.cell? ⟨b, 22, none⟩ = some (.bool m.fresh) ∧ w'.cell? ⟨b, 23, none⟩ = some (.slice (some ⟨g, 0, none⟩) n c))) := ⟨_, hide rfl⟩
  cases ht2 : M.tieAt m.log (n - 2)
  · rw [ht2] at ht
    cases h1 : M.dueB m.f.first m.f.next n
    · have ho : M.changesB m = false := by unfold M.changesB; rw [hn]; simp [hd, ht2, h1]
      rw [ho]; clear ho
      go_enter Try.func87, Try.ntmps87
      go_wp2_with (first | (go_at_call 88; refine (due_any b m.f.first m.f.next _ _ (by go_split_ands; assumption) (by go_split_ands; assumption) f0 f1 n0 n1 (by omega) (by omega)).mono ?_; rintro e w1 ⟨rfl, hb⟩; obtain ⟨hc, hf⟩ := bcell hb; have hz := hb.size; (try simp at hz); have hSn : Sx w1 := (by rw [Sxd.out]; (try dsimp only); (first | (go_keep; done) | (go_split_ands; (repeat' apply And.intro) <;> first | (go_keep; done) | (simp [*, zcA, zcP, zfA, zfP]; done) | (simp [zcA, zcP] <;> rfl) | (simp [*, zsS, zsO, zsA]; done) | ((first | refine (hc _ _ ?_).trans ?_ | refine (hf _ _ ?_).trans ?_) <;> first | assumption | (simp; done) | (simp; omega) | omega | (go_keep; done) | (simp [*, zcA, zcP, zfA, zfP]; done) | (simp [zcA, zcP]; rfl)) | (repeat' first | exact zbR _ _ | assumption | refine zbD ?_ | refine zbA ?_ ?_ _ | refine zbS ?_ ?_ _ | refine zbT ?_ (by assumption) ?_ | (simp; done) | (simp; omega) | omega)))); rw [Sxd.out] at hSn; (try dsimp only at hSn); (try clear hS); have hS := hSn; clear hSn hc hf) | (go_at_call 55; refine (ofSet_any m.f m.won _ (by omega) (by omega)).mono ?_; rintro e w1 ⟨rfl, hb⟩; obtain ⟨hc, hf⟩ := bcell hb; have hz := hb.size; (try simp at hz); have hSn : Sx w1 := (by rw [Sxd.out]; (try dsimp only); (first | (go_keep; done) | (go_split_ands; (repeat' apply And.intro) <;> first | (go_keep; done) | (simp [*, zcA, zcP, zfA, zfP]; done) | (simp [zcA, zcP] <;> rfl) | (simp [*, zsS, zsO, zsA]; done) | ((first | refine (hc _ _ ?_).trans ?_ | refine (hf _ _ ?_).trans ?_) <;> first | assumption | (simp; done) | (simp; omega) | omega | (go_keep; done) | (simp [*, zcA, zcP, zfA, zfP]; done) | (simp [zcA, zcP]; rfl)) | (repeat' first | exact zbR _ _ | assumption | refine zbD ?_ | refine zbA ?_ ?_ _ | refine zbS ?_ ?_ _ | refine zbT ?_ (by assumption) ?_ | (simp; done) | (simp; omega) | omega)))); rw [Sxd.out] at hSn; (try dsimp only at hSn); (try clear hS); have hS := hSn; clear hSn hc hf) | (go_at_call 69; refine (isTie_any (M.ofSet m.f m.won) m.games _).mono ?_; rintro e w1 ⟨rfl, hb⟩; obtain ⟨hc, hf⟩ := bcell hb; have hz := hb.size; (try simp at hz); have hSn : Sx w1 := (by rw [Sxd.out]; (try dsimp only); (first | (go_keep; done) | (go_split_ands; (repeat' apply And.intro) <;> first | (go_keep; done) | (simp [*, zcA, zcP, zfA, zfP]; done) | (simp [zcA, zcP] <;> rfl) | (simp [*, zsS, zsO, zsA]; done) | ((first | refine (hc _ _ ?_).trans ?_ | refine (hf _ _ ?_).trans ?_) <;> first | assumption | (simp; done) | (simp; omega) | omega | (go_keep; done) | (simp [*, zcA, zcP, zfA, zfP]; done) | (simp [zcA, zcP]; rfl)) | (repeat' first | exact zbR _ _ | assumption | refine zbD ?_ | refine zbA ?_ ?_ _ | refine zbS ?_ ?_ _ | refine zbT ?_ (by assumption) ?_ | (simp; done) | (simp; omega) | omega)))); rw [Sxd.out] at hSn; (try dsimp only at hSn); (try clear hS); have hS := hSn; clear hSn hc hf))
      refine wp_region_held_drew (S := (fun w' => Below w.heap.size w w' ∧ w'.cell? ⟨b, 0, none⟩ = some (.int .i64 m.f.sets) ∧ w'.cell? ⟨b, 1, none⟩ = some (.int .i64 m.f.games) ∧ w'.cell? ⟨b, 2, none⟩ = some (.bool m.f.noAd) ∧ w'.cell? ⟨b, 3, none⟩ = some (.int .i64 m.f.tie) ∧ w'.cell? ⟨b, 4, none⟩ = some (.int .i64 m.f.to) ∧ w'.cell? ⟨b, 5, none⟩ = some (.int .i64 m.f.lastTie) ∧ w'.cell? ⟨b, 6, none⟩ = some (.int .i64 m.f.lastTo) ∧ w'.cell? ⟨b, 7, none⟩ = some (.int .i64 m.f.first) ∧ w'.cell? ⟨b, 8, none⟩ = some (.int .i64 m.f.next) ∧ w'.cell? ⟨b, 9, none⟩ = some (.bool m.f.doubles) ∧ w'.cell? ⟨b, 10, none⟩ = some (sv) ∧ w'.cell? ⟨b, 11, none⟩ = some (.int .i64 m.games.A) ∧ w'.cell? ⟨b, 12, none⟩ = some (.int .i64 m.games.B) ∧ w'.cell? ⟨b, 13, none⟩ = some (.int .i64 m.pts.A) ∧ w'.cell? ⟨b, 14, none⟩ = some (.int .i64 m.pts.B) ∧ w'.cell? ⟨b, 15, none⟩ = some (.int .i64 m.server) ∧ w'.cell? ⟨b, 16, none⟩ = some (.int .i64 m.ends) ∧ w'.cell? ⟨b, 17, none⟩ = some (.int .i64 m.balls) ∧ w'.cell? ⟨b, 18, none⟩ = some (.int .i64 m.winner) ∧ w'.cell? ⟨b, 19, none⟩ = some (.int .i64 m.opens) ∧ w'.cell? ⟨b, 20, none⟩ = some (.int .i64 m.won.A) ∧ w'.cell? ⟨b, 21, none⟩ = some (.int .i64 m.won.B) ∧ w'.cell? ⟨b, 22, none⟩ = some (.bool m.fresh) ∧ w'.cell? ⟨b, 23, none⟩ = some (.slice (some ⟨g, 0, none⟩) n c))) (by kernel_rfl) ?_ (fun hD0 => ?_)
      · (try dsimp only); (first | (go_keep; done) | (go_split_ands; (repeat' apply And.intro) <;> first | (go_keep; done) | (simp [*, zcA, zcP, zfA, zfP]; done) | (simp [zcA, zcP] <;> rfl) | (simp [*, zsS, zsO, zsA]; done) | ((first | refine (hc _ _ ?_).trans ?_ | refine (hf _ _ ?_).trans ?_) <;> first | assumption | (simp; done) | (simp; omega) | omega | (go_keep; done) | (simp [*, zcA, zcP, zfA, zfP]; done) | (simp [zcA, zcP]; rfl)) | (repeat' first | exact zbR _ _ | assumption | refine zbD ?_ | refine zbA ?_ ?_ _ | refine zbS ?_ ?_ _ | refine zbT ?_ (by assumption) ?_ | (simp; done) | (simp; omega) | omega)))
      refine tW ?_ 0 rfl (by kernel_rfl) (fun _ _ _ h => h) (by rfl) (by assumption) ?_ ?_; rotate_left; (focus (intro w hSw; (try dsimp only at hSw); go_simp; try with_reducible rfl)); try simp only [Act.put, zl, z0, z1]
      refine tW ?_ 1 rfl (by kernel_rfl) (fun _ _ _ h => h) (by rfl) (by assumption) ?_ ?_; rotate_left; (focus (intro w hSw; (try dsimp only at hSw); go_simp; try with_reducible rfl)); try simp only [Act.put, zl, z0, z1]
      refine wpAnyH_ready (rs := [2]) (by kernel_rfl) (by simp) ?_; refine consL 2 rfl (fun K hK => ?_) AllReadyH.nil; go_simp
      (go_at_call 88; refine (due_any b m.f.first m.f.next _ _ (by go_split_ands; assumption) (by go_split_ands; assumption) f0 f1 n0 n1 (by omega) (by omega)).mono ?_; rintro e w' ⟨rfl, hb⟩; obtain ⟨hc, hf⟩ := bcell hb; have hz := hb.size; (try simp at hz))
      refine hK.out _ _ ?_ (fun hD1 => ?_)
      · (try dsimp only); (first | (go_keep; done) | (go_split_ands; (repeat' apply And.intro) <;> first | (go_keep; done) | (simp [*, zcA, zcP, zfA, zfP]; done) | (simp [zcA, zcP] <;> rfl) | (simp [*, zsS, zsO, zsA]; done) | ((first | refine (hc _ _ ?_).trans ?_ | refine (hf _ _ ?_).trans ?_) <;> first | assumption | (simp; done) | (simp; omega) | omega | (go_keep; done) | (simp [*, zcA, zcP, zfA, zfP]; done) | (simp [zcA, zcP]; rfl)) | (repeat' first | exact zbR _ _ | assumption | refine zbD ?_ | refine zbA ?_ ?_ _ | refine zbS ?_ ?_ _ | refine zbT ?_ (by assumption) ?_ | (simp; done) | (simp; omega) | omega)))
      clear hK K hD0; try simp only [Act.put, zl, z0, z1]
      refine tW ?_ 3 rfl (by kernel_rfl) (fun _ _ _ h => h) (by rfl) (by assumption) ?_ ?_; rotate_left; (focus (intro w hSw; (try dsimp only at hSw); go_simp; try with_reducible rfl)); try simp only [Act.put, zl, z0, z1]
      refine takeL 4 rfl (by kernel_rfl) (by kernel_rfl) (by kernel_rfl) (fun _ _ _ h => h) (Or.inr ⟨by rfl, rfl⟩) (by assumption) ?_; try simp only [Act.put, zl, z0, z1]
      refine takeL 5 rfl (by kernel_rfl) (by kernel_rfl) (by kernel_rfl) (fun _ _ _ h => h) (Or.inr ⟨by rfl, rfl⟩) (by assumption) ?_; try simp only [Act.put, zl, z0, z1]
      refine takeL 6 rfl (by kernel_rfl) (by kernel_rfl) (by kernel_rfl) (fun _ _ _ h => h) (Or.inr ⟨by rfl, rfl⟩) (by assumption) ?_; try simp only [Act.put, zl, z0, z1]
      refine takeL 7 rfl (by kernel_rfl) (by kernel_rfl) (by kernel_rfl) (fun _ _ _ h => h) (Or.inr ⟨by rfl, rfl⟩) (by assumption) ?_; try simp only [Act.put, zl, z0, z1]
      refine takeL 8 rfl (by kernel_rfl) (by kernel_rfl) (by kernel_rfl) (fun _ _ _ h => h) (Or.inr ⟨by rfl, rfl⟩) (by assumption) ?_; try simp only [Act.put, zl, z0, z1]
      refine takeL 9 rfl (by kernel_rfl) (by kernel_rfl) (by kernel_rfl) (fun _ _ _ h => h) (Or.inr ⟨by rfl, rfl⟩) (by assumption) ?_; try simp only [Act.put, zl, z0, z1]
      refine takeL 10 rfl (by kernel_rfl) (by kernel_rfl) (by kernel_rfl) (fun _ _ _ h => h) (Or.inr ⟨by rfl, rfl⟩) (by assumption) ?_; try simp only [Act.put, zl, z0, z1]
      refine takeL 11 rfl (by kernel_rfl) (by kernel_rfl) (by kernel_rfl) (fun _ _ _ h => h) (Or.inr ⟨by rfl, rfl⟩) (by assumption) ?_; try simp only [Act.put, zl, z0, z1]
      refine takeL 12 rfl (by kernel_rfl) (by kernel_rfl) (by kernel_rfl) (fun _ _ _ h => h) (Or.inr ⟨by rfl, rfl⟩) (by assumption) ?_; try simp only [Act.put, zl, z0, z1]
      refine takeL 13 rfl (by kernel_rfl) (by kernel_rfl) (by kernel_rfl) (fun _ _ _ h => h) (Or.inr ⟨by rfl, rfl⟩) (by assumption) ?_; try simp only [Act.put, zl, z0, z1]
      refine takeL 14 rfl (by kernel_rfl) (by kernel_rfl) (by kernel_rfl) (fun _ _ _ h => h) (Or.inr ⟨by rfl, rfl⟩) (by assumption) ?_; try simp only [Act.put, zl, z0, z1]
      refine takeL 15 rfl (by kernel_rfl) (by kernel_rfl) (by kernel_rfl) (fun _ _ _ h => h) (Or.inr ⟨by rfl, rfl⟩) (by assumption) ?_; try simp only [Act.put, zl, z0, z1]
      refine takeL 16 rfl (by kernel_rfl) (by kernel_rfl) (by kernel_rfl) (fun _ _ _ h => h) (Or.inr ⟨by rfl, rfl⟩) (by assumption) ?_; try simp only [Act.put, zl, z0, z1]
      refine takeL 17 rfl (by kernel_rfl) (by kernel_rfl) (by kernel_rfl) (fun _ _ _ h => h) (Or.inr ⟨by rfl, rfl⟩) (by assumption) ?_; try simp only [Act.put, zl, z0, z1]
      refine takeL 18 rfl (by kernel_rfl) (by kernel_rfl) (by kernel_rfl) (fun _ _ _ h => h) (Or.inr ⟨by rfl, rfl⟩) (by assumption) ?_; try simp only [Act.put, zl, z0, z1]
      refine takeL 19 rfl (by kernel_rfl) (by kernel_rfl) (by kernel_rfl) (fun _ _ _ h => h) (Or.inr ⟨by rfl, rfl⟩) (by assumption) ?_; try simp only [Act.put, zl, z0, z1]
      refine takeL 20 rfl (by kernel_rfl) (by kernel_rfl) (by kernel_rfl) (fun _ _ _ h => h) (Or.inr ⟨by rfl, rfl⟩) (by assumption) ?_; try simp only [Act.put, zl, z0, z1]
      refine tW ?_ 21 rfl (by kernel_rfl) (fun _ _ _ h => h) (by rfl) (by assumption) ?_ ?_; rotate_left; (focus (intro w hSw; (try dsimp only at hSw); go_simp; try with_reducible rfl)); try simp only [Act.put, zl, z0, z1]
      refine tW ?_ 22 rfl (by kernel_rfl) (fun _ _ _ h => h) (by rfl) (by assumption) ?_ ?_; rotate_left; (focus (intro w hSw; (try dsimp only at hSw); go_simp; try with_reducible rfl)); try simp only [Act.put, zl, z0, z1]
      refine wpAnyH_done (by kernel_rfl) ?_ _
      go_wp2
      go_ret
      exact ⟨rfl, by (go_split_ands; (repeat' first | exact zbR _ _ | assumption | refine zbD ?_ | refine zbA ?_ ?_ _ | refine zbS ?_ ?_ _ | refine zbT ?_ (by assumption) ?_ | (simp; done) | (simp; omega) | omega))⟩
    · cases h2 : M.isTie (M.ofSet m.f m.won) m.games
      all_goals
        first
          | (have ho : M.changesB m = true := by (unfold M.changesB; rw [hn]; simp [hd, ht2, h1, h2]; done)
             rw [ho]; clear ho)
          | (have ho : M.changesB m = false := by (unfold M.changesB; rw [hn]; simp [hd, ht2, h1, h2]; done)
             rw [ho]; clear ho)
        go_enter Try.func87, Try.ntmps87
        go_wp2_with (first | (go_at_call 88; refine (due_any b m.f.first m.f.next _ _ (by go_split_ands; assumption) (by go_split_ands; assumption) f0 f1 n0 n1 (by omega) (by omega)).mono ?_; rintro e w1 ⟨rfl, hb⟩; obtain ⟨hc, hf⟩ := bcell hb; have hz := hb.size; (try simp at hz); have hSn : Sx w1 := (by rw [Sxd.out]; (try dsimp only); (first | (go_keep; done) | (go_split_ands; (repeat' apply And.intro) <;> first | (go_keep; done) | (simp [*, zcA, zcP, zfA, zfP]; done) | (simp [zcA, zcP] <;> rfl) | (simp [*, zsS, zsO, zsA]; done) | ((first | refine (hc _ _ ?_).trans ?_ | refine (hf _ _ ?_).trans ?_) <;> first | assumption | (simp; done) | (simp; omega) | omega | (go_keep; done) | (simp [*, zcA, zcP, zfA, zfP]; done) | (simp [zcA, zcP]; rfl)) | (repeat' first | exact zbR _ _ | assumption | refine zbD ?_ | refine zbA ?_ ?_ _ | refine zbS ?_ ?_ _ | refine zbT ?_ (by assumption) ?_ | (simp; done) | (simp; omega) | omega)))); rw [Sxd.out] at hSn; (try dsimp only at hSn); (try clear hS); have hS := hSn; clear hSn hc hf) | (go_at_call 55; refine (ofSet_any m.f m.won _ (by omega) (by omega)).mono ?_; rintro e w1 ⟨rfl, hb⟩; obtain ⟨hc, hf⟩ := bcell hb; have hz := hb.size; (try simp at hz); have hSn : Sx w1 := (by rw [Sxd.out]; (try dsimp only); (first | (go_keep; done) | (go_split_ands; (repeat' apply And.intro) <;> first | (go_keep; done) | (simp [*, zcA, zcP, zfA, zfP]; done) | (simp [zcA, zcP] <;> rfl) | (simp [*, zsS, zsO, zsA]; done) | ((first | refine (hc _ _ ?_).trans ?_ | refine (hf _ _ ?_).trans ?_) <;> first | assumption | (simp; done) | (simp; omega) | omega | (go_keep; done) | (simp [*, zcA, zcP, zfA, zfP]; done) | (simp [zcA, zcP]; rfl)) | (repeat' first | exact zbR _ _ | assumption | refine zbD ?_ | refine zbA ?_ ?_ _ | refine zbS ?_ ?_ _ | refine zbT ?_ (by assumption) ?_ | (simp; done) | (simp; omega) | omega)))); rw [Sxd.out] at hSn; (try dsimp only at hSn); (try clear hS); have hS := hSn; clear hSn hc hf) | (go_at_call 69; refine (isTie_any (M.ofSet m.f m.won) m.games _).mono ?_; rintro e w1 ⟨rfl, hb⟩; obtain ⟨hc, hf⟩ := bcell hb; have hz := hb.size; (try simp at hz); have hSn : Sx w1 := (by rw [Sxd.out]; (try dsimp only); (first | (go_keep; done) | (go_split_ands; (repeat' apply And.intro) <;> first | (go_keep; done) | (simp [*, zcA, zcP, zfA, zfP]; done) | (simp [zcA, zcP] <;> rfl) | (simp [*, zsS, zsO, zsA]; done) | ((first | refine (hc _ _ ?_).trans ?_ | refine (hf _ _ ?_).trans ?_) <;> first | assumption | (simp; done) | (simp; omega) | omega | (go_keep; done) | (simp [*, zcA, zcP, zfA, zfP]; done) | (simp [zcA, zcP]; rfl)) | (repeat' first | exact zbR _ _ | assumption | refine zbD ?_ | refine zbA ?_ ?_ _ | refine zbS ?_ ?_ _ | refine zbT ?_ (by assumption) ?_ | (simp; done) | (simp; omega) | omega)))); rw [Sxd.out] at hSn; (try dsimp only at hSn); (try clear hS); have hS := hSn; clear hSn hc hf))
        refine wp_region_held_drew (S := (fun w' => Below w.heap.size w w' ∧ w'.cell? ⟨b, 0, none⟩ = some (.int .i64 m.f.sets) ∧ w'.cell? ⟨b, 1, none⟩ = some (.int .i64 m.f.games) ∧ w'.cell? ⟨b, 2, none⟩ = some (.bool m.f.noAd) ∧ w'.cell? ⟨b, 3, none⟩ = some (.int .i64 m.f.tie) ∧ w'.cell? ⟨b, 4, none⟩ = some (.int .i64 m.f.to) ∧ w'.cell? ⟨b, 5, none⟩ = some (.int .i64 m.f.lastTie) ∧ w'.cell? ⟨b, 6, none⟩ = some (.int .i64 m.f.lastTo) ∧ w'.cell? ⟨b, 7, none⟩ = some (.int .i64 m.f.first) ∧ w'.cell? ⟨b, 8, none⟩ = some (.int .i64 m.f.next) ∧ w'.cell? ⟨b, 9, none⟩ = some (.bool m.f.doubles) ∧ w'.cell? ⟨b, 10, none⟩ = some (sv) ∧ w'.cell? ⟨b, 11, none⟩ = some (.int .i64 m.games.A) ∧ w'.cell? ⟨b, 12, none⟩ = some (.int .i64 m.games.B) ∧ w'.cell? ⟨b, 13, none⟩ = some (.int .i64 m.pts.A) ∧ w'.cell? ⟨b, 14, none⟩ = some (.int .i64 m.pts.B) ∧ w'.cell? ⟨b, 15, none⟩ = some (.int .i64 m.server) ∧ w'.cell? ⟨b, 16, none⟩ = some (.int .i64 m.ends) ∧ w'.cell? ⟨b, 17, none⟩ = some (.int .i64 m.balls) ∧ w'.cell? ⟨b, 18, none⟩ = some (.int .i64 m.winner) ∧ w'.cell? ⟨b, 19, none⟩ = some (.int .i64 m.opens) ∧ w'.cell? ⟨b, 20, none⟩ = some (.int .i64 m.won.A) ∧ w'.cell? ⟨b, 21, none⟩ = some (.int .i64 m.won.B) ∧ w'.cell? ⟨b, 22, none⟩ = some (.bool m.fresh) ∧ w'.cell? ⟨b, 23, none⟩ = some (.slice (some ⟨g, 0, none⟩) n c))) (by kernel_rfl) ?_ (fun hD0 => ?_)
        · (try dsimp only); (first | (go_keep; done) | (go_split_ands; (repeat' apply And.intro) <;> first | (go_keep; done) | (simp [*, zcA, zcP, zfA, zfP]; done) | (simp [zcA, zcP] <;> rfl) | (simp [*, zsS, zsO, zsA]; done) | ((first | refine (hc _ _ ?_).trans ?_ | refine (hf _ _ ?_).trans ?_) <;> first | assumption | (simp; done) | (simp; omega) | omega | (go_keep; done) | (simp [*, zcA, zcP, zfA, zfP]; done) | (simp [zcA, zcP]; rfl)) | (repeat' first | exact zbR _ _ | assumption | refine zbD ?_ | refine zbA ?_ ?_ _ | refine zbS ?_ ?_ _ | refine zbT ?_ (by assumption) ?_ | (simp; done) | (simp; omega) | omega)))
        refine tW ?_ 0 rfl (by kernel_rfl) (fun _ _ _ h => h) (by rfl) (by assumption) ?_ ?_; rotate_left; (focus (intro w hSw; (try dsimp only at hSw); go_simp; try with_reducible rfl)); try simp only [Act.put, zl, z0, z1]
        refine tW ?_ 1 rfl (by kernel_rfl) (fun _ _ _ h => h) (by rfl) (by assumption) ?_ ?_; rotate_left; (focus (intro w hSw; (try dsimp only at hSw); go_simp; try with_reducible rfl)); try simp only [Act.put, zl, z0, z1]
        refine wpAnyH_ready (rs := [2]) (by kernel_rfl) (by simp) ?_; refine consL 2 rfl (fun K hK => ?_) AllReadyH.nil; go_simp
        (go_at_call 88; refine (due_any b m.f.first m.f.next _ _ (by go_split_ands; assumption) (by go_split_ands; assumption) f0 f1 n0 n1 (by omega) (by omega)).mono ?_; rintro e w' ⟨rfl, hb⟩; obtain ⟨hc, hf⟩ := bcell hb; have hz := hb.size; (try simp at hz))
        refine hK.out _ _ ?_ (fun hD1 => ?_)
        · (try dsimp only); (first | (go_keep; done) | (go_split_ands; (repeat' apply And.intro) <;> first | (go_keep; done) | (simp [*, zcA, zcP, zfA, zfP]; done) | (simp [zcA, zcP] <;> rfl) | (simp [*, zsS, zsO, zsA]; done) | ((first | refine (hc _ _ ?_).trans ?_ | refine (hf _ _ ?_).trans ?_) <;> first | assumption | (simp; done) | (simp; omega) | omega | (go_keep; done) | (simp [*, zcA, zcP, zfA, zfP]; done) | (simp [zcA, zcP]; rfl)) | (repeat' first | exact zbR _ _ | assumption | refine zbD ?_ | refine zbA ?_ ?_ _ | refine zbS ?_ ?_ _ | refine zbT ?_ (by assumption) ?_ | (simp; done) | (simp; omega) | omega)))
        clear hK K hD0; try simp only [Act.put, zl, z0, z1]
        refine tW ?_ 3 rfl (by kernel_rfl) (fun _ _ _ h => h) (by rfl) (by assumption) ?_ ?_; rotate_left; (focus (intro w hSw; (try dsimp only at hSw); go_simp; try with_reducible rfl)); try simp only [Act.put, zl, z0, z1]
        refine tW ?_ 4 rfl (by kernel_rfl) (fun _ _ _ h => h) (by rfl) (by assumption) ?_ ?_; rotate_left; (focus (intro w hSw; (try dsimp only at hSw); go_simp; try with_reducible rfl)); try simp only [Act.put, zl, z0, z1]
        refine tW ?_ 5 rfl (by kernel_rfl) (fun _ _ _ h => h) (by rfl) (by assumption) ?_ ?_; rotate_left; (focus (intro w hSw; (try dsimp only at hSw); go_simp; try with_reducible rfl)); try simp only [Act.put, zl, z0, z1]
        refine tW ?_ 6 rfl (by kernel_rfl) (fun _ _ _ h => h) (by rfl) (by assumption) ?_ ?_; rotate_left; (focus (intro w hSw; (try dsimp only at hSw); go_simp; try with_reducible rfl)); try simp only [Act.put, zl, z0, z1]
        refine tW ?_ 7 rfl (by kernel_rfl) (fun _ _ _ h => h) (by rfl) (by assumption) ?_ ?_; rotate_left; (focus (intro w hSw; (try dsimp only at hSw); go_simp; try with_reducible rfl)); try simp only [Act.put, zl, z0, z1]
        refine tW ?_ 8 rfl (by kernel_rfl) (fun _ _ _ h => h) (by rfl) (by assumption) ?_ ?_; rotate_left; (focus (intro w hSw; (try dsimp only at hSw); go_simp; try with_reducible rfl)); try simp only [Act.put, zl, z0, z1]
        refine tW ?_ 9 rfl (by kernel_rfl) (fun _ _ _ h => h) (by rfl) (by assumption) ?_ ?_; rotate_left; (focus (intro w hSw; (try dsimp only at hSw); go_simp; try with_reducible rfl)); try simp only [Act.put, zl, z0, z1]
        refine tW ?_ 10 rfl (by kernel_rfl) (fun _ _ _ h => h) (by rfl) (by assumption) ?_ ?_; rotate_left; (focus (intro w hSw; (try dsimp only at hSw); go_simp; try with_reducible rfl)); try simp only [Act.put, zl, z0, z1]
        refine tW ?_ 11 rfl (by kernel_rfl) (fun _ _ _ h => h) (by rfl) (by assumption) ?_ ?_; rotate_left; (focus (intro w hSw; (try dsimp only at hSw); go_simp; try with_reducible rfl)); try simp only [Act.put, zl, z0, z1]
        refine tW ?_ 13 rfl (by kernel_rfl) (fun _ _ _ h => h) (by rfl) (by assumption) ?_ ?_; rotate_left; (focus (intro w hSw; (try dsimp only at hSw); go_simp; try with_reducible rfl)); try simp only [Act.put, zl, z0, z1]
        refine tW ?_ 14 rfl (by kernel_rfl) (fun _ _ _ h => h) (by rfl) (by assumption) ?_ ?_; rotate_left; (focus (intro w hSw; (try dsimp only at hSw); go_simp; try with_reducible rfl)); try simp only [Act.put, zl, z0, z1]
        refine tW ?_ 15 rfl (by kernel_rfl) (fun _ _ _ h => h) (by rfl) (by assumption) ?_ ?_; rotate_left; (focus (intro w hSw; (try dsimp only at hSw); go_simp; try with_reducible rfl)); try simp only [Act.put, zl, z0, z1]
        refine tW ?_ 16 rfl (by kernel_rfl) (fun _ _ _ h => h) (by rfl) (by assumption) ?_ ?_; rotate_left; (focus (intro w hSw; (try dsimp only at hSw); go_simp; try with_reducible rfl)); try simp only [Act.put, zl, z0, z1]
        refine tW ?_ 17 rfl (by kernel_rfl) (fun _ _ _ h => h) (by rfl) (by assumption) ?_ ?_; rotate_left; (focus (intro w hSw; (try dsimp only at hSw); go_simp; try with_reducible rfl)); try simp only [Act.put, zl, z0, z1]
        refine tW ?_ 18 rfl (by kernel_rfl) (fun _ _ _ h => h) (by rfl) (by assumption) ?_ ?_; rotate_left; (focus (intro w hSw; (try dsimp only at hSw); go_simp; try with_reducible rfl)); try simp only [Act.put, zl, z0, z1]
        refine wpAnyH_ready (rs := [12]) (by kernel_rfl) (by simp) ?_; refine consL 12 rfl (fun K hK => ?_) AllReadyH.nil; go_simp
        (go_at_call 55; refine (ofSet_any m.f m.won _ (by omega) (by omega)).mono ?_; rintro e w' ⟨rfl, hb⟩; obtain ⟨hc, hf⟩ := bcell hb; have hz := hb.size; (try simp at hz))
        refine hK.out _ _ ?_ (fun hD2 => ?_)
        · (try dsimp only); (first | (go_keep; done) | (go_split_ands; (repeat' apply And.intro) <;> first | (go_keep; done) | (simp [*, zcA, zcP, zfA, zfP]; done) | (simp [zcA, zcP] <;> rfl) | (simp [*, zsS, zsO, zsA]; done) | ((first | refine (hc _ _ ?_).trans ?_ | refine (hf _ _ ?_).trans ?_) <;> first | assumption | (simp; done) | (simp; omega) | omega | (go_keep; done) | (simp [*, zcA, zcP, zfA, zfP]; done) | (simp [zcA, zcP]; rfl)) | (repeat' first | exact zbR _ _ | assumption | refine zbD ?_ | refine zbA ?_ ?_ _ | refine zbS ?_ ?_ _ | refine zbT ?_ (by assumption) ?_ | (simp; done) | (simp; omega) | omega)))
        clear hK K hD1; try simp only [Act.put, zl, z0, z1]
        refine wpAnyH_ready (rs := [19]) (by kernel_rfl) (by simp) ?_; refine consL 19 rfl (fun K hK => ?_) AllReadyH.nil; go_simp
        (go_at_call 69; refine (isTie_any (M.ofSet m.f m.won) m.games _).mono ?_; rintro e w' ⟨rfl, hb⟩; obtain ⟨hc, hf⟩ := bcell hb; have hz := hb.size; (try simp at hz))
        refine hK.out _ _ ?_ (fun hD3 => ?_)
        · (try dsimp only); (first | (go_keep; done) | (go_split_ands; (repeat' apply And.intro) <;> first | (go_keep; done) | (simp [*, zcA, zcP, zfA, zfP]; done) | (simp [zcA, zcP] <;> rfl) | (simp [*, zsS, zsO, zsA]; done) | ((first | refine (hc _ _ ?_).trans ?_ | refine (hf _ _ ?_).trans ?_) <;> first | assumption | (simp; done) | (simp; omega) | omega | (go_keep; done) | (simp [*, zcA, zcP, zfA, zfP]; done) | (simp [zcA, zcP]; rfl)) | (repeat' first | exact zbR _ _ | assumption | refine zbD ?_ | refine zbA ?_ ?_ _ | refine zbS ?_ ?_ _ | refine zbT ?_ (by assumption) ?_ | (simp; done) | (simp; omega) | omega)))
        clear hK K hD2; try simp only [Act.put, zl, z0, z1]
        refine tW ?_ 20 rfl (by kernel_rfl) (fun _ _ _ h => h) (by rfl) (by assumption) ?_ ?_; rotate_left; (focus (intro w hSw; (try dsimp only at hSw); go_simp; try with_reducible rfl)); try simp only [Act.put, zl, z0, z1]
        refine tW ?_ 21 rfl (by kernel_rfl) (fun _ _ _ h => h) (by rfl) (by assumption) ?_ ?_; rotate_left; (focus (intro w hSw; (try dsimp only at hSw); go_simp; try with_reducible rfl)); try simp only [Act.put, zl, z0, z1]
        refine tW ?_ 22 rfl (by kernel_rfl) (fun _ _ _ h => h) (by rfl) (by assumption) ?_ ?_; rotate_left; (focus (intro w hSw; (try dsimp only at hSw); go_simp; try with_reducible rfl)); try simp only [Act.put, zl, z0, z1]
        refine wpAnyH_done (by kernel_rfl) ?_ _
        go_wp2
        go_ret
        exact ⟨rfl, by (go_split_ands; (repeat' first | exact zbR _ _ | assumption | refine zbD ?_ | refine zbA ?_ ?_ _ | refine zbS ?_ ?_ _ | refine zbT ?_ (by assumption) ?_ | (simp; done) | (simp; omega) | omega))⟩

  · rw [ht2] at ht
    cases hd2 : M.dueB m.f.first m.f.next ((n : Int) - 2)
    · skip
      cases h1 : M.dueB m.f.first m.f.next n
      · have ho : M.changesB m = false := by unfold M.changesB; rw [hn]; simp [hd, ht2, hd2, h1]
        rw [ho]; clear ho
        go_enter Try.func87, Try.ntmps87
        go_wp2_with (first | (go_at_call 88; refine (due_any b m.f.first m.f.next _ _ (by go_split_ands; assumption) (by go_split_ands; assumption) f0 f1 n0 n1 (by omega) (by omega)).mono ?_; rintro e w1 ⟨rfl, hb⟩; obtain ⟨hc, hf⟩ := bcell hb; have hz := hb.size; (try simp at hz); have hSn : Sx w1 := (by rw [Sxd.out]; (try dsimp only); (first | (go_keep; done) | (go_split_ands; (repeat' apply And.intro) <;> first | (go_keep; done) | (simp [*, zcA, zcP, zfA, zfP]; done) | (simp [zcA, zcP] <;> rfl) | (simp [*, zsS, zsO, zsA]; done) | ((first | refine (hc _ _ ?_).trans ?_ | refine (hf _ _ ?_).trans ?_) <;> first | assumption | (simp; done) | (simp; omega) | omega | (go_keep; done) | (simp [*, zcA, zcP, zfA, zfP]; done) | (simp [zcA, zcP]; rfl)) | (repeat' first | exact zbR _ _ | assumption | refine zbD ?_ | refine zbA ?_ ?_ _ | refine zbS ?_ ?_ _ | refine zbT ?_ (by assumption) ?_ | (simp; done) | (simp; omega) | omega)))); rw [Sxd.out] at hSn; (try dsimp only at hSn); (try clear hS); have hS := hSn; clear hSn hc hf) | (go_at_call 55; refine (ofSet_any m.f m.won _ (by omega) (by omega)).mono ?_; rintro e w1 ⟨rfl, hb⟩; obtain ⟨hc, hf⟩ := bcell hb; have hz := hb.size; (try simp at hz); have hSn : Sx w1 := (by rw [Sxd.out]; (try dsimp only); (first | (go_keep; done) | (go_split_ands; (repeat' apply And.intro) <;> first | (go_keep; done) | (simp [*, zcA, zcP, zfA, zfP]; done) | (simp [zcA, zcP] <;> rfl) | (simp [*, zsS, zsO, zsA]; done) | ((first | refine (hc _ _ ?_).trans ?_ | refine (hf _ _ ?_).trans ?_) <;> first | assumption | (simp; done) | (simp; omega) | omega | (go_keep; done) | (simp [*, zcA, zcP, zfA, zfP]; done) | (simp [zcA, zcP]; rfl)) | (repeat' first | exact zbR _ _ | assumption | refine zbD ?_ | refine zbA ?_ ?_ _ | refine zbS ?_ ?_ _ | refine zbT ?_ (by assumption) ?_ | (simp; done) | (simp; omega) | omega)))); rw [Sxd.out] at hSn; (try dsimp only at hSn); (try clear hS); have hS := hSn; clear hSn hc hf) | (go_at_call 69; refine (isTie_any (M.ofSet m.f m.won) m.games _).mono ?_; rintro e w1 ⟨rfl, hb⟩; obtain ⟨hc, hf⟩ := bcell hb; have hz := hb.size; (try simp at hz); have hSn : Sx w1 := (by rw [Sxd.out]; (try dsimp only); (first | (go_keep; done) | (go_split_ands; (repeat' apply And.intro) <;> first | (go_keep; done) | (simp [*, zcA, zcP, zfA, zfP]; done) | (simp [zcA, zcP] <;> rfl) | (simp [*, zsS, zsO, zsA]; done) | ((first | refine (hc _ _ ?_).trans ?_ | refine (hf _ _ ?_).trans ?_) <;> first | assumption | (simp; done) | (simp; omega) | omega | (go_keep; done) | (simp [*, zcA, zcP, zfA, zfP]; done) | (simp [zcA, zcP]; rfl)) | (repeat' first | exact zbR _ _ | assumption | refine zbD ?_ | refine zbA ?_ ?_ _ | refine zbS ?_ ?_ _ | refine zbT ?_ (by assumption) ?_ | (simp; done) | (simp; omega) | omega)))); rw [Sxd.out] at hSn; (try dsimp only at hSn); (try clear hS); have hS := hSn; clear hSn hc hf))
        refine wp_region_held_drew (S := (fun w' => Below w.heap.size w w' ∧ w'.cell? ⟨b, 0, none⟩ = some (.int .i64 m.f.sets) ∧ w'.cell? ⟨b, 1, none⟩ = some (.int .i64 m.f.games) ∧ w'.cell? ⟨b, 2, none⟩ = some (.bool m.f.noAd) ∧ w'.cell? ⟨b, 3, none⟩ = some (.int .i64 m.f.tie) ∧ w'.cell? ⟨b, 4, none⟩ = some (.int .i64 m.f.to) ∧ w'.cell? ⟨b, 5, none⟩ = some (.int .i64 m.f.lastTie) ∧ w'.cell? ⟨b, 6, none⟩ = some (.int .i64 m.f.lastTo) ∧ w'.cell? ⟨b, 7, none⟩ = some (.int .i64 m.f.first) ∧ w'.cell? ⟨b, 8, none⟩ = some (.int .i64 m.f.next) ∧ w'.cell? ⟨b, 9, none⟩ = some (.bool m.f.doubles) ∧ w'.cell? ⟨b, 10, none⟩ = some (sv) ∧ w'.cell? ⟨b, 11, none⟩ = some (.int .i64 m.games.A) ∧ w'.cell? ⟨b, 12, none⟩ = some (.int .i64 m.games.B) ∧ w'.cell? ⟨b, 13, none⟩ = some (.int .i64 m.pts.A) ∧ w'.cell? ⟨b, 14, none⟩ = some (.int .i64 m.pts.B) ∧ w'.cell? ⟨b, 15, none⟩ = some (.int .i64 m.server) ∧ w'.cell? ⟨b, 16, none⟩ = some (.int .i64 m.ends) ∧ w'.cell? ⟨b, 17, none⟩ = some (.int .i64 m.balls) ∧ w'.cell? ⟨b, 18, none⟩ = some (.int .i64 m.winner) ∧ w'.cell? ⟨b, 19, none⟩ = some (.int .i64 m.opens) ∧ w'.cell? ⟨b, 20, none⟩ = some (.int .i64 m.won.A) ∧ w'.cell? ⟨b, 21, none⟩ = some (.int .i64 m.won.B) ∧ w'.cell? ⟨b, 22, none⟩ = some (.bool m.fresh) ∧ w'.cell? ⟨b, 23, none⟩ = some (.slice (some ⟨g, 0, none⟩) n c))) (by kernel_rfl) ?_ (fun hD0 => ?_)
        · (try dsimp only); (first | (go_keep; done) | (go_split_ands; (repeat' apply And.intro) <;> first | (go_keep; done) | (simp [*, zcA, zcP, zfA, zfP]; done) | (simp [zcA, zcP] <;> rfl) | (simp [*, zsS, zsO, zsA]; done) | ((first | refine (hc _ _ ?_).trans ?_ | refine (hf _ _ ?_).trans ?_) <;> first | assumption | (simp; done) | (simp; omega) | omega | (go_keep; done) | (simp [*, zcA, zcP, zfA, zfP]; done) | (simp [zcA, zcP]; rfl)) | (repeat' first | exact zbR _ _ | assumption | refine zbD ?_ | refine zbA ?_ ?_ _ | refine zbS ?_ ?_ _ | refine zbT ?_ (by assumption) ?_ | (simp; done) | (simp; omega) | omega)))
        refine tW ?_ 0 rfl (by kernel_rfl) (fun _ _ _ h => h) (by rfl) (by assumption) ?_ ?_; rotate_left; (focus (intro w hSw; (try dsimp only at hSw); go_simp; try with_reducible rfl)); try simp only [Act.put, zl, z0, z1]
        refine tW ?_ 1 rfl (by kernel_rfl) (fun _ _ _ h => h) (by rfl) (by assumption) ?_ ?_; rotate_left; (focus (intro w hSw; (try dsimp only at hSw); go_simp; try with_reducible rfl)); try simp only [Act.put, zl, z0, z1]
        refine wpAnyH_ready (rs := [2]) (by kernel_rfl) (by simp) ?_; refine consL 2 rfl (fun K hK => ?_) AllReadyH.nil; go_simp
        (go_at_call 88; refine (due_any b m.f.first m.f.next _ _ (by go_split_ands; assumption) (by go_split_ands; assumption) f0 f1 n0 n1 (by omega) (by omega)).mono ?_; rintro e w' ⟨rfl, hb⟩; obtain ⟨hc, hf⟩ := bcell hb; have hz := hb.size; (try simp at hz))
        refine hK.out _ _ ?_ (fun hD1 => ?_)
        · (try dsimp only); (first | (go_keep; done) | (go_split_ands; (repeat' apply And.intro) <;> first | (go_keep; done) | (simp [*, zcA, zcP, zfA, zfP]; done) | (simp [zcA, zcP] <;> rfl) | (simp [*, zsS, zsO, zsA]; done) | ((first | refine (hc _ _ ?_).trans ?_ | refine (hf _ _ ?_).trans ?_) <;> first | assumption | (simp; done) | (simp; omega) | omega | (go_keep; done) | (simp [*, zcA, zcP, zfA, zfP]; done) | (simp [zcA, zcP]; rfl)) | (repeat' first | exact zbR _ _ | assumption | refine zbD ?_ | refine zbA ?_ ?_ _ | refine zbS ?_ ?_ _ | refine zbT ?_ (by assumption) ?_ | (simp; done) | (simp; omega) | omega)))
        clear hK K hD0; try simp only [Act.put, zl, z0, z1]
        refine tW ?_ 3 rfl (by kernel_rfl) (fun _ _ _ h => h) (by rfl) (by assumption) ?_ ?_; rotate_left; (focus (intro w hSw; (try dsimp only at hSw); go_simp; try with_reducible rfl)); try simp only [Act.put, zl, z0, z1]
        refine takeL 4 rfl (by kernel_rfl) (by kernel_rfl) (by kernel_rfl) (fun _ _ _ h => h) (Or.inr ⟨by rfl, rfl⟩) (by assumption) ?_; try simp only [Act.put, zl, z0, z1]
        refine takeL 5 rfl (by kernel_rfl) (by kernel_rfl) (by kernel_rfl) (fun _ _ _ h => h) (Or.inr ⟨by rfl, rfl⟩) (by assumption) ?_; try simp only [Act.put, zl, z0, z1]
        refine takeL 6 rfl (by kernel_rfl) (by kernel_rfl) (by kernel_rfl) (fun _ _ _ h => h) (Or.inr ⟨by rfl, rfl⟩) (by assumption) ?_; try simp only [Act.put, zl, z0, z1]
        refine takeL 7 rfl (by kernel_rfl) (by kernel_rfl) (by kernel_rfl) (fun _ _ _ h => h) (Or.inr ⟨by rfl, rfl⟩) (by assumption) ?_; try simp only [Act.put, zl, z0, z1]
        refine takeL 8 rfl (by kernel_rfl) (by kernel_rfl) (by kernel_rfl) (fun _ _ _ h => h) (Or.inr ⟨by rfl, rfl⟩) (by assumption) ?_; try simp only [Act.put, zl, z0, z1]
        refine takeL 9 rfl (by kernel_rfl) (by kernel_rfl) (by kernel_rfl) (fun _ _ _ h => h) (Or.inr ⟨by rfl, rfl⟩) (by assumption) ?_; try simp only [Act.put, zl, z0, z1]
        refine takeL 10 rfl (by kernel_rfl) (by kernel_rfl) (by kernel_rfl) (fun _ _ _ h => h) (Or.inr ⟨by rfl, rfl⟩) (by assumption) ?_; try simp only [Act.put, zl, z0, z1]
        refine takeL 11 rfl (by kernel_rfl) (by kernel_rfl) (by kernel_rfl) (fun _ _ _ h => h) (Or.inr ⟨by rfl, rfl⟩) (by assumption) ?_; try simp only [Act.put, zl, z0, z1]
        refine takeL 12 rfl (by kernel_rfl) (by kernel_rfl) (by kernel_rfl) (fun _ _ _ h => h) (Or.inr ⟨by rfl, rfl⟩) (by assumption) ?_; try simp only [Act.put, zl, z0, z1]
        refine takeL 13 rfl (by kernel_rfl) (by kernel_rfl) (by kernel_rfl) (fun _ _ _ h => h) (Or.inr ⟨by rfl, rfl⟩) (by assumption) ?_; try simp only [Act.put, zl, z0, z1]
        refine takeL 14 rfl (by kernel_rfl) (by kernel_rfl) (by kernel_rfl) (fun _ _ _ h => h) (Or.inr ⟨by rfl, rfl⟩) (by assumption) ?_; try simp only [Act.put, zl, z0, z1]
        refine takeL 15 rfl (by kernel_rfl) (by kernel_rfl) (by kernel_rfl) (fun _ _ _ h => h) (Or.inr ⟨by rfl, rfl⟩) (by assumption) ?_; try simp only [Act.put, zl, z0, z1]
        refine takeL 16 rfl (by kernel_rfl) (by kernel_rfl) (by kernel_rfl) (fun _ _ _ h => h) (Or.inr ⟨by rfl, rfl⟩) (by assumption) ?_; try simp only [Act.put, zl, z0, z1]
        refine takeL 17 rfl (by kernel_rfl) (by kernel_rfl) (by kernel_rfl) (fun _ _ _ h => h) (Or.inr ⟨by rfl, rfl⟩) (by assumption) ?_; try simp only [Act.put, zl, z0, z1]
        refine takeL 18 rfl (by kernel_rfl) (by kernel_rfl) (by kernel_rfl) (fun _ _ _ h => h) (Or.inr ⟨by rfl, rfl⟩) (by assumption) ?_; try simp only [Act.put, zl, z0, z1]
        refine takeL 19 rfl (by kernel_rfl) (by kernel_rfl) (by kernel_rfl) (fun _ _ _ h => h) (Or.inr ⟨by rfl, rfl⟩) (by assumption) ?_; try simp only [Act.put, zl, z0, z1]
        refine takeL 20 rfl (by kernel_rfl) (by kernel_rfl) (by kernel_rfl) (fun _ _ _ h => h) (Or.inr ⟨by rfl, rfl⟩) (by assumption) ?_; try simp only [Act.put, zl, z0, z1]
        refine tW ?_ 21 rfl (by kernel_rfl) (fun _ _ _ h => h) (by rfl) (by assumption) ?_ ?_; rotate_left; (focus (intro w hSw; (try dsimp only at hSw); go_simp; try with_reducible rfl)); try simp only [Act.put, zl, z0, z1]
        refine tW ?_ 22 rfl (by kernel_rfl) (fun _ _ _ h => h) (by rfl) (by assumption) ?_ ?_; rotate_left; (focus (intro w hSw; (try dsimp only at hSw); go_simp; try with_reducible rfl)); try simp only [Act.put, zl, z0, z1]
        refine wpAnyH_done (by kernel_rfl) ?_ _
        go_wp2
        go_ret
        exact ⟨rfl, by (go_split_ands; (repeat' first | exact zbR _ _ | assumption | refine zbD ?_ | refine zbA ?_ ?_ _ | refine zbS ?_ ?_ _ | refine zbT ?_ (by assumption) ?_ | (simp; done) | (simp; omega) | omega))⟩
      · cases h2 : M.isTie (M.ofSet m.f m.won) m.games
        all_goals
          first
            | (have ho : M.changesB m = true := by (unfold M.changesB; rw [hn]; simp [hd, ht2, hd2, h1, h2]; done)
               rw [ho]; clear ho)
            | (have ho : M.changesB m = false := by (unfold M.changesB; rw [hn]; simp [hd, ht2, hd2, h1, h2]; done)
               rw [ho]; clear ho)
          go_enter Try.func87, Try.ntmps87
          go_wp2_with (first | (go_at_call 88; refine (due_any b m.f.first m.f.next _ _ (by go_split_ands; assumption) (by go_split_ands; assumption) f0 f1 n0 n1 (by omega) (by omega)).mono ?_; rintro e w1 ⟨rfl, hb⟩; obtain ⟨hc, hf⟩ := bcell hb; have hz := hb.size; (try simp at hz); have hSn : Sx w1 := (by rw [Sxd.out]; (try dsimp only); (first | (go_keep; done) | (go_split_ands; (repeat' apply And.intro) <;> first | (go_keep; done) | (simp [*, zcA, zcP, zfA, zfP]; done) | (simp [zcA, zcP] <;> rfl) | (simp [*, zsS, zsO, zsA]; done) | ((first | refine (hc _ _ ?_).trans ?_ | refine (hf _ _ ?_).trans ?_) <;> first | assumption | (simp; done) | (simp; omega) | omega | (go_keep; done) | (simp [*, zcA, zcP, zfA, zfP]; done) | (simp [zcA, zcP]; rfl)) | (repeat' first | exact zbR _ _ | assumption | refine zbD ?_ | refine zbA ?_ ?_ _ | refine zbS ?_ ?_ _ | refine zbT ?_ (by assumption) ?_ | (simp; done) | (simp; omega) | omega)))); rw [Sxd.out] at hSn; (try dsimp only at hSn); (try clear hS); have hS := hSn; clear hSn hc hf) | (go_at_call 55; refine (ofSet_any m.f m.won _ (by omega) (by omega)).mono ?_; rintro e w1 ⟨rfl, hb⟩; obtain ⟨hc, hf⟩ := bcell hb; have hz := hb.size; (try simp at hz); have hSn : Sx w1 := (by rw [Sxd.out]; (try dsimp only); (first | (go_keep; done) | (go_split_ands; (repeat' apply And.intro) <;> first | (go_keep; done) | (simp [*, zcA, zcP, zfA, zfP]; done) | (simp [zcA, zcP] <;> rfl) | (simp [*, zsS, zsO, zsA]; done) | ((first | refine (hc _ _ ?_).trans ?_ | refine (hf _ _ ?_).trans ?_) <;> first | assumption | (simp; done) | (simp; omega) | omega | (go_keep; done) | (simp [*, zcA, zcP, zfA, zfP]; done) | (simp [zcA, zcP]; rfl)) | (repeat' first | exact zbR _ _ | assumption | refine zbD ?_ | refine zbA ?_ ?_ _ | refine zbS ?_ ?_ _ | refine zbT ?_ (by assumption) ?_ | (simp; done) | (simp; omega) | omega)))); rw [Sxd.out] at hSn; (try dsimp only at hSn); (try clear hS); have hS := hSn; clear hSn hc hf) | (go_at_call 69; refine (isTie_any (M.ofSet m.f m.won) m.games _).mono ?_; rintro e w1 ⟨rfl, hb⟩; obtain ⟨hc, hf⟩ := bcell hb; have hz := hb.size; (try simp at hz); have hSn : Sx w1 := (by rw [Sxd.out]; (try dsimp only); (first | (go_keep; done) | (go_split_ands; (repeat' apply And.intro) <;> first | (go_keep; done) | (simp [*, zcA, zcP, zfA, zfP]; done) | (simp [zcA, zcP] <;> rfl) | (simp [*, zsS, zsO, zsA]; done) | ((first | refine (hc _ _ ?_).trans ?_ | refine (hf _ _ ?_).trans ?_) <;> first | assumption | (simp; done) | (simp; omega) | omega | (go_keep; done) | (simp [*, zcA, zcP, zfA, zfP]; done) | (simp [zcA, zcP]; rfl)) | (repeat' first | exact zbR _ _ | assumption | refine zbD ?_ | refine zbA ?_ ?_ _ | refine zbS ?_ ?_ _ | refine zbT ?_ (by assumption) ?_ | (simp; done) | (simp; omega) | omega)))); rw [Sxd.out] at hSn; (try dsimp only at hSn); (try clear hS); have hS := hSn; clear hSn hc hf))
          refine wp_region_held_drew (S := (fun w' => Below w.heap.size w w' ∧ w'.cell? ⟨b, 0, none⟩ = some (.int .i64 m.f.sets) ∧ w'.cell? ⟨b, 1, none⟩ = some (.int .i64 m.f.games) ∧ w'.cell? ⟨b, 2, none⟩ = some (.bool m.f.noAd) ∧ w'.cell? ⟨b, 3, none⟩ = some (.int .i64 m.f.tie) ∧ w'.cell? ⟨b, 4, none⟩ = some (.int .i64 m.f.to) ∧ w'.cell? ⟨b, 5, none⟩ = some (.int .i64 m.f.lastTie) ∧ w'.cell? ⟨b, 6, none⟩ = some (.int .i64 m.f.lastTo) ∧ w'.cell? ⟨b, 7, none⟩ = some (.int .i64 m.f.first) ∧ w'.cell? ⟨b, 8, none⟩ = some (.int .i64 m.f.next) ∧ w'.cell? ⟨b, 9, none⟩ = some (.bool m.f.doubles) ∧ w'.cell? ⟨b, 10, none⟩ = some (sv) ∧ w'.cell? ⟨b, 11, none⟩ = some (.int .i64 m.games.A) ∧ w'.cell? ⟨b, 12, none⟩ = some (.int .i64 m.games.B) ∧ w'.cell? ⟨b, 13, none⟩ = some (.int .i64 m.pts.A) ∧ w'.cell? ⟨b, 14, none⟩ = some (.int .i64 m.pts.B) ∧ w'.cell? ⟨b, 15, none⟩ = some (.int .i64 m.server) ∧ w'.cell? ⟨b, 16, none⟩ = some (.int .i64 m.ends) ∧ w'.cell? ⟨b, 17, none⟩ = some (.int .i64 m.balls) ∧ w'.cell? ⟨b, 18, none⟩ = some (.int .i64 m.winner) ∧ w'.cell? ⟨b, 19, none⟩ = some (.int .i64 m.opens) ∧ w'.cell? ⟨b, 20, none⟩ = some (.int .i64 m.won.A) ∧ w'.cell? ⟨b, 21, none⟩ = some (.int .i64 m.won.B) ∧ w'.cell? ⟨b, 22, none⟩ = some (.bool m.fresh) ∧ w'.cell? ⟨b, 23, none⟩ = some (.slice (some ⟨g, 0, none⟩) n c))) (by kernel_rfl) ?_ (fun hD0 => ?_)
          · (try dsimp only); (first | (go_keep; done) | (go_split_ands; (repeat' apply And.intro) <;> first | (go_keep; done) | (simp [*, zcA, zcP, zfA, zfP]; done) | (simp [zcA, zcP] <;> rfl) | (simp [*, zsS, zsO, zsA]; done) | ((first | refine (hc _ _ ?_).trans ?_ | refine (hf _ _ ?_).trans ?_) <;> first | assumption | (simp; done) | (simp; omega) | omega | (go_keep; done) | (simp [*, zcA, zcP, zfA, zfP]; done) | (simp [zcA, zcP]; rfl)) | (repeat' first | exact zbR _ _ | assumption | refine zbD ?_ | refine zbA ?_ ?_ _ | refine zbS ?_ ?_ _ | refine zbT ?_ (by assumption) ?_ | (simp; done) | (simp; omega) | omega)))
          refine tW ?_ 0 rfl (by kernel_rfl) (fun _ _ _ h => h) (by rfl) (by assumption) ?_ ?_; rotate_left; (focus (intro w hSw; (try dsimp only at hSw); go_simp; try with_reducible rfl)); try simp only [Act.put, zl, z0, z1]
          refine tW ?_ 1 rfl (by kernel_rfl) (fun _ _ _ h => h) (by rfl) (by assumption) ?_ ?_; rotate_left; (focus (intro w hSw; (try dsimp only at hSw); go_simp; try with_reducible rfl)); try simp only [Act.put, zl, z0, z1]
          refine wpAnyH_ready (rs := [2]) (by kernel_rfl) (by simp) ?_; refine consL 2 rfl (fun K hK => ?_) AllReadyH.nil; go_simp
          (go_at_call 88; refine (due_any b m.f.first m.f.next _ _ (by go_split_ands; assumption) (by go_split_ands; assumption) f0 f1 n0 n1 (by omega) (by omega)).mono ?_; rintro e w' ⟨rfl, hb⟩; obtain ⟨hc, hf⟩ := bcell hb; have hz := hb.size; (try simp at hz))
          refine hK.out _ _ ?_ (fun hD1 => ?_)
          · (try dsimp only); (first | (go_keep; done) | (go_split_ands; (repeat' apply And.intro) <;> first | (go_keep; done) | (simp [*, zcA, zcP, zfA, zfP]; done) | (simp [zcA, zcP] <;> rfl) | (simp [*, zsS, zsO, zsA]; done) | ((first | refine (hc _ _ ?_).trans ?_ | refine (hf _ _ ?_).trans ?_) <;> first | assumption | (simp; done) | (simp; omega) | omega | (go_keep; done) | (simp [*, zcA, zcP, zfA, zfP]; done) | (simp [zcA, zcP]; rfl)) | (repeat' first | exact zbR _ _ | assumption | refine zbD ?_ | refine zbA ?_ ?_ _ | refine zbS ?_ ?_ _ | refine zbT ?_ (by assumption) ?_ | (simp; done) | (simp; omega) | omega)))
          clear hK K hD0; try simp only [Act.put, zl, z0, z1]
          refine tW ?_ 3 rfl (by kernel_rfl) (fun _ _ _ h => h) (by rfl) (by assumption) ?_ ?_; rotate_left; (focus (intro w hSw; (try dsimp only at hSw); go_simp; try with_reducible rfl)); try simp only [Act.put, zl, z0, z1]
          refine tW ?_ 4 rfl (by kernel_rfl) (fun _ _ _ h => h) (by rfl) (by assumption) ?_ ?_; rotate_left; (focus (intro w hSw; (try dsimp only at hSw); go_simp; try with_reducible rfl)); try simp only [Act.put, zl, z0, z1]
          refine tW ?_ 5 rfl (by kernel_rfl) (fun _ _ _ h => h) (by rfl) (by assumption) ?_ ?_; rotate_left; (focus (intro w hSw; (try dsimp only at hSw); go_simp; try with_reducible rfl)); try simp only [Act.put, zl, z0, z1]
          refine tW ?_ 6 rfl (by kernel_rfl) (fun _ _ _ h => h) (by rfl) (by assumption) ?_ ?_; rotate_left; (focus (intro w hSw; (try dsimp only at hSw); go_simp; try with_reducible rfl)); try simp only [Act.put, zl, z0, z1]
          refine tW ?_ 7 rfl (by kernel_rfl) (fun _ _ _ h => h) (by rfl) (by assumption) ?_ ?_; rotate_left; (focus (intro w hSw; (try dsimp only at hSw); go_simp; try with_reducible rfl)); try simp only [Act.put, zl, z0, z1]
          refine tW ?_ 8 rfl (by kernel_rfl) (fun _ _ _ h => h) (by rfl) (by assumption) ?_ ?_; rotate_left; (focus (intro w hSw; (try dsimp only at hSw); go_simp; try with_reducible rfl)); try simp only [Act.put, zl, z0, z1]
          refine tW ?_ 9 rfl (by kernel_rfl) (fun _ _ _ h => h) (by rfl) (by assumption) ?_ ?_; rotate_left; (focus (intro w hSw; (try dsimp only at hSw); go_simp; try with_reducible rfl)); try simp only [Act.put, zl, z0, z1]
          refine tW ?_ 10 rfl (by kernel_rfl) (fun _ _ _ h => h) (by rfl) (by assumption) ?_ ?_; rotate_left; (focus (intro w hSw; (try dsimp only at hSw); go_simp; try with_reducible rfl)); try simp only [Act.put, zl, z0, z1]
          refine tW ?_ 11 rfl (by kernel_rfl) (fun _ _ _ h => h) (by rfl) (by assumption) ?_ ?_; rotate_left; (focus (intro w hSw; (try dsimp only at hSw); go_simp; try with_reducible rfl)); try simp only [Act.put, zl, z0, z1]
          refine tW ?_ 13 rfl (by kernel_rfl) (fun _ _ _ h => h) (by rfl) (by assumption) ?_ ?_; rotate_left; (focus (intro w hSw; (try dsimp only at hSw); go_simp; try with_reducible rfl)); try simp only [Act.put, zl, z0, z1]
          refine tW ?_ 14 rfl (by kernel_rfl) (fun _ _ _ h => h) (by rfl) (by assumption) ?_ ?_; rotate_left; (focus (intro w hSw; (try dsimp only at hSw); go_simp; try with_reducible rfl)); try simp only [Act.put, zl, z0, z1]
          refine tW ?_ 15 rfl (by kernel_rfl) (fun _ _ _ h => h) (by rfl) (by assumption) ?_ ?_; rotate_left; (focus (intro w hSw; (try dsimp only at hSw); go_simp; try with_reducible rfl)); try simp only [Act.put, zl, z0, z1]
          refine tW ?_ 16 rfl (by kernel_rfl) (fun _ _ _ h => h) (by rfl) (by assumption) ?_ ?_; rotate_left; (focus (intro w hSw; (try dsimp only at hSw); go_simp; try with_reducible rfl)); try simp only [Act.put, zl, z0, z1]
          refine tW ?_ 17 rfl (by kernel_rfl) (fun _ _ _ h => h) (by rfl) (by assumption) ?_ ?_; rotate_left; (focus (intro w hSw; (try dsimp only at hSw); go_simp; try with_reducible rfl)); try simp only [Act.put, zl, z0, z1]
          refine tW ?_ 18 rfl (by kernel_rfl) (fun _ _ _ h => h) (by rfl) (by assumption) ?_ ?_; rotate_left; (focus (intro w hSw; (try dsimp only at hSw); go_simp; try with_reducible rfl)); try simp only [Act.put, zl, z0, z1]
          refine wpAnyH_ready (rs := [12]) (by kernel_rfl) (by simp) ?_; refine consL 12 rfl (fun K hK => ?_) AllReadyH.nil; go_simp
          (go_at_call 55; refine (ofSet_any m.f m.won _ (by omega) (by omega)).mono ?_; rintro e w' ⟨rfl, hb⟩; obtain ⟨hc, hf⟩ := bcell hb; have hz := hb.size; (try simp at hz))
          refine hK.out _ _ ?_ (fun hD2 => ?_)
          · (try dsimp only); (first | (go_keep; done) | (go_split_ands; (repeat' apply And.intro) <;> first | (go_keep; done) | (simp [*, zcA, zcP, zfA, zfP]; done) | (simp [zcA, zcP] <;> rfl) | (simp [*, zsS, zsO, zsA]; done) | ((first | refine (hc _ _ ?_).trans ?_ | refine (hf _ _ ?_).trans ?_) <;> first | assumption | (simp; done) | (simp; omega) | omega | (go_keep; done) | (simp [*, zcA, zcP, zfA, zfP]; done) | (simp [zcA, zcP]; rfl)) | (repeat' first | exact zbR _ _ | assumption | refine zbD ?_ | refine zbA ?_ ?_ _ | refine zbS ?_ ?_ _ | refine zbT ?_ (by assumption) ?_ | (simp; done) | (simp; omega) | omega)))
          clear hK K hD1; try simp only [Act.put, zl, z0, z1]
          refine wpAnyH_ready (rs := [19]) (by kernel_rfl) (by simp) ?_; refine consL 19 rfl (fun K hK => ?_) AllReadyH.nil; go_simp
          (go_at_call 69; refine (isTie_any (M.ofSet m.f m.won) m.games _).mono ?_; rintro e w' ⟨rfl, hb⟩; obtain ⟨hc, hf⟩ := bcell hb; have hz := hb.size; (try simp at hz))
          refine hK.out _ _ ?_ (fun hD3 => ?_)
          · (try dsimp only); (first | (go_keep; done) | (go_split_ands; (repeat' apply And.intro) <;> first | (go_keep; done) | (simp [*, zcA, zcP, zfA, zfP]; done) | (simp [zcA, zcP] <;> rfl) | (simp [*, zsS, zsO, zsA]; done) | ((first | refine (hc _ _ ?_).trans ?_ | refine (hf _ _ ?_).trans ?_) <;> first | assumption | (simp; done) | (simp; omega) | omega | (go_keep; done) | (simp [*, zcA, zcP, zfA, zfP]; done) | (simp [zcA, zcP]; rfl)) | (repeat' first | exact zbR _ _ | assumption | refine zbD ?_ | refine zbA ?_ ?_ _ | refine zbS ?_ ?_ _ | refine zbT ?_ (by assumption) ?_ | (simp; done) | (simp; omega) | omega)))
          clear hK K hD2; try simp only [Act.put, zl, z0, z1]
          refine tW ?_ 20 rfl (by kernel_rfl) (fun _ _ _ h => h) (by rfl) (by assumption) ?_ ?_; rotate_left; (focus (intro w hSw; (try dsimp only at hSw); go_simp; try with_reducible rfl)); try simp only [Act.put, zl, z0, z1]
          refine tW ?_ 21 rfl (by kernel_rfl) (fun _ _ _ h => h) (by rfl) (by assumption) ?_ ?_; rotate_left; (focus (intro w hSw; (try dsimp only at hSw); go_simp; try with_reducible rfl)); try simp only [Act.put, zl, z0, z1]
          refine tW ?_ 22 rfl (by kernel_rfl) (fun _ _ _ h => h) (by rfl) (by assumption) ?_ ?_; rotate_left; (focus (intro w hSw; (try dsimp only at hSw); go_simp; try with_reducible rfl)); try simp only [Act.put, zl, z0, z1]
          refine wpAnyH_done (by kernel_rfl) ?_ _
          go_wp2
          go_ret
          exact ⟨rfl, by (go_split_ands; (repeat' first | exact zbR _ _ | assumption | refine zbD ?_ | refine zbA ?_ ?_ _ | refine zbS ?_ ?_ _ | refine zbT ?_ (by assumption) ?_ | (simp; done) | (simp; omega) | omega))⟩

    · have ho : M.changesB m = true := by unfold M.changesB; rw [hn]; simp [hd, ht2, hd2]
      rw [ho]; clear ho
      go_enter Try.func87, Try.ntmps87
      go_wp2_with (first | (go_at_call 88; refine (due_any b m.f.first m.f.next _ _ (by go_split_ands; assumption) (by go_split_ands; assumption) f0 f1 n0 n1 (by omega) (by omega)).mono ?_; rintro e w1 ⟨rfl, hb⟩; obtain ⟨hc, hf⟩ := bcell hb; have hz := hb.size; (try simp at hz); have hSn : Sx w1 := (by rw [Sxd.out]; (try dsimp only); (first | (go_keep; done) | (go_split_ands; (repeat' apply And.intro) <;> first | (go_keep; done) | (simp [*, zcA, zcP, zfA, zfP]; done) | (simp [zcA, zcP] <;> rfl) | (simp [*, zsS, zsO, zsA]; done) | ((first | refine (hc _ _ ?_).trans ?_ | refine (hf _ _ ?_).trans ?_) <;> first | assumption | (simp; done) | (simp; omega) | omega | (go_keep; done) | (simp [*, zcA, zcP, zfA, zfP]; done) | (simp [zcA, zcP]; rfl)) | (repeat' first | exact zbR _ _ | assumption | refine zbD ?_ | refine zbA ?_ ?_ _ | refine zbS ?_ ?_ _ | refine zbT ?_ (by assumption) ?_ | (simp; done) | (simp; omega) | omega)))); rw [Sxd.out] at hSn; (try dsimp only at hSn); (try clear hS); have hS := hSn; clear hSn hc hf) | (go_at_call 55; refine (ofSet_any m.f m.won _ (by omega) (by omega)).mono ?_; rintro e w1 ⟨rfl, hb⟩; obtain ⟨hc, hf⟩ := bcell hb; have hz := hb.size; (try simp at hz); have hSn : Sx w1 := (by rw [Sxd.out]; (try dsimp only); (first | (go_keep; done) | (go_split_ands; (repeat' apply And.intro) <;> first | (go_keep; done) | (simp [*, zcA, zcP, zfA, zfP]; done) | (simp [zcA, zcP] <;> rfl) | (simp [*, zsS, zsO, zsA]; done) | ((first | refine (hc _ _ ?_).trans ?_ | refine (hf _ _ ?_).trans ?_) <;> first | assumption | (simp; done) | (simp; omega) | omega | (go_keep; done) | (simp [*, zcA, zcP, zfA, zfP]; done) | (simp [zcA, zcP]; rfl)) | (repeat' first | exact zbR _ _ | assumption | refine zbD ?_ | refine zbA ?_ ?_ _ | refine zbS ?_ ?_ _ | refine zbT ?_ (by assumption) ?_ | (simp; done) | (simp; omega) | omega)))); rw [Sxd.out] at hSn; (try dsimp only at hSn); (try clear hS); have hS := hSn; clear hSn hc hf) | (go_at_call 69; refine (isTie_any (M.ofSet m.f m.won) m.games _).mono ?_; rintro e w1 ⟨rfl, hb⟩; obtain ⟨hc, hf⟩ := bcell hb; have hz := hb.size; (try simp at hz); have hSn : Sx w1 := (by rw [Sxd.out]; (try dsimp only); (first | (go_keep; done) | (go_split_ands; (repeat' apply And.intro) <;> first | (go_keep; done) | (simp [*, zcA, zcP, zfA, zfP]; done) | (simp [zcA, zcP] <;> rfl) | (simp [*, zsS, zsO, zsA]; done) | ((first | refine (hc _ _ ?_).trans ?_ | refine (hf _ _ ?_).trans ?_) <;> first | assumption | (simp; done) | (simp; omega) | omega | (go_keep; done) | (simp [*, zcA, zcP, zfA, zfP]; done) | (simp [zcA, zcP]; rfl)) | (repeat' first | exact zbR _ _ | assumption | refine zbD ?_ | refine zbA ?_ ?_ _ | refine zbS ?_ ?_ _ | refine zbT ?_ (by assumption) ?_ | (simp; done) | (simp; omega) | omega)))); rw [Sxd.out] at hSn; (try dsimp only at hSn); (try clear hS); have hS := hSn; clear hSn hc hf))
      go_ret
      exact ⟨rfl, by (go_split_ands; (repeat' first | exact zbR _ _ | assumption | refine zbD ?_ | refine zbA ?_ ?_ _ | refine zbS ?_ ?_ _ | refine zbT ?_ (by assumption) ?_ | (simp; done) | (simp; omega) | omega))⟩

end Go.Proofs.Ytoaogpipogeamaa

namespace Go.Proofs.Ytoaogpipogeamaa
open Go.RowKit

def flatP (l : List M.Pr) : List Value := l.flatMap fun p => [.int .i64 p.A, .int .i64 p.B]
def flatG (l : List M.Gm) : List Value := l.flatMap fun g => [.int .i64 g.set, .bool g.tie, .int .i64 g.server, .int .i64 g.winner, .int .i64 g.pts.A, .int .i64 g.pts.B, .bool g.fresh]

def MAt (w : World) (base b : Nat) (m : M.Mt) (sv gv : Value) : Prop :=
  base ≤ b ∧ w.heap[b]? = some (.cells #[.int .i64 m.f.sets, .int .i64 m.f.games, .bool m.f.noAd, .int .i64 m.f.tie, .int .i64 m.f.to, .int .i64 m.f.lastTie, .int .i64 m.f.lastTo, .int .i64 m.f.first, .int .i64 m.f.next, .bool m.f.doubles, sv, .int .i64 m.games.A, .int .i64 m.games.B, .int .i64 m.pts.A, .int .i64 m.pts.B, .int .i64 m.server, .int .i64 m.ends, .int .i64 m.balls, .int .i64 m.winner, .int .i64 m.opens, .int .i64 m.won.A, .int .i64 m.won.B, .bool m.fresh, gv] 75 (0, 0)) ∧ w.ownsRow base 32 2 sv m.sets.length (flatP m.sets) ∧ w.ownsRow base 44 7 gv m.log.length (flatG m.log)

section
variable {w w' : World} {base b : Nat} {m : M.Mt} {sv gv : Value}
theorem MAt.lt (h : MAt w base b m sv gv) : b < w.heap.size := by
  rcases Nat.lt_or_ge b w.heap.size with hl | hl
  · exact hl
  · have := h.2.1; rw [Array.getElem?_eq_none hl] at this; cases this
theorem MAt.mc (h : MAt w base b m sv gv) : w.cell? ⟨b, 0, none⟩ = some (.int .i64 m.f.sets) ∧ w.cell? ⟨b, 1, none⟩ = some (.int .i64 m.f.games) ∧ w.cell? ⟨b, 2, none⟩ = some (.bool m.f.noAd) ∧ w.cell? ⟨b, 3, none⟩ = some (.int .i64 m.f.tie) ∧ w.cell? ⟨b, 4, none⟩ = some (.int .i64 m.f.to) ∧ w.cell? ⟨b, 5, none⟩ = some (.int .i64 m.f.lastTie) ∧ w.cell? ⟨b, 6, none⟩ = some (.int .i64 m.f.lastTo) ∧ w.cell? ⟨b, 7, none⟩ = some (.int .i64 m.f.first) ∧ w.cell? ⟨b, 8, none⟩ = some (.int .i64 m.f.next) ∧ w.cell? ⟨b, 9, none⟩ = some (.bool m.f.doubles) ∧ w.cell? ⟨b, 10, none⟩ = some (sv) ∧ w.cell? ⟨b, 11, none⟩ = some (.int .i64 m.games.A) ∧ w.cell? ⟨b, 12, none⟩ = some (.int .i64 m.games.B) ∧ w.cell? ⟨b, 13, none⟩ = some (.int .i64 m.pts.A) ∧ w.cell? ⟨b, 14, none⟩ = some (.int .i64 m.pts.B) ∧ w.cell? ⟨b, 15, none⟩ = some (.int .i64 m.server) ∧ w.cell? ⟨b, 16, none⟩ = some (.int .i64 m.ends) ∧ w.cell? ⟨b, 17, none⟩ = some (.int .i64 m.balls) ∧ w.cell? ⟨b, 18, none⟩ = some (.int .i64 m.winner) ∧ w.cell? ⟨b, 19, none⟩ = some (.int .i64 m.opens) ∧ w.cell? ⟨b, 20, none⟩ = some (.int .i64 m.won.A) ∧ w.cell? ⟨b, 21, none⟩ = some (.int .i64 m.won.B) ∧ w.cell? ⟨b, 22, none⟩ = some (.bool m.fresh) ∧ w.cell? ⟨b, 23, none⟩ = some (gv) := by
  have hc := fun i => cell_of_row w b i _ _ _ h.2.1
  (repeat' apply And.intro) <;> (rw [hc]; rfl)
theorem MAt.fr (h : MAt w base b m sv gv) (i : Nat) : w.frozen? ⟨b, i, none⟩ = false := by
  have := h.2.1
  simp [World.frozen?, this]
theorem MAt.drew (h : MAt w base b m sv gv) : MAt w.drew base b m sv gv := h
theorem MAt.below (h : MAt w base b m sv gv) (hb : Below w.heap.size w w') : MAt w' base b m sv gv :=
  have hg : w.grownBy w' none := ⟨hb.os, hb.tape, hb.output, hb.size, fun i hi _ => hb.block i hi⟩
  ⟨h.1, (hb.block b h.lt).trans h.2.1, h.2.2.1.kept hg (by cases sv.ownBlock <;> simp), h.2.2.2.kept hg (by cases gv.ownBlock <;> simp)⟩
theorem row_ne {e : TypeId} {n size : Nat} {xs : List Value} {v : Value} {cs : Array Value} {t : TypeId} (h : w.ownsRow base e size v n xs) (hb : w.heap[b]? = some (.cells cs t (0, 0))) (ht : e ≠ t) : v.ownBlock ≠ some b := by
  rcases h.2 with ⟨rfl, _⟩ | ⟨g, cap, cur, rfl, _, hh, _⟩
  · simp [Value.ownBlock]
  · intro he
    have hgb : g = b := by simpa [Value.ownBlock] using he
    subst hgb
    rw [hb] at hh
    simp only [Option.some.injEq, Obj.cells.injEq] at hh
    exact ht hh.2.1.symm
theorem setCell_grown (w : World) (a : Addr) (u : Value) : w.grownBy (w.setCell a u) (some a.block) :=
  ⟨rfl, rfl, rfl, by simp [World.setCell], fun k _ hk => Below.heap_setCell w a u k (fun e => hk (by rw [e]))⟩
theorem blk_set {cs : Array Value} {t : TypeId} (h : w.heap[b]? = some (.cells cs t (0, 0))) (i : Nat) (u : Value) : (w.setCell ⟨b, i, none⟩ u).heap[b]? = some (.cells (cs.setIfInBounds i u) t (0, 0)) := by
  simp [World.setCell, Array.getElem?_modify, h]
theorem MAt.set (h : MAt w base b m sv gv) (i : Nat) (u : Value) {m' : M.Mt} (he : (#[.int .i64 m.f.sets, .int .i64 m.f.games, .bool m.f.noAd, .int .i64 m.f.tie, .int .i64 m.f.to, .int .i64 m.f.lastTie, .int .i64 m.f.lastTo, .int .i64 m.f.first, .int .i64 m.f.next, .bool m.f.doubles, sv, .int .i64 m.games.A, .int .i64 m.games.B, .int .i64 m.pts.A, .int .i64 m.pts.B, .int .i64 m.server, .int .i64 m.ends, .int .i64 m.balls, .int .i64 m.winner, .int .i64 m.opens, .int .i64 m.won.A, .int .i64 m.won.B, .bool m.fresh, gv] : Array Value).setIfInBounds i u = #[.int .i64 m'.f.sets, .int .i64 m'.f.games, .bool m'.f.noAd, .int .i64 m'.f.tie, .int .i64 m'.f.to, .int .i64 m'.f.lastTie, .int .i64 m'.f.lastTo, .int .i64 m'.f.first, .int .i64 m'.f.next, .bool m'.f.doubles, sv, .int .i64 m'.games.A, .int .i64 m'.games.B, .int .i64 m'.pts.A, .int .i64 m'.pts.B, .int .i64 m'.server, .int .i64 m'.ends, .int .i64 m'.balls, .int .i64 m'.winner, .int .i64 m'.opens, .int .i64 m'.won.A, .int .i64 m'.won.B, .bool m'.fresh, gv]) (hs : m'.sets = m.sets) (hl : m'.log = m.log) :
    MAt (w.setCell ⟨b, i, none⟩ u) base b m' sv gv := by
  refine ⟨h.1, ?_, ?_, ?_⟩
  · rw [blk_set h.2.1, he]
  · rw [hs]; exact h.2.2.1.kept (setCell_grown w _ u) (.inr (row_ne h.2.2.1 h.2.1 (by decide)))
  · rw [hl]; exact h.2.2.2.kept (setCell_grown w _ u) (.inr (row_ne h.2.2.2 h.2.1 (by decide)))
theorem own_form {e : TypeId} {n size : Nat} {xs : List Value} {v : Value} (h : w.ownsRow base e size v n xs) : ∃ A c, v = .slice A n c := by
  rcases h.2 with ⟨rfl, rfl⟩ | ⟨g, cap, cur, rfl, _⟩
  · exact ⟨none, 0, rfl⟩
  · exact ⟨_, cap, rfl⟩
theorem flatG_length : ∀ l : List M.Gm, (flatG l).length = l.length * 7
  | [] => rfl
  | g :: r => by
    have := flatG_length r
    unfold flatG at this ⊢
    simp only [List.flatMap_cons, List.length_append, List.length_cons, List.length_nil, this]
    omega
theorem flatG_tie : ∀ (l : List M.Gm) (k : Nat), k < l.length → (flatG l)[k * 7 + 1]? = some (.bool (M.tieAt l k))
  | [], k, h => by simp at h
  | g :: r, 0, _ => by simp [flatG, M.tieAt]
  | g :: r, k + 1, h => by
    have := flatG_tie r k (by simpa using h)
    unfold flatG at this ⊢
    rw [List.flatMap_cons, List.getElem?_append_right (by simp; omega)]
    have e : (k + 1) * 7 + 1 - [Value.int .i64 g.set, .bool g.tie, .int .i64 g.server, .int .i64 g.winner, .int .i64 g.pts.A, .int .i64 g.pts.B, .bool g.fresh].length = k * 7 + 1 := by simp; omega
    rw [e, this]; rfl
theorem flatP_length : ∀ l : List M.Pr, (flatP l).length = l.length * 2
  | [] => rfl
  | g :: r => by
    have := flatP_length r
    unfold flatP at this ⊢
    simp only [List.flatMap_cons, List.length_append, List.length_cons, List.length_nil, this]
    omega

theorem changes_at (h : MAt w base b m sv gv) (hv : M.Valid m.f) (hn : m.log.length ≤ 9000) :
    Calls Try.prog 87 #[.pointer (some ⟨b, 0, none⟩), .int .i64 (m.log.length : Int)] w fun e w' => e = .returned (.bool (M.changesB m)) ∧ Below w.heap.size w w' := by
  obtain ⟨A, c, rfl⟩ := own_form h.2.2.2
  by_cases h2 : m.log.length < 2
  · exact changes_few b m sv A _ c w hv rfl hn h.lt h.mc h2
  · obtain ⟨g, cap, e, _, _⟩ := h.2.2.2.form (by omega)
    rw [e] at h
    refine changes_many b m sv g _ cap w hv rfl hn h.lt h.mc (by omega) ?_
    rw [h.2.2.2.cellAt _ (by omega)]
    exact flatG_tie m.log _ (by omega)
end

end Go.Proofs.Ytoaogpipogeamaa

namespace Go.Proofs.Ytoaogpipogeamaa
open Go.RowKit

set_option maxHeartbeats 4000000 in
set_option maxRecDepth 100000 in
theorem beginGame_any {w : World} {base b : Nat} {m : M.Mt} {sv gv : Value} (h : MAt w base b m sv gv) (hv : M.Valid m.f) (hn : m.log.length ≤ 9000) (ho : 0 ≤ m.opens ∧ m.opens ≤ 1) (hbal : 0 ≤ m.balls ∧ m.balls ≤ 100000) :
    Calls Try.prog 85 #[.pointer (some ⟨b, 0, none⟩)] w fun e w' => e = .returned (.tuple #[]) ∧ MAt w' base b (M.begin m) sv gv ∧ Below base w w' := by
  obtain ⟨A, c, e⟩ := own_form h.2.2.2
  subst e
  obtain ⟨ho0, ho1⟩ := ho
  obtain ⟨hb0, hb1⟩ := hbal
  have H := hide h
  have HV := hide hv
  have HN := hide hn
  have hbb : base ≤ b := h.1
  have c0 := h.mc
  have fr0 := h.fr
  have hlb := h.lt
  clear h hv
  cases hch : M.changesB m
  · skip
    have hch2 : M.changesB { m with server := M.serverOf m.opens m.f.doubles m.log.length 0 } = false := hch
    go_enter Try.func85, Try.ntmps85
    go_wp2_with fail
    refine (server_any b m.opens m.log.length 0 m.f.doubles _ (by simp [c0]) (by simp [c0]) ho0 ho1 (by omega) (by omega) (by omega) (by omega)).mono ?_
    rintro e w1 ⟨rfl, hb1⟩
    have h1 := H.out.below hb1
    have c1 := h1.mc
    have fr1 := h1.fr
    go_wp2_with fail
    have h2 : MAt _ base b { m with server := M.serverOf m.opens m.f.doubles m.log.length 0 } sv (.slice A m.log.length c) := h1.set 15 (.int .i64 (M.serverOf m.opens m.f.doubles m.log.length 0)) rfl rfl rfl
    refine (changes_at h2 HV.out HN.out).mono ?_
    rintro e w3 ⟨rfl, hb3⟩
    have h3 := h2.below hb3
    have c3 := h3.mc
    have fr3 := h3.fr
    have hB3 : Below base w w3 := ((hb1.mono (by omega)).setCell (by exact hbb) _).trans (hb3.mono (by have := hb1.size; simp; omega))
    clear h2
    go_wp2_with fail
    have h4 : MAt _ base b { { m with server := M.serverOf m.opens m.f.doubles m.log.length 0 } with fresh := false } sv (.slice A m.log.length c) := h3.set 22 (.bool false) rfl rfl rfl
    go_end0
    refine ⟨rfl, ?_, ?_⟩
    · have e : M.begin m = { { m with server := M.serverOf m.opens m.f.doubles m.log.length 0 } with fresh := false } := by unfold M.begin; rw [hch]; rfl
      rw [e]; exact h4
    · exact (hB3.setCell (by exact hbb) _)

  · skip
    have hch2 : M.changesB { m with server := M.serverOf m.opens m.f.doubles m.log.length 0 } = true := hch
    go_enter Try.func85, Try.ntmps85
    go_wp2_with fail
    refine (server_any b m.opens m.log.length 0 m.f.doubles _ (by simp [c0]) (by simp [c0]) ho0 ho1 (by omega) (by omega) (by omega) (by omega)).mono ?_
    rintro e w1 ⟨rfl, hb1⟩
    have h1 := H.out.below hb1
    have c1 := h1.mc
    have fr1 := h1.fr
    go_wp2_with fail
    have h2 : MAt _ base b { m with server := M.serverOf m.opens m.f.doubles m.log.length 0 } sv (.slice A m.log.length c) := h1.set 15 (.int .i64 (M.serverOf m.opens m.f.doubles m.log.length 0)) rfl rfl rfl
    refine (changes_at h2 HV.out HN.out).mono ?_
    rintro e w3 ⟨rfl, hb3⟩
    have h3 := h2.below hb3
    have c3 := h3.mc
    have fr3 := h3.fr
    have hB3 : Below base w w3 := ((hb1.mono (by omega)).setCell (by exact hbb) _).trans (hb3.mono (by have := hb1.size; simp; omega))
    clear h2
    go_wp2_with fail
    have h4 : MAt _ base b { { m with server := M.serverOf m.opens m.f.doubles m.log.length 0 } with fresh := true } sv (.slice A m.log.length c) := h3.set 22 (.bool true) rfl rfl rfl
    have h5 : MAt _ base b { { m with server := M.serverOf m.opens m.f.doubles m.log.length 0 } with fresh := true, balls := m.balls + 1 } sv (.slice A m.log.length c) := h4.set 17 (.int .i64 (m.balls + 1)) rfl rfl rfl
    go_end0
    refine ⟨rfl, ?_, ?_⟩
    · have e : M.begin m = { { m with server := M.serverOf m.opens m.f.doubles m.log.length 0 } with fresh := true, balls := m.balls + 1 } := by unfold M.begin; rw [hch]; rfl
      rw [e]; exact h5
    · exact ((hB3.setCell (by exact hbb) _).setCell (by exact hbb) _)

end Go.Proofs.Ytoaogpipogeamaa
