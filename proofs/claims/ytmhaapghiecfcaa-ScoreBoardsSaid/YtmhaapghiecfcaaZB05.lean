/-
  Part of a claim's texts: contracts of the program's functions and the plain functions that they compute, in build order.
-/
import Derived.Deep.LoopGhost
import Derived.Test.YtmhaapghiecfcaaZB01
import Derived.Test.YtmhaapghiecfcaaZB02
import Derived.Test.YtmhaapghiecfcaaZB04
namespace Go.Proofs.Ytmhaapghiecfcaa
open Go.RowKit
attribute [local go_sem ↓] Go.wp_at_zero Go.wp_at_succ run_eql_pair

theorem MapF.congr {w : World} {B n : Nat} {F G : M.Pr → Int} (h : MapF w B F n) (hFG : ∀ p, F p = G p) : MapF w B G n := by
  obtain ⟨D, hi, h, hF⟩ := h
  exact ⟨D, hi, h, fun p hp => by rw [← hFG]; exact hF p hp⟩
theorem upd_ne {F : M.Pr → Int} {p q : M.Pr} {v : Int} (h : q ≠ p) : upd F p v q = F q := if_neg h
theorem upd_hold {f : M.Fm} {e : M.Pr} {a b : Nat} (hb : (b : Int) ≤ e.B) (ha : (a : Int) ≤ e.A) (h : M.good f e a b = true) (p : M.Pr) :
    upd (M.hold f e a b) (M.nat a b) ((M.left f e a b : Int) + M.down f e a b) p = M.hold f e a (b + 1) p := by
  rw [M.hold_next hb ha h]; unfold upd
  by_cases hp : p = M.nat a b
  · simp [hp]
  · simp [hp]
theorem minus_ne (a b : Nat) (s : Int) : M.minus (M.nat a b) s ≠ M.nat a b := by
  unfold M.minus M.nat; split <;> (intro h; simp at h; omega)

set_option maxHeartbeats 16000000 in
set_option maxRecDepth 100000 in
theorem orders_any (f : M.Fm) (e : M.Pr) (w : World) (hv : M.Valid f) (he : 0 ≤ e.A ∧ e.A ≤ 40 ∧ 0 ≤ e.B ∧ e.B ≤ 40) :
    Calls Try.prog 56 #[.agg #[.int .i64 f.sets, .int .i64 f.games, .bool f.noAd, .int .i64 f.tie, .int .i64 f.to, .int .i64 f.lastTie, .int .i64 f.lastTo, .int .i64 f.first, .int .i64 f.next, .bool f.doubles], .agg #[.int .i64 e.A, .int .i64 e.B]] w fun x w' => x = .returned (.int .i64 (M.orders f e)) ∧ Below w.heap.size w w' := by
  have HV := hide hv
  have HE := hide he
  obtain ⟨e0, e1, e2, e3⟩ := he
  have hm0 : MapF (((w.alloc (.cells #[.int .i64 f.sets, .int .i64 f.games, .bool f.noAd, .int .i64 f.tie, .int .i64 f.to, .int .i64 f.lastTie, .int .i64 f.lastTo, .int .i64 f.first, .int .i64 f.next, .bool f.doubles] 23)).alloc (.cells #[.int .i64 e.A, .int .i64 e.B] 32)).alloc (.map #[] 0)) (w.heap.size + 1 + 1) (fun _ => 0) 0 := by
    have := MapF.made ((w.alloc (.cells #[.int .i64 f.sets, .int .i64 f.games, .bool f.noAd, .int .i64 f.tie, .int .i64 f.to, .int .i64 f.lastTie, .int .i64 f.lastTo, .int .i64 f.first, .int .i64 f.next, .bool f.doubles] 23)).alloc (.cells #[.int .i64 e.A, .int .i64 e.B] 32))
    simpa using this
  obtain ⟨w1, hrun, hm1, hg⟩ := hm0.store (by omega) M.zero ⟨by decide, by decide, by decide, by decide⟩ 1 (by decide)
  have hM1 : MapF w1 (w.heap.size + 1 + 1) (M.hold f e 0 0) 1 := hm1.congr (fun p => by rw [M.hold_start]; unfold upd; by_cases h : p = M.zero <;> simp [h])
  have hz0 := hg.size
  simp at hz0
  have hB1 : Below w.heap.size w w1 := Below.grown (((( Below.refl _ _).alloc (Nat.le_refl _) _).alloc (by simp) _).alloc (by simp; omega) _) hg (by simp; omega) (by intro k hk; injection hk with hk; omega)
  have hc1 : ∀ b o, b < w.heap.size + 1 + 1 → w1.cell? ⟨b, o, none⟩ = (((w.alloc (.cells #[.int .i64 f.sets, .int .i64 f.games, .bool f.noAd, .int .i64 f.tie, .int .i64 f.to, .int .i64 f.lastTie, .int .i64 f.lastTo, .int .i64 f.first, .int .i64 f.next, .bool f.doubles] 23)).alloc (.cells #[.int .i64 e.A, .int .i64 e.B] 32)).alloc (.map #[] 0)).cell? ⟨b, o, none⟩ :=
    fun b o h => World.cell?_of_block (hg.block b (by simp; omega) (by simp; omega))
  have hS1 : (fun w' => Below w.heap.size w w' ∧ w.heap.size < w'.heap.size ∧ w.heap.size + 1 < w'.heap.size ∧ w.heap.size + 1 + 1 < w'.heap.size ∧ w'.cell? ⟨w.heap.size + 1, 0, none⟩ = some (.int .i64 e.A) ∧ w'.cell? ⟨w.heap.size + 1, 1, none⟩ = some (.int .i64 e.B) ∧ w'.cell? ⟨w.heap.size, 0, none⟩ = some (.int .i64 f.sets) ∧ w'.cell? ⟨w.heap.size, 1, none⟩ = some (.int .i64 f.games) ∧ w'.cell? ⟨w.heap.size, 2, none⟩ = some (.bool f.noAd) ∧ w'.cell? ⟨w.heap.size, 3, none⟩ = some (.int .i64 f.tie) ∧ w'.cell? ⟨w.heap.size, 4, none⟩ = some (.int .i64 f.to) ∧ w'.cell? ⟨w.heap.size, 5, none⟩ = some (.int .i64 f.lastTie) ∧ w'.cell? ⟨w.heap.size, 6, none⟩ = some (.int .i64 f.lastTo) ∧ w'.cell? ⟨w.heap.size, 7, none⟩ = some (.int .i64 f.first) ∧ w'.cell? ⟨w.heap.size, 8, none⟩ = some (.int .i64 f.next) ∧ w'.cell? ⟨w.heap.size, 9, none⟩ = some (.bool f.doubles)) w1 := by
    dsimp only
    refine ⟨hB1, by omega, by omega, by omega, ?_⟩
    (repeat' apply And.intro) <;> (rw [hc1 _ _ (by omega), World.cell?_alloc_past _ _ _ (by simp; try omega)]; simp)
  dsimp only at hS1
  have HM1 := hide hM1
  have hmm := @run_makeMap Try.prog
  have hrun' : (Instr.mapUpdate 112 (.map (some (w.heap.size + 1 + 1))) (.agg #[.int .i64 0, .int .i64 0]) (.int .i64 1)).run Try.prog (((w.alloc (.cells #[.int .i64 f.sets, .int .i64 f.games, .bool f.noAd, .int .i64 f.tie, .int .i64 f.to, .int .i64 f.lastTie, .int .i64 f.lastTo, .int .i64 f.first, .int .i64 f.next, .bool f.doubles] 23)).alloc (.cells #[.int .i64 e.A, .int .i64 e.B] 32)).alloc (.map #[] 0)) = .ok () w1 := hrun
  clear hv hm0 hm1 hM1 hg hB1 hc1 hrun
  go_enter Try.func56, Try.ntmps56
  go_wp2
  go_loopw [15] (fun i wr => ∃ a : Nat, (a : Int) ≤ e.A + 1 ∧ i = .int .i64 a ∧ Hid (∃ n, n ≤ 1 + 50 * a ∧ MapF wr (w.heap.size + 1 + 1) (M.hold f e a 0) n) ∧ Below w.heap.size w wr ∧ w.heap.size < wr.heap.size ∧ w.heap.size + 1 < wr.heap.size ∧ w.heap.size + 1 + 1 < wr.heap.size ∧ wr.cell? ⟨w.heap.size + 1, 0, none⟩ = some (.int .i64 e.A) ∧ wr.cell? ⟨w.heap.size + 1, 1, none⟩ = some (.int .i64 e.B) ∧ wr.cell? ⟨w.heap.size, 0, none⟩ = some (.int .i64 f.sets) ∧ wr.cell? ⟨w.heap.size, 1, none⟩ = some (.int .i64 f.games) ∧ wr.cell? ⟨w.heap.size, 2, none⟩ = some (.bool f.noAd) ∧ wr.cell? ⟨w.heap.size, 3, none⟩ = some (.int .i64 f.tie) ∧ wr.cell? ⟨w.heap.size, 4, none⟩ = some (.int .i64 f.to) ∧ wr.cell? ⟨w.heap.size, 5, none⟩ = some (.int .i64 f.lastTie) ∧ wr.cell? ⟨w.heap.size, 6, none⟩ = some (.int .i64 f.lastTo) ∧ wr.cell? ⟨w.heap.size, 7, none⟩ = some (.int .i64 f.first) ∧ wr.cell? ⟨w.heap.size, 8, none⟩ = some (.int .i64 f.next) ∧ wr.cell? ⟨w.heap.size, 9, none⟩ = some (.bool f.doubles)) (fun i _ => (e.A + 1 - intOf i).toNat)
  case atStart => exact ⟨0, by omega, rfl, hide ⟨1, by omega, HM1.out⟩, hS1⟩
  case round =>
    obtain ⟨a, ha, rfl, hM, hS0⟩ := hrel
    by_cases hlt : (a : Int) < e.A + 1
    · go_wp2
      obtain ⟨wo, rfl⟩ : ∃ wo : World, wo = wr := ⟨_, rfl⟩
      go_loopw [21] (fun i wr => ∃ b : Nat, (b : Int) ≤ e.B + 1 ∧ i = .int .i64 b ∧ Hid (∃ n, n ≤ 1 + 50 * a + b ∧ MapF wr (w.heap.size + 1 + 1) (M.hold f e a b) n) ∧ Below w.heap.size w wr ∧ w.heap.size < wr.heap.size ∧ w.heap.size + 1 < wr.heap.size ∧ w.heap.size + 1 + 1 < wr.heap.size ∧ wr.cell? ⟨w.heap.size + 1, 0, none⟩ = some (.int .i64 e.A) ∧ wr.cell? ⟨w.heap.size + 1, 1, none⟩ = some (.int .i64 e.B) ∧ wr.cell? ⟨w.heap.size, 0, none⟩ = some (.int .i64 f.sets) ∧ wr.cell? ⟨w.heap.size, 1, none⟩ = some (.int .i64 f.games) ∧ wr.cell? ⟨w.heap.size, 2, none⟩ = some (.bool f.noAd) ∧ wr.cell? ⟨w.heap.size, 3, none⟩ = some (.int .i64 f.tie) ∧ wr.cell? ⟨w.heap.size, 4, none⟩ = some (.int .i64 f.to) ∧ wr.cell? ⟨w.heap.size, 5, none⟩ = some (.int .i64 f.lastTie) ∧ wr.cell? ⟨w.heap.size, 6, none⟩ = some (.int .i64 f.lastTo) ∧ wr.cell? ⟨w.heap.size, 7, none⟩ = some (.int .i64 f.first) ∧ wr.cell? ⟨w.heap.size, 8, none⟩ = some (.int .i64 f.next) ∧ wr.cell? ⟨w.heap.size, 9, none⟩ = some (.bool f.doubles)) (fun i _ => (e.B + 1 - intOf i).toNat)
      case atStart => exact ⟨0, by omega, rfl, hM, hS0⟩
      case round =>
        obtain ⟨b, hb, rfl, hM', hS'⟩ := hrel
        by_cases hlt2 : (b : Int) < e.B + 1
        · obtain ⟨n, hn, hM2⟩ := hM'.out
          have HAB : Hid (M.Small (M.nat a b)) := hide ⟨by show (-1000000 : Int) ≤ (a : Int); omega, by show (a : Int) ≤ 1000000; omega, by show (-1000000 : Int) ≤ (b : Int); omega, by show (b : Int) ≤ 1000000; omega⟩
          have HAL : Hid (M.Small (M.minus (M.nat a b) 0)) := hide (HAB.out.minus ⟨by show (-999999 : Int) ≤ (a : Int); omega, by show (-999999 : Int) ≤ (b : Int); omega⟩ 0)
          have HAD : Hid (M.Small (M.minus (M.nat a b) 1)) := hide (HAB.out.minus ⟨by show (-999999 : Int) ≤ (a : Int); omega, by show (-999999 : Int) ≤ (b : Int); omega⟩ 1)
          have HL0 : Hid (M.hold f e a b (M.minus (M.nat a b) 0) = M.left f e a b) := hide (M.hold_left (by omega) (by omega))
          have HL1 : Hid (M.hold f e a b (M.minus (M.nat a b) 1) = M.down f e a b) := hide (M.hold_down (by omega) (by omega))
          have bl := M.left_most HV.out (e := e) ⟨by omega, by omega⟩ (a := a) (b := b) (by omega) (by omega)
          have bd := M.down_most HV.out (e := e) ⟨by omega, by omega⟩ (a := a) (b := b) (by omega) (by omega)
          have ew : IntKind.i64.wrap ((M.left f e a b : Int) + M.down f e a b) = (M.left f e a b : Int) + M.down f e a b := IntWalk.i64_in _ (by omega)
          have HWF : Hid ((Lit.int .i64 ((M.left f e a b : Int) + M.down f e a b)).wf = true) := hide (WalkArith.wf_i64 (by omega))
          clear bl bd
          cases hE : ((a : Int) == e.A && (b : Int) == e.B)
          · by_cases h0 : (0 : Int) < (a : Int) + (b : Int)
            · cases hga : M.gamesArise f (M.nat a b)
              · have hgood : M.good f e a b = false := by
                  unfold M.good; rw [hga]; simp at hE; simp; omega
                have HREL : Hid (∃ n, n ≤ 1 + 50 * a + (b + 1) ∧ MapF wr (w.heap.size + 1 + 1) (M.hold f e a (b + 1)) n) := hide ⟨n, by omega, hM2.congr (fun p => (M.hold_same (by omega) (by omega) hgood p).symm)⟩
                clear hM2 hgood
                go_wp2_with (first | (go_at_call 67; refine (gamesArise_any f (M.nat a b) _ HAB.out).mono ?_; rintro e wg ⟨rfl, hb⟩; obtain ⟨hc, hf⟩ := bcell hb; have hz := hb.size; (try simp at hz); have hSn : ((fun w' => Below w.heap.size w w' ∧ w.heap.size < w'.heap.size ∧ w.heap.size + 1 < w'.heap.size ∧ w.heap.size + 1 + 1 < w'.heap.size ∧ w'.cell? ⟨w.heap.size + 1, 0, none⟩ = some (.int .i64 e.A) ∧ w'.cell? ⟨w.heap.size + 1, 1, none⟩ = some (.int .i64 e.B) ∧ w'.cell? ⟨w.heap.size, 0, none⟩ = some (.int .i64 f.sets) ∧ w'.cell? ⟨w.heap.size, 1, none⟩ = some (.int .i64 f.games) ∧ w'.cell? ⟨w.heap.size, 2, none⟩ = some (.bool f.noAd) ∧ w'.cell? ⟨w.heap.size, 3, none⟩ = some (.int .i64 f.tie) ∧ w'.cell? ⟨w.heap.size, 4, none⟩ = some (.int .i64 f.to) ∧ w'.cell? ⟨w.heap.size, 5, none⟩ = some (.int .i64 f.lastTie) ∧ w'.cell? ⟨w.heap.size, 6, none⟩ = some (.int .i64 f.lastTo) ∧ w'.cell? ⟨w.heap.size, 7, none⟩ = some (.int .i64 f.first) ∧ w'.cell? ⟨w.heap.size, 8, none⟩ = some (.int .i64 f.next) ∧ w'.cell? ⟨w.heap.size, 9, none⟩ = some (.bool f.doubles) ∧ w'.cell? ⟨wr.heap.size, 0, none⟩ = some (.int .i64 (a : Int)) ∧ w'.cell? ⟨wr.heap.size, 1, none⟩ = some (.int .i64 (b : Int)) ∧ wr.heap.size < w'.heap.size)) wg := (by (try dsimp only); (exact kp)); (try dsimp only at hSn); (try clear hS); have hS := hSn; clear hSn hc hf))
                have HREL2 : Hid (∃ n, n ≤ 1 + 50 * a + (b + 1) ∧ MapF wg (w.heap.size + 1 + 1) (M.hold f e a (b + 1)) n) := hide (by
                  obtain ⟨n, hn, hm⟩ := HREL.out
                  exact ⟨n, hn, hm.below (by (exact kb))⟩)
                go_roundw
                case rel => exact ⟨b + 1, by omega, by go_num, HREL2, by (exact kp)⟩
                case measure => simp [intOf]; omega
              · have hgood : M.good f e a b = true := by
                  unfold M.good; rw [hga]; simp; omega
                have HG := hide hgood
                clear hgood
                go_wp2_with (first | (go_at_call 67; refine (gamesArise_any f (M.nat a b) _ HAB.out).mono ?_; rintro e wg ⟨rfl, hb⟩; obtain ⟨hc, hf⟩ := bcell hb; have hz := hb.size; (try simp at hz); have hSn : ((fun w' => Below w.heap.size w w' ∧ w.heap.size < w'.heap.size ∧ w.heap.size + 1 < w'.heap.size ∧ w.heap.size + 1 + 1 < w'.heap.size ∧ w'.cell? ⟨w.heap.size + 1, 0, none⟩ = some (.int .i64 e.A) ∧ w'.cell? ⟨w.heap.size + 1, 1, none⟩ = some (.int .i64 e.B) ∧ w'.cell? ⟨w.heap.size, 0, none⟩ = some (.int .i64 f.sets) ∧ w'.cell? ⟨w.heap.size, 1, none⟩ = some (.int .i64 f.games) ∧ w'.cell? ⟨w.heap.size, 2, none⟩ = some (.bool f.noAd) ∧ w'.cell? ⟨w.heap.size, 3, none⟩ = some (.int .i64 f.tie) ∧ w'.cell? ⟨w.heap.size, 4, none⟩ = some (.int .i64 f.to) ∧ w'.cell? ⟨w.heap.size, 5, none⟩ = some (.int .i64 f.lastTie) ∧ w'.cell? ⟨w.heap.size, 6, none⟩ = some (.int .i64 f.lastTo) ∧ w'.cell? ⟨w.heap.size, 7, none⟩ = some (.int .i64 f.first) ∧ w'.cell? ⟨w.heap.size, 8, none⟩ = some (.int .i64 f.next) ∧ w'.cell? ⟨w.heap.size, 9, none⟩ = some (.bool f.doubles) ∧ w'.cell? ⟨wr.heap.size, 0, none⟩ = some (.int .i64 (a : Int)) ∧ w'.cell? ⟨wr.heap.size, 1, none⟩ = some (.int .i64 (b : Int)) ∧ wr.heap.size < w'.heap.size)) wg := (by (try dsimp only); (exact kp)); (try dsimp only at hSn); (try clear hS); have hS := hSn; clear hSn hc hf))
                have hM2 : MapF wg.drew (w.heap.size + 1 + 1) (M.hold f e a b) n := MapF.below (w := wr) hM2 (by (exact kb))
                have hl0 := MapF.look hM2 (M.minus (M.nat a b) 0) HAL.out
                have hl1 := MapF.look hM2 (M.minus (M.nat a b) 1) HAD.out
                rw [HL0.out] at hl0
                rw [HL1.out] at hl1
                refine wp_region_held_drew (S := (fun w' => Below w.heap.size w w' ∧ w.heap.size < w'.heap.size ∧ w.heap.size + 1 < w'.heap.size ∧ w.heap.size + 1 + 1 < w'.heap.size ∧ w'.cell? ⟨w.heap.size + 1, 0, none⟩ = some (.int .i64 e.A) ∧ w'.cell? ⟨w.heap.size + 1, 1, none⟩ = some (.int .i64 e.B) ∧ w'.cell? ⟨w.heap.size, 0, none⟩ = some (.int .i64 f.sets) ∧ w'.cell? ⟨w.heap.size, 1, none⟩ = some (.int .i64 f.games) ∧ w'.cell? ⟨w.heap.size, 2, none⟩ = some (.bool f.noAd) ∧ w'.cell? ⟨w.heap.size, 3, none⟩ = some (.int .i64 f.tie) ∧ w'.cell? ⟨w.heap.size, 4, none⟩ = some (.int .i64 f.to) ∧ w'.cell? ⟨w.heap.size, 5, none⟩ = some (.int .i64 f.lastTie) ∧ w'.cell? ⟨w.heap.size, 6, none⟩ = some (.int .i64 f.lastTo) ∧ w'.cell? ⟨w.heap.size, 7, none⟩ = some (.int .i64 f.first) ∧ w'.cell? ⟨w.heap.size, 8, none⟩ = some (.int .i64 f.next) ∧ w'.cell? ⟨w.heap.size, 9, none⟩ = some (.bool f.doubles) ∧ w'.cell? ⟨wr.heap.size, 0, none⟩ = some (.int .i64 (a : Int)) ∧ w'.cell? ⟨wr.heap.size, 1, none⟩ = some (.int .i64 (b : Int)) ∧ wr.heap.size < w'.heap.size ∧ (Instr.lookup 112 (.map (some (w.heap.size + 1 + 1))) (.agg #[.int .i64 (M.minus (M.nat a b) 0).A, .int .i64 (M.minus (M.nat a b) 0).B]) false).run Try.prog w' = .ok (.int .i64 (M.left f e a b)) w' ∧ (Instr.lookup 112 (.map (some (w.heap.size + 1 + 1))) (.agg #[.int .i64 (M.minus (M.nat a b) 1).A, .int .i64 (M.minus (M.nat a b) 1).B]) false).run Try.prog w' = .ok (.int .i64 (M.down f e a b)) w')) (by kernel_rfl) ?_ (fun hD0 => ?_)
                · (try dsimp only); first | (go_split_ands; (repeat' apply And.intro) <;> first | with_reducible exact hl0 | with_reducible exact hl1 | with_reducible exact hb9 | with_reducible assumption | (with_reducible refine (hc _ _ (by first | (simp; done) | (simp; omega) | omega)).trans ?_; (first | with_reducible assumption | (simp [*]; done))) | (simp [*, World.cell?_alloc_some]; done) | omega) | (exact kp)
                refine tW ?_ 0 rfl (by kernel_rfl) (fun _ _ _ h => h) (by rfl) (by assumption) ?_ ?_; rotate_left; (focus (intro w hSw; (try dsimp only at hSw); go_simp; try with_reducible rfl)); try simp only [Act.put, zl, z0, z1]
                refine tW ?_ 1 rfl (by kernel_rfl) (fun _ _ _ h => h) (by rfl) (by assumption) ?_ ?_; rotate_left; (focus (intro w hSw; (try dsimp only at hSw); go_simp; try with_reducible rfl)); try simp only [Act.put, zl, z0, z1]
                refine tW ?_ 2 rfl (by kernel_rfl) (fun _ _ _ h => h) (by rfl) (by assumption) ?_ ?_; rotate_left; (focus (intro w hSw; (try dsimp only at hSw); go_simp; try with_reducible rfl)); try simp only [Act.put, zl, z0, z1]
                refine tW ?_ 3 rfl (by kernel_rfl) (fun _ _ _ h => h) (by rfl) (by assumption) ?_ ?_; rotate_left; (focus (intro w hSw; (try dsimp only at hSw); go_simp; try with_reducible rfl)); try simp only [Act.put, zl, z0, z1]
                refine tW ?_ 6 rfl (by kernel_rfl) (fun _ _ _ h => h) (by rfl) (by assumption) ?_ ?_; rotate_left; (focus (intro w hSw; (try dsimp only at hSw); go_simp; try with_reducible rfl)); try simp only [Act.put, zl, z0, z1]
                refine tW ?_ 7 rfl (by kernel_rfl) (fun _ _ _ h => h) (by rfl) (by assumption) ?_ ?_; rotate_left; (focus (intro w hSw; (try dsimp only at hSw); go_simp; try with_reducible rfl)); try simp only [Act.put, zl, z0, z1]
                refine wpAnyH_ready (rs := [4]) (by kernel_rfl) (by simp) ?_; refine consL 4 rfl (fun K hK => ?_) AllReadyH.nil; go_simp
                (go_at_call 75; refine (minus_any (M.nat a b) _ _ HAB.out).mono ?_; rintro _ w' ⟨rfl, hb⟩; obtain ⟨hc, hf⟩ := bcell hb; have hz := hb.size; (try simp at hz); have hM2 := MapF.below hM2 hb; have hl0 := MapF.look hM2 (M.minus (M.nat a b) 0) HAL.out; have hl1 := MapF.look hM2 (M.minus (M.nat a b) 1) HAD.out; rw [HL0.out] at hl0; rw [HL1.out] at hl1)
                refine hK.out _ _ ?_ (fun hD1 => ?_)
                · (try dsimp only); first | (go_split_ands; (repeat' apply And.intro) <;> first | with_reducible exact hl0 | with_reducible exact hl1 | with_reducible exact hb9 | with_reducible assumption | (with_reducible refine (hc _ _ (by first | (simp; done) | (simp; omega) | omega)).trans ?_; (first | with_reducible assumption | (simp [*]; done))) | (simp [*, World.cell?_alloc_some]; done) | omega) | (exact kp)
                clear hK K hD0; try simp only [Act.put, zl, z0, z1]
                refine tW ?_ 5 rfl (by kernel_rfl) (fun _ _ _ h => h) (by rfl) (by assumption) ?_ ?_; rotate_left; (focus (intro w hSw; (try dsimp only at hSw); go_simp; try with_reducible rfl)); try simp only [Act.put, zl, z0, z1]
                refine wpAnyH_ready (rs := [8]) (by kernel_rfl) (by simp) ?_; refine consL 8 rfl (fun K hK => ?_) AllReadyH.nil; go_simp
                (go_at_call 75; refine (minus_any (M.nat a b) _ _ HAB.out).mono ?_; rintro _ w' ⟨rfl, hb⟩; obtain ⟨hc, hf⟩ := bcell hb; have hz := hb.size; (try simp at hz); have hM2 := MapF.below hM2 hb; have hl0 := MapF.look hM2 (M.minus (M.nat a b) 0) HAL.out; have hl1 := MapF.look hM2 (M.minus (M.nat a b) 1) HAD.out; rw [HL0.out] at hl0; rw [HL1.out] at hl1)
                refine hK.out _ _ ?_ (fun hD2 => ?_)
                · (try dsimp only); first | (go_split_ands; (repeat' apply And.intro) <;> first | with_reducible exact hl0 | with_reducible exact hl1 | with_reducible exact hb9 | with_reducible assumption | (with_reducible refine (hc _ _ (by first | (simp; done) | (simp; omega) | omega)).trans ?_; (first | with_reducible assumption | (simp [*]; done))) | (simp [*, World.cell?_alloc_some]; done) | omega) | (exact kp)
                clear hK K hD1; try simp only [Act.put, zl, z0, z1]
                refine tW ?_ 9 rfl (by kernel_rfl) (fun _ _ _ h => h) (by rfl) (by assumption) ?_ ?_; rotate_left; (focus (intro w hSw; (try dsimp only at hSw); go_simp; try with_reducible rfl)); try simp only [Act.put, zl, z0, z1]
                refine tW ?_ 10 rfl (by kernel_rfl) (fun _ _ _ h => h) (by rfl) (by assumption) ?_ ?_; rotate_left; (focus (intro w hSw; (try dsimp only at hSw); go_simp; try with_reducible rfl)); try simp only [Act.put, zl, z0, z1]
                refine wpAnyH_ready (rs := [11]) (by kernel_rfl) (by simp) ?_; refine consL 11 rfl (fun K hK => ?_) AllReadyH.nil
                (obtain ⟨w9, hrun9, hM9, hg9⟩ := MapF.store hM2 (by omega) (M.nat a b) HAB.out ((M.left f e a b : Int) + M.down f e a b) HWF.out; have hrun9 : (Instr.mapUpdate 112 (.map (some (w.heap.size + 1 + 1))) (.agg #[.int .i64 (a : Int), .int .i64 (b : Int)]) (.int .i64 ((M.left f e a b : Int) + M.down f e a b))).run Try.prog w' = .ok () w9 := hrun9; have hc : ∀ b' o, b' < w'.heap.size ∧ b' ≠ w.heap.size + 1 + 1 → w9.cell? ⟨b', o, none⟩ = w'.cell? ⟨b', o, none⟩ := (fun b' o h => World.cell?_of_block (hg9.block b' h.1 (by simp; omega))); have hf : ∀ b' o, b' < w'.heap.size ∧ b' ≠ w.heap.size + 1 + 1 → w9.frozen? ⟨b', o, none⟩ = w'.frozen? ⟨b', o, none⟩ := (fun b' o h => World.frozen?_of_block (hg9.block b' h.1 (by simp; omega))); have hz := hg9.size; have hl0 := MapF.look hM9 (M.minus (M.nat a b) 0) HAL.out; have hl1 := MapF.look hM9 (M.minus (M.nat a b) 1) HAD.out; rw [upd_ne (minus_ne a b 0), HL0.out] at hl0; rw [upd_ne (minus_ne a b 1), HL1.out] at hl1; have hb9 : Below w.heap.size w w9 := Below.grown (by (go_split_ands; assumption)) hg9 (by omega) (by intro k hk; injection hk with hk; omega); rw [if_pos (by rfl)]; go_simp)
                refine hK.out _ _ ?_ (fun hD3 => ?_)
                · (try dsimp only); first | (go_split_ands; (repeat' apply And.intro) <;> first | with_reducible exact hl0 | with_reducible exact hl1 | with_reducible exact hb9 | with_reducible assumption | (with_reducible refine (hc _ _ (by first | (simp; done) | (simp; omega) | omega)).trans ?_; (first | with_reducible assumption | (simp [*]; done))) | (simp [*, World.cell?_alloc_some]; done) | omega) | (exact kp)
                clear hK K hD2; try simp only [Act.put, zl, z0, z1]
                refine wpAnyH_done (by kernel_rfl) ?_ _
                go_wp2
                have HREL : Hid (∃ n, n ≤ 1 + 50 * a + (b + 1) ∧ MapF w9 (w.heap.size + 1 + 1) (M.hold f e a (b + 1)) n) := hide ⟨n + 1, by omega, hM9.congr (fun p => upd_hold (by omega) (by omega) HG.out p)⟩
                go_roundw
                case rel => exact ⟨b + 1, by omega, by go_num, HREL, by (exact kp)⟩
                case measure => simp [intOf]; omega
            · have hgood : M.good f e a b = false := by
                unfold M.good; simp at hE; simp; omega
              have HREL : Hid (∃ n, n ≤ 1 + 50 * a + (b + 1) ∧ MapF wr (w.heap.size + 1 + 1) (M.hold f e a (b + 1)) n) := hide ⟨n, by omega, hM2.congr (fun p => (M.hold_same (by omega) (by omega) hgood p).symm)⟩
              clear hM2 hgood
              go_wp2_with (first | (go_at_call 67; refine (gamesArise_any f (M.nat a b) _ HAB.out).mono ?_; rintro e wg ⟨rfl, hb⟩; obtain ⟨hc, hf⟩ := bcell hb; have hz := hb.size; (try simp at hz); have hSn : ((fun w' => Below w.heap.size w w' ∧ w.heap.size < w'.heap.size ∧ w.heap.size + 1 < w'.heap.size ∧ w.heap.size + 1 + 1 < w'.heap.size ∧ w'.cell? ⟨w.heap.size + 1, 0, none⟩ = some (.int .i64 e.A) ∧ w'.cell? ⟨w.heap.size + 1, 1, none⟩ = some (.int .i64 e.B) ∧ w'.cell? ⟨w.heap.size, 0, none⟩ = some (.int .i64 f.sets) ∧ w'.cell? ⟨w.heap.size, 1, none⟩ = some (.int .i64 f.games) ∧ w'.cell? ⟨w.heap.size, 2, none⟩ = some (.bool f.noAd) ∧ w'.cell? ⟨w.heap.size, 3, none⟩ = some (.int .i64 f.tie) ∧ w'.cell? ⟨w.heap.size, 4, none⟩ = some (.int .i64 f.to) ∧ w'.cell? ⟨w.heap.size, 5, none⟩ = some (.int .i64 f.lastTie) ∧ w'.cell? ⟨w.heap.size, 6, none⟩ = some (.int .i64 f.lastTo) ∧ w'.cell? ⟨w.heap.size, 7, none⟩ = some (.int .i64 f.first) ∧ w'.cell? ⟨w.heap.size, 8, none⟩ = some (.int .i64 f.next) ∧ w'.cell? ⟨w.heap.size, 9, none⟩ = some (.bool f.doubles) ∧ w'.cell? ⟨wr.heap.size, 0, none⟩ = some (.int .i64 (a : Int)) ∧ w'.cell? ⟨wr.heap.size, 1, none⟩ = some (.int .i64 (b : Int)) ∧ wr.heap.size < w'.heap.size)) wg := (by (try dsimp only); (exact kp)); (try dsimp only at hSn); (try clear hS); have hS := hSn; clear hSn hc hf))
              have HREL2 : Hid (∃ n, n ≤ 1 + 50 * a + (b + 1) ∧ MapF (wr.alloc (.cells #[.int .i64 (a : Int), .int .i64 (b : Int)] 32)) (w.heap.size + 1 + 1) (M.hold f e a (b + 1)) n) := hide (by
                obtain ⟨n, hn, hm⟩ := HREL.out
                exact ⟨n, hn, hm.below (by (exact kb))⟩)
              go_roundw
              case rel => exact ⟨b + 1, by omega, by go_num, HREL2, by (exact kp)⟩
              case measure => simp [intOf]; omega
          · have hgood : M.good f e a b = true := by
              unfold M.good; simp at hE; simp [hE]
            have HG := hide hgood
            clear hgood
            go_wp2_with (first | (go_at_call 67; refine (gamesArise_any f (M.nat a b) _ HAB.out).mono ?_; rintro e wg ⟨rfl, hb⟩; obtain ⟨hc, hf⟩ := bcell hb; have hz := hb.size; (try simp at hz); have hSn : ((fun w' => Below w.heap.size w w' ∧ w.heap.size < w'.heap.size ∧ w.heap.size + 1 < w'.heap.size ∧ w.heap.size + 1 + 1 < w'.heap.size ∧ w'.cell? ⟨w.heap.size + 1, 0, none⟩ = some (.int .i64 e.A) ∧ w'.cell? ⟨w.heap.size + 1, 1, none⟩ = some (.int .i64 e.B) ∧ w'.cell? ⟨w.heap.size, 0, none⟩ = some (.int .i64 f.sets) ∧ w'.cell? ⟨w.heap.size, 1, none⟩ = some (.int .i64 f.games) ∧ w'.cell? ⟨w.heap.size, 2, none⟩ = some (.bool f.noAd) ∧ w'.cell? ⟨w.heap.size, 3, none⟩ = some (.int .i64 f.tie) ∧ w'.cell? ⟨w.heap.size, 4, none⟩ = some (.int .i64 f.to) ∧ w'.cell? ⟨w.heap.size, 5, none⟩ = some (.int .i64 f.lastTie) ∧ w'.cell? ⟨w.heap.size, 6, none⟩ = some (.int .i64 f.lastTo) ∧ w'.cell? ⟨w.heap.size, 7, none⟩ = some (.int .i64 f.first) ∧ w'.cell? ⟨w.heap.size, 8, none⟩ = some (.int .i64 f.next) ∧ w'.cell? ⟨w.heap.size, 9, none⟩ = some (.bool f.doubles) ∧ w'.cell? ⟨wr.heap.size, 0, none⟩ = some (.int .i64 (a : Int)) ∧ w'.cell? ⟨wr.heap.size, 1, none⟩ = some (.int .i64 (b : Int)) ∧ wr.heap.size < w'.heap.size)) wg := (by (try dsimp only); (exact kp)); (try dsimp only at hSn); (try clear hS); have hS := hSn; clear hSn hc hf))
            have hM2 : MapF (wr.alloc (.cells #[.int .i64 (a : Int), .int .i64 (b : Int)] 32)).drew (w.heap.size + 1 + 1) (M.hold f e a b) n := MapF.below (w := wr) hM2 (by (exact kb))
            have hl0 := MapF.look hM2 (M.minus (M.nat a b) 0) HAL.out
            have hl1 := MapF.look hM2 (M.minus (M.nat a b) 1) HAD.out
            rw [HL0.out] at hl0
            rw [HL1.out] at hl1
            refine wp_region_held_drew (S := (fun w' => Below w.heap.size w w' ∧ w.heap.size < w'.heap.size ∧ w.heap.size + 1 < w'.heap.size ∧ w.heap.size + 1 + 1 < w'.heap.size ∧ w'.cell? ⟨w.heap.size + 1, 0, none⟩ = some (.int .i64 e.A) ∧ w'.cell? ⟨w.heap.size + 1, 1, none⟩ = some (.int .i64 e.B) ∧ w'.cell? ⟨w.heap.size, 0, none⟩ = some (.int .i64 f.sets) ∧ w'.cell? ⟨w.heap.size, 1, none⟩ = some (.int .i64 f.games) ∧ w'.cell? ⟨w.heap.size, 2, none⟩ = some (.bool f.noAd) ∧ w'.cell? ⟨w.heap.size, 3, none⟩ = some (.int .i64 f.tie) ∧ w'.cell? ⟨w.heap.size, 4, none⟩ = some (.int .i64 f.to) ∧ w'.cell? ⟨w.heap.size, 5, none⟩ = some (.int .i64 f.lastTie) ∧ w'.cell? ⟨w.heap.size, 6, none⟩ = some (.int .i64 f.lastTo) ∧ w'.cell? ⟨w.heap.size, 7, none⟩ = some (.int .i64 f.first) ∧ w'.cell? ⟨w.heap.size, 8, none⟩ = some (.int .i64 f.next) ∧ w'.cell? ⟨w.heap.size, 9, none⟩ = some (.bool f.doubles) ∧ w'.cell? ⟨wr.heap.size, 0, none⟩ = some (.int .i64 (a : Int)) ∧ w'.cell? ⟨wr.heap.size, 1, none⟩ = some (.int .i64 (b : Int)) ∧ wr.heap.size < w'.heap.size ∧ (Instr.lookup 112 (.map (some (w.heap.size + 1 + 1))) (.agg #[.int .i64 (M.minus (M.nat a b) 0).A, .int .i64 (M.minus (M.nat a b) 0).B]) false).run Try.prog w' = .ok (.int .i64 (M.left f e a b)) w' ∧ (Instr.lookup 112 (.map (some (w.heap.size + 1 + 1))) (.agg #[.int .i64 (M.minus (M.nat a b) 1).A, .int .i64 (M.minus (M.nat a b) 1).B]) false).run Try.prog w' = .ok (.int .i64 (M.down f e a b)) w')) (by kernel_rfl) ?_ (fun hD0 => ?_)
            · (try dsimp only); first | (go_split_ands; (repeat' apply And.intro) <;> first | with_reducible exact hl0 | with_reducible exact hl1 | with_reducible exact hb9 | with_reducible assumption | (with_reducible refine (hc _ _ (by first | (simp; done) | (simp; omega) | omega)).trans ?_; (first | with_reducible assumption | (simp [*]; done))) | (simp [*, World.cell?_alloc_some]; done) | omega) | (exact kp)
            refine tW ?_ 0 rfl (by kernel_rfl) (fun _ _ _ h => h) (by rfl) (by assumption) ?_ ?_; rotate_left; (focus (intro w hSw; (try dsimp only at hSw); go_simp; try with_reducible rfl)); try simp only [Act.put, zl, z0, z1]
            refine tW ?_ 1 rfl (by kernel_rfl) (fun _ _ _ h => h) (by rfl) (by assumption) ?_ ?_; rotate_left; (focus (intro w hSw; (try dsimp only at hSw); go_simp; try with_reducible rfl)); try simp only [Act.put, zl, z0, z1]
            refine tW ?_ 2 rfl (by kernel_rfl) (fun _ _ _ h => h) (by rfl) (by assumption) ?_ ?_; rotate_left; (focus (intro w hSw; (try dsimp only at hSw); go_simp; try with_reducible rfl)); try simp only [Act.put, zl, z0, z1]
            refine tW ?_ 3 rfl (by kernel_rfl) (fun _ _ _ h => h) (by rfl) (by assumption) ?_ ?_; rotate_left; (focus (intro w hSw; (try dsimp only at hSw); go_simp; try with_reducible rfl)); try simp only [Act.put, zl, z0, z1]
            refine tW ?_ 6 rfl (by kernel_rfl) (fun _ _ _ h => h) (by rfl) (by assumption) ?_ ?_; rotate_left; (focus (intro w hSw; (try dsimp only at hSw); go_simp; try with_reducible rfl)); try simp only [Act.put, zl, z0, z1]
            refine tW ?_ 7 rfl (by kernel_rfl) (fun _ _ _ h => h) (by rfl) (by assumption) ?_ ?_; rotate_left; (focus (intro w hSw; (try dsimp only at hSw); go_simp; try with_reducible rfl)); try simp only [Act.put, zl, z0, z1]
            refine wpAnyH_ready (rs := [4]) (by kernel_rfl) (by simp) ?_; refine consL 4 rfl (fun K hK => ?_) AllReadyH.nil; go_simp
            (go_at_call 75; refine (minus_any (M.nat a b) _ _ HAB.out).mono ?_; rintro _ w' ⟨rfl, hb⟩; obtain ⟨hc, hf⟩ := bcell hb; have hz := hb.size; (try simp at hz); have hM2 := MapF.below hM2 hb; have hl0 := MapF.look hM2 (M.minus (M.nat a b) 0) HAL.out; have hl1 := MapF.look hM2 (M.minus (M.nat a b) 1) HAD.out; rw [HL0.out] at hl0; rw [HL1.out] at hl1)
            refine hK.out _ _ ?_ (fun hD1 => ?_)
            · (try dsimp only); first | (go_split_ands; (repeat' apply And.intro) <;> first | with_reducible exact hl0 | with_reducible exact hl1 | with_reducible exact hb9 | with_reducible assumption | (with_reducible refine (hc _ _ (by first | (simp; done) | (simp; omega) | omega)).trans ?_; (first | with_reducible assumption | (simp [*]; done))) | (simp [*, World.cell?_alloc_some]; done) | omega) | (exact kp)
            clear hK K hD0; try simp only [Act.put, zl, z0, z1]
            refine tW ?_ 5 rfl (by kernel_rfl) (fun _ _ _ h => h) (by rfl) (by assumption) ?_ ?_; rotate_left; (focus (intro w hSw; (try dsimp only at hSw); go_simp; try with_reducible rfl)); try simp only [Act.put, zl, z0, z1]
            refine wpAnyH_ready (rs := [8]) (by kernel_rfl) (by simp) ?_; refine consL 8 rfl (fun K hK => ?_) AllReadyH.nil; go_simp
            (go_at_call 75; refine (minus_any (M.nat a b) _ _ HAB.out).mono ?_; rintro _ w' ⟨rfl, hb⟩; obtain ⟨hc, hf⟩ := bcell hb; have hz := hb.size; (try simp at hz); have hM2 := MapF.below hM2 hb; have hl0 := MapF.look hM2 (M.minus (M.nat a b) 0) HAL.out; have hl1 := MapF.look hM2 (M.minus (M.nat a b) 1) HAD.out; rw [HL0.out] at hl0; rw [HL1.out] at hl1)
            refine hK.out _ _ ?_ (fun hD2 => ?_)
            · (try dsimp only); first | (go_split_ands; (repeat' apply And.intro) <;> first | with_reducible exact hl0 | with_reducible exact hl1 | with_reducible exact hb9 | with_reducible assumption | (with_reducible refine (hc _ _ (by first | (simp; done) | (simp; omega) | omega)).trans ?_; (first | with_reducible assumption | (simp [*]; done))) | (simp [*, World.cell?_alloc_some]; done) | omega) | (exact kp)
            clear hK K hD1; try simp only [Act.put, zl, z0, z1]
            refine tW ?_ 9 rfl (by kernel_rfl) (fun _ _ _ h => h) (by rfl) (by assumption) ?_ ?_; rotate_left; (focus (intro w hSw; (try dsimp only at hSw); go_simp; try with_reducible rfl)); try simp only [Act.put, zl, z0, z1]
            refine tW ?_ 10 rfl (by kernel_rfl) (fun _ _ _ h => h) (by rfl) (by assumption) ?_ ?_; rotate_left; (focus (intro w hSw; (try dsimp only at hSw); go_simp; try with_reducible rfl)); try simp only [Act.put, zl, z0, z1]
            refine wpAnyH_ready (rs := [11]) (by kernel_rfl) (by simp) ?_; refine consL 11 rfl (fun K hK => ?_) AllReadyH.nil
            (obtain ⟨w9, hrun9, hM9, hg9⟩ := MapF.store hM2 (by omega) (M.nat a b) HAB.out ((M.left f e a b : Int) + M.down f e a b) HWF.out; have hrun9 : (Instr.mapUpdate 112 (.map (some (w.heap.size + 1 + 1))) (.agg #[.int .i64 (a : Int), .int .i64 (b : Int)]) (.int .i64 ((M.left f e a b : Int) + M.down f e a b))).run Try.prog w' = .ok () w9 := hrun9; have hc : ∀ b' o, b' < w'.heap.size ∧ b' ≠ w.heap.size + 1 + 1 → w9.cell? ⟨b', o, none⟩ = w'.cell? ⟨b', o, none⟩ := (fun b' o h => World.cell?_of_block (hg9.block b' h.1 (by simp; omega))); have hf : ∀ b' o, b' < w'.heap.size ∧ b' ≠ w.heap.size + 1 + 1 → w9.frozen? ⟨b', o, none⟩ = w'.frozen? ⟨b', o, none⟩ := (fun b' o h => World.frozen?_of_block (hg9.block b' h.1 (by simp; omega))); have hz := hg9.size; have hl0 := MapF.look hM9 (M.minus (M.nat a b) 0) HAL.out; have hl1 := MapF.look hM9 (M.minus (M.nat a b) 1) HAD.out; rw [upd_ne (minus_ne a b 0), HL0.out] at hl0; rw [upd_ne (minus_ne a b 1), HL1.out] at hl1; have hb9 : Below w.heap.size w w9 := Below.grown (by (go_split_ands; assumption)) hg9 (by omega) (by intro k hk; injection hk with hk; omega); rw [if_pos (by rfl)]; go_simp)
            refine hK.out _ _ ?_ (fun hD3 => ?_)
            · (try dsimp only); first | (go_split_ands; (repeat' apply And.intro) <;> first | with_reducible exact hl0 | with_reducible exact hl1 | with_reducible exact hb9 | with_reducible assumption | (with_reducible refine (hc _ _ (by first | (simp; done) | (simp; omega) | omega)).trans ?_; (first | with_reducible assumption | (simp [*]; done))) | (simp [*, World.cell?_alloc_some]; done) | omega) | (exact kp)
            clear hK K hD2; try simp only [Act.put, zl, z0, z1]
            refine wpAnyH_done (by kernel_rfl) ?_ _
            go_wp2
            have HREL : Hid (∃ n, n ≤ 1 + 50 * a + (b + 1) ∧ MapF w9 (w.heap.size + 1 + 1) (M.hold f e a (b + 1)) n) := hide ⟨n + 1, by omega, hM9.congr (fun p => upd_hold (by omega) (by omega) HG.out p)⟩
            go_roundw
            case rel => exact ⟨b + 1, by omega, by go_num, HREL, by (exact kp)⟩
            case measure => simp [intOf]; omega
        · have hb1 : (b : Int) = e.B + 1 := by omega
          have HREL : Hid (∃ n, n ≤ 1 + 50 * (a + 1) ∧ MapF wr (w.heap.size + 1 + 1) (M.hold f e (a + 1) 0) n) := hide (by
            obtain ⟨n, hn, hm⟩ := hM'.out
            exact ⟨n, by omega, hm.congr (fun p => M.hold_row hb1 p)⟩)
          clear hb1
          go_wp2
          go_roundw
          case rel => exact ⟨a + 1, by omega, by go_num, HREL, by (exact kp)⟩
          case measure => simp [intOf]; omega
    · have ha1 : (a : Int) = e.A + 1 := by omega
      obtain ⟨n, hn, hm⟩ := hM.out
      have hl := MapF.look hm e ⟨by omega, by omega, by omega, by omega⟩
      rw [M.hold_end ⟨e0, e2⟩ ha1] at hl
      clear ha1 hm hrun'
      go_wp2
      go_ret
      exact ⟨rfl, by (go_split_ands; (exact kb))⟩

end Go.Proofs.Ytmhaapghiecfcaa

namespace Go.Proofs.Ytmhaapghiecfcaa
open Go.RowKit
attribute [local go_sem ↓] Go.wp_at_zero Go.wp_at_succ

theorem sw_parts {f : M.Fm} {ps : List M.Pr} {g p : M.Pr} (h : M.swE f ps g p = 0) : M.Valid f ∧ M.numbered ps g p = true ∧ M.standB f ps g p = true := by
  unfold M.swE at h
  cases hv : M.validB f
  · simp [hv] at h
  · cases hn : M.numbered ps g p
    · simp [hv, hn] at h
    · cases hs : M.standB f ps g p
      · simp [hv, hn, hs] at h
      · exact ⟨(M.validB_iff f).1 hv, rfl, rfl⟩
theorem wonBy_cons {f : M.Fm} {won g r : M.Pr} {l : List M.Pr} (h : M.wonBy f won (g :: l) = some r) : M.winner f won = -1 ∧ M.setWinner (M.ofSet f won) g ≠ -1 ∧ M.wonBy f (M.plus won (M.setWinner (M.ofSet f won) g)) l = some r := by
  unfold M.wonBy at h
  split at h
  · rename_i hc; exact ⟨hc.1, hc.2, h⟩
  · cases h

set_option maxHeartbeats 8000000 in
theorem Ways_any (f : M.Fm) (A : Option Addr) (n c : Nat) (ps : List M.Pr) (w : World) (hn : ps.length = n) (hr : RdP w w.heap.size A ps) (hm : n ≤ 1000000) :
    Calls Try.prog 32 #[.agg #[.int .i64 f.sets, .int .i64 f.games, .bool f.noAd, .int .i64 f.tie, .int .i64 f.to, .int .i64 f.lastTie, .int .i64 f.lastTo, .int .i64 f.first, .int .i64 f.next, .bool f.doubles], .slice A n c] w fun e w' => e = .returned (.tuple #[.int .i64 (M.waysV f ps), .int .i64 (M.waysE f ps)]) ∧ Below w.heap.size w w' := by
  have HN := hide hn
  have HR := hide hr
  clear hn hr
  cases hsw : (M.swE f ps M.zero M.zero != 0)
  · have h0 : M.swE f ps M.zero M.zero = 0 := by simpa using hsw
    obtain ⟨hv, hnu, hst⟩ := sw_parts h0
    obtain ⟨r, hwr⟩ : ∃ r, M.wonBy f M.zero ps = some r := by
      unfold M.standB at hst
      cases hw : M.wonBy f M.zero ps with
      | none => rw [hw] at hst; cases hst
      | some r => exact ⟨r, rfl⟩
    obtain ⟨_, hpf, _, _⟩ := M.numbered_parts hnu
    have he : M.waysE f ps = match M.waysB f M.zero 1 ps with | none => 2 | some _ => 0 := if_neg (fun h => h h0)
    have hvv : M.waysV f ps = match M.waysB f M.zero 1 ps with | none => 0 | some w => (w : Int) := if_neg (fun h => h h0)
    have HV := hide hv
    have HPF := hide hpf
    have HWR := hide hwr
    have HEE := hide he
    have HVV := hide hvv
    have v0 := hv.s0
    have v1 := hv.s1
    clear hv hnu hst hpf hwr he hvv
    go_enter Try.func32, Try.ntmps32
    go_wp2_with (first | (go_at_call 45; refine (setsWon_any f A n c ps M.zero M.zero _ HN.out ((HR.out.below (by (exact kb))).mono (by first | (simp; done) | (simp; omega))) hm).mono ?_; rintro e w2a ⟨rfl, hb⟩; obtain ⟨hc, hf⟩ := bcell hb; have hz := hb.size; (try simp at hz); have hSn : ((fun w' => Below w.heap.size w w' ∧ w.heap.size < w'.heap.size ∧ w'.cell? ⟨w.heap.size, 0, none⟩ = some (.int .i64 f.sets) ∧ w'.cell? ⟨w.heap.size, 1, none⟩ = some (.int .i64 f.games) ∧ w'.cell? ⟨w.heap.size, 2, none⟩ = some (.bool f.noAd) ∧ w'.cell? ⟨w.heap.size, 3, none⟩ = some (.int .i64 f.tie) ∧ w'.cell? ⟨w.heap.size, 4, none⟩ = some (.int .i64 f.to) ∧ w'.cell? ⟨w.heap.size, 5, none⟩ = some (.int .i64 f.lastTie) ∧ w'.cell? ⟨w.heap.size, 6, none⟩ = some (.int .i64 f.lastTo) ∧ w'.cell? ⟨w.heap.size, 7, none⟩ = some (.int .i64 f.first) ∧ w'.cell? ⟨w.heap.size, 8, none⟩ = some (.int .i64 f.next) ∧ w'.cell? ⟨w.heap.size, 9, none⟩ = some (.bool f.doubles))) w2a := (by (try dsimp only); (exact kp)); (try dsimp only at hSn); (try clear hS); have hS := hSn; clear hSn hc hf))
    have hlt0 : w.heap.size < w2a.heap.size := hS.2.1
    have hne1 : ¬ (w.heap.size = w2a.heap.size + 1) := by omega
    have hne2 : ¬ (w2a.heap.size + 1 = w.heap.size) := by omega
    go_loopw [8, 27] (fun x i wr => ∃ k : Nat, k ≤ n ∧ i = .int .i64 k ∧ ∃ u : Nat, x = .int .i64 u ∧ ∃ won : M.Pr, 1 ≤ u ∧ u ≤ 1000000000000 ∧ Hid (M.waysB f M.zero 1 ps = M.waysB f won u (ps.drop k)) ∧ Hid (M.wonBy f won (ps.drop k) = M.wonBy f M.zero ps) ∧ Hid (0 ≤ won.A ∧ 0 ≤ won.B ∧ won.A ≤ k ∧ won.B ≤ k) ∧ Below w.heap.size w wr ∧ w.heap.size < wr.heap.size ∧ w2a.heap.size + 1 < wr.heap.size ∧ wr.cell? ⟨w2a.heap.size + 1, 0, none⟩ = some (.int .i64 won.A) ∧ wr.cell? ⟨w2a.heap.size + 1, 1, none⟩ = some (.int .i64 won.B) ∧ wr.frozen? ⟨w2a.heap.size + 1, 0, none⟩ = false ∧ wr.frozen? ⟨w2a.heap.size + 1, 1, none⟩ = false ∧ wr.cell? ⟨w.heap.size, 0, none⟩ = some (.int .i64 f.sets) ∧ wr.cell? ⟨w.heap.size, 1, none⟩ = some (.int .i64 f.games) ∧ wr.cell? ⟨w.heap.size, 2, none⟩ = some (.bool f.noAd) ∧ wr.cell? ⟨w.heap.size, 3, none⟩ = some (.int .i64 f.tie) ∧ wr.cell? ⟨w.heap.size, 4, none⟩ = some (.int .i64 f.to) ∧ wr.cell? ⟨w.heap.size, 5, none⟩ = some (.int .i64 f.lastTie) ∧ wr.cell? ⟨w.heap.size, 6, none⟩ = some (.int .i64 f.lastTo) ∧ wr.cell? ⟨w.heap.size, 7, none⟩ = some (.int .i64 f.first) ∧ wr.cell? ⟨w.heap.size, 8, none⟩ = some (.int .i64 f.next) ∧ wr.cell? ⟨w.heap.size, 9, none⟩ = some (.bool f.doubles)) (fun _ i _ => n - (intOf i).toNat)
    case atStart => exact ⟨0, by omega, rfl, 1, rfl, M.zero, by omega, by omega, hide (by simp), hide (by simp), hide (by decide), by (exact kp)⟩
    case round =>
      obtain ⟨k, hk, rfl, u, rfl, won, hu1, hu2, hwa, hwo, hwb, hS0⟩ := hrel
      have hn5 : n ≤ 1000000 := hm
      have HWS : Hid (M.Small won) := hide ⟨by have := hwb.out; omega, by have := hwb.out; omega, by have := hwb.out; omega, by have := hwb.out; omega⟩
      by_cases hlt : k < n
      · obtain ⟨q, hq⟩ : ∃ q, ps[k]? = some q := ⟨_, List.getElem?_eq_getElem (by have := HN.out; omega)⟩
        obtain ⟨b, o, hA, hbB, c0, c1⟩ := (HR.out.below (by exact hS0.1)) k q hq
        subst hA
        have hqf := fine_bd (List.all_eq_true.1 HPF.out q (List.mem_of_getElem? hq))
        have HQF := hide hqf
        have hd : ps.drop k = q :: ps.drop (k + 1) := by
          obtain ⟨hl, rfl⟩ := List.getElem?_eq_some_iff.1 hq
          exact List.drop_eq_getElem_cons hl
        have HQS : Hid (M.Small q) := hide ⟨by omega, by omega, by omega, by omega⟩
        have HQ0 : Hid (-1000 ≤ q.A ∧ -1000 ≤ q.B) := hide (by omega)
        have HQ1 : Hid (q.A ≤ 1000 ∧ q.B ≤ 1000) := hide (by omega)
        have HVS := hide (HV.out.ofSet won)
        have hw1 : M.wonBy f won (q :: ps.drop (k + 1)) = some r := by rw [← hd, hwo.out]; exact HWR.out
        obtain ⟨hwin, hset, hnext⟩ := wonBy_cons hw1
        have hpos := M.orders_pos ⟨hqf.1, hqf.2.2.1⟩ hset
        have hmost := M.orders_most HVS.out hqf
        have hwa' := hwa.out
        rw [hd] at hwa'
        have hst : M.waysB f won u (q :: ps.drop (k + 1)) = if M.maxWays < u * M.orders (M.ofSet f won) q then none else M.waysB f (M.plus won (M.setWinner (M.ofSet f won) q)) (u * M.orders (M.ofSet f won) q) (ps.drop (k + 1)) := rfl
        rw [hst] at hwa'
        have HWA := hide hwa'
        have HNX := hide hnext
        have HSC := hide (M.setWinner_cases (M.ofSet f won) q)
        have hp1 : (1 : Int) ≤ (M.orders (M.ofSet f won) q : Int) := by omega
        have hq0 : 0 ≤ (1000000000000 : Int) / (M.orders (M.ofSet f won) q : Int) := Int.ediv_nonneg (by decide) (by omega)
        have hq1 : (1000000000000 : Int) / (M.orders (M.ofSet f won) q : Int) ≤ 1000000000000 := Int.ediv_le_self _ (by decide)
        have hiff : (1000000000000 : Int) / (M.orders (M.ofSet f won) q : Int) < (u : Int) ↔ (1000000000000 : Int) < (u : Int) * (M.orders (M.ofSet f won) q : Int) := Int.ediv_lt_iff_lt_mul (by omega)
        have hPS : Hid (0 ≤ (M.plus won (M.setWinner (M.ofSet f won) q)).A ∧ 0 ≤ (M.plus won (M.setWinner (M.ofSet f won) q)).B ∧ (M.plus won (M.setWinner (M.ofSet f won) q)).A ≤ (k + 1 : Nat) ∧ (M.plus won (M.setWinner (M.ofSet f won) q)).B ≤ (k + 1 : Nat)) := hide (by have := hwb.out; unfold M.plus; split <;> (dsimp; omega))
        have HSETN := hide hset
        clear hpos hmost hwa' hst hnext hwin hset hw1 hd hqf hq
        by_cases hdiv : (1000000000000 : Int) / (M.orders (M.ofSet f won) q : Int) < (u : Int)
        · have hbig : M.maxWays < u * M.orders (M.ofSet f won) q := by
            have := hiff.1 hdiv
            unfold M.maxWays
            have h2 : ((u * M.orders (M.ofSet f won) q : Nat) : Int) = (u : Int) * (M.orders (M.ofSet f won) q : Int) := Int.natCast_mul _ _
            omega
          have hnone : M.waysB f M.zero 1 ps = none := by rw [HWA.out, if_pos hbig]
          have HO := hide hnone
          clear hnone hbig hiff
          go_wp2_with (first | (go_at_call 55; refine (ofSet_any f won _ (by omega) (by omega)).mono ?_; rintro e w4 ⟨rfl, hb⟩; obtain ⟨hc, hf⟩ := bcell hb; have hz := hb.size; (try simp at hz); have hSn : ((fun w' => Below w.heap.size w w' ∧ w.heap.size < w'.heap.size ∧ w2a.heap.size + 1 < w'.heap.size ∧ w'.cell? ⟨w2a.heap.size + 1, 0, none⟩ = some (.int .i64 won.A) ∧ w'.cell? ⟨w2a.heap.size + 1, 1, none⟩ = some (.int .i64 won.B) ∧ w'.frozen? ⟨w2a.heap.size + 1, 0, none⟩ = false ∧ w'.frozen? ⟨w2a.heap.size + 1, 1, none⟩ = false ∧ w'.cell? ⟨w.heap.size, 0, none⟩ = some (.int .i64 f.sets) ∧ w'.cell? ⟨w.heap.size, 1, none⟩ = some (.int .i64 f.games) ∧ w'.cell? ⟨w.heap.size, 2, none⟩ = some (.bool f.noAd) ∧ w'.cell? ⟨w.heap.size, 3, none⟩ = some (.int .i64 f.tie) ∧ w'.cell? ⟨w.heap.size, 4, none⟩ = some (.int .i64 f.to) ∧ w'.cell? ⟨w.heap.size, 5, none⟩ = some (.int .i64 f.lastTie) ∧ w'.cell? ⟨w.heap.size, 6, none⟩ = some (.int .i64 f.lastTo) ∧ w'.cell? ⟨w.heap.size, 7, none⟩ = some (.int .i64 f.first) ∧ w'.cell? ⟨w.heap.size, 8, none⟩ = some (.int .i64 f.next) ∧ w'.cell? ⟨w.heap.size, 9, none⟩ = some (.bool f.doubles) ∧ wr.heap.size < w'.heap.size ∧ w'.cell? ⟨wr.heap.size, 0, none⟩ = some (.int .i64 q.A) ∧ w'.cell? ⟨wr.heap.size, 1, none⟩ = some (.int .i64 q.B))) w4 := (by (try dsimp only); (exact kp)); (try dsimp only at hSn); (try clear hS); have hS := hSn; clear hSn hc hf) | (go_at_call 56; refine (orders_any (M.ofSet f won) q _ HVS.out HQF.out).mono ?_; rintro e w5 ⟨rfl, hb⟩; obtain ⟨hc, hf⟩ := bcell hb; have hz := hb.size; (try simp at hz); have hSn : ((fun w' => Below w.heap.size w w' ∧ w.heap.size < w'.heap.size ∧ w2a.heap.size + 1 < w'.heap.size ∧ w'.cell? ⟨w2a.heap.size + 1, 0, none⟩ = some (.int .i64 won.A) ∧ w'.cell? ⟨w2a.heap.size + 1, 1, none⟩ = some (.int .i64 won.B) ∧ w'.frozen? ⟨w2a.heap.size + 1, 0, none⟩ = false ∧ w'.frozen? ⟨w2a.heap.size + 1, 1, none⟩ = false ∧ w'.cell? ⟨w.heap.size, 0, none⟩ = some (.int .i64 f.sets) ∧ w'.cell? ⟨w.heap.size, 1, none⟩ = some (.int .i64 f.games) ∧ w'.cell? ⟨w.heap.size, 2, none⟩ = some (.bool f.noAd) ∧ w'.cell? ⟨w.heap.size, 3, none⟩ = some (.int .i64 f.tie) ∧ w'.cell? ⟨w.heap.size, 4, none⟩ = some (.int .i64 f.to) ∧ w'.cell? ⟨w.heap.size, 5, none⟩ = some (.int .i64 f.lastTie) ∧ w'.cell? ⟨w.heap.size, 6, none⟩ = some (.int .i64 f.lastTo) ∧ w'.cell? ⟨w.heap.size, 7, none⟩ = some (.int .i64 f.first) ∧ w'.cell? ⟨w.heap.size, 8, none⟩ = some (.int .i64 f.next) ∧ w'.cell? ⟨w.heap.size, 9, none⟩ = some (.bool f.doubles) ∧ wr.heap.size < w'.heap.size ∧ w'.cell? ⟨wr.heap.size, 0, none⟩ = some (.int .i64 q.A) ∧ w'.cell? ⟨wr.heap.size, 1, none⟩ = some (.int .i64 q.B) ∧ w4.heap.size < w'.heap.size ∧ w'.cell? ⟨w4.heap.size, 0, none⟩ = some (.int .i64 (M.ofSet f won).sets) ∧ w'.cell? ⟨w4.heap.size, 1, none⟩ = some (.int .i64 (M.ofSet f won).games) ∧ w'.cell? ⟨w4.heap.size, 2, none⟩ = some (.bool (M.ofSet f won).noAd) ∧ w'.cell? ⟨w4.heap.size, 3, none⟩ = some (.int .i64 (M.ofSet f won).tie) ∧ w'.cell? ⟨w4.heap.size, 4, none⟩ = some (.int .i64 (M.ofSet f won).to) ∧ w'.cell? ⟨w4.heap.size, 5, none⟩ = some (.int .i64 (M.ofSet f won).lastTie) ∧ w'.cell? ⟨w4.heap.size, 6, none⟩ = some (.int .i64 (M.ofSet f won).lastTo) ∧ w'.cell? ⟨w4.heap.size, 7, none⟩ = some (.int .i64 (M.ofSet f won).first) ∧ w'.cell? ⟨w4.heap.size, 8, none⟩ = some (.int .i64 (M.ofSet f won).next) ∧ w'.cell? ⟨w4.heap.size, 9, none⟩ = some (.bool (M.ofSet f won).doubles))) w5 := (by (try dsimp only); (exact kp)); (try dsimp only at hSn); (try clear hS); have hS := hSn; clear hSn hc hf))
          go_ret2
          exact ⟨by rw [HVV.out, HEE.out, HO.out]; rfl, by (go_split_ands; (exact kb))⟩
        · have hsmall : (u : Int) * (M.orders (M.ofSet f won) q : Int) ≤ 1000000000000 := by
            have := fun h => hdiv (hiff.2 h); omega
          have hnn : 0 ≤ (u : Int) * (M.orders (M.ofSet f won) q : Int) := Int.mul_nonneg (by omega) (by omega)
          have h2 : ((u * M.orders (M.ofSet f won) q : Nat) : Int) = (u : Int) * (M.orders (M.ofSet f won) q : Int) := Int.natCast_mul _ _
          have hpos2 : 1 ≤ u * M.orders (M.ofSet f won) q := Nat.mul_pos (by omega) (by omega)
          have hle2 : u * M.orders (M.ofSet f won) q ≤ 1000000000000 := by omega
          have hon : M.waysB f M.zero 1 ps = M.waysB f (M.plus won (M.setWinner (M.ofSet f won) q)) (u * M.orders (M.ofSet f won) q) (ps.drop (k + 1)) := by rw [HWA.out, if_neg (by unfold M.maxWays; omega)]
          have HON := hide hon
          have H2 := hide h2
          have HP2 := hide hpos2
          have HL2 := hide hle2
          clear hon h2 hpos2 hle2 hiff
          go_wp2_with (first | (go_at_call 55; refine (ofSet_any f won _ (by omega) (by omega)).mono ?_; rintro e w4 ⟨rfl, hb⟩; obtain ⟨hc, hf⟩ := bcell hb; have hz := hb.size; (try simp at hz); have hSn : ((fun w' => Below w.heap.size w w' ∧ w.heap.size < w'.heap.size ∧ w2a.heap.size + 1 < w'.heap.size ∧ w'.cell? ⟨w2a.heap.size + 1, 0, none⟩ = some (.int .i64 won.A) ∧ w'.cell? ⟨w2a.heap.size + 1, 1, none⟩ = some (.int .i64 won.B) ∧ w'.frozen? ⟨w2a.heap.size + 1, 0, none⟩ = false ∧ w'.frozen? ⟨w2a.heap.size + 1, 1, none⟩ = false ∧ w'.cell? ⟨w.heap.size, 0, none⟩ = some (.int .i64 f.sets) ∧ w'.cell? ⟨w.heap.size, 1, none⟩ = some (.int .i64 f.games) ∧ w'.cell? ⟨w.heap.size, 2, none⟩ = some (.bool f.noAd) ∧ w'.cell? ⟨w.heap.size, 3, none⟩ = some (.int .i64 f.tie) ∧ w'.cell? ⟨w.heap.size, 4, none⟩ = some (.int .i64 f.to) ∧ w'.cell? ⟨w.heap.size, 5, none⟩ = some (.int .i64 f.lastTie) ∧ w'.cell? ⟨w.heap.size, 6, none⟩ = some (.int .i64 f.lastTo) ∧ w'.cell? ⟨w.heap.size, 7, none⟩ = some (.int .i64 f.first) ∧ w'.cell? ⟨w.heap.size, 8, none⟩ = some (.int .i64 f.next) ∧ w'.cell? ⟨w.heap.size, 9, none⟩ = some (.bool f.doubles) ∧ wr.heap.size < w'.heap.size ∧ w'.cell? ⟨wr.heap.size, 0, none⟩ = some (.int .i64 q.A) ∧ w'.cell? ⟨wr.heap.size, 1, none⟩ = some (.int .i64 q.B))) w4 := (by (try dsimp only); (exact kp)); (try dsimp only at hSn); (try clear hS); have hS := hSn; clear hSn hc hf) | (go_at_call 56; refine (orders_any (M.ofSet f won) q _ HVS.out HQF.out).mono ?_; rintro e w5 ⟨rfl, hb⟩; obtain ⟨hc, hf⟩ := bcell hb; have hz := hb.size; (try simp at hz); have hSn : ((fun w' => Below w.heap.size w w' ∧ w.heap.size < w'.heap.size ∧ w2a.heap.size + 1 < w'.heap.size ∧ w'.cell? ⟨w2a.heap.size + 1, 0, none⟩ = some (.int .i64 won.A) ∧ w'.cell? ⟨w2a.heap.size + 1, 1, none⟩ = some (.int .i64 won.B) ∧ w'.frozen? ⟨w2a.heap.size + 1, 0, none⟩ = false ∧ w'.frozen? ⟨w2a.heap.size + 1, 1, none⟩ = false ∧ w'.cell? ⟨w.heap.size, 0, none⟩ = some (.int .i64 f.sets) ∧ w'.cell? ⟨w.heap.size, 1, none⟩ = some (.int .i64 f.games) ∧ w'.cell? ⟨w.heap.size, 2, none⟩ = some (.bool f.noAd) ∧ w'.cell? ⟨w.heap.size, 3, none⟩ = some (.int .i64 f.tie) ∧ w'.cell? ⟨w.heap.size, 4, none⟩ = some (.int .i64 f.to) ∧ w'.cell? ⟨w.heap.size, 5, none⟩ = some (.int .i64 f.lastTie) ∧ w'.cell? ⟨w.heap.size, 6, none⟩ = some (.int .i64 f.lastTo) ∧ w'.cell? ⟨w.heap.size, 7, none⟩ = some (.int .i64 f.first) ∧ w'.cell? ⟨w.heap.size, 8, none⟩ = some (.int .i64 f.next) ∧ w'.cell? ⟨w.heap.size, 9, none⟩ = some (.bool f.doubles) ∧ wr.heap.size < w'.heap.size ∧ w'.cell? ⟨wr.heap.size, 0, none⟩ = some (.int .i64 q.A) ∧ w'.cell? ⟨wr.heap.size, 1, none⟩ = some (.int .i64 q.B) ∧ w4.heap.size < w'.heap.size ∧ w'.cell? ⟨w4.heap.size, 0, none⟩ = some (.int .i64 (M.ofSet f won).sets) ∧ w'.cell? ⟨w4.heap.size, 1, none⟩ = some (.int .i64 (M.ofSet f won).games) ∧ w'.cell? ⟨w4.heap.size, 2, none⟩ = some (.bool (M.ofSet f won).noAd) ∧ w'.cell? ⟨w4.heap.size, 3, none⟩ = some (.int .i64 (M.ofSet f won).tie) ∧ w'.cell? ⟨w4.heap.size, 4, none⟩ = some (.int .i64 (M.ofSet f won).to) ∧ w'.cell? ⟨w4.heap.size, 5, none⟩ = some (.int .i64 (M.ofSet f won).lastTie) ∧ w'.cell? ⟨w4.heap.size, 6, none⟩ = some (.int .i64 (M.ofSet f won).lastTo) ∧ w'.cell? ⟨w4.heap.size, 7, none⟩ = some (.int .i64 (M.ofSet f won).first) ∧ w'.cell? ⟨w4.heap.size, 8, none⟩ = some (.int .i64 (M.ofSet f won).next) ∧ w'.cell? ⟨w4.heap.size, 9, none⟩ = some (.bool (M.ofSet f won).doubles))) w5 := (by (try dsimp only); (exact kp)); (try dsimp only at hSn); (try clear hS); have hS := hSn; clear hSn hc hf))
          refine wp_region_held_drew (S := (fun w' => Below w.heap.size w w' ∧ w.heap.size < w'.heap.size ∧ w2a.heap.size + 1 < w'.heap.size ∧ w'.frozen? ⟨w2a.heap.size + 1, 0, none⟩ = false ∧ w'.frozen? ⟨w2a.heap.size + 1, 1, none⟩ = false ∧ w'.cell? ⟨w.heap.size, 0, none⟩ = some (.int .i64 f.sets) ∧ w'.cell? ⟨w.heap.size, 1, none⟩ = some (.int .i64 f.games) ∧ w'.cell? ⟨w.heap.size, 2, none⟩ = some (.bool f.noAd) ∧ w'.cell? ⟨w.heap.size, 3, none⟩ = some (.int .i64 f.tie) ∧ w'.cell? ⟨w.heap.size, 4, none⟩ = some (.int .i64 f.to) ∧ w'.cell? ⟨w.heap.size, 5, none⟩ = some (.int .i64 f.lastTie) ∧ w'.cell? ⟨w.heap.size, 6, none⟩ = some (.int .i64 f.lastTo) ∧ w'.cell? ⟨w.heap.size, 7, none⟩ = some (.int .i64 f.first) ∧ w'.cell? ⟨w.heap.size, 8, none⟩ = some (.int .i64 f.next) ∧ w'.cell? ⟨w.heap.size, 9, none⟩ = some (.bool f.doubles) ∧ wr.heap.size < w'.heap.size ∧ w'.cell? ⟨wr.heap.size, 0, none⟩ = some (.int .i64 q.A) ∧ w'.cell? ⟨wr.heap.size, 1, none⟩ = some (.int .i64 q.B) ∧ w4.heap.size < w'.heap.size ∧ w'.cell? ⟨w4.heap.size, 0, none⟩ = some (.int .i64 (M.ofSet f won).sets) ∧ w'.cell? ⟨w4.heap.size, 1, none⟩ = some (.int .i64 (M.ofSet f won).games) ∧ w'.cell? ⟨w4.heap.size, 2, none⟩ = some (.bool (M.ofSet f won).noAd) ∧ w'.cell? ⟨w4.heap.size, 3, none⟩ = some (.int .i64 (M.ofSet f won).tie) ∧ w'.cell? ⟨w4.heap.size, 4, none⟩ = some (.int .i64 (M.ofSet f won).to) ∧ w'.cell? ⟨w4.heap.size, 5, none⟩ = some (.int .i64 (M.ofSet f won).lastTie) ∧ w'.cell? ⟨w4.heap.size, 6, none⟩ = some (.int .i64 (M.ofSet f won).lastTo) ∧ w'.cell? ⟨w4.heap.size, 7, none⟩ = some (.int .i64 (M.ofSet f won).first) ∧ w'.cell? ⟨w4.heap.size, 8, none⟩ = some (.int .i64 (M.ofSet f won).next) ∧ w'.cell? ⟨w4.heap.size, 9, none⟩ = some (.bool (M.ofSet f won).doubles))) (by kernel_rfl) ?_ (fun hD0 => ?_)
          · (try dsimp only); (exact kp)
          refine tW ?_ 1 rfl (by kernel_rfl) (fun _ _ _ h => h) (by rfl) (by assumption) ?_ ?_; rotate_left; (focus (intro w hSw; (try dsimp only at hSw); go_simp; try with_reducible rfl)); try simp only [Act.put, zl, z0, z1]
          refine tW ?_ 2 rfl (by kernel_rfl) (fun _ _ _ h => h) (by rfl) (by assumption) ?_ ?_; rotate_left; (focus (intro w hSw; (try dsimp only at hSw); go_simp; try with_reducible rfl)); try simp only [Act.put, zl, z0, z1]
          refine wpAnyH_ready (rs := [0, 3]) (by kernel_rfl) (by simp) ?_; refine consL 0 rfl (fun K hK => ?_) ?_; go_simp
          refine hK.out _ _ ?_ (fun hD1 => ?_)
          · (try dsimp only); (exact kp)
          clear hK K hD0; try simp only [Act.put, zl, z0, z1]
          refine wpAnyH_ready (rs := [3]) (by kernel_rfl) (by simp) ?_; refine consL 3 rfl (fun K hK => ?_) AllReadyH.nil; go_simp
          (go_at_call 58; refine (setWinner_any (M.ofSet f won) q _ HQS.out HQ0.out HQ1.out).mono ?_; rintro e w' ⟨rfl, hb⟩; obtain ⟨hc, hf⟩ := bcell hb; have hz := hb.size; (try simp at hz); have hX : (fun w' => w'.cell? ⟨w2a.heap.size + 1, 0, none⟩ = some (.int .i64 won.A) ∧ w'.cell? ⟨w2a.heap.size + 1, 1, none⟩ = some (.int .i64 won.B)) w' := (by (try dsimp only); (exact kp)); (try dsimp only at hX))
          refine hK.out _ _ ?_ (fun hD2 => ?_)
          · (try dsimp only); (exact kp)
          clear hK K hD1; try simp only [Act.put, zl, z0, z1]
          refine wpAnyH_ready (rs := [4]) (by kernel_rfl) (by simp) ?_; refine consL 4 rfl (fun K hK => ?_) AllReadyH.nil; go_simp
          (go_at_call 57; refine (plus_any won _ _ HWS.out).mono ?_; rintro e w' ⟨rfl, hb⟩; obtain ⟨hc, hf⟩ := bcell hb; have hz := hb.size; (try simp at hz); have hX : (fun w' => w'.cell? ⟨w2a.heap.size + 1, 0, none⟩ = some (.int .i64 won.A) ∧ w'.cell? ⟨w2a.heap.size + 1, 1, none⟩ = some (.int .i64 won.B)) w' := (by (try dsimp only); (exact kp)); (try dsimp only at hX))
          refine hK.out _ _ ?_ (fun hD3 => ?_)
          · (try dsimp only); (exact kp)
          clear hK K hD2; try simp only [Act.put, zl, z0, z1]
          refine wpAnyH_ready (rs := [5]) (by kernel_rfl) (by simp) ?_; refine consL 5 rfl (fun K hK => ?_) AllReadyH.nil; go_simp
          refine hK.out _ _ ?_ (fun hD4 => ?_)
          · (try dsimp only); (exact kp)
          clear hK K hD3; try simp only [Act.put, zl, z0, z1]
          refine wpAnyH_done (by kernel_rfl) ?_ _
          rotate_left 1
          refine consL 3 rfl (fun K hK => ?_) AllReadyH.nil
          go_simp
          (go_at_call 58; refine (setWinner_any (M.ofSet f won) q _ HQS.out HQ0.out HQ1.out).mono ?_; rintro e w' ⟨rfl, hb⟩; obtain ⟨hc, hf⟩ := bcell hb; have hz := hb.size; (try simp at hz); have hX : (fun w' => w'.cell? ⟨w2a.heap.size + 1, 0, none⟩ = some (.int .i64 won.A) ∧ w'.cell? ⟨w2a.heap.size + 1, 1, none⟩ = some (.int .i64 won.B)) w' := (by (try dsimp only); (exact kp)); (try dsimp only at hX))
          refine hK.out _ _ ?_ (fun hD1 => ?_)
          · (try dsimp only); (exact kp)
          clear hK K hD0; try simp only [Act.put, zl, z0, z1]
          refine wpAnyH_ready (rs := [0]) (by kernel_rfl) (by simp) ?_; refine consL 0 rfl (fun K hK => ?_) AllReadyH.nil; go_simp
          refine hK.out _ _ ?_ (fun hD2 => ?_)
          · (try dsimp only); (exact kp)
          clear hK K hD1; try simp only [Act.put, zl, z0, z1]
          refine wpAnyH_ready (rs := [4]) (by kernel_rfl) (by simp) ?_; refine consL 4 rfl (fun K hK => ?_) AllReadyH.nil; go_simp
          (go_at_call 57; refine (plus_any won _ _ HWS.out).mono ?_; rintro e w' ⟨rfl, hb⟩; obtain ⟨hc, hf⟩ := bcell hb; have hz := hb.size; (try simp at hz); have hX : (fun w' => w'.cell? ⟨w2a.heap.size + 1, 0, none⟩ = some (.int .i64 won.A) ∧ w'.cell? ⟨w2a.heap.size + 1, 1, none⟩ = some (.int .i64 won.B)) w' := (by (try dsimp only); (exact kp)); (try dsimp only at hX))
          refine hK.out _ _ ?_ (fun hD3 => ?_)
          · (try dsimp only); (exact kp)
          clear hK K hD2; try simp only [Act.put, zl, z0, z1]
          refine wpAnyH_ready (rs := [5]) (by kernel_rfl) (by simp) ?_; refine consL 5 rfl (fun K hK => ?_) AllReadyH.nil; go_simp
          refine hK.out _ _ ?_ (fun hD4 => ?_)
          · (try dsimp only); (exact kp)
          clear hK K hD3; try simp only [Act.put, zl, z0, z1]
          refine wpAnyH_done (by kernel_rfl) ?_ _
          all_goals
            go_wp2
            go_roundw
            case rel => exact ⟨k + 1, by omega, by go_num, u * M.orders (M.ofSet f won) q, by rw [H2.out], _, HP2.out, HL2.out, HON, hide (by rw [HNX.out]; exact HWR.out.symm), hPS, by (exact kp)⟩
            case measure => simp [intOf]; omega
      · have hkn : k = n := by omega
        have hsome : M.waysB f M.zero 1 ps = some u := by
          rw [hwa.out, List.drop_of_length_le (by have := HN.out; omega)]; rfl
        have HO := hide hsome
        clear hsome
        subst hkn
        go_wp2
        go_ret2
        exact ⟨by rw [HVV.out, HEE.out, HO.out]; rfl, by (go_split_ands; (exact kb))⟩
  · have h0 : M.swE f ps M.zero M.zero ≠ 0 := by simpa using hsw
    have he : M.waysE f ps = M.swE f ps M.zero M.zero := if_pos h0
    have hvv : M.waysV f ps = 0 := if_pos h0
    rw [he, hvv]; clear he hvv h0
    go_enter Try.func32, Try.ntmps32
    go_wp2_with (first | (go_at_call 45; refine (setsWon_any f A n c ps M.zero M.zero _ HN.out ((HR.out.below (by (exact kb))).mono (by first | (simp; done) | (simp; omega))) hm).mono ?_; rintro e w2a ⟨rfl, hb⟩; obtain ⟨hc, hf⟩ := bcell hb; have hz := hb.size; (try simp at hz); have hSn : ((fun w' => Below w.heap.size w w' ∧ w.heap.size < w'.heap.size ∧ w'.cell? ⟨w.heap.size, 0, none⟩ = some (.int .i64 f.sets) ∧ w'.cell? ⟨w.heap.size, 1, none⟩ = some (.int .i64 f.games) ∧ w'.cell? ⟨w.heap.size, 2, none⟩ = some (.bool f.noAd) ∧ w'.cell? ⟨w.heap.size, 3, none⟩ = some (.int .i64 f.tie) ∧ w'.cell? ⟨w.heap.size, 4, none⟩ = some (.int .i64 f.to) ∧ w'.cell? ⟨w.heap.size, 5, none⟩ = some (.int .i64 f.lastTie) ∧ w'.cell? ⟨w.heap.size, 6, none⟩ = some (.int .i64 f.lastTo) ∧ w'.cell? ⟨w.heap.size, 7, none⟩ = some (.int .i64 f.first) ∧ w'.cell? ⟨w.heap.size, 8, none⟩ = some (.int .i64 f.next) ∧ w'.cell? ⟨w.heap.size, 9, none⟩ = some (.bool f.doubles))) w2a := (by (try dsimp only); (exact kp)); (try dsimp only at hSn); (try clear hS); have hS := hSn; clear hSn hc hf))
    go_ret2
    exact ⟨rfl, by (go_split_ands; (exact kb))⟩

end Go.Proofs.Ytmhaapghiecfcaa

namespace Go.Proofs.Ytmhaapghiecfcaa
open Go.RowKit
attribute [local go_sem ↓] Go.wp_at_zero Go.wp_at_succ

set_option maxHeartbeats 1600000 in
theorem pointsOfGame_any (f : M.Fm) (t : Bool) (p : M.Pr) (s : Int) (w : World) (hv : M.Valid f) (hp : M.Small p) (hs0 : 0 ≤ s) (hs1 : s ≤ 1) :
    Calls Try.prog 73 #[.agg #[.int .i64 f.sets, .int .i64 f.games, .bool f.noAd, .int .i64 f.tie, .int .i64 f.to, .int .i64 f.lastTie, .int .i64 f.lastTo, .int .i64 f.first, .int .i64 f.next, .bool f.doubles], .bool t, .agg #[.int .i64 p.A, .int .i64 p.B], .int .i64 s] w fun e w' => e = .returned (.int .i64 (M.pointsOfGame f t p s)) ∧ Below w.heap.size w w' := by
  have b1 := hp.of_lo s
  have b2 := hp.of_hi s
  have b3 := hp.of_lo (1 - s)
  have b4 := hp.of_hi (1 - s)
  have l1 := M.aimLead_lo f t
  have l2 := M.aimLead_hi f t
  have l3 := M.aimTo_lo hv t
  have l4 := M.aimTo_hi hv t
  have e1 : IntKind.i64.wrap (1 - s) = 1 - s := IntWalk.i64_in _ (by omega)
  have e2 : IntKind.i64.wrap (M.of p (1 - s) + M.aimLead f t) = M.of p (1 - s) + M.aimLead f t := IntWalk.i64_in _ (by omega)
  by_cases h : M.aimTo f t < M.of p (1 - s) + M.aimLead f t
  · have ho : M.pointsOfGame f t p s = M.of p (1 - s) + M.aimLead f t - M.of p s := by unfold M.pointsOfGame; omega
    have e3 : IntKind.i64.wrap (M.of p (1 - s) + M.aimLead f t - M.of p s) = M.of p (1 - s) + M.aimLead f t - M.of p s := IntWalk.i64_in _ (by omega)
    rw [ho]; clear ho
    go_enter Try.func73, Try.ntmps73
    go_wp2_with (go_at_call 84; refine (aims_any f t _).mono ?_; rintro e w' ⟨rfl, hb⟩; obtain ⟨hc, hf⟩ := bcell hb; have hz := hb.size; (try simp at hz))
    refine wp_region_held_drew (S := (fun w' => w'.cell? ⟨w.heap.size + 1, 0, none⟩ = some (.int .i64 p.A) ∧ w'.cell? ⟨w.heap.size + 1, 1, none⟩ = some (.int .i64 p.B) ∧ Below w.heap.size w w' ∧ w.heap.size < w'.heap.size ∧ w.heap.size + 1 < w'.heap.size)) (by kernel_rfl) ?_ (fun hD0 => ?_)
    · (try dsimp only); (exact kp)
    refine tW ?_ 0 rfl (by kernel_rfl) (fun _ _ _ h => h) (by rfl) (by assumption) ?_ ?_; rotate_left; (focus (intro w hSw; (try dsimp only at hSw); go_simp; try with_reducible rfl)); try simp only [Act.put, zl, z0, z1]
    refine tW ?_ 1 rfl (by kernel_rfl) (fun _ _ _ h => h) (by rfl) (by assumption) ?_ ?_; rotate_left; (focus (intro w hSw; (try dsimp only at hSw); go_simp; try with_reducible rfl)); try simp only [Act.put, zl, z0, z1]
    refine tW ?_ 2 rfl (by kernel_rfl) (fun _ _ _ h => h) (by rfl) (by assumption) ?_ ?_; rotate_left; (focus (intro w hSw; (try dsimp only at hSw); go_simp; try with_reducible rfl)); try simp only [Act.put, zl, z0, z1]
    refine tW ?_ 3 rfl (by kernel_rfl) (fun _ _ _ h => h) (by rfl) (by assumption) ?_ ?_; rotate_left; (focus (intro w hSw; (try dsimp only at hSw); go_simp; try with_reducible rfl)); try simp only [Act.put, zl, z0, z1]
    refine tW ?_ 5 rfl (by kernel_rfl) (fun _ _ _ h => h) (by rfl) (by assumption) ?_ ?_; rotate_left; (focus (intro w hSw; (try dsimp only at hSw); go_simp; try with_reducible rfl)); try simp only [Act.put, zl, z0, z1]
    refine tW ?_ 8 rfl (by kernel_rfl) (fun _ _ _ h => h) (by rfl) (by assumption) ?_ ?_; rotate_left; (focus (intro w hSw; (try dsimp only at hSw); go_simp; try with_reducible rfl)); try simp only [Act.put, zl, z0, z1]
    refine tW ?_ 9 rfl (by kernel_rfl) (fun _ _ _ h => h) (by rfl) (by assumption) ?_ ?_; rotate_left; (focus (intro w hSw; (try dsimp only at hSw); go_simp; try with_reducible rfl)); try simp only [Act.put, zl, z0, z1]
    refine wpAnyH_ready (rs := [4]) (by kernel_rfl) (by simp) ?_; refine consL 4 rfl (fun K hK => ?_) AllReadyH.nil; go_simp
    (go_at_call 72; refine (of_any p _ _).mono ?_; rintro e w' ⟨rfl, hb⟩; obtain ⟨hc, hf⟩ := bcell hb; have hz := hb.size; (try simp at hz))
    refine hK.out _ _ ?_ (fun hD1 => ?_)
    · (try dsimp only); (exact kp)
    clear hK K hD0; try simp only [Act.put, zl, z0, z1]
    refine tW ?_ 6 rfl (by kernel_rfl) (fun _ _ _ h => h) (by rfl) (by assumption) ?_ ?_; rotate_left; (focus (intro w hSw; (try dsimp only at hSw); go_simp; try with_reducible rfl)); try simp only [Act.put, zl, z0, z1]
    refine tW ?_ 7 rfl (by kernel_rfl) (fun _ _ _ h => h) (by rfl) (by assumption) ?_ ?_; rotate_left; (focus (intro w hSw; (try dsimp only at hSw); go_simp; try with_reducible rfl)); try simp only [Act.put, zl, z0, z1]
    refine wpAnyH_ready (rs := [10]) (by kernel_rfl) (by simp) ?_; refine consL 10 rfl (fun K hK => ?_) AllReadyH.nil; go_simp
    (go_at_call 72; refine (of_any p _ _).mono ?_; rintro e w' ⟨rfl, hb⟩; obtain ⟨hc, hf⟩ := bcell hb; have hz := hb.size; (try simp at hz))
    refine hK.out _ _ ?_ (fun hD2 => ?_)
    · (try dsimp only); (exact kp)
    clear hK K hD1; try simp only [Act.put, zl, z0, z1]
    refine tW ?_ 11 rfl (by kernel_rfl) (fun _ _ _ h => h) (by rfl) (by assumption) ?_ ?_; rotate_left; (focus (intro w hSw; (try dsimp only at hSw); go_simp; try with_reducible rfl)); try simp only [Act.put, zl, z0, z1]
    refine tW ?_ 12 rfl (by kernel_rfl) (fun _ _ _ h => h) (by rfl) (by assumption) ?_ ?_; rotate_left; (focus (intro w hSw; (try dsimp only at hSw); go_simp; try with_reducible rfl)); try simp only [Act.put, zl, z0, z1]
    refine wpAnyH_done (by kernel_rfl) ?_ _
    go_wp2
    go_ret
    exact ⟨rfl, by go_split_ands; assumption⟩
  · have ho : M.pointsOfGame f t p s = M.aimTo f t - M.of p s := by unfold M.pointsOfGame; omega
    have e3 : IntKind.i64.wrap (M.aimTo f t - M.of p s) = M.aimTo f t - M.of p s := IntWalk.i64_in _ (by omega)
    rw [ho]; clear ho
    go_enter Try.func73, Try.ntmps73
    go_wp2_with (go_at_call 84; refine (aims_any f t _).mono ?_; rintro e w' ⟨rfl, hb⟩; obtain ⟨hc, hf⟩ := bcell hb; have hz := hb.size; (try simp at hz))
    refine wp_region_held_drew (S := (fun w' => w'.cell? ⟨w.heap.size + 1, 0, none⟩ = some (.int .i64 p.A) ∧ w'.cell? ⟨w.heap.size + 1, 1, none⟩ = some (.int .i64 p.B) ∧ Below w.heap.size w w' ∧ w.heap.size < w'.heap.size ∧ w.heap.size + 1 < w'.heap.size)) (by kernel_rfl) ?_ (fun hD0 => ?_)
    · (try dsimp only); (exact kp)
    refine tW ?_ 0 rfl (by kernel_rfl) (fun _ _ _ h => h) (by rfl) (by assumption) ?_ ?_; rotate_left; (focus (intro w hSw; (try dsimp only at hSw); go_simp; try with_reducible rfl)); try simp only [Act.put, zl, z0, z1]
    refine tW ?_ 1 rfl (by kernel_rfl) (fun _ _ _ h => h) (by rfl) (by assumption) ?_ ?_; rotate_left; (focus (intro w hSw; (try dsimp only at hSw); go_simp; try with_reducible rfl)); try simp only [Act.put, zl, z0, z1]
    refine tW ?_ 2 rfl (by kernel_rfl) (fun _ _ _ h => h) (by rfl) (by assumption) ?_ ?_; rotate_left; (focus (intro w hSw; (try dsimp only at hSw); go_simp; try with_reducible rfl)); try simp only [Act.put, zl, z0, z1]
    refine tW ?_ 3 rfl (by kernel_rfl) (fun _ _ _ h => h) (by rfl) (by assumption) ?_ ?_; rotate_left; (focus (intro w hSw; (try dsimp only at hSw); go_simp; try with_reducible rfl)); try simp only [Act.put, zl, z0, z1]
    refine tW ?_ 5 rfl (by kernel_rfl) (fun _ _ _ h => h) (by rfl) (by assumption) ?_ ?_; rotate_left; (focus (intro w hSw; (try dsimp only at hSw); go_simp; try with_reducible rfl)); try simp only [Act.put, zl, z0, z1]
    refine tW ?_ 8 rfl (by kernel_rfl) (fun _ _ _ h => h) (by rfl) (by assumption) ?_ ?_; rotate_left; (focus (intro w hSw; (try dsimp only at hSw); go_simp; try with_reducible rfl)); try simp only [Act.put, zl, z0, z1]
    refine tW ?_ 9 rfl (by kernel_rfl) (fun _ _ _ h => h) (by rfl) (by assumption) ?_ ?_; rotate_left; (focus (intro w hSw; (try dsimp only at hSw); go_simp; try with_reducible rfl)); try simp only [Act.put, zl, z0, z1]
    refine wpAnyH_ready (rs := [4]) (by kernel_rfl) (by simp) ?_; refine consL 4 rfl (fun K hK => ?_) AllReadyH.nil; go_simp
    (go_at_call 72; refine (of_any p _ _).mono ?_; rintro e w' ⟨rfl, hb⟩; obtain ⟨hc, hf⟩ := bcell hb; have hz := hb.size; (try simp at hz))
    refine hK.out _ _ ?_ (fun hD1 => ?_)
    · (try dsimp only); (exact kp)
    clear hK K hD0; try simp only [Act.put, zl, z0, z1]
    refine tW ?_ 6 rfl (by kernel_rfl) (fun _ _ _ h => h) (by rfl) (by assumption) ?_ ?_; rotate_left; (focus (intro w hSw; (try dsimp only at hSw); go_simp; try with_reducible rfl)); try simp only [Act.put, zl, z0, z1]
    refine tW ?_ 7 rfl (by kernel_rfl) (fun _ _ _ h => h) (by rfl) (by assumption) ?_ ?_; rotate_left; (focus (intro w hSw; (try dsimp only at hSw); go_simp; try with_reducible rfl)); try simp only [Act.put, zl, z0, z1]
    refine wpAnyH_ready (rs := [10]) (by kernel_rfl) (by simp) ?_; refine consL 10 rfl (fun K hK => ?_) AllReadyH.nil; go_simp
    (go_at_call 72; refine (of_any p _ _).mono ?_; rintro e w' ⟨rfl, hb⟩; obtain ⟨hc, hf⟩ := bcell hb; have hz := hb.size; (try simp at hz))
    refine hK.out _ _ ?_ (fun hD2 => ?_)
    · (try dsimp only); (exact kp)
    clear hK K hD1; try simp only [Act.put, zl, z0, z1]
    refine tW ?_ 11 rfl (by kernel_rfl) (fun _ _ _ h => h) (by rfl) (by assumption) ?_ ?_; rotate_left; (focus (intro w hSw; (try dsimp only at hSw); go_simp; try with_reducible rfl)); try simp only [Act.put, zl, z0, z1]
    refine tW ?_ 12 rfl (by kernel_rfl) (fun _ _ _ h => h) (by rfl) (by assumption) ?_ ?_; rotate_left; (focus (intro w hSw; (try dsimp only at hSw); go_simp; try with_reducible rfl)); try simp only [Act.put, zl, z0, z1]
    refine wpAnyH_done (by kernel_rfl) ?_ _
    go_wp2
    go_ret
    exact ⟨rfl, by go_split_ands; assumption⟩

end Go.Proofs.Ytmhaapghiecfcaa

namespace Go.Proofs.Ytmhaapghiecfcaa
open Go.RowKit
attribute [local go_sem ↓] Go.wp_at_zero Go.wp_at_succ

set_option maxHeartbeats 3200000 in
theorem runF_any (f : M.Fm) (p : M.Pr) (s : Int) (n : Nat) (w : World) (hv : M.Valid f) (hp0 : -1000 ≤ p.A ∧ -1000 ≤ p.B) (hp2 : p.A ≤ 1000 ∧ p.B ≤ 1000) (hs0 : 0 ≤ s) (hs1 : s ≤ 1) (hn : n ≤ 10000) (he : M.Enough f s n p) :
    Calls Try.prog 76 #[.agg #[.int .i64 f.sets, .int .i64 f.games, .bool f.noAd, .int .i64 f.tie, .int .i64 f.to, .int .i64 f.lastTie, .int .i64 f.lastTo, .int .i64 f.first, .int .i64 f.next, .bool f.doubles], .agg #[.int .i64 p.A, .int .i64 p.B], .int .i64 s] w fun e w' => e = .returned (.tuple #[.int .i64 (M.runF f s n p).1, .int .i64 (M.runF f s n p).2]) ∧ Below w.heap.size w w' := by
  have HV := hide hv
  have HE := hide he
  have H0 := hide hp0
  have H2 := hide hp2
  have HS := hide (show s = 0 ∨ s = 1 by omega)
  clear hv he hp0 hp2
  go_enter Try.func76, Try.ntmps76
  go_wp2
  go_loopg [6, 7] n (fun m a b wr => m ≤ n ∧ ∃ g : M.Pr, ∃ k c : Int, a = .int .i64 k ∧ b = .int .i64 c ∧ Hid (k = n - m) ∧ 0 ≤ k ∧ k ≤ 10000 ∧ 0 ≤ c ∧ c ≤ 15 * k ∧ Hid (M.runF f s n p = (k + (M.runF f s m g).1, c + (M.runF f s m g).2)) ∧ Hid (M.Enough f s m g) ∧ Hid (-1000 ≤ g.A ∧ -1000 ≤ g.B) ∧ Hid (g.A ≤ 1000 + k ∧ g.B ≤ 1000 + k) ∧ wr.cell? ⟨w.heap.size, 0, none⟩ = some (.int .i64 f.sets) ∧ wr.cell? ⟨w.heap.size, 1, none⟩ = some (.int .i64 f.games) ∧ wr.cell? ⟨w.heap.size, 2, none⟩ = some (.bool f.noAd) ∧ wr.cell? ⟨w.heap.size, 3, none⟩ = some (.int .i64 f.tie) ∧ wr.cell? ⟨w.heap.size, 4, none⟩ = some (.int .i64 f.to) ∧ wr.cell? ⟨w.heap.size, 5, none⟩ = some (.int .i64 f.lastTie) ∧ wr.cell? ⟨w.heap.size, 6, none⟩ = some (.int .i64 f.lastTo) ∧ wr.cell? ⟨w.heap.size, 7, none⟩ = some (.int .i64 f.first) ∧ wr.cell? ⟨w.heap.size, 8, none⟩ = some (.int .i64 f.next) ∧ wr.cell? ⟨w.heap.size, 9, none⟩ = some (.bool f.doubles) ∧ wr.cell? ⟨w.heap.size + 1, 0, none⟩ = some (.int .i64 g.A) ∧ wr.cell? ⟨w.heap.size + 1, 1, none⟩ = some (.int .i64 g.B) ∧ wr.frozen? ⟨w.heap.size + 1, 0, none⟩ = false ∧ wr.frozen? ⟨w.heap.size + 1, 1, none⟩ = false ∧ Below w.heap.size w wr ∧ w.heap.size < wr.heap.size ∧ w.heap.size + 1 < wr.heap.size)
  case atStart => exact ⟨Nat.le_refl _, p, 0, 0, rfl, rfl, hide (by omega), by omega, by omega, by omega, by omega, hide (by simp), HE, H0, hide (by have := H2.out; omega), by (exact kp)⟩
  case round =>
    obtain ⟨hmn, g, k, c, rfl, rfl, hk, hk0, hk1, hc0, hc1, hr, hen, h0, h2, hS0⟩ := hrel
    have hz : M.Small M.zero := ⟨by decide, by decide, by decide, by decide⟩
    have hg : M.Small g := ⟨by have := h0.out; omega, by have := h2.out; omega, by have := h0.out; omega, by have := h2.out; omega⟩
    have hg9 : g.A ≤ 999999 ∧ g.B ≤ 999999 := by have := h2.out; omega
    have HZ := hide hz
    have HG := hide hg
    have HG9 := hide hg9
    clear hz hg hg9
    have hp := M.pts_bd HV.out s g
    have hp1 : 1 ≤ M.pointsOfGame f (M.isTie f g) M.zero s := hp.1
    have hp2 : M.pointsOfGame f (M.isTie f g) M.zero s ≤ 15 := hp.2
    have ew : IntKind.i64.wrap (c + M.pointsOfGame f (M.isTie f g) M.zero s) = c + M.pointsOfGame f (M.isTie f g) M.zero s := IntWalk.i64_in _ (by omega)
    clear hp
    cases he : M.endsSet f g s
    · obtain ⟨m, hm⟩ : ∃ m, gk = m + 1 := by
        cases gk with
        | zero => exact absurd (hen.out.zero HS.out) (by simp [he])
        | succ m => exact ⟨m, rfl⟩
      have hr' := hr.out
      rw [hm, M.runF_on he] at hr'
      have HR := hide hr'
      have HE2 : Hid (M.Enough f s m (M.plus g s)) := hide (by have := hen.out; rw [hm] at this; exact this.next HS.out)
      have HP1 : Hid (-1000 ≤ (M.plus g s).A ∧ -1000 ≤ (M.plus g s).B) := hide (by have := h0.out; unfold M.plus; split <;> (dsimp; omega))
      have HP2 : Hid ((M.plus g s).A ≤ 1000 + (k + 1) ∧ (M.plus g s).B ≤ 1000 + (k + 1)) := hide (by have := h2.out; unfold M.plus; split <;> (dsimp; omega))
      have hk2 : k + 1 ≤ 10000 := by have := hk.out; omega
      have HK : Hid (k + 1 = n - m) := hide (by have := hk.out; omega)
      have hmg : m < gk := by omega
      have hmn' : m ≤ n := by omega
      have HM := hide hm
      clear hr' hm
      go_wp2
      refine wp_region_held_drew (S := (fun w' => w'.cell? ⟨w.heap.size, 0, none⟩ = some (.int .i64 f.sets) ∧ w'.cell? ⟨w.heap.size, 1, none⟩ = some (.int .i64 f.games) ∧ w'.cell? ⟨w.heap.size, 2, none⟩ = some (.bool f.noAd) ∧ w'.cell? ⟨w.heap.size, 3, none⟩ = some (.int .i64 f.tie) ∧ w'.cell? ⟨w.heap.size, 4, none⟩ = some (.int .i64 f.to) ∧ w'.cell? ⟨w.heap.size, 5, none⟩ = some (.int .i64 f.lastTie) ∧ w'.cell? ⟨w.heap.size, 6, none⟩ = some (.int .i64 f.lastTo) ∧ w'.cell? ⟨w.heap.size, 7, none⟩ = some (.int .i64 f.first) ∧ w'.cell? ⟨w.heap.size, 8, none⟩ = some (.int .i64 f.next) ∧ w'.cell? ⟨w.heap.size, 9, none⟩ = some (.bool f.doubles) ∧ w'.cell? ⟨w.heap.size + 1, 0, none⟩ = some (.int .i64 g.A) ∧ w'.cell? ⟨w.heap.size + 1, 1, none⟩ = some (.int .i64 g.B) ∧ w'.frozen? ⟨w.heap.size + 1, 0, none⟩ = false ∧ w'.frozen? ⟨w.heap.size + 1, 1, none⟩ = false ∧ Below w.heap.size w w' ∧ w.heap.size < w'.heap.size ∧ w.heap.size + 1 < w'.heap.size)) (by kernel_rfl) ?_ (fun hD0 => ?_)
      · (try dsimp only); (exact kp)
      refine tW ?_ 0 rfl (by kernel_rfl) (fun _ _ _ h => h) (by rfl) (by assumption) ?_ ?_; rotate_left; (focus (intro w hSw; (try dsimp only at hSw); go_simp; try with_reducible rfl)); try simp only [Act.put, zl, z0, z1]
      refine tW ?_ 1 rfl (by kernel_rfl) (fun _ _ _ h => h) (by rfl) (by assumption) ?_ ?_; rotate_left; (focus (intro w hSw; (try dsimp only at hSw); go_simp; try with_reducible rfl)); try simp only [Act.put, zl, z0, z1]
      refine tW ?_ 2 rfl (by kernel_rfl) (fun _ _ _ h => h) (by rfl) (by assumption) ?_ ?_; rotate_left; (focus (intro w hSw; (try dsimp only at hSw); go_simp; try with_reducible rfl)); try simp only [Act.put, zl, z0, z1]
      refine tW ?_ 3 rfl (by kernel_rfl) (fun _ _ _ h => h) (by rfl) (by assumption) ?_ ?_; rotate_left; (focus (intro w hSw; (try dsimp only at hSw); go_simp; try with_reducible rfl)); try simp only [Act.put, zl, z0, z1]
      refine tW ?_ 5 rfl (by kernel_rfl) (fun _ _ _ h => h) (by rfl) (by assumption) ?_ ?_; rotate_left; (focus (intro w hSw; (try dsimp only at hSw); go_simp; try with_reducible rfl)); try simp only [Act.put, zl, z0, z1]
      refine tW ?_ 6 rfl (by kernel_rfl) (fun _ _ _ h => h) (by rfl) (by assumption) ?_ ?_; rotate_left; (focus (intro w hSw; (try dsimp only at hSw); go_simp; try with_reducible rfl)); try simp only [Act.put, zl, z0, z1]
      refine wpAnyH_ready (rs := [4]) (by kernel_rfl) (by simp) ?_; refine consL 4 rfl (fun K hK => ?_) AllReadyH.nil; go_simp
      (go_at_call 69; refine (isTie_any f g _).mono ?_; rintro e w' ⟨rfl, hb⟩; obtain ⟨hc, hf⟩ := bcell hb; have hz := hb.size; (try simp at hz))
      refine hK.out _ _ ?_ (fun hD1 => ?_)
      · (try dsimp only); (exact kp)
      clear hK K hD0; try simp only [Act.put, zl, z0, z1]
      refine wpAnyH_ready (rs := [7]) (by kernel_rfl) (by simp) ?_; refine consL 7 rfl (fun K hK => ?_) AllReadyH.nil; go_simp
      (go_at_call 73; refine (pointsOfGame_any f (M.isTie f g) M.zero s _ HV.out HZ.out hs0 hs1).mono ?_; rintro e w' ⟨rfl, hb⟩; obtain ⟨hc, hf⟩ := bcell hb; have hz := hb.size; (try simp at hz))
      refine hK.out _ _ ?_ (fun hD2 => ?_)
      · (try dsimp only); (exact kp)
      clear hK K hD1; try simp only [Act.put, zl, z0, z1]
      refine tW ?_ 8 rfl (by kernel_rfl) (fun _ _ _ h => h) (by rfl) (by assumption) ?_ ?_; rotate_left; (focus (intro w hSw; (try dsimp only at hSw); go_simp; try with_reducible rfl)); try simp only [Act.put, zl, z0, z1]
      refine tW ?_ 9 rfl (by kernel_rfl) (fun _ _ _ h => h) (by rfl) (by assumption) ?_ ?_; rotate_left; (focus (intro w hSw; (try dsimp only at hSw); go_simp; try with_reducible rfl)); try simp only [Act.put, zl, z0, z1]
      refine wpAnyH_done (by kernel_rfl) ?_ _
      go_wp2_with (first | (go_at_call 74; refine (endsSet_any f g _ _ HG.out HG9.out).mono ?_; rintro e w4 ⟨rfl, hb⟩; obtain ⟨hc, hf⟩ := bcell hb; have hz := hb.size; (try simp at hz); have hSn : ((fun w' => w'.cell? ⟨w.heap.size, 0, none⟩ = some (.int .i64 f.sets) ∧ w'.cell? ⟨w.heap.size, 1, none⟩ = some (.int .i64 f.games) ∧ w'.cell? ⟨w.heap.size, 2, none⟩ = some (.bool f.noAd) ∧ w'.cell? ⟨w.heap.size, 3, none⟩ = some (.int .i64 f.tie) ∧ w'.cell? ⟨w.heap.size, 4, none⟩ = some (.int .i64 f.to) ∧ w'.cell? ⟨w.heap.size, 5, none⟩ = some (.int .i64 f.lastTie) ∧ w'.cell? ⟨w.heap.size, 6, none⟩ = some (.int .i64 f.lastTo) ∧ w'.cell? ⟨w.heap.size, 7, none⟩ = some (.int .i64 f.first) ∧ w'.cell? ⟨w.heap.size, 8, none⟩ = some (.int .i64 f.next) ∧ w'.cell? ⟨w.heap.size, 9, none⟩ = some (.bool f.doubles) ∧ w'.cell? ⟨w.heap.size + 1, 0, none⟩ = some (.int .i64 g.A) ∧ w'.cell? ⟨w.heap.size + 1, 1, none⟩ = some (.int .i64 g.B) ∧ w'.frozen? ⟨w.heap.size + 1, 0, none⟩ = false ∧ w'.frozen? ⟨w.heap.size + 1, 1, none⟩ = false ∧ Below w.heap.size w w' ∧ w.heap.size < w'.heap.size ∧ w.heap.size + 1 < w'.heap.size)) w4 := (by (try dsimp only); (exact kp)); (try dsimp only at hSn); (try clear hS); have hS := hSn; clear hSn hc hf) | (go_at_call 57; refine (plus_any g s _ HG.out).mono ?_; rintro e w5 ⟨rfl, hb⟩; obtain ⟨hc, hf⟩ := bcell hb; have hz := hb.size; (try simp at hz); have hSn : ((fun w' => w'.cell? ⟨w.heap.size, 0, none⟩ = some (.int .i64 f.sets) ∧ w'.cell? ⟨w.heap.size, 1, none⟩ = some (.int .i64 f.games) ∧ w'.cell? ⟨w.heap.size, 2, none⟩ = some (.bool f.noAd) ∧ w'.cell? ⟨w.heap.size, 3, none⟩ = some (.int .i64 f.tie) ∧ w'.cell? ⟨w.heap.size, 4, none⟩ = some (.int .i64 f.to) ∧ w'.cell? ⟨w.heap.size, 5, none⟩ = some (.int .i64 f.lastTie) ∧ w'.cell? ⟨w.heap.size, 6, none⟩ = some (.int .i64 f.lastTo) ∧ w'.cell? ⟨w.heap.size, 7, none⟩ = some (.int .i64 f.first) ∧ w'.cell? ⟨w.heap.size, 8, none⟩ = some (.int .i64 f.next) ∧ w'.cell? ⟨w.heap.size, 9, none⟩ = some (.bool f.doubles) ∧ w'.cell? ⟨w.heap.size + 1, 0, none⟩ = some (.int .i64 g.A) ∧ w'.cell? ⟨w.heap.size + 1, 1, none⟩ = some (.int .i64 g.B) ∧ w'.frozen? ⟨w.heap.size + 1, 0, none⟩ = false ∧ w'.frozen? ⟨w.heap.size + 1, 1, none⟩ = false ∧ Below w.heap.size w w' ∧ w.heap.size < w'.heap.size ∧ w.heap.size + 1 < w'.heap.size)) w5 := (by (try dsimp only); (exact kp)); (try dsimp only at hSn); (try clear hS); have hS := hSn; clear hSn hc hf))
      go_roundg m
      case measure => exact hmg
      case rel => exact ⟨hmn', M.plus g s, k + 1, c + M.pointsOfGame f (M.isTie f g) M.zero s, rfl, rfl, HK, by omega, hk2, by omega, by omega, hide (by rw [HR.out]; simp only [M.pts, Int.add_assoc]), HE2, HP1, HP2, by (exact kp)⟩
    · have hr' := hr.out
      rw [M.runF_end he] at hr'
      have HR := hide hr'
      clear hr'
      go_wp2
      refine wp_region_held_drew (S := (fun w' => w'.cell? ⟨w.heap.size, 0, none⟩ = some (.int .i64 f.sets) ∧ w'.cell? ⟨w.heap.size, 1, none⟩ = some (.int .i64 f.games) ∧ w'.cell? ⟨w.heap.size, 2, none⟩ = some (.bool f.noAd) ∧ w'.cell? ⟨w.heap.size, 3, none⟩ = some (.int .i64 f.tie) ∧ w'.cell? ⟨w.heap.size, 4, none⟩ = some (.int .i64 f.to) ∧ w'.cell? ⟨w.heap.size, 5, none⟩ = some (.int .i64 f.lastTie) ∧ w'.cell? ⟨w.heap.size, 6, none⟩ = some (.int .i64 f.lastTo) ∧ w'.cell? ⟨w.heap.size, 7, none⟩ = some (.int .i64 f.first) ∧ w'.cell? ⟨w.heap.size, 8, none⟩ = some (.int .i64 f.next) ∧ w'.cell? ⟨w.heap.size, 9, none⟩ = some (.bool f.doubles) ∧ w'.cell? ⟨w.heap.size + 1, 0, none⟩ = some (.int .i64 g.A) ∧ w'.cell? ⟨w.heap.size + 1, 1, none⟩ = some (.int .i64 g.B) ∧ w'.frozen? ⟨w.heap.size + 1, 0, none⟩ = false ∧ w'.frozen? ⟨w.heap.size + 1, 1, none⟩ = false ∧ Below w.heap.size w w' ∧ w.heap.size < w'.heap.size ∧ w.heap.size + 1 < w'.heap.size)) (by kernel_rfl) ?_ (fun hD0 => ?_)
      · (try dsimp only); (exact kp)
      refine tW ?_ 0 rfl (by kernel_rfl) (fun _ _ _ h => h) (by rfl) (by assumption) ?_ ?_; rotate_left; (focus (intro w hSw; (try dsimp only at hSw); go_simp; try with_reducible rfl)); try simp only [Act.put, zl, z0, z1]
      refine tW ?_ 1 rfl (by kernel_rfl) (fun _ _ _ h => h) (by rfl) (by assumption) ?_ ?_; rotate_left; (focus (intro w hSw; (try dsimp only at hSw); go_simp; try with_reducible rfl)); try simp only [Act.put, zl, z0, z1]
      refine tW ?_ 2 rfl (by kernel_rfl) (fun _ _ _ h => h) (by rfl) (by assumption) ?_ ?_; rotate_left; (focus (intro w hSw; (try dsimp only at hSw); go_simp; try with_reducible rfl)); try simp only [Act.put, zl, z0, z1]
      refine tW ?_ 3 rfl (by kernel_rfl) (fun _ _ _ h => h) (by rfl) (by assumption) ?_ ?_; rotate_left; (focus (intro w hSw; (try dsimp only at hSw); go_simp; try with_reducible rfl)); try simp only [Act.put, zl, z0, z1]
      refine tW ?_ 5 rfl (by kernel_rfl) (fun _ _ _ h => h) (by rfl) (by assumption) ?_ ?_; rotate_left; (focus (intro w hSw; (try dsimp only at hSw); go_simp; try with_reducible rfl)); try simp only [Act.put, zl, z0, z1]
      refine tW ?_ 6 rfl (by kernel_rfl) (fun _ _ _ h => h) (by rfl) (by assumption) ?_ ?_; rotate_left; (focus (intro w hSw; (try dsimp only at hSw); go_simp; try with_reducible rfl)); try simp only [Act.put, zl, z0, z1]
      refine wpAnyH_ready (rs := [4]) (by kernel_rfl) (by simp) ?_; refine consL 4 rfl (fun K hK => ?_) AllReadyH.nil; go_simp
      (go_at_call 69; refine (isTie_any f g _).mono ?_; rintro e w' ⟨rfl, hb⟩; obtain ⟨hc, hf⟩ := bcell hb; have hz := hb.size; (try simp at hz))
      refine hK.out _ _ ?_ (fun hD1 => ?_)
      · (try dsimp only); (exact kp)
      clear hK K hD0; try simp only [Act.put, zl, z0, z1]
      refine wpAnyH_ready (rs := [7]) (by kernel_rfl) (by simp) ?_; refine consL 7 rfl (fun K hK => ?_) AllReadyH.nil; go_simp
      (go_at_call 73; refine (pointsOfGame_any f (M.isTie f g) M.zero s _ HV.out HZ.out hs0 hs1).mono ?_; rintro e w' ⟨rfl, hb⟩; obtain ⟨hc, hf⟩ := bcell hb; have hz := hb.size; (try simp at hz))
      refine hK.out _ _ ?_ (fun hD2 => ?_)
      · (try dsimp only); (exact kp)
      clear hK K hD1; try simp only [Act.put, zl, z0, z1]
      refine tW ?_ 8 rfl (by kernel_rfl) (fun _ _ _ h => h) (by rfl) (by assumption) ?_ ?_; rotate_left; (focus (intro w hSw; (try dsimp only at hSw); go_simp; try with_reducible rfl)); try simp only [Act.put, zl, z0, z1]
      refine tW ?_ 9 rfl (by kernel_rfl) (fun _ _ _ h => h) (by rfl) (by assumption) ?_ ?_; rotate_left; (focus (intro w hSw; (try dsimp only at hSw); go_simp; try with_reducible rfl)); try simp only [Act.put, zl, z0, z1]
      refine wpAnyH_done (by kernel_rfl) ?_ _
      go_wp2_with (first | (go_at_call 74; refine (endsSet_any f g _ _ HG.out HG9.out).mono ?_; rintro e w4 ⟨rfl, hb⟩; obtain ⟨hc, hf⟩ := bcell hb; have hz := hb.size; (try simp at hz); have hSn : ((fun w' => w'.cell? ⟨w.heap.size, 0, none⟩ = some (.int .i64 f.sets) ∧ w'.cell? ⟨w.heap.size, 1, none⟩ = some (.int .i64 f.games) ∧ w'.cell? ⟨w.heap.size, 2, none⟩ = some (.bool f.noAd) ∧ w'.cell? ⟨w.heap.size, 3, none⟩ = some (.int .i64 f.tie) ∧ w'.cell? ⟨w.heap.size, 4, none⟩ = some (.int .i64 f.to) ∧ w'.cell? ⟨w.heap.size, 5, none⟩ = some (.int .i64 f.lastTie) ∧ w'.cell? ⟨w.heap.size, 6, none⟩ = some (.int .i64 f.lastTo) ∧ w'.cell? ⟨w.heap.size, 7, none⟩ = some (.int .i64 f.first) ∧ w'.cell? ⟨w.heap.size, 8, none⟩ = some (.int .i64 f.next) ∧ w'.cell? ⟨w.heap.size, 9, none⟩ = some (.bool f.doubles) ∧ w'.cell? ⟨w.heap.size + 1, 0, none⟩ = some (.int .i64 g.A) ∧ w'.cell? ⟨w.heap.size + 1, 1, none⟩ = some (.int .i64 g.B) ∧ w'.frozen? ⟨w.heap.size + 1, 0, none⟩ = false ∧ w'.frozen? ⟨w.heap.size + 1, 1, none⟩ = false ∧ Below w.heap.size w w' ∧ w.heap.size < w'.heap.size ∧ w.heap.size + 1 < w'.heap.size)) w4 := (by (try dsimp only); (exact kp)); (try dsimp only at hSn); (try clear hS); have hS := hSn; clear hSn hc hf))
      go_ret2
      exact ⟨by rw [HR.out]; rfl, by (go_split_ands; (exact kb))⟩

end Go.Proofs.Ytmhaapghiecfcaa

namespace Go.Proofs.Ytmhaapghiecfcaa
open Go.RowKit
attribute [local go_sem ↓] Go.wp_at_zero Go.wp_at_succ

theorem run_any (f : M.Fm) (p : M.Pr) (s : Int) (w : World) (hv : M.Valid f) (hp0 : -1000 ≤ p.A ∧ -1000 ≤ p.B) (hp2 : p.A ≤ 1000 ∧ p.B ≤ 1000) (hs0 : 0 ≤ s) (hs1 : s ≤ 1) :
    Calls Try.prog 76 #[.agg #[.int .i64 f.sets, .int .i64 f.games, .bool f.noAd, .int .i64 f.tie, .int .i64 f.to, .int .i64 f.lastTie, .int .i64 f.lastTo, .int .i64 f.first, .int .i64 f.next, .bool f.doubles], .agg #[.int .i64 p.A, .int .i64 p.B], .int .i64 s] w fun e w' => e = .returned (.tuple #[.int .i64 (M.run f s p).1, .int .i64 (M.run f s p).2]) ∧ Below w.heap.size w w' :=
  runF_any f p s _ w hv hp0 hp2 hs0 hs1 (Nat.le_trans (M.fuel_le hv hp0 hp2) (by omega)) (M.enough_fuel f s p)

def LfgAt (f : M.Fm) (s : Int) (n : Nat) : Prop :=
  ∀ (p g : M.Pr) (w : World), -1000 ≤ g.A ∧ -1000 ≤ g.B → g.A ≤ 1000 ∧ g.B ≤ 1000 → 0 ≤ p.A ∧ 0 ≤ p.B → p.A ≤ f.sets ∧ p.B ≤ f.sets → p.A + p.B ≤ 2 * f.sets - 1 → 2 * f.sets ≤ n + p.A + p.B →
    Calls Try.prog 61 #[.agg #[.int .i64 f.sets, .int .i64 f.games, .bool f.noAd, .int .i64 f.tie, .int .i64 f.to, .int .i64 f.lastTie, .int .i64 f.lastTo, .int .i64 f.first, .int .i64 f.next, .bool f.doubles], .agg #[.int .i64 p.A, .int .i64 p.B], .agg #[.int .i64 g.A, .int .i64 g.B], .int .i64 s] w fun e w' => e = .returned (.int .i64 (M.lfg f s n p g)) ∧ Below w.heap.size w w'

set_option maxHeartbeats 4000000 in
theorem lfg_step (f : M.Fm) (s : Int) (n : Nat) (hv : M.Valid f) (hs0 : 0 ≤ s) (hs1 : s ≤ 1) (ih : LfgAt f s n) : LfgAt f s (n + 1) := by
  intro p g w hg0 hg2 hp0 hp2 hsum hn
  have HV := hide hv
  have HG0 := hide hg0
  have HG2 := hide hg2
  have HP0 := hide hp0
  have HP2 := hide hp2
  have HS := hide hsum
  have HN := hide hn
  have v0 := hv.s0
  have v1 := hv.s1
  clear hv hg0 hg2 hp0 hp2 hsum hn
  cases hw : (M.winner f p == s)
  · cases hx : (M.winner f p == 1 - s)
    · have ho : M.lfg f s (n + 1) p g = M.bestOf (fun t => (M.run (M.ofSet f p) t g).2 + M.lfg f s n (M.plus p t) M.zero) 2 := by
        conv => lhs; unfold M.lfg
        rw [if_neg (by simpa using hw), if_neg (by simpa using hx)]
      have hwin : p.A < f.sets ∧ p.B < f.sets := by
        have a := HP2.out
        have b := HP0.out
        have hw' : M.winner f p ≠ s := by simpa using hw
        have hx' : M.winner f p ≠ 1 - s := by simpa using hx
        unfold M.winner at hw' hx'
        by_cases e1 : p.A = f.sets
        · rw [if_pos e1] at hw' hx'; omega
        · by_cases e2 : p.B = f.sets
          · rw [if_neg e1, if_pos e2] at hw' hx'; omega
          · omega
      obtain ⟨cost, hcost⟩ : ∃ cost : Nat → Int, cost = fun t : Nat => (M.run (M.ofSet f p) t g).2 + M.lfg f s n (M.plus p t) M.zero := ⟨_, rfl⟩
      rw [← hcost] at ho
      have HO := hide ho
      have HC : Hid (∀ t : Nat, cost t = (M.run (M.ofSet f p) t g).2 + M.lfg f s n (M.plus p t) M.zero) := hide (fun t => by rw [hcost])
      have HW := hide hwin
      clear ho hcost hwin
      go_enter Try.func61, Try.ntmps61
      go_wp2_with (first | (go_at_call 46; refine (winner_any f p _).mono ?_; rintro e w1 ⟨rfl, hb⟩; obtain ⟨hc, hf⟩ := bcell hb; have hz := hb.size; (try simp at hz); have hSn : ((fun w' => Below w.heap.size w w' ∧ w.heap.size < w'.heap.size ∧ w.heap.size + 1 < w'.heap.size ∧ w.heap.size + 1 + 1 < w'.heap.size ∧ w'.cell? ⟨w.heap.size + 1, 0, none⟩ = some (.int .i64 p.A) ∧ w'.cell? ⟨w.heap.size + 1, 1, none⟩ = some (.int .i64 p.B) ∧ w'.cell? ⟨w.heap.size + 1 + 1, 0, none⟩ = some (.int .i64 g.A) ∧ w'.cell? ⟨w.heap.size + 1 + 1, 1, none⟩ = some (.int .i64 g.B) ∧ w'.cell? ⟨w.heap.size, 0, none⟩ = some (.int .i64 f.sets) ∧ w'.cell? ⟨w.heap.size, 1, none⟩ = some (.int .i64 f.games) ∧ w'.cell? ⟨w.heap.size, 2, none⟩ = some (.bool f.noAd) ∧ w'.cell? ⟨w.heap.size, 3, none⟩ = some (.int .i64 f.tie) ∧ w'.cell? ⟨w.heap.size, 4, none⟩ = some (.int .i64 f.to) ∧ w'.cell? ⟨w.heap.size, 5, none⟩ = some (.int .i64 f.lastTie) ∧ w'.cell? ⟨w.heap.size, 6, none⟩ = some (.int .i64 f.lastTo) ∧ w'.cell? ⟨w.heap.size, 7, none⟩ = some (.int .i64 f.first) ∧ w'.cell? ⟨w.heap.size, 8, none⟩ = some (.int .i64 f.next) ∧ w'.cell? ⟨w.heap.size, 9, none⟩ = some (.bool f.doubles))) w1 := (by (try dsimp only); (exact kp)); (try dsimp only at hSn); (try clear hS); have hS := hSn; clear hSn hc hf) | (go_at_call 55; refine (ofSet_any f p _ (by omega) (by omega)).mono ?_; rintro e w2 ⟨rfl, hb⟩; obtain ⟨hc, hf⟩ := bcell hb; have hz := hb.size; (try simp at hz); have hSn : ((fun w' => Below w.heap.size w w' ∧ w.heap.size < w'.heap.size ∧ w.heap.size + 1 < w'.heap.size ∧ w.heap.size + 1 + 1 < w'.heap.size ∧ w'.cell? ⟨w.heap.size + 1, 0, none⟩ = some (.int .i64 p.A) ∧ w'.cell? ⟨w.heap.size + 1, 1, none⟩ = some (.int .i64 p.B) ∧ w'.cell? ⟨w.heap.size + 1 + 1, 0, none⟩ = some (.int .i64 g.A) ∧ w'.cell? ⟨w.heap.size + 1 + 1, 1, none⟩ = some (.int .i64 g.B) ∧ w'.cell? ⟨w.heap.size, 0, none⟩ = some (.int .i64 f.sets) ∧ w'.cell? ⟨w.heap.size, 1, none⟩ = some (.int .i64 f.games) ∧ w'.cell? ⟨w.heap.size, 2, none⟩ = some (.bool f.noAd) ∧ w'.cell? ⟨w.heap.size, 3, none⟩ = some (.int .i64 f.tie) ∧ w'.cell? ⟨w.heap.size, 4, none⟩ = some (.int .i64 f.to) ∧ w'.cell? ⟨w.heap.size, 5, none⟩ = some (.int .i64 f.lastTie) ∧ w'.cell? ⟨w.heap.size, 6, none⟩ = some (.int .i64 f.lastTo) ∧ w'.cell? ⟨w.heap.size, 7, none⟩ = some (.int .i64 f.first) ∧ w'.cell? ⟨w.heap.size, 8, none⟩ = some (.int .i64 f.next) ∧ w'.cell? ⟨w.heap.size, 9, none⟩ = some (.bool f.doubles))) w2 := (by (try dsimp only); (exact kp)); (try dsimp only at hSn); (try clear hS); have hS := hSn; clear hSn hc hf))
      go_loopw [10, 27] (fun bb i wr => ∃ k : Nat, k ≤ 2 ∧ i = .int .i64 k ∧ bb = .int .i64 (M.bestOf cost k) ∧ Below w.heap.size w wr ∧ w.heap.size < wr.heap.size ∧ w.heap.size + 1 < wr.heap.size ∧ w.heap.size + 1 + 1 < wr.heap.size ∧ wr.cell? ⟨w.heap.size + 1, 0, none⟩ = some (.int .i64 p.A) ∧ wr.cell? ⟨w.heap.size + 1, 1, none⟩ = some (.int .i64 p.B) ∧ wr.cell? ⟨w.heap.size + 1 + 1, 0, none⟩ = some (.int .i64 g.A) ∧ wr.cell? ⟨w.heap.size + 1 + 1, 1, none⟩ = some (.int .i64 g.B) ∧ wr.cell? ⟨w.heap.size, 0, none⟩ = some (.int .i64 f.sets) ∧ wr.cell? ⟨w.heap.size, 1, none⟩ = some (.int .i64 f.games) ∧ wr.cell? ⟨w.heap.size, 2, none⟩ = some (.bool f.noAd) ∧ wr.cell? ⟨w.heap.size, 3, none⟩ = some (.int .i64 f.tie) ∧ wr.cell? ⟨w.heap.size, 4, none⟩ = some (.int .i64 f.to) ∧ wr.cell? ⟨w.heap.size, 5, none⟩ = some (.int .i64 f.lastTie) ∧ wr.cell? ⟨w.heap.size, 6, none⟩ = some (.int .i64 f.lastTo) ∧ wr.cell? ⟨w.heap.size, 7, none⟩ = some (.int .i64 f.first) ∧ wr.cell? ⟨w.heap.size, 8, none⟩ = some (.int .i64 f.next) ∧ wr.cell? ⟨w.heap.size, 9, none⟩ = some (.bool f.doubles) ∧ wr.cell? ⟨w2.heap.size, 0, none⟩ = some (.int .i64 (M.ofSet f p).sets) ∧ wr.cell? ⟨w2.heap.size, 1, none⟩ = some (.int .i64 (M.ofSet f p).games) ∧ wr.cell? ⟨w2.heap.size, 2, none⟩ = some (.bool (M.ofSet f p).noAd) ∧ wr.cell? ⟨w2.heap.size, 3, none⟩ = some (.int .i64 (M.ofSet f p).tie) ∧ wr.cell? ⟨w2.heap.size, 4, none⟩ = some (.int .i64 (M.ofSet f p).to) ∧ wr.cell? ⟨w2.heap.size, 5, none⟩ = some (.int .i64 (M.ofSet f p).lastTie) ∧ wr.cell? ⟨w2.heap.size, 6, none⟩ = some (.int .i64 (M.ofSet f p).lastTo) ∧ wr.cell? ⟨w2.heap.size, 7, none⟩ = some (.int .i64 (M.ofSet f p).first) ∧ wr.cell? ⟨w2.heap.size, 8, none⟩ = some (.int .i64 (M.ofSet f p).next) ∧ wr.cell? ⟨w2.heap.size, 9, none⟩ = some (.bool (M.ofSet f p).doubles) ∧ w2.heap.size < wr.heap.size) (fun _ i _ => 2 - (intOf i).toNat)
      case atStart => exact ⟨0, by omega, rfl, rfl, by (exact kp)⟩
      case round =>
        obtain ⟨k, hk, rfl, rfl, hS0⟩ := hrel
        by_cases hlt : k < 2
        · have hc := HC.out k
          have HCK := hide hc
          have HW2 := hide (HV.out.ofSet p)
          have hr0 : 0 ≤ (M.run (M.ofSet f p) k g).2 := by
            have := (M.runF_bd (HV.out.ofSet p) k (M.fuel (M.ofSet f p) k g) g).2.2.1; unfold M.run; omega
          have hr1 : (M.run (M.ofSet f p) k g).2 ≤ 50000 := by
            have h1 := (M.runF_bd (HV.out.ofSet p) k (M.fuel (M.ofSet f p) k g) g).2.2.2
            have h2 := M.fuel_le (HV.out.ofSet p) (side := k) HG0.out HG2.out
            unfold M.run; omega
          have hl0 := M.lfg_ge HV.out s n (M.plus p k) M.zero
          have hl1 := M.lfg_le f s n (M.plus p k) M.zero
          have ew : IntKind.i64.wrap ((M.run (M.ofSet f p) k g).2 + M.lfg f s n (M.plus p k) M.zero) = (M.run (M.ofSet f p) k g).2 + M.lfg f s n (M.plus p k) M.zero := IntWalk.i64_in _ (by unfold M.never at hl1; omega)
          have HPS : Hid (M.Small p) := hide ⟨by have := HP0.out; omega, by have := HP2.out; omega, by have := HP0.out; omega, by have := HP2.out; omega⟩
          have hq : (0 ≤ (M.plus p k).A ∧ 0 ≤ (M.plus p k).B) ∧ ((M.plus p k).A ≤ f.sets ∧ (M.plus p k).B ≤ f.sets) ∧ (M.plus p k).A + (M.plus p k).B = p.A + p.B + 1 := by
            have a := HP0.out
            have b := HW.out
            unfold M.plus; split <;> (dsimp; omega)
          have HQ := hide hq
          have IH : ∀ w', _ := fun w' => hide (ih (M.plus p k) M.zero w' (by decide) (by decide) hq.1 hq.2.1 (by have := HW.out; omega) (by have := HN.out; omega))
          clear hc hl0 hl1 hq
          have hK : (M.bestOf cost (k + 1)) = M.mn (M.bestOf cost k) ((M.run (M.ofSet f p) k g).2 + M.lfg f s n (M.plus p k) M.zero) := by rw [← HCK.out]; rfl
          have HK := hide hK
          clear hK
          by_cases hb : (M.run (M.ofSet f p) k g).2 + M.lfg f s n (M.plus p k) M.zero < M.bestOf cost k
          · have hm : M.mn (M.bestOf cost k) ((M.run (M.ofSet f p) k g).2 + M.lfg f s n (M.plus p k) M.zero) = (M.run (M.ofSet f p) k g).2 + M.lfg f s n (M.plus p k) M.zero := if_pos hb
            have HM := hide hm
            clear hm
            go_wp2_with (first | (go_at_call 76; refine (run_any (M.ofSet f p) g k _ HW2.out HG0.out HG2.out (by omega) (by omega)).mono ?_; rintro e w3 ⟨rfl, hb⟩; obtain ⟨hc, hf⟩ := bcell hb; have hz := hb.size; (try simp at hz); have hSn : ((fun w' => Below w.heap.size w w' ∧ w.heap.size < w'.heap.size ∧ w.heap.size + 1 < w'.heap.size ∧ w.heap.size + 1 + 1 < w'.heap.size ∧ w'.cell? ⟨w.heap.size + 1, 0, none⟩ = some (.int .i64 p.A) ∧ w'.cell? ⟨w.heap.size + 1, 1, none⟩ = some (.int .i64 p.B) ∧ w'.cell? ⟨w.heap.size + 1 + 1, 0, none⟩ = some (.int .i64 g.A) ∧ w'.cell? ⟨w.heap.size + 1 + 1, 1, none⟩ = some (.int .i64 g.B) ∧ w'.cell? ⟨w.heap.size, 0, none⟩ = some (.int .i64 f.sets) ∧ w'.cell? ⟨w.heap.size, 1, none⟩ = some (.int .i64 f.games) ∧ w'.cell? ⟨w.heap.size, 2, none⟩ = some (.bool f.noAd) ∧ w'.cell? ⟨w.heap.size, 3, none⟩ = some (.int .i64 f.tie) ∧ w'.cell? ⟨w.heap.size, 4, none⟩ = some (.int .i64 f.to) ∧ w'.cell? ⟨w.heap.size, 5, none⟩ = some (.int .i64 f.lastTie) ∧ w'.cell? ⟨w.heap.size, 6, none⟩ = some (.int .i64 f.lastTo) ∧ w'.cell? ⟨w.heap.size, 7, none⟩ = some (.int .i64 f.first) ∧ w'.cell? ⟨w.heap.size, 8, none⟩ = some (.int .i64 f.next) ∧ w'.cell? ⟨w.heap.size, 9, none⟩ = some (.bool f.doubles) ∧ w'.cell? ⟨w2.heap.size, 0, none⟩ = some (.int .i64 (M.ofSet f p).sets) ∧ w'.cell? ⟨w2.heap.size, 1, none⟩ = some (.int .i64 (M.ofSet f p).games) ∧ w'.cell? ⟨w2.heap.size, 2, none⟩ = some (.bool (M.ofSet f p).noAd) ∧ w'.cell? ⟨w2.heap.size, 3, none⟩ = some (.int .i64 (M.ofSet f p).tie) ∧ w'.cell? ⟨w2.heap.size, 4, none⟩ = some (.int .i64 (M.ofSet f p).to) ∧ w'.cell? ⟨w2.heap.size, 5, none⟩ = some (.int .i64 (M.ofSet f p).lastTie) ∧ w'.cell? ⟨w2.heap.size, 6, none⟩ = some (.int .i64 (M.ofSet f p).lastTo) ∧ w'.cell? ⟨w2.heap.size, 7, none⟩ = some (.int .i64 (M.ofSet f p).first) ∧ w'.cell? ⟨w2.heap.size, 8, none⟩ = some (.int .i64 (M.ofSet f p).next) ∧ w'.cell? ⟨w2.heap.size, 9, none⟩ = some (.bool (M.ofSet f p).doubles) ∧ w2.heap.size < w'.heap.size)) w3 := (by (try dsimp only); (exact kp)); (try dsimp only at hSn); (try clear hS); have hS := hSn; clear hSn hc hf))
            refine wp_region_held_drew (S := (fun w' => Below w.heap.size w w' ∧ w.heap.size < w'.heap.size ∧ w.heap.size + 1 < w'.heap.size ∧ w.heap.size + 1 + 1 < w'.heap.size ∧ w'.cell? ⟨w.heap.size + 1, 0, none⟩ = some (.int .i64 p.A) ∧ w'.cell? ⟨w.heap.size + 1, 1, none⟩ = some (.int .i64 p.B) ∧ w'.cell? ⟨w.heap.size + 1 + 1, 0, none⟩ = some (.int .i64 g.A) ∧ w'.cell? ⟨w.heap.size + 1 + 1, 1, none⟩ = some (.int .i64 g.B) ∧ w'.cell? ⟨w.heap.size, 0, none⟩ = some (.int .i64 f.sets) ∧ w'.cell? ⟨w.heap.size, 1, none⟩ = some (.int .i64 f.games) ∧ w'.cell? ⟨w.heap.size, 2, none⟩ = some (.bool f.noAd) ∧ w'.cell? ⟨w.heap.size, 3, none⟩ = some (.int .i64 f.tie) ∧ w'.cell? ⟨w.heap.size, 4, none⟩ = some (.int .i64 f.to) ∧ w'.cell? ⟨w.heap.size, 5, none⟩ = some (.int .i64 f.lastTie) ∧ w'.cell? ⟨w.heap.size, 6, none⟩ = some (.int .i64 f.lastTo) ∧ w'.cell? ⟨w.heap.size, 7, none⟩ = some (.int .i64 f.first) ∧ w'.cell? ⟨w.heap.size, 8, none⟩ = some (.int .i64 f.next) ∧ w'.cell? ⟨w.heap.size, 9, none⟩ = some (.bool f.doubles) ∧ w'.cell? ⟨w2.heap.size, 0, none⟩ = some (.int .i64 (M.ofSet f p).sets) ∧ w'.cell? ⟨w2.heap.size, 1, none⟩ = some (.int .i64 (M.ofSet f p).games) ∧ w'.cell? ⟨w2.heap.size, 2, none⟩ = some (.bool (M.ofSet f p).noAd) ∧ w'.cell? ⟨w2.heap.size, 3, none⟩ = some (.int .i64 (M.ofSet f p).tie) ∧ w'.cell? ⟨w2.heap.size, 4, none⟩ = some (.int .i64 (M.ofSet f p).to) ∧ w'.cell? ⟨w2.heap.size, 5, none⟩ = some (.int .i64 (M.ofSet f p).lastTie) ∧ w'.cell? ⟨w2.heap.size, 6, none⟩ = some (.int .i64 (M.ofSet f p).lastTo) ∧ w'.cell? ⟨w2.heap.size, 7, none⟩ = some (.int .i64 (M.ofSet f p).first) ∧ w'.cell? ⟨w2.heap.size, 8, none⟩ = some (.int .i64 (M.ofSet f p).next) ∧ w'.cell? ⟨w2.heap.size, 9, none⟩ = some (.bool (M.ofSet f p).doubles) ∧ w2.heap.size < w'.heap.size)) (by kernel_rfl) ?_ (fun hD0 => ?_)
            · (try dsimp only); (exact kp)
            refine tW ?_ 0 rfl (by kernel_rfl) (fun _ _ _ h => h) (by rfl) (by assumption) ?_ ?_; rotate_left; (focus (intro w hSw; (try dsimp only at hSw); go_simp; try with_reducible rfl)); try simp only [Act.put, zl, z0, z1]
            refine tW ?_ 1 rfl (by kernel_rfl) (fun _ _ _ h => h) (by rfl) (by assumption) ?_ ?_; rotate_left; (focus (intro w hSw; (try dsimp only at hSw); go_simp; try with_reducible rfl)); try simp only [Act.put, zl, z0, z1]
            refine tW ?_ 2 rfl (by kernel_rfl) (fun _ _ _ h => h) (by rfl) (by assumption) ?_ ?_; rotate_left; (focus (intro w hSw; (try dsimp only at hSw); go_simp; try with_reducible rfl)); try simp only [Act.put, zl, z0, z1]
            refine tW ?_ 3 rfl (by kernel_rfl) (fun _ _ _ h => h) (by rfl) (by assumption) ?_ ?_; rotate_left; (focus (intro w hSw; (try dsimp only at hSw); go_simp; try with_reducible rfl)); try simp only [Act.put, zl, z0, z1]
            refine tW ?_ 4 rfl (by kernel_rfl) (fun _ _ _ h => h) (by rfl) (by assumption) ?_ ?_; rotate_left; (focus (intro w hSw; (try dsimp only at hSw); go_simp; try with_reducible rfl)); try simp only [Act.put, zl, z0, z1]
            refine tW ?_ 6 rfl (by kernel_rfl) (fun _ _ _ h => h) (by rfl) (by assumption) ?_ ?_; rotate_left; (focus (intro w hSw; (try dsimp only at hSw); go_simp; try with_reducible rfl)); try simp only [Act.put, zl, z0, z1]
            refine tW ?_ 7 rfl (by kernel_rfl) (fun _ _ _ h => h) (by rfl) (by assumption) ?_ ?_; rotate_left; (focus (intro w hSw; (try dsimp only at hSw); go_simp; try with_reducible rfl)); try simp only [Act.put, zl, z0, z1]
            refine wpAnyH_ready (rs := [5]) (by kernel_rfl) (by simp) ?_; refine consL 5 rfl (fun K hK => ?_) AllReadyH.nil; go_simp
            (go_at_call 57; refine (plus_any p k _ HPS.out).mono ?_; rintro e w' ⟨rfl, hb⟩; obtain ⟨hc, hf⟩ := bcell hb; have hz := hb.size; (try simp at hz))
            refine hK.out _ _ ?_ (fun hD1 => ?_)
            · (try dsimp only); (exact kp)
            clear hK K hD0; try simp only [Act.put, zl, z0, z1]
            refine wpAnyH_ready (rs := [8]) (by kernel_rfl) (by simp) ?_; refine consL 8 rfl (fun K hK => ?_) AllReadyH.nil; go_simp
            (go_at_call 61; refine ((IH _).out).mono ?_; rintro e w' ⟨rfl, hb⟩; obtain ⟨hc, hf⟩ := bcell hb; have hz := hb.size; (try simp at hz))
            refine hK.out _ _ ?_ (fun hD2 => ?_)
            · (try dsimp only); (exact kp)
            clear hK K hD1; try simp only [Act.put, zl, z0, z1]
            refine tW ?_ 9 rfl (by kernel_rfl) (fun _ _ _ h => h) (by rfl) (by assumption) ?_ ?_; rotate_left; (focus (intro w hSw; (try dsimp only at hSw); go_simp; try with_reducible rfl)); try simp only [Act.put, zl, z0, z1]
            refine tW ?_ 10 rfl (by kernel_rfl) (fun _ _ _ h => h) (by rfl) (by assumption) ?_ ?_; rotate_left; (focus (intro w hSw; (try dsimp only at hSw); go_simp; try with_reducible rfl)); try simp only [Act.put, zl, z0, z1]
            refine tW ?_ 11 rfl (by kernel_rfl) (fun _ _ _ h => h) (by rfl) (by assumption) ?_ ?_; rotate_left; (focus (intro w hSw; (try dsimp only at hSw); go_simp; try with_reducible rfl)); try simp only [Act.put, zl, z0, z1]
            refine wpAnyH_done (by kernel_rfl) ?_ _
            go_wp2
            go_roundw
            case rel => exact ⟨k + 1, by omega, by go_num, by rw [HK.out, HM.out], by (exact kp)⟩
            case measure => simp [intOf]; omega
          · have hm : M.mn (M.bestOf cost k) ((M.run (M.ofSet f p) k g).2 + M.lfg f s n (M.plus p k) M.zero) = M.bestOf cost k := if_neg hb
            have HM := hide hm
            clear hm
            go_wp2_with (first | (go_at_call 76; refine (run_any (M.ofSet f p) g k _ HW2.out HG0.out HG2.out (by omega) (by omega)).mono ?_; rintro e w3 ⟨rfl, hb⟩; obtain ⟨hc, hf⟩ := bcell hb; have hz := hb.size; (try simp at hz); have hSn : ((fun w' => Below w.heap.size w w' ∧ w.heap.size < w'.heap.size ∧ w.heap.size + 1 < w'.heap.size ∧ w.heap.size + 1 + 1 < w'.heap.size ∧ w'.cell? ⟨w.heap.size + 1, 0, none⟩ = some (.int .i64 p.A) ∧ w'.cell? ⟨w.heap.size + 1, 1, none⟩ = some (.int .i64 p.B) ∧ w'.cell? ⟨w.heap.size + 1 + 1, 0, none⟩ = some (.int .i64 g.A) ∧ w'.cell? ⟨w.heap.size + 1 + 1, 1, none⟩ = some (.int .i64 g.B) ∧ w'.cell? ⟨w.heap.size, 0, none⟩ = some (.int .i64 f.sets) ∧ w'.cell? ⟨w.heap.size, 1, none⟩ = some (.int .i64 f.games) ∧ w'.cell? ⟨w.heap.size, 2, none⟩ = some (.bool f.noAd) ∧ w'.cell? ⟨w.heap.size, 3, none⟩ = some (.int .i64 f.tie) ∧ w'.cell? ⟨w.heap.size, 4, none⟩ = some (.int .i64 f.to) ∧ w'.cell? ⟨w.heap.size, 5, none⟩ = some (.int .i64 f.lastTie) ∧ w'.cell? ⟨w.heap.size, 6, none⟩ = some (.int .i64 f.lastTo) ∧ w'.cell? ⟨w.heap.size, 7, none⟩ = some (.int .i64 f.first) ∧ w'.cell? ⟨w.heap.size, 8, none⟩ = some (.int .i64 f.next) ∧ w'.cell? ⟨w.heap.size, 9, none⟩ = some (.bool f.doubles) ∧ w'.cell? ⟨w2.heap.size, 0, none⟩ = some (.int .i64 (M.ofSet f p).sets) ∧ w'.cell? ⟨w2.heap.size, 1, none⟩ = some (.int .i64 (M.ofSet f p).games) ∧ w'.cell? ⟨w2.heap.size, 2, none⟩ = some (.bool (M.ofSet f p).noAd) ∧ w'.cell? ⟨w2.heap.size, 3, none⟩ = some (.int .i64 (M.ofSet f p).tie) ∧ w'.cell? ⟨w2.heap.size, 4, none⟩ = some (.int .i64 (M.ofSet f p).to) ∧ w'.cell? ⟨w2.heap.size, 5, none⟩ = some (.int .i64 (M.ofSet f p).lastTie) ∧ w'.cell? ⟨w2.heap.size, 6, none⟩ = some (.int .i64 (M.ofSet f p).lastTo) ∧ w'.cell? ⟨w2.heap.size, 7, none⟩ = some (.int .i64 (M.ofSet f p).first) ∧ w'.cell? ⟨w2.heap.size, 8, none⟩ = some (.int .i64 (M.ofSet f p).next) ∧ w'.cell? ⟨w2.heap.size, 9, none⟩ = some (.bool (M.ofSet f p).doubles) ∧ w2.heap.size < w'.heap.size)) w3 := (by (try dsimp only); (exact kp)); (try dsimp only at hSn); (try clear hS); have hS := hSn; clear hSn hc hf))
            refine wp_region_held_drew (S := (fun w' => Below w.heap.size w w' ∧ w.heap.size < w'.heap.size ∧ w.heap.size + 1 < w'.heap.size ∧ w.heap.size + 1 + 1 < w'.heap.size ∧ w'.cell? ⟨w.heap.size + 1, 0, none⟩ = some (.int .i64 p.A) ∧ w'.cell? ⟨w.heap.size + 1, 1, none⟩ = some (.int .i64 p.B) ∧ w'.cell? ⟨w.heap.size + 1 + 1, 0, none⟩ = some (.int .i64 g.A) ∧ w'.cell? ⟨w.heap.size + 1 + 1, 1, none⟩ = some (.int .i64 g.B) ∧ w'.cell? ⟨w.heap.size, 0, none⟩ = some (.int .i64 f.sets) ∧ w'.cell? ⟨w.heap.size, 1, none⟩ = some (.int .i64 f.games) ∧ w'.cell? ⟨w.heap.size, 2, none⟩ = some (.bool f.noAd) ∧ w'.cell? ⟨w.heap.size, 3, none⟩ = some (.int .i64 f.tie) ∧ w'.cell? ⟨w.heap.size, 4, none⟩ = some (.int .i64 f.to) ∧ w'.cell? ⟨w.heap.size, 5, none⟩ = some (.int .i64 f.lastTie) ∧ w'.cell? ⟨w.heap.size, 6, none⟩ = some (.int .i64 f.lastTo) ∧ w'.cell? ⟨w.heap.size, 7, none⟩ = some (.int .i64 f.first) ∧ w'.cell? ⟨w.heap.size, 8, none⟩ = some (.int .i64 f.next) ∧ w'.cell? ⟨w.heap.size, 9, none⟩ = some (.bool f.doubles) ∧ w'.cell? ⟨w2.heap.size, 0, none⟩ = some (.int .i64 (M.ofSet f p).sets) ∧ w'.cell? ⟨w2.heap.size, 1, none⟩ = some (.int .i64 (M.ofSet f p).games) ∧ w'.cell? ⟨w2.heap.size, 2, none⟩ = some (.bool (M.ofSet f p).noAd) ∧ w'.cell? ⟨w2.heap.size, 3, none⟩ = some (.int .i64 (M.ofSet f p).tie) ∧ w'.cell? ⟨w2.heap.size, 4, none⟩ = some (.int .i64 (M.ofSet f p).to) ∧ w'.cell? ⟨w2.heap.size, 5, none⟩ = some (.int .i64 (M.ofSet f p).lastTie) ∧ w'.cell? ⟨w2.heap.size, 6, none⟩ = some (.int .i64 (M.ofSet f p).lastTo) ∧ w'.cell? ⟨w2.heap.size, 7, none⟩ = some (.int .i64 (M.ofSet f p).first) ∧ w'.cell? ⟨w2.heap.size, 8, none⟩ = some (.int .i64 (M.ofSet f p).next) ∧ w'.cell? ⟨w2.heap.size, 9, none⟩ = some (.bool (M.ofSet f p).doubles) ∧ w2.heap.size < w'.heap.size)) (by kernel_rfl) ?_ (fun hD0 => ?_)
            · (try dsimp only); (exact kp)
            refine tW ?_ 0 rfl (by kernel_rfl) (fun _ _ _ h => h) (by rfl) (by assumption) ?_ ?_; rotate_left; (focus (intro w hSw; (try dsimp only at hSw); go_simp; try with_reducible rfl)); try simp only [Act.put, zl, z0, z1]
            refine tW ?_ 1 rfl (by kernel_rfl) (fun _ _ _ h => h) (by rfl) (by assumption) ?_ ?_; rotate_left; (focus (intro w hSw; (try dsimp only at hSw); go_simp; try with_reducible rfl)); try simp only [Act.put, zl, z0, z1]
            refine tW ?_ 2 rfl (by kernel_rfl) (fun _ _ _ h => h) (by rfl) (by assumption) ?_ ?_; rotate_left; (focus (intro w hSw; (try dsimp only at hSw); go_simp; try with_reducible rfl)); try simp only [Act.put, zl, z0, z1]
            refine tW ?_ 3 rfl (by kernel_rfl) (fun _ _ _ h => h) (by rfl) (by assumption) ?_ ?_; rotate_left; (focus (intro w hSw; (try dsimp only at hSw); go_simp; try with_reducible rfl)); try simp only [Act.put, zl, z0, z1]
            refine tW ?_ 4 rfl (by kernel_rfl) (fun _ _ _ h => h) (by rfl) (by assumption) ?_ ?_; rotate_left; (focus (intro w hSw; (try dsimp only at hSw); go_simp; try with_reducible rfl)); try simp only [Act.put, zl, z0, z1]
            refine tW ?_ 6 rfl (by kernel_rfl) (fun _ _ _ h => h) (by rfl) (by assumption) ?_ ?_; rotate_left; (focus (intro w hSw; (try dsimp only at hSw); go_simp; try with_reducible rfl)); try simp only [Act.put, zl, z0, z1]
            refine tW ?_ 7 rfl (by kernel_rfl) (fun _ _ _ h => h) (by rfl) (by assumption) ?_ ?_; rotate_left; (focus (intro w hSw; (try dsimp only at hSw); go_simp; try with_reducible rfl)); try simp only [Act.put, zl, z0, z1]
            refine wpAnyH_ready (rs := [5]) (by kernel_rfl) (by simp) ?_; refine consL 5 rfl (fun K hK => ?_) AllReadyH.nil; go_simp
            (go_at_call 57; refine (plus_any p k _ HPS.out).mono ?_; rintro e w' ⟨rfl, hb⟩; obtain ⟨hc, hf⟩ := bcell hb; have hz := hb.size; (try simp at hz))
            refine hK.out _ _ ?_ (fun hD1 => ?_)
            · (try dsimp only); (exact kp)
            clear hK K hD0; try simp only [Act.put, zl, z0, z1]
            refine wpAnyH_ready (rs := [8]) (by kernel_rfl) (by simp) ?_; refine consL 8 rfl (fun K hK => ?_) AllReadyH.nil; go_simp
            (go_at_call 61; refine ((IH _).out).mono ?_; rintro e w' ⟨rfl, hb⟩; obtain ⟨hc, hf⟩ := bcell hb; have hz := hb.size; (try simp at hz))
            refine hK.out _ _ ?_ (fun hD2 => ?_)
            · (try dsimp only); (exact kp)
            clear hK K hD1; try simp only [Act.put, zl, z0, z1]
            refine tW ?_ 9 rfl (by kernel_rfl) (fun _ _ _ h => h) (by rfl) (by assumption) ?_ ?_; rotate_left; (focus (intro w hSw; (try dsimp only at hSw); go_simp; try with_reducible rfl)); try simp only [Act.put, zl, z0, z1]
            refine tW ?_ 10 rfl (by kernel_rfl) (fun _ _ _ h => h) (by rfl) (by assumption) ?_ ?_; rotate_left; (focus (intro w hSw; (try dsimp only at hSw); go_simp; try with_reducible rfl)); try simp only [Act.put, zl, z0, z1]
            refine tW ?_ 11 rfl (by kernel_rfl) (fun _ _ _ h => h) (by rfl) (by assumption) ?_ ?_; rotate_left; (focus (intro w hSw; (try dsimp only at hSw); go_simp; try with_reducible rfl)); try simp only [Act.put, zl, z0, z1]
            refine wpAnyH_done (by kernel_rfl) ?_ _
            go_wp2
            go_roundw
            case rel => exact ⟨k + 1, by omega, by go_num, (by rw [HK.out, HM.out]; first | rfl | rw [if_neg (by omega)]), by (exact kp)⟩
            case measure => simp [intOf]; omega
        · have hk2 : k = 2 := by omega
          subst hk2
          go_wp2
          go_ret
          exact ⟨by rw [HO.out]; rfl, by (go_split_ands; (exact kb))⟩
    · have ho : M.lfg f s (n + 1) p g = M.never := by
        conv => lhs; unfold M.lfg
        rw [if_neg (by simpa using hw), if_pos (by simpa using hx)]
      rw [ho]; clear ho
      go_enter Try.func61, Try.ntmps61
      go_wp2_with (first | (go_at_call 46; refine (winner_any f p _).mono ?_; rintro e w1 ⟨rfl, hb⟩; obtain ⟨hc, hf⟩ := bcell hb; have hz := hb.size; (try simp at hz); have hSn : ((fun w' => Below w.heap.size w w')) w1 := (by (try dsimp only); (exact kp)); (try dsimp only at hSn); (try clear hS); have hS := hSn; clear hSn hc hf))
      go_ret
      exact ⟨rfl, by (go_split_ands; (exact kb))⟩
  · have ho : M.lfg f s (n + 1) p g = 0 := by
      conv => lhs; unfold M.lfg
      rw [if_pos (by simpa using hw)]
    rw [ho]; clear ho
    go_enter Try.func61, Try.ntmps61
    go_wp2_with (first | (go_at_call 46; refine (winner_any f p _).mono ?_; rintro e w1 ⟨rfl, hb⟩; obtain ⟨hc, hf⟩ := bcell hb; have hz := hb.size; (try simp at hz); have hSn : ((fun w' => Below w.heap.size w w')) w1 := (by (try dsimp only); (exact kp)); (try dsimp only at hSn); (try clear hS); have hS := hSn; clear hSn hc hf))
    go_ret
    exact ⟨rfl, by (go_split_ands; (exact kb))⟩

theorem lfg_any (f : M.Fm) (s : Int) (hv : M.Valid f) (hs0 : 0 ≤ s) (hs1 : s ≤ 1) : ∀ n, LfgAt f s n
  | 0 => fun p g w _ _ h0 h1 h2 h3 => by exfalso; omega
  | n + 1 => lfg_step f s n hv hs0 hs1 (lfg_any f s hv hs0 hs1 n)

end Go.Proofs.Ytmhaapghiecfcaa

namespace Go.Proofs.Ytmhaapghiecfcaa
open Go.RowKit
attribute [local go_sem ↓] Go.wp_at_zero Go.wp_at_succ

set_option maxHeartbeats 8000000 in
theorem lfp_any (f : M.Fm) (s : Int) (v : Value) (won g p : M.Pr) (w : World) (hv : M.Valid f) (hs0 : 0 ≤ s) (hs1 : s ≤ 1) (hw0 : 0 ≤ won.A ∧ 0 ≤ won.B) (hw1 : won.A < f.sets ∧ won.B < f.sets)
    (hg : 0 ≤ g.A ∧ g.A ≤ 40 ∧ 0 ≤ g.B ∧ g.B ≤ 40) (hp : 0 ≤ p.A ∧ p.A ≤ 40 ∧ 0 ≤ p.B ∧ p.B ≤ 40) (A : Option Addr) (m c : Nat) (hsv : v = .slice A m c) :
    Calls Try.prog 47 #[.agg #[.int .i64 f.sets, .int .i64 f.games, .bool f.noAd, .int .i64 f.tie, .int .i64 f.to, .int .i64 f.lastTie, .int .i64 f.lastTo, .int .i64 f.first, .int .i64 f.next, .bool f.doubles], .agg #[.int .i64 won.A, .int .i64 won.B], .agg #[v, .int .i64 g.A, .int .i64 g.B, .int .i64 p.A, .int .i64 p.B], .int .i64 s] w fun e w' => e = .returned (.int .i64 (M.lfp f s 6 won g p)) ∧ Below w.heap.size w w' := by
  subst hsv
  have HV := hide hv
  have HW0 := hide hw0
  have HW1 := hide hw1
  have HGB := hide hg
  have HPB := hide hp
  have v0 := hv.s0
  have v1 := hv.s1
  have HWS : Hid (M.Small won) := hide ⟨by omega, by omega, by omega, by omega⟩
  have HGS : Hid (M.Small g) := hide ⟨by omega, by omega, by omega, by omega⟩
  have HGS9 : Hid (g.A ≤ 999999 ∧ g.B ≤ 999999) := hide (by omega)
  have HPP : Hid (M.Small p) := hide ⟨by omega, by omega, by omega, by omega⟩
  have HVS := hide (hv.ofSet won)
  obtain ⟨cost, hcost⟩ : ∃ cost : Nat → Int, cost = fun t : Nat => M.pointsOfGame (M.ofSet f won) (M.isTie (M.ofSet f won) g) p t + (if M.endsSet (M.ofSet f won) g t then M.lfg f s 6 (M.plus won t) M.zero else M.lfg f s 6 won (M.plus g t)) := ⟨_, rfl⟩
  have ho : M.lfp f s 6 won g p = M.bestOf cost 2 := by rw [hcost]; rfl
  have HO := hide ho
  have HC : Hid (∀ t : Nat, cost t = M.pointsOfGame (M.ofSet f won) (M.isTie (M.ofSet f won) g) p t + (if M.endsSet (M.ofSet f won) g t then M.lfg f s 6 (M.plus won t) M.zero else M.lfg f s 6 won (M.plus g t))) := hide (fun t => by rw [hcost])
  have hl := lfg_any f s hv hs0 hs1 6
  have IH0 : ∀ t : Nat, t < 2 → ∀ w', Hid _ := fun t ht w' => hide (hl (M.plus won t) M.zero w' (by decide) (by decide) (by unfold M.plus; split <;> (dsimp; omega)) (by unfold M.plus; split <;> (dsimp; omega)) (by unfold M.plus; split <;> (dsimp; omega)) (by unfold M.plus; split <;> (dsimp; omega)))
  have IH1 : ∀ t : Nat, t < 2 → ∀ w', Hid _ := fun t ht w' => hide (hl won (M.plus g t) w' (by unfold M.plus; split <;> (dsimp; omega)) (by unfold M.plus; split <;> (dsimp; omega)) hw0 (by omega) (by omega) (by omega))
  have J0 := hide IH0
  have J1 := hide IH1
  clear ho hcost hv hw0 hw1 hg hp hl IH0 IH1
  go_enter Try.func47, Try.ntmps47
  go_wp2_with (first | (go_at_call 55; refine (ofSet_any f won _ (by omega) (by omega)).mono ?_; rintro e w1 ⟨rfl, hb⟩; obtain ⟨hc, hf⟩ := bcell hb; have hz := hb.size; (try simp at hz); have hSn : ((fun w' => Below w.heap.size w w' ∧ w.heap.size < w'.heap.size ∧ w.heap.size + 1 < w'.heap.size ∧ w.heap.size + 1 + 1 < w'.heap.size ∧ w'.cell? ⟨w.heap.size + 1, 0, none⟩ = some (.int .i64 won.A) ∧ w'.cell? ⟨w.heap.size + 1, 1, none⟩ = some (.int .i64 won.B) ∧ w'.cell? ⟨w.heap.size + 1 + 1, 1, none⟩ = some (.int .i64 g.A) ∧ w'.cell? ⟨w.heap.size + 1 + 1, 2, none⟩ = some (.int .i64 g.B) ∧ w'.cell? ⟨w.heap.size + 1 + 1, 3, none⟩ = some (.int .i64 p.A) ∧ w'.cell? ⟨w.heap.size + 1 + 1, 4, none⟩ = some (.int .i64 p.B) ∧ w'.cell? ⟨w.heap.size, 0, none⟩ = some (.int .i64 f.sets) ∧ w'.cell? ⟨w.heap.size, 1, none⟩ = some (.int .i64 f.games) ∧ w'.cell? ⟨w.heap.size, 2, none⟩ = some (.bool f.noAd) ∧ w'.cell? ⟨w.heap.size, 3, none⟩ = some (.int .i64 f.tie) ∧ w'.cell? ⟨w.heap.size, 4, none⟩ = some (.int .i64 f.to) ∧ w'.cell? ⟨w.heap.size, 5, none⟩ = some (.int .i64 f.lastTie) ∧ w'.cell? ⟨w.heap.size, 6, none⟩ = some (.int .i64 f.lastTo) ∧ w'.cell? ⟨w.heap.size, 7, none⟩ = some (.int .i64 f.first) ∧ w'.cell? ⟨w.heap.size, 8, none⟩ = some (.int .i64 f.next) ∧ w'.cell? ⟨w.heap.size, 9, none⟩ = some (.bool f.doubles))) w1 := (by (try dsimp only); (exact kp)); (try dsimp only at hSn); (try clear hS); have hS := hSn; clear hSn hc hf; obtain ⟨Sx, Sxd⟩ : ∃ Sx : World → Prop, Hid (Sx = (fun w' => Below w.heap.size w w' ∧ w.heap.size < w'.heap.size ∧ w.heap.size + 1 < w'.heap.size ∧ w.heap.size + 1 + 1 < w'.heap.size ∧ w'.cell? ⟨w.heap.size + 1, 0, none⟩ = some (.int .i64 won.A) ∧ w'.cell? ⟨w.heap.size + 1, 1, none⟩ = some (.int .i64 won.B) ∧ w'.cell? ⟨w.heap.size + 1 + 1, 1, none⟩ = some (.int .i64 g.A) ∧ w'.cell? ⟨w.heap.size + 1 + 1, 2, none⟩ = some (.int .i64 g.B) ∧ w'.cell? ⟨w.heap.size + 1 + 1, 3, none⟩ = some (.int .i64 p.A) ∧ w'.cell? ⟨w.heap.size + 1 + 1, 4, none⟩ = some (.int .i64 p.B) ∧ w'.cell? ⟨w.heap.size, 0, none⟩ = some (.int .i64 f.sets) ∧ w'.cell? ⟨w.heap.size, 1, none⟩ = some (.int .i64 f.games) ∧ w'.cell? ⟨w.heap.size, 2, none⟩ = some (.bool f.noAd) ∧ w'.cell? ⟨w.heap.size, 3, none⟩ = some (.int .i64 f.tie) ∧ w'.cell? ⟨w.heap.size, 4, none⟩ = some (.int .i64 f.to) ∧ w'.cell? ⟨w.heap.size, 5, none⟩ = some (.int .i64 f.lastTie) ∧ w'.cell? ⟨w.heap.size, 6, none⟩ = some (.int .i64 f.lastTo) ∧ w'.cell? ⟨w.heap.size, 7, none⟩ = some (.int .i64 f.first) ∧ w'.cell? ⟨w.heap.size, 8, none⟩ = some (.int .i64 f.next) ∧ w'.cell? ⟨w.heap.size, 9, none⟩ = some (.bool f.doubles) ∧ w'.cell? ⟨w1.heap.size, 0, none⟩ = some (.int .i64 (M.ofSet f won).sets) ∧ w'.cell? ⟨w1.heap.size, 1, none⟩ = some (.int .i64 (M.ofSet f won).games) ∧ w'.cell? ⟨w1.heap.size, 2, none⟩ = some (.bool (M.ofSet f won).noAd) ∧ w'.cell? ⟨w1.heap.size, 3, none⟩ = some (.int .i64 (M.ofSet f won).tie) ∧ w'.cell? ⟨w1.heap.size, 4, none⟩ = some (.int .i64 (M.ofSet f won).to) ∧ w'.cell? ⟨w1.heap.size, 5, none⟩ = some (.int .i64 (M.ofSet f won).lastTie) ∧ w'.cell? ⟨w1.heap.size, 6, none⟩ = some (.int .i64 (M.ofSet f won).lastTo) ∧ w'.cell? ⟨w1.heap.size, 7, none⟩ = some (.int .i64 (M.ofSet f won).first) ∧ w'.cell? ⟨w1.heap.size, 8, none⟩ = some (.int .i64 (M.ofSet f won).next) ∧ w'.cell? ⟨w1.heap.size, 9, none⟩ = some (.bool (M.ofSet f won).doubles) ∧ w1.heap.size < w'.heap.size)) := ⟨_, hide rfl⟩) | (go_at_call 69; refine (isTie_any (M.ofSet f won) g _).mono ?_; rintro e w2 ⟨rfl, hb⟩; obtain ⟨hc, hf⟩ := bcell hb; have hz := hb.size; (try simp at hz); have hSn : Sx w2 := (by rw [Sxd.out]; (try dsimp only); (exact kp)); rw [Sxd.out] at hSn; (try dsimp only at hSn); (try clear hS); have hS := hSn; clear hSn hc hf))
  go_loopw [11, 21] (fun bb i wr => ∃ k : Nat, k ≤ 2 ∧ i = .int .i64 k ∧ bb = .int .i64 (M.bestOf cost k) ∧ Below w.heap.size w wr ∧ w.heap.size < wr.heap.size ∧ w.heap.size + 1 < wr.heap.size ∧ w.heap.size + 1 + 1 < wr.heap.size ∧ wr.cell? ⟨w.heap.size + 1, 0, none⟩ = some (.int .i64 won.A) ∧ wr.cell? ⟨w.heap.size + 1, 1, none⟩ = some (.int .i64 won.B) ∧ wr.cell? ⟨w.heap.size + 1 + 1, 1, none⟩ = some (.int .i64 g.A) ∧ wr.cell? ⟨w.heap.size + 1 + 1, 2, none⟩ = some (.int .i64 g.B) ∧ wr.cell? ⟨w.heap.size + 1 + 1, 3, none⟩ = some (.int .i64 p.A) ∧ wr.cell? ⟨w.heap.size + 1 + 1, 4, none⟩ = some (.int .i64 p.B) ∧ wr.cell? ⟨w.heap.size, 0, none⟩ = some (.int .i64 f.sets) ∧ wr.cell? ⟨w.heap.size, 1, none⟩ = some (.int .i64 f.games) ∧ wr.cell? ⟨w.heap.size, 2, none⟩ = some (.bool f.noAd) ∧ wr.cell? ⟨w.heap.size, 3, none⟩ = some (.int .i64 f.tie) ∧ wr.cell? ⟨w.heap.size, 4, none⟩ = some (.int .i64 f.to) ∧ wr.cell? ⟨w.heap.size, 5, none⟩ = some (.int .i64 f.lastTie) ∧ wr.cell? ⟨w.heap.size, 6, none⟩ = some (.int .i64 f.lastTo) ∧ wr.cell? ⟨w.heap.size, 7, none⟩ = some (.int .i64 f.first) ∧ wr.cell? ⟨w.heap.size, 8, none⟩ = some (.int .i64 f.next) ∧ wr.cell? ⟨w.heap.size, 9, none⟩ = some (.bool f.doubles) ∧ wr.cell? ⟨w1.heap.size, 0, none⟩ = some (.int .i64 (M.ofSet f won).sets) ∧ wr.cell? ⟨w1.heap.size, 1, none⟩ = some (.int .i64 (M.ofSet f won).games) ∧ wr.cell? ⟨w1.heap.size, 2, none⟩ = some (.bool (M.ofSet f won).noAd) ∧ wr.cell? ⟨w1.heap.size, 3, none⟩ = some (.int .i64 (M.ofSet f won).tie) ∧ wr.cell? ⟨w1.heap.size, 4, none⟩ = some (.int .i64 (M.ofSet f won).to) ∧ wr.cell? ⟨w1.heap.size, 5, none⟩ = some (.int .i64 (M.ofSet f won).lastTie) ∧ wr.cell? ⟨w1.heap.size, 6, none⟩ = some (.int .i64 (M.ofSet f won).lastTo) ∧ wr.cell? ⟨w1.heap.size, 7, none⟩ = some (.int .i64 (M.ofSet f won).first) ∧ wr.cell? ⟨w1.heap.size, 8, none⟩ = some (.int .i64 (M.ofSet f won).next) ∧ wr.cell? ⟨w1.heap.size, 9, none⟩ = some (.bool (M.ofSet f won).doubles) ∧ w1.heap.size < wr.heap.size) (fun _ i _ => 2 - (intOf i).toNat)
  case atStart => exact ⟨0, by omega, rfl, rfl, by (exact kp)⟩
  case round =>
    obtain ⟨k, hk, rfl, rfl, hS0⟩ := hrel
    by_cases hlt : k < 2
    · have hp0 : 0 ≤ M.pointsOfGame (M.ofSet f won) (M.isTie (M.ofSet f won) g) p k + 1000 ∧ M.pointsOfGame (M.ofSet f won) (M.isTie (M.ofSet f won) g) p k ≤ 1000 := by
        have a := M.aimTo_lo HVS.out (M.isTie (M.ofSet f won) g)
        have b := M.aimTo_hi HVS.out (M.isTie (M.ofSet f won) g)
        have c := M.aimLead_lo (M.ofSet f won) (M.isTie (M.ofSet f won) g)
        have d := M.aimLead_hi (M.ofSet f won) (M.isTie (M.ofSet f won) g)
        have e : ∀ x, 0 ≤ M.of p x ∧ M.of p x ≤ 40 := fun x => by have := HPB.out; unfold M.of; split <;> omega
        have e1 := e k
        have e2 := e (1 - k)
        unfold M.pointsOfGame; omega
      obtain ⟨hp0, hp1⟩ := hp0
      cases hes : M.endsSet (M.ofSet f won) g k
      · have hl0 := M.lfg_ge HV.out s 6 won (M.plus g k)
        have hl1 := M.lfg_le f s 6 won (M.plus g k)
        have ew : IntKind.i64.wrap (M.pointsOfGame (M.ofSet f won) (M.isTie (M.ofSet f won) g) p k + M.lfg f s 6 won (M.plus g k)) = M.pointsOfGame (M.ofSet f won) (M.isTie (M.ofSet f won) g) p k + M.lfg f s 6 won (M.plus g k) := IntWalk.i64_in _ (by unfold M.never at hl1; omega)
        have hK : M.bestOf cost (k + 1) = M.mn (M.bestOf cost k) (M.pointsOfGame (M.ofSet f won) (M.isTie (M.ofSet f won) g) p k + M.lfg f s 6 won (M.plus g k)) := by
          have : cost k = M.pointsOfGame (M.ofSet f won) (M.isTie (M.ofSet f won) g) p k + M.lfg f s 6 won (M.plus g k) := by rw [HC.out k, hes]; rfl
          rw [← this]; rfl
        have HK := hide hK
        clear hK hl0 hl1
        have JJ := hide (J1.out k hlt)
        go_wp2_with (first | (go_at_call 73; refine (pointsOfGame_any (M.ofSet f won) (M.isTie (M.ofSet f won) g) p k _ HVS.out HPP.out (by omega) (by omega)).mono ?_; rintro e w3 ⟨rfl, hb⟩; obtain ⟨hc, hf⟩ := bcell hb; have hz := hb.size; (try simp at hz); have hSn : Sx w3 := (by rw [Sxd.out]; (try dsimp only); (exact kp)); rw [Sxd.out] at hSn; (try dsimp only at hSn); (try clear hS); have hS := hSn; clear hSn hc hf) | (go_at_call 74; refine (endsSet_any (M.ofSet f won) g k _ HGS.out HGS9.out).mono ?_; rintro e w4 ⟨rfl, hb⟩; obtain ⟨hc, hf⟩ := bcell hb; have hz := hb.size; (try simp at hz); have hSn : Sx w4 := (by rw [Sxd.out]; (try dsimp only); (exact kp)); rw [Sxd.out] at hSn; (try dsimp only at hSn); (try clear hS); have hS := hSn; clear hSn hc hf))
        refine wp_region_held_drew (S := (fun w' => Below w.heap.size w w' ∧ w.heap.size < w'.heap.size ∧ w.heap.size + 1 < w'.heap.size ∧ w.heap.size + 1 + 1 < w'.heap.size ∧ w'.cell? ⟨w.heap.size + 1, 0, none⟩ = some (.int .i64 won.A) ∧ w'.cell? ⟨w.heap.size + 1, 1, none⟩ = some (.int .i64 won.B) ∧ w'.cell? ⟨w.heap.size + 1 + 1, 1, none⟩ = some (.int .i64 g.A) ∧ w'.cell? ⟨w.heap.size + 1 + 1, 2, none⟩ = some (.int .i64 g.B) ∧ w'.cell? ⟨w.heap.size + 1 + 1, 3, none⟩ = some (.int .i64 p.A) ∧ w'.cell? ⟨w.heap.size + 1 + 1, 4, none⟩ = some (.int .i64 p.B) ∧ w'.cell? ⟨w.heap.size, 0, none⟩ = some (.int .i64 f.sets) ∧ w'.cell? ⟨w.heap.size, 1, none⟩ = some (.int .i64 f.games) ∧ w'.cell? ⟨w.heap.size, 2, none⟩ = some (.bool f.noAd) ∧ w'.cell? ⟨w.heap.size, 3, none⟩ = some (.int .i64 f.tie) ∧ w'.cell? ⟨w.heap.size, 4, none⟩ = some (.int .i64 f.to) ∧ w'.cell? ⟨w.heap.size, 5, none⟩ = some (.int .i64 f.lastTie) ∧ w'.cell? ⟨w.heap.size, 6, none⟩ = some (.int .i64 f.lastTo) ∧ w'.cell? ⟨w.heap.size, 7, none⟩ = some (.int .i64 f.first) ∧ w'.cell? ⟨w.heap.size, 8, none⟩ = some (.int .i64 f.next) ∧ w'.cell? ⟨w.heap.size, 9, none⟩ = some (.bool f.doubles) ∧ w'.cell? ⟨w1.heap.size, 0, none⟩ = some (.int .i64 (M.ofSet f won).sets) ∧ w'.cell? ⟨w1.heap.size, 1, none⟩ = some (.int .i64 (M.ofSet f won).games) ∧ w'.cell? ⟨w1.heap.size, 2, none⟩ = some (.bool (M.ofSet f won).noAd) ∧ w'.cell? ⟨w1.heap.size, 3, none⟩ = some (.int .i64 (M.ofSet f won).tie) ∧ w'.cell? ⟨w1.heap.size, 4, none⟩ = some (.int .i64 (M.ofSet f won).to) ∧ w'.cell? ⟨w1.heap.size, 5, none⟩ = some (.int .i64 (M.ofSet f won).lastTie) ∧ w'.cell? ⟨w1.heap.size, 6, none⟩ = some (.int .i64 (M.ofSet f won).lastTo) ∧ w'.cell? ⟨w1.heap.size, 7, none⟩ = some (.int .i64 (M.ofSet f won).first) ∧ w'.cell? ⟨w1.heap.size, 8, none⟩ = some (.int .i64 (M.ofSet f won).next) ∧ w'.cell? ⟨w1.heap.size, 9, none⟩ = some (.bool (M.ofSet f won).doubles) ∧ w1.heap.size < w'.heap.size)) (by kernel_rfl) ?_ (fun hD0 => ?_)
        · (try dsimp only); (exact kp)
        refine tW ?_ 0 rfl (by kernel_rfl) (fun _ _ _ h => h) (by rfl) (by assumption) ?_ ?_; rotate_left; (focus (intro w hSw; (try dsimp only at hSw); go_simp; try with_reducible rfl)); try simp only [Act.put, zl, z0, z1]
        refine tW ?_ 1 rfl (by kernel_rfl) (fun _ _ _ h => h) (by rfl) (by assumption) ?_ ?_; rotate_left; (focus (intro w hSw; (try dsimp only at hSw); go_simp; try with_reducible rfl)); try simp only [Act.put, zl, z0, z1]
        refine tW ?_ 2 rfl (by kernel_rfl) (fun _ _ _ h => h) (by rfl) (by assumption) ?_ ?_; rotate_left; (focus (intro w hSw; (try dsimp only at hSw); go_simp; try with_reducible rfl)); try simp only [Act.put, zl, z0, z1]
        refine tW ?_ 3 rfl (by kernel_rfl) (fun _ _ _ h => h) (by rfl) (by assumption) ?_ ?_; rotate_left; (focus (intro w hSw; (try dsimp only at hSw); go_simp; try with_reducible rfl)); try simp only [Act.put, zl, z0, z1]
        refine tW ?_ 4 rfl (by kernel_rfl) (fun _ _ _ h => h) (by rfl) (by assumption) ?_ ?_; rotate_left; (focus (intro w hSw; (try dsimp only at hSw); go_simp; try with_reducible rfl)); try simp only [Act.put, zl, z0, z1]
        refine tW ?_ 5 rfl (by kernel_rfl) (fun _ _ _ h => h) (by rfl) (by assumption) ?_ ?_; rotate_left; (focus (intro w hSw; (try dsimp only at hSw); go_simp; try with_reducible rfl)); try simp only [Act.put, zl, z0, z1]
        refine tW ?_ 7 rfl (by kernel_rfl) (fun _ _ _ h => h) (by rfl) (by assumption) ?_ ?_; rotate_left; (focus (intro w hSw; (try dsimp only at hSw); go_simp; try with_reducible rfl)); try simp only [Act.put, zl, z0, z1]
        refine wpAnyH_ready (rs := [6]) (by kernel_rfl) (by simp) ?_; refine consL 6 rfl (fun K hK => ?_) AllReadyH.nil; go_simp
        (go_at_call 57; refine (plus_any _ k _ HGS.out).mono ?_; rintro e w' ⟨rfl, hb⟩; obtain ⟨hc, hf⟩ := bcell hb; have hz := hb.size; (try simp at hz))
        refine hK.out _ _ ?_ (fun hD1 => ?_)
        · (try dsimp only); (exact kp)
        clear hK K hD0; try simp only [Act.put, zl, z0, z1]
        refine wpAnyH_ready (rs := [8]) (by kernel_rfl) (by simp) ?_; refine consL 8 rfl (fun K hK => ?_) AllReadyH.nil; go_simp
        (go_at_call 61; refine ((JJ.out _).out).mono ?_; rintro e w' ⟨rfl, hb⟩; obtain ⟨hc, hf⟩ := bcell hb; have hz := hb.size; (try simp at hz))
        refine hK.out _ _ ?_ (fun hD2 => ?_)
        · (try dsimp only); (exact kp)
        clear hK K hD1; try simp only [Act.put, zl, z0, z1]
        refine tW ?_ 9 rfl (by kernel_rfl) (fun _ _ _ h => h) (by rfl) (by assumption) ?_ ?_; rotate_left; (focus (intro w hSw; (try dsimp only at hSw); go_simp; try with_reducible rfl)); try simp only [Act.put, zl, z0, z1]
        refine tW ?_ 10 rfl (by kernel_rfl) (fun _ _ _ h => h) (by rfl) (by assumption) ?_ ?_; rotate_left; (focus (intro w hSw; (try dsimp only at hSw); go_simp; try with_reducible rfl)); try simp only [Act.put, zl, z0, z1]
        refine wpAnyH_done (by kernel_rfl) ?_ _
        by_cases hb : M.pointsOfGame (M.ofSet f won) (M.isTie (M.ofSet f won) g) p k + M.lfg f s 6 won (M.plus g k) < M.bestOf cost k
        · have HM : Hid (M.mn (M.bestOf cost k) (M.pointsOfGame (M.ofSet f won) (M.isTie (M.ofSet f won) g) p k + M.lfg f s 6 won (M.plus g k)) = _) := hide (if_pos hb)
          go_wp2
          go_roundw
          case rel => exact ⟨k + 1, by omega, by go_num, by rw [HK.out, HM.out], by (exact kp)⟩
          case measure => simp [intOf]; omega
        · have HM : Hid (M.mn (M.bestOf cost k) (M.pointsOfGame (M.ofSet f won) (M.isTie (M.ofSet f won) g) p k + M.lfg f s 6 won (M.plus g k)) = _) := hide (if_neg hb)
          go_wp2
          go_roundw
          case rel => exact ⟨k + 1, by omega, by go_num, by rw [HK.out, HM.out], by (exact kp)⟩
          case measure => simp [intOf]; omega
      · have hl0 := M.lfg_ge HV.out s 6 (M.plus won k) M.zero
        have hl1 := M.lfg_le f s 6 (M.plus won k) M.zero
        have ew : IntKind.i64.wrap (M.pointsOfGame (M.ofSet f won) (M.isTie (M.ofSet f won) g) p k + M.lfg f s 6 (M.plus won k) M.zero) = M.pointsOfGame (M.ofSet f won) (M.isTie (M.ofSet f won) g) p k + M.lfg f s 6 (M.plus won k) M.zero := IntWalk.i64_in _ (by unfold M.never at hl1; omega)
        have hK : M.bestOf cost (k + 1) = M.mn (M.bestOf cost k) (M.pointsOfGame (M.ofSet f won) (M.isTie (M.ofSet f won) g) p k + M.lfg f s 6 (M.plus won k) M.zero) := by
          have : cost k = M.pointsOfGame (M.ofSet f won) (M.isTie (M.ofSet f won) g) p k + M.lfg f s 6 (M.plus won k) M.zero := by rw [HC.out k, hes]; rfl
          rw [← this]; rfl
        have HK := hide hK
        clear hK hl0 hl1
        have JJ := hide (J0.out k hlt)
        go_wp2_with (first | (go_at_call 73; refine (pointsOfGame_any (M.ofSet f won) (M.isTie (M.ofSet f won) g) p k _ HVS.out HPP.out (by omega) (by omega)).mono ?_; rintro e w3 ⟨rfl, hb⟩; obtain ⟨hc, hf⟩ := bcell hb; have hz := hb.size; (try simp at hz); have hSn : Sx w3 := (by rw [Sxd.out]; (try dsimp only); (exact kp)); rw [Sxd.out] at hSn; (try dsimp only at hSn); (try clear hS); have hS := hSn; clear hSn hc hf) | (go_at_call 74; refine (endsSet_any (M.ofSet f won) g k _ HGS.out HGS9.out).mono ?_; rintro e w4 ⟨rfl, hb⟩; obtain ⟨hc, hf⟩ := bcell hb; have hz := hb.size; (try simp at hz); have hSn : Sx w4 := (by rw [Sxd.out]; (try dsimp only); (exact kp)); rw [Sxd.out] at hSn; (try dsimp only at hSn); (try clear hS); have hS := hSn; clear hSn hc hf))
        refine wp_region_held_drew (S := (fun w' => Below w.heap.size w w' ∧ w.heap.size < w'.heap.size ∧ w.heap.size + 1 < w'.heap.size ∧ w.heap.size + 1 + 1 < w'.heap.size ∧ w'.cell? ⟨w.heap.size + 1, 0, none⟩ = some (.int .i64 won.A) ∧ w'.cell? ⟨w.heap.size + 1, 1, none⟩ = some (.int .i64 won.B) ∧ w'.cell? ⟨w.heap.size + 1 + 1, 1, none⟩ = some (.int .i64 g.A) ∧ w'.cell? ⟨w.heap.size + 1 + 1, 2, none⟩ = some (.int .i64 g.B) ∧ w'.cell? ⟨w.heap.size + 1 + 1, 3, none⟩ = some (.int .i64 p.A) ∧ w'.cell? ⟨w.heap.size + 1 + 1, 4, none⟩ = some (.int .i64 p.B) ∧ w'.cell? ⟨w.heap.size, 0, none⟩ = some (.int .i64 f.sets) ∧ w'.cell? ⟨w.heap.size, 1, none⟩ = some (.int .i64 f.games) ∧ w'.cell? ⟨w.heap.size, 2, none⟩ = some (.bool f.noAd) ∧ w'.cell? ⟨w.heap.size, 3, none⟩ = some (.int .i64 f.tie) ∧ w'.cell? ⟨w.heap.size, 4, none⟩ = some (.int .i64 f.to) ∧ w'.cell? ⟨w.heap.size, 5, none⟩ = some (.int .i64 f.lastTie) ∧ w'.cell? ⟨w.heap.size, 6, none⟩ = some (.int .i64 f.lastTo) ∧ w'.cell? ⟨w.heap.size, 7, none⟩ = some (.int .i64 f.first) ∧ w'.cell? ⟨w.heap.size, 8, none⟩ = some (.int .i64 f.next) ∧ w'.cell? ⟨w.heap.size, 9, none⟩ = some (.bool f.doubles) ∧ w'.cell? ⟨w1.heap.size, 0, none⟩ = some (.int .i64 (M.ofSet f won).sets) ∧ w'.cell? ⟨w1.heap.size, 1, none⟩ = some (.int .i64 (M.ofSet f won).games) ∧ w'.cell? ⟨w1.heap.size, 2, none⟩ = some (.bool (M.ofSet f won).noAd) ∧ w'.cell? ⟨w1.heap.size, 3, none⟩ = some (.int .i64 (M.ofSet f won).tie) ∧ w'.cell? ⟨w1.heap.size, 4, none⟩ = some (.int .i64 (M.ofSet f won).to) ∧ w'.cell? ⟨w1.heap.size, 5, none⟩ = some (.int .i64 (M.ofSet f won).lastTie) ∧ w'.cell? ⟨w1.heap.size, 6, none⟩ = some (.int .i64 (M.ofSet f won).lastTo) ∧ w'.cell? ⟨w1.heap.size, 7, none⟩ = some (.int .i64 (M.ofSet f won).first) ∧ w'.cell? ⟨w1.heap.size, 8, none⟩ = some (.int .i64 (M.ofSet f won).next) ∧ w'.cell? ⟨w1.heap.size, 9, none⟩ = some (.bool (M.ofSet f won).doubles) ∧ w1.heap.size < w'.heap.size)) (by kernel_rfl) ?_ (fun hD0 => ?_)
        · (try dsimp only); (exact kp)
        refine tW ?_ 0 rfl (by kernel_rfl) (fun _ _ _ h => h) (by rfl) (by assumption) ?_ ?_; rotate_left; (focus (intro w hSw; (try dsimp only at hSw); go_simp; try with_reducible rfl)); try simp only [Act.put, zl, z0, z1]
        refine tW ?_ 1 rfl (by kernel_rfl) (fun _ _ _ h => h) (by rfl) (by assumption) ?_ ?_; rotate_left; (focus (intro w hSw; (try dsimp only at hSw); go_simp; try with_reducible rfl)); try simp only [Act.put, zl, z0, z1]
        refine tW ?_ 2 rfl (by kernel_rfl) (fun _ _ _ h => h) (by rfl) (by assumption) ?_ ?_; rotate_left; (focus (intro w hSw; (try dsimp only at hSw); go_simp; try with_reducible rfl)); try simp only [Act.put, zl, z0, z1]
        refine tW ?_ 3 rfl (by kernel_rfl) (fun _ _ _ h => h) (by rfl) (by assumption) ?_ ?_; rotate_left; (focus (intro w hSw; (try dsimp only at hSw); go_simp; try with_reducible rfl)); try simp only [Act.put, zl, z0, z1]
        refine tW ?_ 5 rfl (by kernel_rfl) (fun _ _ _ h => h) (by rfl) (by assumption) ?_ ?_; rotate_left; (focus (intro w hSw; (try dsimp only at hSw); go_simp; try with_reducible rfl)); try simp only [Act.put, zl, z0, z1]
        refine tW ?_ 6 rfl (by kernel_rfl) (fun _ _ _ h => h) (by rfl) (by assumption) ?_ ?_; rotate_left; (focus (intro w hSw; (try dsimp only at hSw); go_simp; try with_reducible rfl)); try simp only [Act.put, zl, z0, z1]
        refine wpAnyH_ready (rs := [4]) (by kernel_rfl) (by simp) ?_; refine consL 4 rfl (fun K hK => ?_) AllReadyH.nil; go_simp
        (go_at_call 57; refine (plus_any _ k _ HWS.out).mono ?_; rintro e w' ⟨rfl, hb⟩; obtain ⟨hc, hf⟩ := bcell hb; have hz := hb.size; (try simp at hz))
        refine hK.out _ _ ?_ (fun hD1 => ?_)
        · (try dsimp only); (exact kp)
        clear hK K hD0; try simp only [Act.put, zl, z0, z1]
        refine wpAnyH_ready (rs := [7]) (by kernel_rfl) (by simp) ?_; refine consL 7 rfl (fun K hK => ?_) AllReadyH.nil; go_simp
        (go_at_call 61; refine ((JJ.out _).out).mono ?_; rintro e w' ⟨rfl, hb⟩; obtain ⟨hc, hf⟩ := bcell hb; have hz := hb.size; (try simp at hz))
        refine hK.out _ _ ?_ (fun hD2 => ?_)
        · (try dsimp only); (exact kp)
        clear hK K hD1; try simp only [Act.put, zl, z0, z1]
        refine tW ?_ 8 rfl (by kernel_rfl) (fun _ _ _ h => h) (by rfl) (by assumption) ?_ ?_; rotate_left; (focus (intro w hSw; (try dsimp only at hSw); go_simp; try with_reducible rfl)); try simp only [Act.put, zl, z0, z1]
        refine tW ?_ 9 rfl (by kernel_rfl) (fun _ _ _ h => h) (by rfl) (by assumption) ?_ ?_; rotate_left; (focus (intro w hSw; (try dsimp only at hSw); go_simp; try with_reducible rfl)); try simp only [Act.put, zl, z0, z1]
        refine wpAnyH_done (by kernel_rfl) ?_ _
        by_cases hb : M.pointsOfGame (M.ofSet f won) (M.isTie (M.ofSet f won) g) p k + M.lfg f s 6 (M.plus won k) M.zero < M.bestOf cost k
        · have HM : Hid (M.mn (M.bestOf cost k) (M.pointsOfGame (M.ofSet f won) (M.isTie (M.ofSet f won) g) p k + M.lfg f s 6 (M.plus won k) M.zero) = _) := hide (if_pos hb)
          go_wp2
          go_roundw
          case rel => exact ⟨k + 1, by omega, by go_num, by rw [HK.out, HM.out], by (exact kp)⟩
          case measure => simp [intOf]; omega
        · have HM : Hid (M.mn (M.bestOf cost k) (M.pointsOfGame (M.ofSet f won) (M.isTie (M.ofSet f won) g) p k + M.lfg f s 6 (M.plus won k) M.zero) = _) := hide (if_neg hb)
          go_wp2
          go_roundw
          case rel => exact ⟨k + 1, by omega, by go_num, by rw [HK.out, HM.out], by (exact kp)⟩
          case measure => simp [intOf]; omega
    · have hk2 : k = 2 := by omega
      subst hk2
      go_wp2
      go_ret
      exact ⟨by rw [HO.out]; rfl, by (go_split_ands; (exact kb))⟩

end Go.Proofs.Ytmhaapghiecfcaa
