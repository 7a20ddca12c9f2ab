/-
  Part of a claim's texts: contracts of the program's functions and the plain functions that they compute, in build order.
-/
import Derived.Test.YtbjmnlhehkcakaaZB01
namespace Go.Proofs.Ytbjmnlhehkcakaa
open Go.RowKit


set_option maxHeartbeats 1600000 in
theorem gamesArise_A (f : M.Fm) (p : M.Pr) (w : World) (hp : M.Small p) (hm : p.B ≤ p.A) (hi : M.hi p = p.A) :
    Calls Try.prog 67 #[.agg #[.int .i64 f.sets, .int .i64 f.games, .bool f.noAd, .int .i64 f.tie, .int .i64 f.to, .int .i64 f.lastTie, .int .i64 f.lastTo, .int .i64 f.first, .int .i64 f.next, .bool f.doubles], .agg #[.int .i64 p.A, .int .i64 p.B]] w fun e w' => e = .returned (.bool (M.gamesArise f p)) ∧ Below w.heap.size w w' := by
  by_cases h2 : p.A < f.games
  · by_cases h0 : 0 ≤ f.tie
    · by_cases h1 : f.tie < p.A
      · have ho : M.gamesArise f p = false := by simp [M.gamesArise, hi, h0, h1]
        rw [ho]; clear ho hi
        go_enter Try.func67, Try.ntmps67
        go_wp2_with fail
        go_ret
        exact ⟨rfl, by (repeat' first | exact zbR _ _ | assumption | refine zbD ?_ | refine zbA ?_ ?_ _ | refine zbS ?_ ?_ _ | refine zbT ?_ (by assumption) ?_ | (simp; done) | (simp; omega) | omega)⟩
      · have ho : M.gamesArise f p = true := by (simp [M.gamesArise, hi, h0, h1, h2] <;> omega)
        rw [ho]; clear ho hi
        go_enter Try.func67, Try.ntmps67
        go_wp2_with fail
        go_ret
        exact ⟨rfl, by (repeat' first | exact zbR _ _ | assumption | refine zbD ?_ | refine zbA ?_ ?_ _ | refine zbS ?_ ?_ _ | refine zbT ?_ (by assumption) ?_ | (simp; done) | (simp; omega) | omega)⟩
    · have ho : M.gamesArise f p = true := by simp [M.gamesArise, hi, h0, h2]
      rw [ho]; clear ho hi
      go_enter Try.func67, Try.ntmps67
      go_wp2_with fail
      go_ret
      exact ⟨rfl, by (repeat' first | exact zbR _ _ | assumption | refine zbD ?_ | refine zbA ?_ ?_ _ | refine zbS ?_ ?_ _ | refine zbT ?_ (by assumption) ?_ | (simp; done) | (simp; omega) | omega)⟩
  · cases hn : M.near p
    all_goals
      by_cases h0 : 0 ≤ f.tie
      · by_cases h1 : f.tie < p.A
        · have ho : M.gamesArise f p = false := by simp [M.gamesArise, hi, h0, h1]
          rw [ho]; clear ho hi
          go_enter Try.func67, Try.ntmps67
          go_wp2_with fail
          go_ret
          exact ⟨rfl, by (repeat' first | exact zbR _ _ | assumption | refine zbD ?_ | refine zbA ?_ ?_ _ | refine zbS ?_ ?_ _ | refine zbT ?_ (by assumption) ?_ | (simp; done) | (simp; omega) | omega)⟩
        · first
            | (have ho : M.gamesArise f p = false := by (simp [M.gamesArise, hi, h0, h2, hn]; done)
               rw [ho]; clear ho hi)
            | (have ho : M.gamesArise f p = true := by (simp [M.gamesArise, hi, h0, h2, hn]; omega)
               rw [ho]; clear ho hi)
          go_enter Try.func67, Try.ntmps67
          go_wp2_with (go_at_call 83; refine (near_any p _ hp).mono ?_; rintro e w' ⟨rfl, hb⟩; obtain ⟨hc, hf⟩ := bcell hb; have hz := hb.size; (try simp at hz))
          go_ret
          exact ⟨rfl, by (repeat' first | exact zbR _ _ | assumption | refine zbD ?_ | refine zbA ?_ ?_ _ | refine zbS ?_ ?_ _ | refine zbT ?_ (by assumption) ?_ | (simp; done) | (simp; omega) | omega)⟩
      · first
          | (have ho : M.gamesArise f p = false := by (simp [M.gamesArise, hi, h0, h2, hn]; done)
             rw [ho]; clear ho hi)
          | (have ho : M.gamesArise f p = true := by (simp [M.gamesArise, hi, h0, h2, hn]; done)
             rw [ho]; clear ho hi)
        go_enter Try.func67, Try.ntmps67
        go_wp2_with (go_at_call 83; refine (near_any p _ hp).mono ?_; rintro e w' ⟨rfl, hb⟩; obtain ⟨hc, hf⟩ := bcell hb; have hz := hb.size; (try simp at hz))
        go_ret
        exact ⟨rfl, by (repeat' first | exact zbR _ _ | assumption | refine zbD ?_ | refine zbA ?_ ?_ _ | refine zbS ?_ ?_ _ | refine zbT ?_ (by assumption) ?_ | (simp; done) | (simp; omega) | omega)⟩

set_option maxHeartbeats 800000 in
theorem pointsArise_A (f : M.Fm) (t : Bool) (p : M.Pr) (w : World) (hp : M.Small p) (hm : p.B ≤ p.A) (hi : M.hi p = p.A) :
    Calls Try.prog 68 #[.agg #[.int .i64 f.sets, .int .i64 f.games, .bool f.noAd, .int .i64 f.tie, .int .i64 f.to, .int .i64 f.lastTie, .int .i64 f.lastTo, .int .i64 f.first, .int .i64 f.next, .bool f.doubles], .bool t, .agg #[.int .i64 p.A, .int .i64 p.B]] w fun e w' => e = .returned (.bool (M.pointsArise f t p)) ∧ Below w.heap.size w w' := by
  cases h1 : decide (p.A < M.aimTo f t)
  · cases h2 : (M.aimLead f t == 2)
    · have ho : M.pointsArise f t p = false := by unfold M.pointsArise; rw [hi, h1, h2]; rfl
      rw [ho]; clear ho hi
      go_enter Try.func68, Try.ntmps68
      go_wp2_with (go_at_call 84; refine (aims_any f t _).mono ?_; rintro e w' ⟨rfl, hb⟩; obtain ⟨hc, hf⟩ := bcell hb; have hz := hb.size; (try simp at hz))
      go_ret
      exact ⟨rfl, by (repeat' first | exact zbR _ _ | assumption | refine zbD ?_ | refine zbA ?_ ?_ _ | refine zbS ?_ ?_ _ | refine zbT ?_ (by assumption) ?_ | (simp; done) | (simp; omega) | omega)⟩
    · cases h3 : M.near p
      all_goals
        first
          | (have ho : M.pointsArise f t p = false := by (unfold M.pointsArise; rw [hi, h1, h2, h3]; rfl)
             rw [ho]; clear ho hi)
          | (have ho : M.pointsArise f t p = true := by (unfold M.pointsArise; rw [hi, h1, h2, h3]; rfl)
             rw [ho]; clear ho hi)
        go_enter Try.func68, Try.ntmps68
        go_wp2_with (first | (go_at_call 84; refine (aims_any f t _).mono ?_; rintro e w' ⟨rfl, hb⟩; obtain ⟨hc, hf⟩ := bcell hb; have hz := hb.size; (try simp at hz)) | (go_at_call 83; refine (near_any p _ hp).mono ?_; rintro e w' ⟨rfl, hb⟩; obtain ⟨hc, hf⟩ := bcell hb; have hz := hb.size; (try simp at hz)))
        go_ret
        exact ⟨rfl, by (repeat' first | exact zbR _ _ | assumption | refine zbD ?_ | refine zbA ?_ ?_ _ | refine zbS ?_ ?_ _ | refine zbT ?_ (by assumption) ?_ | (simp; done) | (simp; omega) | omega)⟩
  · have ho : M.pointsArise f t p = true := by unfold M.pointsArise; rw [hi, h1]; rfl
    rw [ho]; clear ho hi
    go_enter Try.func68, Try.ntmps68
    go_wp2_with (go_at_call 84; refine (aims_any f t _).mono ?_; rintro e w' ⟨rfl, hb⟩; obtain ⟨hc, hf⟩ := bcell hb; have hz := hb.size; (try simp at hz))
    go_ret
    exact ⟨rfl, by (repeat' first | exact zbR _ _ | assumption | refine zbD ?_ | refine zbA ?_ ?_ _ | refine zbS ?_ ?_ _ | refine zbT ?_ (by assumption) ?_ | (simp; done) | (simp; omega) | omega)⟩

set_option maxHeartbeats 1600000 in
theorem gamesArise_B (f : M.Fm) (p : M.Pr) (w : World) (hp : M.Small p) (hm : p.A < p.B) (hi : M.hi p = p.B) :
    Calls Try.prog 67 #[.agg #[.int .i64 f.sets, .int .i64 f.games, .bool f.noAd, .int .i64 f.tie, .int .i64 f.to, .int .i64 f.lastTie, .int .i64 f.lastTo, .int .i64 f.first, .int .i64 f.next, .bool f.doubles], .agg #[.int .i64 p.A, .int .i64 p.B]] w fun e w' => e = .returned (.bool (M.gamesArise f p)) ∧ Below w.heap.size w w' := by
  by_cases h2 : p.B < f.games
  · by_cases h0 : 0 ≤ f.tie
    · by_cases h1 : f.tie < p.B
      · have ho : M.gamesArise f p = false := by simp [M.gamesArise, hi, h0, h1]
        rw [ho]; clear ho hi
        go_enter Try.func67, Try.ntmps67
        go_wp2_with fail
        go_ret
        exact ⟨rfl, by (repeat' first | exact zbR _ _ | assumption | refine zbD ?_ | refine zbA ?_ ?_ _ | refine zbS ?_ ?_ _ | refine zbT ?_ (by assumption) ?_ | (simp; done) | (simp; omega) | omega)⟩
      · have ho : M.gamesArise f p = true := by (simp [M.gamesArise, hi, h0, h1, h2] <;> omega)
        rw [ho]; clear ho hi
        go_enter Try.func67, Try.ntmps67
        go_wp2_with fail
        go_ret
        exact ⟨rfl, by (repeat' first | exact zbR _ _ | assumption | refine zbD ?_ | refine zbA ?_ ?_ _ | refine zbS ?_ ?_ _ | refine zbT ?_ (by assumption) ?_ | (simp; done) | (simp; omega) | omega)⟩
    · have ho : M.gamesArise f p = true := by simp [M.gamesArise, hi, h0, h2]
      rw [ho]; clear ho hi
      go_enter Try.func67, Try.ntmps67
      go_wp2_with fail
      go_ret
      exact ⟨rfl, by (repeat' first | exact zbR _ _ | assumption | refine zbD ?_ | refine zbA ?_ ?_ _ | refine zbS ?_ ?_ _ | refine zbT ?_ (by assumption) ?_ | (simp; done) | (simp; omega) | omega)⟩
  · cases hn : M.near p
    all_goals
      by_cases h0 : 0 ≤ f.tie
      · by_cases h1 : f.tie < p.B
        · have ho : M.gamesArise f p = false := by simp [M.gamesArise, hi, h0, h1]
          rw [ho]; clear ho hi
          go_enter Try.func67, Try.ntmps67
          go_wp2_with fail
          go_ret
          exact ⟨rfl, by (repeat' first | exact zbR _ _ | assumption | refine zbD ?_ | refine zbA ?_ ?_ _ | refine zbS ?_ ?_ _ | refine zbT ?_ (by assumption) ?_ | (simp; done) | (simp; omega) | omega)⟩
        · first
            | (have ho : M.gamesArise f p = false := by (simp [M.gamesArise, hi, h0, h2, hn]; done)
               rw [ho]; clear ho hi)
            | (have ho : M.gamesArise f p = true := by (simp [M.gamesArise, hi, h0, h2, hn]; omega)
               rw [ho]; clear ho hi)
          go_enter Try.func67, Try.ntmps67
          go_wp2_with (go_at_call 83; refine (near_any p _ hp).mono ?_; rintro e w' ⟨rfl, hb⟩; obtain ⟨hc, hf⟩ := bcell hb; have hz := hb.size; (try simp at hz))
          go_ret
          exact ⟨rfl, by (repeat' first | exact zbR _ _ | assumption | refine zbD ?_ | refine zbA ?_ ?_ _ | refine zbS ?_ ?_ _ | refine zbT ?_ (by assumption) ?_ | (simp; done) | (simp; omega) | omega)⟩
      · first
          | (have ho : M.gamesArise f p = false := by (simp [M.gamesArise, hi, h0, h2, hn]; done)
             rw [ho]; clear ho hi)
          | (have ho : M.gamesArise f p = true := by (simp [M.gamesArise, hi, h0, h2, hn]; done)
             rw [ho]; clear ho hi)
        go_enter Try.func67, Try.ntmps67
        go_wp2_with (go_at_call 83; refine (near_any p _ hp).mono ?_; rintro e w' ⟨rfl, hb⟩; obtain ⟨hc, hf⟩ := bcell hb; have hz := hb.size; (try simp at hz))
        go_ret
        exact ⟨rfl, by (repeat' first | exact zbR _ _ | assumption | refine zbD ?_ | refine zbA ?_ ?_ _ | refine zbS ?_ ?_ _ | refine zbT ?_ (by assumption) ?_ | (simp; done) | (simp; omega) | omega)⟩

set_option maxHeartbeats 800000 in
theorem pointsArise_B (f : M.Fm) (t : Bool) (p : M.Pr) (w : World) (hp : M.Small p) (hm : p.A < p.B) (hi : M.hi p = p.B) :
    Calls Try.prog 68 #[.agg #[.int .i64 f.sets, .int .i64 f.games, .bool f.noAd, .int .i64 f.tie, .int .i64 f.to, .int .i64 f.lastTie, .int .i64 f.lastTo, .int .i64 f.first, .int .i64 f.next, .bool f.doubles], .bool t, .agg #[.int .i64 p.A, .int .i64 p.B]] w fun e w' => e = .returned (.bool (M.pointsArise f t p)) ∧ Below w.heap.size w w' := by
  cases h1 : decide (p.B < M.aimTo f t)
  · cases h2 : (M.aimLead f t == 2)
    · have ho : M.pointsArise f t p = false := by unfold M.pointsArise; rw [hi, h1, h2]; rfl
      rw [ho]; clear ho hi
      go_enter Try.func68, Try.ntmps68
      go_wp2_with (go_at_call 84; refine (aims_any f t _).mono ?_; rintro e w' ⟨rfl, hb⟩; obtain ⟨hc, hf⟩ := bcell hb; have hz := hb.size; (try simp at hz))
      go_ret
      exact ⟨rfl, by (repeat' first | exact zbR _ _ | assumption | refine zbD ?_ | refine zbA ?_ ?_ _ | refine zbS ?_ ?_ _ | refine zbT ?_ (by assumption) ?_ | (simp; done) | (simp; omega) | omega)⟩
    · cases h3 : M.near p
      all_goals
        first
          | (have ho : M.pointsArise f t p = false := by (unfold M.pointsArise; rw [hi, h1, h2, h3]; rfl)
             rw [ho]; clear ho hi)
          | (have ho : M.pointsArise f t p = true := by (unfold M.pointsArise; rw [hi, h1, h2, h3]; rfl)
             rw [ho]; clear ho hi)
        go_enter Try.func68, Try.ntmps68
        go_wp2_with (first | (go_at_call 84; refine (aims_any f t _).mono ?_; rintro e w' ⟨rfl, hb⟩; obtain ⟨hc, hf⟩ := bcell hb; have hz := hb.size; (try simp at hz)) | (go_at_call 83; refine (near_any p _ hp).mono ?_; rintro e w' ⟨rfl, hb⟩; obtain ⟨hc, hf⟩ := bcell hb; have hz := hb.size; (try simp at hz)))
        go_ret
        exact ⟨rfl, by (repeat' first | exact zbR _ _ | assumption | refine zbD ?_ | refine zbA ?_ ?_ _ | refine zbS ?_ ?_ _ | refine zbT ?_ (by assumption) ?_ | (simp; done) | (simp; omega) | omega)⟩
  · have ho : M.pointsArise f t p = true := by unfold M.pointsArise; rw [hi, h1]; rfl
    rw [ho]; clear ho hi
    go_enter Try.func68, Try.ntmps68
    go_wp2_with (go_at_call 84; refine (aims_any f t _).mono ?_; rintro e w' ⟨rfl, hb⟩; obtain ⟨hc, hf⟩ := bcell hb; have hz := hb.size; (try simp at hz))
    go_ret
    exact ⟨rfl, by (repeat' first | exact zbR _ _ | assumption | refine zbD ?_ | refine zbA ?_ ?_ _ | refine zbS ?_ ?_ _ | refine zbT ?_ (by assumption) ?_ | (simp; done) | (simp; omega) | omega)⟩

theorem gamesArise_any (f : M.Fm) (p : M.Pr) (w : World) (hp : M.Small p) :
    Calls Try.prog 67 #[.agg #[.int .i64 f.sets, .int .i64 f.games, .bool f.noAd, .int .i64 f.tie, .int .i64 f.to, .int .i64 f.lastTie, .int .i64 f.lastTo, .int .i64 f.first, .int .i64 f.next, .bool f.doubles], .agg #[.int .i64 p.A, .int .i64 p.B]] w fun e w' => e = .returned (.bool (M.gamesArise f p)) ∧ Below w.heap.size w w' := by
  by_cases h : p.A < p.B
  · exact gamesArise_B f p w hp h (if_pos h)
  · exact gamesArise_A f p w hp (Int.not_lt.1 h) (if_neg h)
theorem pointsArise_any (f : M.Fm) (t : Bool) (p : M.Pr) (w : World) (hp : M.Small p) :
    Calls Try.prog 68 #[.agg #[.int .i64 f.sets, .int .i64 f.games, .bool f.noAd, .int .i64 f.tie, .int .i64 f.to, .int .i64 f.lastTie, .int .i64 f.lastTo, .int .i64 f.first, .int .i64 f.next, .bool f.doubles], .bool t, .agg #[.int .i64 p.A, .int .i64 p.B]] w fun e w' => e = .returned (.bool (M.pointsArise f t p)) ∧ Below w.heap.size w w' := by
  by_cases h : p.A < p.B
  · exact pointsArise_B f t p w hp h (if_pos h)
  · exact pointsArise_A f t p w hp (Int.not_lt.1 h) (if_neg h)

set_option maxHeartbeats 800000 in
theorem fine_any (p : M.Pr) (w : World) :
    Calls Try.prog 66 #[.agg #[.int .i64 p.A, .int .i64 p.B]] w fun e w' => e = .returned (.bool (M.fine p)) ∧ Below w.heap.size w w' := by
  by_cases hm : p.A < p.B
  all_goals
    by_cases h0 : 0 ≤ p.A
    all_goals
      by_cases h1 : p.A ≤ 40
      all_goals
        by_cases h2 : 0 ≤ p.B
        all_goals
          by_cases h3 : p.B ≤ 40
          all_goals
            first
              | (exfalso; omega)
              | (first
                  | (have ho : M.fine p = true := by (simp [M.fine, h0, h1, h2, h3]; done)
                     rw [ho]; clear ho)
                  | (have ho : M.fine p = false := by (simp [M.fine, h0, h1, h2, h3]; done)
                     rw [ho]; clear ho)
                 go_enter Try.func66, Try.ntmps66
                 go_wp2
                 all_goals go_ret
                 all_goals exact ⟨rfl, by (repeat' first | exact zbR _ _ | assumption | refine zbD ?_ | refine zbA ?_ ?_ _ | refine zbS ?_ ?_ _ | refine zbT ?_ (by assumption) ?_ | (simp; done) | (simp; omega) | omega)⟩)

end Go.Proofs.Ytbjmnlhehkcakaa

namespace Go.Proofs.Ytbjmnlhehkcakaa
open Go.RowKit
attribute [local go_sem ↓] Go.wp_at_zero Go.wp_at_succ

set_option maxHeartbeats 3200000 in
theorem setWinner_any (f : M.Fm) (p : M.Pr) (w : World) (hp : M.Small p) (hp0 : -1000 ≤ p.A ∧ -1000 ≤ p.B) (hp2 : p.A ≤ 1000 ∧ p.B ≤ 1000) :
    Calls Try.prog 58 #[.agg #[.int .i64 f.sets, .int .i64 f.games, .bool f.noAd, .int .i64 f.tie, .int .i64 f.to, .int .i64 f.lastTie, .int .i64 f.lastTo, .int .i64 f.first, .int .i64 f.next, .bool f.doubles], .agg #[.int .i64 p.A, .int .i64 p.B]] w fun e w' => e = .returned (.int .i64 (M.setWinner f p)) ∧ Below w.heap.size w w' := by
  have HP := hide hp
  have H0 := hide hp0
  have H2 := hide hp2
  clear hp hp0 hp2
  go_enter Try.func58, Try.ntmps58
  go_wp2
  go_loopw [7] (fun i wr => ∃ k : Nat, k ≤ 2 ∧ i = .int .i64 k ∧ Hid (∀ j : Nat, j < k → M.endsBy f p j = false) ∧ wr.cell? ⟨w.heap.size, 0, none⟩ = some (.int .i64 f.sets) ∧ wr.cell? ⟨w.heap.size, 1, none⟩ = some (.int .i64 f.games) ∧ wr.cell? ⟨w.heap.size, 2, none⟩ = some (.bool f.noAd) ∧ wr.cell? ⟨w.heap.size, 3, none⟩ = some (.int .i64 f.tie) ∧ wr.cell? ⟨w.heap.size, 4, none⟩ = some (.int .i64 f.to) ∧ wr.cell? ⟨w.heap.size, 5, none⟩ = some (.int .i64 f.lastTie) ∧ wr.cell? ⟨w.heap.size, 6, none⟩ = some (.int .i64 f.lastTo) ∧ wr.cell? ⟨w.heap.size, 7, none⟩ = some (.int .i64 f.first) ∧ wr.cell? ⟨w.heap.size, 8, none⟩ = some (.int .i64 f.next) ∧ wr.cell? ⟨w.heap.size, 9, none⟩ = some (.bool f.doubles) ∧ wr.cell? ⟨w.heap.size + 1, 0, none⟩ = some (.int .i64 p.A) ∧ wr.cell? ⟨w.heap.size + 1, 1, none⟩ = some (.int .i64 p.B) ∧ Below w.heap.size w wr ∧ w.heap.size < wr.heap.size ∧ w.heap.size + 1 < wr.heap.size) (fun i _ => 2 - (intOf i).toNat)
  case atStart => exact ⟨0, by omega, rfl, (fun j hj => by omega), by (first | (go_keep; done) | (go_split_ands; (repeat' apply And.intro) <;> first | (go_keep; done) | (simp [*, zcA, zcP, zfA, zfP]; done) | (simp [zcA, zcP] <;> rfl) | (simp [*, zsS, zsO, zsA]; done) | ((first | refine (hc _ _ ?_).trans ?_ | refine (hf _ _ ?_).trans ?_) <;> first | assumption | (simp; done) | (simp; omega) | omega | (go_keep; done) | (simp [*, zcA, zcP, zfA, zfP]; done) | (simp [zcA, zcP]; rfl)) | (repeat' first | exact zbR _ _ | assumption | refine zbD ?_ | refine zbA ?_ ?_ _ | refine zbS ?_ ?_ _ | refine zbT ?_ (by assumption) ?_ | (simp; done) | (simp; omega) | omega)))⟩
  case round =>
    obtain ⟨k, hk, rfl, hno, hS0⟩ := hrel
    by_cases hlt : k < 2
    · have hm := HP.out.minus ⟨by have := H0.out.1; omega, by have := H0.out.2; omega⟩ (k : Int)
      have hm2 := M.minus_le H2.out (k : Int)
      have hm3 : (M.minus p k).A ≤ 999999 ∧ (M.minus p k).B ≤ 999999 := ⟨by omega, by omega⟩
      have HM := hide hm
      have HM3 := hide hm3
      clear hm hm2 hm3
      cases h1 : decide (0 ≤ M.of (M.minus p k) k)
      · have he : M.endsBy f p k = false := by unfold M.endsBy; rw [h1]; rfl
        have HN : Hid (∀ j : Nat, j < k + 1 → M.endsBy f p j = false) := hide (fun j hj => by
          rcases Nat.lt_or_eq_of_le (Nat.le_of_lt_succ hj) with h | h
          · exact hno.out j h
          · rw [h]; exact he)
        clear he
        go_wp2_with (first
          | (go_at_call 75; refine (minus_any p _ _ HP.out).mono ?_; rintro e w1 ⟨rfl, hb⟩; obtain ⟨hc, hf⟩ := bcell hb; have hz := hb.size; (try simp at hz); have hSn : ((fun w' => w'.cell? ⟨w.heap.size, 0, none⟩ = some (.int .i64 f.sets) ∧ w'.cell? ⟨w.heap.size, 1, none⟩ = some (.int .i64 f.games) ∧ w'.cell? ⟨w.heap.size, 2, none⟩ = some (.bool f.noAd) ∧ w'.cell? ⟨w.heap.size, 3, none⟩ = some (.int .i64 f.tie) ∧ w'.cell? ⟨w.heap.size, 4, none⟩ = some (.int .i64 f.to) ∧ w'.cell? ⟨w.heap.size, 5, none⟩ = some (.int .i64 f.lastTie) ∧ w'.cell? ⟨w.heap.size, 6, none⟩ = some (.int .i64 f.lastTo) ∧ w'.cell? ⟨w.heap.size, 7, none⟩ = some (.int .i64 f.first) ∧ w'.cell? ⟨w.heap.size, 8, none⟩ = some (.int .i64 f.next) ∧ w'.cell? ⟨w.heap.size, 9, none⟩ = some (.bool f.doubles) ∧ w'.cell? ⟨w.heap.size + 1, 0, none⟩ = some (.int .i64 p.A) ∧ w'.cell? ⟨w.heap.size + 1, 1, none⟩ = some (.int .i64 p.B) ∧ Below w.heap.size w w' ∧ w.heap.size < w'.heap.size ∧ w.heap.size + 1 < w'.heap.size)) w1 := (by (try dsimp only); (first | (go_keep; done) | (go_split_ands; (repeat' apply And.intro) <;> first | (go_keep; done) | (simp [*, zcA, zcP, zfA, zfP]; done) | (simp [zcA, zcP] <;> rfl) | (simp [*, zsS, zsO, zsA]; done) | ((first | refine (hc _ _ ?_).trans ?_ | refine (hf _ _ ?_).trans ?_) <;> first | assumption | (simp; done) | (simp; omega) | omega | (go_keep; done) | (simp [*, zcA, zcP, zfA, zfP]; done) | (simp [zcA, zcP]; rfl)) | (repeat' first | exact zbR _ _ | assumption | refine zbD ?_ | refine zbA ?_ ?_ _ | refine zbS ?_ ?_ _ | refine zbT ?_ (by assumption) ?_ | (simp; done) | (simp; omega) | omega)))); (try dsimp only at hSn); (try clear hS); have hS := hSn; clear hSn hc hf)
          | (go_at_call 72; refine (of_any (M.minus p k) _ _).mono ?_; rintro e w2 ⟨rfl, hb⟩; obtain ⟨hc, hf⟩ := bcell hb; have hz := hb.size; (try simp at hz); have hSn : ((fun w' => w'.cell? ⟨w.heap.size, 0, none⟩ = some (.int .i64 f.sets) ∧ w'.cell? ⟨w.heap.size, 1, none⟩ = some (.int .i64 f.games) ∧ w'.cell? ⟨w.heap.size, 2, none⟩ = some (.bool f.noAd) ∧ w'.cell? ⟨w.heap.size, 3, none⟩ = some (.int .i64 f.tie) ∧ w'.cell? ⟨w.heap.size, 4, none⟩ = some (.int .i64 f.to) ∧ w'.cell? ⟨w.heap.size, 5, none⟩ = some (.int .i64 f.lastTie) ∧ w'.cell? ⟨w.heap.size, 6, none⟩ = some (.int .i64 f.lastTo) ∧ w'.cell? ⟨w.heap.size, 7, none⟩ = some (.int .i64 f.first) ∧ w'.cell? ⟨w.heap.size, 8, none⟩ = some (.int .i64 f.next) ∧ w'.cell? ⟨w.heap.size, 9, none⟩ = some (.bool f.doubles) ∧ w'.cell? ⟨w.heap.size + 1, 0, none⟩ = some (.int .i64 p.A) ∧ w'.cell? ⟨w.heap.size + 1, 1, none⟩ = some (.int .i64 p.B) ∧ Below w.heap.size w w' ∧ w.heap.size < w'.heap.size ∧ w.heap.size + 1 < w'.heap.size ∧ w'.cell? ⟨w1.heap.size, 0, none⟩ = some (.int .i64 (M.minus p k).A) ∧ w'.cell? ⟨w1.heap.size, 1, none⟩ = some (.int .i64 (M.minus p k).B) ∧ w1.heap.size < w'.heap.size)) w2 := (by (try dsimp only); (first | (go_keep; done) | (go_split_ands; (repeat' apply And.intro) <;> first | (go_keep; done) | (simp [*, zcA, zcP, zfA, zfP]; done) | (simp [zcA, zcP] <;> rfl) | (simp [*, zsS, zsO, zsA]; done) | ((first | refine (hc _ _ ?_).trans ?_ | refine (hf _ _ ?_).trans ?_) <;> first | assumption | (simp; done) | (simp; omega) | omega | (go_keep; done) | (simp [*, zcA, zcP, zfA, zfP]; done) | (simp [zcA, zcP]; rfl)) | (repeat' first | exact zbR _ _ | assumption | refine zbD ?_ | refine zbA ?_ ?_ _ | refine zbS ?_ ?_ _ | refine zbT ?_ (by assumption) ?_ | (simp; done) | (simp; omega) | omega)))); (try dsimp only at hSn); (try clear hS); have hS := hSn; clear hSn hc hf)
          | (go_at_call 67; refine (gamesArise_any f (M.minus p k) _ HM.out).mono ?_; rintro e w3 ⟨rfl, hb⟩; obtain ⟨hc, hf⟩ := bcell hb; have hz := hb.size; (try simp at hz); have hSn : ((fun w' => w'.cell? ⟨w.heap.size, 0, none⟩ = some (.int .i64 f.sets) ∧ w'.cell? ⟨w.heap.size, 1, none⟩ = some (.int .i64 f.games) ∧ w'.cell? ⟨w.heap.size, 2, none⟩ = some (.bool f.noAd) ∧ w'.cell? ⟨w.heap.size, 3, none⟩ = some (.int .i64 f.tie) ∧ w'.cell? ⟨w.heap.size, 4, none⟩ = some (.int .i64 f.to) ∧ w'.cell? ⟨w.heap.size, 5, none⟩ = some (.int .i64 f.lastTie) ∧ w'.cell? ⟨w.heap.size, 6, none⟩ = some (.int .i64 f.lastTo) ∧ w'.cell? ⟨w.heap.size, 7, none⟩ = some (.int .i64 f.first) ∧ w'.cell? ⟨w.heap.size, 8, none⟩ = some (.int .i64 f.next) ∧ w'.cell? ⟨w.heap.size, 9, none⟩ = some (.bool f.doubles) ∧ w'.cell? ⟨w.heap.size + 1, 0, none⟩ = some (.int .i64 p.A) ∧ w'.cell? ⟨w.heap.size + 1, 1, none⟩ = some (.int .i64 p.B) ∧ Below w.heap.size w w' ∧ w.heap.size < w'.heap.size ∧ w.heap.size + 1 < w'.heap.size ∧ w'.cell? ⟨w1.heap.size, 0, none⟩ = some (.int .i64 (M.minus p k).A) ∧ w'.cell? ⟨w1.heap.size, 1, none⟩ = some (.int .i64 (M.minus p k).B) ∧ w1.heap.size < w'.heap.size)) w3 := (by (try dsimp only); (first | (go_keep; done) | (go_split_ands; (repeat' apply And.intro) <;> first | (go_keep; done) | (simp [*, zcA, zcP, zfA, zfP]; done) | (simp [zcA, zcP] <;> rfl) | (simp [*, zsS, zsO, zsA]; done) | ((first | refine (hc _ _ ?_).trans ?_ | refine (hf _ _ ?_).trans ?_) <;> first | assumption | (simp; done) | (simp; omega) | omega | (go_keep; done) | (simp [*, zcA, zcP, zfA, zfP]; done) | (simp [zcA, zcP]; rfl)) | (repeat' first | exact zbR _ _ | assumption | refine zbD ?_ | refine zbA ?_ ?_ _ | refine zbS ?_ ?_ _ | refine zbT ?_ (by assumption) ?_ | (simp; done) | (simp; omega) | omega)))); (try dsimp only at hSn); (try clear hS); have hS := hSn; clear hSn hc hf)
          | (go_at_call 74; refine (endsSet_any f (M.minus p k) _ _ HM.out HM3.out).mono ?_; rintro e w4 ⟨rfl, hb⟩; obtain ⟨hc, hf⟩ := bcell hb; have hz := hb.size; (try simp at hz); have hSn : ((fun w' => w'.cell? ⟨w.heap.size, 0, none⟩ = some (.int .i64 f.sets) ∧ w'.cell? ⟨w.heap.size, 1, none⟩ = some (.int .i64 f.games) ∧ w'.cell? ⟨w.heap.size, 2, none⟩ = some (.bool f.noAd) ∧ w'.cell? ⟨w.heap.size, 3, none⟩ = some (.int .i64 f.tie) ∧ w'.cell? ⟨w.heap.size, 4, none⟩ = some (.int .i64 f.to) ∧ w'.cell? ⟨w.heap.size, 5, none⟩ = some (.int .i64 f.lastTie) ∧ w'.cell? ⟨w.heap.size, 6, none⟩ = some (.int .i64 f.lastTo) ∧ w'.cell? ⟨w.heap.size, 7, none⟩ = some (.int .i64 f.first) ∧ w'.cell? ⟨w.heap.size, 8, none⟩ = some (.int .i64 f.next) ∧ w'.cell? ⟨w.heap.size, 9, none⟩ = some (.bool f.doubles) ∧ w'.cell? ⟨w.heap.size + 1, 0, none⟩ = some (.int .i64 p.A) ∧ w'.cell? ⟨w.heap.size + 1, 1, none⟩ = some (.int .i64 p.B) ∧ Below w.heap.size w w' ∧ w.heap.size < w'.heap.size ∧ w.heap.size + 1 < w'.heap.size ∧ w'.cell? ⟨w1.heap.size, 0, none⟩ = some (.int .i64 (M.minus p k).A) ∧ w'.cell? ⟨w1.heap.size, 1, none⟩ = some (.int .i64 (M.minus p k).B) ∧ w1.heap.size < w'.heap.size)) w4 := (by (try dsimp only); (first | (go_keep; done) | (go_split_ands; (repeat' apply And.intro) <;> first | (go_keep; done) | (simp [*, zcA, zcP, zfA, zfP]; done) | (simp [zcA, zcP] <;> rfl) | (simp [*, zsS, zsO, zsA]; done) | ((first | refine (hc _ _ ?_).trans ?_ | refine (hf _ _ ?_).trans ?_) <;> first | assumption | (simp; done) | (simp; omega) | omega | (go_keep; done) | (simp [*, zcA, zcP, zfA, zfP]; done) | (simp [zcA, zcP]; rfl)) | (repeat' first | exact zbR _ _ | assumption | refine zbD ?_ | refine zbA ?_ ?_ _ | refine zbS ?_ ?_ _ | refine zbT ?_ (by assumption) ?_ | (simp; done) | (simp; omega) | omega)))); (try dsimp only at hSn); (try clear hS); have hS := hSn; clear hSn hc hf))
        go_roundw
        case rel => exact ⟨k + 1, by omega, by go_num, HN, by (first | (go_keep; done) | (go_split_ands; (repeat' apply And.intro) <;> first | (go_keep; done) | (simp [*, zcA, zcP, zfA, zfP]; done) | (simp [zcA, zcP] <;> rfl) | (simp [*, zsS, zsO, zsA]; done) | ((first | refine (hc _ _ ?_).trans ?_ | refine (hf _ _ ?_).trans ?_) <;> first | assumption | (simp; done) | (simp; omega) | omega | (go_keep; done) | (simp [*, zcA, zcP, zfA, zfP]; done) | (simp [zcA, zcP]; rfl)) | (repeat' first | exact zbR _ _ | assumption | refine zbD ?_ | refine zbA ?_ ?_ _ | refine zbS ?_ ?_ _ | refine zbT ?_ (by assumption) ?_ | (simp; done) | (simp; omega) | omega)))⟩
        case measure => simp [intOf]; omega
      cases h2 : M.gamesArise f (M.minus p k)
      · have he : M.endsBy f p k = false := by unfold M.endsBy; rw [h1, h2]; rfl
        have HN : Hid (∀ j : Nat, j < k + 1 → M.endsBy f p j = false) := hide (fun j hj => by
          rcases Nat.lt_or_eq_of_le (Nat.le_of_lt_succ hj) with h | h
          · exact hno.out j h
          · rw [h]; exact he)
        clear he
        go_wp2_with (first
          | (go_at_call 75; refine (minus_any p _ _ HP.out).mono ?_; rintro e w1 ⟨rfl, hb⟩; obtain ⟨hc, hf⟩ := bcell hb; have hz := hb.size; (try simp at hz); have hSn : ((fun w' => w'.cell? ⟨w.heap.size, 0, none⟩ = some (.int .i64 f.sets) ∧ w'.cell? ⟨w.heap.size, 1, none⟩ = some (.int .i64 f.games) ∧ w'.cell? ⟨w.heap.size, 2, none⟩ = some (.bool f.noAd) ∧ w'.cell? ⟨w.heap.size, 3, none⟩ = some (.int .i64 f.tie) ∧ w'.cell? ⟨w.heap.size, 4, none⟩ = some (.int .i64 f.to) ∧ w'.cell? ⟨w.heap.size, 5, none⟩ = some (.int .i64 f.lastTie) ∧ w'.cell? ⟨w.heap.size, 6, none⟩ = some (.int .i64 f.lastTo) ∧ w'.cell? ⟨w.heap.size, 7, none⟩ = some (.int .i64 f.first) ∧ w'.cell? ⟨w.heap.size, 8, none⟩ = some (.int .i64 f.next) ∧ w'.cell? ⟨w.heap.size, 9, none⟩ = some (.bool f.doubles) ∧ w'.cell? ⟨w.heap.size + 1, 0, none⟩ = some (.int .i64 p.A) ∧ w'.cell? ⟨w.heap.size + 1, 1, none⟩ = some (.int .i64 p.B) ∧ Below w.heap.size w w' ∧ w.heap.size < w'.heap.size ∧ w.heap.size + 1 < w'.heap.size)) w1 := (by (try dsimp only); (first | (go_keep; done) | (go_split_ands; (repeat' apply And.intro) <;> first | (go_keep; done) | (simp [*, zcA, zcP, zfA, zfP]; done) | (simp [zcA, zcP] <;> rfl) | (simp [*, zsS, zsO, zsA]; done) | ((first | refine (hc _ _ ?_).trans ?_ | refine (hf _ _ ?_).trans ?_) <;> first | assumption | (simp; done) | (simp; omega) | omega | (go_keep; done) | (simp [*, zcA, zcP, zfA, zfP]; done) | (simp [zcA, zcP]; rfl)) | (repeat' first | exact zbR _ _ | assumption | refine zbD ?_ | refine zbA ?_ ?_ _ | refine zbS ?_ ?_ _ | refine zbT ?_ (by assumption) ?_ | (simp; done) | (simp; omega) | omega)))); (try dsimp only at hSn); (try clear hS); have hS := hSn; clear hSn hc hf)
          | (go_at_call 72; refine (of_any (M.minus p k) _ _).mono ?_; rintro e w2 ⟨rfl, hb⟩; obtain ⟨hc, hf⟩ := bcell hb; have hz := hb.size; (try simp at hz); have hSn : ((fun w' => w'.cell? ⟨w.heap.size, 0, none⟩ = some (.int .i64 f.sets) ∧ w'.cell? ⟨w.heap.size, 1, none⟩ = some (.int .i64 f.games) ∧ w'.cell? ⟨w.heap.size, 2, none⟩ = some (.bool f.noAd) ∧ w'.cell? ⟨w.heap.size, 3, none⟩ = some (.int .i64 f.tie) ∧ w'.cell? ⟨w.heap.size, 4, none⟩ = some (.int .i64 f.to) ∧ w'.cell? ⟨w.heap.size, 5, none⟩ = some (.int .i64 f.lastTie) ∧ w'.cell? ⟨w.heap.size, 6, none⟩ = some (.int .i64 f.lastTo) ∧ w'.cell? ⟨w.heap.size, 7, none⟩ = some (.int .i64 f.first) ∧ w'.cell? ⟨w.heap.size, 8, none⟩ = some (.int .i64 f.next) ∧ w'.cell? ⟨w.heap.size, 9, none⟩ = some (.bool f.doubles) ∧ w'.cell? ⟨w.heap.size + 1, 0, none⟩ = some (.int .i64 p.A) ∧ w'.cell? ⟨w.heap.size + 1, 1, none⟩ = some (.int .i64 p.B) ∧ Below w.heap.size w w' ∧ w.heap.size < w'.heap.size ∧ w.heap.size + 1 < w'.heap.size ∧ w'.cell? ⟨w1.heap.size, 0, none⟩ = some (.int .i64 (M.minus p k).A) ∧ w'.cell? ⟨w1.heap.size, 1, none⟩ = some (.int .i64 (M.minus p k).B) ∧ w1.heap.size < w'.heap.size)) w2 := (by (try dsimp only); (first | (go_keep; done) | (go_split_ands; (repeat' apply And.intro) <;> first | (go_keep; done) | (simp [*, zcA, zcP, zfA, zfP]; done) | (simp [zcA, zcP] <;> rfl) | (simp [*, zsS, zsO, zsA]; done) | ((first | refine (hc _ _ ?_).trans ?_ | refine (hf _ _ ?_).trans ?_) <;> first | assumption | (simp; done) | (simp; omega) | omega | (go_keep; done) | (simp [*, zcA, zcP, zfA, zfP]; done) | (simp [zcA, zcP]; rfl)) | (repeat' first | exact zbR _ _ | assumption | refine zbD ?_ | refine zbA ?_ ?_ _ | refine zbS ?_ ?_ _ | refine zbT ?_ (by assumption) ?_ | (simp; done) | (simp; omega) | omega)))); (try dsimp only at hSn); (try clear hS); have hS := hSn; clear hSn hc hf)
          | (go_at_call 67; refine (gamesArise_any f (M.minus p k) _ HM.out).mono ?_; rintro e w3 ⟨rfl, hb⟩; obtain ⟨hc, hf⟩ := bcell hb; have hz := hb.size; (try simp at hz); have hSn : ((fun w' => w'.cell? ⟨w.heap.size, 0, none⟩ = some (.int .i64 f.sets) ∧ w'.cell? ⟨w.heap.size, 1, none⟩ = some (.int .i64 f.games) ∧ w'.cell? ⟨w.heap.size, 2, none⟩ = some (.bool f.noAd) ∧ w'.cell? ⟨w.heap.size, 3, none⟩ = some (.int .i64 f.tie) ∧ w'.cell? ⟨w.heap.size, 4, none⟩ = some (.int .i64 f.to) ∧ w'.cell? ⟨w.heap.size, 5, none⟩ = some (.int .i64 f.lastTie) ∧ w'.cell? ⟨w.heap.size, 6, none⟩ = some (.int .i64 f.lastTo) ∧ w'.cell? ⟨w.heap.size, 7, none⟩ = some (.int .i64 f.first) ∧ w'.cell? ⟨w.heap.size, 8, none⟩ = some (.int .i64 f.next) ∧ w'.cell? ⟨w.heap.size, 9, none⟩ = some (.bool f.doubles) ∧ w'.cell? ⟨w.heap.size + 1, 0, none⟩ = some (.int .i64 p.A) ∧ w'.cell? ⟨w.heap.size + 1, 1, none⟩ = some (.int .i64 p.B) ∧ Below w.heap.size w w' ∧ w.heap.size < w'.heap.size ∧ w.heap.size + 1 < w'.heap.size ∧ w'.cell? ⟨w1.heap.size, 0, none⟩ = some (.int .i64 (M.minus p k).A) ∧ w'.cell? ⟨w1.heap.size, 1, none⟩ = some (.int .i64 (M.minus p k).B) ∧ w1.heap.size < w'.heap.size)) w3 := (by (try dsimp only); (first | (go_keep; done) | (go_split_ands; (repeat' apply And.intro) <;> first | (go_keep; done) | (simp [*, zcA, zcP, zfA, zfP]; done) | (simp [zcA, zcP] <;> rfl) | (simp [*, zsS, zsO, zsA]; done) | ((first | refine (hc _ _ ?_).trans ?_ | refine (hf _ _ ?_).trans ?_) <;> first | assumption | (simp; done) | (simp; omega) | omega | (go_keep; done) | (simp [*, zcA, zcP, zfA, zfP]; done) | (simp [zcA, zcP]; rfl)) | (repeat' first | exact zbR _ _ | assumption | refine zbD ?_ | refine zbA ?_ ?_ _ | refine zbS ?_ ?_ _ | refine zbT ?_ (by assumption) ?_ | (simp; done) | (simp; omega) | omega)))); (try dsimp only at hSn); (try clear hS); have hS := hSn; clear hSn hc hf)
          | (go_at_call 74; refine (endsSet_any f (M.minus p k) _ _ HM.out HM3.out).mono ?_; rintro e w4 ⟨rfl, hb⟩; obtain ⟨hc, hf⟩ := bcell hb; have hz := hb.size; (try simp at hz); have hSn : ((fun w' => w'.cell? ⟨w.heap.size, 0, none⟩ = some (.int .i64 f.sets) ∧ w'.cell? ⟨w.heap.size, 1, none⟩ = some (.int .i64 f.games) ∧ w'.cell? ⟨w.heap.size, 2, none⟩ = some (.bool f.noAd) ∧ w'.cell? ⟨w.heap.size, 3, none⟩ = some (.int .i64 f.tie) ∧ w'.cell? ⟨w.heap.size, 4, none⟩ = some (.int .i64 f.to) ∧ w'.cell? ⟨w.heap.size, 5, none⟩ = some (.int .i64 f.lastTie) ∧ w'.cell? ⟨w.heap.size, 6, none⟩ = some (.int .i64 f.lastTo) ∧ w'.cell? ⟨w.heap.size, 7, none⟩ = some (.int .i64 f.first) ∧ w'.cell? ⟨w.heap.size, 8, none⟩ = some (.int .i64 f.next) ∧ w'.cell? ⟨w.heap.size, 9, none⟩ = some (.bool f.doubles) ∧ w'.cell? ⟨w.heap.size + 1, 0, none⟩ = some (.int .i64 p.A) ∧ w'.cell? ⟨w.heap.size + 1, 1, none⟩ = some (.int .i64 p.B) ∧ Below w.heap.size w w' ∧ w.heap.size < w'.heap.size ∧ w.heap.size + 1 < w'.heap.size ∧ w'.cell? ⟨w1.heap.size, 0, none⟩ = some (.int .i64 (M.minus p k).A) ∧ w'.cell? ⟨w1.heap.size, 1, none⟩ = some (.int .i64 (M.minus p k).B) ∧ w1.heap.size < w'.heap.size)) w4 := (by (try dsimp only); (first | (go_keep; done) | (go_split_ands; (repeat' apply And.intro) <;> first | (go_keep; done) | (simp [*, zcA, zcP, zfA, zfP]; done) | (simp [zcA, zcP] <;> rfl) | (simp [*, zsS, zsO, zsA]; done) | ((first | refine (hc _ _ ?_).trans ?_ | refine (hf _ _ ?_).trans ?_) <;> first | assumption | (simp; done) | (simp; omega) | omega | (go_keep; done) | (simp [*, zcA, zcP, zfA, zfP]; done) | (simp [zcA, zcP]; rfl)) | (repeat' first | exact zbR _ _ | assumption | refine zbD ?_ | refine zbA ?_ ?_ _ | refine zbS ?_ ?_ _ | refine zbT ?_ (by assumption) ?_ | (simp; done) | (simp; omega) | omega)))); (try dsimp only at hSn); (try clear hS); have hS := hSn; clear hSn hc hf))
        go_roundw
        case rel => exact ⟨k + 1, by omega, by go_num, HN, by (first | (go_keep; done) | (go_split_ands; (repeat' apply And.intro) <;> first | (go_keep; done) | (simp [*, zcA, zcP, zfA, zfP]; done) | (simp [zcA, zcP] <;> rfl) | (simp [*, zsS, zsO, zsA]; done) | ((first | refine (hc _ _ ?_).trans ?_ | refine (hf _ _ ?_).trans ?_) <;> first | assumption | (simp; done) | (simp; omega) | omega | (go_keep; done) | (simp [*, zcA, zcP, zfA, zfP]; done) | (simp [zcA, zcP]; rfl)) | (repeat' first | exact zbR _ _ | assumption | refine zbD ?_ | refine zbA ?_ ?_ _ | refine zbS ?_ ?_ _ | refine zbT ?_ (by assumption) ?_ | (simp; done) | (simp; omega) | omega)))⟩
        case measure => simp [intOf]; omega
      cases h3 : M.endsSet f (M.minus p k) k
      · have he : M.endsBy f p k = false := by unfold M.endsBy; rw [h1, h2, h3]; rfl
        have HN : Hid (∀ j : Nat, j < k + 1 → M.endsBy f p j = false) := hide (fun j hj => by
          rcases Nat.lt_or_eq_of_le (Nat.le_of_lt_succ hj) with h | h
          · exact hno.out j h
          · rw [h]; exact he)
        clear he
        go_wp2_with (first
          | (go_at_call 75; refine (minus_any p _ _ HP.out).mono ?_; rintro e w1 ⟨rfl, hb⟩; obtain ⟨hc, hf⟩ := bcell hb; have hz := hb.size; (try simp at hz); have hSn : ((fun w' => w'.cell? ⟨w.heap.size, 0, none⟩ = some (.int .i64 f.sets) ∧ w'.cell? ⟨w.heap.size, 1, none⟩ = some (.int .i64 f.games) ∧ w'.cell? ⟨w.heap.size, 2, none⟩ = some (.bool f.noAd) ∧ w'.cell? ⟨w.heap.size, 3, none⟩ = some (.int .i64 f.tie) ∧ w'.cell? ⟨w.heap.size, 4, none⟩ = some (.int .i64 f.to) ∧ w'.cell? ⟨w.heap.size, 5, none⟩ = some (.int .i64 f.lastTie) ∧ w'.cell? ⟨w.heap.size, 6, none⟩ = some (.int .i64 f.lastTo) ∧ w'.cell? ⟨w.heap.size, 7, none⟩ = some (.int .i64 f.first) ∧ w'.cell? ⟨w.heap.size, 8, none⟩ = some (.int .i64 f.next) ∧ w'.cell? ⟨w.heap.size, 9, none⟩ = some (.bool f.doubles) ∧ w'.cell? ⟨w.heap.size + 1, 0, none⟩ = some (.int .i64 p.A) ∧ w'.cell? ⟨w.heap.size + 1, 1, none⟩ = some (.int .i64 p.B) ∧ Below w.heap.size w w' ∧ w.heap.size < w'.heap.size ∧ w.heap.size + 1 < w'.heap.size)) w1 := (by (try dsimp only); (first | (go_keep; done) | (go_split_ands; (repeat' apply And.intro) <;> first | (go_keep; done) | (simp [*, zcA, zcP, zfA, zfP]; done) | (simp [zcA, zcP] <;> rfl) | (simp [*, zsS, zsO, zsA]; done) | ((first | refine (hc _ _ ?_).trans ?_ | refine (hf _ _ ?_).trans ?_) <;> first | assumption | (simp; done) | (simp; omega) | omega | (go_keep; done) | (simp [*, zcA, zcP, zfA, zfP]; done) | (simp [zcA, zcP]; rfl)) | (repeat' first | exact zbR _ _ | assumption | refine zbD ?_ | refine zbA ?_ ?_ _ | refine zbS ?_ ?_ _ | refine zbT ?_ (by assumption) ?_ | (simp; done) | (simp; omega) | omega)))); (try dsimp only at hSn); (try clear hS); have hS := hSn; clear hSn hc hf)
          | (go_at_call 72; refine (of_any (M.minus p k) _ _).mono ?_; rintro e w2 ⟨rfl, hb⟩; obtain ⟨hc, hf⟩ := bcell hb; have hz := hb.size; (try simp at hz); have hSn : ((fun w' => w'.cell? ⟨w.heap.size, 0, none⟩ = some (.int .i64 f.sets) ∧ w'.cell? ⟨w.heap.size, 1, none⟩ = some (.int .i64 f.games) ∧ w'.cell? ⟨w.heap.size, 2, none⟩ = some (.bool f.noAd) ∧ w'.cell? ⟨w.heap.size, 3, none⟩ = some (.int .i64 f.tie) ∧ w'.cell? ⟨w.heap.size, 4, none⟩ = some (.int .i64 f.to) ∧ w'.cell? ⟨w.heap.size, 5, none⟩ = some (.int .i64 f.lastTie) ∧ w'.cell? ⟨w.heap.size, 6, none⟩ = some (.int .i64 f.lastTo) ∧ w'.cell? ⟨w.heap.size, 7, none⟩ = some (.int .i64 f.first) ∧ w'.cell? ⟨w.heap.size, 8, none⟩ = some (.int .i64 f.next) ∧ w'.cell? ⟨w.heap.size, 9, none⟩ = some (.bool f.doubles) ∧ w'.cell? ⟨w.heap.size + 1, 0, none⟩ = some (.int .i64 p.A) ∧ w'.cell? ⟨w.heap.size + 1, 1, none⟩ = some (.int .i64 p.B) ∧ Below w.heap.size w w' ∧ w.heap.size < w'.heap.size ∧ w.heap.size + 1 < w'.heap.size ∧ w'.cell? ⟨w1.heap.size, 0, none⟩ = some (.int .i64 (M.minus p k).A) ∧ w'.cell? ⟨w1.heap.size, 1, none⟩ = some (.int .i64 (M.minus p k).B) ∧ w1.heap.size < w'.heap.size)) w2 := (by (try dsimp only); (first | (go_keep; done) | (go_split_ands; (repeat' apply And.intro) <;> first | (go_keep; done) | (simp [*, zcA, zcP, zfA, zfP]; done) | (simp [zcA, zcP] <;> rfl) | (simp [*, zsS, zsO, zsA]; done) | ((first | refine (hc _ _ ?_).trans ?_ | refine (hf _ _ ?_).trans ?_) <;> first | assumption | (simp; done) | (simp; omega) | omega | (go_keep; done) | (simp [*, zcA, zcP, zfA, zfP]; done) | (simp [zcA, zcP]; rfl)) | (repeat' first | exact zbR _ _ | assumption | refine zbD ?_ | refine zbA ?_ ?_ _ | refine zbS ?_ ?_ _ | refine zbT ?_ (by assumption) ?_ | (simp; done) | (simp; omega) | omega)))); (try dsimp only at hSn); (try clear hS); have hS := hSn; clear hSn hc hf)
          | (go_at_call 67; refine (gamesArise_any f (M.minus p k) _ HM.out).mono ?_; rintro e w3 ⟨rfl, hb⟩; obtain ⟨hc, hf⟩ := bcell hb; have hz := hb.size; (try simp at hz); have hSn : ((fun w' => w'.cell? ⟨w.heap.size, 0, none⟩ = some (.int .i64 f.sets) ∧ w'.cell? ⟨w.heap.size, 1, none⟩ = some (.int .i64 f.games) ∧ w'.cell? ⟨w.heap.size, 2, none⟩ = some (.bool f.noAd) ∧ w'.cell? ⟨w.heap.size, 3, none⟩ = some (.int .i64 f.tie) ∧ w'.cell? ⟨w.heap.size, 4, none⟩ = some (.int .i64 f.to) ∧ w'.cell? ⟨w.heap.size, 5, none⟩ = some (.int .i64 f.lastTie) ∧ w'.cell? ⟨w.heap.size, 6, none⟩ = some (.int .i64 f.lastTo) ∧ w'.cell? ⟨w.heap.size, 7, none⟩ = some (.int .i64 f.first) ∧ w'.cell? ⟨w.heap.size, 8, none⟩ = some (.int .i64 f.next) ∧ w'.cell? ⟨w.heap.size, 9, none⟩ = some (.bool f.doubles) ∧ w'.cell? ⟨w.heap.size + 1, 0, none⟩ = some (.int .i64 p.A) ∧ w'.cell? ⟨w.heap.size + 1, 1, none⟩ = some (.int .i64 p.B) ∧ Below w.heap.size w w' ∧ w.heap.size < w'.heap.size ∧ w.heap.size + 1 < w'.heap.size ∧ w'.cell? ⟨w1.heap.size, 0, none⟩ = some (.int .i64 (M.minus p k).A) ∧ w'.cell? ⟨w1.heap.size, 1, none⟩ = some (.int .i64 (M.minus p k).B) ∧ w1.heap.size < w'.heap.size)) w3 := (by (try dsimp only); (first | (go_keep; done) | (go_split_ands; (repeat' apply And.intro) <;> first | (go_keep; done) | (simp [*, zcA, zcP, zfA, zfP]; done) | (simp [zcA, zcP] <;> rfl) | (simp [*, zsS, zsO, zsA]; done) | ((first | refine (hc _ _ ?_).trans ?_ | refine (hf _ _ ?_).trans ?_) <;> first | assumption | (simp; done) | (simp; omega) | omega | (go_keep; done) | (simp [*, zcA, zcP, zfA, zfP]; done) | (simp [zcA, zcP]; rfl)) | (repeat' first | exact zbR _ _ | assumption | refine zbD ?_ | refine zbA ?_ ?_ _ | refine zbS ?_ ?_ _ | refine zbT ?_ (by assumption) ?_ | (simp; done) | (simp; omega) | omega)))); (try dsimp only at hSn); (try clear hS); have hS := hSn; clear hSn hc hf)
          | (go_at_call 74; refine (endsSet_any f (M.minus p k) _ _ HM.out HM3.out).mono ?_; rintro e w4 ⟨rfl, hb⟩; obtain ⟨hc, hf⟩ := bcell hb; have hz := hb.size; (try simp at hz); have hSn : ((fun w' => w'.cell? ⟨w.heap.size, 0, none⟩ = some (.int .i64 f.sets) ∧ w'.cell? ⟨w.heap.size, 1, none⟩ = some (.int .i64 f.games) ∧ w'.cell? ⟨w.heap.size, 2, none⟩ = some (.bool f.noAd) ∧ w'.cell? ⟨w.heap.size, 3, none⟩ = some (.int .i64 f.tie) ∧ w'.cell? ⟨w.heap.size, 4, none⟩ = some (.int .i64 f.to) ∧ w'.cell? ⟨w.heap.size, 5, none⟩ = some (.int .i64 f.lastTie) ∧ w'.cell? ⟨w.heap.size, 6, none⟩ = some (.int .i64 f.lastTo) ∧ w'.cell? ⟨w.heap.size, 7, none⟩ = some (.int .i64 f.first) ∧ w'.cell? ⟨w.heap.size, 8, none⟩ = some (.int .i64 f.next) ∧ w'.cell? ⟨w.heap.size, 9, none⟩ = some (.bool f.doubles) ∧ w'.cell? ⟨w.heap.size + 1, 0, none⟩ = some (.int .i64 p.A) ∧ w'.cell? ⟨w.heap.size + 1, 1, none⟩ = some (.int .i64 p.B) ∧ Below w.heap.size w w' ∧ w.heap.size < w'.heap.size ∧ w.heap.size + 1 < w'.heap.size ∧ w'.cell? ⟨w1.heap.size, 0, none⟩ = some (.int .i64 (M.minus p k).A) ∧ w'.cell? ⟨w1.heap.size, 1, none⟩ = some (.int .i64 (M.minus p k).B) ∧ w1.heap.size < w'.heap.size)) w4 := (by (try dsimp only); (first | (go_keep; done) | (go_split_ands; (repeat' apply And.intro) <;> first | (go_keep; done) | (simp [*, zcA, zcP, zfA, zfP]; done) | (simp [zcA, zcP] <;> rfl) | (simp [*, zsS, zsO, zsA]; done) | ((first | refine (hc _ _ ?_).trans ?_ | refine (hf _ _ ?_).trans ?_) <;> first | assumption | (simp; done) | (simp; omega) | omega | (go_keep; done) | (simp [*, zcA, zcP, zfA, zfP]; done) | (simp [zcA, zcP]; rfl)) | (repeat' first | exact zbR _ _ | assumption | refine zbD ?_ | refine zbA ?_ ?_ _ | refine zbS ?_ ?_ _ | refine zbT ?_ (by assumption) ?_ | (simp; done) | (simp; omega) | omega)))); (try dsimp only at hSn); (try clear hS); have hS := hSn; clear hSn hc hf))
        go_roundw
        case rel => exact ⟨k + 1, by omega, by go_num, HN, by (first | (go_keep; done) | (go_split_ands; (repeat' apply And.intro) <;> first | (go_keep; done) | (simp [*, zcA, zcP, zfA, zfP]; done) | (simp [zcA, zcP] <;> rfl) | (simp [*, zsS, zsO, zsA]; done) | ((first | refine (hc _ _ ?_).trans ?_ | refine (hf _ _ ?_).trans ?_) <;> first | assumption | (simp; done) | (simp; omega) | omega | (go_keep; done) | (simp [*, zcA, zcP, zfA, zfP]; done) | (simp [zcA, zcP]; rfl)) | (repeat' first | exact zbR _ _ | assumption | refine zbD ?_ | refine zbA ?_ ?_ _ | refine zbS ?_ ?_ _ | refine zbT ?_ (by assumption) ?_ | (simp; done) | (simp; omega) | omega)))⟩
        case measure => simp [intOf]; omega
      · have he : M.endsBy f p k = true := by unfold M.endsBy; rw [h1, h2, h3]; rfl
        have ho := M.setWinner_of hlt hno.out he
        have HO := hide ho
        clear ho he
        go_wp2_with (first
          | (go_at_call 75; refine (minus_any p _ _ HP.out).mono ?_; rintro e w1 ⟨rfl, hb⟩; obtain ⟨hc, hf⟩ := bcell hb; have hz := hb.size; (try simp at hz); have hSn : ((fun w' => w'.cell? ⟨w.heap.size, 0, none⟩ = some (.int .i64 f.sets) ∧ w'.cell? ⟨w.heap.size, 1, none⟩ = some (.int .i64 f.games) ∧ w'.cell? ⟨w.heap.size, 2, none⟩ = some (.bool f.noAd) ∧ w'.cell? ⟨w.heap.size, 3, none⟩ = some (.int .i64 f.tie) ∧ w'.cell? ⟨w.heap.size, 4, none⟩ = some (.int .i64 f.to) ∧ w'.cell? ⟨w.heap.size, 5, none⟩ = some (.int .i64 f.lastTie) ∧ w'.cell? ⟨w.heap.size, 6, none⟩ = some (.int .i64 f.lastTo) ∧ w'.cell? ⟨w.heap.size, 7, none⟩ = some (.int .i64 f.first) ∧ w'.cell? ⟨w.heap.size, 8, none⟩ = some (.int .i64 f.next) ∧ w'.cell? ⟨w.heap.size, 9, none⟩ = some (.bool f.doubles) ∧ w'.cell? ⟨w.heap.size + 1, 0, none⟩ = some (.int .i64 p.A) ∧ w'.cell? ⟨w.heap.size + 1, 1, none⟩ = some (.int .i64 p.B) ∧ Below w.heap.size w w' ∧ w.heap.size < w'.heap.size ∧ w.heap.size + 1 < w'.heap.size)) w1 := (by (try dsimp only); (first | (go_keep; done) | (go_split_ands; (repeat' apply And.intro) <;> first | (go_keep; done) | (simp [*, zcA, zcP, zfA, zfP]; done) | (simp [zcA, zcP] <;> rfl) | (simp [*, zsS, zsO, zsA]; done) | ((first | refine (hc _ _ ?_).trans ?_ | refine (hf _ _ ?_).trans ?_) <;> first | assumption | (simp; done) | (simp; omega) | omega | (go_keep; done) | (simp [*, zcA, zcP, zfA, zfP]; done) | (simp [zcA, zcP]; rfl)) | (repeat' first | exact zbR _ _ | assumption | refine zbD ?_ | refine zbA ?_ ?_ _ | refine zbS ?_ ?_ _ | refine zbT ?_ (by assumption) ?_ | (simp; done) | (simp; omega) | omega)))); (try dsimp only at hSn); (try clear hS); have hS := hSn; clear hSn hc hf)
          | (go_at_call 72; refine (of_any (M.minus p k) _ _).mono ?_; rintro e w2 ⟨rfl, hb⟩; obtain ⟨hc, hf⟩ := bcell hb; have hz := hb.size; (try simp at hz); have hSn : ((fun w' => w'.cell? ⟨w.heap.size, 0, none⟩ = some (.int .i64 f.sets) ∧ w'.cell? ⟨w.heap.size, 1, none⟩ = some (.int .i64 f.games) ∧ w'.cell? ⟨w.heap.size, 2, none⟩ = some (.bool f.noAd) ∧ w'.cell? ⟨w.heap.size, 3, none⟩ = some (.int .i64 f.tie) ∧ w'.cell? ⟨w.heap.size, 4, none⟩ = some (.int .i64 f.to) ∧ w'.cell? ⟨w.heap.size, 5, none⟩ = some (.int .i64 f.lastTie) ∧ w'.cell? ⟨w.heap.size, 6, none⟩ = some (.int .i64 f.lastTo) ∧ w'.cell? ⟨w.heap.size, 7, none⟩ = some (.int .i64 f.first) ∧ w'.cell? ⟨w.heap.size, 8, none⟩ = some (.int .i64 f.next) ∧ w'.cell? ⟨w.heap.size, 9, none⟩ = some (.bool f.doubles) ∧ w'.cell? ⟨w.heap.size + 1, 0, none⟩ = some (.int .i64 p.A) ∧ w'.cell? ⟨w.heap.size + 1, 1, none⟩ = some (.int .i64 p.B) ∧ Below w.heap.size w w' ∧ w.heap.size < w'.heap.size ∧ w.heap.size + 1 < w'.heap.size ∧ w'.cell? ⟨w1.heap.size, 0, none⟩ = some (.int .i64 (M.minus p k).A) ∧ w'.cell? ⟨w1.heap.size, 1, none⟩ = some (.int .i64 (M.minus p k).B) ∧ w1.heap.size < w'.heap.size)) w2 := (by (try dsimp only); (first | (go_keep; done) | (go_split_ands; (repeat' apply And.intro) <;> first | (go_keep; done) | (simp [*, zcA, zcP, zfA, zfP]; done) | (simp [zcA, zcP] <;> rfl) | (simp [*, zsS, zsO, zsA]; done) | ((first | refine (hc _ _ ?_).trans ?_ | refine (hf _ _ ?_).trans ?_) <;> first | assumption | (simp; done) | (simp; omega) | omega | (go_keep; done) | (simp [*, zcA, zcP, zfA, zfP]; done) | (simp [zcA, zcP]; rfl)) | (repeat' first | exact zbR _ _ | assumption | refine zbD ?_ | refine zbA ?_ ?_ _ | refine zbS ?_ ?_ _ | refine zbT ?_ (by assumption) ?_ | (simp; done) | (simp; omega) | omega)))); (try dsimp only at hSn); (try clear hS); have hS := hSn; clear hSn hc hf)
          | (go_at_call 67; refine (gamesArise_any f (M.minus p k) _ HM.out).mono ?_; rintro e w3 ⟨rfl, hb⟩; obtain ⟨hc, hf⟩ := bcell hb; have hz := hb.size; (try simp at hz); have hSn : ((fun w' => w'.cell? ⟨w.heap.size, 0, none⟩ = some (.int .i64 f.sets) ∧ w'.cell? ⟨w.heap.size, 1, none⟩ = some (.int .i64 f.games) ∧ w'.cell? ⟨w.heap.size, 2, none⟩ = some (.bool f.noAd) ∧ w'.cell? ⟨w.heap.size, 3, none⟩ = some (.int .i64 f.tie) ∧ w'.cell? ⟨w.heap.size, 4, none⟩ = some (.int .i64 f.to) ∧ w'.cell? ⟨w.heap.size, 5, none⟩ = some (.int .i64 f.lastTie) ∧ w'.cell? ⟨w.heap.size, 6, none⟩ = some (.int .i64 f.lastTo) ∧ w'.cell? ⟨w.heap.size, 7, none⟩ = some (.int .i64 f.first) ∧ w'.cell? ⟨w.heap.size, 8, none⟩ = some (.int .i64 f.next) ∧ w'.cell? ⟨w.heap.size, 9, none⟩ = some (.bool f.doubles) ∧ w'.cell? ⟨w.heap.size + 1, 0, none⟩ = some (.int .i64 p.A) ∧ w'.cell? ⟨w.heap.size + 1, 1, none⟩ = some (.int .i64 p.B) ∧ Below w.heap.size w w' ∧ w.heap.size < w'.heap.size ∧ w.heap.size + 1 < w'.heap.size ∧ w'.cell? ⟨w1.heap.size, 0, none⟩ = some (.int .i64 (M.minus p k).A) ∧ w'.cell? ⟨w1.heap.size, 1, none⟩ = some (.int .i64 (M.minus p k).B) ∧ w1.heap.size < w'.heap.size)) w3 := (by (try dsimp only); (first | (go_keep; done) | (go_split_ands; (repeat' apply And.intro) <;> first | (go_keep; done) | (simp [*, zcA, zcP, zfA, zfP]; done) | (simp [zcA, zcP] <;> rfl) | (simp [*, zsS, zsO, zsA]; done) | ((first | refine (hc _ _ ?_).trans ?_ | refine (hf _ _ ?_).trans ?_) <;> first | assumption | (simp; done) | (simp; omega) | omega | (go_keep; done) | (simp [*, zcA, zcP, zfA, zfP]; done) | (simp [zcA, zcP]; rfl)) | (repeat' first | exact zbR _ _ | assumption | refine zbD ?_ | refine zbA ?_ ?_ _ | refine zbS ?_ ?_ _ | refine zbT ?_ (by assumption) ?_ | (simp; done) | (simp; omega) | omega)))); (try dsimp only at hSn); (try clear hS); have hS := hSn; clear hSn hc hf)
          | (go_at_call 74; refine (endsSet_any f (M.minus p k) _ _ HM.out HM3.out).mono ?_; rintro e w4 ⟨rfl, hb⟩; obtain ⟨hc, hf⟩ := bcell hb; have hz := hb.size; (try simp at hz); have hSn : ((fun w' => w'.cell? ⟨w.heap.size, 0, none⟩ = some (.int .i64 f.sets) ∧ w'.cell? ⟨w.heap.size, 1, none⟩ = some (.int .i64 f.games) ∧ w'.cell? ⟨w.heap.size, 2, none⟩ = some (.bool f.noAd) ∧ w'.cell? ⟨w.heap.size, 3, none⟩ = some (.int .i64 f.tie) ∧ w'.cell? ⟨w.heap.size, 4, none⟩ = some (.int .i64 f.to) ∧ w'.cell? ⟨w.heap.size, 5, none⟩ = some (.int .i64 f.lastTie) ∧ w'.cell? ⟨w.heap.size, 6, none⟩ = some (.int .i64 f.lastTo) ∧ w'.cell? ⟨w.heap.size, 7, none⟩ = some (.int .i64 f.first) ∧ w'.cell? ⟨w.heap.size, 8, none⟩ = some (.int .i64 f.next) ∧ w'.cell? ⟨w.heap.size, 9, none⟩ = some (.bool f.doubles) ∧ w'.cell? ⟨w.heap.size + 1, 0, none⟩ = some (.int .i64 p.A) ∧ w'.cell? ⟨w.heap.size + 1, 1, none⟩ = some (.int .i64 p.B) ∧ Below w.heap.size w w' ∧ w.heap.size < w'.heap.size ∧ w.heap.size + 1 < w'.heap.size ∧ w'.cell? ⟨w1.heap.size, 0, none⟩ = some (.int .i64 (M.minus p k).A) ∧ w'.cell? ⟨w1.heap.size, 1, none⟩ = some (.int .i64 (M.minus p k).B) ∧ w1.heap.size < w'.heap.size)) w4 := (by (try dsimp only); (first | (go_keep; done) | (go_split_ands; (repeat' apply And.intro) <;> first | (go_keep; done) | (simp [*, zcA, zcP, zfA, zfP]; done) | (simp [zcA, zcP] <;> rfl) | (simp [*, zsS, zsO, zsA]; done) | ((first | refine (hc _ _ ?_).trans ?_ | refine (hf _ _ ?_).trans ?_) <;> first | assumption | (simp; done) | (simp; omega) | omega | (go_keep; done) | (simp [*, zcA, zcP, zfA, zfP]; done) | (simp [zcA, zcP]; rfl)) | (repeat' first | exact zbR _ _ | assumption | refine zbD ?_ | refine zbA ?_ ?_ _ | refine zbS ?_ ?_ _ | refine zbT ?_ (by assumption) ?_ | (simp; done) | (simp; omega) | omega)))); (try dsimp only at hSn); (try clear hS); have hS := hSn; clear hSn hc hf))
        go_ret
        exact ⟨by rw [HO.out]; rfl, by (go_split_ands; (repeat' first | exact zbR _ _ | assumption | refine zbD ?_ | refine zbA ?_ ?_ _ | refine zbS ?_ ?_ _ | refine zbT ?_ (by assumption) ?_ | (simp; done) | (simp; omega) | omega))⟩
    · have hk2 : k = 2 := by omega
      have ho := M.setWinner_none (s := f) (g := p) (fun j hj => hno.out j (by omega))
      have HO := hide ho
      clear ho
      subst hk2
      go_wp2
      go_ret
      exact ⟨by rw [HO.out]; rfl, by (go_split_ands; (repeat' first | exact zbR _ _ | assumption | refine zbD ?_ | refine zbA ?_ ?_ _ | refine zbS ?_ ?_ _ | refine zbT ?_ (by assumption) ?_ | (simp; done) | (simp; omega) | omega))⟩

end Go.Proofs.Ytbjmnlhehkcakaa

namespace Go.Proofs.Ytbjmnlhehkcakaa
open Go.RowKit
attribute [local go_sem ↓] Go.wp_at_zero Go.wp_at_succ

theorem all_take {ps : List M.Pr} {k : Nat} {p : M.Pr} (h : (ps.take k).all M.fine = true) (hk : ps[k]? = some p) (hp : M.fine p = true) : (ps.take (k + 1)).all M.fine = true := by
  rw [List.take_add_one, hk]
  simp only [Option.toList, List.all_append, h, List.all_cons, hp, List.all_nil, Bool.and_self]
theorem all_no {ps : List M.Pr} {k : Nat} {p : M.Pr} (hk : ps[k]? = some p) (hp : M.fine p = false) : ps.all M.fine = false := by
  rw [List.all_eq_false]
  exact ⟨p, List.mem_of_getElem? hk, by simp [hp]⟩

set_option maxHeartbeats 3200000 in
theorem numbered_any (A : Option Addr) (n c : Nat) (ps : List M.Pr) (g p : M.Pr) (w : World) (hn : ps.length = n) (hr : RdP w w.heap.size A ps) (hm : n ≤ 1000000) :
    Calls Try.prog 41 #[.agg #[.slice A n c, .int .i64 g.A, .int .i64 g.B, .int .i64 p.A, .int .i64 p.B]] w fun e w' => e = .returned (.bool (M.numbered ps g p)) ∧ Below w.heap.size w w' := by
  have HN := hide hn
  have HR := hide hr
  clear hn hr
  by_cases h5 : (5 : Int) < (n : Int)
  · have ho : M.numbered ps g p = false := by unfold M.numbered; rw [HN.out, decide_eq_false (by omega)]; rfl
    rw [ho]; clear ho
    go_enter Try.func41, Try.ntmps41
    go_wp2
    go_ret
    exact ⟨rfl, by (repeat' first | exact zbR _ _ | assumption | refine zbD ?_ | refine zbA ?_ ?_ _ | refine zbS ?_ ?_ _ | refine zbT ?_ (by assumption) ?_ | (simp; done) | (simp; omega) | omega)⟩
  · go_enter Try.func41, Try.ntmps41
    go_wp2
    go_loopw [13] (fun i wr => ∃ k : Nat, k ≤ n ∧ i = .int .i64 k ∧ Hid ((ps.take k).all M.fine = true) ∧ wr.cell? ⟨w.heap.size, 1, none⟩ = some (.int .i64 g.A) ∧ wr.cell? ⟨w.heap.size, 2, none⟩ = some (.int .i64 g.B) ∧ wr.cell? ⟨w.heap.size, 3, none⟩ = some (.int .i64 p.A) ∧ wr.cell? ⟨w.heap.size, 4, none⟩ = some (.int .i64 p.B) ∧ Below w.heap.size w wr ∧ w.heap.size < wr.heap.size) (fun i _ => n - (intOf i).toNat)
    case atStart => exact ⟨0, by omega, rfl, hide (by simp), by (first | (go_keep; done) | (go_split_ands; (repeat' apply And.intro) <;> first | (go_keep; done) | (simp [*, zcA, zcP, zfA, zfP]; done) | (simp [zcA, zcP] <;> rfl) | (simp [*, zsS, zsO, zsA]; done) | ((first | refine (hc _ _ ?_).trans ?_ | refine (hf _ _ ?_).trans ?_) <;> first | assumption | (simp; done) | (simp; omega) | omega | (go_keep; done) | (simp [*, zcA, zcP, zfA, zfP]; done) | (simp [zcA, zcP]; rfl)) | (repeat' first | exact zbR _ _ | assumption | refine zbD ?_ | refine zbA ?_ ?_ _ | refine zbS ?_ ?_ _ | refine zbT ?_ (by assumption) ?_ | (simp; done) | (simp; omega) | omega)))⟩
    case round =>
      obtain ⟨k, hk, rfl, hno, hS0⟩ := hrel
      by_cases hlt : k < n
      · obtain ⟨q, hq⟩ : ∃ q, ps[k]? = some q := ⟨_, List.getElem?_eq_getElem (by have := HN.out; omega)⟩
        obtain ⟨b, o, hA, hbB, c0, c1⟩ := (HR.out.below (by obtain ⟨_, _, _, _, h, _⟩ := hS0; exact h)) k q hq
        subst hA
        have HQ := hide hq
        clear hq
        cases hf : M.fine q
        · have ho : M.numbered ps g p = false := by unfold M.numbered; rw [all_no HQ.out hf]; simp
          have HO := hide ho
          clear ho
          go_wp2_with (first | (go_at_call 66; refine (fine_any q _).mono ?_; rintro e w' ⟨rfl, hb⟩; obtain ⟨hc, hf⟩ := bcell hb; have hz := hb.size; (try simp at hz); have hSn : ((fun w' => wr.heap.size < w'.heap.size ∧ Below w.heap.size w w')) w' := (by (try dsimp only); (first | (go_keep; done) | (go_split_ands; (repeat' apply And.intro) <;> first | (go_keep; done) | (simp [*, zcA, zcP, zfA, zfP]; done) | (simp [zcA, zcP] <;> rfl) | (simp [*, zsS, zsO, zsA]; done) | ((first | refine (hc _ _ ?_).trans ?_ | refine (hf _ _ ?_).trans ?_) <;> first | assumption | (simp; done) | (simp; omega) | omega | (go_keep; done) | (simp [*, zcA, zcP, zfA, zfP]; done) | (simp [zcA, zcP]; rfl)) | (repeat' first | exact zbR _ _ | assumption | refine zbD ?_ | refine zbA ?_ ?_ _ | refine zbS ?_ ?_ _ | refine zbT ?_ (by assumption) ?_ | (simp; done) | (simp; omega) | omega)))); (try dsimp only at hSn); (try clear hS); have hS := hSn; clear hSn hc hf))
          go_ret
          exact ⟨by rw [HO.out]; rfl, by (go_split_ands; (repeat' first | exact zbR _ _ | assumption | refine zbD ?_ | refine zbA ?_ ?_ _ | refine zbS ?_ ?_ _ | refine zbT ?_ (by assumption) ?_ | (simp; done) | (simp; omega) | omega))⟩
        · have HT := hide (all_take hno.out HQ.out hf)
          go_wp2_with (first | (go_at_call 66; refine (fine_any q _).mono ?_; rintro e w' ⟨rfl, hb⟩; obtain ⟨hc, hf⟩ := bcell hb; have hz := hb.size; (try simp at hz); have hSn : ((fun w' => w'.cell? ⟨w.heap.size, 1, none⟩ = some (.int .i64 g.A) ∧ w'.cell? ⟨w.heap.size, 2, none⟩ = some (.int .i64 g.B) ∧ w'.cell? ⟨w.heap.size, 3, none⟩ = some (.int .i64 p.A) ∧ w'.cell? ⟨w.heap.size, 4, none⟩ = some (.int .i64 p.B) ∧ wr.heap.size < w'.heap.size ∧ Below w.heap.size w w' ∧ w.heap.size < w'.heap.size)) w' := (by (try dsimp only); (first | (go_keep; done) | (go_split_ands; (repeat' apply And.intro) <;> first | (go_keep; done) | (simp [*, zcA, zcP, zfA, zfP]; done) | (simp [zcA, zcP] <;> rfl) | (simp [*, zsS, zsO, zsA]; done) | ((first | refine (hc _ _ ?_).trans ?_ | refine (hf _ _ ?_).trans ?_) <;> first | assumption | (simp; done) | (simp; omega) | omega | (go_keep; done) | (simp [*, zcA, zcP, zfA, zfP]; done) | (simp [zcA, zcP]; rfl)) | (repeat' first | exact zbR _ _ | assumption | refine zbD ?_ | refine zbA ?_ ?_ _ | refine zbS ?_ ?_ _ | refine zbT ?_ (by assumption) ?_ | (simp; done) | (simp; omega) | omega)))); (try dsimp only at hSn); (try clear hS); have hS := hSn; clear hSn hc hf))
          go_roundw
          case rel => exact ⟨k + 1, by omega, by go_num, HT, by (first | (go_keep; done) | (go_split_ands; (repeat' apply And.intro) <;> first | (go_keep; done) | (simp [*, zcA, zcP, zfA, zfP]; done) | (simp [zcA, zcP] <;> rfl) | (simp [*, zsS, zsO, zsA]; done) | ((first | refine (hc _ _ ?_).trans ?_ | refine (hf _ _ ?_).trans ?_) <;> first | assumption | (simp; done) | (simp; omega) | omega | (go_keep; done) | (simp [*, zcA, zcP, zfA, zfP]; done) | (simp [zcA, zcP]; rfl)) | (repeat' first | exact zbR _ _ | assumption | refine zbD ?_ | refine zbA ?_ ?_ _ | refine zbS ?_ ?_ _ | refine zbT ?_ (by assumption) ?_ | (simp; done) | (simp; omega) | omega)))⟩
          case measure => simp [intOf]; omega
      · have hkn : k = n := by omega
        have hall : ps.all M.fine = true := by
          have := hno.out
          rwa [List.take_of_length_le (by have := HN.out; omega)] at this
        cases hg : M.fine g
        · have ho : M.numbered ps g p = false := by unfold M.numbered; rw [hg]; simp
          have HO := hide ho
          clear ho hall
          subst hkn
          go_wp2_with (first | (go_at_call 66; refine (fine_any g _).mono ?_; rintro e w' ⟨rfl, hb⟩; obtain ⟨hc, hf⟩ := bcell hb; have hz := hb.size; (try simp at hz); have hSn : ((fun w' => Below w.heap.size w w')) w' := (by (try dsimp only); (first | (go_keep; done) | (go_split_ands; (repeat' apply And.intro) <;> first | (go_keep; done) | (simp [*, zcA, zcP, zfA, zfP]; done) | (simp [zcA, zcP] <;> rfl) | (simp [*, zsS, zsO, zsA]; done) | ((first | refine (hc _ _ ?_).trans ?_ | refine (hf _ _ ?_).trans ?_) <;> first | assumption | (simp; done) | (simp; omega) | omega | (go_keep; done) | (simp [*, zcA, zcP, zfA, zfP]; done) | (simp [zcA, zcP]; rfl)) | (repeat' first | exact zbR _ _ | assumption | refine zbD ?_ | refine zbA ?_ ?_ _ | refine zbS ?_ ?_ _ | refine zbT ?_ (by assumption) ?_ | (simp; done) | (simp; omega) | omega)))); (try dsimp only at hSn); (try clear hS); have hS := hSn; clear hSn hc hf))
          go_ret
          exact ⟨by rw [HO.out]; rfl, by (go_split_ands; (repeat' first | exact zbR _ _ | assumption | refine zbD ?_ | refine zbA ?_ ?_ _ | refine zbS ?_ ?_ _ | refine zbT ?_ (by assumption) ?_ | (simp; done) | (simp; omega) | omega))⟩
        · have ho : M.numbered ps g p = M.fine p := by unfold M.numbered; rw [hg, hall, decide_eq_true (by have := HN.out; omega)]; simp
          have HO := hide ho
          clear ho hall
          subst hkn
          go_wp2_with (first
            | (go_at_call_of 66 (Value.agg #[Value.int .i64 g.A, Value.int .i64 g.B]); refine (fine_any g _).mono ?_; rintro e w' ⟨rfl, hb⟩; obtain ⟨hc, hf⟩ := bcell hb; have hz := hb.size; (try simp at hz); have hSn : ((fun w' => w'.cell? ⟨w.heap.size, 3, none⟩ = some (.int .i64 p.A) ∧ w'.cell? ⟨w.heap.size, 4, none⟩ = some (.int .i64 p.B) ∧ Below w.heap.size w w' ∧ w.heap.size < w'.heap.size)) w' := (by (try dsimp only); (first | (go_keep; done) | (go_split_ands; (repeat' apply And.intro) <;> first | (go_keep; done) | (simp [*, zcA, zcP, zfA, zfP]; done) | (simp [zcA, zcP] <;> rfl) | (simp [*, zsS, zsO, zsA]; done) | ((first | refine (hc _ _ ?_).trans ?_ | refine (hf _ _ ?_).trans ?_) <;> first | assumption | (simp; done) | (simp; omega) | omega | (go_keep; done) | (simp [*, zcA, zcP, zfA, zfP]; done) | (simp [zcA, zcP]; rfl)) | (repeat' first | exact zbR _ _ | assumption | refine zbD ?_ | refine zbA ?_ ?_ _ | refine zbS ?_ ?_ _ | refine zbT ?_ (by assumption) ?_ | (simp; done) | (simp; omega) | omega)))); (try dsimp only at hSn); (try clear hS); have hS := hSn; clear hSn hc hf)
            | (go_at_call_of 66 (Value.agg #[Value.int .i64 p.A, Value.int .i64 p.B]); refine (fine_any p _).mono ?_; rintro e w' ⟨rfl, hb⟩; obtain ⟨hc, hf⟩ := bcell hb; have hz := hb.size; (try simp at hz); have hSn : ((fun w' => Below w.heap.size w w')) w' := (by (try dsimp only); (first | (go_keep; done) | (go_split_ands; (repeat' apply And.intro) <;> first | (go_keep; done) | (simp [*, zcA, zcP, zfA, zfP]; done) | (simp [zcA, zcP] <;> rfl) | (simp [*, zsS, zsO, zsA]; done) | ((first | refine (hc _ _ ?_).trans ?_ | refine (hf _ _ ?_).trans ?_) <;> first | assumption | (simp; done) | (simp; omega) | omega | (go_keep; done) | (simp [*, zcA, zcP, zfA, zfP]; done) | (simp [zcA, zcP]; rfl)) | (repeat' first | exact zbR _ _ | assumption | refine zbD ?_ | refine zbA ?_ ?_ _ | refine zbS ?_ ?_ _ | refine zbT ?_ (by assumption) ?_ | (simp; done) | (simp; omega) | omega)))); (try dsimp only at hSn); (try clear hS); have hS := hSn; clear hSn hc hf))
          go_ret
          exact ⟨by rw [HO.out]; rfl, by (go_split_ands; (repeat' first | exact zbR _ _ | assumption | refine zbD ?_ | refine zbA ?_ ?_ _ | refine zbS ?_ ?_ _ | refine zbT ?_ (by assumption) ?_ | (simp; done) | (simp; omega) | omega))⟩

end Go.Proofs.Ytbjmnlhehkcakaa
