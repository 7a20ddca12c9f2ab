/-
  Contracts: gamesArise, pointsArise, numbered's function literal.
-/
import Derived.Test.YtlhbimifhclojaaWin
import Derived.Test.YtlhbimifhclojaaModel
namespace Go.Proofs.Ytlhbimifhclojaa
open Go.RowKit


set_option maxHeartbeats 1600000 in
theorem gamesArise_A (f : M.Fm) (p : M.Pr) (w : World) (hp : M.Small p) (hm : p.B ≤ p.A) (hi : M.hi p = p.A) :
    Calls Try.prog 62 #[.agg #[.int .i64 f.sets, .int .i64 f.games, .bool f.noAd, .int .i64 f.tie, .int .i64 f.to, .int .i64 f.lastTie, .int .i64 f.lastTo, .int .i64 f.first, .int .i64 f.next, .bool f.doubles], .agg #[.int .i64 p.A, .int .i64 p.B]] w fun e w' => e = .returned (.bool (M.gamesArise f p)) ∧ Below w.heap.size w w' := by
  by_cases h2 : p.A < f.games
  · by_cases h0 : 0 ≤ f.tie
    · by_cases h1 : f.tie < p.A
      · have ho : M.gamesArise f p = false := by simp [M.gamesArise, hi, h0, h1]
        rw [ho]; clear ho hi
        go_enter Try.func62, Try.ntmps62
        go_wp2_with fail
        go_ret
        exact ⟨rfl, by (repeat' first | exact Below.refl _ _ | assumption | refine Below.drew ?_ | refine Below.alloc ?_ ?_ _ | refine Below.setCell ?_ ?_ _ | refine Below.trans ?_ (Below.mono (by assumption) ?_) | (simp; done) | (simp; omega) | omega)⟩
      · have ho : M.gamesArise f p = true := by (simp [M.gamesArise, hi, h0, h1, h2] <;> omega)
        rw [ho]; clear ho hi
        go_enter Try.func62, Try.ntmps62
        go_wp2_with fail
        go_ret
        exact ⟨rfl, by (repeat' first | exact Below.refl _ _ | assumption | refine Below.drew ?_ | refine Below.alloc ?_ ?_ _ | refine Below.setCell ?_ ?_ _ | refine Below.trans ?_ (Below.mono (by assumption) ?_) | (simp; done) | (simp; omega) | omega)⟩
    · have ho : M.gamesArise f p = true := by simp [M.gamesArise, hi, h0, h2]
      rw [ho]; clear ho hi
      go_enter Try.func62, Try.ntmps62
      go_wp2_with fail
      go_ret
      exact ⟨rfl, by (repeat' first | exact Below.refl _ _ | assumption | refine Below.drew ?_ | refine Below.alloc ?_ ?_ _ | refine Below.setCell ?_ ?_ _ | refine Below.trans ?_ (Below.mono (by assumption) ?_) | (simp; done) | (simp; omega) | omega)⟩
  · cases hn : M.near p
    all_goals
      by_cases h0 : 0 ≤ f.tie
      · by_cases h1 : f.tie < p.A
        · have ho : M.gamesArise f p = false := by simp [M.gamesArise, hi, h0, h1]
          rw [ho]; clear ho hi
          go_enter Try.func62, Try.ntmps62
          go_wp2_with fail
          go_ret
          exact ⟨rfl, by (repeat' first | exact Below.refl _ _ | assumption | refine Below.drew ?_ | refine Below.alloc ?_ ?_ _ | refine Below.setCell ?_ ?_ _ | refine Below.trans ?_ (Below.mono (by assumption) ?_) | (simp; done) | (simp; omega) | omega)⟩
        · first
            | (have ho : M.gamesArise f p = false := by (simp [M.gamesArise, hi, h0, h2, hn]; done)
               rw [ho]; clear ho hi)
            | (have ho : M.gamesArise f p = true := by (simp [M.gamesArise, hi, h0, h2, hn]; omega)
               rw [ho]; clear ho hi)
          go_enter Try.func62, Try.ntmps62
          go_wp2_with (go_at_call 78; refine (near_any p _ hp).mono ?_; rintro e w' ⟨rfl, hb⟩; obtain ⟨hc, hf⟩ := bcell hb; have hz := hb.size; (try simp at hz))
          go_ret
          exact ⟨rfl, by (repeat' first | exact Below.refl _ _ | assumption | refine Below.drew ?_ | refine Below.alloc ?_ ?_ _ | refine Below.setCell ?_ ?_ _ | refine Below.trans ?_ (Below.mono (by assumption) ?_) | (simp; done) | (simp; omega) | omega)⟩
      · first
          | (have ho : M.gamesArise f p = false := by (simp [M.gamesArise, hi, h0, h2, hn]; done)
             rw [ho]; clear ho hi)
          | (have ho : M.gamesArise f p = true := by (simp [M.gamesArise, hi, h0, h2, hn]; done)
             rw [ho]; clear ho hi)
        go_enter Try.func62, Try.ntmps62
        go_wp2_with (go_at_call 78; refine (near_any p _ hp).mono ?_; rintro e w' ⟨rfl, hb⟩; obtain ⟨hc, hf⟩ := bcell hb; have hz := hb.size; (try simp at hz))
        go_ret
        exact ⟨rfl, by (repeat' first | exact Below.refl _ _ | assumption | refine Below.drew ?_ | refine Below.alloc ?_ ?_ _ | refine Below.setCell ?_ ?_ _ | refine Below.trans ?_ (Below.mono (by assumption) ?_) | (simp; done) | (simp; omega) | omega)⟩

set_option maxHeartbeats 800000 in
theorem pointsArise_A (f : M.Fm) (t : Bool) (p : M.Pr) (w : World) (hp : M.Small p) (hm : p.B ≤ p.A) (hi : M.hi p = p.A) :
    Calls Try.prog 63 #[.agg #[.int .i64 f.sets, .int .i64 f.games, .bool f.noAd, .int .i64 f.tie, .int .i64 f.to, .int .i64 f.lastTie, .int .i64 f.lastTo, .int .i64 f.first, .int .i64 f.next, .bool f.doubles], .bool t, .agg #[.int .i64 p.A, .int .i64 p.B]] w fun e w' => e = .returned (.bool (M.pointsArise f t p)) ∧ Below w.heap.size w w' := by
  cases h1 : decide (p.A < M.aimTo f t)
  · cases h2 : (M.aimLead f t == 2)
    · have ho : M.pointsArise f t p = false := by unfold M.pointsArise; rw [hi, h1, h2]; rfl
      rw [ho]; clear ho hi
      go_enter Try.func63, Try.ntmps63
      go_wp2_with (go_at_call 79; refine (aims_any f t _).mono ?_; rintro e w' ⟨rfl, hb⟩; obtain ⟨hc, hf⟩ := bcell hb; have hz := hb.size; (try simp at hz))
      go_ret
      exact ⟨rfl, by (repeat' first | exact Below.refl _ _ | assumption | refine Below.drew ?_ | refine Below.alloc ?_ ?_ _ | refine Below.setCell ?_ ?_ _ | refine Below.trans ?_ (Below.mono (by assumption) ?_) | (simp; done) | (simp; omega) | omega)⟩
    · cases h3 : M.near p
      all_goals
        first
          | (have ho : M.pointsArise f t p = false := by (unfold M.pointsArise; rw [hi, h1, h2, h3]; rfl)
             rw [ho]; clear ho hi)
          | (have ho : M.pointsArise f t p = true := by (unfold M.pointsArise; rw [hi, h1, h2, h3]; rfl)
             rw [ho]; clear ho hi)
        go_enter Try.func63, Try.ntmps63
        go_wp2_with (first | (go_at_call 79; refine (aims_any f t _).mono ?_; rintro e w' ⟨rfl, hb⟩; obtain ⟨hc, hf⟩ := bcell hb; have hz := hb.size; (try simp at hz)) | (go_at_call 78; refine (near_any p _ hp).mono ?_; rintro e w' ⟨rfl, hb⟩; obtain ⟨hc, hf⟩ := bcell hb; have hz := hb.size; (try simp at hz)))
        go_ret
        exact ⟨rfl, by (repeat' first | exact Below.refl _ _ | assumption | refine Below.drew ?_ | refine Below.alloc ?_ ?_ _ | refine Below.setCell ?_ ?_ _ | refine Below.trans ?_ (Below.mono (by assumption) ?_) | (simp; done) | (simp; omega) | omega)⟩
  · have ho : M.pointsArise f t p = true := by unfold M.pointsArise; rw [hi, h1]; rfl
    rw [ho]; clear ho hi
    go_enter Try.func63, Try.ntmps63
    go_wp2_with (go_at_call 79; refine (aims_any f t _).mono ?_; rintro e w' ⟨rfl, hb⟩; obtain ⟨hc, hf⟩ := bcell hb; have hz := hb.size; (try simp at hz))
    go_ret
    exact ⟨rfl, by (repeat' first | exact Below.refl _ _ | assumption | refine Below.drew ?_ | refine Below.alloc ?_ ?_ _ | refine Below.setCell ?_ ?_ _ | refine Below.trans ?_ (Below.mono (by assumption) ?_) | (simp; done) | (simp; omega) | omega)⟩

set_option maxHeartbeats 1600000 in
theorem gamesArise_B (f : M.Fm) (p : M.Pr) (w : World) (hp : M.Small p) (hm : p.A < p.B) (hi : M.hi p = p.B) :
    Calls Try.prog 62 #[.agg #[.int .i64 f.sets, .int .i64 f.games, .bool f.noAd, .int .i64 f.tie, .int .i64 f.to, .int .i64 f.lastTie, .int .i64 f.lastTo, .int .i64 f.first, .int .i64 f.next, .bool f.doubles], .agg #[.int .i64 p.A, .int .i64 p.B]] w fun e w' => e = .returned (.bool (M.gamesArise f p)) ∧ Below w.heap.size w w' := by
  by_cases h2 : p.B < f.games
  · by_cases h0 : 0 ≤ f.tie
    · by_cases h1 : f.tie < p.B
      · have ho : M.gamesArise f p = false := by simp [M.gamesArise, hi, h0, h1]
        rw [ho]; clear ho hi
        go_enter Try.func62, Try.ntmps62
        go_wp2_with fail
        go_ret
        exact ⟨rfl, by (repeat' first | exact Below.refl _ _ | assumption | refine Below.drew ?_ | refine Below.alloc ?_ ?_ _ | refine Below.setCell ?_ ?_ _ | refine Below.trans ?_ (Below.mono (by assumption) ?_) | (simp; done) | (simp; omega) | omega)⟩
      · have ho : M.gamesArise f p = true := by (simp [M.gamesArise, hi, h0, h1, h2] <;> omega)
        rw [ho]; clear ho hi
        go_enter Try.func62, Try.ntmps62
        go_wp2_with fail
        go_ret
        exact ⟨rfl, by (repeat' first | exact Below.refl _ _ | assumption | refine Below.drew ?_ | refine Below.alloc ?_ ?_ _ | refine Below.setCell ?_ ?_ _ | refine Below.trans ?_ (Below.mono (by assumption) ?_) | (simp; done) | (simp; omega) | omega)⟩
    · have ho : M.gamesArise f p = true := by simp [M.gamesArise, hi, h0, h2]
      rw [ho]; clear ho hi
      go_enter Try.func62, Try.ntmps62
      go_wp2_with fail
      go_ret
      exact ⟨rfl, by (repeat' first | exact Below.refl _ _ | assumption | refine Below.drew ?_ | refine Below.alloc ?_ ?_ _ | refine Below.setCell ?_ ?_ _ | refine Below.trans ?_ (Below.mono (by assumption) ?_) | (simp; done) | (simp; omega) | omega)⟩
  · cases hn : M.near p
    all_goals
      by_cases h0 : 0 ≤ f.tie
      · by_cases h1 : f.tie < p.B
        · have ho : M.gamesArise f p = false := by simp [M.gamesArise, hi, h0, h1]
          rw [ho]; clear ho hi
          go_enter Try.func62, Try.ntmps62
          go_wp2_with fail
          go_ret
          exact ⟨rfl, by (repeat' first | exact Below.refl _ _ | assumption | refine Below.drew ?_ | refine Below.alloc ?_ ?_ _ | refine Below.setCell ?_ ?_ _ | refine Below.trans ?_ (Below.mono (by assumption) ?_) | (simp; done) | (simp; omega) | omega)⟩
        · first
            | (have ho : M.gamesArise f p = false := by (simp [M.gamesArise, hi, h0, h2, hn]; done)
               rw [ho]; clear ho hi)
            | (have ho : M.gamesArise f p = true := by (simp [M.gamesArise, hi, h0, h2, hn]; omega)
               rw [ho]; clear ho hi)
          go_enter Try.func62, Try.ntmps62
          go_wp2_with (go_at_call 78; refine (near_any p _ hp).mono ?_; rintro e w' ⟨rfl, hb⟩; obtain ⟨hc, hf⟩ := bcell hb; have hz := hb.size; (try simp at hz))
          go_ret
          exact ⟨rfl, by (repeat' first | exact Below.refl _ _ | assumption | refine Below.drew ?_ | refine Below.alloc ?_ ?_ _ | refine Below.setCell ?_ ?_ _ | refine Below.trans ?_ (Below.mono (by assumption) ?_) | (simp; done) | (simp; omega) | omega)⟩
      · first
          | (have ho : M.gamesArise f p = false := by (simp [M.gamesArise, hi, h0, h2, hn]; done)
             rw [ho]; clear ho hi)
          | (have ho : M.gamesArise f p = true := by (simp [M.gamesArise, hi, h0, h2, hn]; done)
             rw [ho]; clear ho hi)
        go_enter Try.func62, Try.ntmps62
        go_wp2_with (go_at_call 78; refine (near_any p _ hp).mono ?_; rintro e w' ⟨rfl, hb⟩; obtain ⟨hc, hf⟩ := bcell hb; have hz := hb.size; (try simp at hz))
        go_ret
        exact ⟨rfl, by (repeat' first | exact Below.refl _ _ | assumption | refine Below.drew ?_ | refine Below.alloc ?_ ?_ _ | refine Below.setCell ?_ ?_ _ | refine Below.trans ?_ (Below.mono (by assumption) ?_) | (simp; done) | (simp; omega) | omega)⟩

set_option maxHeartbeats 800000 in
theorem pointsArise_B (f : M.Fm) (t : Bool) (p : M.Pr) (w : World) (hp : M.Small p) (hm : p.A < p.B) (hi : M.hi p = p.B) :
    Calls Try.prog 63 #[.agg #[.int .i64 f.sets, .int .i64 f.games, .bool f.noAd, .int .i64 f.tie, .int .i64 f.to, .int .i64 f.lastTie, .int .i64 f.lastTo, .int .i64 f.first, .int .i64 f.next, .bool f.doubles], .bool t, .agg #[.int .i64 p.A, .int .i64 p.B]] w fun e w' => e = .returned (.bool (M.pointsArise f t p)) ∧ Below w.heap.size w w' := by
  cases h1 : decide (p.B < M.aimTo f t)
  · cases h2 : (M.aimLead f t == 2)
    · have ho : M.pointsArise f t p = false := by unfold M.pointsArise; rw [hi, h1, h2]; rfl
      rw [ho]; clear ho hi
      go_enter Try.func63, Try.ntmps63
      go_wp2_with (go_at_call 79; refine (aims_any f t _).mono ?_; rintro e w' ⟨rfl, hb⟩; obtain ⟨hc, hf⟩ := bcell hb; have hz := hb.size; (try simp at hz))
      go_ret
      exact ⟨rfl, by (repeat' first | exact Below.refl _ _ | assumption | refine Below.drew ?_ | refine Below.alloc ?_ ?_ _ | refine Below.setCell ?_ ?_ _ | refine Below.trans ?_ (Below.mono (by assumption) ?_) | (simp; done) | (simp; omega) | omega)⟩
    · cases h3 : M.near p
      all_goals
        first
          | (have ho : M.pointsArise f t p = false := by (unfold M.pointsArise; rw [hi, h1, h2, h3]; rfl)
             rw [ho]; clear ho hi)
          | (have ho : M.pointsArise f t p = true := by (unfold M.pointsArise; rw [hi, h1, h2, h3]; rfl)
             rw [ho]; clear ho hi)
        go_enter Try.func63, Try.ntmps63
        go_wp2_with (first | (go_at_call 79; refine (aims_any f t _).mono ?_; rintro e w' ⟨rfl, hb⟩; obtain ⟨hc, hf⟩ := bcell hb; have hz := hb.size; (try simp at hz)) | (go_at_call 78; refine (near_any p _ hp).mono ?_; rintro e w' ⟨rfl, hb⟩; obtain ⟨hc, hf⟩ := bcell hb; have hz := hb.size; (try simp at hz)))
        go_ret
        exact ⟨rfl, by (repeat' first | exact Below.refl _ _ | assumption | refine Below.drew ?_ | refine Below.alloc ?_ ?_ _ | refine Below.setCell ?_ ?_ _ | refine Below.trans ?_ (Below.mono (by assumption) ?_) | (simp; done) | (simp; omega) | omega)⟩
  · have ho : M.pointsArise f t p = true := by unfold M.pointsArise; rw [hi, h1]; rfl
    rw [ho]; clear ho hi
    go_enter Try.func63, Try.ntmps63
    go_wp2_with (go_at_call 79; refine (aims_any f t _).mono ?_; rintro e w' ⟨rfl, hb⟩; obtain ⟨hc, hf⟩ := bcell hb; have hz := hb.size; (try simp at hz))
    go_ret
    exact ⟨rfl, by (repeat' first | exact Below.refl _ _ | assumption | refine Below.drew ?_ | refine Below.alloc ?_ ?_ _ | refine Below.setCell ?_ ?_ _ | refine Below.trans ?_ (Below.mono (by assumption) ?_) | (simp; done) | (simp; omega) | omega)⟩

theorem gamesArise_any (f : M.Fm) (p : M.Pr) (w : World) (hp : M.Small p) :
    Calls Try.prog 62 #[.agg #[.int .i64 f.sets, .int .i64 f.games, .bool f.noAd, .int .i64 f.tie, .int .i64 f.to, .int .i64 f.lastTie, .int .i64 f.lastTo, .int .i64 f.first, .int .i64 f.next, .bool f.doubles], .agg #[.int .i64 p.A, .int .i64 p.B]] w fun e w' => e = .returned (.bool (M.gamesArise f p)) ∧ Below w.heap.size w w' := by
  by_cases h : p.A < p.B
  · exact gamesArise_B f p w hp h (if_pos h)
  · exact gamesArise_A f p w hp (Int.not_lt.1 h) (if_neg h)
theorem pointsArise_any (f : M.Fm) (t : Bool) (p : M.Pr) (w : World) (hp : M.Small p) :
    Calls Try.prog 63 #[.agg #[.int .i64 f.sets, .int .i64 f.games, .bool f.noAd, .int .i64 f.tie, .int .i64 f.to, .int .i64 f.lastTie, .int .i64 f.lastTo, .int .i64 f.first, .int .i64 f.next, .bool f.doubles], .bool t, .agg #[.int .i64 p.A, .int .i64 p.B]] w fun e w' => e = .returned (.bool (M.pointsArise f t p)) ∧ Below w.heap.size w w' := by
  by_cases h : p.A < p.B
  · exact pointsArise_B f t p w hp h (if_pos h)
  · exact pointsArise_A f t p w hp (Int.not_lt.1 h) (if_neg h)

set_option maxHeartbeats 800000 in
theorem fine_any (p : M.Pr) (w : World) :
    Calls Try.prog 61 #[.agg #[.int .i64 p.A, .int .i64 p.B]] w fun e w' => e = .returned (.bool (M.fine p)) ∧ Below w.heap.size w w' := by
  by_cases hm : p.A < p.B
  all_goals
    by_cases h0 : 0 ≤ p.A
    all_goals
      by_cases h1 : p.A ≤ 40
      all_goals
        by_cases h2 : 0 ≤ p.B
        all_goals
          by_cases h3 : p.B ≤ 40
          all_goals
            first
              | (exfalso; omega)
              | (first
                  | (have ho : M.fine p = true := by (simp [M.fine, h0, h1, h2, h3]; done)
                     rw [ho]; clear ho)
                  | (have ho : M.fine p = false := by (simp [M.fine, h0, h1, h2, h3]; done)
                     rw [ho]; clear ho)
                 go_enter Try.func61, Try.ntmps61
                 go_wp2
                 all_goals go_ret
                 all_goals exact ⟨rfl, by (repeat' first | exact Below.refl _ _ | assumption | refine Below.drew ?_ | refine Below.alloc ?_ ?_ _ | refine Below.setCell ?_ ?_ _ | refine Below.trans ?_ (Below.mono (by assumption) ?_) | (simp; done) | (simp; omega) | omega)⟩)

end Go.Proofs.Ytlhbimifhclojaa
