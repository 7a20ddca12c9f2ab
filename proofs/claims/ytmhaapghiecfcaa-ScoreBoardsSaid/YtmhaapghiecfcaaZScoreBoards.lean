/-
  For every format, board and side the law ScoreBoards returns true and leaves its arguments as they were. No condition.
-/
import Derived.Test.YtmhaapghiecfcaaZB02
import Derived.Test.YtmhaapghiecfcaaZB04
import Derived.Test.YtmhaapghiecfcaaZB06
import Derived.Test.YtmhaapghiecfcaaZB09
import Derived.Test.YtmhaapghiecfcaaZB11
namespace Go.Proofs.Ytmhaapghiecfcaa
open Go.RowKit
attribute [local go_sem ↓] Go.wp_at_zero Go.wp_at_succ

theorem numbered_v (A : Option Addr) (n c : Nat) (ps : List M.Pr) (g p : M.Pr) (w : World) (v : Bool) (hn : ps.length = n) (hr : RdP w w.heap.size A ps) (hm : n ≤ 1000000) (hv : M.numbered ps g p = v) :
    Calls Try.prog 41 #[.agg #[.slice A n c, .int .i64 g.A, .int .i64 g.B, .int .i64 p.A, .int .i64 p.B]] w fun e w' => e = .returned (.bool v) ∧ Below w.heap.size w w' := by
  subst hv
  exact numbered_any A n c ps g p w hn hr hm
set_option maxHeartbeats 6400000 in
set_option maxRecDepth 100000 in
theorem Arises_any (f : M.Fm) (A : Option Addr) (n c : Nat) (ps : List M.Pr) (g p : M.Pr) (w : World) (hn : ps.length = n) (hr : RdP w w.heap.size A ps) (hm : n ≤ 1000000) :
    Calls Try.prog 18 #[.agg #[.int .i64 f.sets, .int .i64 f.games, .bool f.noAd, .int .i64 f.tie, .int .i64 f.to, .int .i64 f.lastTie, .int .i64 f.lastTo, .int .i64 f.first, .int .i64 f.next, .bool f.doubles], .agg #[.slice A n c, .int .i64 g.A, .int .i64 g.B, .int .i64 p.A, .int .i64 p.B]] w fun e w' => e = .returned (.tuple #[.bool (M.arisesB f ps g p), .int .i64 (M.arisesE f ps g p)]) ∧ Below w.heap.size w w' := by
  have HN := hide hn
  have HR := hide hr
  clear hn hr
  cases hv : M.validB f
  · have h1 : M.arisesB f ps g p = false := by unfold M.arisesB; rw [hv]; rfl
    have h2 : M.arisesE f ps g p = 10 := by unfold M.arisesE; rw [hv]; rfl
    rw [h1, h2]; clear h1 h2
    go_enter Try.func18, Try.ntmps18
    go_wp2_with (go_at_call 11; with_reducible refine (Check_bad f _ hv).mono ?_; rintro e w1 ⟨rfl, hb⟩; obtain ⟨hc, hf⟩ := bcell hb; have hz := hb.size; (try simp at hz); have hSn : ((fun w' => Below w.heap.size w w' ∧ w.heap.size < w'.heap.size ∧ w.heap.size + 1 < w'.heap.size ∧ w'.cell? ⟨w.heap.size + 1, 0, none⟩ = some (.slice A n c) ∧ w'.cell? ⟨w.heap.size + 1, 1, none⟩ = some (.int .i64 g.A) ∧ w'.cell? ⟨w.heap.size + 1, 2, none⟩ = some (.int .i64 g.B) ∧ w'.cell? ⟨w.heap.size + 1, 3, none⟩ = some (.int .i64 p.A) ∧ w'.cell? ⟨w.heap.size + 1, 4, none⟩ = some (.int .i64 p.B) ∧ w'.cell? ⟨w.heap.size, 0, none⟩ = some (.int .i64 f.sets) ∧ w'.cell? ⟨w.heap.size, 1, none⟩ = some (.int .i64 f.games) ∧ w'.cell? ⟨w.heap.size, 2, none⟩ = some (.bool f.noAd) ∧ w'.cell? ⟨w.heap.size, 3, none⟩ = some (.int .i64 f.tie) ∧ w'.cell? ⟨w.heap.size, 4, none⟩ = some (.int .i64 f.to) ∧ w'.cell? ⟨w.heap.size, 5, none⟩ = some (.int .i64 f.lastTie) ∧ w'.cell? ⟨w.heap.size, 6, none⟩ = some (.int .i64 f.lastTo) ∧ w'.cell? ⟨w.heap.size, 7, none⟩ = some (.int .i64 f.first) ∧ w'.cell? ⟨w.heap.size, 8, none⟩ = some (.int .i64 f.next) ∧ w'.cell? ⟨w.heap.size, 9, none⟩ = some (.bool f.doubles))) w1 := (by (try dsimp only); (exact kp)); (try dsimp only at hSn); (try clear hS); have hS := hSn; clear hSn hc hf)
    go_ret2
    exact ⟨rfl, by (go_split_ands; (exact kb))⟩
  · cases hnu : M.numbered ps g p
    · have h1 : M.arisesB f ps g p = false := by unfold M.arisesB; rw [hv, hnu]; rfl
      have h2 : M.arisesE f ps g p = 12 := by unfold M.arisesE; rw [hv, hnu]; rfl
      rw [h1, h2]; clear h1 h2
      go_enter Try.func18, Try.ntmps18
      go_wp2_with (first | (go_at_call 11; with_reducible refine (Check_good f _ hv).mono ?_; rintro e w1 ⟨rfl, hb⟩; obtain ⟨hc, hf⟩ := bcell hb; have hz := hb.size; (try simp at hz); have hSn : ((fun w' => Below w.heap.size w w' ∧ w.heap.size < w'.heap.size ∧ w.heap.size + 1 < w'.heap.size ∧ w'.cell? ⟨w.heap.size + 1, 0, none⟩ = some (.slice A n c) ∧ w'.cell? ⟨w.heap.size + 1, 1, none⟩ = some (.int .i64 g.A) ∧ w'.cell? ⟨w.heap.size + 1, 2, none⟩ = some (.int .i64 g.B) ∧ w'.cell? ⟨w.heap.size + 1, 3, none⟩ = some (.int .i64 p.A) ∧ w'.cell? ⟨w.heap.size + 1, 4, none⟩ = some (.int .i64 p.B) ∧ w'.cell? ⟨w.heap.size, 0, none⟩ = some (.int .i64 f.sets) ∧ w'.cell? ⟨w.heap.size, 1, none⟩ = some (.int .i64 f.games) ∧ w'.cell? ⟨w.heap.size, 2, none⟩ = some (.bool f.noAd) ∧ w'.cell? ⟨w.heap.size, 3, none⟩ = some (.int .i64 f.tie) ∧ w'.cell? ⟨w.heap.size, 4, none⟩ = some (.int .i64 f.to) ∧ w'.cell? ⟨w.heap.size, 5, none⟩ = some (.int .i64 f.lastTie) ∧ w'.cell? ⟨w.heap.size, 6, none⟩ = some (.int .i64 f.lastTo) ∧ w'.cell? ⟨w.heap.size, 7, none⟩ = some (.int .i64 f.first) ∧ w'.cell? ⟨w.heap.size, 8, none⟩ = some (.int .i64 f.next) ∧ w'.cell? ⟨w.heap.size, 9, none⟩ = some (.bool f.doubles))) w1 := (by (try dsimp only); (exact kp)); (try dsimp only at hSn); (try clear hS); have hS := hSn; clear hSn hc hf) | (go_at_call 41; with_reducible refine (numbered_v A n c ps g p _ false HN.out ((HR.out.below (by exact hS.1)).mono (Nat.le_of_lt (by exact hS.2.1))) hm hnu).mono ?_; rintro e w2 ⟨rfl, hb⟩; obtain ⟨hc, hf⟩ := bcell hb; have hz := hb.size; (try simp at hz); have hSn : ((fun w' => Below w.heap.size w w' ∧ w.heap.size < w'.heap.size ∧ w.heap.size + 1 < w'.heap.size ∧ w'.cell? ⟨w.heap.size + 1, 0, none⟩ = some (.slice A n c) ∧ w'.cell? ⟨w.heap.size + 1, 1, none⟩ = some (.int .i64 g.A) ∧ w'.cell? ⟨w.heap.size + 1, 2, none⟩ = some (.int .i64 g.B) ∧ w'.cell? ⟨w.heap.size + 1, 3, none⟩ = some (.int .i64 p.A) ∧ w'.cell? ⟨w.heap.size + 1, 4, none⟩ = some (.int .i64 p.B) ∧ w'.cell? ⟨w.heap.size, 0, none⟩ = some (.int .i64 f.sets) ∧ w'.cell? ⟨w.heap.size, 1, none⟩ = some (.int .i64 f.games) ∧ w'.cell? ⟨w.heap.size, 2, none⟩ = some (.bool f.noAd) ∧ w'.cell? ⟨w.heap.size, 3, none⟩ = some (.int .i64 f.tie) ∧ w'.cell? ⟨w.heap.size, 4, none⟩ = some (.int .i64 f.to) ∧ w'.cell? ⟨w.heap.size, 5, none⟩ = some (.int .i64 f.lastTie) ∧ w'.cell? ⟨w.heap.size, 6, none⟩ = some (.int .i64 f.lastTo) ∧ w'.cell? ⟨w.heap.size, 7, none⟩ = some (.int .i64 f.first) ∧ w'.cell? ⟨w.heap.size, 8, none⟩ = some (.int .i64 f.next) ∧ w'.cell? ⟨w.heap.size, 9, none⟩ = some (.bool f.doubles))) w2 := (by (try dsimp only); (exact kp)); (try dsimp only at hSn); (try clear hS); have hS := hSn; clear hSn hc hf))
      go_ret2
      exact ⟨rfl, by (go_split_ands; (exact kb))⟩
    · have h1 : M.arisesB f ps g p = M.standB f ps g p := by unfold M.arisesB; rw [hv, hnu]; rfl
      have h2 : M.arisesE f ps g p = 0 := by unfold M.arisesE; rw [hv, hnu]; rfl
      rw [h1, h2]; clear h1 h2
      obtain ⟨h5, hpa, hgf, hpf⟩ := M.numbered_parts hnu
      rw [HN.out] at h5
      have HPA := hide hpa
      have HGF := hide hgf
      have HPF := hide hpf
      have HVV := hide ((M.validB_iff f).1 hv)
      clear hpa hgf hpf
      obtain ⟨r, hres⟩ : ∃ q, M.standB f ps g p = q := ⟨_, rfl⟩
      have HRES := hide hres
      rw [hres]
      clear hres
      go_enter Try.func18, Try.ntmps18
      go_wp2_with (first | (go_at_call 11; with_reducible refine (Check_good f _ hv).mono ?_; rintro e w1 ⟨rfl, hb⟩; obtain ⟨hc, hf⟩ := bcell hb; have hz := hb.size; (try simp at hz); have hSn : ((fun w' => Below w.heap.size w w' ∧ w.heap.size < w'.heap.size ∧ w.heap.size + 1 < w'.heap.size ∧ w'.cell? ⟨w.heap.size + 1, 0, none⟩ = some (.slice A n c) ∧ w'.cell? ⟨w.heap.size + 1, 1, none⟩ = some (.int .i64 g.A) ∧ w'.cell? ⟨w.heap.size + 1, 2, none⟩ = some (.int .i64 g.B) ∧ w'.cell? ⟨w.heap.size + 1, 3, none⟩ = some (.int .i64 p.A) ∧ w'.cell? ⟨w.heap.size + 1, 4, none⟩ = some (.int .i64 p.B) ∧ w'.cell? ⟨w.heap.size, 0, none⟩ = some (.int .i64 f.sets) ∧ w'.cell? ⟨w.heap.size, 1, none⟩ = some (.int .i64 f.games) ∧ w'.cell? ⟨w.heap.size, 2, none⟩ = some (.bool f.noAd) ∧ w'.cell? ⟨w.heap.size, 3, none⟩ = some (.int .i64 f.tie) ∧ w'.cell? ⟨w.heap.size, 4, none⟩ = some (.int .i64 f.to) ∧ w'.cell? ⟨w.heap.size, 5, none⟩ = some (.int .i64 f.lastTie) ∧ w'.cell? ⟨w.heap.size, 6, none⟩ = some (.int .i64 f.lastTo) ∧ w'.cell? ⟨w.heap.size, 7, none⟩ = some (.int .i64 f.first) ∧ w'.cell? ⟨w.heap.size, 8, none⟩ = some (.int .i64 f.next) ∧ w'.cell? ⟨w.heap.size, 9, none⟩ = some (.bool f.doubles))) w1 := (by (try dsimp only); (exact kp)); (try dsimp only at hSn); (try clear hS); have hS := hSn; clear hSn hc hf) | (go_at_call 41; with_reducible refine (numbered_v A n c ps g p _ true HN.out ((HR.out.below (by exact hS.1)).mono (Nat.le_of_lt (by exact hS.2.1))) hm hnu).mono ?_; rintro e w2 ⟨rfl, hb⟩; obtain ⟨hc, hf⟩ := bcell hb; have hz := hb.size; (try simp at hz); have hSn : ((fun w' => Below w.heap.size w w' ∧ w.heap.size < w'.heap.size ∧ w.heap.size + 1 < w'.heap.size ∧ w'.cell? ⟨w.heap.size + 1, 0, none⟩ = some (.slice A n c) ∧ w'.cell? ⟨w.heap.size + 1, 1, none⟩ = some (.int .i64 g.A) ∧ w'.cell? ⟨w.heap.size + 1, 2, none⟩ = some (.int .i64 g.B) ∧ w'.cell? ⟨w.heap.size + 1, 3, none⟩ = some (.int .i64 p.A) ∧ w'.cell? ⟨w.heap.size + 1, 4, none⟩ = some (.int .i64 p.B) ∧ w'.cell? ⟨w.heap.size, 0, none⟩ = some (.int .i64 f.sets) ∧ w'.cell? ⟨w.heap.size, 1, none⟩ = some (.int .i64 f.games) ∧ w'.cell? ⟨w.heap.size, 2, none⟩ = some (.bool f.noAd) ∧ w'.cell? ⟨w.heap.size, 3, none⟩ = some (.int .i64 f.tie) ∧ w'.cell? ⟨w.heap.size, 4, none⟩ = some (.int .i64 f.to) ∧ w'.cell? ⟨w.heap.size, 5, none⟩ = some (.int .i64 f.lastTie) ∧ w'.cell? ⟨w.heap.size, 6, none⟩ = some (.int .i64 f.lastTo) ∧ w'.cell? ⟨w.heap.size, 7, none⟩ = some (.int .i64 f.first) ∧ w'.cell? ⟨w.heap.size, 8, none⟩ = some (.int .i64 f.next) ∧ w'.cell? ⟨w.heap.size, 9, none⟩ = some (.bool f.doubles))) w2 := (by (try dsimp only); (exact kp)); (try dsimp only at hSn); (try clear hS); have hS := hSn; clear hSn hc hf) | (go_at_call 42; with_reducible refine (standing_any f A n c ps g p _ HVV.out HN.out ((HR.out.below (by exact hS.1)).mono (Nat.le_of_lt (by exact hS.2.1))) (by omega) HPA.out HGF.out HPF.out).mono ?_; rw [HRES.out]; rintro e w3 ⟨rfl, hb⟩; obtain ⟨hc, hf⟩ := bcell hb; have hz := hb.size; (try simp at hz); have hSn : ((fun w' => Below w.heap.size w w' ∧ w.heap.size < w'.heap.size ∧ w.heap.size + 1 < w'.heap.size ∧ w'.cell? ⟨w.heap.size + 1, 0, none⟩ = some (.slice A n c) ∧ w'.cell? ⟨w.heap.size + 1, 1, none⟩ = some (.int .i64 g.A) ∧ w'.cell? ⟨w.heap.size + 1, 2, none⟩ = some (.int .i64 g.B) ∧ w'.cell? ⟨w.heap.size + 1, 3, none⟩ = some (.int .i64 p.A) ∧ w'.cell? ⟨w.heap.size + 1, 4, none⟩ = some (.int .i64 p.B) ∧ w'.cell? ⟨w.heap.size, 0, none⟩ = some (.int .i64 f.sets) ∧ w'.cell? ⟨w.heap.size, 1, none⟩ = some (.int .i64 f.games) ∧ w'.cell? ⟨w.heap.size, 2, none⟩ = some (.bool f.noAd) ∧ w'.cell? ⟨w.heap.size, 3, none⟩ = some (.int .i64 f.tie) ∧ w'.cell? ⟨w.heap.size, 4, none⟩ = some (.int .i64 f.to) ∧ w'.cell? ⟨w.heap.size, 5, none⟩ = some (.int .i64 f.lastTie) ∧ w'.cell? ⟨w.heap.size, 6, none⟩ = some (.int .i64 f.lastTo) ∧ w'.cell? ⟨w.heap.size, 7, none⟩ = some (.int .i64 f.first) ∧ w'.cell? ⟨w.heap.size, 8, none⟩ = some (.int .i64 f.next) ∧ w'.cell? ⟨w.heap.size, 9, none⟩ = some (.bool f.doubles))) w3 := (by (try dsimp only); (exact kp)); (try dsimp only at hSn); (try clear hS); have hS := hSn; clear hSn hc hf))
      go_ret2
      exact ⟨rfl, by (go_split_ands; (exact kb))⟩

end Go.Proofs.Ytmhaapghiecfcaa

namespace Go.Proofs.Ytmhaapghiecfcaa
open Go.RowKit
attribute [local go_sem ↓] Go.wp_at_zero Go.wp_at_succ

theorem cap_w' {M : World → Prop} (W : World) (h : ∀ W', W' = W → M W') : M W := h W rfl
set_option maxHeartbeats 6400000 in
set_option maxRecDepth 100000 in
theorem boardsLaw_any (f : M.Fm) (A : Option Addr) (n c : Nat) (ps : List M.Pr) (g p : M.Pr) (side : Int) (w : World) (hn : ps.length = n) (hr : RdP w w.heap.size A ps) (hA : A = none → c = 0) (hnc : n ≤ c) (hcm : c ≤ maxLen)
    (hL : ∀ W : World, RdP W W.heap.size A ps → n ≤ 40 → Calls Try.prog 21 #[.agg #[.int .i64 f.sets, .int .i64 f.games, .bool f.noAd, .int .i64 f.tie, .int .i64 f.to, .int .i64 f.lastTie, .int .i64 f.lastTo, .int .i64 f.first, .int .i64 f.next, .bool f.doubles], .agg #[.slice A n c, .int .i64 g.A, .int .i64 g.B, .int .i64 p.A, .int .i64 p.B], .int .i64 side] W fun e w' => e = .returned (.tuple #[.int .i64 (M.leastV f ps g p side), .int .i64 (M.leastE f ps g p side)]) ∧ Below W.heap.size W w') :
    Calls Try.prog 4 #[.agg #[.int .i64 f.sets, .int .i64 f.games, .bool f.noAd, .int .i64 f.tie, .int .i64 f.to, .int .i64 f.lastTie, .int .i64 f.lastTo, .int .i64 f.first, .int .i64 f.next, .bool f.doubles], .agg #[.slice A n c, .int .i64 g.A, .int .i64 g.B, .int .i64 p.A, .int .i64 p.B], .int .i64 side] w fun e w' => e = .returned (.bool true) ∧ Below w.heap.size w w' := by
  have HN := hide hn
  have HR := hide hr
  have HCAP := hide hA
  have HL := hide hL
  clear hn hr hA hL
  go_enter Try.func4, Try.ntmps4
  by_cases h40 : (40 : Int) < (n : Int)
  · go_wp2_with (first | (go_at_call 10; refine (works_any _).mono ?_; rintro e w9 ⟨rfl, hb9⟩))
    go_ret
    exact ⟨rfl, by (exact kb)⟩
  · have hm : n ≤ 40 := by omega
    obtain ⟨ab, hab⟩ : ∃ q, M.arisesB f ps g p = q := ⟨_, rfl⟩
    obtain ⟨ae, hae⟩ : ∃ q, M.arisesE f ps g p = q := ⟨_, rfl⟩
    obtain ⟨lv, hlv⟩ : ∃ q, M.leastV f ps g p side = q := ⟨_, rfl⟩
    obtain ⟨le, hle⟩ : ∃ q, M.leastE f ps g p side = q := ⟨_, rfl⟩
    have HAB := hide hab
    have HAE := hide hae
    have HLV := hide hlv
    have HLE := hide hle
    have HSB := hide (show M.sameB ps ps g g p p = true by unfold M.sameB; simp)
    clear hab hae hlv hle
    go_upto_region 4 with fail
    refine cap_w' (M := Code.wp _ _ _ _) _ (fun w3 hw3 => ?_)
    have HSZ := hide (show w3.heap.size = w.heap.size + 1 + 1 + 1 by rw [hw3]; simp only [World.size_alloc])
    have HB3 := hide (show Below w.heap.size w w3 by rw [hw3]; (exact kb))
    have HF3 := hide (show w3.heap[w.heap.size]? = some (.cells #[.int .i64 f.sets, .int .i64 f.games, .bool f.noAd, .int .i64 f.tie, .int .i64 f.to, .int .i64 f.lastTie, .int .i64 f.lastTo, .int .i64 f.first, .int .i64 f.next, .bool f.doubles] 23 (0, 0)) by rw [hw3]; exact (heap_alloc_old _ _ (by simp only [World.size_alloc]; omega)).trans ((heap_alloc_old _ _ (by simp only [World.size_alloc]; omega)).trans (heap_alloc_new _ _)))
    have HX3 := hide (show w3.heap[w.heap.size + 1]? = some (.cells #[.slice A n c, .int .i64 g.A, .int .i64 g.B, .int .i64 p.A, .int .i64 p.B] 34 (0, 0)) by rw [hw3]; exact (heap_alloc_old _ _ (by simp only [World.size_alloc]; omega)).trans (two_new _ _ _))
    have HO3 := hide (show w3.heap[w.heap.size + 1 + 1]? = some (.cells #[.slice A n c, .int .i64 g.A, .int .i64 g.B, .int .i64 p.A, .int .i64 p.B] 34 (0, 0)) by
      rw [hw3]
      have h := heap_alloc_new ((w.alloc (.cells #[.int .i64 f.sets, .int .i64 f.games, .bool f.noAd, .int .i64 f.tie, .int .i64 f.to, .int .i64 f.lastTie, .int .i64 f.lastTo, .int .i64 f.first, .int .i64 f.next, .bool f.doubles] 23)).alloc (.cells #[.slice A n c, .int .i64 g.A, .int .i64 g.B, .int .i64 p.A, .int .i64 p.B] 34)) (.cells #[.slice A n c, .int .i64 g.A, .int .i64 g.B, .int .i64 p.A, .int .i64 p.B] 34)
      rwa [World.size_alloc, World.size_alloc] at h)
    clear hw3
    have hx0 : w3.cell? ⟨w.heap.size + 1, 0, none⟩ = some (.slice A n c) := (blk_cell HX3.out 0).trans rfl
    have ho0 : w3.cell? ⟨w.heap.size + 1 + 1, 0, none⟩ = some (.slice A n c) := (blk_cell HO3.out 0).trans rfl
    have ho1 := blk_frozen HO3.out 0
    have hlx := blk_lt HX3.out
    have hlo := blk_lt HO3.out
    go_upto_region 5 with (at_builtin; refine wpList_app_Ps rfl (.tmp 22) (.tmp 24) rfl w3.heap.size (.slice (some ⟨w3.heap.size, 0, none⟩) 0 0) [] 0 rfl (owns_empty (heap_alloc_new _ _) (Nat.le_refl _)) rfl A n c ps rfl HN.out (((HR.out.below HB3.out).mono HB3.out.size |>.below (zbA (zbR _ _) (Nat.le_refl _) _)).mono (by simp only [World.size_alloc]; omega)) HCAP.out (by omega) (by omega) (by simp only [World.size_alloc]; omega) n (by omega) ?_; intro A7 c7 w4 hown hgrow; have HO4 := hide hown; have HB4 := hide ((zbA (zbR w3.heap.size w3) (Nat.le_refl _) _).trans (grown_below (B := w3.heap.size) hgrow (by simp only [World.size_alloc]; omega) (fun g hg => by have h1 : w3.heap.size = g := Option.some.inj hg; omega))); clear hown hgrow; have hy0 := (HB4.out.cell (p := ⟨w.heap.size + 1 + 1, 0, none⟩) (show w.heap.size + 1 + 1 < w3.heap.size by have := HSZ.out; omega)).trans ho0; have hy1 := blk_frozen ((HB4.out.block (w.heap.size + 1 + 1) (by have := HSZ.out; omega)).trans HO3.out) 0; have hy2 : w.heap.size + 1 + 1 < w4.heap.size := Nat.lt_of_lt_of_le (show w.heap.size + 1 + 1 < w3.heap.size by have := HSZ.out; omega) HB4.out.size)
    refine cap_w' (M := Code.wp _ _ _ _) _ (fun w5 hw5 => ?_)
    have h5f : w5 = w4.setCell ⟨w.heap.size + 1 + 1, 0, none⟩ (.slice A7 n c7) := hw5
    have HB5 := hide (show Below w.heap.size w w5 by rw [h5f]; exact zbS (zbT HB3.out HB4.out HB3.out.size) (show w.heap.size ≤ w.heap.size + 1 + 1 by omega) _)
    have HF5 := hide (show w5.heap[w.heap.size]? = some (.cells #[.int .i64 f.sets, .int .i64 f.games, .bool f.noAd, .int .i64 f.tie, .int .i64 f.to, .int .i64 f.lastTie, .int .i64 f.lastTo, .int .i64 f.first, .int .i64 f.next, .bool f.doubles] 23 (0, 0)) by rw [h5f]; exact (Below.heap_setCell _ ⟨w.heap.size + 1 + 1, 0, none⟩ _ w.heap.size (show w.heap.size ≠ w.heap.size + 1 + 1 by omega)).trans ((HB4.out.block _ (blk_lt HF3.out)).trans HF3.out))
    have HX5 := hide (show w5.heap[w.heap.size + 1]? = some (.cells #[.slice A n c, .int .i64 g.A, .int .i64 g.B, .int .i64 p.A, .int .i64 p.B] 34 (0, 0)) by rw [h5f]; exact (Below.heap_setCell _ ⟨w.heap.size + 1 + 1, 0, none⟩ _ (w.heap.size + 1) (show w.heap.size + 1 ≠ w.heap.size + 1 + 1 by omega)).trans ((HB4.out.block _ (blk_lt HX3.out)).trans HX3.out))
    have HO5 := hide (show w5.heap[w.heap.size + 1 + 1]? = some (.cells #[.slice A7 n c7, .int .i64 g.A, .int .i64 g.B, .int .i64 p.A, .int .i64 p.B] 34 (0, 0)) by rw [h5f]; exact (blk_setC ((HB4.out.block _ (blk_lt HO3.out)).trans HO3.out) 0 _).trans rfl)
    have HR7 := hide (owns_RdP (show w5.ownsRow w3.heap.size 32 2 (.slice A7 n c7) n (flatP ps) by
      rw [h5f]
      exact HO4.out.kept (gr_set w4 (w.heap.size + 1 + 1) 0 (.slice A7 n c7)) (.inr (fun e => by have := (HO4.out.lt _ e).1; have := HSZ.out; omega))) HN.out)
    have HR5 := hide ((HR.out.below HB5.out).mono HB5.out.size)
    clear hw5 h5f hlx hlo hx0 ho0 ho1 hy0 hy1 hy2 HF3 HX3 HO3 HO4 HB3 HB4 HSZ
    have hS : (fun w' => Below w5.heap.size w5 w' ∧ w.heap.size < w'.heap.size ∧ w.heap.size + 1 < w'.heap.size ∧ w.heap.size + 1 + 1 < w'.heap.size ∧ w'.cell? ⟨w.heap.size, 0, none⟩ = some (.int .i64 f.sets) ∧ w'.cell? ⟨w.heap.size, 1, none⟩ = some (.int .i64 f.games) ∧ w'.cell? ⟨w.heap.size, 2, none⟩ = some (.bool f.noAd) ∧ w'.cell? ⟨w.heap.size, 3, none⟩ = some (.int .i64 f.tie) ∧ w'.cell? ⟨w.heap.size, 4, none⟩ = some (.int .i64 f.to) ∧ w'.cell? ⟨w.heap.size, 5, none⟩ = some (.int .i64 f.lastTie) ∧ w'.cell? ⟨w.heap.size, 6, none⟩ = some (.int .i64 f.lastTo) ∧ w'.cell? ⟨w.heap.size, 7, none⟩ = some (.int .i64 f.first) ∧ w'.cell? ⟨w.heap.size, 8, none⟩ = some (.int .i64 f.next) ∧ w'.cell? ⟨w.heap.size, 9, none⟩ = some (.bool f.doubles) ∧ w'.cell? ⟨w.heap.size + 1, 0, none⟩ = some (.slice A n c) ∧ w'.cell? ⟨w.heap.size + 1, 1, none⟩ = some (.int .i64 g.A) ∧ w'.cell? ⟨w.heap.size + 1, 2, none⟩ = some (.int .i64 g.B) ∧ w'.cell? ⟨w.heap.size + 1, 3, none⟩ = some (.int .i64 p.A) ∧ w'.cell? ⟨w.heap.size + 1, 4, none⟩ = some (.int .i64 p.B) ∧ w'.cell? ⟨w.heap.size + 1 + 1, 0, none⟩ = some (.slice A7 n c7) ∧ w'.cell? ⟨w.heap.size + 1 + 1, 1, none⟩ = some (.int .i64 g.A) ∧ w'.cell? ⟨w.heap.size + 1 + 1, 2, none⟩ = some (.int .i64 g.B) ∧ w'.cell? ⟨w.heap.size + 1 + 1, 3, none⟩ = some (.int .i64 p.A) ∧ w'.cell? ⟨w.heap.size + 1 + 1, 4, none⟩ = some (.int .i64 p.B)) w5 := ⟨zbR _ _, blk_lt HF5.out, blk_lt HX5.out, blk_lt HO5.out, (blk_cell HF5.out 0).trans rfl, (blk_cell HF5.out 1).trans rfl, (blk_cell HF5.out 2).trans rfl, (blk_cell HF5.out 3).trans rfl, (blk_cell HF5.out 4).trans rfl, (blk_cell HF5.out 5).trans rfl, (blk_cell HF5.out 6).trans rfl, (blk_cell HF5.out 7).trans rfl, (blk_cell HF5.out 8).trans rfl, (blk_cell HF5.out 9).trans rfl, (blk_cell HX5.out 0).trans rfl, (blk_cell HX5.out 1).trans rfl, (blk_cell HX5.out 2).trans rfl, (blk_cell HX5.out 3).trans rfl, (blk_cell HX5.out 4).trans rfl, (blk_cell HO5.out 0).trans rfl, (blk_cell HO5.out 1).trans rfl, (blk_cell HO5.out 2).trans rfl, (blk_cell HO5.out 3).trans rfl, (blk_cell HO5.out 4).trans rfl⟩
    (try dsimp only at hS)
    go_wp2_with (first | (go_at_call 18; refine (Arises_any f A7 n c7 ps g p _ HN.out ((HR7.out.below (by exact hS.1)).mono (by exact hS.1.size)) (by omega)).mono ?_; rw [HAB.out, HAE.out]; rintro e w6 ⟨rfl, hb⟩; obtain ⟨hc, hf⟩ := bcell hb; have hz := hb.size; (try simp at hz); have hSn : ((fun w' => Below w5.heap.size w5 w' ∧ w.heap.size < w'.heap.size ∧ w.heap.size + 1 < w'.heap.size ∧ w.heap.size + 1 + 1 < w'.heap.size ∧ w'.cell? ⟨w.heap.size, 0, none⟩ = some (.int .i64 f.sets) ∧ w'.cell? ⟨w.heap.size, 1, none⟩ = some (.int .i64 f.games) ∧ w'.cell? ⟨w.heap.size, 2, none⟩ = some (.bool f.noAd) ∧ w'.cell? ⟨w.heap.size, 3, none⟩ = some (.int .i64 f.tie) ∧ w'.cell? ⟨w.heap.size, 4, none⟩ = some (.int .i64 f.to) ∧ w'.cell? ⟨w.heap.size, 5, none⟩ = some (.int .i64 f.lastTie) ∧ w'.cell? ⟨w.heap.size, 6, none⟩ = some (.int .i64 f.lastTo) ∧ w'.cell? ⟨w.heap.size, 7, none⟩ = some (.int .i64 f.first) ∧ w'.cell? ⟨w.heap.size, 8, none⟩ = some (.int .i64 f.next) ∧ w'.cell? ⟨w.heap.size, 9, none⟩ = some (.bool f.doubles) ∧ w'.cell? ⟨w.heap.size + 1, 0, none⟩ = some (.slice A n c) ∧ w'.cell? ⟨w.heap.size + 1, 1, none⟩ = some (.int .i64 g.A) ∧ w'.cell? ⟨w.heap.size + 1, 2, none⟩ = some (.int .i64 g.B) ∧ w'.cell? ⟨w.heap.size + 1, 3, none⟩ = some (.int .i64 p.A) ∧ w'.cell? ⟨w.heap.size + 1, 4, none⟩ = some (.int .i64 p.B) ∧ w'.cell? ⟨w.heap.size + 1 + 1, 0, none⟩ = some (.slice A7 n c7) ∧ w'.cell? ⟨w.heap.size + 1 + 1, 1, none⟩ = some (.int .i64 g.A) ∧ w'.cell? ⟨w.heap.size + 1 + 1, 2, none⟩ = some (.int .i64 g.B) ∧ w'.cell? ⟨w.heap.size + 1 + 1, 3, none⟩ = some (.int .i64 p.A) ∧ w'.cell? ⟨w.heap.size + 1 + 1, 4, none⟩ = some (.int .i64 p.B))) w6 := (by (try dsimp only); (exact kp)); (try dsimp only at hSn); (try clear hS); have hS := hSn; clear hSn hc hf) | (go_at_call 19; refine (refArises_any f A n c ps g p _ HN.out ((HR5.out.below (by exact hS.1)).mono (by exact hS.1.size)) HCAP.out hm hnc hcm).mono ?_; rw [HAB.out, HAE.out]; rintro e w7 ⟨rfl, hb⟩; obtain ⟨hc, hf⟩ := bcell hb; have hz := hb.size; (try simp at hz); have hSn : ((fun w' => Below w5.heap.size w5 w' ∧ w.heap.size < w'.heap.size ∧ w.heap.size + 1 < w'.heap.size ∧ w.heap.size + 1 + 1 < w'.heap.size ∧ w'.cell? ⟨w.heap.size, 0, none⟩ = some (.int .i64 f.sets) ∧ w'.cell? ⟨w.heap.size, 1, none⟩ = some (.int .i64 f.games) ∧ w'.cell? ⟨w.heap.size, 2, none⟩ = some (.bool f.noAd) ∧ w'.cell? ⟨w.heap.size, 3, none⟩ = some (.int .i64 f.tie) ∧ w'.cell? ⟨w.heap.size, 4, none⟩ = some (.int .i64 f.to) ∧ w'.cell? ⟨w.heap.size, 5, none⟩ = some (.int .i64 f.lastTie) ∧ w'.cell? ⟨w.heap.size, 6, none⟩ = some (.int .i64 f.lastTo) ∧ w'.cell? ⟨w.heap.size, 7, none⟩ = some (.int .i64 f.first) ∧ w'.cell? ⟨w.heap.size, 8, none⟩ = some (.int .i64 f.next) ∧ w'.cell? ⟨w.heap.size, 9, none⟩ = some (.bool f.doubles) ∧ w'.cell? ⟨w.heap.size + 1, 0, none⟩ = some (.slice A n c) ∧ w'.cell? ⟨w.heap.size + 1, 1, none⟩ = some (.int .i64 g.A) ∧ w'.cell? ⟨w.heap.size + 1, 2, none⟩ = some (.int .i64 g.B) ∧ w'.cell? ⟨w.heap.size + 1, 3, none⟩ = some (.int .i64 p.A) ∧ w'.cell? ⟨w.heap.size + 1, 4, none⟩ = some (.int .i64 p.B) ∧ w'.cell? ⟨w.heap.size + 1 + 1, 0, none⟩ = some (.slice A7 n c7) ∧ w'.cell? ⟨w.heap.size + 1 + 1, 1, none⟩ = some (.int .i64 g.A) ∧ w'.cell? ⟨w.heap.size + 1 + 1, 2, none⟩ = some (.int .i64 g.B) ∧ w'.cell? ⟨w.heap.size + 1 + 1, 3, none⟩ = some (.int .i64 p.A) ∧ w'.cell? ⟨w.heap.size + 1 + 1, 4, none⟩ = some (.int .i64 p.B))) w7 := (by (try dsimp only); (exact kp)); (try dsimp only at hSn); (try clear hS); have hS := hSn; clear hSn hc hf) | (go_at_call 20; refine (Least_any f A7 n c7 ps g p side _ HN.out ((HR7.out.below (by exact hS.1)).mono (by exact hS.1.size)) (by omega)).mono ?_; rw [HLV.out, HLE.out]; rintro e w8 ⟨rfl, hb⟩; obtain ⟨hc, hf⟩ := bcell hb; have hz := hb.size; (try simp at hz); have hSn : ((fun w' => Below w5.heap.size w5 w' ∧ w.heap.size < w'.heap.size ∧ w.heap.size + 1 < w'.heap.size ∧ w.heap.size + 1 + 1 < w'.heap.size ∧ w'.cell? ⟨w.heap.size, 0, none⟩ = some (.int .i64 f.sets) ∧ w'.cell? ⟨w.heap.size, 1, none⟩ = some (.int .i64 f.games) ∧ w'.cell? ⟨w.heap.size, 2, none⟩ = some (.bool f.noAd) ∧ w'.cell? ⟨w.heap.size, 3, none⟩ = some (.int .i64 f.tie) ∧ w'.cell? ⟨w.heap.size, 4, none⟩ = some (.int .i64 f.to) ∧ w'.cell? ⟨w.heap.size, 5, none⟩ = some (.int .i64 f.lastTie) ∧ w'.cell? ⟨w.heap.size, 6, none⟩ = some (.int .i64 f.lastTo) ∧ w'.cell? ⟨w.heap.size, 7, none⟩ = some (.int .i64 f.first) ∧ w'.cell? ⟨w.heap.size, 8, none⟩ = some (.int .i64 f.next) ∧ w'.cell? ⟨w.heap.size, 9, none⟩ = some (.bool f.doubles) ∧ w'.cell? ⟨w.heap.size + 1, 0, none⟩ = some (.slice A n c) ∧ w'.cell? ⟨w.heap.size + 1, 1, none⟩ = some (.int .i64 g.A) ∧ w'.cell? ⟨w.heap.size + 1, 2, none⟩ = some (.int .i64 g.B) ∧ w'.cell? ⟨w.heap.size + 1, 3, none⟩ = some (.int .i64 p.A) ∧ w'.cell? ⟨w.heap.size + 1, 4, none⟩ = some (.int .i64 p.B) ∧ w'.cell? ⟨w.heap.size + 1 + 1, 0, none⟩ = some (.slice A7 n c7) ∧ w'.cell? ⟨w.heap.size + 1 + 1, 1, none⟩ = some (.int .i64 g.A) ∧ w'.cell? ⟨w.heap.size + 1 + 1, 2, none⟩ = some (.int .i64 g.B) ∧ w'.cell? ⟨w.heap.size + 1 + 1, 3, none⟩ = some (.int .i64 p.A) ∧ w'.cell? ⟨w.heap.size + 1 + 1, 4, none⟩ = some (.int .i64 p.B))) w8 := (by (try dsimp only); (exact kp)); (try dsimp only at hSn); (try clear hS); have hS := hSn; clear hSn hc hf) | (go_at_call 21; refine (HL.out _ ((HR5.out.below (by exact hS.1)).mono (by exact hS.1.size)) hm).mono ?_; rw [HLV.out, HLE.out]; rintro e w9 ⟨rfl, hb⟩; obtain ⟨hc, hf⟩ := bcell hb; have hz := hb.size; (try simp at hz); have hSn : ((fun w' => Below w5.heap.size w5 w' ∧ w.heap.size < w'.heap.size ∧ w.heap.size + 1 < w'.heap.size ∧ w.heap.size + 1 + 1 < w'.heap.size ∧ w'.cell? ⟨w.heap.size, 0, none⟩ = some (.int .i64 f.sets) ∧ w'.cell? ⟨w.heap.size, 1, none⟩ = some (.int .i64 f.games) ∧ w'.cell? ⟨w.heap.size, 2, none⟩ = some (.bool f.noAd) ∧ w'.cell? ⟨w.heap.size, 3, none⟩ = some (.int .i64 f.tie) ∧ w'.cell? ⟨w.heap.size, 4, none⟩ = some (.int .i64 f.to) ∧ w'.cell? ⟨w.heap.size, 5, none⟩ = some (.int .i64 f.lastTie) ∧ w'.cell? ⟨w.heap.size, 6, none⟩ = some (.int .i64 f.lastTo) ∧ w'.cell? ⟨w.heap.size, 7, none⟩ = some (.int .i64 f.first) ∧ w'.cell? ⟨w.heap.size, 8, none⟩ = some (.int .i64 f.next) ∧ w'.cell? ⟨w.heap.size, 9, none⟩ = some (.bool f.doubles) ∧ w'.cell? ⟨w.heap.size + 1, 0, none⟩ = some (.slice A n c) ∧ w'.cell? ⟨w.heap.size + 1, 1, none⟩ = some (.int .i64 g.A) ∧ w'.cell? ⟨w.heap.size + 1, 2, none⟩ = some (.int .i64 g.B) ∧ w'.cell? ⟨w.heap.size + 1, 3, none⟩ = some (.int .i64 p.A) ∧ w'.cell? ⟨w.heap.size + 1, 4, none⟩ = some (.int .i64 p.B) ∧ w'.cell? ⟨w.heap.size + 1 + 1, 0, none⟩ = some (.slice A7 n c7) ∧ w'.cell? ⟨w.heap.size + 1 + 1, 1, none⟩ = some (.int .i64 g.A) ∧ w'.cell? ⟨w.heap.size + 1 + 1, 2, none⟩ = some (.int .i64 g.B) ∧ w'.cell? ⟨w.heap.size + 1 + 1, 3, none⟩ = some (.int .i64 p.A) ∧ w'.cell? ⟨w.heap.size + 1 + 1, 4, none⟩ = some (.int .i64 p.B))) w9 := (by (try dsimp only); (exact kp)); (try dsimp only at hSn); (try clear hS); have hS := hSn; clear hSn hc hf) | (go_at_call 22; refine (sameBoard_any A7 A n n c7 c ps ps g g p p _ HN.out HN.out ((HR7.out.below (by exact hS.1)).mono (by exact hS.1.size)) ((HR5.out.below (by exact hS.1)).mono (by exact hS.1.size)) (by omega) (by omega)).mono ?_; rw [HSB.out]; rintro e w10 ⟨rfl, hb⟩; obtain ⟨hc, hf⟩ := bcell hb; have hz := hb.size; (try simp at hz); have hSn : ((fun w' => Below w5.heap.size w5 w' ∧ w.heap.size < w'.heap.size ∧ w.heap.size + 1 < w'.heap.size ∧ w.heap.size + 1 + 1 < w'.heap.size ∧ w'.cell? ⟨w.heap.size, 0, none⟩ = some (.int .i64 f.sets) ∧ w'.cell? ⟨w.heap.size, 1, none⟩ = some (.int .i64 f.games) ∧ w'.cell? ⟨w.heap.size, 2, none⟩ = some (.bool f.noAd) ∧ w'.cell? ⟨w.heap.size, 3, none⟩ = some (.int .i64 f.tie) ∧ w'.cell? ⟨w.heap.size, 4, none⟩ = some (.int .i64 f.to) ∧ w'.cell? ⟨w.heap.size, 5, none⟩ = some (.int .i64 f.lastTie) ∧ w'.cell? ⟨w.heap.size, 6, none⟩ = some (.int .i64 f.lastTo) ∧ w'.cell? ⟨w.heap.size, 7, none⟩ = some (.int .i64 f.first) ∧ w'.cell? ⟨w.heap.size, 8, none⟩ = some (.int .i64 f.next) ∧ w'.cell? ⟨w.heap.size, 9, none⟩ = some (.bool f.doubles) ∧ w'.cell? ⟨w.heap.size + 1, 0, none⟩ = some (.slice A n c) ∧ w'.cell? ⟨w.heap.size + 1, 1, none⟩ = some (.int .i64 g.A) ∧ w'.cell? ⟨w.heap.size + 1, 2, none⟩ = some (.int .i64 g.B) ∧ w'.cell? ⟨w.heap.size + 1, 3, none⟩ = some (.int .i64 p.A) ∧ w'.cell? ⟨w.heap.size + 1, 4, none⟩ = some (.int .i64 p.B) ∧ w'.cell? ⟨w.heap.size + 1 + 1, 0, none⟩ = some (.slice A7 n c7) ∧ w'.cell? ⟨w.heap.size + 1 + 1, 1, none⟩ = some (.int .i64 g.A) ∧ w'.cell? ⟨w.heap.size + 1 + 1, 2, none⟩ = some (.int .i64 g.B) ∧ w'.cell? ⟨w.heap.size + 1 + 1, 3, none⟩ = some (.int .i64 p.A) ∧ w'.cell? ⟨w.heap.size + 1 + 1, 4, none⟩ = some (.int .i64 p.B))) w10 := (by (try dsimp only); (exact kp)); (try dsimp only at hSn); (try clear hS); have hS := hSn; clear hSn hc hf) | (go_at_call 10; refine (works_any _).mono ?_; rintro e w11 ⟨rfl, hb⟩; obtain ⟨hc, hf⟩ := bcell hb; have hz := hb.size; (try simp at hz); have hSn : ((fun w' => Below w5.heap.size w5 w' ∧ w.heap.size < w'.heap.size ∧ w.heap.size + 1 < w'.heap.size ∧ w.heap.size + 1 + 1 < w'.heap.size ∧ w'.cell? ⟨w.heap.size, 0, none⟩ = some (.int .i64 f.sets) ∧ w'.cell? ⟨w.heap.size, 1, none⟩ = some (.int .i64 f.games) ∧ w'.cell? ⟨w.heap.size, 2, none⟩ = some (.bool f.noAd) ∧ w'.cell? ⟨w.heap.size, 3, none⟩ = some (.int .i64 f.tie) ∧ w'.cell? ⟨w.heap.size, 4, none⟩ = some (.int .i64 f.to) ∧ w'.cell? ⟨w.heap.size, 5, none⟩ = some (.int .i64 f.lastTie) ∧ w'.cell? ⟨w.heap.size, 6, none⟩ = some (.int .i64 f.lastTo) ∧ w'.cell? ⟨w.heap.size, 7, none⟩ = some (.int .i64 f.first) ∧ w'.cell? ⟨w.heap.size, 8, none⟩ = some (.int .i64 f.next) ∧ w'.cell? ⟨w.heap.size, 9, none⟩ = some (.bool f.doubles) ∧ w'.cell? ⟨w.heap.size + 1, 0, none⟩ = some (.slice A n c) ∧ w'.cell? ⟨w.heap.size + 1, 1, none⟩ = some (.int .i64 g.A) ∧ w'.cell? ⟨w.heap.size + 1, 2, none⟩ = some (.int .i64 g.B) ∧ w'.cell? ⟨w.heap.size + 1, 3, none⟩ = some (.int .i64 p.A) ∧ w'.cell? ⟨w.heap.size + 1, 4, none⟩ = some (.int .i64 p.B) ∧ w'.cell? ⟨w.heap.size + 1 + 1, 0, none⟩ = some (.slice A7 n c7) ∧ w'.cell? ⟨w.heap.size + 1 + 1, 1, none⟩ = some (.int .i64 g.A) ∧ w'.cell? ⟨w.heap.size + 1 + 1, 2, none⟩ = some (.int .i64 g.B) ∧ w'.cell? ⟨w.heap.size + 1 + 1, 3, none⟩ = some (.int .i64 p.A) ∧ w'.cell? ⟨w.heap.size + 1 + 1, 4, none⟩ = some (.int .i64 p.B))) w11 := (by (try dsimp only); (exact kp)); (try dsimp only at hSn); (try clear hS); have hS := hSn; clear hSn hc hf))
    go_ret
    exact ⟨rfl, HB5.out.trans ((by exact hS.1 : Below w5.heap.size w5 _).mono HB5.out.size)⟩

end Go.Proofs.Ytmhaapghiecfcaa

namespace Go.Proofs.Ytmhaapghiecfcaa
open Go.ChangeShapes Go.WideShapes Go.ChangeAt Go.RowKit Go.Deep Go.Joins

theorem boardCells : Try.prog.cellsOf 34 = 5 := by kernel_rfl
theorem pairsCells : Try.prog.cellsOf 30 = 1 := by kernel_rfl
section
variable {H : Type} {enc : TypeId × Value → H} {w : World} {base : Nat} {held : Bool}
set_option maxRecDepth 100000 in
theorem open_pairsC {v : Value} {x : DataW H × List MemPlace} {fuel : Nat} (hf : DataW.trod enc Try.prog w base (fun _ => true) held fuel 30 [v] = some x) :
    ∃ (A : Option Addr) (n c : Nat) (ps : List M.Pr), v = .slice A n c ∧ n ≤ c ∧ c ≤ maxLen ∧ ps.length = n ∧ RdP w w.heap.size A ps ∧ (A = none → c = 0) := by
  rcases Go.Deep.open_slice Try.underlying30 hf with ⟨hcs, _⟩ | ⟨a, len, cap, m, n, D, Pl, hcs, _, hle, hmax, hm, _, hi⟩
  · simp at hcs
    subst hcs
    exact ⟨none, 0, 0, [], rfl, Nat.le_refl _, Nat.zero_le _, rfl, RdP.nil _ _ _, fun _ => rfl⟩
  · simp at hcs
    subst hcs
    simp only [if_true] at hm
    have each : ∀ i, i < len → ∃ q : M.Pr, w.cell? (a.add (i * 2)) = some (.int .i64 q.A) ∧ w.cell? ((a.add (i * 2)).add 1) = some (.int .i64 q.B) := by
      intro i hil
      obtain ⟨cs', hc, ht⟩ := hi i (by omega)
      rw [pairCells] at hc
      obtain ⟨_, hcl, hat⟩ := World.cells?_some hc
      obtain ⟨_, hff⟩ := trod_fields Try.underlying32 pairOne ht
      match cs', hcl with
      | [c0', c1'], _ =>
        obtain ⟨_, _, _, e0, g0⟩ := hff 0 _ rfl
        obtain ⟨_, _, _, e1, g1⟩ := hff 1 _ rfl
        obtain ⟨n0', k0, _, _⟩ := DataW.trod_int Try.underlying3 g0
        obtain ⟨n1', k1, _, _⟩ := DataW.trod_int Try.underlying3 g1
        simp only [List.getElem?_cons_zero, List.getElem?_cons_succ, Option.some.injEq] at e0 e1
        simp only [List.cons.injEq, and_true] at k0 k1
        rw [← e0] at k0
        rw [← e1] at k1
        subst k0 k1
        have aa0 := hat 0 (by omega)
        have aa1 := hat 1 (by omega)
        exact ⟨⟨n0', n1'⟩, aa0, aa1⟩
    refine ⟨some a, len, cap, (List.range len).map (fun i => if h : i < len then (each i h).choose else ⟨0, 0⟩), rfl, hle, hmax, by simp, ?_, fun h => by cases h⟩
    intro k q hk
    have hkn : k < len := by
      rcases Nat.lt_or_ge k len with hl | hl
      · exact hl
      · rw [List.getElem?_eq_none (by simp; omega)] at hk; cases hk
    have hq : (each k hkn).choose = q := by
      rw [List.getElem?_map, List.getElem?_range hkn] at hk
      simpa [hkn] using hk
    have hc := (each k hkn).choose_spec
    rw [hq] at hc
    obtain ⟨_, h00, _⟩ := each 0 (by omega)
    obtain ⟨b, o, rfl, hb'⟩ := spot_first (by rw [Nat.zero_mul] at h00; exact h00)
    rw [add_plain, add_plain] at hc
    exact ⟨b, o, rfl, hb', hc.1, hc.2⟩

set_option maxRecDepth 100000 in
theorem open_pairC {cs : List Value} {x : DataW H × List MemPlace} {fuel : Nat} (hf : DataW.trod enc Try.prog w base (fun _ => true) held fuel 32 cs = some x) : ∃ b : M.Pr, cs = [.int .i64 b.A, .int .i64 b.B] := by
  obtain ⟨hl, hf⟩ := trod_fields Try.underlying32 pairOne hf
  match cs, hl with
  | [c0, c1], _ =>
    obtain ⟨_, _, _, e0, h0⟩ := hf 0 _ rfl
    obtain ⟨_, _, _, e1, h1⟩ := hf 1 _ rfl
    obtain ⟨n0, k0, _, w0⟩ := DataW.trod_int Try.underlying3 h0
    obtain ⟨n1, k1, _, w1⟩ := DataW.trod_int Try.underlying3 h1
    refine ⟨⟨n0, n1⟩, ?_⟩
    simp only [List.getElem?_cons_zero, List.getElem?_cons_succ, Option.some.injEq] at e0 e1
    simp only [List.cons.injEq, and_true] at k0 k1
    rw [e0, e1, k0, k1]
set_option maxRecDepth 100000 in
theorem open_boardC {cs : List Value} {x : DataW H × List MemPlace} {fuel : Nat} (hf : DataW.trod enc Try.prog w base (fun _ => true) held fuel 34 cs = some x) :
    ∃ (A : Option Addr) (n c : Nat) (ps : List M.Pr) (g p : M.Pr), cs = [.slice A n c, .int .i64 g.A, .int .i64 g.B, .int .i64 p.A, .int .i64 p.B] ∧ n ≤ c ∧ c ≤ maxLen ∧ ps.length = n ∧ RdP w w.heap.size A ps ∧ (A = none → c = 0) := by
  obtain ⟨xs, n, _, _, hcl, hlen, hg⟩ := DataW.trod_struct Try.underlying34 hf
  rw [boardCells] at hcl
  match cs, hcl with
  | [c0, c1, c2, c3, c4], _ =>
    have look : ∀ j, j < xs.length → ∃ y, xs[j]? = some y := fun j hj => ⟨_, List.getElem?_eq_getElem hj⟩
    have hx3 : xs.length = 3 := hlen
    obtain ⟨y0, hy0⟩ := look 0 (by omega)
    obtain ⟨y1, hy1⟩ := look 1 (by omega)
    obtain ⟨y2, hy2⟩ := look 2 (by omega)
    have g0 : DataW.trod enc Try.prog w base (fun _ => true) held n 30 (List.take (Try.prog.cellsOf 30) (List.drop 0 [c0, c1, c2, c3, c4])) = some y0 := (hg 0 _ rfl).trans hy0
    have g1 : DataW.trod enc Try.prog w base (fun _ => true) held n 32 (List.take (Try.prog.cellsOf 32) (List.drop 1 [c0, c1, c2, c3, c4])) = some y1 := (hg 1 _ rfl).trans hy1
    have g2 : DataW.trod enc Try.prog w base (fun _ => true) held n 32 (List.take (Try.prog.cellsOf 32) (List.drop 3 [c0, c1, c2, c3, c4])) = some y2 := (hg 2 _ rfl).trans hy2
    rw [pairsCells] at g0
    rw [pairCells] at g1 g2
    simp only [List.drop_succ_cons, List.drop_zero, List.take_succ_cons, List.take_zero] at g0 g1 g2
    obtain ⟨A, m, c, ps, k0, h1, h2, h3, h4, h5⟩ := open_pairsC g0
    obtain ⟨g, k1⟩ := open_pairC g1
    obtain ⟨p, k2⟩ := open_pairC g2
    simp only [List.cons.injEq, and_true] at k1 k2
    obtain ⟨k10, k11⟩ := k1
    obtain ⟨k20, k21⟩ := k2
    subst k0 k10 k11 k20 k21
    exact ⟨A, m, c, ps, g, p, rfl, h1, h2, h3, h4, h5⟩
set_option maxRecDepth 100000 in
theorem open_board {r : Reach} {b0 : Nat} {v : Value} {d : DataW H} {p : List MemPlace} (hv : Value.okWide Try.prog w r b0 34 v) (h : DataW.Trod enc Try.prog w base (fun _ => true) held 34 v d p) :
    ∃ (A : Option Addr) (n c : Nat) (ps : List M.Pr) (g p : M.Pr), v = .agg #[.slice A n c, .int .i64 g.A, .int .i64 g.B, .int .i64 p.A, .int .i64 p.B] ∧ n ≤ c ∧ c ≤ maxLen ∧ ps.length = n ∧ RdP w w.heap.size A ps ∧ (A = none → c = 0) := by
  obtain ⟨cs, rfl, hsz⟩ := okWide_struct Try.underlying34 hv
  obtain ⟨l⟩ := cs
  obtain ⟨fuel, hf⟩ := h
  have hcells : (Value.agg ⟨l⟩).cells.toList = l := by simp [Value.cells]
  rw [hcells] at hf
  obtain ⟨A, n, c, ps, g, p, rfl, h⟩ := open_boardC hf
  exact ⟨A, n, c, ps, g, p, rfl, h⟩
end
set_option maxRecDepth 100000 in
theorem boardsRow_call (hRL : ∀ (f : M.Fm) (A : Option Addr) (n c : Nat) (ps : List M.Pr) (g p : M.Pr) (side : Int) (w : World), ps.length = n → RdP w w.heap.size A ps → (A = none → c = 0) → n ≤ 40 → n ≤ c → c ≤ maxLen → Calls Try.prog 21 #[.agg #[.int .i64 f.sets, .int .i64 f.games, .bool f.noAd, .int .i64 f.tie, .int .i64 f.to, .int .i64 f.lastTie, .int .i64 f.lastTo, .int .i64 f.first, .int .i64 f.next, .bool f.doubles], .agg #[.slice A n c, .int .i64 g.A, .int .i64 g.B, .int .i64 p.A, .int .i64 p.B], .int .i64 side] w fun e w' => e = .returned (.tuple #[.int .i64 (M.leastV f ps g p side), .int .i64 (M.leastE f ps g p side)]) ∧ Below w.heap.size w w')
    (H : Type) (enc : TypeId × Value → H) (W : World) (base : Nat) (args : Array Value) (ds : List (DataW H)) (p : List MemPlace) (hval : ∀ (j : Nat) t v, Try.f4.params[j]? = some t → args[j]? = some v → Value.okWide Try.prog W .any base t v)
    (hA : DataW.TrodAll enc Try.prog W 0 (fun _ => true) true Try.f4.params.toList args.toList ds p) : Calls Try.prog 4 args W fun e w' => e = .returned (.bool true) ∧ Below W.heap.size W w' := by
  rw [Try.params4] at hA hval
  obtain ⟨v0, v1, v2, d0, d1, d2, p0, p1, p2, rfl, rfl, rfl, h0, h1, h2⟩ := trodAll_three hA
  obtain ⟨f, rfl⟩ := open_fmt (hval 0 23 v0 rfl rfl) h0
  obtain ⟨A, n, c, ps, g, q, rfl, hnc, hcm, hn, hr, hnil⟩ := open_board (hval 1 34 v1 rfl rfl) h1
  obtain ⟨side, rfl, _, _, _⟩ := open_int Try.underlying3 (hval 2 3 v2 rfl rfl) h2
  exact boardsLaw_any f A n c ps g q side W hn hr hnil hnc hcm (fun W' hr' hm => hRL f A n c ps g q side W' hn hr' hnil hm hnc hcm)

end Go.Proofs.Ytmhaapghiecfcaa

namespace Go.Proofs.Ytmhaapghiecfcaa
open Go.ChangeShapes Go.WideShapes Go.ChangeAt Go.RowKit Go.Deep Go.Joins

theorem refLeast_any (f : M.Fm) (A : Option Addr) (n c : Nat) (ps : List M.Pr) (g p : M.Pr) (side : Int) (w : World) (hn : ps.length = n) (hr : RdP w w.heap.size A ps) (hA : A = none → c = 0) (hm : n ≤ 40) (hnc : n ≤ c) (hcm : c ≤ maxLen) :
    Calls Try.prog 21 #[.agg #[.int .i64 f.sets, .int .i64 f.games, .bool f.noAd, .int .i64 f.tie, .int .i64 f.to, .int .i64 f.lastTie, .int .i64 f.lastTo, .int .i64 f.first, .int .i64 f.next, .bool f.doubles], .agg #[.slice A n c, .int .i64 g.A, .int .i64 g.B, .int .i64 p.A, .int .i64 p.B], .int .i64 side] w fun e w' => e = .returned (.tuple #[.int .i64 (M.leastV f ps g p side), .int .i64 (M.leastE f ps g p side)]) ∧ Below w.heap.size w w' := by
  by_cases h0 : M.swE f ps g p = 0
  · cases hsd : M.within side 0 1
    · exact refLeast_err f A n c ps g p side w hn hr hA hm hnc hcm (.inr hsd)
    · exact refLeast_ok f A n c ps g p side w hn hr hA hm hnc hcm h0 hsd
  · exact refLeast_err f A n c ps g p side w hn hr hA hm hnc hcm (.inl h0)

theorem Try.ownBoards : ownKnob Try.prog.godebug = none := by kernel_rfl

set_option maxRecDepth 100000 in
theorem ScoreBoards_holds : Rows.ScoreBoardsSaid :=
  OpenClaim.holds_of_wide (p := Try.pinned) (s := Rows.scoreBoardsSpec) (c := Rows.scoreBoardsRow) 4 Try.f4 rfl rfl rfl rfl rfl rfl rfl ⟨rfl, rfl, rfl, rfl, rfl⟩ rfl rfl rfl rfl rfl (by kernel_rfl) Try.func4 (by kernel_rfl)
    (of_decide_eq_true (by kernel_rfl)) (by unfold Func.isWrapper; first | (rw [if_pos (by decide +kernel)]; kernel_rfl) | (rw [if_neg (by decide +kernel)]; exact ⟨rfl, rfl⟩))
    (fun os started H enc _ => law_lift (C := Try.checked) (F := 4) (fn := Try.f4) (s := Rows.scoreBoardsSpec) (bt := 4) started Try.ownBoards (by kernel_rfl) Try.func4 (by kernel_rfl) Try.underlying4 rfl laidOut (of_decide_eq_true (by kernel_rfl))
      (fun ds hds => match ds, hds with | [_, _, _], _ => rfl)
      (ChangeSpec.witness6 (enc := enc) (C := Try.checked) false ⟨#[], #[.agg #[.int .i64 0, .int .i64 0, .bool false, .int .i64 0, .int .i64 0, .int .i64 0, .int .i64 0, .int .i64 0, .int .i64 0, .bool false], .agg #[.slice none 0 0, .int .i64 0, .int .i64 0, .int .i64 0, .int .i64 0], .int .i64 0], []⟩ 8 (by kernel_rfl) (by kernel_rfl) (by kernel_rfl) (by kernel_rfl))
      (fun W base args ds p hval hA _ => boardsRow_call refLeast_any H enc W base args ds p hval hA) _ _ _)

end Go.Proofs.Ytmhaapghiecfcaa
