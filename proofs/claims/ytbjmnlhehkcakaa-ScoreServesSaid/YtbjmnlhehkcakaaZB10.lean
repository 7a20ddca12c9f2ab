/-
  Part of a claim's texts: contracts of the program's functions and the plain functions that they compute, in build order.
-/
import Derived.Test.YtbjmnlhehkcakaaZB01
import Derived.Test.YtbjmnlhehkcakaaZB04
import Derived.Test.YtbjmnlhehkcakaaZB09
namespace Go.Proofs.Ytbjmnlhehkcakaa
open Go.RowKit
attribute [local go_sem ↓] Go.wp_at_zero Go.wp_at_succ

theorem run_any (f : M.Fm) (p : M.Pr) (s : Int) (w : World) (hv : M.Valid f) (hp0 : -1000 ≤ p.A ∧ -1000 ≤ p.B) (hp2 : p.A ≤ 1000 ∧ p.B ≤ 1000) (hs0 : 0 ≤ s) (hs1 : s ≤ 1) :
    Calls Try.prog 76 #[.agg #[.int .i64 f.sets, .int .i64 f.games, .bool f.noAd, .int .i64 f.tie, .int .i64 f.to, .int .i64 f.lastTie, .int .i64 f.lastTo, .int .i64 f.first, .int .i64 f.next, .bool f.doubles], .agg #[.int .i64 p.A, .int .i64 p.B], .int .i64 s] w fun e w' => e = .returned (.tuple #[.int .i64 (M.run f s p).1, .int .i64 (M.run f s p).2]) ∧ Below w.heap.size w w' :=
  runF_any f p s _ w hv hp0 hp2 hs0 hs1 (Nat.le_trans (M.fuel_le hv hp0 hp2) (by omega)) (M.enough_fuel f s p)

def LfgAt (f : M.Fm) (s : Int) (n : Nat) : Prop :=
  ∀ (p g : M.Pr) (w : World), -1000 ≤ g.A ∧ -1000 ≤ g.B → g.A ≤ 1000 ∧ g.B ≤ 1000 → 0 ≤ p.A ∧ 0 ≤ p.B → p.A ≤ f.sets ∧ p.B ≤ f.sets → p.A + p.B ≤ 2 * f.sets - 1 → 2 * f.sets ≤ n + p.A + p.B →
    Calls Try.prog 61 #[.agg #[.int .i64 f.sets, .int .i64 f.games, .bool f.noAd, .int .i64 f.tie, .int .i64 f.to, .int .i64 f.lastTie, .int .i64 f.lastTo, .int .i64 f.first, .int .i64 f.next, .bool f.doubles], .agg #[.int .i64 p.A, .int .i64 p.B], .agg #[.int .i64 g.A, .int .i64 g.B], .int .i64 s] w fun e w' => e = .returned (.int .i64 (M.lfg f s n p g)) ∧ Below w.heap.size w w'

set_option maxHeartbeats 4000000 in
theorem lfg_step (f : M.Fm) (s : Int) (n : Nat) (hv : M.Valid f) (hs0 : 0 ≤ s) (hs1 : s ≤ 1) (ih : LfgAt f s n) : LfgAt f s (n + 1) := by
  intro p g w hg0 hg2 hp0 hp2 hsum hn
  have HV := hide hv
  have HG0 := hide hg0
  have HG2 := hide hg2
  have HP0 := hide hp0
  have HP2 := hide hp2
  have HS := hide hsum
  have HN := hide hn
  have v0 := hv.s0
  have v1 := hv.s1
  clear hv hg0 hg2 hp0 hp2 hsum hn
  cases hw : (M.winner f p == s)
  · cases hx : (M.winner f p == 1 - s)
    · have ho : M.lfg f s (n + 1) p g = M.bestOf (fun t => (M.run (M.ofSet f p) t g).2 + M.lfg f s n (M.plus p t) M.zero) 2 := by
        conv => lhs; unfold M.lfg
        rw [if_neg (by simpa using hw), if_neg (by simpa using hx)]
      have hwin : p.A < f.sets ∧ p.B < f.sets := by
        have a := HP2.out
        have b := HP0.out
        have hw' : M.winner f p ≠ s := by simpa using hw
        have hx' : M.winner f p ≠ 1 - s := by simpa using hx
        unfold M.winner at hw' hx'
        by_cases e1 : p.A = f.sets
        · rw [if_pos e1] at hw' hx'; omega
        · by_cases e2 : p.B = f.sets
          · rw [if_neg e1, if_pos e2] at hw' hx'; omega
          · omega
      obtain ⟨cost, hcost⟩ : ∃ cost : Nat → Int, cost = fun t : Nat => (M.run (M.ofSet f p) t g).2 + M.lfg f s n (M.plus p t) M.zero := ⟨_, rfl⟩
      rw [← hcost] at ho
      have HO := hide ho
      have HC : Hid (∀ t : Nat, cost t = (M.run (M.ofSet f p) t g).2 + M.lfg f s n (M.plus p t) M.zero) := hide (fun t => by rw [hcost])
      have HW := hide hwin
      clear ho hcost hwin
      go_enter Try.func61, Try.ntmps61
      go_wp2_with (first | (go_at_call 46; refine (winner_any f p _).mono ?_; rintro e w1 ⟨rfl, hb⟩; obtain ⟨hc, hf⟩ := bcell hb; have hz := hb.size; (try simp at hz); have hSn : ((fun w' => Below w.heap.size w w' ∧ w.heap.size < w'.heap.size ∧ w.heap.size + 1 < w'.heap.size ∧ w.heap.size + 1 + 1 < w'.heap.size ∧ w'.cell? ⟨w.heap.size + 1, 0, none⟩ = some (.int .i64 p.A) ∧ w'.cell? ⟨w.heap.size + 1, 1, none⟩ = some (.int .i64 p.B) ∧ w'.cell? ⟨w.heap.size + 1 + 1, 0, none⟩ = some (.int .i64 g.A) ∧ w'.cell? ⟨w.heap.size + 1 + 1, 1, none⟩ = some (.int .i64 g.B) ∧ w'.cell? ⟨w.heap.size, 0, none⟩ = some (.int .i64 f.sets) ∧ w'.cell? ⟨w.heap.size, 1, none⟩ = some (.int .i64 f.games) ∧ w'.cell? ⟨w.heap.size, 2, none⟩ = some (.bool f.noAd) ∧ w'.cell? ⟨w.heap.size, 3, none⟩ = some (.int .i64 f.tie) ∧ w'.cell? ⟨w.heap.size, 4, none⟩ = some (.int .i64 f.to) ∧ w'.cell? ⟨w.heap.size, 5, none⟩ = some (.int .i64 f.lastTie) ∧ w'.cell? ⟨w.heap.size, 6, none⟩ = some (.int .i64 f.lastTo) ∧ w'.cell? ⟨w.heap.size, 7, none⟩ = some (.int .i64 f.first) ∧ w'.cell? ⟨w.heap.size, 8, none⟩ = some (.int .i64 f.next) ∧ w'.cell? ⟨w.heap.size, 9, none⟩ = some (.bool f.doubles))) w1 := (by (try dsimp only); (first | (go_keep; done) | (go_split_ands; (repeat' apply And.intro) <;> first | (go_keep; done) | (simp [*, zcA, zcP, zfA, zfP]; done) | (simp [zcA, zcP] <;> rfl) | (simp [*, zsS, zsO, zsA]; done) | ((first | refine (hc _ _ ?_).trans ?_ | refine (hf _ _ ?_).trans ?_) <;> first | assumption | (simp; done) | (simp; omega) | omega | (go_keep; done) | (simp [*, zcA, zcP, zfA, zfP]; done) | (simp [zcA, zcP]; rfl)) | (repeat' first | exact zbR _ _ | assumption | refine zbD ?_ | refine zbA ?_ ?_ _ | refine zbS ?_ ?_ _ | refine zbT ?_ (by assumption) ?_ | (simp; done) | (simp; omega) | omega)))); (try dsimp only at hSn); (try clear hS); have hS := hSn; clear hSn hc hf) | (go_at_call 55; refine (ofSet_any f p _ (by omega) (by omega)).mono ?_; rintro e w2 ⟨rfl, hb⟩; obtain ⟨hc, hf⟩ := bcell hb; have hz := hb.size; (try simp at hz); have hSn : ((fun w' => Below w.heap.size w w' ∧ w.heap.size < w'.heap.size ∧ w.heap.size + 1 < w'.heap.size ∧ w.heap.size + 1 + 1 < w'.heap.size ∧ w'.cell? ⟨w.heap.size + 1, 0, none⟩ = some (.int .i64 p.A) ∧ w'.cell? ⟨w.heap.size + 1, 1, none⟩ = some (.int .i64 p.B) ∧ w'.cell? ⟨w.heap.size + 1 + 1, 0, none⟩ = some (.int .i64 g.A) ∧ w'.cell? ⟨w.heap.size + 1 + 1, 1, none⟩ = some (.int .i64 g.B) ∧ w'.cell? ⟨w.heap.size, 0, none⟩ = some (.int .i64 f.sets) ∧ w'.cell? ⟨w.heap.size, 1, none⟩ = some (.int .i64 f.games) ∧ w'.cell? ⟨w.heap.size, 2, none⟩ = some (.bool f.noAd) ∧ w'.cell? ⟨w.heap.size, 3, none⟩ = some (.int .i64 f.tie) ∧ w'.cell? ⟨w.heap.size, 4, none⟩ = some (.int .i64 f.to) ∧ w'.cell? ⟨w.heap.size, 5, none⟩ = some (.int .i64 f.lastTie) ∧ w'.cell? ⟨w.heap.size, 6, none⟩ = some (.int .i64 f.lastTo) ∧ w'.cell? ⟨w.heap.size, 7, none⟩ = some (.int .i64 f.first) ∧ w'.cell? ⟨w.heap.size, 8, none⟩ = some (.int .i64 f.next) ∧ w'.cell? ⟨w.heap.size, 9, none⟩ = some (.bool f.doubles))) w2 := (by (try dsimp only); (first | (go_keep; done) | (go_split_ands; (repeat' apply And.intro) <;> first | (go_keep; done) | (simp [*, zcA, zcP, zfA, zfP]; done) | (simp [zcA, zcP] <;> rfl) | (simp [*, zsS, zsO, zsA]; done) | ((first | refine (hc _ _ ?_).trans ?_ | refine (hf _ _ ?_).trans ?_) <;> first | assumption | (simp; done) | (simp; omega) | omega | (go_keep; done) | (simp [*, zcA, zcP, zfA, zfP]; done) | (simp [zcA, zcP]; rfl)) | (repeat' first | exact zbR _ _ | assumption | refine zbD ?_ | refine zbA ?_ ?_ _ | refine zbS ?_ ?_ _ | refine zbT ?_ (by assumption) ?_ | (simp; done) | (simp; omega) | omega)))); (try dsimp only at hSn); (try clear hS); have hS := hSn; clear hSn hc hf))
      go_loopw [10, 27] (fun bb i wr => ∃ k : Nat, k ≤ 2 ∧ i = .int .i64 k ∧ bb = .int .i64 (M.bestOf cost k) ∧ Below w.heap.size w wr ∧ w.heap.size < wr.heap.size ∧ w.heap.size + 1 < wr.heap.size ∧ w.heap.size + 1 + 1 < wr.heap.size ∧ wr.cell? ⟨w.heap.size + 1, 0, none⟩ = some (.int .i64 p.A) ∧ wr.cell? ⟨w.heap.size + 1, 1, none⟩ = some (.int .i64 p.B) ∧ wr.cell? ⟨w.heap.size + 1 + 1, 0, none⟩ = some (.int .i64 g.A) ∧ wr.cell? ⟨w.heap.size + 1 + 1, 1, none⟩ = some (.int .i64 g.B) ∧ wr.cell? ⟨w.heap.size, 0, none⟩ = some (.int .i64 f.sets) ∧ wr.cell? ⟨w.heap.size, 1, none⟩ = some (.int .i64 f.games) ∧ wr.cell? ⟨w.heap.size, 2, none⟩ = some (.bool f.noAd) ∧ wr.cell? ⟨w.heap.size, 3, none⟩ = some (.int .i64 f.tie) ∧ wr.cell? ⟨w.heap.size, 4, none⟩ = some (.int .i64 f.to) ∧ wr.cell? ⟨w.heap.size, 5, none⟩ = some (.int .i64 f.lastTie) ∧ wr.cell? ⟨w.heap.size, 6, none⟩ = some (.int .i64 f.lastTo) ∧ wr.cell? ⟨w.heap.size, 7, none⟩ = some (.int .i64 f.first) ∧ wr.cell? ⟨w.heap.size, 8, none⟩ = some (.int .i64 f.next) ∧ wr.cell? ⟨w.heap.size, 9, none⟩ = some (.bool f.doubles) ∧ wr.cell? ⟨w2.heap.size, 0, none⟩ = some (.int .i64 (M.ofSet f p).sets) ∧ wr.cell? ⟨w2.heap.size, 1, none⟩ = some (.int .i64 (M.ofSet f p).games) ∧ wr.cell? ⟨w2.heap.size, 2, none⟩ = some (.bool (M.ofSet f p).noAd) ∧ wr.cell? ⟨w2.heap.size, 3, none⟩ = some (.int .i64 (M.ofSet f p).tie) ∧ wr.cell? ⟨w2.heap.size, 4, none⟩ = some (.int .i64 (M.ofSet f p).to) ∧ wr.cell? ⟨w2.heap.size, 5, none⟩ = some (.int .i64 (M.ofSet f p).lastTie) ∧ wr.cell? ⟨w2.heap.size, 6, none⟩ = some (.int .i64 (M.ofSet f p).lastTo) ∧ wr.cell? ⟨w2.heap.size, 7, none⟩ = some (.int .i64 (M.ofSet f p).first) ∧ wr.cell? ⟨w2.heap.size, 8, none⟩ = some (.int .i64 (M.ofSet f p).next) ∧ wr.cell? ⟨w2.heap.size, 9, none⟩ = some (.bool (M.ofSet f p).doubles) ∧ w2.heap.size < wr.heap.size) (fun _ i _ => 2 - (intOf i).toNat)
      case atStart => exact ⟨0, by omega, rfl, rfl, by (first | (go_keep; done) | (go_split_ands; (repeat' apply And.intro) <;> first | (go_keep; done) | (simp [*, zcA, zcP, zfA, zfP]; done) | (simp [zcA, zcP] <;> rfl) | (simp [*, zsS, zsO, zsA]; done) | ((first | refine (hc _ _ ?_).trans ?_ | refine (hf _ _ ?_).trans ?_) <;> first | assumption | (simp; done) | (simp; omega) | omega | (go_keep; done) | (simp [*, zcA, zcP, zfA, zfP]; done) | (simp [zcA, zcP]; rfl)) | (repeat' first | exact zbR _ _ | assumption | refine zbD ?_ | refine zbA ?_ ?_ _ | refine zbS ?_ ?_ _ | refine zbT ?_ (by assumption) ?_ | (simp; done) | (simp; omega) | omega)))⟩
      case round =>
        obtain ⟨k, hk, rfl, rfl, hS0⟩ := hrel
        by_cases hlt : k < 2
        · have hc := HC.out k
          have HCK := hide hc
          have HW2 := hide (HV.out.ofSet p)
          have hr0 : 0 ≤ (M.run (M.ofSet f p) k g).2 := by
            have := (M.runF_bd (HV.out.ofSet p) k (M.fuel (M.ofSet f p) k g) g).2.2.1; unfold M.run; omega
          have hr1 : (M.run (M.ofSet f p) k g).2 ≤ 50000 := by
            have h1 := (M.runF_bd (HV.out.ofSet p) k (M.fuel (M.ofSet f p) k g) g).2.2.2
            have h2 := M.fuel_le (HV.out.ofSet p) (side := k) HG0.out HG2.out
            unfold M.run; omega
          have hl0 := M.lfg_ge HV.out s n (M.plus p k) M.zero
          have hl1 := M.lfg_le f s n (M.plus p k) M.zero
          have ew : IntKind.i64.wrap ((M.run (M.ofSet f p) k g).2 + M.lfg f s n (M.plus p k) M.zero) = (M.run (M.ofSet f p) k g).2 + M.lfg f s n (M.plus p k) M.zero := IntWalk.i64_in _ (by unfold M.never at hl1; omega)
          have HPS : Hid (M.Small p) := hide ⟨by have := HP0.out; omega, by have := HP2.out; omega, by have := HP0.out; omega, by have := HP2.out; omega⟩
          have hq : (0 ≤ (M.plus p k).A ∧ 0 ≤ (M.plus p k).B) ∧ ((M.plus p k).A ≤ f.sets ∧ (M.plus p k).B ≤ f.sets) ∧ (M.plus p k).A + (M.plus p k).B = p.A + p.B + 1 := by
            have a := HP0.out
            have b := HW.out
            unfold M.plus; split <;> (dsimp; omega)
          have HQ := hide hq
          have IH : ∀ w', _ := fun w' => hide (ih (M.plus p k) M.zero w' (by decide) (by decide) hq.1 hq.2.1 (by have := HW.out; omega) (by have := HN.out; omega))
          clear hc hl0 hl1 hq
          have hK : (M.bestOf cost (k + 1)) = M.mn (M.bestOf cost k) ((M.run (M.ofSet f p) k g).2 + M.lfg f s n (M.plus p k) M.zero) := by rw [← HCK.out]; rfl
          have HK := hide hK
          clear hK
          by_cases hb : (M.run (M.ofSet f p) k g).2 + M.lfg f s n (M.plus p k) M.zero < M.bestOf cost k
          · have hm : M.mn (M.bestOf cost k) ((M.run (M.ofSet f p) k g).2 + M.lfg f s n (M.plus p k) M.zero) = (M.run (M.ofSet f p) k g).2 + M.lfg f s n (M.plus p k) M.zero := if_pos hb
            have HM := hide hm
            clear hm
            go_wp2_with (first | (go_at_call 76; refine (run_any (M.ofSet f p) g k _ HW2.out HG0.out HG2.out (by omega) (by omega)).mono ?_; rintro e w3 ⟨rfl, hb⟩; obtain ⟨hc, hf⟩ := bcell hb; have hz := hb.size; (try simp at hz); have hSn : ((fun w' => Below w.heap.size w w' ∧ w.heap.size < w'.heap.size ∧ w.heap.size + 1 < w'.heap.size ∧ w.heap.size + 1 + 1 < w'.heap.size ∧ w'.cell? ⟨w.heap.size + 1, 0, none⟩ = some (.int .i64 p.A) ∧ w'.cell? ⟨w.heap.size + 1, 1, none⟩ = some (.int .i64 p.B) ∧ w'.cell? ⟨w.heap.size + 1 + 1, 0, none⟩ = some (.int .i64 g.A) ∧ w'.cell? ⟨w.heap.size + 1 + 1, 1, none⟩ = some (.int .i64 g.B) ∧ w'.cell? ⟨w.heap.size, 0, none⟩ = some (.int .i64 f.sets) ∧ w'.cell? ⟨w.heap.size, 1, none⟩ = some (.int .i64 f.games) ∧ w'.cell? ⟨w.heap.size, 2, none⟩ = some (.bool f.noAd) ∧ w'.cell? ⟨w.heap.size, 3, none⟩ = some (.int .i64 f.tie) ∧ w'.cell? ⟨w.heap.size, 4, none⟩ = some (.int .i64 f.to) ∧ w'.cell? ⟨w.heap.size, 5, none⟩ = some (.int .i64 f.lastTie) ∧ w'.cell? ⟨w.heap.size, 6, none⟩ = some (.int .i64 f.lastTo) ∧ w'.cell? ⟨w.heap.size, 7, none⟩ = some (.int .i64 f.first) ∧ w'.cell? ⟨w.heap.size, 8, none⟩ = some (.int .i64 f.next) ∧ w'.cell? ⟨w.heap.size, 9, none⟩ = some (.bool f.doubles) ∧ w'.cell? ⟨w2.heap.size, 0, none⟩ = some (.int .i64 (M.ofSet f p).sets) ∧ w'.cell? ⟨w2.heap.size, 1, none⟩ = some (.int .i64 (M.ofSet f p).games) ∧ w'.cell? ⟨w2.heap.size, 2, none⟩ = some (.bool (M.ofSet f p).noAd) ∧ w'.cell? ⟨w2.heap.size, 3, none⟩ = some (.int .i64 (M.ofSet f p).tie) ∧ w'.cell? ⟨w2.heap.size, 4, none⟩ = some (.int .i64 (M.ofSet f p).to) ∧ w'.cell? ⟨w2.heap.size, 5, none⟩ = some (.int .i64 (M.ofSet f p).lastTie) ∧ w'.cell? ⟨w2.heap.size, 6, none⟩ = some (.int .i64 (M.ofSet f p).lastTo) ∧ w'.cell? ⟨w2.heap.size, 7, none⟩ = some (.int .i64 (M.ofSet f p).first) ∧ w'.cell? ⟨w2.heap.size, 8, none⟩ = some (.int .i64 (M.ofSet f p).next) ∧ w'.cell? ⟨w2.heap.size, 9, none⟩ = some (.bool (M.ofSet f p).doubles) ∧ w2.heap.size < w'.heap.size)) w3 := (by (try dsimp only); (first | (go_keep; done) | (go_split_ands; (repeat' apply And.intro) <;> first | (go_keep; done) | (simp [*, zcA, zcP, zfA, zfP]; done) | (simp [zcA, zcP] <;> rfl) | (simp [*, zsS, zsO, zsA]; done) | ((first | refine (hc _ _ ?_).trans ?_ | refine (hf _ _ ?_).trans ?_) <;> first | assumption | (simp; done) | (simp; omega) | omega | (go_keep; done) | (simp [*, zcA, zcP, zfA, zfP]; done) | (simp [zcA, zcP]; rfl)) | (repeat' first | exact zbR _ _ | assumption | refine zbD ?_ | refine zbA ?_ ?_ _ | refine zbS ?_ ?_ _ | refine zbT ?_ (by assumption) ?_ | (simp; done) | (simp; omega) | omega)))); (try dsimp only at hSn); (try clear hS); have hS := hSn; clear hSn hc hf))
            refine wp_region_held_drew (S := (fun w' => Below w.heap.size w w' ∧ w.heap.size < w'.heap.size ∧ w.heap.size + 1 < w'.heap.size ∧ w.heap.size + 1 + 1 < w'.heap.size ∧ w'.cell? ⟨w.heap.size + 1, 0, none⟩ = some (.int .i64 p.A) ∧ w'.cell? ⟨w.heap.size + 1, 1, none⟩ = some (.int .i64 p.B) ∧ w'.cell? ⟨w.heap.size + 1 + 1, 0, none⟩ = some (.int .i64 g.A) ∧ w'.cell? ⟨w.heap.size + 1 + 1, 1, none⟩ = some (.int .i64 g.B) ∧ w'.cell? ⟨w.heap.size, 0, none⟩ = some (.int .i64 f.sets) ∧ w'.cell? ⟨w.heap.size, 1, none⟩ = some (.int .i64 f.games) ∧ w'.cell? ⟨w.heap.size, 2, none⟩ = some (.bool f.noAd) ∧ w'.cell? ⟨w.heap.size, 3, none⟩ = some (.int .i64 f.tie) ∧ w'.cell? ⟨w.heap.size, 4, none⟩ = some (.int .i64 f.to) ∧ w'.cell? ⟨w.heap.size, 5, none⟩ = some (.int .i64 f.lastTie) ∧ w'.cell? ⟨w.heap.size, 6, none⟩ = some (.int .i64 f.lastTo) ∧ w'.cell? ⟨w.heap.size, 7, none⟩ = some (.int .i64 f.first) ∧ w'.cell? ⟨w.heap.size, 8, none⟩ = some (.int .i64 f.next) ∧ w'.cell? ⟨w.heap.size, 9, none⟩ = some (.bool f.doubles) ∧ w'.cell? ⟨w2.heap.size, 0, none⟩ = some (.int .i64 (M.ofSet f p).sets) ∧ w'.cell? ⟨w2.heap.size, 1, none⟩ = some (.int .i64 (M.ofSet f p).games) ∧ w'.cell? ⟨w2.heap.size, 2, none⟩ = some (.bool (M.ofSet f p).noAd) ∧ w'.cell? ⟨w2.heap.size, 3, none⟩ = some (.int .i64 (M.ofSet f p).tie) ∧ w'.cell? ⟨w2.heap.size, 4, none⟩ = some (.int .i64 (M.ofSet f p).to) ∧ w'.cell? ⟨w2.heap.size, 5, none⟩ = some (.int .i64 (M.ofSet f p).lastTie) ∧ w'.cell? ⟨w2.heap.size, 6, none⟩ = some (.int .i64 (M.ofSet f p).lastTo) ∧ w'.cell? ⟨w2.heap.size, 7, none⟩ = some (.int .i64 (M.ofSet f p).first) ∧ w'.cell? ⟨w2.heap.size, 8, none⟩ = some (.int .i64 (M.ofSet f p).next) ∧ w'.cell? ⟨w2.heap.size, 9, none⟩ = some (.bool (M.ofSet f p).doubles) ∧ w2.heap.size < w'.heap.size)) (by kernel_rfl) ?_ (fun hHeld0 => ?_)
            · (try dsimp only); (first | (go_keep; done) | (go_split_ands; (repeat' apply And.intro) <;> first | (go_keep; done) | (simp [*, zcA, zcP, zfA, zfP]; done) | (simp [zcA, zcP] <;> rfl) | (simp [*, zsS, zsO, zsA]; done) | ((first | refine (hc _ _ ?_).trans ?_ | refine (hf _ _ ?_).trans ?_) <;> first | assumption | (simp; done) | (simp; omega) | omega | (go_keep; done) | (simp [*, zcA, zcP, zfA, zfP]; done) | (simp [zcA, zcP]; rfl)) | (repeat' first | exact zbR _ _ | assumption | refine zbD ?_ | refine zbA ?_ ?_ _ | refine zbS ?_ ?_ _ | refine zbT ?_ (by assumption) ?_ | (simp; done) | (simp; omega) | omega)))
            refine tL (v := ?_) 0 rfl (by kernel_rfl) (fun _ _ _ h => h) (Or.inl ⟨by rfl, ?_⟩) (by assumption) ?_; rotate_left
            · (intro w hSw; (try dsimp only at hSw); go_simp; try with_reducible rfl)
            try simp only [Act.put, zl, z0, z1]
            refine tL (v := ?_) 1 rfl (by kernel_rfl) (fun _ _ _ h => h) (Or.inl ⟨by rfl, ?_⟩) (by assumption) ?_; rotate_left
            · (intro w hSw; (try dsimp only at hSw); go_simp; try with_reducible rfl)
            try simp only [Act.put, zl, z0, z1]
            refine tL (v := ?_) 2 rfl (by kernel_rfl) (fun _ _ _ h => h) (Or.inl ⟨by rfl, ?_⟩) (by assumption) ?_; rotate_left
            · (intro w hSw; (try dsimp only at hSw); go_simp; try with_reducible rfl)
            try simp only [Act.put, zl, z0, z1]
            refine tL (v := ?_) 3 rfl (by kernel_rfl) (fun _ _ _ h => h) (Or.inl ⟨by rfl, ?_⟩) (by assumption) ?_; rotate_left
            · (intro w hSw; (try dsimp only at hSw); go_simp; try with_reducible rfl)
            try simp only [Act.put, zl, z0, z1]
            refine tL (v := ?_) 4 rfl (by kernel_rfl) (fun _ _ _ h => h) (Or.inl ⟨by rfl, ?_⟩) (by assumption) ?_; rotate_left
            · (intro w hSw; (try dsimp only at hSw); go_simp; try with_reducible rfl)
            try simp only [Act.put, zl, z0, z1]
            refine tL (v := ?_) 6 rfl (by kernel_rfl) (fun _ _ _ h => h) (Or.inl ⟨by rfl, ?_⟩) (by assumption) ?_; rotate_left
            · (intro w hSw; (try dsimp only at hSw); go_simp; try with_reducible rfl)
            try simp only [Act.put, zl, z0, z1]
            refine tL (v := ?_) 7 rfl (by kernel_rfl) (fun _ _ _ h => h) (Or.inl ⟨by rfl, ?_⟩) (by assumption) ?_; rotate_left
            · (intro w hSw; (try dsimp only at hSw); go_simp; try with_reducible rfl)
            try simp only [Act.put, zl, z0, z1]
            refine wpAnyH_ready (rs := [5]) (by kernel_rfl) (by simp) ?_
            refine consL 5 rfl (fun K hK => ?_) AllReadyH.nil
            go_simp
            (go_at_call 57; refine (plus_any p k _ HPS.out).mono ?_; rintro e w' ⟨rfl, hb⟩; obtain ⟨hc, hf⟩ := bcell hb; have hz := hb.size; (try simp at hz))
            refine hK.out _ _ ?_ (fun hHeld1 => ?_)
            · (try dsimp only); (first | (go_keep; done) | (go_split_ands; (repeat' apply And.intro) <;> first | (go_keep; done) | (simp [*, zcA, zcP, zfA, zfP]; done) | (simp [zcA, zcP] <;> rfl) | (simp [*, zsS, zsO, zsA]; done) | ((first | refine (hc _ _ ?_).trans ?_ | refine (hf _ _ ?_).trans ?_) <;> first | assumption | (simp; done) | (simp; omega) | omega | (go_keep; done) | (simp [*, zcA, zcP, zfA, zfP]; done) | (simp [zcA, zcP]; rfl)) | (repeat' first | exact zbR _ _ | assumption | refine zbD ?_ | refine zbA ?_ ?_ _ | refine zbS ?_ ?_ _ | refine zbT ?_ (by assumption) ?_ | (simp; done) | (simp; omega) | omega)))
            clear hK K hHeld0
            try simp only [Act.put, zl, z0, z1]
            refine wpAnyH_ready (rs := [8]) (by kernel_rfl) (by simp) ?_
            refine consL 8 rfl (fun K hK => ?_) AllReadyH.nil
            go_simp
            (go_at_call 61; refine ((IH _).out).mono ?_; rintro e w' ⟨rfl, hb⟩; obtain ⟨hc, hf⟩ := bcell hb; have hz := hb.size; (try simp at hz))
            refine hK.out _ _ ?_ (fun hHeld2 => ?_)
            · (try dsimp only); (first | (go_keep; done) | (go_split_ands; (repeat' apply And.intro) <;> first | (go_keep; done) | (simp [*, zcA, zcP, zfA, zfP]; done) | (simp [zcA, zcP] <;> rfl) | (simp [*, zsS, zsO, zsA]; done) | ((first | refine (hc _ _ ?_).trans ?_ | refine (hf _ _ ?_).trans ?_) <;> first | assumption | (simp; done) | (simp; omega) | omega | (go_keep; done) | (simp [*, zcA, zcP, zfA, zfP]; done) | (simp [zcA, zcP]; rfl)) | (repeat' first | exact zbR _ _ | assumption | refine zbD ?_ | refine zbA ?_ ?_ _ | refine zbS ?_ ?_ _ | refine zbT ?_ (by assumption) ?_ | (simp; done) | (simp; omega) | omega)))
            clear hK K hHeld1
            try simp only [Act.put, zl, z0, z1]
            refine tL (v := ?_) 9 rfl (by kernel_rfl) (fun _ _ _ h => h) (Or.inl ⟨by rfl, ?_⟩) (by assumption) ?_; rotate_left
            · (intro w hSw; (try dsimp only at hSw); go_simp; try with_reducible rfl)
            try simp only [Act.put, zl, z0, z1]
            refine tL (v := ?_) 10 rfl (by kernel_rfl) (fun _ _ _ h => h) (Or.inl ⟨by rfl, ?_⟩) (by assumption) ?_; rotate_left
            · (intro w hSw; (try dsimp only at hSw); go_simp; try with_reducible rfl)
            try simp only [Act.put, zl, z0, z1]
            refine tL (v := ?_) 11 rfl (by kernel_rfl) (fun _ _ _ h => h) (Or.inl ⟨by rfl, ?_⟩) (by assumption) ?_; rotate_left
            · (intro w hSw; (try dsimp only at hSw); go_simp; try with_reducible rfl)
            try simp only [Act.put, zl, z0, z1]
            refine wpAnyH_done (by kernel_rfl) ?_ _
            go_wp2
            go_roundw
            case rel => exact ⟨k + 1, by omega, by go_num, by rw [HK.out, HM.out], by (first | (go_keep; done) | (go_split_ands; (repeat' apply And.intro) <;> first | (go_keep; done) | (simp [*, zcA, zcP, zfA, zfP]; done) | (simp [zcA, zcP] <;> rfl) | (simp [*, zsS, zsO, zsA]; done) | ((first | refine (hc _ _ ?_).trans ?_ | refine (hf _ _ ?_).trans ?_) <;> first | assumption | (simp; done) | (simp; omega) | omega | (go_keep; done) | (simp [*, zcA, zcP, zfA, zfP]; done) | (simp [zcA, zcP]; rfl)) | (repeat' first | exact zbR _ _ | assumption | refine zbD ?_ | refine zbA ?_ ?_ _ | refine zbS ?_ ?_ _ | refine zbT ?_ (by assumption) ?_ | (simp; done) | (simp; omega) | omega)))⟩
            case measure => simp [intOf]; omega
          · have hm : M.mn (M.bestOf cost k) ((M.run (M.ofSet f p) k g).2 + M.lfg f s n (M.plus p k) M.zero) = M.bestOf cost k := if_neg hb
            have HM := hide hm
            clear hm
            go_wp2_with (first | (go_at_call 76; refine (run_any (M.ofSet f p) g k _ HW2.out HG0.out HG2.out (by omega) (by omega)).mono ?_; rintro e w3 ⟨rfl, hb⟩; obtain ⟨hc, hf⟩ := bcell hb; have hz := hb.size; (try simp at hz); have hSn : ((fun w' => Below w.heap.size w w' ∧ w.heap.size < w'.heap.size ∧ w.heap.size + 1 < w'.heap.size ∧ w.heap.size + 1 + 1 < w'.heap.size ∧ w'.cell? ⟨w.heap.size + 1, 0, none⟩ = some (.int .i64 p.A) ∧ w'.cell? ⟨w.heap.size + 1, 1, none⟩ = some (.int .i64 p.B) ∧ w'.cell? ⟨w.heap.size + 1 + 1, 0, none⟩ = some (.int .i64 g.A) ∧ w'.cell? ⟨w.heap.size + 1 + 1, 1, none⟩ = some (.int .i64 g.B) ∧ w'.cell? ⟨w.heap.size, 0, none⟩ = some (.int .i64 f.sets) ∧ w'.cell? ⟨w.heap.size, 1, none⟩ = some (.int .i64 f.games) ∧ w'.cell? ⟨w.heap.size, 2, none⟩ = some (.bool f.noAd) ∧ w'.cell? ⟨w.heap.size, 3, none⟩ = some (.int .i64 f.tie) ∧ w'.cell? ⟨w.heap.size, 4, none⟩ = some (.int .i64 f.to) ∧ w'.cell? ⟨w.heap.size, 5, none⟩ = some (.int .i64 f.lastTie) ∧ w'.cell? ⟨w.heap.size, 6, none⟩ = some (.int .i64 f.lastTo) ∧ w'.cell? ⟨w.heap.size, 7, none⟩ = some (.int .i64 f.first) ∧ w'.cell? ⟨w.heap.size, 8, none⟩ = some (.int .i64 f.next) ∧ w'.cell? ⟨w.heap.size, 9, none⟩ = some (.bool f.doubles) ∧ w'.cell? ⟨w2.heap.size, 0, none⟩ = some (.int .i64 (M.ofSet f p).sets) ∧ w'.cell? ⟨w2.heap.size, 1, none⟩ = some (.int .i64 (M.ofSet f p).games) ∧ w'.cell? ⟨w2.heap.size, 2, none⟩ = some (.bool (M.ofSet f p).noAd) ∧ w'.cell? ⟨w2.heap.size, 3, none⟩ = some (.int .i64 (M.ofSet f p).tie) ∧ w'.cell? ⟨w2.heap.size, 4, none⟩ = some (.int .i64 (M.ofSet f p).to) ∧ w'.cell? ⟨w2.heap.size, 5, none⟩ = some (.int .i64 (M.ofSet f p).lastTie) ∧ w'.cell? ⟨w2.heap.size, 6, none⟩ = some (.int .i64 (M.ofSet f p).lastTo) ∧ w'.cell? ⟨w2.heap.size, 7, none⟩ = some (.int .i64 (M.ofSet f p).first) ∧ w'.cell? ⟨w2.heap.size, 8, none⟩ = some (.int .i64 (M.ofSet f p).next) ∧ w'.cell? ⟨w2.heap.size, 9, none⟩ = some (.bool (M.ofSet f p).doubles) ∧ w2.heap.size < w'.heap.size)) w3 := (by (try dsimp only); (first | (go_keep; done) | (go_split_ands; (repeat' apply And.intro) <;> first | (go_keep; done) | (simp [*, zcA, zcP, zfA, zfP]; done) | (simp [zcA, zcP] <;> rfl) | (simp [*, zsS, zsO, zsA]; done) | ((first | refine (hc _ _ ?_).trans ?_ | refine (hf _ _ ?_).trans ?_) <;> first | assumption | (simp; done) | (simp; omega) | omega | (go_keep; done) | (simp [*, zcA, zcP, zfA, zfP]; done) | (simp [zcA, zcP]; rfl)) | (repeat' first | exact zbR _ _ | assumption | refine zbD ?_ | refine zbA ?_ ?_ _ | refine zbS ?_ ?_ _ | refine zbT ?_ (by assumption) ?_ | (simp; done) | (simp; omega) | omega)))); (try dsimp only at hSn); (try clear hS); have hS := hSn; clear hSn hc hf))
            refine wp_region_held_drew (S := (fun w' => Below w.heap.size w w' ∧ w.heap.size < w'.heap.size ∧ w.heap.size + 1 < w'.heap.size ∧ w.heap.size + 1 + 1 < w'.heap.size ∧ w'.cell? ⟨w.heap.size + 1, 0, none⟩ = some (.int .i64 p.A) ∧ w'.cell? ⟨w.heap.size + 1, 1, none⟩ = some (.int .i64 p.B) ∧ w'.cell? ⟨w.heap.size + 1 + 1, 0, none⟩ = some (.int .i64 g.A) ∧ w'.cell? ⟨w.heap.size + 1 + 1, 1, none⟩ = some (.int .i64 g.B) ∧ w'.cell? ⟨w.heap.size, 0, none⟩ = some (.int .i64 f.sets) ∧ w'.cell? ⟨w.heap.size, 1, none⟩ = some (.int .i64 f.games) ∧ w'.cell? ⟨w.heap.size, 2, none⟩ = some (.bool f.noAd) ∧ w'.cell? ⟨w.heap.size, 3, none⟩ = some (.int .i64 f.tie) ∧ w'.cell? ⟨w.heap.size, 4, none⟩ = some (.int .i64 f.to) ∧ w'.cell? ⟨w.heap.size, 5, none⟩ = some (.int .i64 f.lastTie) ∧ w'.cell? ⟨w.heap.size, 6, none⟩ = some (.int .i64 f.lastTo) ∧ w'.cell? ⟨w.heap.size, 7, none⟩ = some (.int .i64 f.first) ∧ w'.cell? ⟨w.heap.size, 8, none⟩ = some (.int .i64 f.next) ∧ w'.cell? ⟨w.heap.size, 9, none⟩ = some (.bool f.doubles) ∧ w'.cell? ⟨w2.heap.size, 0, none⟩ = some (.int .i64 (M.ofSet f p).sets) ∧ w'.cell? ⟨w2.heap.size, 1, none⟩ = some (.int .i64 (M.ofSet f p).games) ∧ w'.cell? ⟨w2.heap.size, 2, none⟩ = some (.bool (M.ofSet f p).noAd) ∧ w'.cell? ⟨w2.heap.size, 3, none⟩ = some (.int .i64 (M.ofSet f p).tie) ∧ w'.cell? ⟨w2.heap.size, 4, none⟩ = some (.int .i64 (M.ofSet f p).to) ∧ w'.cell? ⟨w2.heap.size, 5, none⟩ = some (.int .i64 (M.ofSet f p).lastTie) ∧ w'.cell? ⟨w2.heap.size, 6, none⟩ = some (.int .i64 (M.ofSet f p).lastTo) ∧ w'.cell? ⟨w2.heap.size, 7, none⟩ = some (.int .i64 (M.ofSet f p).first) ∧ w'.cell? ⟨w2.heap.size, 8, none⟩ = some (.int .i64 (M.ofSet f p).next) ∧ w'.cell? ⟨w2.heap.size, 9, none⟩ = some (.bool (M.ofSet f p).doubles) ∧ w2.heap.size < w'.heap.size)) (by kernel_rfl) ?_ (fun hHeld0 => ?_)
            · (try dsimp only); (first | (go_keep; done) | (go_split_ands; (repeat' apply And.intro) <;> first | (go_keep; done) | (simp [*, zcA, zcP, zfA, zfP]; done) | (simp [zcA, zcP] <;> rfl) | (simp [*, zsS, zsO, zsA]; done) | ((first | refine (hc _ _ ?_).trans ?_ | refine (hf _ _ ?_).trans ?_) <;> first | assumption | (simp; done) | (simp; omega) | omega | (go_keep; done) | (simp [*, zcA, zcP, zfA, zfP]; done) | (simp [zcA, zcP]; rfl)) | (repeat' first | exact zbR _ _ | assumption | refine zbD ?_ | refine zbA ?_ ?_ _ | refine zbS ?_ ?_ _ | refine zbT ?_ (by assumption) ?_ | (simp; done) | (simp; omega) | omega)))
            refine tL (v := ?_) 0 rfl (by kernel_rfl) (fun _ _ _ h => h) (Or.inl ⟨by rfl, ?_⟩) (by assumption) ?_; rotate_left
            · (intro w hSw; (try dsimp only at hSw); go_simp; try with_reducible rfl)
            try simp only [Act.put, zl, z0, z1]
            refine tL (v := ?_) 1 rfl (by kernel_rfl) (fun _ _ _ h => h) (Or.inl ⟨by rfl, ?_⟩) (by assumption) ?_; rotate_left
            · (intro w hSw; (try dsimp only at hSw); go_simp; try with_reducible rfl)
            try simp only [Act.put, zl, z0, z1]
            refine tL (v := ?_) 2 rfl (by kernel_rfl) (fun _ _ _ h => h) (Or.inl ⟨by rfl, ?_⟩) (by assumption) ?_; rotate_left
            · (intro w hSw; (try dsimp only at hSw); go_simp; try with_reducible rfl)
            try simp only [Act.put, zl, z0, z1]
            refine tL (v := ?_) 3 rfl (by kernel_rfl) (fun _ _ _ h => h) (Or.inl ⟨by rfl, ?_⟩) (by assumption) ?_; rotate_left
            · (intro w hSw; (try dsimp only at hSw); go_simp; try with_reducible rfl)
            try simp only [Act.put, zl, z0, z1]
            refine tL (v := ?_) 4 rfl (by kernel_rfl) (fun _ _ _ h => h) (Or.inl ⟨by rfl, ?_⟩) (by assumption) ?_; rotate_left
            · (intro w hSw; (try dsimp only at hSw); go_simp; try with_reducible rfl)
            try simp only [Act.put, zl, z0, z1]
            refine tL (v := ?_) 6 rfl (by kernel_rfl) (fun _ _ _ h => h) (Or.inl ⟨by rfl, ?_⟩) (by assumption) ?_; rotate_left
            · (intro w hSw; (try dsimp only at hSw); go_simp; try with_reducible rfl)
            try simp only [Act.put, zl, z0, z1]
            refine tL (v := ?_) 7 rfl (by kernel_rfl) (fun _ _ _ h => h) (Or.inl ⟨by rfl, ?_⟩) (by assumption) ?_; rotate_left
            · (intro w hSw; (try dsimp only at hSw); go_simp; try with_reducible rfl)
            try simp only [Act.put, zl, z0, z1]
            refine wpAnyH_ready (rs := [5]) (by kernel_rfl) (by simp) ?_
            refine consL 5 rfl (fun K hK => ?_) AllReadyH.nil
            go_simp
            (go_at_call 57; refine (plus_any p k _ HPS.out).mono ?_; rintro e w' ⟨rfl, hb⟩; obtain ⟨hc, hf⟩ := bcell hb; have hz := hb.size; (try simp at hz))
            refine hK.out _ _ ?_ (fun hHeld1 => ?_)
            · (try dsimp only); (first | (go_keep; done) | (go_split_ands; (repeat' apply And.intro) <;> first | (go_keep; done) | (simp [*, zcA, zcP, zfA, zfP]; done) | (simp [zcA, zcP] <;> rfl) | (simp [*, zsS, zsO, zsA]; done) | ((first | refine (hc _ _ ?_).trans ?_ | refine (hf _ _ ?_).trans ?_) <;> first | assumption | (simp; done) | (simp; omega) | omega | (go_keep; done) | (simp [*, zcA, zcP, zfA, zfP]; done) | (simp [zcA, zcP]; rfl)) | (repeat' first | exact zbR _ _ | assumption | refine zbD ?_ | refine zbA ?_ ?_ _ | refine zbS ?_ ?_ _ | refine zbT ?_ (by assumption) ?_ | (simp; done) | (simp; omega) | omega)))
            clear hK K hHeld0
            try simp only [Act.put, zl, z0, z1]
            refine wpAnyH_ready (rs := [8]) (by kernel_rfl) (by simp) ?_
            refine consL 8 rfl (fun K hK => ?_) AllReadyH.nil
            go_simp
            (go_at_call 61; refine ((IH _).out).mono ?_; rintro e w' ⟨rfl, hb⟩; obtain ⟨hc, hf⟩ := bcell hb; have hz := hb.size; (try simp at hz))
            refine hK.out _ _ ?_ (fun hHeld2 => ?_)
            · (try dsimp only); (first | (go_keep; done) | (go_split_ands; (repeat' apply And.intro) <;> first | (go_keep; done) | (simp [*, zcA, zcP, zfA, zfP]; done) | (simp [zcA, zcP] <;> rfl) | (simp [*, zsS, zsO, zsA]; done) | ((first | refine (hc _ _ ?_).trans ?_ | refine (hf _ _ ?_).trans ?_) <;> first | assumption | (simp; done) | (simp; omega) | omega | (go_keep; done) | (simp [*, zcA, zcP, zfA, zfP]; done) | (simp [zcA, zcP]; rfl)) | (repeat' first | exact zbR _ _ | assumption | refine zbD ?_ | refine zbA ?_ ?_ _ | refine zbS ?_ ?_ _ | refine zbT ?_ (by assumption) ?_ | (simp; done) | (simp; omega) | omega)))
            clear hK K hHeld1
            try simp only [Act.put, zl, z0, z1]
            refine tL (v := ?_) 9 rfl (by kernel_rfl) (fun _ _ _ h => h) (Or.inl ⟨by rfl, ?_⟩) (by assumption) ?_; rotate_left
            · (intro w hSw; (try dsimp only at hSw); go_simp; try with_reducible rfl)
            try simp only [Act.put, zl, z0, z1]
            refine tL (v := ?_) 10 rfl (by kernel_rfl) (fun _ _ _ h => h) (Or.inl ⟨by rfl, ?_⟩) (by assumption) ?_; rotate_left
            · (intro w hSw; (try dsimp only at hSw); go_simp; try with_reducible rfl)
            try simp only [Act.put, zl, z0, z1]
            refine tL (v := ?_) 11 rfl (by kernel_rfl) (fun _ _ _ h => h) (Or.inl ⟨by rfl, ?_⟩) (by assumption) ?_; rotate_left
            · (intro w hSw; (try dsimp only at hSw); go_simp; try with_reducible rfl)
            try simp only [Act.put, zl, z0, z1]
            refine wpAnyH_done (by kernel_rfl) ?_ _
            go_wp2
            go_roundw
            case rel => exact ⟨k + 1, by omega, by go_num, (by rw [HK.out, HM.out]; first | rfl | rw [if_neg (by omega)]), by (first | (go_keep; done) | (go_split_ands; (repeat' apply And.intro) <;> first | (go_keep; done) | (simp [*, zcA, zcP, zfA, zfP]; done) | (simp [zcA, zcP] <;> rfl) | (simp [*, zsS, zsO, zsA]; done) | ((first | refine (hc _ _ ?_).trans ?_ | refine (hf _ _ ?_).trans ?_) <;> first | assumption | (simp; done) | (simp; omega) | omega | (go_keep; done) | (simp [*, zcA, zcP, zfA, zfP]; done) | (simp [zcA, zcP]; rfl)) | (repeat' first | exact zbR _ _ | assumption | refine zbD ?_ | refine zbA ?_ ?_ _ | refine zbS ?_ ?_ _ | refine zbT ?_ (by assumption) ?_ | (simp; done) | (simp; omega) | omega)))⟩
            case measure => simp [intOf]; omega
        · have hk2 : k = 2 := by omega
          subst hk2
          go_wp2
          go_ret
          exact ⟨by rw [HO.out]; rfl, by (go_split_ands; (repeat' first | exact zbR _ _ | assumption | refine zbD ?_ | refine zbA ?_ ?_ _ | refine zbS ?_ ?_ _ | refine zbT ?_ (by assumption) ?_ | (simp; done) | (simp; omega) | omega))⟩
    · have ho : M.lfg f s (n + 1) p g = M.never := by
        conv => lhs; unfold M.lfg
        rw [if_neg (by simpa using hw), if_pos (by simpa using hx)]
      rw [ho]; clear ho
      go_enter Try.func61, Try.ntmps61
      go_wp2_with (first | (go_at_call 46; refine (winner_any f p _).mono ?_; rintro e w1 ⟨rfl, hb⟩; obtain ⟨hc, hf⟩ := bcell hb; have hz := hb.size; (try simp at hz); have hSn : ((fun w' => Below w.heap.size w w')) w1 := (by (try dsimp only); (first | (go_keep; done) | (go_split_ands; (repeat' apply And.intro) <;> first | (go_keep; done) | (simp [*, zcA, zcP, zfA, zfP]; done) | (simp [zcA, zcP] <;> rfl) | (simp [*, zsS, zsO, zsA]; done) | ((first | refine (hc _ _ ?_).trans ?_ | refine (hf _ _ ?_).trans ?_) <;> first | assumption | (simp; done) | (simp; omega) | omega | (go_keep; done) | (simp [*, zcA, zcP, zfA, zfP]; done) | (simp [zcA, zcP]; rfl)) | (repeat' first | exact zbR _ _ | assumption | refine zbD ?_ | refine zbA ?_ ?_ _ | refine zbS ?_ ?_ _ | refine zbT ?_ (by assumption) ?_ | (simp; done) | (simp; omega) | omega)))); (try dsimp only at hSn); (try clear hS); have hS := hSn; clear hSn hc hf))
      go_ret
      exact ⟨rfl, by (go_split_ands; (repeat' first | exact zbR _ _ | assumption | refine zbD ?_ | refine zbA ?_ ?_ _ | refine zbS ?_ ?_ _ | refine zbT ?_ (by assumption) ?_ | (simp; done) | (simp; omega) | omega))⟩
  · have ho : M.lfg f s (n + 1) p g = 0 := by
      conv => lhs; unfold M.lfg
      rw [if_pos (by simpa using hw)]
    rw [ho]; clear ho
    go_enter Try.func61, Try.ntmps61
    go_wp2_with (first | (go_at_call 46; refine (winner_any f p _).mono ?_; rintro e w1 ⟨rfl, hb⟩; obtain ⟨hc, hf⟩ := bcell hb; have hz := hb.size; (try simp at hz); have hSn : ((fun w' => Below w.heap.size w w')) w1 := (by (try dsimp only); (first | (go_keep; done) | (go_split_ands; (repeat' apply And.intro) <;> first | (go_keep; done) | (simp [*, zcA, zcP, zfA, zfP]; done) | (simp [zcA, zcP] <;> rfl) | (simp [*, zsS, zsO, zsA]; done) | ((first | refine (hc _ _ ?_).trans ?_ | refine (hf _ _ ?_).trans ?_) <;> first | assumption | (simp; done) | (simp; omega) | omega | (go_keep; done) | (simp [*, zcA, zcP, zfA, zfP]; done) | (simp [zcA, zcP]; rfl)) | (repeat' first | exact zbR _ _ | assumption | refine zbD ?_ | refine zbA ?_ ?_ _ | refine zbS ?_ ?_ _ | refine zbT ?_ (by assumption) ?_ | (simp; done) | (simp; omega) | omega)))); (try dsimp only at hSn); (try clear hS); have hS := hSn; clear hSn hc hf))
    go_ret
    exact ⟨rfl, by (go_split_ands; (repeat' first | exact zbR _ _ | assumption | refine zbD ?_ | refine zbA ?_ ?_ _ | refine zbS ?_ ?_ _ | refine zbT ?_ (by assumption) ?_ | (simp; done) | (simp; omega) | omega))⟩

theorem lfg_any (f : M.Fm) (s : Int) (hv : M.Valid f) (hs0 : 0 ≤ s) (hs1 : s ≤ 1) : ∀ n, LfgAt f s n
  | 0 => fun p g w _ _ h0 h1 h2 h3 => by exfalso; omega
  | n + 1 => lfg_step f s n hv hs0 hs1 (lfg_any f s hv hs0 hs1 n)

end Go.Proofs.Ytbjmnlhehkcakaa

namespace Go.Proofs.Ytbjmnlhehkcakaa
open Go.RowKit
attribute [local go_sem ↓] Go.wp_at_zero Go.wp_at_succ

set_option maxHeartbeats 8000000 in
theorem lfp_any (f : M.Fm) (s : Int) (v : Value) (won g p : M.Pr) (w : World) (hv : M.Valid f) (hs0 : 0 ≤ s) (hs1 : s ≤ 1) (hw0 : 0 ≤ won.A ∧ 0 ≤ won.B) (hw1 : won.A < f.sets ∧ won.B < f.sets)
    (hg : 0 ≤ g.A ∧ g.A ≤ 40 ∧ 0 ≤ g.B ∧ g.B ≤ 40) (hp : 0 ≤ p.A ∧ p.A ≤ 40 ∧ 0 ≤ p.B ∧ p.B ≤ 40) (A : Option Addr) (m c : Nat) (hsv : v = .slice A m c) :
    Calls Try.prog 47 #[.agg #[.int .i64 f.sets, .int .i64 f.games, .bool f.noAd, .int .i64 f.tie, .int .i64 f.to, .int .i64 f.lastTie, .int .i64 f.lastTo, .int .i64 f.first, .int .i64 f.next, .bool f.doubles], .agg #[.int .i64 won.A, .int .i64 won.B], .agg #[v, .int .i64 g.A, .int .i64 g.B, .int .i64 p.A, .int .i64 p.B], .int .i64 s] w fun e w' => e = .returned (.int .i64 (M.lfp f s 6 won g p)) ∧ Below w.heap.size w w' := by
  subst hsv
  have HV := hide hv
  have HW0 := hide hw0
  have HW1 := hide hw1
  have HGB := hide hg
  have HPB := hide hp
  have v0 := hv.s0
  have v1 := hv.s1
  have HWS : Hid (M.Small won) := hide ⟨by omega, by omega, by omega, by omega⟩
  have HGS : Hid (M.Small g) := hide ⟨by omega, by omega, by omega, by omega⟩
  have HGS9 : Hid (g.A ≤ 999999 ∧ g.B ≤ 999999) := hide (by omega)
  have HPP : Hid (M.Small p) := hide ⟨by omega, by omega, by omega, by omega⟩
  have HVS := hide (hv.ofSet won)
  obtain ⟨cost, hcost⟩ : ∃ cost : Nat → Int, cost = fun t : Nat => M.pointsOfGame (M.ofSet f won) (M.isTie (M.ofSet f won) g) p t + (if M.endsSet (M.ofSet f won) g t then M.lfg f s 6 (M.plus won t) M.zero else M.lfg f s 6 won (M.plus g t)) := ⟨_, rfl⟩
  have ho : M.lfp f s 6 won g p = M.bestOf cost 2 := by rw [hcost]; rfl
  have HO := hide ho
  have HC : Hid (∀ t : Nat, cost t = M.pointsOfGame (M.ofSet f won) (M.isTie (M.ofSet f won) g) p t + (if M.endsSet (M.ofSet f won) g t then M.lfg f s 6 (M.plus won t) M.zero else M.lfg f s 6 won (M.plus g t))) := hide (fun t => by rw [hcost])
  have hl := lfg_any f s hv hs0 hs1 6
  have IH0 : ∀ t : Nat, t < 2 → ∀ w', Hid _ := fun t ht w' => hide (hl (M.plus won t) M.zero w' (by decide) (by decide) (by unfold M.plus; split <;> (dsimp; omega)) (by unfold M.plus; split <;> (dsimp; omega)) (by unfold M.plus; split <;> (dsimp; omega)) (by unfold M.plus; split <;> (dsimp; omega)))
  have IH1 : ∀ t : Nat, t < 2 → ∀ w', Hid _ := fun t ht w' => hide (hl won (M.plus g t) w' (by unfold M.plus; split <;> (dsimp; omega)) (by unfold M.plus; split <;> (dsimp; omega)) hw0 (by omega) (by omega) (by omega))
  have J0 := hide IH0
  have J1 := hide IH1
  clear ho hcost hv hw0 hw1 hg hp hl IH0 IH1
  go_enter Try.func47, Try.ntmps47
  go_wp2_with (first | (go_at_call 55; refine (ofSet_any f won _ (by omega) (by omega)).mono ?_; rintro e w1 ⟨rfl, hb⟩; obtain ⟨hc, hf⟩ := bcell hb; have hz := hb.size; (try simp at hz); have hSn : ((fun w' => Below w.heap.size w w' ∧ w.heap.size < w'.heap.size ∧ w.heap.size + 1 < w'.heap.size ∧ w.heap.size + 1 + 1 < w'.heap.size ∧ w'.cell? ⟨w.heap.size + 1, 0, none⟩ = some (.int .i64 won.A) ∧ w'.cell? ⟨w.heap.size + 1, 1, none⟩ = some (.int .i64 won.B) ∧ w'.cell? ⟨w.heap.size + 1 + 1, 1, none⟩ = some (.int .i64 g.A) ∧ w'.cell? ⟨w.heap.size + 1 + 1, 2, none⟩ = some (.int .i64 g.B) ∧ w'.cell? ⟨w.heap.size + 1 + 1, 3, none⟩ = some (.int .i64 p.A) ∧ w'.cell? ⟨w.heap.size + 1 + 1, 4, none⟩ = some (.int .i64 p.B) ∧ w'.cell? ⟨w.heap.size, 0, none⟩ = some (.int .i64 f.sets) ∧ w'.cell? ⟨w.heap.size, 1, none⟩ = some (.int .i64 f.games) ∧ w'.cell? ⟨w.heap.size, 2, none⟩ = some (.bool f.noAd) ∧ w'.cell? ⟨w.heap.size, 3, none⟩ = some (.int .i64 f.tie) ∧ w'.cell? ⟨w.heap.size, 4, none⟩ = some (.int .i64 f.to) ∧ w'.cell? ⟨w.heap.size, 5, none⟩ = some (.int .i64 f.lastTie) ∧ w'.cell? ⟨w.heap.size, 6, none⟩ = some (.int .i64 f.lastTo) ∧ w'.cell? ⟨w.heap.size, 7, none⟩ = some (.int .i64 f.first) ∧ w'.cell? ⟨w.heap.size, 8, none⟩ = some (.int .i64 f.next) ∧ w'.cell? ⟨w.heap.size, 9, none⟩ = some (.bool f.doubles))) w1 := (by (try dsimp only); (first | (go_keep; done) | (go_split_ands; (repeat' apply And.intro) <;> first | (go_keep; done) | (simp [*, zcA, zcP, zfA, zfP]; done) | (simp [zcA, zcP] <;> rfl) | (simp [*, zsS, zsO, zsA]; done) | ((first | refine (hc _ _ ?_).trans ?_ | refine (hf _ _ ?_).trans ?_) <;> first | assumption | (simp; done) | (simp; omega) | omega | (go_keep; done) | (simp [*, zcA, zcP, zfA, zfP]; done) | (simp [zcA, zcP]; rfl)) | (repeat' first | exact zbR _ _ | assumption | refine zbD ?_ | refine zbA ?_ ?_ _ | refine zbS ?_ ?_ _ | refine zbT ?_ (by assumption) ?_ | (simp; done) | (simp; omega) | omega)))); (try dsimp only at hSn); (try clear hS); have hS := hSn; clear hSn hc hf; obtain ⟨Sx, Sxd⟩ : ∃ Sx : World → Prop, Hid (Sx = (fun w' => Below w.heap.size w w' ∧ w.heap.size < w'.heap.size ∧ w.heap.size + 1 < w'.heap.size ∧ w.heap.size + 1 + 1 < w'.heap.size ∧ w'.cell? ⟨w.heap.size + 1, 0, none⟩ = some (.int .i64 won.A) ∧ w'.cell? ⟨w.heap.size + 1, 1, none⟩ = some (.int .i64 won.B) ∧ w'.cell? ⟨w.heap.size + 1 + 1, 1, none⟩ = some (.int .i64 g.A) ∧ w'.cell? ⟨w.heap.size + 1 + 1, 2, none⟩ = some (.int .i64 g.B) ∧ w'.cell? ⟨w.heap.size + 1 + 1, 3, none⟩ = some (.int .i64 p.A) ∧ w'.cell? ⟨w.heap.size + 1 + 1, 4, none⟩ = some (.int .i64 p.B) ∧ w'.cell? ⟨w.heap.size, 0, none⟩ = some (.int .i64 f.sets) ∧ w'.cell? ⟨w.heap.size, 1, none⟩ = some (.int .i64 f.games) ∧ w'.cell? ⟨w.heap.size, 2, none⟩ = some (.bool f.noAd) ∧ w'.cell? ⟨w.heap.size, 3, none⟩ = some (.int .i64 f.tie) ∧ w'.cell? ⟨w.heap.size, 4, none⟩ = some (.int .i64 f.to) ∧ w'.cell? ⟨w.heap.size, 5, none⟩ = some (.int .i64 f.lastTie) ∧ w'.cell? ⟨w.heap.size, 6, none⟩ = some (.int .i64 f.lastTo) ∧ w'.cell? ⟨w.heap.size, 7, none⟩ = some (.int .i64 f.first) ∧ w'.cell? ⟨w.heap.size, 8, none⟩ = some (.int .i64 f.next) ∧ w'.cell? ⟨w.heap.size, 9, none⟩ = some (.bool f.doubles) ∧ w'.cell? ⟨w1.heap.size, 0, none⟩ = some (.int .i64 (M.ofSet f won).sets) ∧ w'.cell? ⟨w1.heap.size, 1, none⟩ = some (.int .i64 (M.ofSet f won).games) ∧ w'.cell? ⟨w1.heap.size, 2, none⟩ = some (.bool (M.ofSet f won).noAd) ∧ w'.cell? ⟨w1.heap.size, 3, none⟩ = some (.int .i64 (M.ofSet f won).tie) ∧ w'.cell? ⟨w1.heap.size, 4, none⟩ = some (.int .i64 (M.ofSet f won).to) ∧ w'.cell? ⟨w1.heap.size, 5, none⟩ = some (.int .i64 (M.ofSet f won).lastTie) ∧ w'.cell? ⟨w1.heap.size, 6, none⟩ = some (.int .i64 (M.ofSet f won).lastTo) ∧ w'.cell? ⟨w1.heap.size, 7, none⟩ = some (.int .i64 (M.ofSet f won).first) ∧ w'.cell? ⟨w1.heap.size, 8, none⟩ = some (.int .i64 (M.ofSet f won).next) ∧ w'.cell? ⟨w1.heap.size, 9, none⟩ = some (.bool (M.ofSet f won).doubles) ∧ w1.heap.size < w'.heap.size)) := ⟨_, hide rfl⟩) | (go_at_call 69; refine (isTie_any (M.ofSet f won) g _).mono ?_; rintro e w2 ⟨rfl, hb⟩; obtain ⟨hc, hf⟩ := bcell hb; have hz := hb.size; (try simp at hz); have hSn : Sx w2 := (by rw [Sxd.out]; (try dsimp only); (first | (go_keep; done) | (go_split_ands; (repeat' apply And.intro) <;> first | (go_keep; done) | (simp [*, zcA, zcP, zfA, zfP]; done) | (simp [zcA, zcP] <;> rfl) | (simp [*, zsS, zsO, zsA]; done) | ((first | refine (hc _ _ ?_).trans ?_ | refine (hf _ _ ?_).trans ?_) <;> first | assumption | (simp; done) | (simp; omega) | omega | (go_keep; done) | (simp [*, zcA, zcP, zfA, zfP]; done) | (simp [zcA, zcP]; rfl)) | (repeat' first | exact zbR _ _ | assumption | refine zbD ?_ | refine zbA ?_ ?_ _ | refine zbS ?_ ?_ _ | refine zbT ?_ (by assumption) ?_ | (simp; done) | (simp; omega) | omega)))); rw [Sxd.out] at hSn; (try dsimp only at hSn); (try clear hS); have hS := hSn; clear hSn hc hf))
  go_loopw [11, 21] (fun bb i wr => ∃ k : Nat, k ≤ 2 ∧ i = .int .i64 k ∧ bb = .int .i64 (M.bestOf cost k) ∧ Below w.heap.size w wr ∧ w.heap.size < wr.heap.size ∧ w.heap.size + 1 < wr.heap.size ∧ w.heap.size + 1 + 1 < wr.heap.size ∧ wr.cell? ⟨w.heap.size + 1, 0, none⟩ = some (.int .i64 won.A) ∧ wr.cell? ⟨w.heap.size + 1, 1, none⟩ = some (.int .i64 won.B) ∧ wr.cell? ⟨w.heap.size + 1 + 1, 1, none⟩ = some (.int .i64 g.A) ∧ wr.cell? ⟨w.heap.size + 1 + 1, 2, none⟩ = some (.int .i64 g.B) ∧ wr.cell? ⟨w.heap.size + 1 + 1, 3, none⟩ = some (.int .i64 p.A) ∧ wr.cell? ⟨w.heap.size + 1 + 1, 4, none⟩ = some (.int .i64 p.B) ∧ wr.cell? ⟨w.heap.size, 0, none⟩ = some (.int .i64 f.sets) ∧ wr.cell? ⟨w.heap.size, 1, none⟩ = some (.int .i64 f.games) ∧ wr.cell? ⟨w.heap.size, 2, none⟩ = some (.bool f.noAd) ∧ wr.cell? ⟨w.heap.size, 3, none⟩ = some (.int .i64 f.tie) ∧ wr.cell? ⟨w.heap.size, 4, none⟩ = some (.int .i64 f.to) ∧ wr.cell? ⟨w.heap.size, 5, none⟩ = some (.int .i64 f.lastTie) ∧ wr.cell? ⟨w.heap.size, 6, none⟩ = some (.int .i64 f.lastTo) ∧ wr.cell? ⟨w.heap.size, 7, none⟩ = some (.int .i64 f.first) ∧ wr.cell? ⟨w.heap.size, 8, none⟩ = some (.int .i64 f.next) ∧ wr.cell? ⟨w.heap.size, 9, none⟩ = some (.bool f.doubles) ∧ wr.cell? ⟨w1.heap.size, 0, none⟩ = some (.int .i64 (M.ofSet f won).sets) ∧ wr.cell? ⟨w1.heap.size, 1, none⟩ = some (.int .i64 (M.ofSet f won).games) ∧ wr.cell? ⟨w1.heap.size, 2, none⟩ = some (.bool (M.ofSet f won).noAd) ∧ wr.cell? ⟨w1.heap.size, 3, none⟩ = some (.int .i64 (M.ofSet f won).tie) ∧ wr.cell? ⟨w1.heap.size, 4, none⟩ = some (.int .i64 (M.ofSet f won).to) ∧ wr.cell? ⟨w1.heap.size, 5, none⟩ = some (.int .i64 (M.ofSet f won).lastTie) ∧ wr.cell? ⟨w1.heap.size, 6, none⟩ = some (.int .i64 (M.ofSet f won).lastTo) ∧ wr.cell? ⟨w1.heap.size, 7, none⟩ = some (.int .i64 (M.ofSet f won).first) ∧ wr.cell? ⟨w1.heap.size, 8, none⟩ = some (.int .i64 (M.ofSet f won).next) ∧ wr.cell? ⟨w1.heap.size, 9, none⟩ = some (.bool (M.ofSet f won).doubles) ∧ w1.heap.size < wr.heap.size) (fun _ i _ => 2 - (intOf i).toNat)
  case atStart => exact ⟨0, by omega, rfl, rfl, by (first | (go_keep; done) | (go_split_ands; (repeat' apply And.intro) <;> first | (go_keep; done) | (simp [*, zcA, zcP, zfA, zfP]; done) | (simp [zcA, zcP] <;> rfl) | (simp [*, zsS, zsO, zsA]; done) | ((first | refine (hc _ _ ?_).trans ?_ | refine (hf _ _ ?_).trans ?_) <;> first | assumption | (simp; done) | (simp; omega) | omega | (go_keep; done) | (simp [*, zcA, zcP, zfA, zfP]; done) | (simp [zcA, zcP]; rfl)) | (repeat' first | exact zbR _ _ | assumption | refine zbD ?_ | refine zbA ?_ ?_ _ | refine zbS ?_ ?_ _ | refine zbT ?_ (by assumption) ?_ | (simp; done) | (simp; omega) | omega)))⟩
  case round =>
    obtain ⟨k, hk, rfl, rfl, hS0⟩ := hrel
    by_cases hlt : k < 2
    · have hp0 : 0 ≤ M.pointsOfGame (M.ofSet f won) (M.isTie (M.ofSet f won) g) p k + 1000 ∧ M.pointsOfGame (M.ofSet f won) (M.isTie (M.ofSet f won) g) p k ≤ 1000 := by
        have a := M.aimTo_lo HVS.out (M.isTie (M.ofSet f won) g)
        have b := M.aimTo_hi HVS.out (M.isTie (M.ofSet f won) g)
        have c := M.aimLead_lo (M.ofSet f won) (M.isTie (M.ofSet f won) g)
        have d := M.aimLead_hi (M.ofSet f won) (M.isTie (M.ofSet f won) g)
        have e : ∀ x, 0 ≤ M.of p x ∧ M.of p x ≤ 40 := fun x => by have := HPB.out; unfold M.of; split <;> omega
        have e1 := e k
        have e2 := e (1 - k)
        unfold M.pointsOfGame; omega
      obtain ⟨hp0, hp1⟩ := hp0
      cases hes : M.endsSet (M.ofSet f won) g k
      · have hl0 := M.lfg_ge HV.out s 6 won (M.plus g k)
        have hl1 := M.lfg_le f s 6 won (M.plus g k)
        have ew : IntKind.i64.wrap (M.pointsOfGame (M.ofSet f won) (M.isTie (M.ofSet f won) g) p k + M.lfg f s 6 won (M.plus g k)) = M.pointsOfGame (M.ofSet f won) (M.isTie (M.ofSet f won) g) p k + M.lfg f s 6 won (M.plus g k) := IntWalk.i64_in _ (by unfold M.never at hl1; omega)
        have hK : M.bestOf cost (k + 1) = M.mn (M.bestOf cost k) (M.pointsOfGame (M.ofSet f won) (M.isTie (M.ofSet f won) g) p k + M.lfg f s 6 won (M.plus g k)) := by
          have : cost k = M.pointsOfGame (M.ofSet f won) (M.isTie (M.ofSet f won) g) p k + M.lfg f s 6 won (M.plus g k) := by rw [HC.out k, hes]; rfl
          rw [← this]; rfl
        have HK := hide hK
        clear hK hl0 hl1
        have JJ := hide (J1.out k hlt)
        go_wp2_with (first | (go_at_call 73; refine (pointsOfGame_any (M.ofSet f won) (M.isTie (M.ofSet f won) g) p k _ HVS.out HPP.out (by omega) (by omega)).mono ?_; rintro e w3 ⟨rfl, hb⟩; obtain ⟨hc, hf⟩ := bcell hb; have hz := hb.size; (try simp at hz); have hSn : Sx w3 := (by rw [Sxd.out]; (try dsimp only); (first | (go_keep; done) | (go_split_ands; (repeat' apply And.intro) <;> first | (go_keep; done) | (simp [*, zcA, zcP, zfA, zfP]; done) | (simp [zcA, zcP] <;> rfl) | (simp [*, zsS, zsO, zsA]; done) | ((first | refine (hc _ _ ?_).trans ?_ | refine (hf _ _ ?_).trans ?_) <;> first | assumption | (simp; done) | (simp; omega) | omega | (go_keep; done) | (simp [*, zcA, zcP, zfA, zfP]; done) | (simp [zcA, zcP]; rfl)) | (repeat' first | exact zbR _ _ | assumption | refine zbD ?_ | refine zbA ?_ ?_ _ | refine zbS ?_ ?_ _ | refine zbT ?_ (by assumption) ?_ | (simp; done) | (simp; omega) | omega)))); rw [Sxd.out] at hSn; (try dsimp only at hSn); (try clear hS); have hS := hSn; clear hSn hc hf) | (go_at_call 74; refine (endsSet_any (M.ofSet f won) g k _ HGS.out HGS9.out).mono ?_; rintro e w4 ⟨rfl, hb⟩; obtain ⟨hc, hf⟩ := bcell hb; have hz := hb.size; (try simp at hz); have hSn : Sx w4 := (by rw [Sxd.out]; (try dsimp only); (first | (go_keep; done) | (go_split_ands; (repeat' apply And.intro) <;> first | (go_keep; done) | (simp [*, zcA, zcP, zfA, zfP]; done) | (simp [zcA, zcP] <;> rfl) | (simp [*, zsS, zsO, zsA]; done) | ((first | refine (hc _ _ ?_).trans ?_ | refine (hf _ _ ?_).trans ?_) <;> first | assumption | (simp; done) | (simp; omega) | omega | (go_keep; done) | (simp [*, zcA, zcP, zfA, zfP]; done) | (simp [zcA, zcP]; rfl)) | (repeat' first | exact zbR _ _ | assumption | refine zbD ?_ | refine zbA ?_ ?_ _ | refine zbS ?_ ?_ _ | refine zbT ?_ (by assumption) ?_ | (simp; done) | (simp; omega) | omega)))); rw [Sxd.out] at hSn; (try dsimp only at hSn); (try clear hS); have hS := hSn; clear hSn hc hf))
        refine wp_region_held_drew (S := (fun w' => Below w.heap.size w w' ∧ w.heap.size < w'.heap.size ∧ w.heap.size + 1 < w'.heap.size ∧ w.heap.size + 1 + 1 < w'.heap.size ∧ w'.cell? ⟨w.heap.size + 1, 0, none⟩ = some (.int .i64 won.A) ∧ w'.cell? ⟨w.heap.size + 1, 1, none⟩ = some (.int .i64 won.B) ∧ w'.cell? ⟨w.heap.size + 1 + 1, 1, none⟩ = some (.int .i64 g.A) ∧ w'.cell? ⟨w.heap.size + 1 + 1, 2, none⟩ = some (.int .i64 g.B) ∧ w'.cell? ⟨w.heap.size + 1 + 1, 3, none⟩ = some (.int .i64 p.A) ∧ w'.cell? ⟨w.heap.size + 1 + 1, 4, none⟩ = some (.int .i64 p.B) ∧ w'.cell? ⟨w.heap.size, 0, none⟩ = some (.int .i64 f.sets) ∧ w'.cell? ⟨w.heap.size, 1, none⟩ = some (.int .i64 f.games) ∧ w'.cell? ⟨w.heap.size, 2, none⟩ = some (.bool f.noAd) ∧ w'.cell? ⟨w.heap.size, 3, none⟩ = some (.int .i64 f.tie) ∧ w'.cell? ⟨w.heap.size, 4, none⟩ = some (.int .i64 f.to) ∧ w'.cell? ⟨w.heap.size, 5, none⟩ = some (.int .i64 f.lastTie) ∧ w'.cell? ⟨w.heap.size, 6, none⟩ = some (.int .i64 f.lastTo) ∧ w'.cell? ⟨w.heap.size, 7, none⟩ = some (.int .i64 f.first) ∧ w'.cell? ⟨w.heap.size, 8, none⟩ = some (.int .i64 f.next) ∧ w'.cell? ⟨w.heap.size, 9, none⟩ = some (.bool f.doubles) ∧ w'.cell? ⟨w1.heap.size, 0, none⟩ = some (.int .i64 (M.ofSet f won).sets) ∧ w'.cell? ⟨w1.heap.size, 1, none⟩ = some (.int .i64 (M.ofSet f won).games) ∧ w'.cell? ⟨w1.heap.size, 2, none⟩ = some (.bool (M.ofSet f won).noAd) ∧ w'.cell? ⟨w1.heap.size, 3, none⟩ = some (.int .i64 (M.ofSet f won).tie) ∧ w'.cell? ⟨w1.heap.size, 4, none⟩ = some (.int .i64 (M.ofSet f won).to) ∧ w'.cell? ⟨w1.heap.size, 5, none⟩ = some (.int .i64 (M.ofSet f won).lastTie) ∧ w'.cell? ⟨w1.heap.size, 6, none⟩ = some (.int .i64 (M.ofSet f won).lastTo) ∧ w'.cell? ⟨w1.heap.size, 7, none⟩ = some (.int .i64 (M.ofSet f won).first) ∧ w'.cell? ⟨w1.heap.size, 8, none⟩ = some (.int .i64 (M.ofSet f won).next) ∧ w'.cell? ⟨w1.heap.size, 9, none⟩ = some (.bool (M.ofSet f won).doubles) ∧ w1.heap.size < w'.heap.size)) (by kernel_rfl) ?_ (fun hHeld0 => ?_)
        · (try dsimp only); (first | (go_keep; done) | (go_split_ands; (repeat' apply And.intro) <;> first | (go_keep; done) | (simp [*, zcA, zcP, zfA, zfP]; done) | (simp [zcA, zcP] <;> rfl) | (simp [*, zsS, zsO, zsA]; done) | ((first | refine (hc _ _ ?_).trans ?_ | refine (hf _ _ ?_).trans ?_) <;> first | assumption | (simp; done) | (simp; omega) | omega | (go_keep; done) | (simp [*, zcA, zcP, zfA, zfP]; done) | (simp [zcA, zcP]; rfl)) | (repeat' first | exact zbR _ _ | assumption | refine zbD ?_ | refine zbA ?_ ?_ _ | refine zbS ?_ ?_ _ | refine zbT ?_ (by assumption) ?_ | (simp; done) | (simp; omega) | omega)))
        refine tL (v := ?_) 0 rfl (by kernel_rfl) (fun _ _ _ h => h) (Or.inl ⟨by rfl, ?_⟩) (by assumption) ?_; rotate_left
        · (intro w hSw; (try dsimp only at hSw); go_simp; try with_reducible rfl)
        try simp only [Act.put, zl, z0, z1]
        refine tL (v := ?_) 1 rfl (by kernel_rfl) (fun _ _ _ h => h) (Or.inl ⟨by rfl, ?_⟩) (by assumption) ?_; rotate_left
        · (intro w hSw; (try dsimp only at hSw); go_simp; try with_reducible rfl)
        try simp only [Act.put, zl, z0, z1]
        refine tL (v := ?_) 2 rfl (by kernel_rfl) (fun _ _ _ h => h) (Or.inl ⟨by rfl, ?_⟩) (by assumption) ?_; rotate_left
        · (intro w hSw; (try dsimp only at hSw); go_simp; try with_reducible rfl)
        try simp only [Act.put, zl, z0, z1]
        refine tL (v := ?_) 3 rfl (by kernel_rfl) (fun _ _ _ h => h) (Or.inl ⟨by rfl, ?_⟩) (by assumption) ?_; rotate_left
        · (intro w hSw; (try dsimp only at hSw); go_simp; try with_reducible rfl)
        try simp only [Act.put, zl, z0, z1]
        refine tL (v := ?_) 4 rfl (by kernel_rfl) (fun _ _ _ h => h) (Or.inl ⟨by rfl, ?_⟩) (by assumption) ?_; rotate_left
        · (intro w hSw; (try dsimp only at hSw); go_simp; try with_reducible rfl)
        try simp only [Act.put, zl, z0, z1]
        refine tL (v := ?_) 5 rfl (by kernel_rfl) (fun _ _ _ h => h) (Or.inl ⟨by rfl, ?_⟩) (by assumption) ?_; rotate_left
        · (intro w hSw; (try dsimp only at hSw); go_simp; try with_reducible rfl)
        try simp only [Act.put, zl, z0, z1]
        refine tL (v := ?_) 7 rfl (by kernel_rfl) (fun _ _ _ h => h) (Or.inl ⟨by rfl, ?_⟩) (by assumption) ?_; rotate_left
        · (intro w hSw; (try dsimp only at hSw); go_simp; try with_reducible rfl)
        try simp only [Act.put, zl, z0, z1]
        refine wpAnyH_ready (rs := [6]) (by kernel_rfl) (by simp) ?_
        refine consL 6 rfl (fun K hK => ?_) AllReadyH.nil
        go_simp
        (go_at_call 57; refine (plus_any _ k _ HGS.out).mono ?_; rintro e w' ⟨rfl, hb⟩; obtain ⟨hc, hf⟩ := bcell hb; have hz := hb.size; (try simp at hz))
        refine hK.out _ _ ?_ (fun hHeld1 => ?_)
        · (try dsimp only); (first | (go_keep; done) | (go_split_ands; (repeat' apply And.intro) <;> first | (go_keep; done) | (simp [*, zcA, zcP, zfA, zfP]; done) | (simp [zcA, zcP] <;> rfl) | (simp [*, zsS, zsO, zsA]; done) | ((first | refine (hc _ _ ?_).trans ?_ | refine (hf _ _ ?_).trans ?_) <;> first | assumption | (simp; done) | (simp; omega) | omega | (go_keep; done) | (simp [*, zcA, zcP, zfA, zfP]; done) | (simp [zcA, zcP]; rfl)) | (repeat' first | exact zbR _ _ | assumption | refine zbD ?_ | refine zbA ?_ ?_ _ | refine zbS ?_ ?_ _ | refine zbT ?_ (by assumption) ?_ | (simp; done) | (simp; omega) | omega)))
        clear hK K hHeld0
        try simp only [Act.put, zl, z0, z1]
        refine wpAnyH_ready (rs := [8]) (by kernel_rfl) (by simp) ?_
        refine consL 8 rfl (fun K hK => ?_) AllReadyH.nil
        go_simp
        (go_at_call 61; refine ((JJ.out _).out).mono ?_; rintro e w' ⟨rfl, hb⟩; obtain ⟨hc, hf⟩ := bcell hb; have hz := hb.size; (try simp at hz))
        refine hK.out _ _ ?_ (fun hHeld2 => ?_)
        · (try dsimp only); (first | (go_keep; done) | (go_split_ands; (repeat' apply And.intro) <;> first | (go_keep; done) | (simp [*, zcA, zcP, zfA, zfP]; done) | (simp [zcA, zcP] <;> rfl) | (simp [*, zsS, zsO, zsA]; done) | ((first | refine (hc _ _ ?_).trans ?_ | refine (hf _ _ ?_).trans ?_) <;> first | assumption | (simp; done) | (simp; omega) | omega | (go_keep; done) | (simp [*, zcA, zcP, zfA, zfP]; done) | (simp [zcA, zcP]; rfl)) | (repeat' first | exact zbR _ _ | assumption | refine zbD ?_ | refine zbA ?_ ?_ _ | refine zbS ?_ ?_ _ | refine zbT ?_ (by assumption) ?_ | (simp; done) | (simp; omega) | omega)))
        clear hK K hHeld1
        try simp only [Act.put, zl, z0, z1]
        refine tL (v := ?_) 9 rfl (by kernel_rfl) (fun _ _ _ h => h) (Or.inl ⟨by rfl, ?_⟩) (by assumption) ?_; rotate_left
        · (intro w hSw; (try dsimp only at hSw); go_simp; try with_reducible rfl)
        try simp only [Act.put, zl, z0, z1]
        refine tL (v := ?_) 10 rfl (by kernel_rfl) (fun _ _ _ h => h) (Or.inl ⟨by rfl, ?_⟩) (by assumption) ?_; rotate_left
        · (intro w hSw; (try dsimp only at hSw); go_simp; try with_reducible rfl)
        try simp only [Act.put, zl, z0, z1]
        refine wpAnyH_done (by kernel_rfl) ?_ _
        by_cases hb : M.pointsOfGame (M.ofSet f won) (M.isTie (M.ofSet f won) g) p k + M.lfg f s 6 won (M.plus g k) < M.bestOf cost k
        · have HM : Hid (M.mn (M.bestOf cost k) (M.pointsOfGame (M.ofSet f won) (M.isTie (M.ofSet f won) g) p k + M.lfg f s 6 won (M.plus g k)) = _) := hide (if_pos hb)
          go_wp2
          go_roundw
          case rel => exact ⟨k + 1, by omega, by go_num, by rw [HK.out, HM.out], by (first | (go_keep; done) | (go_split_ands; (repeat' apply And.intro) <;> first | (go_keep; done) | (simp [*, zcA, zcP, zfA, zfP]; done) | (simp [zcA, zcP] <;> rfl) | (simp [*, zsS, zsO, zsA]; done) | ((first | refine (hc _ _ ?_).trans ?_ | refine (hf _ _ ?_).trans ?_) <;> first | assumption | (simp; done) | (simp; omega) | omega | (go_keep; done) | (simp [*, zcA, zcP, zfA, zfP]; done) | (simp [zcA, zcP]; rfl)) | (repeat' first | exact zbR _ _ | assumption | refine zbD ?_ | refine zbA ?_ ?_ _ | refine zbS ?_ ?_ _ | refine zbT ?_ (by assumption) ?_ | (simp; done) | (simp; omega) | omega)))⟩
          case measure => simp [intOf]; omega
        · have HM : Hid (M.mn (M.bestOf cost k) (M.pointsOfGame (M.ofSet f won) (M.isTie (M.ofSet f won) g) p k + M.lfg f s 6 won (M.plus g k)) = _) := hide (if_neg hb)
          go_wp2
          go_roundw
          case rel => exact ⟨k + 1, by omega, by go_num, by rw [HK.out, HM.out], by (first | (go_keep; done) | (go_split_ands; (repeat' apply And.intro) <;> first | (go_keep; done) | (simp [*, zcA, zcP, zfA, zfP]; done) | (simp [zcA, zcP] <;> rfl) | (simp [*, zsS, zsO, zsA]; done) | ((first | refine (hc _ _ ?_).trans ?_ | refine (hf _ _ ?_).trans ?_) <;> first | assumption | (simp; done) | (simp; omega) | omega | (go_keep; done) | (simp [*, zcA, zcP, zfA, zfP]; done) | (simp [zcA, zcP]; rfl)) | (repeat' first | exact zbR _ _ | assumption | refine zbD ?_ | refine zbA ?_ ?_ _ | refine zbS ?_ ?_ _ | refine zbT ?_ (by assumption) ?_ | (simp; done) | (simp; omega) | omega)))⟩
          case measure => simp [intOf]; omega
      · have hl0 := M.lfg_ge HV.out s 6 (M.plus won k) M.zero
        have hl1 := M.lfg_le f s 6 (M.plus won k) M.zero
        have ew : IntKind.i64.wrap (M.pointsOfGame (M.ofSet f won) (M.isTie (M.ofSet f won) g) p k + M.lfg f s 6 (M.plus won k) M.zero) = M.pointsOfGame (M.ofSet f won) (M.isTie (M.ofSet f won) g) p k + M.lfg f s 6 (M.plus won k) M.zero := IntWalk.i64_in _ (by unfold M.never at hl1; omega)
        have hK : M.bestOf cost (k + 1) = M.mn (M.bestOf cost k) (M.pointsOfGame (M.ofSet f won) (M.isTie (M.ofSet f won) g) p k + M.lfg f s 6 (M.plus won k) M.zero) := by
          have : cost k = M.pointsOfGame (M.ofSet f won) (M.isTie (M.ofSet f won) g) p k + M.lfg f s 6 (M.plus won k) M.zero := by rw [HC.out k, hes]; rfl
          rw [← this]; rfl
        have HK := hide hK
        clear hK hl0 hl1
        have JJ := hide (J0.out k hlt)
        go_wp2_with (first | (go_at_call 73; refine (pointsOfGame_any (M.ofSet f won) (M.isTie (M.ofSet f won) g) p k _ HVS.out HPP.out (by omega) (by omega)).mono ?_; rintro e w3 ⟨rfl, hb⟩; obtain ⟨hc, hf⟩ := bcell hb; have hz := hb.size; (try simp at hz); have hSn : Sx w3 := (by rw [Sxd.out]; (try dsimp only); (first | (go_keep; done) | (go_split_ands; (repeat' apply And.intro) <;> first | (go_keep; done) | (simp [*, zcA, zcP, zfA, zfP]; done) | (simp [zcA, zcP] <;> rfl) | (simp [*, zsS, zsO, zsA]; done) | ((first | refine (hc _ _ ?_).trans ?_ | refine (hf _ _ ?_).trans ?_) <;> first | assumption | (simp; done) | (simp; omega) | omega | (go_keep; done) | (simp [*, zcA, zcP, zfA, zfP]; done) | (simp [zcA, zcP]; rfl)) | (repeat' first | exact zbR _ _ | assumption | refine zbD ?_ | refine zbA ?_ ?_ _ | refine zbS ?_ ?_ _ | refine zbT ?_ (by assumption) ?_ | (simp; done) | (simp; omega) | omega)))); rw [Sxd.out] at hSn; (try dsimp only at hSn); (try clear hS); have hS := hSn; clear hSn hc hf) | (go_at_call 74; refine (endsSet_any (M.ofSet f won) g k _ HGS.out HGS9.out).mono ?_; rintro e w4 ⟨rfl, hb⟩; obtain ⟨hc, hf⟩ := bcell hb; have hz := hb.size; (try simp at hz); have hSn : Sx w4 := (by rw [Sxd.out]; (try dsimp only); (first | (go_keep; done) | (go_split_ands; (repeat' apply And.intro) <;> first | (go_keep; done) | (simp [*, zcA, zcP, zfA, zfP]; done) | (simp [zcA, zcP] <;> rfl) | (simp [*, zsS, zsO, zsA]; done) | ((first | refine (hc _ _ ?_).trans ?_ | refine (hf _ _ ?_).trans ?_) <;> first | assumption | (simp; done) | (simp; omega) | omega | (go_keep; done) | (simp [*, zcA, zcP, zfA, zfP]; done) | (simp [zcA, zcP]; rfl)) | (repeat' first | exact zbR _ _ | assumption | refine zbD ?_ | refine zbA ?_ ?_ _ | refine zbS ?_ ?_ _ | refine zbT ?_ (by assumption) ?_ | (simp; done) | (simp; omega) | omega)))); rw [Sxd.out] at hSn; (try dsimp only at hSn); (try clear hS); have hS := hSn; clear hSn hc hf))
        refine wp_region_held_drew (S := (fun w' => Below w.heap.size w w' ∧ w.heap.size < w'.heap.size ∧ w.heap.size + 1 < w'.heap.size ∧ w.heap.size + 1 + 1 < w'.heap.size ∧ w'.cell? ⟨w.heap.size + 1, 0, none⟩ = some (.int .i64 won.A) ∧ w'.cell? ⟨w.heap.size + 1, 1, none⟩ = some (.int .i64 won.B) ∧ w'.cell? ⟨w.heap.size + 1 + 1, 1, none⟩ = some (.int .i64 g.A) ∧ w'.cell? ⟨w.heap.size + 1 + 1, 2, none⟩ = some (.int .i64 g.B) ∧ w'.cell? ⟨w.heap.size + 1 + 1, 3, none⟩ = some (.int .i64 p.A) ∧ w'.cell? ⟨w.heap.size + 1 + 1, 4, none⟩ = some (.int .i64 p.B) ∧ w'.cell? ⟨w.heap.size, 0, none⟩ = some (.int .i64 f.sets) ∧ w'.cell? ⟨w.heap.size, 1, none⟩ = some (.int .i64 f.games) ∧ w'.cell? ⟨w.heap.size, 2, none⟩ = some (.bool f.noAd) ∧ w'.cell? ⟨w.heap.size, 3, none⟩ = some (.int .i64 f.tie) ∧ w'.cell? ⟨w.heap.size, 4, none⟩ = some (.int .i64 f.to) ∧ w'.cell? ⟨w.heap.size, 5, none⟩ = some (.int .i64 f.lastTie) ∧ w'.cell? ⟨w.heap.size, 6, none⟩ = some (.int .i64 f.lastTo) ∧ w'.cell? ⟨w.heap.size, 7, none⟩ = some (.int .i64 f.first) ∧ w'.cell? ⟨w.heap.size, 8, none⟩ = some (.int .i64 f.next) ∧ w'.cell? ⟨w.heap.size, 9, none⟩ = some (.bool f.doubles) ∧ w'.cell? ⟨w1.heap.size, 0, none⟩ = some (.int .i64 (M.ofSet f won).sets) ∧ w'.cell? ⟨w1.heap.size, 1, none⟩ = some (.int .i64 (M.ofSet f won).games) ∧ w'.cell? ⟨w1.heap.size, 2, none⟩ = some (.bool (M.ofSet f won).noAd) ∧ w'.cell? ⟨w1.heap.size, 3, none⟩ = some (.int .i64 (M.ofSet f won).tie) ∧ w'.cell? ⟨w1.heap.size, 4, none⟩ = some (.int .i64 (M.ofSet f won).to) ∧ w'.cell? ⟨w1.heap.size, 5, none⟩ = some (.int .i64 (M.ofSet f won).lastTie) ∧ w'.cell? ⟨w1.heap.size, 6, none⟩ = some (.int .i64 (M.ofSet f won).lastTo) ∧ w'.cell? ⟨w1.heap.size, 7, none⟩ = some (.int .i64 (M.ofSet f won).first) ∧ w'.cell? ⟨w1.heap.size, 8, none⟩ = some (.int .i64 (M.ofSet f won).next) ∧ w'.cell? ⟨w1.heap.size, 9, none⟩ = some (.bool (M.ofSet f won).doubles) ∧ w1.heap.size < w'.heap.size)) (by kernel_rfl) ?_ (fun hHeld0 => ?_)
        · (try dsimp only); (first | (go_keep; done) | (go_split_ands; (repeat' apply And.intro) <;> first | (go_keep; done) | (simp [*, zcA, zcP, zfA, zfP]; done) | (simp [zcA, zcP] <;> rfl) | (simp [*, zsS, zsO, zsA]; done) | ((first | refine (hc _ _ ?_).trans ?_ | refine (hf _ _ ?_).trans ?_) <;> first | assumption | (simp; done) | (simp; omega) | omega | (go_keep; done) | (simp [*, zcA, zcP, zfA, zfP]; done) | (simp [zcA, zcP]; rfl)) | (repeat' first | exact zbR _ _ | assumption | refine zbD ?_ | refine zbA ?_ ?_ _ | refine zbS ?_ ?_ _ | refine zbT ?_ (by assumption) ?_ | (simp; done) | (simp; omega) | omega)))
        refine tL (v := ?_) 0 rfl (by kernel_rfl) (fun _ _ _ h => h) (Or.inl ⟨by rfl, ?_⟩) (by assumption) ?_; rotate_left
        · (intro w hSw; (try dsimp only at hSw); go_simp; try with_reducible rfl)
        try simp only [Act.put, zl, z0, z1]
        refine tL (v := ?_) 1 rfl (by kernel_rfl) (fun _ _ _ h => h) (Or.inl ⟨by rfl, ?_⟩) (by assumption) ?_; rotate_left
        · (intro w hSw; (try dsimp only at hSw); go_simp; try with_reducible rfl)
        try simp only [Act.put, zl, z0, z1]
        refine tL (v := ?_) 2 rfl (by kernel_rfl) (fun _ _ _ h => h) (Or.inl ⟨by rfl, ?_⟩) (by assumption) ?_; rotate_left
        · (intro w hSw; (try dsimp only at hSw); go_simp; try with_reducible rfl)
        try simp only [Act.put, zl, z0, z1]
        refine tL (v := ?_) 3 rfl (by kernel_rfl) (fun _ _ _ h => h) (Or.inl ⟨by rfl, ?_⟩) (by assumption) ?_; rotate_left
        · (intro w hSw; (try dsimp only at hSw); go_simp; try with_reducible rfl)
        try simp only [Act.put, zl, z0, z1]
        refine tL (v := ?_) 5 rfl (by kernel_rfl) (fun _ _ _ h => h) (Or.inl ⟨by rfl, ?_⟩) (by assumption) ?_; rotate_left
        · (intro w hSw; (try dsimp only at hSw); go_simp; try with_reducible rfl)
        try simp only [Act.put, zl, z0, z1]
        refine tL (v := ?_) 6 rfl (by kernel_rfl) (fun _ _ _ h => h) (Or.inl ⟨by rfl, ?_⟩) (by assumption) ?_; rotate_left
        · (intro w hSw; (try dsimp only at hSw); go_simp; try with_reducible rfl)
        try simp only [Act.put, zl, z0, z1]
        refine wpAnyH_ready (rs := [4]) (by kernel_rfl) (by simp) ?_
        refine consL 4 rfl (fun K hK => ?_) AllReadyH.nil
        go_simp
        (go_at_call 57; refine (plus_any _ k _ HWS.out).mono ?_; rintro e w' ⟨rfl, hb⟩; obtain ⟨hc, hf⟩ := bcell hb; have hz := hb.size; (try simp at hz))
        refine hK.out _ _ ?_ (fun hHeld1 => ?_)
        · (try dsimp only); (first | (go_keep; done) | (go_split_ands; (repeat' apply And.intro) <;> first | (go_keep; done) | (simp [*, zcA, zcP, zfA, zfP]; done) | (simp [zcA, zcP] <;> rfl) | (simp [*, zsS, zsO, zsA]; done) | ((first | refine (hc _ _ ?_).trans ?_ | refine (hf _ _ ?_).trans ?_) <;> first | assumption | (simp; done) | (simp; omega) | omega | (go_keep; done) | (simp [*, zcA, zcP, zfA, zfP]; done) | (simp [zcA, zcP]; rfl)) | (repeat' first | exact zbR _ _ | assumption | refine zbD ?_ | refine zbA ?_ ?_ _ | refine zbS ?_ ?_ _ | refine zbT ?_ (by assumption) ?_ | (simp; done) | (simp; omega) | omega)))
        clear hK K hHeld0
        try simp only [Act.put, zl, z0, z1]
        refine wpAnyH_ready (rs := [7]) (by kernel_rfl) (by simp) ?_
        refine consL 7 rfl (fun K hK => ?_) AllReadyH.nil
        go_simp
        (go_at_call 61; refine ((JJ.out _).out).mono ?_; rintro e w' ⟨rfl, hb⟩; obtain ⟨hc, hf⟩ := bcell hb; have hz := hb.size; (try simp at hz))
        refine hK.out _ _ ?_ (fun hHeld2 => ?_)
        · (try dsimp only); (first | (go_keep; done) | (go_split_ands; (repeat' apply And.intro) <;> first | (go_keep; done) | (simp [*, zcA, zcP, zfA, zfP]; done) | (simp [zcA, zcP] <;> rfl) | (simp [*, zsS, zsO, zsA]; done) | ((first | refine (hc _ _ ?_).trans ?_ | refine (hf _ _ ?_).trans ?_) <;> first | assumption | (simp; done) | (simp; omega) | omega | (go_keep; done) | (simp [*, zcA, zcP, zfA, zfP]; done) | (simp [zcA, zcP]; rfl)) | (repeat' first | exact zbR _ _ | assumption | refine zbD ?_ | refine zbA ?_ ?_ _ | refine zbS ?_ ?_ _ | refine zbT ?_ (by assumption) ?_ | (simp; done) | (simp; omega) | omega)))
        clear hK K hHeld1
        try simp only [Act.put, zl, z0, z1]
        refine tL (v := ?_) 8 rfl (by kernel_rfl) (fun _ _ _ h => h) (Or.inl ⟨by rfl, ?_⟩) (by assumption) ?_; rotate_left
        · (intro w hSw; (try dsimp only at hSw); go_simp; try with_reducible rfl)
        try simp only [Act.put, zl, z0, z1]
        refine tL (v := ?_) 9 rfl (by kernel_rfl) (fun _ _ _ h => h) (Or.inl ⟨by rfl, ?_⟩) (by assumption) ?_; rotate_left
        · (intro w hSw; (try dsimp only at hSw); go_simp; try with_reducible rfl)
        try simp only [Act.put, zl, z0, z1]
        refine wpAnyH_done (by kernel_rfl) ?_ _
        by_cases hb : M.pointsOfGame (M.ofSet f won) (M.isTie (M.ofSet f won) g) p k + M.lfg f s 6 (M.plus won k) M.zero < M.bestOf cost k
        · have HM : Hid (M.mn (M.bestOf cost k) (M.pointsOfGame (M.ofSet f won) (M.isTie (M.ofSet f won) g) p k + M.lfg f s 6 (M.plus won k) M.zero) = _) := hide (if_pos hb)
          go_wp2
          go_roundw
          case rel => exact ⟨k + 1, by omega, by go_num, by rw [HK.out, HM.out], by (first | (go_keep; done) | (go_split_ands; (repeat' apply And.intro) <;> first | (go_keep; done) | (simp [*, zcA, zcP, zfA, zfP]; done) | (simp [zcA, zcP] <;> rfl) | (simp [*, zsS, zsO, zsA]; done) | ((first | refine (hc _ _ ?_).trans ?_ | refine (hf _ _ ?_).trans ?_) <;> first | assumption | (simp; done) | (simp; omega) | omega | (go_keep; done) | (simp [*, zcA, zcP, zfA, zfP]; done) | (simp [zcA, zcP]; rfl)) | (repeat' first | exact zbR _ _ | assumption | refine zbD ?_ | refine zbA ?_ ?_ _ | refine zbS ?_ ?_ _ | refine zbT ?_ (by assumption) ?_ | (simp; done) | (simp; omega) | omega)))⟩
          case measure => simp [intOf]; omega
        · have HM : Hid (M.mn (M.bestOf cost k) (M.pointsOfGame (M.ofSet f won) (M.isTie (M.ofSet f won) g) p k + M.lfg f s 6 (M.plus won k) M.zero) = _) := hide (if_neg hb)
          go_wp2
          go_roundw
          case rel => exact ⟨k + 1, by omega, by go_num, by rw [HK.out, HM.out], by (first | (go_keep; done) | (go_split_ands; (repeat' apply And.intro) <;> first | (go_keep; done) | (simp [*, zcA, zcP, zfA, zfP]; done) | (simp [zcA, zcP] <;> rfl) | (simp [*, zsS, zsO, zsA]; done) | ((first | refine (hc _ _ ?_).trans ?_ | refine (hf _ _ ?_).trans ?_) <;> first | assumption | (simp; done) | (simp; omega) | omega | (go_keep; done) | (simp [*, zcA, zcP, zfA, zfP]; done) | (simp [zcA, zcP]; rfl)) | (repeat' first | exact zbR _ _ | assumption | refine zbD ?_ | refine zbA ?_ ?_ _ | refine zbS ?_ ?_ _ | refine zbT ?_ (by assumption) ?_ | (simp; done) | (simp; omega) | omega)))⟩
          case measure => simp [intOf]; omega
    · have hk2 : k = 2 := by omega
      subst hk2
      go_wp2
      go_ret
      exact ⟨by rw [HO.out]; rfl, by (go_split_ands; (repeat' first | exact zbR _ _ | assumption | refine zbD ?_ | refine zbA ?_ ?_ _ | refine zbS ?_ ?_ _ | refine zbT ?_ (by assumption) ?_ | (simp; done) | (simp; omega) | omega))⟩

end Go.Proofs.Ytbjmnlhehkcakaa

namespace Go.Proofs.Ytbjmnlhehkcakaa
open Go.RowKit
attribute [local go_sem ↓] Go.wp_at_zero Go.wp_at_succ

theorem sw_ok {f : M.Fm} {ps : List M.Pr} {g p : M.Pr} (h : M.swE f ps g p = 0) : M.Valid f ∧ M.numbered ps g p = true ∧ M.standB f ps g p = true ∧ M.swWon f ps g p = M.standWon f ps := by
  unfold M.swE at h
  cases hv : M.validB f
  · simp [hv] at h
  · cases hn : M.numbered ps g p
    · simp [hv, hn] at h
    · cases hs : M.standB f ps g p
      · simp [hv, hn, hs] at h
      · exact ⟨(M.validB_iff f).1 hv, rfl, rfl, by unfold M.swWon; rw [hv, hn, hs]; rfl⟩

set_option maxHeartbeats 8000000 in
theorem Least_any (f : M.Fm) (A : Option Addr) (n c : Nat) (ps : List M.Pr) (g p : M.Pr) (side : Int) (w : World) (hn : ps.length = n) (hr : RdP w w.heap.size A ps) (hm : n ≤ 1000000) :
    Calls Try.prog 20 #[.agg #[.int .i64 f.sets, .int .i64 f.games, .bool f.noAd, .int .i64 f.tie, .int .i64 f.to, .int .i64 f.lastTie, .int .i64 f.lastTo, .int .i64 f.first, .int .i64 f.next, .bool f.doubles], .agg #[.slice A n c, .int .i64 g.A, .int .i64 g.B, .int .i64 p.A, .int .i64 p.B], .int .i64 side] w fun e w' => e = .returned (.tuple #[.int .i64 (M.leastV f ps g p side), .int .i64 (M.leastE f ps g p side)]) ∧ Below w.heap.size w w' := by
  have HN := hide hn
  have HR := hide hr
  clear hn hr
  cases hsw : (M.swE f ps g p != 0)
  · have h0 : M.swE f ps g p = 0 := by simpa using hsw
    obtain ⟨hvv, hnu, hst, hwon⟩ := sw_ok h0
    cases hsd : M.within side 0 1
    · have h1 : M.leastE f ps g p side = 1 := by simp [M.leastE, h0, hsd]
      have h2 : M.leastV f ps g p side = 0 := by simp [M.leastV, h0, hsd]
      have hsn : ¬ (side = 0) ∧ ¬ (side = 1) := by simp [M.within] at hsd; omega
      have t0 : (side != 0) = true := by simpa using hsn.1
      have t1 : (side != 1) = true := by simpa using hsn.2
      rw [h1, h2]; clear h1 h2 h0 hvv hnu hst hwon hsn
      go_enter Try.func20, Try.ntmps20
      go_wp2_with (first | (go_at_call 45; refine (setsWon_any f A n c ps g p _ HN.out ((HR.out.below (by (repeat' first | exact zbR _ _ | assumption | refine zbD ?_ | refine zbA ?_ ?_ _ | refine zbS ?_ ?_ _ | refine zbT ?_ (by assumption) ?_ | (simp; done) | (simp; omega) | omega))).mono (by first | (simp; done) | (simp; omega))) hm).mono ?_; rintro e w1 ⟨rfl, hb⟩; obtain ⟨hc, hf⟩ := bcell hb; have hz := hb.size; (try simp at hz); have hSn : ((fun w' => Below w.heap.size w w' ∧ w.heap.size < w'.heap.size ∧ w.heap.size + 1 < w'.heap.size ∧ w'.cell? ⟨w.heap.size + 1, 0, none⟩ = some (.slice A n c) ∧ w'.cell? ⟨w.heap.size + 1, 1, none⟩ = some (.int .i64 g.A) ∧ w'.cell? ⟨w.heap.size + 1, 2, none⟩ = some (.int .i64 g.B) ∧ w'.cell? ⟨w.heap.size + 1, 3, none⟩ = some (.int .i64 p.A) ∧ w'.cell? ⟨w.heap.size + 1, 4, none⟩ = some (.int .i64 p.B) ∧ w'.cell? ⟨w.heap.size, 0, none⟩ = some (.int .i64 f.sets) ∧ w'.cell? ⟨w.heap.size, 1, none⟩ = some (.int .i64 f.games) ∧ w'.cell? ⟨w.heap.size, 2, none⟩ = some (.bool f.noAd) ∧ w'.cell? ⟨w.heap.size, 3, none⟩ = some (.int .i64 f.tie) ∧ w'.cell? ⟨w.heap.size, 4, none⟩ = some (.int .i64 f.to) ∧ w'.cell? ⟨w.heap.size, 5, none⟩ = some (.int .i64 f.lastTie) ∧ w'.cell? ⟨w.heap.size, 6, none⟩ = some (.int .i64 f.lastTo) ∧ w'.cell? ⟨w.heap.size, 7, none⟩ = some (.int .i64 f.first) ∧ w'.cell? ⟨w.heap.size, 8, none⟩ = some (.int .i64 f.next) ∧ w'.cell? ⟨w.heap.size, 9, none⟩ = some (.bool f.doubles))) w1 := (by (try dsimp only); (first | (go_keep; done) | (go_split_ands; (repeat' apply And.intro) <;> first | (go_keep; done) | (simp [*, zcA, zcP, zfA, zfP]; done) | (simp [zcA, zcP] <;> rfl) | (simp [*, zsS, zsO, zsA]; done) | ((first | refine (hc _ _ ?_).trans ?_ | refine (hf _ _ ?_).trans ?_) <;> first | assumption | (simp; done) | (simp; omega) | omega | (go_keep; done) | (simp [*, zcA, zcP, zfA, zfP]; done) | (simp [zcA, zcP]; rfl)) | (repeat' first | exact zbR _ _ | assumption | refine zbD ?_ | refine zbA ?_ ?_ _ | refine zbS ?_ ?_ _ | refine zbT ?_ (by assumption) ?_ | (simp; done) | (simp; omega) | omega)))); (try dsimp only at hSn); (try clear hS); have hS := hSn; clear hSn hc hf))
      go_ret2
      exact ⟨rfl, by (go_split_ands; (repeat' first | exact zbR _ _ | assumption | refine zbD ?_ | refine zbA ?_ ?_ _ | refine zbS ?_ ?_ _ | refine zbT ?_ (by assumption) ?_ | (simp; done) | (simp; omega) | omega))⟩
    · have hs0 : 0 ≤ side := by simp [M.within] at hsd; omega
      have hs1 : side ≤ 1 := by simp [M.within] at hsd; omega
      have hbd := M.standWon_bd hvv ps
      rw [← hwon] at hbd
      obtain ⟨_, _, hgf, hpf⟩ := M.numbered_parts hnu
      have HVV := hide hvv
      have HW0 := hide hbd.1
      have HGB := hide (fine_bd hgf)
      have HPB := hide (fine_bd hpf)
      cases hw1 : (M.winner f (M.swWon f ps g p) == side)
      · cases hw2 : (M.winner f (M.swWon f ps g p) == 1 - side)
        · have h1 : M.leastE f ps g p side = 0 := by simp [M.leastE, h0, hsd, (show ¬ M.winner f (M.swWon f ps g p) = side by simpa using hw1), (show ¬ M.winner f (M.swWon f ps g p) = 1 - side by simpa using hw2)]
          have h2 : M.leastV f ps g p side = M.lfp f side 6 (M.swWon f ps g p) g p := by simp [M.leastV, h0, hsd, (show ¬ M.winner f (M.swWon f ps g p) = side by simpa using hw1), (show ¬ M.winner f (M.swWon f ps g p) = 1 - side by simpa using hw2)]
          have HW1 := hide (M.winner_lt (f := f) (won := M.swWon f ps g p) (s := side) (by omega) hbd.2 (by simpa using hw1) (by simpa using hw2))
          rw [h1, h2]; clear h1 h2 h0 hvv hnu hst hwon hbd hgf hpf
          go_enter Try.func20, Try.ntmps20
          rcases (show side = 0 ∨ side = 1 by omega) with e | e
          all_goals
            subst e
            go_wp2_with (first | (go_at_call 45; refine (setsWon_any f A n c ps g p _ HN.out ((HR.out.below (by (repeat' first | exact zbR _ _ | assumption | refine zbD ?_ | refine zbA ?_ ?_ _ | refine zbS ?_ ?_ _ | refine zbT ?_ (by assumption) ?_ | (simp; done) | (simp; omega) | omega))).mono (by first | (simp; done) | (simp; omega))) hm).mono ?_; rintro e w1 ⟨rfl, hb⟩; obtain ⟨hc, hf⟩ := bcell hb; have hz := hb.size; (try simp at hz); have hSn : ((fun w' => Below w.heap.size w w' ∧ w.heap.size < w'.heap.size ∧ w.heap.size + 1 < w'.heap.size ∧ w'.cell? ⟨w.heap.size + 1, 0, none⟩ = some (.slice A n c) ∧ w'.cell? ⟨w.heap.size + 1, 1, none⟩ = some (.int .i64 g.A) ∧ w'.cell? ⟨w.heap.size + 1, 2, none⟩ = some (.int .i64 g.B) ∧ w'.cell? ⟨w.heap.size + 1, 3, none⟩ = some (.int .i64 p.A) ∧ w'.cell? ⟨w.heap.size + 1, 4, none⟩ = some (.int .i64 p.B) ∧ w'.cell? ⟨w.heap.size, 0, none⟩ = some (.int .i64 f.sets) ∧ w'.cell? ⟨w.heap.size, 1, none⟩ = some (.int .i64 f.games) ∧ w'.cell? ⟨w.heap.size, 2, none⟩ = some (.bool f.noAd) ∧ w'.cell? ⟨w.heap.size, 3, none⟩ = some (.int .i64 f.tie) ∧ w'.cell? ⟨w.heap.size, 4, none⟩ = some (.int .i64 f.to) ∧ w'.cell? ⟨w.heap.size, 5, none⟩ = some (.int .i64 f.lastTie) ∧ w'.cell? ⟨w.heap.size, 6, none⟩ = some (.int .i64 f.lastTo) ∧ w'.cell? ⟨w.heap.size, 7, none⟩ = some (.int .i64 f.first) ∧ w'.cell? ⟨w.heap.size, 8, none⟩ = some (.int .i64 f.next) ∧ w'.cell? ⟨w.heap.size, 9, none⟩ = some (.bool f.doubles))) w1 := (by (try dsimp only); (first | (go_keep; done) | (go_split_ands; (repeat' apply And.intro) <;> first | (go_keep; done) | (simp [*, zcA, zcP, zfA, zfP]; done) | (simp [zcA, zcP] <;> rfl) | (simp [*, zsS, zsO, zsA]; done) | ((first | refine (hc _ _ ?_).trans ?_ | refine (hf _ _ ?_).trans ?_) <;> first | assumption | (simp; done) | (simp; omega) | omega | (go_keep; done) | (simp [*, zcA, zcP, zfA, zfP]; done) | (simp [zcA, zcP]; rfl)) | (repeat' first | exact zbR _ _ | assumption | refine zbD ?_ | refine zbA ?_ ?_ _ | refine zbS ?_ ?_ _ | refine zbT ?_ (by assumption) ?_ | (simp; done) | (simp; omega) | omega)))); (try dsimp only at hSn); (try clear hS); have hS := hSn; clear hSn hc hf) | (go_at_call 46; refine (winner_any f (M.swWon f ps g p) _).mono ?_; rintro e w2 ⟨rfl, hb⟩; obtain ⟨hc, hf⟩ := bcell hb; have hz := hb.size; (try simp at hz); have hSn : ((fun w' => Below w.heap.size w w' ∧ w.heap.size < w'.heap.size ∧ w.heap.size + 1 < w'.heap.size ∧ w'.cell? ⟨w.heap.size + 1, 0, none⟩ = some (.slice A n c) ∧ w'.cell? ⟨w.heap.size + 1, 1, none⟩ = some (.int .i64 g.A) ∧ w'.cell? ⟨w.heap.size + 1, 2, none⟩ = some (.int .i64 g.B) ∧ w'.cell? ⟨w.heap.size + 1, 3, none⟩ = some (.int .i64 p.A) ∧ w'.cell? ⟨w.heap.size + 1, 4, none⟩ = some (.int .i64 p.B) ∧ w'.cell? ⟨w.heap.size, 0, none⟩ = some (.int .i64 f.sets) ∧ w'.cell? ⟨w.heap.size, 1, none⟩ = some (.int .i64 f.games) ∧ w'.cell? ⟨w.heap.size, 2, none⟩ = some (.bool f.noAd) ∧ w'.cell? ⟨w.heap.size, 3, none⟩ = some (.int .i64 f.tie) ∧ w'.cell? ⟨w.heap.size, 4, none⟩ = some (.int .i64 f.to) ∧ w'.cell? ⟨w.heap.size, 5, none⟩ = some (.int .i64 f.lastTie) ∧ w'.cell? ⟨w.heap.size, 6, none⟩ = some (.int .i64 f.lastTo) ∧ w'.cell? ⟨w.heap.size, 7, none⟩ = some (.int .i64 f.first) ∧ w'.cell? ⟨w.heap.size, 8, none⟩ = some (.int .i64 f.next) ∧ w'.cell? ⟨w.heap.size, 9, none⟩ = some (.bool f.doubles) ∧ w'.cell? ⟨w1.heap.size, 0, none⟩ = some (.int .i64 (M.swWon f ps g p).A) ∧ w'.cell? ⟨w1.heap.size, 1, none⟩ = some (.int .i64 (M.swWon f ps g p).B) ∧ w1.heap.size < w'.heap.size)) w2 := (by (try dsimp only); (first | (go_keep; done) | (go_split_ands; (repeat' apply And.intro) <;> first | (go_keep; done) | (simp [*, zcA, zcP, zfA, zfP]; done) | (simp [zcA, zcP] <;> rfl) | (simp [*, zsS, zsO, zsA]; done) | ((first | refine (hc _ _ ?_).trans ?_ | refine (hf _ _ ?_).trans ?_) <;> first | assumption | (simp; done) | (simp; omega) | omega | (go_keep; done) | (simp [*, zcA, zcP, zfA, zfP]; done) | (simp [zcA, zcP]; rfl)) | (repeat' first | exact zbR _ _ | assumption | refine zbD ?_ | refine zbA ?_ ?_ _ | refine zbS ?_ ?_ _ | refine zbT ?_ (by assumption) ?_ | (simp; done) | (simp; omega) | omega)))); (try dsimp only at hSn); (try clear hS); have hS := hSn; clear hSn hc hf) | (go_at_call 47; refine (lfp_any f _ (.slice A n c) (M.swWon f ps g p) g p _ HVV.out hs0 hs1 HW0.out HW1.out HGB.out HPB.out A n c rfl).mono ?_; rintro e w3 ⟨rfl, hb⟩; obtain ⟨hc, hf⟩ := bcell hb; have hz := hb.size; (try simp at hz); have hSn : ((fun w' => Below w.heap.size w w')) w3 := (by (try dsimp only); (first | (go_keep; done) | (go_split_ands; (repeat' apply And.intro) <;> first | (go_keep; done) | (simp [*, zcA, zcP, zfA, zfP]; done) | (simp [zcA, zcP] <;> rfl) | (simp [*, zsS, zsO, zsA]; done) | ((first | refine (hc _ _ ?_).trans ?_ | refine (hf _ _ ?_).trans ?_) <;> first | assumption | (simp; done) | (simp; omega) | omega | (go_keep; done) | (simp [*, zcA, zcP, zfA, zfP]; done) | (simp [zcA, zcP]; rfl)) | (repeat' first | exact zbR _ _ | assumption | refine zbD ?_ | refine zbA ?_ ?_ _ | refine zbS ?_ ?_ _ | refine zbT ?_ (by assumption) ?_ | (simp; done) | (simp; omega) | omega)))); (try dsimp only at hSn); (try clear hS); have hS := hSn; clear hSn hc hf))
            go_ret2
            exact ⟨rfl, by (go_split_ands; (repeat' first | exact zbR _ _ | assumption | refine zbD ?_ | refine zbA ?_ ?_ _ | refine zbS ?_ ?_ _ | refine zbT ?_ (by assumption) ?_ | (simp; done) | (simp; omega) | omega))⟩
        · have h1 : M.leastE f ps g p side = 3 := by
            have n1 : ¬ M.winner f (M.swWon f ps g p) = side := by simpa using hw1
            unfold M.leastE; rw [if_neg (fun h => h h0), if_pos hsd, if_neg n1, if_pos (by simpa using hw2)]
          have h2 : M.leastV f ps g p side = 0 := by
            have n1 : ¬ M.winner f (M.swWon f ps g p) = side := by simpa using hw1
            unfold M.leastV; rw [if_neg (fun h => h h0), if_pos hsd, if_neg n1, if_pos (by simpa using hw2)]
          rw [h1, h2]; clear h1 h2 h0 hvv hnu hst hwon hbd hgf hpf
          go_enter Try.func20, Try.ntmps20
          rcases (show side = 0 ∨ side = 1 by omega) with e | e
          all_goals
            subst e
            go_wp2_with (first | (go_at_call 45; refine (setsWon_any f A n c ps g p _ HN.out ((HR.out.below (by (repeat' first | exact zbR _ _ | assumption | refine zbD ?_ | refine zbA ?_ ?_ _ | refine zbS ?_ ?_ _ | refine zbT ?_ (by assumption) ?_ | (simp; done) | (simp; omega) | omega))).mono (by first | (simp; done) | (simp; omega))) hm).mono ?_; rintro e w1 ⟨rfl, hb⟩; obtain ⟨hc, hf⟩ := bcell hb; have hz := hb.size; (try simp at hz); have hSn : ((fun w' => Below w.heap.size w w' ∧ w.heap.size < w'.heap.size ∧ w.heap.size + 1 < w'.heap.size ∧ w'.cell? ⟨w.heap.size + 1, 0, none⟩ = some (.slice A n c) ∧ w'.cell? ⟨w.heap.size + 1, 1, none⟩ = some (.int .i64 g.A) ∧ w'.cell? ⟨w.heap.size + 1, 2, none⟩ = some (.int .i64 g.B) ∧ w'.cell? ⟨w.heap.size + 1, 3, none⟩ = some (.int .i64 p.A) ∧ w'.cell? ⟨w.heap.size + 1, 4, none⟩ = some (.int .i64 p.B) ∧ w'.cell? ⟨w.heap.size, 0, none⟩ = some (.int .i64 f.sets) ∧ w'.cell? ⟨w.heap.size, 1, none⟩ = some (.int .i64 f.games) ∧ w'.cell? ⟨w.heap.size, 2, none⟩ = some (.bool f.noAd) ∧ w'.cell? ⟨w.heap.size, 3, none⟩ = some (.int .i64 f.tie) ∧ w'.cell? ⟨w.heap.size, 4, none⟩ = some (.int .i64 f.to) ∧ w'.cell? ⟨w.heap.size, 5, none⟩ = some (.int .i64 f.lastTie) ∧ w'.cell? ⟨w.heap.size, 6, none⟩ = some (.int .i64 f.lastTo) ∧ w'.cell? ⟨w.heap.size, 7, none⟩ = some (.int .i64 f.first) ∧ w'.cell? ⟨w.heap.size, 8, none⟩ = some (.int .i64 f.next) ∧ w'.cell? ⟨w.heap.size, 9, none⟩ = some (.bool f.doubles))) w1 := (by (try dsimp only); (first | (go_keep; done) | (go_split_ands; (repeat' apply And.intro) <;> first | (go_keep; done) | (simp [*, zcA, zcP, zfA, zfP]; done) | (simp [zcA, zcP] <;> rfl) | (simp [*, zsS, zsO, zsA]; done) | ((first | refine (hc _ _ ?_).trans ?_ | refine (hf _ _ ?_).trans ?_) <;> first | assumption | (simp; done) | (simp; omega) | omega | (go_keep; done) | (simp [*, zcA, zcP, zfA, zfP]; done) | (simp [zcA, zcP]; rfl)) | (repeat' first | exact zbR _ _ | assumption | refine zbD ?_ | refine zbA ?_ ?_ _ | refine zbS ?_ ?_ _ | refine zbT ?_ (by assumption) ?_ | (simp; done) | (simp; omega) | omega)))); (try dsimp only at hSn); (try clear hS); have hS := hSn; clear hSn hc hf) | (go_at_call 46; refine (winner_any f (M.swWon f ps g p) _).mono ?_; rintro e w2 ⟨rfl, hb⟩; obtain ⟨hc, hf⟩ := bcell hb; have hz := hb.size; (try simp at hz); have hSn : ((fun w' => Below w.heap.size w w' ∧ w.heap.size < w'.heap.size ∧ w.heap.size + 1 < w'.heap.size ∧ w'.cell? ⟨w.heap.size + 1, 0, none⟩ = some (.slice A n c) ∧ w'.cell? ⟨w.heap.size + 1, 1, none⟩ = some (.int .i64 g.A) ∧ w'.cell? ⟨w.heap.size + 1, 2, none⟩ = some (.int .i64 g.B) ∧ w'.cell? ⟨w.heap.size + 1, 3, none⟩ = some (.int .i64 p.A) ∧ w'.cell? ⟨w.heap.size + 1, 4, none⟩ = some (.int .i64 p.B) ∧ w'.cell? ⟨w.heap.size, 0, none⟩ = some (.int .i64 f.sets) ∧ w'.cell? ⟨w.heap.size, 1, none⟩ = some (.int .i64 f.games) ∧ w'.cell? ⟨w.heap.size, 2, none⟩ = some (.bool f.noAd) ∧ w'.cell? ⟨w.heap.size, 3, none⟩ = some (.int .i64 f.tie) ∧ w'.cell? ⟨w.heap.size, 4, none⟩ = some (.int .i64 f.to) ∧ w'.cell? ⟨w.heap.size, 5, none⟩ = some (.int .i64 f.lastTie) ∧ w'.cell? ⟨w.heap.size, 6, none⟩ = some (.int .i64 f.lastTo) ∧ w'.cell? ⟨w.heap.size, 7, none⟩ = some (.int .i64 f.first) ∧ w'.cell? ⟨w.heap.size, 8, none⟩ = some (.int .i64 f.next) ∧ w'.cell? ⟨w.heap.size, 9, none⟩ = some (.bool f.doubles) ∧ w'.cell? ⟨w1.heap.size, 0, none⟩ = some (.int .i64 (M.swWon f ps g p).A) ∧ w'.cell? ⟨w1.heap.size, 1, none⟩ = some (.int .i64 (M.swWon f ps g p).B) ∧ w1.heap.size < w'.heap.size)) w2 := (by (try dsimp only); (first | (go_keep; done) | (go_split_ands; (repeat' apply And.intro) <;> first | (go_keep; done) | (simp [*, zcA, zcP, zfA, zfP]; done) | (simp [zcA, zcP] <;> rfl) | (simp [*, zsS, zsO, zsA]; done) | ((first | refine (hc _ _ ?_).trans ?_ | refine (hf _ _ ?_).trans ?_) <;> first | assumption | (simp; done) | (simp; omega) | omega | (go_keep; done) | (simp [*, zcA, zcP, zfA, zfP]; done) | (simp [zcA, zcP]; rfl)) | (repeat' first | exact zbR _ _ | assumption | refine zbD ?_ | refine zbA ?_ ?_ _ | refine zbS ?_ ?_ _ | refine zbT ?_ (by assumption) ?_ | (simp; done) | (simp; omega) | omega)))); (try dsimp only at hSn); (try clear hS); have hS := hSn; clear hSn hc hf) | (go_at_call 47; refine (lfp_any f _ (.slice A n c) (M.swWon f ps g p) g p _ HVV.out hs0 hs1 HW0.out HW1.out HGB.out HPB.out A n c rfl).mono ?_; rintro e w3 ⟨rfl, hb⟩; obtain ⟨hc, hf⟩ := bcell hb; have hz := hb.size; (try simp at hz); have hSn : ((fun w' => Below w.heap.size w w')) w3 := (by (try dsimp only); (first | (go_keep; done) | (go_split_ands; (repeat' apply And.intro) <;> first | (go_keep; done) | (simp [*, zcA, zcP, zfA, zfP]; done) | (simp [zcA, zcP] <;> rfl) | (simp [*, zsS, zsO, zsA]; done) | ((first | refine (hc _ _ ?_).trans ?_ | refine (hf _ _ ?_).trans ?_) <;> first | assumption | (simp; done) | (simp; omega) | omega | (go_keep; done) | (simp [*, zcA, zcP, zfA, zfP]; done) | (simp [zcA, zcP]; rfl)) | (repeat' first | exact zbR _ _ | assumption | refine zbD ?_ | refine zbA ?_ ?_ _ | refine zbS ?_ ?_ _ | refine zbT ?_ (by assumption) ?_ | (simp; done) | (simp; omega) | omega)))); (try dsimp only at hSn); (try clear hS); have hS := hSn; clear hSn hc hf))
            go_ret2
            exact ⟨rfl, by (go_split_ands; (repeat' first | exact zbR _ _ | assumption | refine zbD ?_ | refine zbA ?_ ?_ _ | refine zbS ?_ ?_ _ | refine zbT ?_ (by assumption) ?_ | (simp; done) | (simp; omega) | omega))⟩
      · have h1 : M.leastE f ps g p side = 0 := by unfold M.leastE; rw [if_neg (fun h => h h0), if_pos hsd, if_pos (by simpa using hw1)]
        have h2 : M.leastV f ps g p side = 0 := by unfold M.leastV; rw [if_neg (fun h => h h0), if_pos hsd, if_pos (by simpa using hw1)]
        rw [h1, h2]; clear h1 h2 h0 hvv hnu hst hwon hbd hgf hpf
        go_enter Try.func20, Try.ntmps20
        rcases (show side = 0 ∨ side = 1 by omega) with e | e
        all_goals
          subst e
          go_wp2_with (first | (go_at_call 45; refine (setsWon_any f A n c ps g p _ HN.out ((HR.out.below (by (repeat' first | exact zbR _ _ | assumption | refine zbD ?_ | refine zbA ?_ ?_ _ | refine zbS ?_ ?_ _ | refine zbT ?_ (by assumption) ?_ | (simp; done) | (simp; omega) | omega))).mono (by first | (simp; done) | (simp; omega))) hm).mono ?_; rintro e w1 ⟨rfl, hb⟩; obtain ⟨hc, hf⟩ := bcell hb; have hz := hb.size; (try simp at hz); have hSn : ((fun w' => Below w.heap.size w w' ∧ w.heap.size < w'.heap.size ∧ w.heap.size + 1 < w'.heap.size ∧ w'.cell? ⟨w.heap.size + 1, 0, none⟩ = some (.slice A n c) ∧ w'.cell? ⟨w.heap.size + 1, 1, none⟩ = some (.int .i64 g.A) ∧ w'.cell? ⟨w.heap.size + 1, 2, none⟩ = some (.int .i64 g.B) ∧ w'.cell? ⟨w.heap.size + 1, 3, none⟩ = some (.int .i64 p.A) ∧ w'.cell? ⟨w.heap.size + 1, 4, none⟩ = some (.int .i64 p.B) ∧ w'.cell? ⟨w.heap.size, 0, none⟩ = some (.int .i64 f.sets) ∧ w'.cell? ⟨w.heap.size, 1, none⟩ = some (.int .i64 f.games) ∧ w'.cell? ⟨w.heap.size, 2, none⟩ = some (.bool f.noAd) ∧ w'.cell? ⟨w.heap.size, 3, none⟩ = some (.int .i64 f.tie) ∧ w'.cell? ⟨w.heap.size, 4, none⟩ = some (.int .i64 f.to) ∧ w'.cell? ⟨w.heap.size, 5, none⟩ = some (.int .i64 f.lastTie) ∧ w'.cell? ⟨w.heap.size, 6, none⟩ = some (.int .i64 f.lastTo) ∧ w'.cell? ⟨w.heap.size, 7, none⟩ = some (.int .i64 f.first) ∧ w'.cell? ⟨w.heap.size, 8, none⟩ = some (.int .i64 f.next) ∧ w'.cell? ⟨w.heap.size, 9, none⟩ = some (.bool f.doubles))) w1 := (by (try dsimp only); (first | (go_keep; done) | (go_split_ands; (repeat' apply And.intro) <;> first | (go_keep; done) | (simp [*, zcA, zcP, zfA, zfP]; done) | (simp [zcA, zcP] <;> rfl) | (simp [*, zsS, zsO, zsA]; done) | ((first | refine (hc _ _ ?_).trans ?_ | refine (hf _ _ ?_).trans ?_) <;> first | assumption | (simp; done) | (simp; omega) | omega | (go_keep; done) | (simp [*, zcA, zcP, zfA, zfP]; done) | (simp [zcA, zcP]; rfl)) | (repeat' first | exact zbR _ _ | assumption | refine zbD ?_ | refine zbA ?_ ?_ _ | refine zbS ?_ ?_ _ | refine zbT ?_ (by assumption) ?_ | (simp; done) | (simp; omega) | omega)))); (try dsimp only at hSn); (try clear hS); have hS := hSn; clear hSn hc hf) | (go_at_call 46; refine (winner_any f (M.swWon f ps g p) _).mono ?_; rintro e w2 ⟨rfl, hb⟩; obtain ⟨hc, hf⟩ := bcell hb; have hz := hb.size; (try simp at hz); have hSn : ((fun w' => Below w.heap.size w w' ∧ w.heap.size < w'.heap.size ∧ w.heap.size + 1 < w'.heap.size ∧ w'.cell? ⟨w.heap.size + 1, 0, none⟩ = some (.slice A n c) ∧ w'.cell? ⟨w.heap.size + 1, 1, none⟩ = some (.int .i64 g.A) ∧ w'.cell? ⟨w.heap.size + 1, 2, none⟩ = some (.int .i64 g.B) ∧ w'.cell? ⟨w.heap.size + 1, 3, none⟩ = some (.int .i64 p.A) ∧ w'.cell? ⟨w.heap.size + 1, 4, none⟩ = some (.int .i64 p.B) ∧ w'.cell? ⟨w.heap.size, 0, none⟩ = some (.int .i64 f.sets) ∧ w'.cell? ⟨w.heap.size, 1, none⟩ = some (.int .i64 f.games) ∧ w'.cell? ⟨w.heap.size, 2, none⟩ = some (.bool f.noAd) ∧ w'.cell? ⟨w.heap.size, 3, none⟩ = some (.int .i64 f.tie) ∧ w'.cell? ⟨w.heap.size, 4, none⟩ = some (.int .i64 f.to) ∧ w'.cell? ⟨w.heap.size, 5, none⟩ = some (.int .i64 f.lastTie) ∧ w'.cell? ⟨w.heap.size, 6, none⟩ = some (.int .i64 f.lastTo) ∧ w'.cell? ⟨w.heap.size, 7, none⟩ = some (.int .i64 f.first) ∧ w'.cell? ⟨w.heap.size, 8, none⟩ = some (.int .i64 f.next) ∧ w'.cell? ⟨w.heap.size, 9, none⟩ = some (.bool f.doubles) ∧ w'.cell? ⟨w1.heap.size, 0, none⟩ = some (.int .i64 (M.swWon f ps g p).A) ∧ w'.cell? ⟨w1.heap.size, 1, none⟩ = some (.int .i64 (M.swWon f ps g p).B) ∧ w1.heap.size < w'.heap.size)) w2 := (by (try dsimp only); (first | (go_keep; done) | (go_split_ands; (repeat' apply And.intro) <;> first | (go_keep; done) | (simp [*, zcA, zcP, zfA, zfP]; done) | (simp [zcA, zcP] <;> rfl) | (simp [*, zsS, zsO, zsA]; done) | ((first | refine (hc _ _ ?_).trans ?_ | refine (hf _ _ ?_).trans ?_) <;> first | assumption | (simp; done) | (simp; omega) | omega | (go_keep; done) | (simp [*, zcA, zcP, zfA, zfP]; done) | (simp [zcA, zcP]; rfl)) | (repeat' first | exact zbR _ _ | assumption | refine zbD ?_ | refine zbA ?_ ?_ _ | refine zbS ?_ ?_ _ | refine zbT ?_ (by assumption) ?_ | (simp; done) | (simp; omega) | omega)))); (try dsimp only at hSn); (try clear hS); have hS := hSn; clear hSn hc hf) | (go_at_call 47; refine (lfp_any f _ (.slice A n c) (M.swWon f ps g p) g p _ HVV.out hs0 hs1 HW0.out HW1.out HGB.out HPB.out A n c rfl).mono ?_; rintro e w3 ⟨rfl, hb⟩; obtain ⟨hc, hf⟩ := bcell hb; have hz := hb.size; (try simp at hz); have hSn : ((fun w' => Below w.heap.size w w')) w3 := (by (try dsimp only); (first | (go_keep; done) | (go_split_ands; (repeat' apply And.intro) <;> first | (go_keep; done) | (simp [*, zcA, zcP, zfA, zfP]; done) | (simp [zcA, zcP] <;> rfl) | (simp [*, zsS, zsO, zsA]; done) | ((first | refine (hc _ _ ?_).trans ?_ | refine (hf _ _ ?_).trans ?_) <;> first | assumption | (simp; done) | (simp; omega) | omega | (go_keep; done) | (simp [*, zcA, zcP, zfA, zfP]; done) | (simp [zcA, zcP]; rfl)) | (repeat' first | exact zbR _ _ | assumption | refine zbD ?_ | refine zbA ?_ ?_ _ | refine zbS ?_ ?_ _ | refine zbT ?_ (by assumption) ?_ | (simp; done) | (simp; omega) | omega)))); (try dsimp only at hSn); (try clear hS); have hS := hSn; clear hSn hc hf))
          go_ret2
          exact ⟨rfl, by (go_split_ands; (repeat' first | exact zbR _ _ | assumption | refine zbD ?_ | refine zbA ?_ ?_ _ | refine zbS ?_ ?_ _ | refine zbT ?_ (by assumption) ?_ | (simp; done) | (simp; omega) | omega))⟩
  · have h0 : M.swE f ps g p ≠ 0 := by simpa using hsw
    have h1 : M.leastE f ps g p side = M.swE f ps g p := if_pos h0
    have h2 : M.leastV f ps g p side = 0 := if_pos h0
    rw [h1, h2]; clear h1 h2 h0
    go_enter Try.func20, Try.ntmps20
    go_wp2_with (first | (go_at_call 45; refine (setsWon_any f A n c ps g p _ HN.out ((HR.out.below (by (repeat' first | exact zbR _ _ | assumption | refine zbD ?_ | refine zbA ?_ ?_ _ | refine zbS ?_ ?_ _ | refine zbT ?_ (by assumption) ?_ | (simp; done) | (simp; omega) | omega))).mono (by first | (simp; done) | (simp; omega))) hm).mono ?_; rintro e w1 ⟨rfl, hb⟩; obtain ⟨hc, hf⟩ := bcell hb; have hz := hb.size; (try simp at hz); have hSn : ((fun w' => Below w.heap.size w w' ∧ w.heap.size < w'.heap.size ∧ w.heap.size + 1 < w'.heap.size ∧ w'.cell? ⟨w.heap.size + 1, 0, none⟩ = some (.slice A n c) ∧ w'.cell? ⟨w.heap.size + 1, 1, none⟩ = some (.int .i64 g.A) ∧ w'.cell? ⟨w.heap.size + 1, 2, none⟩ = some (.int .i64 g.B) ∧ w'.cell? ⟨w.heap.size + 1, 3, none⟩ = some (.int .i64 p.A) ∧ w'.cell? ⟨w.heap.size + 1, 4, none⟩ = some (.int .i64 p.B) ∧ w'.cell? ⟨w.heap.size, 0, none⟩ = some (.int .i64 f.sets) ∧ w'.cell? ⟨w.heap.size, 1, none⟩ = some (.int .i64 f.games) ∧ w'.cell? ⟨w.heap.size, 2, none⟩ = some (.bool f.noAd) ∧ w'.cell? ⟨w.heap.size, 3, none⟩ = some (.int .i64 f.tie) ∧ w'.cell? ⟨w.heap.size, 4, none⟩ = some (.int .i64 f.to) ∧ w'.cell? ⟨w.heap.size, 5, none⟩ = some (.int .i64 f.lastTie) ∧ w'.cell? ⟨w.heap.size, 6, none⟩ = some (.int .i64 f.lastTo) ∧ w'.cell? ⟨w.heap.size, 7, none⟩ = some (.int .i64 f.first) ∧ w'.cell? ⟨w.heap.size, 8, none⟩ = some (.int .i64 f.next) ∧ w'.cell? ⟨w.heap.size, 9, none⟩ = some (.bool f.doubles))) w1 := (by (try dsimp only); (first | (go_keep; done) | (go_split_ands; (repeat' apply And.intro) <;> first | (go_keep; done) | (simp [*, zcA, zcP, zfA, zfP]; done) | (simp [zcA, zcP] <;> rfl) | (simp [*, zsS, zsO, zsA]; done) | ((first | refine (hc _ _ ?_).trans ?_ | refine (hf _ _ ?_).trans ?_) <;> first | assumption | (simp; done) | (simp; omega) | omega | (go_keep; done) | (simp [*, zcA, zcP, zfA, zfP]; done) | (simp [zcA, zcP]; rfl)) | (repeat' first | exact zbR _ _ | assumption | refine zbD ?_ | refine zbA ?_ ?_ _ | refine zbS ?_ ?_ _ | refine zbT ?_ (by assumption) ?_ | (simp; done) | (simp; omega) | omega)))); (try dsimp only at hSn); (try clear hS); have hS := hSn; clear hSn hc hf))
    go_ret2
    exact ⟨rfl, by (go_split_ands; (repeat' first | exact zbR _ _ | assumption | refine zbD ?_ | refine zbA ?_ ?_ _ | refine zbS ?_ ?_ _ | refine zbT ?_ (by assumption) ?_ | (simp; done) | (simp; omega) | omega))⟩

end Go.Proofs.Ytbjmnlhehkcakaa
