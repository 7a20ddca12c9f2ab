/-
  Part of a claim's texts: contracts of the program's functions and the plain functions that they compute, in build order.
-/
import Derived.KernelRfl
import Derived.Test.YtbjmnlhehkcakaaRows
import Derived.WalkKit
import Derived.WalkSpells
import Derived.WalkLawsBesides
import Derived.DeepKeys4
import Derived.Maps.OwnOps
import Derived.Maps.Views
import Derived.Maps.OwnSet
import Derived.Test.YtbjmnlhehkcakaaZB01
import Derived.Test.YtbjmnlhehkcakaaZB02
import Derived.Test.YtbjmnlhehkcakaaZB03
import Derived.Test.YtbjmnlhehkcakaaZB07
namespace Go.Proofs.Ytbjmnlhehkcakaa
open Go.RowKit
attribute [local go_sem ↓] Go.wp_at_zero Go.wp_at_succ

theorem owns_mono {w : World} {base base' : Nat} {e : TypeId} {size : Nat} {v : Value} {n : Nat} {xs : List Value} (h : w.ownsRow base e size v n xs) (hb : base' ≤ base) : w.ownsRow base' e size v n xs :=
  ⟨h.1, h.2.imp id fun ⟨g, cap, cur, e1, hg, r⟩ => ⟨g, cap, cur, e1, Nat.le_trans hb hg, r⟩⟩
theorem PlayPost.err {f : M.Fm} {first : Int} {xs : List Int} {w w' : World} {m : M.Mt} {l : List Int} (hv : M.validB f = true) (hf : M.within first 0 1 = true) (hl : xs.length ≤ 600) (hp : M.playF m l = M.playF (M.start f first) xs) (hn : M.playF m l = none) (hb : Below w.heap.size w w') :
    PlayPost f first xs w (.returned (.tuple #[.agg #[.int .i64 0, .int .i64 0, .bool false, .int .i64 0, .int .i64 0, .int .i64 0, .int .i64 0, .int .i64 0, .int .i64 0, .bool false, .slice none 0 0, .int .i64 0, .int .i64 0, .int .i64 0, .int .i64 0, .int .i64 0, .int .i64 0, .int .i64 0, .int .i64 0, .int .i64 0, .int .i64 0, .int .i64 0, .bool false, .slice none 0 0], .int .i64 11])) w' := by
  rw [hn] at hp
  refine PlayPost.no ?_ ?_ hb
  · unfold M.playM; rw [if_pos hv, if_pos hf, if_neg (by omega), ← hp]; rfl
  · unfold M.playE; rw [if_pos hv, if_pos hf, if_neg (by omega), ← hp]

theorem play_fin {f : M.Fm} {first : Int} {xs : List Int} {w wr : World} {m : M.Mt} {q : Nat} {sv gv : Value} {old : Array Value} (hv : M.validB f = true) (hf : M.within first 0 1 = true) (hl : xs.length ≤ 600) (hp : some m = M.playF (M.start f first) xs) (h : MAt wr q q m sv gv)
    (h71 : wr.heap[w.heap.size + 1]? = some (.cells old 75 (0, 0))) (hq : w.heap.size ≤ q) (hb : Below w.heap.size w wr) :
    PlayPost f first xs w (.returned (.tuple #[.agg #[.int .i64 m.f.sets, .int .i64 m.f.games, .bool m.f.noAd, .int .i64 m.f.tie, .int .i64 m.f.to, .int .i64 m.f.lastTie, .int .i64 m.f.lastTo, .int .i64 m.f.first, .int .i64 m.f.next, .bool m.f.doubles, sv, .int .i64 m.games.A, .int .i64 m.games.B, .int .i64 m.pts.A, .int .i64 m.pts.B, .int .i64 m.server, .int .i64 m.ends, .int .i64 m.balls, .int .i64 m.winner, .int .i64 m.opens, .int .i64 m.won.A, .int .i64 m.won.B, .bool m.fresh, gv], .int .i64 0])) (wr.setRow (w.heap.size + 1) #[.int .i64 m.f.sets, .int .i64 m.f.games, .bool m.f.noAd, .int .i64 m.f.tie, .int .i64 m.f.to, .int .i64 m.f.lastTie, .int .i64 m.f.lastTo, .int .i64 m.f.first, .int .i64 m.f.next, .bool m.f.doubles, sv, .int .i64 m.games.A, .int .i64 m.games.B, .int .i64 m.pts.A, .int .i64 m.pts.B, .int .i64 m.server, .int .i64 m.ends, .int .i64 m.balls, .int .i64 m.winner, .int .i64 m.opens, .int .i64 m.won.A, .int .i64 m.won.B, .bool m.fresh, gv]) := by
  have hg : wr.grownBy (wr.setRow (w.heap.size + 1) #[.int .i64 m.f.sets, .int .i64 m.f.games, .bool m.f.noAd, .int .i64 m.f.tie, .int .i64 m.f.to, .int .i64 m.f.lastTie, .int .i64 m.f.lastTo, .int .i64 m.f.first, .int .i64 m.f.next, .bool m.f.doubles, sv, .int .i64 m.games.A, .int .i64 m.games.B, .int .i64 m.pts.A, .int .i64 m.pts.B, .int .i64 m.server, .int .i64 m.ends, .int .i64 m.balls, .int .i64 m.winner, .int .i64 m.opens, .int .i64 m.won.A, .int .i64 m.won.B, .bool m.fresh, gv]) (some (w.heap.size + 1)) := ⟨rfl, rfl, rfl, by simp, fun k _ hk => setRow_other wr _ k _ (fun e => hk (by rw [e]))⟩
  have e1 : M.playM f first xs = m := by unfold M.playM; rw [if_pos hv, if_pos hf, if_neg (by omega), ← hp]; rfl
  have e2 : M.playE f first xs = 0 := by unfold M.playE; rw [if_pos hv, if_pos hf, if_neg (by omega), ← hp]
  refine ⟨sv, gv, by rw [e1, e2], ?_, ?_, ?_⟩
  · rw [e1]; exact owns_mono (h.2.2.1.kept hg (.inr (row_ne h.2.2.1 h71 (by decide)))) hq
  · rw [e1]; exact owns_mono (h.2.2.2.kept hg (.inr (row_ne h.2.2.2 h71 (by decide)))) hq
  · exact ⟨hb.os, hb.tape, hb.output, by simp; exact hb.size, fun i hi => (setRow_other wr _ i _ (by omega)).trans (hb.block i hi)⟩

set_option maxHeartbeats 4000000 in
set_option maxRecDepth 100000 in
theorem play_yes (f : M.Fm) (first : Int) (A : Option Addr) (n c : Nat) (xs : List Int) (w : World) (hn : xs.length = n) (hr : RdI w w.heap.size A xs) (hm : n ≤ 600) (hv : M.validB f = true) (hf : M.within first 0 1 = true) :
    Calls Try.prog 39 #[.agg #[.int .i64 f.sets, .int .i64 f.games, .bool f.noAd, .int .i64 f.tie, .int .i64 f.to, .int .i64 f.lastTie, .int .i64 f.lastTo, .int .i64 f.first, .int .i64 f.next, .bool f.doubles], .int .i64 first, .slice A n c] w fun e w' => PlayPost f first xs w e w' := by
  have HN := hide hn
  have HR := hide hr
  have HV := hide hv
  have HF := hide hf
  have hff : first = 0 ∨ first = 1 := by simp [M.within] at hf; omega
  have HST := hide (M.start_ok (f := f) (first := first) ((M.validB_iff f).1 hv) (by omega))
  have hl2 : ¬ (600 : Int) < (n : Int) := by omega
  have hdec : decide ((600 : Int) < (n : Int)) = false := by simpa using hl2
  have hguard : ((first != 0) = false) ∨ ((first != 0) = true ∧ (first != 1) = false) := by
    rcases hff with e | e
    · left; rw [e]; rfl
    · right; rw [e]; exact ⟨rfl, rfl⟩
  clear hn hr hf hff
  go_enter Try.func39, Try.ntmps39
  rcases hguard with hg0 | ⟨hg0, hg1⟩
  all_goals
    go_upto_region 9 with (first | (go_at_call 11; refine (Check_good f _ HV.out).mono ?_; rintro e w1 ⟨rfl, hb1⟩; have h71 : w1.heap[w.heap.size + 1]? = some (.cells #[.int .i64 0, .int .i64 0, .bool false, .int .i64 0, .int .i64 0, .int .i64 0, .int .i64 0, .int .i64 0, .int .i64 0, .bool false, .slice none 0 0, .int .i64 0, .int .i64 0, .int .i64 0, .int .i64 0, .int .i64 0, .int .i64 0, .int .i64 0, .int .i64 0, .int .i64 0, .int .i64 0, .int .i64 0, .bool false, .slice none 0 0] 75 (0, 0)) := (hb1.block _ (by simp)).trans (heap_alloc2_new w _ _); have h23 := (hb1.block w.heap.size (by simp; omega)).trans (heap_alloc2_old w _ _); have hcf := fun i => cell_of_row w1 w.heap.size i _ _ _ h23; have hq1 : w.heap.size + 1 < w1.heap.size := (by have := hb1.size; simp at this; omega); have HB1 := hide (show Below w.heap.size w w1 from Below.trans (by (repeat' first | exact zbR _ _ | assumption | refine zbD ?_ | refine zbA ?_ ?_ _ | refine zbS ?_ ?_ _ | refine zbT ?_ (by assumption) ?_ | (simp; done) | (simp; omega) | omega)) (hb1.mono (by simp; omega))); clear hb1 h23) | (refine wpList_store_row rfl 75 _ _ rfl w1.heap.size _ rfl rfl 75 _ (heap_alloc_new w1 _) matchRow rfl (by simp [Value.oneCell']) ?_))
    have h2 : MAt (World.setRow (w1.alloc (.cells #[.int .i64 0, .int .i64 0, .bool false, .int .i64 0, .int .i64 0, .int .i64 0, .int .i64 0, .int .i64 0, .int .i64 0, .bool false, .slice none 0 0, .int .i64 0, .int .i64 0, .int .i64 0, .int .i64 0, .int .i64 0, .int .i64 0, .int .i64 0, .int .i64 0, .int .i64 0, .int .i64 0, .int .i64 0, .bool false, .slice none 0 0] 75 (0, 0))) w1.heap.size #[.int .i64 f.sets, .int .i64 f.games, .bool f.noAd, .int .i64 f.tie, .int .i64 f.to, .int .i64 f.lastTie, .int .i64 f.lastTo, .int .i64 f.first, .int .i64 f.next, .bool f.doubles, .slice none 0 0, .int .i64 0, .int .i64 0, .int .i64 0, .int .i64 0, .int .i64 first, .int .i64 0, .int .i64 0, .int .i64 (-1), .int .i64 first, .int .i64 0, .int .i64 0, .bool false, .slice none 0 0]) w1.heap.size w1.heap.size (M.start f first) (.slice none 0 0) (.slice none 0 0) := ⟨Nat.le_refl _, setRow_heap _ w1.heap.size _ _ 75 (0, 0) (heap_alloc_new w1 (.cells #[.int .i64 0, .int .i64 0, .bool false, .int .i64 0, .int .i64 0, .int .i64 0, .int .i64 0, .int .i64 0, .int .i64 0, .bool false, .slice none 0 0, .int .i64 0, .int .i64 0, .int .i64 0, .int .i64 0, .int .i64 0, .int .i64 0, .int .i64 0, .int .i64 0, .int .i64 0, .int .i64 0, .int .i64 0, .bool false, .slice none 0 0] 75 (0, 0))), World.ownsRow_nil _ _ _ _, World.ownsRow_nil _ _ _ _⟩
    have h71b : (World.setRow (w1.alloc (.cells #[.int .i64 0, .int .i64 0, .bool false, .int .i64 0, .int .i64 0, .int .i64 0, .int .i64 0, .int .i64 0, .int .i64 0, .bool false, .slice none 0 0, .int .i64 0, .int .i64 0, .int .i64 0, .int .i64 0, .int .i64 0, .int .i64 0, .int .i64 0, .int .i64 0, .int .i64 0, .int .i64 0, .int .i64 0, .bool false, .slice none 0 0] 75 (0, 0))) w1.heap.size #[.int .i64 f.sets, .int .i64 f.games, .bool f.noAd, .int .i64 f.tie, .int .i64 f.to, .int .i64 f.lastTie, .int .i64 f.lastTo, .int .i64 f.first, .int .i64 f.next, .bool f.doubles, .slice none 0 0, .int .i64 0, .int .i64 0, .int .i64 0, .int .i64 0, .int .i64 first, .int .i64 0, .int .i64 0, .int .i64 (-1), .int .i64 first, .int .i64 0, .int .i64 0, .bool false, .slice none 0 0]).heap[w.heap.size + 1]? = some (.cells #[.int .i64 0, .int .i64 0, .bool false, .int .i64 0, .int .i64 0, .int .i64 0, .int .i64 0, .int .i64 0, .int .i64 0, .bool false, .slice none 0 0, .int .i64 0, .int .i64 0, .int .i64 0, .int .i64 0, .int .i64 0, .int .i64 0, .int .i64 0, .int .i64 0, .int .i64 0, .int .i64 0, .int .i64 0, .bool false, .slice none 0 0] 75 (0, 0)) := (setRow_other _ _ _ _ (by omega)).trans ((heap_alloc_old _ _ (by omega)).trans h71)
    have HB2 : Below w.heap.size w (World.setRow (w1.alloc (.cells #[.int .i64 0, .int .i64 0, .bool false, .int .i64 0, .int .i64 0, .int .i64 0, .int .i64 0, .int .i64 0, .int .i64 0, .bool false, .slice none 0 0, .int .i64 0, .int .i64 0, .int .i64 0, .int .i64 0, .int .i64 0, .int .i64 0, .int .i64 0, .int .i64 0, .int .i64 0, .int .i64 0, .int .i64 0, .bool false, .slice none 0 0] 75 (0, 0))) w1.heap.size #[.int .i64 f.sets, .int .i64 f.games, .bool f.noAd, .int .i64 f.tie, .int .i64 f.to, .int .i64 f.lastTie, .int .i64 f.lastTo, .int .i64 f.first, .int .i64 f.next, .bool f.doubles, .slice none 0 0, .int .i64 0, .int .i64 0, .int .i64 0, .int .i64 0, .int .i64 first, .int .i64 0, .int .i64 0, .int .i64 (-1), .int .i64 first, .int .i64 0, .int .i64 0, .bool false, .slice none 0 0]) := ⟨HB1.out.os, HB1.out.tape, HB1.out.output, by simp; have := HB1.out.size; omega, fun i hi => (setRow_other _ _ i _ (by omega)).trans ((heap_alloc_old _ _ (by omega)).trans (HB1.out.block i hi))⟩
    generalize (World.setRow (w1.alloc (.cells #[.int .i64 0, .int .i64 0, .bool false, .int .i64 0, .int .i64 0, .int .i64 0, .int .i64 0, .int .i64 0, .int .i64 0, .bool false, .slice none 0 0, .int .i64 0, .int .i64 0, .int .i64 0, .int .i64 0, .int .i64 0, .int .i64 0, .int .i64 0, .int .i64 0, .int .i64 0, .int .i64 0, .int .i64 0, .bool false, .slice none 0 0] 75 (0, 0))) w1.heap.size #[.int .i64 f.sets, .int .i64 f.games, .bool f.noAd, .int .i64 f.tie, .int .i64 f.to, .int .i64 f.lastTie, .int .i64 f.lastTo, .int .i64 f.first, .int .i64 f.next, .bool f.doubles, .slice none 0 0, .int .i64 0, .int .i64 0, .int .i64 0, .int .i64 0, .int .i64 first, .int .i64 0, .int .i64 0, .int .i64 (-1), .int .i64 first, .int .i64 0, .int .i64 0, .bool false, .slice none 0 0]) = w2 at h2 h71b HB2 ⊢
    have H2 := hide h2
    have H71 := hide h71b
    clear h2 h71b h71 hcf HB1 hg0
    (try clear hg1)
    generalize w1.heap.size = q at *
    clear w1
    go_wp2_with fail
    go_loopw [36] (fun i wr => ∃ k : Nat, k ≤ n ∧ i = .int .i64 k ∧ ∃ (m : M.Mt) (sv gv : Value), Hid (M.playF m (xs.drop k) = M.playF (M.start f first) xs) ∧ Hid (M.Ok m k) ∧ Hid (MAt wr q q m sv gv) ∧ Hid (wr.heap[w.heap.size + 1]? = some (.cells #[.int .i64 0, .int .i64 0, .bool false, .int .i64 0, .int .i64 0, .int .i64 0, .int .i64 0, .int .i64 0, .int .i64 0, .bool false, .slice none 0 0, .int .i64 0, .int .i64 0, .int .i64 0, .int .i64 0, .int .i64 0, .int .i64 0, .int .i64 0, .int .i64 0, .int .i64 0, .int .i64 0, .int .i64 0, .bool false, .slice none 0 0] 75 (0, 0))) ∧ Below w.heap.size w wr) (fun i _ => n - (intOf i).toNat)
    case atStart => exact ⟨0, by omega, rfl, M.start f first, _, _, hide (by rfl), HST, H2, H71, HB2⟩
    case round =>
      obtain ⟨k, hk, rfl, m, sv, gv, hpl, hok, hat, hz7, hB⟩ := hrel
      have cw : wr.cell? ⟨q, 18, none⟩ = some (.int .i64 m.winner) := (cell_of_row wr q 18 _ _ _ hat.out.2.1).trans rfl
      by_cases hlt : k < n
      · obtain ⟨x, hx⟩ : ∃ x, xs[k]? = some x := ⟨_, List.getElem?_eq_getElem (by have := HN.out; omega)⟩
        obtain ⟨b, o, hA, hbB, c0⟩ := (HR.out.below hB) k x hx
        subst hA
        have hd : xs.drop k = x :: xs.drop (k + 1) := by
          obtain ⟨hl, rfl⟩ := List.getElem?_eq_some_iff.1 hx
          exact List.drop_eq_getElem_cons hl
        have HD := hide hd
        clear hd hx
        cases hw : (m.winner != -1)
        · cases h0 : (x != 0)
          · have HPL : Hid (M.playF (M.point m x) (xs.drop (k + 1)) = M.playF (M.start f first) xs) := hide (by rw [← hpl.out, HD.out, M.playF_cons, if_neg (by simp at hw h0; omega)])
            have hx0 : 0 ≤ x ∧ x ≤ 1 := by simp at h0; omega
            go_wp2_with (first | (go_at_call 62; refine (point_any x k hat.out hok.out (by omega) hx0.1 hx0.2).mono ?_; rintro e wr' ⟨rfl, ⟨sv', gv', hat'⟩, hb'⟩; have HAT := hide hat'; clear hat'))
            go_roundw
            case rel => exact ⟨k + 1, by omega, by go_num, M.point m x, sv', gv', HPL, hide (Ok.point x hok.out), HAT, hide ((hb'.block _ (by omega)).trans hz7.out), hB.trans (hb'.mono (by omega))⟩
            case measure => simp [intOf]; omega
          · cases h1 : (x != 1)
            · have HPL : Hid (M.playF (M.point m x) (xs.drop (k + 1)) = M.playF (M.start f first) xs) := hide (by rw [← hpl.out, HD.out, M.playF_cons, if_neg (by simp at hw h1; omega)])
              have hx0 : 0 ≤ x ∧ x ≤ 1 := by simp at h1; omega
              go_wp2_with (first | (go_at_call 62; refine (point_any x k hat.out hok.out (by omega) hx0.1 hx0.2).mono ?_; rintro e wr' ⟨rfl, ⟨sv', gv', hat'⟩, hb'⟩; have HAT := hide hat'; clear hat'))
              go_roundw
              case rel => exact ⟨k + 1, by omega, by go_num, M.point m x, sv', gv', HPL, hide (Ok.point x hok.out), HAT, hide ((hb'.block _ (by omega)).trans hz7.out), hB.trans (hb'.mono (by omega))⟩
              case measure => simp [intOf]; omega
            · have hnone : M.playF m (xs.drop k) = none := by rw [HD.out, M.playF_cons, if_pos (by simp at h0 h1; omega)]
              have HNO := hide hnone
              clear hnone
              go_wp2_with (first | (refine store_zero rfl _ _ rfl (w.heap.size + 1) rfl rfl hz7.out ?_))
              refine bodyPost_ret (v := .tuple #[.agg #[.int .i64 0, .int .i64 0, .bool false, .int .i64 0, .int .i64 0, .int .i64 0, .int .i64 0, .int .i64 0, .int .i64 0, .bool false, .slice none 0 0, .int .i64 0, .int .i64 0, .int .i64 0, .int .i64 0, .int .i64 0, .int .i64 0, .int .i64 0, .int .i64 0, .int .i64 0, .int .i64 0, .int .i64 0, .bool false, .slice none 0 0], .int .i64 11]) (results_row_tmp Try.results39 _ _ (w.heap.size + 1) _ _ _ _ rfl hz7.out Try.underlying75 rfl matchRow) rfl ?_
              exact PlayPost.err HV.out HF.out (by have := HN.out; omega) hpl.out HNO.out hB
        · cases h0 : (x != 0)
          · have hnone : M.playF m (xs.drop k) = none := by rw [HD.out, M.playF_cons, if_pos (by simp at hw; omega)]
            have HNO := hide hnone
            clear hnone
            go_wp2_with (first | (refine store_zero rfl _ _ rfl (w.heap.size + 1) rfl rfl hz7.out ?_))
            refine bodyPost_ret (v := .tuple #[.agg #[.int .i64 0, .int .i64 0, .bool false, .int .i64 0, .int .i64 0, .int .i64 0, .int .i64 0, .int .i64 0, .int .i64 0, .bool false, .slice none 0 0, .int .i64 0, .int .i64 0, .int .i64 0, .int .i64 0, .int .i64 0, .int .i64 0, .int .i64 0, .int .i64 0, .int .i64 0, .int .i64 0, .int .i64 0, .bool false, .slice none 0 0], .int .i64 11]) (results_row_tmp Try.results39 _ _ (w.heap.size + 1) _ _ _ _ rfl hz7.out Try.underlying75 rfl matchRow) rfl ?_
            exact PlayPost.err HV.out HF.out (by have := HN.out; omega) hpl.out HNO.out hB
          · cases h1 : (x != 1)
            all_goals
              have hnone : M.playF m (xs.drop k) = none := by rw [HD.out, M.playF_cons, if_pos (by simp at hw; omega)]
              have HNO := hide hnone
              clear hnone
              go_wp2_with (first | (refine store_zero rfl _ _ rfl (w.heap.size + 1) rfl rfl hz7.out ?_))
              refine bodyPost_ret (v := .tuple #[.agg #[.int .i64 0, .int .i64 0, .bool false, .int .i64 0, .int .i64 0, .int .i64 0, .int .i64 0, .int .i64 0, .int .i64 0, .bool false, .slice none 0 0, .int .i64 0, .int .i64 0, .int .i64 0, .int .i64 0, .int .i64 0, .int .i64 0, .int .i64 0, .int .i64 0, .int .i64 0, .int .i64 0, .int .i64 0, .bool false, .slice none 0 0], .int .i64 11]) (results_row_tmp Try.results39 _ _ (w.heap.size + 1) _ _ _ _ rfl hz7.out Try.underlying75 rfl matchRow) rfl ?_
              exact PlayPost.err HV.out HF.out (by have := HN.out; omega) hpl.out HNO.out hB
      · have hkn : k = n := by omega
        have hs : some m = M.playF (M.start f first) xs := by rw [← hpl.out, List.drop_of_length_le (by have := HN.out; omega)]; rfl
        have HS := hide hs
        clear hs
        obtain ⟨A1, c1, e1⟩ := own_form hat.out.2.2.1
        obtain ⟨A2, c2, e2⟩ := own_form hat.out.2.2.2
        subst e1 e2
        subst hkn
        go_wp2_with (first | (refine wpList_load_row rfl 75 _ rfl q rfl 75 _ (0, 0) _ hat.out.2.1 Try.underlying75 rfl matchRow ?_) | (refine wpList_store_row rfl 75 _ _ rfl (w.heap.size + 1) _ rfl rfl 75 _ hz7.out matchRow rfl (by simp [Value.oneCell']) ?_))
        refine bodyPost_ret (v := .tuple #[.agg #[.int .i64 m.f.sets, .int .i64 m.f.games, .bool m.f.noAd, .int .i64 m.f.tie, .int .i64 m.f.to, .int .i64 m.f.lastTie, .int .i64 m.f.lastTo, .int .i64 m.f.first, .int .i64 m.f.next, .bool m.f.doubles, .slice A1 m.sets.length c1, .int .i64 m.games.A, .int .i64 m.games.B, .int .i64 m.pts.A, .int .i64 m.pts.B, .int .i64 m.server, .int .i64 m.ends, .int .i64 m.balls, .int .i64 m.winner, .int .i64 m.opens, .int .i64 m.won.A, .int .i64 m.won.B, .bool m.fresh, .slice A2 m.log.length c2], .int .i64 0]) (results_row_tmp Try.results39 _ _ (w.heap.size + 1) _ _ _ _ rfl (setRow_heap _ _ _ _ _ _ hz7.out) Try.underlying75 rfl matchRow) rfl ?_
        exact play_fin HV.out HF.out (by have := HN.out; omega) HS.out hat.out hz7.out (by omega) hB

end Go.Proofs.Ytbjmnlhehkcakaa

namespace Go.Proofs.Ytbjmnlhehkcakaa
open Go.RowKit
attribute [local go_sem ↓] Go.wp_at_zero Go.wp_at_succ

theorem play_any (f : M.Fm) (first : Int) (A : Option Addr) (n c : Nat) (xs : List Int) (w : World) (hn : xs.length = n) (hr : RdI w w.heap.size A xs) (hm : n ≤ 1000000) :
    Calls Try.prog 39 #[.agg #[.int .i64 f.sets, .int .i64 f.games, .bool f.noAd, .int .i64 f.tie, .int .i64 f.to, .int .i64 f.lastTie, .int .i64 f.lastTo, .int .i64 f.first, .int .i64 f.next, .bool f.doubles], .int .i64 first, .slice A n c] w fun e w' => PlayPost f first xs w e w' := by
  cases hv : M.validB f
  · exact play_no0 f first A n c xs w hn hm hv
  · cases hf : M.within first 0 1
    · exact play_no1 f first A n c xs w hn hm hv hf
    · by_cases hl : 600 < n
      · exact play_no2 f first A n c xs w hn hm hv hf hl
      · exact play_yes f first A n c xs w hn hr (by omega) hv hf

def PlayedPost (f : M.Fm) (first : Int) (xs : List Int) (w : World) (e : Ending) (w' : World) : Prop :=
  ∃ sv, e = .returned (.tuple #[.agg #[sv, .int .i64 (M.playM f first xs).games.A, .int .i64 (M.playM f first xs).games.B, .int .i64 (M.playM f first xs).pts.A, .int .i64 (M.playM f first xs).pts.B, .int .i64 (M.playM f first xs).server, .int .i64 (M.playM f first xs).ends, .int .i64 (M.playM f first xs).balls, .int .i64 (M.playM f first xs).winner], .int .i64 (M.playE f first xs)]) ∧
    w'.ownsRow w.heap.size 32 2 sv (M.playM f first xs).sets.length (flatP (M.playM f first xs).sets) ∧ Below w.heap.size w w'
def GamesPost (f : M.Fm) (first : Int) (xs : List Int) (w : World) (e : Ending) (w' : World) : Prop :=
  ∃ gv, e = .returned (.tuple #[gv, .int .i64 (M.playE f first xs)]) ∧
    w'.ownsRow w.heap.size 44 7 gv (M.playM f first xs).log.length (flatG (M.playM f first xs).log) ∧ Below w.heap.size w w'
theorem scoreRow : (Try.prog.info? 36).map (·.size) = some 9 := by kernel_rfl

set_option maxHeartbeats 4000000 in
set_option maxRecDepth 100000 in
theorem Play_any (f : M.Fm) (first : Int) (A : Option Addr) (n c : Nat) (xs : List Int) (w : World) (hn : xs.length = n) (hr : RdI w w.heap.size A xs) (hm : n ≤ 1000000) :
    Calls Try.prog 13 #[.agg #[.int .i64 f.sets, .int .i64 f.games, .bool f.noAd, .int .i64 f.tie, .int .i64 f.to, .int .i64 f.lastTie, .int .i64 f.lastTo, .int .i64 f.first, .int .i64 f.next, .bool f.doubles], .int .i64 first, .slice A n c] w fun e w' => PlayedPost f first xs w e w' := by
  have HN := hide hn
  have HR := hide hr
  clear hn hr
  go_enter Try.func13, Try.ntmps13
  go_upto_region 2 with (first | (go_at_call 39; refine (play_any f first A n c xs _ HN.out ((HR.out.below (by (repeat' first | exact zbR _ _ | assumption | refine zbD ?_ | refine zbA ?_ ?_ _ | refine zbS ?_ ?_ _ | refine zbT ?_ (by assumption) ?_ | (simp; done) | (simp; omega) | omega))).mono (by simp; omega)) hm).mono ?_; rintro e w1 ⟨sv, gv, rfl, hsv, hgv, hb1⟩; have hb1' := hb1; obtain ⟨A1, c1, e1⟩ := own_form hsv; obtain ⟨A2, c2, e2⟩ := own_form hgv; subst e1 e2; have HSV := hide hsv; have HGV := hide hgv; clear hsv hgv; have h36 : w1.heap[w.heap.size + 1]? = some (.cells #[.slice none 0 0, .int .i64 0, .int .i64 0, .int .i64 0, .int .i64 0, .int .i64 0, .int .i64 0, .int .i64 0, .int .i64 0] 36 (0, 0)) := (hb1.block _ (by simp)).trans (heap_alloc2_new w _ _); have hq1 : w.heap.size + 1 < w1.heap.size := (by have := hb1.size; simp at this; omega); have HB1 := hide (show Below w.heap.size w w1 from Below.trans (by (repeat' first | exact zbR _ _ | assumption | refine zbD ?_ | refine zbA ?_ ?_ _ | refine zbS ?_ ?_ _ | refine zbT ?_ (by assumption) ?_ | (simp; done) | (simp; omega) | omega)) (hb1.mono (by simp; omega))); clear hb1) | (refine wpList_store_row rfl 75 _ _ rfl w1.heap.size _ rfl rfl 75 _ (heap_alloc_new w1 _) matchRow rfl (by simp [Value.oneCell']) ?_))
  have hblk : (World.setRow (w1.alloc (.cells #[.int .i64 0, .int .i64 0, .bool false, .int .i64 0, .int .i64 0, .int .i64 0, .int .i64 0, .int .i64 0, .int .i64 0, .bool false, .slice none 0 0, .int .i64 0, .int .i64 0, .int .i64 0, .int .i64 0, .int .i64 0, .int .i64 0, .int .i64 0, .int .i64 0, .int .i64 0, .int .i64 0, .int .i64 0, .bool false, .slice none 0 0] 75 (0, 0))) w1.heap.size #[.int .i64 (M.playM f first xs).f.sets, .int .i64 (M.playM f first xs).f.games, .bool (M.playM f first xs).f.noAd, .int .i64 (M.playM f first xs).f.tie, .int .i64 (M.playM f first xs).f.to, .int .i64 (M.playM f first xs).f.lastTie, .int .i64 (M.playM f first xs).f.lastTo, .int .i64 (M.playM f first xs).f.first, .int .i64 (M.playM f first xs).f.next, .bool (M.playM f first xs).f.doubles, .slice A1 (M.playM f first xs).sets.length c1, .int .i64 (M.playM f first xs).games.A, .int .i64 (M.playM f first xs).games.B, .int .i64 (M.playM f first xs).pts.A, .int .i64 (M.playM f first xs).pts.B, .int .i64 (M.playM f first xs).server, .int .i64 (M.playM f first xs).ends, .int .i64 (M.playM f first xs).balls, .int .i64 (M.playM f first xs).winner, .int .i64 (M.playM f first xs).opens, .int .i64 (M.playM f first xs).won.A, .int .i64 (M.playM f first xs).won.B, .bool (M.playM f first xs).fresh, .slice A2 (M.playM f first xs).log.length c2]).heap[w1.heap.size]? = some (.cells #[.int .i64 (M.playM f first xs).f.sets, .int .i64 (M.playM f first xs).f.games, .bool (M.playM f first xs).f.noAd, .int .i64 (M.playM f first xs).f.tie, .int .i64 (M.playM f first xs).f.to, .int .i64 (M.playM f first xs).f.lastTie, .int .i64 (M.playM f first xs).f.lastTo, .int .i64 (M.playM f first xs).f.first, .int .i64 (M.playM f first xs).f.next, .bool (M.playM f first xs).f.doubles, .slice A1 (M.playM f first xs).sets.length c1, .int .i64 (M.playM f first xs).games.A, .int .i64 (M.playM f first xs).games.B, .int .i64 (M.playM f first xs).pts.A, .int .i64 (M.playM f first xs).pts.B, .int .i64 (M.playM f first xs).server, .int .i64 (M.playM f first xs).ends, .int .i64 (M.playM f first xs).balls, .int .i64 (M.playM f first xs).winner, .int .i64 (M.playM f first xs).opens, .int .i64 (M.playM f first xs).won.A, .int .i64 (M.playM f first xs).won.B, .bool (M.playM f first xs).fresh, .slice A2 (M.playM f first xs).log.length c2] 75 (0, 0)) := setRow_heap _ w1.heap.size _ _ 75 (0, 0) (heap_alloc_new w1 (.cells #[.int .i64 0, .int .i64 0, .bool false, .int .i64 0, .int .i64 0, .int .i64 0, .int .i64 0, .int .i64 0, .int .i64 0, .bool false, .slice none 0 0, .int .i64 0, .int .i64 0, .int .i64 0, .int .i64 0, .int .i64 0, .int .i64 0, .int .i64 0, .int .i64 0, .int .i64 0, .int .i64 0, .int .i64 0, .bool false, .slice none 0 0] 75 (0, 0)))
  have hgr : w1.grownBy (World.setRow (w1.alloc (.cells #[.int .i64 0, .int .i64 0, .bool false, .int .i64 0, .int .i64 0, .int .i64 0, .int .i64 0, .int .i64 0, .int .i64 0, .bool false, .slice none 0 0, .int .i64 0, .int .i64 0, .int .i64 0, .int .i64 0, .int .i64 0, .int .i64 0, .int .i64 0, .int .i64 0, .int .i64 0, .int .i64 0, .int .i64 0, .bool false, .slice none 0 0] 75 (0, 0))) w1.heap.size #[.int .i64 (M.playM f first xs).f.sets, .int .i64 (M.playM f first xs).f.games, .bool (M.playM f first xs).f.noAd, .int .i64 (M.playM f first xs).f.tie, .int .i64 (M.playM f first xs).f.to, .int .i64 (M.playM f first xs).f.lastTie, .int .i64 (M.playM f first xs).f.lastTo, .int .i64 (M.playM f first xs).f.first, .int .i64 (M.playM f first xs).f.next, .bool (M.playM f first xs).f.doubles, .slice A1 (M.playM f first xs).sets.length c1, .int .i64 (M.playM f first xs).games.A, .int .i64 (M.playM f first xs).games.B, .int .i64 (M.playM f first xs).pts.A, .int .i64 (M.playM f first xs).pts.B, .int .i64 (M.playM f first xs).server, .int .i64 (M.playM f first xs).ends, .int .i64 (M.playM f first xs).balls, .int .i64 (M.playM f first xs).winner, .int .i64 (M.playM f first xs).opens, .int .i64 (M.playM f first xs).won.A, .int .i64 (M.playM f first xs).won.B, .bool (M.playM f first xs).fresh, .slice A2 (M.playM f first xs).log.length c2]) none := ⟨rfl, rfl, rfl, by simp, fun k hk _ => (setRow_other _ _ k _ (by omega)).trans (heap_alloc_old _ _ hk)⟩
  have HBB := hide (show Below w.heap.size w (World.setRow (w1.alloc (.cells #[.int .i64 0, .int .i64 0, .bool false, .int .i64 0, .int .i64 0, .int .i64 0, .int .i64 0, .int .i64 0, .int .i64 0, .bool false, .slice none 0 0, .int .i64 0, .int .i64 0, .int .i64 0, .int .i64 0, .int .i64 0, .int .i64 0, .int .i64 0, .int .i64 0, .int .i64 0, .int .i64 0, .int .i64 0, .bool false, .slice none 0 0] 75 (0, 0))) w1.heap.size #[.int .i64 (M.playM f first xs).f.sets, .int .i64 (M.playM f first xs).f.games, .bool (M.playM f first xs).f.noAd, .int .i64 (M.playM f first xs).f.tie, .int .i64 (M.playM f first xs).f.to, .int .i64 (M.playM f first xs).f.lastTie, .int .i64 (M.playM f first xs).f.lastTo, .int .i64 (M.playM f first xs).f.first, .int .i64 (M.playM f first xs).f.next, .bool (M.playM f first xs).f.doubles, .slice A1 (M.playM f first xs).sets.length c1, .int .i64 (M.playM f first xs).games.A, .int .i64 (M.playM f first xs).games.B, .int .i64 (M.playM f first xs).pts.A, .int .i64 (M.playM f first xs).pts.B, .int .i64 (M.playM f first xs).server, .int .i64 (M.playM f first xs).ends, .int .i64 (M.playM f first xs).balls, .int .i64 (M.playM f first xs).winner, .int .i64 (M.playM f first xs).opens, .int .i64 (M.playM f first xs).won.A, .int .i64 (M.playM f first xs).won.B, .bool (M.playM f first xs).fresh, .slice A2 (M.playM f first xs).log.length c2]) from ⟨HB1.out.os, HB1.out.tape, HB1.out.output, by simp; have := HB1.out.size; omega, fun i hi => (setRow_other _ _ i _ (by omega)).trans ((heap_alloc_old _ _ (by omega)).trans (HB1.out.block i hi))⟩)
  have h36b : (World.setRow (w1.alloc (.cells #[.int .i64 0, .int .i64 0, .bool false, .int .i64 0, .int .i64 0, .int .i64 0, .int .i64 0, .int .i64 0, .int .i64 0, .bool false, .slice none 0 0, .int .i64 0, .int .i64 0, .int .i64 0, .int .i64 0, .int .i64 0, .int .i64 0, .int .i64 0, .int .i64 0, .int .i64 0, .int .i64 0, .int .i64 0, .bool false, .slice none 0 0] 75 (0, 0))) w1.heap.size #[.int .i64 (M.playM f first xs).f.sets, .int .i64 (M.playM f first xs).f.games, .bool (M.playM f first xs).f.noAd, .int .i64 (M.playM f first xs).f.tie, .int .i64 (M.playM f first xs).f.to, .int .i64 (M.playM f first xs).f.lastTie, .int .i64 (M.playM f first xs).f.lastTo, .int .i64 (M.playM f first xs).f.first, .int .i64 (M.playM f first xs).f.next, .bool (M.playM f first xs).f.doubles, .slice A1 (M.playM f first xs).sets.length c1, .int .i64 (M.playM f first xs).games.A, .int .i64 (M.playM f first xs).games.B, .int .i64 (M.playM f first xs).pts.A, .int .i64 (M.playM f first xs).pts.B, .int .i64 (M.playM f first xs).server, .int .i64 (M.playM f first xs).ends, .int .i64 (M.playM f first xs).balls, .int .i64 (M.playM f first xs).winner, .int .i64 (M.playM f first xs).opens, .int .i64 (M.playM f first xs).won.A, .int .i64 (M.playM f first xs).won.B, .bool (M.playM f first xs).fresh, .slice A2 (M.playM f first xs).log.length c2]).heap[w.heap.size + 1]? = some (.cells #[.slice none 0 0, .int .i64 0, .int .i64 0, .int .i64 0, .int .i64 0, .int .i64 0, .int .i64 0, .int .i64 0, .int .i64 0] 36 (0, 0)) := (setRow_other _ _ _ _ (by omega)).trans ((heap_alloc_old _ _ (by omega)).trans h36)
  have HO := hide (owns_mono (base' := w.heap.size) (HSV.out.kept hgr (by simp [Value.ownBlock]; cases A1 <;> simp)) (by simp; omega))
  have H36 := hide h36b
  clear h36 h36b HSV HGV hb1' HB1
  generalize (World.setRow (w1.alloc (.cells #[.int .i64 0, .int .i64 0, .bool false, .int .i64 0, .int .i64 0, .int .i64 0, .int .i64 0, .int .i64 0, .int .i64 0, .bool false, .slice none 0 0, .int .i64 0, .int .i64 0, .int .i64 0, .int .i64 0, .int .i64 0, .int .i64 0, .int .i64 0, .int .i64 0, .int .i64 0, .int .i64 0, .int .i64 0, .bool false, .slice none 0 0] 75 (0, 0))) w1.heap.size #[.int .i64 (M.playM f first xs).f.sets, .int .i64 (M.playM f first xs).f.games, .bool (M.playM f first xs).f.noAd, .int .i64 (M.playM f first xs).f.tie, .int .i64 (M.playM f first xs).f.to, .int .i64 (M.playM f first xs).f.lastTie, .int .i64 (M.playM f first xs).f.lastTo, .int .i64 (M.playM f first xs).f.first, .int .i64 (M.playM f first xs).f.next, .bool (M.playM f first xs).f.doubles, .slice A1 (M.playM f first xs).sets.length c1, .int .i64 (M.playM f first xs).games.A, .int .i64 (M.playM f first xs).games.B, .int .i64 (M.playM f first xs).pts.A, .int .i64 (M.playM f first xs).pts.B, .int .i64 (M.playM f first xs).server, .int .i64 (M.playM f first xs).ends, .int .i64 (M.playM f first xs).balls, .int .i64 (M.playM f first xs).winner, .int .i64 (M.playM f first xs).opens, .int .i64 (M.playM f first xs).won.A, .int .i64 (M.playM f first xs).won.B, .bool (M.playM f first xs).fresh, .slice A2 (M.playM f first xs).log.length c2]) = w2 at hblk HBB HO H36 ⊢
  have hcc := fun i => cell_of_row w2 w1.heap.size i _ _ _ hblk
  clear hblk hgr
  generalize w1.heap.size = q at *
  go_wp2_with (first | (refine wpList_store_row rfl 36 _ _ rfl (w.heap.size + 1) _ rfl rfl 36 _ H36.out scoreRow rfl (by simp [Value.oneCell']) ?_))
  refine bodyPost_ret (v := .tuple #[.agg #[.slice A1 (M.playM f first xs).sets.length c1, .int .i64 (M.playM f first xs).games.A, .int .i64 (M.playM f first xs).games.B, .int .i64 (M.playM f first xs).pts.A, .int .i64 (M.playM f first xs).pts.B, .int .i64 (M.playM f first xs).server, .int .i64 (M.playM f first xs).ends, .int .i64 (M.playM f first xs).balls, .int .i64 (M.playM f first xs).winner], .int .i64 (M.playE f first xs)]) (results_row_tmp Try.results13 _ _ (w.heap.size + 1) _ _ _ _ rfl (setRow_heap _ _ _ _ _ _ H36.out) Try.underlying36 rfl scoreRow) rfl ?_
  have hg3 : w2.grownBy (w2.setRow (w.heap.size + 1) #[.slice A1 (M.playM f first xs).sets.length c1, .int .i64 (M.playM f first xs).games.A, .int .i64 (M.playM f first xs).games.B, .int .i64 (M.playM f first xs).pts.A, .int .i64 (M.playM f first xs).pts.B, .int .i64 (M.playM f first xs).server, .int .i64 (M.playM f first xs).ends, .int .i64 (M.playM f first xs).balls, .int .i64 (M.playM f first xs).winner]) (some (w.heap.size + 1)) := ⟨rfl, rfl, rfl, by simp, fun k _ hk => setRow_other w2 _ k _ (fun e => hk (by rw [e]))⟩
  refine ⟨_, rfl, HO.out.kept hg3 (.inr (row_ne HO.out H36.out (by decide))), HBB.out.os, HBB.out.tape, HBB.out.output, by simp; exact HBB.out.size, fun i hi => (setRow_other w2 _ i _ (by omega)).trans (HBB.out.block i hi)⟩

set_option maxHeartbeats 4000000 in
set_option maxRecDepth 100000 in
theorem Games_any (f : M.Fm) (first : Int) (A : Option Addr) (n c : Nat) (xs : List Int) (w : World) (hn : xs.length = n) (hr : RdI w w.heap.size A xs) (hm : n ≤ 1000000) :
    Calls Try.prog 15 #[.agg #[.int .i64 f.sets, .int .i64 f.games, .bool f.noAd, .int .i64 f.tie, .int .i64 f.to, .int .i64 f.lastTie, .int .i64 f.lastTo, .int .i64 f.first, .int .i64 f.next, .bool f.doubles], .int .i64 first, .slice A n c] w fun e w' => GamesPost f first xs w e w' := by
  have HN := hide hn
  have HR := hide hr
  clear hn hr
  go_enter Try.func15, Try.ntmps15
  go_upto_region 2 with (first | (go_at_call 39; refine (play_any f first A n c xs _ HN.out ((HR.out.below (by (repeat' first | exact zbR _ _ | assumption | refine zbD ?_ | refine zbA ?_ ?_ _ | refine zbS ?_ ?_ _ | refine zbT ?_ (by assumption) ?_ | (simp; done) | (simp; omega) | omega))).mono (by simp)) hm).mono ?_; rintro e w1 ⟨sv, gv, rfl, hsv, hgv, hb1⟩; have hb1' := hb1; obtain ⟨A1, c1, e1⟩ := own_form hsv; obtain ⟨A2, c2, e2⟩ := own_form hgv; subst e1 e2; have HSV := hide hsv; have HGV := hide hgv; clear hsv hgv; have hq1 : w.heap.size < w1.heap.size := (by have := hb1.size; simp at this; omega); have HB1 := hide (show Below w.heap.size w w1 from Below.trans (by (repeat' first | exact zbR _ _ | assumption | refine zbD ?_ | refine zbA ?_ ?_ _ | refine zbS ?_ ?_ _ | refine zbT ?_ (by assumption) ?_ | (simp; done) | (simp; omega) | omega)) (hb1.mono (by simp))); clear hb1) | (refine wpList_store_row rfl 75 _ _ rfl w1.heap.size _ rfl rfl 75 _ (heap_alloc_new w1 _) matchRow rfl (by simp [Value.oneCell']) ?_))
  have hblk : (World.setRow (w1.alloc (.cells #[.int .i64 0, .int .i64 0, .bool false, .int .i64 0, .int .i64 0, .int .i64 0, .int .i64 0, .int .i64 0, .int .i64 0, .bool false, .slice none 0 0, .int .i64 0, .int .i64 0, .int .i64 0, .int .i64 0, .int .i64 0, .int .i64 0, .int .i64 0, .int .i64 0, .int .i64 0, .int .i64 0, .int .i64 0, .bool false, .slice none 0 0] 75 (0, 0))) w1.heap.size #[.int .i64 (M.playM f first xs).f.sets, .int .i64 (M.playM f first xs).f.games, .bool (M.playM f first xs).f.noAd, .int .i64 (M.playM f first xs).f.tie, .int .i64 (M.playM f first xs).f.to, .int .i64 (M.playM f first xs).f.lastTie, .int .i64 (M.playM f first xs).f.lastTo, .int .i64 (M.playM f first xs).f.first, .int .i64 (M.playM f first xs).f.next, .bool (M.playM f first xs).f.doubles, .slice A1 (M.playM f first xs).sets.length c1, .int .i64 (M.playM f first xs).games.A, .int .i64 (M.playM f first xs).games.B, .int .i64 (M.playM f first xs).pts.A, .int .i64 (M.playM f first xs).pts.B, .int .i64 (M.playM f first xs).server, .int .i64 (M.playM f first xs).ends, .int .i64 (M.playM f first xs).balls, .int .i64 (M.playM f first xs).winner, .int .i64 (M.playM f first xs).opens, .int .i64 (M.playM f first xs).won.A, .int .i64 (M.playM f first xs).won.B, .bool (M.playM f first xs).fresh, .slice A2 (M.playM f first xs).log.length c2]).heap[w1.heap.size]? = some (.cells #[.int .i64 (M.playM f first xs).f.sets, .int .i64 (M.playM f first xs).f.games, .bool (M.playM f first xs).f.noAd, .int .i64 (M.playM f first xs).f.tie, .int .i64 (M.playM f first xs).f.to, .int .i64 (M.playM f first xs).f.lastTie, .int .i64 (M.playM f first xs).f.lastTo, .int .i64 (M.playM f first xs).f.first, .int .i64 (M.playM f first xs).f.next, .bool (M.playM f first xs).f.doubles, .slice A1 (M.playM f first xs).sets.length c1, .int .i64 (M.playM f first xs).games.A, .int .i64 (M.playM f first xs).games.B, .int .i64 (M.playM f first xs).pts.A, .int .i64 (M.playM f first xs).pts.B, .int .i64 (M.playM f first xs).server, .int .i64 (M.playM f first xs).ends, .int .i64 (M.playM f first xs).balls, .int .i64 (M.playM f first xs).winner, .int .i64 (M.playM f first xs).opens, .int .i64 (M.playM f first xs).won.A, .int .i64 (M.playM f first xs).won.B, .bool (M.playM f first xs).fresh, .slice A2 (M.playM f first xs).log.length c2] 75 (0, 0)) := setRow_heap _ w1.heap.size _ _ 75 (0, 0) (heap_alloc_new w1 (.cells #[.int .i64 0, .int .i64 0, .bool false, .int .i64 0, .int .i64 0, .int .i64 0, .int .i64 0, .int .i64 0, .int .i64 0, .bool false, .slice none 0 0, .int .i64 0, .int .i64 0, .int .i64 0, .int .i64 0, .int .i64 0, .int .i64 0, .int .i64 0, .int .i64 0, .int .i64 0, .int .i64 0, .int .i64 0, .bool false, .slice none 0 0] 75 (0, 0)))
  have hgr : w1.grownBy (World.setRow (w1.alloc (.cells #[.int .i64 0, .int .i64 0, .bool false, .int .i64 0, .int .i64 0, .int .i64 0, .int .i64 0, .int .i64 0, .int .i64 0, .bool false, .slice none 0 0, .int .i64 0, .int .i64 0, .int .i64 0, .int .i64 0, .int .i64 0, .int .i64 0, .int .i64 0, .int .i64 0, .int .i64 0, .int .i64 0, .int .i64 0, .bool false, .slice none 0 0] 75 (0, 0))) w1.heap.size #[.int .i64 (M.playM f first xs).f.sets, .int .i64 (M.playM f first xs).f.games, .bool (M.playM f first xs).f.noAd, .int .i64 (M.playM f first xs).f.tie, .int .i64 (M.playM f first xs).f.to, .int .i64 (M.playM f first xs).f.lastTie, .int .i64 (M.playM f first xs).f.lastTo, .int .i64 (M.playM f first xs).f.first, .int .i64 (M.playM f first xs).f.next, .bool (M.playM f first xs).f.doubles, .slice A1 (M.playM f first xs).sets.length c1, .int .i64 (M.playM f first xs).games.A, .int .i64 (M.playM f first xs).games.B, .int .i64 (M.playM f first xs).pts.A, .int .i64 (M.playM f first xs).pts.B, .int .i64 (M.playM f first xs).server, .int .i64 (M.playM f first xs).ends, .int .i64 (M.playM f first xs).balls, .int .i64 (M.playM f first xs).winner, .int .i64 (M.playM f first xs).opens, .int .i64 (M.playM f first xs).won.A, .int .i64 (M.playM f first xs).won.B, .bool (M.playM f first xs).fresh, .slice A2 (M.playM f first xs).log.length c2]) none := ⟨rfl, rfl, rfl, by simp, fun k hk _ => (setRow_other _ _ k _ (by omega)).trans (heap_alloc_old _ _ hk)⟩
  have HBB := hide (show Below w.heap.size w (World.setRow (w1.alloc (.cells #[.int .i64 0, .int .i64 0, .bool false, .int .i64 0, .int .i64 0, .int .i64 0, .int .i64 0, .int .i64 0, .int .i64 0, .bool false, .slice none 0 0, .int .i64 0, .int .i64 0, .int .i64 0, .int .i64 0, .int .i64 0, .int .i64 0, .int .i64 0, .int .i64 0, .int .i64 0, .int .i64 0, .int .i64 0, .bool false, .slice none 0 0] 75 (0, 0))) w1.heap.size #[.int .i64 (M.playM f first xs).f.sets, .int .i64 (M.playM f first xs).f.games, .bool (M.playM f first xs).f.noAd, .int .i64 (M.playM f first xs).f.tie, .int .i64 (M.playM f first xs).f.to, .int .i64 (M.playM f first xs).f.lastTie, .int .i64 (M.playM f first xs).f.lastTo, .int .i64 (M.playM f first xs).f.first, .int .i64 (M.playM f first xs).f.next, .bool (M.playM f first xs).f.doubles, .slice A1 (M.playM f first xs).sets.length c1, .int .i64 (M.playM f first xs).games.A, .int .i64 (M.playM f first xs).games.B, .int .i64 (M.playM f first xs).pts.A, .int .i64 (M.playM f first xs).pts.B, .int .i64 (M.playM f first xs).server, .int .i64 (M.playM f first xs).ends, .int .i64 (M.playM f first xs).balls, .int .i64 (M.playM f first xs).winner, .int .i64 (M.playM f first xs).opens, .int .i64 (M.playM f first xs).won.A, .int .i64 (M.playM f first xs).won.B, .bool (M.playM f first xs).fresh, .slice A2 (M.playM f first xs).log.length c2]) from ⟨HB1.out.os, HB1.out.tape, HB1.out.output, by simp; have := HB1.out.size; omega, fun i hi => (setRow_other _ _ i _ (by omega)).trans ((heap_alloc_old _ _ (by omega)).trans (HB1.out.block i hi))⟩)
  have HO := hide (owns_mono (base' := w.heap.size) (HGV.out.kept hgr (by simp [Value.ownBlock]; cases A2 <;> simp)) (by simp))
  clear HSV HGV hb1' HB1
  generalize (World.setRow (w1.alloc (.cells #[.int .i64 0, .int .i64 0, .bool false, .int .i64 0, .int .i64 0, .int .i64 0, .int .i64 0, .int .i64 0, .int .i64 0, .bool false, .slice none 0 0, .int .i64 0, .int .i64 0, .int .i64 0, .int .i64 0, .int .i64 0, .int .i64 0, .int .i64 0, .int .i64 0, .int .i64 0, .int .i64 0, .int .i64 0, .bool false, .slice none 0 0] 75 (0, 0))) w1.heap.size #[.int .i64 (M.playM f first xs).f.sets, .int .i64 (M.playM f first xs).f.games, .bool (M.playM f first xs).f.noAd, .int .i64 (M.playM f first xs).f.tie, .int .i64 (M.playM f first xs).f.to, .int .i64 (M.playM f first xs).f.lastTie, .int .i64 (M.playM f first xs).f.lastTo, .int .i64 (M.playM f first xs).f.first, .int .i64 (M.playM f first xs).f.next, .bool (M.playM f first xs).f.doubles, .slice A1 (M.playM f first xs).sets.length c1, .int .i64 (M.playM f first xs).games.A, .int .i64 (M.playM f first xs).games.B, .int .i64 (M.playM f first xs).pts.A, .int .i64 (M.playM f first xs).pts.B, .int .i64 (M.playM f first xs).server, .int .i64 (M.playM f first xs).ends, .int .i64 (M.playM f first xs).balls, .int .i64 (M.playM f first xs).winner, .int .i64 (M.playM f first xs).opens, .int .i64 (M.playM f first xs).won.A, .int .i64 (M.playM f first xs).won.B, .bool (M.playM f first xs).fresh, .slice A2 (M.playM f first xs).log.length c2]) = w2 at hblk HBB HO ⊢
  have hcc := fun i => cell_of_row w2 w1.heap.size i _ _ _ hblk
  clear hblk hgr
  generalize w1.heap.size = q at *
  go_wp2_with fail
  go_ret2
  exact ⟨_, rfl, HO.out, HBB.out⟩

end Go.Proofs.Ytbjmnlhehkcakaa

namespace Go.Proofs.Ytbjmnlhehkcakaa
open Go.RowKit
attribute [local go_sem ↓] Go.wp_at_zero Go.wp_at_succ
namespace M
def exF : Fm := { sets := 2, games := 2, noAd := false, tie := 2, to := 3, lastTie := 0, lastTo := 4, first := 2, next := 2, doubles := false }
def exP : List Int := [0, 0, 0, 0, 1, 1, 1, 1, 0, 0, 0, 0, 0, 0, 0, 0, 1, 1, 1, 1]
end M
theorem heap3_0 (w : World) (A B C : Obj) : (((w.alloc A).alloc B).alloc C).heap[w.heap.size]? = some A :=
  (heap_alloc_old _ _ (by show w.heap.size < ((w.heap.push A).push B).size; simp; omega)).trans (heap_alloc2_old w A B)
theorem heap3_2 (w : World) (A B C : Obj) : (((w.alloc A).alloc B).alloc C).heap[w.heap.size + 1 + 1]? = some C := by
  have h := heap_alloc_new ((w.alloc A).alloc B) C
  have e : ((w.alloc A).alloc B).heap.size = w.heap.size + 1 + 1 := by
    show ((w.heap.push A).push B).size = _
    simp
  rwa [e] at h
theorem fmtRow : (Try.prog.info? 23).map (·.size) = some 10 := by kernel_rfl

def ExPost (w : World) (e : Ending) (w' : World) : Prop :=
  ∃ A : Option Addr, e = .returned (.tuple #[.agg #[.int .i64 2, .int .i64 2, .bool false, .int .i64 2, .int .i64 3, .int .i64 0, .int .i64 4, .int .i64 2, .int .i64 2, .bool false], .slice A 20 20]) ∧ RdI w' w'.heap.size A M.exP ∧ Below w.heap.size w w'

theorem ExPost.mk {w w' : World} {b : Nat} {t : TypeId} (hb : w'.heap[b]? = some (.cells #[.int .i64 0, .int .i64 0, .int .i64 0, .int .i64 0, .int .i64 1, .int .i64 1, .int .i64 1, .int .i64 1, .int .i64 0, .int .i64 0, .int .i64 0, .int .i64 0, .int .i64 0, .int .i64 0, .int .i64 0, .int .i64 0, .int .i64 1, .int .i64 1, .int .i64 1, .int .i64 1] t (0, 0))) (h : Below w.heap.size w w') :
    ExPost w (.returned (.tuple #[.agg #[.int .i64 2, .int .i64 2, .bool false, .int .i64 2, .int .i64 3, .int .i64 0, .int .i64 4, .int .i64 2, .int .i64 2, .bool false], .slice (some ⟨b, 0, none⟩) 20 20])) w' := by
  refine ⟨_, rfl, ?_, h⟩
  intro k x hk
  refine ⟨b, 0, rfl, (Array.getElem?_eq_some_iff.1 hb).1, ?_⟩
  rw [Nat.zero_add, cell_of_row _ _ _ _ _ _ hb]
  have hkl : k < 20 := (List.getElem?_eq_some_iff.1 hk).1
  match k, hkl with
  | 0, _ | 1, _ | 2, _ | 3, _ | 4, _ | 5, _ | 6, _ | 7, _ | 8, _ | 9, _ | 10, _ | 11, _ | 12, _ | 13, _ | 14, _ | 15, _ | 16, _ | 17, _ | 18, _ | 19, _ =>
    have hx : _ = x := Option.some.inj hk
    subst hx
    rfl

set_option maxHeartbeats 2000000 in
set_option maxRecDepth 100000 in
theorem Example_any (w : World) : Calls Try.prog 34 #[] w fun e w' => ExPost w e w' := by
  go_enter Try.func34, Try.ntmps34
  go_wp2
  refine bodyPost_ret (v := .tuple #[.agg #[.int .i64 2, .int .i64 2, .bool false, .int .i64 2, .int .i64 3, .int .i64 0, .int .i64 4, .int .i64 2, .int .i64 2, .bool false], .slice (some ⟨w.heap.size + 1 + 1, 0, none⟩) 20 20]) (results_row_tmp Try.results34 _ _ w.heap.size _ _ _ _ rfl (heap3_0 w _ _ _) Try.underlying23 rfl fmtRow) rfl ?_
  exact ExPost.mk (heap3_2 w _ _ _) (by (repeat' first | exact zbR _ _ | assumption | refine zbD ?_ | refine zbA ?_ ?_ _ | refine zbS ?_ ?_ _ | refine zbT ?_ (by assumption) ?_ | (simp; done) | (simp; omega) | omega))

end Go.Proofs.Ytbjmnlhehkcakaa

namespace Go.Proofs.Ytbjmnlhehkcakaa
open Go.RowKit
namespace M
def exM : Mt := (playF (start exF 0) exP).getD noM
theorem ex_some : (playF (start exF 0) exP).isSome = true := by decide +kernel
theorem ex_facts : exM.server = 1 ∧ exM.ends = 3 ∧ exM.balls = 2 ∧ exM.winner = -1 ∧ exM.sets = [⟨3, 1⟩] ∧ exM.games = ⟨0, 1⟩ ∧ exM.pts = ⟨0, 0⟩ := by decide +kernel
theorem ex_playM : playM exF 0 exP = exM := by
  unfold playM exM
  rw [if_pos (by decide +kernel), if_pos (by decide +kernel), if_neg (by decide +kernel)]
theorem ex_playE : playE exF 0 exP = 0 := by decide +kernel
theorem ex_ways : waysV exF [⟨2, 3⟩] = 4 ∧ waysE exF [⟨2, 3⟩] = 0 := by decide +kernel
theorem ex_least : leastV exF [] zero zero 0 = 16 ∧ leastE exF [] zero zero 0 = 0 := by decide +kernel
end M
end Go.Proofs.Ytbjmnlhehkcakaa

namespace Go.Proofs.Ytbjmnlhehkcakaa
open Go.RowKit Go

theorem run_eql_pair (a b c d : Int) (w : World) :
    (binOp .eql 32 (.agg #[.int .i64 a, .int .i64 b]) (.agg #[.int .i64 c, .int .i64 d])).run Try.prog w = .ok (.bool (a == c && b == d)) w := by
  by_cases h1 : a = c
  · by_cases h2 : b = d
    · simp [go_sem, h1, h2, Try.underlying32]
    · simp [go_sem, h1, h2, Try.underlying32]
  · simp [go_sem, h1, Try.underlying32]

end Go.Proofs.Ytbjmnlhehkcakaa

namespace Go.Proofs.Ytbjmnlhehkcakaa
open Go.RowKit
theorem run_neq_pair (a b c d : Int) (w : World) :
    (binOp .neq 32 (.agg #[.int .i64 a, .int .i64 b]) (.agg #[.int .i64 c, .int .i64 d])).run Try.prog w = .ok (.bool (!(a == c && b == d))) w := by
  by_cases h1 : a = c
  · by_cases h2 : b = d
    · simp [go_sem, h1, h2, Try.underlying32]
    · simp [go_sem, h1, h2, Try.underlying32]
  · simp [go_sem, h1, Try.underlying32]
attribute [local go_sem ↓] Go.wp_at_zero Go.wp_at_succ run_eql_pair run_neq_pair

theorem below_drewN {B : Nat} {a w : World} (h : Below B a w) (n : Nat) : Below B a (w.drewN n) := ⟨h.os, h.tape, h.output, h.size, h.block⟩
theorem pr_eq {g h : M.Pr} : (g.A == h.A && g.B == h.B) = decide (g = h) := by
  obtain ⟨a, b⟩ := g
  obtain ⟨c, d⟩ := h
  rw [Bool.eq_iff_iff]
  simp
def M.sameB (ps qs : List M.Pr) (g1 g2 p1 p2 : M.Pr) : Bool := decide (ps = qs) && decide (g1 = g2) && decide (p1 = p2)
theorem take_next {ps qs : List M.Pr} {k : Nat} {p q : M.Pr} (h : ps.take k = qs.take k) (hp : ps[k]? = some p) (hq : qs[k]? = some q) (he : p = q) : ps.take (k + 1) = qs.take (k + 1) := by
  rw [List.take_add_one, List.take_add_one, h, hp, hq, he]
theorem take_diff {ps qs : List M.Pr} {k : Nat} {p q : M.Pr} (hp : ps[k]? = some p) (hq : qs[k]? = some q) (he : p ≠ q) : ps ≠ qs := by
  rintro rfl
  rw [hp] at hq
  exact he (Option.some.inj hq)

set_option maxHeartbeats 4000000 in
theorem sameBoard_any (A1 A2 : Option Addr) (n1 n2 c1 c2 : Nat) (ps qs : List M.Pr) (g1 g2 p1 p2 : M.Pr) (w : World) (hn1 : ps.length = n1) (hn2 : qs.length = n2) (hr1 : RdP w w.heap.size A1 ps) (hr2 : RdP w w.heap.size A2 qs) (hm : n1 ≤ 1000000) (hm2 : n2 ≤ 1000000) :
    Calls Try.prog 22 #[.agg #[.slice A1 n1 c1, .int .i64 g1.A, .int .i64 g1.B, .int .i64 p1.A, .int .i64 p1.B], .agg #[.slice A2 n2 c2, .int .i64 g2.A, .int .i64 g2.B, .int .i64 p2.A, .int .i64 p2.B]] w fun e w' => e = .returned (.bool (M.sameB ps qs g1 g2 p1 p2)) ∧ Below w.heap.size w w' := by
  have HN1 := hide hn1
  have HN2 := hide hn2
  have HR1 := hide hr1
  have HR2 := hide hr2
  clear hn1 hn2 hr1 hr2
  cases hl : ((n1 : Int) != (n2 : Int))
  · obtain rfl : n1 = n2 := by simp at hl; omega
    cases hg : (g1.A == g2.A && g1.B == g2.B)
    · have ho : M.sameB ps qs g1 g2 p1 p2 = false := by unfold M.sameB; rw [← pr_eq (g := g1), hg]; simp
      rw [ho]; clear ho
      go_enter Try.func22, Try.ntmps22
      go_wp2_with fail
      go_ret
      exact ⟨rfl, by (repeat' first | exact zbR _ _ | assumption | refine zbD ?_ | refine zbA ?_ ?_ _ | refine zbS ?_ ?_ _ | refine zbT ?_ (by assumption) ?_ | (simp; done) | (simp; omega) | omega)⟩
    · cases hp : (p1.A == p2.A && p1.B == p2.B)
      · have ho : M.sameB ps qs g1 g2 p1 p2 = false := by unfold M.sameB; rw [← pr_eq (g := p1), hp]; simp
        rw [ho]; clear ho
        go_enter Try.func22, Try.ntmps22
        go_wp2_with fail
        go_ret
        exact ⟨rfl, by (repeat' first | exact zbR _ _ | assumption | refine zbD ?_ | refine zbA ?_ ?_ _ | refine zbS ?_ ?_ _ | refine zbT ?_ (by assumption) ?_ | (simp; done) | (simp; omega) | omega)⟩
      · have ho : M.sameB ps qs g1 g2 p1 p2 = decide (ps = qs) := by unfold M.sameB; rw [← pr_eq (g := g1), hg, ← pr_eq (g := p1), hp]; simp
        rw [ho]; clear ho
        go_enter Try.func22, Try.ntmps22
        go_wp2_with fail
        go_loopw [5] (fun i wr => ∃ k : Nat, k ≤ n1 ∧ i = .int .i64 k ∧ Hid (ps.take k = qs.take k) ∧ wr.cell? ⟨w.heap.size, 0, none⟩ = some (.slice A1 n1 c1) ∧ wr.cell? ⟨w.heap.size + 1, 0, none⟩ = some (.slice A2 n1 c2) ∧ Below w.heap.size w wr ∧ w.heap.size < wr.heap.size ∧ w.heap.size + 1 < wr.heap.size) (fun i _ => n1 - (intOf i).toNat)
        case atStart => exact ⟨0, by omega, rfl, hide rfl, by (first | (go_keep; done) | (go_split_ands; (repeat' apply And.intro) <;> first | (go_keep; done) | (simp [*, zcA, zcP, zfA, zfP]; done) | (simp [zcA, zcP] <;> rfl) | (simp [*, zsS, zsO, zsA]; done) | ((first | refine (hc _ _ ?_).trans ?_ | refine (hf _ _ ?_).trans ?_) <;> first | assumption | (simp; done) | (simp; omega) | omega | (go_keep; done) | (simp [*, zcA, zcP, zfA, zfP]; done) | (simp [zcA, zcP]; rfl)) | (repeat' first | exact zbR _ _ | assumption | refine zbD ?_ | refine zbA ?_ ?_ _ | refine zbS ?_ ?_ _ | refine zbT ?_ (by assumption) ?_ | (simp; done) | (simp; omega) | omega)))⟩
        case round =>
          obtain ⟨k, hk, rfl, hno, hS0⟩ := hrel
          by_cases hlt : k < n1
          · obtain ⟨p, hp'⟩ : ∃ q, ps[k]? = some q := ⟨_, List.getElem?_eq_getElem (by have := HN1.out; omega)⟩
            obtain ⟨q, hq'⟩ : ∃ q, qs[k]? = some q := ⟨_, List.getElem?_eq_getElem (by have := HN2.out; omega)⟩
            obtain ⟨b, o, hA, hbB, c0, c1'⟩ := (HR1.out.below hS0.2.2.1) k p hp'
            obtain ⟨b2, o2, hA2, hbB2, d0, d1⟩ := (HR2.out.below hS0.2.2.1) k q hq'
            subst hA hA2
            have HP := hide hp'
            have HQ := hide hq'
            clear hp' hq'
            have hlt' : (k : Int) < (n1 : Int) := by omega
            have hk0 : (0 : Int) ≤ (k : Int) := by omega
            obtain ⟨hx0, hx1, hB, hz0, hz1⟩ := hS0
            cases he : (p.A == q.A && p.B == q.B)
            · have hne : ps ≠ qs := take_diff HP.out HQ.out (by rw [pr_eq] at he; simpa using he)
              have hd : decide (ps = qs) = false := decide_eq_false hne
              have HDD := hide hd
              clear hne hd
              go_wp2_with fail
              go_quiet (fail)
              go_wp2_with fail
              go_ret
              exact ⟨by rw [HDD.out]; rfl, below_drewN hB _⟩
            · have HT := hide (take_next hno.out HP.out HQ.out (by rw [pr_eq] at he; simpa using he))
              go_wp2_with fail
              go_quiet (fail)
              go_wp2_with fail
              go_roundw
              case rel => exact ⟨k + 1, by omega, by go_num, HT, by simp [hx0], by simp [hx1], below_drewN hB _, by simp [hz0], by simp [hz1]⟩
              case measure => simp [intOf]; omega
          · have hkn : k = n1 := by omega
            have hall : ps = qs := by
              have := hno.out
              rwa [List.take_of_length_le (by have := HN1.out; omega), List.take_of_length_le (by have := HN2.out; omega)] at this
            have hd : decide (ps = qs) = true := decide_eq_true hall
            have HDD := hide hd
            clear hall hd
            subst hkn
            obtain ⟨hx0, hx1, hB, hz0, hz1⟩ := hS0
            go_wp2_with fail
            go_ret
            exact ⟨by rw [HDD.out]; rfl, by (repeat' first | exact zbR _ _ | assumption | refine zbD ?_ | refine zbA ?_ ?_ _ | refine zbS ?_ ?_ _ | refine zbT ?_ (by assumption) ?_ | (simp; done) | (simp; omega) | omega)⟩
  · have ho : M.sameB ps qs g1 g2 p1 p2 = false := by
      have : ps ≠ qs := by rintro rfl; have h1 := HN1.out; have h2 := HN2.out; simp at hl; omega
      unfold M.sameB; rw [decide_eq_false this]; rfl
    rw [ho]; clear ho
    go_enter Try.func22, Try.ntmps22
    go_wp2_with fail
    go_ret
    exact ⟨rfl, by (repeat' first | exact zbR _ _ | assumption | refine zbD ?_ | refine zbA ?_ ?_ _ | refine zbS ?_ ?_ _ | refine zbT ?_ (by assumption) ?_ | (simp; done) | (simp; omega) | omega)⟩

end Go.Proofs.Ytbjmnlhehkcakaa

namespace Go.Proofs.Ytbjmnlhehkcakaa
open Go.RowKit Go.Maps

theorem laidOut : laidOutB Try.prog = true := by kernel_rfl
theorem rowPair : 32 < Try.prog.types.size := of_decide_eq_true (by kernel_rfl)
theorem widePair : (match Try.prog.underlying 32 with | some (.array _ _) | some (.struct _) => true | _ => false) = true := by kernel_rfl
theorem pairKey : Try.prog.keyTypeAt 2 32 = true := by kernel_rfl
set_option maxRecDepth 100000 in
theorem pairLaw : WideMaps.KeyLaw Try.prog 32 := deep_law_laid laidOut (m := 2) (by omega) rowPair pairKey widePair
theorem pairKeyed : Keyed Try.prog 32 := Keyed.of_law pairLaw
theorem pairType : Try.prog.keyType 32 = true := by kernel_rfl
theorem pairCells : Try.prog.cellsOf 32 = 2 := by kernel_rfl
theorem intCells : Try.prog.cellsOf 3 = 1 := by kernel_rfl

def keyL (p : M.Pr) : Lit := .string (keyBytes [.int .i64 p.A, .int .i64 p.B])
theorem wfA {p : M.Pr} (hp : M.Small p) : (Lit.int .i64 p.A).wf = true := WalkArith.wf_i64 (by have := hp.a0; have := hp.a1; omega)
theorem wfB {p : M.Pr} (hp : M.Small p) : (Lit.int .i64 p.B).wf = true := WalkArith.wf_i64 (by have := hp.b0; have := hp.b1; omega)
theorem keyP_eq (p : M.Pr) (hp : M.Small p) : keyOf Try.prog 32 (.agg #[.int .i64 p.A, .int .i64 p.B]) = some (keyL p) := by
  obtain ⟨m, hm⟩ : ∃ m, Try.prog.types.size = m + 1 := ⟨Try.prog.types.size - 1, by have := rowPair; omega⟩
  unfold keyOf
  simp only [Try.underlying32]
  rw [if_pos (by simp [pairType, Value.formed, Try.underlying32, pairCells]), hm]
  unfold Program.keyLits
  simp only [Try.underlying32, Value.cells]
  rw [if_pos (by rw [pairCells]; exact ⟨rfl, by simp⟩)]
  simp [intCells, Program.keyLits, Try.underlying3, wfA hp, wfB hp, keyL]

theorem keyL_ne {p q : M.Pr} (hp : M.Small p) (hq : M.Small q) (h : p ≠ q) : keyL p ≠ keyL q := fun e => by
  have := pairKeyed.inj (keyP_eq p hp) (by rw [e]; exact keyP_eq q hq)
  injection this with this
  have h0 := congrArg (fun a : Array Value => a[0]?) this
  have h1 := congrArg (fun a : Array Value => a[1]?) this
  simp at h0 h1
  exact h (by cases p; cases q; simp_all)

def MapF (w : World) (B : Nat) (F : M.Pr → Int) (n : Nat) : Prop :=
  ∃ D : DataW Unit, IsMap D ∧ w.ownsMap Try.prog 32 (plainElem Try.prog 3) B n D ∧ ∀ p, M.Small p → D.atKey (keyL p) (.lit (.int .i64 0)) = .lit (.int .i64 (F p))

theorem zeroInt (w : World) : (zeroValue 3).run Try.prog w = .ok (.int .i64 0) w := by kernel_rfl

open Classical in
noncomputable def upd (F : M.Pr → Int) (p : M.Pr) (v : Int) : M.Pr → Int := fun q => if q = p then v else F q

theorem MapF.made (w : World) : MapF (w.alloc (.map #[] 0)) w.heap.size (fun _ => 0) 0 :=
  ⟨.map [], isMap_empty, World.ownsMap_made _ _ _ _, fun p _ => by simp [DataW.atKey]⟩
theorem MapF.lt {w : World} {B n : Nat} {F : M.Pr → Int} (h : MapF w B F n) : B < w.heap.size := by
  obtain ⟨D, _, h, _⟩ := h; exact h.lt
theorem MapF.below {w w' : World} {B n : Nat} {F : M.Pr → Int} (h : MapF w B F n) (hb : Below w.heap.size w w') : MapF w' B F n := by
  obtain ⟨D, hi, h, hF⟩ := h
  exact ⟨D, hi, h.kept (row := none) ⟨hb.os, hb.tape, hb.output, hb.size, fun i hi _ => hb.block i hi⟩ (by simp), hF⟩
theorem MapF.look {w : World} {B n : Nat} {F : M.Pr → Int} (h : MapF w B F n) (p : M.Pr) (hp : M.Small p) :
    (Instr.lookup 112 (.map (some B)) (.agg #[.int .i64 p.A, .int .i64 p.B]) false).run Try.prog w = .ok (.int .i64 (F p)) w := by
  obtain ⟨D, hi, h, hF⟩ := h
  obtain ⟨c, hrun, hat, _⟩ := h.lookup_int pairKeyed Try.underlying112 Try.underlying3 (zeroInt w) (keyP_eq p hp)
  rw [hF p hp] at hat
  simp only [DataW.lit.injEq, Lit.int.injEq, true_and] at hat
  rw [hat]; exact hrun
set_option maxRecDepth 100000 in
theorem MapF.store {w : World} {B n : Nat} {F : M.Pr → Int} (h : MapF w B F n) (hn : n < 1000000) (p : M.Pr) (hp : M.Small p) (v : Int) (hv : (Lit.int .i64 v).wf = true) :
    ∃ w', (Instr.mapUpdate 112 (.map (some B)) (.agg #[.int .i64 p.A, .int .i64 p.B]) (.int .i64 v)).run Try.prog w = .ok () w' ∧ MapF w' B (upd F p v) (n + 1) ∧ w.grownBy w' (some B) := by
  obtain ⟨D, hi, h, hF⟩ := h
  obtain ⟨w', hrun, ho, hg⟩ := h.update pairKeyed Try.underlying112 (by simp only [maxLen]; omega) (keyP_eq p hp) (plainElem_int Try.underlying3 hv)
  refine ⟨w', hrun, ⟨_, hi.put _ _, ho, fun q hq => ?_⟩, hg⟩
  unfold upd
  by_cases e : q = p
  · rw [if_pos e, e]
    exact atKey_put_same hi (pairKeyed.key (keyP_eq p hp)) _ _
  · rw [if_neg e, atKey_put_other (keyL_ne hq hp e)]
    exact hF q hq

end Go.Proofs.Ytbjmnlhehkcakaa

namespace Go.Proofs.Ytbjmnlhehkcakaa
open Go.RowKit
attribute [local go_sem ↓] Go.wp_at_zero Go.wp_at_succ run_eql_pair

theorem MapF.congr {w : World} {B n : Nat} {F G : M.Pr → Int} (h : MapF w B F n) (hFG : ∀ p, F p = G p) : MapF w B G n := by
  obtain ⟨D, hi, h, hF⟩ := h
  exact ⟨D, hi, h, fun p hp => by rw [← hFG]; exact hF p hp⟩
theorem upd_ne {F : M.Pr → Int} {p q : M.Pr} {v : Int} (h : q ≠ p) : upd F p v q = F q := if_neg h
theorem upd_hold {f : M.Fm} {e : M.Pr} {a b : Nat} (hb : (b : Int) ≤ e.B) (ha : (a : Int) ≤ e.A) (h : M.good f e a b = true) (p : M.Pr) :
    upd (M.hold f e a b) (M.nat a b) ((M.left f e a b : Int) + M.down f e a b) p = M.hold f e a (b + 1) p := by
  rw [M.hold_next hb ha h]; unfold upd
  by_cases hp : p = M.nat a b
  · simp [hp]
  · simp [hp]
theorem minus_ne (a b : Nat) (s : Int) : M.minus (M.nat a b) s ≠ M.nat a b := by
  unfold M.minus M.nat; split <;> (intro h; simp at h; omega)

set_option maxHeartbeats 16000000 in
set_option maxRecDepth 100000 in
theorem orders_any (f : M.Fm) (e : M.Pr) (w : World) (hv : M.Valid f) (he : 0 ≤ e.A ∧ e.A ≤ 40 ∧ 0 ≤ e.B ∧ e.B ≤ 40) :
    Calls Try.prog 56 #[.agg #[.int .i64 f.sets, .int .i64 f.games, .bool f.noAd, .int .i64 f.tie, .int .i64 f.to, .int .i64 f.lastTie, .int .i64 f.lastTo, .int .i64 f.first, .int .i64 f.next, .bool f.doubles], .agg #[.int .i64 e.A, .int .i64 e.B]] w fun x w' => x = .returned (.int .i64 (M.orders f e)) ∧ Below w.heap.size w w' := by
  have HV := hide hv
  have HE := hide he
  obtain ⟨e0, e1, e2, e3⟩ := he
  have hm0 : MapF (((w.alloc (.cells #[.int .i64 f.sets, .int .i64 f.games, .bool f.noAd, .int .i64 f.tie, .int .i64 f.to, .int .i64 f.lastTie, .int .i64 f.lastTo, .int .i64 f.first, .int .i64 f.next, .bool f.doubles] 23)).alloc (.cells #[.int .i64 e.A, .int .i64 e.B] 32)).alloc (.map #[] 0)) (w.heap.size + 1 + 1) (fun _ => 0) 0 := by
    have := MapF.made ((w.alloc (.cells #[.int .i64 f.sets, .int .i64 f.games, .bool f.noAd, .int .i64 f.tie, .int .i64 f.to, .int .i64 f.lastTie, .int .i64 f.lastTo, .int .i64 f.first, .int .i64 f.next, .bool f.doubles] 23)).alloc (.cells #[.int .i64 e.A, .int .i64 e.B] 32))
    simpa using this
  obtain ⟨w1, hrun, hm1, hg⟩ := hm0.store (by omega) M.zero ⟨by decide, by decide, by decide, by decide⟩ 1 (by decide)
  have hM1 : MapF w1 (w.heap.size + 1 + 1) (M.hold f e 0 0) 1 := hm1.congr (fun p => by rw [M.hold_start]; unfold upd; by_cases h : p = M.zero <;> simp [h])
  have hz0 := hg.size
  simp at hz0
  have hB1 : Below w.heap.size w w1 := Below.grown (((( Below.refl _ _).alloc (Nat.le_refl _) _).alloc (by simp) _).alloc (by simp; omega) _) hg (by simp; omega) (by intro k hk; injection hk with hk; omega)
  have hc1 : ∀ b o, b < w.heap.size + 1 + 1 → w1.cell? ⟨b, o, none⟩ = (((w.alloc (.cells #[.int .i64 f.sets, .int .i64 f.games, .bool f.noAd, .int .i64 f.tie, .int .i64 f.to, .int .i64 f.lastTie, .int .i64 f.lastTo, .int .i64 f.first, .int .i64 f.next, .bool f.doubles] 23)).alloc (.cells #[.int .i64 e.A, .int .i64 e.B] 32)).alloc (.map #[] 0)).cell? ⟨b, o, none⟩ :=
    fun b o h => World.cell?_of_block (hg.block b (by simp; omega) (by simp; omega))
  have hS1 : (fun w' => Below w.heap.size w w' ∧ w.heap.size < w'.heap.size ∧ w.heap.size + 1 < w'.heap.size ∧ w.heap.size + 1 + 1 < w'.heap.size ∧ w'.cell? ⟨w.heap.size + 1, 0, none⟩ = some (.int .i64 e.A) ∧ w'.cell? ⟨w.heap.size + 1, 1, none⟩ = some (.int .i64 e.B) ∧ w'.cell? ⟨w.heap.size, 0, none⟩ = some (.int .i64 f.sets) ∧ w'.cell? ⟨w.heap.size, 1, none⟩ = some (.int .i64 f.games) ∧ w'.cell? ⟨w.heap.size, 2, none⟩ = some (.bool f.noAd) ∧ w'.cell? ⟨w.heap.size, 3, none⟩ = some (.int .i64 f.tie) ∧ w'.cell? ⟨w.heap.size, 4, none⟩ = some (.int .i64 f.to) ∧ w'.cell? ⟨w.heap.size, 5, none⟩ = some (.int .i64 f.lastTie) ∧ w'.cell? ⟨w.heap.size, 6, none⟩ = some (.int .i64 f.lastTo) ∧ w'.cell? ⟨w.heap.size, 7, none⟩ = some (.int .i64 f.first) ∧ w'.cell? ⟨w.heap.size, 8, none⟩ = some (.int .i64 f.next) ∧ w'.cell? ⟨w.heap.size, 9, none⟩ = some (.bool f.doubles)) w1 := by
    dsimp only
    refine ⟨hB1, by omega, by omega, by omega, ?_⟩
    (repeat' apply And.intro) <;> (rw [hc1 _ _ (by omega), World.cell?_alloc_past _ _ _ (by simp; try omega)]; simp)
  dsimp only at hS1
  have HM1 := hide hM1
  have hmm := @run_makeMap Try.prog
  have hrun' : (Instr.mapUpdate 112 (.map (some (w.heap.size + 1 + 1))) (.agg #[.int .i64 0, .int .i64 0]) (.int .i64 1)).run Try.prog (((w.alloc (.cells #[.int .i64 f.sets, .int .i64 f.games, .bool f.noAd, .int .i64 f.tie, .int .i64 f.to, .int .i64 f.lastTie, .int .i64 f.lastTo, .int .i64 f.first, .int .i64 f.next, .bool f.doubles] 23)).alloc (.cells #[.int .i64 e.A, .int .i64 e.B] 32)).alloc (.map #[] 0)) = .ok () w1 := hrun
  clear hv hm0 hm1 hM1 hg hB1 hc1 hrun
  go_enter Try.func56, Try.ntmps56
  go_wp2
  go_loopw [15] (fun i wr => ∃ a : Nat, (a : Int) ≤ e.A + 1 ∧ i = .int .i64 a ∧ Hid (∃ n, n ≤ 1 + 50 * a ∧ MapF wr (w.heap.size + 1 + 1) (M.hold f e a 0) n) ∧ Below w.heap.size w wr ∧ w.heap.size < wr.heap.size ∧ w.heap.size + 1 < wr.heap.size ∧ w.heap.size + 1 + 1 < wr.heap.size ∧ wr.cell? ⟨w.heap.size + 1, 0, none⟩ = some (.int .i64 e.A) ∧ wr.cell? ⟨w.heap.size + 1, 1, none⟩ = some (.int .i64 e.B) ∧ wr.cell? ⟨w.heap.size, 0, none⟩ = some (.int .i64 f.sets) ∧ wr.cell? ⟨w.heap.size, 1, none⟩ = some (.int .i64 f.games) ∧ wr.cell? ⟨w.heap.size, 2, none⟩ = some (.bool f.noAd) ∧ wr.cell? ⟨w.heap.size, 3, none⟩ = some (.int .i64 f.tie) ∧ wr.cell? ⟨w.heap.size, 4, none⟩ = some (.int .i64 f.to) ∧ wr.cell? ⟨w.heap.size, 5, none⟩ = some (.int .i64 f.lastTie) ∧ wr.cell? ⟨w.heap.size, 6, none⟩ = some (.int .i64 f.lastTo) ∧ wr.cell? ⟨w.heap.size, 7, none⟩ = some (.int .i64 f.first) ∧ wr.cell? ⟨w.heap.size, 8, none⟩ = some (.int .i64 f.next) ∧ wr.cell? ⟨w.heap.size, 9, none⟩ = some (.bool f.doubles)) (fun i _ => (e.A + 1 - intOf i).toNat)
  case atStart => exact ⟨0, by omega, rfl, hide ⟨1, by omega, HM1.out⟩, hS1⟩
  case round =>
    obtain ⟨a, ha, rfl, hM, hS0⟩ := hrel
    by_cases hlt : (a : Int) < e.A + 1
    · go_wp2
      obtain ⟨wo, rfl⟩ : ∃ wo : World, wo = wr := ⟨_, rfl⟩
      go_loopw [21] (fun i wr => ∃ b : Nat, (b : Int) ≤ e.B + 1 ∧ i = .int .i64 b ∧ Hid (∃ n, n ≤ 1 + 50 * a + b ∧ MapF wr (w.heap.size + 1 + 1) (M.hold f e a b) n) ∧ Below w.heap.size w wr ∧ w.heap.size < wr.heap.size ∧ w.heap.size + 1 < wr.heap.size ∧ w.heap.size + 1 + 1 < wr.heap.size ∧ wr.cell? ⟨w.heap.size + 1, 0, none⟩ = some (.int .i64 e.A) ∧ wr.cell? ⟨w.heap.size + 1, 1, none⟩ = some (.int .i64 e.B) ∧ wr.cell? ⟨w.heap.size, 0, none⟩ = some (.int .i64 f.sets) ∧ wr.cell? ⟨w.heap.size, 1, none⟩ = some (.int .i64 f.games) ∧ wr.cell? ⟨w.heap.size, 2, none⟩ = some (.bool f.noAd) ∧ wr.cell? ⟨w.heap.size, 3, none⟩ = some (.int .i64 f.tie) ∧ wr.cell? ⟨w.heap.size, 4, none⟩ = some (.int .i64 f.to) ∧ wr.cell? ⟨w.heap.size, 5, none⟩ = some (.int .i64 f.lastTie) ∧ wr.cell? ⟨w.heap.size, 6, none⟩ = some (.int .i64 f.lastTo) ∧ wr.cell? ⟨w.heap.size, 7, none⟩ = some (.int .i64 f.first) ∧ wr.cell? ⟨w.heap.size, 8, none⟩ = some (.int .i64 f.next) ∧ wr.cell? ⟨w.heap.size, 9, none⟩ = some (.bool f.doubles)) (fun i _ => (e.B + 1 - intOf i).toNat)
      case atStart => exact ⟨0, by omega, rfl, hM, hS0⟩
      case round =>
        obtain ⟨b, hb, rfl, hM', hS'⟩ := hrel
        by_cases hlt2 : (b : Int) < e.B + 1
        · obtain ⟨n, hn, hM2⟩ := hM'.out
          have HAB : Hid (M.Small (M.nat a b)) := hide ⟨by show (-1000000 : Int) ≤ (a : Int); omega, by show (a : Int) ≤ 1000000; omega, by show (-1000000 : Int) ≤ (b : Int); omega, by show (b : Int) ≤ 1000000; omega⟩
          have HAL : Hid (M.Small (M.minus (M.nat a b) 0)) := hide (HAB.out.minus ⟨by show (-999999 : Int) ≤ (a : Int); omega, by show (-999999 : Int) ≤ (b : Int); omega⟩ 0)
          have HAD : Hid (M.Small (M.minus (M.nat a b) 1)) := hide (HAB.out.minus ⟨by show (-999999 : Int) ≤ (a : Int); omega, by show (-999999 : Int) ≤ (b : Int); omega⟩ 1)
          have HL0 : Hid (M.hold f e a b (M.minus (M.nat a b) 0) = M.left f e a b) := hide (M.hold_left (by omega) (by omega))
          have HL1 : Hid (M.hold f e a b (M.minus (M.nat a b) 1) = M.down f e a b) := hide (M.hold_down (by omega) (by omega))
          have bl := M.left_most HV.out (e := e) ⟨by omega, by omega⟩ (a := a) (b := b) (by omega) (by omega)
          have bd := M.down_most HV.out (e := e) ⟨by omega, by omega⟩ (a := a) (b := b) (by omega) (by omega)
          have ew : IntKind.i64.wrap ((M.left f e a b : Int) + M.down f e a b) = (M.left f e a b : Int) + M.down f e a b := IntWalk.i64_in _ (by omega)
          have HWF : Hid ((Lit.int .i64 ((M.left f e a b : Int) + M.down f e a b)).wf = true) := hide (WalkArith.wf_i64 (by omega))
          clear bl bd
          cases hE : ((a : Int) == e.A && (b : Int) == e.B)
          · by_cases h0 : (0 : Int) < (a : Int) + (b : Int)
            · cases hga : M.gamesArise f (M.nat a b)
              · have hgood : M.good f e a b = false := by
                  unfold M.good; rw [hga]; simp at hE; simp; omega
                have HREL : Hid (∃ n, n ≤ 1 + 50 * a + (b + 1) ∧ MapF wr (w.heap.size + 1 + 1) (M.hold f e a (b + 1)) n) := hide ⟨n, by omega, hM2.congr (fun p => (M.hold_same (by omega) (by omega) hgood p).symm)⟩
                clear hM2 hgood
                go_wp2_with (first | (go_at_call 67; refine (gamesArise_any f (M.nat a b) _ HAB.out).mono ?_; rintro e wg ⟨rfl, hb⟩; obtain ⟨hc, hf⟩ := bcell hb; have hz := hb.size; (try simp at hz); have hSn : ((fun w' => Below w.heap.size w w' ∧ w.heap.size < w'.heap.size ∧ w.heap.size + 1 < w'.heap.size ∧ w.heap.size + 1 + 1 < w'.heap.size ∧ w'.cell? ⟨w.heap.size + 1, 0, none⟩ = some (.int .i64 e.A) ∧ w'.cell? ⟨w.heap.size + 1, 1, none⟩ = some (.int .i64 e.B) ∧ w'.cell? ⟨w.heap.size, 0, none⟩ = some (.int .i64 f.sets) ∧ w'.cell? ⟨w.heap.size, 1, none⟩ = some (.int .i64 f.games) ∧ w'.cell? ⟨w.heap.size, 2, none⟩ = some (.bool f.noAd) ∧ w'.cell? ⟨w.heap.size, 3, none⟩ = some (.int .i64 f.tie) ∧ w'.cell? ⟨w.heap.size, 4, none⟩ = some (.int .i64 f.to) ∧ w'.cell? ⟨w.heap.size, 5, none⟩ = some (.int .i64 f.lastTie) ∧ w'.cell? ⟨w.heap.size, 6, none⟩ = some (.int .i64 f.lastTo) ∧ w'.cell? ⟨w.heap.size, 7, none⟩ = some (.int .i64 f.first) ∧ w'.cell? ⟨w.heap.size, 8, none⟩ = some (.int .i64 f.next) ∧ w'.cell? ⟨w.heap.size, 9, none⟩ = some (.bool f.doubles) ∧ w'.cell? ⟨wr.heap.size, 0, none⟩ = some (.int .i64 (a : Int)) ∧ w'.cell? ⟨wr.heap.size, 1, none⟩ = some (.int .i64 (b : Int)) ∧ wr.heap.size < w'.heap.size)) wg := (by (try dsimp only); (first | (go_keep; done) | (go_split_ands; (repeat' apply And.intro) <;> first | (go_keep; done) | (simp [*, zcA, zcP, zfA, zfP]; done) | (simp [zcA, zcP] <;> rfl) | (simp [*, zsS, zsO, zsA]; done) | ((first | refine (hc _ _ ?_).trans ?_ | refine (hf _ _ ?_).trans ?_) <;> first | assumption | (simp; done) | (simp; omega) | omega | (go_keep; done) | (simp [*, zcA, zcP, zfA, zfP]; done) | (simp [zcA, zcP]; rfl)) | (repeat' first | exact zbR _ _ | assumption | refine zbD ?_ | refine zbA ?_ ?_ _ | refine zbS ?_ ?_ _ | refine zbT ?_ (by assumption) ?_ | (simp; done) | (simp; omega) | omega)))); (try dsimp only at hSn); (try clear hS); have hS := hSn; clear hSn hc hf))
                have HREL2 : Hid (∃ n, n ≤ 1 + 50 * a + (b + 1) ∧ MapF wg (w.heap.size + 1 + 1) (M.hold f e a (b + 1)) n) := hide (by
                  obtain ⟨n, hn, hm⟩ := HREL.out
                  exact ⟨n, hn, hm.below (by (repeat' first | exact zbR _ _ | assumption | refine zbD ?_ | refine zbA ?_ ?_ _ | refine zbS ?_ ?_ _ | refine zbT ?_ (by assumption) ?_ | (simp; done) | (simp; omega) | omega))⟩)
                go_roundw
                case rel => exact ⟨b + 1, by omega, by go_num, HREL2, by (first | (go_keep; done) | (go_split_ands; (repeat' apply And.intro) <;> first | (go_keep; done) | (simp [*, zcA, zcP, zfA, zfP]; done) | (simp [zcA, zcP] <;> rfl) | (simp [*, zsS, zsO, zsA]; done) | ((first | refine (hc _ _ ?_).trans ?_ | refine (hf _ _ ?_).trans ?_) <;> first | assumption | (simp; done) | (simp; omega) | omega | (go_keep; done) | (simp [*, zcA, zcP, zfA, zfP]; done) | (simp [zcA, zcP]; rfl)) | (repeat' first | exact zbR _ _ | assumption | refine zbD ?_ | refine zbA ?_ ?_ _ | refine zbS ?_ ?_ _ | refine zbT ?_ (by assumption) ?_ | (simp; done) | (simp; omega) | omega)))⟩
                case measure => simp [intOf]; omega
              · have hgood : M.good f e a b = true := by
                  unfold M.good; rw [hga]; simp; omega
                have HG := hide hgood
                clear hgood
                go_wp2_with (first | (go_at_call 67; refine (gamesArise_any f (M.nat a b) _ HAB.out).mono ?_; rintro e wg ⟨rfl, hb⟩; obtain ⟨hc, hf⟩ := bcell hb; have hz := hb.size; (try simp at hz); have hSn : ((fun w' => Below w.heap.size w w' ∧ w.heap.size < w'.heap.size ∧ w.heap.size + 1 < w'.heap.size ∧ w.heap.size + 1 + 1 < w'.heap.size ∧ w'.cell? ⟨w.heap.size + 1, 0, none⟩ = some (.int .i64 e.A) ∧ w'.cell? ⟨w.heap.size + 1, 1, none⟩ = some (.int .i64 e.B) ∧ w'.cell? ⟨w.heap.size, 0, none⟩ = some (.int .i64 f.sets) ∧ w'.cell? ⟨w.heap.size, 1, none⟩ = some (.int .i64 f.games) ∧ w'.cell? ⟨w.heap.size, 2, none⟩ = some (.bool f.noAd) ∧ w'.cell? ⟨w.heap.size, 3, none⟩ = some (.int .i64 f.tie) ∧ w'.cell? ⟨w.heap.size, 4, none⟩ = some (.int .i64 f.to) ∧ w'.cell? ⟨w.heap.size, 5, none⟩ = some (.int .i64 f.lastTie) ∧ w'.cell? ⟨w.heap.size, 6, none⟩ = some (.int .i64 f.lastTo) ∧ w'.cell? ⟨w.heap.size, 7, none⟩ = some (.int .i64 f.first) ∧ w'.cell? ⟨w.heap.size, 8, none⟩ = some (.int .i64 f.next) ∧ w'.cell? ⟨w.heap.size, 9, none⟩ = some (.bool f.doubles) ∧ w'.cell? ⟨wr.heap.size, 0, none⟩ = some (.int .i64 (a : Int)) ∧ w'.cell? ⟨wr.heap.size, 1, none⟩ = some (.int .i64 (b : Int)) ∧ wr.heap.size < w'.heap.size)) wg := (by (try dsimp only); (first | (go_keep; done) | (go_split_ands; (repeat' apply And.intro) <;> first | (go_keep; done) | (simp [*, zcA, zcP, zfA, zfP]; done) | (simp [zcA, zcP] <;> rfl) | (simp [*, zsS, zsO, zsA]; done) | ((first | refine (hc _ _ ?_).trans ?_ | refine (hf _ _ ?_).trans ?_) <;> first | assumption | (simp; done) | (simp; omega) | omega | (go_keep; done) | (simp [*, zcA, zcP, zfA, zfP]; done) | (simp [zcA, zcP]; rfl)) | (repeat' first | exact zbR _ _ | assumption | refine zbD ?_ | refine zbA ?_ ?_ _ | refine zbS ?_ ?_ _ | refine zbT ?_ (by assumption) ?_ | (simp; done) | (simp; omega) | omega)))); (try dsimp only at hSn); (try clear hS); have hS := hSn; clear hSn hc hf))
                have hM2 : MapF wg.drew (w.heap.size + 1 + 1) (M.hold f e a b) n := MapF.below (w := wr) hM2 (by (repeat' first | exact zbR _ _ | assumption | refine zbD ?_ | refine zbA ?_ ?_ _ | refine zbS ?_ ?_ _ | refine zbT ?_ (by assumption) ?_ | (simp; done) | (simp; omega) | omega))
                have hl0 := MapF.look hM2 (M.minus (M.nat a b) 0) HAL.out
                have hl1 := MapF.look hM2 (M.minus (M.nat a b) 1) HAD.out
                rw [HL0.out] at hl0
                rw [HL1.out] at hl1
                refine wp_region_held_drew (S := (fun w' => Below w.heap.size w w' ∧ w.heap.size < w'.heap.size ∧ w.heap.size + 1 < w'.heap.size ∧ w.heap.size + 1 + 1 < w'.heap.size ∧ w'.cell? ⟨w.heap.size + 1, 0, none⟩ = some (.int .i64 e.A) ∧ w'.cell? ⟨w.heap.size + 1, 1, none⟩ = some (.int .i64 e.B) ∧ w'.cell? ⟨w.heap.size, 0, none⟩ = some (.int .i64 f.sets) ∧ w'.cell? ⟨w.heap.size, 1, none⟩ = some (.int .i64 f.games) ∧ w'.cell? ⟨w.heap.size, 2, none⟩ = some (.bool f.noAd) ∧ w'.cell? ⟨w.heap.size, 3, none⟩ = some (.int .i64 f.tie) ∧ w'.cell? ⟨w.heap.size, 4, none⟩ = some (.int .i64 f.to) ∧ w'.cell? ⟨w.heap.size, 5, none⟩ = some (.int .i64 f.lastTie) ∧ w'.cell? ⟨w.heap.size, 6, none⟩ = some (.int .i64 f.lastTo) ∧ w'.cell? ⟨w.heap.size, 7, none⟩ = some (.int .i64 f.first) ∧ w'.cell? ⟨w.heap.size, 8, none⟩ = some (.int .i64 f.next) ∧ w'.cell? ⟨w.heap.size, 9, none⟩ = some (.bool f.doubles) ∧ w'.cell? ⟨wr.heap.size, 0, none⟩ = some (.int .i64 (a : Int)) ∧ w'.cell? ⟨wr.heap.size, 1, none⟩ = some (.int .i64 (b : Int)) ∧ wr.heap.size < w'.heap.size ∧ (Instr.lookup 112 (.map (some (w.heap.size + 1 + 1))) (.agg #[.int .i64 (M.minus (M.nat a b) 0).A, .int .i64 (M.minus (M.nat a b) 0).B]) false).run Try.prog w' = .ok (.int .i64 (M.left f e a b)) w' ∧ (Instr.lookup 112 (.map (some (w.heap.size + 1 + 1))) (.agg #[.int .i64 (M.minus (M.nat a b) 1).A, .int .i64 (M.minus (M.nat a b) 1).B]) false).run Try.prog w' = .ok (.int .i64 (M.down f e a b)) w')) (by kernel_rfl) ?_ (fun hHeld0 => ?_)
                · (try dsimp only); first | (go_split_ands; (repeat' apply And.intro) <;> first | with_reducible exact hl0 | with_reducible exact hl1 | with_reducible exact hb9 | with_reducible assumption | (with_reducible refine (hc _ _ (by first | (simp; done) | (simp; omega) | omega)).trans ?_; (first | with_reducible assumption | (simp [*]; done))) | (simp [*, World.cell?_alloc_some]; done) | omega) | (first | (go_keep; done) | (go_split_ands; (repeat' apply And.intro) <;> first | (go_keep; done) | (simp [*, zcA, zcP, zfA, zfP]; done) | (simp [zcA, zcP] <;> rfl) | (simp [*, zsS, zsO, zsA]; done) | ((first | refine (hc _ _ ?_).trans ?_ | refine (hf _ _ ?_).trans ?_) <;> first | assumption | (simp; done) | (simp; omega) | omega | (go_keep; done) | (simp [*, zcA, zcP, zfA, zfP]; done) | (simp [zcA, zcP]; rfl)) | (repeat' first | exact zbR _ _ | assumption | refine zbD ?_ | refine zbA ?_ ?_ _ | refine zbS ?_ ?_ _ | refine zbT ?_ (by assumption) ?_ | (simp; done) | (simp; omega) | omega)))
                refine tL (v := ?_) 0 rfl (by kernel_rfl) (fun _ _ _ h => h) (Or.inl ⟨by rfl, ?_⟩) (by assumption) ?_; rotate_left
                · (intro w hSw; (try dsimp only at hSw); go_simp; try with_reducible rfl)
                try simp only [Act.put, zl, z0, z1]
                refine tL (v := ?_) 1 rfl (by kernel_rfl) (fun _ _ _ h => h) (Or.inl ⟨by rfl, ?_⟩) (by assumption) ?_; rotate_left
                · (intro w hSw; (try dsimp only at hSw); go_simp; try with_reducible rfl)
                try simp only [Act.put, zl, z0, z1]
                refine tL (v := ?_) 2 rfl (by kernel_rfl) (fun _ _ _ h => h) (Or.inl ⟨by rfl, ?_⟩) (by assumption) ?_; rotate_left
                · (intro w hSw; (try dsimp only at hSw); go_simp; try with_reducible rfl)
                try simp only [Act.put, zl, z0, z1]
                refine tL (v := ?_) 3 rfl (by kernel_rfl) (fun _ _ _ h => h) (Or.inl ⟨by rfl, ?_⟩) (by assumption) ?_; rotate_left
                · (intro w hSw; (try dsimp only at hSw); go_simp; try with_reducible rfl)
                try simp only [Act.put, zl, z0, z1]
                refine tL (v := ?_) 6 rfl (by kernel_rfl) (fun _ _ _ h => h) (Or.inl ⟨by rfl, ?_⟩) (by assumption) ?_; rotate_left
                · (intro w hSw; (try dsimp only at hSw); go_simp; try with_reducible rfl)
                try simp only [Act.put, zl, z0, z1]
                refine tL (v := ?_) 7 rfl (by kernel_rfl) (fun _ _ _ h => h) (Or.inl ⟨by rfl, ?_⟩) (by assumption) ?_; rotate_left
                · (intro w hSw; (try dsimp only at hSw); go_simp; try with_reducible rfl)
                try simp only [Act.put, zl, z0, z1]
                refine wpAnyH_ready (rs := [4]) (by kernel_rfl) (by simp) ?_
                refine consL 4 rfl (fun K hK => ?_) AllReadyH.nil
                go_simp
                (go_at_call 75; refine (minus_any (M.nat a b) _ _ HAB.out).mono ?_; rintro _ w' ⟨rfl, hb⟩; obtain ⟨hc, hf⟩ := bcell hb; have hz := hb.size; (try simp at hz); have hM2 := MapF.below hM2 hb; have hl0 := MapF.look hM2 (M.minus (M.nat a b) 0) HAL.out; have hl1 := MapF.look hM2 (M.minus (M.nat a b) 1) HAD.out; rw [HL0.out] at hl0; rw [HL1.out] at hl1)
                refine hK.out _ _ ?_ (fun hHeld1 => ?_)
                · (try dsimp only); first | (go_split_ands; (repeat' apply And.intro) <;> first | with_reducible exact hl0 | with_reducible exact hl1 | with_reducible exact hb9 | with_reducible assumption | (with_reducible refine (hc _ _ (by first | (simp; done) | (simp; omega) | omega)).trans ?_; (first | with_reducible assumption | (simp [*]; done))) | (simp [*, World.cell?_alloc_some]; done) | omega) | (first | (go_keep; done) | (go_split_ands; (repeat' apply And.intro) <;> first | (go_keep; done) | (simp [*, zcA, zcP, zfA, zfP]; done) | (simp [zcA, zcP] <;> rfl) | (simp [*, zsS, zsO, zsA]; done) | ((first | refine (hc _ _ ?_).trans ?_ | refine (hf _ _ ?_).trans ?_) <;> first | assumption | (simp; done) | (simp; omega) | omega | (go_keep; done) | (simp [*, zcA, zcP, zfA, zfP]; done) | (simp [zcA, zcP]; rfl)) | (repeat' first | exact zbR _ _ | assumption | refine zbD ?_ | refine zbA ?_ ?_ _ | refine zbS ?_ ?_ _ | refine zbT ?_ (by assumption) ?_ | (simp; done) | (simp; omega) | omega)))
                clear hK K hHeld0
                try simp only [Act.put, zl, z0, z1]
                refine tL (v := ?_) 5 rfl (by kernel_rfl) (fun _ _ _ h => h) (Or.inl ⟨by rfl, ?_⟩) (by assumption) ?_; rotate_left
                · (intro w hSw; (try dsimp only at hSw); go_simp; try with_reducible rfl)
                try simp only [Act.put, zl, z0, z1]
                refine wpAnyH_ready (rs := [8]) (by kernel_rfl) (by simp) ?_
                refine consL 8 rfl (fun K hK => ?_) AllReadyH.nil
                go_simp
                (go_at_call 75; refine (minus_any (M.nat a b) _ _ HAB.out).mono ?_; rintro _ w' ⟨rfl, hb⟩; obtain ⟨hc, hf⟩ := bcell hb; have hz := hb.size; (try simp at hz); have hM2 := MapF.below hM2 hb; have hl0 := MapF.look hM2 (M.minus (M.nat a b) 0) HAL.out; have hl1 := MapF.look hM2 (M.minus (M.nat a b) 1) HAD.out; rw [HL0.out] at hl0; rw [HL1.out] at hl1)
                refine hK.out _ _ ?_ (fun hHeld2 => ?_)
                · (try dsimp only); first | (go_split_ands; (repeat' apply And.intro) <;> first | with_reducible exact hl0 | with_reducible exact hl1 | with_reducible exact hb9 | with_reducible assumption | (with_reducible refine (hc _ _ (by first | (simp; done) | (simp; omega) | omega)).trans ?_; (first | with_reducible assumption | (simp [*]; done))) | (simp [*, World.cell?_alloc_some]; done) | omega) | (first | (go_keep; done) | (go_split_ands; (repeat' apply And.intro) <;> first | (go_keep; done) | (simp [*, zcA, zcP, zfA, zfP]; done) | (simp [zcA, zcP] <;> rfl) | (simp [*, zsS, zsO, zsA]; done) | ((first | refine (hc _ _ ?_).trans ?_ | refine (hf _ _ ?_).trans ?_) <;> first | assumption | (simp; done) | (simp; omega) | omega | (go_keep; done) | (simp [*, zcA, zcP, zfA, zfP]; done) | (simp [zcA, zcP]; rfl)) | (repeat' first | exact zbR _ _ | assumption | refine zbD ?_ | refine zbA ?_ ?_ _ | refine zbS ?_ ?_ _ | refine zbT ?_ (by assumption) ?_ | (simp; done) | (simp; omega) | omega)))
                clear hK K hHeld1
                try simp only [Act.put, zl, z0, z1]
                refine tL (v := ?_) 9 rfl (by kernel_rfl) (fun _ _ _ h => h) (Or.inl ⟨by rfl, ?_⟩) (by assumption) ?_; rotate_left
                · (intro w hSw; (try dsimp only at hSw); go_simp; try with_reducible rfl)
                try simp only [Act.put, zl, z0, z1]
                refine tL (v := ?_) 10 rfl (by kernel_rfl) (fun _ _ _ h => h) (Or.inl ⟨by rfl, ?_⟩) (by assumption) ?_; rotate_left
                · (intro w hSw; (try dsimp only at hSw); go_simp; try with_reducible rfl)
                try simp only [Act.put, zl, z0, z1]
                refine wpAnyH_ready (rs := [11]) (by kernel_rfl) (by simp) ?_
                refine consL 11 rfl (fun K hK => ?_) AllReadyH.nil
                (obtain ⟨w9, hrun9, hM9, hg9⟩ := MapF.store hM2 (by omega) (M.nat a b) HAB.out ((M.left f e a b : Int) + M.down f e a b) HWF.out; have hrun9 : (Instr.mapUpdate 112 (.map (some (w.heap.size + 1 + 1))) (.agg #[.int .i64 (a : Int), .int .i64 (b : Int)]) (.int .i64 ((M.left f e a b : Int) + M.down f e a b))).run Try.prog w' = .ok () w9 := hrun9; have hc : ∀ b' o, b' < w'.heap.size ∧ b' ≠ w.heap.size + 1 + 1 → w9.cell? ⟨b', o, none⟩ = w'.cell? ⟨b', o, none⟩ := (fun b' o h => World.cell?_of_block (hg9.block b' h.1 (by simp; omega))); have hf : ∀ b' o, b' < w'.heap.size ∧ b' ≠ w.heap.size + 1 + 1 → w9.frozen? ⟨b', o, none⟩ = w'.frozen? ⟨b', o, none⟩ := (fun b' o h => World.frozen?_of_block (hg9.block b' h.1 (by simp; omega))); have hz := hg9.size; have hl0 := MapF.look hM9 (M.minus (M.nat a b) 0) HAL.out; have hl1 := MapF.look hM9 (M.minus (M.nat a b) 1) HAD.out; rw [upd_ne (minus_ne a b 0), HL0.out] at hl0; rw [upd_ne (minus_ne a b 1), HL1.out] at hl1; have hb9 : Below w.heap.size w w9 := Below.grown (by (go_split_ands; assumption)) hg9 (by omega) (by intro k hk; injection hk with hk; omega); rw [if_pos (by rfl)]; go_simp)
                refine hK.out _ _ ?_ (fun hHeld3 => ?_)
                · (try dsimp only); first | (go_split_ands; (repeat' apply And.intro) <;> first | with_reducible exact hl0 | with_reducible exact hl1 | with_reducible exact hb9 | with_reducible assumption | (with_reducible refine (hc _ _ (by first | (simp; done) | (simp; omega) | omega)).trans ?_; (first | with_reducible assumption | (simp [*]; done))) | (simp [*, World.cell?_alloc_some]; done) | omega) | (first | (go_keep; done) | (go_split_ands; (repeat' apply And.intro) <;> first | (go_keep; done) | (simp [*, zcA, zcP, zfA, zfP]; done) | (simp [zcA, zcP] <;> rfl) | (simp [*, zsS, zsO, zsA]; done) | ((first | refine (hc _ _ ?_).trans ?_ | refine (hf _ _ ?_).trans ?_) <;> first | assumption | (simp; done) | (simp; omega) | omega | (go_keep; done) | (simp [*, zcA, zcP, zfA, zfP]; done) | (simp [zcA, zcP]; rfl)) | (repeat' first | exact zbR _ _ | assumption | refine zbD ?_ | refine zbA ?_ ?_ _ | refine zbS ?_ ?_ _ | refine zbT ?_ (by assumption) ?_ | (simp; done) | (simp; omega) | omega)))
                clear hK K hHeld2
                try simp only [Act.put, zl, z0, z1]
                refine wpAnyH_done (by kernel_rfl) ?_ _
                go_wp2
                have HREL : Hid (∃ n, n ≤ 1 + 50 * a + (b + 1) ∧ MapF w9 (w.heap.size + 1 + 1) (M.hold f e a (b + 1)) n) := hide ⟨n + 1, by omega, hM9.congr (fun p => upd_hold (by omega) (by omega) HG.out p)⟩
                go_roundw
                case rel => exact ⟨b + 1, by omega, by go_num, HREL, by (first | (go_keep; done) | (go_split_ands; (repeat' apply And.intro) <;> first | (go_keep; done) | (simp [*, zcA, zcP, zfA, zfP]; done) | (simp [zcA, zcP] <;> rfl) | (simp [*, zsS, zsO, zsA]; done) | ((first | refine (hc _ _ ?_).trans ?_ | refine (hf _ _ ?_).trans ?_) <;> first | assumption | (simp; done) | (simp; omega) | omega | (go_keep; done) | (simp [*, zcA, zcP, zfA, zfP]; done) | (simp [zcA, zcP]; rfl)) | (repeat' first | exact zbR _ _ | assumption | refine zbD ?_ | refine zbA ?_ ?_ _ | refine zbS ?_ ?_ _ | refine zbT ?_ (by assumption) ?_ | (simp; done) | (simp; omega) | omega)))⟩
                case measure => simp [intOf]; omega
            · have hgood : M.good f e a b = false := by
                unfold M.good; simp at hE; simp; omega
              have HREL : Hid (∃ n, n ≤ 1 + 50 * a + (b + 1) ∧ MapF wr (w.heap.size + 1 + 1) (M.hold f e a (b + 1)) n) := hide ⟨n, by omega, hM2.congr (fun p => (M.hold_same (by omega) (by omega) hgood p).symm)⟩
              clear hM2 hgood
              go_wp2_with (first | (go_at_call 67; refine (gamesArise_any f (M.nat a b) _ HAB.out).mono ?_; rintro e wg ⟨rfl, hb⟩; obtain ⟨hc, hf⟩ := bcell hb; have hz := hb.size; (try simp at hz); have hSn : ((fun w' => Below w.heap.size w w' ∧ w.heap.size < w'.heap.size ∧ w.heap.size + 1 < w'.heap.size ∧ w.heap.size + 1 + 1 < w'.heap.size ∧ w'.cell? ⟨w.heap.size + 1, 0, none⟩ = some (.int .i64 e.A) ∧ w'.cell? ⟨w.heap.size + 1, 1, none⟩ = some (.int .i64 e.B) ∧ w'.cell? ⟨w.heap.size, 0, none⟩ = some (.int .i64 f.sets) ∧ w'.cell? ⟨w.heap.size, 1, none⟩ = some (.int .i64 f.games) ∧ w'.cell? ⟨w.heap.size, 2, none⟩ = some (.bool f.noAd) ∧ w'.cell? ⟨w.heap.size, 3, none⟩ = some (.int .i64 f.tie) ∧ w'.cell? ⟨w.heap.size, 4, none⟩ = some (.int .i64 f.to) ∧ w'.cell? ⟨w.heap.size, 5, none⟩ = some (.int .i64 f.lastTie) ∧ w'.cell? ⟨w.heap.size, 6, none⟩ = some (.int .i64 f.lastTo) ∧ w'.cell? ⟨w.heap.size, 7, none⟩ = some (.int .i64 f.first) ∧ w'.cell? ⟨w.heap.size, 8, none⟩ = some (.int .i64 f.next) ∧ w'.cell? ⟨w.heap.size, 9, none⟩ = some (.bool f.doubles) ∧ w'.cell? ⟨wr.heap.size, 0, none⟩ = some (.int .i64 (a : Int)) ∧ w'.cell? ⟨wr.heap.size, 1, none⟩ = some (.int .i64 (b : Int)) ∧ wr.heap.size < w'.heap.size)) wg := (by (try dsimp only); (first | (go_keep; done) | (go_split_ands; (repeat' apply And.intro) <;> first | (go_keep; done) | (simp [*, zcA, zcP, zfA, zfP]; done) | (simp [zcA, zcP] <;> rfl) | (simp [*, zsS, zsO, zsA]; done) | ((first | refine (hc _ _ ?_).trans ?_ | refine (hf _ _ ?_).trans ?_) <;> first | assumption | (simp; done) | (simp; omega) | omega | (go_keep; done) | (simp [*, zcA, zcP, zfA, zfP]; done) | (simp [zcA, zcP]; rfl)) | (repeat' first | exact zbR _ _ | assumption | refine zbD ?_ | refine zbA ?_ ?_ _ | refine zbS ?_ ?_ _ | refine zbT ?_ (by assumption) ?_ | (simp; done) | (simp; omega) | omega)))); (try dsimp only at hSn); (try clear hS); have hS := hSn; clear hSn hc hf))
              have HREL2 : Hid (∃ n, n ≤ 1 + 50 * a + (b + 1) ∧ MapF (wr.alloc (.cells #[.int .i64 (a : Int), .int .i64 (b : Int)] 32)) (w.heap.size + 1 + 1) (M.hold f e a (b + 1)) n) := hide (by
                obtain ⟨n, hn, hm⟩ := HREL.out
                exact ⟨n, hn, hm.below (by (repeat' first | exact zbR _ _ | assumption | refine zbD ?_ | refine zbA ?_ ?_ _ | refine zbS ?_ ?_ _ | refine zbT ?_ (by assumption) ?_ | (simp; done) | (simp; omega) | omega))⟩)
              go_roundw
              case rel => exact ⟨b + 1, by omega, by go_num, HREL2, by (first | (go_keep; done) | (go_split_ands; (repeat' apply And.intro) <;> first | (go_keep; done) | (simp [*, zcA, zcP, zfA, zfP]; done) | (simp [zcA, zcP] <;> rfl) | (simp [*, zsS, zsO, zsA]; done) | ((first | refine (hc _ _ ?_).trans ?_ | refine (hf _ _ ?_).trans ?_) <;> first | assumption | (simp; done) | (simp; omega) | omega | (go_keep; done) | (simp [*, zcA, zcP, zfA, zfP]; done) | (simp [zcA, zcP]; rfl)) | (repeat' first | exact zbR _ _ | assumption | refine zbD ?_ | refine zbA ?_ ?_ _ | refine zbS ?_ ?_ _ | refine zbT ?_ (by assumption) ?_ | (simp; done) | (simp; omega) | omega)))⟩
              case measure => simp [intOf]; omega
          · have hgood : M.good f e a b = true := by
              unfold M.good; simp at hE; simp [hE]
            have HG := hide hgood
            clear hgood
            go_wp2_with (first | (go_at_call 67; refine (gamesArise_any f (M.nat a b) _ HAB.out).mono ?_; rintro e wg ⟨rfl, hb⟩; obtain ⟨hc, hf⟩ := bcell hb; have hz := hb.size; (try simp at hz); have hSn : ((fun w' => Below w.heap.size w w' ∧ w.heap.size < w'.heap.size ∧ w.heap.size + 1 < w'.heap.size ∧ w.heap.size + 1 + 1 < w'.heap.size ∧ w'.cell? ⟨w.heap.size + 1, 0, none⟩ = some (.int .i64 e.A) ∧ w'.cell? ⟨w.heap.size + 1, 1, none⟩ = some (.int .i64 e.B) ∧ w'.cell? ⟨w.heap.size, 0, none⟩ = some (.int .i64 f.sets) ∧ w'.cell? ⟨w.heap.size, 1, none⟩ = some (.int .i64 f.games) ∧ w'.cell? ⟨w.heap.size, 2, none⟩ = some (.bool f.noAd) ∧ w'.cell? ⟨w.heap.size, 3, none⟩ = some (.int .i64 f.tie) ∧ w'.cell? ⟨w.heap.size, 4, none⟩ = some (.int .i64 f.to) ∧ w'.cell? ⟨w.heap.size, 5, none⟩ = some (.int .i64 f.lastTie) ∧ w'.cell? ⟨w.heap.size, 6, none⟩ = some (.int .i64 f.lastTo) ∧ w'.cell? ⟨w.heap.size, 7, none⟩ = some (.int .i64 f.first) ∧ w'.cell? ⟨w.heap.size, 8, none⟩ = some (.int .i64 f.next) ∧ w'.cell? ⟨w.heap.size, 9, none⟩ = some (.bool f.doubles) ∧ w'.cell? ⟨wr.heap.size, 0, none⟩ = some (.int .i64 (a : Int)) ∧ w'.cell? ⟨wr.heap.size, 1, none⟩ = some (.int .i64 (b : Int)) ∧ wr.heap.size < w'.heap.size)) wg := (by (try dsimp only); (first | (go_keep; done) | (go_split_ands; (repeat' apply And.intro) <;> first | (go_keep; done) | (simp [*, zcA, zcP, zfA, zfP]; done) | (simp [zcA, zcP] <;> rfl) | (simp [*, zsS, zsO, zsA]; done) | ((first | refine (hc _ _ ?_).trans ?_ | refine (hf _ _ ?_).trans ?_) <;> first | assumption | (simp; done) | (simp; omega) | omega | (go_keep; done) | (simp [*, zcA, zcP, zfA, zfP]; done) | (simp [zcA, zcP]; rfl)) | (repeat' first | exact zbR _ _ | assumption | refine zbD ?_ | refine zbA ?_ ?_ _ | refine zbS ?_ ?_ _ | refine zbT ?_ (by assumption) ?_ | (simp; done) | (simp; omega) | omega)))); (try dsimp only at hSn); (try clear hS); have hS := hSn; clear hSn hc hf))
            have hM2 : MapF (wr.alloc (.cells #[.int .i64 (a : Int), .int .i64 (b : Int)] 32)).drew (w.heap.size + 1 + 1) (M.hold f e a b) n := MapF.below (w := wr) hM2 (by (repeat' first | exact zbR _ _ | assumption | refine zbD ?_ | refine zbA ?_ ?_ _ | refine zbS ?_ ?_ _ | refine zbT ?_ (by assumption) ?_ | (simp; done) | (simp; omega) | omega))
            have hl0 := MapF.look hM2 (M.minus (M.nat a b) 0) HAL.out
            have hl1 := MapF.look hM2 (M.minus (M.nat a b) 1) HAD.out
            rw [HL0.out] at hl0
            rw [HL1.out] at hl1
            refine wp_region_held_drew (S := (fun w' => Below w.heap.size w w' ∧ w.heap.size < w'.heap.size ∧ w.heap.size + 1 < w'.heap.size ∧ w.heap.size + 1 + 1 < w'.heap.size ∧ w'.cell? ⟨w.heap.size + 1, 0, none⟩ = some (.int .i64 e.A) ∧ w'.cell? ⟨w.heap.size + 1, 1, none⟩ = some (.int .i64 e.B) ∧ w'.cell? ⟨w.heap.size, 0, none⟩ = some (.int .i64 f.sets) ∧ w'.cell? ⟨w.heap.size, 1, none⟩ = some (.int .i64 f.games) ∧ w'.cell? ⟨w.heap.size, 2, none⟩ = some (.bool f.noAd) ∧ w'.cell? ⟨w.heap.size, 3, none⟩ = some (.int .i64 f.tie) ∧ w'.cell? ⟨w.heap.size, 4, none⟩ = some (.int .i64 f.to) ∧ w'.cell? ⟨w.heap.size, 5, none⟩ = some (.int .i64 f.lastTie) ∧ w'.cell? ⟨w.heap.size, 6, none⟩ = some (.int .i64 f.lastTo) ∧ w'.cell? ⟨w.heap.size, 7, none⟩ = some (.int .i64 f.first) ∧ w'.cell? ⟨w.heap.size, 8, none⟩ = some (.int .i64 f.next) ∧ w'.cell? ⟨w.heap.size, 9, none⟩ = some (.bool f.doubles) ∧ w'.cell? ⟨wr.heap.size, 0, none⟩ = some (.int .i64 (a : Int)) ∧ w'.cell? ⟨wr.heap.size, 1, none⟩ = some (.int .i64 (b : Int)) ∧ wr.heap.size < w'.heap.size ∧ (Instr.lookup 112 (.map (some (w.heap.size + 1 + 1))) (.agg #[.int .i64 (M.minus (M.nat a b) 0).A, .int .i64 (M.minus (M.nat a b) 0).B]) false).run Try.prog w' = .ok (.int .i64 (M.left f e a b)) w' ∧ (Instr.lookup 112 (.map (some (w.heap.size + 1 + 1))) (.agg #[.int .i64 (M.minus (M.nat a b) 1).A, .int .i64 (M.minus (M.nat a b) 1).B]) false).run Try.prog w' = .ok (.int .i64 (M.down f e a b)) w')) (by kernel_rfl) ?_ (fun hHeld0 => ?_)
            · (try dsimp only); first | (go_split_ands; (repeat' apply And.intro) <;> first | with_reducible exact hl0 | with_reducible exact hl1 | with_reducible exact hb9 | with_reducible assumption | (with_reducible refine (hc _ _ (by first | (simp; done) | (simp; omega) | omega)).trans ?_; (first | with_reducible assumption | (simp [*]; done))) | (simp [*, World.cell?_alloc_some]; done) | omega) | (first | (go_keep; done) | (go_split_ands; (repeat' apply And.intro) <;> first | (go_keep; done) | (simp [*, zcA, zcP, zfA, zfP]; done) | (simp [zcA, zcP] <;> rfl) | (simp [*, zsS, zsO, zsA]; done) | ((first | refine (hc _ _ ?_).trans ?_ | refine (hf _ _ ?_).trans ?_) <;> first | assumption | (simp; done) | (simp; omega) | omega | (go_keep; done) | (simp [*, zcA, zcP, zfA, zfP]; done) | (simp [zcA, zcP]; rfl)) | (repeat' first | exact zbR _ _ | assumption | refine zbD ?_ | refine zbA ?_ ?_ _ | refine zbS ?_ ?_ _ | refine zbT ?_ (by assumption) ?_ | (simp; done) | (simp; omega) | omega)))
            refine tL (v := ?_) 0 rfl (by kernel_rfl) (fun _ _ _ h => h) (Or.inl ⟨by rfl, ?_⟩) (by assumption) ?_; rotate_left
            · (intro w hSw; (try dsimp only at hSw); go_simp; try with_reducible rfl)
            try simp only [Act.put, zl, z0, z1]
            refine tL (v := ?_) 1 rfl (by kernel_rfl) (fun _ _ _ h => h) (Or.inl ⟨by rfl, ?_⟩) (by assumption) ?_; rotate_left
            · (intro w hSw; (try dsimp only at hSw); go_simp; try with_reducible rfl)
            try simp only [Act.put, zl, z0, z1]
            refine tL (v := ?_) 2 rfl (by kernel_rfl) (fun _ _ _ h => h) (Or.inl ⟨by rfl, ?_⟩) (by assumption) ?_; rotate_left
            · (intro w hSw; (try dsimp only at hSw); go_simp; try with_reducible rfl)
            try simp only [Act.put, zl, z0, z1]
            refine tL (v := ?_) 3 rfl (by kernel_rfl) (fun _ _ _ h => h) (Or.inl ⟨by rfl, ?_⟩) (by assumption) ?_; rotate_left
            · (intro w hSw; (try dsimp only at hSw); go_simp; try with_reducible rfl)
            try simp only [Act.put, zl, z0, z1]
            refine tL (v := ?_) 6 rfl (by kernel_rfl) (fun _ _ _ h => h) (Or.inl ⟨by rfl, ?_⟩) (by assumption) ?_; rotate_left
            · (intro w hSw; (try dsimp only at hSw); go_simp; try with_reducible rfl)
            try simp only [Act.put, zl, z0, z1]
            refine tL (v := ?_) 7 rfl (by kernel_rfl) (fun _ _ _ h => h) (Or.inl ⟨by rfl, ?_⟩) (by assumption) ?_; rotate_left
            · (intro w hSw; (try dsimp only at hSw); go_simp; try with_reducible rfl)
            try simp only [Act.put, zl, z0, z1]
            refine wpAnyH_ready (rs := [4]) (by kernel_rfl) (by simp) ?_
            refine consL 4 rfl (fun K hK => ?_) AllReadyH.nil
            go_simp
            (go_at_call 75; refine (minus_any (M.nat a b) _ _ HAB.out).mono ?_; rintro _ w' ⟨rfl, hb⟩; obtain ⟨hc, hf⟩ := bcell hb; have hz := hb.size; (try simp at hz); have hM2 := MapF.below hM2 hb; have hl0 := MapF.look hM2 (M.minus (M.nat a b) 0) HAL.out; have hl1 := MapF.look hM2 (M.minus (M.nat a b) 1) HAD.out; rw [HL0.out] at hl0; rw [HL1.out] at hl1)
            refine hK.out _ _ ?_ (fun hHeld1 => ?_)
            · (try dsimp only); first | (go_split_ands; (repeat' apply And.intro) <;> first | with_reducible exact hl0 | with_reducible exact hl1 | with_reducible exact hb9 | with_reducible assumption | (with_reducible refine (hc _ _ (by first | (simp; done) | (simp; omega) | omega)).trans ?_; (first | with_reducible assumption | (simp [*]; done))) | (simp [*, World.cell?_alloc_some]; done) | omega) | (first | (go_keep; done) | (go_split_ands; (repeat' apply And.intro) <;> first | (go_keep; done) | (simp [*, zcA, zcP, zfA, zfP]; done) | (simp [zcA, zcP] <;> rfl) | (simp [*, zsS, zsO, zsA]; done) | ((first | refine (hc _ _ ?_).trans ?_ | refine (hf _ _ ?_).trans ?_) <;> first | assumption | (simp; done) | (simp; omega) | omega | (go_keep; done) | (simp [*, zcA, zcP, zfA, zfP]; done) | (simp [zcA, zcP]; rfl)) | (repeat' first | exact zbR _ _ | assumption | refine zbD ?_ | refine zbA ?_ ?_ _ | refine zbS ?_ ?_ _ | refine zbT ?_ (by assumption) ?_ | (simp; done) | (simp; omega) | omega)))
            clear hK K hHeld0
            try simp only [Act.put, zl, z0, z1]
            refine tL (v := ?_) 5 rfl (by kernel_rfl) (fun _ _ _ h => h) (Or.inl ⟨by rfl, ?_⟩) (by assumption) ?_; rotate_left
            · (intro w hSw; (try dsimp only at hSw); go_simp; try with_reducible rfl)
            try simp only [Act.put, zl, z0, z1]
            refine wpAnyH_ready (rs := [8]) (by kernel_rfl) (by simp) ?_
            refine consL 8 rfl (fun K hK => ?_) AllReadyH.nil
            go_simp
            (go_at_call 75; refine (minus_any (M.nat a b) _ _ HAB.out).mono ?_; rintro _ w' ⟨rfl, hb⟩; obtain ⟨hc, hf⟩ := bcell hb; have hz := hb.size; (try simp at hz); have hM2 := MapF.below hM2 hb; have hl0 := MapF.look hM2 (M.minus (M.nat a b) 0) HAL.out; have hl1 := MapF.look hM2 (M.minus (M.nat a b) 1) HAD.out; rw [HL0.out] at hl0; rw [HL1.out] at hl1)
            refine hK.out _ _ ?_ (fun hHeld2 => ?_)
            · (try dsimp only); first | (go_split_ands; (repeat' apply And.intro) <;> first | with_reducible exact hl0 | with_reducible exact hl1 | with_reducible exact hb9 | with_reducible assumption | (with_reducible refine (hc _ _ (by first | (simp; done) | (simp; omega) | omega)).trans ?_; (first | with_reducible assumption | (simp [*]; done))) | (simp [*, World.cell?_alloc_some]; done) | omega) | (first | (go_keep; done) | (go_split_ands; (repeat' apply And.intro) <;> first | (go_keep; done) | (simp [*, zcA, zcP, zfA, zfP]; done) | (simp [zcA, zcP] <;> rfl) | (simp [*, zsS, zsO, zsA]; done) | ((first | refine (hc _ _ ?_).trans ?_ | refine (hf _ _ ?_).trans ?_) <;> first | assumption | (simp; done) | (simp; omega) | omega | (go_keep; done) | (simp [*, zcA, zcP, zfA, zfP]; done) | (simp [zcA, zcP]; rfl)) | (repeat' first | exact zbR _ _ | assumption | refine zbD ?_ | refine zbA ?_ ?_ _ | refine zbS ?_ ?_ _ | refine zbT ?_ (by assumption) ?_ | (simp; done) | (simp; omega) | omega)))
            clear hK K hHeld1
            try simp only [Act.put, zl, z0, z1]
            refine tL (v := ?_) 9 rfl (by kernel_rfl) (fun _ _ _ h => h) (Or.inl ⟨by rfl, ?_⟩) (by assumption) ?_; rotate_left
            · (intro w hSw; (try dsimp only at hSw); go_simp; try with_reducible rfl)
            try simp only [Act.put, zl, z0, z1]
            refine tL (v := ?_) 10 rfl (by kernel_rfl) (fun _ _ _ h => h) (Or.inl ⟨by rfl, ?_⟩) (by assumption) ?_; rotate_left
            · (intro w hSw; (try dsimp only at hSw); go_simp; try with_reducible rfl)
            try simp only [Act.put, zl, z0, z1]
            refine wpAnyH_ready (rs := [11]) (by kernel_rfl) (by simp) ?_
            refine consL 11 rfl (fun K hK => ?_) AllReadyH.nil
            (obtain ⟨w9, hrun9, hM9, hg9⟩ := MapF.store hM2 (by omega) (M.nat a b) HAB.out ((M.left f e a b : Int) + M.down f e a b) HWF.out; have hrun9 : (Instr.mapUpdate 112 (.map (some (w.heap.size + 1 + 1))) (.agg #[.int .i64 (a : Int), .int .i64 (b : Int)]) (.int .i64 ((M.left f e a b : Int) + M.down f e a b))).run Try.prog w' = .ok () w9 := hrun9; have hc : ∀ b' o, b' < w'.heap.size ∧ b' ≠ w.heap.size + 1 + 1 → w9.cell? ⟨b', o, none⟩ = w'.cell? ⟨b', o, none⟩ := (fun b' o h => World.cell?_of_block (hg9.block b' h.1 (by simp; omega))); have hf : ∀ b' o, b' < w'.heap.size ∧ b' ≠ w.heap.size + 1 + 1 → w9.frozen? ⟨b', o, none⟩ = w'.frozen? ⟨b', o, none⟩ := (fun b' o h => World.frozen?_of_block (hg9.block b' h.1 (by simp; omega))); have hz := hg9.size; have hl0 := MapF.look hM9 (M.minus (M.nat a b) 0) HAL.out; have hl1 := MapF.look hM9 (M.minus (M.nat a b) 1) HAD.out; rw [upd_ne (minus_ne a b 0), HL0.out] at hl0; rw [upd_ne (minus_ne a b 1), HL1.out] at hl1; have hb9 : Below w.heap.size w w9 := Below.grown (by (go_split_ands; assumption)) hg9 (by omega) (by intro k hk; injection hk with hk; omega); rw [if_pos (by rfl)]; go_simp)
            refine hK.out _ _ ?_ (fun hHeld3 => ?_)
            · (try dsimp only); first | (go_split_ands; (repeat' apply And.intro) <;> first | with_reducible exact hl0 | with_reducible exact hl1 | with_reducible exact hb9 | with_reducible assumption | (with_reducible refine (hc _ _ (by first | (simp; done) | (simp; omega) | omega)).trans ?_; (first | with_reducible assumption | (simp [*]; done))) | (simp [*, World.cell?_alloc_some]; done) | omega) | (first | (go_keep; done) | (go_split_ands; (repeat' apply And.intro) <;> first | (go_keep; done) | (simp [*, zcA, zcP, zfA, zfP]; done) | (simp [zcA, zcP] <;> rfl) | (simp [*, zsS, zsO, zsA]; done) | ((first | refine (hc _ _ ?_).trans ?_ | refine (hf _ _ ?_).trans ?_) <;> first | assumption | (simp; done) | (simp; omega) | omega | (go_keep; done) | (simp [*, zcA, zcP, zfA, zfP]; done) | (simp [zcA, zcP]; rfl)) | (repeat' first | exact zbR _ _ | assumption | refine zbD ?_ | refine zbA ?_ ?_ _ | refine zbS ?_ ?_ _ | refine zbT ?_ (by assumption) ?_ | (simp; done) | (simp; omega) | omega)))
            clear hK K hHeld2
            try simp only [Act.put, zl, z0, z1]
            refine wpAnyH_done (by kernel_rfl) ?_ _
            go_wp2
            have HREL : Hid (∃ n, n ≤ 1 + 50 * a + (b + 1) ∧ MapF w9 (w.heap.size + 1 + 1) (M.hold f e a (b + 1)) n) := hide ⟨n + 1, by omega, hM9.congr (fun p => upd_hold (by omega) (by omega) HG.out p)⟩
            go_roundw
            case rel => exact ⟨b + 1, by omega, by go_num, HREL, by (first | (go_keep; done) | (go_split_ands; (repeat' apply And.intro) <;> first | (go_keep; done) | (simp [*, zcA, zcP, zfA, zfP]; done) | (simp [zcA, zcP] <;> rfl) | (simp [*, zsS, zsO, zsA]; done) | ((first | refine (hc _ _ ?_).trans ?_ | refine (hf _ _ ?_).trans ?_) <;> first | assumption | (simp; done) | (simp; omega) | omega | (go_keep; done) | (simp [*, zcA, zcP, zfA, zfP]; done) | (simp [zcA, zcP]; rfl)) | (repeat' first | exact zbR _ _ | assumption | refine zbD ?_ | refine zbA ?_ ?_ _ | refine zbS ?_ ?_ _ | refine zbT ?_ (by assumption) ?_ | (simp; done) | (simp; omega) | omega)))⟩
            case measure => simp [intOf]; omega
        · have hb1 : (b : Int) = e.B + 1 := by omega
          have HREL : Hid (∃ n, n ≤ 1 + 50 * (a + 1) ∧ MapF wr (w.heap.size + 1 + 1) (M.hold f e (a + 1) 0) n) := hide (by
            obtain ⟨n, hn, hm⟩ := hM'.out
            exact ⟨n, by omega, hm.congr (fun p => M.hold_row hb1 p)⟩)
          clear hb1
          go_wp2
          go_roundw
          case rel => exact ⟨a + 1, by omega, by go_num, HREL, by (first | (go_keep; done) | (go_split_ands; (repeat' apply And.intro) <;> first | (go_keep; done) | (simp [*, zcA, zcP, zfA, zfP]; done) | (simp [zcA, zcP] <;> rfl) | (simp [*, zsS, zsO, zsA]; done) | ((first | refine (hc _ _ ?_).trans ?_ | refine (hf _ _ ?_).trans ?_) <;> first | assumption | (simp; done) | (simp; omega) | omega | (go_keep; done) | (simp [*, zcA, zcP, zfA, zfP]; done) | (simp [zcA, zcP]; rfl)) | (repeat' first | exact zbR _ _ | assumption | refine zbD ?_ | refine zbA ?_ ?_ _ | refine zbS ?_ ?_ _ | refine zbT ?_ (by assumption) ?_ | (simp; done) | (simp; omega) | omega)))⟩
          case measure => simp [intOf]; omega
    · have ha1 : (a : Int) = e.A + 1 := by omega
      obtain ⟨n, hn, hm⟩ := hM.out
      have hl := MapF.look hm e ⟨by omega, by omega, by omega, by omega⟩
      rw [M.hold_end ⟨e0, e2⟩ ha1] at hl
      clear ha1 hm hrun'
      go_wp2
      go_ret
      exact ⟨rfl, by (go_split_ands; (repeat' first | exact zbR _ _ | assumption | refine zbD ?_ | refine zbA ?_ ?_ _ | refine zbS ?_ ?_ _ | refine zbT ?_ (by assumption) ?_ | (simp; done) | (simp; omega) | omega))⟩

end Go.Proofs.Ytbjmnlhehkcakaa
