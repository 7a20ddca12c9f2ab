/-
  Contracts: play.
-/
import Derived.Test.YtlhbimifhclojaaPlay0
namespace Go.Proofs.Ytlhbimifhclojaa
open Go.RowKit
attribute [local go_sem ↓] Go.wp_at_zero Go.wp_at_succ

theorem owns_mono {w : World} {base base' : Nat} {e : TypeId} {size : Nat} {v : Value} {n : Nat} {xs : List Value} (h : w.ownsRow base e size v n xs) (hb : base' ≤ base) : w.ownsRow base' e size v n xs :=
  ⟨h.1, h.2.imp id fun ⟨g, cap, cur, e1, hg, r⟩ => ⟨g, cap, cur, e1, Nat.le_trans hb hg, r⟩⟩
theorem PlayPost.err {f : M.Fm} {first : Int} {xs : List Int} {w w' : World} {m : M.Mt} {l : List Int} (hv : M.validB f = true) (hf : M.within first 0 1 = true) (hl : xs.length ≤ 600) (hp : M.playF m l = M.playF (M.start f first) xs) (hn : M.playF m l = none) (hb : Below w.heap.size w w') :
    PlayPost f first xs w (.returned (.tuple #[.agg #[.int .i64 0, .int .i64 0, .bool false, .int .i64 0, .int .i64 0, .int .i64 0, .int .i64 0, .int .i64 0, .int .i64 0, .bool false, .slice none 0 0, .int .i64 0, .int .i64 0, .int .i64 0, .int .i64 0, .int .i64 0, .int .i64 0, .int .i64 0, .int .i64 0, .int .i64 0, .int .i64 0, .int .i64 0, .bool false, .slice none 0 0], .int .i64 11])) w' := by
  rw [hn] at hp
  refine PlayPost.no ?_ ?_ hb
  · unfold M.playM; rw [if_pos hv, if_pos hf, if_neg (by omega), ← hp]; rfl
  · unfold M.playE; rw [if_pos hv, if_pos hf, if_neg (by omega), ← hp]

theorem play_fin {f : M.Fm} {first : Int} {xs : List Int} {w wr : World} {m : M.Mt} {q : Nat} {sv gv : Value} {old : Array Value} (hv : M.validB f = true) (hf : M.within first 0 1 = true) (hl : xs.length ≤ 600) (hp : some m = M.playF (M.start f first) xs) (h : MAt wr q q m sv gv)
    (h71 : wr.heap[w.heap.size + 1]? = some (.cells old 71 (0, 0))) (hq : w.heap.size ≤ q) (hb : Below w.heap.size w wr) :
    PlayPost f first xs w (.returned (.tuple #[.agg #[.int .i64 m.f.sets, .int .i64 m.f.games, .bool m.f.noAd, .int .i64 m.f.tie, .int .i64 m.f.to, .int .i64 m.f.lastTie, .int .i64 m.f.lastTo, .int .i64 m.f.first, .int .i64 m.f.next, .bool m.f.doubles, sv, .int .i64 m.games.A, .int .i64 m.games.B, .int .i64 m.pts.A, .int .i64 m.pts.B, .int .i64 m.server, .int .i64 m.ends, .int .i64 m.balls, .int .i64 m.winner, .int .i64 m.opens, .int .i64 m.won.A, .int .i64 m.won.B, .bool m.fresh, gv], .int .i64 0])) (wr.setRow (w.heap.size + 1) #[.int .i64 m.f.sets, .int .i64 m.f.games, .bool m.f.noAd, .int .i64 m.f.tie, .int .i64 m.f.to, .int .i64 m.f.lastTie, .int .i64 m.f.lastTo, .int .i64 m.f.first, .int .i64 m.f.next, .bool m.f.doubles, sv, .int .i64 m.games.A, .int .i64 m.games.B, .int .i64 m.pts.A, .int .i64 m.pts.B, .int .i64 m.server, .int .i64 m.ends, .int .i64 m.balls, .int .i64 m.winner, .int .i64 m.opens, .int .i64 m.won.A, .int .i64 m.won.B, .bool m.fresh, gv]) := by
  have hg : wr.grownBy (wr.setRow (w.heap.size + 1) #[.int .i64 m.f.sets, .int .i64 m.f.games, .bool m.f.noAd, .int .i64 m.f.tie, .int .i64 m.f.to, .int .i64 m.f.lastTie, .int .i64 m.f.lastTo, .int .i64 m.f.first, .int .i64 m.f.next, .bool m.f.doubles, sv, .int .i64 m.games.A, .int .i64 m.games.B, .int .i64 m.pts.A, .int .i64 m.pts.B, .int .i64 m.server, .int .i64 m.ends, .int .i64 m.balls, .int .i64 m.winner, .int .i64 m.opens, .int .i64 m.won.A, .int .i64 m.won.B, .bool m.fresh, gv]) (some (w.heap.size + 1)) := ⟨rfl, rfl, rfl, by simp, fun k _ hk => setRow_other wr _ k _ (fun e => hk (by rw [e]))⟩
  have e1 : M.playM f first xs = m := by unfold M.playM; rw [if_pos hv, if_pos hf, if_neg (by omega), ← hp]; rfl
  have e2 : M.playE f first xs = 0 := by unfold M.playE; rw [if_pos hv, if_pos hf, if_neg (by omega), ← hp]
  refine ⟨sv, gv, by rw [e1, e2], ?_, ?_, ?_⟩
  · rw [e1]; exact owns_mono (h.2.2.1.kept hg (.inr (row_ne h.2.2.1 h71 (by decide)))) hq
  · rw [e1]; exact owns_mono (h.2.2.2.kept hg (.inr (row_ne h.2.2.2 h71 (by decide)))) hq
  · exact ⟨hb.os, hb.tape, hb.output, by simp; exact hb.size, fun i hi => (setRow_other wr _ i _ (by omega)).trans (hb.block i hi)⟩

set_option maxHeartbeats 4000000 in
set_option maxRecDepth 100000 in
theorem play_yes (f : M.Fm) (first : Int) (A : Option Addr) (n c : Nat) (xs : List Int) (w : World) (hn : xs.length = n) (hr : RdI w w.heap.size A xs) (hm : n ≤ 600) (hv : M.validB f = true) (hf : M.within first 0 1 = true) :
    Calls Try.prog 37 #[.agg #[.int .i64 f.sets, .int .i64 f.games, .bool f.noAd, .int .i64 f.tie, .int .i64 f.to, .int .i64 f.lastTie, .int .i64 f.lastTo, .int .i64 f.first, .int .i64 f.next, .bool f.doubles], .int .i64 first, .slice A n c] w fun e w' => PlayPost f first xs w e w' := by
  have HN := hide hn
  have HR := hide hr
  have HV := hide hv
  have HF := hide hf
  have hff : first = 0 ∨ first = 1 := by simp [M.within] at hf; omega
  have HST := hide (M.start_ok (f := f) (first := first) ((M.validB_iff f).1 hv) (by omega))
  have hl2 : ¬ (600 : Int) < (n : Int) := by omega
  have hdec : decide ((600 : Int) < (n : Int)) = false := by simpa using hl2
  have hguard : ((first != 0) = false) ∨ ((first != 0) = true ∧ (first != 1) = false) := by
    rcases hff with e | e
    · left; rw [e]; rfl
    · right; rw [e]; exact ⟨rfl, rfl⟩
  clear hn hr hf hff
  go_enter Try.func37, Try.ntmps37
  rcases hguard with hg0 | ⟨hg0, hg1⟩
  all_goals
    go_upto_region 9 with (first | (go_at_call 10; refine (Check_good f _ HV.out).mono ?_; rintro e w1 ⟨rfl, hb1⟩; have h71 : w1.heap[w.heap.size + 1]? = some (.cells #[.int .i64 0, .int .i64 0, .bool false, .int .i64 0, .int .i64 0, .int .i64 0, .int .i64 0, .int .i64 0, .int .i64 0, .bool false, .slice none 0 0, .int .i64 0, .int .i64 0, .int .i64 0, .int .i64 0, .int .i64 0, .int .i64 0, .int .i64 0, .int .i64 0, .int .i64 0, .int .i64 0, .int .i64 0, .bool false, .slice none 0 0] 71 (0, 0)) := (hb1.block _ (by simp)).trans (heap_alloc2_new w _ _); have h23 := (hb1.block w.heap.size (by simp; omega)).trans (heap_alloc2_old w _ _); have hcf := fun i => cell_of_row w1 w.heap.size i _ _ _ h23; have hq1 : w.heap.size + 1 < w1.heap.size := (by have := hb1.size; simp at this; omega); have HB1 := hide (show Below w.heap.size w w1 from Below.trans (by (repeat' first | exact Below.refl _ _ | assumption | refine Below.drew ?_ | refine Below.alloc ?_ ?_ _ | refine Below.setCell ?_ ?_ _ | refine Below.trans ?_ (Below.mono (by assumption) ?_) | (simp; done) | (simp; omega) | omega)) (hb1.mono (by simp; omega))); clear hb1 h23) | (refine wpList_store_row rfl 71 _ _ rfl w1.heap.size _ rfl rfl 71 _ (heap_alloc_new w1 _) matchRow rfl (by simp [Value.oneCell']) ?_))
    have h2 : MAt (World.setRow (w1.alloc (.cells #[.int .i64 0, .int .i64 0, .bool false, .int .i64 0, .int .i64 0, .int .i64 0, .int .i64 0, .int .i64 0, .int .i64 0, .bool false, .slice none 0 0, .int .i64 0, .int .i64 0, .int .i64 0, .int .i64 0, .int .i64 0, .int .i64 0, .int .i64 0, .int .i64 0, .int .i64 0, .int .i64 0, .int .i64 0, .bool false, .slice none 0 0] 71 (0, 0))) w1.heap.size #[.int .i64 f.sets, .int .i64 f.games, .bool f.noAd, .int .i64 f.tie, .int .i64 f.to, .int .i64 f.lastTie, .int .i64 f.lastTo, .int .i64 f.first, .int .i64 f.next, .bool f.doubles, .slice none 0 0, .int .i64 0, .int .i64 0, .int .i64 0, .int .i64 0, .int .i64 first, .int .i64 0, .int .i64 0, .int .i64 (-1), .int .i64 first, .int .i64 0, .int .i64 0, .bool false, .slice none 0 0]) w1.heap.size w1.heap.size (M.start f first) (.slice none 0 0) (.slice none 0 0) := ⟨Nat.le_refl _, setRow_heap _ w1.heap.size _ _ 71 (0, 0) (heap_alloc_new w1 (.cells #[.int .i64 0, .int .i64 0, .bool false, .int .i64 0, .int .i64 0, .int .i64 0, .int .i64 0, .int .i64 0, .int .i64 0, .bool false, .slice none 0 0, .int .i64 0, .int .i64 0, .int .i64 0, .int .i64 0, .int .i64 0, .int .i64 0, .int .i64 0, .int .i64 0, .int .i64 0, .int .i64 0, .int .i64 0, .bool false, .slice none 0 0] 71 (0, 0))), World.ownsRow_nil _ _ _ _, World.ownsRow_nil _ _ _ _⟩
    have h71b : (World.setRow (w1.alloc (.cells #[.int .i64 0, .int .i64 0, .bool false, .int .i64 0, .int .i64 0, .int .i64 0, .int .i64 0, .int .i64 0, .int .i64 0, .bool false, .slice none 0 0, .int .i64 0, .int .i64 0, .int .i64 0, .int .i64 0, .int .i64 0, .int .i64 0, .int .i64 0, .int .i64 0, .int .i64 0, .int .i64 0, .int .i64 0, .bool false, .slice none 0 0] 71 (0, 0))) w1.heap.size #[.int .i64 f.sets, .int .i64 f.games, .bool f.noAd, .int .i64 f.tie, .int .i64 f.to, .int .i64 f.lastTie, .int .i64 f.lastTo, .int .i64 f.first, .int .i64 f.next, .bool f.doubles, .slice none 0 0, .int .i64 0, .int .i64 0, .int .i64 0, .int .i64 0, .int .i64 first, .int .i64 0, .int .i64 0, .int .i64 (-1), .int .i64 first, .int .i64 0, .int .i64 0, .bool false, .slice none 0 0]).heap[w.heap.size + 1]? = some (.cells #[.int .i64 0, .int .i64 0, .bool false, .int .i64 0, .int .i64 0, .int .i64 0, .int .i64 0, .int .i64 0, .int .i64 0, .bool false, .slice none 0 0, .int .i64 0, .int .i64 0, .int .i64 0, .int .i64 0, .int .i64 0, .int .i64 0, .int .i64 0, .int .i64 0, .int .i64 0, .int .i64 0, .int .i64 0, .bool false, .slice none 0 0] 71 (0, 0)) := (setRow_other _ _ _ _ (by omega)).trans ((heap_alloc_old _ _ (by omega)).trans h71)
    have HB2 : Below w.heap.size w (World.setRow (w1.alloc (.cells #[.int .i64 0, .int .i64 0, .bool false, .int .i64 0, .int .i64 0, .int .i64 0, .int .i64 0, .int .i64 0, .int .i64 0, .bool false, .slice none 0 0, .int .i64 0, .int .i64 0, .int .i64 0, .int .i64 0, .int .i64 0, .int .i64 0, .int .i64 0, .int .i64 0, .int .i64 0, .int .i64 0, .int .i64 0, .bool false, .slice none 0 0] 71 (0, 0))) w1.heap.size #[.int .i64 f.sets, .int .i64 f.games, .bool f.noAd, .int .i64 f.tie, .int .i64 f.to, .int .i64 f.lastTie, .int .i64 f.lastTo, .int .i64 f.first, .int .i64 f.next, .bool f.doubles, .slice none 0 0, .int .i64 0, .int .i64 0, .int .i64 0, .int .i64 0, .int .i64 first, .int .i64 0, .int .i64 0, .int .i64 (-1), .int .i64 first, .int .i64 0, .int .i64 0, .bool false, .slice none 0 0]) := ⟨HB1.out.os, HB1.out.tape, HB1.out.output, by simp; have := HB1.out.size; omega, fun i hi => (setRow_other _ _ i _ (by omega)).trans ((heap_alloc_old _ _ (by omega)).trans (HB1.out.block i hi))⟩
    generalize (World.setRow (w1.alloc (.cells #[.int .i64 0, .int .i64 0, .bool false, .int .i64 0, .int .i64 0, .int .i64 0, .int .i64 0, .int .i64 0, .int .i64 0, .bool false, .slice none 0 0, .int .i64 0, .int .i64 0, .int .i64 0, .int .i64 0, .int .i64 0, .int .i64 0, .int .i64 0, .int .i64 0, .int .i64 0, .int .i64 0, .int .i64 0, .bool false, .slice none 0 0] 71 (0, 0))) w1.heap.size #[.int .i64 f.sets, .int .i64 f.games, .bool f.noAd, .int .i64 f.tie, .int .i64 f.to, .int .i64 f.lastTie, .int .i64 f.lastTo, .int .i64 f.first, .int .i64 f.next, .bool f.doubles, .slice none 0 0, .int .i64 0, .int .i64 0, .int .i64 0, .int .i64 0, .int .i64 first, .int .i64 0, .int .i64 0, .int .i64 (-1), .int .i64 first, .int .i64 0, .int .i64 0, .bool false, .slice none 0 0]) = w2 at h2 h71b HB2 ⊢
    have H2 := hide h2
    have H71 := hide h71b
    clear h2 h71b h71 hcf HB1 hg0
    (try clear hg1)
    generalize w1.heap.size = q at *
    clear w1
    go_wp2_with fail
    go_loopw [36] (fun i wr => ∃ k : Nat, k ≤ n ∧ i = .int .i64 k ∧ ∃ (m : M.Mt) (sv gv : Value), Hid (M.playF m (xs.drop k) = M.playF (M.start f first) xs) ∧ Hid (M.Ok m k) ∧ Hid (MAt wr q q m sv gv) ∧ Hid (wr.heap[w.heap.size + 1]? = some (.cells #[.int .i64 0, .int .i64 0, .bool false, .int .i64 0, .int .i64 0, .int .i64 0, .int .i64 0, .int .i64 0, .int .i64 0, .bool false, .slice none 0 0, .int .i64 0, .int .i64 0, .int .i64 0, .int .i64 0, .int .i64 0, .int .i64 0, .int .i64 0, .int .i64 0, .int .i64 0, .int .i64 0, .int .i64 0, .bool false, .slice none 0 0] 71 (0, 0))) ∧ Below w.heap.size w wr) (fun i _ => n - (intOf i).toNat)
    case atStart => exact ⟨0, by omega, rfl, M.start f first, _, _, hide (by rfl), HST, H2, H71, HB2⟩
    case round =>
      obtain ⟨k, hk, rfl, m, sv, gv, hpl, hok, hat, hz7, hB⟩ := hrel
      have cw : wr.cell? ⟨q, 18, none⟩ = some (.int .i64 m.winner) := (cell_of_row wr q 18 _ _ _ hat.out.2.1).trans rfl
      by_cases hlt : k < n
      · obtain ⟨x, hx⟩ : ∃ x, xs[k]? = some x := ⟨_, List.getElem?_eq_getElem (by have := HN.out; omega)⟩
        obtain ⟨b, o, hA, hbB, c0⟩ := (HR.out.below hB) k x hx
        subst hA
        have hd : xs.drop k = x :: xs.drop (k + 1) := by
          obtain ⟨hl, rfl⟩ := List.getElem?_eq_some_iff.1 hx
          exact List.drop_eq_getElem_cons hl
        have HD := hide hd
        clear hd hx
        cases hw : (m.winner != -1)
        · cases h0 : (x != 0)
          · have HPL : Hid (M.playF (M.point m x) (xs.drop (k + 1)) = M.playF (M.start f first) xs) := hide (by rw [← hpl.out, HD.out, M.playF_cons, if_neg (by simp at hw h0; omega)])
            have hx0 : 0 ≤ x ∧ x ≤ 1 := by simp at h0; omega
            go_wp2_with (first | (go_at_call 57; refine (point_any x k hat.out hok.out (by omega) hx0.1 hx0.2).mono ?_; rintro e wr' ⟨rfl, ⟨sv', gv', hat'⟩, hb'⟩; have HAT := hide hat'; clear hat'))
            go_roundw
            case rel => exact ⟨k + 1, by omega, by go_num, M.point m x, sv', gv', HPL, hide (Ok.point x hok.out), HAT, hide ((hb'.block _ (by omega)).trans hz7.out), hB.trans (hb'.mono (by omega))⟩
            case measure => simp [intOf]; omega
          · cases h1 : (x != 1)
            · have HPL : Hid (M.playF (M.point m x) (xs.drop (k + 1)) = M.playF (M.start f first) xs) := hide (by rw [← hpl.out, HD.out, M.playF_cons, if_neg (by simp at hw h1; omega)])
              have hx0 : 0 ≤ x ∧ x ≤ 1 := by simp at h1; omega
              go_wp2_with (first | (go_at_call 57; refine (point_any x k hat.out hok.out (by omega) hx0.1 hx0.2).mono ?_; rintro e wr' ⟨rfl, ⟨sv', gv', hat'⟩, hb'⟩; have HAT := hide hat'; clear hat'))
              go_roundw
              case rel => exact ⟨k + 1, by omega, by go_num, M.point m x, sv', gv', HPL, hide (Ok.point x hok.out), HAT, hide ((hb'.block _ (by omega)).trans hz7.out), hB.trans (hb'.mono (by omega))⟩
              case measure => simp [intOf]; omega
            · have hnone : M.playF m (xs.drop k) = none := by rw [HD.out, M.playF_cons, if_pos (by simp at h0 h1; omega)]
              have HNO := hide hnone
              clear hnone
              go_wp2_with (first | (refine store_zero rfl _ _ rfl (w.heap.size + 1) rfl rfl hz7.out ?_))
              refine bodyPost_ret (v := .tuple #[.agg #[.int .i64 0, .int .i64 0, .bool false, .int .i64 0, .int .i64 0, .int .i64 0, .int .i64 0, .int .i64 0, .int .i64 0, .bool false, .slice none 0 0, .int .i64 0, .int .i64 0, .int .i64 0, .int .i64 0, .int .i64 0, .int .i64 0, .int .i64 0, .int .i64 0, .int .i64 0, .int .i64 0, .int .i64 0, .bool false, .slice none 0 0], .int .i64 11]) (results_row_tmp Try.results37 _ _ (w.heap.size + 1) _ _ _ _ rfl hz7.out Try.underlying71 rfl matchRow) rfl ?_
              exact PlayPost.err HV.out HF.out (by have := HN.out; omega) hpl.out HNO.out hB
        · cases h0 : (x != 0)
          · have hnone : M.playF m (xs.drop k) = none := by rw [HD.out, M.playF_cons, if_pos (by simp at hw; omega)]
            have HNO := hide hnone
            clear hnone
            go_wp2_with (first | (refine store_zero rfl _ _ rfl (w.heap.size + 1) rfl rfl hz7.out ?_))
            refine bodyPost_ret (v := .tuple #[.agg #[.int .i64 0, .int .i64 0, .bool false, .int .i64 0, .int .i64 0, .int .i64 0, .int .i64 0, .int .i64 0, .int .i64 0, .bool false, .slice none 0 0, .int .i64 0, .int .i64 0, .int .i64 0, .int .i64 0, .int .i64 0, .int .i64 0, .int .i64 0, .int .i64 0, .int .i64 0, .int .i64 0, .int .i64 0, .bool false, .slice none 0 0], .int .i64 11]) (results_row_tmp Try.results37 _ _ (w.heap.size + 1) _ _ _ _ rfl hz7.out Try.underlying71 rfl matchRow) rfl ?_
            exact PlayPost.err HV.out HF.out (by have := HN.out; omega) hpl.out HNO.out hB
          · cases h1 : (x != 1)
            all_goals
              have hnone : M.playF m (xs.drop k) = none := by rw [HD.out, M.playF_cons, if_pos (by simp at hw; omega)]
              have HNO := hide hnone
              clear hnone
              go_wp2_with (first | (refine store_zero rfl _ _ rfl (w.heap.size + 1) rfl rfl hz7.out ?_))
              refine bodyPost_ret (v := .tuple #[.agg #[.int .i64 0, .int .i64 0, .bool false, .int .i64 0, .int .i64 0, .int .i64 0, .int .i64 0, .int .i64 0, .int .i64 0, .bool false, .slice none 0 0, .int .i64 0, .int .i64 0, .int .i64 0, .int .i64 0, .int .i64 0, .int .i64 0, .int .i64 0, .int .i64 0, .int .i64 0, .int .i64 0, .int .i64 0, .bool false, .slice none 0 0], .int .i64 11]) (results_row_tmp Try.results37 _ _ (w.heap.size + 1) _ _ _ _ rfl hz7.out Try.underlying71 rfl matchRow) rfl ?_
              exact PlayPost.err HV.out HF.out (by have := HN.out; omega) hpl.out HNO.out hB
      · have hkn : k = n := by omega
        have hs : some m = M.playF (M.start f first) xs := by rw [← hpl.out, List.drop_of_length_le (by have := HN.out; omega)]; rfl
        have HS := hide hs
        clear hs
        obtain ⟨A1, c1, e1⟩ := own_form hat.out.2.2.1
        obtain ⟨A2, c2, e2⟩ := own_form hat.out.2.2.2
        subst e1 e2
        subst hkn
        go_wp2_with (first | (refine wpList_load_row rfl 71 _ rfl q rfl 71 _ (0, 0) _ hat.out.2.1 Try.underlying71 rfl matchRow ?_) | (refine wpList_store_row rfl 71 _ _ rfl (w.heap.size + 1) _ rfl rfl 71 _ hz7.out matchRow rfl (by simp [Value.oneCell']) ?_))
        refine bodyPost_ret (v := .tuple #[.agg #[.int .i64 m.f.sets, .int .i64 m.f.games, .bool m.f.noAd, .int .i64 m.f.tie, .int .i64 m.f.to, .int .i64 m.f.lastTie, .int .i64 m.f.lastTo, .int .i64 m.f.first, .int .i64 m.f.next, .bool m.f.doubles, .slice A1 m.sets.length c1, .int .i64 m.games.A, .int .i64 m.games.B, .int .i64 m.pts.A, .int .i64 m.pts.B, .int .i64 m.server, .int .i64 m.ends, .int .i64 m.balls, .int .i64 m.winner, .int .i64 m.opens, .int .i64 m.won.A, .int .i64 m.won.B, .bool m.fresh, .slice A2 m.log.length c2], .int .i64 0]) (results_row_tmp Try.results37 _ _ (w.heap.size + 1) _ _ _ _ rfl (setRow_heap _ _ _ _ _ _ hz7.out) Try.underlying71 rfl matchRow) rfl ?_
        exact play_fin HV.out HF.out (by have := HN.out; omega) HS.out hat.out hz7.out (by omega) hB

end Go.Proofs.Ytlhbimifhclojaa
