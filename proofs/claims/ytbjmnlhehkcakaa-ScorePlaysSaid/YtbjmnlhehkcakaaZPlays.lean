/-
  For every format, every first server and every slice of points the law ScorePlays returns true and leaves its arguments as they were. No condition.
-/
import Derived.Test.YtbjmnlhehkcakaaZB11
import Derived.Test.YtbjmnlhehkcakaaZB12
import Derived.Test.YtbjmnlhehkcakaaZB15
namespace Go.Proofs.Ytbjmnlhehkcakaa
open Go.RowKit
attribute [local go_sem ↓] Go.wp_at_zero Go.wp_at_succ

def Run2Post (f : M.Fm) (first : Int) (xs : List Int) (w : World) (e : Ending) (w' : World) : Prop :=
  ∃ sv gv, e = .returned (.tuple #[.agg #[sv, .int .i64 (M.playM f first xs).games.A, .int .i64 (M.playM f first xs).games.B, .int .i64 (M.playM f first xs).pts.A, .int .i64 (M.playM f first xs).pts.B, .int .i64 (M.playM f first xs).server, .int .i64 (M.playM f first xs).ends, .int .i64 (M.playM f first xs).balls, .int .i64 (M.playM f first xs).winner, .int .i64 (M.playM f first xs).opens, gv, .bool (M.playM f first xs).fresh], .int .i64 (M.playE f first xs)]) ∧
    w'.ownsRow w.heap.size 32 2 sv (M.playM f first xs).sets.length (flatP (M.playM f first xs).sets) ∧ w'.ownsRow w.heap.size 44 7 gv (M.playM f first xs).log.length (flatG (M.playM f first xs).log) ∧ Below w.heap.size w w'
theorem refRun2_any (f : M.Fm) (first : Int) (A : Option Addr) (n c : Nat) (xs : List Int) (w : World) (hn : xs.length = n) (hr : RdI w w.heap.size A xs) (hm : n ≤ 1000000) :
    Calls Try.prog 40 #[.agg #[.int .i64 f.sets, .int .i64 f.games, .bool f.noAd, .int .i64 f.tie, .int .i64 f.to, .int .i64 f.lastTie, .int .i64 f.lastTo, .int .i64 f.first, .int .i64 f.next, .bool f.doubles], .int .i64 first, .slice A n c] w fun e w' => Run2Post f first xs w e w' := by
  refine (refRun_any f first A n c xs w hn hr hm).mono ?_
  rintro e w' ⟨sv, gv, rfl, hat, hb⟩
  have h1 := hat.s
  have h2 := hat.g
  rw [M.rrunM_play] at h1 h2
  exact ⟨sv, gv, by rw [M.rrunM_play, M.rrunE_play], h1, h2, hb⟩

set_option maxHeartbeats 4000000 in
set_option maxRecDepth 100000 in
theorem refPlay_any (f : M.Fm) (first : Int) (A : Option Addr) (n c : Nat) (xs : List Int) (w : World) (hn : xs.length = n) (hr : RdI w w.heap.size A xs) (hm : n ≤ 1000000) :
    Calls Try.prog 14 #[.agg #[.int .i64 f.sets, .int .i64 f.games, .bool f.noAd, .int .i64 f.tie, .int .i64 f.to, .int .i64 f.lastTie, .int .i64 f.lastTo, .int .i64 f.first, .int .i64 f.next, .bool f.doubles], .int .i64 first, .slice A n c] w fun e w' => PlayedPost f first xs w e w' := by
  have HN := hide hn
  have HR := hide hr
  clear hn hr
  go_enter Try.func14, Try.ntmps14
  go_upto_region 2 with (first | (go_at_call 40; refine (refRun2_any f first A n c xs _ HN.out ((HR.out.below (by (repeat' first | exact zbR _ _ | assumption | refine zbD ?_ | refine zbA ?_ ?_ _ | refine zbS ?_ ?_ _ | refine zbT ?_ (by assumption) ?_ | (simp; done) | (simp; omega) | omega))).mono (by simp; omega)) hm).mono ?_; rintro e w1 ⟨sv, gv, rfl, hsv, hgv, hb1⟩; obtain ⟨A1, c1, e1⟩ := own_form hsv; obtain ⟨A2, c2, e2⟩ := own_form hgv; subst e1 e2; have hx1 := (hb1.block (w.heap.size + 1) (by simp)).trans (heap_alloc2_new w _ _); have hq1 : w.heap.size + 1 < w1.heap.size := (by have := hb1.size; simp at this; omega); have HSV := hide (owns_mono (base' := w.heap.size) hsv (by simp; omega)); have HB1 := hide (show Below w.heap.size w w1 from Below.trans (by (repeat' first | exact zbR _ _ | assumption | refine zbD ?_ | refine zbA ?_ ?_ _ | refine zbS ?_ ?_ _ | refine zbT ?_ (by assumption) ?_ | (simp; done) | (simp; omega) | omega)) (hb1.mono (by simp; omega))); clear hsv hgv hb1) | (refine wpList_store_row rfl 79 _ _ rfl w1.heap.size _ rfl rfl 79 _ (heap_alloc_new w1 _) matchRow75 rfl (by simp [Value.oneCell']) ?_))
  have hy1 := (setRow_other (w1.alloc (.cells #[.slice none 0 0, .int .i64 0, .int .i64 0, .int .i64 0, .int .i64 0, .int .i64 0, .int .i64 0, .int .i64 0, .int .i64 0, .int .i64 0, .slice none 0 0, .bool false] 79 (0, 0))) w1.heap.size (w.heap.size + 1) #[.slice A1 (M.playM f first xs).sets.length c1, .int .i64 (M.playM f first xs).games.A, .int .i64 (M.playM f first xs).games.B, .int .i64 (M.playM f first xs).pts.A, .int .i64 (M.playM f first xs).pts.B, .int .i64 (M.playM f first xs).server, .int .i64 (M.playM f first xs).ends, .int .i64 (M.playM f first xs).balls, .int .i64 (M.playM f first xs).winner, .int .i64 (M.playM f first xs).opens, .slice A2 (M.playM f first xs).log.length c2, .bool (M.playM f first xs).fresh] (by omega)).trans ((heap_alloc_old w1 _ (by omega)).trans hx1)
  have hyq := setRow_heap (w1.alloc (.cells #[.slice none 0 0, .int .i64 0, .int .i64 0, .int .i64 0, .int .i64 0, .int .i64 0, .int .i64 0, .int .i64 0, .int .i64 0, .int .i64 0, .slice none 0 0, .bool false] 79 (0, 0))) w1.heap.size #[.slice none 0 0, .int .i64 0, .int .i64 0, .int .i64 0, .int .i64 0, .int .i64 0, .int .i64 0, .int .i64 0, .int .i64 0, .int .i64 0, .slice none 0 0, .bool false] #[.slice A1 (M.playM f first xs).sets.length c1, .int .i64 (M.playM f first xs).games.A, .int .i64 (M.playM f first xs).games.B, .int .i64 (M.playM f first xs).pts.A, .int .i64 (M.playM f first xs).pts.B, .int .i64 (M.playM f first xs).server, .int .i64 (M.playM f first xs).ends, .int .i64 (M.playM f first xs).balls, .int .i64 (M.playM f first xs).winner, .int .i64 (M.playM f first xs).opens, .slice A2 (M.playM f first xs).log.length c2, .bool (M.playM f first xs).fresh] 79 (0, 0) (heap_alloc_new w1 _)
  have hgr : w1.grownBy (World.setRow (w1.alloc (.cells #[.slice none 0 0, .int .i64 0, .int .i64 0, .int .i64 0, .int .i64 0, .int .i64 0, .int .i64 0, .int .i64 0, .int .i64 0, .int .i64 0, .slice none 0 0, .bool false] 79 (0, 0))) w1.heap.size #[.slice A1 (M.playM f first xs).sets.length c1, .int .i64 (M.playM f first xs).games.A, .int .i64 (M.playM f first xs).games.B, .int .i64 (M.playM f first xs).pts.A, .int .i64 (M.playM f first xs).pts.B, .int .i64 (M.playM f first xs).server, .int .i64 (M.playM f first xs).ends, .int .i64 (M.playM f first xs).balls, .int .i64 (M.playM f first xs).winner, .int .i64 (M.playM f first xs).opens, .slice A2 (M.playM f first xs).log.length c2, .bool (M.playM f first xs).fresh]) none := ⟨rfl, rfl, rfl, by simp, fun k hk _ => (setRow_other _ _ k _ (by omega)).trans (heap_alloc_old _ _ hk)⟩
  have HO := hide (HSV.out.kept hgr (by simp [Value.ownBlock]; cases A1 <;> simp))
  have HB2 := hide (below_row (b := w1.heap.size) (HB1.out.alloc HB1.out.size (.cells #[.slice none 0 0, .int .i64 0, .int .i64 0, .int .i64 0, .int .i64 0, .int .i64 0, .int .i64 0, .int .i64 0, .int .i64 0, .int .i64 0, .slice none 0 0, .bool false] 79 (0, 0))) HB1.out.size #[.slice A1 (M.playM f first xs).sets.length c1, .int .i64 (M.playM f first xs).games.A, .int .i64 (M.playM f first xs).games.B, .int .i64 (M.playM f first xs).pts.A, .int .i64 (M.playM f first xs).pts.B, .int .i64 (M.playM f first xs).server, .int .i64 (M.playM f first xs).ends, .int .i64 (M.playM f first xs).balls, .int .i64 (M.playM f first xs).winner, .int .i64 (M.playM f first xs).opens, .slice A2 (M.playM f first xs).log.length c2, .bool (M.playM f first xs).fresh])
  clear hgr hx1 HSV HB1
  generalize World.setRow (w1.alloc (.cells #[.slice none 0 0, .int .i64 0, .int .i64 0, .int .i64 0, .int .i64 0, .int .i64 0, .int .i64 0, .int .i64 0, .int .i64 0, .int .i64 0, .slice none 0 0, .bool false] 79 (0, 0))) w1.heap.size #[.slice A1 (M.playM f first xs).sets.length c1, .int .i64 (M.playM f first xs).games.A, .int .i64 (M.playM f first xs).games.B, .int .i64 (M.playM f first xs).pts.A, .int .i64 (M.playM f first xs).pts.B, .int .i64 (M.playM f first xs).server, .int .i64 (M.playM f first xs).ends, .int .i64 (M.playM f first xs).balls, .int .i64 (M.playM f first xs).winner, .int .i64 (M.playM f first xs).opens, .slice A2 (M.playM f first xs).log.length c2, .bool (M.playM f first xs).fresh] = w2 at hy1 hyq HO HB2 ⊢
  generalize w1.heap.size = q at hq1 hyq ⊢
  have hcc := fun i => cell_of_row w2 q i _ _ _ hyq
  go_wp2_with (first | (refine wpList_store_row rfl 36 _ _ rfl (w.heap.size + 1) _ rfl rfl 36 _ hy1 scoreRow rfl (by simp [Value.oneCell']) ?_))
  refine bodyPost_ret (v := .tuple #[.agg #[.slice A1 (M.playM f first xs).sets.length c1, .int .i64 (M.playM f first xs).games.A, .int .i64 (M.playM f first xs).games.B, .int .i64 (M.playM f first xs).pts.A, .int .i64 (M.playM f first xs).pts.B, .int .i64 (M.playM f first xs).server, .int .i64 (M.playM f first xs).ends, .int .i64 (M.playM f first xs).balls, .int .i64 (M.playM f first xs).winner], .int .i64 (M.playE f first xs)]) (results_row_tmp Try.results14 _ _ (w.heap.size + 1) _ _ _ _ rfl (setRow_heap _ _ _ _ _ _ hy1) Try.underlying36 rfl scoreRow) rfl ?_
  have hg3 : w2.grownBy (w2.setRow (w.heap.size + 1) #[.slice A1 (M.playM f first xs).sets.length c1, .int .i64 (M.playM f first xs).games.A, .int .i64 (M.playM f first xs).games.B, .int .i64 (M.playM f first xs).pts.A, .int .i64 (M.playM f first xs).pts.B, .int .i64 (M.playM f first xs).server, .int .i64 (M.playM f first xs).ends, .int .i64 (M.playM f first xs).balls, .int .i64 (M.playM f first xs).winner]) (some (w.heap.size + 1)) := ⟨rfl, rfl, rfl, by simp, fun k _ hk => setRow_other w2 _ k _ (fun e => hk (by rw [e]))⟩
  exact ⟨_, rfl, HO.out.kept hg3 (.inr (row_ne HO.out hy1 (by decide))), below_row HB2.out (by omega) _⟩

set_option maxHeartbeats 4000000 in
set_option maxRecDepth 100000 in
theorem refGames_any (f : M.Fm) (first : Int) (A : Option Addr) (n c : Nat) (xs : List Int) (w : World) (hn : xs.length = n) (hr : RdI w w.heap.size A xs) (hm : n ≤ 1000000) :
    Calls Try.prog 16 #[.agg #[.int .i64 f.sets, .int .i64 f.games, .bool f.noAd, .int .i64 f.tie, .int .i64 f.to, .int .i64 f.lastTie, .int .i64 f.lastTo, .int .i64 f.first, .int .i64 f.next, .bool f.doubles], .int .i64 first, .slice A n c] w fun e w' => GamesPost f first xs w e w' := by
  have HN := hide hn
  have HR := hide hr
  clear hn hr
  go_enter Try.func16, Try.ntmps16
  go_upto_region 2 with (first | (go_at_call 40; refine (refRun2_any f first A n c xs _ HN.out ((HR.out.below (by (repeat' first | exact zbR _ _ | assumption | refine zbD ?_ | refine zbA ?_ ?_ _ | refine zbS ?_ ?_ _ | refine zbT ?_ (by assumption) ?_ | (simp; done) | (simp; omega) | omega))).mono (by simp)) hm).mono ?_; rintro e w1 ⟨sv, gv, rfl, hsv, hgv, hb1⟩; obtain ⟨A1, c1, e1⟩ := own_form hsv; obtain ⟨A2, c2, e2⟩ := own_form hgv; subst e1 e2; have hq1 : w.heap.size < w1.heap.size := (by have := hb1.size; simp at this; omega); have HGV := hide (owns_mono (base' := w.heap.size) hgv (by simp)); have HB1 := hide (show Below w.heap.size w w1 from Below.trans (by (repeat' first | exact zbR _ _ | assumption | refine zbD ?_ | refine zbA ?_ ?_ _ | refine zbS ?_ ?_ _ | refine zbT ?_ (by assumption) ?_ | (simp; done) | (simp; omega) | omega)) (hb1.mono (by simp))); clear hsv hgv hb1) | (refine wpList_store_row rfl 79 _ _ rfl w1.heap.size _ rfl rfl 79 _ (heap_alloc_new w1 _) matchRow75 rfl (by simp [Value.oneCell']) ?_))
  have hyq := setRow_heap (w1.alloc (.cells #[.slice none 0 0, .int .i64 0, .int .i64 0, .int .i64 0, .int .i64 0, .int .i64 0, .int .i64 0, .int .i64 0, .int .i64 0, .int .i64 0, .slice none 0 0, .bool false] 79 (0, 0))) w1.heap.size #[.slice none 0 0, .int .i64 0, .int .i64 0, .int .i64 0, .int .i64 0, .int .i64 0, .int .i64 0, .int .i64 0, .int .i64 0, .int .i64 0, .slice none 0 0, .bool false] #[.slice A1 (M.playM f first xs).sets.length c1, .int .i64 (M.playM f first xs).games.A, .int .i64 (M.playM f first xs).games.B, .int .i64 (M.playM f first xs).pts.A, .int .i64 (M.playM f first xs).pts.B, .int .i64 (M.playM f first xs).server, .int .i64 (M.playM f first xs).ends, .int .i64 (M.playM f first xs).balls, .int .i64 (M.playM f first xs).winner, .int .i64 (M.playM f first xs).opens, .slice A2 (M.playM f first xs).log.length c2, .bool (M.playM f first xs).fresh] 79 (0, 0) (heap_alloc_new w1 _)
  have hgr : w1.grownBy (World.setRow (w1.alloc (.cells #[.slice none 0 0, .int .i64 0, .int .i64 0, .int .i64 0, .int .i64 0, .int .i64 0, .int .i64 0, .int .i64 0, .int .i64 0, .int .i64 0, .slice none 0 0, .bool false] 79 (0, 0))) w1.heap.size #[.slice A1 (M.playM f first xs).sets.length c1, .int .i64 (M.playM f first xs).games.A, .int .i64 (M.playM f first xs).games.B, .int .i64 (M.playM f first xs).pts.A, .int .i64 (M.playM f first xs).pts.B, .int .i64 (M.playM f first xs).server, .int .i64 (M.playM f first xs).ends, .int .i64 (M.playM f first xs).balls, .int .i64 (M.playM f first xs).winner, .int .i64 (M.playM f first xs).opens, .slice A2 (M.playM f first xs).log.length c2, .bool (M.playM f first xs).fresh]) none := ⟨rfl, rfl, rfl, by simp, fun k hk _ => (setRow_other _ _ k _ (by omega)).trans (heap_alloc_old _ _ hk)⟩
  have HO := hide (HGV.out.kept hgr (by simp [Value.ownBlock]; cases A2 <;> simp))
  have HB2 := hide (below_row (b := w1.heap.size) (HB1.out.alloc HB1.out.size (.cells #[.slice none 0 0, .int .i64 0, .int .i64 0, .int .i64 0, .int .i64 0, .int .i64 0, .int .i64 0, .int .i64 0, .int .i64 0, .int .i64 0, .slice none 0 0, .bool false] 79 (0, 0))) HB1.out.size #[.slice A1 (M.playM f first xs).sets.length c1, .int .i64 (M.playM f first xs).games.A, .int .i64 (M.playM f first xs).games.B, .int .i64 (M.playM f first xs).pts.A, .int .i64 (M.playM f first xs).pts.B, .int .i64 (M.playM f first xs).server, .int .i64 (M.playM f first xs).ends, .int .i64 (M.playM f first xs).balls, .int .i64 (M.playM f first xs).winner, .int .i64 (M.playM f first xs).opens, .slice A2 (M.playM f first xs).log.length c2, .bool (M.playM f first xs).fresh])
  clear hgr HGV HB1
  generalize World.setRow (w1.alloc (.cells #[.slice none 0 0, .int .i64 0, .int .i64 0, .int .i64 0, .int .i64 0, .int .i64 0, .int .i64 0, .int .i64 0, .int .i64 0, .int .i64 0, .slice none 0 0, .bool false] 79 (0, 0))) w1.heap.size #[.slice A1 (M.playM f first xs).sets.length c1, .int .i64 (M.playM f first xs).games.A, .int .i64 (M.playM f first xs).games.B, .int .i64 (M.playM f first xs).pts.A, .int .i64 (M.playM f first xs).pts.B, .int .i64 (M.playM f first xs).server, .int .i64 (M.playM f first xs).ends, .int .i64 (M.playM f first xs).balls, .int .i64 (M.playM f first xs).winner, .int .i64 (M.playM f first xs).opens, .slice A2 (M.playM f first xs).log.length c2, .bool (M.playM f first xs).fresh] = w2 at hyq HO HB2 ⊢
  generalize w1.heap.size = q at hq1 hyq ⊢
  have hcc := fun i => cell_of_row w2 q i _ _ _ hyq
  go_wp2_with fail
  go_ret2
  exact ⟨_, rfl, HO.out, HB2.out⟩

end Go.Proofs.Ytbjmnlhehkcakaa

namespace Go.Proofs.Ytbjmnlhehkcakaa
open Go.RowKit
attribute [local go_sem ↓] Go.wp_at_zero Go.wp_at_succ run_neq_game

set_option maxHeartbeats 8000000 in
set_option maxRecDepth 100000 in
theorem playsLaw_some (f : M.Fm) (first : Int) (A : Option Addr) (n c : Nat) (xs : List Int) (w : World) (hn : xs.length = n) (hr : RdI w w.heap.size A xs) (hA : A = none → c = 0) (h : n ≤ 700) :
    Calls Try.prog 3 #[.agg #[.int .i64 f.sets, .int .i64 f.games, .bool f.noAd, .int .i64 f.tie, .int .i64 f.to, .int .i64 f.lastTie, .int .i64 f.lastTo, .int .i64 f.first, .int .i64 f.next, .bool f.doubles], .agg #[.int .i64 first, .slice A n c]] w fun e w' => e = .returned (.bool true) ∧ Below w.heap.size w w' := by
  have hl : (n : Int) ≤ 700 := by omega
  have hm : n ≤ 1000000 := by omega
  have HN := hide hn
  have HR := hide hr
  have HA := hide hA
  obtain ⟨v, hv⟩ : ∃ v : Int, (if M.validB f = true then 0 else 10) = v := ⟨_, rfl⟩
  have HV := hide hv
  clear hn hr hA hv
  go_enter Try.func3, Try.ntmps3
  go_upto_region 4 with (first | (refine wpList_app_ints rfl (.tmp 21) (.tmp 23) rfl (w.heap.size + 1 + 1) (a3_new w _ _ _) rfl A n c xs rfl HN.out ((HR.out.below (by (repeat' first | exact zbR _ _ | assumption | refine zbD ?_ | refine zbA ?_ ?_ _ | refine zbS ?_ ?_ _ | refine zbT ?_ (by assumption) ?_ | (simp; done) | (simp; omega) | omega))).mono (by simp; omega)) HA.out (by omega) ?_; rintro A1 c1 w4 hown hgrow; have hb4 := grown_below (B := w.heap.size + 1 + 1) hgrow (by simp) (fun g hg => Nat.le_of_eq (Option.some.inj hg)); have hx0 := (hb4.block w.heap.size (by omega)).trans (a3_old w _ _ _); have hx1 := (hb4.block (w.heap.size + 1) (by omega)).trans (a3_mid w _ _ _); have hz4 : w.heap.size + 1 + 1 < w4.heap.size := (by have := hb4.size; simp at this; omega); have HO := hide hown; have HB := hide (show Below w.heap.size w w4 from Below.trans (by (repeat' first | exact zbR _ _ | assumption | refine zbD ?_ | refine zbA ?_ ?_ _ | refine zbS ?_ ?_ _ | refine zbT ?_ (by assumption) ?_ | (simp; done) | (simp; omega) | omega)) (hb4.mono (by omega))); clear hb4 hown hgrow))
  have c23 : w4.cell? ⟨w.heap.size, 0, none⟩ = some (.int .i64 f.sets) ∧ w4.cell? ⟨w.heap.size, 1, none⟩ = some (.int .i64 f.games) ∧ w4.cell? ⟨w.heap.size, 2, none⟩ = some (.bool f.noAd) ∧ w4.cell? ⟨w.heap.size, 3, none⟩ = some (.int .i64 f.tie) ∧ w4.cell? ⟨w.heap.size, 4, none⟩ = some (.int .i64 f.to) ∧ w4.cell? ⟨w.heap.size, 5, none⟩ = some (.int .i64 f.lastTie) ∧ w4.cell? ⟨w.heap.size, 6, none⟩ = some (.int .i64 f.lastTo) ∧ w4.cell? ⟨w.heap.size, 7, none⟩ = some (.int .i64 f.first) ∧ w4.cell? ⟨w.heap.size, 8, none⟩ = some (.int .i64 f.next) ∧ w4.cell? ⟨w.heap.size, 9, none⟩ = some (.bool f.doubles) := by (repeat' apply And.intro) <;> exact (cell_of_row _ _ _ _ _ _ hx0).trans rfl
  have HX0 := hide hx0
  have HX1 := hide hx1
  clear hx0 hx1
  have hS : (fun w' => Below w4.heap.size w4 w' ∧ w.heap.size < w'.heap.size ∧ w'.cell? ⟨w.heap.size, 0, none⟩ = some (.int .i64 f.sets) ∧ w'.cell? ⟨w.heap.size, 1, none⟩ = some (.int .i64 f.games) ∧ w'.cell? ⟨w.heap.size, 2, none⟩ = some (.bool f.noAd) ∧ w'.cell? ⟨w.heap.size, 3, none⟩ = some (.int .i64 f.tie) ∧ w'.cell? ⟨w.heap.size, 4, none⟩ = some (.int .i64 f.to) ∧ w'.cell? ⟨w.heap.size, 5, none⟩ = some (.int .i64 f.lastTie) ∧ w'.cell? ⟨w.heap.size, 6, none⟩ = some (.int .i64 f.lastTo) ∧ w'.cell? ⟨w.heap.size, 7, none⟩ = some (.int .i64 f.first) ∧ w'.cell? ⟨w.heap.size, 8, none⟩ = some (.int .i64 f.next) ∧ w'.cell? ⟨w.heap.size, 9, none⟩ = some (.bool f.doubles)) w4 := by (try dsimp only); (first | (go_keep; done) | (go_split_ands; (repeat' apply And.intro) <;> first | (go_keep; done) | (simp [*, zcA, zcP, zfA, zfP]; done) | (simp [zcA, zcP] <;> rfl) | (simp [*, zsS, zsO, zsA]; done) | ((first | refine (hc _ _ ?_).trans ?_ | refine (hf _ _ ?_).trans ?_) <;> first | assumption | (simp; done) | (simp; omega) | omega | (go_keep; done) | (simp [*, zcA, zcP, zfA, zfP]; done) | (simp [zcA, zcP]; rfl)) | (repeat' first | exact zbR _ _ | assumption | refine zbD ?_ | refine zbA ?_ ?_ _ | refine zbS ?_ ?_ _ | refine zbT ?_ (by assumption) ?_ | (simp; done) | (simp; omega) | omega)))
  (try dsimp only at hS)
  refine wp_region_held_drew (S := (fun w' => Below w4.heap.size w4 w' ∧ w.heap.size < w'.heap.size ∧ w'.cell? ⟨w.heap.size, 0, none⟩ = some (.int .i64 f.sets) ∧ w'.cell? ⟨w.heap.size, 1, none⟩ = some (.int .i64 f.games) ∧ w'.cell? ⟨w.heap.size, 2, none⟩ = some (.bool f.noAd) ∧ w'.cell? ⟨w.heap.size, 3, none⟩ = some (.int .i64 f.tie) ∧ w'.cell? ⟨w.heap.size, 4, none⟩ = some (.int .i64 f.to) ∧ w'.cell? ⟨w.heap.size, 5, none⟩ = some (.int .i64 f.lastTie) ∧ w'.cell? ⟨w.heap.size, 6, none⟩ = some (.int .i64 f.lastTo) ∧ w'.cell? ⟨w.heap.size, 7, none⟩ = some (.int .i64 f.first) ∧ w'.cell? ⟨w.heap.size, 8, none⟩ = some (.int .i64 f.next) ∧ w'.cell? ⟨w.heap.size, 9, none⟩ = some (.bool f.doubles))) (by kernel_rfl) ?_ (fun hHeld0 => ?_)
  · (try dsimp only); (first | (go_keep; done) | (go_split_ands; (repeat' apply And.intro) <;> first | (go_keep; done) | (simp [*, zcA, zcP, zfA, zfP]; done) | (simp [zcA, zcP] <;> rfl) | (simp [*, zsS, zsO, zsA]; done) | ((first | refine (hc _ _ ?_).trans ?_ | refine (hf _ _ ?_).trans ?_) <;> first | assumption | (simp; done) | (simp; omega) | omega | (go_keep; done) | (simp [*, zcA, zcP, zfA, zfP]; done) | (simp [zcA, zcP]; rfl)) | (repeat' first | exact zbR _ _ | assumption | refine zbD ?_ | refine zbA ?_ ?_ _ | refine zbS ?_ ?_ _ | refine zbT ?_ (by assumption) ?_ | (simp; done) | (simp; omega) | omega)))
  refine tL (v := ?_) 0 rfl (by kernel_rfl) (fun _ _ _ h => h) (Or.inl ⟨by rfl, ?_⟩) (by assumption) ?_; rotate_left
  · (intro w hSw; (try dsimp only at hSw); go_simp; try with_reducible rfl)
  try simp only [Act.put, zl, z0, z1]
  refine tL (v := ?_) 2 rfl (by kernel_rfl) (fun _ _ _ h => h) (Or.inl ⟨by rfl, ?_⟩) (by assumption) ?_; rotate_left
  · (intro w hSw; (try dsimp only at hSw); go_simp; try with_reducible rfl)
  try simp only [Act.put, zl, z0, z1]
  refine wpAnyH_ready (rs := [1]) (by kernel_rfl) (by simp) ?_
  refine consL 1 rfl (fun K hK => ?_) AllReadyH.nil
  go_simp
  (go_at_call 11; refine (Check_val f v HV.out _).mono ?_; rintro e w' ⟨rfl, hb⟩; obtain ⟨hc, hf⟩ := bcell hb; have hz := hb.size; (try simp at hz); have hSn : ((fun w' => Below w4.heap.size w4 w' ∧ w.heap.size < w'.heap.size ∧ w'.cell? ⟨w.heap.size, 0, none⟩ = some (.int .i64 f.sets) ∧ w'.cell? ⟨w.heap.size, 1, none⟩ = some (.int .i64 f.games) ∧ w'.cell? ⟨w.heap.size, 2, none⟩ = some (.bool f.noAd) ∧ w'.cell? ⟨w.heap.size, 3, none⟩ = some (.int .i64 f.tie) ∧ w'.cell? ⟨w.heap.size, 4, none⟩ = some (.int .i64 f.to) ∧ w'.cell? ⟨w.heap.size, 5, none⟩ = some (.int .i64 f.lastTie) ∧ w'.cell? ⟨w.heap.size, 6, none⟩ = some (.int .i64 f.lastTo) ∧ w'.cell? ⟨w.heap.size, 7, none⟩ = some (.int .i64 f.first) ∧ w'.cell? ⟨w.heap.size, 8, none⟩ = some (.int .i64 f.next) ∧ w'.cell? ⟨w.heap.size, 9, none⟩ = some (.bool f.doubles))) w' := (by (try dsimp only); (first | (go_keep; done) | (go_split_ands; (repeat' apply And.intro) <;> first | (go_keep; done) | (simp [*, zcA, zcP, zfA, zfP]; done) | (simp [zcA, zcP] <;> rfl) | (simp [*, zsS, zsO, zsA]; done) | ((first | refine (hc _ _ ?_).trans ?_ | refine (hf _ _ ?_).trans ?_) <;> first | assumption | (simp; done) | (simp; omega) | omega | (go_keep; done) | (simp [*, zcA, zcP, zfA, zfP]; done) | (simp [zcA, zcP]; rfl)) | (repeat' first | exact zbR _ _ | assumption | refine zbD ?_ | refine zbA ?_ ?_ _ | refine zbS ?_ ?_ _ | refine zbT ?_ (by assumption) ?_ | (simp; done) | (simp; omega) | omega)))); (try dsimp only at hSn); (try clear hS); have hS := hSn; clear hSn hc hf)
  refine hK.out _ _ ?_ (fun hHeld1 => ?_)
  · (try dsimp only); exact hS
  clear hK K hHeld0
  try simp only [Act.put, zl, z0, z1]
  refine wpAnyH_ready (rs := [3]) (by kernel_rfl) (by simp) ?_
  refine consL 3 rfl (fun K hK => ?_) AllReadyH.nil
  go_simp
  (go_at_call 12; refine (RefCheck_val f v HV.out _).mono ?_; rintro e w' ⟨rfl, hb⟩; obtain ⟨hc, hf⟩ := bcell hb; have hz := hb.size; (try simp at hz); have hSn : ((fun w' => Below w4.heap.size w4 w' ∧ w.heap.size < w'.heap.size ∧ w'.cell? ⟨w.heap.size, 0, none⟩ = some (.int .i64 f.sets) ∧ w'.cell? ⟨w.heap.size, 1, none⟩ = some (.int .i64 f.games) ∧ w'.cell? ⟨w.heap.size, 2, none⟩ = some (.bool f.noAd) ∧ w'.cell? ⟨w.heap.size, 3, none⟩ = some (.int .i64 f.tie) ∧ w'.cell? ⟨w.heap.size, 4, none⟩ = some (.int .i64 f.to) ∧ w'.cell? ⟨w.heap.size, 5, none⟩ = some (.int .i64 f.lastTie) ∧ w'.cell? ⟨w.heap.size, 6, none⟩ = some (.int .i64 f.lastTo) ∧ w'.cell? ⟨w.heap.size, 7, none⟩ = some (.int .i64 f.first) ∧ w'.cell? ⟨w.heap.size, 8, none⟩ = some (.int .i64 f.next) ∧ w'.cell? ⟨w.heap.size, 9, none⟩ = some (.bool f.doubles))) w' := (by (try dsimp only); (first | (go_keep; done) | (go_split_ands; (repeat' apply And.intro) <;> first | (go_keep; done) | (simp [*, zcA, zcP, zfA, zfP]; done) | (simp [zcA, zcP] <;> rfl) | (simp [*, zsS, zsO, zsA]; done) | ((first | refine (hc _ _ ?_).trans ?_ | refine (hf _ _ ?_).trans ?_) <;> first | assumption | (simp; done) | (simp; omega) | omega | (go_keep; done) | (simp [*, zcA, zcP, zfA, zfP]; done) | (simp [zcA, zcP]; rfl)) | (repeat' first | exact zbR _ _ | assumption | refine zbD ?_ | refine zbA ?_ ?_ _ | refine zbS ?_ ?_ _ | refine zbT ?_ (by assumption) ?_ | (simp; done) | (simp; omega) | omega)))); (try dsimp only at hSn); (try clear hS); have hS := hSn; clear hSn hc hf)
  refine hK.out _ _ ?_ (fun hHeld2 => ?_)
  · (try dsimp only); exact hS
  clear hK K hHeld1
  try simp only [Act.put, zl, z0, z1]
  refine tL (v := ?_) 4 rfl (by kernel_rfl) (fun _ _ _ h => h) (Or.inl ⟨by rfl, ?_⟩) (by assumption) ?_; rotate_left
  · (intro w hSw; (try dsimp only at hSw); go_simp; try with_reducible rfl)
  try simp only [Act.put, zl, z0, z1]
  refine wpAnyH_done (by kernel_rfl) ?_ _
  all_goals
    have hb := hS.1
    replace HX0 := hide (blk_keep HX0.out hb)
    replace HX1 := hide (blk_keep HX1.out hb)
    replace HO := hide (owns_below HO.out hb)
    replace HB := hide (HB.out.trans (hb.mono HB.out.size))
    clear hb hS
    (try clear hHeld0)
    (try clear hHeld1)
    (try clear hHeld2)
    (try clear hHeld3)
    (try clear hHeld4)
    clear c23
    have hc0 := fun i => cell_of_row _ w.heap.size i _ _ _ HX0.out
    have hc1 := fun i => cell_of_row _ (w.heap.size + 1) i _ _ _ HX1.out
    go_upto_region 7 with (first | (go_at_call 13; refine (Play_any f first A1 n c1 xs _ HN.out (owns_RdI HO.out HN.out) hm).mono ?_; rintro e w6 ⟨sv, rfl, hsv, hb⟩; obtain ⟨B1, d1, e1⟩ := own_form hsv; subst e1; clear hc0 hc1; replace HX0 := hide (blk_keep HX0.out hb); replace HX1 := hide (blk_keep HX1.out hb); replace HO := hide (owns_below HO.out hb); replace HB := hide (HB.out.trans (hb.mono HB.out.size)); have HS1 := hide hsv; clear hsv hb))
    have hb := (Below.refl w6.heap.size w6).alloc (Nat.le_refl _) (.cells #[.slice B1 (M.playM f first xs).sets.length d1, .int .i64 (M.playM f first xs).games.A, .int .i64 (M.playM f first xs).games.B, .int .i64 (M.playM f first xs).pts.A, .int .i64 (M.playM f first xs).pts.B, .int .i64 (M.playM f first xs).server, .int .i64 (M.playM f first xs).ends, .int .i64 (M.playM f first xs).balls, .int .i64 (M.playM f first xs).winner] 36 (0, 0))
    have HN7 := hide (heap_alloc_new w6 (.cells #[.slice B1 (M.playM f first xs).sets.length d1, .int .i64 (M.playM f first xs).games.A, .int .i64 (M.playM f first xs).games.B, .int .i64 (M.playM f first xs).pts.A, .int .i64 (M.playM f first xs).pts.B, .int .i64 (M.playM f first xs).server, .int .i64 (M.playM f first xs).ends, .int .i64 (M.playM f first xs).balls, .int .i64 (M.playM f first xs).winner] 36 (0, 0)))
    replace HX0 := hide (blk_keep HX0.out hb)
    replace HX1 := hide (blk_keep HX1.out hb)
    replace HO := hide (owns_below HO.out hb)
    replace HB := hide (HB.out.trans (hb.mono HB.out.size))
    replace HS1 := hide (owns_below HS1.out hb)
    clear hb
    generalize w6.alloc (.cells #[.slice B1 (M.playM f first xs).sets.length d1, .int .i64 (M.playM f first xs).games.A, .int .i64 (M.playM f first xs).games.B, .int .i64 (M.playM f first xs).pts.A, .int .i64 (M.playM f first xs).pts.B, .int .i64 (M.playM f first xs).server, .int .i64 (M.playM f first xs).ends, .int .i64 (M.playM f first xs).balls, .int .i64 (M.playM f first xs).winner] 36 (0, 0)) = w7 at *
    generalize w6.heap.size = q6 at HN7 ⊢
    have hc0 := fun i => cell_of_row w7 w.heap.size i _ _ _ HX0.out
    have hc1 := fun i => cell_of_row w7 (w.heap.size + 1) i _ _ _ HX1.out
    go_upto_region 8 with (first | (go_at_call 14; refine (refPlay_any f first A n c xs _ HN.out ((HR.out.below HB.out).mono HB.out.size) hm).mono ?_; rintro e w8 ⟨sv, rfl, hsv, hb⟩; obtain ⟨B2, d2, e1⟩ := own_form hsv; subst e1; clear hc0 hc1; replace HX0 := hide (blk_keep HX0.out hb); replace HX1 := hide (blk_keep HX1.out hb); replace HO := hide (owns_below HO.out hb); replace HB := hide (HB.out.trans (hb.mono HB.out.size)); replace HS1 := hide (owns_below HS1.out hb); replace HN7 := hide (blk_keep HN7.out hb); have HS2 := hide hsv; clear hsv hb))
    have hb := (Below.refl w8.heap.size w8).alloc (Nat.le_refl _) (.cells #[.slice B2 (M.playM f first xs).sets.length d2, .int .i64 (M.playM f first xs).games.A, .int .i64 (M.playM f first xs).games.B, .int .i64 (M.playM f first xs).pts.A, .int .i64 (M.playM f first xs).pts.B, .int .i64 (M.playM f first xs).server, .int .i64 (M.playM f first xs).ends, .int .i64 (M.playM f first xs).balls, .int .i64 (M.playM f first xs).winner] 36 (0, 0))
    have HN9 := hide (heap_alloc_new w8 (.cells #[.slice B2 (M.playM f first xs).sets.length d2, .int .i64 (M.playM f first xs).games.A, .int .i64 (M.playM f first xs).games.B, .int .i64 (M.playM f first xs).pts.A, .int .i64 (M.playM f first xs).pts.B, .int .i64 (M.playM f first xs).server, .int .i64 (M.playM f first xs).ends, .int .i64 (M.playM f first xs).balls, .int .i64 (M.playM f first xs).winner] 36 (0, 0)))
    replace HX0 := hide (blk_keep HX0.out hb)
    replace HX1 := hide (blk_keep HX1.out hb)
    replace HO := hide (owns_below HO.out hb)
    replace HB := hide (HB.out.trans (hb.mono HB.out.size))
    replace HS1 := hide (owns_below HS1.out hb)
    replace HN7 := hide (blk_keep HN7.out hb)
    replace HS2 := hide (owns_below HS2.out hb)
    clear hb
    generalize w8.alloc (.cells #[.slice B2 (M.playM f first xs).sets.length d2, .int .i64 (M.playM f first xs).games.A, .int .i64 (M.playM f first xs).games.B, .int .i64 (M.playM f first xs).pts.A, .int .i64 (M.playM f first xs).pts.B, .int .i64 (M.playM f first xs).server, .int .i64 (M.playM f first xs).ends, .int .i64 (M.playM f first xs).balls, .int .i64 (M.playM f first xs).winner] 36 (0, 0)) = w9 at *
    generalize w8.heap.size = q8 at HN9 ⊢
    have hc0 := fun i => cell_of_row w9 w.heap.size i _ _ _ HX0.out
    have hc1 := fun i => cell_of_row w9 (w.heap.size + 1) i _ _ _ HX1.out
    go_upto_region 9 with (first | (go_at_call 15; refine (Games_any f first A1 n c1 xs _ HN.out (owns_RdI HO.out HN.out) hm).mono ?_; rintro e w10 ⟨gv, rfl, hgv, hb⟩; obtain ⟨G1, g1, e1⟩ := own_form hgv; subst e1; clear hc0 hc1; replace HX0 := hide (blk_keep HX0.out hb); replace HX1 := hide (blk_keep HX1.out hb); replace HO := hide (owns_below HO.out hb); replace HB := hide (HB.out.trans (hb.mono HB.out.size)); replace HS1 := hide (owns_below HS1.out hb); replace HN7 := hide (blk_keep HN7.out hb); replace HS2 := hide (owns_below HS2.out hb); replace HN9 := hide (blk_keep HN9.out hb); have HG1 := hide hgv; clear hgv hb))
    have hc0 := fun i => cell_of_row w10 w.heap.size i _ _ _ HX0.out
    have hc1 := fun i => cell_of_row w10 (w.heap.size + 1) i _ _ _ HX1.out
    go_upto_region 10 with (first | (go_at_call 16; refine (refGames_any f first A n c xs _ HN.out ((HR.out.below HB.out).mono HB.out.size) hm).mono ?_; rintro e w11 ⟨gv, rfl, hgv, hb⟩; obtain ⟨G2, g2, e1⟩ := own_form hgv; subst e1; clear hc0 hc1; replace HX0 := hide (blk_keep HX0.out hb); replace HX1 := hide (blk_keep HX1.out hb); replace HO := hide (owns_below HO.out hb); replace HB := hide (HB.out.trans (hb.mono HB.out.size)); replace HS1 := hide (owns_below HS1.out hb); replace HN7 := hide (blk_keep HN7.out hb); replace HS2 := hide (owns_below HS2.out hb); replace HN9 := hide (blk_keep HN9.out hb); replace HG1 := hide (owns_below HG1.out hb); have HG2 := hide hgv; clear hgv hb))
    obtain ⟨hs6, hl6⟩ := M.playM_len f first xs
    have hs7 : (M.playM f first xs).sets.length ≤ 1000000 := by omega
    generalize M.playE f first xs = pe
    generalize M.playM f first xs = m at *
    go_wp2_with (first | (refine wpList_load_row rfl 36 _ rfl q6 rfl 36 _ (0, 0) _ HN7.out Try.underlying36 rfl scoreRow ?_) | (refine wpList_load_row rfl 36 _ rfl q8 rfl 36 _ (0, 0) _ HN9.out Try.underlying36 rfl scoreRow ?_) | (go_at_call 17; refine (sameScore_same B1 B2 m.sets.length d1 d2 m.sets m.games m.pts m.server m.ends m.balls m.winner _ rfl (owns_RdP HS1.out rfl) (owns_RdP HS2.out rfl) hs7).mono ?_; rintro e w12 ⟨rfl, hb⟩; replace HX0 := hide (blk_keep HX0.out hb); replace HX1 := hide (blk_keep HX1.out hb); replace HO := hide (owns_below HO.out hb); replace HB := hide (HB.out.trans (hb.mono HB.out.size)); replace HS1 := hide (owns_below HS1.out hb); replace HN7 := hide (blk_keep HN7.out hb); replace HS2 := hide (owns_below HS2.out hb); replace HN9 := hide (blk_keep HN9.out hb); replace HG1 := hide (owns_below HG1.out hb); replace HG2 := hide (owns_below HG2.out hb); clear hb))
    have HRG1 := hide (owns_RdG HG1.out rfl)
    have HRG2 := hide (owns_RdG HG2.out rfl)
    have HRI := hide (owns_RdI HO.out HN.out)
    have HRX := hide ((HR.out.below HB.out).mono HB.out.size)
    clear HG1 HG2 HS1 HS2 HN7 HN9 HX0 HO HR hs6 hs7
    go_loopw [14] (fun i wr => ∃ k : Nat, k ≤ m.log.length ∧ i = .int .i64 k ∧ Below w12.heap.size w12 wr) (fun i _ => m.log.length - (intOf i).toNat)
    case atStart => exact ⟨0, by omega, rfl, Below.refl _ _⟩
    case round =>
      obtain ⟨k, hk, rfl, hB⟩ := hrel
      by_cases hlt : k < m.log.length
      · obtain ⟨g, hg⟩ : ∃ g, m.log[k]? = some g := ⟨_, List.getElem?_eq_getElem hlt⟩
        obtain ⟨b1, o1, hA1, hbB1, p0, p1, p2, p3, p4, p5, p6⟩ := (HRG1.out.below hB) k g hg
        obtain ⟨b2, o2, hA2, hbB2, q0, q1, q2, q3, q4, q5, q6⟩ := (HRG2.out.below hB) k g hg
        subst hA1 hA2
        have hlt' : (k : Int) < (m.log.length : Int) := by omega
        have hk0 : (0 : Int) ≤ (k : Int) := by omega
        clear hg
        go_wp2_with fail
        go_quiet (fail)
        go_wp2_with fail
        go_roundw
        case rel => exact ⟨k + 1, by omega, by go_num, below_drewN hB _⟩
        case measure => simp [intOf]; omega
      · have hkn : k = m.log.length := by omega
        subst hkn
        clear hlt hk
        go_wp2_with fail
        go_loopw [15] (fun i wr2 => ∃ j : Nat, j ≤ n ∧ i = .int .i64 j ∧ Below w12.heap.size w12 wr2) (fun i _ => n - (intOf i).toNat)
        case atStart => exact ⟨0, by omega, rfl, hB⟩
        case round =>
          obtain ⟨j, hj, rfl, hB2⟩ := hrel
          by_cases hjt : j < n
          · obtain ⟨x, hx⟩ : ∃ x, xs[j]? = some x := ⟨_, List.getElem?_eq_getElem (by have := HN.out; omega)⟩
            obtain ⟨b1, o1, hA1, hbB1, p0⟩ := (HRI.out.below hB2) j x hx
            obtain ⟨b2, o2, hA2, hbB2, q0⟩ := (HRX.out.below hB2) j x hx
            subst hA1 hA2
            have hjt' : (j : Int) < (n : Int) := by omega
            have hj0 : (0 : Int) ≤ (j : Int) := by omega
            have hx1 := blk_keep HX1.out hB2
            have hc1 := fun i => cell_of_row _ (w.heap.size + 1) i _ _ _ hx1
            clear hx hx1
            go_wp2_with fail
            go_quiet (fail)
            go_wp2_with fail
            go_roundw
            case rel => exact ⟨j + 1, by omega, by go_num, below_drewN hB2 _⟩
            case measure => simp [intOf]; omega
          · have hjn : j = n := by omega
            subst hjn
            have hBB := hide (HB.out.trans (hB2.mono HB.out.size))
            go_wp2_with (first | (go_at_call 10; refine (works_any _).mono ?_; rintro e w20 ⟨rfl, hb20⟩))
            go_ret
            exact ⟨rfl, hBB.out.trans (hb20.mono hBB.out.size)⟩

theorem playsLaw_any (f : M.Fm) (first : Int) (A : Option Addr) (n c : Nat) (xs : List Int) (w : World) (hn : xs.length = n) (hr : RdI w w.heap.size A xs) (hA : A = none → c = 0) :
    Calls Try.prog 3 #[.agg #[.int .i64 f.sets, .int .i64 f.games, .bool f.noAd, .int .i64 f.tie, .int .i64 f.to, .int .i64 f.lastTie, .int .i64 f.lastTo, .int .i64 f.first, .int .i64 f.next, .bool f.doubles], .agg #[.int .i64 first, .slice A n c]] w fun e w' => e = .returned (.bool true) ∧ Below w.heap.size w w' := by
  by_cases h : n ≤ 700
  · exact playsLaw_some f first A n c xs w hn hr hA h
  · exact playsLaw_long f first A n c w (by omega)

end Go.Proofs.Ytbjmnlhehkcakaa

namespace Go.Proofs.Ytbjmnlhehkcakaa
open Go.ChangeShapes Go.WideShapes Go.ChangeAt Go.RowKit Go.Deep Go.Joins

theorem Try.ownScorePlays : ownKnob Try.prog.godebug = none := by kernel_rfl

set_option maxRecDepth 100000 in
theorem scorePlays_call (H : Type) (enc : TypeId × Value → H) (W : World) (base : Nat) (args : Array Value) (ds : List (DataW H)) (p : List MemPlace) (hval : ∀ (j : Nat) t v, Try.f3.params[j]? = some t → args[j]? = some v → Value.okWide Try.prog W .any base t v)
    (hA : DataW.TrodAll enc Try.prog W 0 (fun _ => true) true Try.f3.params.toList args.toList ds p) : Calls Try.prog 3 args W fun e W' => e = .returned (.bool true) ∧ Below W.heap.size W W' := by
  rw [Try.params3] at hA hval
  obtain ⟨v0, v1, d0, d1, p0, p1, rfl, rfl, rfl, h0, h1⟩ := trodAll_two hA
  obtain ⟨f, rfl⟩ := open_fmt (hval 0 23 v0 rfl rfl) h0
  obtain ⟨first, A, n, c, xs, rfl, hwf, hnc, hcm, hn, hr, hxw, hA0⟩ := open_points (hval 1 26 v1 rfl rfl) h1
  exact playsLaw_any f first A n c xs W hn hr hA0

set_option maxRecDepth 100000 in
theorem ScorePlays_holds : Rows.ScorePlaysSaid :=
  OpenClaim.holds_of_wide (p := Try.pinned) (s := Rows.scorePlaysSpec) (c := Rows.scorePlaysRow) 3 Try.f3 rfl rfl rfl rfl rfl rfl rfl ⟨rfl, rfl, rfl, rfl, rfl⟩ rfl rfl rfl rfl rfl (by kernel_rfl) Try.func3 (by kernel_rfl)
    (of_decide_eq_true (by kernel_rfl)) (by unfold Func.isWrapper; first | (rw [if_pos (by decide +kernel)]; kernel_rfl) | (rw [if_neg (by decide +kernel)]; exact ⟨rfl, rfl⟩))
    (fun os started H enc _ => law_lift (C := Try.checked) (F := 3) (fn := Try.f3) (s := Rows.scorePlaysSpec) (bt := 4) started Try.ownScorePlays (by kernel_rfl) Try.func3 (by kernel_rfl) Try.underlying4 rfl laidOut (of_decide_eq_true (by kernel_rfl))
      (fun ds hds => match ds, hds with | [_, _], _ => rfl)
      (ChangeSpec.witness6 (enc := enc) (C := Try.checked) false ⟨#[], #[.agg #[.int .i64 0, .int .i64 0, .bool false, .int .i64 0, .int .i64 0, .int .i64 0, .int .i64 0, .int .i64 0, .int .i64 0, .bool false], .agg #[.int .i64 0, .slice none 0 0]], []⟩ 8 (by kernel_rfl) (by kernel_rfl) (by kernel_rfl) (by kernel_rfl))
      (fun W base args ds p hval hA _ => scorePlays_call H enc W base args ds p hval hA) _ _ _)

end Go.Proofs.Ytbjmnlhehkcakaa
