/-
  Contracts: play, where it answers an error before the first point.
-/
import Derived.Test.YtlhbimifhclojaaSetsWon
import Derived.Test.YtlhbimifhclojaaModel12
import Derived.Laws.Tables
import Derived.Deep.Cut
namespace Go.Proofs.Ytlhbimifhclojaa
open Go.RowKit
attribute [local go_sem ↓] Go.wp_at_zero Go.wp_at_succ

def PlayPost (f : M.Fm) (first : Int) (xs : List Int) (w : World) (e : Ending) (w' : World) : Prop :=
  ∃ sv gv, e = .returned (.tuple #[.agg #[.int .i64 (M.playM f first xs).f.sets, .int .i64 (M.playM f first xs).f.games, .bool (M.playM f first xs).f.noAd, .int .i64 (M.playM f first xs).f.tie, .int .i64 (M.playM f first xs).f.to, .int .i64 (M.playM f first xs).f.lastTie, .int .i64 (M.playM f first xs).f.lastTo, .int .i64 (M.playM f first xs).f.first, .int .i64 (M.playM f first xs).f.next, .bool (M.playM f first xs).f.doubles, sv, .int .i64 (M.playM f first xs).games.A, .int .i64 (M.playM f first xs).games.B, .int .i64 (M.playM f first xs).pts.A, .int .i64 (M.playM f first xs).pts.B, .int .i64 (M.playM f first xs).server, .int .i64 (M.playM f first xs).ends, .int .i64 (M.playM f first xs).balls, .int .i64 (M.playM f first xs).winner, .int .i64 (M.playM f first xs).opens, .int .i64 (M.playM f first xs).won.A, .int .i64 (M.playM f first xs).won.B, .bool (M.playM f first xs).fresh, gv], .int .i64 (M.playE f first xs)]) ∧ w'.ownsRow w.heap.size 32 2 sv (M.playM f first xs).sets.length (flatP (M.playM f first xs).sets) ∧ w'.ownsRow w.heap.size 44 7 gv (M.playM f first xs).log.length (flatG (M.playM f first xs).log) ∧ Below w.heap.size w w'

theorem PlayPost.no {f : M.Fm} {first : Int} {xs : List Int} {w w' : World} {n : Int} (hm : M.playM f first xs = M.noM) (he : M.playE f first xs = n) (hb : Below w.heap.size w w') :
    PlayPost f first xs w (.returned (.tuple #[.agg #[.int .i64 0, .int .i64 0, .bool false, .int .i64 0, .int .i64 0, .int .i64 0, .int .i64 0, .int .i64 0, .int .i64 0, .bool false, .slice none 0 0, .int .i64 0, .int .i64 0, .int .i64 0, .int .i64 0, .int .i64 0, .int .i64 0, .int .i64 0, .int .i64 0, .int .i64 0, .int .i64 0, .int .i64 0, .bool false, .slice none 0 0], .int .i64 n])) w' := by
  refine ⟨.slice none 0 0, .slice none 0 0, ?_, ?_, ?_, hb⟩
  · rw [hm, he]; rfl
  · rw [hm]; exact World.ownsRow_nil _ _ _ _
  · rw [hm]; exact World.ownsRow_nil _ _ _ _

theorem results_row_tmp {P : Program} {fn : Func} {p t : Tmp} {ty : TypeId} (h : fn.results = #[.cell p ty, .tmp t]) (tmps : Array Value) (w : World) (g : Nat) (t0 : TypeId) (cs : Array Value) (fr : Nat × Nat) (d : TypeDesc)
    (hp : tmps.getD p undef = .pointer (some ⟨g, 0, none⟩)) (hg : w.heap[g]? = some (.cells cs t0 fr))
    (hu : P.underlying ty = some d) (hd : (match d with | .struct _ | .array _ _ => true | _ => false) = true) (hi : (P.info? ty).map (·.size) = some cs.size) :
    (results fn tmps).run P w = .ok (.tuple #[.agg cs, tmps.getD t undef]) w := by
  have hp' : tmps[p]?.getD undef = .pointer (some ⟨g, 0, none⟩) := by simpa using hp
  simp [results, h, hp', asAddr, run_loadVar_row w g t0 ty cs fr d hg hu hd hi]
theorem matchRow : (Try.prog.info? 71).map (·.size) = some 24 := by kernel_rfl
theorem matchDesc : (match Try.prog.underlying 71 with | some (.struct _) | some (.array _ _) => true | _ => false) = true := by kernel_rfl
theorem store_zero {ops : Array Oper} {rest : List Oper} {o : Oper} {a : Act} {w : World} {Q : Exit → Act → World → Prop} (hgd : o.guard = none) (x y : Operand) (ho : o.op = .store 71 x y)
    (g : Nat) (hx : a.eval x = .pointer (some ⟨g, 0, none⟩)) (hy : a.eval y = .agg #[.int .i64 0, .int .i64 0, .bool false, .int .i64 0, .int .i64 0, .int .i64 0, .int .i64 0, .int .i64 0, .int .i64 0, .bool false, .slice none 0 0, .int .i64 0, .int .i64 0, .int .i64 0, .int .i64 0, .int .i64 0, .int .i64 0, .int .i64 0, .int .i64 0, .int .i64 0, .int .i64 0, .int .i64 0, .bool false, .slice none 0 0]) (hg : w.heap[g]? = some (.cells #[.int .i64 0, .int .i64 0, .bool false, .int .i64 0, .int .i64 0, .int .i64 0, .int .i64 0, .int .i64 0, .int .i64 0, .bool false, .slice none 0 0, .int .i64 0, .int .i64 0, .int .i64 0, .int .i64 0, .int .i64 0, .int .i64 0, .int .i64 0, .int .i64 0, .int .i64 0, .int .i64 0, .int .i64 0, .bool false, .slice none 0 0] 71 (0, 0)))
    (h : wpList Try.prog ops Q rest (a.put o.dst undef) w) : wpList Try.prog ops Q (o :: rest) a w := by
  refine wpList_store_row hgd 71 x y ho g _ hx hy 71 _ hg matchRow rfl (by simp [Value.oneCell']) ?_
  rw [setRow_self _ _ _ _ _ hg]
  exact h


set_option maxHeartbeats 1000000 in
theorem play_no0 (f : M.Fm) (first : Int) (A : Option Addr) (n c : Nat) (xs : List Int) (w : World) (hn : xs.length = n) (hm : n ≤ 1000000) (hv : M.validB f = false) :
    Calls Try.prog 37 #[.agg #[.int .i64 f.sets, .int .i64 f.games, .bool f.noAd, .int .i64 f.tie, .int .i64 f.to, .int .i64 f.lastTie, .int .i64 f.lastTo, .int .i64 f.first, .int .i64 f.next, .bool f.doubles], .int .i64 first, .slice A n c] w fun e w' => PlayPost f first xs w e w' := by
  have h1 : M.playE f first xs = 10 := if_neg (by simp [hv])
  have h2 : M.playM f first xs = M.noM := if_neg (by simp [hv])
  have H1 := hide h1
  have H2 := hide h2
  clear h1 h2
  go_enter Try.func37, Try.ntmps37
  go_wp2_with (first | (go_at_call 10; refine (Check_bad f _ hv).mono ?_; rintro e w1 ⟨rfl, hb1⟩; have h71 : w1.heap[w.heap.size + 1]? = some (.cells #[.int .i64 0, .int .i64 0, .bool false, .int .i64 0, .int .i64 0, .int .i64 0, .int .i64 0, .int .i64 0, .int .i64 0, .bool false, .slice none 0 0, .int .i64 0, .int .i64 0, .int .i64 0, .int .i64 0, .int .i64 0, .int .i64 0, .int .i64 0, .int .i64 0, .int .i64 0, .int .i64 0, .int .i64 0, .bool false, .slice none 0 0] 71 (0, 0)) := (hb1.block _ (by simp)).trans (heap_alloc2_new w _ _); have HB := hide (show Below w.heap.size w w1 from Below.trans (by (repeat' first | exact Below.refl _ _ | assumption | refine Below.drew ?_ | refine Below.alloc ?_ ?_ _ | refine Below.setCell ?_ ?_ _ | refine Below.trans ?_ (Below.mono (by assumption) ?_) | (simp; done) | (simp; omega) | omega)) (hb1.mono (by simp; omega))); clear hb1) | (refine store_zero rfl _ _ rfl (w.heap.size + 1) rfl rfl h71 ?_))
  refine bodyPost_ret (v := .tuple #[.agg #[.int .i64 0, .int .i64 0, .bool false, .int .i64 0, .int .i64 0, .int .i64 0, .int .i64 0, .int .i64 0, .int .i64 0, .bool false, .slice none 0 0, .int .i64 0, .int .i64 0, .int .i64 0, .int .i64 0, .int .i64 0, .int .i64 0, .int .i64 0, .int .i64 0, .int .i64 0, .int .i64 0, .int .i64 0, .bool false, .slice none 0 0], .int .i64 10]) (results_row_tmp Try.results37 _ _ (w.heap.size + 1) _ _ _ _ rfl h71 Try.underlying71 rfl matchRow) rfl ?_
  exact PlayPost.no H2.out H1.out HB.out

set_option maxHeartbeats 1000000 in
theorem play_no1 (f : M.Fm) (first : Int) (A : Option Addr) (n c : Nat) (xs : List Int) (w : World) (hn : xs.length = n) (hm : n ≤ 1000000) (hv : M.validB f = true) (hf : M.within first 0 1 = false) :
    Calls Try.prog 37 #[.agg #[.int .i64 f.sets, .int .i64 f.games, .bool f.noAd, .int .i64 f.tie, .int .i64 f.to, .int .i64 f.lastTie, .int .i64 f.lastTo, .int .i64 f.first, .int .i64 f.next, .bool f.doubles], .int .i64 first, .slice A n c] w fun e w' => PlayPost f first xs w e w' := by
  have h1 : M.playE f first xs = 1 := (if_pos hv).trans (if_neg (by simp [hf]))
  have h2 : M.playM f first xs = M.noM := (if_pos hv).trans (if_neg (by simp [hf]))
  have H1 := hide h1
  have H2 := hide h2
  clear h1 h2
  have e0 : (first != 0) = true := by simp [M.within] at hf; simp; omega
  have e1 : (first != 1) = true := by simp [M.within] at hf; simp; omega
  go_enter Try.func37, Try.ntmps37
  go_wp2_with (first | (go_at_call 10; refine (Check_good f _ hv).mono ?_; rintro e w1 ⟨rfl, hb1⟩; have h71 : w1.heap[w.heap.size + 1]? = some (.cells #[.int .i64 0, .int .i64 0, .bool false, .int .i64 0, .int .i64 0, .int .i64 0, .int .i64 0, .int .i64 0, .int .i64 0, .bool false, .slice none 0 0, .int .i64 0, .int .i64 0, .int .i64 0, .int .i64 0, .int .i64 0, .int .i64 0, .int .i64 0, .int .i64 0, .int .i64 0, .int .i64 0, .int .i64 0, .bool false, .slice none 0 0] 71 (0, 0)) := (hb1.block _ (by simp)).trans (heap_alloc2_new w _ _); have HB := hide (show Below w.heap.size w w1 from Below.trans (by (repeat' first | exact Below.refl _ _ | assumption | refine Below.drew ?_ | refine Below.alloc ?_ ?_ _ | refine Below.setCell ?_ ?_ _ | refine Below.trans ?_ (Below.mono (by assumption) ?_) | (simp; done) | (simp; omega) | omega)) (hb1.mono (by simp; omega))); clear hb1) | (refine store_zero rfl _ _ rfl (w.heap.size + 1) rfl rfl h71 ?_))
  refine bodyPost_ret (v := .tuple #[.agg #[.int .i64 0, .int .i64 0, .bool false, .int .i64 0, .int .i64 0, .int .i64 0, .int .i64 0, .int .i64 0, .int .i64 0, .bool false, .slice none 0 0, .int .i64 0, .int .i64 0, .int .i64 0, .int .i64 0, .int .i64 0, .int .i64 0, .int .i64 0, .int .i64 0, .int .i64 0, .int .i64 0, .int .i64 0, .bool false, .slice none 0 0], .int .i64 1]) (results_row_tmp Try.results37 _ _ (w.heap.size + 1) _ _ _ _ rfl h71 Try.underlying71 rfl matchRow) rfl ?_
  exact PlayPost.no H2.out H1.out HB.out

set_option maxHeartbeats 1000000 in
theorem play_no2 (f : M.Fm) (first : Int) (A : Option Addr) (n c : Nat) (xs : List Int) (w : World) (hn : xs.length = n) (hm : n ≤ 1000000) (hv : M.validB f = true) (hf : M.within first 0 1 = true) (hl : 600 < n) :
    Calls Try.prog 37 #[.agg #[.int .i64 f.sets, .int .i64 f.games, .bool f.noAd, .int .i64 f.tie, .int .i64 f.to, .int .i64 f.lastTie, .int .i64 f.lastTo, .int .i64 f.first, .int .i64 f.next, .bool f.doubles], .int .i64 first, .slice A n c] w fun e w' => PlayPost f first xs w e w' := by
  have h1 : M.playE f first xs = 2 := (if_pos hv).trans ((if_pos hf).trans (if_pos (by omega)))
  have h2 : M.playM f first xs = M.noM := (if_pos hv).trans ((if_pos hf).trans (if_pos (by omega)))
  have H1 := hide h1
  have H2 := hide h2
  clear h1 h2
  have hl2 : (600 : Int) < (n : Int) := by omega
  have hff : first = 0 ∨ first = 1 := by simp [M.within] at hf; omega
  clear hf
  rcases hff with e | e
  all_goals
    subst e
    go_enter Try.func37, Try.ntmps37
    go_wp2_with (first | (go_at_call 10; refine (Check_good f _ hv).mono ?_; rintro e w1 ⟨rfl, hb1⟩; have h71 : w1.heap[w.heap.size + 1]? = some (.cells #[.int .i64 0, .int .i64 0, .bool false, .int .i64 0, .int .i64 0, .int .i64 0, .int .i64 0, .int .i64 0, .int .i64 0, .bool false, .slice none 0 0, .int .i64 0, .int .i64 0, .int .i64 0, .int .i64 0, .int .i64 0, .int .i64 0, .int .i64 0, .int .i64 0, .int .i64 0, .int .i64 0, .int .i64 0, .bool false, .slice none 0 0] 71 (0, 0)) := (hb1.block _ (by simp)).trans (heap_alloc2_new w _ _); have HB := hide (show Below w.heap.size w w1 from Below.trans (by (repeat' first | exact Below.refl _ _ | assumption | refine Below.drew ?_ | refine Below.alloc ?_ ?_ _ | refine Below.setCell ?_ ?_ _ | refine Below.trans ?_ (Below.mono (by assumption) ?_) | (simp; done) | (simp; omega) | omega)) (hb1.mono (by simp; omega))); clear hb1) | (refine store_zero rfl _ _ rfl (w.heap.size + 1) rfl rfl h71 ?_))
    refine bodyPost_ret (v := .tuple #[.agg #[.int .i64 0, .int .i64 0, .bool false, .int .i64 0, .int .i64 0, .int .i64 0, .int .i64 0, .int .i64 0, .int .i64 0, .bool false, .slice none 0 0, .int .i64 0, .int .i64 0, .int .i64 0, .int .i64 0, .int .i64 0, .int .i64 0, .int .i64 0, .int .i64 0, .int .i64 0, .int .i64 0, .int .i64 0, .bool false, .slice none 0 0], .int .i64 2]) (results_row_tmp Try.results37 _ _ (w.heap.size + 1) _ _ _ _ rfl h71 Try.underlying71 rfl matchRow) rfl ?_
    exact PlayPost.no H2.out H1.out HB.out
end Go.Proofs.Ytlhbimifhclojaa
