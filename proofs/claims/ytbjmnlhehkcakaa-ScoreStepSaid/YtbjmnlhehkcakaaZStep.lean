/-
  For every format, every first server, every slice of points and every further point the law ScoreStep returns true and leaves its arguments as they were. No condition.
-/
import Derived.Deep.CutRange
import Derived.SizedLaws
import Derived.Test.YtbjmnlhehkcakaaZB01
import Derived.Test.YtbjmnlhehkcakaaZB08
import Derived.Test.YtbjmnlhehkcakaaZB11
import Derived.Test.YtbjmnlhehkcakaaZB12
import Derived.Test.YtbjmnlhehkcakaaZB15
namespace Go.Proofs.Ytbjmnlhehkcakaa
open Go.RowKit
attribute [local go_sem ↓] Go.wp_at_zero Go.wp_at_succ run_eql_pair run_neq_pair

set_option maxHeartbeats 4000000 in
theorem sameSets_any (A1 A2 : Option Addr) (n1 n2 c1 c2 : Nat) (ps qs : List M.Pr) (w : World) (hn1 : ps.length = n1) (hn2 : qs.length = n2) (hr1 : RdP w w.heap.size A1 ps) (hr2 : RdP w w.heap.size A2 qs) (hm : n1 ≤ 1000000) (hm2 : n2 ≤ 1000000) :
    Calls Try.prog 25 #[.slice A1 n1 c1, .slice A2 n2 c2] w fun e w' => e = .returned (.bool (decide (ps = qs))) ∧ Below w.heap.size w w' := by
  have HN1 := hide hn1
  have HN2 := hide hn2
  have HR1 := hide hr1
  have HR2 := hide hr2
  clear hn1 hn2 hr1 hr2
  cases hl : ((n1 : Int) != (n2 : Int))
  · obtain rfl : n1 = n2 := by simp at hl; omega
    go_enter Try.func25, Try.ntmps25
    go_wp2_with fail
    go_loopw [5] (fun i wr => ∃ k : Nat, k ≤ n1 ∧ i = .int .i64 k ∧ Hid (ps.take k = qs.take k) ∧ Below w.heap.size w wr) (fun i _ => n1 - (intOf i).toNat)
    case atStart => exact ⟨0, by omega, rfl, hide rfl, by (repeat' first | exact zbR _ _ | assumption | refine zbD ?_ | refine zbA ?_ ?_ _ | refine zbS ?_ ?_ _ | refine zbT ?_ (by assumption) ?_ | (simp; done) | (simp; omega) | omega)⟩
    case round =>
      obtain ⟨k, hk, rfl, hno, hB⟩ := hrel
      by_cases hlt : k < n1
      · obtain ⟨p, hp'⟩ : ∃ q, ps[k]? = some q := ⟨_, List.getElem?_eq_getElem (by have := HN1.out; omega)⟩
        obtain ⟨q, hq'⟩ : ∃ q, qs[k]? = some q := ⟨_, List.getElem?_eq_getElem (by have := HN2.out; omega)⟩
        obtain ⟨b, o, hA, hbB, c0, c1'⟩ := (HR1.out.below hB) k p hp'
        obtain ⟨b2, o2, hA2, hbB2, d0, d1⟩ := (HR2.out.below hB) k q hq'
        subst hA hA2
        have HP := hide hp'
        have HQ := hide hq'
        clear hp' hq'
        have hlt' : (k : Int) < (n1 : Int) := by omega
        have hk0 : (0 : Int) ≤ (k : Int) := by omega
        cases he : (p.A == q.A && p.B == q.B)
        · have hne : ps ≠ qs := take_diff HP.out HQ.out (by rw [pr_eq] at he; simpa using he)
          have hd : decide (ps = qs) = false := decide_eq_false hne
          have HDD := hide hd
          clear hne hd
          go_wp2_with fail
          go_quiet (fail)
          go_wp2_with fail
          go_ret
          exact ⟨by rw [HDD.out]; rfl, below_drewN hB _⟩
        · have HT := hide (take_next hno.out HP.out HQ.out (by rw [pr_eq] at he; simpa using he))
          go_wp2_with fail
          go_quiet (fail)
          go_wp2_with fail
          go_roundw
          case rel => exact ⟨k + 1, by omega, by go_num, HT, below_drewN hB _⟩
          case measure => simp [intOf]; omega
      · have hkn : k = n1 := by omega
        have hall : ps = qs := by
          have := hno.out
          rwa [List.take_of_length_le (by have := HN1.out; omega), List.take_of_length_le (by have := HN2.out; omega)] at this
        have hd : decide (ps = qs) = true := decide_eq_true hall
        have HDD := hide hd
        clear hall hd
        subst hkn
        go_wp2_with fail
        go_ret
        exact ⟨by rw [HDD.out]; rfl, hB⟩
  · have ho : decide (ps = qs) = false := decide_eq_false (by rintro rfl; have h1 := HN1.out; have h2 := HN2.out; simp at hl; omega)
    rw [ho]; clear ho
    go_enter Try.func25, Try.ntmps25
    go_wp2_with fail
    go_ret
    exact ⟨rfl, by (repeat' first | exact zbR _ _ | assumption | refine zbD ?_ | refine zbA ?_ ?_ _ | refine zbS ?_ ?_ _ | refine zbT ?_ (by assumption) ?_ | (simp; done) | (simp; omega) | omega)⟩

end Go.Proofs.Ytbjmnlhehkcakaa

namespace Go.Proofs.Ytbjmnlhehkcakaa
open Go.RowKit

theorem run_app_more {w : World} (ty : TypeId) (base : Nat) (v : Value) (ps : List Int) (m0 : Nat) (hown : w.ownsRow base 3 1 v m0 (flatI ps))
    (A : Option Addr) (n c : Nat) (xs : List Int) (hn : xs.length = n) (hr : RdI w w.heap.size A xs) (hA : A = none → c = 0) (h1 : (m0 + n) * 8 ≤ 140737488355328) (hbase : base ≤ w.heap.size) :
    ∃ A' c' w', (Builtin.append_ #[24, 24] ty #[v, .slice A n c]).run Try.prog w = .ok (.slice A' (m0 + n) c') w' ∧ w'.ownsRow base 3 1 (.slice A' (m0 + n) c') (m0 + n) (flatI (ps ++ xs)) ∧ w.grownBy w' v.ownBlock := by
  obtain ⟨i, hi, hz0, hz1, hz2⟩ := info_parts int_info
  rcases A with _ | ad
  · have hx0 : xs = [] := hr.none
    subst hx0
    have hn0 : n = 0 := by simpa using hn.symm
    subst hn0
    have hc0 := hA rfl
    subst hc0
    obtain ⟨A', c', rfl⟩ := own_form hown
    have hrun := run_append_owned_none (P := Try.prog) (w := w) base 24 ty 3 i 1 Try.underlying24 hi (.slice A' m0 c') m0 (flatI ps) hown
    exact ⟨A', c', w, hrun, by simpa using hown, World.grownBy.refl w _⟩
  · obtain ⟨v', w', hrun, h2, h3, _, _⟩ := run_append_own_at (P := Try.prog) w base 24 ty 3 i _ 1 8 Try.underlying24 hi hz0 hz1 hz2 (by rfl) (by decide) v m0 (flatI ps) hown ad n c (flatI xs) (by rw [flatI_length]; omega) (by
      intro j u hj
      obtain ⟨y, hk⟩ : ∃ y, xs[j]? = some y := by
        have hjl : j < (flatI xs).length := (List.getElem?_eq_some_iff.1 hj).1
        rw [flatI_length] at hjl
        exact ⟨_, List.getElem?_eq_getElem hjl⟩
      rw [flatI_at hk] at hj
      have hj' := Option.some.inj hj
      subst hj'
      obtain ⟨b, o2, e, _, c0⟩ := hr j y hk
      have e' := Option.some.inj e
      subst e'
      rw [add_plain]
      exact c0) (flatI_one xs) (by unfold maxLen; omega) h1 hbase
    obtain ⟨A', c', rfl⟩ := own_form h2
    exact ⟨A', c', w', hrun, by rw [flatI_app]; exact h2, h3⟩
theorem step_app_more {w : World} {ops : Array Oper} {o : Oper} {a : Act} {K : Act → World → Prop} {Q : Exit → Act → World → Prop} {E : Prop} (hgd : o.guard = none) (s x : Operand)
    (ho : o.op = .call { callee := .builtin .append, args := #[s, x], argTypes := #[24, 24] }) (base : Nat) (v : Value) (ps : List Int) (m0 : Nat) (hs : a.eval s = v) (hown : w.ownsRow base 3 1 v m0 (flatI ps))
    (A : Option Addr) (n c : Nat) (xs : List Int) (hx : a.eval x = .slice A n c) (hn : xs.length = n) (hr : RdI w w.heap.size A xs) (hA : A = none → c = 0) (N : Nat) (hN : m0 + n = N) (h1 : N * 8 ≤ 140737488355328) (hbase : base ≤ w.heap.size)
    (h : ∀ A' c' w', w'.ownsRow base 3 1 (.slice A' N c') N (flatI (ps ++ xs)) → w.grownBy w' v.ownBlock → K (a.put o.dst (.slice A' N c')) w') :
    if Region.wanted o (yielded ops a.tmps) = true then Oper.wp Try.prog o a w K Q else E := by
  subst hN
  have hw : Region.wanted o (yielded ops a.tmps) = true := by simp [Region.wanted, hgd]
  rw [if_pos hw]
  obtain ⟨A', c', w', hr', h2, h3⟩ := run_app_more o.type base v ps m0 hown A n c xs hn hr hA h1 hbase
  unfold Oper.wp execOp
  simp only [ho, resolve, invoke, builtin, Sem.run_bind, Sem.run_pure, Result.andThen_ok, List.map_toArray, List.map_cons, List.map_nil, hs, hx, hr']
  exact h A' c' w' h2 h3
theorem step_store_row {P : Program} {w : World} {ops : Array Oper} {o : Oper} {a : Act} {K : Act → World → Prop} {Q : Exit → Act → World → Prop} {E : Prop} (hgd : o.guard = none) (ty : TypeId) (x y : Operand) (ho : o.op = .store ty x y)
    (g : Nat) (cells : Array Value) (hx : a.eval x = .pointer (some ⟨g, 0, none⟩)) (hy : a.eval y = .agg cells)
    (t : TypeId) (old : Array Value) (hg : w.heap[g]? = some (.cells old t (0, 0))) (hi : (P.info? ty).map (·.size) = some cells.size)
    (hold : old.size = cells.size) (h1 : cells.all (·.oneCell') = true)
    (h : K (a.put o.dst undef) (w.setRow g cells)) : if Region.wanted o (yielded ops a.tmps) = true then Oper.wp P o a w K Q else E := by
  have hw : Region.wanted o (yielded ops a.tmps) = true := by simp [Region.wanted, hgd]
  rw [if_pos hw]
  exact wp_store_row ty x y ho g cells hx hy t old hg hi hold h1 h
theorem owns_none_int {w : World} {q B : Nat} (hq : w.heap[q]? = some (.cells #[] 3 (0, 0))) (h : B ≤ q) : w.ownsRow B 3 1 (.slice (some ⟨q, 0, none⟩) 0 0) 0 (flatI []) :=
  ⟨rfl, .inr ⟨q, 0, #[], rfl, h, hq, Nat.le_refl _, Nat.zero_le _, rfl, rfl⟩⟩
theorem rdI_blk {w : World} {q : Nat} {x : Int} (hq : w.heap[q]? = some (.cells #[.int .i64 x] 3 (0, 0))) : RdI w w.heap.size (some ⟨q, 0, none⟩) [x] := by
  intro k y hk
  match k, hk with
  | 0, hk =>
    have hy : x = y := Option.some.inj hk
    subst hy
    exact ⟨_, 0, rfl, blk_lt hq, (cell_of_row _ _ _ _ _ _ hq).trans rfl⟩
  | k + 1, hk => cases hk
theorem pointsRow : (Try.prog.info? 26).map (·.size) = some 2 := by kernel_rfl

theorem played_as (f : M.Fm) (first : Int) (A : Option Addr) (n c : Nat) (xs : List Int) (ss : List M.Pr) (gl : List M.Gm) (s1 n1 : Nat) (g p : M.Pr) (sv en ba wi : Int) (w : World) (he : M.playE f first xs = 0) (hs1 : ss.length = s1) (hn1 : gl.length = n1) (h1 : (M.playM f first xs).sets = ss) (h2 : (M.playM f first xs).log = gl) (h3 : (M.playM f first xs).games = g) (h4 : (M.playM f first xs).pts = p) (h5 : (M.playM f first xs).server = sv) (h6 : (M.playM f first xs).ends = en) (h7 : (M.playM f first xs).balls = ba) (h8 : (M.playM f first xs).winner = wi) (hn : xs.length = n) (hr : RdI w w.heap.size A xs) (hm : n ≤ 1000000) :
    Calls Try.prog 24 #[.agg #[.int .i64 f.sets, .int .i64 f.games, .bool f.noAd, .int .i64 f.tie, .int .i64 f.to, .int .i64 f.lastTie, .int .i64 f.lastTo, .int .i64 f.first, .int .i64 f.next, .bool f.doubles], .agg #[.int .i64 first, .slice A n c]] w fun e w' => ∃ B d G l, e = .returned (.tuple #[.agg #[.slice B s1 d, .int .i64 g.A, .int .i64 g.B, .int .i64 p.A, .int .i64 p.B, .int .i64 sv, .int .i64 en, .int .i64 ba, .int .i64 wi], .slice G n1 l, .bool true]) ∧
      s1 ≤ d ∧ d ≤ maxLen ∧ RdP w' w'.heap.size B ss ∧ RdG w' w'.heap.size G gl ∧ Below w.heap.size w w' := by
  subst h1 h2 h3 h4 h5 h6 h7 h8 hs1 hn1
  refine (played_any f first A n c xs w hn hr hm).mono ?_
  rintro e w' ⟨sv, gv, rfl, hsv, hgv, hb⟩
  obtain ⟨B, d, rfl⟩ := own_form hsv
  obtain ⟨G, l, rfl⟩ := own_form hgv
  have hd : (M.playM f first xs).sets.length ≤ d ∧ d ≤ maxLen := by
    rcases hsv.2 with ⟨e, h0⟩ | ⟨g, cap, cur, e, _, _, h1, h2, _⟩
    · simp only [Value.slice.injEq] at e; omega
    · simp only [Value.slice.injEq] at e; omega
  exact ⟨B, d, G, l, by rw [he]; rfl, hd.1, hd.2, owns_RdP hsv rfl, owns_RdG hgv rfl, hb⟩
theorem sum_val (a b s : Int) (w : World) (hs : a + b = s) (h : -1000000000 ≤ a ∧ a ≤ 1000000000 ∧ -1000000000 ≤ b ∧ b ≤ 1000000000) :
    Calls Try.prog 26 #[.agg #[.int .i64 a, .int .i64 b]] w fun e w' => e = .returned (.int .i64 s) ∧ Below w.heap.size w w' := by
  subst hs; exact sum_any ⟨a, b⟩ w h
theorem sameSets_same (A1 A2 : Option Addr) (n1 n2 c1 c2 : Nat) (ps : List M.Pr) (w : World) (hn1 : ps.length = n1) (hn2 : ps.length = n2) (hr1 : RdP w w.heap.size A1 ps) (hr2 : RdP w w.heap.size A2 ps) (hm : n1 ≤ 1000000) :
    Calls Try.prog 25 #[.slice A1 n1 c1, .slice A2 n2 c2] w fun e w' => e = .returned (.bool true) ∧ Below w.heap.size w w' := by
  have := sameSets_any A1 A2 n1 n2 c1 c2 ps ps w hn1 hn2 hr1 hr2 hm (by omega)
  rwa [decide_eq_true rfl] at this
theorem tV {P : Program} {md : Region.Mode} {l rest : List Oper} {Q : Exit → Act → World → Prop} {S : World → Prop} {oi : Oper} {fuel : Nat} {listed : Array Bool} {a : Act} {w : World} (v : Value) (i : Nat) (hi : l.drop i = oi :: rest)
    (hb : (Region.noSelect l.toArray && Region.free md l.toArray listed i && (Region.ready md l.toArray listed).contains i) = true)
    (hQ : ∀ c a w, Q (.panic c) (a.put oi.dst v) w → Q (.panic c) a w) (hw : Region.wanted oi (yielded l.toArray a.tmps) = true) (hS : S w) (hy : ∀ w, S w → (execOp a.eval oi).run P w = .ok (.value v) w)
    (h : wpAnyH P md l.toArray Q S fuel (listed.setIfInBounds i true) (a.put oi.dst v) w) : wpAnyH P md l.toArray Q S (fuel + 1) listed a w := tL i hi hb hQ (.inl ⟨hw, hy⟩) hS h
theorem kc {w w' : World} {B b o : Nat} {v : Option Value} (hb : Below B w w') (h : b < B) (k : w.cell? ⟨b, o, none⟩ = v) : w'.cell? ⟨b, o, none⟩ = v := (hb.cell (p := ⟨b, o, none⟩) h).trans k
theorem kl {w w' : World} {b : Nat} (h : b < w.heap.size) (hb : Below w.heap.size w w') : b < w'.heap.size := Nat.lt_of_lt_of_le h hb.size
theorem keep_of {S : World → Prop} (w : World) (hs : S w) (h : ∀ u u' : World, Below u.heap.size u u' → S u → S u') : (∀ u u' : World, Below u.heap.size u u' → S u → S u') ∧ S w := ⟨h, hs⟩
theorem M.plus_sum {p : M.Pr} {s : Int} (hs : s = 0 ∨ s = 1) : (M.plus p s).A + (M.plus p s).B = p.A + p.B + 1 := by
  rcases hs with rfl | rfl
  · show p.A + 1 + p.B = _; omega
  · show p.A + (p.B + 1) = _; omega

end Go.Proofs.Ytbjmnlhehkcakaa

namespace Go.Proofs.Ytbjmnlhehkcakaa
open Go.RowKit
attribute [local go_sem ↓] Go.wp_at_zero Go.wp_at_succ run_eql_pair run_neq_pair run_neq_game

set_option maxHeartbeats 8000000 in
set_option maxRecDepth 100000 in
theorem stepLaw_any (f : M.Fm) (first more : Int) (A : Option Addr) (n c : Nat) (xs : List Int) (w : World) (hn : xs.length = n) (hr : RdI w w.heap.size A xs) (hA : A = none → c = 0) (hbd : (n + 1) * 8 ≤ 140737488355328) :
    Calls Try.prog 5 #[.agg #[.int .i64 f.sets, .int .i64 f.games, .bool f.noAd, .int .i64 f.tie, .int .i64 f.to, .int .i64 f.lastTie, .int .i64 f.lastTo, .int .i64 f.first, .int .i64 f.next, .bool f.doubles], .agg #[.int .i64 first, .slice A n c], .int .i64 more] w fun e w' => e = .returned (.bool true) ∧ Below w.heap.size w w' := by
  have HN := hide hn
  have HR := hide hr
  have HA := hide hA
  clear hn hr hA
  go_enter Try.func5, Try.ntmps5
  go_upto_region 1 with fail
  have HB1 := hide (zbA (zbA (zbR w.heap.size w) (Nat.le_refl _) (.cells #[.int .i64 f.sets, .int .i64 f.games, .bool f.noAd, .int .i64 f.tie, .int .i64 f.to, .int .i64 f.lastTie, .int .i64 f.lastTo, .int .i64 f.first, .int .i64 f.next, .bool f.doubles] 23 (0, 0))) (by simp) (.cells #[.int .i64 first, .slice A n c] 26 (0, 0)))
  have HX0 := hide (heap_alloc2_old w (.cells #[.int .i64 f.sets, .int .i64 f.games, .bool f.noAd, .int .i64 f.tie, .int .i64 f.to, .int .i64 f.lastTie, .int .i64 f.lastTo, .int .i64 f.first, .int .i64 f.next, .bool f.doubles] 23 (0, 0)) (.cells #[.int .i64 first, .slice A n c] 26 (0, 0)))
  have HX1 := hide (heap_alloc2_new w (.cells #[.int .i64 f.sets, .int .i64 f.games, .bool f.noAd, .int .i64 f.tie, .int .i64 f.to, .int .i64 f.lastTie, .int .i64 f.lastTo, .int .i64 f.first, .int .i64 f.next, .bool f.doubles] 23 (0, 0)) (.cells #[.int .i64 first, .slice A n c] 26 (0, 0)))
  generalize (w.alloc (.cells #[.int .i64 f.sets, .int .i64 f.games, .bool f.noAd, .int .i64 f.tie, .int .i64 f.to, .int .i64 f.lastTie, .int .i64 f.lastTo, .int .i64 f.first, .int .i64 f.next, .bool f.doubles] 23 (0, 0))).alloc (.cells #[.int .i64 first, .slice A n c] 26 (0, 0)) = w1 at *
  have hz1 : w.heap.size + 1 < w1.heap.size := blk_lt HX1.out
  have HR1 := hide ((HR.out.below HB1.out).mono HB1.out.size)
  go_cut [7] from 16 to 25 (fun v7 wx => ∃ (q : Nat) (A2 : Option Addr) (c2 : Nat), v7 = .pointer (some ⟨q, 0, none⟩) ∧ Hid (Below w1.heap.size w1 wx) ∧ Hid (wx.heap[q]? = some (.cells #[.int .i64 first, .slice A2 (n + 1) c2] 26 (0, 0))) ∧ Hid (RdI wx wx.heap.size A2 (xs ++ [more])))
  case first =>
    have s0 : w1.cell? ⟨w.heap.size + 1, 0, none⟩ = some (.int .i64 first) := (cell_of_row _ _ _ _ _ _ HX1.out).trans rfl
    have s1 : w1.cell? ⟨w.heap.size + 1, 1, none⟩ = some (.slice A n c) := (cell_of_row _ _ _ _ _ _ HX1.out).trans rfl
    have hSof : ∀ u, Below w1.heap.size w1 u → u.cell? ⟨w.heap.size + 1, 0, none⟩ = some (.int .i64 first) ∧ u.cell? ⟨w.heap.size + 1, 1, none⟩ = some (.slice A n c) := fun u hb => ⟨(hb.cell (p := ⟨w.heap.size + 1, 0, none⟩) hz1).trans s0, (hb.cell (p := ⟨w.heap.size + 1, 1, none⟩) hz1).trans s1⟩
    clear s0 s1
    refine wp_region_held_drew (S := (fun w' => w'.cell? ⟨w.heap.size + 1, 0, none⟩ = some (.int .i64 first) ∧ w'.cell? ⟨w.heap.size + 1, 1, none⟩ = some (.slice A n c))) (by kernel_rfl) ?_ (fun hHeld => ?_)
    · exact hSof _ (zbD (zbR _ _))
    refine tV ?_ 0 rfl (by kernel_rfl) (fun _ _ _ h => h) (by rfl) (by assumption) ?_ ?_; rotate_left; (focus (intro w hSw; (try dsimp only at hSw); go_simp; try with_reducible rfl)); try simp only [Act.put, zl, z0, z1]
    refine tV ?_ 1 rfl (by kernel_rfl) (fun _ _ _ h => h) (by rfl) (by assumption) ?_ ?_; rotate_left; (focus (intro w hSw; (try dsimp only at hSw); go_simp; try with_reducible rfl)); try simp only [Act.put, zl, z0, z1]
    refine tV ?_ 3 rfl (by kernel_rfl) (fun _ _ _ h => h) (by rfl) (by assumption) ?_ ?_; rotate_left; (focus (intro w hSw; (try dsimp only at hSw); go_simp; try with_reducible rfl)); try simp only [Act.put, zl, z0, z1]
    refine tV ?_ 4 rfl (by kernel_rfl) (fun _ _ _ h => h) (by rfl) (by assumption) ?_ ?_; rotate_left; (focus (intro w hSw; (try dsimp only at hSw); go_simp; try with_reducible rfl)); try simp only [Act.put, zl, z0, z1]
    refine tV ?_ 6 rfl (by kernel_rfl) (fun _ _ _ h => h) (by rfl) (by assumption) ?_ ?_; rotate_left; (focus (intro w hSw; (try dsimp only at hSw); go_simp; try with_reducible rfl)); try simp only [Act.put, zl, z0, z1]
    
    have HB := hide (zbD (zbR w1.heap.size w1))
    generalize w1.drew = u at *
    iterate 6
      all_goals
        (first | (replace HO24 := HO24; replace HE7 := HE7; refine wpAnyH_ready (rs := [11]) (by kernel_rfl) (by simp) (consL 11 rfl (fun K hK => ?_) AllReadyH.nil)) | (replace HO24 := HO24; refine wpAnyH_ready (rs := [10]) (by kernel_rfl) (by simp) (consL 10 rfl (fun K hK => ?_) AllReadyH.nil)) | (replace HO21 := HO21; replace HE23 := HE23; replace HE7 := HE7; refine wpAnyH_ready (rs := [8]) (by kernel_rfl) (by simp) (consL 8 rfl (fun K hK => ?_) AllReadyH.nil)) | (replace HO21 := HO21; replace HE23 := HE23; refine wpAnyH_ready (rs := [8, 10]) (by kernel_rfl) (by simp) (consL 8 rfl (fun K hK => ?_) (consL 10 rfl (fun K hK => ?_) AllReadyH.nil))) | (replace HO21 := HO21; replace HE7 := HE7; refine wpAnyH_ready (rs := [7]) (by kernel_rfl) (by simp) (consL 7 rfl (fun K hK => ?_) AllReadyH.nil)) | (replace HE18 := HE18; replace HE23 := HE23; replace HE7 := HE7; refine wpAnyH_ready (rs := [5]) (by kernel_rfl) (by simp) (consL 5 rfl (fun K hK => ?_) AllReadyH.nil)) | (replace HO21 := HO21; refine wpAnyH_ready (rs := [7, 10]) (by kernel_rfl) (by simp) (consL 7 rfl (fun K hK => ?_) (consL 10 rfl (fun K hK => ?_) AllReadyH.nil))) | (replace HE18 := HE18; replace HE23 := HE23; refine wpAnyH_ready (rs := [5, 10]) (by kernel_rfl) (by simp) (consL 5 rfl (fun K hK => ?_) (consL 10 rfl (fun K hK => ?_) AllReadyH.nil))) | (replace HE18 := HE18; replace HE7 := HE7; refine wpAnyH_ready (rs := [5, 7]) (by kernel_rfl) (by simp) (consL 5 rfl (fun K hK => ?_) (consL 7 rfl (fun K hK => ?_) AllReadyH.nil))) | (replace HE23 := HE23; replace HE7 := HE7; refine wpAnyH_ready (rs := [2]) (by kernel_rfl) (by simp) (consL 2 rfl (fun K hK => ?_) AllReadyH.nil)) | (replace HE18 := HE18; refine wpAnyH_ready (rs := [5, 7, 10]) (by kernel_rfl) (by simp) (consL 5 rfl (fun K hK => ?_) (consL 7 rfl (fun K hK => ?_) (consL 10 rfl (fun K hK => ?_) AllReadyH.nil)))) | (replace HE23 := HE23; refine wpAnyH_ready (rs := [2, 10]) (by kernel_rfl) (by simp) (consL 2 rfl (fun K hK => ?_) (consL 10 rfl (fun K hK => ?_) AllReadyH.nil))) | (replace HE7 := HE7; refine wpAnyH_ready (rs := [2, 7]) (by kernel_rfl) (by simp) (consL 2 rfl (fun K hK => ?_) (consL 7 rfl (fun K hK => ?_) AllReadyH.nil))) | (refine wpAnyH_ready (rs := [2, 7, 10]) (by kernel_rfl) (by simp) (consL 2 rfl (fun K hK => ?_) (consL 7 rfl (fun K hK => ?_) (consL 10 rfl (fun K hK => ?_) AllReadyH.nil)))))
        all_goals
          first
            | (refine step_app_more rfl (.tmp 18) (.tmp 20) rfl w1.heap.size (.slice (some ⟨q18, 0, none⟩) 0 0) [] 0 rfl (owns_none_int HE18.out hq18) A n c xs rfl HN.out ((HR1.out.below HB.out).mono HB.out.size) HA.out n (Nat.zero_add n) (by omega) HB.out.size ?_; intro A1 c1 v hown hgrow; have hBn := HB.out.grown hgrow HB.out.size (fun k hk => by have h : q18 = k := Option.some.inj hk; omega); refine hK.out _ _ (hSof _ hBn) (fun hHeldn => ?_); clear hK K hHeld; (try simp only [Act.put, zl, z0, z1]); (try replace HE23 := hide ((hgrow.block q23 (blk_lt HE23.out) (fun e => hne23_18 (Option.some.inj e))).trans HE23.out)); (try replace HE7 := hide ((hgrow.block q7 (blk_lt HE7.out) (fun e => hne7_18 (Option.some.inj e))).trans HE7.out)); have HO21 := hide (show v.ownsRow w1.heap.size 3 1 (.slice A1 n c1) n (flatI xs) from hown); clear hown hgrow HE18; replace HB := hide hBn; have hHeld := hHeldn; clear hBn hHeldn; rename World => u)
            | (refine step_app_more rfl (.tmp 21) (.tmp 23) rfl w1.heap.size (.slice A1 n c1) xs n rfl HO21.out (some ⟨q23, 0, none⟩) 1 1 [more] rfl rfl (rdI_blk HE23.out) (fun e => by cases e) (n + 1) rfl (by omega) HB.out.size ?_; intro A2 c2 v hown hgrow; have hBn := HB.out.grown hgrow HB.out.size (fun k hk => (HO21.out.lt k hk).1); refine hK.out _ _ (hSof _ hBn) (fun hHeldn => ?_); clear hK K hHeld; (try simp only [Act.put, zl, z0, z1]); (try replace HE7 := hide ((hgrow.block q7 (blk_lt HE7.out) (Ne.symm (row_ne HO21.out HE7.out (by decide)))).trans HE7.out)); have HO24 := hide hown; clear hown hgrow HE23 HO21; replace HB := hide hBn; have hHeld := hHeldn; clear hBn hHeldn; rename World => u; (refine tL (v := ?_) 9 rfl (by kernel_rfl) (fun _ _ _ h => h) (Or.inl ⟨by rfl, ?_⟩) (by assumption) ?_; rotate_left; focus (intro w hSw; (try dsimp only at hSw); go_simp; try with_reducible rfl)); try simp only [Act.put, zl, z0, z1])
            | (refine step_store_row rfl 26 (.tmp 7) (.tmp 25) rfl q7 #[.int .i64 first, .slice A2 (n + 1) c2] rfl rfl 26 _ HE7.out pointsRow rfl (by simp [Value.oneCell']) ?_; refine hK.out _ _ (hSof _ (below_row HB.out hq7 _)) (fun hHeldn => ?_); clear hK K hHeld hHeldn; try simp only [Act.put, zl, z0, z1])
            | (go_simp; first | (have hbk := zbA (zbR u.heap.size u) (Nat.le_refl _) (.cells #[] 3 (0, 0)); have hBn := HB.out.trans (hbk.mono HB.out.size); refine hK.out _ _ (hSof _ hBn) (fun hHeldn => ?_); clear hK K hHeld; (try simp only [Act.put, zl, z0, z1]); (try have hne23_18 := Nat.ne_of_lt (blk_lt HE23.out)); (try have hne18_23 := Ne.symm hne23_18); (try replace HE23 := hide (blk_keep HE23.out hbk)); (try have hne7_18 := Nat.ne_of_lt (blk_lt HE7.out)); (try have hne18_7 := Ne.symm hne7_18); (try replace HE7 := hide (blk_keep HE7.out hbk)); (try replace HO21 := hide (owns_below HO21.out hbk)); (try replace HO24 := hide (owns_below HO24.out hbk)); have HE18 := hide (heap_alloc_new u (.cells #[] 3 (0, 0))); have hq18 := HB.out.size; clear hbk; replace HB := hide hBn; have hHeld := hHeldn; clear hBn hHeldn; generalize u.alloc (.cells #[] 3 (0, 0)) = v at *; generalize u.heap.size = q18 at *; rename World => u) | (have hbk := zbA (zbR u.heap.size u) (Nat.le_refl _) (.cells #[.int .i64 more] 3 (0, 0)); have hBn := HB.out.trans (hbk.mono HB.out.size); refine hK.out _ _ (hSof _ hBn) (fun hHeldn => ?_); clear hK K hHeld; (try simp only [Act.put, zl, z0, z1]); (try have hne18_23 := Nat.ne_of_lt (blk_lt HE18.out)); (try have hne23_18 := Ne.symm hne18_23); (try replace HE18 := hide (blk_keep HE18.out hbk)); (try have hne7_23 := Nat.ne_of_lt (blk_lt HE7.out)); (try have hne23_7 := Ne.symm hne7_23); (try replace HE7 := hide (blk_keep HE7.out hbk)); (try replace HO21 := hide (owns_below HO21.out hbk)); (try replace HO24 := hide (owns_below HO24.out hbk)); have HE23 := hide (heap_alloc_new u (.cells #[.int .i64 more] 3 (0, 0))); have hq23 := HB.out.size; clear hbk; replace HB := hide hBn; have hHeld := hHeldn; clear hBn hHeldn; generalize u.alloc (.cells #[.int .i64 more] 3 (0, 0)) = v at *; generalize u.heap.size = q23 at *; rename World => u) | (have hbk := zbA (zbR u.heap.size u) (Nat.le_refl _) (.cells #[.int .i64 0, .slice none 0 0] 26 (0, 0)); have hBn := HB.out.trans (hbk.mono HB.out.size); refine hK.out _ _ (hSof _ hBn) (fun hHeldn => ?_); clear hK K hHeld; (try simp only [Act.put, zl, z0, z1]); (try have hne18_7 := Nat.ne_of_lt (blk_lt HE18.out)); (try have hne7_18 := Ne.symm hne18_7); (try replace HE18 := hide (blk_keep HE18.out hbk)); (try have hne23_7 := Nat.ne_of_lt (blk_lt HE23.out)); (try have hne7_23 := Ne.symm hne23_7); (try replace HE23 := hide (blk_keep HE23.out hbk)); (try replace HO21 := hide (owns_below HO21.out hbk)); (try replace HO24 := hide (owns_below HO24.out hbk)); have HE7 := hide (heap_alloc_new u (.cells #[.int .i64 0, .slice none 0 0] 26 (0, 0))); have hq7 := HB.out.size; clear hbk; replace HB := hide hBn; have hHeld := hHeldn; clear hBn hHeldn; generalize u.alloc (.cells #[.int .i64 0, .slice none 0 0] 26 (0, 0)) = v at *; generalize u.heap.size = q7 at *; rename World => u))
    all_goals refine wpAnyH_done (by kernel_rfl) ?_ _
    all_goals
      have hb := below_row HB.out hq7 #[.int .i64 first, .slice A2 (n + 1) c2]
      have hE := setRow_heap _ _ #[.int .i64 0, .slice none 0 0] #[.int .i64 first, .slice A2 (n + 1) c2] _ _ HE7.out
      have hg : u.grownBy (u.setRow q7 #[.int .i64 first, .slice A2 (n + 1) c2]) (some q7) := ⟨rfl, rfl, rfl, by simp, fun k _ hk => setRow_other u _ k _ (fun e => hk (by rw [e]))⟩
      have hR := owns_RdI (HO24.out.kept hg (.inr (row_ne HO24.out HE7.out (by decide)))) (by rw [List.length_append, HN.out]; rfl)
      go_wp2_with fail
      go_meet
      exact ⟨q7, A2, c2, rfl, hide hb, hide hE, hide hR⟩
  case rest =>
    obtain ⟨q, A2, c2, rfl, HBc, HEc, HRc⟩ := hcut
    replace HX0 := hide (blk_keep HX0.out HBc.out)
    replace HX1 := hide (blk_keep HX1.out HBc.out)
    have HB := hide (HB1.out.trans (HBc.out.mono HB1.out.size))
    have HN2 : Hid ((xs ++ [more]).length = n + 1) := hide (by rw [List.length_append, HN.out]; rfl)
    have HM1 : Hid (n ≤ maxLen) := hide (by unfold maxLen; omega)
    have HM2 : Hid (n + 1 ≤ maxLen) := hide (by unfold maxLen; omega)
    clear HBc HB1 HR1 hz1 hbd HA
    have hc0 := fun i => cell_of_row wc w.heap.size i _ _ _ HX0.out
    have hc1 := fun i => cell_of_row wc (w.heap.size + 1) i _ _ _ HX1.out
    have hcq := fun i => cell_of_row wc q i _ _ _ HEc.out
    cases h1 : (M.playE f first xs == 0)
    · have H1 := hide h1
      clear h1
      go_wp2_with (first | (go_at_call 23; refine (ready_any f first _ _ _ _ _ (by first | exact HN.out | exact HN2.out) (by first | exact ((HR.out.below HB.out).mono HB.out.size) | exact HRc.out) (by first | exact HM1.out | exact HM2.out)).mono ?_; rintro e w3 ⟨rfl, hb⟩; (first | rw [H1.out] | rw [H2.out]); replace HX0 := hide (blk_keep HX0.out hb); replace HX1 := hide (blk_keep HX1.out hb); replace HEc := hide (blk_keep HEc.out hb); replace HRc := hide ((HRc.out.below hb).mono hb.size); replace HB := hide (HB.out.trans (hb.mono HB.out.size)); clear hb hc0 hc1 hcq; have hc0 := fun i => cell_of_row w3 w.heap.size i _ _ _ HX0.out; have hc1 := fun i => cell_of_row w3 (w.heap.size + 1) i _ _ _ HX1.out; have hcq := fun i => cell_of_row w3 q i _ _ _ HEc.out) | (go_at_call 10; refine (works_any _).mono ?_; rintro e w9 ⟨rfl, hb⟩; replace HB := hide (HB.out.trans (hb.mono HB.out.size))))
      go_ret
      exact ⟨rfl, HB.out⟩
    · have H1 := hide h1
      have he1 : M.playE f first xs = 0 := by simpa using h1
      clear h1
      cases h2 : (M.playE f first (xs ++ [more]) == 0)
      · have H2 := hide h2
        clear h2 he1
        go_wp2_with (first | (go_at_call 23; refine (ready_any f first _ _ _ _ _ (by first | exact HN.out | exact HN2.out) (by first | exact ((HR.out.below HB.out).mono HB.out.size) | exact HRc.out) (by first | exact HM1.out | exact HM2.out)).mono ?_; rintro e w3 ⟨rfl, hb⟩; (first | rw [H1.out] | rw [H2.out]); replace HX0 := hide (blk_keep HX0.out hb); replace HX1 := hide (blk_keep HX1.out hb); replace HEc := hide (blk_keep HEc.out hb); replace HRc := hide ((HRc.out.below hb).mono hb.size); replace HB := hide (HB.out.trans (hb.mono HB.out.size)); clear hb hc0 hc1 hcq; have hc0 := fun i => cell_of_row w3 w.heap.size i _ _ _ HX0.out; have hc1 := fun i => cell_of_row w3 (w.heap.size + 1) i _ _ _ HX1.out; have hcq := fun i => cell_of_row w3 q i _ _ _ HEc.out) | (go_at_call 10; refine (works_any _).mono ?_; rintro e w9 ⟨rfl, hb⟩; replace HB := hide (HB.out.trans (hb.mono HB.out.size))))
        go_ret
        exact ⟨rfl, HB.out⟩
      · have H2 := hide h2
        have he2 : M.playE f first (xs ++ [more]) = 0 := by simpa using h2
        clear h2
        have hle := (M.playE_ok he1).2.2.1
        have hle2 : n + 1 ≤ 600 := by have h := (M.playE_ok he2).2.2.1; rw [HN2.out] at h; exact h
        have hm6 : n ≤ 1000000 := by omega
        have hm7 : n + 1 ≤ 1000000 := by omega
        obtain ⟨hstep, _, hmore, hmw⟩ := M.play_step he1 he2
        have hok1 := M.playM_ok he1
        have hok2 := M.playM_ok he2
        obtain ⟨m, hmE⟩ : ∃ m, M.playM f first xs = m := ⟨_, rfl⟩
        obtain ⟨t, htE⟩ : ∃ t, M.playM f first (xs ++ [more]) = t := ⟨_, rfl⟩
        rw [hmE] at hstep hok1 hmw
        rw [htE] at hstep hok2
        obtain ⟨ls0, hls0⟩ : ∃ k, m.sets.length = k := ⟨_, rfl⟩
        obtain ⟨lg0, hlg0⟩ : ∃ k, m.log.length = k := ⟨_, rfl⟩
        obtain ⟨ls1, hls1⟩ : ∃ k, t.sets.length = k := ⟨_, rfl⟩
        obtain ⟨lg1, hlg1⟩ : ∃ k, t.log.length = k := ⟨_, rfl⟩
        obtain ⟨e0, e1, b0, b1, how⟩ := hstep
        have hlg : lg0 ≤ lg1 ∧ lg1 ≤ lg0 + 1 := by
          rcases how with ⟨h, _⟩ | ⟨gm, h, _⟩
          · rw [h] at hlg1; omega
          · rw [h, List.length_append, List.length_singleton] at hlg1; omega
        have HPRE : Hid (∀ j, j < lg0 → t.log[j]? = m.log[j]?) := hide (by
          intro j hj
          rcases how with ⟨h, _⟩ | ⟨gm, h, _⟩
          · rw [h]
          · rw [h, List.getElem?_append_left (by omega)])
        have hk1 := hok1.log
        have hk2 := hok1.sets
        have hgl0 : (lg0 : Int) ≤ (lg1 : Int) := by omega
        have hgl1 : (lg1 : Int) ≤ (lg0 : Int) + 1 := by omega
        obtain ⟨en0, en1⟩ := hok1.ends
        obtain ⟨bn0, bn1⟩ := hok1.balls
        have hw1 : IntKind.i64.wrap ((lg0 : Int) + 1) = (lg0 : Int) + 1 := IntWalk.i64_in _ (by omega)
        have hw2 : IntKind.i64.wrap (m.ends + 1) = m.ends + 1 := IntWalk.i64_in _ (by omega)
        have hw3 : IntKind.i64.wrap (m.balls + 1) = m.balls + 1 := IntWalk.i64_in _ (by omega)
        have HP1 := hide hok1.pts
        have HP2 := hide hok2.pts
        have HG1b := hide hok1.games
        have HG2b := hide hok2.games
        have HHOW := hide how
        have HMORE := hide hmore
        have HE1 := hide he1
        have HE2 := hide he2
        have HMW := hide hmw
        have HME := hide hmE
        have HTE := hide htE
        have HLS0 := hide hls0
        have HLG0 := hide hlg0
        have HLS1 := hide hls1
        have HLG1 := hide hlg1
        have hls6 : ls0 ≤ 600 := by omega
        have hlg6 : lg0 ≤ 600 := by omega
        clear how hmore he1 he2 hmw hmE htE hls0 hlg0 hls1 hlg1 hlg hok1 hok2 hk1 hk2 hle hle2
        go_upto_region 4 with (first | (go_at_call 23; refine (ready_any f first _ _ _ _ _ (by first | exact HN.out | exact HN2.out) (by first | exact ((HR.out.below HB.out).mono HB.out.size) | exact HRc.out) (by first | exact HM1.out | exact HM2.out)).mono ?_; rintro e w3 ⟨rfl, hb⟩; (first | rw [H1.out] | rw [H2.out]); replace HX0 := hide (blk_keep HX0.out hb); replace HX1 := hide (blk_keep HX1.out hb); replace HEc := hide (blk_keep HEc.out hb); replace HRc := hide ((HRc.out.below hb).mono hb.size); replace HB := hide (HB.out.trans (hb.mono HB.out.size)); clear hb hc0 hc1 hcq; have hc0 := fun i => cell_of_row w3 w.heap.size i _ _ _ HX0.out; have hc1 := fun i => cell_of_row w3 (w.heap.size + 1) i _ _ _ HX1.out; have hcq := fun i => cell_of_row w3 q i _ _ _ HEc.out))
        go_upto_region 5 with (first | (go_at_call 24; refine (played_as f first A n c xs m.sets m.log ls0 lg0 m.games m.pts m.server m.ends m.balls m.winner _ HE1.out HLS0.out HLG0.out (congrArg M.Mt.sets HME.out) (congrArg M.Mt.log HME.out) (congrArg M.Mt.games HME.out) (congrArg M.Mt.pts HME.out) (congrArg M.Mt.server HME.out) (congrArg M.Mt.ends HME.out) (congrArg M.Mt.balls HME.out) (congrArg M.Mt.winner HME.out) HN.out ((HR.out.below HB.out).mono HB.out.size) hm6).mono ?_; rintro e w5 ⟨B1, d1, G1, l1, rfl, _, _, hs, hg, hb⟩; replace HX0 := hide (blk_keep HX0.out hb); replace HX1 := hide (blk_keep HX1.out hb); replace HEc := hide (blk_keep HEc.out hb); replace HRc := hide ((HRc.out.below hb).mono hb.size); replace HB := hide (HB.out.trans (hb.mono HB.out.size)); clear hb hc0 hc1 hcq; have HS1 := hide hs; have HG1 := hide hg; clear hs hg))
        have hb := (Below.refl w5.heap.size w5).alloc (Nat.le_refl _) (.cells #[.slice B1 ls0 d1, .int .i64 m.games.A, .int .i64 m.games.B, .int .i64 m.pts.A, .int .i64 m.pts.B, .int .i64 m.server, .int .i64 m.ends, .int .i64 m.balls, .int .i64 m.winner] 36 (0, 0))
        have HN4 := hide (heap_alloc_new w5 (.cells #[.slice B1 ls0 d1, .int .i64 m.games.A, .int .i64 m.games.B, .int .i64 m.pts.A, .int .i64 m.pts.B, .int .i64 m.server, .int .i64 m.ends, .int .i64 m.balls, .int .i64 m.winner] 36 (0, 0)))
        replace HX0 := hide (blk_keep HX0.out hb)
        replace HX1 := hide (blk_keep HX1.out hb)
        replace HEc := hide (blk_keep HEc.out hb)
        replace HRc := hide ((HRc.out.below hb).mono hb.size)
        replace HB := hide (HB.out.trans (hb.mono HB.out.size))
        replace HS1 := hide ((HS1.out.below hb).mono hb.size)
        replace HG1 := hide ((HG1.out.below hb).mono hb.size)
        clear hb
        generalize w5.alloc (.cells #[.slice B1 ls0 d1, .int .i64 m.games.A, .int .i64 m.games.B, .int .i64 m.pts.A, .int .i64 m.pts.B, .int .i64 m.server, .int .i64 m.ends, .int .i64 m.balls, .int .i64 m.winner] 36 (0, 0)) = w6 at *
        generalize w5.heap.size = q4 at HN4 ⊢
        have hc0 := fun i => cell_of_row w6 w.heap.size i _ _ _ HX0.out
        have hc1 := fun i => cell_of_row w6 (w.heap.size + 1) i _ _ _ HX1.out
        have hcq := fun i => cell_of_row w6 q i _ _ _ HEc.out
        go_upto_region 6 with (first | (go_at_call 24; refine (played_as f first A2 (n + 1) c2 (xs ++ [more]) t.sets t.log ls1 lg1 t.games t.pts t.server t.ends t.balls t.winner _ HE2.out HLS1.out HLG1.out (congrArg M.Mt.sets HTE.out) (congrArg M.Mt.log HTE.out) (congrArg M.Mt.games HTE.out) (congrArg M.Mt.pts HTE.out) (congrArg M.Mt.server HTE.out) (congrArg M.Mt.ends HTE.out) (congrArg M.Mt.balls HTE.out) (congrArg M.Mt.winner HTE.out) HN2.out HRc.out hm7).mono ?_; rintro e w7 ⟨B2, d2, G2, l2, rfl, hd2, hd3, hs, hg, hb⟩; replace HX0 := hide (blk_keep HX0.out hb); replace HX1 := hide (blk_keep HX1.out hb); replace HEc := hide (blk_keep HEc.out hb); replace HRc := hide ((HRc.out.below hb).mono hb.size); replace HB := hide (HB.out.trans (hb.mono HB.out.size)); replace HS1 := hide ((HS1.out.below hb).mono hb.size); replace HG1 := hide ((HG1.out.below hb).mono hb.size); replace HN4 := hide (blk_keep HN4.out hb); clear hb hc0 hc1 hcq; have HS2 := hide hs; have HG2 := hide hg; have HD2 := hide hd2; have HD3 := hide hd3; clear hs hg hd2 hd3))
        have hb := (Below.refl w7.heap.size w7).alloc (Nat.le_refl _) (.cells #[.slice B2 ls1 d2, .int .i64 t.games.A, .int .i64 t.games.B, .int .i64 t.pts.A, .int .i64 t.pts.B, .int .i64 t.server, .int .i64 t.ends, .int .i64 t.balls, .int .i64 t.winner] 36 (0, 0))
        have HN6 := hide (heap_alloc_new w7 (.cells #[.slice B2 ls1 d2, .int .i64 t.games.A, .int .i64 t.games.B, .int .i64 t.pts.A, .int .i64 t.pts.B, .int .i64 t.server, .int .i64 t.ends, .int .i64 t.balls, .int .i64 t.winner] 36 (0, 0)))
        replace HX0 := hide (blk_keep HX0.out hb)
        replace HX1 := hide (blk_keep HX1.out hb)
        replace HEc := hide (blk_keep HEc.out hb)
        replace HRc := hide ((HRc.out.below hb).mono hb.size)
        replace HB := hide (HB.out.trans (hb.mono HB.out.size))
        replace HS1 := hide ((HS1.out.below hb).mono hb.size)
        replace HG1 := hide ((HG1.out.below hb).mono hb.size)
        replace HN4 := hide (blk_keep HN4.out hb)
        replace HS2 := hide ((HS2.out.below hb).mono hb.size)
        replace HG2 := hide ((HG2.out.below hb).mono hb.size)
        clear hb
        generalize w7.alloc (.cells #[.slice B2 ls1 d2, .int .i64 t.games.A, .int .i64 t.games.B, .int .i64 t.pts.A, .int .i64 t.pts.B, .int .i64 t.server, .int .i64 t.ends, .int .i64 t.balls, .int .i64 t.winner] 36 (0, 0)) = w8 at *
        generalize w7.heap.size = q6 at HN6 ⊢
        have hcs := fun i => cell_of_row w8 q4 i _ _ _ HN4.out
        have hct := fun i => cell_of_row w8 q6 i _ _ _ HN6.out
        clear HX0 HX1 HEc HRc HR HN HN2
        go_wp2_with fail
        go_loopw [14] (fun i wl => ∃ j : Nat, j ≤ lg0 ∧ i = .int .i64 j ∧ Hid (Below w8.heap.size w8 wl)) (fun i _ => lg0 - (intOf i).toNat)
        case atStart => exact ⟨0, by omega, rfl, hide (Below.refl _ _)⟩
        case round =>
          obtain ⟨j, hj, rfl, HBj⟩ := hrel
          clear hcs hct
          by_cases hlt : j < lg0
          · obtain ⟨g, hg⟩ : ∃ g, m.log[j]? = some g := ⟨_, List.getElem?_eq_getElem (by rw [HLG0.out]; exact hlt)⟩
            obtain ⟨b1', o1, hA1, hbB1, p0, p1, p2, p3, p4, p5, p6⟩ := (HG1.out.below HBj.out) j g hg
            obtain ⟨b2', o2, hA2, hbB2, r0, r1, r2, r3, r4, r5, r6⟩ := (HG2.out.below HBj.out) j g (by rw [HPRE.out j hlt]; exact hg)
            subst hA1 hA2
            have hlt' : (j : Int) < (lg0 : Int) := by omega
            have hlt2 : (j : Int) < (lg1 : Int) := by omega
            have hj0 : (0 : Int) ≤ (j : Int) := by omega
            clear hg
            go_wp2_with fail
            go_quiet (fail)
            go_wp2_with fail
            go_roundw
            case rel => exact ⟨j + 1, by omega, by go_num, hide (below_drewN HBj.out _)⟩
            case measure => simp [intOf]; omega
          · have hjn : lg0 = j := by omega
            subst hjn
            clear hlt hj
            have hn4 := (HBj.out.block q4 (blk_lt HN4.out)).trans HN4.out
            have hn6 := (HBj.out.block q6 (blk_lt HN6.out)).trans HN6.out
            obtain ⟨s0, hs0⟩ : ∃ s, m.pts.A + m.pts.B = s := ⟨_, rfl⟩
            have hp1 := HP1.out
            have hsw : IntKind.i64.wrap (s0 + 1) = s0 + 1 := IntWalk.i64_in _ (by omega)
            have HSA := hide hs0
            have hmore := HMORE.out
            have hcr := fun i => cell_of_row wr q4 i _ _ _ hn4
            have HBx := HBj
            rcases HHOW.out with ⟨x1, x2, x3, x4, x5, x6⟩ | ⟨gm, x1, x2, x3, x4, x5⟩
            · as_aux_lemma =>
              have hee : lg0 = lg1 := by rw [← HLG1.out, x1, HLG0.out]
              subst hee
              have hes : ls0 = ls1 := by rw [← HLS1.out, x2, HLS0.out]
              subst hes
              have HSB : Hid (t.pts.A + t.pts.B = s0 + 1) := hide (by rw [x4, M.plus_sum hmore, hs0])
              have hss := HS2.out
              rw [x2] at hss
              rw [x3, x5, x6] at hn6
              have HR1 := hide HS1.out
              have HR2 := hide hss
              have HGP := hide hp1
              have hcq := fun i => cell_of_row wr q6 i _ _ _ hn6
              obtain ⟨hkeep, hS⟩ := keep_of (S := (fun w' => Below w8.heap.size w8 w' ∧ q4 < w'.heap.size ∧ q6 < w'.heap.size ∧ w'.cell? ⟨q4, 0, none⟩ = some (.slice B1 ls0 d1) ∧ w'.cell? ⟨q4, 1, none⟩ = some (.int .i64 m.games.A) ∧ w'.cell? ⟨q4, 2, none⟩ = some (.int .i64 m.games.B) ∧ w'.cell? ⟨q4, 3, none⟩ = some (.int .i64 m.pts.A) ∧ w'.cell? ⟨q4, 4, none⟩ = some (.int .i64 m.pts.B) ∧ w'.cell? ⟨q4, 7, none⟩ = some (.int .i64 m.balls) ∧ w'.cell? ⟨q6, 0, none⟩ = some (.slice B2 ls0 d2) ∧ w'.cell? ⟨q6, 1, none⟩ = some (.int .i64 m.games.A) ∧ w'.cell? ⟨q6, 2, none⟩ = some (.int .i64 m.games.B) ∧ w'.cell? ⟨q6, 3, none⟩ = some (.int .i64 t.pts.A) ∧ w'.cell? ⟨q6, 4, none⟩ = some (.int .i64 t.pts.B) ∧ w'.cell? ⟨q6, 7, none⟩ = some (.int .i64 m.balls) ∧ w'.cell? ⟨q6, 8, none⟩ = some (.int .i64 (-1)))) wr ⟨HBj.out, blk_lt hn4, blk_lt hn6, (hcr 0).trans rfl, (hcr 1).trans rfl, (hcr 2).trans rfl, (hcr 3).trans rfl, (hcr 4).trans rfl, (hcr 7).trans rfl, (hcq 0).trans rfl, (hcq 1).trans rfl, (hcq 2).trans rfl, (hcq 3).trans rfl, (hcq 4).trans rfl, (hcq 7).trans rfl, (hcq 8).trans rfl⟩ (by
                rintro u u' hb ⟨hB, l_q4, l_q6, k0, k1, k2, k3, k4, k5, k6, k7, k8, k9, k10, k11, k12⟩
                exact ⟨hB.trans (hb.mono hB.size), kl l_q4 hb, kl l_q6 hb, kc hb l_q4 k0, kc hb l_q4 k1, kc hb l_q4 k2, kc hb l_q4 k3, kc hb l_q4 k4, kc hb l_q4 k5, kc hb l_q6 k6, kc hb l_q6 k7, kc hb l_q6 k8, kc hb l_q6 k9, kc hb l_q6 k10, kc hb l_q6 k11, kc hb l_q6 k12⟩)
              (try dsimp only at hkeep hS)
              clear hcr hcq hn4 hn6 x1 x2 x3 x4 x5 x6 hss hs0 hp1 hmore HN4 HN6 HG1 HG2 HS1 HS2 HHOW HPRE
              go_wp2_with fail
              refine wp_region_held_drew (S := (fun w' => Below w8.heap.size w8 w' ∧ q4 < w'.heap.size ∧ q6 < w'.heap.size ∧ w'.cell? ⟨q4, 0, none⟩ = some (.slice B1 ls0 d1) ∧ w'.cell? ⟨q4, 1, none⟩ = some (.int .i64 m.games.A) ∧ w'.cell? ⟨q4, 2, none⟩ = some (.int .i64 m.games.B) ∧ w'.cell? ⟨q4, 3, none⟩ = some (.int .i64 m.pts.A) ∧ w'.cell? ⟨q4, 4, none⟩ = some (.int .i64 m.pts.B) ∧ w'.cell? ⟨q4, 7, none⟩ = some (.int .i64 m.balls) ∧ w'.cell? ⟨q6, 0, none⟩ = some (.slice B2 ls0 d2) ∧ w'.cell? ⟨q6, 1, none⟩ = some (.int .i64 m.games.A) ∧ w'.cell? ⟨q6, 2, none⟩ = some (.int .i64 m.games.B) ∧ w'.cell? ⟨q6, 3, none⟩ = some (.int .i64 t.pts.A) ∧ w'.cell? ⟨q6, 4, none⟩ = some (.int .i64 t.pts.B) ∧ w'.cell? ⟨q6, 7, none⟩ = some (.int .i64 m.balls) ∧ w'.cell? ⟨q6, 8, none⟩ = some (.int .i64 (-1)))) (by kernel_rfl) ?_ (fun hHeld0 => ?_)
              · (try dsimp only); (first | (go_keep; done) | (go_split_ands; (repeat' apply And.intro) <;> first | (go_keep; done) | (simp [*, zcA, zcP, zfA, zfP]; done) | (simp [zcA, zcP] <;> rfl) | (simp [*, zsS, zsO, zsA]; done) | ((first | refine (hc _ _ ?_).trans ?_ | refine (hf _ _ ?_).trans ?_) <;> first | assumption | (simp; done) | (simp; omega) | omega | (go_keep; done) | (simp [*, zcA, zcP, zfA, zfP]; done) | (simp [zcA, zcP]; rfl)) | (repeat' first | exact zbR _ _ | assumption | refine zbD ?_ | refine zbA ?_ ?_ _ | refine zbS ?_ ?_ _ | refine zbT ?_ (by assumption) ?_ | (simp; done) | (simp; omega) | omega)))
              refine tV ?_ 0 rfl (by kernel_rfl) (fun _ _ _ h => h) (by rfl) (by assumption) ?_ ?_; rotate_left; (focus (intro w hSw; (try dsimp only at hSw); go_simp; try with_reducible rfl)); try simp only [Act.put, zl, z0, z1]
              refine tV ?_ 1 rfl (by kernel_rfl) (fun _ _ _ h => h) (by rfl) (by assumption) ?_ ?_; rotate_left; (focus (intro w hSw; (try dsimp only at hSw); go_simp; try with_reducible rfl)); try simp only [Act.put, zl, z0, z1]
              refine tV ?_ 2 rfl (by kernel_rfl) (fun _ _ _ h => h) (by rfl) (by assumption) ?_ ?_; rotate_left; (focus (intro w hSw; (try dsimp only at hSw); go_simp; try with_reducible rfl)); try simp only [Act.put, zl, z0, z1]
              refine tV ?_ 3 rfl (by kernel_rfl) (fun _ _ _ h => h) (by rfl) (by assumption) ?_ ?_; rotate_left; (focus (intro w hSw; (try dsimp only at hSw); go_simp; try with_reducible rfl)); try simp only [Act.put, zl, z0, z1]
              refine tV ?_ 4 rfl (by kernel_rfl) (fun _ _ _ h => h) (by rfl) (by assumption) ?_ ?_; rotate_left; (focus (intro w hSw; (try dsimp only at hSw); go_simp; try with_reducible rfl)); try simp only [Act.put, zl, z0, z1]
              refine tV ?_ 5 rfl (by kernel_rfl) (fun _ _ _ h => h) (by rfl) (by assumption) ?_ ?_; rotate_left; (focus (intro w hSw; (try dsimp only at hSw); go_simp; try with_reducible rfl)); try simp only [Act.put, zl, z0, z1]
              refine wpAnyH_ready (rs := [6]) (by kernel_rfl) (by simp) ?_; refine consL 6 rfl (fun K hK => ?_) AllReadyH.nil; go_simp; (go_at_call 25; refine (sameSets_same B1 _ ls0 ls0 d1 d2 m.sets _ HLS0.out HLS0.out ((HR1.out.below (zbD HBx.out)).mono (zbD HBx.out).size) ((HR2.out.below (zbD HBx.out)).mono (zbD HBx.out).size) (by omega)).mono ?_; rintro e w9 ⟨rfl, hb⟩; replace hS := hkeep _ _ hb (by assumption)); refine hK.out _ _ ?_ (fun hHeld1 => ?_); (focus ((try dsimp only); exact hS)); clear hK K hHeld0; try simp only [Act.put, zl, z0, z1]
              refine tV ?_ 7 rfl (by kernel_rfl) (fun _ _ _ h => h) (by rfl) (by assumption) ?_ ?_; rotate_left; (focus (intro w hSw; (try dsimp only at hSw); go_simp; try with_reducible rfl)); try simp only [Act.put, zl, z0, z1]
              refine tV ?_ 8 rfl (by kernel_rfl) (fun _ _ _ h => h) (by rfl) (by assumption) ?_ ?_; rotate_left; (focus (intro w hSw; (try dsimp only at hSw); go_simp; try with_reducible rfl)); try simp only [Act.put, zl, z0, z1]
              refine tV ?_ 9 rfl (by kernel_rfl) (fun _ _ _ h => h) (by rfl) (by assumption) ?_ ?_; rotate_left; (focus (intro w hSw; (try dsimp only at hSw); go_simp; try with_reducible rfl)); try simp only [Act.put, zl, z0, z1]
              refine tV ?_ 10 rfl (by kernel_rfl) (fun _ _ _ h => h) (by rfl) (by assumption) ?_ ?_; rotate_left; (focus (intro w hSw; (try dsimp only at hSw); go_simp; try with_reducible rfl)); try simp only [Act.put, zl, z0, z1]
              refine tV ?_ 11 rfl (by kernel_rfl) (fun _ _ _ h => h) (by rfl) (by assumption) ?_ ?_; rotate_left; (focus (intro w hSw; (try dsimp only at hSw); go_simp; try with_reducible rfl)); try simp only [Act.put, zl, z0, z1]
              refine tV ?_ 12 rfl (by kernel_rfl) (fun _ _ _ h => h) (by rfl) (by assumption) ?_ ?_; rotate_left; (focus (intro w hSw; (try dsimp only at hSw); go_simp; try with_reducible rfl)); try simp only [Act.put, zl, z0, z1]
              refine tV ?_ 13 rfl (by kernel_rfl) (fun _ _ _ h => h) (by rfl) (by assumption) ?_ ?_; rotate_left; (focus (intro w hSw; (try dsimp only at hSw); go_simp; try with_reducible rfl)); try simp only [Act.put, zl, z0, z1]
              refine tV ?_ 14 rfl (by kernel_rfl) (fun _ _ _ h => h) (by rfl) (by assumption) ?_ ?_; rotate_left; (focus (intro w hSw; (try dsimp only at hSw); go_simp; try with_reducible rfl)); try simp only [Act.put, zl, z0, z1]
              refine tV ?_ 15 rfl (by kernel_rfl) (fun _ _ _ h => h) (by rfl) (by assumption) ?_ ?_; rotate_left; (focus (intro w hSw; (try dsimp only at hSw); go_simp; try with_reducible rfl)); try simp only [Act.put, zl, z0, z1]
              refine tV ?_ 16 rfl (by kernel_rfl) (fun _ _ _ h => h) (by rfl) (by assumption) ?_ ?_; rotate_left; (focus (intro w hSw; (try dsimp only at hSw); go_simp; try with_reducible rfl)); try simp only [Act.put, zl, z0, z1]
              refine tV ?_ 17 rfl (by kernel_rfl) (fun _ _ _ h => h) (by rfl) (by assumption) ?_ ?_; rotate_left; (focus (intro w hSw; (try dsimp only at hSw); go_simp; try with_reducible rfl)); try simp only [Act.put, zl, z0, z1]
              refine tV ?_ 18 rfl (by kernel_rfl) (fun _ _ _ h => h) (by rfl) (by assumption) ?_ ?_; rotate_left; (focus (intro w hSw; (try dsimp only at hSw); go_simp; try with_reducible rfl)); try simp only [Act.put, zl, z0, z1]
              refine tV ?_ 19 rfl (by kernel_rfl) (fun _ _ _ h => h) (by rfl) (by assumption) ?_ ?_; rotate_left; (focus (intro w hSw; (try dsimp only at hSw); go_simp; try with_reducible rfl)); try simp only [Act.put, zl, z0, z1]
              refine tV ?_ 21 rfl (by kernel_rfl) (fun _ _ _ h => h) (by rfl) (by assumption) ?_ ?_; rotate_left; (focus (intro w hSw; (try dsimp only at hSw); go_simp; try with_reducible rfl)); try simp only [Act.put, zl, z0, z1]
              refine tV ?_ 22 rfl (by kernel_rfl) (fun _ _ _ h => h) (by rfl) (by assumption) ?_ ?_; rotate_left; (focus (intro w hSw; (try dsimp only at hSw); go_simp; try with_reducible rfl)); try simp only [Act.put, zl, z0, z1]
              refine tV ?_ 23 rfl (by kernel_rfl) (fun _ _ _ h => h) (by rfl) (by assumption) ?_ ?_; rotate_left; (focus (intro w hSw; (try dsimp only at hSw); go_simp; try with_reducible rfl)); try simp only [Act.put, zl, z0, z1]
              refine wpAnyH_ready (rs := [20]) (by kernel_rfl) (by simp) ?_; refine consL 20 rfl (fun K hK => ?_) AllReadyH.nil; go_simp; (go_at_call 26; refine (sum_val _ _ _ _ (by first | exact HSA.out | exact HSB.out) (by have a := HP1.out; have b := HP2.out; have c := HGP.out; omega)).mono ?_; rintro e w9 ⟨rfl, hb⟩; replace hS := hkeep _ _ hb (by assumption)); refine hK.out _ _ ?_ (fun hHeld2 => ?_); (focus ((try dsimp only); exact hS)); clear hK K hHeld1; try simp only [Act.put, zl, z0, z1]
              refine wpAnyH_ready (rs := [24]) (by kernel_rfl) (by simp) ?_; refine consL 24 rfl (fun K hK => ?_) AllReadyH.nil; go_simp; (go_at_call 26; refine (sum_val _ _ _ _ (by first | exact HSA.out | exact HSB.out) (by have a := HP1.out; have b := HP2.out; have c := HGP.out; omega)).mono ?_; rintro e w9 ⟨rfl, hb⟩; replace hS := hkeep _ _ hb (by assumption)); refine hK.out _ _ ?_ (fun hHeld3 => ?_); (focus ((try dsimp only); exact hS)); clear hK K hHeld2; try simp only [Act.put, zl, z0, z1]
              refine tV ?_ 25 rfl (by kernel_rfl) (fun _ _ _ h => h) (by rfl) (by assumption) ?_ ?_; rotate_left; (focus (intro w hSw; (try dsimp only at hSw); go_simp; try with_reducible rfl)); try simp only [Act.put, zl, z0, z1]
              refine tV ?_ 26 rfl (by kernel_rfl) (fun _ _ _ h => h) (by rfl) (by assumption) ?_ ?_; rotate_left; (focus (intro w hSw; (try dsimp only at hSw); go_simp; try with_reducible rfl)); try simp only [Act.put, zl, z0, z1]
              refine tV ?_ 27 rfl (by kernel_rfl) (fun _ _ _ h => h) (by rfl) (by assumption) ?_ ?_; rotate_left; (focus (intro w hSw; (try dsimp only at hSw); go_simp; try with_reducible rfl)); try simp only [Act.put, zl, z0, z1]
              refine tV ?_ 28 rfl (by kernel_rfl) (fun _ _ _ h => h) (by rfl) (by assumption) ?_ ?_; rotate_left; (focus (intro w hSw; (try dsimp only at hSw); go_simp; try with_reducible rfl)); try simp only [Act.put, zl, z0, z1]
              refine tV ?_ 29 rfl (by kernel_rfl) (fun _ _ _ h => h) (by rfl) (by assumption) ?_ ?_; rotate_left; (focus (intro w hSw; (try dsimp only at hSw); go_simp; try with_reducible rfl)); try simp only [Act.put, zl, z0, z1]
              refine tV ?_ 30 rfl (by kernel_rfl) (fun _ _ _ h => h) (by rfl) (by assumption) ?_ ?_; rotate_left; (focus (intro w hSw; (try dsimp only at hSw); go_simp; try with_reducible rfl)); try simp only [Act.put, zl, z0, z1]
              refine tV ?_ 31 rfl (by kernel_rfl) (fun _ _ _ h => h) (by rfl) (by assumption) ?_ ?_; rotate_left; (focus (intro w hSw; (try dsimp only at hSw); go_simp; try with_reducible rfl)); try simp only [Act.put, zl, z0, z1]
              refine tV ?_ 32 rfl (by kernel_rfl) (fun _ _ _ h => h) (by rfl) (by assumption) ?_ ?_; rotate_left; (focus (intro w hSw; (try dsimp only at hSw); go_simp; try with_reducible rfl)); try simp only [Act.put, zl, z0, z1]
              refine tV ?_ 33 rfl (by kernel_rfl) (fun _ _ _ h => h) (by rfl) (by assumption) ?_ ?_; rotate_left; (focus (intro w hSw; (try dsimp only at hSw); go_simp; try with_reducible rfl)); try simp only [Act.put, zl, z0, z1]
              refine tV ?_ 34 rfl (by kernel_rfl) (fun _ _ _ h => h) (by rfl) (by assumption) ?_ ?_; rotate_left; (focus (intro w hSw; (try dsimp only at hSw); go_simp; try with_reducible rfl)); try simp only [Act.put, zl, z0, z1]
              refine tV ?_ 35 rfl (by kernel_rfl) (fun _ _ _ h => h) (by rfl) (by assumption) ?_ ?_; rotate_left; (focus (intro w hSw; (try dsimp only at hSw); go_simp; try with_reducible rfl)); try simp only [Act.put, zl, z0, z1]
              refine tV ?_ 36 rfl (by kernel_rfl) (fun _ _ _ h => h) (by rfl) (by assumption) ?_ ?_; rotate_left; (focus (intro w hSw; (try dsimp only at hSw); go_simp; try with_reducible rfl)); try simp only [Act.put, zl, z0, z1]
              refine tV ?_ 37 rfl (by kernel_rfl) (fun _ _ _ h => h) (by rfl) (by assumption) ?_ ?_; rotate_left; (focus (intro w hSw; (try dsimp only at hSw); go_simp; try with_reducible rfl)); try simp only [Act.put, zl, z0, z1]
              refine tV ?_ 38 rfl (by kernel_rfl) (fun _ _ _ h => h) (by rfl) (by assumption) ?_ ?_; rotate_left; (focus (intro w hSw; (try dsimp only at hSw); go_simp; try with_reducible rfl)); try simp only [Act.put, zl, z0, z1]
              refine tV ?_ 39 rfl (by kernel_rfl) (fun _ _ _ h => h) (by rfl) (by assumption) ?_ ?_; rotate_left; (focus (intro w hSw; (try dsimp only at hSw); go_simp; try with_reducible rfl)); try simp only [Act.put, zl, z0, z1]
              refine tV ?_ 40 rfl (by kernel_rfl) (fun _ _ _ h => h) (by rfl) (by assumption) ?_ ?_; rotate_left; (focus (intro w hSw; (try dsimp only at hSw); go_simp; try with_reducible rfl)); try simp only [Act.put, zl, z0, z1]
              refine wpAnyH_ready (rs := [41]) (by kernel_rfl) (by simp) ?_; refine consL 41 rfl (fun K hK => ?_) AllReadyH.nil; go_simp; (go_at_call 10; refine (works_any _).mono ?_; rintro e w9 ⟨rfl, hb⟩; replace hS := hkeep _ _ hb (by assumption)); refine hK.out _ _ ?_ (fun hHeld4 => ?_); (focus ((try dsimp only); exact hS)); clear hK K hHeld3; try simp only [Act.put, zl, z0, z1]
              refine tV ?_ 42 rfl (by kernel_rfl) (fun _ _ _ h => h) (by rfl) (by assumption) ?_ ?_; rotate_left; (focus (intro w hSw; (try dsimp only at hSw); go_simp; try with_reducible rfl)); try simp only [Act.put, zl, z0, z1]
              refine tV ?_ 43 rfl (by kernel_rfl) (fun _ _ _ h => h) (by rfl) (by assumption) ?_ ?_; rotate_left; (focus (intro w hSw; (try dsimp only at hSw); go_simp; try with_reducible rfl)); try simp only [Act.put, zl, z0, z1]
              refine wpAnyH_done (by kernel_rfl) ?_ _
              have HB9 := hide (HB.out.trans (hS.1.mono HB.out.size))
              go_wp2_with fail
              go_ret
              exact ⟨rfl, HB9.out⟩
            · as_aux_lemma =>
              have hee : lg1 = lg0 + 1 := by rw [← HLG1.out, x1, List.length_append, HLG0.out]; rfl
              have hlt9 : (lg0 : Int) < (lg1 : Int) := by omega
              have hne9 : ((lg1 : Int) == (lg0 : Int)) = false := by simp; omega
              have hl0 : (0 : Int) ≤ (lg0 : Int) := by omega
              obtain ⟨b9, o9, hA9, hbB9, r0, r1, r2, r3, r4, r5, r6⟩ := (HG2.out.below HBj.out) lg0 gm (by rw [x1, List.getElem?_append_right (by rw [HLG0.out]; exact Nat.le_refl _), HLG0.out]; simp)
              subst hA9
              replace r3 : wr.cell? ⟨b9, o9 + lg0 * 7 + 3, none⟩ = some (.int .i64 more) := by rw [← x2]; exact r3
              have HSB : Hid (gm.pts.A + gm.pts.B = s0 + 1) := hide (by rw [x3, M.plus_sum hmore, hs0])
              have HGP : Hid (0 ≤ gm.pts.A ∧ 0 ≤ gm.pts.B ∧ gm.pts.A ≤ ((600 + 1 : Nat) : Int) ∧ gm.pts.B ≤ ((600 + 1 : Nat) : Int)) := hide (by rw [x3]; exact plus_le more hp1)
              rw [x4] at hn6
              have hcq := fun i => cell_of_row wr q6 i _ _ _ hn6
              obtain ⟨hkeep, hS⟩ := keep_of (S := (fun w' => Below w8.heap.size w8 w' ∧ q4 < w'.heap.size ∧ q6 < w'.heap.size ∧ b9 < w'.heap.size ∧ w'.cell? ⟨q4, 3, none⟩ = some (.int .i64 m.pts.A) ∧ w'.cell? ⟨q4, 4, none⟩ = some (.int .i64 m.pts.B) ∧ w'.cell? ⟨q6, 3, none⟩ = some (.int .i64 0) ∧ w'.cell? ⟨q6, 4, none⟩ = some (.int .i64 0) ∧ w'.cell? ⟨b9, o9 + lg0 * 7 + 3, none⟩ = some (.int .i64 more) ∧ w'.cell? ⟨b9, o9 + lg0 * 7 + 4, none⟩ = some (.int .i64 gm.pts.A) ∧ w'.cell? ⟨b9, o9 + lg0 * 7 + 5, none⟩ = some (.int .i64 gm.pts.B))) wr ⟨HBj.out, blk_lt hn4, blk_lt hn6, Nat.lt_of_lt_of_le hbB9 HBj.out.size, (hcr 3).trans rfl, (hcr 4).trans rfl, (hcq 3).trans rfl, (hcq 4).trans rfl, r3, r4, r5⟩ (by
                rintro u u' hb ⟨hB, l_q4, l_q6, l_b9, k0, k1, k2, k3, k4, k5, k6⟩
                exact ⟨hB.trans (hb.mono hB.size), kl l_q4 hb, kl l_q6 hb, kl l_b9 hb, kc hb l_q4 k0, kc hb l_q4 k1, kc hb l_q6 k2, kc hb l_q6 k3, kc hb l_b9 k4, kc hb l_b9 k5, kc hb l_b9 k6⟩)
              (try dsimp only at hkeep hS)
              have HX5 := hide x5
              have HH4 := hide HN4.out
              have HH6 := hide HN6.out
              rw [x4] at HH6
              clear hcr hcq hn4 hn6 x1 x2 x3 x4 x5 hs0 hp1 r0 r1 r2 r3 r4 r5 r6 hee HN4 HN6 HG1 HG2 HHOW HPRE
              go_wp2_with fail
              refine wp_region_held_drew (S := (fun w' => Below w8.heap.size w8 w' ∧ q4 < w'.heap.size ∧ q6 < w'.heap.size ∧ b9 < w'.heap.size ∧ w'.cell? ⟨q4, 3, none⟩ = some (.int .i64 m.pts.A) ∧ w'.cell? ⟨q4, 4, none⟩ = some (.int .i64 m.pts.B) ∧ w'.cell? ⟨q6, 3, none⟩ = some (.int .i64 0) ∧ w'.cell? ⟨q6, 4, none⟩ = some (.int .i64 0) ∧ w'.cell? ⟨b9, o9 + lg0 * 7 + 3, none⟩ = some (.int .i64 more) ∧ w'.cell? ⟨b9, o9 + lg0 * 7 + 4, none⟩ = some (.int .i64 gm.pts.A) ∧ w'.cell? ⟨b9, o9 + lg0 * 7 + 5, none⟩ = some (.int .i64 gm.pts.B))) (by kernel_rfl) ?_ (fun hHeld0 => ?_)
              · (try dsimp only); (first | (go_keep; done) | (go_split_ands; (repeat' apply And.intro) <;> first | (go_keep; done) | (simp [*, zcA, zcP, zfA, zfP]; done) | (simp [zcA, zcP] <;> rfl) | (simp [*, zsS, zsO, zsA]; done) | ((first | refine (hc _ _ ?_).trans ?_ | refine (hf _ _ ?_).trans ?_) <;> first | assumption | (simp; done) | (simp; omega) | omega | (go_keep; done) | (simp [*, zcA, zcP, zfA, zfP]; done) | (simp [zcA, zcP]; rfl)) | (repeat' first | exact zbR _ _ | assumption | refine zbD ?_ | refine zbA ?_ ?_ _ | refine zbS ?_ ?_ _ | refine zbT ?_ (by assumption) ?_ | (simp; done) | (simp; omega) | omega)))
              refine tV ?_ 0 rfl (by kernel_rfl) (fun _ _ _ h => h) (by rfl) (by assumption) ?_ ?_; rotate_left; (focus (intro w hSw; (try dsimp only at hSw); go_simp; try with_reducible rfl)); try simp only [Act.put, zl, z0, z1]
              refine tV ?_ 1 rfl (by kernel_rfl) (fun _ _ _ h => h) (by rfl) (by assumption) ?_ ?_; rotate_left; (focus (intro w hSw; (try dsimp only at hSw); go_simp; try with_reducible rfl)); try simp only [Act.put, zl, z0, z1]
              refine tV ?_ 2 rfl (by kernel_rfl) (fun _ _ _ h => h) (by rfl) (by assumption) ?_ ?_; rotate_left; (focus (intro w hSw; (try dsimp only at hSw); go_simp; try with_reducible rfl)); try simp only [Act.put, zl, z0, z1]
              refine tV ?_ 3 rfl (by kernel_rfl) (fun _ _ _ h => h) (by rfl) (by assumption) ?_ ?_; rotate_left; (focus (intro w hSw; (try dsimp only at hSw); go_simp; try with_reducible rfl)); try simp only [Act.put, zl, z0, z1]
              refine tV ?_ 4 rfl (by kernel_rfl) (fun _ _ _ h => h) (by rfl) (by assumption) ?_ ?_; rotate_left; (focus (intro w hSw; (try dsimp only at hSw); go_simp; try with_reducible rfl)); try simp only [Act.put, zl, z0, z1]
              refine tV ?_ 5 rfl (by kernel_rfl) (fun _ _ _ h => h) (by rfl) (by assumption) ?_ ?_; rotate_left; (focus (intro w hSw; (try dsimp only at hSw); go_simp; try with_reducible rfl)); try simp only [Act.put, zl, z0, z1]
              refine tV ?_ 6 rfl (by kernel_rfl) (fun _ _ _ h => h) (by rfl) (by assumption) ?_ ?_; rotate_left; (focus (intro w hSw; (try dsimp only at hSw); go_simp; try with_reducible rfl)); try simp only [Act.put, zl, z0, z1]
              refine tV ?_ 7 rfl (by kernel_rfl) (fun _ _ _ h => h) (by rfl) (by assumption) ?_ ?_; rotate_left; (focus (intro w hSw; (try dsimp only at hSw); go_simp; try with_reducible rfl)); try simp only [Act.put, zl, z0, z1]
              refine tV ?_ 8 rfl (by kernel_rfl) (fun _ _ _ h => h) (by rfl) (by assumption) ?_ ?_; rotate_left; (focus (intro w hSw; (try dsimp only at hSw); go_simp; try with_reducible rfl)); try simp only [Act.put, zl, z0, z1]
              refine tV ?_ 9 rfl (by kernel_rfl) (fun _ _ _ h => h) (by rfl) (by assumption) ?_ ?_; rotate_left; (focus (intro w hSw; (try dsimp only at hSw); go_simp; try with_reducible rfl)); try simp only [Act.put, zl, z0, z1]
              refine tV ?_ 10 rfl (by kernel_rfl) (fun _ _ _ h => h) (by rfl) (by assumption) ?_ ?_; rotate_left; (focus (intro w hSw; (try dsimp only at hSw); go_simp; try with_reducible rfl)); try simp only [Act.put, zl, z0, z1]
              refine tV ?_ 11 rfl (by kernel_rfl) (fun _ _ _ h => h) (by rfl) (by assumption) ?_ ?_; rotate_left; (focus (intro w hSw; (try dsimp only at hSw); go_simp; try with_reducible rfl)); try simp only [Act.put, zl, z0, z1]
              refine tV ?_ 12 rfl (by kernel_rfl) (fun _ _ _ h => h) (by rfl) (by assumption) ?_ ?_; rotate_left; (focus (intro w hSw; (try dsimp only at hSw); go_simp; try with_reducible rfl)); try simp only [Act.put, zl, z0, z1]
              refine tV ?_ 13 rfl (by kernel_rfl) (fun _ _ _ h => h) (by rfl) (by assumption) ?_ ?_; rotate_left; (focus (intro w hSw; (try dsimp only at hSw); go_simp; try with_reducible rfl)); try simp only [Act.put, zl, z0, z1]
              refine tV ?_ 14 rfl (by kernel_rfl) (fun _ _ _ h => h) (by rfl) (by assumption) ?_ ?_; rotate_left; (focus (intro w hSw; (try dsimp only at hSw); go_simp; try with_reducible rfl)); try simp only [Act.put, zl, z0, z1]
              refine tV ?_ 15 rfl (by kernel_rfl) (fun _ _ _ h => h) (by rfl) (by assumption) ?_ ?_; rotate_left; (focus (intro w hSw; (try dsimp only at hSw); go_simp; try with_reducible rfl)); try simp only [Act.put, zl, z0, z1]
              refine tV ?_ 16 rfl (by kernel_rfl) (fun _ _ _ h => h) (by rfl) (by assumption) ?_ ?_; rotate_left; (focus (intro w hSw; (try dsimp only at hSw); go_simp; try with_reducible rfl)); try simp only [Act.put, zl, z0, z1]
              refine tV ?_ 17 rfl (by kernel_rfl) (fun _ _ _ h => h) (by rfl) (by assumption) ?_ ?_; rotate_left; (focus (intro w hSw; (try dsimp only at hSw); go_simp; try with_reducible rfl)); try simp only [Act.put, zl, z0, z1]
              refine tV ?_ 18 rfl (by kernel_rfl) (fun _ _ _ h => h) (by rfl) (by assumption) ?_ ?_; rotate_left; (focus (intro w hSw; (try dsimp only at hSw); go_simp; try with_reducible rfl)); try simp only [Act.put, zl, z0, z1]
              refine tV ?_ 19 rfl (by kernel_rfl) (fun _ _ _ h => h) (by rfl) (by assumption) ?_ ?_; rotate_left; (focus (intro w hSw; (try dsimp only at hSw); go_simp; try with_reducible rfl)); try simp only [Act.put, zl, z0, z1]
              refine tV ?_ 20 rfl (by kernel_rfl) (fun _ _ _ h => h) (by rfl) (by assumption) ?_ ?_; rotate_left; (focus (intro w hSw; (try dsimp only at hSw); go_simp; try with_reducible rfl)); try simp only [Act.put, zl, z0, z1]
              refine tV ?_ 21 rfl (by kernel_rfl) (fun _ _ _ h => h) (by rfl) (by assumption) ?_ ?_; rotate_left; (focus (intro w hSw; (try dsimp only at hSw); go_simp; try with_reducible rfl)); try simp only [Act.put, zl, z0, z1]
              refine tV ?_ 23 rfl (by kernel_rfl) (fun _ _ _ h => h) (by rfl) (by assumption) ?_ ?_; rotate_left; (focus (intro w hSw; (try dsimp only at hSw); go_simp; try with_reducible rfl)); try simp only [Act.put, zl, z0, z1]
              refine tV ?_ 24 rfl (by kernel_rfl) (fun _ _ _ h => h) (by rfl) (by assumption) ?_ ?_; rotate_left; (focus (intro w hSw; (try dsimp only at hSw); go_simp; try with_reducible rfl)); try simp only [Act.put, zl, z0, z1]
              refine tV ?_ 25 rfl (by kernel_rfl) (fun _ _ _ h => h) (by rfl) (by assumption) ?_ ?_; rotate_left; (focus (intro w hSw; (try dsimp only at hSw); go_simp; try with_reducible rfl)); try simp only [Act.put, zl, z0, z1]
              refine wpAnyH_ready (rs := [22]) (by kernel_rfl) (by simp) ?_; refine consL 22 rfl (fun K hK => ?_) AllReadyH.nil; go_simp; (go_at_call 26; refine (sum_val _ _ _ _ (by first | exact HSA.out | exact HSB.out) (by have a := HP1.out; have b := HP2.out; have c := HGP.out; omega)).mono ?_; rintro e w9 ⟨rfl, hb⟩; replace hS := hkeep _ _ hb (by assumption)); refine hK.out _ _ ?_ (fun hHeld1 => ?_); (focus ((try dsimp only); exact hS)); clear hK K hHeld0; try simp only [Act.put, zl, z0, z1]
              refine wpAnyH_ready (rs := [26]) (by kernel_rfl) (by simp) ?_; refine consL 26 rfl (fun K hK => ?_) AllReadyH.nil; go_simp; (go_at_call 26; refine (sum_val _ _ _ _ (by first | exact HSA.out | exact HSB.out) (by have a := HP1.out; have b := HP2.out; have c := HGP.out; omega)).mono ?_; rintro e w9 ⟨rfl, hb⟩; replace hS := hkeep _ _ hb (by assumption)); refine hK.out _ _ ?_ (fun hHeld2 => ?_); (focus ((try dsimp only); exact hS)); clear hK K hHeld1; try simp only [Act.put, zl, z0, z1]
              refine tV ?_ 27 rfl (by kernel_rfl) (fun _ _ _ h => h) (by rfl) (by assumption) ?_ ?_; rotate_left; (focus (intro w hSw; (try dsimp only at hSw); go_simp; try with_reducible rfl)); try simp only [Act.put, zl, z0, z1]
              refine tV ?_ 28 rfl (by kernel_rfl) (fun _ _ _ h => h) (by rfl) (by assumption) ?_ ?_; rotate_left; (focus (intro w hSw; (try dsimp only at hSw); go_simp; try with_reducible rfl)); try simp only [Act.put, zl, z0, z1]
              refine tV ?_ 29 rfl (by kernel_rfl) (fun _ _ _ h => h) (by rfl) (by assumption) ?_ ?_; rotate_left; (focus (intro w hSw; (try dsimp only at hSw); go_simp; try with_reducible rfl)); try simp only [Act.put, zl, z0, z1]
              refine wpAnyH_done (by kernel_rfl) ?_ _
              have HBk := hide hS.1
              clear HBx
              have HBx := HBk
              (try clear hHeld2)
              (try clear hHeld1)
              clear hS hkeep
              obtain ⟨sg, hsg⟩ : ∃ s, m.games.A + m.games.B = s := ⟨_, rfl⟩
              have hg1 := HG1b.out
              have hsgw : IntKind.i64.wrap (sg + 1) = sg + 1 := IntWalk.i64_in _ (by omega)
              have HSC := hide hsg
              have hn4 := (HBk.out.block q4 (blk_lt HH4.out)).trans HH4.out
              have hn6 := (HBk.out.block q6 (blk_lt HH6.out)).trans HH6.out
              have hcr := fun i => cell_of_row _ q4 i _ _ _ hn4
              have HR1 := hide HS1.out
              rcases HX5.out with ⟨y1, y2, y3⟩ | ⟨y1, y2, y3⟩
              · as_aux_lemma =>
                have hes : ls0 = ls1 := by rw [← HLS1.out, y1, HLS0.out]
                subst hes
                have HSD : Hid (t.games.A + t.games.B = sg + 1) := hide (by rw [y2, M.plus_sum hmore, hsg])
                have hss := HS2.out
                rw [y1] at hss
                rw [y3] at hn6
                have HR2 := hide hss
                have hcq := fun i => cell_of_row _ q6 i _ _ _ hn6
                obtain ⟨hkeep, hS⟩ := keep_of (S := (fun w' => Below w8.heap.size w8 w' ∧ q4 < w'.heap.size ∧ q6 < w'.heap.size ∧ w'.cell? ⟨q4, 0, none⟩ = some (.slice B1 ls0 d1) ∧ w'.cell? ⟨q4, 1, none⟩ = some (.int .i64 m.games.A) ∧ w'.cell? ⟨q4, 2, none⟩ = some (.int .i64 m.games.B) ∧ w'.cell? ⟨q6, 0, none⟩ = some (.slice B2 ls0 d2) ∧ w'.cell? ⟨q6, 1, none⟩ = some (.int .i64 t.games.A) ∧ w'.cell? ⟨q6, 2, none⟩ = some (.int .i64 t.games.B) ∧ w'.cell? ⟨q6, 8, none⟩ = some (.int .i64 (-1)))) _ ⟨HBk.out, blk_lt hn4, blk_lt hn6, (hcr 0).trans rfl, (hcr 1).trans rfl, (hcr 2).trans rfl, (hcq 0).trans rfl, (hcq 1).trans rfl, (hcq 2).trans rfl, (hcq 8).trans rfl⟩ (by
                  rintro u u' hb ⟨hB, l_q4, l_q6, k0, k1, k2, k3, k4, k5, k6⟩
                  exact ⟨hB.trans (hb.mono hB.size), kl l_q4 hb, kl l_q6 hb, kc hb l_q4 k0, kc hb l_q4 k1, kc hb l_q4 k2, kc hb l_q6 k3, kc hb l_q6 k4, kc hb l_q6 k5, kc hb l_q6 k6⟩)
                (try dsimp only at hkeep hS)
                have c40 := hS.2.2.2.1
                have c60 := hS.2.2.2.2.2.2.1
                clear hcr hcq hn4 hn6 y1 y2 y3 hss hsg hg1 HH4 HH6 HX5 HS1 HS2 hmore
                go_wp2_with fail
                refine wp_region_held_drew (S := (fun w' => Below w8.heap.size w8 w' ∧ q4 < w'.heap.size ∧ q6 < w'.heap.size ∧ w'.cell? ⟨q4, 0, none⟩ = some (.slice B1 ls0 d1) ∧ w'.cell? ⟨q4, 1, none⟩ = some (.int .i64 m.games.A) ∧ w'.cell? ⟨q4, 2, none⟩ = some (.int .i64 m.games.B) ∧ w'.cell? ⟨q6, 0, none⟩ = some (.slice B2 ls0 d2) ∧ w'.cell? ⟨q6, 1, none⟩ = some (.int .i64 t.games.A) ∧ w'.cell? ⟨q6, 2, none⟩ = some (.int .i64 t.games.B) ∧ w'.cell? ⟨q6, 8, none⟩ = some (.int .i64 (-1)))) (by kernel_rfl) ?_ (fun hHeld0 => ?_)
                · (try dsimp only); (first | (go_keep; done) | (go_split_ands; (repeat' apply And.intro) <;> first | (go_keep; done) | (simp [*, zcA, zcP, zfA, zfP]; done) | (simp [zcA, zcP] <;> rfl) | (simp [*, zsS, zsO, zsA]; done) | ((first | refine (hc _ _ ?_).trans ?_ | refine (hf _ _ ?_).trans ?_) <;> first | assumption | (simp; done) | (simp; omega) | omega | (go_keep; done) | (simp [*, zcA, zcP, zfA, zfP]; done) | (simp [zcA, zcP]; rfl)) | (repeat' first | exact zbR _ _ | assumption | refine zbD ?_ | refine zbA ?_ ?_ _ | refine zbS ?_ ?_ _ | refine zbT ?_ (by assumption) ?_ | (simp; done) | (simp; omega) | omega)))
                refine tV ?_ 0 rfl (by kernel_rfl) (fun _ _ _ h => h) (by rfl) (by assumption) ?_ ?_; rotate_left; (focus (intro w hSw; (try dsimp only at hSw); go_simp; try with_reducible rfl)); try simp only [Act.put, zl, z0, z1]
                refine tV ?_ 1 rfl (by kernel_rfl) (fun _ _ _ h => h) (by rfl) (by assumption) ?_ ?_; rotate_left; (focus (intro w hSw; (try dsimp only at hSw); go_simp; try with_reducible rfl)); try simp only [Act.put, zl, z0, z1]
                refine tV ?_ 2 rfl (by kernel_rfl) (fun _ _ _ h => h) (by rfl) (by assumption) ?_ ?_; rotate_left; (focus (intro w hSw; (try dsimp only at hSw); go_simp; try with_reducible rfl)); try simp only [Act.put, zl, z0, z1]
                refine tV ?_ 3 rfl (by kernel_rfl) (fun _ _ _ h => h) (by rfl) (by assumption) ?_ ?_; rotate_left; (focus (intro w hSw; (try dsimp only at hSw); go_simp; try with_reducible rfl)); try simp only [Act.put, zl, z0, z1]
                refine tV ?_ 4 rfl (by kernel_rfl) (fun _ _ _ h => h) (by rfl) (by assumption) ?_ ?_; rotate_left; (focus (intro w hSw; (try dsimp only at hSw); go_simp; try with_reducible rfl)); try simp only [Act.put, zl, z0, z1]
                refine tV ?_ 5 rfl (by kernel_rfl) (fun _ _ _ h => h) (by rfl) (by assumption) ?_ ?_; rotate_left; (focus (intro w hSw; (try dsimp only at hSw); go_simp; try with_reducible rfl)); try simp only [Act.put, zl, z0, z1]
                refine wpAnyH_ready (rs := [6]) (by kernel_rfl) (by simp) ?_; refine consL 6 rfl (fun K hK => ?_) AllReadyH.nil; go_simp; (go_at_call 25; refine (sameSets_same B1 _ ls0 ls0 d1 d2 m.sets _ HLS0.out HLS0.out ((HR1.out.below (zbD HBx.out)).mono (zbD HBx.out).size) ((HR2.out.below (zbD HBx.out)).mono (zbD HBx.out).size) (by omega)).mono ?_; rintro e w9 ⟨rfl, hb⟩; replace hS := hkeep _ _ hb (by assumption)); refine hK.out _ _ ?_ (fun hHeld1 => ?_); (focus ((try dsimp only); exact hS)); clear hK K hHeld0; try simp only [Act.put, zl, z0, z1]
                refine tV ?_ 7 rfl (by kernel_rfl) (fun _ _ _ h => h) (by rfl) (by assumption) ?_ ?_; rotate_left; (focus (intro w hSw; (try dsimp only at hSw); go_simp; try with_reducible rfl)); try simp only [Act.put, zl, z0, z1]
                refine tV ?_ 8 rfl (by kernel_rfl) (fun _ _ _ h => h) (by rfl) (by assumption) ?_ ?_; rotate_left; (focus (intro w hSw; (try dsimp only at hSw); go_simp; try with_reducible rfl)); try simp only [Act.put, zl, z0, z1]
                refine tV ?_ 9 rfl (by kernel_rfl) (fun _ _ _ h => h) (by rfl) (by assumption) ?_ ?_; rotate_left; (focus (intro w hSw; (try dsimp only at hSw); go_simp; try with_reducible rfl)); try simp only [Act.put, zl, z0, z1]
                refine tV ?_ 10 rfl (by kernel_rfl) (fun _ _ _ h => h) (by rfl) (by assumption) ?_ ?_; rotate_left; (focus (intro w hSw; (try dsimp only at hSw); go_simp; try with_reducible rfl)); try simp only [Act.put, zl, z0, z1]
                refine tV ?_ 12 rfl (by kernel_rfl) (fun _ _ _ h => h) (by rfl) (by assumption) ?_ ?_; rotate_left; (focus (intro w hSw; (try dsimp only at hSw); go_simp; try with_reducible rfl)); try simp only [Act.put, zl, z0, z1]
                refine tV ?_ 13 rfl (by kernel_rfl) (fun _ _ _ h => h) (by rfl) (by assumption) ?_ ?_; rotate_left; (focus (intro w hSw; (try dsimp only at hSw); go_simp; try with_reducible rfl)); try simp only [Act.put, zl, z0, z1]
                refine tV ?_ 14 rfl (by kernel_rfl) (fun _ _ _ h => h) (by rfl) (by assumption) ?_ ?_; rotate_left; (focus (intro w hSw; (try dsimp only at hSw); go_simp; try with_reducible rfl)); try simp only [Act.put, zl, z0, z1]
                refine wpAnyH_ready (rs := [11]) (by kernel_rfl) (by simp) ?_; refine consL 11 rfl (fun K hK => ?_) AllReadyH.nil; go_simp; (go_at_call 26; refine (sum_val _ _ _ _ (by first | exact HSC.out | exact HSD.out) (by have a := HG1b.out; have b := HG2b.out; have c := HGP.out; omega)).mono ?_; rintro e w9 ⟨rfl, hb⟩; replace hS := hkeep _ _ hb (by assumption)); refine hK.out _ _ ?_ (fun hHeld2 => ?_); (focus ((try dsimp only); exact hS)); clear hK K hHeld1; try simp only [Act.put, zl, z0, z1]
                refine wpAnyH_ready (rs := [15]) (by kernel_rfl) (by simp) ?_; refine consL 15 rfl (fun K hK => ?_) AllReadyH.nil; go_simp; (go_at_call 26; refine (sum_val _ _ _ _ (by first | exact HSC.out | exact HSD.out) (by have a := HG1b.out; have b := HG2b.out; have c := HGP.out; omega)).mono ?_; rintro e w9 ⟨rfl, hb⟩; replace hS := hkeep _ _ hb (by assumption)); refine hK.out _ _ ?_ (fun hHeld3 => ?_); (focus ((try dsimp only); exact hS)); clear hK K hHeld2; try simp only [Act.put, zl, z0, z1]
                refine tV ?_ 16 rfl (by kernel_rfl) (fun _ _ _ h => h) (by rfl) (by assumption) ?_ ?_; rotate_left; (focus (intro w hSw; (try dsimp only at hSw); go_simp; try with_reducible rfl)); try simp only [Act.put, zl, z0, z1]
                refine tV ?_ 17 rfl (by kernel_rfl) (fun _ _ _ h => h) (by rfl) (by assumption) ?_ ?_; rotate_left; (focus (intro w hSw; (try dsimp only at hSw); go_simp; try with_reducible rfl)); try simp only [Act.put, zl, z0, z1]
                refine tV ?_ 18 rfl (by kernel_rfl) (fun _ _ _ h => h) (by rfl) (by assumption) ?_ ?_; rotate_left; (focus (intro w hSw; (try dsimp only at hSw); go_simp; try with_reducible rfl)); try simp only [Act.put, zl, z0, z1]
                refine tV ?_ 19 rfl (by kernel_rfl) (fun _ _ _ h => h) (by rfl) (by assumption) ?_ ?_; rotate_left; (focus (intro w hSw; (try dsimp only at hSw); go_simp; try with_reducible rfl)); try simp only [Act.put, zl, z0, z1]
                refine tV ?_ 20 rfl (by kernel_rfl) (fun _ _ _ h => h) (by rfl) (by assumption) ?_ ?_; rotate_left; (focus (intro w hSw; (try dsimp only at hSw); go_simp; try with_reducible rfl)); try simp only [Act.put, zl, z0, z1]
                refine tV ?_ 21 rfl (by kernel_rfl) (fun _ _ _ h => h) (by rfl) (by assumption) ?_ ?_; rotate_left; (focus (intro w hSw; (try dsimp only at hSw); go_simp; try with_reducible rfl)); try simp only [Act.put, zl, z0, z1]
                refine tV ?_ 22 rfl (by kernel_rfl) (fun _ _ _ h => h) (by rfl) (by assumption) ?_ ?_; rotate_left; (focus (intro w hSw; (try dsimp only at hSw); go_simp; try with_reducible rfl)); try simp only [Act.put, zl, z0, z1]
                refine tV ?_ 23 rfl (by kernel_rfl) (fun _ _ _ h => h) (by rfl) (by assumption) ?_ ?_; rotate_left; (focus (intro w hSw; (try dsimp only at hSw); go_simp; try with_reducible rfl)); try simp only [Act.put, zl, z0, z1]
                refine tV ?_ 24 rfl (by kernel_rfl) (fun _ _ _ h => h) (by rfl) (by assumption) ?_ ?_; rotate_left; (focus (intro w hSw; (try dsimp only at hSw); go_simp; try with_reducible rfl)); try simp only [Act.put, zl, z0, z1]
                refine wpAnyH_ready (rs := [25]) (by kernel_rfl) (by simp) ?_; refine consL 25 rfl (fun K hK => ?_) AllReadyH.nil; go_simp; (go_at_call 10; refine (works_any _).mono ?_; rintro e w9 ⟨rfl, hb⟩; replace hS := hkeep _ _ hb (by assumption)); refine hK.out _ _ ?_ (fun hHeld4 => ?_); (focus ((try dsimp only); exact hS)); clear hK K hHeld3; try simp only [Act.put, zl, z0, z1]
                refine tV ?_ 26 rfl (by kernel_rfl) (fun _ _ _ h => h) (by rfl) (by assumption) ?_ ?_; rotate_left; (focus (intro w hSw; (try dsimp only at hSw); go_simp; try with_reducible rfl)); try simp only [Act.put, zl, z0, z1]
                refine tV ?_ 27 rfl (by kernel_rfl) (fun _ _ _ h => h) (by rfl) (by assumption) ?_ ?_; rotate_left; (focus (intro w hSw; (try dsimp only at hSw); go_simp; try with_reducible rfl)); try simp only [Act.put, zl, z0, z1]
                refine wpAnyH_done (by kernel_rfl) ?_ _
                have HB9 := hide (HB.out.trans (hS.1.mono HB.out.size))
                go_wp2_with fail
                go_ret
                exact ⟨rfl, HB9.out⟩
              · have hes : ls1 = ls0 + 1 := by rw [← HLS1.out, y1, List.length_append, HLS0.out]; rfl
                have hneS : ((ls1 : Int) == (ls0 : Int)) = false := by simp; omega
                have heqS : ((ls1 : Int) == (ls0 : Int) + 1) = true := by simp; omega
                have hwS : IntKind.i64.wrap ((ls0 : Int) + 1) = (ls0 : Int) + 1 := IntWalk.i64_in _ (by omega)
                have hl3 : (0 : Int) ≤ (ls0 : Int) := by omega
                have hl4 : (ls0 : Int) ≤ (d2 : Int) := by have := HD2.out; omega
                have hl5 : (ls0 : Int) < (ls1 : Int) := by omega
                have hl6 : (d2 : Int) ≤ 9223372036854775807 := by have := HD3.out; unfold maxLen at this; omega
                obtain ⟨b3, o3, hA3, hbB3, z0', z1'⟩ := (HS2.out.below HBk.out) ls0 (M.plus m.games more) (by rw [y1, List.getElem?_append_right (by rw [HLS0.out]; exact Nat.le_refl _), HLS0.out]; simp)
                have hss := (HS2.out).take ls0
                have htk : t.sets.take ls0 = m.sets := by rw [y1, ← HLS0.out, List.take_left]
                rw [htk] at hss
                have HR2 := hide hss
                have HSD : Hid ((M.plus m.games more).A + (M.plus m.games more).B = sg + 1) := hide (by rw [M.plus_sum hmore, hsg])
                have hgp := plus_le more hg1
                replace HGP := hide hgp
                subst hA3
                rw [y2] at hn6
                have hmb : (more == (-1)) = false := by rcases hmore with rfl | rfl <;> rfl
                have hmd : decide (more = -1) = false := by rcases hmore with rfl | rfl <;> rfl
                obtain ⟨wi, hwi⟩ : ∃ wi, t.winner = wi := ⟨_, rfl⟩
                rw [hwi] at hn6 y3
                clear hwi
                have hcq := fun i => cell_of_row _ q6 i _ _ _ hn6
                obtain ⟨hkeep, hS⟩ := keep_of (S := (fun w' => Below w8.heap.size w8 w' ∧ q4 < w'.heap.size ∧ q6 < w'.heap.size ∧ b3 < w'.heap.size ∧ w'.cell? ⟨q4, 0, none⟩ = some (.slice B1 ls0 d1) ∧ w'.cell? ⟨q4, 1, none⟩ = some (.int .i64 m.games.A) ∧ w'.cell? ⟨q4, 2, none⟩ = some (.int .i64 m.games.B) ∧ w'.cell? ⟨q6, 0, none⟩ = some (.slice (some ⟨b3, o3, none⟩) ls1 d2) ∧ w'.cell? ⟨q6, 1, none⟩ = some (.int .i64 0) ∧ w'.cell? ⟨q6, 2, none⟩ = some (.int .i64 0) ∧ w'.cell? ⟨q6, 8, none⟩ = some (.int .i64 wi) ∧ w'.cell? ⟨b3, o3 + ls0 * 2, none⟩ = some (.int .i64 (M.plus m.games more).A) ∧ w'.cell? ⟨b3, o3 + ls0 * 2 + 1, none⟩ = some (.int .i64 (M.plus m.games more).B))) _ ⟨HBk.out, blk_lt hn4, blk_lt hn6, Nat.lt_of_lt_of_le hbB3 HBk.out.size, (hcr 0).trans rfl, (hcr 1).trans rfl, (hcr 2).trans rfl, (hcq 0).trans rfl, (hcq 1).trans rfl, (hcq 2).trans rfl, (hcq 8).trans rfl, z0', z1'⟩ (by
                  rintro u u' hb ⟨hB, l_q4, l_q6, l_b3, k0, k1, k2, k3, k4, k5, k6, k7, k8⟩
                  exact ⟨hB.trans (hb.mono hB.size), kl l_q4 hb, kl l_q6 hb, kl l_b3 hb, kc hb l_q4 k0, kc hb l_q4 k1, kc hb l_q4 k2, kc hb l_q6 k3, kc hb l_q6 k4, kc hb l_q6 k5, kc hb l_q6 k6, kc hb l_b3 k7, kc hb l_b3 k8⟩)
                (try dsimp only at hkeep hS)
                have c40 := hS.2.2.2.2.1
                have c60 := hS.2.2.2.2.2.2.2.1
                clear hcr hcq hn4 hn6 y1 y2 hss htk hsg hg1 hgp hes z0' z1' HH4 HH6 HX5 HS1 HS2 hmore
                go_wp2_with fail
                refine wp_region_held_drew (S := (fun w' => Below w8.heap.size w8 w' ∧ q4 < w'.heap.size ∧ q6 < w'.heap.size ∧ b3 < w'.heap.size ∧ w'.cell? ⟨q4, 0, none⟩ = some (.slice B1 ls0 d1) ∧ w'.cell? ⟨q4, 1, none⟩ = some (.int .i64 m.games.A) ∧ w'.cell? ⟨q4, 2, none⟩ = some (.int .i64 m.games.B) ∧ w'.cell? ⟨q6, 0, none⟩ = some (.slice (some ⟨b3, o3, none⟩) ls1 d2) ∧ w'.cell? ⟨q6, 1, none⟩ = some (.int .i64 0) ∧ w'.cell? ⟨q6, 2, none⟩ = some (.int .i64 0) ∧ w'.cell? ⟨q6, 8, none⟩ = some (.int .i64 wi) ∧ w'.cell? ⟨b3, o3 + ls0 * 2, none⟩ = some (.int .i64 (M.plus m.games more).A) ∧ w'.cell? ⟨b3, o3 + ls0 * 2 + 1, none⟩ = some (.int .i64 (M.plus m.games more).B))) (by kernel_rfl) ?_ (fun hHeld0 => ?_)
                · (try dsimp only); (first | (go_keep; done) | (go_split_ands; (repeat' apply And.intro) <;> first | (go_keep; done) | (simp [*, zcA, zcP, zfA, zfP]; done) | (simp [zcA, zcP] <;> rfl) | (simp [*, zsS, zsO, zsA]; done) | ((first | refine (hc _ _ ?_).trans ?_ | refine (hf _ _ ?_).trans ?_) <;> first | assumption | (simp; done) | (simp; omega) | omega | (go_keep; done) | (simp [*, zcA, zcP, zfA, zfP]; done) | (simp [zcA, zcP]; rfl)) | (repeat' first | exact zbR _ _ | assumption | refine zbD ?_ | refine zbA ?_ ?_ _ | refine zbS ?_ ?_ _ | refine zbT ?_ (by assumption) ?_ | (simp; done) | (simp; omega) | omega)))
                refine tV ?_ 0 rfl (by kernel_rfl) (fun _ _ _ h => h) (by rfl) (by assumption) ?_ ?_; rotate_left; (focus (intro w hSw; (try dsimp only at hSw); go_simp; try with_reducible rfl)); try simp only [Act.put, zl, z0, z1]
                refine tV ?_ 1 rfl (by kernel_rfl) (fun _ _ _ h => h) (by rfl) (by assumption) ?_ ?_; rotate_left; (focus (intro w hSw; (try dsimp only at hSw); go_simp; try with_reducible rfl)); try simp only [Act.put, zl, z0, z1]
                refine tV ?_ 2 rfl (by kernel_rfl) (fun _ _ _ h => h) (by rfl) (by assumption) ?_ ?_; rotate_left; (focus (intro w hSw; (try dsimp only at hSw); go_simp; try with_reducible rfl)); try simp only [Act.put, zl, z0, z1]
                refine tV ?_ 3 rfl (by kernel_rfl) (fun _ _ _ h => h) (by rfl) (by assumption) ?_ ?_; rotate_left; (focus (intro w hSw; (try dsimp only at hSw); go_simp; try with_reducible rfl)); try simp only [Act.put, zl, z0, z1]
                refine tV ?_ 4 rfl (by kernel_rfl) (fun _ _ _ h => h) (by rfl) (by assumption) ?_ ?_; rotate_left; (focus (intro w hSw; (try dsimp only at hSw); go_simp; try with_reducible rfl)); try simp only [Act.put, zl, z0, z1]
                refine tV ?_ 5 rfl (by kernel_rfl) (fun _ _ _ h => h) (by rfl) (by assumption) ?_ ?_; rotate_left; (focus (intro w hSw; (try dsimp only at hSw); go_simp; try with_reducible rfl)); try simp only [Act.put, zl, z0, z1]
                refine tV ?_ 6 rfl (by kernel_rfl) (fun _ _ _ h => h) (by rfl) (by assumption) ?_ ?_; rotate_left; (focus (intro w hSw; (try dsimp only at hSw); go_simp; try with_reducible rfl)); try simp only [Act.put, zl, z0, z1]
                refine tV ?_ 7 rfl (by kernel_rfl) (fun _ _ _ h => h) (by rfl) (by assumption) ?_ ?_; rotate_left; (focus (intro w hSw; (try dsimp only at hSw); go_simp; try with_reducible rfl)); try simp only [Act.put, zl, z0, z1]
                refine tV ?_ 8 rfl (by kernel_rfl) (fun _ _ _ h => h) (by rfl) (by assumption) ?_ ?_; rotate_left; (focus (intro w hSw; (try dsimp only at hSw); go_simp; try with_reducible rfl)); try simp only [Act.put, zl, z0, z1]
                refine tV ?_ 9 rfl (by kernel_rfl) (fun _ _ _ h => h) (by rfl) (by assumption) ?_ ?_; rotate_left; (focus (intro w hSw; (try dsimp only at hSw); go_simp; try with_reducible rfl)); try simp only [Act.put, zl, z0, z1]
                refine tV ?_ 10 rfl (by kernel_rfl) (fun _ _ _ h => h) (by rfl) (by assumption) ?_ ?_; rotate_left; (focus (intro w hSw; (try dsimp only at hSw); go_simp; try with_reducible rfl)); try simp only [Act.put, zl, z0, z1]
                refine tV ?_ 11 rfl (by kernel_rfl) (fun _ _ _ h => h) (by rfl) (by assumption) ?_ ?_; rotate_left; (focus (intro w hSw; (try dsimp only at hSw); go_simp; try with_reducible rfl)); try simp only [Act.put, zl, z0, z1]
                refine tV ?_ 12 rfl (by kernel_rfl) (fun _ _ _ h => h) (by rfl) (by assumption) ?_ ?_; rotate_left; (focus (intro w hSw; (try dsimp only at hSw); go_simp; try with_reducible rfl)); try simp only [Act.put, zl, z0, z1]
                refine tV ?_ 13 rfl (by kernel_rfl) (fun _ _ _ h => h) (by rfl) (by assumption) ?_ ?_; rotate_left; (focus (intro w hSw; (try dsimp only at hSw); go_simp; try with_reducible rfl)); try simp only [Act.put, zl, z0, z1]
                refine tV ?_ 14 rfl (by kernel_rfl) (fun _ _ _ h => h) (by rfl) (by assumption) ?_ ?_; rotate_left; (focus (intro w hSw; (try dsimp only at hSw); go_simp; try with_reducible rfl)); try simp only [Act.put, zl, z0, z1]
                refine tV ?_ 15 rfl (by kernel_rfl) (fun _ _ _ h => h) (by rfl) (by assumption) ?_ ?_; rotate_left; (focus (intro w hSw; (try dsimp only at hSw); go_simp; try with_reducible rfl)); try simp only [Act.put, zl, z0, z1]
                refine wpAnyH_ready (rs := [16]) (by kernel_rfl) (by simp) ?_; refine consL 16 rfl (fun K hK => ?_) AllReadyH.nil; go_simp; (go_at_call 25; refine (sameSets_same B1 _ ls0 ls0 d1 d2 m.sets _ HLS0.out HLS0.out ((HR1.out.below (zbD HBx.out)).mono (zbD HBx.out).size) ((HR2.out.below (zbD HBx.out)).mono (zbD HBx.out).size) (by omega)).mono ?_; rintro e w9 ⟨rfl, hb⟩; replace hS := hkeep _ _ hb (by assumption)); refine hK.out _ _ ?_ (fun hHeld1 => ?_); (focus ((try dsimp only); exact hS)); clear hK K hHeld0; try simp only [Act.put, zl, z0, z1]
                refine tV ?_ 17 rfl (by kernel_rfl) (fun _ _ _ h => h) (by rfl) (by assumption) ?_ ?_; rotate_left; (focus (intro w hSw; (try dsimp only at hSw); go_simp; try with_reducible rfl)); try simp only [Act.put, zl, z0, z1]
                refine tV ?_ 18 rfl (by kernel_rfl) (fun _ _ _ h => h) (by rfl) (by assumption) ?_ ?_; rotate_left; (focus (intro w hSw; (try dsimp only at hSw); go_simp; try with_reducible rfl)); try simp only [Act.put, zl, z0, z1]
                refine tV ?_ 19 rfl (by kernel_rfl) (fun _ _ _ h => h) (by rfl) (by assumption) ?_ ?_; rotate_left; (focus (intro w hSw; (try dsimp only at hSw); go_simp; try with_reducible rfl)); try simp only [Act.put, zl, z0, z1]
                refine tV ?_ 20 rfl (by kernel_rfl) (fun _ _ _ h => h) (by rfl) (by assumption) ?_ ?_; rotate_left; (focus (intro w hSw; (try dsimp only at hSw); go_simp; try with_reducible rfl)); try simp only [Act.put, zl, z0, z1]
                refine tV ?_ 21 rfl (by kernel_rfl) (fun _ _ _ h => h) (by rfl) (by assumption) ?_ ?_; rotate_left; (focus (intro w hSw; (try dsimp only at hSw); go_simp; try with_reducible rfl)); try simp only [Act.put, zl, z0, z1]
                refine tV ?_ 22 rfl (by kernel_rfl) (fun _ _ _ h => h) (by rfl) (by assumption) ?_ ?_; rotate_left; (focus (intro w hSw; (try dsimp only at hSw); go_simp; try with_reducible rfl)); try simp only [Act.put, zl, z0, z1]
                refine tV ?_ 23 rfl (by kernel_rfl) (fun _ _ _ h => h) (by rfl) (by assumption) ?_ ?_; rotate_left; (focus (intro w hSw; (try dsimp only at hSw); go_simp; try with_reducible rfl)); try simp only [Act.put, zl, z0, z1]
                refine tV ?_ 24 rfl (by kernel_rfl) (fun _ _ _ h => h) (by rfl) (by assumption) ?_ ?_; rotate_left; (focus (intro w hSw; (try dsimp only at hSw); go_simp; try with_reducible rfl)); try simp only [Act.put, zl, z0, z1]
                refine tV ?_ 25 rfl (by kernel_rfl) (fun _ _ _ h => h) (by rfl) (by assumption) ?_ ?_; rotate_left; (focus (intro w hSw; (try dsimp only at hSw); go_simp; try with_reducible rfl)); try simp only [Act.put, zl, z0, z1]
                refine tV ?_ 26 rfl (by kernel_rfl) (fun _ _ _ h => h) (by rfl) (by assumption) ?_ ?_; rotate_left; (focus (intro w hSw; (try dsimp only at hSw); go_simp; try with_reducible rfl)); try simp only [Act.put, zl, z0, z1]
                refine tV ?_ 27 rfl (by kernel_rfl) (fun _ _ _ h => h) (by rfl) (by assumption) ?_ ?_; rotate_left; (focus (intro w hSw; (try dsimp only at hSw); go_simp; try with_reducible rfl)); try simp only [Act.put, zl, z0, z1]
                refine tV ?_ 28 rfl (by kernel_rfl) (fun _ _ _ h => h) (by rfl) (by assumption) ?_ ?_; rotate_left; (focus (intro w hSw; (try dsimp only at hSw); go_simp; try with_reducible rfl)); try simp only [Act.put, zl, z0, z1]
                refine tV ?_ 29 rfl (by kernel_rfl) (fun _ _ _ h => h) (by rfl) (by assumption) ?_ ?_; rotate_left; (focus (intro w hSw; (try dsimp only at hSw); go_simp; try with_reducible rfl)); try simp only [Act.put, zl, z0, z1]
                refine tV ?_ 30 rfl (by kernel_rfl) (fun _ _ _ h => h) (by rfl) (by assumption) ?_ ?_; rotate_left; (focus (intro w hSw; (try dsimp only at hSw); go_simp; try with_reducible rfl)); try simp only [Act.put, zl, z0, z1]
                refine tV ?_ 31 rfl (by kernel_rfl) (fun _ _ _ h => h) (by rfl) (by assumption) ?_ ?_; rotate_left; (focus (intro w hSw; (try dsimp only at hSw); go_simp; try with_reducible rfl)); try simp only [Act.put, zl, z0, z1]
                refine tV ?_ 33 rfl (by kernel_rfl) (fun _ _ _ h => h) (by rfl) (by assumption) ?_ ?_; rotate_left; (focus (intro w hSw; (try dsimp only at hSw); go_simp; try with_reducible rfl)); try simp only [Act.put, zl, z0, z1]
                refine tV ?_ 34 rfl (by kernel_rfl) (fun _ _ _ h => h) (by rfl) (by assumption) ?_ ?_; rotate_left; (focus (intro w hSw; (try dsimp only at hSw); go_simp; try with_reducible rfl)); try simp only [Act.put, zl, z0, z1]
                refine tV ?_ 35 rfl (by kernel_rfl) (fun _ _ _ h => h) (by rfl) (by assumption) ?_ ?_; rotate_left; (focus (intro w hSw; (try dsimp only at hSw); go_simp; try with_reducible rfl)); try simp only [Act.put, zl, z0, z1]
                refine wpAnyH_ready (rs := [32]) (by kernel_rfl) (by simp) ?_; refine consL 32 rfl (fun K hK => ?_) AllReadyH.nil; go_simp; (go_at_call 26; refine (sum_val _ _ _ _ (by first | exact HSC.out | exact HSD.out) (by have a := HG1b.out; have b := HG2b.out; have c := HGP.out; omega)).mono ?_; rintro e w9 ⟨rfl, hb⟩; replace hS := hkeep _ _ hb (by assumption)); refine hK.out _ _ ?_ (fun hHeld2 => ?_); (focus ((try dsimp only); exact hS)); clear hK K hHeld1; try simp only [Act.put, zl, z0, z1]
                refine wpAnyH_ready (rs := [36]) (by kernel_rfl) (by simp) ?_; refine consL 36 rfl (fun K hK => ?_) AllReadyH.nil; go_simp; (go_at_call 26; refine (sum_val _ _ _ _ (by first | exact HSC.out | exact HSD.out) (by have a := HG1b.out; have b := HG2b.out; have c := HGP.out; omega)).mono ?_; rintro e w9 ⟨rfl, hb⟩; replace hS := hkeep _ _ hb (by assumption)); refine hK.out _ _ ?_ (fun hHeld3 => ?_); (focus ((try dsimp only); exact hS)); clear hK K hHeld2; try simp only [Act.put, zl, z0, z1]
                refine tV ?_ 37 rfl (by kernel_rfl) (fun _ _ _ h => h) (by rfl) (by assumption) ?_ ?_; rotate_left; (focus (intro w hSw; (try dsimp only at hSw); go_simp; try with_reducible rfl)); try simp only [Act.put, zl, z0, z1]
                refine tV ?_ 38 rfl (by kernel_rfl) (fun _ _ _ h => h) (by rfl) (by assumption) ?_ ?_; rotate_left; (focus (intro w hSw; (try dsimp only at hSw); go_simp; try with_reducible rfl)); try simp only [Act.put, zl, z0, z1]
                refine tV ?_ 39 rfl (by kernel_rfl) (fun _ _ _ h => h) (by rfl) (by assumption) ?_ ?_; rotate_left; (focus (intro w hSw; (try dsimp only at hSw); go_simp; try with_reducible rfl)); try simp only [Act.put, zl, z0, z1]
                refine tV ?_ 40 rfl (by kernel_rfl) (fun _ _ _ h => h) (by rfl) (by assumption) ?_ ?_; rotate_left; (focus (intro w hSw; (try dsimp only at hSw); go_simp; try with_reducible rfl)); try simp only [Act.put, zl, z0, z1]
                refine tV ?_ 41 rfl (by kernel_rfl) (fun _ _ _ h => h) (by rfl) (by assumption) ?_ ?_; rotate_left; (focus (intro w hSw; (try dsimp only at hSw); go_simp; try with_reducible rfl)); try simp only [Act.put, zl, z0, z1]
                refine tV ?_ 42 rfl (by kernel_rfl) (fun _ _ _ h => h) (by rfl) (by assumption) ?_ ?_; rotate_left; (focus (intro w hSw; (try dsimp only at hSw); go_simp; try with_reducible rfl)); try simp only [Act.put, zl, z0, z1]
                refine tV ?_ 43 rfl (by kernel_rfl) (fun _ _ _ h => h) (by rfl) (by assumption) ?_ ?_; rotate_left; (focus (intro w hSw; (try dsimp only at hSw); go_simp; try with_reducible rfl)); try simp only [Act.put, zl, z0, z1]
                refine tV ?_ 44 rfl (by kernel_rfl) (fun _ _ _ h => h) (by rfl) (by assumption) ?_ ?_; rotate_left; (focus (intro w hSw; (try dsimp only at hSw); go_simp; try with_reducible rfl)); try simp only [Act.put, zl, z0, z1]
                rcases y3 with rfl | rfl <;> (try simp only [hmb, hmd, beq_self_eq_true, decide_true])
                · refine takeL 45 rfl (by kernel_rfl) (by kernel_rfl) (by kernel_rfl) (fun _ _ _ h => h) (Or.inr ⟨by rfl, rfl⟩) (by assumption) ?_; try simp only [Act.put, zl, z0, z1]
                  refine takeL 46 rfl (by kernel_rfl) (by kernel_rfl) (by kernel_rfl) (fun _ _ _ h => h) (Or.inr ⟨by rfl, rfl⟩) (by assumption) ?_; try simp only [Act.put, zl, z0, z1]
                  refine takeL 47 rfl (by kernel_rfl) (by kernel_rfl) (by kernel_rfl) (fun _ _ _ h => h) (Or.inr ⟨by rfl, rfl⟩) (by assumption) ?_; try simp only [Act.put, zl, z0, z1]
                  refine takeL 48 rfl (by kernel_rfl) (by kernel_rfl) (by kernel_rfl) (fun _ _ _ h => h) (Or.inr ⟨by rfl, rfl⟩) (by assumption) ?_; try simp only [Act.put, zl, z0, z1]
                  refine tV ?_ 49 rfl (by kernel_rfl) (fun _ _ _ h => h) (by rfl) (by assumption) ?_ ?_; rotate_left; (focus (intro w hSw; (try dsimp only at hSw); go_simp; try with_reducible rfl)); try simp only [Act.put, zl, z0, z1]
                  refine tV ?_ 50 rfl (by kernel_rfl) (fun _ _ _ h => h) (by rfl) (by assumption) ?_ ?_; rotate_left; (focus (intro w hSw; (try dsimp only at hSw); go_simp; try with_reducible rfl)); try simp only [Act.put, zl, z0, z1]
                  refine tV ?_ 51 rfl (by kernel_rfl) (fun _ _ _ h => h) (by rfl) (by assumption) ?_ ?_; rotate_left; (focus (intro w hSw; (try dsimp only at hSw); go_simp; try with_reducible rfl)); try simp only [Act.put, zl, z0, z1]
                  refine wpAnyH_ready (rs := [52]) (by kernel_rfl) (by simp) ?_; refine consL 52 rfl (fun K hK => ?_) AllReadyH.nil; go_simp; (go_at_call 10; refine (works_any _).mono ?_; rintro e w9 ⟨rfl, hb⟩; replace hS := hkeep _ _ hb (by assumption)); refine hK.out _ _ ?_ (fun hHeld4 => ?_); (focus ((try dsimp only); exact hS)); clear hK K hHeld3; try simp only [Act.put, zl, z0, z1]
                  refine tV ?_ 53 rfl (by kernel_rfl) (fun _ _ _ h => h) (by rfl) (by assumption) ?_ ?_; rotate_left; (focus (intro w hSw; (try dsimp only at hSw); go_simp; try with_reducible rfl)); try simp only [Act.put, zl, z0, z1]
                  refine tV ?_ 54 rfl (by kernel_rfl) (fun _ _ _ h => h) (by rfl) (by assumption) ?_ ?_; rotate_left; (focus (intro w hSw; (try dsimp only at hSw); go_simp; try with_reducible rfl)); try simp only [Act.put, zl, z0, z1]
                  refine wpAnyH_done (by kernel_rfl) ?_ _
                  have HB9 := hide (HB.out.trans (hS.1.mono HB.out.size))
                  go_wp2_with fail
                  go_ret
                  exact ⟨rfl, HB9.out⟩
                · refine tV ?_ 45 rfl (by kernel_rfl) (fun _ _ _ h => h) (by rfl) (by assumption) ?_ ?_; rotate_left; (focus (intro w hSw; (try dsimp only at hSw); go_simp; try with_reducible rfl)); try simp only [Act.put, zl, z0, z1]
                  refine tV ?_ 46 rfl (by kernel_rfl) (fun _ _ _ h => h) (by rfl) (by assumption) ?_ ?_; rotate_left; (focus (intro w hSw; (try dsimp only at hSw); go_simp; try with_reducible rfl)); try simp only [Act.put, zl, z0, z1]
                  refine tV ?_ 47 rfl (by kernel_rfl) (fun _ _ _ h => h) (by rfl) (by assumption) ?_ ?_; rotate_left; (focus (intro w hSw; (try dsimp only at hSw); go_simp; try with_reducible rfl)); try simp only [Act.put, zl, z0, z1]
                  refine tV ?_ 48 rfl (by kernel_rfl) (fun _ _ _ h => h) (by rfl) (by assumption) ?_ ?_; rotate_left; (focus (intro w hSw; (try dsimp only at hSw); go_simp; try with_reducible rfl)); try simp only [Act.put, zl, z0, z1]
                  refine tV ?_ 49 rfl (by kernel_rfl) (fun _ _ _ h => h) (by rfl) (by assumption) ?_ ?_; rotate_left; (focus (intro w hSw; (try dsimp only at hSw); go_simp; try with_reducible rfl)); try simp only [Act.put, zl, z0, z1]
                  refine tV ?_ 50 rfl (by kernel_rfl) (fun _ _ _ h => h) (by rfl) (by assumption) ?_ ?_; rotate_left; (focus (intro w hSw; (try dsimp only at hSw); go_simp; try with_reducible rfl)); try simp only [Act.put, zl, z0, z1]
                  refine tV ?_ 51 rfl (by kernel_rfl) (fun _ _ _ h => h) (by rfl) (by assumption) ?_ ?_; rotate_left; (focus (intro w hSw; (try dsimp only at hSw); go_simp; try with_reducible rfl)); try simp only [Act.put, zl, z0, z1]
                  refine wpAnyH_ready (rs := [52]) (by kernel_rfl) (by simp) ?_; refine consL 52 rfl (fun K hK => ?_) AllReadyH.nil; go_simp; (go_at_call 10; refine (works_any _).mono ?_; rintro e w9 ⟨rfl, hb⟩; replace hS := hkeep _ _ hb (by assumption)); refine hK.out _ _ ?_ (fun hHeld4 => ?_); (focus ((try dsimp only); exact hS)); clear hK K hHeld3; try simp only [Act.put, zl, z0, z1]
                  refine tV ?_ 53 rfl (by kernel_rfl) (fun _ _ _ h => h) (by rfl) (by assumption) ?_ ?_; rotate_left; (focus (intro w hSw; (try dsimp only at hSw); go_simp; try with_reducible rfl)); try simp only [Act.put, zl, z0, z1]
                  refine tV ?_ 54 rfl (by kernel_rfl) (fun _ _ _ h => h) (by rfl) (by assumption) ?_ ?_; rotate_left; (focus (intro w hSw; (try dsimp only at hSw); go_simp; try with_reducible rfl)); try simp only [Act.put, zl, z0, z1]
                  refine wpAnyH_done (by kernel_rfl) ?_ _
                  have HB9 := hide (HB.out.trans (hS.1.mono HB.out.size))
                  go_wp2_with fail
                  go_ret
                  exact ⟨rfl, HB9.out⟩
end Go.Proofs.Ytbjmnlhehkcakaa

namespace Go.Proofs.Ytbjmnlhehkcakaa
open Go.ChangeShapes Go.WideShapes Go.ChangeAt Go.RowKit Go.Deep Go.Joins

section
variable {H : Type} {enc : TypeId × Value → H}
theorem law_lift_sized {C : Checked} {F : FuncId} {fn : Func} {s : ChangeSpec} {bt : TypeId} {os : Os} (started : os.Started) (own : ownKnob C.prog.godebug = none) (noInit : C.prog.inits.idxOf? F = none) (hfn : C.prog.funcs[F]? = some fn)
    (hrt : fn.resultTypes = #[bt]) (hbt : C.prog.underlying bt = some .bool) (hsv : s.vars = []) (hl : laidOutB C.prog = true) (hr : ∀ t ∈ fn.params.toList, C.prog.readableRec t = true ∧ t < C.prog.types.size)
    (hs : ∀ ds : List (DataW H), ds.length = fn.params.toList.length → s.fn H ds = { results := [.lit (.bool true)], args := ds })
    (witness : ∃ (w : World) (tape : Tape) (i : Input), w.os = os ∧ (w.forCall tape i).Shaped C.prog ∧ i.vars = [] ∧ Input.okWide C.prog (w.forCall tape i) .any w.heap.size F i ∧
      s.pre6 enc C.prog fn [] false (w.forCall tape i).memory i.args ∧ Assume.holds {} C.prog (lone (Frame.enter C.prog F i.args .normal) [] (w.forCall tape i)))
    (contract : ∀ (W : World) (base : Nat) (args : Array Value) (ds : List (DataW H)) (p : List MemPlace), (∀ (j : Nat) t v, fn.params[j]? = some t → args[j]? = some v → Value.okWide C.prog W .any base t v) →
      DataW.TrodAll enc C.prog W 0 (fun _ => true) true fn.params.toList args.toList ds p → (∀ (j : Nat) t d, fn.params.toList[j]? = some t → ds[j]? = some d → ∀ n ∈ d.weights C.prog t, n ≤ reachBytes) → Calls C.prog F args W fun e w' => e = .returned (.bool true) ∧ Below W.heap.size W w') (fresh handsOn again : Bool) :
    ReturnsInHanded {} C os F .any (s.pre6 enc C.prog fn [] false) (s.post enc C.prog fn false fresh handsOn again) := by
  refine returnsInHanded_of_change_sized own started noInit hfn witness ?_
  intro W base args ds gs before hval hW hc hz _
  have hW1 := hW
  obtain ⟨p, q, hA, hV, hpq, _, hn⟩ := hW
  have hA1 : DataW.TrodAll enc C.prog W 0 (fun _ => true) true fn.params.toList args.toList ds p := hA
  rw [hsv] at hV
  obtain ⟨_, rfl⟩ := trodVars_none hV
  have hlen : ds.length = fn.params.toList.length := by
    clear hW1 hA hval hpq hc contract witness hz
    generalize fn.params.toList = ts at hA1
    generalize args.toList = vs at hA1
    induction ts generalizing vs ds p with
    | nil => obtain ⟨_, rfl, _⟩ := trodAll_nil hA1; rfl
    | cons t ts ih =>
      obtain ⟨_, _, _, _, _, _, rfl, rfl, rfl, _, h1⟩ := trodAll_cons hA1
      rw [List.length_cons, List.length_cons, ih _ _ _ h1]
  refine (contract W base args ds p hval hA1 ?_).mono fun e W' ⟨he, hb⟩ => ?_
  · intro j t d ht hd n hn'
    have hjt : j < fn.params.toList.length := (List.getElem?_eq_some_iff.1 ht).1
    have hjd : j < ds.length := (List.getElem?_eq_some_iff.1 hd).1
    have hm := DataW.weights_mem_each (P := C.prog) (ts := fn.params.toList ++ s.plain.varTypes C.prog) (ds := ds ++ gs) (j := j) (by rw [List.getElem?_append_left hjt]; exact ht) (by rw [List.getElem?_append_left hjd]; exact hd) n hn'
    have := List.all_eq_true.1 hz _ hm
    simpa using this
  · subst he
    exact ⟨_, rfl, law_post hrt hbt hsv (hs ds hlen) hl hr hW1 hb⟩

theorem int_bytes : Try.prog.bytesOf 3 = 8 := by kernel_rfl
theorem points_fields : ∃ fs : Array Field, Try.prog.underlying 26 = some (.struct fs) ∧ fs.toList.map (·.type) = [3, 24] ∧ ∃ f : Field, fs[1]? = some f ∧ f.type = 24 ∧ f.offset = 1 := ⟨_, Try.underlying26, rfl, _, rfl, rfl, rfl⟩
theorem points_bytes {w : World} {base : Nat} {held : Bool} {first : Int} {A : Option Addr} {n c : Nat} {d : DataW H} {p : List MemPlace} (h : DataW.Trod enc Try.prog w base (fun _ => true) held 26 (.agg #[.int .i64 first, .slice A n c]) d p)
    (hz : ∀ k ∈ d.weights Try.prog 26, k ≤ reachBytes) : n * 8 ≤ reachBytes := by
  obtain ⟨fs, hu, hts, f, hf1, hft, hfo⟩ := points_fields
  obtain ⟨fuel, hf⟩ := h
  obtain ⟨xs, k, _, hx, _, hxl, hg⟩ := DataW.trod_struct hu hf
  have h1 := hg 1 f hf1
  have hcell : (((Value.agg #[.int .i64 first, .slice A n c]).cells.toList.drop f.offset).take (Try.prog.cellsOf f.type)) = [.slice A n c] := by
    rw [hfo, hft]
    have hc : Try.prog.cellsOf 24 = 1 := by kernel_rfl
    rw [hc]
    rfl
  rw [hcell, hft] at h1
  have hlen : 1 < xs.length := by rw [hxl]; exact (Array.getElem?_eq_some_iff.1 hf1).1
  rw [List.getElem?_eq_getElem hlen] at h1
  have hd : d = .agg (xs.map (·.1)) := congrArg Prod.fst hx
  rcases Go.ChangeShapes.open_ints Try.underlying24 Try.underlying3 intCells h1 with ⟨hcs, _⟩ | ⟨a, len, cap, zs, hcs, _, hle, _, hall, hy, _, _⟩
  · simp only [List.cons.injEq, Value.slice.injEq, and_true] at hcs
    obtain ⟨_, rfl, _⟩ := hcs
    omega
  · simp only [List.cons.injEq, Value.slice.injEq, and_true] at hcs
    obtain ⟨_, rfl, rfl⟩ := hcs
    simp only [if_true] at hall
    have hm : (xs.map (·.1))[1]? = some (xs[1]'hlen).1 := by rw [List.getElem?_map, List.getElem?_eq_getElem hlen]; rfl
    rw [hy] at hm
    have hin := DataW.weights_mem_each (P := Try.prog) (ts := [3, 24]) (ds := xs.map (·.1)) (j := 1) rfl hm
    have hw := hz
    rw [hd] at hw
    unfold DataW.weights at hw
    rw [hu] at hw
    dsimp only at hw
    rw [hts] at hw
    have hk := hw _ (hin (((Go.ChangeShapes.lits .i64 (zs.take n) : List (DataW H)).length + (Go.ChangeShapes.lits .i64 (zs.drop n) : List (DataW H)).length) * Try.prog.bytesOf 3) (by simp [DataW.weights, Try.underlying24]))
    rw [int_bytes] at hk
    have h2 : (Go.ChangeShapes.lits .i64 (zs.take n) : List (DataW H)).length = n := by simp [Go.ChangeShapes.lits]; omega
    rw [h2] at hk
    have := Nat.mul_le_mul_right 8 (Nat.le_add_right n (Go.ChangeShapes.lits .i64 (zs.drop n) : List (DataW H)).length)
    omega
end

theorem Try.ownStep : ownKnob Try.prog.godebug = none := by kernel_rfl

set_option maxRecDepth 100000 in
theorem scoreStep_call (H : Type) (enc : TypeId × Value → H) (W : World) (base : Nat) (args : Array Value) (ds : List (DataW H)) (p : List MemPlace) (hval : ∀ (j : Nat) t v, Try.f5.params[j]? = some t → args[j]? = some v → Value.okWide Try.prog W .any base t v)
    (hA : DataW.TrodAll enc Try.prog W 0 (fun _ => true) true Try.f5.params.toList args.toList ds p) (hz : ∀ (j : Nat) t d, Try.f5.params.toList[j]? = some t → ds[j]? = some d → ∀ n ∈ d.weights Try.prog t, n ≤ reachBytes) : Calls Try.prog 5 args W fun e W' => e = .returned (.bool true) ∧ Below W.heap.size W W' := by
  rw [Try.params5] at hA hval hz
  obtain ⟨v0, v1, v2, d0, d1, d2, p0, p1, p2, rfl, rfl, rfl, h0, h1, h2⟩ := trodAll_three hA
  obtain ⟨f, rfl⟩ := open_fmt (hval 0 23 v0 rfl rfl) h0
  obtain ⟨first, A, n, c, xs, rfl, hwf, hnc, hcm, hn, hr, hxw, hA0⟩ := open_points (hval 1 26 v1 rfl rfl) h1
  obtain ⟨more, rfl, _, _, _⟩ := open_int Try.underlying3 (hval 2 3 v2 rfl rfl) h2
  have hby := points_bytes h1 (hz 1 26 d1 rfl rfl)
  exact stepLaw_any f first more A n c xs W hn hr hA0 (by unfold reachBytes at hby; omega)

set_option maxRecDepth 100000 in
theorem ScoreStep_holds : Rows.ScoreStepSaid :=
  OpenClaim.holds_of_wide (p := Try.pinned) (s := Rows.scoreStepSpec) (c := Rows.scoreStepRow) 5 Try.f5 rfl rfl rfl rfl rfl rfl rfl ⟨rfl, rfl, rfl, rfl, rfl⟩ rfl rfl rfl rfl rfl (by kernel_rfl) Try.func5 (by kernel_rfl)
    (of_decide_eq_true (by kernel_rfl)) (by unfold Func.isWrapper; first | (rw [if_pos (by decide +kernel)]; kernel_rfl) | (rw [if_neg (by decide +kernel)]; exact ⟨rfl, rfl⟩))
    (fun os started H enc _ => law_lift_sized (C := Try.checked) (F := 5) (fn := Try.f5) (s := Rows.scoreStepSpec) (bt := 4) started Try.ownStep (by kernel_rfl) Try.func5 (by kernel_rfl) Try.underlying4 rfl laidOut (of_decide_eq_true (by kernel_rfl))
      (fun ds hds => match ds, hds with | [_, _, _], _ => rfl)
      (ChangeSpec.witness6 (enc := enc) (C := Try.checked) false ⟨#[], #[.agg #[.int .i64 0, .int .i64 0, .bool false, .int .i64 0, .int .i64 0, .int .i64 0, .int .i64 0, .int .i64 0, .int .i64 0, .bool false], .agg #[.int .i64 0, .slice none 0 0], .int .i64 0], []⟩ 8 (by kernel_rfl) (by kernel_rfl) (by kernel_rfl) (by kernel_rfl))
      (fun W base args ds p hval hA hz => scoreStep_call H enc W base args ds p hval hA hz) _ _ _)

end Go.Proofs.Ytbjmnlhehkcakaa
