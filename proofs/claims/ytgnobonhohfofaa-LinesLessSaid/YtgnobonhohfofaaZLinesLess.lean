/-
  For every view, every box and whatever is less known the law LinesLess returns true and leaves its arguments as they were. No condition.
-/
import Derived.IntWalk
import Derived.Test.YtgnobonhohfofaaZB01
import Derived.Test.YtgnobonhohfofaaZB02
import Derived.Test.YtgnobonhohfofaaZB03
import Derived.Test.YtgnobonhohfofaaZB04
namespace Go.Proofs.Ytgnobonhohfofaa
open Go.RowKit
attribute [local go_sem ↓] Go.wp_at_zero Go.wp_at_succ

namespace L
def wid (k : Int) (s : St) : St := ⟨s.p, s.q, s.lo - k, s.hi + k⟩
def wider (v : Vw) (k : Int) : Vw := { v with ss := v.ss.map (wid k) }
def mix (ss : List St) (k : Int) (i : Nat) : List St := (ss.take i).map (wid k) ++ ss.drop i
theorem mix_zero (ss : List St) (k : Int) : mix ss k 0 = ss := by unfold mix; simp
theorem mix_all (ss : List St) (k : Int) : mix ss k ss.length = ss.map (wid k) := by unfold mix; simp
theorem mix_length (ss : List St) (k : Int) (i : Nat) : (mix ss k i).length = ss.length := by unfold mix; simp; omega
theorem mix_at {ss : List St} {k : Int} {i : Nat} {s : St} (h : ss[i]? = some s) : (mix ss k i)[i]? = some s := by
  have hl : i < ss.length := (List.getElem?_eq_some_iff.1 h).1
  unfold mix
  rw [List.getElem?_append_right (by simp; omega), List.length_map, List.length_take, Nat.min_eq_left (by omega), Nat.sub_self, List.getElem?_drop, Nat.add_zero]
  exact h
theorem mix_next {ss : List St} {k : Int} {i : Nat} {s : St} (h : ss[i]? = some s) : mix ss k (i + 1) = (mix ss k i).set i (wid k s) := by
  have hl : i < ss.length := (List.getElem?_eq_some_iff.1 h).1
  have h1 : ((ss.take i).map (wid k)).length = i := by simp; omega
  unfold mix
  rw [List.set_append_right _ _ (by omega), h1, Nat.sub_self, List.take_add_one, h, List.drop_eq_getElem_cons hl, List.set_cons_zero]
  simp
end L
theorem flatS_set : ∀ {ss : List L.St} {i : Nat} {s t : L.St}, ss[i]? = some s → t.p = s.p → t.q = s.q → flatS (ss.set i t) = ((flatS ss).set (i * 4 + 2) (.int .i64 t.lo)).set (i * 4 + 3) (.int .i64 t.hi)
  | [], i, s, t, h, _, _ => by simp at h
  | a :: r, 0, s, t, h, hp, hq => by
    have h' : a = s := Option.some.inj h
    subst h'
    show [Value.int .i64 t.p, .int .i64 t.q, .int .i64 t.lo, .int .i64 t.hi] ++ flatS r = _
    rw [hp, hq]
    rfl
  | a :: r, i + 1, s, t, h, hp, hq => by
    have ih := flatS_set (ss := r) (i := i) (s := s) (t := t) h hp hq
    have e1 : (i + 1) * 4 + 2 = i * 4 + 2 + 4 := by omega
    have e2 : (i + 1) * 4 + 3 = i * 4 + 3 + 4 := by omega
    rw [e1, e2]
    show [Value.int .i64 a.p, .int .i64 a.q, .int .i64 a.lo, .int .i64 a.hi] ++ flatS (r.set i t) = _
    rw [ih]
    rfl

theorem wider_results {Z : World} {g : Nat} {x0 x1 x2 x3 x4 x5 x6 : Value} {cs tmps : Array Value} (h3 : Z.heap[g]? = some (.cells cs 26 (0, 0)))
    (e3 : cs = #[x0, x1, x2, x3, x4, x5, x6]) (t2 : tmps[4]? = some (.pointer (some ⟨g, 0, none⟩))) :
    (results Try.f22 tmps).run Try.prog Z = .ok (.agg #[x0, x1, x2, x3, x4, x5, x6]) Z := by
  subst e3
  have k0 : Z.cell? ⟨g, 0, none⟩ = some x0 := blk_cell h3 0
  have k1 : Z.cell? ⟨g, 1, none⟩ = some x1 := blk_cell h3 1
  have k2 : Z.cell? ⟨g, 2, none⟩ = some x2 := blk_cell h3 2
  have k3 : Z.cell? ⟨g, 3, none⟩ = some x3 := blk_cell h3 3
  have k4 : Z.cell? ⟨g, 4, none⟩ = some x4 := blk_cell h3 4
  have k5 : Z.cell? ⟨g, 5, none⟩ = some x5 := blk_cell h3 5
  have k6 : Z.cell? ⟨g, 6, none⟩ = some x6 := blk_cell h3 6
  simp [results, Try.results22, go_sem, t2, k0, k1, k2, k3, k4, k5, k6]

theorem own_view_ne {w : World} {base g o n c : Nat} {xs : List Value} {cs : Array Value} (h : w.ownsRow base 54 4 (.slice (some ⟨g, 0, none⟩) n c) n xs) (ho : w.heap[o]? = some (.cells cs 26 (0, 0))) : g ≠ o := by
  rintro rfl
  obtain ⟨_, h2⟩ := h
  rcases h2 with ⟨h2, _⟩ | ⟨g', cap, cur, hv, _, hh, _⟩
  · cases h2
  · cases hv
    rw [hh] at ho
    cases ho

set_option maxRecDepth 100000 in
set_option maxHeartbeats 3200000 in
theorem Wider_any (v : L.Vw) (A : Option Addr) (n c : Nat) (k : Int) (w : World) (hn : v.ss.length = n) (hr : RdS w w.heap.size A v.ss) (hA : A = none → c = 0) (h40 : n ≤ 1000) (hk0 : 0 ≤ k) (hk1 : k ≤ 1000) (hb : ∀ s ∈ v.ss, -1000 ≤ s.lo ∧ s.lo ≤ 1000 ∧ -1000 ≤ s.hi ∧ s.hi ≤ 1000) :
    Calls Try.prog 22 #[.agg #[.int .i64 v.size, .slice A n c, .int .i64 v.wrong, .int .i64 v.hxl, .int .i64 v.hxh, .int .i64 v.hyl, .int .i64 v.hyh], .int .i64 k] w fun e w' => ∃ A' c', e = .returned (.agg #[.int .i64 v.size, .slice A' n c', .int .i64 v.wrong, .int .i64 v.hxl, .int .i64 v.hxh, .int .i64 v.hyl, .int .i64 v.hyh]) ∧ w'.ownsRow w.heap.size 54 4 (.slice A' n c') n (flatS (v.ss.map (L.wid k))) ∧ Below w.heap.size w w' := by
  have HN := hide hn
  have HR := hide hr
  have HBD := hide hb
  clear hn hr hb
  go_enter Try.func22, Try.ntmps22
  go_wp2_with (go_at_call 26; refine (Copy_any v A n c _ HN.out ((HR.out.below (by (repeat' first | exact zbR _ _ | assumption | refine zbD ?_ | refine zbA ?_ ?_ _ | refine zbS ?_ ?_ _ | refine zbT ?_ (by assumption) ?_ | (simp; done) | (simp; omega) | omega))).mono (by first | (simp; done) | (simp; omega) | omega)) hA h40).mono ?_; rintro e w2 ⟨A', c', rfl, hown, hb2⟩; have HO := hide hown; clear hown)
  have q2 := hb2.size
  (try simp only [World.size_alloc] at q2)
  obtain ⟨W1, hW1⟩ : ∃ W1, w2.alloc (.cells #[.int .i64 v.size, .slice A' n c', .int .i64 v.wrong, .int .i64 v.hxl, .int .i64 v.hxh, .int .i64 v.hyl, .int .i64 v.hyh] 26) = W1 := ⟨_, rfl⟩
  have go : W1.heap[w2.heap.size]? = some (.cells #[.int .i64 v.size, .slice A' n c', .int .i64 v.wrong, .int .i64 v.hxl, .int .i64 v.hxh, .int .i64 v.hyl, .int .i64 v.hyh] 26 (0, 0)) := by rw [← hW1]; exact World.alloc_heap_new _ _
  have gr : W1.heap[w.heap.size + 1]? = some (.cells #[.int .i64 0, .slice none 0 0, .int .i64 0, .int .i64 0, .int .i64 0, .int .i64 0, .int .i64 0] 26 (0, 0)) := by
    rw [← hW1]; exact (Below.heap_alloc _ _ _ (by omega)).trans ((hb2.block (w.heap.size + 1) (by first | (simp; done) | (simp; omega) | omega)).trans blk_new2)
  have gown : W1.ownsRow (w.heap.size + 1 + 1) 54 4 (.slice A' n c') n (flatS (L.mix v.ss k 0)) := by rw [← hW1, L.mix_zero]; exact (owns_mono HO.out (by simp)).alloc _
  have gB : Below w.heap.size w W1 := by rw [← hW1]; (repeat' first | exact zbR _ _ | assumption | refine zbD ?_ | refine zbA ?_ ?_ _ | refine zbS ?_ ?_ _ | refine zbT ?_ (by assumption) ?_ | (simp; done) | (simp; omega) | omega)
  have gs : W1.heap.size = w2.heap.size + 1 := by rw [← hW1]; simp
  rw [hW1]
  obtain ⟨o, ho⟩ : ∃ o, w2.heap.size = o := ⟨_, rfl⟩
  rw [ho] at go gs q2
  rw [ho]
  have GR := hide gr
  have GB := hide gB
  clear hW1 hb2 HO gr gB
  go_loopw [6] (fun i wr => ∃ j : Nat, j ≤ n ∧ i = .int .i64 j ∧ Hid (wr.ownsRow (w.heap.size + 1 + 1) 54 4 (.slice A' n c') n (flatS (L.mix v.ss k j))) ∧ wr.heap[o]? = some (.cells #[.int .i64 v.size, .slice A' n c', .int .i64 v.wrong, .int .i64 v.hxl, .int .i64 v.hxh, .int .i64 v.hyl, .int .i64 v.hyh] 26 (0, 0)) ∧ Below (w.heap.size + 1 + 1) W1 wr) (fun i _ => n - (intOf i).toNat)
  case atStart => exact ⟨0, by omega, rfl, hide gown, go, Below.refl _ _⟩
  case round =>
    obtain ⟨j, hj, rfl, hO, hgo, hB⟩ := hrel
    have qB := hB.size
    have lo := blk_lt hgo
    have co0 := (blk_cell hgo 0).trans rfl; have co1 := (blk_cell hgo 1).trans rfl; have co2 := (blk_cell hgo 2).trans rfl; have co3 := (blk_cell hgo 3).trans rfl; have co4 := (blk_cell hgo 4).trans rfl; have co5 := (blk_cell hgo 5).trans rfl; have co6 := (blk_cell hgo 6).trans rfl
    have HGO := hide hgo
    clear gown go
    by_cases hlt : j < n
    · obtain ⟨s, hs⟩ : ∃ s, v.ss[j]? = some s := ⟨_, List.getElem?_eq_getElem (by have := HN.out; omega)⟩
      obtain ⟨b0, b1, b2, b3⟩ := HBD.out s (List.mem_of_getElem? hs)
      obtain ⟨g, cap, e, hbg, hform⟩ := hO.out.form (by omega)
      have e' : A' = some ⟨g, 0, none⟩ ∧ c' = cap := by
        simp only [Value.slice.injEq] at e
        exact ⟨e.1, e.2.2⟩
      obtain ⟨rfl, rfl⟩ := e'
      have hgo' := own_view_ne hO.out hgo
      obtain ⟨x0, x1, x2, x3⟩ := flatS_at (L.mix_at (k := k) hs)
      have y2 := (hO.out.cellAt (j * 4 + 2) (by omega)).trans x2
      have y3 := (hO.out.cellAt (j * 4 + 3) (by omega)).trans x3
      have f2 := hO.out.frozenAt (j * 4 + 2)
      have f3 := hO.out.frozenAt (j * 4 + 3)
      have lg := (hO.out.lt g rfl).2
      have hlt' : (j : Int) < (n : Int) := by omega
      have hj0 : (0 : Int) ≤ (j : Int) := by omega
      clear e x0 x1 x2 x3 hgo
      have HS := hide hs
      clear hs
      go_wp2_with fail
      go_roundw
      case rel =>
        refine ⟨j + 1, by omega, by go_num, hide ?_, ?_, ?_⟩
        · have h1 := (hO.out.stored (j * 4 + 2) (.int .i64 (s.lo - k))).1
          have h2 := (h1.stored (j * 4 + 3) (.int .i64 (s.hi + k))).1
          rw [L.mix_next HS.out, flatS_set (t := L.wid k s) (L.mix_at HS.out) rfl rfl]
          exact h2
        · exact blk_other (blk_other HGO.out (Ne.symm hgo') _ _) (Ne.symm hgo') _ _
        · exact zbS (zbS hB hbg _) hbg _
      case measure => simp [intOf]; omega
    · have hjn : j = n := by omega
      subst hjn
      have kr := (hB.block (w.heap.size + 1) (by omega)).trans GR.out
      have lr : w.heap.size + 1 < wr.heap.size := by omega
      have cr0 := (blk_cell kr 0).trans rfl; have cr1 := (blk_cell kr 1).trans rfl; have cr2 := (blk_cell kr 2).trans rfl; have cr3 := (blk_cell kr 3).trans rfl; have cr4 := (blk_cell kr 4).trans rfl; have cr5 := (blk_cell kr 5).trans rfl; have cr6 := (blk_cell kr 6).trans rfl
      have fr0 := blk_frozen kr 0; have fr1 := blk_frozen kr 1; have fr2 := blk_frozen kr 2; have fr3 := blk_frozen kr 3; have fr4 := blk_frozen kr 4; have fr5 := blk_frozen kr 5; have fr6 := blk_frozen kr 6
      have KR := hide kr
      have hB0 : Below w.heap.size w wr := GB.out.trans (hB.mono (by omega))
      have HM := hide (show flatS (L.mix v.ss k j) = flatS (v.ss.map (L.wid k)) by rw [← HN.out, L.mix_all])
      clear kr
      go_wp2_with fail
      refine bodyPost_ret (v := .agg #[.int .i64 v.size, .slice A' j c', .int .i64 v.wrong, .int .i64 v.hxl, .int .i64 v.hxh, .int .i64 v.hyl, .int .i64 v.hyh]) (wider_results (blk_set (blk_set (blk_set (blk_set (blk_set (blk_set (blk_set (KR.out) 0 _) 1 _) 2 _) 3 _) 4 _) 5 _) 6 _) rfl rfl) rfl ?_
      refine ⟨A', c', rfl, ?_, ?_⟩
      · rw [← HM.out]
        exact owns_mono (ownsRow_setCell_below (ownsRow_setCell_below (ownsRow_setCell_below (ownsRow_setCell_below (ownsRow_setCell_below (ownsRow_setCell_below (ownsRow_setCell_below (hO.out) (show w.heap.size + 1 < w.heap.size + 1 + 1 by omega) _) (show w.heap.size + 1 < w.heap.size + 1 + 1 by omega) _) (show w.heap.size + 1 < w.heap.size + 1 + 1 by omega) _) (show w.heap.size + 1 < w.heap.size + 1 + 1 by omega) _) (show w.heap.size + 1 < w.heap.size + 1 + 1 by omega) _) (show w.heap.size + 1 < w.heap.size + 1 + 1 by omega) _) (show w.heap.size + 1 < w.heap.size + 1 + 1 by omega) _) (by omega)
      · exact zbS (zbS (zbS (zbS (zbS (zbS (zbS (hB0) (show w.heap.size ≤ w.heap.size + 1 by omega) _) (show w.heap.size ≤ w.heap.size + 1 by omega) _) (show w.heap.size ≤ w.heap.size + 1 by omega) _) (show w.heap.size ≤ w.heap.size + 1 by omega) _) (show w.heap.size ≤ w.heap.size + 1 by omega) _) (show w.heap.size ≤ w.heap.size + 1 by omega) _) (show w.heap.size ≤ w.heap.size + 1 by omega) _

end Go.Proofs.Ytgnobonhohfofaa

namespace Go.Proofs.Ytgnobonhohfofaa
open Go.RowKit
attribute [local go_sem ↓] Go.wp_at_zero Go.wp_at_succ

namespace L
def slackGo (v : Vw) (b : Bx) (cv : Int) : Nat → Nat → Nat
  | 0, n => n
  | f + 1, n => if callOf v b ((n : Int) + 1) = cv then slackGo v b cv f (n + 1) else n
def slackV (v : Vw) (b : Bx) : Int := if checkBE v b = 0 then (if sure (callOf v b 0) then (slackGo v b (callOf v b 0) 20 0 : Int) else if callOf v b 0 = 0 then 0 else -1) else 0
theorem slackGo_le (v : Vw) (b : Bx) (cv : Int) : ∀ f n, n ≤ slackGo v b cv f n ∧ slackGo v b cv f n ≤ n + f
  | 0, n => ⟨Nat.le_refl _, Nat.le_refl _⟩
  | f + 1, n => by
    unfold slackGo
    split
    · obtain ⟨h1, h2⟩ := slackGo_le v b cv f (n + 1); omega
    · omega
theorem slackGo_yes {v : Vw} {b : Bx} {cv : Int} {n : Nat} (hn : n < 20) (h : callOf v b ((n : Int) + 1) = cv) : slackGo v b cv (20 - n) n = slackGo v b cv (20 - (n + 1)) (n + 1) := by
  obtain ⟨d, hd⟩ : ∃ d, 20 - n = d + 1 := ⟨19 - n, by omega⟩
  have hd' : 20 - (n + 1) = d := by omega
  rw [hd, hd', slackGo, if_pos h]
theorem slackGo_no {v : Vw} {b : Bx} {cv : Int} {n : Nat} (hn : n < 20) (h : callOf v b ((n : Int) + 1) ≠ cv) : slackGo v b cv (20 - n) n = n := by
  obtain ⟨d, hd⟩ : ∃ d, 20 - n = d + 1 := ⟨19 - n, by omega⟩
  rw [hd, slackGo, if_neg h]
theorem sure_cases' {c : Int} (h : sure c = true) : c = 1 ∨ c = 2 := by
  unfold sure at h
  simpa using h
end L

set_option maxRecDepth 100000 in
set_option maxHeartbeats 3200000 in
theorem Slack_sure (v : L.Vw) (A : Option Addr) (n c : Nat) (b : L.Bx) (w : World) (hn : v.ss.length = n) (hr : RdS w w.heap.size A v.ss) (h : L.checkBE v b = 0) (hs : L.sure (L.callOf v b 0) = true) :
    Calls Try.prog 27 #[.agg #[.int .i64 v.size, .slice A n c, .int .i64 v.wrong, .int .i64 v.hxl, .int .i64 v.hxh, .int .i64 v.hyl, .int .i64 v.hyh], .agg #[.int .i64 b.l, .int .i64 b.r, .int .i64 b.b, .int .i64 b.t]] w fun e w' => e = .returned (.tuple #[.int .i64 (L.slackV v b), .int .i64 (L.callE v b)]) ∧ Below w.heap.size w w' := by
  have HN := hide hn
  have HR := hide hr
  obtain ⟨hv, hb⟩ := L.checkBE_ok h
  have HV := hide hv
  have HB := hide hb
  obtain ⟨cv, hcv⟩ : ∃ cv, L.callOf v b 0 = cv := ⟨_, rfl⟩
  have hc12 := L.sure_cases' hs
  have E1 := hide (show L.callV v b = cv by unfold L.callV; rw [if_pos h, hcv])
  have E2 := hide (show L.callE v b = 0 by unfold L.callE; rw [if_pos h, if_neg (by omega)])
  have E3 := hide (show L.slackV v b = (L.slackGo v b cv 20 0 : Int) by unfold L.slackV; rw [if_pos h, if_pos hs, hcv])
  rw [hcv] at hs hc12
  have HS := hide hs
  have HC := hide hcv
  clear hn hr hv hb h hs hcv
  go_enter Try.func27, Try.ntmps27
  go_upto_region 1 with fail
  obtain ⟨W0, hW0⟩ : ∃ W0, (w.alloc (.cells #[.int .i64 v.size, .slice A n c, .int .i64 v.wrong, .int .i64 v.hxl, .int .i64 v.hxh, .int .i64 v.hyl, .int .i64 v.hyh] 26)).alloc (.cells #[.int .i64 b.l, .int .i64 b.r, .int .i64 b.b, .int .i64 b.t] 28) = W0 := ⟨_, rfl⟩
  have gp : W0.heap[w.heap.size]? = some (.cells #[.int .i64 v.size, .slice A n c, .int .i64 v.wrong, .int .i64 v.hxl, .int .i64 v.hxh, .int .i64 v.hyl, .int .i64 v.hyh] 26 (0, 0)) := by
    rw [← hW0]; exact (Below.heap_alloc _ _ _ (by first | (simp; done) | (simp; omega) | omega)).trans (World.alloc_heap_new _ _)
  have gq : W0.heap[w.heap.size + 1]? = some (.cells #[.int .i64 b.l, .int .i64 b.r, .int .i64 b.b, .int .i64 b.t] 28 (0, 0)) := by
    rw [← hW0]; exact blk_new2
  have gs : W0.heap.size = w.heap.size + 1 + 1 := by rw [← hW0]; simp
  have gB : Below w.heap.size w W0 := by rw [← hW0]; (repeat' first | exact zbR _ _ | assumption | refine zbD ?_ | refine zbA ?_ ?_ _ | refine zbS ?_ ?_ _ | refine zbT ?_ (by assumption) ?_ | (simp; done) | (simp; omega) | omega)
  rw [hW0]
  clear hW0
  obtain ⟨p, hp⟩ : ∃ p, w.heap.size = p := ⟨_, rfl⟩
  obtain ⟨q, hq⟩ : ∃ q, w.heap.size + 1 = q := ⟨_, rfl⟩
  rw [hq, hp]
  rw [hp] at gp
  rw [hq] at gq
  have lp : p < W0.heap.size := by omega
  have lq : q < W0.heap.size := by omega
  have HR0 := hide ((HR.out.below gB).mono gB.size)
  have GB := hide gB
  have GP := hide gp
  have GQ := hide gq
  have cp0 := (blk_cell gp 0).trans rfl; have cp1 := (blk_cell gp 1).trans rfl; have cp2 := (blk_cell gp 2).trans rfl; have cp3 := (blk_cell gp 3).trans rfl; have cp4 := (blk_cell gp 4).trans rfl; have cp5 := (blk_cell gp 5).trans rfl; have cp6 := (blk_cell gp 6).trans rfl
  have cq0 := (blk_cell gq 0).trans rfl; have cq1 := (blk_cell gq 1).trans rfl; have cq2 := (blk_cell gq 2).trans rfl; have cq3 := (blk_cell gq 3).trans rfl
  clear gp gq gB gs hp hq
  go_wp2_with (first | (go_at_call 17; refine (Call_any v A n c b _ HN.out HR0.out).mono ?_; rintro e w2 ⟨rfl, hb2⟩; rw [E1.out, E2.out]; obtain ⟨hc2, hf2⟩ := bcell hb2; have q2 := hb2.size) | (go_at_call 54; refine (sure_any _ _).mono ?_; rintro e w3 ⟨rfl, rfl⟩; rw [HS.out]))
  have GP2 := hide ((hb2.block p lp).trans GP.out)
  have GQ2 := hide ((hb2.block q lq).trans GQ.out)
  have HR2 := hide ((HR0.out.below hb2).mono hb2.size)
  have GB2 := hide (GB.out.trans (hb2.mono GB.out.size))
  have lp2 : p < w2.heap.size := by omega
  have lq2 : q < w2.heap.size := by omega
  clear cp0 cp1 cp2 cp3 cp4 cp5 cp6 cq0 cq1 cq2 cq3 hc2 hf2 hb2 lp lq q2 GB GP GQ HR0
  go_loopw [8] (fun s wr => ∃ k : Nat, k ≤ 20 ∧ s = .int .i64 k ∧ Hid (L.slackGo v b cv (20 - k) k = L.slackGo v b cv 20 0) ∧ Below w2.heap.size w2 wr) (fun s _ => 20 - (intOf s).toNat)
  case atStart => exact ⟨0, by omega, rfl, hide rfl, Below.refl _ _⟩
  case round =>
    obtain ⟨k, hk, rfl, hG, hB⟩ := hrel
    have qB := hB.size
    have bp := (hB.block p lp2).trans GP2.out
    have bq := (hB.block q lq2).trans GQ2.out
    have cp0 := (blk_cell bp 0).trans rfl; have cp1 := (blk_cell bp 1).trans rfl; have cp2 := (blk_cell bp 2).trans rfl; have cp3 := (blk_cell bp 3).trans rfl; have cp4 := (blk_cell bp 4).trans rfl; have cp5 := (blk_cell bp 5).trans rfl; have cp6 := (blk_cell bp 6).trans rfl
    have cq0 := (blk_cell bq 0).trans rfl; have cq1 := (blk_cell bq 1).trans rfl; have cq2 := (blk_cell bq 2).trans rfl; have cq3 := (blk_cell bq 3).trans rfl
    have lp3 : p < wr.heap.size := by omega
    have lq3 : q < wr.heap.size := by omega
    have hk0 : (0 : Int) ≤ (k : Int) := by omega
    have HRr := hide ((HR2.out.below hB).mono qB)
    clear bp bq
    by_cases hlt : k < 20
    · have hlt' : (k : Int) < 20 := by omega
      by_cases he : L.callOf v b ((k : Int) + 1) = cv
      · have HE := hide he
        have HG := hide (L.slackGo_yes hlt he)
        clear he
        go_wp2_with (go_at_call 48; refine (callOf_any v A n c b ((k : Int) + 1) _ HV.out HB.out HN.out HRr.out (by omega) (by omega)).mono ?_; rintro e w4 ⟨rfl, hb4⟩; rw [HE.out])
        go_roundw
        case rel => exact ⟨k + 1, by omega, by go_num, hide (HG.out.symm.trans hG.out), hB.trans (hb4.mono qB)⟩
        case measure => simp [intOf]; omega
      · have hE : (L.callOf v b ((k : Int) + 1) == cv) = false := by simpa using he
        have HG := hide (L.slackGo_no hlt he)
        clear he
        go_wp2_with (go_at_call 48; refine (callOf_any v A n c b ((k : Int) + 1) _ HV.out HB.out HN.out HRr.out (by omega) (by omega)).mono ?_; rintro e w4 ⟨rfl, hb4⟩)
        go_ret2
        exact ⟨by rw [E2.out, E3.out, ← hG.out, HG.out]; rfl, (GB2.out.trans (hB.mono GB2.out.size)).trans (hb4.mono (by have := GB2.out.size; omega))⟩
    · have hk20 : k = 20 := by omega
      subst hk20
      go_wp2_with fail
      go_ret2
      exact ⟨by rw [E2.out, E3.out, ← hG.out]; rfl, GB2.out.trans (hB.mono GB2.out.size)⟩

set_option maxRecDepth 100000 in
set_option maxHeartbeats 3200000 in
theorem Slack_any (v : L.Vw) (A : Option Addr) (n c : Nat) (b : L.Bx) (w : World) (hn : v.ss.length = n) (hr : RdS w w.heap.size A v.ss) :
    Calls Try.prog 27 #[.agg #[.int .i64 v.size, .slice A n c, .int .i64 v.wrong, .int .i64 v.hxl, .int .i64 v.hxh, .int .i64 v.hyl, .int .i64 v.hyh], .agg #[.int .i64 b.l, .int .i64 b.r, .int .i64 b.b, .int .i64 b.t]] w fun e w' => e = .returned (.tuple #[.int .i64 (L.slackV v b), .int .i64 (L.callE v b)]) ∧ Below w.heap.size w w' := by
  by_cases h : L.checkBE v b = 0
  · cases hs : L.sure (L.callOf v b 0)
    · have HN := hide hn
      have HR := hide hr
      have E1 := hide (show L.callV v b = L.callOf v b 0 by unfold L.callV; rw [if_pos h])
      by_cases h0 : L.callOf v b 0 = 0
      · have E2 := hide (show L.callE v b = 3 by unfold L.callE; rw [if_pos h, if_pos h0])
        have E3 := hide (show L.slackV v b = 0 by unfold L.slackV; rw [if_pos h, if_neg (by rw [hs]; decide), if_pos h0])
        clear hn hr h hs h0
        go_enter Try.func27, Try.ntmps27
        go_wp2_with (go_at_call 17; refine (Call_any v A n c b _ HN.out ((HR.out.below (by (repeat' first | exact zbR _ _ | assumption | refine zbD ?_ | refine zbA ?_ ?_ _ | refine zbS ?_ ?_ _ | refine zbT ?_ (by assumption) ?_ | (simp; done) | (simp; omega) | omega))).mono (by first | (simp; done) | (simp; omega) | omega))).mono ?_; rintro e w2 ⟨rfl, hb2⟩; rw [E2.out])
        go_ret2
        exact ⟨by rw [E2.out, E3.out]; rfl, by (repeat' first | exact zbR _ _ | assumption | refine zbD ?_ | refine zbA ?_ ?_ _ | refine zbS ?_ ?_ _ | refine zbT ?_ (by assumption) ?_ | (simp; done) | (simp; omega) | omega)⟩
      · have E2 := hide (show L.callE v b = 0 by unfold L.callE; rw [if_pos h, if_neg h0])
        have E3 := hide (show L.slackV v b = -1 by unfold L.slackV; rw [if_pos h, if_neg (by rw [hs]; decide), if_neg h0])
        have HS := hide hs
        clear hn hr h hs h0
        go_enter Try.func27, Try.ntmps27
        go_wp2_with (first | (go_at_call 17; refine (Call_any v A n c b _ HN.out ((HR.out.below (by (repeat' first | exact zbR _ _ | assumption | refine zbD ?_ | refine zbA ?_ ?_ _ | refine zbS ?_ ?_ _ | refine zbT ?_ (by assumption) ?_ | (simp; done) | (simp; omega) | omega))).mono (by first | (simp; done) | (simp; omega) | omega))).mono ?_; rintro e w2 ⟨rfl, hb2⟩; rw [E1.out, E2.out]; obtain ⟨hc2, hf2⟩ := bcell hb2; have q2 := hb2.size; (try simp only [World.size_alloc] at q2); have z2_0 : w.heap.size < w2.heap.size := (by omega); have z2_1 : w.heap.size + 1 < w2.heap.size := (by omega)) | (go_at_call 54; refine (sure_any _ _).mono ?_; rintro e w3 ⟨rfl, rfl⟩; rw [HS.out]))
        go_ret2
        exact ⟨by rw [E2.out, E3.out]; rfl, by (repeat' first | exact zbR _ _ | assumption | refine zbD ?_ | refine zbA ?_ ?_ _ | refine zbS ?_ ?_ _ | refine zbT ?_ (by assumption) ?_ | (simp; done) | (simp; omega) | omega)⟩
    · exact Slack_sure v A n c b w hn hr h hs
  · have HN := hide hn
    have HR := hide hr
    have E2 := hide (show L.callE v b = L.checkBE v b by unfold L.callE; rw [if_neg h])
    have E3 := hide (show L.slackV v b = 0 by unfold L.slackV; rw [if_neg h])
    have HE := L.checkBE_cases v b
    clear hn hr
    obtain ⟨k, hk⟩ : ∃ k, L.checkBE v b = k := ⟨_, rfl⟩
    rw [hk] at h HE E2
    rcases HE with rfl | rfl | rfl
    · exact (h rfl).elim
    all_goals
      clear h hk
      go_enter Try.func27, Try.ntmps27
      go_wp2_with (go_at_call 17; refine (Call_any v A n c b _ HN.out ((HR.out.below (by (repeat' first | exact zbR _ _ | assumption | refine zbD ?_ | refine zbA ?_ ?_ _ | refine zbS ?_ ?_ _ | refine zbT ?_ (by assumption) ?_ | (simp; done) | (simp; omega) | omega))).mono (by first | (simp; done) | (simp; omega) | omega))).mono ?_; rintro e w2 ⟨rfl, hb2⟩; rw [E2.out])
      go_ret2
      exact ⟨by rw [E2.out, E3.out]; rfl, by (repeat' first | exact zbR _ _ | assumption | refine zbD ?_ | refine zbA ?_ ?_ _ | refine zbS ?_ ?_ _ | refine zbT ?_ (by assumption) ?_ | (simp; done) | (simp; omega) | omega)⟩

end Go.Proofs.Ytgnobonhohfofaa

namespace Go.Proofs.Ytgnobonhohfofaa
namespace L

theorem off_wid (x y k d : Int) (s : St) : off x y d (wid k s) = off x y (k + d) s := by
  unfold off wid
  rw [show s.lo - k - d = s.lo - (k + d) by omega, show s.hi + k + d = s.hi + (k + d) by omega]
theorem many_wid (ss : List St) (x y k d : Int) : many (ss.map (wid k)) x y d = many ss x y (k + d) := by
  unfold many
  rw [List.filter_map, List.length_map]
  congr 1
  exact List.filter_congr fun s _ => off_wid x y k d s
theorem okAt_wid (v : Vw) (k d : Int) (c : Int × Int) : okAt (wider v k) d c = okAt v (k + d) c := by
  unfold okAt wider
  rw [many_wid]
theorem tcents_wid (v : Vw) (k d : Int) : tcents (wider v k) d = tcents v (k + d) := by
  unfold tcents
  exact List.filter_congr fun c _ => okAt_wid v k d c
theorem hitAt_wid (v : Vw) (k : Int) (b : Bx) (call : Int) (c : Int × Int) : hitAt (wider v k) b call c = hitAt v b call c := rfl
theorem findC_wid (v : Vw) (k d : Int) (b : Bx) (call : Int) : findC (wider v k) b d call = findC v b (k + d) call := by
  unfold findC
  rw [tcents_wid]
  rfl
theorem callOf_wid (v : Vw) (k d : Int) (b : Bx) : callOf (wider v k) b d = callOf v b (k + d) := by
  unfold callOf
  rw [findC_wid, findC_wid]
theorem off_mono {x y k d : Int} {s : St} (h : k ≤ d) (ho : off x y d s = true) : off x y k s = true := by
  unfold off within at ho ⊢
  simp only [Bool.not_eq_true', Bool.and_eq_false_iff, decide_eq_false_iff_not] at ho ⊢
  omega
theorem many_mono {ss : List St} {x y k d : Int} (h : k ≤ d) : many ss x y d ≤ many ss x y k := by
  unfold many
  induction ss with
  | nil => simp
  | cons s r ih =>
    simp only [List.filter_cons]
    cases h1 : off x y d s
    · cases h2 : off x y k s
      · simpa using ih
      · simp only [Bool.false_eq_true, if_false, if_true, List.length_cons]; omega
    · rw [off_mono h h1]; simpa using ih
theorem tcents_mono {v : Vw} {k d : Int} (h : k ≤ d) {c : Int × Int} (hc : c ∈ tcents v k) : c ∈ tcents v d := by
  unfold tcents okAt at hc ⊢
  rw [List.mem_filter, decide_eq_true_eq] at hc ⊢
  have := many_mono (ss := v.ss) (x := c.1) (y := c.2) h
  exact ⟨hc.1, by omega⟩
theorem callOf_mono {v : Vw} (hv : VwOk v) {b : Bx} {k d : Int} (h : k ≤ d) (h0 : callOf v b k ≠ 0) : callOf v b d ≠ 0 := by
  intro he
  rw [call_zero hv] at he
  cases ht : tcents v k with
  | nil => exact h0 ((call_zero hv b k).2 ht)
  | cons c r =>
    have := tcents_mono h (show c ∈ tcents v k by rw [ht]; simp)
    rw [he] at this
    cases this
theorem slackGo_spec (v : Vw) (b : Bx) (cv : Int) : ∀ (f n : Nat), callOf v b (n : Int) = cv → callOf v b (slackGo v b cv f n : Int) = cv ∧ (slackGo v b cv f n < n + f → callOf v b ((slackGo v b cv f n : Int) + 1) ≠ cv)
  | 0, n, h => ⟨h, fun h' => by unfold slackGo at h'; omega⟩
  | f + 1, n, h => by
    unfold slackGo
    split
    · rename_i h1
      have ih := slackGo_spec v b cv f (n + 1) (by rw [show ((n + 1 : Nat) : Int) = (n : Int) + 1 by omega]; exact h1)
      exact ⟨ih.1, fun h' => ih.2 (by omega)⟩
    · rename_i h1
      exact ⟨h, fun _ => h1⟩
theorem wider_ok {v : Vw} (hv : viewB v = true) {k : Int} (h0 : 0 ≤ k) (h1 : k ≤ 100) (hb : ∀ s ∈ v.ss, -400 ≤ s.lo ∧ s.hi ≤ 400) : viewB (wider v k) = true := by
  unfold viewB wider at *
  rw [Bool.and_eq_true] at hv ⊢
  refine ⟨by simpa [headB] using hv.1, ?_⟩
  rw [List.all_eq_true] at hv ⊢
  intro s hs
  obtain ⟨t, ht, rfl⟩ := List.mem_map.1 hs
  have h2 := hv.2 t ht
  have h3 := hb t ht
  unfold stripB wid spanIn at *
  simp only [Bool.and_eq_true, decide_eq_true_eq] at h2 ⊢
  obtain ⟨⟨⟨a, b⟩, c⟩, ⟨d, e⟩, f⟩ := h2
  exact ⟨⟨⟨a, b⟩, c⟩, ⟨by omega, by omega⟩, by omega⟩
structure SlackOk (v : Vw) (b : Bx) (cv : Int) (N : Nat) : Prop where
  n20 : N ≤ 20
  own : callV v b = cv
  err : callE v b = 0
  slk : slackV v b = (N : Int)
  v1 : callV (wider v (N : Int)) b = cv
  e1 : callE (wider v (N : Int)) b = 0
  e2 : callE (wider v ((N : Int) + 1)) b = 0
  v2 : N = 20 ∨ callV (wider v ((N : Int) + 1)) b ≠ cv
theorem slack_ok {v : Vw} {b : Bx} (hv : viewB v = true) (hb : boxB b = true) (hs : sure (callOf v b 0) = true) (hr : ∀ s ∈ v.ss, -400 ≤ s.lo ∧ s.hi ≤ 400) : ∃ N, SlackOk v b (callOf v b 0) N := by
  have hc := checkBE_yes hv hb
  have hk := viewB_ok hv
  have h12 := sure_cases' hs
  obtain ⟨N, hN⟩ : ∃ N, slackGo v b (callOf v b 0) 20 0 = N := ⟨_, rfl⟩
  have hle := slackGo_le v b (callOf v b 0) 20 0
  have hsp := slackGo_spec v b (callOf v b 0) 20 0 rfl
  rw [hN] at hle hsp
  have w1 := checkBE_yes (wider_ok hv (k := (N : Int)) (by omega) (by omega) hr) hb
  have w2 := checkBE_yes (wider_ok hv (k := (N : Int) + 1) (by omega) (by omega) hr) hb
  have z1 : callOf v b (N : Int) ≠ 0 := by rw [hsp.1]; omega
  have z2 : callOf v b ((N : Int) + 1) ≠ 0 := callOf_mono hk (by omega) z1
  refine ⟨N, by omega, callV_ok hc, by rw [callE_ok hc, if_neg (by omega)], ?_, ?_, ?_, ?_, ?_⟩
  · unfold slackV; rw [if_pos hc, if_pos hs, hN]
  · rw [callV_ok w1, callOf_wid, Int.add_zero]; exact hsp.1
  · rw [callE_ok w1, callOf_wid, Int.add_zero, if_neg z1]
  · rw [callE_ok w2, callOf_wid, Int.add_zero, if_neg z2]
  · rcases Nat.lt_or_ge N 20 with h | h
    · exact .inr (by rw [callV_ok w2, callOf_wid, Int.add_zero]; exact hsp.2 (by omega))
    · exact .inl (by omega)
end L
end Go.Proofs.Ytgnobonhohfofaa

namespace Go.Proofs.Ytgnobonhohfofaa
namespace L

structure Lss (v o : Vw) : Prop where
  size : o.size = v.size
  wrong : v.wrong ≤ o.wrong
  xl : o.hxl ≤ v.hxl
  xh : v.hxh ≤ o.hxh
  yl : o.hyl ≤ v.hyl
  yh : v.hyh ≤ o.hyh
  many : ∀ x y, many o.ss x y 0 ≤ many v.ss x y 0

theorem lss_okAt {v o : Vw} (h : Lss v o) {c : Int × Int} (hc : okAt v 0 c = true) : okAt o 0 c = true := by
  unfold okAt at hc ⊢
  rw [decide_eq_true_eq] at hc ⊢
  have h1 := h.wrong
  have h2 := h.many c.1 c.2
  omega
theorem filter_len {α : Type} {p q : α → Bool} : ∀ (l : List α), (∀ a ∈ l, p a = true → q a = true) → (l.filter p).length ≤ (l.filter q).length
  | [], _ => by simp
  | a :: l, h => by
    have ih := filter_len (p := p) (q := q) l (fun b hb => h b (List.mem_cons_of_mem _ hb))
    have ha := h a (by simp)
    simp only [List.filter_cons]
    cases hp : p a
    · cases hq : q a
      · simpa using ih
      · simp only [Bool.false_eq_true, if_false, if_true, List.length_cons]; omega
    · rw [ha hp]; simpa using ih
theorem lss_mem {v o : Vw} (h : Lss v o) {c : Int × Int} (hc : c ∈ tcents v 0) : c ∈ tcents o 0 := by
  unfold tcents at hc ⊢
  rw [List.mem_filter] at hc ⊢
  rw [h.size]
  exact ⟨hc.1, lss_okAt h hc.2⟩
theorem lss_len {v o : Vw} (h : Lss v o) : (tcents v 0).length ≤ (tcents o 0).length := by
  unfold tcents
  rw [h.size]
  exact filter_len _ fun c _ => lss_okAt h
theorem lss_in {v o : Vw} (hv : VwOk v) (h : Lss v o) {b : Bx} (hi : inAt' v b 0) : inAt' o b 0 := by
  obtain ⟨c, hc, ht⟩ := hi
  exact ⟨c, lss_mem h hc, touch_axes (by have := hv.x0; have := hv.xx; omega) (by have := hv.y0; have := hv.yy; omega) h.xh h.yh ht⟩
theorem lss_out {v o : Vw} (ho : VwOk o) (h : Lss v o) {b : Bx} (hi : outAt' v b 0) : outAt' o b 0 := by
  obtain ⟨c, hc, ht⟩ := hi
  refine ⟨c, lss_mem h hc, ?_⟩
  cases hl : touch ⟨c.1, c.2, o.hxl, o.hyl⟩ b
  · rfl
  · have := touch_axes (P := v.hxl) (Q := v.hyl) ho.x0 ho.y0 h.xl h.yl hl
    rw [ht] at this
    cases this
structure LssOk (v o : Vw) (b : Bx) : Prop where
  e1 : callE v b = cenE v
  e2 : callE o b = cenE o
  e3 : callE v b = 0 → callE o b = 0
  a : cenN v ≤ cenN o
  r : callE v b = 0 → callV o b = callV v b ∨ callV o b = 3
theorem err_cen {v : Vw} {b : Bx} (hv : viewB v = true) (hb : boxB b = true) : callE v b = cenE v := by
  have hc := checkBE_yes hv hb
  have hz := call_zero (viewB_ok hv) b 0
  have hk : checkE v = 0 := by unfold checkE; rw [hv]; rfl
  rw [callE_ok hc]
  unfold cenE
  rw [if_pos hk]
  by_cases h : tcents v 0 = []
  · rw [if_pos h, if_pos (hz.2 h)]
  · rw [if_neg h, if_neg (fun e => h (hz.1 e))]
theorem lss_ok {v o : Vw} {b : Bx} (hv : viewB v = true) (ho : viewB o = true) (hb : boxB b = true) (h : Lss v o) : LssOk v o b := by
  have kv := viewB_ok hv
  have ko := viewB_ok ho
  have cv := checkBE_yes hv hb
  have co := checkBE_yes ho hb
  have tr : callOf v b 0 ≠ 0 → callOf o b 0 ≠ 0 := fun h1 h2 => by
    rw [call_zero ko] at h2
    cases ht : tcents v 0 with
    | nil => exact h1 ((call_zero kv b 0).2 ht)
    | cons c r =>
      have := lss_mem h (show c ∈ tcents v 0 by rw [ht]; simp)
      rw [h2] at this
      cases this
  have hi := fun x => lss_in (b := b) kv h x
  have hou := fun x => lss_out (b := b) ko h x
  refine ⟨err_cen hv hb, err_cen ho hb, ?_, ?_, ?_⟩
  · rw [callE_ok cv, callE_ok co]
    intro h1
    have h0 : callOf v b 0 ≠ 0 := fun e => by rw [if_pos e] at h1; omega
    rw [if_neg (tr h0)]
  · have hk : checkE v = 0 := by unfold checkE; rw [hv]; rfl
    have hl : checkE o = 0 := by unfold checkE; rw [ho]; rfl
    unfold cenN
    rw [if_pos hk, if_pos hl]
    have := lss_len h
    omega
  · intro h1
    rw [callE_ok cv] at h1
    have h0 : callOf v b 0 ≠ 0 := fun e => by rw [if_pos e] at h1; omega
    rw [callV_ok cv, callV_ok co]
    have t := tr h0
    rcases call_cases v b 0 with ⟨e, a1, a2⟩ | ⟨e, a1, a2⟩ | ⟨e, a1, a2⟩ | ⟨e, a1, a2⟩ <;> rcases call_cases o b 0 with ⟨e', b1, b2⟩ | ⟨e', b1, b2⟩ | ⟨e', b1, b2⟩ | ⟨e', b1, b2⟩ <;> first | (left; omega) | (right; omega) | exact (h0 e).elim | exact (t e').elim | exact (b1 (hi a1)).elim | exact (b2 (hou a2)).elim

def lessOf (v : Vw) (wr k ax wo : Int) : Vw :=
  { size := v.size, ss := if 0 ≤ wo ∧ wo < (v.ss.length : Int) then ((v.ss.map (wid k)).take wo.toNat ++ (v.ss.map (wid k)).drop (wo.toNat + 1)) else v.ss.map (wid k),
    wrong := min 3 (v.wrong + wr), hxl := max 1 (v.hxl - ax), hxh := min 5 (v.hxh + ax), hyl := max 1 (v.hyl - ax), hyh := min 5 (v.hyh + ax) }
theorem lessOf_lss {v : Vw} (hv : VwOk v) (hx : v.hxh ≤ 5) (hy : v.hyh ≤ 5) {wr k ax wo : Int} (h1 : 0 ≤ wr) (h2 : 0 ≤ k) (h3 : 0 ≤ ax) : Lss v (lessOf v wr k ax wo) := by
  have a1 := hv.w1
  have a2 := hv.x0
  have a3 := hv.y0
  refine ⟨rfl, ?_, ?_, ?_, ?_, ?_, ?_⟩
  · show v.wrong ≤ min 3 (v.wrong + wr); omega
  · show max 1 (v.hxl - ax) ≤ v.hxl; omega
  · show v.hxh ≤ min 5 (v.hxh + ax); omega
  · show max 1 (v.hyl - ax) ≤ v.hyl; omega
  · show v.hyh ≤ min 5 (v.hyh + ax); omega
  · intro x y
    have hm : many (v.ss.map (wid k)) x y 0 ≤ many v.ss x y 0 := by
      rw [many_wid]
      exact many_mono (by omega)
    show many (if 0 ≤ wo ∧ wo < (v.ss.length : Int) then _ else _) x y 0 ≤ _
    split
    · refine Nat.le_trans ?_ hm
      generalize v.ss.map (wid k) = l
      unfold many
      refine List.Sublist.length_le (List.Sublist.filter _ ?_)
      conv => rhs; rw [← List.take_append_drop wo.toNat l]
      exact List.Sublist.append (List.Sublist.refl _) (List.drop_sublist_drop_left _ (by omega))
    · exact hm
end L
end Go.Proofs.Ytgnobonhohfofaa

namespace Go.Proofs.Ytgnobonhohfofaa
open Go.RowKit
attribute [local go_sem ↓] Go.wp_at_zero Go.wp_at_succ

theorem step_app_strips {w : World} {ops : Array Oper} {o : Oper} {a : Act} {K : Act → World → Prop} {Q : Exit → Act → World → Prop} {E : Prop} (hgd : o.guard = none) (s x : Operand)
    (ho : o.op = .call { callee := .builtin .append, args := #[s, x], argTypes := #[22, 22] }) (base : Nat) (v : Value) (ps : List L.St) (m0 : Nat) (hs : a.eval s = v) (hown : w.ownsRow base 54 4 v m0 (flatS ps))
    (A : Option Addr) (n c : Nat) (ss : List L.St) (hx : a.eval x = .slice A n c) (hn : ss.length = n) (hr : RdS w w.heap.size A ss) (hA : A = none → c = 0) (h0 : m0 ≤ 1000) (h1 : n ≤ 1000) (hbase : base ≤ w.heap.size) (N : Nat) (hN : m0 + n = N)
    (h : ∀ A' c' w', w'.ownsRow base 54 4 (.slice A' N c') N (flatS (ps ++ ss)) → w.grownBy w' v.ownBlock → K (a.put o.dst (.slice A' N c')) w') :
    if Region.wanted o (yielded ops a.tmps) = true then Oper.wp Try.prog o a w K Q else E := by
  subst hN
  have hw : Region.wanted o (yielded ops a.tmps) = true := by simp [Region.wanted, hgd]
  rw [if_pos hw]
  obtain ⟨A', c', w', hr', h2, h3⟩ := run_app_strips o.type base v ps m0 hown A n c ss hn hr hA h0 h1 hbase
  unfold Oper.wp execOp
  simp only [ho, resolve, invoke, builtin, Sem.run_bind, Sem.run_pure, Result.andThen_ok, List.map_toArray, List.map_cons, List.map_nil, hs, hx, hr']
  exact h A' c' w' h2 h3
theorem RdS.drop {w : World} {B g o : Nat} {ss : List L.St} (h : RdS w B (some ⟨g, o, Option.none⟩) ss) (n : Nat) : RdS w B (some ⟨g, o + n * 4, Option.none⟩) (ss.drop n) := fun k s hk => by
  rw [List.getElem?_drop] at hk
  obtain ⟨b, o', e, hlt, h0, h1, h2, h3⟩ := h (n + k) s hk
  injection e with e
  injection e with e1 e2
  subst e1 e2
  have e0 : o + (n + k) * 4 = o + n * 4 + k * 4 := by omega
  rw [e0] at h0 h1 h2 h3
  exact ⟨g, o + n * 4, rfl, hlt, h0, h1, h2, h3⟩
theorem RefCheck_raw (s wr a b c d : Int) (ss : List L.St) (A : Option Addr) (n c' : Nat) (w : World) (hn : ss.length = n) (hr : RdS w w.heap.size A ss) :
    Calls Try.prog 23 #[.agg #[.int .i64 s, .slice A n c', .int .i64 wr, .int .i64 a, .int .i64 b, .int .i64 c, .int .i64 d]] w fun e w' => e = .returned (.int .i64 (L.checkE ⟨s, ss, wr, a, b, c, d⟩)) ∧ Below w.heap.size w w' := RefCheck_any ⟨s, ss, wr, a, b, c, d⟩ A n c' w hn hr
theorem Call_raw (s wr a b c d : Int) (ss : List L.St) (A : Option Addr) (n c' : Nat) (x : L.Bx) (w : World) (hn : ss.length = n) (hr : RdS w w.heap.size A ss) :
    Calls Try.prog 17 #[.agg #[.int .i64 s, .slice A n c', .int .i64 wr, .int .i64 a, .int .i64 b, .int .i64 c, .int .i64 d], .agg #[.int .i64 x.l, .int .i64 x.r, .int .i64 x.b, .int .i64 x.t]] w fun e w' => e = .returned (.tuple #[.int .i64 (L.callV ⟨s, ss, wr, a, b, c, d⟩ x), .int .i64 (L.callE ⟨s, ss, wr, a, b, c, d⟩ x)]) ∧ Below w.heap.size w w' := Call_any ⟨s, ss, wr, a, b, c, d⟩ A n c' x w hn hr
theorem Centres_raw (s wr a b c d : Int) (ss : List L.St) (A : Option Addr) (n c' : Nat) (w : World) (hn : ss.length = n) (hr : RdS w w.heap.size A ss) :
    Calls Try.prog 24 #[.agg #[.int .i64 s, .slice A n c', .int .i64 wr, .int .i64 a, .int .i64 b, .int .i64 c, .int .i64 d]] w fun e w' => ∃ a1 a2 a3 a4 : Int, e = .returned (.tuple #[.int .i64 (L.cenN ⟨s, ss, wr, a, b, c, d⟩), .agg #[.int .i64 a1, .int .i64 a2], .agg #[.int .i64 a3, .int .i64 a4], .int .i64 (L.cenE ⟨s, ss, wr, a, b, c, d⟩)]) ∧ Below w.heap.size w w' :=
  (Centres_any' ⟨s, ss, wr, a, b, c, d⟩ A n c' w hn hr).mono fun e w' ⟨h1, h2⟩ => ⟨_, _, _, _, h1, h2⟩

set_option maxRecDepth 100000 in
set_option maxHeartbeats 6400000 in
theorem lessLaw_out (v : L.Vw) (A : Option Addr) (n c : Nat) (b : L.Bx) (wr k ax wo : Int) (w : World) (hn : v.ss.length = n) (hr : RdS w w.heap.size A v.ss) (hA : A = none → c = 0) (h : L.validB v b = false) :
    Calls Try.prog 4 #[.agg #[.int .i64 v.size, .slice A n c, .int .i64 v.wrong, .int .i64 v.hxl, .int .i64 v.hxh, .int .i64 v.hyl, .int .i64 v.hyh], .agg #[.int .i64 b.l, .int .i64 b.r, .int .i64 b.b, .int .i64 b.t], .agg #[.int .i64 wr, .int .i64 k, .int .i64 ax, .int .i64 wo]] w fun e w' => e = .returned (.bool true) ∧ Below w.heap.size w w' := by
  have HN := hide hn
  have HR := hide hr
  have HA := hide hA
  clear hn hr hA
  have H := hide h
  clear h
  go_enter Try.func4, Try.ntmps4
  go_upto_region 1 with fail
  obtain ⟨W0, hW0⟩ : ∃ W0, ((w.alloc (.cells #[.int .i64 v.size, .slice A n c, .int .i64 v.wrong, .int .i64 v.hxl, .int .i64 v.hxh, .int .i64 v.hyl, .int .i64 v.hyh] 26)).alloc (.cells #[.int .i64 b.l, .int .i64 b.r, .int .i64 b.b, .int .i64 b.t] 28)).alloc (.cells #[.int .i64 wr, .int .i64 k, .int .i64 ax, .int .i64 wo] 44) = W0 := ⟨_, rfl⟩
  have gp : W0.heap[w.heap.size]? = some (.cells #[.int .i64 v.size, .slice A n c, .int .i64 v.wrong, .int .i64 v.hxl, .int .i64 v.hxh, .int .i64 v.hyl, .int .i64 v.hyh] 26 (0, 0)) := by
    rw [← hW0]; exact ((Below.heap_alloc _ _ _ (by first | (simp; done) | (simp; omega) | omega)).trans ((Below.heap_alloc _ _ _ (by first | (simp; done) | (simp; omega) | omega)).trans (World.alloc_heap_new _ _)))
  have gq : W0.heap[w.heap.size + 1]? = some (.cells #[.int .i64 b.l, .int .i64 b.r, .int .i64 b.b, .int .i64 b.t] 28 (0, 0)) := by
    rw [← hW0]; exact ((Below.heap_alloc _ _ _ (by first | (simp; done) | (simp; omega) | omega)).trans ((congrArg _ (by simp)).trans (World.alloc_heap_new _ _)))
  have gr : W0.heap[w.heap.size + 1 + 1]? = some (.cells #[.int .i64 wr, .int .i64 k, .int .i64 ax, .int .i64 wo] 44 (0, 0)) := by
    rw [← hW0]; exact ((congrArg _ (by simp)).trans (World.alloc_heap_new _ _))
  have gs : W0.heap.size = w.heap.size + 1 + 1 + 1 := by rw [← hW0]; simp
  have gB : Below w.heap.size w W0 := by rw [← hW0]; (repeat' first | exact zbR _ _ | assumption | refine zbD ?_ | refine zbA ?_ ?_ _ | refine zbS ?_ ?_ _ | refine zbT ?_ (by assumption) ?_ | (simp; done) | (simp; omega) | omega)
  rw [hW0]
  clear hW0
  obtain ⟨p, hp⟩ : ∃ p, w.heap.size = p := ⟨_, rfl⟩
  obtain ⟨q, hq⟩ : ∃ q, w.heap.size + 1 = q := ⟨_, rfl⟩
  obtain ⟨r, hr⟩ : ∃ r, w.heap.size + 1 + 1 = r := ⟨_, rfl⟩
  rw [hr, hq, hp]
  rw [hp] at gp
  rw [hq] at gq
  rw [hr] at gr
  have lp : p < W0.heap.size := by omega
  have lq : q < W0.heap.size := by omega
  have lr : r < W0.heap.size := by omega
  have HR0 := hide ((HR.out.below gB).mono gB.size)
  have GB := hide gB
  have GP := hide gp
  have cp0 := (blk_cell gp 0).trans rfl; have cp1 := (blk_cell gp 1).trans rfl; have cp2 := (blk_cell gp 2).trans rfl; have cp3 := (blk_cell gp 3).trans rfl; have cp4 := (blk_cell gp 4).trans rfl; have cp5 := (blk_cell gp 5).trans rfl; have cp6 := (blk_cell gp 6).trans rfl
  have GQ := hide gq
  have cq0 := (blk_cell gq 0).trans rfl; have cq1 := (blk_cell gq 1).trans rfl; have cq2 := (blk_cell gq 2).trans rfl; have cq3 := (blk_cell gq 3).trans rfl
  have GR := hide gr
  have cr0 := (blk_cell gr 0).trans rfl; have cr1 := (blk_cell gr 1).trans rfl; have cr2 := (blk_cell gr 2).trans rfl; have cr3 := (blk_cell gr 3).trans rfl
  clear gp gq gr gB gs hp hq hr
  go_wp2_with (first | (go_at_call 15; refine (valid_any v A n c b _ HN.out ((HR0.out.below (by (repeat' first | exact zbR _ _ | assumption | refine zbD ?_ | refine zbA ?_ ?_ _ | refine zbS ?_ ?_ _ | refine zbT ?_ (by assumption) ?_ | (simp; done) | (simp; omega) | omega))).mono (by first | (simp; done) | (simp; omega) | omega))).mono ?_; rintro e w2 ⟨rfl, hb2⟩; rw [H.out]; obtain ⟨hc2, hf2⟩ := bcell hb2; have q2 := hb2.size; (try simp only [World.size_alloc] at q2); have z2_p : p < w2.heap.size := (by omega); have z2_q : q < w2.heap.size := (by omega); have z2_r : r < w2.heap.size := (by omega)) | (go_at_call 16; refine (works_any _).mono ?_; rintro e w19 ⟨rfl, hb19⟩))
  go_ret
  exact ⟨rfl, GB.out.trans ((show Below W0.heap.size W0 _ by (repeat' first | exact zbR _ _ | assumption | refine zbD ?_ | refine zbA ?_ ?_ _ | refine zbS ?_ ?_ _ | refine zbT ?_ (by assumption) ?_ | (simp; done) | (simp; omega) | omega)).mono GB.out.size)⟩

set_option maxRecDepth 100000 in
set_option maxHeartbeats 6400000 in
theorem lessLaw_far (v : L.Vw) (A : Option Addr) (n c : Nat) (b : L.Bx) (wr k ax wo : Int) (w : World) (hn : v.ss.length = n) (hr : RdS w w.heap.size A v.ss) (hA : A = none → c = 0) (h : L.validB v b = true) (hx : wr < 0 ∨ (0 ≤ wr ∧ (3 < wr ∨ (wr ≤ 3 ∧ (k < 0 ∨ (0 ≤ k ∧ (50 < k ∨ (k ≤ 50 ∧ (ax < 0 ∨ (0 ≤ ax ∧ 9 < ax)))))))))) :
    Calls Try.prog 4 #[.agg #[.int .i64 v.size, .slice A n c, .int .i64 v.wrong, .int .i64 v.hxl, .int .i64 v.hxh, .int .i64 v.hyl, .int .i64 v.hyh], .agg #[.int .i64 b.l, .int .i64 b.r, .int .i64 b.b, .int .i64 b.t], .agg #[.int .i64 wr, .int .i64 k, .int .i64 ax, .int .i64 wo]] w fun e w' => e = .returned (.bool true) ∧ Below w.heap.size w w' := by
  have HN := hide hn
  have HR := hide hr
  have HA := hide hA
  clear hn hr hA
  have H := hide h
  clear h
  rcases hx with h1 | ⟨h1, h2 | ⟨h2, h3 | ⟨h3, h4 | ⟨h4, h5 | ⟨h5, h6⟩⟩⟩⟩⟩
  all_goals
    go_enter Try.func4, Try.ntmps4
    go_upto_region 1 with fail
    obtain ⟨W0, hW0⟩ : ∃ W0, ((w.alloc (.cells #[.int .i64 v.size, .slice A n c, .int .i64 v.wrong, .int .i64 v.hxl, .int .i64 v.hxh, .int .i64 v.hyl, .int .i64 v.hyh] 26)).alloc (.cells #[.int .i64 b.l, .int .i64 b.r, .int .i64 b.b, .int .i64 b.t] 28)).alloc (.cells #[.int .i64 wr, .int .i64 k, .int .i64 ax, .int .i64 wo] 44) = W0 := ⟨_, rfl⟩
    have gp : W0.heap[w.heap.size]? = some (.cells #[.int .i64 v.size, .slice A n c, .int .i64 v.wrong, .int .i64 v.hxl, .int .i64 v.hxh, .int .i64 v.hyl, .int .i64 v.hyh] 26 (0, 0)) := by
      rw [← hW0]; exact ((Below.heap_alloc _ _ _ (by first | (simp; done) | (simp; omega) | omega)).trans ((Below.heap_alloc _ _ _ (by first | (simp; done) | (simp; omega) | omega)).trans (World.alloc_heap_new _ _)))
    have gq : W0.heap[w.heap.size + 1]? = some (.cells #[.int .i64 b.l, .int .i64 b.r, .int .i64 b.b, .int .i64 b.t] 28 (0, 0)) := by
      rw [← hW0]; exact ((Below.heap_alloc _ _ _ (by first | (simp; done) | (simp; omega) | omega)).trans ((congrArg _ (by simp)).trans (World.alloc_heap_new _ _)))
    have gr : W0.heap[w.heap.size + 1 + 1]? = some (.cells #[.int .i64 wr, .int .i64 k, .int .i64 ax, .int .i64 wo] 44 (0, 0)) := by
      rw [← hW0]; exact ((congrArg _ (by simp)).trans (World.alloc_heap_new _ _))
    have gs : W0.heap.size = w.heap.size + 1 + 1 + 1 := by rw [← hW0]; simp
    have gB : Below w.heap.size w W0 := by rw [← hW0]; (repeat' first | exact zbR _ _ | assumption | refine zbD ?_ | refine zbA ?_ ?_ _ | refine zbS ?_ ?_ _ | refine zbT ?_ (by assumption) ?_ | (simp; done) | (simp; omega) | omega)
    rw [hW0]
    clear hW0
    obtain ⟨p, hp⟩ : ∃ p, w.heap.size = p := ⟨_, rfl⟩
    obtain ⟨q, hq⟩ : ∃ q, w.heap.size + 1 = q := ⟨_, rfl⟩
    obtain ⟨r, hr⟩ : ∃ r, w.heap.size + 1 + 1 = r := ⟨_, rfl⟩
    rw [hr, hq, hp]
    rw [hp] at gp
    rw [hq] at gq
    rw [hr] at gr
    have lp : p < W0.heap.size := by omega
    have lq : q < W0.heap.size := by omega
    have lr : r < W0.heap.size := by omega
    have HR0 := hide ((HR.out.below gB).mono gB.size)
    have GB := hide gB
    have GP := hide gp
    have cp0 := (blk_cell gp 0).trans rfl; have cp1 := (blk_cell gp 1).trans rfl; have cp2 := (blk_cell gp 2).trans rfl; have cp3 := (blk_cell gp 3).trans rfl; have cp4 := (blk_cell gp 4).trans rfl; have cp5 := (blk_cell gp 5).trans rfl; have cp6 := (blk_cell gp 6).trans rfl
    have GQ := hide gq
    have cq0 := (blk_cell gq 0).trans rfl; have cq1 := (blk_cell gq 1).trans rfl; have cq2 := (blk_cell gq 2).trans rfl; have cq3 := (blk_cell gq 3).trans rfl
    have GR := hide gr
    have cr0 := (blk_cell gr 0).trans rfl; have cr1 := (blk_cell gr 1).trans rfl; have cr2 := (blk_cell gr 2).trans rfl; have cr3 := (blk_cell gr 3).trans rfl
    clear gp gq gr gB gs hp hq hr
    go_wp2_with (first | (go_at_call 15; refine (valid_any v A n c b _ HN.out ((HR0.out.below (by (repeat' first | exact zbR _ _ | assumption | refine zbD ?_ | refine zbA ?_ ?_ _ | refine zbS ?_ ?_ _ | refine zbT ?_ (by assumption) ?_ | (simp; done) | (simp; omega) | omega))).mono (by first | (simp; done) | (simp; omega) | omega))).mono ?_; rintro e w2 ⟨rfl, hb2⟩; rw [H.out]; obtain ⟨hc2, hf2⟩ := bcell hb2; have q2 := hb2.size; (try simp only [World.size_alloc] at q2); have z2_p : p < w2.heap.size := (by omega); have z2_q : q < w2.heap.size := (by omega); have z2_r : r < w2.heap.size := (by omega)) | (go_at_call 16; refine (works_any _).mono ?_; rintro e w19 ⟨rfl, hb19⟩))
    go_ret
    exact ⟨rfl, GB.out.trans ((show Below W0.heap.size W0 _ by (repeat' first | exact zbR _ _ | assumption | refine zbD ?_ | refine zbA ?_ ?_ _ | refine zbS ?_ ?_ _ | refine zbT ?_ (by assumption) ?_ | (simp; done) | (simp; omega) | omega)).mono GB.out.size)⟩

set_option maxRecDepth 100000 in
set_option maxHeartbeats 6400000 in
theorem lessLaw_in (v : L.Vw) (A : Option Addr) (n c : Nat) (b : L.Bx) (wr k ax wo : Int) (w : World) (hn : v.ss.length = n) (hr : RdS w w.heap.size A v.ss) (hA : A = none → c = 0) (h : L.validB v b = true) (a0 : 0 ≤ wr) (a1 : wr ≤ 3) (k0 : 0 ≤ k) (k1 : k ≤ 50) (x0 : 0 ≤ ax) (x1 : ax ≤ 9) :
    Calls Try.prog 4 #[.agg #[.int .i64 v.size, .slice A n c, .int .i64 v.wrong, .int .i64 v.hxl, .int .i64 v.hxh, .int .i64 v.hyl, .int .i64 v.hyh], .agg #[.int .i64 b.l, .int .i64 b.r, .int .i64 b.b, .int .i64 b.t], .agg #[.int .i64 wr, .int .i64 k, .int .i64 ax, .int .i64 wo]] w fun e w' => e = .returned (.bool true) ∧ Below w.heap.size w w' := by
  have HN := hide hn
  have HR := hide hr
  have HA := hide hA
  clear hn hr hA
  have H := hide h
  obtain ⟨hvb, hbb, hfar⟩ := L.validB_ok h
  have HVB := hide hvb
  have HBB := hide hbb
  have hv := L.viewB_ok hvb
  have HV := hide hv
  have h5 : v.hxh ≤ 5 ∧ v.hyh ≤ 5 := by
    unfold L.farB at hfar
    rw [hvb] at hfar
    simp at hfar
    omega
  obtain ⟨h5x, h5y⟩ := h5
  have HLSS := hide (L.lessOf_lss hv h5x h5y (wo := wo) a0 k0 x0)
  have hn8 : n ≤ 8 := by have := hv.n8; have := HN.out; omega
  have hn8' : (n : Int) ≤ 8 := by omega
  have z1 := hv.w0
  have z2 := hv.w1
  have z3 := hv.x0
  have z4 := hv.xx
  have z5 := hv.y0
  have z6 := hv.yy
  have HBD := hide (show ∀ s ∈ v.ss, -1000 ≤ s.lo ∧ s.lo ≤ 1000 ∧ -1000 ≤ s.hi ∧ s.hi ≤ 1000 from fun s hs => by
    have := hv.ok s hs
    have e1 := this.l0; have e2 := this.lh; have e3 := this.h1
    omega)
  clear h hvb hbb hfar hv
  go_enter Try.func4, Try.ntmps4
  go_upto_region 1 with fail
  obtain ⟨W0, hW0⟩ : ∃ W0, ((w.alloc (.cells #[.int .i64 v.size, .slice A n c, .int .i64 v.wrong, .int .i64 v.hxl, .int .i64 v.hxh, .int .i64 v.hyl, .int .i64 v.hyh] 26)).alloc (.cells #[.int .i64 b.l, .int .i64 b.r, .int .i64 b.b, .int .i64 b.t] 28)).alloc (.cells #[.int .i64 wr, .int .i64 k, .int .i64 ax, .int .i64 wo] 44) = W0 := ⟨_, rfl⟩
  have gp : W0.heap[w.heap.size]? = some (.cells #[.int .i64 v.size, .slice A n c, .int .i64 v.wrong, .int .i64 v.hxl, .int .i64 v.hxh, .int .i64 v.hyl, .int .i64 v.hyh] 26 (0, 0)) := by
    rw [← hW0]; exact ((Below.heap_alloc _ _ _ (by first | (simp; done) | (simp; omega) | omega)).trans ((Below.heap_alloc _ _ _ (by first | (simp; done) | (simp; omega) | omega)).trans (World.alloc_heap_new _ _)))
  have gq : W0.heap[w.heap.size + 1]? = some (.cells #[.int .i64 b.l, .int .i64 b.r, .int .i64 b.b, .int .i64 b.t] 28 (0, 0)) := by
    rw [← hW0]; exact ((Below.heap_alloc _ _ _ (by first | (simp; done) | (simp; omega) | omega)).trans ((congrArg _ (by simp)).trans (World.alloc_heap_new _ _)))
  have gr : W0.heap[w.heap.size + 1 + 1]? = some (.cells #[.int .i64 wr, .int .i64 k, .int .i64 ax, .int .i64 wo] 44 (0, 0)) := by
    rw [← hW0]; exact ((congrArg _ (by simp)).trans (World.alloc_heap_new _ _))
  have gs : W0.heap.size = w.heap.size + 1 + 1 + 1 := by rw [← hW0]; simp
  have gB : Below w.heap.size w W0 := by rw [← hW0]; (repeat' first | exact zbR _ _ | assumption | refine zbD ?_ | refine zbA ?_ ?_ _ | refine zbS ?_ ?_ _ | refine zbT ?_ (by assumption) ?_ | (simp; done) | (simp; omega) | omega)
  rw [hW0]
  clear hW0
  obtain ⟨p, hp⟩ : ∃ p, w.heap.size = p := ⟨_, rfl⟩
  obtain ⟨q, hq⟩ : ∃ q, w.heap.size + 1 = q := ⟨_, rfl⟩
  obtain ⟨r, hr⟩ : ∃ r, w.heap.size + 1 + 1 = r := ⟨_, rfl⟩
  rw [hr, hq, hp]
  rw [hp] at gp
  rw [hq] at gq
  rw [hr] at gr
  have lp : p < W0.heap.size := by omega
  have lq : q < W0.heap.size := by omega
  have lr : r < W0.heap.size := by omega
  have HR0 := hide ((HR.out.below gB).mono gB.size)
  have GB := hide gB
  have GP := hide gp
  have cp0 := (blk_cell gp 0).trans rfl; have cp1 := (blk_cell gp 1).trans rfl; have cp2 := (blk_cell gp 2).trans rfl; have cp3 := (blk_cell gp 3).trans rfl; have cp4 := (blk_cell gp 4).trans rfl; have cp5 := (blk_cell gp 5).trans rfl; have cp6 := (blk_cell gp 6).trans rfl
  have GQ := hide gq
  have cq0 := (blk_cell gq 0).trans rfl; have cq1 := (blk_cell gq 1).trans rfl; have cq2 := (blk_cell gq 2).trans rfl; have cq3 := (blk_cell gq 3).trans rfl
  have GR := hide gr
  have cr0 := (blk_cell gr 0).trans rfl; have cr1 := (blk_cell gr 1).trans rfl; have cr2 := (blk_cell gr 2).trans rfl; have cr3 := (blk_cell gr 3).trans rfl
  clear gp gq gr gB gs hp hq hr
  go_upto_region 7 with (first | (go_at_call 15; refine (valid_any v A n c b _ HN.out ((HR0.out.below (by (repeat' first | exact zbR _ _ | assumption | refine zbD ?_ | refine zbA ?_ ?_ _ | refine zbS ?_ ?_ _ | refine zbT ?_ (by assumption) ?_ | (simp; done) | (simp; omega) | omega))).mono (by first | (simp; done) | (simp; omega) | omega))).mono ?_; rintro e w2 ⟨rfl, hb2⟩; rw [H.out]; obtain ⟨hc2, hf2⟩ := bcell hb2; have q2 := hb2.size; (try simp only [World.size_alloc] at q2); have z2_p : p < w2.heap.size := (by omega); have z2_q : q < w2.heap.size := (by omega); have z2_r : r < w2.heap.size := (by omega)) | (go_at_call 22; refine (Wider_any v A n c k _ HN.out ((HR0.out.below (by (repeat' first | exact zbR _ _ | assumption | refine zbD ?_ | refine zbA ?_ ?_ _ | refine zbS ?_ ?_ _ | refine zbT ?_ (by assumption) ?_ | (simp; done) | (simp; omega) | omega))).mono (by first | (simp; done) | (simp; omega) | omega)) HA.out (by omega) k0 (by omega) HBD.out).mono ?_; rintro e w3 ⟨A1, c1, rfl, hown, hb3⟩; obtain ⟨hc3, hf3⟩ := bcell hb3; have q3 := hb3.size; have z3_p : p < w3.heap.size := (by omega); have z3_q : q < w3.heap.size := (by omega); have z3_r : r < w3.heap.size := (by omega)))
  obtain ⟨y1, hy1⟩ : ∃ y, (if v.wrong + wr < 3 then v.wrong + wr else 3) = y := ⟨_, rfl⟩
  obtain ⟨y2, hy2⟩ : ∃ y, (if 1 < v.hxl - ax then v.hxl - ax else 1) = y := ⟨_, rfl⟩
  obtain ⟨y3, hy3⟩ : ∃ y, (if v.hxh + ax < 5 then v.hxh + ax else 5) = y := ⟨_, rfl⟩
  obtain ⟨y4, hy4⟩ : ∃ y, (if 1 < v.hyl - ax then v.hyl - ax else 1) = y := ⟨_, rfl⟩
  obtain ⟨y5, hy5⟩ : ∃ y, (if v.hyh + ax < 5 then v.hyh + ax else 5) = y := ⟨_, rfl⟩
  rw [hy1, hy2, hy3, hy4, hy5]
  have u1 : min 3 (v.wrong + wr) = y1 := by rw [← hy1]; split <;> omega
  have u2 : max 1 (v.hxl - ax) = y2 := by rw [← hy2]; split <;> omega
  have u3 : min 5 (v.hxh + ax) = y3 := by rw [← hy3]; split <;> omega
  have u4 : max 1 (v.hyl - ax) = y4 := by rw [← hy4]; split <;> omega
  have u5 : min 5 (v.hyh + ax) = y5 := by rw [← hy5]; split <;> omega
  have HLO := hide (show L.lessOf v wr k ax wo = ⟨v.size, if 0 ≤ wo ∧ wo < (v.ss.length : Int) then ((v.ss.map (L.wid k)).take wo.toNat ++ (v.ss.map (L.wid k)).drop (wo.toNat + 1)) else v.ss.map (L.wid k), y1, y2, y3, y4, y5⟩ by unfold L.lessOf; rw [u1, u2, u3, u4, u5])
  obtain ⟨W1, hW1⟩ : ∃ W1, w3.alloc (.cells #[.int .i64 v.size, .slice A1 n c1, .int .i64 y1, .int .i64 y2, .int .i64 y3, .int .i64 y4, .int .i64 y5] 26) = W1 := ⟨_, rfl⟩
  have go : W1.heap[w3.heap.size]? = some (.cells #[.int .i64 v.size, .slice A1 n c1, .int .i64 y1, .int .i64 y2, .int .i64 y3, .int .i64 y4, .int .i64 y5] 26 (0, 0)) := by rw [← hW1]; exact World.alloc_heap_new _ _
  have gB1 : Below w3.heap.size w3 W1 := by rw [← hW1]; (repeat' first | exact zbR _ _ | assumption | refine zbD ?_ | refine zbA ?_ ?_ _ | refine zbS ?_ ?_ _ | refine zbT ?_ (by assumption) ?_ | (simp; done) | (simp; omega) | omega)
  have gs1 : W1.heap.size = w3.heap.size + 1 := by rw [← hW1]; simp
  rw [hW1]
  clear hW1 hy1 hy2 hy3 hy4 hy5 u1 u2 u3 u4 u5
  have HB01 := hide (show Below W0.heap.size W0 W1 from (hb2.trans (hb3.mono hb2.size)).trans (gB1.mono (by have := hb2.size; omega)))
  have HRS := hide (((owns_RdS hown (by rw [List.length_map]; exact HN.out)).below gB1).mono (B' := W1.heap.size) (by omega))
  have HRV := hide ((HR0.out.below HB01.out).mono HB01.out.size)
  have GB1 := hide (GB.out.trans (HB01.out.mono GB.out.size))
  have bp := (HB01.out.block p lp).trans GP.out
  have bq := (HB01.out.block q lq).trans GQ.out
  have br := (HB01.out.block r lr).trans GR.out
  obtain ⟨o, ho⟩ : ∃ o, w3.heap.size = o := ⟨_, rfl⟩
  rw [ho] at go ⊢
  have lo : o < W1.heap.size := by omega
  have ho0 : W0.heap.size ≤ o := by have := hb2.size; omega
  have lp1 : p < W1.heap.size := by omega
  have lq1 : q < W1.heap.size := by omega
  have lr1 : r < W1.heap.size := by omega
  have HO := hide hown
  clear hb2 hb3 gB1 gs1 hc2 hf2 hc3 hf3 q2 q3 z2_p z2_q z2_r z3_p z3_q z3_r ho hown lr cp0 cp1 cp2 cp3 cp4 cp5 cp6 cq0 cq1 cq2 cq3 cr0 cr1 cr2 cr3
  have cp0 := (blk_cell bp 0).trans rfl; have cp1 := (blk_cell bp 1).trans rfl; have cp2 := (blk_cell bp 2).trans rfl; have cp3 := (blk_cell bp 3).trans rfl; have cp4 := (blk_cell bp 4).trans rfl; have cp5 := (blk_cell bp 5).trans rfl; have cp6 := (blk_cell bp 6).trans rfl
  have cq0 := (blk_cell bq 0).trans rfl; have cq1 := (blk_cell bq 1).trans rfl; have cq2 := (blk_cell bq 2).trans rfl; have cq3 := (blk_cell bq 3).trans rfl
  have cr0 := (blk_cell br 0).trans rfl; have cr1 := (blk_cell br 1).trans rfl; have cr2 := (blk_cell br 2).trans rfl; have cr3 := (blk_cell br 3).trans rfl
  have co0 := (blk_cell go 0).trans rfl; have co1 := (blk_cell go 1).trans rfl; have co2 := (blk_cell go 2).trans rfl; have co3 := (blk_cell go 3).trans rfl; have co4 := (blk_cell go 4).trans rfl; have co5 := (blk_cell go 5).trans rfl; have co6 := (blk_cell go 6).trans rfl
  have GO := hide go
  have fo1 := blk_frozen go 1
  clear bp bq br go
  have HLEN := hide (show (v.ss.map (L.wid k)).length = n by rw [List.length_map]; exact HN.out)
  have hb60 : n ≤ 60 := by omega
  by_cases hin : 0 ≤ wo ∧ wo < (n : Int)
  · obtain ⟨i0, i1⟩ := hin
    obtain ⟨m, hm⟩ : ∃ m : Nat, wo = (m : Int) := ⟨wo.toNat, by omega⟩
    subst hm
    have hmn : m < n := by omega
    have HL := hide (show L.Lss v ⟨v.size, (v.ss.map (L.wid k)).take m ++ (v.ss.map (L.wid k)).drop (m + 1), y1, y2, y3, y4, y5⟩ by have := HLSS.out; rw [HLO.out, if_pos (by rw [HN.out]; exact ⟨i0, i1⟩), Int.toNat_natCast] at this; exact this)
    rcases HO.out.2 with ⟨e, hz⟩ | ⟨g, cap, cur, e, hbg, hgg, hnc, hcm, hcs, htk⟩
    · exfalso
      omega
    have e' : A1 = some ⟨g, 0, none⟩ ∧ c1 = cap := by
      simp only [Value.slice.injEq] at e
      exact ⟨e.1, e.2.2⟩
    obtain ⟨rfl, e2⟩ := e'
    subst e2
    clear e hbg hgg hcm hcs htk
    obtain ⟨ss', hss⟩ : ∃ ss', v.ss.map (L.wid k) = ss' := ⟨_, rfl⟩
    rw [hss] at HL HLEN HRS
    have HL1 := hide (show (ss'.take m).length = m by rw [List.length_take, HLEN.out]; omega)
    have HL2 := hide (show (ss'.drop (m + 1)).length = n - (m + 1) by rw [List.length_drop, HLEN.out])
    have HT1 := hide (show RdS W1 W1.heap.size (some ⟨g, 0, none⟩) (ss'.take m) from HRS.out.take m)
    have HT2 := hide (show RdS W1 W1.heap.size (some ⟨g, (m + 1) * 4, none⟩) (ss'.drop (m + 1)) by have := HRS.out.drop (m + 1); rwa [Nat.zero_add] at this)
    have hm8 : (m : Int) ≤ 8 := by omega
    have hm1 : (m : Int) + 1 ≤ (n : Int) := by omega
    have hmc : (n : Int) ≤ (c1 : Int) := by omega
    have hmc2 : (m : Int) + 1 ≤ (c1 : Int) := by omega
    have hNN : m + (n - (m + 1)) = n - 1 := by omega
    clear hss HLO
    go_upto_region 8 with fail
    have hS : (fun w' => Below W1.heap.size W1 w' ∧ o < w'.heap.size ∧ r < w'.heap.size ∧ w'.cell? ⟨o, 1, none⟩ = some (.slice (some ⟨g, 0, none⟩) n c1) ∧ w'.frozen? ⟨o, 1, none⟩ = false ∧ w'.cell? ⟨r, 3, none⟩ = some (.int .i64 (m : Int))) W1 := ⟨Below.refl _ _, lo, lr1, co1, fo1, cr3⟩
    have hkeep : ∀ u u' : World, Below W1.heap.size u u' → (Below W1.heap.size W1 u ∧ o < u.heap.size ∧ r < u.heap.size ∧ u.cell? ⟨o, 1, none⟩ = some (.slice (some ⟨g, 0, none⟩) n c1) ∧ u.frozen? ⟨o, 1, none⟩ = false ∧ u.cell? ⟨r, 3, none⟩ = some (.int .i64 (m : Int))) → (Below W1.heap.size W1 u' ∧ o < u'.heap.size ∧ r < u'.heap.size ∧ u'.cell? ⟨o, 1, none⟩ = some (.slice (some ⟨g, 0, none⟩) n c1) ∧ u'.frozen? ⟨o, 1, none⟩ = false ∧ u'.cell? ⟨r, 3, none⟩ = some (.int .i64 (m : Int))) := by
      rintro u u' hb ⟨hB, l_o, l_r, k0', k1', k2'⟩
      exact ⟨hB.trans hb, Nat.lt_of_lt_of_le l_o hb.size, Nat.lt_of_lt_of_le l_r hb.size, (hb.cell (p := ⟨o, 1, none⟩) lo).trans k0', (hb.frozen (p := ⟨o, 1, none⟩) lo).trans k1', (hb.cell (p := ⟨r, 3, none⟩) lr1).trans k2'⟩
    have hmcN : m ≤ c1 := by omega
    have hmcN1 : m + 1 ≤ c1 := by omega
    have hmnN1 : m + 1 ≤ n := by omega
    have hw1 : IntKind.i64.wrap ((m : Int) + 1) = (m : Int) + 1 := IntWalk.i64_in _ (by omega)
    have hmm1 : (m : Int) ≤ (m : Int) + 1 := by omega
    have hm01 : (0 : Int) ≤ (m : Int) + 1 := by omega
    (try dsimp only at hS)
    by_cases hcap : c1 = m + 1
    · subst hcap
      have HT2 := hide (show RdS W1 W1.heap.size (some ⟨g, 0, none⟩) (ss'.drop (m + 1)) by rw [List.drop_of_length_le (by rw [HLEN.out]; omega)]; exact RdS.nil _ _ _)
      have HL2 := hide (show (ss'.drop (m + 1)).length = 0 by rw [HL2.out]; omega)
      refine wp_region_T_drew (S := (fun w' => Below W1.heap.size W1 w' ∧ o < w'.heap.size ∧ r < w'.heap.size ∧ w'.cell? ⟨o, 1, none⟩ = some (.slice (some ⟨g, 0, none⟩) n (m + 1)) ∧ w'.frozen? ⟨o, 1, none⟩ = false ∧ w'.cell? ⟨r, 3, none⟩ = some (.int .i64 (m : Int)))) 15 (by kernel_rfl) ?_ (fun hHeld0 => ?_)
      · (try dsimp only); first | exact hkeep _ _ HG6.out (by assumption) | exact hkeep _ _ HG5.out (by assumption) | exact hkeep _ _ (zbA (zbR _ _) (show W1.heap.size ≤ _ by simp; omega) _) (by assumption) | exact hkeep _ _ (zbD (zbR _ _)) hS | (first | (go_keep; done) | (go_split_ands; (repeat' apply And.intro) <;> first | (go_keep; done) | (simp [*, zcA, zcP, zfA, zfP]; done) | (simp [zcA, zcP] <;> rfl) | (simp [*, zsS, zsO, zsA]; done) | ((first | refine (hc _ _ ?_).trans ?_ | refine (hf _ _ ?_).trans ?_) <;> first | assumption | (simp; done) | (simp; omega) | omega | (go_keep; done) | (simp [*, zcA, zcP, zfA, zfP]; done) | (simp [zcA, zcP]; rfl)) | (repeat' first | exact zbR _ _ | assumption | refine zbD ?_ | refine zbA ?_ ?_ _ | refine zbS ?_ ?_ _ | refine zbT ?_ (by assumption) ?_ | (simp; done) | (simp; omega) | omega)))
      refine takeT (v := ?_) 1 rfl (by kernel_rfl) (by kernel_rfl) (by kernel_rfl) (by kernel_rfl) (fun _ _ _ h => h) (Or.inl ⟨by rfl, ?_⟩) (by assumption) ?_; rotate_left
      · (intro w hSw; (try dsimp only at hSw); go_simp; try with_reducible rfl)
      try simp only [Act.put, zl, z0, z1]
      refine takeT (v := ?_) 2 rfl (by kernel_rfl) (by kernel_rfl) (by kernel_rfl) (by kernel_rfl) (fun _ _ _ h => h) (Or.inl ⟨by rfl, ?_⟩) (by assumption) ?_; rotate_left
      · (intro w hSw; (try dsimp only at hSw); go_simp; try with_reducible rfl)
      try simp only [Act.put, zl, z0, z1]
      refine takeT (v := ?_) 3 rfl (by kernel_rfl) (by kernel_rfl) (by kernel_rfl) (by kernel_rfl) (fun _ _ _ h => h) (Or.inl ⟨by rfl, ?_⟩) (by assumption) ?_; rotate_left
      · (intro w hSw; (try dsimp only at hSw); go_simp; try with_reducible rfl)
      try simp only [Act.put, zl, z0, z1]
      refine takeT (v := ?_) 4 rfl (by kernel_rfl) (by kernel_rfl) (by kernel_rfl) (by kernel_rfl) (fun _ _ _ h => h) (Or.inl ⟨by rfl, ?_⟩) (by assumption) ?_; rotate_left
      · (intro w hSw; (try dsimp only at hSw); go_simp; try with_reducible rfl)
      try simp only [Act.put, zl, z0, z1]
      refine takeT (v := ?_) 5 rfl (by kernel_rfl) (by kernel_rfl) (by kernel_rfl) (by kernel_rfl) (fun _ _ _ h => h) (Or.inl ⟨by rfl, ?_⟩) (by assumption) ?_; rotate_left
      · (intro w hSw; (try dsimp only at hSw); go_simp; try with_reducible rfl)
      try simp only [Act.put, zl, z0, z1]
      refine takeT (v := ?_) 7 rfl (by kernel_rfl) (by kernel_rfl) (by kernel_rfl) (by kernel_rfl) (fun _ _ _ h => h) (Or.inl ⟨by rfl, ?_⟩) (by assumption) ?_; rotate_left
      · (intro w hSw; (try dsimp only at hSw); go_simp; try with_reducible rfl)
      try simp only [Act.put, zl, z0, z1]
      refine takeT (v := ?_) 8 rfl (by kernel_rfl) (by kernel_rfl) (by kernel_rfl) (by kernel_rfl) (fun _ _ _ h => h) (Or.inl ⟨by rfl, ?_⟩) (by assumption) ?_; rotate_left
      · (intro w hSw; (try dsimp only at hSw); go_simp; try with_reducible rfl)
      try simp only [Act.put, zl, z0, z1]
      refine takeT (v := ?_) 9 rfl (by kernel_rfl) (by kernel_rfl) (by kernel_rfl) (by kernel_rfl) (fun _ _ _ h => h) (Or.inl ⟨by rfl, ?_⟩) (by assumption) ?_; rotate_left
      · (intro w hSw; (try dsimp only at hSw); go_simp; try with_reducible rfl)
      try simp only [Act.put, zl, z0, z1]
      refine takeT (v := ?_) 10 rfl (by kernel_rfl) (by kernel_rfl) (by kernel_rfl) (by kernel_rfl) (fun _ _ _ h => h) (Or.inl ⟨by rfl, ?_⟩) (by assumption) ?_; rotate_left
      · (intro w hSw; (try dsimp only at hSw); go_simp; try with_reducible rfl)
      try simp only [Act.put, zl, z0, z1]
      refine takeT (v := ?_) 11 rfl (by kernel_rfl) (by kernel_rfl) (by kernel_rfl) (by kernel_rfl) (fun _ _ _ h => h) (Or.inl ⟨by rfl, ?_⟩) (by assumption) ?_; rotate_left
      · (intro w hSw; (try dsimp only at hSw); go_simp; try with_reducible rfl)
      try simp only [Act.put, zl, z0, z1]
      refine takeT (v := ?_) 12 rfl (by kernel_rfl) (by kernel_rfl) (by kernel_rfl) (by kernel_rfl) (fun _ _ _ h => h) (Or.inl ⟨by rfl, ?_⟩) (by assumption) ?_; rotate_left
      · (intro w hSw; (try dsimp only at hSw); go_simp; try with_reducible rfl)
      try simp only [Act.put, zl, z0, z1]
      refine wpAnyT_ready (rs := [0]) (by kernel_rfl) (by simp) ?_
      refine consT 0 rfl (fun K hK => ?_) AllReadyT.nil
      go_simp
      refine hK.out _ _ ?_ (fun hHeld1 => ?_)
      · (try dsimp only); first | exact hkeep _ _ HG6.out (by assumption) | exact hkeep _ _ HG5.out (by assumption) | exact hkeep _ _ (zbA (zbR _ _) (show W1.heap.size ≤ _ by simp; omega) _) (by assumption) | exact hkeep _ _ (zbD (zbR _ _)) hS | (first | (go_keep; done) | (go_split_ands; (repeat' apply And.intro) <;> first | (go_keep; done) | (simp [*, zcA, zcP, zfA, zfP]; done) | (simp [zcA, zcP] <;> rfl) | (simp [*, zsS, zsO, zsA]; done) | ((first | refine (hc _ _ ?_).trans ?_ | refine (hf _ _ ?_).trans ?_) <;> first | assumption | (simp; done) | (simp; omega) | omega | (go_keep; done) | (simp [*, zcA, zcP, zfA, zfP]; done) | (simp [zcA, zcP]; rfl)) | (repeat' first | exact zbR _ _ | assumption | refine zbD ?_ | refine zbA ?_ ?_ _ | refine zbS ?_ ?_ _ | refine zbT ?_ (by assumption) ?_ | (simp; done) | (simp; omega) | omega)))
      clear hK K hHeld0
      try simp only [Act.put, zl, z0, z1]
      refine wpAnyT_ready (rs := [6]) (by kernel_rfl) (by simp) ?_
      refine consT 6 rfl (fun K hK => ?_) AllReadyT.nil
      first | (refine step_app_strips rfl (.tmp 109) (.tmp 114) rfl W1.heap.size (.slice (some ⟨W1.heap.size, 0, none⟩) 0 0) [] 0 rfl (owns_emptyS (by first | exact World.alloc_heap_new _ _ | exact World.alloc_heap_new W1 _) (by first | (simp; done) | (simp; omega) | omega)) (some ⟨g, 0, none⟩) m _ (ss'.take m) rfl HL1.out ((HT1.out.below (show Below W1.heap.size W1 _ by (repeat' first | exact zbR _ _ | assumption | refine zbD ?_ | refine zbA ?_ ?_ _ | refine zbS ?_ ?_ _ | refine zbT ?_ (by assumption) ?_ | (simp; done) | (simp; omega) | omega))).mono (by first | (simp; done) | (simp; omega) | omega)) (fun e => by cases e) (by omega) (by omega) (by first | (simp; done) | (simp; omega) | omega) m (by omega) ?_; intro A5 c5 w5 hown5 hgrow5; have hg5 := grown_below (B := W1.heap.size) hgrow5 (by first | (simp; done) | (simp; omega) | omega) (fun g hg => by have hg' : W1.heap.size = g := Option.some.inj hg; omega); have HO5 := hide hown5; have HG5 := hide hg5; have q5 : W1.heap.size + 1 ≤ w5.heap.size := Nat.le_trans (Nat.le_of_eq (World.size_alloc W1 _).symm) hgrow5.size; clear hown5 hgrow5) | (refine step_app_strips rfl (.tmp 115) (.tmp 121) rfl W1.heap.size (.slice A5 m c5) (ss'.take m) m rfl HO5.out _ 0 _ (ss'.drop (m + 1)) rfl HL2.out ((HT2.out.below (show Below W1.heap.size W1 _ by (repeat' first | exact zbR _ _ | assumption | refine zbD ?_ | refine zbA ?_ ?_ _ | refine zbS ?_ ?_ _ | refine zbT ?_ (by assumption) ?_ | (simp; done) | (simp; omega) | omega))).mono (by first | (simp; done) | (simp; omega) | omega)) (fun e => by cases e) (by omega) (by omega) (by first | (simp; done) | (simp; omega) | omega) (n - 1) (by omega) ?_; intro A6 c6 w6 hown6 hgrow6; have hg6 := grown_below (B := W1.heap.size) hgrow6 (by first | (simp; done) | (simp; omega) | omega) (fun g hg => (HO5.out.lt g hg).1); have HO6 := hide hown6; have HG6 := hide hg6; clear hown6 hgrow6)
      refine hK.out _ _ ?_ (fun hHeld2 => ?_)
      · (try dsimp only); first | exact hkeep _ _ HG6.out (by assumption) | exact hkeep _ _ HG5.out (by assumption) | exact hkeep _ _ (zbA (zbR _ _) (show W1.heap.size ≤ _ by simp; omega) _) (by assumption) | exact hkeep _ _ (zbD (zbR _ _)) hS | (first | (go_keep; done) | (go_split_ands; (repeat' apply And.intro) <;> first | (go_keep; done) | (simp [*, zcA, zcP, zfA, zfP]; done) | (simp [zcA, zcP] <;> rfl) | (simp [*, zsS, zsO, zsA]; done) | ((first | refine (hc _ _ ?_).trans ?_ | refine (hf _ _ ?_).trans ?_) <;> first | assumption | (simp; done) | (simp; omega) | omega | (go_keep; done) | (simp [*, zcA, zcP, zfA, zfP]; done) | (simp [zcA, zcP]; rfl)) | (repeat' first | exact zbR _ _ | assumption | refine zbD ?_ | refine zbA ?_ ?_ _ | refine zbS ?_ ?_ _ | refine zbT ?_ (by assumption) ?_ | (simp; done) | (simp; omega) | omega)))
      clear hK K hHeld1
      try simp only [Act.put, zl, z0, z1]
      refine wpAnyT_ready (rs := [13]) (by kernel_rfl) (by simp) ?_
      refine consT 13 rfl (fun K hK => ?_) AllReadyT.nil
      first | (refine step_app_strips rfl (.tmp 109) (.tmp 114) rfl W1.heap.size (.slice (some ⟨W1.heap.size, 0, none⟩) 0 0) [] 0 rfl (owns_emptyS (by first | exact World.alloc_heap_new _ _ | exact World.alloc_heap_new W1 _) (by first | (simp; done) | (simp; omega) | omega)) (some ⟨g, 0, none⟩) m _ (ss'.take m) rfl HL1.out ((HT1.out.below (show Below W1.heap.size W1 _ by (repeat' first | exact zbR _ _ | assumption | refine zbD ?_ | refine zbA ?_ ?_ _ | refine zbS ?_ ?_ _ | refine zbT ?_ (by assumption) ?_ | (simp; done) | (simp; omega) | omega))).mono (by first | (simp; done) | (simp; omega) | omega)) (fun e => by cases e) (by omega) (by omega) (by first | (simp; done) | (simp; omega) | omega) m (by omega) ?_; intro A5 c5 w5 hown5 hgrow5; have hg5 := grown_below (B := W1.heap.size) hgrow5 (by first | (simp; done) | (simp; omega) | omega) (fun g hg => by have hg' : W1.heap.size = g := Option.some.inj hg; omega); have HO5 := hide hown5; have HG5 := hide hg5; have q5 : W1.heap.size + 1 ≤ w5.heap.size := Nat.le_trans (Nat.le_of_eq (World.size_alloc W1 _).symm) hgrow5.size; clear hown5 hgrow5) | (refine step_app_strips rfl (.tmp 115) (.tmp 121) rfl W1.heap.size (.slice A5 m c5) (ss'.take m) m rfl HO5.out _ 0 _ (ss'.drop (m + 1)) rfl HL2.out ((HT2.out.below (show Below W1.heap.size W1 _ by (repeat' first | exact zbR _ _ | assumption | refine zbD ?_ | refine zbA ?_ ?_ _ | refine zbS ?_ ?_ _ | refine zbT ?_ (by assumption) ?_ | (simp; done) | (simp; omega) | omega))).mono (by first | (simp; done) | (simp; omega) | omega)) (fun e => by cases e) (by omega) (by omega) (by first | (simp; done) | (simp; omega) | omega) (n - 1) (by omega) ?_; intro A6 c6 w6 hown6 hgrow6; have hg6 := grown_below (B := W1.heap.size) hgrow6 (by first | (simp; done) | (simp; omega) | omega) (fun g hg => (HO5.out.lt g hg).1); have HO6 := hide hown6; have HG6 := hide hg6; clear hown6 hgrow6)
      refine hK.out _ _ ?_ (fun hHeld3 => ?_)
      · (try dsimp only); first | exact hkeep _ _ HG6.out (by assumption) | exact hkeep _ _ HG5.out (by assumption) | exact hkeep _ _ (zbA (zbR _ _) (show W1.heap.size ≤ _ by simp; omega) _) (by assumption) | exact hkeep _ _ (zbD (zbR _ _)) hS | (first | (go_keep; done) | (go_split_ands; (repeat' apply And.intro) <;> first | (go_keep; done) | (simp [*, zcA, zcP, zfA, zfP]; done) | (simp [zcA, zcP] <;> rfl) | (simp [*, zsS, zsO, zsA]; done) | ((first | refine (hc _ _ ?_).trans ?_ | refine (hf _ _ ?_).trans ?_) <;> first | assumption | (simp; done) | (simp; omega) | omega | (go_keep; done) | (simp [*, zcA, zcP, zfA, zfP]; done) | (simp [zcA, zcP]; rfl)) | (repeat' first | exact zbR _ _ | assumption | refine zbD ?_ | refine zbA ?_ ?_ _ | refine zbS ?_ ?_ _ | refine zbT ?_ (by assumption) ?_ | (simp; done) | (simp; omega) | omega)))
      clear hK K hHeld2
      try simp only [Act.put, zl, z0, z1]
      refine takeT (v := ?_) 14 rfl (by kernel_rfl) (by kernel_rfl) (by kernel_rfl) (by kernel_rfl) (fun _ _ _ h => h) (Or.inl ⟨by rfl, ?_⟩) (by assumption) ?_; rotate_left
      · (intro w hSw; (try dsimp only at hSw); go_simp; try with_reducible rfl)
      try simp only [Act.put, zl, z0, z1]
      refine wpAnyT_ready (rs := [15]) (by kernel_rfl) (by simp) ?_
      refine lastT rfl (fun K hK => ?_)
      (try dsimp only at hHeld3)
      go_simp
      refine hK.out _ _ ?_
      clear hK K
      try simp only [Act.put, zl, z0, z1]
      refine wpAnyT_done (by kernel_rfl) ?_ _
      have g5 := HG5.out
      have g6 := HG6.out
      have hB16 : Below W1.heap.size W1 w6 := by (repeat' first | exact zbR _ _ | assumption | refine zbD ?_ | refine zbA ?_ ?_ _ | refine zbS ?_ ?_ _ | refine zbT ?_ (by assumption) ?_ | (simp; done) | (simp; omega) | omega)
      obtain ⟨W2, hW2⟩ : ∃ W2, World.setCell w6 ⟨o, 1, none⟩ (.slice A6 (n - 1) c6) = W2 := ⟨_, rfl⟩
      have HB02 := hide (show Below W0.heap.size W0 W2 by rw [← hW2]; exact zbS (HB01.out.trans (hB16.mono HB01.out.size)) ho0 _)
      have go2 : W2.heap[o]? = some (.cells #[.int .i64 v.size, .slice A6 (n - 1) c6, .int .i64 y1, .int .i64 y2, .int .i64 y3, .int .i64 y4, .int .i64 y5] 26 (0, 0)) := by rw [← hW2]; exact blk_set ((hB16.block o lo).trans GO.out) 1 _
      have HO2 := hide (show W2.ownsRow W1.heap.size 54 4 (.slice A6 (n - 1) c6) (n - 1) (flatS (ss'.take m ++ ss'.drop (m + 1))) by rw [← hW2]; exact ownsRow_setCell_below HO6.out lo _)
      have HLL := hide (show (ss'.take m ++ ss'.drop (m + 1)).length = n - 1 by rw [List.length_append, HL1.out, HL2.out]; omega)
      have HRS2 := hide (owns_RdS HO2.out HLL.out)
      have HRV2 := hide ((HR0.out.below HB02.out).mono HB02.out.size)
      have GB2 := hide (GB.out.trans (HB02.out.mono GB.out.size))
      have bp2 := (HB02.out.block p lp).trans GP.out
      have bq2 := (HB02.out.block q lq).trans GQ.out
      have lo2 := blk_lt go2
      have lp2 := blk_lt bp2
      have lq2 := blk_lt bq2
      rw [hW2]
      clear hW2 g5 g6 hB16 hkeep hS hw1 hm01 hmm1 cp0 cp1 cp2 cp3 cp4 cp5 cp6 cq0 cq1 cq2 cq3 co0 co1 co2 co3 co4 co5 co6 cr0 cr1 cr2 cr3 fo1 lo lp1 lq1 lr1
      have cp0 := (blk_cell bp2 0).trans rfl; have cp1 := (blk_cell bp2 1).trans rfl; have cp2 := (blk_cell bp2 2).trans rfl; have cp3 := (blk_cell bp2 3).trans rfl; have cp4 := (blk_cell bp2 4).trans rfl; have cp5 := (blk_cell bp2 5).trans rfl; have cp6 := (blk_cell bp2 6).trans rfl
      have cq0 := (blk_cell bq2 0).trans rfl; have cq1 := (blk_cell bq2 1).trans rfl; have cq2 := (blk_cell bq2 2).trans rfl; have cq3 := (blk_cell bq2 3).trans rfl
      have co0 := (blk_cell go2 0).trans rfl; have co1 := (blk_cell go2 1).trans rfl; have co2 := (blk_cell go2 2).trans rfl; have co3 := (blk_cell go2 3).trans rfl; have co4 := (blk_cell go2 4).trans rfl; have co5 := (blk_cell go2 5).trans rfl; have co6 := (blk_cell go2 6).trans rfl
      clear bp2 bq2 go2
      obtain ⟨m1, hm1⟩ : ∃ y, L.callV v b = y := ⟨_, rfl⟩
      obtain ⟨n1, hn1⟩ : ∃ y, L.callV ⟨v.size, ss'.take m ++ ss'.drop (m + 1), y1, y2, y3, y4, y5⟩ b = y := ⟨_, rfl⟩
      obtain ⟨e1, he1⟩ : ∃ y, L.callE v b = y := ⟨_, rfl⟩
      obtain ⟨e2, he2⟩ : ∃ y, L.callE ⟨v.size, ss'.take m ++ ss'.drop (m + 1), y1, y2, y3, y4, y5⟩ b = y := ⟨_, rfl⟩
      obtain ⟨g1, hg1⟩ : ∃ y, L.cenN v = y := ⟨_, rfl⟩
      obtain ⟨g2, hg2⟩ : ∃ y, L.cenN ⟨v.size, ss'.take m ++ ss'.drop (m + 1), y1, y2, y3, y4, y5⟩ = y := ⟨_, rfl⟩
      cases hvo : L.viewB ⟨v.size, ss'.take m ++ ss'.drop (m + 1), y1, y2, y3, y4, y5⟩
      · have HC := hide (show L.checkE ⟨v.size, ss'.take m ++ ss'.drop (m + 1), y1, y2, y3, y4, y5⟩ = 20 by unfold L.checkE; rw [hvo]; rfl)
        clear hvo hm1 hn1 he1 he2 hg1 hg2
        go_wp2_with (first | (go_at_call 23; refine (RefCheck_raw v.size y1 y2 y3 y4 y5 (ss'.take m ++ ss'.drop (m + 1)) A6 (n - 1) c6 _ HLL.out ((HRS2.out.below (by (repeat' first | exact zbR _ _ | assumption | refine zbD ?_ | refine zbA ?_ ?_ _ | refine zbS ?_ ?_ _ | refine zbT ?_ (by assumption) ?_ | (simp; done) | (simp; omega) | omega))).mono (by first | (simp; done) | (simp; omega) | omega))).mono ?_; rintro e w11 ⟨rfl, hb11⟩; rw [HC.out]; obtain ⟨hc11, hf11⟩ := bcell hb11; have q11 := hb11.size; (try simp only [World.size_alloc] at q11); have z11_p : p < w11.heap.size := (by omega); have z11_q : q < w11.heap.size := (by omega); have z11_o : o < w11.heap.size := (by omega)) | (go_at_call 16; refine (works_any _).mono ?_; rintro e w19 ⟨rfl, hb19⟩))
        go_ret
        exact ⟨rfl, GB2.out.trans ((show Below W2.heap.size W2 _ by (repeat' first | exact zbR _ _ | assumption | refine zbD ?_ | refine zbA ?_ ?_ _ | refine zbS ?_ ?_ _ | refine zbT ?_ (by assumption) ?_ | (simp; done) | (simp; omega) | omega)).mono GB2.out.size)⟩
      · have HC := hide (show L.checkE ⟨v.size, ss'.take m ++ ss'.drop (m + 1), y1, y2, y3, y4, y5⟩ = 0 by unfold L.checkE; rw [hvo]; rfl)
        obtain ⟨k1', k2', k3', k4', k5'⟩ := L.lss_ok HVB.out hvo HBB.out HL.out
        rw [he1] at k1' k3'
        rw [he2] at k2' k3'
        rw [hg1, hg2] at k4'
        rw [he1, hm1, hn1] at k5'
        have HM1 := hide hm1
        have HN1 := hide hn1
        have HE1 := hide he1
        have HE2 := hide he2
        have HG1 := hide hg1
        have HG2 := hide hg2
        have K1 := hide k1'.symm
        have K2 := hide k2'.symm
        clear hvo hm1 hn1 he1 he2 hg1 hg2 k1' k2'
        by_cases hz : e1 = 0
        · have hz2 := k3' hz
          have hr := k5' hz
          subst hz hz2
          clear k3' k5'
          by_cases hmn : n1 = m1
          · subst hmn
            clear hr
            go_upto_region 11 with (go_at_call 23; refine (RefCheck_raw v.size y1 y2 y3 y4 y5 (ss'.take m ++ ss'.drop (m + 1)) A6 (n - 1) c6 _ HLL.out ((HRS2.out.below (by (repeat' first | exact zbR _ _ | assumption | refine zbD ?_ | refine zbA ?_ ?_ _ | refine zbS ?_ ?_ _ | refine zbT ?_ (by assumption) ?_ | (simp; done) | (simp; omega) | omega))).mono (by first | (simp; done) | (simp; omega) | omega))).mono ?_; rintro e w11 ⟨rfl, hb11⟩; rw [HC.out]; obtain ⟨hc11, hf11⟩ := bcell hb11; have q11 := hb11.size; (try simp only [World.size_alloc] at q11); have z11_p : p < w11.heap.size := (by omega); have z11_q : q < w11.heap.size := (by omega); have z11_o : o < w11.heap.size := (by omega))
            go_upto_region 12 with (go_at_call 17; refine (Call_any v A n c b _ HN.out ((HRV2.out.below (by (repeat' first | exact zbR _ _ | assumption | refine zbD ?_ | refine zbA ?_ ?_ _ | refine zbS ?_ ?_ _ | refine zbT ?_ (by assumption) ?_ | (simp; done) | (simp; omega) | omega))).mono (by first | (simp; done) | (simp; omega) | omega))).mono ?_; rintro e w12 ⟨rfl, hb12⟩; rw [HM1.out, HE1.out]; obtain ⟨hc12, hf12⟩ := bcell hb12; have q12 := hb12.size; (try simp only [World.size_alloc] at q12); have z12_p : p < w12.heap.size := (by omega); have z12_q : q < w12.heap.size := (by omega); have z12_o : o < w12.heap.size := (by omega))
            go_upto_region 13 with (go_at_call 17; refine (Call_raw v.size y1 y2 y3 y4 y5 (ss'.take m ++ ss'.drop (m + 1)) A6 (n - 1) c6 b _ HLL.out ((HRS2.out.below (by (repeat' first | exact zbR _ _ | assumption | refine zbD ?_ | refine zbA ?_ ?_ _ | refine zbS ?_ ?_ _ | refine zbT ?_ (by assumption) ?_ | (simp; done) | (simp; omega) | omega))).mono (by first | (simp; done) | (simp; omega) | omega))).mono ?_; rintro e w13 ⟨rfl, hb13⟩; rw [HN1.out, HE2.out]; obtain ⟨hc13, hf13⟩ := bcell hb13; have q13 := hb13.size; (try simp only [World.size_alloc] at q13); have z13_p : p < w13.heap.size := (by omega); have z13_q : q < w13.heap.size := (by omega); have z13_o : o < w13.heap.size := (by omega))
            go_upto_region 14 with (go_at_call 24; refine (Centres_any' v A n c _ HN.out ((HRV2.out.below (by (repeat' first | exact zbR _ _ | assumption | refine zbD ?_ | refine zbA ?_ ?_ _ | refine zbS ?_ ?_ _ | refine zbT ?_ (by assumption) ?_ | (simp; done) | (simp; omega) | omega))).mono (by first | (simp; done) | (simp; omega) | omega))).mono ?_; rintro e w14 ⟨rfl, hb14⟩; rw [HG1.out, K1.out]; obtain ⟨hc14, hf14⟩ := bcell hb14; have q14 := hb14.size; (try simp only [World.size_alloc] at q14); have z14_p : p < w14.heap.size := (by omega); have z14_q : q < w14.heap.size := (by omega); have z14_o : o < w14.heap.size := (by omega))
            go_wp2_with (first | (go_at_call 24; refine (Centres_raw v.size y1 y2 y3 y4 y5 (ss'.take m ++ ss'.drop (m + 1)) A6 (n - 1) c6 _ HLL.out ((HRS2.out.below (by (repeat' first | exact zbR _ _ | assumption | refine zbD ?_ | refine zbA ?_ ?_ _ | refine zbS ?_ ?_ _ | refine zbT ?_ (by assumption) ?_ | (simp; done) | (simp; omega) | omega))).mono (by first | (simp; done) | (simp; omega) | omega))).mono ?_; rintro e w15 ⟨b1, b2, b3, b4, rfl, hb15⟩; rw [HG2.out, K2.out]; obtain ⟨hc15, hf15⟩ := bcell hb15; have q15 := hb15.size; (try simp only [World.size_alloc] at q15); have z15_p : p < w15.heap.size := (by omega); have z15_q : q < w15.heap.size := (by omega); have z15_o : o < w15.heap.size := (by omega)) | (go_at_call 16; refine (works_any _).mono ?_; rintro e w19 ⟨rfl, hb19⟩))
            go_ret
            exact ⟨rfl, GB2.out.trans ((show Below W2.heap.size W2 _ by (repeat' first | exact zbR _ _ | assumption | refine zbD ?_ | refine zbA ?_ ?_ _ | refine zbS ?_ ?_ _ | refine zbT ?_ (by assumption) ?_ | (simp; done) | (simp; omega) | omega)).mono GB2.out.size)⟩
          · have hr3 : n1 = 3 := hr.resolve_left hmn
            subst hr3
            have dmn : ((3 : Int) == m1) = false := by simpa using hmn
            clear hmn hr
            go_upto_region 11 with (go_at_call 23; refine (RefCheck_raw v.size y1 y2 y3 y4 y5 (ss'.take m ++ ss'.drop (m + 1)) A6 (n - 1) c6 _ HLL.out ((HRS2.out.below (by (repeat' first | exact zbR _ _ | assumption | refine zbD ?_ | refine zbA ?_ ?_ _ | refine zbS ?_ ?_ _ | refine zbT ?_ (by assumption) ?_ | (simp; done) | (simp; omega) | omega))).mono (by first | (simp; done) | (simp; omega) | omega))).mono ?_; rintro e w11 ⟨rfl, hb11⟩; rw [HC.out]; obtain ⟨hc11, hf11⟩ := bcell hb11; have q11 := hb11.size; (try simp only [World.size_alloc] at q11); have z11_p : p < w11.heap.size := (by omega); have z11_q : q < w11.heap.size := (by omega); have z11_o : o < w11.heap.size := (by omega))
            go_upto_region 12 with (go_at_call 17; refine (Call_any v A n c b _ HN.out ((HRV2.out.below (by (repeat' first | exact zbR _ _ | assumption | refine zbD ?_ | refine zbA ?_ ?_ _ | refine zbS ?_ ?_ _ | refine zbT ?_ (by assumption) ?_ | (simp; done) | (simp; omega) | omega))).mono (by first | (simp; done) | (simp; omega) | omega))).mono ?_; rintro e w12 ⟨rfl, hb12⟩; rw [HM1.out, HE1.out]; obtain ⟨hc12, hf12⟩ := bcell hb12; have q12 := hb12.size; (try simp only [World.size_alloc] at q12); have z12_p : p < w12.heap.size := (by omega); have z12_q : q < w12.heap.size := (by omega); have z12_o : o < w12.heap.size := (by omega))
            go_upto_region 13 with (go_at_call 17; refine (Call_raw v.size y1 y2 y3 y4 y5 (ss'.take m ++ ss'.drop (m + 1)) A6 (n - 1) c6 b _ HLL.out ((HRS2.out.below (by (repeat' first | exact zbR _ _ | assumption | refine zbD ?_ | refine zbA ?_ ?_ _ | refine zbS ?_ ?_ _ | refine zbT ?_ (by assumption) ?_ | (simp; done) | (simp; omega) | omega))).mono (by first | (simp; done) | (simp; omega) | omega))).mono ?_; rintro e w13 ⟨rfl, hb13⟩; rw [HN1.out, HE2.out]; obtain ⟨hc13, hf13⟩ := bcell hb13; have q13 := hb13.size; (try simp only [World.size_alloc] at q13); have z13_p : p < w13.heap.size := (by omega); have z13_q : q < w13.heap.size := (by omega); have z13_o : o < w13.heap.size := (by omega))
            go_upto_region 14 with (go_at_call 24; refine (Centres_any' v A n c _ HN.out ((HRV2.out.below (by (repeat' first | exact zbR _ _ | assumption | refine zbD ?_ | refine zbA ?_ ?_ _ | refine zbS ?_ ?_ _ | refine zbT ?_ (by assumption) ?_ | (simp; done) | (simp; omega) | omega))).mono (by first | (simp; done) | (simp; omega) | omega))).mono ?_; rintro e w14 ⟨rfl, hb14⟩; rw [HG1.out, K1.out]; obtain ⟨hc14, hf14⟩ := bcell hb14; have q14 := hb14.size; (try simp only [World.size_alloc] at q14); have z14_p : p < w14.heap.size := (by omega); have z14_q : q < w14.heap.size := (by omega); have z14_o : o < w14.heap.size := (by omega))
            go_wp2_with (first | (go_at_call 24; refine (Centres_raw v.size y1 y2 y3 y4 y5 (ss'.take m ++ ss'.drop (m + 1)) A6 (n - 1) c6 _ HLL.out ((HRS2.out.below (by (repeat' first | exact zbR _ _ | assumption | refine zbD ?_ | refine zbA ?_ ?_ _ | refine zbS ?_ ?_ _ | refine zbT ?_ (by assumption) ?_ | (simp; done) | (simp; omega) | omega))).mono (by first | (simp; done) | (simp; omega) | omega))).mono ?_; rintro e w15 ⟨b1, b2, b3, b4, rfl, hb15⟩; rw [HG2.out, K2.out]; obtain ⟨hc15, hf15⟩ := bcell hb15; have q15 := hb15.size; (try simp only [World.size_alloc] at q15); have z15_p : p < w15.heap.size := (by omega); have z15_q : q < w15.heap.size := (by omega); have z15_o : o < w15.heap.size := (by omega)) | (go_at_call 16; refine (works_any _).mono ?_; rintro e w19 ⟨rfl, hb19⟩))
            go_ret
            exact ⟨rfl, GB2.out.trans ((show Below W2.heap.size W2 _ by (repeat' first | exact zbR _ _ | assumption | refine zbD ?_ | refine zbA ?_ ?_ _ | refine zbS ?_ ?_ _ | refine zbT ?_ (by assumption) ?_ | (simp; done) | (simp; omega) | omega)).mono GB2.out.size)⟩
        · have dz : (e1 == 0) = false := by simpa using hz
          have dz' : (e1 != 0) = true := by simpa using hz
          clear hz k3' k5'
          go_upto_region 11 with (go_at_call 23; refine (RefCheck_raw v.size y1 y2 y3 y4 y5 (ss'.take m ++ ss'.drop (m + 1)) A6 (n - 1) c6 _ HLL.out ((HRS2.out.below (by (repeat' first | exact zbR _ _ | assumption | refine zbD ?_ | refine zbA ?_ ?_ _ | refine zbS ?_ ?_ _ | refine zbT ?_ (by assumption) ?_ | (simp; done) | (simp; omega) | omega))).mono (by first | (simp; done) | (simp; omega) | omega))).mono ?_; rintro e w11 ⟨rfl, hb11⟩; rw [HC.out]; obtain ⟨hc11, hf11⟩ := bcell hb11; have q11 := hb11.size; (try simp only [World.size_alloc] at q11); have z11_p : p < w11.heap.size := (by omega); have z11_q : q < w11.heap.size := (by omega); have z11_o : o < w11.heap.size := (by omega))
          go_upto_region 12 with (go_at_call 17; refine (Call_any v A n c b _ HN.out ((HRV2.out.below (by (repeat' first | exact zbR _ _ | assumption | refine zbD ?_ | refine zbA ?_ ?_ _ | refine zbS ?_ ?_ _ | refine zbT ?_ (by assumption) ?_ | (simp; done) | (simp; omega) | omega))).mono (by first | (simp; done) | (simp; omega) | omega))).mono ?_; rintro e w12 ⟨rfl, hb12⟩; rw [HM1.out, HE1.out]; obtain ⟨hc12, hf12⟩ := bcell hb12; have q12 := hb12.size; (try simp only [World.size_alloc] at q12); have z12_p : p < w12.heap.size := (by omega); have z12_q : q < w12.heap.size := (by omega); have z12_o : o < w12.heap.size := (by omega))
          go_upto_region 13 with (go_at_call 17; refine (Call_raw v.size y1 y2 y3 y4 y5 (ss'.take m ++ ss'.drop (m + 1)) A6 (n - 1) c6 b _ HLL.out ((HRS2.out.below (by (repeat' first | exact zbR _ _ | assumption | refine zbD ?_ | refine zbA ?_ ?_ _ | refine zbS ?_ ?_ _ | refine zbT ?_ (by assumption) ?_ | (simp; done) | (simp; omega) | omega))).mono (by first | (simp; done) | (simp; omega) | omega))).mono ?_; rintro e w13 ⟨rfl, hb13⟩; rw [HN1.out, HE2.out]; obtain ⟨hc13, hf13⟩ := bcell hb13; have q13 := hb13.size; (try simp only [World.size_alloc] at q13); have z13_p : p < w13.heap.size := (by omega); have z13_q : q < w13.heap.size := (by omega); have z13_o : o < w13.heap.size := (by omega))
          go_upto_region 14 with (go_at_call 24; refine (Centres_any' v A n c _ HN.out ((HRV2.out.below (by (repeat' first | exact zbR _ _ | assumption | refine zbD ?_ | refine zbA ?_ ?_ _ | refine zbS ?_ ?_ _ | refine zbT ?_ (by assumption) ?_ | (simp; done) | (simp; omega) | omega))).mono (by first | (simp; done) | (simp; omega) | omega))).mono ?_; rintro e w14 ⟨rfl, hb14⟩; rw [HG1.out, K1.out]; obtain ⟨hc14, hf14⟩ := bcell hb14; have q14 := hb14.size; (try simp only [World.size_alloc] at q14); have z14_p : p < w14.heap.size := (by omega); have z14_q : q < w14.heap.size := (by omega); have z14_o : o < w14.heap.size := (by omega))
          go_wp2_with (first | (go_at_call 24; refine (Centres_raw v.size y1 y2 y3 y4 y5 (ss'.take m ++ ss'.drop (m + 1)) A6 (n - 1) c6 _ HLL.out ((HRS2.out.below (by (repeat' first | exact zbR _ _ | assumption | refine zbD ?_ | refine zbA ?_ ?_ _ | refine zbS ?_ ?_ _ | refine zbT ?_ (by assumption) ?_ | (simp; done) | (simp; omega) | omega))).mono (by first | (simp; done) | (simp; omega) | omega))).mono ?_; rintro e w15 ⟨b1, b2, b3, b4, rfl, hb15⟩; rw [HG2.out, K2.out]; obtain ⟨hc15, hf15⟩ := bcell hb15; have q15 := hb15.size; (try simp only [World.size_alloc] at q15); have z15_p : p < w15.heap.size := (by omega); have z15_q : q < w15.heap.size := (by omega); have z15_o : o < w15.heap.size := (by omega)) | (go_at_call 16; refine (works_any _).mono ?_; rintro e w19 ⟨rfl, hb19⟩))
          go_ret
          exact ⟨rfl, GB2.out.trans ((show Below W2.heap.size W2 _ by (repeat' first | exact zbR _ _ | assumption | refine zbD ?_ | refine zbA ?_ ?_ _ | refine zbS ?_ ?_ _ | refine zbT ?_ (by assumption) ?_ | (simp; done) | (simp; omega) | omega)).mono GB2.out.size)⟩
    · refine wp_region_T_drew (S := (fun w' => Below W1.heap.size W1 w' ∧ o < w'.heap.size ∧ r < w'.heap.size ∧ w'.cell? ⟨o, 1, none⟩ = some (.slice (some ⟨g, 0, none⟩) n c1) ∧ w'.frozen? ⟨o, 1, none⟩ = false ∧ w'.cell? ⟨r, 3, none⟩ = some (.int .i64 (m : Int)))) 15 (by kernel_rfl) ?_ (fun hHeld0 => ?_)
      · (try dsimp only); first | exact hkeep _ _ HG6.out (by assumption) | exact hkeep _ _ HG5.out (by assumption) | exact hkeep _ _ (zbA (zbR _ _) (show W1.heap.size ≤ _ by simp; omega) _) (by assumption) | exact hkeep _ _ (zbD (zbR _ _)) hS | (first | (go_keep; done) | (go_split_ands; (repeat' apply And.intro) <;> first | (go_keep; done) | (simp [*, zcA, zcP, zfA, zfP]; done) | (simp [zcA, zcP] <;> rfl) | (simp [*, zsS, zsO, zsA]; done) | ((first | refine (hc _ _ ?_).trans ?_ | refine (hf _ _ ?_).trans ?_) <;> first | assumption | (simp; done) | (simp; omega) | omega | (go_keep; done) | (simp [*, zcA, zcP, zfA, zfP]; done) | (simp [zcA, zcP]; rfl)) | (repeat' first | exact zbR _ _ | assumption | refine zbD ?_ | refine zbA ?_ ?_ _ | refine zbS ?_ ?_ _ | refine zbT ?_ (by assumption) ?_ | (simp; done) | (simp; omega) | omega)))
      refine takeT (v := ?_) 1 rfl (by kernel_rfl) (by kernel_rfl) (by kernel_rfl) (by kernel_rfl) (fun _ _ _ h => h) (Or.inl ⟨by rfl, ?_⟩) (by assumption) ?_; rotate_left
      · (intro w hSw; (try dsimp only at hSw); go_simp; try with_reducible rfl)
      try simp only [Act.put, zl, z0, z1]
      refine takeT (v := ?_) 2 rfl (by kernel_rfl) (by kernel_rfl) (by kernel_rfl) (by kernel_rfl) (fun _ _ _ h => h) (Or.inl ⟨by rfl, ?_⟩) (by assumption) ?_; rotate_left
      · (intro w hSw; (try dsimp only at hSw); go_simp; try with_reducible rfl)
      try simp only [Act.put, zl, z0, z1]
      refine takeT (v := ?_) 3 rfl (by kernel_rfl) (by kernel_rfl) (by kernel_rfl) (by kernel_rfl) (fun _ _ _ h => h) (Or.inl ⟨by rfl, ?_⟩) (by assumption) ?_; rotate_left
      · (intro w hSw; (try dsimp only at hSw); go_simp; try with_reducible rfl)
      try simp only [Act.put, zl, z0, z1]
      refine takeT (v := ?_) 4 rfl (by kernel_rfl) (by kernel_rfl) (by kernel_rfl) (by kernel_rfl) (fun _ _ _ h => h) (Or.inl ⟨by rfl, ?_⟩) (by assumption) ?_; rotate_left
      · (intro w hSw; (try dsimp only at hSw); go_simp; try with_reducible rfl)
      try simp only [Act.put, zl, z0, z1]
      refine takeT (v := ?_) 5 rfl (by kernel_rfl) (by kernel_rfl) (by kernel_rfl) (by kernel_rfl) (fun _ _ _ h => h) (Or.inl ⟨by rfl, ?_⟩) (by assumption) ?_; rotate_left
      · (intro w hSw; (try dsimp only at hSw); go_simp; try with_reducible rfl)
      try simp only [Act.put, zl, z0, z1]
      refine takeT (v := ?_) 7 rfl (by kernel_rfl) (by kernel_rfl) (by kernel_rfl) (by kernel_rfl) (fun _ _ _ h => h) (Or.inl ⟨by rfl, ?_⟩) (by assumption) ?_; rotate_left
      · (intro w hSw; (try dsimp only at hSw); go_simp; try with_reducible rfl)
      try simp only [Act.put, zl, z0, z1]
      refine takeT (v := ?_) 8 rfl (by kernel_rfl) (by kernel_rfl) (by kernel_rfl) (by kernel_rfl) (fun _ _ _ h => h) (Or.inl ⟨by rfl, ?_⟩) (by assumption) ?_; rotate_left
      · (intro w hSw; (try dsimp only at hSw); go_simp; try with_reducible rfl)
      try simp only [Act.put, zl, z0, z1]
      refine takeT (v := ?_) 9 rfl (by kernel_rfl) (by kernel_rfl) (by kernel_rfl) (by kernel_rfl) (fun _ _ _ h => h) (Or.inl ⟨by rfl, ?_⟩) (by assumption) ?_; rotate_left
      · (intro w hSw; (try dsimp only at hSw); go_simp; try with_reducible rfl)
      try simp only [Act.put, zl, z0, z1]
      refine takeT (v := ?_) 10 rfl (by kernel_rfl) (by kernel_rfl) (by kernel_rfl) (by kernel_rfl) (fun _ _ _ h => h) (Or.inl ⟨by rfl, ?_⟩) (by assumption) ?_; rotate_left
      · (intro w hSw; (try dsimp only at hSw); go_simp; try with_reducible rfl)
      try simp only [Act.put, zl, z0, z1]
      refine takeT (v := ?_) 11 rfl (by kernel_rfl) (by kernel_rfl) (by kernel_rfl) (by kernel_rfl) (fun _ _ _ h => h) (Or.inl ⟨by rfl, ?_⟩) (by assumption) ?_; rotate_left
      · (intro w hSw; (try dsimp only at hSw); go_simp; try with_reducible rfl)
      try simp only [Act.put, zl, z0, z1]
      refine takeT (v := ?_) 12 rfl (by kernel_rfl) (by kernel_rfl) (by kernel_rfl) (by kernel_rfl) (fun _ _ _ h => h) (Or.inl ⟨by rfl, ?_⟩) (by assumption) ?_; rotate_left
      · (intro w hSw; (try dsimp only at hSw); go_simp; try with_reducible rfl)
      try simp only [Act.put, zl, z0, z1]
      refine wpAnyT_ready (rs := [0]) (by kernel_rfl) (by simp) ?_
      refine consT 0 rfl (fun K hK => ?_) AllReadyT.nil
      go_simp
      refine hK.out _ _ ?_ (fun hHeld1 => ?_)
      · (try dsimp only); first | exact hkeep _ _ HG6.out (by assumption) | exact hkeep _ _ HG5.out (by assumption) | exact hkeep _ _ (zbA (zbR _ _) (show W1.heap.size ≤ _ by simp; omega) _) (by assumption) | exact hkeep _ _ (zbD (zbR _ _)) hS | (first | (go_keep; done) | (go_split_ands; (repeat' apply And.intro) <;> first | (go_keep; done) | (simp [*, zcA, zcP, zfA, zfP]; done) | (simp [zcA, zcP] <;> rfl) | (simp [*, zsS, zsO, zsA]; done) | ((first | refine (hc _ _ ?_).trans ?_ | refine (hf _ _ ?_).trans ?_) <;> first | assumption | (simp; done) | (simp; omega) | omega | (go_keep; done) | (simp [*, zcA, zcP, zfA, zfP]; done) | (simp [zcA, zcP]; rfl)) | (repeat' first | exact zbR _ _ | assumption | refine zbD ?_ | refine zbA ?_ ?_ _ | refine zbS ?_ ?_ _ | refine zbT ?_ (by assumption) ?_ | (simp; done) | (simp; omega) | omega)))
      clear hK K hHeld0
      try simp only [Act.put, zl, z0, z1]
      refine wpAnyT_ready (rs := [6]) (by kernel_rfl) (by simp) ?_
      refine consT 6 rfl (fun K hK => ?_) AllReadyT.nil
      first | (refine step_app_strips rfl (.tmp 109) (.tmp 114) rfl W1.heap.size (.slice (some ⟨W1.heap.size, 0, none⟩) 0 0) [] 0 rfl (owns_emptyS (by first | exact World.alloc_heap_new _ _ | exact World.alloc_heap_new W1 _) (by first | (simp; done) | (simp; omega) | omega)) (some ⟨g, 0, none⟩) m _ (ss'.take m) rfl HL1.out ((HT1.out.below (show Below W1.heap.size W1 _ by (repeat' first | exact zbR _ _ | assumption | refine zbD ?_ | refine zbA ?_ ?_ _ | refine zbS ?_ ?_ _ | refine zbT ?_ (by assumption) ?_ | (simp; done) | (simp; omega) | omega))).mono (by first | (simp; done) | (simp; omega) | omega)) (fun e => by cases e) (by omega) (by omega) (by first | (simp; done) | (simp; omega) | omega) m (by omega) ?_; intro A5 c5 w5 hown5 hgrow5; have hg5 := grown_below (B := W1.heap.size) hgrow5 (by first | (simp; done) | (simp; omega) | omega) (fun g hg => by have hg' : W1.heap.size = g := Option.some.inj hg; omega); have HO5 := hide hown5; have HG5 := hide hg5; have q5 : W1.heap.size + 1 ≤ w5.heap.size := Nat.le_trans (Nat.le_of_eq (World.size_alloc W1 _).symm) hgrow5.size; clear hown5 hgrow5) | (refine step_app_strips rfl (.tmp 115) (.tmp 121) rfl W1.heap.size (.slice A5 m c5) (ss'.take m) m rfl HO5.out _ (n - (m + 1)) _ (ss'.drop (m + 1)) rfl HL2.out ((HT2.out.below (show Below W1.heap.size W1 _ by (repeat' first | exact zbR _ _ | assumption | refine zbD ?_ | refine zbA ?_ ?_ _ | refine zbS ?_ ?_ _ | refine zbT ?_ (by assumption) ?_ | (simp; done) | (simp; omega) | omega))).mono (by first | (simp; done) | (simp; omega) | omega)) (fun e => by cases e) (by omega) (by omega) (by first | (simp; done) | (simp; omega) | omega) (n - 1) (by omega) ?_; intro A6 c6 w6 hown6 hgrow6; have hg6 := grown_below (B := W1.heap.size) hgrow6 (by first | (simp; done) | (simp; omega) | omega) (fun g hg => (HO5.out.lt g hg).1); have HO6 := hide hown6; have HG6 := hide hg6; clear hown6 hgrow6)
      refine hK.out _ _ ?_ (fun hHeld2 => ?_)
      · (try dsimp only); first | exact hkeep _ _ HG6.out (by assumption) | exact hkeep _ _ HG5.out (by assumption) | exact hkeep _ _ (zbA (zbR _ _) (show W1.heap.size ≤ _ by simp; omega) _) (by assumption) | exact hkeep _ _ (zbD (zbR _ _)) hS | (first | (go_keep; done) | (go_split_ands; (repeat' apply And.intro) <;> first | (go_keep; done) | (simp [*, zcA, zcP, zfA, zfP]; done) | (simp [zcA, zcP] <;> rfl) | (simp [*, zsS, zsO, zsA]; done) | ((first | refine (hc _ _ ?_).trans ?_ | refine (hf _ _ ?_).trans ?_) <;> first | assumption | (simp; done) | (simp; omega) | omega | (go_keep; done) | (simp [*, zcA, zcP, zfA, zfP]; done) | (simp [zcA, zcP]; rfl)) | (repeat' first | exact zbR _ _ | assumption | refine zbD ?_ | refine zbA ?_ ?_ _ | refine zbS ?_ ?_ _ | refine zbT ?_ (by assumption) ?_ | (simp; done) | (simp; omega) | omega)))
      clear hK K hHeld1
      try simp only [Act.put, zl, z0, z1]
      refine wpAnyT_ready (rs := [13]) (by kernel_rfl) (by simp) ?_
      refine consT 13 rfl (fun K hK => ?_) AllReadyT.nil
      first | (refine step_app_strips rfl (.tmp 109) (.tmp 114) rfl W1.heap.size (.slice (some ⟨W1.heap.size, 0, none⟩) 0 0) [] 0 rfl (owns_emptyS (by first | exact World.alloc_heap_new _ _ | exact World.alloc_heap_new W1 _) (by first | (simp; done) | (simp; omega) | omega)) (some ⟨g, 0, none⟩) m _ (ss'.take m) rfl HL1.out ((HT1.out.below (show Below W1.heap.size W1 _ by (repeat' first | exact zbR _ _ | assumption | refine zbD ?_ | refine zbA ?_ ?_ _ | refine zbS ?_ ?_ _ | refine zbT ?_ (by assumption) ?_ | (simp; done) | (simp; omega) | omega))).mono (by first | (simp; done) | (simp; omega) | omega)) (fun e => by cases e) (by omega) (by omega) (by first | (simp; done) | (simp; omega) | omega) m (by omega) ?_; intro A5 c5 w5 hown5 hgrow5; have hg5 := grown_below (B := W1.heap.size) hgrow5 (by first | (simp; done) | (simp; omega) | omega) (fun g hg => by have hg' : W1.heap.size = g := Option.some.inj hg; omega); have HO5 := hide hown5; have HG5 := hide hg5; have q5 : W1.heap.size + 1 ≤ w5.heap.size := Nat.le_trans (Nat.le_of_eq (World.size_alloc W1 _).symm) hgrow5.size; clear hown5 hgrow5) | (refine step_app_strips rfl (.tmp 115) (.tmp 121) rfl W1.heap.size (.slice A5 m c5) (ss'.take m) m rfl HO5.out _ (n - (m + 1)) _ (ss'.drop (m + 1)) rfl HL2.out ((HT2.out.below (show Below W1.heap.size W1 _ by (repeat' first | exact zbR _ _ | assumption | refine zbD ?_ | refine zbA ?_ ?_ _ | refine zbS ?_ ?_ _ | refine zbT ?_ (by assumption) ?_ | (simp; done) | (simp; omega) | omega))).mono (by first | (simp; done) | (simp; omega) | omega)) (fun e => by cases e) (by omega) (by omega) (by first | (simp; done) | (simp; omega) | omega) (n - 1) (by omega) ?_; intro A6 c6 w6 hown6 hgrow6; have hg6 := grown_below (B := W1.heap.size) hgrow6 (by first | (simp; done) | (simp; omega) | omega) (fun g hg => (HO5.out.lt g hg).1); have HO6 := hide hown6; have HG6 := hide hg6; clear hown6 hgrow6)
      refine hK.out _ _ ?_ (fun hHeld3 => ?_)
      · (try dsimp only); first | exact hkeep _ _ HG6.out (by assumption) | exact hkeep _ _ HG5.out (by assumption) | exact hkeep _ _ (zbA (zbR _ _) (show W1.heap.size ≤ _ by simp; omega) _) (by assumption) | exact hkeep _ _ (zbD (zbR _ _)) hS | (first | (go_keep; done) | (go_split_ands; (repeat' apply And.intro) <;> first | (go_keep; done) | (simp [*, zcA, zcP, zfA, zfP]; done) | (simp [zcA, zcP] <;> rfl) | (simp [*, zsS, zsO, zsA]; done) | ((first | refine (hc _ _ ?_).trans ?_ | refine (hf _ _ ?_).trans ?_) <;> first | assumption | (simp; done) | (simp; omega) | omega | (go_keep; done) | (simp [*, zcA, zcP, zfA, zfP]; done) | (simp [zcA, zcP]; rfl)) | (repeat' first | exact zbR _ _ | assumption | refine zbD ?_ | refine zbA ?_ ?_ _ | refine zbS ?_ ?_ _ | refine zbT ?_ (by assumption) ?_ | (simp; done) | (simp; omega) | omega)))
      clear hK K hHeld2
      try simp only [Act.put, zl, z0, z1]
      refine takeT (v := ?_) 14 rfl (by kernel_rfl) (by kernel_rfl) (by kernel_rfl) (by kernel_rfl) (fun _ _ _ h => h) (Or.inl ⟨by rfl, ?_⟩) (by assumption) ?_; rotate_left
      · (intro w hSw; (try dsimp only at hSw); go_simp; try with_reducible rfl)
      try simp only [Act.put, zl, z0, z1]
      refine wpAnyT_ready (rs := [15]) (by kernel_rfl) (by simp) ?_
      refine lastT rfl (fun K hK => ?_)
      (try dsimp only at hHeld3)
      go_simp
      refine hK.out _ _ ?_
      clear hK K
      try simp only [Act.put, zl, z0, z1]
      refine wpAnyT_done (by kernel_rfl) ?_ _
      have g5 := HG5.out
      have g6 := HG6.out
      have hB16 : Below W1.heap.size W1 w6 := by (repeat' first | exact zbR _ _ | assumption | refine zbD ?_ | refine zbA ?_ ?_ _ | refine zbS ?_ ?_ _ | refine zbT ?_ (by assumption) ?_ | (simp; done) | (simp; omega) | omega)
      obtain ⟨W2, hW2⟩ : ∃ W2, World.setCell w6 ⟨o, 1, none⟩ (.slice A6 (n - 1) c6) = W2 := ⟨_, rfl⟩
      have HB02 := hide (show Below W0.heap.size W0 W2 by rw [← hW2]; exact zbS (HB01.out.trans (hB16.mono HB01.out.size)) ho0 _)
      have go2 : W2.heap[o]? = some (.cells #[.int .i64 v.size, .slice A6 (n - 1) c6, .int .i64 y1, .int .i64 y2, .int .i64 y3, .int .i64 y4, .int .i64 y5] 26 (0, 0)) := by rw [← hW2]; exact blk_set ((hB16.block o lo).trans GO.out) 1 _
      have HO2 := hide (show W2.ownsRow W1.heap.size 54 4 (.slice A6 (n - 1) c6) (n - 1) (flatS (ss'.take m ++ ss'.drop (m + 1))) by rw [← hW2]; exact ownsRow_setCell_below HO6.out lo _)
      have HLL := hide (show (ss'.take m ++ ss'.drop (m + 1)).length = n - 1 by rw [List.length_append, HL1.out, HL2.out]; omega)
      have HRS2 := hide (owns_RdS HO2.out HLL.out)
      have HRV2 := hide ((HR0.out.below HB02.out).mono HB02.out.size)
      have GB2 := hide (GB.out.trans (HB02.out.mono GB.out.size))
      have bp2 := (HB02.out.block p lp).trans GP.out
      have bq2 := (HB02.out.block q lq).trans GQ.out
      have lo2 := blk_lt go2
      have lp2 := blk_lt bp2
      have lq2 := blk_lt bq2
      rw [hW2]
      clear hW2 g5 g6 hB16 hkeep hS hw1 hm01 hmm1 cp0 cp1 cp2 cp3 cp4 cp5 cp6 cq0 cq1 cq2 cq3 co0 co1 co2 co3 co4 co5 co6 cr0 cr1 cr2 cr3 fo1 lo lp1 lq1 lr1
      have cp0 := (blk_cell bp2 0).trans rfl; have cp1 := (blk_cell bp2 1).trans rfl; have cp2 := (blk_cell bp2 2).trans rfl; have cp3 := (blk_cell bp2 3).trans rfl; have cp4 := (blk_cell bp2 4).trans rfl; have cp5 := (blk_cell bp2 5).trans rfl; have cp6 := (blk_cell bp2 6).trans rfl
      have cq0 := (blk_cell bq2 0).trans rfl; have cq1 := (blk_cell bq2 1).trans rfl; have cq2 := (blk_cell bq2 2).trans rfl; have cq3 := (blk_cell bq2 3).trans rfl
      have co0 := (blk_cell go2 0).trans rfl; have co1 := (blk_cell go2 1).trans rfl; have co2 := (blk_cell go2 2).trans rfl; have co3 := (blk_cell go2 3).trans rfl; have co4 := (blk_cell go2 4).trans rfl; have co5 := (blk_cell go2 5).trans rfl; have co6 := (blk_cell go2 6).trans rfl
      clear bp2 bq2 go2
      obtain ⟨m1, hm1⟩ : ∃ y, L.callV v b = y := ⟨_, rfl⟩
      obtain ⟨n1, hn1⟩ : ∃ y, L.callV ⟨v.size, ss'.take m ++ ss'.drop (m + 1), y1, y2, y3, y4, y5⟩ b = y := ⟨_, rfl⟩
      obtain ⟨e1, he1⟩ : ∃ y, L.callE v b = y := ⟨_, rfl⟩
      obtain ⟨e2, he2⟩ : ∃ y, L.callE ⟨v.size, ss'.take m ++ ss'.drop (m + 1), y1, y2, y3, y4, y5⟩ b = y := ⟨_, rfl⟩
      obtain ⟨g1, hg1⟩ : ∃ y, L.cenN v = y := ⟨_, rfl⟩
      obtain ⟨g2, hg2⟩ : ∃ y, L.cenN ⟨v.size, ss'.take m ++ ss'.drop (m + 1), y1, y2, y3, y4, y5⟩ = y := ⟨_, rfl⟩
      cases hvo : L.viewB ⟨v.size, ss'.take m ++ ss'.drop (m + 1), y1, y2, y3, y4, y5⟩
      · have HC := hide (show L.checkE ⟨v.size, ss'.take m ++ ss'.drop (m + 1), y1, y2, y3, y4, y5⟩ = 20 by unfold L.checkE; rw [hvo]; rfl)
        clear hvo hm1 hn1 he1 he2 hg1 hg2
        go_wp2_with (first | (go_at_call 23; refine (RefCheck_raw v.size y1 y2 y3 y4 y5 (ss'.take m ++ ss'.drop (m + 1)) A6 (n - 1) c6 _ HLL.out ((HRS2.out.below (by (repeat' first | exact zbR _ _ | assumption | refine zbD ?_ | refine zbA ?_ ?_ _ | refine zbS ?_ ?_ _ | refine zbT ?_ (by assumption) ?_ | (simp; done) | (simp; omega) | omega))).mono (by first | (simp; done) | (simp; omega) | omega))).mono ?_; rintro e w11 ⟨rfl, hb11⟩; rw [HC.out]; obtain ⟨hc11, hf11⟩ := bcell hb11; have q11 := hb11.size; (try simp only [World.size_alloc] at q11); have z11_p : p < w11.heap.size := (by omega); have z11_q : q < w11.heap.size := (by omega); have z11_o : o < w11.heap.size := (by omega)) | (go_at_call 16; refine (works_any _).mono ?_; rintro e w19 ⟨rfl, hb19⟩))
        go_ret
        exact ⟨rfl, GB2.out.trans ((show Below W2.heap.size W2 _ by (repeat' first | exact zbR _ _ | assumption | refine zbD ?_ | refine zbA ?_ ?_ _ | refine zbS ?_ ?_ _ | refine zbT ?_ (by assumption) ?_ | (simp; done) | (simp; omega) | omega)).mono GB2.out.size)⟩
      · have HC := hide (show L.checkE ⟨v.size, ss'.take m ++ ss'.drop (m + 1), y1, y2, y3, y4, y5⟩ = 0 by unfold L.checkE; rw [hvo]; rfl)
        obtain ⟨k1', k2', k3', k4', k5'⟩ := L.lss_ok HVB.out hvo HBB.out HL.out
        rw [he1] at k1' k3'
        rw [he2] at k2' k3'
        rw [hg1, hg2] at k4'
        rw [he1, hm1, hn1] at k5'
        have HM1 := hide hm1
        have HN1 := hide hn1
        have HE1 := hide he1
        have HE2 := hide he2
        have HG1 := hide hg1
        have HG2 := hide hg2
        have K1 := hide k1'.symm
        have K2 := hide k2'.symm
        clear hvo hm1 hn1 he1 he2 hg1 hg2 k1' k2'
        by_cases hz : e1 = 0
        · have hz2 := k3' hz
          have hr := k5' hz
          subst hz hz2
          clear k3' k5'
          by_cases hmn : n1 = m1
          · subst hmn
            clear hr
            go_upto_region 11 with (go_at_call 23; refine (RefCheck_raw v.size y1 y2 y3 y4 y5 (ss'.take m ++ ss'.drop (m + 1)) A6 (n - 1) c6 _ HLL.out ((HRS2.out.below (by (repeat' first | exact zbR _ _ | assumption | refine zbD ?_ | refine zbA ?_ ?_ _ | refine zbS ?_ ?_ _ | refine zbT ?_ (by assumption) ?_ | (simp; done) | (simp; omega) | omega))).mono (by first | (simp; done) | (simp; omega) | omega))).mono ?_; rintro e w11 ⟨rfl, hb11⟩; rw [HC.out]; obtain ⟨hc11, hf11⟩ := bcell hb11; have q11 := hb11.size; (try simp only [World.size_alloc] at q11); have z11_p : p < w11.heap.size := (by omega); have z11_q : q < w11.heap.size := (by omega); have z11_o : o < w11.heap.size := (by omega))
            go_upto_region 12 with (go_at_call 17; refine (Call_any v A n c b _ HN.out ((HRV2.out.below (by (repeat' first | exact zbR _ _ | assumption | refine zbD ?_ | refine zbA ?_ ?_ _ | refine zbS ?_ ?_ _ | refine zbT ?_ (by assumption) ?_ | (simp; done) | (simp; omega) | omega))).mono (by first | (simp; done) | (simp; omega) | omega))).mono ?_; rintro e w12 ⟨rfl, hb12⟩; rw [HM1.out, HE1.out]; obtain ⟨hc12, hf12⟩ := bcell hb12; have q12 := hb12.size; (try simp only [World.size_alloc] at q12); have z12_p : p < w12.heap.size := (by omega); have z12_q : q < w12.heap.size := (by omega); have z12_o : o < w12.heap.size := (by omega))
            go_upto_region 13 with (go_at_call 17; refine (Call_raw v.size y1 y2 y3 y4 y5 (ss'.take m ++ ss'.drop (m + 1)) A6 (n - 1) c6 b _ HLL.out ((HRS2.out.below (by (repeat' first | exact zbR _ _ | assumption | refine zbD ?_ | refine zbA ?_ ?_ _ | refine zbS ?_ ?_ _ | refine zbT ?_ (by assumption) ?_ | (simp; done) | (simp; omega) | omega))).mono (by first | (simp; done) | (simp; omega) | omega))).mono ?_; rintro e w13 ⟨rfl, hb13⟩; rw [HN1.out, HE2.out]; obtain ⟨hc13, hf13⟩ := bcell hb13; have q13 := hb13.size; (try simp only [World.size_alloc] at q13); have z13_p : p < w13.heap.size := (by omega); have z13_q : q < w13.heap.size := (by omega); have z13_o : o < w13.heap.size := (by omega))
            go_upto_region 14 with (go_at_call 24; refine (Centres_any' v A n c _ HN.out ((HRV2.out.below (by (repeat' first | exact zbR _ _ | assumption | refine zbD ?_ | refine zbA ?_ ?_ _ | refine zbS ?_ ?_ _ | refine zbT ?_ (by assumption) ?_ | (simp; done) | (simp; omega) | omega))).mono (by first | (simp; done) | (simp; omega) | omega))).mono ?_; rintro e w14 ⟨rfl, hb14⟩; rw [HG1.out, K1.out]; obtain ⟨hc14, hf14⟩ := bcell hb14; have q14 := hb14.size; (try simp only [World.size_alloc] at q14); have z14_p : p < w14.heap.size := (by omega); have z14_q : q < w14.heap.size := (by omega); have z14_o : o < w14.heap.size := (by omega))
            go_wp2_with (first | (go_at_call 24; refine (Centres_raw v.size y1 y2 y3 y4 y5 (ss'.take m ++ ss'.drop (m + 1)) A6 (n - 1) c6 _ HLL.out ((HRS2.out.below (by (repeat' first | exact zbR _ _ | assumption | refine zbD ?_ | refine zbA ?_ ?_ _ | refine zbS ?_ ?_ _ | refine zbT ?_ (by assumption) ?_ | (simp; done) | (simp; omega) | omega))).mono (by first | (simp; done) | (simp; omega) | omega))).mono ?_; rintro e w15 ⟨b1, b2, b3, b4, rfl, hb15⟩; rw [HG2.out, K2.out]; obtain ⟨hc15, hf15⟩ := bcell hb15; have q15 := hb15.size; (try simp only [World.size_alloc] at q15); have z15_p : p < w15.heap.size := (by omega); have z15_q : q < w15.heap.size := (by omega); have z15_o : o < w15.heap.size := (by omega)) | (go_at_call 16; refine (works_any _).mono ?_; rintro e w19 ⟨rfl, hb19⟩))
            go_ret
            exact ⟨rfl, GB2.out.trans ((show Below W2.heap.size W2 _ by (repeat' first | exact zbR _ _ | assumption | refine zbD ?_ | refine zbA ?_ ?_ _ | refine zbS ?_ ?_ _ | refine zbT ?_ (by assumption) ?_ | (simp; done) | (simp; omega) | omega)).mono GB2.out.size)⟩
          · have hr3 : n1 = 3 := hr.resolve_left hmn
            subst hr3
            have dmn : ((3 : Int) == m1) = false := by simpa using hmn
            clear hmn hr
            go_upto_region 11 with (go_at_call 23; refine (RefCheck_raw v.size y1 y2 y3 y4 y5 (ss'.take m ++ ss'.drop (m + 1)) A6 (n - 1) c6 _ HLL.out ((HRS2.out.below (by (repeat' first | exact zbR _ _ | assumption | refine zbD ?_ | refine zbA ?_ ?_ _ | refine zbS ?_ ?_ _ | refine zbT ?_ (by assumption) ?_ | (simp; done) | (simp; omega) | omega))).mono (by first | (simp; done) | (simp; omega) | omega))).mono ?_; rintro e w11 ⟨rfl, hb11⟩; rw [HC.out]; obtain ⟨hc11, hf11⟩ := bcell hb11; have q11 := hb11.size; (try simp only [World.size_alloc] at q11); have z11_p : p < w11.heap.size := (by omega); have z11_q : q < w11.heap.size := (by omega); have z11_o : o < w11.heap.size := (by omega))
            go_upto_region 12 with (go_at_call 17; refine (Call_any v A n c b _ HN.out ((HRV2.out.below (by (repeat' first | exact zbR _ _ | assumption | refine zbD ?_ | refine zbA ?_ ?_ _ | refine zbS ?_ ?_ _ | refine zbT ?_ (by assumption) ?_ | (simp; done) | (simp; omega) | omega))).mono (by first | (simp; done) | (simp; omega) | omega))).mono ?_; rintro e w12 ⟨rfl, hb12⟩; rw [HM1.out, HE1.out]; obtain ⟨hc12, hf12⟩ := bcell hb12; have q12 := hb12.size; (try simp only [World.size_alloc] at q12); have z12_p : p < w12.heap.size := (by omega); have z12_q : q < w12.heap.size := (by omega); have z12_o : o < w12.heap.size := (by omega))
            go_upto_region 13 with (go_at_call 17; refine (Call_raw v.size y1 y2 y3 y4 y5 (ss'.take m ++ ss'.drop (m + 1)) A6 (n - 1) c6 b _ HLL.out ((HRS2.out.below (by (repeat' first | exact zbR _ _ | assumption | refine zbD ?_ | refine zbA ?_ ?_ _ | refine zbS ?_ ?_ _ | refine zbT ?_ (by assumption) ?_ | (simp; done) | (simp; omega) | omega))).mono (by first | (simp; done) | (simp; omega) | omega))).mono ?_; rintro e w13 ⟨rfl, hb13⟩; rw [HN1.out, HE2.out]; obtain ⟨hc13, hf13⟩ := bcell hb13; have q13 := hb13.size; (try simp only [World.size_alloc] at q13); have z13_p : p < w13.heap.size := (by omega); have z13_q : q < w13.heap.size := (by omega); have z13_o : o < w13.heap.size := (by omega))
            go_upto_region 14 with (go_at_call 24; refine (Centres_any' v A n c _ HN.out ((HRV2.out.below (by (repeat' first | exact zbR _ _ | assumption | refine zbD ?_ | refine zbA ?_ ?_ _ | refine zbS ?_ ?_ _ | refine zbT ?_ (by assumption) ?_ | (simp; done) | (simp; omega) | omega))).mono (by first | (simp; done) | (simp; omega) | omega))).mono ?_; rintro e w14 ⟨rfl, hb14⟩; rw [HG1.out, K1.out]; obtain ⟨hc14, hf14⟩ := bcell hb14; have q14 := hb14.size; (try simp only [World.size_alloc] at q14); have z14_p : p < w14.heap.size := (by omega); have z14_q : q < w14.heap.size := (by omega); have z14_o : o < w14.heap.size := (by omega))
            go_wp2_with (first | (go_at_call 24; refine (Centres_raw v.size y1 y2 y3 y4 y5 (ss'.take m ++ ss'.drop (m + 1)) A6 (n - 1) c6 _ HLL.out ((HRS2.out.below (by (repeat' first | exact zbR _ _ | assumption | refine zbD ?_ | refine zbA ?_ ?_ _ | refine zbS ?_ ?_ _ | refine zbT ?_ (by assumption) ?_ | (simp; done) | (simp; omega) | omega))).mono (by first | (simp; done) | (simp; omega) | omega))).mono ?_; rintro e w15 ⟨b1, b2, b3, b4, rfl, hb15⟩; rw [HG2.out, K2.out]; obtain ⟨hc15, hf15⟩ := bcell hb15; have q15 := hb15.size; (try simp only [World.size_alloc] at q15); have z15_p : p < w15.heap.size := (by omega); have z15_q : q < w15.heap.size := (by omega); have z15_o : o < w15.heap.size := (by omega)) | (go_at_call 16; refine (works_any _).mono ?_; rintro e w19 ⟨rfl, hb19⟩))
            go_ret
            exact ⟨rfl, GB2.out.trans ((show Below W2.heap.size W2 _ by (repeat' first | exact zbR _ _ | assumption | refine zbD ?_ | refine zbA ?_ ?_ _ | refine zbS ?_ ?_ _ | refine zbT ?_ (by assumption) ?_ | (simp; done) | (simp; omega) | omega)).mono GB2.out.size)⟩
        · have dz : (e1 == 0) = false := by simpa using hz
          have dz' : (e1 != 0) = true := by simpa using hz
          clear hz k3' k5'
          go_upto_region 11 with (go_at_call 23; refine (RefCheck_raw v.size y1 y2 y3 y4 y5 (ss'.take m ++ ss'.drop (m + 1)) A6 (n - 1) c6 _ HLL.out ((HRS2.out.below (by (repeat' first | exact zbR _ _ | assumption | refine zbD ?_ | refine zbA ?_ ?_ _ | refine zbS ?_ ?_ _ | refine zbT ?_ (by assumption) ?_ | (simp; done) | (simp; omega) | omega))).mono (by first | (simp; done) | (simp; omega) | omega))).mono ?_; rintro e w11 ⟨rfl, hb11⟩; rw [HC.out]; obtain ⟨hc11, hf11⟩ := bcell hb11; have q11 := hb11.size; (try simp only [World.size_alloc] at q11); have z11_p : p < w11.heap.size := (by omega); have z11_q : q < w11.heap.size := (by omega); have z11_o : o < w11.heap.size := (by omega))
          go_upto_region 12 with (go_at_call 17; refine (Call_any v A n c b _ HN.out ((HRV2.out.below (by (repeat' first | exact zbR _ _ | assumption | refine zbD ?_ | refine zbA ?_ ?_ _ | refine zbS ?_ ?_ _ | refine zbT ?_ (by assumption) ?_ | (simp; done) | (simp; omega) | omega))).mono (by first | (simp; done) | (simp; omega) | omega))).mono ?_; rintro e w12 ⟨rfl, hb12⟩; rw [HM1.out, HE1.out]; obtain ⟨hc12, hf12⟩ := bcell hb12; have q12 := hb12.size; (try simp only [World.size_alloc] at q12); have z12_p : p < w12.heap.size := (by omega); have z12_q : q < w12.heap.size := (by omega); have z12_o : o < w12.heap.size := (by omega))
          go_upto_region 13 with (go_at_call 17; refine (Call_raw v.size y1 y2 y3 y4 y5 (ss'.take m ++ ss'.drop (m + 1)) A6 (n - 1) c6 b _ HLL.out ((HRS2.out.below (by (repeat' first | exact zbR _ _ | assumption | refine zbD ?_ | refine zbA ?_ ?_ _ | refine zbS ?_ ?_ _ | refine zbT ?_ (by assumption) ?_ | (simp; done) | (simp; omega) | omega))).mono (by first | (simp; done) | (simp; omega) | omega))).mono ?_; rintro e w13 ⟨rfl, hb13⟩; rw [HN1.out, HE2.out]; obtain ⟨hc13, hf13⟩ := bcell hb13; have q13 := hb13.size; (try simp only [World.size_alloc] at q13); have z13_p : p < w13.heap.size := (by omega); have z13_q : q < w13.heap.size := (by omega); have z13_o : o < w13.heap.size := (by omega))
          go_upto_region 14 with (go_at_call 24; refine (Centres_any' v A n c _ HN.out ((HRV2.out.below (by (repeat' first | exact zbR _ _ | assumption | refine zbD ?_ | refine zbA ?_ ?_ _ | refine zbS ?_ ?_ _ | refine zbT ?_ (by assumption) ?_ | (simp; done) | (simp; omega) | omega))).mono (by first | (simp; done) | (simp; omega) | omega))).mono ?_; rintro e w14 ⟨rfl, hb14⟩; rw [HG1.out, K1.out]; obtain ⟨hc14, hf14⟩ := bcell hb14; have q14 := hb14.size; (try simp only [World.size_alloc] at q14); have z14_p : p < w14.heap.size := (by omega); have z14_q : q < w14.heap.size := (by omega); have z14_o : o < w14.heap.size := (by omega))
          go_wp2_with (first | (go_at_call 24; refine (Centres_raw v.size y1 y2 y3 y4 y5 (ss'.take m ++ ss'.drop (m + 1)) A6 (n - 1) c6 _ HLL.out ((HRS2.out.below (by (repeat' first | exact zbR _ _ | assumption | refine zbD ?_ | refine zbA ?_ ?_ _ | refine zbS ?_ ?_ _ | refine zbT ?_ (by assumption) ?_ | (simp; done) | (simp; omega) | omega))).mono (by first | (simp; done) | (simp; omega) | omega))).mono ?_; rintro e w15 ⟨b1, b2, b3, b4, rfl, hb15⟩; rw [HG2.out, K2.out]; obtain ⟨hc15, hf15⟩ := bcell hb15; have q15 := hb15.size; (try simp only [World.size_alloc] at q15); have z15_p : p < w15.heap.size := (by omega); have z15_q : q < w15.heap.size := (by omega); have z15_o : o < w15.heap.size := (by omega)) | (go_at_call 16; refine (works_any _).mono ?_; rintro e w19 ⟨rfl, hb19⟩))
          go_ret
          exact ⟨rfl, GB2.out.trans ((show Below W2.heap.size W2 _ by (repeat' first | exact zbR _ _ | assumption | refine zbD ?_ | refine zbA ?_ ?_ _ | refine zbS ?_ ?_ _ | refine zbT ?_ (by assumption) ?_ | (simp; done) | (simp; omega) | omega)).mono GB2.out.size)⟩
  · have HL := hide (show L.Lss v ⟨v.size, v.ss.map (L.wid k), y1, y2, y3, y4, y5⟩ by have := HLSS.out; rw [HLO.out, if_neg (by rw [HN.out]; exact hin)] at this; exact this)
    clear fo1
    rcases Int.lt_or_le wo 0 with w0 | w0
    · clear hin
      obtain ⟨m1, hm1⟩ : ∃ y, L.callV v b = y := ⟨_, rfl⟩
      obtain ⟨n1, hn1⟩ : ∃ y, L.callV ⟨v.size, v.ss.map (L.wid k), y1, y2, y3, y4, y5⟩ b = y := ⟨_, rfl⟩
      obtain ⟨e1, he1⟩ : ∃ y, L.callE v b = y := ⟨_, rfl⟩
      obtain ⟨e2, he2⟩ : ∃ y, L.callE ⟨v.size, v.ss.map (L.wid k), y1, y2, y3, y4, y5⟩ b = y := ⟨_, rfl⟩
      obtain ⟨g1, hg1⟩ : ∃ y, L.cenN v = y := ⟨_, rfl⟩
      obtain ⟨g2, hg2⟩ : ∃ y, L.cenN ⟨v.size, v.ss.map (L.wid k), y1, y2, y3, y4, y5⟩ = y := ⟨_, rfl⟩
      cases hvo : L.viewB ⟨v.size, v.ss.map (L.wid k), y1, y2, y3, y4, y5⟩
      · have HC := hide (show L.checkE ⟨v.size, v.ss.map (L.wid k), y1, y2, y3, y4, y5⟩ = 20 by unfold L.checkE; rw [hvo]; rfl)
        clear hvo hm1 hn1 he1 he2 hg1 hg2
        go_wp2_with (first | (go_at_call 23; refine (RefCheck_raw v.size y1 y2 y3 y4 y5 (v.ss.map (L.wid k)) A1 n c1 _ HLEN.out ((HRS.out.below (by (repeat' first | exact zbR _ _ | assumption | refine zbD ?_ | refine zbA ?_ ?_ _ | refine zbS ?_ ?_ _ | refine zbT ?_ (by assumption) ?_ | (simp; done) | (simp; omega) | omega))).mono (by first | (simp; done) | (simp; omega) | omega))).mono ?_; rintro e w11 ⟨rfl, hb11⟩; rw [HC.out]; obtain ⟨hc11, hf11⟩ := bcell hb11; have q11 := hb11.size; (try simp only [World.size_alloc] at q11); have z11_p : p < w11.heap.size := (by omega); have z11_q : q < w11.heap.size := (by omega); have z11_o : o < w11.heap.size := (by omega)) | (go_at_call 16; refine (works_any _).mono ?_; rintro e w19 ⟨rfl, hb19⟩))
        go_ret
        exact ⟨rfl, GB1.out.trans ((show Below W1.heap.size W1 _ by (repeat' first | exact zbR _ _ | assumption | refine zbD ?_ | refine zbA ?_ ?_ _ | refine zbS ?_ ?_ _ | refine zbT ?_ (by assumption) ?_ | (simp; done) | (simp; omega) | omega)).mono GB1.out.size)⟩
      · have HC := hide (show L.checkE ⟨v.size, v.ss.map (L.wid k), y1, y2, y3, y4, y5⟩ = 0 by unfold L.checkE; rw [hvo]; rfl)
        obtain ⟨k1', k2', k3', k4', k5'⟩ := L.lss_ok HVB.out hvo HBB.out HL.out
        rw [he1] at k1' k3'
        rw [he2] at k2' k3'
        rw [hg1, hg2] at k4'
        rw [he1, hm1, hn1] at k5'
        have HM1 := hide hm1
        have HN1 := hide hn1
        have HE1 := hide he1
        have HE2 := hide he2
        have HG1 := hide hg1
        have HG2 := hide hg2
        have K1 := hide k1'.symm
        have K2 := hide k2'.symm
        clear hvo hm1 hn1 he1 he2 hg1 hg2 k1' k2'
        by_cases hz : e1 = 0
        · have hz2 := k3' hz
          have hr := k5' hz
          subst hz hz2
          clear k3' k5'
          by_cases hmn : n1 = m1
          · subst hmn
            clear hr
            go_upto_region 11 with (go_at_call 23; refine (RefCheck_raw v.size y1 y2 y3 y4 y5 (v.ss.map (L.wid k)) A1 n c1 _ HLEN.out ((HRS.out.below (by (repeat' first | exact zbR _ _ | assumption | refine zbD ?_ | refine zbA ?_ ?_ _ | refine zbS ?_ ?_ _ | refine zbT ?_ (by assumption) ?_ | (simp; done) | (simp; omega) | omega))).mono (by first | (simp; done) | (simp; omega) | omega))).mono ?_; rintro e w11 ⟨rfl, hb11⟩; rw [HC.out]; obtain ⟨hc11, hf11⟩ := bcell hb11; have q11 := hb11.size; (try simp only [World.size_alloc] at q11); have z11_p : p < w11.heap.size := (by omega); have z11_q : q < w11.heap.size := (by omega); have z11_o : o < w11.heap.size := (by omega))
            go_upto_region 12 with (go_at_call 17; refine (Call_any v A n c b _ HN.out ((HRV.out.below (by (repeat' first | exact zbR _ _ | assumption | refine zbD ?_ | refine zbA ?_ ?_ _ | refine zbS ?_ ?_ _ | refine zbT ?_ (by assumption) ?_ | (simp; done) | (simp; omega) | omega))).mono (by first | (simp; done) | (simp; omega) | omega))).mono ?_; rintro e w12 ⟨rfl, hb12⟩; rw [HM1.out, HE1.out]; obtain ⟨hc12, hf12⟩ := bcell hb12; have q12 := hb12.size; (try simp only [World.size_alloc] at q12); have z12_p : p < w12.heap.size := (by omega); have z12_q : q < w12.heap.size := (by omega); have z12_o : o < w12.heap.size := (by omega))
            go_upto_region 13 with (go_at_call 17; refine (Call_raw v.size y1 y2 y3 y4 y5 (v.ss.map (L.wid k)) A1 n c1 b _ HLEN.out ((HRS.out.below (by (repeat' first | exact zbR _ _ | assumption | refine zbD ?_ | refine zbA ?_ ?_ _ | refine zbS ?_ ?_ _ | refine zbT ?_ (by assumption) ?_ | (simp; done) | (simp; omega) | omega))).mono (by first | (simp; done) | (simp; omega) | omega))).mono ?_; rintro e w13 ⟨rfl, hb13⟩; rw [HN1.out, HE2.out]; obtain ⟨hc13, hf13⟩ := bcell hb13; have q13 := hb13.size; (try simp only [World.size_alloc] at q13); have z13_p : p < w13.heap.size := (by omega); have z13_q : q < w13.heap.size := (by omega); have z13_o : o < w13.heap.size := (by omega))
            go_upto_region 14 with (go_at_call 24; refine (Centres_any' v A n c _ HN.out ((HRV.out.below (by (repeat' first | exact zbR _ _ | assumption | refine zbD ?_ | refine zbA ?_ ?_ _ | refine zbS ?_ ?_ _ | refine zbT ?_ (by assumption) ?_ | (simp; done) | (simp; omega) | omega))).mono (by first | (simp; done) | (simp; omega) | omega))).mono ?_; rintro e w14 ⟨rfl, hb14⟩; rw [HG1.out, K1.out]; obtain ⟨hc14, hf14⟩ := bcell hb14; have q14 := hb14.size; (try simp only [World.size_alloc] at q14); have z14_p : p < w14.heap.size := (by omega); have z14_q : q < w14.heap.size := (by omega); have z14_o : o < w14.heap.size := (by omega))
            go_wp2_with (first | (go_at_call 24; refine (Centres_raw v.size y1 y2 y3 y4 y5 (v.ss.map (L.wid k)) A1 n c1 _ HLEN.out ((HRS.out.below (by (repeat' first | exact zbR _ _ | assumption | refine zbD ?_ | refine zbA ?_ ?_ _ | refine zbS ?_ ?_ _ | refine zbT ?_ (by assumption) ?_ | (simp; done) | (simp; omega) | omega))).mono (by first | (simp; done) | (simp; omega) | omega))).mono ?_; rintro e w15 ⟨b1, b2, b3, b4, rfl, hb15⟩; rw [HG2.out, K2.out]; obtain ⟨hc15, hf15⟩ := bcell hb15; have q15 := hb15.size; (try simp only [World.size_alloc] at q15); have z15_p : p < w15.heap.size := (by omega); have z15_q : q < w15.heap.size := (by omega); have z15_o : o < w15.heap.size := (by omega)) | (go_at_call 16; refine (works_any _).mono ?_; rintro e w19 ⟨rfl, hb19⟩))
            go_ret
            exact ⟨rfl, GB1.out.trans ((show Below W1.heap.size W1 _ by (repeat' first | exact zbR _ _ | assumption | refine zbD ?_ | refine zbA ?_ ?_ _ | refine zbS ?_ ?_ _ | refine zbT ?_ (by assumption) ?_ | (simp; done) | (simp; omega) | omega)).mono GB1.out.size)⟩
          · have hr3 : n1 = 3 := hr.resolve_left hmn
            subst hr3
            have dmn : ((3 : Int) == m1) = false := by simpa using hmn
            clear hmn hr
            go_upto_region 11 with (go_at_call 23; refine (RefCheck_raw v.size y1 y2 y3 y4 y5 (v.ss.map (L.wid k)) A1 n c1 _ HLEN.out ((HRS.out.below (by (repeat' first | exact zbR _ _ | assumption | refine zbD ?_ | refine zbA ?_ ?_ _ | refine zbS ?_ ?_ _ | refine zbT ?_ (by assumption) ?_ | (simp; done) | (simp; omega) | omega))).mono (by first | (simp; done) | (simp; omega) | omega))).mono ?_; rintro e w11 ⟨rfl, hb11⟩; rw [HC.out]; obtain ⟨hc11, hf11⟩ := bcell hb11; have q11 := hb11.size; (try simp only [World.size_alloc] at q11); have z11_p : p < w11.heap.size := (by omega); have z11_q : q < w11.heap.size := (by omega); have z11_o : o < w11.heap.size := (by omega))
            go_upto_region 12 with (go_at_call 17; refine (Call_any v A n c b _ HN.out ((HRV.out.below (by (repeat' first | exact zbR _ _ | assumption | refine zbD ?_ | refine zbA ?_ ?_ _ | refine zbS ?_ ?_ _ | refine zbT ?_ (by assumption) ?_ | (simp; done) | (simp; omega) | omega))).mono (by first | (simp; done) | (simp; omega) | omega))).mono ?_; rintro e w12 ⟨rfl, hb12⟩; rw [HM1.out, HE1.out]; obtain ⟨hc12, hf12⟩ := bcell hb12; have q12 := hb12.size; (try simp only [World.size_alloc] at q12); have z12_p : p < w12.heap.size := (by omega); have z12_q : q < w12.heap.size := (by omega); have z12_o : o < w12.heap.size := (by omega))
            go_upto_region 13 with (go_at_call 17; refine (Call_raw v.size y1 y2 y3 y4 y5 (v.ss.map (L.wid k)) A1 n c1 b _ HLEN.out ((HRS.out.below (by (repeat' first | exact zbR _ _ | assumption | refine zbD ?_ | refine zbA ?_ ?_ _ | refine zbS ?_ ?_ _ | refine zbT ?_ (by assumption) ?_ | (simp; done) | (simp; omega) | omega))).mono (by first | (simp; done) | (simp; omega) | omega))).mono ?_; rintro e w13 ⟨rfl, hb13⟩; rw [HN1.out, HE2.out]; obtain ⟨hc13, hf13⟩ := bcell hb13; have q13 := hb13.size; (try simp only [World.size_alloc] at q13); have z13_p : p < w13.heap.size := (by omega); have z13_q : q < w13.heap.size := (by omega); have z13_o : o < w13.heap.size := (by omega))
            go_upto_region 14 with (go_at_call 24; refine (Centres_any' v A n c _ HN.out ((HRV.out.below (by (repeat' first | exact zbR _ _ | assumption | refine zbD ?_ | refine zbA ?_ ?_ _ | refine zbS ?_ ?_ _ | refine zbT ?_ (by assumption) ?_ | (simp; done) | (simp; omega) | omega))).mono (by first | (simp; done) | (simp; omega) | omega))).mono ?_; rintro e w14 ⟨rfl, hb14⟩; rw [HG1.out, K1.out]; obtain ⟨hc14, hf14⟩ := bcell hb14; have q14 := hb14.size; (try simp only [World.size_alloc] at q14); have z14_p : p < w14.heap.size := (by omega); have z14_q : q < w14.heap.size := (by omega); have z14_o : o < w14.heap.size := (by omega))
            go_wp2_with (first | (go_at_call 24; refine (Centres_raw v.size y1 y2 y3 y4 y5 (v.ss.map (L.wid k)) A1 n c1 _ HLEN.out ((HRS.out.below (by (repeat' first | exact zbR _ _ | assumption | refine zbD ?_ | refine zbA ?_ ?_ _ | refine zbS ?_ ?_ _ | refine zbT ?_ (by assumption) ?_ | (simp; done) | (simp; omega) | omega))).mono (by first | (simp; done) | (simp; omega) | omega))).mono ?_; rintro e w15 ⟨b1, b2, b3, b4, rfl, hb15⟩; rw [HG2.out, K2.out]; obtain ⟨hc15, hf15⟩ := bcell hb15; have q15 := hb15.size; (try simp only [World.size_alloc] at q15); have z15_p : p < w15.heap.size := (by omega); have z15_q : q < w15.heap.size := (by omega); have z15_o : o < w15.heap.size := (by omega)) | (go_at_call 16; refine (works_any _).mono ?_; rintro e w19 ⟨rfl, hb19⟩))
            go_ret
            exact ⟨rfl, GB1.out.trans ((show Below W1.heap.size W1 _ by (repeat' first | exact zbR _ _ | assumption | refine zbD ?_ | refine zbA ?_ ?_ _ | refine zbS ?_ ?_ _ | refine zbT ?_ (by assumption) ?_ | (simp; done) | (simp; omega) | omega)).mono GB1.out.size)⟩
        · have dz : (e1 == 0) = false := by simpa using hz
          have dz' : (e1 != 0) = true := by simpa using hz
          clear hz k3' k5'
          go_upto_region 11 with (go_at_call 23; refine (RefCheck_raw v.size y1 y2 y3 y4 y5 (v.ss.map (L.wid k)) A1 n c1 _ HLEN.out ((HRS.out.below (by (repeat' first | exact zbR _ _ | assumption | refine zbD ?_ | refine zbA ?_ ?_ _ | refine zbS ?_ ?_ _ | refine zbT ?_ (by assumption) ?_ | (simp; done) | (simp; omega) | omega))).mono (by first | (simp; done) | (simp; omega) | omega))).mono ?_; rintro e w11 ⟨rfl, hb11⟩; rw [HC.out]; obtain ⟨hc11, hf11⟩ := bcell hb11; have q11 := hb11.size; (try simp only [World.size_alloc] at q11); have z11_p : p < w11.heap.size := (by omega); have z11_q : q < w11.heap.size := (by omega); have z11_o : o < w11.heap.size := (by omega))
          go_upto_region 12 with (go_at_call 17; refine (Call_any v A n c b _ HN.out ((HRV.out.below (by (repeat' first | exact zbR _ _ | assumption | refine zbD ?_ | refine zbA ?_ ?_ _ | refine zbS ?_ ?_ _ | refine zbT ?_ (by assumption) ?_ | (simp; done) | (simp; omega) | omega))).mono (by first | (simp; done) | (simp; omega) | omega))).mono ?_; rintro e w12 ⟨rfl, hb12⟩; rw [HM1.out, HE1.out]; obtain ⟨hc12, hf12⟩ := bcell hb12; have q12 := hb12.size; (try simp only [World.size_alloc] at q12); have z12_p : p < w12.heap.size := (by omega); have z12_q : q < w12.heap.size := (by omega); have z12_o : o < w12.heap.size := (by omega))
          go_upto_region 13 with (go_at_call 17; refine (Call_raw v.size y1 y2 y3 y4 y5 (v.ss.map (L.wid k)) A1 n c1 b _ HLEN.out ((HRS.out.below (by (repeat' first | exact zbR _ _ | assumption | refine zbD ?_ | refine zbA ?_ ?_ _ | refine zbS ?_ ?_ _ | refine zbT ?_ (by assumption) ?_ | (simp; done) | (simp; omega) | omega))).mono (by first | (simp; done) | (simp; omega) | omega))).mono ?_; rintro e w13 ⟨rfl, hb13⟩; rw [HN1.out, HE2.out]; obtain ⟨hc13, hf13⟩ := bcell hb13; have q13 := hb13.size; (try simp only [World.size_alloc] at q13); have z13_p : p < w13.heap.size := (by omega); have z13_q : q < w13.heap.size := (by omega); have z13_o : o < w13.heap.size := (by omega))
          go_upto_region 14 with (go_at_call 24; refine (Centres_any' v A n c _ HN.out ((HRV.out.below (by (repeat' first | exact zbR _ _ | assumption | refine zbD ?_ | refine zbA ?_ ?_ _ | refine zbS ?_ ?_ _ | refine zbT ?_ (by assumption) ?_ | (simp; done) | (simp; omega) | omega))).mono (by first | (simp; done) | (simp; omega) | omega))).mono ?_; rintro e w14 ⟨rfl, hb14⟩; rw [HG1.out, K1.out]; obtain ⟨hc14, hf14⟩ := bcell hb14; have q14 := hb14.size; (try simp only [World.size_alloc] at q14); have z14_p : p < w14.heap.size := (by omega); have z14_q : q < w14.heap.size := (by omega); have z14_o : o < w14.heap.size := (by omega))
          go_wp2_with (first | (go_at_call 24; refine (Centres_raw v.size y1 y2 y3 y4 y5 (v.ss.map (L.wid k)) A1 n c1 _ HLEN.out ((HRS.out.below (by (repeat' first | exact zbR _ _ | assumption | refine zbD ?_ | refine zbA ?_ ?_ _ | refine zbS ?_ ?_ _ | refine zbT ?_ (by assumption) ?_ | (simp; done) | (simp; omega) | omega))).mono (by first | (simp; done) | (simp; omega) | omega))).mono ?_; rintro e w15 ⟨b1, b2, b3, b4, rfl, hb15⟩; rw [HG2.out, K2.out]; obtain ⟨hc15, hf15⟩ := bcell hb15; have q15 := hb15.size; (try simp only [World.size_alloc] at q15); have z15_p : p < w15.heap.size := (by omega); have z15_q : q < w15.heap.size := (by omega); have z15_o : o < w15.heap.size := (by omega)) | (go_at_call 16; refine (works_any _).mono ?_; rintro e w19 ⟨rfl, hb19⟩))
          go_ret
          exact ⟨rfl, GB1.out.trans ((show Below W1.heap.size W1 _ by (repeat' first | exact zbR _ _ | assumption | refine zbD ?_ | refine zbA ?_ ?_ _ | refine zbS ?_ ?_ _ | refine zbT ?_ (by assumption) ?_ | (simp; done) | (simp; omega) | omega)).mono GB1.out.size)⟩
    · have w1 : (n : Int) ≤ wo := by omega
      clear hin
      obtain ⟨m1, hm1⟩ : ∃ y, L.callV v b = y := ⟨_, rfl⟩
      obtain ⟨n1, hn1⟩ : ∃ y, L.callV ⟨v.size, v.ss.map (L.wid k), y1, y2, y3, y4, y5⟩ b = y := ⟨_, rfl⟩
      obtain ⟨e1, he1⟩ : ∃ y, L.callE v b = y := ⟨_, rfl⟩
      obtain ⟨e2, he2⟩ : ∃ y, L.callE ⟨v.size, v.ss.map (L.wid k), y1, y2, y3, y4, y5⟩ b = y := ⟨_, rfl⟩
      obtain ⟨g1, hg1⟩ : ∃ y, L.cenN v = y := ⟨_, rfl⟩
      obtain ⟨g2, hg2⟩ : ∃ y, L.cenN ⟨v.size, v.ss.map (L.wid k), y1, y2, y3, y4, y5⟩ = y := ⟨_, rfl⟩
      cases hvo : L.viewB ⟨v.size, v.ss.map (L.wid k), y1, y2, y3, y4, y5⟩
      · have HC := hide (show L.checkE ⟨v.size, v.ss.map (L.wid k), y1, y2, y3, y4, y5⟩ = 20 by unfold L.checkE; rw [hvo]; rfl)
        clear hvo hm1 hn1 he1 he2 hg1 hg2
        go_wp2_with (first | (go_at_call 23; refine (RefCheck_raw v.size y1 y2 y3 y4 y5 (v.ss.map (L.wid k)) A1 n c1 _ HLEN.out ((HRS.out.below (by (repeat' first | exact zbR _ _ | assumption | refine zbD ?_ | refine zbA ?_ ?_ _ | refine zbS ?_ ?_ _ | refine zbT ?_ (by assumption) ?_ | (simp; done) | (simp; omega) | omega))).mono (by first | (simp; done) | (simp; omega) | omega))).mono ?_; rintro e w11 ⟨rfl, hb11⟩; rw [HC.out]; obtain ⟨hc11, hf11⟩ := bcell hb11; have q11 := hb11.size; (try simp only [World.size_alloc] at q11); have z11_p : p < w11.heap.size := (by omega); have z11_q : q < w11.heap.size := (by omega); have z11_o : o < w11.heap.size := (by omega)) | (go_at_call 16; refine (works_any _).mono ?_; rintro e w19 ⟨rfl, hb19⟩))
        go_ret
        exact ⟨rfl, GB1.out.trans ((show Below W1.heap.size W1 _ by (repeat' first | exact zbR _ _ | assumption | refine zbD ?_ | refine zbA ?_ ?_ _ | refine zbS ?_ ?_ _ | refine zbT ?_ (by assumption) ?_ | (simp; done) | (simp; omega) | omega)).mono GB1.out.size)⟩
      · have HC := hide (show L.checkE ⟨v.size, v.ss.map (L.wid k), y1, y2, y3, y4, y5⟩ = 0 by unfold L.checkE; rw [hvo]; rfl)
        obtain ⟨k1', k2', k3', k4', k5'⟩ := L.lss_ok HVB.out hvo HBB.out HL.out
        rw [he1] at k1' k3'
        rw [he2] at k2' k3'
        rw [hg1, hg2] at k4'
        rw [he1, hm1, hn1] at k5'
        have HM1 := hide hm1
        have HN1 := hide hn1
        have HE1 := hide he1
        have HE2 := hide he2
        have HG1 := hide hg1
        have HG2 := hide hg2
        have K1 := hide k1'.symm
        have K2 := hide k2'.symm
        clear hvo hm1 hn1 he1 he2 hg1 hg2 k1' k2'
        by_cases hz : e1 = 0
        · have hz2 := k3' hz
          have hr := k5' hz
          subst hz hz2
          clear k3' k5'
          by_cases hmn : n1 = m1
          · subst hmn
            clear hr
            go_upto_region 11 with (go_at_call 23; refine (RefCheck_raw v.size y1 y2 y3 y4 y5 (v.ss.map (L.wid k)) A1 n c1 _ HLEN.out ((HRS.out.below (by (repeat' first | exact zbR _ _ | assumption | refine zbD ?_ | refine zbA ?_ ?_ _ | refine zbS ?_ ?_ _ | refine zbT ?_ (by assumption) ?_ | (simp; done) | (simp; omega) | omega))).mono (by first | (simp; done) | (simp; omega) | omega))).mono ?_; rintro e w11 ⟨rfl, hb11⟩; rw [HC.out]; obtain ⟨hc11, hf11⟩ := bcell hb11; have q11 := hb11.size; (try simp only [World.size_alloc] at q11); have z11_p : p < w11.heap.size := (by omega); have z11_q : q < w11.heap.size := (by omega); have z11_o : o < w11.heap.size := (by omega))
            go_upto_region 12 with (go_at_call 17; refine (Call_any v A n c b _ HN.out ((HRV.out.below (by (repeat' first | exact zbR _ _ | assumption | refine zbD ?_ | refine zbA ?_ ?_ _ | refine zbS ?_ ?_ _ | refine zbT ?_ (by assumption) ?_ | (simp; done) | (simp; omega) | omega))).mono (by first | (simp; done) | (simp; omega) | omega))).mono ?_; rintro e w12 ⟨rfl, hb12⟩; rw [HM1.out, HE1.out]; obtain ⟨hc12, hf12⟩ := bcell hb12; have q12 := hb12.size; (try simp only [World.size_alloc] at q12); have z12_p : p < w12.heap.size := (by omega); have z12_q : q < w12.heap.size := (by omega); have z12_o : o < w12.heap.size := (by omega))
            go_upto_region 13 with (go_at_call 17; refine (Call_raw v.size y1 y2 y3 y4 y5 (v.ss.map (L.wid k)) A1 n c1 b _ HLEN.out ((HRS.out.below (by (repeat' first | exact zbR _ _ | assumption | refine zbD ?_ | refine zbA ?_ ?_ _ | refine zbS ?_ ?_ _ | refine zbT ?_ (by assumption) ?_ | (simp; done) | (simp; omega) | omega))).mono (by first | (simp; done) | (simp; omega) | omega))).mono ?_; rintro e w13 ⟨rfl, hb13⟩; rw [HN1.out, HE2.out]; obtain ⟨hc13, hf13⟩ := bcell hb13; have q13 := hb13.size; (try simp only [World.size_alloc] at q13); have z13_p : p < w13.heap.size := (by omega); have z13_q : q < w13.heap.size := (by omega); have z13_o : o < w13.heap.size := (by omega))
            go_upto_region 14 with (go_at_call 24; refine (Centres_any' v A n c _ HN.out ((HRV.out.below (by (repeat' first | exact zbR _ _ | assumption | refine zbD ?_ | refine zbA ?_ ?_ _ | refine zbS ?_ ?_ _ | refine zbT ?_ (by assumption) ?_ | (simp; done) | (simp; omega) | omega))).mono (by first | (simp; done) | (simp; omega) | omega))).mono ?_; rintro e w14 ⟨rfl, hb14⟩; rw [HG1.out, K1.out]; obtain ⟨hc14, hf14⟩ := bcell hb14; have q14 := hb14.size; (try simp only [World.size_alloc] at q14); have z14_p : p < w14.heap.size := (by omega); have z14_q : q < w14.heap.size := (by omega); have z14_o : o < w14.heap.size := (by omega))
            go_wp2_with (first | (go_at_call 24; refine (Centres_raw v.size y1 y2 y3 y4 y5 (v.ss.map (L.wid k)) A1 n c1 _ HLEN.out ((HRS.out.below (by (repeat' first | exact zbR _ _ | assumption | refine zbD ?_ | refine zbA ?_ ?_ _ | refine zbS ?_ ?_ _ | refine zbT ?_ (by assumption) ?_ | (simp; done) | (simp; omega) | omega))).mono (by first | (simp; done) | (simp; omega) | omega))).mono ?_; rintro e w15 ⟨b1, b2, b3, b4, rfl, hb15⟩; rw [HG2.out, K2.out]; obtain ⟨hc15, hf15⟩ := bcell hb15; have q15 := hb15.size; (try simp only [World.size_alloc] at q15); have z15_p : p < w15.heap.size := (by omega); have z15_q : q < w15.heap.size := (by omega); have z15_o : o < w15.heap.size := (by omega)) | (go_at_call 16; refine (works_any _).mono ?_; rintro e w19 ⟨rfl, hb19⟩))
            go_ret
            exact ⟨rfl, GB1.out.trans ((show Below W1.heap.size W1 _ by (repeat' first | exact zbR _ _ | assumption | refine zbD ?_ | refine zbA ?_ ?_ _ | refine zbS ?_ ?_ _ | refine zbT ?_ (by assumption) ?_ | (simp; done) | (simp; omega) | omega)).mono GB1.out.size)⟩
          · have hr3 : n1 = 3 := hr.resolve_left hmn
            subst hr3
            have dmn : ((3 : Int) == m1) = false := by simpa using hmn
            clear hmn hr
            go_upto_region 11 with (go_at_call 23; refine (RefCheck_raw v.size y1 y2 y3 y4 y5 (v.ss.map (L.wid k)) A1 n c1 _ HLEN.out ((HRS.out.below (by (repeat' first | exact zbR _ _ | assumption | refine zbD ?_ | refine zbA ?_ ?_ _ | refine zbS ?_ ?_ _ | refine zbT ?_ (by assumption) ?_ | (simp; done) | (simp; omega) | omega))).mono (by first | (simp; done) | (simp; omega) | omega))).mono ?_; rintro e w11 ⟨rfl, hb11⟩; rw [HC.out]; obtain ⟨hc11, hf11⟩ := bcell hb11; have q11 := hb11.size; (try simp only [World.size_alloc] at q11); have z11_p : p < w11.heap.size := (by omega); have z11_q : q < w11.heap.size := (by omega); have z11_o : o < w11.heap.size := (by omega))
            go_upto_region 12 with (go_at_call 17; refine (Call_any v A n c b _ HN.out ((HRV.out.below (by (repeat' first | exact zbR _ _ | assumption | refine zbD ?_ | refine zbA ?_ ?_ _ | refine zbS ?_ ?_ _ | refine zbT ?_ (by assumption) ?_ | (simp; done) | (simp; omega) | omega))).mono (by first | (simp; done) | (simp; omega) | omega))).mono ?_; rintro e w12 ⟨rfl, hb12⟩; rw [HM1.out, HE1.out]; obtain ⟨hc12, hf12⟩ := bcell hb12; have q12 := hb12.size; (try simp only [World.size_alloc] at q12); have z12_p : p < w12.heap.size := (by omega); have z12_q : q < w12.heap.size := (by omega); have z12_o : o < w12.heap.size := (by omega))
            go_upto_region 13 with (go_at_call 17; refine (Call_raw v.size y1 y2 y3 y4 y5 (v.ss.map (L.wid k)) A1 n c1 b _ HLEN.out ((HRS.out.below (by (repeat' first | exact zbR _ _ | assumption | refine zbD ?_ | refine zbA ?_ ?_ _ | refine zbS ?_ ?_ _ | refine zbT ?_ (by assumption) ?_ | (simp; done) | (simp; omega) | omega))).mono (by first | (simp; done) | (simp; omega) | omega))).mono ?_; rintro e w13 ⟨rfl, hb13⟩; rw [HN1.out, HE2.out]; obtain ⟨hc13, hf13⟩ := bcell hb13; have q13 := hb13.size; (try simp only [World.size_alloc] at q13); have z13_p : p < w13.heap.size := (by omega); have z13_q : q < w13.heap.size := (by omega); have z13_o : o < w13.heap.size := (by omega))
            go_upto_region 14 with (go_at_call 24; refine (Centres_any' v A n c _ HN.out ((HRV.out.below (by (repeat' first | exact zbR _ _ | assumption | refine zbD ?_ | refine zbA ?_ ?_ _ | refine zbS ?_ ?_ _ | refine zbT ?_ (by assumption) ?_ | (simp; done) | (simp; omega) | omega))).mono (by first | (simp; done) | (simp; omega) | omega))).mono ?_; rintro e w14 ⟨rfl, hb14⟩; rw [HG1.out, K1.out]; obtain ⟨hc14, hf14⟩ := bcell hb14; have q14 := hb14.size; (try simp only [World.size_alloc] at q14); have z14_p : p < w14.heap.size := (by omega); have z14_q : q < w14.heap.size := (by omega); have z14_o : o < w14.heap.size := (by omega))
            go_wp2_with (first | (go_at_call 24; refine (Centres_raw v.size y1 y2 y3 y4 y5 (v.ss.map (L.wid k)) A1 n c1 _ HLEN.out ((HRS.out.below (by (repeat' first | exact zbR _ _ | assumption | refine zbD ?_ | refine zbA ?_ ?_ _ | refine zbS ?_ ?_ _ | refine zbT ?_ (by assumption) ?_ | (simp; done) | (simp; omega) | omega))).mono (by first | (simp; done) | (simp; omega) | omega))).mono ?_; rintro e w15 ⟨b1, b2, b3, b4, rfl, hb15⟩; rw [HG2.out, K2.out]; obtain ⟨hc15, hf15⟩ := bcell hb15; have q15 := hb15.size; (try simp only [World.size_alloc] at q15); have z15_p : p < w15.heap.size := (by omega); have z15_q : q < w15.heap.size := (by omega); have z15_o : o < w15.heap.size := (by omega)) | (go_at_call 16; refine (works_any _).mono ?_; rintro e w19 ⟨rfl, hb19⟩))
            go_ret
            exact ⟨rfl, GB1.out.trans ((show Below W1.heap.size W1 _ by (repeat' first | exact zbR _ _ | assumption | refine zbD ?_ | refine zbA ?_ ?_ _ | refine zbS ?_ ?_ _ | refine zbT ?_ (by assumption) ?_ | (simp; done) | (simp; omega) | omega)).mono GB1.out.size)⟩
        · have dz : (e1 == 0) = false := by simpa using hz
          have dz' : (e1 != 0) = true := by simpa using hz
          clear hz k3' k5'
          go_upto_region 11 with (go_at_call 23; refine (RefCheck_raw v.size y1 y2 y3 y4 y5 (v.ss.map (L.wid k)) A1 n c1 _ HLEN.out ((HRS.out.below (by (repeat' first | exact zbR _ _ | assumption | refine zbD ?_ | refine zbA ?_ ?_ _ | refine zbS ?_ ?_ _ | refine zbT ?_ (by assumption) ?_ | (simp; done) | (simp; omega) | omega))).mono (by first | (simp; done) | (simp; omega) | omega))).mono ?_; rintro e w11 ⟨rfl, hb11⟩; rw [HC.out]; obtain ⟨hc11, hf11⟩ := bcell hb11; have q11 := hb11.size; (try simp only [World.size_alloc] at q11); have z11_p : p < w11.heap.size := (by omega); have z11_q : q < w11.heap.size := (by omega); have z11_o : o < w11.heap.size := (by omega))
          go_upto_region 12 with (go_at_call 17; refine (Call_any v A n c b _ HN.out ((HRV.out.below (by (repeat' first | exact zbR _ _ | assumption | refine zbD ?_ | refine zbA ?_ ?_ _ | refine zbS ?_ ?_ _ | refine zbT ?_ (by assumption) ?_ | (simp; done) | (simp; omega) | omega))).mono (by first | (simp; done) | (simp; omega) | omega))).mono ?_; rintro e w12 ⟨rfl, hb12⟩; rw [HM1.out, HE1.out]; obtain ⟨hc12, hf12⟩ := bcell hb12; have q12 := hb12.size; (try simp only [World.size_alloc] at q12); have z12_p : p < w12.heap.size := (by omega); have z12_q : q < w12.heap.size := (by omega); have z12_o : o < w12.heap.size := (by omega))
          go_upto_region 13 with (go_at_call 17; refine (Call_raw v.size y1 y2 y3 y4 y5 (v.ss.map (L.wid k)) A1 n c1 b _ HLEN.out ((HRS.out.below (by (repeat' first | exact zbR _ _ | assumption | refine zbD ?_ | refine zbA ?_ ?_ _ | refine zbS ?_ ?_ _ | refine zbT ?_ (by assumption) ?_ | (simp; done) | (simp; omega) | omega))).mono (by first | (simp; done) | (simp; omega) | omega))).mono ?_; rintro e w13 ⟨rfl, hb13⟩; rw [HN1.out, HE2.out]; obtain ⟨hc13, hf13⟩ := bcell hb13; have q13 := hb13.size; (try simp only [World.size_alloc] at q13); have z13_p : p < w13.heap.size := (by omega); have z13_q : q < w13.heap.size := (by omega); have z13_o : o < w13.heap.size := (by omega))
          go_upto_region 14 with (go_at_call 24; refine (Centres_any' v A n c _ HN.out ((HRV.out.below (by (repeat' first | exact zbR _ _ | assumption | refine zbD ?_ | refine zbA ?_ ?_ _ | refine zbS ?_ ?_ _ | refine zbT ?_ (by assumption) ?_ | (simp; done) | (simp; omega) | omega))).mono (by first | (simp; done) | (simp; omega) | omega))).mono ?_; rintro e w14 ⟨rfl, hb14⟩; rw [HG1.out, K1.out]; obtain ⟨hc14, hf14⟩ := bcell hb14; have q14 := hb14.size; (try simp only [World.size_alloc] at q14); have z14_p : p < w14.heap.size := (by omega); have z14_q : q < w14.heap.size := (by omega); have z14_o : o < w14.heap.size := (by omega))
          go_wp2_with (first | (go_at_call 24; refine (Centres_raw v.size y1 y2 y3 y4 y5 (v.ss.map (L.wid k)) A1 n c1 _ HLEN.out ((HRS.out.below (by (repeat' first | exact zbR _ _ | assumption | refine zbD ?_ | refine zbA ?_ ?_ _ | refine zbS ?_ ?_ _ | refine zbT ?_ (by assumption) ?_ | (simp; done) | (simp; omega) | omega))).mono (by first | (simp; done) | (simp; omega) | omega))).mono ?_; rintro e w15 ⟨b1, b2, b3, b4, rfl, hb15⟩; rw [HG2.out, K2.out]; obtain ⟨hc15, hf15⟩ := bcell hb15; have q15 := hb15.size; (try simp only [World.size_alloc] at q15); have z15_p : p < w15.heap.size := (by omega); have z15_q : q < w15.heap.size := (by omega); have z15_o : o < w15.heap.size := (by omega)) | (go_at_call 16; refine (works_any _).mono ?_; rintro e w19 ⟨rfl, hb19⟩))
          go_ret
          exact ⟨rfl, GB1.out.trans ((show Below W1.heap.size W1 _ by (repeat' first | exact zbR _ _ | assumption | refine zbD ?_ | refine zbA ?_ ?_ _ | refine zbS ?_ ?_ _ | refine zbT ?_ (by assumption) ?_ | (simp; done) | (simp; omega) | omega)).mono GB1.out.size)⟩

theorem lessLaw_any (v : L.Vw) (A : Option Addr) (n c : Nat) (b : L.Bx) (wr k ax wo : Int) (w : World) (hn : v.ss.length = n) (hr : RdS w w.heap.size A v.ss) (hA : A = none → c = 0) :
    Calls Try.prog 4 #[.agg #[.int .i64 v.size, .slice A n c, .int .i64 v.wrong, .int .i64 v.hxl, .int .i64 v.hxh, .int .i64 v.hyl, .int .i64 v.hyh], .agg #[.int .i64 b.l, .int .i64 b.r, .int .i64 b.b, .int .i64 b.t], .agg #[.int .i64 wr, .int .i64 k, .int .i64 ax, .int .i64 wo]] w fun e w' => e = .returned (.bool true) ∧ Below w.heap.size w w' := by
  cases h : L.validB v b
  · exact lessLaw_out v A n c b wr k ax wo w hn hr hA h
  · by_cases a0 : 0 ≤ wr
    · by_cases a1 : wr ≤ 3
      · by_cases k0 : 0 ≤ k
        · by_cases k1 : k ≤ 50
          · by_cases x0 : 0 ≤ ax
            · by_cases x1 : ax ≤ 9
              · exact lessLaw_in v A n c b wr k ax wo w hn hr hA h a0 a1 k0 k1 x0 x1
              · exact lessLaw_far v A n c b wr k ax wo w hn hr hA h (by omega)
            · exact lessLaw_far v A n c b wr k ax wo w hn hr hA h (by omega)
          · exact lessLaw_far v A n c b wr k ax wo w hn hr hA h (by omega)
        · exact lessLaw_far v A n c b wr k ax wo w hn hr hA h (by omega)
      · exact lessLaw_far v A n c b wr k ax wo w hn hr hA h (by omega)
    · exact lessLaw_far v A n c b wr k ax wo w hn hr hA h (by omega)

end Go.Proofs.Ytgnobonhohfofaa

namespace Go.Proofs.Ytgnobonhohfofaa
open Go.RowKit
attribute [local go_sem ↓] Go.wp_at_zero Go.wp_at_succ

namespace L
def nA (v : Vw) : Nat := (v.hxh - v.hxl + 1).toNat
def nB (v : Vw) : Nat := (v.hyh - v.hyl + 1).toNat
def trB (v : Vw) (c : Mk) (a : Int) (k : Nat) : List Mk := (List.range k).map fun (j : Nat) => ⟨c.x, c.y, a, v.hyl + (j : Int)⟩
def trA (v : Vw) (c : Mk) (k : Nat) : List Mk := (List.range k).flatMap fun (i : Nat) => trB v c (v.hxl + (i : Int)) (nB v)
def trC (v : Vw) (l : List Mk) : List Mk := l.flatMap fun c => trA v c (nA v)
def truths (v : Vw) : List Mk := trC v ((tcents v 0).map mk0)
theorem trB_next (v : Vw) (c : Mk) (a : Int) (k : Nat) : trB v c a (k + 1) = trB v c a k ++ [⟨c.x, c.y, a, v.hyl + (k : Int)⟩] := by unfold trB; rw [List.range_succ, List.map_append]; rfl
theorem trA_next (v : Vw) (c : Mk) (k : Nat) : trA v c (k + 1) = trA v c k ++ trB v c (v.hxl + (k : Int)) (nB v) := by unfold trA; rw [List.range_succ, List.flatMap_append]; simp
theorem trC_next (v : Vw) {l : List Mk} {i : Nat} {c : Mk} (h : l[i]? = some c) : trC v (l.take (i + 1)) = trC v (l.take i) ++ trA v c (nA v) := by
  unfold trC; rw [List.take_add_one, h, Option.toList_some, List.flatMap_append]; simp
theorem trB_len (v : Vw) (c : Mk) (a : Int) (k : Nat) : (trB v c a k).length = k := by unfold trB; simp
theorem trA_len (v : Vw) (c : Mk) : ∀ k, (trA v c k).length = k * nB v
  | 0 => by simp [trA]
  | k + 1 => by rw [trA_next, List.length_append, trA_len v c k, trB_len, Nat.add_mul, Nat.one_mul]
theorem trC_len (v : Vw) : ∀ l : List Mk, (trC v l).length = l.length * (nA v * nB v)
  | [] => by simp [trC]
  | c :: r => by
    have ih := trC_len v r
    unfold trC at ih ⊢
    rw [List.flatMap_cons, List.length_append, ih, trA_len, List.length_cons, Nat.add_mul, Nat.one_mul, Nat.add_comm]
end L
theorem step_app_marks {w : World} {ops : Array Oper} {o : Oper} {a : Act} {K : Act → World → Prop} {Q : Exit → Act → World → Prop} {E : Prop} (hgd : o.guard = none) (s x : Operand)
    (ho : o.op = .call { callee := .builtin .append, args := #[s, x], argTypes := #[93, 93] }) (base : Nat) (v : Value) (ps : List L.Mk) (m0 : Nat) (hs : a.eval s = v) (hown : w.ownsRow base 30 4 v m0 (flatM ps))
    (A : Option Addr) (n c : Nat) (ss : List L.Mk) (hx : a.eval x = .slice A n c) (hn : ss.length = n) (hr : RdM w w.heap.size A ss) (hA : A = none → c = 0) (h0 : m0 ≤ 1000000) (h1 : n ≤ 1000) (hbase : base ≤ w.heap.size) (N : Nat) (hN : m0 + n = N)
    (h : ∀ A' c' w', w'.ownsRow base 30 4 (.slice A' N c') N (flatM (ps ++ ss)) → w.grownBy w' v.ownBlock → K (a.put o.dst (.slice A' N c')) w') :
    if Region.wanted o (yielded ops a.tmps) = true then Oper.wp Try.prog o a w K Q else E := by
  subst hN
  have hw : Region.wanted o (yielded ops a.tmps) = true := by simp [Region.wanted, hgd]
  rw [if_pos hw]
  obtain ⟨A', c', w', hr', h2, h3⟩ := run_app_marks o.type base v ps m0 hown A n c ss hn hr hA h0 h1 hbase
  unfold Oper.wp execOp
  simp only [ho, resolve, invoke, builtin, Sem.run_bind, Sem.run_pure, Result.andThen_ok, List.map_toArray, List.map_cons, List.map_nil, hs, hx, hr']
  exact h A' c' w' h2 h3

set_option maxRecDepth 100000 in
set_option maxHeartbeats 6400000 in
theorem refTruths_any (v : L.Vw) (A : Option Addr) (n c : Nat) (w : World) (hv : L.VwW v) (hn : v.ss.length = n) (hr : RdS w w.heap.size A v.ss) :
    Calls Try.prog 73 #[.agg #[.int .i64 v.size, .slice A n c, .int .i64 v.wrong, .int .i64 v.hxl, .int .i64 v.hxh, .int .i64 v.hyl, .int .i64 v.hyh]] w fun e w' => ∃ sv c', e = .returned (.slice sv (L.truths v).length c') ∧ w'.ownsRow w.heap.size 30 4 (.slice sv (L.truths v).length c') (L.truths v).length (flatM (L.truths v)) ∧ Below w.heap.size w w' := by
  have HN := hide hn
  have HR := hide hr
  have HV := hide hv
  obtain ⟨N, hN⟩ : ∃ N : Nat, v.size = (N : Int) := ⟨v.size.toNat, (Int.toNat_of_nonneg hv.s0).symm⟩
  have HSz := hide hN
  obtain ⟨tc, htc⟩ : ∃ tc, (L.tcents v 0).map L.mk0 = tc := ⟨_, rfl⟩
  have HTC := hide htc
  have hlen : tc.length ≤ 1681 := by
    have h1 : (L.tcents v 0).length ≤ (L.cents v.size.toNat).length := List.length_filter_le _ _
    rw [L.cents_length] at h1
    have h2 : v.size.toNat + 1 ≤ 41 := by have := hv.s0; have := hv.s1; omega
    have h3 := Nat.mul_le_mul h2 h2
    rw [← htc, List.length_map]; omega
  have hnA : L.nA v ≤ 9 := by unfold L.nA; have := hv.x0; have := hv.x1; omega
  have hnB : L.nB v ≤ 9 := by unfold L.nB; have := hv.y0; have := hv.y1; omega
  have EA := hide (show v.hxl + (L.nA v : Int) = v.hxh + 1 by unfold L.nA; have := hv.xx; omega)
  have EB := hide (show v.hyl + (L.nB v : Int) = v.hyh + 1 by unfold L.nB; have := hv.yy; omega)
  have hAB : L.nA v * L.nB v ≤ 81 := Nat.mul_le_mul hnA hnB
  have HTr := hide (show L.trC v tc = L.truths v by rw [← htc]; rfl)
  have x0 : 1 ≤ v.hxl := hv.x0
  have x1 : v.hxh ≤ 9 := hv.x1
  have y0 : 1 ≤ v.hyl := hv.y0
  have y1 : v.hyh ≤ 9 := hv.y1
  clear hn hr hv hN htc
  go_enter Try.func73, Try.ntmps73
  go_upto_region 1 with fail
  obtain ⟨W0, hW0⟩ : ∃ W0, w.alloc (.cells #[.int .i64 v.size, .slice A n c, .int .i64 v.wrong, .int .i64 v.hxl, .int .i64 v.hxh, .int .i64 v.hyl, .int .i64 v.hyh] 26) = W0 := ⟨_, rfl⟩
  have gp : W0.heap[w.heap.size]? = some (.cells #[.int .i64 v.size, .slice A n c, .int .i64 v.wrong, .int .i64 v.hxl, .int .i64 v.hxh, .int .i64 v.hyl, .int .i64 v.hyh] 26 (0, 0)) := by
    rw [← hW0]; exact World.alloc_heap_new _ _
  have gs : W0.heap.size = w.heap.size + 1 := by rw [← hW0]; simp
  have gB : Below w.heap.size w W0 := by rw [← hW0]; (repeat' first | exact zbR _ _ | assumption | refine zbD ?_ | refine zbA ?_ ?_ _ | refine zbS ?_ ?_ _ | refine zbT ?_ (by assumption) ?_ | (simp; done) | (simp; omega) | omega)
  rw [hW0]
  clear hW0
  obtain ⟨p, hp⟩ : ∃ p, w.heap.size = p := ⟨_, rfl⟩
  rw [hp]
  rw [hp] at gp
  have lp : p < W0.heap.size := by omega
  have HR0 := hide ((HR.out.below gB).mono gB.size)
  have HP := hide hp
  have GB := hide gB
  have GP := hide gp
  have cp0 := (blk_cell gp 0).trans rfl; have cp1 := (blk_cell gp 1).trans rfl; have cp2 := (blk_cell gp 2).trans rfl; have cp3 := (blk_cell gp 3).trans rfl; have cp4 := (blk_cell gp 4).trans rfl; have cp5 := (blk_cell gp 5).trans rfl; have cp6 := (blk_cell gp 6).trans rfl
  clear gp gB HR hp gs
  go_wp2_with (go_at_call 64; refine (refCents_any v A n c N _ HV.out HSz.out HN.out HR0.out).mono ?_; rintro e w2 ⟨svc, cc, rfl, hownc, hb2⟩; rw [HTC.out] at hownc ⊢)
  have GP2 := hide ((hb2.block p lp).trans GP.out)
  have GB2 := hide (GB.out.trans (hb2.mono GB.out.size))
  have q2 := hb2.size
  have lp2 : p < w2.heap.size := by omega
  have HC2 := hide hownc
  clear cp0 cp1 cp2 cp3 cp4 cp5 cp6 hownc hb2 lp q2 GP GB HR0
  go_loopw [3, 5] (fun m t wr => ∃ i : Nat, i ≤ tc.length ∧ t = .int .i64 i ∧ (∃ sv c', m = .slice sv (L.trC v (tc.take i)).length c' ∧ Hid (wr.ownsRow w2.heap.size 30 4 (.slice sv (L.trC v (tc.take i)).length c') (L.trC v (tc.take i)).length (flatM (L.trC v (tc.take i))))) ∧ Below w2.heap.size w2 wr) (fun _ t _ => tc.length - (intOf t).toNat)
  case atStart => exact ⟨0, by omega, rfl, ⟨none, 0, rfl, hide (World.ownsRow_nil _ _ _ _)⟩, Below.refl _ _⟩
  case round =>
    obtain ⟨i, hi, rfl, ⟨sv, c', rfl, hown⟩, hB⟩ := hrel
    have qB := hB.size
    have bp := (hB.block p lp2).trans GP2.out
    have cp0 := (blk_cell bp 0).trans rfl; have cp1 := (blk_cell bp 1).trans rfl; have cp2 := (blk_cell bp 2).trans rfl; have cp3 := (blk_cell bp 3).trans rfl; have cp4 := (blk_cell bp 4).trans rfl; have cp5 := (blk_cell bp 5).trans rfl; have cp6 := (blk_cell bp 6).trans rfl
    have lpr : p < wr.heap.size := by omega
    have hi0 : (0 : Int) ≤ (i : Int) := by omega
    have hi1 : (i : Int) ≤ 1681 := by omega
    clear bp
    by_cases hlt : i < tc.length
    · obtain ⟨cm, hcm⟩ : ∃ cm, tc[i]? = some cm := ⟨_, List.getElem?_eq_getElem hlt⟩
      have HCM := hide hcm
      clear hcm
      have hlt' : (i : Int) < (tc.length : Int) := by omega
      go_wp2_with fail
      clear cp0 cp1 cp2 cp3 cp4 cp5 cp6
      go_loopw [3, 6] (fun m t wr => ∃ k : Nat, k ≤ L.nA v ∧ t = .int .i64 (v.hxl + (k : Int)) ∧ (∃ sv c', m = .slice sv (L.trC v (tc.take i) ++ L.trA v cm k).length c' ∧ Hid (wr.ownsRow w2.heap.size 30 4 (.slice sv (L.trC v (tc.take i) ++ L.trA v cm k).length c') (L.trC v (tc.take i) ++ L.trA v cm k).length (flatM (L.trC v (tc.take i) ++ L.trA v cm k)))) ∧ Below w2.heap.size w2 wr) (fun _ t _ => (v.hxh + 1 - intOf t).toNat)
      case atStart => exact ⟨0, by omega, by simp, ⟨sv, c', by rw [show L.trA v cm 0 = [] from rfl, List.append_nil], by rw [show L.trA v cm 0 = [] from rfl, List.append_nil]; exact hown⟩, hB⟩
      case round =>
        clear hown hB qB lpr
        obtain ⟨k, hk, rfl, ⟨sv, c', rfl, hown⟩, hB⟩ := hrel
        have qB := hB.size
        have bp := (hB.block p lp2).trans GP2.out
        have cp0 := (blk_cell bp 0).trans rfl; have cp1 := (blk_cell bp 1).trans rfl; have cp2 := (blk_cell bp 2).trans rfl; have cp3 := (blk_cell bp 3).trans rfl; have cp4 := (blk_cell bp 4).trans rfl; have cp5 := (blk_cell bp 5).trans rfl; have cp6 := (blk_cell bp 6).trans rfl
        have lpr : p < wr.heap.size := by omega
        have hk0 : (0 : Int) ≤ (k : Int) := by omega
        have hk9 : (k : Int) ≤ 9 := by omega
        have ea := EA.out
        clear bp
        by_cases hlt2 : k < L.nA v
        · have hlt2' : v.hxl + (k : Int) ≤ v.hxh := by omega
          clear ea
          go_wp2_with fail
          clear cp0 cp1 cp2 cp3 cp4 cp5 cp6
          go_loopw [3, 7] (fun m t wr => ∃ l : Nat, l ≤ L.nB v ∧ t = .int .i64 (v.hyl + (l : Int)) ∧ (∃ sv c', m = .slice sv (L.trC v (tc.take i) ++ L.trA v cm k ++ L.trB v cm (v.hxl + (k : Int)) l).length c' ∧ Hid (wr.ownsRow w2.heap.size 30 4 (.slice sv (L.trC v (tc.take i) ++ L.trA v cm k ++ L.trB v cm (v.hxl + (k : Int)) l).length c') (L.trC v (tc.take i) ++ L.trA v cm k ++ L.trB v cm (v.hxl + (k : Int)) l).length (flatM (L.trC v (tc.take i) ++ L.trA v cm k ++ L.trB v cm (v.hxl + (k : Int)) l)))) ∧ Below w2.heap.size w2 wr) (fun _ t _ => (v.hyh + 1 - intOf t).toNat)
          case atStart => exact ⟨0, by omega, by simp, ⟨sv, c', by rw [show L.trB v cm (v.hxl + (k : Int)) 0 = [] from rfl, List.append_nil], by rw [show L.trB v cm (v.hxl + (k : Int)) 0 = [] from rfl, List.append_nil]; exact hown⟩, hB⟩
          case round =>
            clear hown hB qB lpr
            obtain ⟨l, hl, rfl, ⟨sv, c', rfl, hown⟩, hB⟩ := hrel
            have qB := hB.size
            have bp := (hB.block p lp2).trans GP2.out
            have cp0 := (blk_cell bp 0).trans rfl; have cp1 := (blk_cell bp 1).trans rfl; have cp2 := (blk_cell bp 2).trans rfl; have cp3 := (blk_cell bp 3).trans rfl; have cp4 := (blk_cell bp 4).trans rfl; have cp5 := (blk_cell bp 5).trans rfl; have cp6 := (blk_cell bp 6).trans rfl
            have lpr : p < wr.heap.size := by omega
            have hl0 : (0 : Int) ≤ (l : Int) := by omega
            have hl9 : (l : Int) ≤ 9 := by omega
            have eb := EB.out
            by_cases hlt3 : l < L.nB v
            · have hlt3' : v.hyl + (l : Int) ≤ v.hyh := by omega
              clear eb
              obtain ⟨outl, hout⟩ : ∃ outl, L.trC v (tc.take i) ++ L.trA v cm k ++ L.trB v cm (v.hxl + (k : Int)) l = outl := ⟨_, rfl⟩
              have hol : outl.length ≤ 200000 := by
                rw [← hout, List.length_append, List.length_append, L.trC_len, L.trA_len, L.trB_len, List.length_take]
                have h1 : min i tc.length * (L.nA v * L.nB v) ≤ 1681 * 81 := Nat.mul_le_mul (by omega) hAB
                have h2 : k * L.nB v ≤ 9 * 9 := Nat.mul_le_mul (by omega) hnB
                omega
              have HOut := hide hout
              obtain ⟨g, cap, e, hbg, hgl⟩ := HC2.out.form (by omega)
              have e' : svc = some ⟨g, 0, none⟩ ∧ cc = cap := by
                simp only [Value.slice.injEq] at e
                exact ⟨e.1, e.2.2⟩
              obtain ⟨rfl, rfl⟩ := e'
              obtain ⟨m0, m1, m2, m3⟩ := flatM_at HCM.out
              have s0 := (hB.cell (p := ⟨g, i * 4, none⟩) hgl).trans ((HC2.out.cellAt (i * 4) (by omega)).trans m0)
              have s1 := (hB.cell (p := ⟨g, i * 4 + 1, none⟩) hgl).trans ((HC2.out.cellAt (i * 4 + 1) (by omega)).trans m1)
              rw [hout] at hown ⊢
              have lgr : g < wr.heap.size := by omega
              clear e m0 m1 m2 m3 bp hout
              go_upto_region 12 with fail
              have hS : (fun w' => Below w2.heap.size w2 w' ∧ p < w'.heap.size ∧ g < w'.heap.size ∧ w'.cell? ⟨g, i * 4, none⟩ = some (.int .i64 cm.x) ∧ w'.cell? ⟨g, i * 4 + 1, none⟩ = some (.int .i64 cm.y)) wr := ⟨hB, lpr, lgr, s0, s1⟩
              have HO1 := hide hown.out
              have q1 := qB
              obtain ⟨W1, hW1⟩ : ∃ W1, wr = W1 := ⟨_, rfl⟩
              rw [hW1] at hS HO1 q1 ⊢
              clear hW1 hown hB qB lpr lgr s0 s1 cp0 cp1 cp2 cp3 cp4 cp5 cp6
              have hkeep : ∀ u u' : World, Below w2.heap.size u u' → (Below w2.heap.size w2 u ∧ p < u.heap.size ∧ g < u.heap.size ∧ u.cell? ⟨g, i * 4, none⟩ = some (.int .i64 cm.x) ∧ u.cell? ⟨g, i * 4 + 1, none⟩ = some (.int .i64 cm.y)) → (Below w2.heap.size w2 u' ∧ p < u'.heap.size ∧ g < u'.heap.size ∧ u'.cell? ⟨g, i * 4, none⟩ = some (.int .i64 cm.x) ∧ u'.cell? ⟨g, i * 4 + 1, none⟩ = some (.int .i64 cm.y)) := by
                rintro u u' hb ⟨hB, l_p, l_g, k0, k1⟩
                exact ⟨hB.trans hb, Nat.lt_of_lt_of_le l_p hb.size, Nat.lt_of_lt_of_le l_g hb.size, (hb.cell (p := ⟨g, i * 4, none⟩) hgl).trans k0, (hb.cell (p := ⟨g, i * 4 + 1, none⟩) hgl).trans k1⟩
              (try dsimp only at hS)
              refine wp_region_held_drew (S := (fun w' => Below w2.heap.size w2 w' ∧ p < w'.heap.size ∧ g < w'.heap.size ∧ w'.cell? ⟨g, i * 4, none⟩ = some (.int .i64 cm.x) ∧ w'.cell? ⟨g, i * 4 + 1, none⟩ = some (.int .i64 cm.y))) (by kernel_rfl) ?_ (fun hHeld0 => ?_)
              · (try dsimp only); first | exact hkeep _ _ hg7 (by assumption) | exact hkeep _ _ (zbA (zbR _ _) (show w2.heap.size ≤ _ by simp; omega) _) (by assumption) | exact hkeep _ _ (zbD (zbR _ _)) hS | (first | (go_keep; done) | (go_split_ands; (repeat' apply And.intro) <;> first | (go_keep; done) | (simp [*, zcA, zcP, zfA, zfP]; done) | (simp [zcA, zcP] <;> rfl) | (simp [*, zsS, zsO, zsA]; done) | ((first | refine (hc _ _ ?_).trans ?_ | refine (hf _ _ ?_).trans ?_) <;> first | assumption | (simp; done) | (simp; omega) | omega | (go_keep; done) | (simp [*, zcA, zcP, zfA, zfP]; done) | (simp [zcA, zcP]; rfl)) | (repeat' first | exact zbR _ _ | assumption | refine zbD ?_ | refine zbA ?_ ?_ _ | refine zbS ?_ ?_ _ | refine zbT ?_ (by assumption) ?_ | (simp; done) | (simp; omega) | omega)))
              refine tL (v := ?_) 0 rfl (by kernel_rfl) (fun _ _ _ h => h) (Or.inl ⟨by rfl, ?_⟩) (by assumption) ?_; rotate_left
              · (intro w hSw; (try dsimp only at hSw); go_simp; try with_reducible rfl)
              try simp only [Act.put, zl, z0, z1]
              refine tL (v := ?_) 1 rfl (by kernel_rfl) (fun _ _ _ h => h) (Or.inl ⟨by rfl, ?_⟩) (by assumption) ?_; rotate_left
              · (intro w hSw; (try dsimp only at hSw); go_simp; try with_reducible rfl)
              try simp only [Act.put, zl, z0, z1]
              refine tL (v := ?_) 2 rfl (by kernel_rfl) (fun _ _ _ h => h) (Or.inl ⟨by rfl, ?_⟩) (by assumption) ?_; rotate_left
              · (intro w hSw; (try dsimp only at hSw); go_simp; try with_reducible rfl)
              try simp only [Act.put, zl, z0, z1]
              refine tL (v := ?_) 3 rfl (by kernel_rfl) (fun _ _ _ h => h) (Or.inl ⟨by rfl, ?_⟩) (by assumption) ?_; rotate_left
              · (intro w hSw; (try dsimp only at hSw); go_simp; try with_reducible rfl)
              try simp only [Act.put, zl, z0, z1]
              refine tL (v := ?_) 4 rfl (by kernel_rfl) (fun _ _ _ h => h) (Or.inl ⟨by rfl, ?_⟩) (by assumption) ?_; rotate_left
              · (intro w hSw; (try dsimp only at hSw); go_simp; try with_reducible rfl)
              try simp only [Act.put, zl, z0, z1]
              refine tL (v := ?_) 5 rfl (by kernel_rfl) (fun _ _ _ h => h) (Or.inl ⟨by rfl, ?_⟩) (by assumption) ?_; rotate_left
              · (intro w hSw; (try dsimp only at hSw); go_simp; try with_reducible rfl)
              try simp only [Act.put, zl, z0, z1]
              refine tL (v := ?_) 6 rfl (by kernel_rfl) (fun _ _ _ h => h) (Or.inl ⟨by rfl, ?_⟩) (by assumption) ?_; rotate_left
              · (intro w hSw; (try dsimp only at hSw); go_simp; try with_reducible rfl)
              try simp only [Act.put, zl, z0, z1]
              refine tL (v := ?_) 7 rfl (by kernel_rfl) (fun _ _ _ h => h) (Or.inl ⟨by rfl, ?_⟩) (by assumption) ?_; rotate_left
              · (intro w hSw; (try dsimp only at hSw); go_simp; try with_reducible rfl)
              try simp only [Act.put, zl, z0, z1]
              refine tL (v := ?_) 8 rfl (by kernel_rfl) (fun _ _ _ h => h) (Or.inl ⟨by rfl, ?_⟩) (by assumption) ?_; rotate_left
              · (intro w hSw; (try dsimp only at hSw); go_simp; try with_reducible rfl)
              try simp only [Act.put, zl, z0, z1]
              refine tL (v := ?_) 9 rfl (by kernel_rfl) (fun _ _ _ h => h) (Or.inl ⟨by rfl, ?_⟩) (by assumption) ?_; rotate_left
              · (intro w hSw; (try dsimp only at hSw); go_simp; try with_reducible rfl)
              try simp only [Act.put, zl, z0, z1]
              refine tL (v := ?_) 10 rfl (by kernel_rfl) (fun _ _ _ h => h) (Or.inl ⟨by rfl, ?_⟩) (by assumption) ?_; rotate_left
              · (intro w hSw; (try dsimp only at hSw); go_simp; try with_reducible rfl)
              try simp only [Act.put, zl, z0, z1]
              refine tL (v := ?_) 11 rfl (by kernel_rfl) (fun _ _ _ h => h) (Or.inl ⟨by rfl, ?_⟩) (by assumption) ?_; rotate_left
              · (intro w hSw; (try dsimp only at hSw); go_simp; try with_reducible rfl)
              try simp only [Act.put, zl, z0, z1]
              refine tL (v := ?_) 12 rfl (by kernel_rfl) (fun _ _ _ h => h) (Or.inl ⟨by rfl, ?_⟩) (by assumption) ?_; rotate_left
              · (intro w hSw; (try dsimp only at hSw); go_simp; try with_reducible rfl)
              try simp only [Act.put, zl, z0, z1]
              refine tL (v := ?_) 13 rfl (by kernel_rfl) (fun _ _ _ h => h) (Or.inl ⟨by rfl, ?_⟩) (by assumption) ?_; rotate_left
              · (intro w hSw; (try dsimp only at hSw); go_simp; try with_reducible rfl)
              try simp only [Act.put, zl, z0, z1]
              refine wpAnyH_ready (rs := [14]) (by kernel_rfl) (by simp) ?_
              refine consL 14 rfl (fun K hK => ?_) AllReadyH.nil
              go_simp
              refine hK.out _ _ ?_ (fun hHeld1 => ?_)
              · (try dsimp only); first | exact hkeep _ _ hg7 (by assumption) | exact hkeep _ _ (zbA (zbR _ _) (show w2.heap.size ≤ _ by simp; omega) _) (by assumption) | exact hkeep _ _ (zbD (zbR _ _)) hS | (first | (go_keep; done) | (go_split_ands; (repeat' apply And.intro) <;> first | (go_keep; done) | (simp [*, zcA, zcP, zfA, zfP]; done) | (simp [zcA, zcP] <;> rfl) | (simp [*, zsS, zsO, zsA]; done) | ((first | refine (hc _ _ ?_).trans ?_ | refine (hf _ _ ?_).trans ?_) <;> first | assumption | (simp; done) | (simp; omega) | omega | (go_keep; done) | (simp [*, zcA, zcP, zfA, zfP]; done) | (simp [zcA, zcP]; rfl)) | (repeat' first | exact zbR _ _ | assumption | refine zbD ?_ | refine zbA ?_ ?_ _ | refine zbS ?_ ?_ _ | refine zbT ?_ (by assumption) ?_ | (simp; done) | (simp; omega) | omega)))
              clear hK K hHeld0
              try simp only [Act.put, zl, z0, z1]
              refine wpAnyH_ready (rs := [15]) (by kernel_rfl) (by simp) ?_
              refine consL 15 rfl (fun K hK => ?_) AllReadyH.nil
              (refine step_app_marks rfl (.tmp 36) (.tmp 50) rfl w2.heap.size _ outl _ rfl (HO1.out.drew.alloc _) (some ⟨_, 0, none⟩) 1 1 [⟨cm.x, cm.y, v.hxl + (k : Int), v.hyl + (l : Int)⟩] rfl rfl (rdM_one (World.alloc_heap_new _ _)) (fun e => by cases e) (by omega) (by omega) (by simp; omega) _ rfl ?_; intro A2 c2 w7 hown2 hgrow; have hg7 := grown_below (B := w2.heap.size) hgrow (by simp; omega) (fun g hg => (HO1.out.lt g hg).1); have HO2 := hide hown2; clear hown2 hgrow)
              refine hK.out _ _ ?_ (fun hHeld2 => ?_)
              · (try dsimp only); first | exact hkeep _ _ hg7 (by assumption) | exact hkeep _ _ (zbA (zbR _ _) (show w2.heap.size ≤ _ by simp; omega) _) (by assumption) | exact hkeep _ _ (zbD (zbR _ _)) hS | (first | (go_keep; done) | (go_split_ands; (repeat' apply And.intro) <;> first | (go_keep; done) | (simp [*, zcA, zcP, zfA, zfP]; done) | (simp [zcA, zcP] <;> rfl) | (simp [*, zsS, zsO, zsA]; done) | ((first | refine (hc _ _ ?_).trans ?_ | refine (hf _ _ ?_).trans ?_) <;> first | assumption | (simp; done) | (simp; omega) | omega | (go_keep; done) | (simp [*, zcA, zcP, zfA, zfP]; done) | (simp [zcA, zcP]; rfl)) | (repeat' first | exact zbR _ _ | assumption | refine zbD ?_ | refine zbA ?_ ?_ _ | refine zbS ?_ ?_ _ | refine zbT ?_ (by assumption) ?_ | (simp; done) | (simp; omega) | omega)))
              clear hK K hHeld1
              try simp only [Act.put, zl, z0, z1]
              refine tL (v := ?_) 16 rfl (by kernel_rfl) (fun _ _ _ h => h) (Or.inl ⟨by rfl, ?_⟩) (by assumption) ?_; rotate_left
              · (intro w hSw; (try dsimp only at hSw); go_simp; try with_reducible rfl)
              try simp only [Act.put, zl, z0, z1]
              refine wpAnyH_done (by kernel_rfl) ?_ _
              all_goals
                have HB7 := hide (show Below w2.heap.size w2 w7 by go_split_ands; assumption)
                have HE := hide (show L.trC v (tc.take i) ++ L.trA v cm k ++ L.trB v cm (v.hxl + (k : Int)) (l + 1) = outl ++ [⟨cm.x, cm.y, v.hxl + (k : Int), v.hyl + (l : Int)⟩] by rw [L.trB_next, ← List.append_assoc, HOut.out])
                have HL := hide (show (L.trC v (tc.take i) ++ L.trA v cm k ++ L.trB v cm (v.hxl + (k : Int)) (l + 1)).length = outl.length + 1 by rw [HE.out, List.length_append]; rfl)
                clear hkeep hS HOut
                go_wp2_with fail
                go_roundw
                case rel => exact ⟨l + 1, by omega, by go_num, ⟨A2, c2, by rw [HL.out], hide (by rw [HL.out, HE.out]; exact HO2.out)⟩, HB7.out⟩
                case measure => simp [intOf]; omega
            · have hln : l = L.nB v := by omega
              subst hln
              have hgt : v.hyh < v.hyl + (L.nB v : Int) := by omega
              clear eb bp
              have HE := hide (show L.trC v (tc.take i) ++ L.trA v cm (k + 1) = L.trC v (tc.take i) ++ L.trA v cm k ++ L.trB v cm (v.hxl + (k : Int)) (L.nB v) by rw [L.trA_next, List.append_assoc])
              go_wp2_with fail
              go_roundw
              case rel => exact ⟨k + 1, by omega, by go_num, ⟨sv, c', by rw [HE.out], hide (by rw [HE.out]; exact hown.out)⟩, hB⟩
              case measure => simp [intOf]; omega
        · have hkn : k = L.nA v := by omega
          subst hkn
          have hgt : v.hxh < v.hxl + (L.nA v : Int) := by omega
          clear ea
          have HE := hide (L.trC_next v HCM.out)
          go_wp2_with fail
          go_roundw
          case rel => exact ⟨i + 1, by omega, by go_num, ⟨sv, c', by rw [HE.out], hide (by rw [HE.out]; exact hown.out)⟩, hB⟩
          case measure => simp [intOf]; omega
    · have hin : i = tc.length := by omega
      subst hin
      have HE := hide (show L.trC v (tc.take tc.length) = L.truths v by rw [List.take_of_length_le (Nat.le_refl _)]; exact HTr.out)
      go_wp2_with fail
      go_ret
      refine ⟨sv, c', ?_, ?_, ?_⟩
      · rw [← HE.out]; rfl
      · rw [← HE.out]; exact owns_mono hown.out GB2.out.size
      · exact GB2.out.trans (hB.mono GB2.out.size)

end Go.Proofs.Ytgnobonhohfofaa

namespace Go.Proofs.Ytgnobonhohfofaa
open Go.RowKit
attribute [local go_sem ↓] Go.wp_at_zero Go.wp_at_succ

namespace L
theorem truths_mem {v : Vw} {m : Mk} (h : m ∈ truths v) : ∃ c ∈ tcents v 0, m.x = c.1 ∧ m.y = c.2 ∧ v.hxl ≤ m.hx ∧ m.hx ≤ v.hxh ∧ v.hyl ≤ m.hy ∧ m.hy ≤ v.hyh := by
  unfold truths trC at h
  obtain ⟨k, hk, h⟩ := List.mem_flatMap.1 h
  obtain ⟨c, hc, rfl⟩ := List.mem_map.1 hk
  unfold trA at h
  obtain ⟨i, hi, h⟩ := List.mem_flatMap.1 h
  unfold trB at h
  obtain ⟨j, hj, rfl⟩ := List.mem_map.1 h
  rw [List.mem_range] at hi hj
  unfold nA at hi
  unfold nB at hj
  exact ⟨c, hc, rfl, rfl, by dsimp only; omega, by dsimp only; omega, by dsimp only; omega, by dsimp only; omega⟩
theorem truths_of {v : Vw} {c : Int × Int} (hc : c ∈ tcents v 0) {p q : Int} (h1 : v.hxl ≤ p) (h2 : p ≤ v.hxh) (h3 : v.hyl ≤ q) (h4 : q ≤ v.hyh) : (⟨c.1, c.2, p, q⟩ : Mk) ∈ truths v := by
  unfold truths trC
  refine List.mem_flatMap.2 ⟨mk0 c, List.mem_map.2 ⟨c, hc, rfl⟩, ?_⟩
  unfold trA
  refine List.mem_flatMap.2 ⟨(p - v.hxl).toNat, List.mem_range.2 (by unfold nA; omega), ?_⟩
  unfold trB
  refine List.mem_map.2 ⟨(q - v.hyl).toNat, List.mem_range.2 (by unfold nB; omega), ?_⟩
  have e1 : v.hxl + ((p - v.hxl).toNat : Int) = p := by omega
  have e2 : v.hyl + ((q - v.hyl).toNat : Int) = q := by omega
  rw [e1, e2]
  rfl
def cntT (b : Bx) (l : List Mk) : Nat := (l.filter fun m => touch m b).length
theorem cntT_le (b : Bx) (l : List Mk) : cntT b l ≤ l.length := List.length_filter_le _ _
theorem cntT_next (b : Bx) {l : List Mk} {i : Nat} {m : Mk} (h : l[i]? = some m) : cntT b (l.take (i + 1)) = cntT b (l.take i) + (if touch m b then 1 else 0) := by
  unfold cntT
  rw [List.take_add_one, h, Option.toList_some, List.filter_append, List.length_append]
  congr 1
  cases ht : touch m b <;> simp [List.filter_cons, ht]
def callR (l : List Mk) (b : Bx) : Int := if l.length = 0 then 0 else if cntT b l = l.length then 1 else if cntT b l = 0 then 2 else 3
theorem callR_eq {v : Vw} (hv : VwW v) (b : Bx) : callR (truths v) b = callOf v b 0 := by
  have lowT : ∀ m ∈ truths v, ¬ outAt' v b 0 → touch m b = true := fun m hm ho => by
    obtain ⟨c, hc, e1, e2, h1, h2, h3, h4⟩ := truths_mem hm
    cases hl : touch ⟨c.1, c.2, v.hxl, v.hyl⟩ b
    · exact (ho ⟨c, hc, hl⟩).elim
    · obtain ⟨x, y, p, q⟩ := m
      dsimp only at e1 e2 h1 h3
      subst e1 e2
      exact touch_axes hv.x0 hv.y0 h1 h3 hl
  have highF : ∀ m ∈ truths v, ¬ inAt' v b 0 → touch m b = false := fun m hm ho => by
    obtain ⟨c, hc, e1, e2, h1, h2, h3, h4⟩ := truths_mem hm
    cases hl : touch m b
    · rfl
    · refine (ho ⟨c, hc, ?_⟩).elim
      obtain ⟨x, y, p, q⟩ := m
      dsimp only at e1 e2 h1 h2 h3 h4
      subst e1 e2
      exact touch_axes (by have := hv.x0; omega) (by have := hv.y0; omega) h2 h4 hl
  have inM : inAt' v b 0 → ∃ m ∈ truths v, touch m b = true := fun ⟨c, hc, h⟩ => ⟨_, truths_of hc hv.xx (Int.le_refl _) hv.yy (Int.le_refl _), h⟩
  have outM : outAt' v b 0 → ∃ m ∈ truths v, touch m b = false := fun ⟨c, hc, h⟩ => ⟨_, truths_of hc (Int.le_refl _) hv.xx (Int.le_refl _) hv.yy, h⟩
  have pos : ∀ m ∈ truths v, (truths v).length ≠ 0 := fun m hm e => by rw [List.eq_nil_of_length_eq_zero e] at hm; cases hm
  have all : (∀ m ∈ truths v, touch m b = true) → cntT b (truths v) = (truths v).length := fun h => List.length_filter_eq_length_iff.2 (by simpa using h)
  have none : (∀ m ∈ truths v, touch m b = false) → cntT b (truths v) = 0 := fun h => by
    unfold cntT
    rw [List.length_eq_zero_iff, List.filter_eq_nil_iff]
    intro m hm
    rw [h m hm]
    decide
  unfold callR
  rcases call_cases v b 0 with ⟨e, h1, h2⟩ | ⟨e, h1, h2⟩ | ⟨e, h1, h2⟩ | ⟨e, h1, h2⟩
  · rw [e, if_pos]
    rcases hl : truths v with _ | ⟨m, r⟩
    · rfl
    · have hm : m ∈ truths v := by rw [hl]; simp
      have a1 := lowT m hm h2
      have a2 := highF m hm h1
      rw [a1] at a2
      cases a2
  · obtain ⟨m, hm, _⟩ := inM h1
    rw [e, if_neg (pos m hm), if_pos (all (fun m hm => lowT m hm h2))]
  · obtain ⟨m, hm, _⟩ := outM h2
    have := none (fun m hm => highF m hm h1)
    have hp := pos m hm
    rw [e, if_neg hp, if_neg (by omega), if_pos this]
  · obtain ⟨m, hm, ht⟩ := inM h1
    obtain ⟨m', hm', ht'⟩ := outM h2
    have a1 : cntT b (truths v) ≠ (truths v).length := fun h => by
      have := List.length_filter_eq_length_iff.1 h m' hm'
      rw [ht'] at this
      cases this
    have a2 : cntT b (truths v) ≠ 0 := fun h => by
      unfold cntT at h
      rw [List.length_eq_zero_iff, List.filter_eq_nil_iff] at h
      exact h m hm ht
    rw [e, if_neg (pos m hm), if_neg a1, if_neg a2]
theorem truths_ok {v : Vw} (hv : VwW v) {m : Mk} (h : m ∈ truths v) : MkOk m := by
  obtain ⟨c, hc, e1, e2, h1, h2, h3, h4⟩ := truths_mem h
  unfold tcents at hc
  obtain ⟨a1, a2, a3, a4⟩ := mem_cents (List.mem_filter.1 hc).1
  have := hv.s0; have := hv.s1; have := hv.x0; have := hv.x1; have := hv.y0; have := hv.y1
  exact ⟨by omega, by omega, by omega, by omega, by omega, by omega, by omega, by omega⟩
theorem truths_len {v : Vw} (hv : VwW v) : (truths v).length ≤ 200000 := by
  unfold truths
  rw [trC_len, List.length_map]
  have h1 : (tcents v 0).length ≤ (cents v.size.toNat).length := List.length_filter_le _ _
  rw [cents_length] at h1
  have h2 : v.size.toNat + 1 ≤ 41 := by have := hv.s0; have := hv.s1; omega
  have h3 := Nat.mul_le_mul h2 h2
  have hnA : nA v ≤ 9 := by unfold nA; have := hv.x0; have := hv.x1; omega
  have hnB : nB v ≤ 9 := by unfold nB; have := hv.y0; have := hv.y1; omega
  have h4 := Nat.mul_le_mul hnA hnB
  have h5 := Nat.mul_le_mul (show (tcents v 0).length ≤ 1681 by omega) h4
  omega
end L

set_option maxRecDepth 100000 in
set_option maxHeartbeats 6400000 in
theorem refcall_any (v : L.Vw) (A : Option Addr) (n c : Nat) (b : L.Bx) (w : World) (hv : L.VwW v) (hb : L.BxOk b) (hn : v.ss.length = n) (hr : RdS w w.heap.size A v.ss) :
    Calls Try.prog 67 #[.agg #[.int .i64 v.size, .slice A n c, .int .i64 v.wrong, .int .i64 v.hxl, .int .i64 v.hxh, .int .i64 v.hyl, .int .i64 v.hyh], .agg #[.int .i64 b.l, .int .i64 b.r, .int .i64 b.b, .int .i64 b.t]] w fun e w' => e = .returned (.int .i64 (L.callOf v b 0)) ∧ Below w.heap.size w w' := by
  have HN := hide hn
  have HR := hide hr
  have HV := hide hv
  have HB := hide hb
  have HE := hide (L.callR_eq hv b)
  obtain ⟨tl, htl⟩ : ∃ tl, L.truths v = tl := ⟨_, rfl⟩
  have HTL := hide htl
  have hlen : tl.length ≤ 200000 := by rw [← htl]; exact L.truths_len hv
  have HOKS := hide (show ∀ m ∈ tl, L.MkOk m from fun m hm => L.truths_ok hv (by rw [htl]; exact hm))
  clear hn hr hv hb
  rw [htl] at HE
  clear htl
  go_enter Try.func67, Try.ntmps67
  go_upto_region 1 with fail
  obtain ⟨W0, hW0⟩ : ∃ W0, (w.alloc (.cells #[.int .i64 v.size, .slice A n c, .int .i64 v.wrong, .int .i64 v.hxl, .int .i64 v.hxh, .int .i64 v.hyl, .int .i64 v.hyh] 26)).alloc (.cells #[.int .i64 b.l, .int .i64 b.r, .int .i64 b.b, .int .i64 b.t] 28) = W0 := ⟨_, rfl⟩
  have gp : W0.heap[w.heap.size]? = some (.cells #[.int .i64 v.size, .slice A n c, .int .i64 v.wrong, .int .i64 v.hxl, .int .i64 v.hxh, .int .i64 v.hyl, .int .i64 v.hyh] 26 (0, 0)) := by
    rw [← hW0]; exact (Below.heap_alloc _ _ _ (by first | (simp; done) | (simp; omega) | omega)).trans (World.alloc_heap_new _ _)
  have gq : W0.heap[w.heap.size + 1]? = some (.cells #[.int .i64 b.l, .int .i64 b.r, .int .i64 b.b, .int .i64 b.t] 28 (0, 0)) := by
    rw [← hW0]; exact blk_new2
  have gs : W0.heap.size = w.heap.size + 1 + 1 := by rw [← hW0]; simp
  have gB : Below w.heap.size w W0 := by rw [← hW0]; (repeat' first | exact zbR _ _ | assumption | refine zbD ?_ | refine zbA ?_ ?_ _ | refine zbS ?_ ?_ _ | refine zbT ?_ (by assumption) ?_ | (simp; done) | (simp; omega) | omega)
  rw [hW0]
  clear hW0
  obtain ⟨p, hp⟩ : ∃ p, w.heap.size = p := ⟨_, rfl⟩
  obtain ⟨q, hq⟩ : ∃ q, w.heap.size + 1 = q := ⟨_, rfl⟩
  rw [hq, hp]
  rw [hp] at gp
  rw [hq] at gq
  have lp : p < W0.heap.size := by omega
  have lq : q < W0.heap.size := by omega
  have HR0 := hide ((HR.out.below gB).mono gB.size)
  have GB := hide gB
  have GQ := hide gq
  have cp0 := (blk_cell gp 0).trans rfl; have cp1 := (blk_cell gp 1).trans rfl; have cp2 := (blk_cell gp 2).trans rfl; have cp3 := (blk_cell gp 3).trans rfl; have cp4 := (blk_cell gp 4).trans rfl; have cp5 := (blk_cell gp 5).trans rfl; have cp6 := (blk_cell gp 6).trans rfl
  clear gp gq gB gs hp hq HR
  go_wp2_with (go_at_call 73; refine (refTruths_any v A n c _ HV.out HN.out HR0.out).mono ?_; rintro e w2 ⟨svt, ct, rfl, hownt, hb2⟩; rw [HTL.out] at hownt ⊢)
  have GQ2 := hide ((hb2.block q lq).trans GQ.out)
  have GB2 := hide (GB.out.trans (hb2.mono GB.out.size))
  have q2 := hb2.size
  have lq2 : q < w2.heap.size := by omega
  have HT2 := hide hownt
  clear cp0 cp1 cp2 cp3 cp4 cp5 cp6 hownt hb2 lp lq q2 GQ GB HR0
  go_loopw [6, 7] (fun m t wr => ∃ i : Nat, i ≤ tl.length ∧ t = .int .i64 i ∧ m = .int .i64 (L.cntT b (tl.take i) : Int) ∧ Below w2.heap.size w2 wr) (fun _ t _ => tl.length - (intOf t).toNat)
  case atStart => exact ⟨0, by omega, rfl, by simp [L.cntT], Below.refl _ _⟩
  case round =>
    obtain ⟨i, hi, rfl, rfl, hB⟩ := hrel
    have qB := hB.size
    have hi0 : (0 : Int) ≤ (i : Int) := by omega
    have hcl := L.cntT_le b (tl.take i)
    rw [List.length_take] at hcl
    by_cases hlt : i < tl.length
    · obtain ⟨tm, htm⟩ : ∃ tm, tl[i]? = some tm := ⟨_, List.getElem?_eq_getElem hlt⟩
      obtain ⟨g, cap, e, hbg, hgl⟩ := HT2.out.form (by omega)
      have e' : svt = some ⟨g, 0, none⟩ ∧ ct = cap := by
        simp only [Value.slice.injEq] at e
        exact ⟨e.1, e.2.2⟩
      obtain ⟨rfl, rfl⟩ := e'
      obtain ⟨m0, m1, m2, m3⟩ := flatM_at htm
      have s0 := (hB.cell (p := ⟨g, i * 4, none⟩) hgl).trans ((HT2.out.cellAt (i * 4) (by omega)).trans m0)
      have s1 := (hB.cell (p := ⟨g, i * 4 + 1, none⟩) hgl).trans ((HT2.out.cellAt (i * 4 + 1) (by omega)).trans m1)
      have s2 := (hB.cell (p := ⟨g, i * 4 + 1 + 1, none⟩) hgl).trans ((HT2.out.cellAt (i * 4 + 1 + 1) (by omega)).trans m2)
      have s3 := (hB.cell (p := ⟨g, i * 4 + 1 + 1 + 1, none⟩) hgl).trans ((HT2.out.cellAt (i * 4 + 1 + 1 + 1) (by omega)).trans m3)
      have bq := (hB.block q lq2).trans GQ2.out
      have hlt' : (i : Int) < (tl.length : Int) := by omega
      have HTM := hide (HOKS.out tm (List.mem_of_getElem? htm))
      have HNX := hide (L.cntT_next b htm)
      have lgr : g < wr.heap.size := by omega
      have lqr : q < wr.heap.size := by omega
      have hc0 : (0 : Int) ≤ (L.cntT b (tl.take i) : Int) := by omega
      have hc1 : (L.cntT b (tl.take i) : Int) ≤ 200000 := by omega
      have cq0 := (blk_cell bq 0).trans rfl; have cq1 := (blk_cell bq 1).trans rfl; have cq2 := (blk_cell bq 2).trans rfl; have cq3 := (blk_cell bq 3).trans rfl
      clear e m0 m1 m2 m3 bq htm hcl
      go_upto_region 6 with fail
      have hS : (fun w' => Below wr.heap.size wr w' ∧ q < w'.heap.size ∧ g < w'.heap.size ∧ w'.cell? ⟨q, 0, none⟩ = some (.int .i64 b.l) ∧ w'.cell? ⟨q, 1, none⟩ = some (.int .i64 b.r) ∧ w'.cell? ⟨q, 2, none⟩ = some (.int .i64 b.b) ∧ w'.cell? ⟨q, 3, none⟩ = some (.int .i64 b.t) ∧ w'.cell? ⟨g, i * 4, none⟩ = some (.int .i64 tm.x) ∧ w'.cell? ⟨g, i * 4 + 1, none⟩ = some (.int .i64 tm.y) ∧ w'.cell? ⟨g, i * 4 + 1 + 1, none⟩ = some (.int .i64 tm.hx) ∧ w'.cell? ⟨g, i * 4 + 1 + 1 + 1, none⟩ = some (.int .i64 tm.hy)) wr := ⟨Below.refl _ _, lqr, lgr, cq0, cq1, cq2, cq3, s0, s1, s2, s3⟩
      have HB1 := hide hB
      obtain ⟨W1, hW1⟩ : ∃ W1, wr = W1 := ⟨_, rfl⟩
      rw [hW1] at hS HB1 ⊢
      clear hW1 hB qB lqr lgr cq0 cq1 cq2 cq3 s0 s1 s2 s3
      have hkeep : ∀ u u' : World, Below u.heap.size u u' → (Below W1.heap.size W1 u ∧ q < u.heap.size ∧ g < u.heap.size ∧ u.cell? ⟨q, 0, none⟩ = some (.int .i64 b.l) ∧ u.cell? ⟨q, 1, none⟩ = some (.int .i64 b.r) ∧ u.cell? ⟨q, 2, none⟩ = some (.int .i64 b.b) ∧ u.cell? ⟨q, 3, none⟩ = some (.int .i64 b.t) ∧ u.cell? ⟨g, i * 4, none⟩ = some (.int .i64 tm.x) ∧ u.cell? ⟨g, i * 4 + 1, none⟩ = some (.int .i64 tm.y) ∧ u.cell? ⟨g, i * 4 + 1 + 1, none⟩ = some (.int .i64 tm.hx) ∧ u.cell? ⟨g, i * 4 + 1 + 1 + 1, none⟩ = some (.int .i64 tm.hy)) → (Below W1.heap.size W1 u' ∧ q < u'.heap.size ∧ g < u'.heap.size ∧ u'.cell? ⟨q, 0, none⟩ = some (.int .i64 b.l) ∧ u'.cell? ⟨q, 1, none⟩ = some (.int .i64 b.r) ∧ u'.cell? ⟨q, 2, none⟩ = some (.int .i64 b.b) ∧ u'.cell? ⟨q, 3, none⟩ = some (.int .i64 b.t) ∧ u'.cell? ⟨g, i * 4, none⟩ = some (.int .i64 tm.x) ∧ u'.cell? ⟨g, i * 4 + 1, none⟩ = some (.int .i64 tm.y) ∧ u'.cell? ⟨g, i * 4 + 1 + 1, none⟩ = some (.int .i64 tm.hx) ∧ u'.cell? ⟨g, i * 4 + 1 + 1 + 1, none⟩ = some (.int .i64 tm.hy)) := by
        rintro u u' hb ⟨hB, l_q, l_g, k0, k1, k2, k3, k4, k5, k6, k7⟩
        exact ⟨hB.trans (hb.mono hB.size), Nat.lt_of_lt_of_le l_q hb.size, Nat.lt_of_lt_of_le l_g hb.size, (hb.cell (p := ⟨q, 0, none⟩) l_q).trans k0, (hb.cell (p := ⟨q, 1, none⟩) l_q).trans k1, (hb.cell (p := ⟨q, 2, none⟩) l_q).trans k2, (hb.cell (p := ⟨q, 3, none⟩) l_q).trans k3, (hb.cell (p := ⟨g, i * 4, none⟩) l_g).trans k4, (hb.cell (p := ⟨g, i * 4 + 1, none⟩) l_g).trans k5, (hb.cell (p := ⟨g, i * 4 + 1 + 1, none⟩) l_g).trans k6, (hb.cell (p := ⟨g, i * 4 + 1 + 1 + 1, none⟩) l_g).trans k7⟩
      (try dsimp only at hS)
      refine wp_region_held_drew (S := (fun w' => Below W1.heap.size W1 w' ∧ q < w'.heap.size ∧ g < w'.heap.size ∧ w'.cell? ⟨q, 0, none⟩ = some (.int .i64 b.l) ∧ w'.cell? ⟨q, 1, none⟩ = some (.int .i64 b.r) ∧ w'.cell? ⟨q, 2, none⟩ = some (.int .i64 b.b) ∧ w'.cell? ⟨q, 3, none⟩ = some (.int .i64 b.t) ∧ w'.cell? ⟨g, i * 4, none⟩ = some (.int .i64 tm.x) ∧ w'.cell? ⟨g, i * 4 + 1, none⟩ = some (.int .i64 tm.y) ∧ w'.cell? ⟨g, i * 4 + 1 + 1, none⟩ = some (.int .i64 tm.hx) ∧ w'.cell? ⟨g, i * 4 + 1 + 1 + 1, none⟩ = some (.int .i64 tm.hy))) (by kernel_rfl) ?_ (fun hHeld0 => ?_)
      · (try dsimp only); (first | (go_keep; done) | (go_split_ands; (repeat' apply And.intro) <;> first | (go_keep; done) | (simp [*, zcA, zcP, zfA, zfP]; done) | (simp [zcA, zcP] <;> rfl) | (simp [*, zsS, zsO, zsA]; done) | ((first | refine (hc _ _ ?_).trans ?_ | refine (hf _ _ ?_).trans ?_) <;> first | assumption | (simp; done) | (simp; omega) | omega | (go_keep; done) | (simp [*, zcA, zcP, zfA, zfP]; done) | (simp [zcA, zcP]; rfl)) | (repeat' first | exact zbR _ _ | assumption | refine zbD ?_ | refine zbA ?_ ?_ _ | refine zbS ?_ ?_ _ | refine zbT ?_ (by assumption) ?_ | (simp; done) | (simp; omega) | omega)))
      refine tL (v := ?_) 0 rfl (by kernel_rfl) (fun _ _ _ h => h) (Or.inl ⟨by rfl, ?_⟩) (by assumption) ?_; rotate_left
      · (intro w hSw; (try dsimp only at hSw); go_simp; try with_reducible rfl)
      try simp only [Act.put, zl, z0, z1]
      refine tL (v := ?_) 1 rfl (by kernel_rfl) (fun _ _ _ h => h) (Or.inl ⟨by rfl, ?_⟩) (by assumption) ?_; rotate_left
      · (intro w hSw; (try dsimp only at hSw); go_simp; try with_reducible rfl)
      try simp only [Act.put, zl, z0, z1]
      refine tL (v := ?_) 2 rfl (by kernel_rfl) (fun _ _ _ h => h) (Or.inl ⟨by rfl, ?_⟩) (by assumption) ?_; rotate_left
      · (intro w hSw; (try dsimp only at hSw); go_simp; try with_reducible rfl)
      try simp only [Act.put, zl, z0, z1]
      refine tL (v := ?_) 3 rfl (by kernel_rfl) (fun _ _ _ h => h) (Or.inl ⟨by rfl, ?_⟩) (by assumption) ?_; rotate_left
      · (intro w hSw; (try dsimp only at hSw); go_simp; try with_reducible rfl)
      try simp only [Act.put, zl, z0, z1]
      refine tL (v := ?_) 4 rfl (by kernel_rfl) (fun _ _ _ h => h) (Or.inl ⟨by rfl, ?_⟩) (by assumption) ?_; rotate_left
      · (intro w hSw; (try dsimp only at hSw); go_simp; try with_reducible rfl)
      try simp only [Act.put, zl, z0, z1]
      refine wpAnyH_ready (rs := [5]) (by kernel_rfl) (by simp) ?_
      refine consL 5 rfl (fun K hK => ?_) AllReadyH.nil
      go_simp
      (go_at_call 21; refine (refTouch_any tm b _ HB.out HTM.out).mono ?_; rintro e w6 ⟨rfl, hb⟩; have hSn := hkeep _ _ hb (by assumption); (try clear hS); have hS := hSn; clear hSn)
      refine hK.out _ _ ?_ (fun hHeld1 => ?_)
      · (try dsimp only); exact hS
      clear hK K hHeld0
      try simp only [Act.put, zl, z0, z1]
      refine wpAnyH_done (by kernel_rfl) ?_ _
      obtain ⟨hB6, _, _, _⟩ := hS
      have HB6 := hide (HB1.out.trans (hB6.mono HB1.out.size))
      clear hkeep hHeld1 hB6
      cases ht : L.touch tm b
      all_goals
        rw [ht] at HNX
        go_wp2_with fail
        go_roundw
        case rel => exact ⟨i + 1, by omega, by go_num, by (first | (rw [HNX.out]; simp; done) | (rw [HNX.out]; go_num)), HB6.out⟩
        case measure => simp [intOf]; omega
    · have hin : i = tl.length := by omega
      subst hin
      have hT := List.take_of_length_le (Nat.le_refl tl.length)
      rw [hT] at hcl ⊢
      obtain ⟨cn, hcn⟩ : ∃ cn, L.cntT b tl = cn := ⟨_, rfl⟩
      obtain ⟨ln, hln⟩ : ∃ ln, tl.length = ln := ⟨_, rfl⟩
      unfold L.callR at HE
      rw [hcn, hln] at HE
      rw [hcn, hln] at hcl
      rw [hcn]
      simp only [hln]
      have HLN := hide hln
      clear hT hcn hln hlen hlt hi
      by_cases e0 : ln = 0
      · rw [if_pos e0] at HE
        subst e0
        go_wp2_with fail
        go_ret
        exact ⟨by rw [← HE.out]; rfl, GB2.out.trans (hB.mono GB2.out.size)⟩
      · rw [if_neg e0] at HE
        have d0 : ((ln : Int) == 0) = false := by simp only [beq_eq_false_iff_ne, ne_eq]; omega
        by_cases e1 : cn = ln
        · rw [if_pos e1] at HE
          subst e1
          go_wp2_with fail
          go_ret
          exact ⟨by rw [← HE.out]; rfl, GB2.out.trans (hB.mono GB2.out.size)⟩
        · rw [if_neg e1] at HE
          have d1 : ((cn : Int) == (ln : Int)) = false := by simp only [beq_eq_false_iff_ne, ne_eq]; omega
          by_cases e2 : cn = 0
          · rw [if_pos e2] at HE
            subst e2
            go_wp2_with fail
            go_ret
            exact ⟨by rw [← HE.out]; rfl, GB2.out.trans (hB.mono GB2.out.size)⟩
          · rw [if_neg e2] at HE
            have d2 : ((cn : Int) == 0) = false := by simp only [beq_eq_false_iff_ne, ne_eq]; omega
            go_wp2_with fail
            go_ret
            exact ⟨by rw [← HE.out]; rfl, GB2.out.trans (hB.mono GB2.out.size)⟩

end Go.Proofs.Ytgnobonhohfofaa

namespace Go.Proofs.Ytgnobonhohfofaa
namespace L

structure Ap where
  kind : Int
  side : Int
  said : Int
  v : Vw
  A : Option Addr
  n : Nat
  c : Nat
  b : Bx

structure Rs where
  bad : Bool
  ds : List Int
  l0 : Int
  l1 : Int

def Rs.left (s : Rs) (side : Int) : Int := if side = 0 then s.l0 else s.l1
def askOk (a : Ap) (s : Rs) : Bool := decide (decE a.said a.v a.b = 0) && within a.side 0 1 && !(s.left a.side == 0)
def stepR (each more : Int) (s : Rs) (a : Ap) : Rs :=
  if a.kind = 1 then { s with l0 := each, l1 := each }
  else if a.kind = 2 then { s with l0 := s.l0 + more, l1 := s.l1 + more }
  else if a.kind = 3 then
    if askOk a s then
      { s with ds := s.ds ++ [decV a.said a.v a.b], l0 := if a.side = 0 ∧ decK a.said a.v a.b = false then s.l0 - 1 else s.l0, l1 := if a.side = 1 ∧ decK a.said a.v a.b = false then s.l1 - 1 else s.l1 }
    else { s with bad := true }
  else { s with bad := true }
def runFrom (each more : Int) : Rs → List Ap → Rs
  | s, [] => s
  | s, a :: r => if (stepR each more s a).bad then stepR each more s a else runFrom each more (stepR each more s a) r
def rs0 : Rs := ⟨false, [], 0, 0⟩
def runR (each more : Int) (l : List Ap) : Rs := runFrom each more rs0 l
theorem stepR_bad {each more : Int} {s : Rs} {a : Ap} (h : s.bad = false) : (stepR each more s a).bad = true ∨ (stepR each more s a).bad = false := by
  cases (stepR each more s a).bad <;> simp
theorem runFrom_take {each more : Int} : ∀ {l : List Ap} {i : Nat} {s : Rs} {a : Ap}, l[i]? = some a → (runFrom each more s (l.take i)).bad = false → runFrom each more s (l.take (i + 1)) = stepR each more (runFrom each more s (l.take i)) a
  | [], i, s, a, h, _ => by simp at h
  | b :: r, 0, s, a, h, hb => by
    have e : b = a := Option.some.inj h
    subst e
    show (if (stepR each more s b).bad then stepR each more s b else stepR each more s b) = stepR each more s b
    split <;> rfl
  | b :: r, i + 1, s, a, h, hb => by
    have h' : r[i]? = some a := h
    rw [List.take_succ_cons] at hb ⊢
    rw [List.take_succ_cons]
    simp only [runFrom] at hb ⊢
    cases hs : (stepR each more s b).bad
    · rw [hs] at hb
      simp only [Bool.false_eq_true, if_false] at hb ⊢
      exact runFrom_take h' hb
    · rw [hs] at hb
      simp only [if_true] at hb
      rw [hs] at hb
      cases hb
theorem runFrom_stay {each more : Int} : ∀ {l : List Ap} {i : Nat} {s : Rs}, (runFrom each more s (l.take i)).bad = true → (runFrom each more s l).bad = true
  | [], i, s, h => by simpa using h
  | b :: r, 0, s, h => by
    have h' : s.bad = true := h
    have : (stepR each more s b).bad = true := by
      unfold stepR
      split
      · exact h'
      · split
        · exact h'
        · split
          · split
            · exact h'
            · rfl
          · rfl
    simp only [runFrom, this, if_true]
  | b :: r, i + 1, s, h => by
    rw [List.take_succ_cons] at h
    simp only [runFrom] at h ⊢
    cases hs : (stepR each more s b).bad
    · rw [hs] at h
      simp only [Bool.false_eq_true, if_false] at h ⊢
      exact runFrom_stay h
    · simp [hs]
theorem runFrom_len {each more : Int} : ∀ {l : List Ap} {s : Rs}, (runFrom each more s l).ds.length ≤ s.ds.length + l.length
  | [], s => by simp [runFrom]
  | a :: r, s => by
    have h1 : (stepR each more s a).ds.length ≤ s.ds.length + 1 := by
      unfold stepR
      split
      · simp
      · split
        · simp
        · split
          · split <;> simp
          · simp
    simp only [runFrom]
    split
    · simp only [List.length_cons]; omega
    · have := runFrom_len (l := r) (s := stepR each more s a) (each := each) (more := more)
      simp only [List.length_cons]; omega
structure RsBd (s : Rs) (i : Nat) : Prop where
  a0 : 0 ≤ s.l0
  a1 : s.l0 ≤ 9 + 9 * i
  b0 : 0 ≤ s.l1
  b1 : s.l1 ≤ 9 + 9 * i
theorem stepR_bd {each more : Int} {s : Rs} {a : Ap} {i : Nat} (h : RsBd s i) (h1 : 0 ≤ each) (h2 : each ≤ 9) (h3 : 0 ≤ more) (h4 : more ≤ 9) : RsBd (stepR each more s a) (i + 1) := by
  obtain ⟨a0, a1, b0, b1⟩ := h
  unfold stepR
  split
  · exact ⟨by simp only; omega, by simp only; omega, by simp only; omega, by simp only; omega⟩
  · split
    · exact ⟨by simp only; omega, by simp only; omega, by simp only; omega, by simp only; omega⟩
    · split
      · split
        · rename_i hk
          unfold askOk at hk
          simp only [Bool.and_eq_true, Bool.not_eq_true', beq_eq_false_iff_ne, ne_eq] at hk
          have hl := hk.2
          unfold Rs.left at hl
          refine ⟨?_, ?_, ?_, ?_⟩ <;> simp only
          · split
            · rename_i hs
              rw [if_pos hs.1] at hl
              omega
            · exact a0
          · split <;> omega
          · split
            · rename_i hs
              rw [if_neg (by omega)] at hl
              omega
            · exact b0
          · split <;> omega
        · exact ⟨a0, by simp only; omega, b0, by simp only; omega⟩
      · exact ⟨a0, by simp only; omega, b0, by simp only; omega⟩
def ruleOk (each more : Int) (n : Nat) : Bool := within each 0 9 && within more 0 9 && decide (n ≤ 30)
def runBad (each more : Int) (l : List Ap) : Bool := !ruleOk each more l.length || (runR each more l).bad
def runE (each more : Int) (l : List Ap) : Int := if runBad each more l then 23 else 0
def runD (each more : Int) (l : List Ap) : List Int := if runBad each more l then [] else (runR each more l).ds
def runL (each more : Int) (l : List Ap) : Int × Int := if runBad each more l then (0, 0) else ((runR each more l).l0, (runR each more l).l1)
end L

structure ApAt (w : World) (B b o : Nat) (a : L.Ap) : Prop where
  c0 : w.cell? ⟨b, o, none⟩ = some (.int .i64 a.kind)
  c1 : w.cell? ⟨b, o + 1, none⟩ = some (.int .i64 a.side)
  c2 : w.cell? ⟨b, o + 1 + 1, none⟩ = some (.int .i64 a.said)
  c3 : w.cell? ⟨b, o + 1 + 1 + 1, none⟩ = some (.int .i64 a.v.size)
  c4 : w.cell? ⟨b, o + 1 + 1 + 1 + 1, none⟩ = some (.slice a.A a.n a.c)
  c5 : w.cell? ⟨b, o + 1 + 1 + 1 + 1 + 1, none⟩ = some (.int .i64 a.v.wrong)
  c6 : w.cell? ⟨b, o + 1 + 1 + 1 + 1 + 1 + 1, none⟩ = some (.int .i64 a.v.hxl)
  c7 : w.cell? ⟨b, o + 1 + 1 + 1 + 1 + 1 + 1 + 1, none⟩ = some (.int .i64 a.v.hxh)
  c8 : w.cell? ⟨b, o + 1 + 1 + 1 + 1 + 1 + 1 + 1 + 1, none⟩ = some (.int .i64 a.v.hyl)
  c9 : w.cell? ⟨b, o + 1 + 1 + 1 + 1 + 1 + 1 + 1 + 1 + 1, none⟩ = some (.int .i64 a.v.hyh)
  c10 : w.cell? ⟨b, o + 1 + 1 + 1 + 1 + 1 + 1 + 1 + 1 + 1 + 1, none⟩ = some (.int .i64 a.b.l)
  c11 : w.cell? ⟨b, o + 1 + 1 + 1 + 1 + 1 + 1 + 1 + 1 + 1 + 1 + 1, none⟩ = some (.int .i64 a.b.r)
  c12 : w.cell? ⟨b, o + 1 + 1 + 1 + 1 + 1 + 1 + 1 + 1 + 1 + 1 + 1 + 1, none⟩ = some (.int .i64 a.b.b)
  c13 : w.cell? ⟨b, o + 1 + 1 + 1 + 1 + 1 + 1 + 1 + 1 + 1 + 1 + 1 + 1 + 1, none⟩ = some (.int .i64 a.b.t)
  len : a.v.ss.length = a.n
  rd : RdS w B a.A a.v.ss
  nil : a.A = none → a.c = 0
open Go.RowKit in
theorem ApAt.below {w w' : World} {B b o : Nat} {a : L.Ap} (h : ApAt w B b o a) (hb : b < B) (hw : Below B w w') : ApAt w' B b o a := by
  have k : ∀ {j : Nat} {v : Value}, w.cell? ⟨b, j, none⟩ = some v → w'.cell? ⟨b, j, none⟩ = some v := fun {j v} h => (hw.cell (p := ⟨b, j, none⟩) hb).trans h
  exact ⟨k h.c0, k h.c1, k h.c2, k h.c3, k h.c4, k h.c5, k h.c6, k h.c7, k h.c8, k h.c9, k h.c10, k h.c11, k h.c12, k h.c13, h.len, h.rd.below hw, h.nil⟩
theorem ApAt.mono {w : World} {B B' b o : Nat} {a : L.Ap} (h : ApAt w B b o a) (hB : B ≤ B') : ApAt w B' b o a :=
  ⟨h.c0, h.c1, h.c2, h.c3, h.c4, h.c5, h.c6, h.c7, h.c8, h.c9, h.c10, h.c11, h.c12, h.c13, h.len, h.rd.mono hB, h.nil⟩
def RdA (w : World) (B : Nat) (A : Option Addr) (l : List L.Ap) : Prop :=
  ∀ (k : Nat) (a : L.Ap), l[k]? = some a → ∃ b o : Nat, A = some ⟨b, o, none⟩ ∧ b < B ∧ ApAt w B b (o + k * 14) a
theorem RdA.nil (w : World) (B : Nat) (A : Option Addr) : RdA w B A [] := fun k s h => by simp at h
open Go.RowKit in
theorem RdA.below {w w' : World} {B : Nat} {A : Option Addr} {l : List L.Ap} (h : RdA w B A l) (hb : Below B w w') : RdA w' B A l := fun k a hk => by
  obtain ⟨b, o, hA, hlt, h0⟩ := h k a hk
  exact ⟨b, o, hA, hlt, h0.below hlt hb⟩
theorem RdA.mono {w : World} {B B' : Nat} {A : Option Addr} {l : List L.Ap} (h : RdA w B A l) (hb : B ≤ B') : RdA w B' A l := fun k a hk => by
  obtain ⟨b, o, hA, hlt, h0⟩ := h k a hk
  exact ⟨b, o, hA, Nat.lt_of_lt_of_le hlt hb, h0.mono hb⟩

end Go.Proofs.Ytgnobonhohfofaa

namespace Go.Proofs.Ytgnobonhohfofaa
open Go.ChangeShapes Go.WideShapes Go.ChangeAt Go.RowKit Go.Deep Go.Joins

theorem boxCells : Try.prog.cellsOf 28 = 4 := by kernel_rfl
theorem appealCells : Try.prog.cellsOf 66 = 14 := by kernel_rfl
section
variable {H : Type} {enc : TypeId × Value → H} {w : World} {base : Nat} {spare : Nat → Bool} {held : Bool}
set_option maxRecDepth 100000 in
theorem open_box_cells {cs : List Value} {x : DataW H × List MemPlace} {fuel : Nat} (hf : DataW.trod enc Try.prog w base spare held fuel 28 cs = some x) : ∃ b : L.Bx, cs = [.int .i64 b.l, .int .i64 b.r, .int .i64 b.b, .int .i64 b.t] := by
  obtain ⟨hl, hf⟩ := trod_fields Try.underlying28 boxOne hf
  match cs, hl with
  | [c0, c1, c2, c3], _ =>
    obtain ⟨_, _, _, e0, h0⟩ := hf 0 _ rfl
    obtain ⟨_, _, _, e1, h1⟩ := hf 1 _ rfl
    obtain ⟨_, _, _, e2, h2⟩ := hf 2 _ rfl
    obtain ⟨_, _, _, e3, h3⟩ := hf 3 _ rfl
    obtain ⟨n0, k0, _, w0⟩ := DataW.trod_int Try.underlying3 h0
    obtain ⟨n1, k1, _, w1⟩ := DataW.trod_int Try.underlying3 h1
    obtain ⟨n2, k2, _, w2⟩ := DataW.trod_int Try.underlying3 h2
    obtain ⟨n3, k3, _, w3⟩ := DataW.trod_int Try.underlying3 h3
    refine ⟨⟨n0, n1, n2, n3⟩, ?_⟩
    simp only [List.getElem?_cons_zero, List.getElem?_cons_succ, Option.some.injEq] at e0 e1 e2 e3
    simp only [List.cons.injEq, and_true] at k0 k1 k2 k3
    rw [e0, e1, e2, e3, k0, k1, k2, k3]
set_option maxRecDepth 100000 in
theorem open_view_cells {cs : List Value} {x : DataW H × List MemPlace} {fuel : Nat} (hf : DataW.trod enc Try.prog w base (fun _ => true) held fuel 26 cs = some x) :
    ∃ (x : L.Vw) (A : Option Addr) (n c : Nat), cs = [.int .i64 x.size, .slice A n c, .int .i64 x.wrong, .int .i64 x.hxl, .int .i64 x.hxh, .int .i64 x.hyl, .int .i64 x.hyh] ∧ n ≤ c ∧ c ≤ maxLen ∧ x.ss.length = n ∧ RdS w w.heap.size A x.ss ∧ (A = none → c = 0) := by
  obtain ⟨xs, n, _, _, hcl, hlen, hg⟩ := DataW.trod_struct Try.underlying26 hf
  rw [viewCells] at hcl
  match cs, hcl with
  | [c0, c1, c2, c3, c4, c5, c6], _ =>
    have look : ∀ j, j < xs.length → ∃ y, xs[j]? = some y := fun j hj => ⟨_, List.getElem?_eq_getElem hj⟩
    have hx5 : xs.length = 5 := hlen
    obtain ⟨y0, hy0⟩ := look 0 (by omega)
    obtain ⟨y1, hy1⟩ := look 1 (by omega)
    obtain ⟨y2, hy2⟩ := look 2 (by omega)
    obtain ⟨y3, hy3⟩ := look 3 (by omega)
    obtain ⟨y4, hy4⟩ := look 4 (by omega)
    have g0 : DataW.trod enc Try.prog w base (fun _ => true) held n 3 (List.take (Try.prog.cellsOf 3) (List.drop 0 [c0, c1, c2, c3, c4, c5, c6])) = some y0 := (hg 0 _ rfl).trans hy0
    have g1 : DataW.trod enc Try.prog w base (fun _ => true) held n 22 (List.take (Try.prog.cellsOf 22) (List.drop 1 [c0, c1, c2, c3, c4, c5, c6])) = some y1 := (hg 1 _ rfl).trans hy1
    have g2 : DataW.trod enc Try.prog w base (fun _ => true) held n 3 (List.take (Try.prog.cellsOf 3) (List.drop 2 [c0, c1, c2, c3, c4, c5, c6])) = some y2 := (hg 2 _ rfl).trans hy2
    have g3 : DataW.trod enc Try.prog w base (fun _ => true) held n 24 (List.take (Try.prog.cellsOf 24) (List.drop 3 [c0, c1, c2, c3, c4, c5, c6])) = some y3 := (hg 3 _ rfl).trans hy3
    have g4 : DataW.trod enc Try.prog w base (fun _ => true) held n 24 (List.take (Try.prog.cellsOf 24) (List.drop 5 [c0, c1, c2, c3, c4, c5, c6])) = some y4 := (hg 4 _ rfl).trans hy4
    rw [intCells] at g0 g2
    rw [stripsCells] at g1
    rw [spanCells] at g3 g4
    simp only [List.drop_succ_cons, List.drop_zero, List.take_succ_cons, List.take_zero] at g0 g1 g2 g3 g4
    obtain ⟨n0, k0, _, w0⟩ := DataW.trod_int Try.underlying3 g0
    obtain ⟨A, m, c, ss, k1, h1, h2, h3, h4, h5⟩ := open_strips g1
    obtain ⟨n2, k2, _, w2⟩ := DataW.trod_int Try.underlying3 g2
    obtain ⟨a3, b3, k3, w3, w3'⟩ := open_span g3
    obtain ⟨a4, b4, k4, w4, w4'⟩ := open_span g4
    simp only [List.cons.injEq, and_true] at k0 k2 k3 k4
    obtain ⟨k3, k3'⟩ := k3
    obtain ⟨k4, k4'⟩ := k4
    subst k0 k1 k2 k3 k3' k4 k4'
    exact ⟨⟨n0, ss, n2, a3, b3, a4, b4⟩, A, m, c, rfl, h1, h2, h3, h4, h5⟩
set_option maxRecDepth 100000 in
theorem open_appeal_cells {cs : List Value} {x : DataW H × List MemPlace} {fuel : Nat} (hf : DataW.trod enc Try.prog w base (fun _ => true) held fuel 66 cs = some x) :
    ∃ a : L.Ap, cs = [.int .i64 a.kind, .int .i64 a.side, .int .i64 a.said, .int .i64 a.v.size, .slice a.A a.n a.c, .int .i64 a.v.wrong, .int .i64 a.v.hxl, .int .i64 a.v.hxh, .int .i64 a.v.hyl, .int .i64 a.v.hyh, .int .i64 a.b.l, .int .i64 a.b.r, .int .i64 a.b.b, .int .i64 a.b.t] ∧ a.v.ss.length = a.n ∧ RdS w w.heap.size a.A a.v.ss ∧ (a.A = none → a.c = 0) := by
  obtain ⟨xs, n, _, _, hcl, hlen, hg⟩ := DataW.trod_struct Try.underlying66 hf
  rw [appealCells] at hcl
  match cs, hcl with
  | [c0, c1, c2, c3, c4, c5, c6, c7, c8, c9, c10, c11, c12, c13], _ =>
    have look : ∀ j, j < xs.length → ∃ y, xs[j]? = some y := fun j hj => ⟨_, List.getElem?_eq_getElem hj⟩
    have hx5 : xs.length = 5 := hlen
    obtain ⟨y0, hy0⟩ := look 0 (by omega)
    obtain ⟨y1, hy1⟩ := look 1 (by omega)
    obtain ⟨y2, hy2⟩ := look 2 (by omega)
    obtain ⟨y3, hy3⟩ := look 3 (by omega)
    obtain ⟨y4, hy4⟩ := look 4 (by omega)
    have g0 : DataW.trod enc Try.prog w base (fun _ => true) held n 3 (List.take (Try.prog.cellsOf 3) (List.drop 0 [c0, c1, c2, c3, c4, c5, c6, c7, c8, c9, c10, c11, c12, c13])) = some y0 := (hg 0 _ rfl).trans hy0
    have g1 : DataW.trod enc Try.prog w base (fun _ => true) held n 3 (List.take (Try.prog.cellsOf 3) (List.drop 1 [c0, c1, c2, c3, c4, c5, c6, c7, c8, c9, c10, c11, c12, c13])) = some y1 := (hg 1 _ rfl).trans hy1
    have g2 : DataW.trod enc Try.prog w base (fun _ => true) held n 3 (List.take (Try.prog.cellsOf 3) (List.drop 2 [c0, c1, c2, c3, c4, c5, c6, c7, c8, c9, c10, c11, c12, c13])) = some y2 := (hg 2 _ rfl).trans hy2
    have g3 : DataW.trod enc Try.prog w base (fun _ => true) held n 26 (List.take (Try.prog.cellsOf 26) (List.drop 3 [c0, c1, c2, c3, c4, c5, c6, c7, c8, c9, c10, c11, c12, c13])) = some y3 := (hg 3 _ rfl).trans hy3
    have g4 : DataW.trod enc Try.prog w base (fun _ => true) held n 28 (List.take (Try.prog.cellsOf 28) (List.drop 10 [c0, c1, c2, c3, c4, c5, c6, c7, c8, c9, c10, c11, c12, c13])) = some y4 := (hg 4 _ rfl).trans hy4
    rw [intCells] at g0 g1 g2
    rw [viewCells] at g3
    rw [boxCells] at g4
    simp only [List.drop_succ_cons, List.drop_zero, List.take_succ_cons, List.take_zero] at g0 g1 g2 g3 g4
    obtain ⟨n0, k0, _, _⟩ := DataW.trod_int Try.underlying3 g0
    obtain ⟨n1, k1, _, _⟩ := DataW.trod_int Try.underlying3 g1
    obtain ⟨n2, k2, _, _⟩ := DataW.trod_int Try.underlying3 g2
    obtain ⟨v, A, m, c, k3, _, _, h3, h4, h5⟩ := open_view_cells g3
    obtain ⟨b, k4⟩ := open_box_cells g4
    simp only [List.cons.injEq, and_true] at k0 k1 k2 k3 k4
    obtain ⟨k30, k31, k32, k33, k34, k35, k36⟩ := k3
    obtain ⟨k40, k41, k42, k43⟩ := k4
    subst k0 k1 k2 k30 k31 k32 k33 k34 k35 k36 k40 k41 k42 k43
    exact ⟨⟨n0, n1, n2, v, A, m, c, b⟩, rfl, h3, h4, h5⟩
set_option maxRecDepth 100000 in
theorem open_appeals {v : Value} {x : DataW H × List MemPlace} {fuel : Nat} (hf : DataW.trod enc Try.prog w base (fun _ => true) held fuel 63 [v] = some x) :
    ∃ (A : Option Addr) (n c : Nat) (l : List L.Ap), v = .slice A n c ∧ n ≤ c ∧ c ≤ maxLen ∧ l.length = n ∧ RdA w w.heap.size A l ∧ (A = none → c = 0) := by
  rcases Go.Deep.open_slice Try.underlying63 hf with ⟨hcs, _⟩ | ⟨a, len, cap, m, n, D, Pl, hcs, _, hle, hmax, hm, _, hi⟩
  · simp at hcs
    subst hcs
    exact ⟨none, 0, 0, [], rfl, Nat.le_refl _, Nat.zero_le _, rfl, RdA.nil _ _ _, fun _ => rfl⟩
  · simp at hcs
    subst hcs
    simp only [if_true] at hm
    have each : ∀ i, i < len → ∃ q : L.Ap, w.cell? (a.add (i * 14)) = some (.int .i64 q.kind) ∧ w.cell? ((a.add (i * 14)).add 1) = some (.int .i64 q.side) ∧ w.cell? ((a.add (i * 14)).add 2) = some (.int .i64 q.said) ∧ w.cell? ((a.add (i * 14)).add 3) = some (.int .i64 q.v.size) ∧ w.cell? ((a.add (i * 14)).add 4) = some (.slice q.A q.n q.c) ∧ w.cell? ((a.add (i * 14)).add 5) = some (.int .i64 q.v.wrong) ∧ w.cell? ((a.add (i * 14)).add 6) = some (.int .i64 q.v.hxl) ∧ w.cell? ((a.add (i * 14)).add 7) = some (.int .i64 q.v.hxh) ∧ w.cell? ((a.add (i * 14)).add 8) = some (.int .i64 q.v.hyl) ∧ w.cell? ((a.add (i * 14)).add 9) = some (.int .i64 q.v.hyh) ∧ w.cell? ((a.add (i * 14)).add 10) = some (.int .i64 q.b.l) ∧ w.cell? ((a.add (i * 14)).add 11) = some (.int .i64 q.b.r) ∧ w.cell? ((a.add (i * 14)).add 12) = some (.int .i64 q.b.b) ∧ w.cell? ((a.add (i * 14)).add 13) = some (.int .i64 q.b.t) ∧ q.v.ss.length = q.n ∧ RdS w w.heap.size q.A q.v.ss ∧ (q.A = none → q.c = 0) := by
      intro i hil
      obtain ⟨cs', hc, ht⟩ := hi i (by omega)
      rw [appealCells] at hc
      obtain ⟨_, hcl, hat⟩ := World.cells?_some hc
      obtain ⟨q, hq, h3, h4, h5⟩ := open_appeal_cells ht
      subst hq
      exact ⟨q, hat 0 (by omega), hat 1 (by omega), hat 2 (by omega), hat 3 (by omega), hat 4 (by omega), hat 5 (by omega), hat 6 (by omega), hat 7 (by omega), hat 8 (by omega), hat 9 (by omega), hat 10 (by omega), hat 11 (by omega), hat 12 (by omega), hat 13 (by omega), h3, h4, h5⟩
    refine ⟨some a, len, cap, (List.range len).map (fun i => if h : i < len then (each i h).choose else ⟨0, 0, 0, ⟨0, [], 0, 0, 0, 0, 0⟩, none, 0, 0, ⟨0, 0, 0, 0⟩⟩), rfl, hle, hmax, by simp, ?_, fun e => by cases e⟩
    intro k q hk
    have hkn : k < len := by
      rcases Nat.lt_or_ge k len with hl | hl
      · exact hl
      · rw [List.getElem?_eq_none (by simp; omega)] at hk; cases hk
    have hq : (each k hkn).choose = q := by
      rw [List.getElem?_map, List.getElem?_range hkn] at hk
      simpa [hkn] using hk
    have hc := (each k hkn).choose_spec
    rw [hq] at hc
    obtain ⟨_, h00, _⟩ := each 0 (by omega)
    obtain ⟨b, o, rfl, hb'⟩ := spot_first (by rw [Nat.zero_mul] at h00; exact h00)
    simp only [add_plain] at hc
    obtain ⟨g0, g1, g2, g3, g4, g5, g6, g7, g8, g9, g10, g11, g12, g13, h3, h4, h5⟩ := hc
    exact ⟨b, o, rfl, hb', g0, g1, g2, g3, g4, g5, g6, g7, g8, g9, g10, g11, g12, g13, h3, h4, h5⟩
end
end Go.Proofs.Ytgnobonhohfofaa

namespace Go.Proofs.Ytgnobonhohfofaa
open Go.ChangeShapes Go.WideShapes Go.ChangeAt Go.RowKit Go.Deep Go.Joins

section
variable {H : Type} {enc : TypeId × Value → H} {w : World} {base : Nat} {spare : Nat → Bool} {held : Bool}
theorem ruleOne : (match Try.prog.underlying 62 with | some (.struct fs) => oneCellFields Try.prog fs && Try.prog.cellsOf 62 == fs.size | _ => false) = true := by kernel_rfl
set_option maxRecDepth 100000 in
theorem open_rule {r : Reach} {b0 : Nat} {v : Value} {d : DataW H} {p : List MemPlace} (hv : Value.okWide Try.prog w r b0 62 v) (h : DataW.Trod enc Try.prog w base spare held 62 v d p) : ∃ a b : Int, v = .agg #[.int .i64 a, .int .i64 b] := by
  obtain ⟨cs, rfl, hl, hf⟩ := open_fields Try.underlying62 ruleOne hv h
  match cs, hl with
  | [c0, c1], _ =>
    obtain ⟨_, _, _, e0, h0⟩ := hf 0 _ rfl
    obtain ⟨_, _, _, e1, h1⟩ := hf 1 _ rfl
    obtain ⟨n0, k0, _, w0⟩ := DataW.trod_int Try.underlying3 h0
    obtain ⟨n1, k1, _, w1⟩ := DataW.trod_int Try.underlying3 h1
    refine ⟨n0, n1, ?_⟩
    simp only [List.getElem?_cons_zero, List.getElem?_cons_succ, Option.some.injEq] at e0 e1
    simp only [List.cons.injEq, and_true] at k0 k1
    rw [e0, e1, k0, k1]
theorem looseOne : (match Try.prog.underlying 44 with | some (.struct fs) => oneCellFields Try.prog fs && Try.prog.cellsOf 44 == fs.size | _ => false) = true := by kernel_rfl
set_option maxRecDepth 100000 in
theorem open_loose {r : Reach} {b0 : Nat} {v : Value} {d : DataW H} {p : List MemPlace} (hv : Value.okWide Try.prog w r b0 44 v) (h : DataW.Trod enc Try.prog w base spare held 44 v d p) : ∃ a b c e : Int, v = .agg #[.int .i64 a, .int .i64 b, .int .i64 c, .int .i64 e] := by
  obtain ⟨cs, rfl, hl, hf⟩ := open_fields Try.underlying44 looseOne hv h
  match cs, hl with
  | [c0, c1, c2, c3], _ =>
    obtain ⟨_, _, _, e0, h0⟩ := hf 0 _ rfl
    obtain ⟨_, _, _, e1, h1⟩ := hf 1 _ rfl
    obtain ⟨_, _, _, e2, h2⟩ := hf 2 _ rfl
    obtain ⟨_, _, _, e3, h3⟩ := hf 3 _ rfl
    obtain ⟨n0, k0, _, w0⟩ := DataW.trod_int Try.underlying3 h0
    obtain ⟨n1, k1, _, w1⟩ := DataW.trod_int Try.underlying3 h1
    obtain ⟨n2, k2, _, w2⟩ := DataW.trod_int Try.underlying3 h2
    obtain ⟨n3, k3, _, w3⟩ := DataW.trod_int Try.underlying3 h3
    refine ⟨n0, n1, n2, n3, ?_⟩
    simp only [List.getElem?_cons_zero, List.getElem?_cons_succ, Option.some.injEq] at e0 e1 e2 e3
    simp only [List.cons.injEq, and_true] at k0 k1 k2 k3
    rw [e0, e1, e2, e3, k0, k1, k2, k3]
theorem open_appealsV {v : Value} {d : DataW H} {p : List MemPlace} (h : DataW.Trod enc Try.prog w base (fun _ => true) held 63 v d p) (hok : ∃ a n c, v = .slice a n c) :
    ∃ (A : Option Addr) (n c : Nat) (l : List L.Ap), v = .slice A n c ∧ n ≤ c ∧ c ≤ maxLen ∧ l.length = n ∧ RdA w w.heap.size A l ∧ (A = none → c = 0) := by
  obtain ⟨a, n, c, rfl⟩ := hok
  obtain ⟨fuel, hf⟩ := h
  exact open_appeals hf
end
end Go.Proofs.Ytgnobonhohfofaa

namespace Go.Proofs.Ytgnobonhohfofaa
open Go.ChangeShapes Go.WideShapes Go.ChangeAt Go.RowKit Go.Deep Go.Joins

theorem Try.ownLinesLess : ownKnob Try.prog.godebug = none := by kernel_rfl

set_option maxRecDepth 100000 in
theorem linesLess_call (H : Type) (enc : TypeId × Value → H) (W : World) (base : Nat) (args : Array Value) (ds : List (DataW H)) (p : List MemPlace) (hval : ∀ (j : Nat) t v, Try.f4.params[j]? = some t → args[j]? = some v → Value.okWide Try.prog W .any base t v)
    (hA : DataW.TrodAll enc Try.prog W 0 (fun _ => true) true Try.f4.params.toList args.toList ds p) : Calls Try.prog 4 args W fun e W' => e = .returned (.bool true) ∧ Below W.heap.size W W' := by
  rw [Try.params4] at hA hval
  obtain ⟨v0, v1, v2, d0, d1, d2, p0, p1, p2, rfl, rfl, rfl, h0, h1, h2⟩ := trodAll_three hA
  obtain ⟨x0, A0, n0, c0, rfl, hle0, hmx0, hn0, hr0, hno0, hwf0⟩ := open_view (hval 0 26 v0 rfl rfl) h0
  obtain ⟨x1, rfl, hwf1⟩ := open_box (hval 1 28 v1 rfl rfl) h1
  obtain ⟨x2a, x2b, x2c, x2d, rfl⟩ := open_loose (hval 2 44 v2 rfl rfl) h2
  exact lessLaw_any x0 A0 n0 c0 x1 x2a x2b x2c x2d W hn0 hr0 hno0

set_option maxRecDepth 100000 in
theorem LinesLess_holds : Rows.LinesLessSaid :=
  OpenClaim.holds_of_wide (p := Try.pinned) (s := Rows.linesLessSpec) (c := Rows.linesLessRow) 4 Try.f4 rfl rfl rfl rfl rfl rfl rfl ⟨rfl, rfl, rfl, rfl, rfl⟩ rfl rfl rfl rfl rfl (by kernel_rfl) Try.func4 (by kernel_rfl)
    (of_decide_eq_true (by kernel_rfl)) (by unfold Func.isWrapper; first | (rw [if_pos (by decide +kernel)]; kernel_rfl) | (rw [if_neg (by decide +kernel)]; exact ⟨rfl, rfl⟩))
    (fun os started H enc _ => law_lift (C := Try.checked) (F := 4) (fn := Try.f4) (s := Rows.linesLessSpec) (bt := 4) started Try.ownLinesLess (by kernel_rfl) Try.func4 (by kernel_rfl) Try.underlying4 rfl laidOut (of_decide_eq_true (by kernel_rfl))
      (fun ds hds => match ds, hds with | [_, _, _], _ => rfl)
      (ChangeSpec.witness6 (enc := enc) (C := Try.checked) false ⟨#[], #[.agg #[.int .i64 0, .slice none 0 0, .int .i64 0, .int .i64 0, .int .i64 0, .int .i64 0, .int .i64 0], .agg #[.int .i64 0, .int .i64 0, .int .i64 0, .int .i64 0], .agg #[.int .i64 0, .int .i64 0, .int .i64 0, .int .i64 0]], []⟩ 8 (by kernel_rfl) (by kernel_rfl) (by kernel_rfl) (by kernel_rfl))
      (fun W base args ds p hval hA _ => linesLess_call H enc W base args ds p hval hA) _ _ _)

end Go.Proofs.Ytgnobonhohfofaa
