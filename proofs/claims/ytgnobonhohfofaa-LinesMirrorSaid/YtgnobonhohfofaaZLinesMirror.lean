/-
  For every view and every box the law LinesMirror returns true and leaves its arguments as they were. No condition.
-/
import Derived.IntWalk
import Derived.Test.YtgnobonhohfofaaZB01
import Derived.Test.YtgnobonhohfofaaZB02
import Derived.Test.YtgnobonhohfofaaZB03
import Derived.Test.YtgnobonhohfofaaZB04
namespace Go.Proofs.Ytgnobonhohfofaa
open Go.RowKit
attribute [local go_sem ↓] Go.wp_at_zero Go.wp_at_succ

namespace L
def wid (k : Int) (s : St) : St := ⟨s.p, s.q, s.lo - k, s.hi + k⟩
def wider (v : Vw) (k : Int) : Vw := { v with ss := v.ss.map (wid k) }
def mix (ss : List St) (k : Int) (i : Nat) : List St := (ss.take i).map (wid k) ++ ss.drop i
theorem mix_zero (ss : List St) (k : Int) : mix ss k 0 = ss := by unfold mix; simp
theorem mix_all (ss : List St) (k : Int) : mix ss k ss.length = ss.map (wid k) := by unfold mix; simp
theorem mix_length (ss : List St) (k : Int) (i : Nat) : (mix ss k i).length = ss.length := by unfold mix; simp; omega
theorem mix_at {ss : List St} {k : Int} {i : Nat} {s : St} (h : ss[i]? = some s) : (mix ss k i)[i]? = some s := by
  have hl : i < ss.length := (List.getElem?_eq_some_iff.1 h).1
  unfold mix
  rw [List.getElem?_append_right (by simp; omega), List.length_map, List.length_take, Nat.min_eq_left (by omega), Nat.sub_self, List.getElem?_drop, Nat.add_zero]
  exact h
theorem mix_next {ss : List St} {k : Int} {i : Nat} {s : St} (h : ss[i]? = some s) : mix ss k (i + 1) = (mix ss k i).set i (wid k s) := by
  have hl : i < ss.length := (List.getElem?_eq_some_iff.1 h).1
  have h1 : ((ss.take i).map (wid k)).length = i := by simp; omega
  unfold mix
  rw [List.set_append_right _ _ (by omega), h1, Nat.sub_self, List.take_add_one, h, List.drop_eq_getElem_cons hl, List.set_cons_zero]
  simp
end L
theorem flatS_set : ∀ {ss : List L.St} {i : Nat} {s t : L.St}, ss[i]? = some s → t.p = s.p → t.q = s.q → flatS (ss.set i t) = ((flatS ss).set (i * 4 + 2) (.int .i64 t.lo)).set (i * 4 + 3) (.int .i64 t.hi)
  | [], i, s, t, h, _, _ => by simp at h
  | a :: r, 0, s, t, h, hp, hq => by
    have h' : a = s := Option.some.inj h
    subst h'
    show [Value.int .i64 t.p, .int .i64 t.q, .int .i64 t.lo, .int .i64 t.hi] ++ flatS r = _
    rw [hp, hq]
    rfl
  | a :: r, i + 1, s, t, h, hp, hq => by
    have ih := flatS_set (ss := r) (i := i) (s := s) (t := t) h hp hq
    have e1 : (i + 1) * 4 + 2 = i * 4 + 2 + 4 := by omega
    have e2 : (i + 1) * 4 + 3 = i * 4 + 3 + 4 := by omega
    rw [e1, e2]
    show [Value.int .i64 a.p, .int .i64 a.q, .int .i64 a.lo, .int .i64 a.hi] ++ flatS (r.set i t) = _
    rw [ih]
    rfl

theorem wider_results {Z : World} {g : Nat} {x0 x1 x2 x3 x4 x5 x6 : Value} {cs tmps : Array Value} (h3 : Z.heap[g]? = some (.cells cs 26 (0, 0)))
    (e3 : cs = #[x0, x1, x2, x3, x4, x5, x6]) (t2 : tmps[4]? = some (.pointer (some ⟨g, 0, none⟩))) :
    (results Try.f22 tmps).run Try.prog Z = .ok (.agg #[x0, x1, x2, x3, x4, x5, x6]) Z := by
  subst e3
  have k0 : Z.cell? ⟨g, 0, none⟩ = some x0 := blk_cell h3 0
  have k1 : Z.cell? ⟨g, 1, none⟩ = some x1 := blk_cell h3 1
  have k2 : Z.cell? ⟨g, 2, none⟩ = some x2 := blk_cell h3 2
  have k3 : Z.cell? ⟨g, 3, none⟩ = some x3 := blk_cell h3 3
  have k4 : Z.cell? ⟨g, 4, none⟩ = some x4 := blk_cell h3 4
  have k5 : Z.cell? ⟨g, 5, none⟩ = some x5 := blk_cell h3 5
  have k6 : Z.cell? ⟨g, 6, none⟩ = some x6 := blk_cell h3 6
  simp [results, Try.results22, go_sem, t2, k0, k1, k2, k3, k4, k5, k6]

theorem own_view_ne {w : World} {base g o n c : Nat} {xs : List Value} {cs : Array Value} (h : w.ownsRow base 54 4 (.slice (some ⟨g, 0, none⟩) n c) n xs) (ho : w.heap[o]? = some (.cells cs 26 (0, 0))) : g ≠ o := by
  rintro rfl
  obtain ⟨_, h2⟩ := h
  rcases h2 with ⟨h2, _⟩ | ⟨g', cap, cur, hv, _, hh, _⟩
  · cases h2
  · cases hv
    rw [hh] at ho
    cases ho

set_option maxRecDepth 100000 in
set_option maxHeartbeats 3200000 in
theorem Wider_any (v : L.Vw) (A : Option Addr) (n c : Nat) (k : Int) (w : World) (hn : v.ss.length = n) (hr : RdS w w.heap.size A v.ss) (hA : A = none → c = 0) (h40 : n ≤ 1000) (hk0 : 0 ≤ k) (hk1 : k ≤ 1000) (hb : ∀ s ∈ v.ss, -1000 ≤ s.lo ∧ s.lo ≤ 1000 ∧ -1000 ≤ s.hi ∧ s.hi ≤ 1000) :
    Calls Try.prog 22 #[.agg #[.int .i64 v.size, .slice A n c, .int .i64 v.wrong, .int .i64 v.hxl, .int .i64 v.hxh, .int .i64 v.hyl, .int .i64 v.hyh], .int .i64 k] w fun e w' => ∃ A' c', e = .returned (.agg #[.int .i64 v.size, .slice A' n c', .int .i64 v.wrong, .int .i64 v.hxl, .int .i64 v.hxh, .int .i64 v.hyl, .int .i64 v.hyh]) ∧ w'.ownsRow w.heap.size 54 4 (.slice A' n c') n (flatS (v.ss.map (L.wid k))) ∧ Below w.heap.size w w' := by
  have HN := hide hn
  have HR := hide hr
  have HBD := hide hb
  clear hn hr hb
  go_enter Try.func22, Try.ntmps22
  go_wp2_with (go_at_call 26; refine (Copy_any v A n c _ HN.out ((HR.out.below (by (repeat' first | exact zbR _ _ | assumption | refine zbD ?_ | refine zbA ?_ ?_ _ | refine zbS ?_ ?_ _ | refine zbT ?_ (by assumption) ?_ | (simp; done) | (simp; omega) | omega))).mono (by first | (simp; done) | (simp; omega) | omega)) hA h40).mono ?_; rintro e w2 ⟨A', c', rfl, hown, hb2⟩; have HO := hide hown; clear hown)
  have q2 := hb2.size
  (try simp only [World.size_alloc] at q2)
  obtain ⟨W1, hW1⟩ : ∃ W1, w2.alloc (.cells #[.int .i64 v.size, .slice A' n c', .int .i64 v.wrong, .int .i64 v.hxl, .int .i64 v.hxh, .int .i64 v.hyl, .int .i64 v.hyh] 26) = W1 := ⟨_, rfl⟩
  have go : W1.heap[w2.heap.size]? = some (.cells #[.int .i64 v.size, .slice A' n c', .int .i64 v.wrong, .int .i64 v.hxl, .int .i64 v.hxh, .int .i64 v.hyl, .int .i64 v.hyh] 26 (0, 0)) := by rw [← hW1]; exact World.alloc_heap_new _ _
  have gr : W1.heap[w.heap.size + 1]? = some (.cells #[.int .i64 0, .slice none 0 0, .int .i64 0, .int .i64 0, .int .i64 0, .int .i64 0, .int .i64 0] 26 (0, 0)) := by
    rw [← hW1]; exact (Below.heap_alloc _ _ _ (by omega)).trans ((hb2.block (w.heap.size + 1) (by first | (simp; done) | (simp; omega) | omega)).trans blk_new2)
  have gown : W1.ownsRow (w.heap.size + 1 + 1) 54 4 (.slice A' n c') n (flatS (L.mix v.ss k 0)) := by rw [← hW1, L.mix_zero]; exact (owns_mono HO.out (by simp)).alloc _
  have gB : Below w.heap.size w W1 := by rw [← hW1]; (repeat' first | exact zbR _ _ | assumption | refine zbD ?_ | refine zbA ?_ ?_ _ | refine zbS ?_ ?_ _ | refine zbT ?_ (by assumption) ?_ | (simp; done) | (simp; omega) | omega)
  have gs : W1.heap.size = w2.heap.size + 1 := by rw [← hW1]; simp
  rw [hW1]
  obtain ⟨o, ho⟩ : ∃ o, w2.heap.size = o := ⟨_, rfl⟩
  rw [ho] at go gs q2
  rw [ho]
  have GR := hide gr
  have GB := hide gB
  clear hW1 hb2 HO gr gB
  go_loopw [6] (fun i wr => ∃ j : Nat, j ≤ n ∧ i = .int .i64 j ∧ Hid (wr.ownsRow (w.heap.size + 1 + 1) 54 4 (.slice A' n c') n (flatS (L.mix v.ss k j))) ∧ wr.heap[o]? = some (.cells #[.int .i64 v.size, .slice A' n c', .int .i64 v.wrong, .int .i64 v.hxl, .int .i64 v.hxh, .int .i64 v.hyl, .int .i64 v.hyh] 26 (0, 0)) ∧ Below (w.heap.size + 1 + 1) W1 wr) (fun i _ => n - (intOf i).toNat)
  case atStart => exact ⟨0, by omega, rfl, hide gown, go, Below.refl _ _⟩
  case round =>
    obtain ⟨j, hj, rfl, hO, hgo, hB⟩ := hrel
    have qB := hB.size
    have lo := blk_lt hgo
    have co0 := (blk_cell hgo 0).trans rfl; have co1 := (blk_cell hgo 1).trans rfl; have co2 := (blk_cell hgo 2).trans rfl; have co3 := (blk_cell hgo 3).trans rfl; have co4 := (blk_cell hgo 4).trans rfl; have co5 := (blk_cell hgo 5).trans rfl; have co6 := (blk_cell hgo 6).trans rfl
    have HGO := hide hgo
    clear gown go
    by_cases hlt : j < n
    · obtain ⟨s, hs⟩ : ∃ s, v.ss[j]? = some s := ⟨_, List.getElem?_eq_getElem (by have := HN.out; omega)⟩
      obtain ⟨b0, b1, b2, b3⟩ := HBD.out s (List.mem_of_getElem? hs)
      obtain ⟨g, cap, e, hbg, hform⟩ := hO.out.form (by omega)
      have e' : A' = some ⟨g, 0, none⟩ ∧ c' = cap := by
        simp only [Value.slice.injEq] at e
        exact ⟨e.1, e.2.2⟩
      obtain ⟨rfl, rfl⟩ := e'
      have hgo' := own_view_ne hO.out hgo
      obtain ⟨x0, x1, x2, x3⟩ := flatS_at (L.mix_at (k := k) hs)
      have y2 := (hO.out.cellAt (j * 4 + 2) (by omega)).trans x2
      have y3 := (hO.out.cellAt (j * 4 + 3) (by omega)).trans x3
      have f2 := hO.out.frozenAt (j * 4 + 2)
      have f3 := hO.out.frozenAt (j * 4 + 3)
      have lg := (hO.out.lt g rfl).2
      have hlt' : (j : Int) < (n : Int) := by omega
      have hj0 : (0 : Int) ≤ (j : Int) := by omega
      clear e x0 x1 x2 x3 hgo
      have HS := hide hs
      clear hs
      go_wp2_with fail
      go_roundw
      case rel =>
        refine ⟨j + 1, by omega, by go_num, hide ?_, ?_, ?_⟩
        · have h1 := (hO.out.stored (j * 4 + 2) (.int .i64 (s.lo - k))).1
          have h2 := (h1.stored (j * 4 + 3) (.int .i64 (s.hi + k))).1
          rw [L.mix_next HS.out, flatS_set (t := L.wid k s) (L.mix_at HS.out) rfl rfl]
          exact h2
        · exact blk_other (blk_other HGO.out (Ne.symm hgo') _ _) (Ne.symm hgo') _ _
        · exact zbS (zbS hB hbg _) hbg _
      case measure => simp [intOf]; omega
    · have hjn : j = n := by omega
      subst hjn
      have kr := (hB.block (w.heap.size + 1) (by omega)).trans GR.out
      have lr : w.heap.size + 1 < wr.heap.size := by omega
      have cr0 := (blk_cell kr 0).trans rfl; have cr1 := (blk_cell kr 1).trans rfl; have cr2 := (blk_cell kr 2).trans rfl; have cr3 := (blk_cell kr 3).trans rfl; have cr4 := (blk_cell kr 4).trans rfl; have cr5 := (blk_cell kr 5).trans rfl; have cr6 := (blk_cell kr 6).trans rfl
      have fr0 := blk_frozen kr 0; have fr1 := blk_frozen kr 1; have fr2 := blk_frozen kr 2; have fr3 := blk_frozen kr 3; have fr4 := blk_frozen kr 4; have fr5 := blk_frozen kr 5; have fr6 := blk_frozen kr 6
      have KR := hide kr
      have hB0 : Below w.heap.size w wr := GB.out.trans (hB.mono (by omega))
      have HM := hide (show flatS (L.mix v.ss k j) = flatS (v.ss.map (L.wid k)) by rw [← HN.out, L.mix_all])
      clear kr
      go_wp2_with fail
      refine bodyPost_ret (v := .agg #[.int .i64 v.size, .slice A' j c', .int .i64 v.wrong, .int .i64 v.hxl, .int .i64 v.hxh, .int .i64 v.hyl, .int .i64 v.hyh]) (wider_results (blk_set (blk_set (blk_set (blk_set (blk_set (blk_set (blk_set (KR.out) 0 _) 1 _) 2 _) 3 _) 4 _) 5 _) 6 _) rfl rfl) rfl ?_
      refine ⟨A', c', rfl, ?_, ?_⟩
      · rw [← HM.out]
        exact owns_mono (ownsRow_setCell_below (ownsRow_setCell_below (ownsRow_setCell_below (ownsRow_setCell_below (ownsRow_setCell_below (ownsRow_setCell_below (ownsRow_setCell_below (hO.out) (show w.heap.size + 1 < w.heap.size + 1 + 1 by omega) _) (show w.heap.size + 1 < w.heap.size + 1 + 1 by omega) _) (show w.heap.size + 1 < w.heap.size + 1 + 1 by omega) _) (show w.heap.size + 1 < w.heap.size + 1 + 1 by omega) _) (show w.heap.size + 1 < w.heap.size + 1 + 1 by omega) _) (show w.heap.size + 1 < w.heap.size + 1 + 1 by omega) _) (show w.heap.size + 1 < w.heap.size + 1 + 1 by omega) _) (by omega)
      · exact zbS (zbS (zbS (zbS (zbS (zbS (zbS (hB0) (show w.heap.size ≤ w.heap.size + 1 by omega) _) (show w.heap.size ≤ w.heap.size + 1 by omega) _) (show w.heap.size ≤ w.heap.size + 1 by omega) _) (show w.heap.size ≤ w.heap.size + 1 by omega) _) (show w.heap.size ≤ w.heap.size + 1 by omega) _) (show w.heap.size ≤ w.heap.size + 1 by omega) _) (show w.heap.size ≤ w.heap.size + 1 by omega) _

end Go.Proofs.Ytgnobonhohfofaa

namespace Go.Proofs.Ytgnobonhohfofaa
open Go.RowKit
attribute [local go_sem ↓] Go.wp_at_zero Go.wp_at_succ

namespace L
def slackGo (v : Vw) (b : Bx) (cv : Int) : Nat → Nat → Nat
  | 0, n => n
  | f + 1, n => if callOf v b ((n : Int) + 1) = cv then slackGo v b cv f (n + 1) else n
def slackV (v : Vw) (b : Bx) : Int := if checkBE v b = 0 then (if sure (callOf v b 0) then (slackGo v b (callOf v b 0) 20 0 : Int) else if callOf v b 0 = 0 then 0 else -1) else 0
theorem slackGo_le (v : Vw) (b : Bx) (cv : Int) : ∀ f n, n ≤ slackGo v b cv f n ∧ slackGo v b cv f n ≤ n + f
  | 0, n => ⟨Nat.le_refl _, Nat.le_refl _⟩
  | f + 1, n => by
    unfold slackGo
    split
    · obtain ⟨h1, h2⟩ := slackGo_le v b cv f (n + 1); omega
    · omega
theorem slackGo_yes {v : Vw} {b : Bx} {cv : Int} {n : Nat} (hn : n < 20) (h : callOf v b ((n : Int) + 1) = cv) : slackGo v b cv (20 - n) n = slackGo v b cv (20 - (n + 1)) (n + 1) := by
  obtain ⟨d, hd⟩ : ∃ d, 20 - n = d + 1 := ⟨19 - n, by omega⟩
  have hd' : 20 - (n + 1) = d := by omega
  rw [hd, hd', slackGo, if_pos h]
theorem slackGo_no {v : Vw} {b : Bx} {cv : Int} {n : Nat} (hn : n < 20) (h : callOf v b ((n : Int) + 1) ≠ cv) : slackGo v b cv (20 - n) n = n := by
  obtain ⟨d, hd⟩ : ∃ d, 20 - n = d + 1 := ⟨19 - n, by omega⟩
  rw [hd, slackGo, if_neg h]
theorem sure_cases' {c : Int} (h : sure c = true) : c = 1 ∨ c = 2 := by
  unfold sure at h
  simpa using h
end L

set_option maxRecDepth 100000 in
set_option maxHeartbeats 3200000 in
theorem Slack_sure (v : L.Vw) (A : Option Addr) (n c : Nat) (b : L.Bx) (w : World) (hn : v.ss.length = n) (hr : RdS w w.heap.size A v.ss) (h : L.checkBE v b = 0) (hs : L.sure (L.callOf v b 0) = true) :
    Calls Try.prog 27 #[.agg #[.int .i64 v.size, .slice A n c, .int .i64 v.wrong, .int .i64 v.hxl, .int .i64 v.hxh, .int .i64 v.hyl, .int .i64 v.hyh], .agg #[.int .i64 b.l, .int .i64 b.r, .int .i64 b.b, .int .i64 b.t]] w fun e w' => e = .returned (.tuple #[.int .i64 (L.slackV v b), .int .i64 (L.callE v b)]) ∧ Below w.heap.size w w' := by
  have HN := hide hn
  have HR := hide hr
  obtain ⟨hv, hb⟩ := L.checkBE_ok h
  have HV := hide hv
  have HB := hide hb
  obtain ⟨cv, hcv⟩ : ∃ cv, L.callOf v b 0 = cv := ⟨_, rfl⟩
  have hc12 := L.sure_cases' hs
  have E1 := hide (show L.callV v b = cv by unfold L.callV; rw [if_pos h, hcv])
  have E2 := hide (show L.callE v b = 0 by unfold L.callE; rw [if_pos h, if_neg (by omega)])
  have E3 := hide (show L.slackV v b = (L.slackGo v b cv 20 0 : Int) by unfold L.slackV; rw [if_pos h, if_pos hs, hcv])
  rw [hcv] at hs hc12
  have HS := hide hs
  have HC := hide hcv
  clear hn hr hv hb h hs hcv
  go_enter Try.func27, Try.ntmps27
  go_upto_region 1 with fail
  obtain ⟨W0, hW0⟩ : ∃ W0, (w.alloc (.cells #[.int .i64 v.size, .slice A n c, .int .i64 v.wrong, .int .i64 v.hxl, .int .i64 v.hxh, .int .i64 v.hyl, .int .i64 v.hyh] 26)).alloc (.cells #[.int .i64 b.l, .int .i64 b.r, .int .i64 b.b, .int .i64 b.t] 28) = W0 := ⟨_, rfl⟩
  have gp : W0.heap[w.heap.size]? = some (.cells #[.int .i64 v.size, .slice A n c, .int .i64 v.wrong, .int .i64 v.hxl, .int .i64 v.hxh, .int .i64 v.hyl, .int .i64 v.hyh] 26 (0, 0)) := by
    rw [← hW0]; exact (Below.heap_alloc _ _ _ (by first | (simp; done) | (simp; omega) | omega)).trans (World.alloc_heap_new _ _)
  have gq : W0.heap[w.heap.size + 1]? = some (.cells #[.int .i64 b.l, .int .i64 b.r, .int .i64 b.b, .int .i64 b.t] 28 (0, 0)) := by
    rw [← hW0]; exact blk_new2
  have gs : W0.heap.size = w.heap.size + 1 + 1 := by rw [← hW0]; simp
  have gB : Below w.heap.size w W0 := by rw [← hW0]; (repeat' first | exact zbR _ _ | assumption | refine zbD ?_ | refine zbA ?_ ?_ _ | refine zbS ?_ ?_ _ | refine zbT ?_ (by assumption) ?_ | (simp; done) | (simp; omega) | omega)
  rw [hW0]
  clear hW0
  obtain ⟨p, hp⟩ : ∃ p, w.heap.size = p := ⟨_, rfl⟩
  obtain ⟨q, hq⟩ : ∃ q, w.heap.size + 1 = q := ⟨_, rfl⟩
  rw [hq, hp]
  rw [hp] at gp
  rw [hq] at gq
  have lp : p < W0.heap.size := by omega
  have lq : q < W0.heap.size := by omega
  have HR0 := hide ((HR.out.below gB).mono gB.size)
  have GB := hide gB
  have GP := hide gp
  have GQ := hide gq
  have cp0 := (blk_cell gp 0).trans rfl; have cp1 := (blk_cell gp 1).trans rfl; have cp2 := (blk_cell gp 2).trans rfl; have cp3 := (blk_cell gp 3).trans rfl; have cp4 := (blk_cell gp 4).trans rfl; have cp5 := (blk_cell gp 5).trans rfl; have cp6 := (blk_cell gp 6).trans rfl
  have cq0 := (blk_cell gq 0).trans rfl; have cq1 := (blk_cell gq 1).trans rfl; have cq2 := (blk_cell gq 2).trans rfl; have cq3 := (blk_cell gq 3).trans rfl
  clear gp gq gB gs hp hq
  go_wp2_with (first | (go_at_call 17; refine (Call_any v A n c b _ HN.out HR0.out).mono ?_; rintro e w2 ⟨rfl, hb2⟩; rw [E1.out, E2.out]; obtain ⟨hc2, hf2⟩ := bcell hb2; have q2 := hb2.size) | (go_at_call 54; refine (sure_any _ _).mono ?_; rintro e w3 ⟨rfl, rfl⟩; rw [HS.out]))
  have GP2 := hide ((hb2.block p lp).trans GP.out)
  have GQ2 := hide ((hb2.block q lq).trans GQ.out)
  have HR2 := hide ((HR0.out.below hb2).mono hb2.size)
  have GB2 := hide (GB.out.trans (hb2.mono GB.out.size))
  have lp2 : p < w2.heap.size := by omega
  have lq2 : q < w2.heap.size := by omega
  clear cp0 cp1 cp2 cp3 cp4 cp5 cp6 cq0 cq1 cq2 cq3 hc2 hf2 hb2 lp lq q2 GB GP GQ HR0
  go_loopw [8] (fun s wr => ∃ k : Nat, k ≤ 20 ∧ s = .int .i64 k ∧ Hid (L.slackGo v b cv (20 - k) k = L.slackGo v b cv 20 0) ∧ Below w2.heap.size w2 wr) (fun s _ => 20 - (intOf s).toNat)
  case atStart => exact ⟨0, by omega, rfl, hide rfl, Below.refl _ _⟩
  case round =>
    obtain ⟨k, hk, rfl, hG, hB⟩ := hrel
    have qB := hB.size
    have bp := (hB.block p lp2).trans GP2.out
    have bq := (hB.block q lq2).trans GQ2.out
    have cp0 := (blk_cell bp 0).trans rfl; have cp1 := (blk_cell bp 1).trans rfl; have cp2 := (blk_cell bp 2).trans rfl; have cp3 := (blk_cell bp 3).trans rfl; have cp4 := (blk_cell bp 4).trans rfl; have cp5 := (blk_cell bp 5).trans rfl; have cp6 := (blk_cell bp 6).trans rfl
    have cq0 := (blk_cell bq 0).trans rfl; have cq1 := (blk_cell bq 1).trans rfl; have cq2 := (blk_cell bq 2).trans rfl; have cq3 := (blk_cell bq 3).trans rfl
    have lp3 : p < wr.heap.size := by omega
    have lq3 : q < wr.heap.size := by omega
    have hk0 : (0 : Int) ≤ (k : Int) := by omega
    have HRr := hide ((HR2.out.below hB).mono qB)
    clear bp bq
    by_cases hlt : k < 20
    · have hlt' : (k : Int) < 20 := by omega
      by_cases he : L.callOf v b ((k : Int) + 1) = cv
      · have HE := hide he
        have HG := hide (L.slackGo_yes hlt he)
        clear he
        go_wp2_with (go_at_call 48; refine (callOf_any v A n c b ((k : Int) + 1) _ HV.out HB.out HN.out HRr.out (by omega) (by omega)).mono ?_; rintro e w4 ⟨rfl, hb4⟩; rw [HE.out])
        go_roundw
        case rel => exact ⟨k + 1, by omega, by go_num, hide (HG.out.symm.trans hG.out), hB.trans (hb4.mono qB)⟩
        case measure => simp [intOf]; omega
      · have hE : (L.callOf v b ((k : Int) + 1) == cv) = false := by simpa using he
        have HG := hide (L.slackGo_no hlt he)
        clear he
        go_wp2_with (go_at_call 48; refine (callOf_any v A n c b ((k : Int) + 1) _ HV.out HB.out HN.out HRr.out (by omega) (by omega)).mono ?_; rintro e w4 ⟨rfl, hb4⟩)
        go_ret2
        exact ⟨by rw [E2.out, E3.out, ← hG.out, HG.out]; rfl, (GB2.out.trans (hB.mono GB2.out.size)).trans (hb4.mono (by have := GB2.out.size; omega))⟩
    · have hk20 : k = 20 := by omega
      subst hk20
      go_wp2_with fail
      go_ret2
      exact ⟨by rw [E2.out, E3.out, ← hG.out]; rfl, GB2.out.trans (hB.mono GB2.out.size)⟩

set_option maxRecDepth 100000 in
set_option maxHeartbeats 3200000 in
theorem Slack_any (v : L.Vw) (A : Option Addr) (n c : Nat) (b : L.Bx) (w : World) (hn : v.ss.length = n) (hr : RdS w w.heap.size A v.ss) :
    Calls Try.prog 27 #[.agg #[.int .i64 v.size, .slice A n c, .int .i64 v.wrong, .int .i64 v.hxl, .int .i64 v.hxh, .int .i64 v.hyl, .int .i64 v.hyh], .agg #[.int .i64 b.l, .int .i64 b.r, .int .i64 b.b, .int .i64 b.t]] w fun e w' => e = .returned (.tuple #[.int .i64 (L.slackV v b), .int .i64 (L.callE v b)]) ∧ Below w.heap.size w w' := by
  by_cases h : L.checkBE v b = 0
  · cases hs : L.sure (L.callOf v b 0)
    · have HN := hide hn
      have HR := hide hr
      have E1 := hide (show L.callV v b = L.callOf v b 0 by unfold L.callV; rw [if_pos h])
      by_cases h0 : L.callOf v b 0 = 0
      · have E2 := hide (show L.callE v b = 3 by unfold L.callE; rw [if_pos h, if_pos h0])
        have E3 := hide (show L.slackV v b = 0 by unfold L.slackV; rw [if_pos h, if_neg (by rw [hs]; decide), if_pos h0])
        clear hn hr h hs h0
        go_enter Try.func27, Try.ntmps27
        go_wp2_with (go_at_call 17; refine (Call_any v A n c b _ HN.out ((HR.out.below (by (repeat' first | exact zbR _ _ | assumption | refine zbD ?_ | refine zbA ?_ ?_ _ | refine zbS ?_ ?_ _ | refine zbT ?_ (by assumption) ?_ | (simp; done) | (simp; omega) | omega))).mono (by first | (simp; done) | (simp; omega) | omega))).mono ?_; rintro e w2 ⟨rfl, hb2⟩; rw [E2.out])
        go_ret2
        exact ⟨by rw [E2.out, E3.out]; rfl, by (repeat' first | exact zbR _ _ | assumption | refine zbD ?_ | refine zbA ?_ ?_ _ | refine zbS ?_ ?_ _ | refine zbT ?_ (by assumption) ?_ | (simp; done) | (simp; omega) | omega)⟩
      · have E2 := hide (show L.callE v b = 0 by unfold L.callE; rw [if_pos h, if_neg h0])
        have E3 := hide (show L.slackV v b = -1 by unfold L.slackV; rw [if_pos h, if_neg (by rw [hs]; decide), if_neg h0])
        have HS := hide hs
        clear hn hr h hs h0
        go_enter Try.func27, Try.ntmps27
        go_wp2_with (first | (go_at_call 17; refine (Call_any v A n c b _ HN.out ((HR.out.below (by (repeat' first | exact zbR _ _ | assumption | refine zbD ?_ | refine zbA ?_ ?_ _ | refine zbS ?_ ?_ _ | refine zbT ?_ (by assumption) ?_ | (simp; done) | (simp; omega) | omega))).mono (by first | (simp; done) | (simp; omega) | omega))).mono ?_; rintro e w2 ⟨rfl, hb2⟩; rw [E1.out, E2.out]; obtain ⟨hc2, hf2⟩ := bcell hb2; have q2 := hb2.size; (try simp only [World.size_alloc] at q2); have z2_0 : w.heap.size < w2.heap.size := (by omega); have z2_1 : w.heap.size + 1 < w2.heap.size := (by omega)) | (go_at_call 54; refine (sure_any _ _).mono ?_; rintro e w3 ⟨rfl, rfl⟩; rw [HS.out]))
        go_ret2
        exact ⟨by rw [E2.out, E3.out]; rfl, by (repeat' first | exact zbR _ _ | assumption | refine zbD ?_ | refine zbA ?_ ?_ _ | refine zbS ?_ ?_ _ | refine zbT ?_ (by assumption) ?_ | (simp; done) | (simp; omega) | omega)⟩
    · exact Slack_sure v A n c b w hn hr h hs
  · have HN := hide hn
    have HR := hide hr
    have E2 := hide (show L.callE v b = L.checkBE v b by unfold L.callE; rw [if_neg h])
    have E3 := hide (show L.slackV v b = 0 by unfold L.slackV; rw [if_neg h])
    have HE := L.checkBE_cases v b
    clear hn hr
    obtain ⟨k, hk⟩ : ∃ k, L.checkBE v b = k := ⟨_, rfl⟩
    rw [hk] at h HE E2
    rcases HE with rfl | rfl | rfl
    · exact (h rfl).elim
    all_goals
      clear h hk
      go_enter Try.func27, Try.ntmps27
      go_wp2_with (go_at_call 17; refine (Call_any v A n c b _ HN.out ((HR.out.below (by (repeat' first | exact zbR _ _ | assumption | refine zbD ?_ | refine zbA ?_ ?_ _ | refine zbS ?_ ?_ _ | refine zbT ?_ (by assumption) ?_ | (simp; done) | (simp; omega) | omega))).mono (by first | (simp; done) | (simp; omega) | omega))).mono ?_; rintro e w2 ⟨rfl, hb2⟩; rw [E2.out])
      go_ret2
      exact ⟨by rw [E2.out, E3.out]; rfl, by (repeat' first | exact zbR _ _ | assumption | refine zbD ?_ | refine zbA ?_ ?_ _ | refine zbS ?_ ?_ _ | refine zbT ?_ (by assumption) ?_ | (simp; done) | (simp; omega) | omega)⟩

end Go.Proofs.Ytgnobonhohfofaa

namespace Go.Proofs.Ytgnobonhohfofaa
namespace L

theorem off_wid (x y k d : Int) (s : St) : off x y d (wid k s) = off x y (k + d) s := by
  unfold off wid
  rw [show s.lo - k - d = s.lo - (k + d) by omega, show s.hi + k + d = s.hi + (k + d) by omega]
theorem many_wid (ss : List St) (x y k d : Int) : many (ss.map (wid k)) x y d = many ss x y (k + d) := by
  unfold many
  rw [List.filter_map, List.length_map]
  congr 1
  exact List.filter_congr fun s _ => off_wid x y k d s
theorem okAt_wid (v : Vw) (k d : Int) (c : Int × Int) : okAt (wider v k) d c = okAt v (k + d) c := by
  unfold okAt wider
  rw [many_wid]
theorem tcents_wid (v : Vw) (k d : Int) : tcents (wider v k) d = tcents v (k + d) := by
  unfold tcents
  exact List.filter_congr fun c _ => okAt_wid v k d c
theorem hitAt_wid (v : Vw) (k : Int) (b : Bx) (call : Int) (c : Int × Int) : hitAt (wider v k) b call c = hitAt v b call c := rfl
theorem findC_wid (v : Vw) (k d : Int) (b : Bx) (call : Int) : findC (wider v k) b d call = findC v b (k + d) call := by
  unfold findC
  rw [tcents_wid]
  rfl
theorem callOf_wid (v : Vw) (k d : Int) (b : Bx) : callOf (wider v k) b d = callOf v b (k + d) := by
  unfold callOf
  rw [findC_wid, findC_wid]
theorem off_mono {x y k d : Int} {s : St} (h : k ≤ d) (ho : off x y d s = true) : off x y k s = true := by
  unfold off within at ho ⊢
  simp only [Bool.not_eq_true', Bool.and_eq_false_iff, decide_eq_false_iff_not] at ho ⊢
  omega
theorem many_mono {ss : List St} {x y k d : Int} (h : k ≤ d) : many ss x y d ≤ many ss x y k := by
  unfold many
  induction ss with
  | nil => simp
  | cons s r ih =>
    simp only [List.filter_cons]
    cases h1 : off x y d s
    · cases h2 : off x y k s
      · simpa using ih
      · simp only [Bool.false_eq_true, if_false, if_true, List.length_cons]; omega
    · rw [off_mono h h1]; simpa using ih
theorem tcents_mono {v : Vw} {k d : Int} (h : k ≤ d) {c : Int × Int} (hc : c ∈ tcents v k) : c ∈ tcents v d := by
  unfold tcents okAt at hc ⊢
  rw [List.mem_filter, decide_eq_true_eq] at hc ⊢
  have := many_mono (ss := v.ss) (x := c.1) (y := c.2) h
  exact ⟨hc.1, by omega⟩
theorem callOf_mono {v : Vw} (hv : VwOk v) {b : Bx} {k d : Int} (h : k ≤ d) (h0 : callOf v b k ≠ 0) : callOf v b d ≠ 0 := by
  intro he
  rw [call_zero hv] at he
  cases ht : tcents v k with
  | nil => exact h0 ((call_zero hv b k).2 ht)
  | cons c r =>
    have := tcents_mono h (show c ∈ tcents v k by rw [ht]; simp)
    rw [he] at this
    cases this
theorem slackGo_spec (v : Vw) (b : Bx) (cv : Int) : ∀ (f n : Nat), callOf v b (n : Int) = cv → callOf v b (slackGo v b cv f n : Int) = cv ∧ (slackGo v b cv f n < n + f → callOf v b ((slackGo v b cv f n : Int) + 1) ≠ cv)
  | 0, n, h => ⟨h, fun h' => by unfold slackGo at h'; omega⟩
  | f + 1, n, h => by
    unfold slackGo
    split
    · rename_i h1
      have ih := slackGo_spec v b cv f (n + 1) (by rw [show ((n + 1 : Nat) : Int) = (n : Int) + 1 by omega]; exact h1)
      exact ⟨ih.1, fun h' => ih.2 (by omega)⟩
    · rename_i h1
      exact ⟨h, fun _ => h1⟩
theorem wider_ok {v : Vw} (hv : viewB v = true) {k : Int} (h0 : 0 ≤ k) (h1 : k ≤ 100) (hb : ∀ s ∈ v.ss, -400 ≤ s.lo ∧ s.hi ≤ 400) : viewB (wider v k) = true := by
  unfold viewB wider at *
  rw [Bool.and_eq_true] at hv ⊢
  refine ⟨by simpa [headB] using hv.1, ?_⟩
  rw [List.all_eq_true] at hv ⊢
  intro s hs
  obtain ⟨t, ht, rfl⟩ := List.mem_map.1 hs
  have h2 := hv.2 t ht
  have h3 := hb t ht
  unfold stripB wid spanIn at *
  simp only [Bool.and_eq_true, decide_eq_true_eq] at h2 ⊢
  obtain ⟨⟨⟨a, b⟩, c⟩, ⟨d, e⟩, f⟩ := h2
  exact ⟨⟨⟨a, b⟩, c⟩, ⟨by omega, by omega⟩, by omega⟩
structure SlackOk (v : Vw) (b : Bx) (cv : Int) (N : Nat) : Prop where
  n20 : N ≤ 20
  own : callV v b = cv
  err : callE v b = 0
  slk : slackV v b = (N : Int)
  v1 : callV (wider v (N : Int)) b = cv
  e1 : callE (wider v (N : Int)) b = 0
  e2 : callE (wider v ((N : Int) + 1)) b = 0
  v2 : N = 20 ∨ callV (wider v ((N : Int) + 1)) b ≠ cv
theorem slack_ok {v : Vw} {b : Bx} (hv : viewB v = true) (hb : boxB b = true) (hs : sure (callOf v b 0) = true) (hr : ∀ s ∈ v.ss, -400 ≤ s.lo ∧ s.hi ≤ 400) : ∃ N, SlackOk v b (callOf v b 0) N := by
  have hc := checkBE_yes hv hb
  have hk := viewB_ok hv
  have h12 := sure_cases' hs
  obtain ⟨N, hN⟩ : ∃ N, slackGo v b (callOf v b 0) 20 0 = N := ⟨_, rfl⟩
  have hle := slackGo_le v b (callOf v b 0) 20 0
  have hsp := slackGo_spec v b (callOf v b 0) 20 0 rfl
  rw [hN] at hle hsp
  have w1 := checkBE_yes (wider_ok hv (k := (N : Int)) (by omega) (by omega) hr) hb
  have w2 := checkBE_yes (wider_ok hv (k := (N : Int) + 1) (by omega) (by omega) hr) hb
  have z1 : callOf v b (N : Int) ≠ 0 := by rw [hsp.1]; omega
  have z2 : callOf v b ((N : Int) + 1) ≠ 0 := callOf_mono hk (by omega) z1
  refine ⟨N, by omega, callV_ok hc, by rw [callE_ok hc, if_neg (by omega)], ?_, ?_, ?_, ?_, ?_⟩
  · unfold slackV; rw [if_pos hc, if_pos hs, hN]
  · rw [callV_ok w1, callOf_wid, Int.add_zero]; exact hsp.1
  · rw [callE_ok w1, callOf_wid, Int.add_zero, if_neg z1]
  · rw [callE_ok w2, callOf_wid, Int.add_zero, if_neg z2]
  · rcases Nat.lt_or_ge N 20 with h | h
    · exact .inr (by rw [callV_ok w2, callOf_wid, Int.add_zero]; exact hsp.2 (by omega))
    · exact .inl (by omega)
end L
end Go.Proofs.Ytgnobonhohfofaa

namespace Go.Proofs.Ytgnobonhohfofaa
namespace L

structure Lss (v o : Vw) : Prop where
  size : o.size = v.size
  wrong : v.wrong ≤ o.wrong
  xl : o.hxl ≤ v.hxl
  xh : v.hxh ≤ o.hxh
  yl : o.hyl ≤ v.hyl
  yh : v.hyh ≤ o.hyh
  many : ∀ x y, many o.ss x y 0 ≤ many v.ss x y 0

theorem lss_okAt {v o : Vw} (h : Lss v o) {c : Int × Int} (hc : okAt v 0 c = true) : okAt o 0 c = true := by
  unfold okAt at hc ⊢
  rw [decide_eq_true_eq] at hc ⊢
  have h1 := h.wrong
  have h2 := h.many c.1 c.2
  omega
theorem filter_len {α : Type} {p q : α → Bool} : ∀ (l : List α), (∀ a ∈ l, p a = true → q a = true) → (l.filter p).length ≤ (l.filter q).length
  | [], _ => by simp
  | a :: l, h => by
    have ih := filter_len (p := p) (q := q) l (fun b hb => h b (List.mem_cons_of_mem _ hb))
    have ha := h a (by simp)
    simp only [List.filter_cons]
    cases hp : p a
    · cases hq : q a
      · simpa using ih
      · simp only [Bool.false_eq_true, if_false, if_true, List.length_cons]; omega
    · rw [ha hp]; simpa using ih
theorem lss_mem {v o : Vw} (h : Lss v o) {c : Int × Int} (hc : c ∈ tcents v 0) : c ∈ tcents o 0 := by
  unfold tcents at hc ⊢
  rw [List.mem_filter] at hc ⊢
  rw [h.size]
  exact ⟨hc.1, lss_okAt h hc.2⟩
theorem lss_len {v o : Vw} (h : Lss v o) : (tcents v 0).length ≤ (tcents o 0).length := by
  unfold tcents
  rw [h.size]
  exact filter_len _ fun c _ => lss_okAt h
theorem lss_in {v o : Vw} (hv : VwOk v) (h : Lss v o) {b : Bx} (hi : inAt' v b 0) : inAt' o b 0 := by
  obtain ⟨c, hc, ht⟩ := hi
  exact ⟨c, lss_mem h hc, touch_axes (by have := hv.x0; have := hv.xx; omega) (by have := hv.y0; have := hv.yy; omega) h.xh h.yh ht⟩
theorem lss_out {v o : Vw} (ho : VwOk o) (h : Lss v o) {b : Bx} (hi : outAt' v b 0) : outAt' o b 0 := by
  obtain ⟨c, hc, ht⟩ := hi
  refine ⟨c, lss_mem h hc, ?_⟩
  cases hl : touch ⟨c.1, c.2, o.hxl, o.hyl⟩ b
  · rfl
  · have := touch_axes (P := v.hxl) (Q := v.hyl) ho.x0 ho.y0 h.xl h.yl hl
    rw [ht] at this
    cases this
structure LssOk (v o : Vw) (b : Bx) : Prop where
  e1 : callE v b = cenE v
  e2 : callE o b = cenE o
  e3 : callE v b = 0 → callE o b = 0
  a : cenN v ≤ cenN o
  r : callE v b = 0 → callV o b = callV v b ∨ callV o b = 3
theorem err_cen {v : Vw} {b : Bx} (hv : viewB v = true) (hb : boxB b = true) : callE v b = cenE v := by
  have hc := checkBE_yes hv hb
  have hz := call_zero (viewB_ok hv) b 0
  have hk : checkE v = 0 := by unfold checkE; rw [hv]; rfl
  rw [callE_ok hc]
  unfold cenE
  rw [if_pos hk]
  by_cases h : tcents v 0 = []
  · rw [if_pos h, if_pos (hz.2 h)]
  · rw [if_neg h, if_neg (fun e => h (hz.1 e))]
theorem lss_ok {v o : Vw} {b : Bx} (hv : viewB v = true) (ho : viewB o = true) (hb : boxB b = true) (h : Lss v o) : LssOk v o b := by
  have kv := viewB_ok hv
  have ko := viewB_ok ho
  have cv := checkBE_yes hv hb
  have co := checkBE_yes ho hb
  have tr : callOf v b 0 ≠ 0 → callOf o b 0 ≠ 0 := fun h1 h2 => by
    rw [call_zero ko] at h2
    cases ht : tcents v 0 with
    | nil => exact h1 ((call_zero kv b 0).2 ht)
    | cons c r =>
      have := lss_mem h (show c ∈ tcents v 0 by rw [ht]; simp)
      rw [h2] at this
      cases this
  have hi := fun x => lss_in (b := b) kv h x
  have hou := fun x => lss_out (b := b) ko h x
  refine ⟨err_cen hv hb, err_cen ho hb, ?_, ?_, ?_⟩
  · rw [callE_ok cv, callE_ok co]
    intro h1
    have h0 : callOf v b 0 ≠ 0 := fun e => by rw [if_pos e] at h1; omega
    rw [if_neg (tr h0)]
  · have hk : checkE v = 0 := by unfold checkE; rw [hv]; rfl
    have hl : checkE o = 0 := by unfold checkE; rw [ho]; rfl
    unfold cenN
    rw [if_pos hk, if_pos hl]
    have := lss_len h
    omega
  · intro h1
    rw [callE_ok cv] at h1
    have h0 : callOf v b 0 ≠ 0 := fun e => by rw [if_pos e] at h1; omega
    rw [callV_ok cv, callV_ok co]
    have t := tr h0
    rcases call_cases v b 0 with ⟨e, a1, a2⟩ | ⟨e, a1, a2⟩ | ⟨e, a1, a2⟩ | ⟨e, a1, a2⟩ <;> rcases call_cases o b 0 with ⟨e', b1, b2⟩ | ⟨e', b1, b2⟩ | ⟨e', b1, b2⟩ | ⟨e', b1, b2⟩ <;> first | (left; omega) | (right; omega) | exact (h0 e).elim | exact (t e').elim | exact (b1 (hi a1)).elim | exact (b2 (hou a2)).elim

def lessOf (v : Vw) (wr k ax wo : Int) : Vw :=
  { size := v.size, ss := if 0 ≤ wo ∧ wo < (v.ss.length : Int) then ((v.ss.map (wid k)).take wo.toNat ++ (v.ss.map (wid k)).drop (wo.toNat + 1)) else v.ss.map (wid k),
    wrong := min 3 (v.wrong + wr), hxl := max 1 (v.hxl - ax), hxh := min 5 (v.hxh + ax), hyl := max 1 (v.hyl - ax), hyh := min 5 (v.hyh + ax) }
theorem lessOf_lss {v : Vw} (hv : VwOk v) (hx : v.hxh ≤ 5) (hy : v.hyh ≤ 5) {wr k ax wo : Int} (h1 : 0 ≤ wr) (h2 : 0 ≤ k) (h3 : 0 ≤ ax) : Lss v (lessOf v wr k ax wo) := by
  have a1 := hv.w1
  have a2 := hv.x0
  have a3 := hv.y0
  refine ⟨rfl, ?_, ?_, ?_, ?_, ?_, ?_⟩
  · show v.wrong ≤ min 3 (v.wrong + wr); omega
  · show max 1 (v.hxl - ax) ≤ v.hxl; omega
  · show v.hxh ≤ min 5 (v.hxh + ax); omega
  · show max 1 (v.hyl - ax) ≤ v.hyl; omega
  · show v.hyh ≤ min 5 (v.hyh + ax); omega
  · intro x y
    have hm : many (v.ss.map (wid k)) x y 0 ≤ many v.ss x y 0 := by
      rw [many_wid]
      exact many_mono (by omega)
    show many (if 0 ≤ wo ∧ wo < (v.ss.length : Int) then _ else _) x y 0 ≤ _
    split
    · refine Nat.le_trans ?_ hm
      generalize v.ss.map (wid k) = l
      unfold many
      refine List.Sublist.length_le (List.Sublist.filter _ ?_)
      conv => rhs; rw [← List.take_append_drop wo.toNat l]
      exact List.Sublist.append (List.Sublist.refl _) (List.drop_sublist_drop_left _ (by omega))
    · exact hm
end L
end Go.Proofs.Ytgnobonhohfofaa

namespace Go.Proofs.Ytgnobonhohfofaa
namespace L

def trS (s : St) : St := ⟨s.q, s.p, s.lo, s.hi⟩
def trV (v : Vw) : Vw := ⟨v.size, v.ss.map trS, v.wrong, v.hyl, v.hyh, v.hxl, v.hxh⟩
def trX (b : Bx) : Bx := ⟨b.b, b.t, b.l, b.r⟩
def miS (n : Int) (s : St) : St := ⟨-s.p, s.q, s.lo - s.p * n, s.hi - s.p * n⟩
def miV (v : Vw) : Vw := ⟨v.size, v.ss.map (miS v.size), v.wrong, v.hxl, v.hxh, v.hyl, v.hyh⟩
def miX (n : Int) (b : Bx) : Bx := ⟨n - b.r, n - b.l, b.b, b.t⟩

theorem off_tr (x y k : Int) (s : St) : off y x k (trS s) = off x y k s := by
  unfold off trS
  dsimp only
  rw [Int.add_comm]
theorem many_map {f : St → St} {x y a b k : Int} (h : ∀ s, off a b k (f s) = off x y k s) (ss : List St) : many (ss.map f) a b k = many ss x y k := by
  unfold many
  rw [List.filter_map, List.length_map]
  congr 1
  exact List.filter_congr fun s _ => h s
theorem okAt_tr (v : Vw) (k x y : Int) : okAt (trV v) k (y, x) = okAt v k (x, y) := by
  unfold okAt trV
  dsimp only
  rw [many_map (off_tr x y k)]
theorem touch_tr (x y p q : Int) (b : Bx) : touch ⟨y, x, q, p⟩ (trX b) = touch ⟨x, y, p, q⟩ b := by
  unfold touch trX
  dsimp only
  rw [Int.add_comm, Int.mul_comm q p]
theorem off_mi (n x y k : Int) (s : St) : off (n - x) y k (miS n s) = off x y k s := by
  unfold off miS
  dsimp only
  have e : -s.p * (n - x) + s.q * y = s.p * x + s.q * y - s.p * n := by
    rw [Int.mul_sub, Int.neg_mul, Int.neg_mul]; omega
  rw [e]
  unfold within
  congr 1
  rw [Bool.eq_iff_iff]
  simp only [Bool.and_eq_true, decide_eq_true_eq]
  omega
theorem okAt_mi (v : Vw) (k x y : Int) : okAt (miV v) k (v.size - x, y) = okAt v k (x, y) := by
  unfold okAt miV
  dsimp only
  rw [many_map (off_mi v.size x y k)]
theorem touch_mi (n x y p q : Int) (b : Bx) : touch ⟨n - x, y, p, q⟩ (miX n b) = touch ⟨x, y, p, q⟩ b := by
  unfold touch miX
  dsimp only
  have e : far (n - x) (n - b.r) (n - b.l) = far x b.l b.r := by unfold far; omega
  rw [e]

theorem callOf_eq {v o : Vw} {b d : Bx} {k : Int} (hi : inAt' v b k ↔ inAt' o d k) (ho : outAt' v b k ↔ outAt' o d k) : callOf o d k = callOf v b k := by
  rcases call_cases v b k with ⟨e, a1, a2⟩ | ⟨e, a1, a2⟩ | ⟨e, a1, a2⟩ | ⟨e, a1, a2⟩ <;> rcases call_cases o d k with ⟨e', b1, b2⟩ | ⟨e', b1, b2⟩ | ⟨e', b1, b2⟩ | ⟨e', b1, b2⟩ <;> first | omega | exact (b1 (hi.1 a1)).elim | exact (b2 (ho.1 a2)).elim | exact (a1 (hi.2 b1)).elim | exact (a2 (ho.2 b2)).elim
theorem mem_tc {v : Vw} (h0 : 0 ≤ v.size) {c : Int × Int} {k : Int} : c ∈ tcents v k ↔ (0 ≤ c.1 ∧ c.1 ≤ v.size ∧ 0 ≤ c.2 ∧ c.2 ≤ v.size) ∧ okAt v k c = true := by
  unfold tcents
  rw [List.mem_filter]
  constructor
  · rintro ⟨h, h'⟩
    obtain ⟨a, b, c, d⟩ := mem_cents h
    exact ⟨⟨a, by omega, c, by omega⟩, h'⟩
  · rintro ⟨⟨a, b, c, d⟩, h'⟩
    exact ⟨cents_mem a (by omega) c (by omega), h'⟩
theorem mem_tr {v : Vw} (h0 : 0 ≤ v.size) {x y k : Int} : (y, x) ∈ tcents (trV v) k ↔ (x, y) ∈ tcents v k := by
  rw [mem_tc (v := trV v) h0, mem_tc h0, okAt_tr]
  show (0 ≤ y ∧ y ≤ v.size ∧ 0 ≤ x ∧ x ≤ v.size) ∧ _ ↔ (0 ≤ x ∧ x ≤ v.size ∧ 0 ≤ y ∧ y ≤ v.size) ∧ _
  constructor <;> (rintro ⟨⟨a, b, c, d⟩, e⟩; exact ⟨⟨c, d, a, b⟩, e⟩)
theorem mem_mi {v : Vw} (h0 : 0 ≤ v.size) {x y k : Int} : (v.size - x, y) ∈ tcents (miV v) k ↔ (x, y) ∈ tcents v k := by
  rw [mem_tc (v := miV v) h0, mem_tc h0, okAt_mi]
  show (0 ≤ v.size - x ∧ v.size - x ≤ v.size ∧ 0 ≤ y ∧ y ≤ v.size) ∧ _ ↔ (0 ≤ x ∧ x ≤ v.size ∧ 0 ≤ y ∧ y ≤ v.size) ∧ _
  constructor <;> (rintro ⟨⟨a, b, c, d⟩, e⟩; exact ⟨⟨by omega, by omega, c, d⟩, e⟩)
theorem callOf_tr {v : Vw} (h0 : 0 ≤ v.size) (b : Bx) (k : Int) : callOf (trV v) (trX b) k = callOf v b k := by
  refine callOf_eq ⟨?_, ?_⟩ ⟨?_, ?_⟩
  · rintro ⟨⟨x, y⟩, hc, ht⟩; exact ⟨(y, x), (mem_tr h0).2 hc, (touch_tr x y v.hxh v.hyh b).trans ht⟩
  · rintro ⟨⟨y, x⟩, hc, ht⟩; exact ⟨(x, y), (mem_tr h0).1 hc, (touch_tr x y v.hxh v.hyh b).symm.trans ht⟩
  · rintro ⟨⟨x, y⟩, hc, ht⟩; exact ⟨(y, x), (mem_tr h0).2 hc, (touch_tr x y v.hxl v.hyl b).trans ht⟩
  · rintro ⟨⟨y, x⟩, hc, ht⟩; exact ⟨(x, y), (mem_tr h0).1 hc, (touch_tr x y v.hxl v.hyl b).symm.trans ht⟩
theorem callOf_mi {v : Vw} (h0 : 0 ≤ v.size) (b : Bx) (k : Int) : callOf (miV v) (miX v.size b) k = callOf v b k := by
  have back : ∀ x : Int, v.size - (v.size - x) = x := fun x => by omega
  refine callOf_eq ⟨?_, ?_⟩ ⟨?_, ?_⟩
  · rintro ⟨⟨x, y⟩, hc, ht⟩; exact ⟨(v.size - x, y), (mem_mi h0).2 hc, (touch_mi v.size x y v.hxh v.hyh b).trans ht⟩
  · rintro ⟨⟨x, y⟩, hc, ht⟩
    refine ⟨(v.size - x, y), (mem_mi h0).1 (by rw [back]; exact hc), ?_⟩
    have := touch_mi v.size (v.size - x) y v.hxh v.hyh b
    rw [back] at this
    exact this.symm.trans ht
  · rintro ⟨⟨x, y⟩, hc, ht⟩; exact ⟨(v.size - x, y), (mem_mi h0).2 hc, (touch_mi v.size x y v.hxl v.hyl b).trans ht⟩
  · rintro ⟨⟨x, y⟩, hc, ht⟩
    refine ⟨(v.size - x, y), (mem_mi h0).1 (by rw [back]; exact hc), ?_⟩
    have := touch_mi v.size (v.size - x) y v.hxl v.hyl b
    rw [back] at this
    exact this.symm.trans ht

def row (f : Nat → Nat → Nat) (x : Nat) : Nat → Nat
  | 0 => 0
  | n + 1 => row f x n + f x n
def rect (f : Nat → Nat → Nat) (n : Nat) : Nat → Nat
  | 0 => 0
  | m + 1 => rect f n m + row f m n
theorem rect_zero (f : Nat → Nat → Nat) : ∀ m, rect f 0 m = 0
  | 0 => rfl
  | m + 1 => by rw [rect, rect_zero f m]; rfl
theorem rect_next (f : Nat → Nat → Nat) (n : Nat) : ∀ m, rect f (n + 1) m = rect f n m + row (fun a b => f b a) n m
  | 0 => rfl
  | m + 1 => by
    have ih := rect_next f n m
    simp only [rect, row] at ih ⊢
    omega
theorem rect_turn (f : Nat → Nat → Nat) (m : Nat) : ∀ n, rect f n m = rect (fun a b => f b a) m n
  | 0 => by rw [rect_zero]; rfl
  | n + 1 => by rw [rect_next, rect_turn f m n]; rfl
theorem row_len (p : Int × Int → Bool) (x : Nat) : ∀ n, (((List.range n).map fun (y : Nat) => ((x : Int), (y : Int))).filter p).length = row (fun a b => if p ((a : Int), (b : Int)) then 1 else 0) x n
  | 0 => rfl
  | n + 1 => by
    rw [List.range_succ, List.map_append, List.filter_append, List.length_append, row_len p x n]
    show _ + _ = row _ x n + _
    congr 1
    cases h : p ((x : Int), (n : Int)) <;> simp [List.filter_cons, h]
theorem rect_len (p : Int × Int → Bool) (n : Nat) : ∀ m, (((List.range m).flatMap fun (x : Nat) => (List.range n).map fun (y : Nat) => ((x : Int), (y : Int))).filter p).length = rect (fun a b => if p ((a : Int), (b : Int)) then 1 else 0) n m
  | 0 => rfl
  | m + 1 => by
    rw [List.range_succ, List.flatMap_append, List.filter_append, List.length_append, rect_len p n m]
    show _ + _ = rect _ n m + _
    congr 1
    rw [← row_len]
    simp
theorem tcents_tr (v : Vw) (k : Int) : (tcents (trV v) k).length = (tcents v k).length := by
  have e : ∀ a b : Nat, okAt (trV v) k ((b : Int), (a : Int)) = okAt v k ((a : Int), (b : Int)) := fun a b => okAt_tr v k a b
  unfold tcents cents
  rw [rect_len, rect_len, rect_turn]
  simp only [e]
  rfl

theorem trB_ok {v : Vw} (hv : viewB v = true) : viewB (trV v) = true := by
  unfold viewB at hv ⊢
  rw [Bool.and_eq_true] at hv ⊢
  refine ⟨?_, ?_⟩
  · have h := hv.1
    unfold headB trV at *
    simp only [Bool.and_eq_true, List.length_map] at h ⊢
    exact ⟨⟨⟨h.1.1.1, h.1.2⟩, h.1.1.2⟩, h.2⟩
  · have h := hv.2
    rw [List.all_eq_true] at h ⊢
    intro s hs
    obtain ⟨t, ht, rfl⟩ := List.mem_map.1 hs
    have h2 := h t ht
    unfold stripB trS at *
    simp only [Bool.and_eq_true, Bool.or_eq_true] at h2 ⊢
    exact ⟨⟨⟨h2.1.1.2, h2.1.1.1⟩, h2.1.2.symm⟩, h2.2⟩
theorem trX_ok {b : Bx} (hb : boxB b = true) : boxB (trX b) = true := by
  unfold boxB trX at *
  rw [Bool.and_eq_true] at hb ⊢
  exact hb.symm
theorem miX_ok {n : Int} {b : Bx} (h1 : n ≤ 40) (hr : b.r ≤ n) (hb : boxB b = true) : boxB (miX n b) = true := by
  unfold boxB miX spanIn at *
  simp only [Bool.and_eq_true, decide_eq_true_eq] at hb ⊢
  omega
structure TrOk (v : Vw) (b : Bx) : Prop where
  m : callV (trV v) (trX b) = callV v b
  e : callE (trV v) (trX b) = callE v b
  a : cenN (trV v) = cenN v
  g : cenE (trV v) = cenE v
theorem tr_ok {v : Vw} {b : Bx} (hv : viewB v = true) (hb : boxB b = true) : TrOk v b := by
  have h0 := (viewB_ok hv).s0
  have c1 := checkBE_yes hv hb
  have c2 := checkBE_yes (trB_ok hv) (trX_ok hb)
  have e1 : callE (trV v) (trX b) = callE v b := by rw [callE_ok c1, callE_ok c2, callOf_tr h0]
  refine ⟨by rw [callV_ok c1, callV_ok c2, callOf_tr h0], e1, ?_, ?_⟩
  · have k1 : checkE v = 0 := by unfold checkE; rw [hv]; rfl
    have k2 : checkE (trV v) = 0 := by unfold checkE; rw [trB_ok hv]; rfl
    unfold cenN
    rw [if_pos k1, if_pos k2, tcents_tr]
  · rw [← err_cen (trB_ok hv) (trX_ok hb), ← err_cen hv hb, e1]
structure MiOk (v : Vw) (b : Bx) : Prop where
  m : callV (miV v) (miX v.size b) = callV v b
  e : callE (miV v) (miX v.size b) = callE v b
  s : slackV (miV v) (miX v.size b) = slackV v b
theorem slackGo_eq {v o : Vw} {b d : Bx} (h : ∀ k, callOf o d k = callOf v b k) (cv : Int) : ∀ f n, slackGo o d cv f n = slackGo v b cv f n
  | 0, n => rfl
  | f + 1, n => by unfold slackGo; rw [h, slackGo_eq h cv f]
theorem mi_ok {v : Vw} {b : Bx} (hv : viewB v = true) (hb : boxB b = true) (hr : b.r ≤ v.size) (hm : viewB (miV v) = true) : MiOk v b := by
  have h0 := (viewB_ok hv).s0
  have c1 := checkBE_yes hv hb
  have c2 := checkBE_yes hm (miX_ok (viewB_ok hv).s1 hr hb)
  refine ⟨by rw [callV_ok c1, callV_ok c2, callOf_mi h0], by rw [callE_ok c1, callE_ok c2, callOf_mi h0], ?_⟩
  unfold slackV
  rw [if_pos c1, if_pos c2, callOf_mi h0, slackGo_eq (fun k => callOf_mi h0 b k)]
end L
end Go.Proofs.Ytgnobonhohfofaa

namespace Go.Proofs.Ytgnobonhohfofaa
open Go.RowKit
attribute [local go_sem ↓] Go.wp_at_zero Go.wp_at_succ

namespace L
def mapTo (f : St → St) (ss : List St) (i : Nat) : List St := (ss.take i).map f ++ ss.drop i
theorem mapTo_zero (f : St → St) (ss : List St) : mapTo f ss 0 = ss := by unfold mapTo; simp
theorem mapTo_all (f : St → St) (ss : List St) : mapTo f ss ss.length = ss.map f := by unfold mapTo; simp
theorem mapTo_length (f : St → St) (ss : List St) (i : Nat) : (mapTo f ss i).length = ss.length := by unfold mapTo; simp; omega
theorem mapTo_at {f : St → St} {ss : List St} {i : Nat} {s : St} (h : ss[i]? = some s) : (mapTo f ss i)[i]? = some s := by
  have hl : i < ss.length := (List.getElem?_eq_some_iff.1 h).1
  unfold mapTo
  rw [List.getElem?_append_right (by simp; omega), List.length_map, List.length_take, Nat.min_eq_left (by omega), Nat.sub_self, List.getElem?_drop, Nat.add_zero]
  exact h
theorem mapTo_next {f : St → St} {ss : List St} {i : Nat} {s : St} (h : ss[i]? = some s) : mapTo f ss (i + 1) = (mapTo f ss i).set i (f s) := by
  have hl : i < ss.length := (List.getElem?_eq_some_iff.1 h).1
  have h1 : ((ss.take i).map f).length = i := by simp; omega
  unfold mapTo
  rw [List.set_append_right _ _ (by omega), h1, Nat.sub_self, List.take_add_one, h, List.drop_eq_getElem_cons hl, List.set_cons_zero]
  simp
end L
theorem flatS_set4 : ∀ {ss : List L.St} {i : Nat} {s t : L.St}, ss[i]? = some s → flatS (ss.set i t) = ((((flatS ss).set (i * 4) (.int .i64 t.p)).set (i * 4 + 1) (.int .i64 t.q)).set (i * 4 + 2) (.int .i64 t.lo)).set (i * 4 + 3) (.int .i64 t.hi)
  | [], i, s, t, h => by simp at h
  | a :: r, 0, s, t, h => rfl
  | a :: r, i + 1, s, t, h => by
    have ih := flatS_set4 (ss := r) (i := i) (s := s) (t := t) h
    have e0 : (i + 1) * 4 = i * 4 + 4 := by omega
    have e1 : (i + 1) * 4 + 1 = i * 4 + 1 + 4 := by omega
    have e2 : (i + 1) * 4 + 2 = i * 4 + 2 + 4 := by omega
    have e3 : (i + 1) * 4 + 3 = i * 4 + 3 + 4 := by omega
    rw [e1, e2, e3, e0]
    show [Value.int .i64 a.p, .int .i64 a.q, .int .i64 a.lo, .int .i64 a.hi] ++ flatS (r.set i t) = _
    rw [ih]
    rfl
theorem flatS_set2 {ss : List L.St} {i : Nat} {s t : L.St} (h : ss[i]? = some s) (h1 : t.lo = s.lo) (h2 : t.hi = s.hi) : flatS (ss.set i t) = ((flatS ss).set (i * 4) (.int .i64 t.p)).set (i * 4 + 1) (.int .i64 t.q) := by
  obtain ⟨x0, x1, x2, x3⟩ := flatS_at h
  have hl : i < ss.length := (List.getElem?_eq_some_iff.1 h).1
  have hln := flatS_length ss
  rw [flatS_set4 h, h1, h2]
  apply List.ext_getElem?
  intro j
  have g2 := x2
  have g3 := x3
  simp only [List.getElem?_set, List.length_set]
  split
  · rename_i e; subst e
    split
    · rw [if_neg (by omega), if_neg (by omega), g3]
    · rename_i e'; exact (e' (by omega)).elim
  · split
    · rename_i e; subst e
      split
      · rw [if_neg (by omega), if_neg (by omega), g2]
      · rename_i e'; exact (e' (by omega)).elim
    · rfl

theorem owns_setM {w : World} {base : Nat} {e : TypeId} {size : Nat} {v : Value} {n : Nat} {xs : List Value} (h : w.ownsRow base e size v n xs) {a : Addr} (hne : v.ownBlock ≠ some a.block) (u : Value) : (w.setCell a u).ownsRow base e size v n xs := by
  have k := Keeps.setAt (S := fun y => y ≠ a.block) w a u (fun h => h rfl)
  exact h.kept (row := some a.block) ⟨k.rest.os, k.rest.tape, k.rest.output, k.rest.size, fun i hi hne => k.same i (fun e => hne (by rw [e])) hi⟩ (.inr hne)
theorem CheckM (s wr a b c d : Int) (ss : List L.St) (A : Option Addr) (n c' : Nat) (w : World) (hn : ss.length = n) (hr : RdS w w.heap.size A ss) :
    Calls Try.prog 23 #[.agg #[.int .i64 s, .slice A n c', .int .i64 wr, .int .i64 a, .int .i64 b, .int .i64 c, .int .i64 d]] w fun e w' => e = .returned (.int .i64 (L.checkE ⟨s, ss, wr, a, b, c, d⟩)) ∧ Below w.heap.size w w' := RefCheck_any ⟨s, ss, wr, a, b, c, d⟩ A n c' w hn hr
theorem CallM (s wr a b c d : Int) (ss : List L.St) (A : Option Addr) (n c' : Nat) (x1 x2 x3 x4 : Int) (w : World) (hn : ss.length = n) (hr : RdS w w.heap.size A ss) :
    Calls Try.prog 17 #[.agg #[.int .i64 s, .slice A n c', .int .i64 wr, .int .i64 a, .int .i64 b, .int .i64 c, .int .i64 d], .agg #[.int .i64 x1, .int .i64 x2, .int .i64 x3, .int .i64 x4]] w fun e w' => e = .returned (.tuple #[.int .i64 (L.callV ⟨s, ss, wr, a, b, c, d⟩ ⟨x1, x2, x3, x4⟩), .int .i64 (L.callE ⟨s, ss, wr, a, b, c, d⟩ ⟨x1, x2, x3, x4⟩)]) ∧ Below w.heap.size w w' := Call_any ⟨s, ss, wr, a, b, c, d⟩ A n c' ⟨x1, x2, x3, x4⟩ w hn hr
theorem SlackM (s wr a b c d : Int) (ss : List L.St) (A : Option Addr) (n c' : Nat) (x1 x2 x3 x4 : Int) (w : World) (hn : ss.length = n) (hr : RdS w w.heap.size A ss) :
    Calls Try.prog 27 #[.agg #[.int .i64 s, .slice A n c', .int .i64 wr, .int .i64 a, .int .i64 b, .int .i64 c, .int .i64 d], .agg #[.int .i64 x1, .int .i64 x2, .int .i64 x3, .int .i64 x4]] w fun e w' => e = .returned (.tuple #[.int .i64 (L.slackV ⟨s, ss, wr, a, b, c, d⟩ ⟨x1, x2, x3, x4⟩), .int .i64 (L.callE ⟨s, ss, wr, a, b, c, d⟩ ⟨x1, x2, x3, x4⟩)]) ∧ Below w.heap.size w w' := Slack_any ⟨s, ss, wr, a, b, c, d⟩ A n c' ⟨x1, x2, x3, x4⟩ w hn hr
theorem CentresM (s wr a b c d : Int) (ss : List L.St) (A : Option Addr) (n c' : Nat) (w : World) (hn : ss.length = n) (hr : RdS w w.heap.size A ss) :
    Calls Try.prog 24 #[.agg #[.int .i64 s, .slice A n c', .int .i64 wr, .int .i64 a, .int .i64 b, .int .i64 c, .int .i64 d]] w fun e w' => ∃ a1 a2 a3 a4 : Int, e = .returned (.tuple #[.int .i64 (L.cenN ⟨s, ss, wr, a, b, c, d⟩), .agg #[.int .i64 a1, .int .i64 a2], .agg #[.int .i64 a3, .int .i64 a4], .int .i64 (L.cenE ⟨s, ss, wr, a, b, c, d⟩)]) ∧ Below w.heap.size w w' :=
  (Centres_any' ⟨s, ss, wr, a, b, c, d⟩ A n c' w hn hr).mono fun e w' ⟨h1, h2⟩ => ⟨_, _, _, _, h1, h2⟩
theorem frozen_setCell' (w : World) (a b : Addr) (v : Value) : (w.setCell a v).frozen? b = w.frozen? b := by simp
theorem size_setCell' (w : World) (a : Addr) (v : Value) : (w.setCell a v).heap.size = w.heap.size := by simp
theorem owns_form {w : World} {base n c : Nat} {A : Option Addr} {xs : List Value} (h : w.ownsRow base 54 4 (.slice A n c) n xs) (hn : n ≠ 0) : ∃ g, A = some ⟨g, 0, none⟩ ∧ base ≤ g ∧ g < w.heap.size := by
  rcases h.2 with ⟨h', hz⟩ | ⟨g, cap, cur, e, hbg, hgg, _⟩
  · exact (hn hz).elim
  · simp only [Value.slice.injEq] at e
    exact ⟨g, e.1, hbg, blk_lt hgg⟩

set_option maxRecDepth 100000 in
set_option maxHeartbeats 6400000 in
theorem mirrorLaw_out (v : L.Vw) (A : Option Addr) (n c : Nat) (b : L.Bx) (w : World) (hn : v.ss.length = n) (hr : RdS w w.heap.size A v.ss) (hA : A = none → c = 0) (h : L.validB v b = false) :
    Calls Try.prog 6 #[.agg #[.int .i64 v.size, .slice A n c, .int .i64 v.wrong, .int .i64 v.hxl, .int .i64 v.hxh, .int .i64 v.hyl, .int .i64 v.hyh], .agg #[.int .i64 b.l, .int .i64 b.r, .int .i64 b.b, .int .i64 b.t]] w fun e w' => e = .returned (.bool true) ∧ Below w.heap.size w w' := by
  have HN := hide hn
  have HR := hide hr
  have HA := hide hA
  clear hn hr hA
  have H := hide h
  clear h
  go_enter Try.func6, Try.ntmps6
  go_upto_region 1 with fail
  obtain ⟨W0, hW0⟩ : ∃ W0, (w.alloc (.cells #[.int .i64 v.size, .slice A n c, .int .i64 v.wrong, .int .i64 v.hxl, .int .i64 v.hxh, .int .i64 v.hyl, .int .i64 v.hyh] 26)).alloc (.cells #[.int .i64 b.l, .int .i64 b.r, .int .i64 b.b, .int .i64 b.t] 28) = W0 := ⟨_, rfl⟩
  have gp : W0.heap[w.heap.size]? = some (.cells #[.int .i64 v.size, .slice A n c, .int .i64 v.wrong, .int .i64 v.hxl, .int .i64 v.hxh, .int .i64 v.hyl, .int .i64 v.hyh] 26 (0, 0)) := by
    rw [← hW0]; exact ((Below.heap_alloc _ _ _ (by first | (simp; done) | (simp; omega) | omega)).trans (World.alloc_heap_new _ _))
  have gq : W0.heap[w.heap.size + 1]? = some (.cells #[.int .i64 b.l, .int .i64 b.r, .int .i64 b.b, .int .i64 b.t] 28 (0, 0)) := by
    rw [← hW0]; exact ((congrArg _ (by simp)).trans (World.alloc_heap_new _ _))
  have gs : W0.heap.size = w.heap.size + 1 + 1 := by rw [← hW0]; simp
  have gB : Below w.heap.size w W0 := by rw [← hW0]; (repeat' first | exact zbR _ _ | assumption | refine zbD ?_ | refine zbA ?_ ?_ _ | refine zbS ?_ ?_ _ | refine zbT ?_ (by assumption) ?_ | (simp; done) | (simp; omega) | omega)
  rw [hW0]
  clear hW0
  obtain ⟨p, hp⟩ : ∃ p, w.heap.size = p := ⟨_, rfl⟩
  obtain ⟨q, hq⟩ : ∃ q, w.heap.size + 1 = q := ⟨_, rfl⟩
  rw [hq, hp]
  rw [hp] at gp
  rw [hq] at gq
  have lp : p < W0.heap.size := by omega
  have lq : q < W0.heap.size := by omega
  have HR0 := hide ((HR.out.below gB).mono gB.size)
  have GB := hide gB
  have GP := hide gp
  have cp0 := (blk_cell gp 0).trans rfl; have cp1 := (blk_cell gp 1).trans rfl; have cp2 := (blk_cell gp 2).trans rfl; have cp3 := (blk_cell gp 3).trans rfl; have cp4 := (blk_cell gp 4).trans rfl; have cp5 := (blk_cell gp 5).trans rfl; have cp6 := (blk_cell gp 6).trans rfl
  have GQ := hide gq
  have cq0 := (blk_cell gq 0).trans rfl; have cq1 := (blk_cell gq 1).trans rfl; have cq2 := (blk_cell gq 2).trans rfl; have cq3 := (blk_cell gq 3).trans rfl
  clear gp gq gB gs hp hq
  go_wp2_with (first | (go_at_call 15; refine (valid_any v A n c b _ HN.out ((HR0.out.below (by (repeat' first | exact zbR _ _ | assumption | refine zbD ?_ | refine zbA ?_ ?_ _ | refine zbS ?_ ?_ _ | refine zbT ?_ (by assumption) ?_ | (simp; done) | (simp; omega) | omega))).mono (by first | (simp; done) | (simp; omega) | omega))).mono ?_; rintro e w2 ⟨rfl, hb2⟩; rw [H.out]; obtain ⟨hc2, hf2⟩ := bcell hb2; have q2 := hb2.size; (try simp only [World.size_alloc] at q2); have z2_p : p < w2.heap.size := (by omega); have z2_q : q < w2.heap.size := (by omega)) | (go_at_call 16; refine (works_any _).mono ?_; rintro e w19 ⟨rfl, hb19⟩))
  go_ret
  exact ⟨rfl, GB.out.trans ((show Below W0.heap.size W0 _ by (repeat' first | exact zbR _ _ | assumption | refine zbD ?_ | refine zbA ?_ ?_ _ | refine zbS ?_ ?_ _ | refine zbT ?_ (by assumption) ?_ | (simp; done) | (simp; omega) | omega)).mono GB.out.size)⟩

set_option maxRecDepth 100000 in
set_option maxHeartbeats 6400000 in
theorem mirrorLaw_in (v : L.Vw) (A : Option Addr) (n c : Nat) (b : L.Bx) (w : World) (hn : v.ss.length = n) (hr : RdS w w.heap.size A v.ss) (hA : A = none → c = 0) (h : L.validB v b = true) :
    Calls Try.prog 6 #[.agg #[.int .i64 v.size, .slice A n c, .int .i64 v.wrong, .int .i64 v.hxl, .int .i64 v.hxh, .int .i64 v.hyl, .int .i64 v.hyh], .agg #[.int .i64 b.l, .int .i64 b.r, .int .i64 b.b, .int .i64 b.t]] w fun e w' => e = .returned (.bool true) ∧ Below w.heap.size w w' := by
  have HN := hide hn
  have HR := hide hr
  have HA := hide hA
  clear hn hr hA
  have H := hide h
  obtain ⟨hvb, hbb, hfar⟩ := L.validB_ok h
  have HVB := hide hvb
  have HBB := hide hbb
  have hv := L.viewB_ok hvb
  have HV := hide hv
  have hn8 : n ≤ 8 := by have := hv.n8; have := HN.out; omega
  have hn8' : (n : Int) ≤ 8 := by omega
  have s0 := hv.s0
  have s1 := hv.s1
  have HTR := hide (L.tr_ok hvb hbb)
  clear h hvb hbb hfar hv
  go_enter Try.func6, Try.ntmps6
  go_upto_region 1 with fail
  obtain ⟨W0, hW0⟩ : ∃ W0, (w.alloc (.cells #[.int .i64 v.size, .slice A n c, .int .i64 v.wrong, .int .i64 v.hxl, .int .i64 v.hxh, .int .i64 v.hyl, .int .i64 v.hyh] 26)).alloc (.cells #[.int .i64 b.l, .int .i64 b.r, .int .i64 b.b, .int .i64 b.t] 28) = W0 := ⟨_, rfl⟩
  have gp : W0.heap[w.heap.size]? = some (.cells #[.int .i64 v.size, .slice A n c, .int .i64 v.wrong, .int .i64 v.hxl, .int .i64 v.hxh, .int .i64 v.hyl, .int .i64 v.hyh] 26 (0, 0)) := by
    rw [← hW0]; exact ((Below.heap_alloc _ _ _ (by first | (simp; done) | (simp; omega) | omega)).trans (World.alloc_heap_new _ _))
  have gq : W0.heap[w.heap.size + 1]? = some (.cells #[.int .i64 b.l, .int .i64 b.r, .int .i64 b.b, .int .i64 b.t] 28 (0, 0)) := by
    rw [← hW0]; exact ((congrArg _ (by simp)).trans (World.alloc_heap_new _ _))
  have gs : W0.heap.size = w.heap.size + 1 + 1 := by rw [← hW0]; simp
  have gB : Below w.heap.size w W0 := by rw [← hW0]; (repeat' first | exact zbR _ _ | assumption | refine zbD ?_ | refine zbA ?_ ?_ _ | refine zbS ?_ ?_ _ | refine zbT ?_ (by assumption) ?_ | (simp; done) | (simp; omega) | omega)
  rw [hW0]
  clear hW0
  obtain ⟨p, hp⟩ : ∃ p, w.heap.size = p := ⟨_, rfl⟩
  obtain ⟨q, hq⟩ : ∃ q, w.heap.size + 1 = q := ⟨_, rfl⟩
  rw [hq, hp]
  rw [hp] at gp
  rw [hq] at gq
  have lp : p < W0.heap.size := by omega
  have lq : q < W0.heap.size := by omega
  have HR0 := hide ((HR.out.below gB).mono gB.size)
  have GB := hide gB
  have GP := hide gp
  have cp0 := (blk_cell gp 0).trans rfl; have cp1 := (blk_cell gp 1).trans rfl; have cp2 := (blk_cell gp 2).trans rfl; have cp3 := (blk_cell gp 3).trans rfl; have cp4 := (blk_cell gp 4).trans rfl; have cp5 := (blk_cell gp 5).trans rfl; have cp6 := (blk_cell gp 6).trans rfl
  have GQ := hide gq
  have cq0 := (blk_cell gq 0).trans rfl; have cq1 := (blk_cell gq 1).trans rfl; have cq2 := (blk_cell gq 2).trans rfl; have cq3 := (blk_cell gq 3).trans rfl
  clear gp gq gB gs hp hq
  go_upto_region 4 with (first | (go_at_call 15; refine (valid_any v A n c b _ HN.out ((HR0.out.below (by (repeat' first | exact zbR _ _ | assumption | refine zbD ?_ | refine zbA ?_ ?_ _ | refine zbS ?_ ?_ _ | refine zbT ?_ (by assumption) ?_ | (simp; done) | (simp; omega) | omega))).mono (by first | (simp; done) | (simp; omega) | omega))).mono ?_; rintro e w2 ⟨rfl, hb2⟩; rw [H.out]; obtain ⟨hc2, hf2⟩ := bcell hb2; have q2 := hb2.size; (try simp only [World.size_alloc] at q2); have z2_p : p < w2.heap.size := (by omega); have z2_q : q < w2.heap.size := (by omega)) | (go_at_call 26; refine (Copy_any v A n c _ HN.out ((HR0.out.below (by (repeat' first | exact zbR _ _ | assumption | refine zbD ?_ | refine zbA ?_ ?_ _ | refine zbS ?_ ?_ _ | refine zbT ?_ (by assumption) ?_ | (simp; done) | (simp; omega) | omega))).mono (by first | (simp; done) | (simp; omega) | omega)) HA.out (by omega)).mono ?_; rintro e w3 ⟨A1, c1, rfl, hown, hb3⟩; obtain ⟨hc3, hf3⟩ := bcell hb3; have q3 := hb3.size; have z3_p : p < w3.heap.size := (by omega); have z3_q : q < w3.heap.size := (by omega)))
  obtain ⟨W1, hW1⟩ : ∃ W1, w3.alloc (.cells #[.int .i64 v.size, .slice A1 n c1, .int .i64 v.wrong, .int .i64 v.hxl, .int .i64 v.hxh, .int .i64 v.hyl, .int .i64 v.hyh] 26) = W1 := ⟨_, rfl⟩
  have go : W1.heap[w3.heap.size]? = some (.cells #[.int .i64 v.size, .slice A1 n c1, .int .i64 v.wrong, .int .i64 v.hxl, .int .i64 v.hxh, .int .i64 v.hyl, .int .i64 v.hyh] 26 (0, 0)) := by rw [← hW1]; exact World.alloc_heap_new _ _
  have gB1 : Below w3.heap.size w3 W1 := by rw [← hW1]; (repeat' first | exact zbR _ _ | assumption | refine zbD ?_ | refine zbA ?_ ?_ _ | refine zbS ?_ ?_ _ | refine zbT ?_ (by assumption) ?_ | (simp; done) | (simp; omega) | omega)
  have gs1 : W1.heap.size = w3.heap.size + 1 := by rw [← hW1]; simp
  have gO1 : W1.ownsRow w2.heap.size 54 4 (.slice A1 n c1) n (flatS v.ss) := by rw [← hW1]; exact hown.alloc _
  rw [hW1]
  clear hW1
  have HB01 := hide (show Below W0.heap.size W0 W1 from (hb2.trans (hb3.mono hb2.size)).trans (gB1.mono (by have := hb2.size; omega)))
  have bp := (HB01.out.block p lp).trans GP.out
  have bq := (HB01.out.block q lq).trans GQ.out
  obtain ⟨o, ho⟩ : ∃ o, w3.heap.size = o := ⟨_, rfl⟩
  rw [ho] at go ⊢
  have lo : o < W1.heap.size := by omega
  have ho0 : W0.heap.size ≤ o := by have := hb2.size; omega
  have hw20 : W0.heap.size ≤ w2.heap.size := hb2.size
  have hpo : p ≠ o := by omega
  have lp1 : p < W1.heap.size := by omega
  have GO := hide go
  have HO1 := hide gO1
  have hog : ∀ g o', A1 = some ⟨g, o', none⟩ → g ≠ o := fun g o' e => by
    have := (hown.lt g (by rw [e]; rfl)).2
    omega
  have HOG := hide hog
  clear hb2 hb3 gB1 gs1 hc2 hf2 hc3 hf3 q2 q3 z2_p z2_q z3_p z3_q ho hown gO1 cp0 cp1 cp2 cp3 cp4 cp5 cp6 cq0 cq1 cq2 cq3 hog
  have cp0 := (blk_cell bp 0).trans rfl; have cp1 := (blk_cell bp 1).trans rfl; have cp2 := (blk_cell bp 2).trans rfl; have cp3 := (blk_cell bp 3).trans rfl; have cp4 := (blk_cell bp 4).trans rfl; have cp5 := (blk_cell bp 5).trans rfl; have cp6 := (blk_cell bp 6).trans rfl
  have co0 := (blk_cell go 0).trans rfl; have co1 := (blk_cell go 1).trans rfl; have co2 := (blk_cell go 2).trans rfl; have co3 := (blk_cell go 3).trans rfl; have co4 := (blk_cell go 4).trans rfl; have co5 := (blk_cell go 5).trans rfl; have co6 := (blk_cell go 6).trans rfl
  have hS : (fun w' => p < w'.heap.size ∧ o < w'.heap.size ∧ w'.frozen? ⟨o, 3, none⟩ = false ∧ w'.frozen? ⟨o, 4, none⟩ = false ∧ w'.frozen? ⟨o, 5, none⟩ = false ∧ w'.frozen? ⟨o, 6, none⟩ = false ∧ w'.cell? ⟨o, 5, none⟩ = some (.int .i64 v.hyl) ∧ w'.cell? ⟨o, 6, none⟩ = some (.int .i64 v.hyh) ∧ w'.cell? ⟨p, 3, none⟩ = some (.int .i64 v.hxl) ∧ w'.cell? ⟨p, 4, none⟩ = some (.int .i64 v.hxh) ∧ w'.cell? ⟨p, 5, none⟩ = some (.int .i64 v.hyl) ∧ w'.cell? ⟨p, 6, none⟩ = some (.int .i64 v.hyh)) W1 := ⟨lp1, lo, blk_frozen go 3, blk_frozen go 4, blk_frozen go 5, blk_frozen go 6, co5, co6, cp3, cp4, cp5, cp6⟩
  have hset : ∀ (u : World) (x y : Value), (p < u.heap.size ∧ o < u.heap.size ∧ u.frozen? ⟨o, 3, none⟩ = false ∧ u.frozen? ⟨o, 4, none⟩ = false ∧ u.frozen? ⟨o, 5, none⟩ = false ∧ u.frozen? ⟨o, 6, none⟩ = false ∧ u.cell? ⟨o, 5, none⟩ = some (.int .i64 v.hyl) ∧ u.cell? ⟨o, 6, none⟩ = some (.int .i64 v.hyh) ∧ u.cell? ⟨p, 3, none⟩ = some (.int .i64 v.hxl) ∧ u.cell? ⟨p, 4, none⟩ = some (.int .i64 v.hxh) ∧ u.cell? ⟨p, 5, none⟩ = some (.int .i64 v.hyl) ∧ u.cell? ⟨p, 6, none⟩ = some (.int .i64 v.hyh)) → (p < ((u.setCell ⟨o, 3, none⟩ x).setCell ⟨o, 4, none⟩ y).heap.size ∧ o < ((u.setCell ⟨o, 3, none⟩ x).setCell ⟨o, 4, none⟩ y).heap.size ∧ ((u.setCell ⟨o, 3, none⟩ x).setCell ⟨o, 4, none⟩ y).frozen? ⟨o, 3, none⟩ = false ∧ ((u.setCell ⟨o, 3, none⟩ x).setCell ⟨o, 4, none⟩ y).frozen? ⟨o, 4, none⟩ = false ∧ ((u.setCell ⟨o, 3, none⟩ x).setCell ⟨o, 4, none⟩ y).frozen? ⟨o, 5, none⟩ = false ∧ ((u.setCell ⟨o, 3, none⟩ x).setCell ⟨o, 4, none⟩ y).frozen? ⟨o, 6, none⟩ = false ∧ ((u.setCell ⟨o, 3, none⟩ x).setCell ⟨o, 4, none⟩ y).cell? ⟨o, 5, none⟩ = some (.int .i64 v.hyl) ∧ ((u.setCell ⟨o, 3, none⟩ x).setCell ⟨o, 4, none⟩ y).cell? ⟨o, 6, none⟩ = some (.int .i64 v.hyh) ∧ ((u.setCell ⟨o, 3, none⟩ x).setCell ⟨o, 4, none⟩ y).cell? ⟨p, 3, none⟩ = some (.int .i64 v.hxl) ∧ ((u.setCell ⟨o, 3, none⟩ x).setCell ⟨o, 4, none⟩ y).cell? ⟨p, 4, none⟩ = some (.int .i64 v.hxh) ∧ ((u.setCell ⟨o, 3, none⟩ x).setCell ⟨o, 4, none⟩ y).cell? ⟨p, 5, none⟩ = some (.int .i64 v.hyl) ∧ ((u.setCell ⟨o, 3, none⟩ x).setCell ⟨o, 4, none⟩ y).cell? ⟨p, 6, none⟩ = some (.int .i64 v.hyh)) := by
    rintro u x y ⟨l1, l2, f3, f4, f5, f6, k1, k2, k3, k4, k5, k6⟩
    have n1 : ∀ i j : Nat, (⟨o, i, none⟩ : Addr) ≠ ⟨p, j, none⟩ := fun i j e => hpo (by injection e with e; exact e.symm)
    have n2 : ∀ i j : Nat, i ≠ j → (⟨o, i, none⟩ : Addr) ≠ ⟨o, j, none⟩ := fun i j h e => by injection e with _ e; exact h e
    refine ⟨by simpa using l1, by simpa using l2, ?_, ?_, ?_, ?_, ?_, ?_, ?_, ?_, ?_, ?_⟩
    · rw [frozen_setCell', frozen_setCell']; exact f3
    · rw [frozen_setCell', frozen_setCell']; exact f4
    · rw [frozen_setCell', frozen_setCell']; exact f5
    · rw [frozen_setCell', frozen_setCell']; exact f6
    · rw [zsO _ _ _ _ (n2 4 5 (by omega)), zsO _ _ _ _ (n2 3 5 (by omega))]; exact k1
    · rw [zsO _ _ _ _ (n2 4 6 (by omega)), zsO _ _ _ _ (n2 3 6 (by omega))]; exact k2
    · rw [zsO _ _ _ _ (n1 4 3), zsO _ _ _ _ (n1 3 3)]; exact k3
    · rw [zsO _ _ _ _ (n1 4 4), zsO _ _ _ _ (n1 3 4)]; exact k4
    · rw [zsO _ _ _ _ (n1 4 5), zsO _ _ _ _ (n1 3 5)]; exact k5
    · rw [zsO _ _ _ _ (n1 4 6), zsO _ _ _ _ (n1 3 6)]; exact k6
  clear go bp bq
  (try dsimp only at hS)
  refine wp_region_T_drew (S := (fun w' => p < w'.heap.size ∧ o < w'.heap.size ∧ w'.frozen? ⟨o, 3, none⟩ = false ∧ w'.frozen? ⟨o, 4, none⟩ = false ∧ w'.frozen? ⟨o, 5, none⟩ = false ∧ w'.frozen? ⟨o, 6, none⟩ = false ∧ w'.cell? ⟨o, 5, none⟩ = some (.int .i64 v.hyl) ∧ w'.cell? ⟨o, 6, none⟩ = some (.int .i64 v.hyh) ∧ w'.cell? ⟨p, 3, none⟩ = some (.int .i64 v.hxl) ∧ w'.cell? ⟨p, 4, none⟩ = some (.int .i64 v.hxh) ∧ w'.cell? ⟨p, 5, none⟩ = some (.int .i64 v.hyl) ∧ w'.cell? ⟨p, 6, none⟩ = some (.int .i64 v.hyh))) 7 (by kernel_rfl) ?_ (fun hHeld0 => ?_)
  · (try dsimp only); first | exact hset _ _ _ (by assumption) | exact hS | (first | (go_keep; done) | (go_split_ands; (repeat' apply And.intro) <;> first | (go_keep; done) | (simp [*, zcA, zcP, zfA, zfP]; done) | (simp [zcA, zcP] <;> rfl) | (simp [*, zsS, zsO, zsA]; done) | ((first | refine (hc _ _ ?_).trans ?_ | refine (hf _ _ ?_).trans ?_) <;> first | assumption | (simp; done) | (simp; omega) | omega | (go_keep; done) | (simp [*, zcA, zcP, zfA, zfP]; done) | (simp [zcA, zcP]; rfl)) | (repeat' first | exact zbR _ _ | assumption | refine zbD ?_ | refine zbA ?_ ?_ _ | refine zbS ?_ ?_ _ | refine zbT ?_ (by assumption) ?_ | (simp; done) | (simp; omega) | omega)))
  refine takeT (v := ?_) 0 rfl (by kernel_rfl) (by kernel_rfl) (by kernel_rfl) (by kernel_rfl) (fun _ _ _ h => h) (Or.inl ⟨by rfl, ?_⟩) (by assumption) ?_; rotate_left
  · (intro w hSw; (try dsimp only at hSw); go_simp; try with_reducible rfl)
  try simp only [Act.put, zl, z0, z1]
  refine takeT (v := ?_) 1 rfl (by kernel_rfl) (by kernel_rfl) (by kernel_rfl) (by kernel_rfl) (fun _ _ _ h => h) (Or.inl ⟨by rfl, ?_⟩) (by assumption) ?_; rotate_left
  · (intro w hSw; (try dsimp only at hSw); go_simp; try with_reducible rfl)
  try simp only [Act.put, zl, z0, z1]
  refine takeT (v := ?_) 2 rfl (by kernel_rfl) (by kernel_rfl) (by kernel_rfl) (by kernel_rfl) (fun _ _ _ h => h) (Or.inl ⟨by rfl, ?_⟩) (by assumption) ?_; rotate_left
  · (intro w hSw; (try dsimp only at hSw); go_simp; try with_reducible rfl)
  try simp only [Act.put, zl, z0, z1]
  refine takeT (v := ?_) 3 rfl (by kernel_rfl) (by kernel_rfl) (by kernel_rfl) (by kernel_rfl) (fun _ _ _ h => h) (Or.inl ⟨by rfl, ?_⟩) (by assumption) ?_; rotate_left
  · (intro w hSw; (try dsimp only at hSw); go_simp; try with_reducible rfl)
  try simp only [Act.put, zl, z0, z1]
  refine takeT (v := ?_) 4 rfl (by kernel_rfl) (by kernel_rfl) (by kernel_rfl) (by kernel_rfl) (fun _ _ _ h => h) (Or.inl ⟨by rfl, ?_⟩) (by assumption) ?_; rotate_left
  · (intro w hSw; (try dsimp only at hSw); go_simp; try with_reducible rfl)
  try simp only [Act.put, zl, z0, z1]
  refine wpAnyT_ready (rs := [5]) (by kernel_rfl) (by simp) ?_
  refine consT 5 rfl (fun K hK => ?_) AllReadyT.nil
  go_simp
  refine hK.out _ _ ?_ (fun hHeld1 => ?_)
  · (try dsimp only); first | exact hset _ _ _ (by assumption) | exact hS | (first | (go_keep; done) | (go_split_ands; (repeat' apply And.intro) <;> first | (go_keep; done) | (simp [*, zcA, zcP, zfA, zfP]; done) | (simp [zcA, zcP] <;> rfl) | (simp [*, zsS, zsO, zsA]; done) | ((first | refine (hc _ _ ?_).trans ?_ | refine (hf _ _ ?_).trans ?_) <;> first | assumption | (simp; done) | (simp; omega) | omega | (go_keep; done) | (simp [*, zcA, zcP, zfA, zfP]; done) | (simp [zcA, zcP]; rfl)) | (repeat' first | exact zbR _ _ | assumption | refine zbD ?_ | refine zbA ?_ ?_ _ | refine zbS ?_ ?_ _ | refine zbT ?_ (by assumption) ?_ | (simp; done) | (simp; omega) | omega)))
  clear hK K hHeld0
  try simp only [Act.put, zl, z0, z1]
  refine takeT (v := ?_) 6 rfl (by kernel_rfl) (by kernel_rfl) (by kernel_rfl) (by kernel_rfl) (fun _ _ _ h => h) (Or.inl ⟨by rfl, ?_⟩) (by assumption) ?_; rotate_left
  · (intro w hSw; (try dsimp only at hSw); go_simp; try with_reducible rfl)
  try simp only [Act.put, zl, z0, z1]
  refine wpAnyT_ready (rs := [7]) (by kernel_rfl) (by simp) ?_
  refine lastT rfl (fun K hK => ?_)
  (try dsimp only at hHeld1)
  go_simp
  refine hK.out _ _ ?_
  clear hK K
  try simp only [Act.put, zl, z0, z1]
  refine wpAnyT_done (by kernel_rfl) ?_ _
  obtain ⟨W2, hW2⟩ : ∃ W2, World.drew (World.setCell (World.setCell (World.setCell (World.setCell W1 ⟨o, 3, none⟩ (.int .i64 v.hyl)) ⟨o, 4, none⟩ (.int .i64 v.hyh)) ⟨o, 5, none⟩ (.int .i64 v.hxl)) ⟨o, 6, none⟩ (.int .i64 v.hxh)) = W2 := ⟨_, rfl⟩
  have go2 : W2.heap[o]? = some (.cells #[.int .i64 v.size, .slice A1 n c1, .int .i64 v.wrong, .int .i64 v.hyl, .int .i64 v.hyh, .int .i64 v.hxl, .int .i64 v.hxh] 26 (0, 0)) := by rw [← hW2]; exact drew_blk (blk_set (blk_set (blk_set (blk_set GO.out 3 _) 4 _) 5 _) 6 _)
  have hne : (Value.slice A1 n c1).ownBlock ≠ some o := fun e => by
    cases hA1 : A1 with
    | none => rw [hA1] at e; cases e
    | some a =>
      obtain ⟨ab, ao, az⟩ := a
      rw [hA1] at e
      have e' : ab = o := Option.some.inj e
      rcases HO1.out.2 with ⟨h', _⟩ | ⟨g, cap, cur, h', _⟩
      · rw [hA1] at h'; simp at h'
      · rw [hA1] at h'
        simp only [Value.slice.injEq, Option.some.injEq, Addr.mk.injEq] at h'
        obtain ⟨⟨e1, e2, e3⟩, _, _⟩ := h'
        subst e2 e3
        exact HOG.out ab 0 hA1 e'
  have gO2 : W2.ownsRow w2.heap.size 54 4 (.slice A1 n c1) n (flatS (L.mapTo L.trS v.ss 0)) := by
    rw [← hW2, L.mapTo_zero]
    exact owns_setM (owns_setM (owns_setM (owns_setM HO1.out hne _) hne _) hne _) hne _
  have HB02 := hide (show Below W0.heap.size W0 W2 by rw [← hW2]; exact zbD (zbS (zbS (zbS (zbS HB01.out ho0 _) ho0 _) ho0 _) ho0 _))
  rw [hW2]
  clear hW2 hset hS cp0 cp1 cp2 cp3 cp4 cp5 cp6 co0 co1 co2 co3 co4 co5 co6 lp1 lo hne
  have GO2 := hide gO2
  have GV2 := hide go2
  clear gO2 go2
  go_upto_region 6 with fail
  go_loopw [6] (fun t wr => ∃ i : Nat, i ≤ n ∧ t = .int .i64 i ∧ Hid (wr.ownsRow w2.heap.size 54 4 (.slice A1 n c1) n (flatS (L.mapTo L.trS v.ss i))) ∧ Hid (wr.heap[o]? = some (.cells #[.int .i64 v.size, .slice A1 n c1, .int .i64 v.wrong, .int .i64 v.hyl, .int .i64 v.hyh, .int .i64 v.hxl, .int .i64 v.hxh] 26 (0, 0))) ∧ Hid (Below W0.heap.size W0 wr)) (fun t _ => n - (intOf t).toNat)
  case atStart => exact ⟨0, by omega, rfl, GO2, GV2, HB02⟩
  case round =>
    obtain ⟨i, hi, rfl, hO, hV, hB⟩ := hrel
    have bp := (hB.out.block p lp).trans GP.out
    have lp2 := blk_lt bp
    have hgo := hV.out
    have lo2 := blk_lt hgo
    have hi0 : (0 : Int) ≤ (i : Int) := by omega
    have szr := hB.out.size
    by_cases hlt : i < n
    · obtain ⟨s, hs⟩ : ∃ s, v.ss[i]? = some s := ⟨_, List.getElem?_eq_getElem (by have := HN.out; omega)⟩
      obtain ⟨b0, o0, hA, hbB, d0, d1, d2, d3⟩ := (HR0.out.below hB.out) i s hs
      subst hA
      obtain ⟨g, hA1, hbg, hgl⟩ := owns_form hO.out (by omega)
      subst hA1
      have hgo' := own_view_ne hO.out hgo
      obtain ⟨x0, x1, x2, x3⟩ := flatS_at (L.mapTo_at (f := L.trS) hs)
      have y0 := (hO.out.cellAt (i * 4) (by omega)).trans x0
      have y1 := (hO.out.cellAt (i * 4 + 1) (by omega)).trans x1
      have f0 := hO.out.frozenAt (i * 4)
      have f1 := hO.out.frozenAt (i * 4 + 1)
      have hlt' : (i : Int) < (n : Int) := by omega
      have hgb : g ≠ b0 := by omega
      have hgp : g ≠ p := by omega
      have lb0 : b0 < wr.heap.size := by omega
      have HS := hide hs
      have cp0 := (blk_cell bp 0).trans rfl; have cp1 := (blk_cell bp 1).trans rfl; have cp2 := (blk_cell bp 2).trans rfl; have cp3 := (blk_cell bp 3).trans rfl; have cp4 := (blk_cell bp 4).trans rfl; have cp5 := (blk_cell bp 5).trans rfl; have cp6 := (blk_cell bp 6).trans rfl
      have co0 := (blk_cell hgo 0).trans rfl; have co1 := (blk_cell hgo 1).trans rfl; have co2 := (blk_cell hgo 2).trans rfl; have co3 := (blk_cell hgo 3).trans rfl; have co4 := (blk_cell hgo 4).trans rfl; have co5 := (blk_cell hgo 5).trans rfl; have co6 := (blk_cell hgo 6).trans rfl
      clear x0 x1 x2 x3 hs bp
      have hS : (fun w' => p < w'.heap.size ∧ o < w'.heap.size ∧ b0 < w'.heap.size ∧ g < w'.heap.size ∧ w'.frozen? ⟨g, i * 4, none⟩ = false ∧ w'.frozen? ⟨g, i * 4 + 1, none⟩ = false ∧ w'.cell? ⟨o, 1, none⟩ = some (.slice (some ⟨g, 0, none⟩) n c1) ∧ w'.cell? ⟨p, 1, none⟩ = some (.slice (some ⟨b0, o0, none⟩) n c) ∧ w'.cell? ⟨b0, o0 + i * 4, none⟩ = some (.int .i64 s.p) ∧ w'.cell? ⟨b0, o0 + i * 4 + 1, none⟩ = some (.int .i64 s.q) ∧ w'.cell? ⟨g, i * 4 + 1, none⟩ = some (.int .i64 s.q)) wr := ⟨lp2, lo2, lb0, hgl, f0, f1, co1, cp1, d0, d1, y1⟩
      have hset : ∀ (u : World) (x : Value), (p < u.heap.size ∧ o < u.heap.size ∧ b0 < u.heap.size ∧ g < u.heap.size ∧ u.frozen? ⟨g, i * 4, none⟩ = false ∧ u.frozen? ⟨g, i * 4 + 1, none⟩ = false ∧ u.cell? ⟨o, 1, none⟩ = some (.slice (some ⟨g, 0, none⟩) n c1) ∧ u.cell? ⟨p, 1, none⟩ = some (.slice (some ⟨b0, o0, none⟩) n c) ∧ u.cell? ⟨b0, o0 + i * 4, none⟩ = some (.int .i64 s.p) ∧ u.cell? ⟨b0, o0 + i * 4 + 1, none⟩ = some (.int .i64 s.q) ∧ u.cell? ⟨g, i * 4 + 1, none⟩ = some (.int .i64 s.q)) → (p < (u.setCell ⟨g, i * 4, none⟩ x).heap.size ∧ o < (u.setCell ⟨g, i * 4, none⟩ x).heap.size ∧ b0 < (u.setCell ⟨g, i * 4, none⟩ x).heap.size ∧ g < (u.setCell ⟨g, i * 4, none⟩ x).heap.size ∧ (u.setCell ⟨g, i * 4, none⟩ x).frozen? ⟨g, i * 4, none⟩ = false ∧ (u.setCell ⟨g, i * 4, none⟩ x).frozen? ⟨g, i * 4 + 1, none⟩ = false ∧ (u.setCell ⟨g, i * 4, none⟩ x).cell? ⟨o, 1, none⟩ = some (.slice (some ⟨g, 0, none⟩) n c1) ∧ (u.setCell ⟨g, i * 4, none⟩ x).cell? ⟨p, 1, none⟩ = some (.slice (some ⟨b0, o0, none⟩) n c) ∧ (u.setCell ⟨g, i * 4, none⟩ x).cell? ⟨b0, o0 + i * 4, none⟩ = some (.int .i64 s.p) ∧ (u.setCell ⟨g, i * 4, none⟩ x).cell? ⟨b0, o0 + i * 4 + 1, none⟩ = some (.int .i64 s.q) ∧ (u.setCell ⟨g, i * 4, none⟩ x).cell? ⟨g, i * 4 + 1, none⟩ = some (.int .i64 s.q)) := by
        rintro u x ⟨l1, l2, l3, l4, k1, k2, k3, k4, k5, k6, k7⟩
        have n1 : ∀ (bb j : Nat), g ≠ bb → (⟨g, i * 4, none⟩ : Addr) ≠ ⟨bb, j, none⟩ := fun bb j h e => h (by injection e)
        have n2 : (⟨g, i * 4, none⟩ : Addr) ≠ ⟨g, i * 4 + 1, none⟩ := fun e => by injection e with _ e; omega
        refine ⟨by simpa using l1, by simpa using l2, by simpa using l3, by simpa using l4, ?_, ?_, ?_, ?_, ?_, ?_, ?_⟩
        · rw [frozen_setCell']; exact k1
        · rw [frozen_setCell']; exact k2
        · rw [zsO _ _ _ _ (n1 o 1 hgo')]; exact k3
        · rw [zsO _ _ _ _ (n1 p 1 hgp)]; exact k4
        · rw [zsO _ _ _ _ (n1 b0 _ hgb)]; exact k5
        · rw [zsO _ _ _ _ (n1 b0 _ hgb)]; exact k6
        · rw [zsO _ _ _ _ n2]; exact k7
      clear d2 d3 cp0 cp2 cp3 cp4 cp5 cp6 co0 co2 co3 co4 co5 co6 hgo
      go_upto_region 8 with fail
      (try dsimp only at hS)
      refine wp_region_T_drew (S := (fun w' => p < w'.heap.size ∧ o < w'.heap.size ∧ b0 < w'.heap.size ∧ g < w'.heap.size ∧ w'.frozen? ⟨g, i * 4, none⟩ = false ∧ w'.frozen? ⟨g, i * 4 + 1, none⟩ = false ∧ w'.cell? ⟨o, 1, none⟩ = some (.slice (some ⟨g, 0, none⟩) n c1) ∧ w'.cell? ⟨p, 1, none⟩ = some (.slice (some ⟨b0, o0, none⟩) n c) ∧ w'.cell? ⟨b0, o0 + i * 4, none⟩ = some (.int .i64 s.p) ∧ w'.cell? ⟨b0, o0 + i * 4 + 1, none⟩ = some (.int .i64 s.q) ∧ w'.cell? ⟨g, i * 4 + 1, none⟩ = some (.int .i64 s.q))) 23 (by kernel_rfl) ?_ (fun hHeld0 => ?_)
      · (try dsimp only); first | exact hset _ _ (by assumption) | exact hS | (first | (go_keep; done) | (go_split_ands; (repeat' apply And.intro) <;> first | (go_keep; done) | (simp [*, zcA, zcP, zfA, zfP]; done) | (simp [zcA, zcP] <;> rfl) | (simp [*, zsS, zsO, zsA]; done) | ((first | refine (hc _ _ ?_).trans ?_ | refine (hf _ _ ?_).trans ?_) <;> first | assumption | (simp; done) | (simp; omega) | omega | (go_keep; done) | (simp [*, zcA, zcP, zfA, zfP]; done) | (simp [zcA, zcP]; rfl)) | (repeat' first | exact zbR _ _ | assumption | refine zbD ?_ | refine zbA ?_ ?_ _ | refine zbS ?_ ?_ _ | refine zbT ?_ (by assumption) ?_ | (simp; done) | (simp; omega) | omega)))
      refine takeT (v := ?_) 0 rfl (by kernel_rfl) (by kernel_rfl) (by kernel_rfl) (by kernel_rfl) (fun _ _ _ h => h) (Or.inl ⟨by rfl, ?_⟩) (by assumption) ?_; rotate_left
      · (intro w hSw; (try dsimp only at hSw); go_simp; try with_reducible rfl)
      try simp only [Act.put, zl, z0, z1]
      refine takeT (v := ?_) 1 rfl (by kernel_rfl) (by kernel_rfl) (by kernel_rfl) (by kernel_rfl) (fun _ _ _ h => h) (Or.inl ⟨by rfl, ?_⟩) (by assumption) ?_; rotate_left
      · (intro w hSw; (try dsimp only at hSw); go_simp; try with_reducible rfl)
      try simp only [Act.put, zl, z0, z1]
      refine takeT (v := ?_) 2 rfl (by kernel_rfl) (by kernel_rfl) (by kernel_rfl) (by kernel_rfl) (fun _ _ _ h => h) (Or.inl ⟨by rfl, ?_⟩) (by assumption) ?_; rotate_left
      · (intro w hSw; (try dsimp only at hSw); go_simp; try with_reducible rfl)
      try simp only [Act.put, zl, z0, z1]
      refine takeT (v := ?_) 3 rfl (by kernel_rfl) (by kernel_rfl) (by kernel_rfl) (by kernel_rfl) (fun _ _ _ h => h) (Or.inl ⟨by rfl, ?_⟩) (by assumption) ?_; rotate_left
      · (intro w hSw; (try dsimp only at hSw); go_simp; try with_reducible rfl)
      try simp only [Act.put, zl, z0, z1]
      refine takeT (v := ?_) 4 rfl (by kernel_rfl) (by kernel_rfl) (by kernel_rfl) (by kernel_rfl) (fun _ _ _ h => h) (Or.inl ⟨by rfl, ?_⟩) (by assumption) ?_; rotate_left
      · (intro w hSw; (try dsimp only at hSw); go_simp; try with_reducible rfl)
      try simp only [Act.put, zl, z0, z1]
      refine takeT (v := ?_) 5 rfl (by kernel_rfl) (by kernel_rfl) (by kernel_rfl) (by kernel_rfl) (fun _ _ _ h => h) (Or.inl ⟨by rfl, ?_⟩) (by assumption) ?_; rotate_left
      · (intro w hSw; (try dsimp only at hSw); go_simp; try with_reducible rfl)
      try simp only [Act.put, zl, z0, z1]
      refine takeT (v := ?_) 6 rfl (by kernel_rfl) (by kernel_rfl) (by kernel_rfl) (by kernel_rfl) (fun _ _ _ h => h) (Or.inl ⟨by rfl, ?_⟩) (by assumption) ?_; rotate_left
      · (intro w hSw; (try dsimp only at hSw); go_simp; try with_reducible rfl)
      try simp only [Act.put, zl, z0, z1]
      refine takeT (v := ?_) 7 rfl (by kernel_rfl) (by kernel_rfl) (by kernel_rfl) (by kernel_rfl) (fun _ _ _ h => h) (Or.inl ⟨by rfl, ?_⟩) (by assumption) ?_; rotate_left
      · (intro w hSw; (try dsimp only at hSw); go_simp; try with_reducible rfl)
      try simp only [Act.put, zl, z0, z1]
      refine takeT (v := ?_) 8 rfl (by kernel_rfl) (by kernel_rfl) (by kernel_rfl) (by kernel_rfl) (fun _ _ _ h => h) (Or.inl ⟨by rfl, ?_⟩) (by assumption) ?_; rotate_left
      · (intro w hSw; (try dsimp only at hSw); go_simp; try with_reducible rfl)
      try simp only [Act.put, zl, z0, z1]
      refine takeT (v := ?_) 9 rfl (by kernel_rfl) (by kernel_rfl) (by kernel_rfl) (by kernel_rfl) (fun _ _ _ h => h) (Or.inl ⟨by rfl, ?_⟩) (by assumption) ?_; rotate_left
      · (intro w hSw; (try dsimp only at hSw); go_simp; try with_reducible rfl)
      try simp only [Act.put, zl, z0, z1]
      refine takeT (v := ?_) 10 rfl (by kernel_rfl) (by kernel_rfl) (by kernel_rfl) (by kernel_rfl) (fun _ _ _ h => h) (Or.inl ⟨by rfl, ?_⟩) (by assumption) ?_; rotate_left
      · (intro w hSw; (try dsimp only at hSw); go_simp; try with_reducible rfl)
      try simp only [Act.put, zl, z0, z1]
      refine takeT (v := ?_) 11 rfl (by kernel_rfl) (by kernel_rfl) (by kernel_rfl) (by kernel_rfl) (fun _ _ _ h => h) (Or.inl ⟨by rfl, ?_⟩) (by assumption) ?_; rotate_left
      · (intro w hSw; (try dsimp only at hSw); go_simp; try with_reducible rfl)
      try simp only [Act.put, zl, z0, z1]
      refine takeT (v := ?_) 12 rfl (by kernel_rfl) (by kernel_rfl) (by kernel_rfl) (by kernel_rfl) (fun _ _ _ h => h) (Or.inl ⟨by rfl, ?_⟩) (by assumption) ?_; rotate_left
      · (intro w hSw; (try dsimp only at hSw); go_simp; try with_reducible rfl)
      try simp only [Act.put, zl, z0, z1]
      refine takeT (v := ?_) 13 rfl (by kernel_rfl) (by kernel_rfl) (by kernel_rfl) (by kernel_rfl) (fun _ _ _ h => h) (Or.inl ⟨by rfl, ?_⟩) (by assumption) ?_; rotate_left
      · (intro w hSw; (try dsimp only at hSw); go_simp; try with_reducible rfl)
      try simp only [Act.put, zl, z0, z1]
      refine takeT (v := ?_) 14 rfl (by kernel_rfl) (by kernel_rfl) (by kernel_rfl) (by kernel_rfl) (fun _ _ _ h => h) (Or.inl ⟨by rfl, ?_⟩) (by assumption) ?_; rotate_left
      · (intro w hSw; (try dsimp only at hSw); go_simp; try with_reducible rfl)
      try simp only [Act.put, zl, z0, z1]
      refine takeT (v := ?_) 15 rfl (by kernel_rfl) (by kernel_rfl) (by kernel_rfl) (by kernel_rfl) (fun _ _ _ h => h) (Or.inl ⟨by rfl, ?_⟩) (by assumption) ?_; rotate_left
      · (intro w hSw; (try dsimp only at hSw); go_simp; try with_reducible rfl)
      try simp only [Act.put, zl, z0, z1]
      refine takeT (v := ?_) 16 rfl (by kernel_rfl) (by kernel_rfl) (by kernel_rfl) (by kernel_rfl) (fun _ _ _ h => h) (Or.inl ⟨by rfl, ?_⟩) (by assumption) ?_; rotate_left
      · (intro w hSw; (try dsimp only at hSw); go_simp; try with_reducible rfl)
      try simp only [Act.put, zl, z0, z1]
      refine takeT (v := ?_) 17 rfl (by kernel_rfl) (by kernel_rfl) (by kernel_rfl) (by kernel_rfl) (fun _ _ _ h => h) (Or.inl ⟨by rfl, ?_⟩) (by assumption) ?_; rotate_left
      · (intro w hSw; (try dsimp only at hSw); go_simp; try with_reducible rfl)
      try simp only [Act.put, zl, z0, z1]
      refine takeT (v := ?_) 18 rfl (by kernel_rfl) (by kernel_rfl) (by kernel_rfl) (by kernel_rfl) (fun _ _ _ h => h) (Or.inl ⟨by rfl, ?_⟩) (by assumption) ?_; rotate_left
      · (intro w hSw; (try dsimp only at hSw); go_simp; try with_reducible rfl)
      try simp only [Act.put, zl, z0, z1]
      refine takeT (v := ?_) 19 rfl (by kernel_rfl) (by kernel_rfl) (by kernel_rfl) (by kernel_rfl) (fun _ _ _ h => h) (Or.inl ⟨by rfl, ?_⟩) (by assumption) ?_; rotate_left
      · (intro w hSw; (try dsimp only at hSw); go_simp; try with_reducible rfl)
      try simp only [Act.put, zl, z0, z1]
      refine wpAnyT_ready (rs := [20]) (by kernel_rfl) (by simp) ?_
      refine consT 20 rfl (fun K hK => ?_) AllReadyT.nil
      go_simp
      refine hK.out _ _ ?_ (fun hHeld1 => ?_)
      · (try dsimp only); first | exact hset _ _ (by assumption) | exact hS | (first | (go_keep; done) | (go_split_ands; (repeat' apply And.intro) <;> first | (go_keep; done) | (simp [*, zcA, zcP, zfA, zfP]; done) | (simp [zcA, zcP] <;> rfl) | (simp [*, zsS, zsO, zsA]; done) | ((first | refine (hc _ _ ?_).trans ?_ | refine (hf _ _ ?_).trans ?_) <;> first | assumption | (simp; done) | (simp; omega) | omega | (go_keep; done) | (simp [*, zcA, zcP, zfA, zfP]; done) | (simp [zcA, zcP]; rfl)) | (repeat' first | exact zbR _ _ | assumption | refine zbD ?_ | refine zbA ?_ ?_ _ | refine zbS ?_ ?_ _ | refine zbT ?_ (by assumption) ?_ | (simp; done) | (simp; omega) | omega)))
      clear hK K hHeld0
      try simp only [Act.put, zl, z0, z1]
      refine wpAnyT_ready (rs := [21]) (by kernel_rfl) (by simp) ?_
      refine consT 21 rfl (fun K hK => ?_) AllReadyT.nil
      go_simp
      refine hK.out _ _ ?_ (fun hHeld2 => ?_)
      · (try dsimp only); first | exact hHeld1 | (first | exact hset _ _ (by assumption) | exact hS | (first | (go_keep; done) | (go_split_ands; (repeat' apply And.intro) <;> first | (go_keep; done) | (simp [*, zcA, zcP, zfA, zfP]; done) | (simp [zcA, zcP] <;> rfl) | (simp [*, zsS, zsO, zsA]; done) | ((first | refine (hc _ _ ?_).trans ?_ | refine (hf _ _ ?_).trans ?_) <;> first | assumption | (simp; done) | (simp; omega) | omega | (go_keep; done) | (simp [*, zcA, zcP, zfA, zfP]; done) | (simp [zcA, zcP]; rfl)) | (repeat' first | exact zbR _ _ | assumption | refine zbD ?_ | refine zbA ?_ ?_ _ | refine zbS ?_ ?_ _ | refine zbT ?_ (by assumption) ?_ | (simp; done) | (simp; omega) | omega))))
      clear hK K hHeld1
      try simp only [Act.put, zl, z0, z1]
      refine takeT (v := ?_) 22 rfl (by kernel_rfl) (by kernel_rfl) (by kernel_rfl) (by kernel_rfl) (fun _ _ _ h => h) (Or.inl ⟨by rfl, ?_⟩) (by assumption) ?_; rotate_left
      · (intro w hSw; (try dsimp only at hSw); go_simp; try with_reducible rfl)
      try simp only [Act.put, zl, z0, z1]
      refine wpAnyT_ready (rs := [23]) (by kernel_rfl) (by simp) ?_
      refine lastT rfl (fun K hK => ?_)
      (try dsimp only at hHeld2)
      go_simp
      refine hK.out _ _ ?_
      clear hK K
      try simp only [Act.put, zl, z0, z1]
      refine wpAnyT_done (by kernel_rfl) ?_ _
      clear hset hS
      go_wp2_with fail
      go_roundw
      case rel =>
        refine ⟨i + 1, by omega, by go_num, hide ?_, hide ?_, hide ?_⟩
        · have h1 := (hO.out.stored (i * 4) (.int .i64 s.q)).1
          have h2 := (h1.stored (i * 4 + 1) (.int .i64 s.p)).1
          rw [L.mapTo_next HS.out, flatS_set2 (t := L.trS s) (L.mapTo_at HS.out) rfl rfl]
          exact h2
        · exact drew_blk (blk_other (blk_other hV.out (Ne.symm hgo') _ _) (Ne.symm hgo') _ _)
        · exact zbD (zbS (zbS hB.out (show W0.heap.size ≤ g by omega) _) (show W0.heap.size ≤ g by omega) _)
      case measure => simp [intOf]; omega
    · have hin : i = n := by omega
      subst hin
      have eT : L.mapTo L.trS v.ss i = v.ss.map L.trS := by
        have := L.mapTo_all L.trS v.ss
        rwa [HN.out] at this
      have HRT := hide (owns_RdS (by have := hO.out; rwa [eT] at this) (by rw [List.length_map]; exact HN.out) : RdS wr wr.heap.size A1 (v.ss.map L.trS))
      have HRV := hide ((HR0.out.below hB.out).mono szr)
      have HLT := hide (show (v.ss.map L.trS).length = i by rw [List.length_map]; exact HN.out)
      have bq := (hB.out.block q lq).trans GQ.out
      have lq2 := blk_lt bq
      have GBr := hide (GB.out.trans (hB.out.mono GB.out.size))
      obtain ⟨m1, hm1⟩ : ∃ y, L.callV v b = y := ⟨_, rfl⟩
      obtain ⟨e1, he1⟩ : ∃ y, L.callE v b = y := ⟨_, rfl⟩
      obtain ⟨g1, hg1⟩ : ∃ y, L.cenN v = y := ⟨_, rfl⟩
      obtain ⟨k1, hk1⟩ : ∃ y, L.cenE v = y := ⟨_, rfl⟩
      have C1 := hide hm1
      have C2 := hide he1
      have C3 := hide hg1
      have C4 := hide hk1
      have D1 := hide (show L.callV ⟨v.size, v.ss.map L.trS, v.wrong, v.hyl, v.hyh, v.hxl, v.hxh⟩ ⟨b.b, b.t, b.l, b.r⟩ = m1 from HTR.out.m.trans hm1)
      have D2 := hide (show L.callE ⟨v.size, v.ss.map L.trS, v.wrong, v.hyl, v.hyh, v.hxl, v.hxh⟩ ⟨b.b, b.t, b.l, b.r⟩ = e1 from HTR.out.e.trans he1)
      have D3 := hide (show L.cenN ⟨v.size, v.ss.map L.trS, v.wrong, v.hyl, v.hyh, v.hxl, v.hxh⟩ = g1 from HTR.out.a.trans hg1)
      have D4 := hide (show L.cenE ⟨v.size, v.ss.map L.trS, v.wrong, v.hyl, v.hyh, v.hxl, v.hxh⟩ = k1 from HTR.out.g.trans hk1)
      have cp0 := (blk_cell bp 0).trans rfl; have cp1 := (blk_cell bp 1).trans rfl; have cp2 := (blk_cell bp 2).trans rfl; have cp3 := (blk_cell bp 3).trans rfl; have cp4 := (blk_cell bp 4).trans rfl; have cp5 := (blk_cell bp 5).trans rfl; have cp6 := (blk_cell bp 6).trans rfl
      have cq0 := (blk_cell bq 0).trans rfl; have cq1 := (blk_cell bq 1).trans rfl; have cq2 := (blk_cell bq 2).trans rfl; have cq3 := (blk_cell bq 3).trans rfl
      have co0 := (blk_cell hgo 0).trans rfl; have co1 := (blk_cell hgo 1).trans rfl; have co2 := (blk_cell hgo 2).trans rfl; have co3 := (blk_cell hgo 3).trans rfl; have co4 := (blk_cell hgo 4).trans rfl; have co5 := (blk_cell hgo 5).trans rfl; have co6 := (blk_cell hgo 6).trans rfl
      have BQ := hide bq
      have BP := hide bp
      clear hm1 he1 hg1 hk1 bp bq hgo eT hO GO HO1 GO2 GV2 HOG hlt
      go_upto_region 10 with (go_at_call 17; refine (Call_any v A _ c b _ HN.out ((HRV.out.below (by (repeat' first | exact zbR _ _ | assumption | refine zbD ?_ | refine zbA ?_ ?_ _ | refine zbS ?_ ?_ _ | refine zbT ?_ (by assumption) ?_ | (simp; done) | (simp; omega) | omega))).mono (by first | (simp; done) | (simp; omega) | omega))).mono ?_; rintro e w12 ⟨rfl, hb12⟩; rw [C1.out, C2.out]; obtain ⟨hc12, hf12⟩ := bcell hb12; have q12 := hb12.size; (try simp only [World.size_alloc] at q12); have z12_p : p < w12.heap.size := (by omega); have z12_q : q < w12.heap.size := (by omega); have z12_o : o < w12.heap.size := (by omega))
      go_upto_region 11 with (go_at_call 17; refine (CallM v.size v.wrong v.hyl v.hyh v.hxl v.hxh (v.ss.map L.trS) A1 _ c1 b.b b.t b.l b.r _ HLT.out ((HRT.out.below (by (repeat' first | exact zbR _ _ | assumption | refine zbD ?_ | refine zbA ?_ ?_ _ | refine zbS ?_ ?_ _ | refine zbT ?_ (by assumption) ?_ | (simp; done) | (simp; omega) | omega))).mono (by first | (simp; done) | (simp; omega) | omega))).mono ?_; rintro e w13 ⟨rfl, hb13⟩; rw [D1.out, D2.out]; obtain ⟨hc13, hf13⟩ := bcell hb13; have q13 := hb13.size; (try simp only [World.size_alloc] at q13); have z13_p : p < w13.heap.size := (by omega); have z13_q : q < w13.heap.size := (by omega); have z13_o : o < w13.heap.size := (by omega))
      go_upto_region 12 with (go_at_call 24; refine (Centres_any' v A _ c _ HN.out ((HRV.out.below (by (repeat' first | exact zbR _ _ | assumption | refine zbD ?_ | refine zbA ?_ ?_ _ | refine zbS ?_ ?_ _ | refine zbT ?_ (by assumption) ?_ | (simp; done) | (simp; omega) | omega))).mono (by first | (simp; done) | (simp; omega) | omega))).mono ?_; rintro e w14 ⟨rfl, hb14⟩; rw [C3.out, C4.out]; obtain ⟨hc14, hf14⟩ := bcell hb14; have q14 := hb14.size; (try simp only [World.size_alloc] at q14); have z14_p : p < w14.heap.size := (by omega); have z14_q : q < w14.heap.size := (by omega); have z14_o : o < w14.heap.size := (by omega))
      by_cases hr : v.size < b.r
      · go_wp2_with (first | (go_at_call 24; refine (CentresM v.size v.wrong v.hyl v.hyh v.hxl v.hxh (v.ss.map L.trS) A1 _ c1 _ HLT.out ((HRT.out.below (by (repeat' first | exact zbR _ _ | assumption | refine zbD ?_ | refine zbA ?_ ?_ _ | refine zbS ?_ ?_ _ | refine zbT ?_ (by assumption) ?_ | (simp; done) | (simp; omega) | omega))).mono (by first | (simp; done) | (simp; omega) | omega))).mono ?_; rintro e w15 ⟨b1, b2, b3, b4, rfl, hb15⟩; rw [D3.out, D4.out]; obtain ⟨hc15, hf15⟩ := bcell hb15; have q15 := hb15.size; (try simp only [World.size_alloc] at q15); have z15_p : p < w15.heap.size := (by omega); have z15_q : q < w15.heap.size := (by omega); have z15_o : o < w15.heap.size := (by omega); have y15_p : p < w14.heap.size + 1 + 1 := (by omega); have y15_q : q < w14.heap.size + 1 + 1 := (by omega); have y15_o : o < w14.heap.size + 1 + 1 := (by omega)) | (go_at_call 16; refine (works_any _).mono ?_; rintro e w19 ⟨rfl, hb19⟩))
        go_ret
        exact ⟨rfl, GBr.out.trans ((show Below wr.heap.size wr _ by (repeat' first | exact zbR _ _ | assumption | refine zbD ?_ | refine zbA ?_ ?_ _ | refine zbS ?_ ?_ _ | refine zbT ?_ (by assumption) ?_ | (simp; done) | (simp; omega) | omega)).mono GBr.out.size)⟩
      · have hr' : b.r ≤ v.size := by omega
        clear hr
        go_upto_region 19 with (first | (go_at_call 24; refine (CentresM v.size v.wrong v.hyl v.hyh v.hxl v.hxh (v.ss.map L.trS) A1 _ c1 _ HLT.out ((HRT.out.below (by (repeat' first | exact zbR _ _ | assumption | refine zbD ?_ | refine zbA ?_ ?_ _ | refine zbS ?_ ?_ _ | refine zbT ?_ (by assumption) ?_ | (simp; done) | (simp; omega) | omega))).mono (by first | (simp; done) | (simp; omega) | omega))).mono ?_; rintro e w15 ⟨b1, b2, b3, b4, rfl, hb15⟩; rw [D3.out, D4.out]; obtain ⟨hc15, hf15⟩ := bcell hb15; have q15 := hb15.size; (try simp only [World.size_alloc] at q15); have z15_p : p < w15.heap.size := (by omega); have z15_q : q < w15.heap.size := (by omega); have z15_o : o < w15.heap.size := (by omega); have y15_p : p < w14.heap.size + 1 + 1 := (by omega); have y15_q : q < w14.heap.size + 1 + 1 := (by omega); have y15_o : o < w14.heap.size + 1 + 1 := (by omega)) | (go_at_call 26; refine (Copy_any v A _ c _ HN.out ((HRV.out.below (by (repeat' first | exact zbR _ _ | assumption | refine zbD ?_ | refine zbA ?_ ?_ _ | refine zbS ?_ ?_ _ | refine zbT ?_ (by assumption) ?_ | (simp; done) | (simp; omega) | omega))).mono (by first | (simp; done) | (simp; omega) | omega)) HA.out (by omega)).mono ?_; rintro e w17 ⟨A2, c2, rfl, hown17, hb17⟩; obtain ⟨hc17, hf17⟩ := bcell hb17; have q17 := hb17.size; (try simp only [World.size_alloc] at q17); have z17_p : p < w17.heap.size := (by omega); have z17_q : q < w17.heap.size := (by omega); have z17_o : o < w17.heap.size := (by omega); have y17_p : p < w15.heap.size + 1 + 1 := (by omega); have y17_q : q < w15.heap.size + 1 + 1 := (by omega)))
        obtain ⟨W3, hW3⟩ : ∃ W3, w17.alloc (.cells #[.int .i64 v.size, .slice A2 i c2, .int .i64 v.wrong, .int .i64 v.hxl, .int .i64 v.hxh, .int .i64 v.hyl, .int .i64 v.hyh] 26) = W3 := ⟨_, rfl⟩
        have go3 : W3.heap[w17.heap.size]? = some (.cells #[.int .i64 v.size, .slice A2 i c2, .int .i64 v.wrong, .int .i64 v.hxl, .int .i64 v.hxh, .int .i64 v.hyl, .int .i64 v.hyh] 26 (0, 0)) := by rw [← hW3]; exact World.alloc_heap_new _ _
        have gO3 : W3.ownsRow wr.heap.size 54 4 (.slice A2 i c2) i (flatS (L.mapTo (L.miS v.size) v.ss 0)) := by rw [← hW3, L.mapTo_zero]; exact (owns_mono hown17 (by simp; omega)).alloc _
        have HB3 := hide (show Below wr.heap.size wr W3 by rw [← hW3]; (repeat' first | exact zbR _ _ | assumption | refine zbD ?_ | refine zbA ?_ ?_ _ | refine zbS ?_ ?_ _ | refine zbT ?_ (by assumption) ?_ | (simp; done) | (simp; omega) | omega))
        rw [hW3]
        clear hW3
        obtain ⟨o2, ho2⟩ : ∃ o2, w17.heap.size = o2 := ⟨_, rfl⟩
        rw [ho2] at go3 ⊢
        have ho20 : wr.heap.size ≤ o2 := by omega
        have GO3 := hide go3
        have GN3 := hide gO3
        have BXB := hide (L.boxB_ok HBB.out)
        clear hb12 hb13 hb14 hb15 hb17 hc12 hf12 hc13 hf13 hc14 hf14 hc15 hf15 hc17 hf17 q12 q13 q14 q15 q17 hown17 go3 gO3 ho2 cp0 cp1 cp2 cp3 cp4 cp5 cp6 cq0 cq1 cq2 cq3 co0 co1 co2 co3 co4 co5 co6 z12_p z12_q z12_o z13_p z13_q z13_o z14_p z14_q z14_o z15_p z15_q z15_o z17_p z17_q z17_o y15_p y15_q y15_o y17_p y17_q
        obtain ⟨V0, hV0⟩ : ∃ V0, V0 = wr := ⟨_, rfl⟩
        subst hV0
        go_loopw [20] (fun t wq => ∃ j : Nat, j ≤ i ∧ t = .int .i64 j ∧ Hid (wq.ownsRow V0.heap.size 54 4 (.slice A2 i c2) i (flatS (L.mapTo (L.miS v.size) v.ss j))) ∧ Hid (wq.heap[o2]? = some (.cells #[.int .i64 v.size, .slice A2 i c2, .int .i64 v.wrong, .int .i64 v.hxl, .int .i64 v.hxh, .int .i64 v.hyl, .int .i64 v.hyh] 26 (0, 0))) ∧ Hid (Below V0.heap.size V0 wq)) (fun t _ => i - (intOf t).toNat)
        case atStart => exact ⟨0, by omega, rfl, GN3, GO3, HB3⟩
        case round =>
          obtain ⟨j, hj, rfl, hO, hV, hB4⟩ := hrel
          have bp := (hB4.out.block p lp2).trans BP.out
          have bq := (hB4.out.block q lq2).trans BQ.out
          have lp4 := blk_lt bp
          have lq4 := blk_lt bq
          have hgo := hV.out
          have lo4 := blk_lt hgo
          have hj0 : (0 : Int) ≤ (j : Int) := by omega
          have szr4 := hB4.out.size
          by_cases hlt : j < i
          · obtain ⟨s, hs⟩ : ∃ s, v.ss[j]? = some s := ⟨_, List.getElem?_eq_getElem (by have := HN.out; omega)⟩
            obtain ⟨b0, o0, hA, hbB, d0, d1, d2, d3⟩ := (HRV.out.below hB4.out) j s hs
            subst hA
            obtain ⟨g, hA1, hbg, hgl⟩ := owns_form hO.out (by omega)
            subst hA1
            have hgo' := own_view_ne hO.out hgo
            obtain ⟨x0, x1, x2, x3⟩ := flatS_at (L.mapTo_at (f := L.miS v.size) hs)
            have y0 := (hO.out.cellAt (j * 4) (by omega)).trans x0
            have y1 := (hO.out.cellAt (j * 4 + 1) (by omega)).trans x1
            have y2 := (hO.out.cellAt (j * 4 + 2) (by omega)).trans x2
            have y3 := (hO.out.cellAt (j * 4 + 3) (by omega)).trans x3
            have f0 := hO.out.frozenAt (j * 4)
            have f1 := hO.out.frozenAt (j * 4 + 1)
            have f2 := hO.out.frozenAt (j * 4 + 2)
            have f3 := hO.out.frozenAt (j * 4 + 3)
            have hlt' : (j : Int) < (i : Int) := by omega
            have lb0 : b0 < wr.heap.size := by omega
            have lo40 : V0.heap.size ≤ g := hbg
            have HS := hide hs
            have hok := HV.out.ok s (List.mem_of_getElem? hs)
            obtain ⟨pz0, pz1, qz0, qz1, lz0, lh, hz1⟩ := hok
            obtain ⟨mm0, mm1⟩ : -120 ≤ s.p * v.size ∧ s.p * v.size ≤ 120 := by have := L.mul_bd pz0 pz1 s0 s1; omega
            have cp0 := (blk_cell bp 0).trans rfl; have cp1 := (blk_cell bp 1).trans rfl; have cp2 := (blk_cell bp 2).trans rfl; have cp3 := (blk_cell bp 3).trans rfl; have cp4 := (blk_cell bp 4).trans rfl; have cp5 := (blk_cell bp 5).trans rfl; have cp6 := (blk_cell bp 6).trans rfl
            have co0 := (blk_cell hgo 0).trans rfl; have co1 := (blk_cell hgo 1).trans rfl; have co2 := (blk_cell hgo 2).trans rfl; have co3 := (blk_cell hgo 3).trans rfl; have co4 := (blk_cell hgo 4).trans rfl; have co5 := (blk_cell hgo 5).trans rfl; have co6 := (blk_cell hgo 6).trans rfl
            clear x0 x1 x2 x3 hs bp bq hgo
            go_wp2_with fail
            go_roundw
            case rel =>
              refine ⟨j + 1, by omega, by go_num, hide ?_, hide ?_, hide ?_⟩
              · have h1 := (hO.out.stored (j * 4) (.int .i64 (-s.p))).1
                have h2 := (h1.stored (j * 4 + 1) (.int .i64 s.q)).1
                have h3 := (h2.stored (j * 4 + 2) (.int .i64 (s.lo - s.p * v.size))).1
                have h4 := (h3.stored (j * 4 + 3) (.int .i64 (s.hi - s.p * v.size))).1
                rw [L.mapTo_next HS.out, flatS_set4 (t := L.miS v.size s) (L.mapTo_at HS.out)]
                exact h4.alloc _
              · have h4 := blk_other (blk_other (blk_other (blk_other hV.out (Ne.symm hgo') (j * 4) (.int .i64 (-s.p))) (Ne.symm hgo') (j * 4 + 1) (.int .i64 s.q)) (Ne.symm hgo') (j * 4 + 2) (.int .i64 (s.lo - s.p * v.size))) (Ne.symm hgo') (j * 4 + 3) (.int .i64 (s.hi - s.p * v.size))
                exact (Below.heap_alloc _ _ _ (blk_lt h4)).trans h4
              · exact zbA (zbS (zbS (zbS (zbS hB4.out lo40 _) lo40 _) lo40 _) lo40 _) (by simp only [size_setCell']; exact szr4) _
            case measure => simp [intOf]; omega
          · have hjn : j = i := by omega
            subst hjn
            have eM : L.mapTo (L.miS v.size) v.ss j = v.ss.map (L.miS v.size) := by
              have := L.mapTo_all (L.miS v.size) v.ss
              rwa [HN.out] at this
            have HRM := hide (owns_RdS (by have := hO.out; rwa [eM] at this) (by rw [List.length_map]; exact HN.out) : RdS wr wr.heap.size A2 (v.ss.map (L.miS v.size)))
            have HLM := hide (show (v.ss.map (L.miS v.size)).length = j by rw [List.length_map]; exact HN.out)
            have HRV4 := hide ((HRV.out.below hB4.out).mono szr4)
            have GB4 := hide (GBr.out.trans (hB4.out.mono GBr.out.size))
            obtain ⟨bl0, blr, br1, bb0, bbt, bt1⟩ := BXB.out
            have cp0 := (blk_cell bp 0).trans rfl; have cp1 := (blk_cell bp 1).trans rfl; have cp2 := (blk_cell bp 2).trans rfl; have cp3 := (blk_cell bp 3).trans rfl; have cp4 := (blk_cell bp 4).trans rfl; have cp5 := (blk_cell bp 5).trans rfl; have cp6 := (blk_cell bp 6).trans rfl
            have cq0 := (blk_cell bq 0).trans rfl; have cq1 := (blk_cell bq 1).trans rfl; have cq2 := (blk_cell bq 2).trans rfl; have cq3 := (blk_cell bq 3).trans rfl
            have co0 := (blk_cell hgo 0).trans rfl; have co1 := (blk_cell hgo 1).trans rfl; have co2 := (blk_cell hgo 2).trans rfl; have co3 := (blk_cell hgo 3).trans rfl; have co4 := (blk_cell hgo 4).trans rfl; have co5 := (blk_cell hgo 5).trans rfl; have co6 := (blk_cell hgo 6).trans rfl
            clear bp bq hgo eM hO hV hlt
            cases hvm : L.viewB ⟨v.size, v.ss.map (L.miS v.size), v.wrong, v.hxl, v.hxh, v.hyl, v.hyh⟩
            · have HC := hide (show L.checkE ⟨v.size, v.ss.map (L.miS v.size), v.wrong, v.hxl, v.hxh, v.hyl, v.hyh⟩ = 20 by unfold L.checkE; rw [hvm]; rfl)
              clear hvm
              go_wp2_with (first | (go_at_call 23; refine (CheckM v.size v.wrong v.hxl v.hxh v.hyl v.hyh (v.ss.map (L.miS v.size)) A2 _ c2 _ HLM.out ((HRM.out.below (by (repeat' first | exact zbR _ _ | assumption | refine zbD ?_ | refine zbA ?_ ?_ _ | refine zbS ?_ ?_ _ | refine zbT ?_ (by assumption) ?_ | (simp; done) | (simp; omega) | omega))).mono (by first | (simp; done) | (simp; omega) | omega))).mono ?_; rintro e w23 ⟨rfl, hb23⟩; rw [HC.out]; obtain ⟨hc23, hf23⟩ := bcell hb23; have q23 := hb23.size; (try simp only [World.size_alloc] at q23); have z23_p : p < w23.heap.size := (by omega); have z23_q : q < w23.heap.size := (by omega); have z23_o2 : o2 < w23.heap.size := (by omega)) | (go_at_call 16; refine (works_any _).mono ?_; rintro e w19 ⟨rfl, hb19⟩))
              go_ret
              exact ⟨rfl, GB4.out.trans ((show Below wr.heap.size wr _ by (repeat' first | exact zbR _ _ | assumption | refine zbD ?_ | refine zbA ?_ ?_ _ | refine zbS ?_ ?_ _ | refine zbT ?_ (by assumption) ?_ | (simp; done) | (simp; omega) | omega)).mono GB4.out.size)⟩
            · have HC := hide (show L.checkE ⟨v.size, v.ss.map (L.miS v.size), v.wrong, v.hxl, v.hxh, v.hyl, v.hyh⟩ = 0 by unfold L.checkE; rw [hvm]; rfl)
              have HMI := hide (L.mi_ok HVB.out HBB.out hr' hvm)
              obtain ⟨sl, hsl⟩ : ∃ y, L.slackV v b = y := ⟨_, rfl⟩
              have CS := hide hsl
              have F1 := hide (show L.callV ⟨v.size, v.ss.map (L.miS v.size), v.wrong, v.hxl, v.hxh, v.hyl, v.hyh⟩ ⟨v.size - b.r, v.size - b.l, b.b, b.t⟩ = m1 from HMI.out.m.trans C1.out)
              have F2 := hide (show L.callE ⟨v.size, v.ss.map (L.miS v.size), v.wrong, v.hxl, v.hxh, v.hyl, v.hyh⟩ ⟨v.size - b.r, v.size - b.l, b.b, b.t⟩ = e1 from HMI.out.e.trans C2.out)
              have F3 := hide (show L.slackV ⟨v.size, v.ss.map (L.miS v.size), v.wrong, v.hxl, v.hxh, v.hyl, v.hyh⟩ ⟨v.size - b.r, v.size - b.l, b.b, b.t⟩ = sl from HMI.out.s.trans hsl)
              clear hvm hsl
              go_upto_region 26 with (go_at_call 23; refine (CheckM v.size v.wrong v.hxl v.hxh v.hyl v.hyh (v.ss.map (L.miS v.size)) A2 _ c2 _ HLM.out ((HRM.out.below (by (repeat' first | exact zbR _ _ | assumption | refine zbD ?_ | refine zbA ?_ ?_ _ | refine zbS ?_ ?_ _ | refine zbT ?_ (by assumption) ?_ | (simp; done) | (simp; omega) | omega))).mono (by first | (simp; done) | (simp; omega) | omega))).mono ?_; rintro e w23 ⟨rfl, hb23⟩; rw [HC.out]; obtain ⟨hc23, hf23⟩ := bcell hb23; have q23 := hb23.size; (try simp only [World.size_alloc] at q23); have z23_p : p < w23.heap.size := (by omega); have z23_q : q < w23.heap.size := (by omega); have z23_o2 : o2 < w23.heap.size := (by omega))
              go_upto_region 27 with (go_at_call 17; refine (CallM v.size v.wrong v.hxl v.hxh v.hyl v.hyh (v.ss.map (L.miS v.size)) A2 _ c2 (v.size - b.r) (v.size - b.l) b.b b.t _ HLM.out ((HRM.out.below (by (repeat' first | exact zbR _ _ | assumption | refine zbD ?_ | refine zbA ?_ ?_ _ | refine zbS ?_ ?_ _ | refine zbT ?_ (by assumption) ?_ | (simp; done) | (simp; omega) | omega))).mono (by first | (simp; done) | (simp; omega) | omega))).mono ?_; rintro e w26 ⟨rfl, hb26⟩; rw [F1.out, F2.out]; obtain ⟨hc26, hf26⟩ := bcell hb26; have q26 := hb26.size; (try simp only [World.size_alloc] at q26); have z26_p : p < w26.heap.size := (by omega); have z26_q : q < w26.heap.size := (by omega); have z26_o2 : o2 < w26.heap.size := (by omega); have z26_w23 : w23.heap.size < w26.heap.size := (by omega))
              go_upto_region 28 with (go_at_call 27; refine (Slack_any v A _ c b _ HN.out ((HRV4.out.below (by (repeat' first | exact zbR _ _ | assumption | refine zbD ?_ | refine zbA ?_ ?_ _ | refine zbS ?_ ?_ _ | refine zbT ?_ (by assumption) ?_ | (simp; done) | (simp; omega) | omega))).mono (by first | (simp; done) | (simp; omega) | omega))).mono ?_; rintro e w27 ⟨rfl, hb27⟩; rw [CS.out, C2.out]; obtain ⟨hc27, hf27⟩ := bcell hb27; have q27 := hb27.size; (try simp only [World.size_alloc] at q27); have z27_p : p < w27.heap.size := (by omega); have z27_q : q < w27.heap.size := (by omega); have z27_o2 : o2 < w27.heap.size := (by omega); have z27_w23 : w23.heap.size < w27.heap.size := (by omega))
              go_wp2_with (first | (go_at_call 27; refine (SlackM v.size v.wrong v.hxl v.hxh v.hyl v.hyh (v.ss.map (L.miS v.size)) A2 _ c2 (v.size - b.r) (v.size - b.l) b.b b.t _ HLM.out ((HRM.out.below (by (repeat' first | exact zbR _ _ | assumption | refine zbD ?_ | refine zbA ?_ ?_ _ | refine zbS ?_ ?_ _ | refine zbT ?_ (by assumption) ?_ | (simp; done) | (simp; omega) | omega))).mono (by first | (simp; done) | (simp; omega) | omega))).mono ?_; rintro e w28 ⟨rfl, hb28⟩; rw [F3.out, F2.out]; obtain ⟨hc28, hf28⟩ := bcell hb28; have q28 := hb28.size; (try simp only [World.size_alloc] at q28); have z28_p : p < w28.heap.size := (by omega); have z28_q : q < w28.heap.size := (by omega); have z28_o2 : o2 < w28.heap.size := (by omega)) | (go_at_call 16; refine (works_any _).mono ?_; rintro e w19 ⟨rfl, hb19⟩))
              go_ret
              exact ⟨rfl, GB4.out.trans ((show Below wr.heap.size wr _ by (repeat' first | exact zbR _ _ | assumption | refine zbD ?_ | refine zbA ?_ ?_ _ | refine zbS ?_ ?_ _ | refine zbT ?_ (by assumption) ?_ | (simp; done) | (simp; omega) | omega)).mono GB4.out.size)⟩

theorem mirrorLaw_any (v : L.Vw) (A : Option Addr) (n c : Nat) (b : L.Bx) (w : World) (hn : v.ss.length = n) (hr : RdS w w.heap.size A v.ss) (hA : A = none → c = 0) :
    Calls Try.prog 6 #[.agg #[.int .i64 v.size, .slice A n c, .int .i64 v.wrong, .int .i64 v.hxl, .int .i64 v.hxh, .int .i64 v.hyl, .int .i64 v.hyh], .agg #[.int .i64 b.l, .int .i64 b.r, .int .i64 b.b, .int .i64 b.t]] w fun e w' => e = .returned (.bool true) ∧ Below w.heap.size w w' := by
  cases h : L.validB v b
  · exact mirrorLaw_out v A n c b w hn hr hA h
  · exact mirrorLaw_in v A n c b w hn hr hA h

end Go.Proofs.Ytgnobonhohfofaa

namespace Go.Proofs.Ytgnobonhohfofaa
open Go.ChangeShapes Go.WideShapes Go.ChangeAt Go.RowKit Go.Deep Go.Joins

theorem Try.ownLinesMirror : ownKnob Try.prog.godebug = none := by kernel_rfl

set_option maxRecDepth 100000 in
theorem linesMirror_call (H : Type) (enc : TypeId × Value → H) (W : World) (base : Nat) (args : Array Value) (ds : List (DataW H)) (p : List MemPlace) (hval : ∀ (j : Nat) t v, Try.f6.params[j]? = some t → args[j]? = some v → Value.okWide Try.prog W .any base t v)
    (hA : DataW.TrodAll enc Try.prog W 0 (fun _ => true) true Try.f6.params.toList args.toList ds p) : Calls Try.prog 6 args W fun e W' => e = .returned (.bool true) ∧ Below W.heap.size W W' := by
  rw [Try.params6] at hA hval
  obtain ⟨v0, v1, d0, d1, p0, p1, rfl, rfl, rfl, h0, h1⟩ := trodAll_two hA
  obtain ⟨x0, A0, n0, c0, rfl, hle0, hmx0, hn0, hr0, hno0, hwf0⟩ := open_view (hval 0 26 v0 rfl rfl) h0
  obtain ⟨x1, rfl, hwf1⟩ := open_box (hval 1 28 v1 rfl rfl) h1
  exact mirrorLaw_any x0 A0 n0 c0 x1 W hn0 hr0 hno0

set_option maxRecDepth 100000 in
theorem LinesMirror_holds : Rows.LinesMirrorSaid :=
  OpenClaim.holds_of_wide (p := Try.pinned) (s := Rows.linesMirrorSpec) (c := Rows.linesMirrorRow) 6 Try.f6 rfl rfl rfl rfl rfl rfl rfl ⟨rfl, rfl, rfl, rfl, rfl⟩ rfl rfl rfl rfl rfl (by kernel_rfl) Try.func6 (by kernel_rfl)
    (of_decide_eq_true (by kernel_rfl)) (by unfold Func.isWrapper; first | (rw [if_pos (by decide +kernel)]; kernel_rfl) | (rw [if_neg (by decide +kernel)]; exact ⟨rfl, rfl⟩))
    (fun os started H enc _ => law_lift (C := Try.checked) (F := 6) (fn := Try.f6) (s := Rows.linesMirrorSpec) (bt := 4) started Try.ownLinesMirror (by kernel_rfl) Try.func6 (by kernel_rfl) Try.underlying4 rfl laidOut (of_decide_eq_true (by kernel_rfl))
      (fun ds hds => match ds, hds with | [_, _], _ => rfl)
      (ChangeSpec.witness6 (enc := enc) (C := Try.checked) false ⟨#[], #[.agg #[.int .i64 0, .slice none 0 0, .int .i64 0, .int .i64 0, .int .i64 0, .int .i64 0, .int .i64 0], .agg #[.int .i64 0, .int .i64 0, .int .i64 0, .int .i64 0]], []⟩ 8 (by kernel_rfl) (by kernel_rfl) (by kernel_rfl) (by kernel_rfl))
      (fun W base args ds p hval hA _ => linesMirror_call H enc W base args ds p hval hA) _ _ _)

end Go.Proofs.Ytgnobonhohfofaa
