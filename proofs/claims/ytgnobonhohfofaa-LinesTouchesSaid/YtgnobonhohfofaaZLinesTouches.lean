/-
  For every view, every mark and every box the law LinesTouches returns true and leaves its arguments as they were. No condition.
-/
import Derived.Deep.CutRange
import Derived.Deep.DeepCutAuto
import Derived.Deep.RegionHeld3
import Derived.KernelRfl
import Derived.Test.YtgnobonhohfofaaZB01
import Derived.Test.YtgnobonhohfofaaZB02
namespace Go.Proofs.Ytgnobonhohfofaa
open Go.RowKit
attribute [local go_sem ↓] Go.wp_at_zero Go.wp_at_succ

theorem blk_new2 {w : World} {X Y : Obj} : ((w.alloc X).alloc Y).heap[w.heap.size + 1]? = some Y := by
  have := World.alloc_heap_new (w.alloc X) Y
  rwa [World.size_alloc] at this
theorem L.wrongFrom_take {ss : List L.St} {k : Nat} {s : L.St} (x y : Int) (hk : ss[k]? = some s) : L.wrongFrom x y 0 (ss.take (k + 1)) = L.wrongFrom x y 0 (ss.take k) ++ (if L.off x y 0 s then [(k : Int)] else []) := by
  rw [List.take_add_one, hk, Option.toList_some, L.wrongFrom_append]
  have hl : (ss.take k).length = k := by rw [List.length_take]; have := (List.getElem?_eq_some_iff.1 hk).1; omega
  rw [hl, Nat.zero_add]
  simp only [L.wrongFrom]
theorem L.off_zero (x y : Int) (s : L.St) : L.off x y 0 s = !L.within (s.p * x + s.q * y) s.lo s.hi := by unfold L.off; rw [Int.sub_zero, Int.add_zero]

set_option maxRecDepth 100000 in
set_option maxHeartbeats 3200000 in
theorem refWrong_any (v : L.Vw) (A : Option Addr) (n c : Nat) (x y : Int) (w : World) (hn : v.ss.length = n) (hr : RdS w w.heap.size A v.ss) (ho : ∀ s ∈ v.ss, L.StOk s) (h8 : n ≤ 8) (hx0 : 0 ≤ x) (hx1 : x ≤ 40) (hy0 : 0 ≤ y) (hy1 : y ≤ 40) :
    Calls Try.prog 50 #[.agg #[.int .i64 v.size, .slice A n c, .int .i64 v.wrong, .int .i64 v.hxl, .int .i64 v.hxh, .int .i64 v.hyl, .int .i64 v.hyh], .int .i64 x, .int .i64 y] w fun e w' => ∃ sv c', e = .returned (.slice sv (L.wrongL v x y).length c') ∧ w'.ownsRow w.heap.size 3 1 (.slice sv (L.wrongL v x y).length c') (L.wrongL v x y).length (flatI (L.wrongL v x y)) ∧ Below w.heap.size w w' := by
  have HN := hide hn
  have HR := hide hr
  have HO := hide ho
  clear hn hr ho
  go_enter Try.func50, Try.ntmps50
  go_wp2
  go_loopw [7, 8] (fun m i wr => ∃ j : Nat, j ≤ n ∧ i = .int .i64 j ∧ (∃ sv c', m = .slice sv (L.wrongFrom x y 0 (v.ss.take j)).length c' ∧ Hid (wr.ownsRow (w.heap.size + 1) 3 1 (.slice sv (L.wrongFrom x y 0 (v.ss.take j)).length c') (L.wrongFrom x y 0 (v.ss.take j)).length (flatI (L.wrongFrom x y 0 (v.ss.take j))))) ∧ Below (w.heap.size + 1) (w.alloc (.cells #[.int .i64 v.size, .slice A n c, .int .i64 v.wrong, .int .i64 v.hxl, .int .i64 v.hxh, .int .i64 v.hyl, .int .i64 v.hyh] 26)) wr) (fun _ i _ => n - (intOf i).toNat)
  case atStart => exact ⟨0, by omega, rfl, ⟨none, 0, rfl, hide (World.ownsRow_nil _ _ _ _)⟩, by (repeat' first | exact zbR _ _ | assumption | refine zbD ?_ | refine zbA ?_ ?_ _ | refine zbS ?_ ?_ _ | refine zbT ?_ (by assumption) ?_ | (simp; done) | (simp; omega) | omega)⟩
  case round =>
    obtain ⟨j, hj, rfl, ⟨sv, c', rfl, hown⟩, hB⟩ := hrel
    have hBs := hB.size
    simp only [World.size_alloc] at hBs
    have hB0 : Below w.heap.size w wr := ((Below.refl _ w).alloc (Nat.le_refl _) _).trans (hB.mono (by omega))
    have k1 : wr.cell? ⟨w.heap.size, 1, none⟩ = some (.slice A n c) := (hB.cell (p := ⟨w.heap.size, 1, none⟩) (by show w.heap.size < _; omega)).trans (zcA _ _ _ _ rfl)
    have hm : (L.wrongFrom x y 0 (v.ss.take j)).length ≤ 8 := by
      rw [L.wrongFrom_length]; have := L.many_take_le v.ss j x y 0; omega
    by_cases hlt : j < n
    · obtain ⟨s, hs⟩ : ∃ s, v.ss[j]? = some s := ⟨_, List.getElem?_eq_getElem (by have := HN.out; omega)⟩
      obtain ⟨b, o, hA, hbB, d0, d1, d2, d3⟩ := (HR.out.below hB0) j s hs
      subst hA
      obtain ⟨p0, p1, q0, q1, l0, lh, h1⟩ := HO.out s (List.mem_of_getElem? hs)
      obtain ⟨m0, m1⟩ : -120 ≤ s.p * x ∧ s.p * x ≤ 120 := by have := L.mul_bd p0 p1 hx0 hx1; omega
      obtain ⟨m2, m3⟩ : -120 ≤ s.q * y ∧ s.q * y ≤ 120 := by have := L.mul_bd q0 q1 hy0 hy1; omega
      have HM := hide (L.wrongFrom_take x y hs)
      have HZ := hide (L.off_zero x y s)
      clear hs
      have hlt' : (j : Int) < (n : Int) := by omega
      have hj0 : (0 : Int) ≤ (j : Int) := by omega
      cases hv : L.within (s.p * x + s.q * y) s.lo s.hi
      · have HE : Hid (L.wrongFrom x y 0 (v.ss.take (j + 1)) = L.wrongFrom x y 0 (v.ss.take j) ++ [(j : Int)]) := hide (by rw [HM.out, HZ.out, hv]; rfl)
        have HL := hide (show (L.wrongFrom x y 0 (v.ss.take (j + 1))).length = (L.wrongFrom x y 0 (v.ss.take j)).length + 1 by rw [HE.out, List.length_append]; rfl)
        go_wp2_with (first | (go_at_call 57; refine (refWithin_any _ _ _ _).mono ?_; rintro e w3 ⟨rfl, rfl⟩; rw [hv]) | (refine wpList_app_at rfl (.tmp 37) (.tmp 39) rfl (w.heap.size + 1) _ (L.wrongFrom x y 0 (v.ss.take j)) _ rfl (owns_below hown.out (((Below.refl _ wr).alloc (Nat.le_refl _) _).alloc (by first | (simp; done) | (simp; omega) | omega) _)) (some ⟨wr.heap.size + 1, 0, none⟩) 1 1 [(j : Int)] rfl rfl (rdI_one blk_new2) (fun e => by cases e) (by omega) (by omega) (by first | (simp; done) | (simp; omega) | omega) ?_; intro A2 c2 w5 hown2 hgrow; have hg5 := grown_below (B := w.heap.size + 1) hgrow (by first | (simp; done) | (simp; omega) | omega) (fun g hg => (hown.out.lt g hg).1); have HO2 := hide hown2; clear hown2 hgrow))
        go_roundw
        case rel => exact ⟨j + 1, by omega, by go_num, ⟨A2, c2, by rw [HL.out], hide (by rw [HL.out, HE.out]; exact HO2.out)⟩, (hB.trans (((Below.refl _ wr).alloc (by omega) _).alloc (by simp; omega) _)).trans hg5⟩
        case measure => simp [intOf]; omega
      · have HE : Hid (L.wrongFrom x y 0 (v.ss.take (j + 1)) = L.wrongFrom x y 0 (v.ss.take j)) := hide (by rw [HM.out, HZ.out, hv]; simp)
        go_wp2_with (go_at_call 57; refine (refWithin_any _ _ _ _).mono ?_; rintro e w3 ⟨rfl, rfl⟩; rw [hv])
        go_roundw
        case rel => exact ⟨j + 1, by omega, by go_num, ⟨sv, c', by rw [HE.out], hide (by rw [HE.out]; exact owns_below hown.out ((Below.refl _ wr).alloc (Nat.le_refl _) _))⟩, by (repeat' first | exact zbR _ _ | assumption | refine zbD ?_ | refine zbA ?_ ?_ _ | refine zbS ?_ ?_ _ | refine zbT ?_ (by assumption) ?_ | (simp; done) | (simp; omega) | omega)⟩
        case measure => simp [intOf]; omega
    · have hjn : j = n := by omega
      subst hjn
      have HE : Hid (L.wrongFrom x y 0 (v.ss.take j) = L.wrongL v x y) := hide (by rw [List.take_of_length_le (by have := HN.out; omega)]; rfl)
      go_wp2_with fail
      go_ret
      refine ⟨sv, c', ?_, ?_, hB0⟩
      · rw [← HE.out]; rfl
      · rw [← HE.out]; exact owns_mono hown.out (by omega)

end Go.Proofs.Ytgnobonhohfofaa

namespace Go.Proofs.Ytgnobonhohfofaa
open Go.RowKit
attribute [local go_sem ↓] Go.wp_at_zero Go.wp_at_succ

def flatS (ss : List L.St) : List Value := ss.flatMap fun s => [.int .i64 s.p, .int .i64 s.q, .int .i64 s.lo, .int .i64 s.hi]
theorem flatS_length : ∀ ss : List L.St, (flatS ss).length = ss.length * 4
  | [] => rfl
  | s :: r => by
    have := flatS_length r
    simp only [flatS, List.flatMap_cons, List.length_append, List.length_cons, List.length_nil] at this ⊢
    omega
theorem flatS_at : ∀ {ss : List L.St} {k : Nat} {s : L.St}, ss[k]? = some s → (flatS ss)[k * 4]? = some (.int .i64 s.p) ∧ (flatS ss)[k * 4 + 1]? = some (.int .i64 s.q) ∧ (flatS ss)[k * 4 + 2]? = some (.int .i64 s.lo) ∧ (flatS ss)[k * 4 + 3]? = some (.int .i64 s.hi)
  | [], k, s, h => by simp at h
  | a :: r, 0, s, h => by
    have h' : a = s := Option.some.inj h
    subst h'
    exact ⟨rfl, rfl, rfl, rfl⟩
  | a :: r, k + 1, s, h => by
    have ih := flatS_at (ss := r) (k := k) (s := s) h
    have e : (k + 1) * 4 = k * 4 + 4 := by omega
    rw [e]
    exact ih
theorem flatS_one (ss : List L.St) : ∀ u ∈ flatS ss, u.oneCell' = true := by
  intro u hu
  simp only [flatS, List.mem_flatMap, List.mem_cons, List.not_mem_nil, or_false] at hu
  obtain ⟨s, _, rfl | rfl | rfl | rfl⟩ := hu <;> rfl
theorem flatS_app (a b : List L.St) : flatS (a ++ b) = flatS a ++ flatS b := by unfold flatS; simp
theorem flatS_cells {w : World} {B : Nat} {a : Addr} {ss : List L.St} (h : RdS w B (some a) ss) : ∀ j u, (flatS ss)[j]? = some u → w.cell? (a.add j) = some u := by
  intro j u hj
  have hl : j < ss.length * 4 := by rw [← flatS_length]; exact (List.getElem?_eq_some_iff.1 hj).1
  obtain ⟨s, hs⟩ : ∃ s, ss[j / 4]? = some s := ⟨_, List.getElem?_eq_getElem (by omega)⟩
  obtain ⟨b, o, e, _, c0, c1, c2, c3⟩ := h (j / 4) s hs
  injection e with e
  subst e
  obtain ⟨h0, h1, h2, h3⟩ := flatS_at hs
  rw [add_plain]
  obtain hm | hm | hm | hm : j % 4 = 0 ∨ j % 4 = 1 ∨ j % 4 = 2 ∨ j % 4 = 3 := by omega
  · have e : j / 4 * 4 = j := by omega
    rw [e] at h0 c0
    rw [hj] at h0
    rw [c0]; exact h0.symm
  · have e : j / 4 * 4 + 1 = j := by omega
    rw [e] at h1
    rw [Nat.add_assoc, e] at c1
    rw [hj] at h1
    rw [c1]; exact h1.symm
  · have e : j / 4 * 4 + 2 = j := by omega
    rw [e] at h2
    rw [Nat.add_assoc, Nat.add_assoc, e] at c2
    rw [hj] at h2
    rw [c2]; exact h2.symm
  · have e : j / 4 * 4 + 3 = j := by omega
    rw [e] at h3
    rw [Nat.add_assoc, Nat.add_assoc, Nat.add_assoc, e] at c3
    rw [hj] at h3
    rw [c3]; exact h3.symm
theorem owns_RdS {w : World} {base : Nat} {A : Option Addr} {n c : Nat} {ss : List L.St} (h : w.ownsRow base 54 4 (.slice A n c) n (flatS ss)) (hn : ss.length = n) : RdS w w.heap.size A ss := by
  intro k s hk
  have hkl : k < n := by rw [← hn]; exact (List.getElem?_eq_some_iff.1 hk).1
  obtain ⟨g, cap, e, hbg, hh⟩ := h.form (by omega)
  have e' : A = some ⟨g, 0, none⟩ ∧ c = cap := by
    simp only [Value.slice.injEq] at e
    exact ⟨e.1, e.2.2⟩
  obtain ⟨rfl, rfl⟩ := e'
  obtain ⟨h0, h1, h2, h3⟩ := flatS_at hk
  refine ⟨g, 0, rfl, (h.lt g rfl).2, ?_, ?_, ?_, ?_⟩
  · rw [Nat.zero_add, h.cellAt (k * 4) (by omega)]; exact h0
  · rw [Nat.zero_add, h.cellAt (k * 4 + 1) (by omega)]; exact h1
  · rw [Nat.zero_add, h.cellAt (k * 4 + 1 + 1) (by omega)]; exact h2
  · rw [Nat.zero_add, h.cellAt (k * 4 + 1 + 1 + 1) (by omega)]; exact h3
theorem strip_info : (Try.prog.info? 54).map (fun i => (i.zero, i.size, i.bytes)) = some (some (.agg #[.int .i64 0, .int .i64 0, .int .i64 0, .int .i64 0]), 4, 32) := by kernel_rfl
theorem RdS.none {w : World} {B : Nat} {ss : List L.St} (h : RdS w B none ss) : ss = [] := by
  match ss, h with
  | [], _ => rfl
  | x :: r, h => obtain ⟨_, _, e, _⟩ := h 0 x rfl; cases e
theorem owns_emptyS {w : World} {b : Nat} {base : Nat} (hb : w.heap[b]? = some (.cells #[] 54 (0, 0))) (hle : base ≤ b) : w.ownsRow base 54 4 (.slice (some ⟨b, 0, none⟩) 0 0) 0 (flatS []) :=
  ⟨rfl, .inr ⟨b, 0, #[], rfl, hle, hb, Nat.le_refl _, Nat.zero_le _, rfl, rfl⟩⟩

theorem run_app_strips {w : World} (ty : TypeId) (base : Nat) (v : Value) (ps : List L.St) (m0 : Nat) (hown : w.ownsRow base 54 4 v m0 (flatS ps))
    (A : Option Addr) (n c : Nat) (ss : List L.St) (hn : ss.length = n) (hr : RdS w w.heap.size A ss) (hA : A = none → c = 0) (h0 : m0 ≤ 1000) (h1 : n ≤ 1000) (hbase : base ≤ w.heap.size) :
    ∃ A' c' w', (Builtin.append_ #[22, 22] ty #[v, .slice A n c]).run Try.prog w = .ok (.slice A' (m0 + n) c') w' ∧ w'.ownsRow base 54 4 (.slice A' (m0 + n) c') (m0 + n) (flatS (ps ++ ss)) ∧ w.grownBy w' v.ownBlock := by
  obtain ⟨i, hi, hz0, hz1, hz2⟩ := info_parts strip_info
  rcases A with _ | ad
  · have hx0 : ss = [] := hr.none
    subst hx0
    have hn0 : n = 0 := by simpa using hn.symm
    subst hn0
    have hc0 := hA rfl
    subst hc0
    obtain ⟨A', c', rfl⟩ := own_form hown
    have hrun := run_append_owned_none (P := Try.prog) (w := w) base 22 ty 54 i 4 Try.underlying22 hi (.slice A' m0 c') m0 (flatS ps) hown
    exact ⟨A', c', w, hrun, by simpa using hown, World.grownBy.refl w _⟩
  · obtain ⟨v', w', hrun, h2, h3, _, _⟩ := run_append_own_at (P := Try.prog) w base 22 ty 54 i _ 4 32 Try.underlying22 hi hz0 hz1 hz2 (by rfl) (by decide) v m0 (flatS ps) hown ad n c (flatS ss) (by rw [flatS_length]; omega) (flatS_cells hr) (flatS_one ss) (by unfold maxLen; omega) (by omega) hbase
    obtain ⟨A', c', rfl⟩ := own_form h2
    exact ⟨A', c', w', hrun, by rw [flatS_app]; exact h2, h3⟩
theorem wpList_app_strips {w : World} {ops : Array Oper} {rest : List Oper} {o : Oper} {a : Act} {Q : Exit → Act → World → Prop} (hgd : o.guard = none) (s x : Operand)
    (ho : o.op = .call { callee := .builtin .append, args := #[s, x], argTypes := #[22, 22] }) (base : Nat) (v : Value) (ps : List L.St) (m0 : Nat) (hs : a.eval s = v) (hown : w.ownsRow base 54 4 v m0 (flatS ps))
    (A : Option Addr) (n c : Nat) (ss : List L.St) (hx : a.eval x = .slice A n c) (hn : ss.length = n) (hr : RdS w w.heap.size A ss) (hA : A = none → c = 0) (h0 : m0 ≤ 1000) (h1 : n ≤ 1000) (hbase : base ≤ w.heap.size) (N : Nat) (hN : m0 + n = N)
    (h : ∀ A' c' w', w'.ownsRow base 54 4 (.slice A' N c') N (flatS (ps ++ ss)) → w.grownBy w' v.ownBlock → wpList Try.prog ops Q rest (a.put o.dst (.slice A' N c')) w') :
    wpList Try.prog ops Q (o :: rest) a w := by
  subst hN
  refine wpList_plain hgd fun K hK => ?_
  obtain ⟨A', c', w', hr', h2, h3⟩ := run_app_strips o.type base v ps m0 hown A n c ss hn hr hA h0 h1 hbase
  unfold Oper.wp execOp
  simp only [ho, resolve, invoke, builtin, Sem.run_bind, Sem.run_pure, Result.andThen_ok, List.map_toArray, List.map_cons, List.map_nil, hs, hx, hr']
  exact hK _ _ (h A' c' w' h2 h3)

theorem blk_new4 {w : World} {X Y Z V : Obj} : ((((w.alloc X).alloc Y).alloc Z).alloc V).heap[w.heap.size + 1 + 1 + 1]? = some V := by
  have := World.alloc_heap_new (((w.alloc X).alloc Y).alloc Z) V
  rwa [World.size_alloc, World.size_alloc, World.size_alloc] at this

theorem copy_results {Z : World} {g : Nat} {x0 x1 x2 x3 x4 x5 x6 : Value} {cs tmps : Array Value} (h3 : Z.heap[g]? = some (.cells cs 26 (0, 0)))
    (e3 : cs = #[x0, x1, x2, x3, x4, x5, x6]) (t2 : tmps[2]? = some (.pointer (some ⟨g, 0, none⟩))) :
    (results Try.f26 tmps).run Try.prog Z = .ok (.agg #[x0, x1, x2, x3, x4, x5, x6]) Z := by
  subst e3
  have k0 : Z.cell? ⟨g, 0, none⟩ = some x0 := blk_cell h3 0
  have k1 : Z.cell? ⟨g, 1, none⟩ = some x1 := blk_cell h3 1
  have k2 : Z.cell? ⟨g, 2, none⟩ = some x2 := blk_cell h3 2
  have k3 : Z.cell? ⟨g, 3, none⟩ = some x3 := blk_cell h3 3
  have k4 : Z.cell? ⟨g, 4, none⟩ = some x4 := blk_cell h3 4
  have k5 : Z.cell? ⟨g, 5, none⟩ = some x5 := blk_cell h3 5
  have k6 : Z.cell? ⟨g, 6, none⟩ = some x6 := blk_cell h3 6
  simp [results, Try.results26, go_sem, t2, k0, k1, k2, k3, k4, k5, k6]

set_option maxRecDepth 100000 in
set_option maxHeartbeats 3200000 in
theorem Copy_any (v : L.Vw) (A : Option Addr) (n c : Nat) (w : World) (hn : v.ss.length = n) (hr : RdS w w.heap.size A v.ss) (hA : A = none → c = 0) (h40 : n ≤ 1000) :
    Calls Try.prog 26 #[.agg #[.int .i64 v.size, .slice A n c, .int .i64 v.wrong, .int .i64 v.hxl, .int .i64 v.hxh, .int .i64 v.hyl, .int .i64 v.hyh]] w fun e w' => ∃ A' c', e = .returned (.agg #[.int .i64 v.size, .slice A' n c', .int .i64 v.wrong, .int .i64 v.hxl, .int .i64 v.hxh, .int .i64 v.hyl, .int .i64 v.hyh]) ∧ w'.ownsRow w.heap.size 54 4 (.slice A' n c') n (flatS v.ss) ∧ Below w.heap.size w w' := by
  have HN := hide hn
  have HR := hide hr
  clear hn hr
  go_enter Try.func26, Try.ntmps26
  go_wp2_with (refine wpList_app_strips rfl (.tmp 5) (.tmp 7) rfl (w.heap.size + 1 + 1 + 1) _ [] 0 rfl (owns_emptyS blk_new4 (Nat.le_refl _)) A n c v.ss rfl HN.out ((HR.out.below (by (repeat' first | exact zbR _ _ | assumption | refine zbD ?_ | refine zbA ?_ ?_ _ | refine zbS ?_ ?_ _ | refine zbT ?_ (by assumption) ?_ | (simp; done) | (simp; omega) | omega))).mono (by first | (simp; done) | (simp; omega) | omega)) hA (by omega) h40 (by first | (simp; done) | (simp; omega) | omega) n (by omega) ?_; intro A' c' w5 hown hgrow; have hg5 := grown_below (B := w.heap.size + 1 + 1 + 1) hgrow (by first | (simp; done) | (simp; omega) | omega) (fun g hg => by cases hg; simp); have HO := hide hown; have q5 := hg5.size; (try simp only [World.size_alloc] at q5); have k3 := (hg5.block (w.heap.size + 1 + 1) (by omega)).trans ((Below.heap_alloc _ _ _ (by first | (simp; done) | (simp; omega))).trans ((congrArg _ (by simp)).trans (World.alloc_heap_new _ _))); have k2 := (hg5.block (w.heap.size + 1) (by omega)).trans ((Below.heap_alloc _ _ _ (by first | (simp; done) | (simp; omega))).trans ((Below.heap_alloc _ _ _ (by first | (simp; done) | (simp; omega))).trans ((congrArg _ (by simp)).trans (World.alloc_heap_new _ _)))); have c0 := (blk_cell k3 0).trans rfl; have f0 := blk_frozen k3 0; have d0 := (blk_cell k2 0).trans rfl; have g0 := blk_frozen k2 0; have c1 := (blk_cell k3 1).trans rfl; have f1 := blk_frozen k3 1; have d1 := (blk_cell k2 1).trans rfl; have g1 := blk_frozen k2 1; have c2 := (blk_cell k3 2).trans rfl; have f2 := blk_frozen k3 2; have d2 := (blk_cell k2 2).trans rfl; have g2 := blk_frozen k2 2; have c3 := (blk_cell k3 3).trans rfl; have f3 := blk_frozen k3 3; have d3 := (blk_cell k2 3).trans rfl; have g3 := blk_frozen k2 3; have c4 := (blk_cell k3 4).trans rfl; have f4 := blk_frozen k3 4; have d4 := (blk_cell k2 4).trans rfl; have g4 := blk_frozen k2 4; have c5 := (blk_cell k3 5).trans rfl; have f5 := blk_frozen k3 5; have d5 := (blk_cell k2 5).trans rfl; have g5 := blk_frozen k2 5; have c6 := (blk_cell k3 6).trans rfl; have f6 := blk_frozen k3 6; have d6 := (blk_cell k2 6).trans rfl; have g6 := blk_frozen k2 6; have z2 : w.heap.size + 1 < w5.heap.size := (by omega); have z3 : w.heap.size + 1 + 1 < w5.heap.size := (by omega); have K2 := hide k2; clear hown hgrow k2 k3)
  refine bodyPost_ret (v := .agg #[.int .i64 v.size, .slice A' n c', .int .i64 v.wrong, .int .i64 v.hxl, .int .i64 v.hxh, .int .i64 v.hyl, .int .i64 v.hyh]) (copy_results (blk_set (blk_set (blk_set (blk_set (blk_set (blk_set (blk_set (blk_other K2.out (by omega) 1 _) 0 _) 1 _) 2 _) 3 _) 4 _) 5 _) 6 _) rfl rfl) rfl ?_
  have hB5 : Below w.heap.size w w5 := by (repeat' first | exact zbR _ _ | assumption | refine zbD ?_ | refine zbA ?_ ?_ _ | refine zbS ?_ ?_ _ | refine zbT ?_ (by assumption) ?_ | (simp; done) | (simp; omega) | omega)
  have e0 : flatS ([] ++ v.ss) = flatS v.ss := by rw [List.nil_append]
  refine ⟨A', c', rfl, ?_, ?_⟩
  · rw [← e0]
    exact owns_mono (ownsRow_setCell_below (ownsRow_setCell_below (ownsRow_setCell_below (ownsRow_setCell_below (ownsRow_setCell_below (ownsRow_setCell_below (ownsRow_setCell_below (ownsRow_setCell_below (HO.out) (show w.heap.size + 1 + 1 < w.heap.size + 1 + 1 + 1 by omega) _) (show w.heap.size + 1 < w.heap.size + 1 + 1 + 1 by omega) _) (show w.heap.size + 1 < w.heap.size + 1 + 1 + 1 by omega) _) (show w.heap.size + 1 < w.heap.size + 1 + 1 + 1 by omega) _) (show w.heap.size + 1 < w.heap.size + 1 + 1 + 1 by omega) _) (show w.heap.size + 1 < w.heap.size + 1 + 1 + 1 by omega) _) (show w.heap.size + 1 < w.heap.size + 1 + 1 + 1 by omega) _) (show w.heap.size + 1 < w.heap.size + 1 + 1 + 1 by omega) _) (by omega)
  · exact zbS (zbS (zbS (zbS (zbS (zbS (zbS (zbS (hB5) (show w.heap.size ≤ w.heap.size + 1 + 1 by omega) _) (show w.heap.size ≤ w.heap.size + 1 by omega) _) (show w.heap.size ≤ w.heap.size + 1 by omega) _) (show w.heap.size ≤ w.heap.size + 1 by omega) _) (show w.heap.size ≤ w.heap.size + 1 by omega) _) (show w.heap.size ≤ w.heap.size + 1 by omega) _) (show w.heap.size ≤ w.heap.size + 1 by omega) _) (show w.heap.size ≤ w.heap.size + 1 by omega) _

end Go.Proofs.Ytgnobonhohfofaa

namespace Go.Proofs.Ytgnobonhohfofaa
open Go.RowKit
attribute [local go_sem ↓] Go.wp_at_zero Go.wp_at_succ

namespace L
def touE (m : Mk) (b : Bx) : Int := if boxB b then (if markB m 40 1 9 1 9 then 0 else 22) else 21
def touV (m : Mk) (b : Bx) : Bool := boxB b && (markB m 40 1 9 1 9 && touch m b)
theorem markB_ok {m : Mk} (h : markB m 40 1 9 1 9 = true) : MkOk m := by
  unfold markB within at h
  simp only [Bool.and_eq_true, decide_eq_true_eq] at h
  obtain ⟨⟨⟨⟨a, b⟩, c, d⟩, e, f⟩, g, i⟩ := h
  exact ⟨a, b, c, d, e, f, g, i⟩
def showE (v : Vw) (b : Bx) (call : Int) : Int := if checkBE v b = 0 then (if sure call then (if (findC v b 0 call).isSome then 0 else 3) else 22) else checkBE v b
def showM (v : Vw) (b : Bx) (call : Int) : Mk := if checkBE v b = 0 then (if sure call then foundM v b 0 call else ⟨0, 0, 0, 0⟩) else ⟨0, 0, 0, 0⟩
theorem found_none {v : Vw} {b : Bx} {k call : Int} (h : (findC v b k call).isSome = false) : foundM v b k call = ⟨0, 0, 0, 0⟩ := by
  unfold foundM
  cases hf : findC v b k call
  · rfl
  · rw [hf] at h; cases h
end L

set_option maxRecDepth 100000 in
set_option maxHeartbeats 800000 in
theorem Touches_any (m : L.Mk) (b : L.Bx) (w : World) :
    Calls Try.prog 19 #[.agg #[.int .i64 m.x, .int .i64 m.y, .int .i64 m.hx, .int .i64 m.hy], .agg #[.int .i64 b.l, .int .i64 b.r, .int .i64 b.b, .int .i64 b.t]] w fun e w' => e = .returned (.tuple #[.bool (L.touV m b), .int .i64 (L.touE m b)]) ∧ Below w.heap.size w w' := by
  cases hb : L.boxB b
  · have E1 := hide (show L.touV m b = false by unfold L.touV; rw [hb]; rfl)
    have E2 := hide (show L.touE m b = 21 by unfold L.touE; rw [hb]; rfl)
    have HB := hide hb
    clear hb
    go_enter Try.func19, Try.ntmps19
    go_wp2_with (go_at_call 51; refine (validBox_any b _).mono ?_; rintro e w2 ⟨rfl, hb2⟩; rw [HB.out]; obtain ⟨hc2, hf2⟩ := bcell hb2; have q2 := hb2.size; (try simp only [World.size_alloc] at q2); have z2_0 : w.heap.size < w2.heap.size := (by omega); have z2_1 : w.heap.size + 1 < w2.heap.size := (by omega))
    go_ret2
    exact ⟨by rw [E1.out, E2.out]; rfl, by (repeat' first | exact zbR _ _ | assumption | refine zbD ?_ | refine zbA ?_ ?_ _ | refine zbS ?_ ?_ _ | refine zbT ?_ (by assumption) ?_ | (simp; done) | (simp; omega) | omega)⟩
  cases hm : L.markB m 40 1 9 1 9
  · have E1 := hide (show L.touV m b = false by unfold L.touV; rw [hb, hm]; rfl)
    have E2 := hide (show L.touE m b = 22 by unfold L.touE; rw [hb, hm]; rfl)
    have HB := hide hb
    have HM := hide hm
    clear hb hm
    go_enter Try.func19, Try.ntmps19
    go_wp2_with (first | (go_at_call 51; refine (validBox_any b _).mono ?_; rintro e w2 ⟨rfl, hb2⟩; rw [HB.out]; obtain ⟨hc2, hf2⟩ := bcell hb2; have q2 := hb2.size; (try simp only [World.size_alloc] at q2); have z2_0 : w.heap.size < w2.heap.size := (by omega); have z2_1 : w.heap.size + 1 < w2.heap.size := (by omega)) | (go_at_call 52; refine (markWithin_any m 40 1 9 1 9 _).mono ?_; rintro e w3 ⟨rfl, hb3⟩; rw [HM.out]; obtain ⟨hc3, hf3⟩ := bcell hb3; have q3 := hb3.size; (try simp only [World.size_alloc] at q3); have z3_0 : w.heap.size < w3.heap.size := (by omega); have z3_1 : w.heap.size + 1 < w3.heap.size := (by omega)))
    go_ret2
    exact ⟨by rw [E1.out, E2.out]; rfl, by (repeat' first | exact zbR _ _ | assumption | refine zbD ?_ | refine zbA ?_ ?_ _ | refine zbS ?_ ?_ _ | refine zbT ?_ (by assumption) ?_ | (simp; done) | (simp; omega) | omega)⟩
  · have E1 := hide (show L.touV m b = L.touch m b by unfold L.touV; rw [hb, hm]; rfl)
    have E2 := hide (show L.touE m b = 0 by unfold L.touE; rw [hb, hm]; rfl)
    have HB := hide hb
    have HM := hide hm
    clear hb hm
    go_enter Try.func19, Try.ntmps19
    go_wp2_with (first | (go_at_call 51; refine (validBox_any b _).mono ?_; rintro e w2 ⟨rfl, hb2⟩; rw [HB.out]; obtain ⟨hc2, hf2⟩ := bcell hb2; have q2 := hb2.size; (try simp only [World.size_alloc] at q2); have z2_0 : w.heap.size < w2.heap.size := (by omega); have z2_1 : w.heap.size + 1 < w2.heap.size := (by omega)) | (go_at_call 52; refine (markWithin_any m 40 1 9 1 9 _).mono ?_; rintro e w3 ⟨rfl, hb3⟩; rw [HM.out]; obtain ⟨hc3, hf3⟩ := bcell hb3; have q3 := hb3.size; (try simp only [World.size_alloc] at q3); have z3_0 : w.heap.size < w3.heap.size := (by omega); have z3_1 : w.heap.size + 1 < w3.heap.size := (by omega)) | (go_at_call 53; refine (touches_any m b _ (L.boxB_ok HB.out) (L.markB_ok HM.out)).mono ?_; rintro e w4 ⟨rfl, hb4⟩; obtain ⟨hc4, hf4⟩ := bcell hb4; have q4 := hb4.size; (try simp only [World.size_alloc] at q4); have z4_0 : w.heap.size < w4.heap.size := (by omega); have z4_1 : w.heap.size + 1 < w4.heap.size := (by omega)))
    go_ret2
    exact ⟨by rw [E1.out, E2.out]; rfl, by (repeat' first | exact zbR _ _ | assumption | refine zbD ?_ | refine zbA ?_ ?_ _ | refine zbS ?_ ?_ _ | refine zbT ?_ (by assumption) ?_ | (simp; done) | (simp; omega) | omega)⟩

end Go.Proofs.Ytgnobonhohfofaa

namespace Go.Proofs.Ytgnobonhohfofaa
open Go.RowKit
attribute [local go_sem ↓] Go.wp_at_zero Go.wp_at_succ

theorem ret_int {k : IntKind} {a b : Int} (h : a = b) : Ending.returned (.int k a) = .returned (.int k b) := by rw [h]
theorem refFar_any (n lo hi : Int) (w : World) (h0 : 0 ≤ n) (h1 : n ≤ 40) (h2 : 0 ≤ lo) (h3 : lo ≤ 40) (h4 : 0 ≤ hi) (h5 : hi ≤ 40) :
    Calls Try.prog 56 #[.int .i64 n, .int .i64 lo, .int .i64 hi] w fun e w' => e = .returned (.int .i64 (L.far n lo hi)) ∧ w' = w := by
  go_enter Try.func56, Try.ntmps56
  go_wp2
  all_goals
    go_ret
    exact ⟨ret_int (by unfold L.far; (try simp only [Array.getD_eq_getD_getElem?]); omega), rfl⟩

set_option maxHeartbeats 1600000 in
theorem refTouch_any (m : L.Mk) (b : L.Bx) (w : World) (hb : L.BxOk b) (hm : L.MkOk m) :
    Calls Try.prog 21 #[.agg #[.int .i64 m.x, .int .i64 m.y, .int .i64 m.hx, .int .i64 m.hy], .agg #[.int .i64 b.l, .int .i64 b.r, .int .i64 b.b, .int .i64 b.t]] w fun e w' => e = .returned (.bool (L.touch m b)) ∧ Below w.heap.size w w' := by
  obtain ⟨l0, lr, r1, b0, bt, t1⟩ := hb
  obtain ⟨x0, x1, y0, y1, p0, p1, q0, q1⟩ := hm
  obtain ⟨r0, r2⟩ := L.far_bd (d := L.far m.x b.l b.r) rfl x0 x1 l0 lr r1
  obtain ⟨s0, s1⟩ := L.far_bd (d := L.far m.y b.b b.t) rfl y0 y1 b0 bt t1
  obtain ⟨a1, a2⟩ : 0 ≤ (L.far m.x b.l b.r) * (L.far m.x b.l b.r) ∧ (L.far m.x b.l b.r) * (L.far m.x b.l b.r) ≤ 1600 := L.mul_in r0 r2 r0 r2
  obtain ⟨a3, a4⟩ : 0 ≤ (L.far m.x b.l b.r) * (L.far m.x b.l b.r) * m.hy ∧ (L.far m.x b.l b.r) * (L.far m.x b.l b.r) * m.hy ≤ 14400 := L.mul_in a1 a2 (by omega) q1
  obtain ⟨a5, a6⟩ : 0 ≤ (L.far m.x b.l b.r) * (L.far m.x b.l b.r) * m.hy * m.hy ∧ (L.far m.x b.l b.r) * (L.far m.x b.l b.r) * m.hy * m.hy ≤ 129600 := L.mul_in a3 a4 (by omega) q1
  obtain ⟨c1, c2⟩ : 0 ≤ (L.far m.y b.b b.t) * (L.far m.y b.b b.t) ∧ (L.far m.y b.b b.t) * (L.far m.y b.b b.t) ≤ 1600 := L.mul_in s0 s1 s0 s1
  obtain ⟨c3, c4⟩ : 0 ≤ (L.far m.y b.b b.t) * (L.far m.y b.b b.t) * m.hx ∧ (L.far m.y b.b b.t) * (L.far m.y b.b b.t) * m.hx ≤ 14400 := L.mul_in c1 c2 (by omega) p1
  obtain ⟨c5, c6⟩ : 0 ≤ (L.far m.y b.b b.t) * (L.far m.y b.b b.t) * m.hx * m.hx ∧ (L.far m.y b.b b.t) * (L.far m.y b.b b.t) * m.hx * m.hx ≤ 129600 := L.mul_in c3 c4 (by omega) p1
  obtain ⟨e1, e2⟩ : 0 ≤ m.hx * m.hx ∧ m.hx * m.hx ≤ 81 := L.mul_in (by omega) p1 (by omega) p1
  obtain ⟨e3, e4⟩ : 0 ≤ m.hx * m.hx * m.hy ∧ m.hx * m.hx * m.hy ≤ 729 := L.mul_in e1 e2 (by omega) q1
  obtain ⟨e5, e6⟩ : 0 ≤ m.hx * m.hx * m.hy * m.hy ∧ m.hx * m.hx * m.hy * m.hy ≤ 6561 := L.mul_in e3 e4 (by omega) q1
  have HE := hide (show L.touch m b = decide ((L.far m.x b.l b.r) * (L.far m.x b.l b.r) * m.hy * m.hy + (L.far m.y b.b b.t) * (L.far m.y b.b b.t) * m.hx * m.hx ≤ m.hx * m.hx * m.hy * m.hy) by unfold L.touch; rw [L.sq_mul, L.sq_mul (L.far m.y b.b b.t), L.sq_mul m.hx, Int.mul_assoc ((L.far m.x b.l b.r) * (L.far m.x b.l b.r)), Int.mul_assoc ((L.far m.y b.b b.t) * (L.far m.y b.b b.t)), Int.mul_assoc (m.hx * m.hx)])
  go_enter Try.func21, Try.ntmps21
  go_upto_region 1 with fail
  go_quiet ((go_at_call 56; exact Calls.quiet_of_same (refFar_any _ _ _ _ (by omega) (by omega) (by omega) (by omega) (by omega) (by omega))))
  all_goals
    go_wp2
    go_ret
    exact ⟨by rw [HE.out]; rfl, below_drewN (by (repeat' first | exact zbR _ _ | assumption | refine zbD ?_ | refine zbA ?_ ?_ _ | refine zbS ?_ ?_ _ | refine zbT ?_ (by assumption) ?_ | (simp; done) | (simp; omega) | omega)) _⟩

end Go.Proofs.Ytgnobonhohfofaa

namespace Go.Proofs.Ytgnobonhohfofaa
open Go.RowKit
attribute [local go_sem ↓] Go.wp_at_zero Go.wp_at_succ

set_option maxHeartbeats 4000000 in
theorem sameInts_any (A1 A2 : Option Addr) (n c1 c2 : Nat) (xs : List Int) (w : World) (hn : xs.length = n) (hr1 : RdI w w.heap.size A1 xs) (hr2 : RdI w w.heap.size A2 xs) (hm : n ≤ 1000000) :
    Calls Try.prog 34 #[.slice A1 n c1, .slice A2 n c2] w fun e w' => e = .returned (.bool true) ∧ Below w.heap.size w w' := by
  have HN := hide hn
  have HR1 := hide hr1
  have HR2 := hide hr2
  clear hn hr1 hr2
  go_enter Try.func34, Try.ntmps34
  go_wp2_with fail
  go_loopw [5] (fun i wr => ∃ k : Nat, k ≤ n ∧ i = .int .i64 k ∧ Below w.heap.size w wr) (fun i _ => n - (intOf i).toNat)
  case atStart => exact ⟨0, by omega, rfl, by (repeat' first | exact zbR _ _ | assumption | refine zbD ?_ | refine zbA ?_ ?_ _ | refine zbS ?_ ?_ _ | refine zbT ?_ (by assumption) ?_ | (simp; done) | (simp; omega) | omega)⟩
  case round =>
    obtain ⟨k, hk, rfl, hB⟩ := hrel
    by_cases hlt : k < n
    · obtain ⟨p, hp'⟩ : ∃ q, xs[k]? = some q := ⟨_, List.getElem?_eq_getElem (by have := HN.out; omega)⟩
      obtain ⟨b, o, hA, hbB, c0⟩ := (HR1.out.below hB) k p hp'
      obtain ⟨b2, o2, hA2, hbB2, d0⟩ := (HR2.out.below hB) k p hp'
      subst hA hA2
      clear hp'
      have hlt' : (k : Int) < (n : Int) := by omega
      have hk0 : (0 : Int) ≤ (k : Int) := by omega
      go_wp2_with fail
      go_quiet (fail)
      go_wp2_with fail
      go_roundw
      case rel => exact ⟨k + 1, by omega, by go_num, below_drewN hB _⟩
      case measure => simp [intOf]; omega
    · have hkn : k = n := by omega
      subst hkn
      go_wp2_with fail
      go_ret
      exact ⟨rfl, hB⟩

theorem L.markB_f {m : L.Mk} (h : L.markB m 40 1 9 1 9 = false) : (L.within m.x 0 40 = false) ∨ (L.within m.x 0 40 = true ∧ L.within m.y 0 40 = false) ∨ (L.within m.x 0 40 = true ∧ L.within m.y 0 40 = true ∧ L.within m.hx 1 9 = false) ∨ (L.within m.x 0 40 = true ∧ L.within m.y 0 40 = true ∧ L.within m.hx 1 9 = true ∧ L.within m.hy 1 9 = false) := by
  unfold L.markB at h
  cases a : L.within m.x 0 40 <;> cases b : L.within m.y 0 40 <;> cases c : L.within m.hx 1 9 <;> cases d : L.within m.hy 1 9 <;> simp_all
theorem L.markB_t {m : L.Mk} (h : L.markB m 40 1 9 1 9 = true) : L.within m.x 0 40 = true ∧ L.within m.y 0 40 = true ∧ L.within m.hx 1 9 = true ∧ L.within m.hy 1 9 = true := by
  unfold L.markB at h
  simp only [Bool.and_eq_true] at h
  exact ⟨h.1.1.1, h.1.1.2, h.1.2, h.2⟩

set_option maxRecDepth 100000 in
set_option maxHeartbeats 1600000 in
theorem refTouches_any (m : L.Mk) (b : L.Bx) (w : World) :
    Calls Try.prog 36 #[.agg #[.int .i64 m.x, .int .i64 m.y, .int .i64 m.hx, .int .i64 m.hy], .agg #[.int .i64 b.l, .int .i64 b.r, .int .i64 b.b, .int .i64 b.t]] w fun e w' => e = .returned (.tuple #[.bool (L.touV m b), .int .i64 (L.touE m b)]) ∧ Below w.heap.size w w' := by
  cases hb : L.boxB b
  · have E1 := hide (show L.touV m b = false by unfold L.touV; rw [hb]; rfl)
    have E2 := hide (show L.touE m b = 21 by unfold L.touE; rw [hb]; rfl)
    have HB := hide hb
    clear hb
    go_enter Try.func36, Try.ntmps36
    go_wp2_with (go_at_call 25; refine (isBox_any b _).mono ?_; rintro e w2 ⟨rfl, hb2⟩; rw [HB.out]; obtain ⟨hc2, hf2⟩ := bcell hb2; have q2 := hb2.size; (try simp only [World.size_alloc] at q2); have z2_0 : w.heap.size < w2.heap.size := (by omega); have z2_1 : w.heap.size + 1 < w2.heap.size := (by omega))
    go_ret2
    exact ⟨by rw [E1.out, E2.out]; rfl, by (repeat' first | exact zbR _ _ | assumption | refine zbD ?_ | refine zbA ?_ ?_ _ | refine zbS ?_ ?_ _ | refine zbT ?_ (by assumption) ?_ | (simp; done) | (simp; omega) | omega)⟩
  cases hm : L.markB m 40 1 9 1 9
  · have E1 := hide (show L.touV m b = false by unfold L.touV; rw [hb, hm]; rfl)
    have E2 := hide (show L.touE m b = 22 by unfold L.touE; rw [hb, hm]; rfl)
    have HB := hide hb
    have hm' := L.markB_f hm
    clear hb hm
    rcases hm' with h1 | ⟨h1, h2⟩ | ⟨h1, h2, h3⟩ | ⟨h1, h2, h3, h4⟩
    all_goals
      go_enter Try.func36, Try.ntmps36
      go_wp2_with (first | (go_at_call 25; refine (isBox_any b _).mono ?_; rintro e w2 ⟨rfl, hb2⟩; rw [HB.out]; obtain ⟨hc2, hf2⟩ := bcell hb2; have q2 := hb2.size; (try simp only [World.size_alloc] at q2); have z2_0 : w.heap.size < w2.heap.size := (by omega); have z2_1 : w.heap.size + 1 < w2.heap.size := (by omega)) | (go_at_call 57; refine (refWithin_any _ _ _ _).mono ?_; rintro e w' ⟨rfl, rfl⟩))
      go_ret2
      exact ⟨by rw [E1.out, E2.out]; (first | rfl | (simp [*]; done)), by (repeat' first | exact zbR _ _ | assumption | refine zbD ?_ | refine zbA ?_ ?_ _ | refine zbS ?_ ?_ _ | refine zbT ?_ (by assumption) ?_ | (simp; done) | (simp; omega) | omega)⟩
  · have E1 := hide (show L.touV m b = L.touch m b by unfold L.touV; rw [hb, hm]; rfl)
    have E2 := hide (show L.touE m b = 0 by unfold L.touE; rw [hb, hm]; rfl)
    have HB := hide hb
    have HM := hide hm
    obtain ⟨h1, h2, h3, h4⟩ := L.markB_t hm
    clear hb hm
    go_enter Try.func36, Try.ntmps36
    go_wp2_with (first | (go_at_call 25; refine (isBox_any b _).mono ?_; rintro e w2 ⟨rfl, hb2⟩; rw [HB.out]; obtain ⟨hc2, hf2⟩ := bcell hb2; have q2 := hb2.size; (try simp only [World.size_alloc] at q2); have z2_0 : w.heap.size < w2.heap.size := (by omega); have z2_1 : w.heap.size + 1 < w2.heap.size := (by omega)) | (go_at_call 57; refine (refWithin_any _ _ _ _).mono ?_; rintro e w' ⟨rfl, rfl⟩) | (go_at_call 21; refine (refTouch_any m b _ (L.boxB_ok HB.out) (L.markB_ok HM.out)).mono ?_; rintro e w4 ⟨rfl, hb4⟩; obtain ⟨hc4, hf4⟩ := bcell hb4; have q4 := hb4.size; (try simp only [World.size_alloc] at q4); have z4_0 : w.heap.size < w4.heap.size := (by omega); have z4_1 : w.heap.size + 1 < w4.heap.size := (by omega)))
    go_ret2
    exact ⟨by rw [E1.out, E2.out]; rfl, by (repeat' first | exact zbR _ _ | assumption | refine zbD ?_ | refine zbA ?_ ?_ _ | refine zbS ?_ ?_ _ | refine zbT ?_ (by assumption) ?_ | (simp; done) | (simp; omega) | omega)⟩

end Go.Proofs.Ytgnobonhohfofaa

namespace Go.Proofs.Ytgnobonhohfofaa
open Go.RowKit
attribute [local go_sem ↓] Go.wp_at_zero Go.wp_at_succ

set_option maxRecDepth 100000 in
set_option maxHeartbeats 3200000 in
theorem wrongAbout_any (v : L.Vw) (A : Option Addr) (n c : Nat) (x y : Int) (w : World) (hn : v.ss.length = n) (hr : RdS w w.heap.size A v.ss) (ho : ∀ s ∈ v.ss, L.StOk s) (h8 : n ≤ 8) (hx0 : 0 ≤ x) (hx1 : x ≤ 40) (hy0 : 0 ≤ y) (hy1 : y ≤ 40) :
    Calls Try.prog 60 #[.agg #[.int .i64 v.size, .slice A n c, .int .i64 v.wrong, .int .i64 v.hxl, .int .i64 v.hxh, .int .i64 v.hyl, .int .i64 v.hyh], .int .i64 x, .int .i64 y] w fun e w' => ∃ sv c', e = .returned (.slice sv (L.wrongL v x y).length c') ∧ w'.ownsRow w.heap.size 3 1 (.slice sv (L.wrongL v x y).length c') (L.wrongL v x y).length (flatI (L.wrongL v x y)) ∧ Below w.heap.size w w' := by
  have HN := hide hn
  have HR := hide hr
  have HO := hide ho
  clear hn hr ho
  go_enter Try.func60, Try.ntmps60
  go_wp2_with (go_at_call 70; refine (wrongOn_any _ _ _ _).mono ?_; rintro e w' ⟨rfl, rfl⟩)
  obtain ⟨W0, hW0⟩ : ∃ W0, (((w.alloc (.cells #[.int .i64 v.size, .slice A n c, .int .i64 v.wrong, .int .i64 v.hxl, .int .i64 v.hxh, .int .i64 v.hyl, .int .i64 v.hyh] 26)).alloc (.cells #[.int .i64 x] 3)).alloc (.cells #[.int .i64 y] 3)).alloc (.cells #[.int .i64 0] 3) = W0 := ⟨_, rfl⟩
  have g0 : W0.cell? ⟨w.heap.size, 1, none⟩ = some (.slice A n c) := by rw [← hW0]; exact (zcP _ _ _ (by first | (simp; done) | (simp; omega))).trans ((zcP _ _ _ (by first | (simp; done) | (simp; omega))).trans ((zcP _ _ _ (by first | (simp; done) | (simp; omega))).trans ((zcA _ _ _ _ rfl).trans rfl)))
  have g1 : W0.cell? ⟨w.heap.size + 1, 0, none⟩ = some (.int .i64 x) := by rw [← hW0]; exact (zcP _ _ _ (by first | (simp; done) | (simp; omega))).trans ((zcP _ _ _ (by first | (simp; done) | (simp; omega))).trans ((zcA _ _ _ _ (by simp)).trans rfl))
  have g2 : W0.cell? ⟨w.heap.size + 1 + 1, 0, none⟩ = some (.int .i64 y) := by rw [← hW0]; exact (zcP _ _ _ (by first | (simp; done) | (simp; omega))).trans ((zcA _ _ _ _ (by simp)).trans rfl)
  have g3 : W0.cell? ⟨w.heap.size + 1 + 1 + 1, 0, none⟩ = some (.int .i64 0) := by rw [← hW0]; exact (zcA _ _ _ _ (by simp)).trans rfl
  have gs : W0.heap.size = w.heap.size + 1 + 1 + 1 + 1 := by rw [← hW0]; simp
  have gB : Below w.heap.size w W0 := by rw [← hW0]; (repeat' first | exact zbR _ _ | assumption | refine zbD ?_ | refine zbA ?_ ?_ _ | refine zbS ?_ ?_ _ | refine zbT ?_ (by assumption) ?_ | (simp; done) | (simp; omega) | omega)
  (try simp only [World.size_alloc])
  rw [hW0]
  clear hW0
  go_loopw [8, 17] (fun m i wr => ∃ j : Nat, j ≤ n ∧ i = .int .i64 j ∧ (∃ sv c', m = .slice sv (L.wrongFrom x y 0 (v.ss.take j)).length c' ∧ Hid (wr.ownsRow W0.heap.size 3 1 (.slice sv (L.wrongFrom x y 0 (v.ss.take j)).length c') (L.wrongFrom x y 0 (v.ss.take j)).length (flatI (L.wrongFrom x y 0 (v.ss.take j))))) ∧ Below W0.heap.size W0 wr) (fun _ i _ => n - (intOf i).toNat)
  case atStart => exact ⟨0, by omega, rfl, ⟨none, 0, rfl, hide (World.ownsRow_nil _ _ _ _)⟩, Below.refl _ _⟩
  case round =>
    obtain ⟨j, hj, rfl, ⟨sv, c', rfl, hown⟩, hB⟩ := hrel
    have hBs := hB.size
    have hB0 : Below w.heap.size w wr := gB.trans (hB.mono (by omega))
    have k1 : wr.cell? ⟨w.heap.size, 1, none⟩ = some (.slice A n c) := (hB.cell (p := ⟨w.heap.size, 1, none⟩) (by show w.heap.size < _; omega)).trans g0
    have hm : (L.wrongFrom x y 0 (v.ss.take j)).length ≤ 8 := by
      rw [L.wrongFrom_length]; have := L.many_take_le v.ss j x y 0; omega
    by_cases hlt : j < n
    · obtain ⟨s, hs⟩ : ∃ s, v.ss[j]? = some s := ⟨_, List.getElem?_eq_getElem (by have := HN.out; omega)⟩
      obtain ⟨b, o, hA, hbB, d0, d1, d2, d3⟩ := (HR.out.below hB0) j s hs
      subst hA
      have hso := HO.out s (List.mem_of_getElem? hs)
      have HM := hide (L.wrongFrom_take x y hs)
      clear hs
      have hlt' : (j : Int) < (n : Int) := by omega
      have hj0 : (0 : Int) ≤ (j : Int) := by omega
      have e0 : wr.cell? ⟨w.heap.size + 1, 0, none⟩ = some (.int .i64 x) := (hB.cell (p := ⟨w.heap.size + 1, 0, none⟩) (by show w.heap.size + 1 < _; omega)).trans g1
      have e1 : wr.cell? ⟨w.heap.size + 1 + 1, 0, none⟩ = some (.int .i64 y) := (hB.cell (p := ⟨w.heap.size + 1 + 1, 0, none⟩) (by show w.heap.size + 1 + 1 < _; omega)).trans g2
      have e2 : wr.cell? ⟨w.heap.size + 1 + 1 + 1, 0, none⟩ = some (.int .i64 0) := (hB.cell (p := ⟨w.heap.size + 1 + 1 + 1, 0, none⟩) (by show w.heap.size + 1 + 1 + 1 < _; omega)).trans g3
      have lw0 : w.heap.size + 1 < wr.heap.size := by omega
      have lw1 : w.heap.size + 1 + 1 < wr.heap.size := by omega
      have lw2 : w.heap.size + 1 + 1 + 1 < wr.heap.size := by omega
      have LS := hide hBs
      have GS := hide gs
      clear hBs gs
      cases hv : L.off x y 0 s
      · have HE : Hid (L.wrongFrom x y 0 (v.ss.take (j + 1)) = L.wrongFrom x y 0 (v.ss.take j)) := hide (by rw [HM.out, hv]; simp)
        go_wp2_with (go_at_call 74; refine (off_any s x y 0 _ _ _ _ hso hx0 hx1 hy0 hy1 (by omega) (by omega) (Nat.lt_of_lt_of_le lw0 (by simp)) (Nat.lt_of_lt_of_le lw1 (by simp)) (Nat.lt_of_lt_of_le lw2 (by simp)) ((zcP _ _ _ lw0).trans e0) ((zcP _ _ _ lw1).trans e1) ((zcP _ _ _ lw2).trans e2)).mono ?_; rintro e w3 ⟨rfl, hb3⟩; rw [hv]; have hb4 := (hB.trans (((Below.refl _ wr).alloc (Nat.le_refl _) _).mono LS.out)).trans (hb3.mono (by have := LS.out; simp; omega)))
        go_roundw
        case rel => exact ⟨j + 1, by omega, by go_num, ⟨sv, c', by rw [HE.out], hide (by rw [HE.out]; exact owns_below hown.out (((Below.refl _ wr).alloc (Nat.le_refl _) _).trans (hb3.mono (by simp))))⟩, hb4⟩
        case measure => simp [intOf]; omega
      · have HE : Hid (L.wrongFrom x y 0 (v.ss.take (j + 1)) = L.wrongFrom x y 0 (v.ss.take j) ++ [(j : Int)]) := hide (by rw [HM.out, hv]; rfl)
        have HL := hide (show (L.wrongFrom x y 0 (v.ss.take (j + 1))).length = (L.wrongFrom x y 0 (v.ss.take j)).length + 1 by rw [HE.out, List.length_append]; rfl)
        go_wp2_with (first | (go_at_call 74; refine (off_any s x y 0 _ _ _ _ hso hx0 hx1 hy0 hy1 (by omega) (by omega) (Nat.lt_of_lt_of_le lw0 (by simp)) (Nat.lt_of_lt_of_le lw1 (by simp)) (Nat.lt_of_lt_of_le lw2 (by simp)) ((zcP _ _ _ lw0).trans e0) ((zcP _ _ _ lw1).trans e1) ((zcP _ _ _ lw2).trans e2)).mono ?_; rintro e w3 ⟨rfl, hb3⟩; rw [hv]; have hb4 := (hB.trans (((Below.refl _ wr).alloc (Nat.le_refl _) _).mono LS.out)).trans (hb3.mono (by have := LS.out; simp; omega)); have HO3 := hide (owns_below hown.out (((Below.refl _ wr).alloc (Nat.le_refl _) _).trans (hb3.mono (by simp))))) | (refine wpList_app_at rfl (.tmp 25) (.tmp 27) rfl W0.heap.size _ (L.wrongFrom x y 0 (v.ss.take j)) _ rfl (HO3.out.alloc _) (some ⟨w3.heap.size, 0, none⟩) 1 1 [(j : Int)] rfl rfl (rdI_one (World.alloc_heap_new _ _)) (fun e => by cases e) (by omega) (by omega) (by have := hb4.size; simp; omega) ?_; intro A2 c2 w5 hown2 hgrow; have hg5 := grown_below (B := W0.heap.size) hgrow (by have := hb4.size; simp; omega) (fun g hg => (HO3.out.lt g hg).1); have HO2 := hide hown2; clear hown2 hgrow))
        go_roundw
        case rel => exact ⟨j + 1, by omega, by go_num, ⟨A2, c2, by rw [HL.out], hide (by rw [HL.out, HE.out]; exact HO2.out)⟩, (hb4.trans ((Below.refl _ w3).alloc hb4.size _)).trans hg5⟩
        case measure => simp [intOf]; omega
    · have hjn : j = n := by omega
      subst hjn
      have HE : Hid (L.wrongFrom x y 0 (v.ss.take j) = L.wrongL v x y) := hide (by rw [List.take_of_length_le (by have := HN.out; omega)]; rfl)
      go_wp2_with fail
      go_ret
      refine ⟨sv, c', ?_, ?_, hB0⟩
      · rw [← HE.out]; rfl
      · rw [← HE.out]; exact owns_mono hown.out (by omega)

end Go.Proofs.Ytgnobonhohfofaa

namespace Go.Proofs.Ytgnobonhohfofaa
open Go

theorem drop_get {α : Type} {l rest : List α} {x : α} : ∀ {i : Nat}, l.drop i = x :: rest → l.toArray[i]? = some x := by
  intro i h
  have : l[i]? = some x := by
    have := congrArg List.head? h
    simpa [List.head?_drop] using this
  simpa using this

theorem takeL {P : Program} {md : Region.Mode} {l rest : List Oper} {Q : Exit → Act → World → Prop} {S : World → Prop} {oi : Oper} {v : Value} {fuel : Nat} {listed : Array Bool} {a : Act} {w : World} (i : Nat) (hi : l.drop i = oi :: rest)
    (hs : Region.noSelect l.toArray = true) (hf : Region.free md l.toArray listed i = true) (hr : (Region.ready md l.toArray listed).contains i = true)
    (hQ : ∀ c a w, Q (.panic c) (a.put oi.dst v) w → Q (.panic c) a w) (hy : YieldsIf P l.toArray S oi v a) (hS : S w)
    (h : wpAnyH P md l.toArray Q S fuel (listed.setIfInBounds i true) (a.put oi.dst v) w) : wpAnyH P md l.toArray Q S (fuel + 1) listed a w :=
  wpAnyH_take (drop_get hi) hs hf hr hQ hy hS h

theorem tL {P : Program} {md : Region.Mode} {l rest : List Oper} {Q : Exit → Act → World → Prop} {S : World → Prop} {oi : Oper} {v : Value} {fuel : Nat} {listed : Array Bool} {a : Act} {w : World} (i : Nat) (hi : l.drop i = oi :: rest)
    (hb : (Region.noSelect l.toArray && Region.free md l.toArray listed i && (Region.ready md l.toArray listed).contains i) = true)
    (hQ : ∀ c a w, Q (.panic c) (a.put oi.dst v) w → Q (.panic c) a w) (hy : YieldsIf P l.toArray S oi v a) (hS : S w)
    (h : wpAnyH P md l.toArray Q S fuel (listed.setIfInBounds i true) (a.put oi.dst v) w) : wpAnyH P md l.toArray Q S (fuel + 1) listed a w := by
  rw [Bool.and_eq_true, Bool.and_eq_true] at hb
  exact takeL i hi hb.1.1 hb.1.2 hb.2 hQ hy hS h
theorem zl {α : Type} (l : List α) (i : Nat) (a : α) : l.toArray.setIfInBounds i a = (l.set i a).toArray := List.setIfInBounds_toArray l i a
theorem z0 {α : Type} {x : α} {xs : List α} {a : α} : (x :: xs).set 0 a = a :: xs := List.set_cons_zero
theorem z1 {α : Type} {x : α} {xs : List α} {i : Nat} {a : α} : (x :: xs).set (i + 1) a = x :: xs.set i a := List.set_cons_succ

theorem consL {P : Program} {md : Region.Mode} {l rest : List Oper} {Q : Exit → Act → World → Prop} {S : World → Prop} {fuel : Nat} {listed : Array Bool} {a : Act} {w : World} {o : Oper} {rs : List Nat} (i : Nat) (ho : l.drop i = o :: rest)
    (h : ∀ K' : Act → World → Prop, Shut (∀ a w, S w → (S w → wpAnyH P md l.toArray Q S fuel (listed.setIfInBounds i true) a w) → K' a w) → if Region.wanted o (yielded l.toArray a.tmps) = true then Oper.wp P o a w K' Q else K' (a.put o.dst undef) w)
    (hs : AllReadyH P md l.toArray Q S fuel listed a w rs) : AllReadyH P md l.toArray Q S fuel listed a w (i :: rs) :=
  AllReadyH.cons (drop_get ho) h hs

end Go.Proofs.Ytgnobonhohfofaa

namespace Go.Proofs.Ytgnobonhohfofaa
open Go.RowKit
attribute [local go_sem ↓] Go.wp_at_zero Go.wp_at_succ

def L.isMarkB (v : L.Vw) (m : L.Mk) : Bool := L.markB m v.size v.hxl v.hxh v.hyl v.hyh
def L.truthB (v : L.Vw) (m : L.Mk) : Bool := L.isMarkB v m && decide (((L.wrongL v m.x m.y).length : Int) ≤ v.wrong)
theorem L.isMark_bd {v : L.Vw} (hv : L.VwOk v) {m : L.Mk} (h : L.isMarkB v m = true) : L.MkOk m ∧ m.x ≤ v.size ∧ m.y ≤ v.size := by
  unfold L.isMarkB L.markB L.within at h
  simp only [Bool.and_eq_true, decide_eq_true_eq] at h
  obtain ⟨⟨⟨⟨a, b⟩, c, d⟩, e, f⟩, g, i⟩ := h
  have := hv.s1; have := hv.x0; have := hv.x1; have := hv.y0; have := hv.y1; have := hv.xx; have := hv.yy
  exact ⟨⟨a, by omega, c, by omega, by omega, by omega, by omega, by omega⟩, b, d⟩

set_option maxRecDepth 100000 in
set_option maxHeartbeats 3200000 in
theorem isTruth_any (v : L.Vw) (A : Option Addr) (n c : Nat) (m : L.Mk) (w : World) (hv : L.VwOk v) (hn : v.ss.length = n) (hr : RdS w w.heap.size A v.ss) :
    Calls Try.prog 18 #[.agg #[.int .i64 v.size, .slice A n c, .int .i64 v.wrong, .int .i64 v.hxl, .int .i64 v.hxh, .int .i64 v.hyl, .int .i64 v.hyh], .agg #[.int .i64 m.x, .int .i64 m.y, .int .i64 m.hx, .int .i64 m.hy]] w fun e w' => e = .returned (.bool (L.truthB v m)) ∧ Below w.heap.size w w' := by
  have HN := hide hn
  have HR := hide hr
  have HV := hide hv
  clear hn hr hv
  cases hm : L.isMarkB v m
  · have HE := hide (show L.truthB v m = false by unfold L.truthB; rw [hm]; rfl)
    have HM := hide (show L.markB m v.size v.hxl v.hxh v.hyl v.hyh = false from hm)
    clear hm
    go_enter Try.func18, Try.ntmps18
    go_upto_region 1 with fail
    obtain ⟨W0, hW0⟩ : ∃ W0, (w.alloc (.cells #[.int .i64 v.size, .slice A n c, .int .i64 v.wrong, .int .i64 v.hxl, .int .i64 v.hxh, .int .i64 v.hyl, .int .i64 v.hyh] 26)).alloc (.cells #[.int .i64 m.x, .int .i64 m.y, .int .i64 m.hx, .int .i64 m.hy] 30) = W0 := ⟨_, rfl⟩
    rw [hW0]
    obtain ⟨p, hp⟩ : ∃ p, w.heap.size = p := ⟨_, rfl⟩
    obtain ⟨q, hq⟩ : ∃ q, w.heap.size + 1 = q := ⟨_, rfl⟩
    have hS : (fun w' => Below W0.heap.size W0 w' ∧ p < w'.heap.size ∧ q < w'.heap.size ∧ w'.cell? ⟨p, 0, none⟩ = some (.int .i64 v.size) ∧ w'.cell? ⟨p, 1, none⟩ = some (.slice A n c) ∧ w'.cell? ⟨p, 2, none⟩ = some (.int .i64 v.wrong) ∧ w'.cell? ⟨p, 3, none⟩ = some (.int .i64 v.hxl) ∧ w'.cell? ⟨p, 4, none⟩ = some (.int .i64 v.hxh) ∧ w'.cell? ⟨p, 5, none⟩ = some (.int .i64 v.hyl) ∧ w'.cell? ⟨p, 6, none⟩ = some (.int .i64 v.hyh) ∧ w'.cell? ⟨q, 0, none⟩ = some (.int .i64 m.x) ∧ w'.cell? ⟨q, 1, none⟩ = some (.int .i64 m.y) ∧ w'.cell? ⟨q, 2, none⟩ = some (.int .i64 m.hx) ∧ w'.cell? ⟨q, 3, none⟩ = some (.int .i64 m.hy)) W0 := by
      rw [← hW0, ← hp, ← hq]
      refine ⟨Below.refl _ _, (by first | (simp; done) | (simp; omega) | omega), (by first | (simp; done) | (simp; omega) | omega), (zcP _ _ _ (by first | (simp; done) | (simp; omega) | omega)).trans (zcA _ _ _ _ rfl), (zcP _ _ _ (by first | (simp; done) | (simp; omega) | omega)).trans (zcA _ _ _ _ rfl), (zcP _ _ _ (by first | (simp; done) | (simp; omega) | omega)).trans (zcA _ _ _ _ rfl), (zcP _ _ _ (by first | (simp; done) | (simp; omega) | omega)).trans (zcA _ _ _ _ rfl), (zcP _ _ _ (by first | (simp; done) | (simp; omega) | omega)).trans (zcA _ _ _ _ rfl), (zcP _ _ _ (by first | (simp; done) | (simp; omega) | omega)).trans (zcA _ _ _ _ rfl), (zcP _ _ _ (by first | (simp; done) | (simp; omega) | omega)).trans (zcA _ _ _ _ rfl), zcA _ _ _ _ (by simp), zcA _ _ _ _ (by simp), zcA _ _ _ _ (by simp), zcA _ _ _ _ (by simp)⟩
    have hs0 : W0.heap.size = w.heap.size + 1 + 1 := by rw [← hW0]; simp
    have hb0 : Below w.heap.size w W0 := by rw [← hW0]; (repeat' first | exact zbR _ _ | assumption | refine zbD ?_ | refine zbA ?_ ?_ _ | refine zbS ?_ ?_ _ | refine zbT ?_ (by assumption) ?_ | (simp; done) | (simp; omega) | omega)
    rw [hq, hp]
    have hq' : q = p + 1 := by omega
    have HP := hide hp
    have HB0 := hide hb0
    have HS0 := hide hs0
    have HQ := hide hq'
    clear hW0 hp hq hb0 hs0 hq'
    have hkeep : ∀ u u' : World, Below u.heap.size u u' → (Below W0.heap.size W0 u ∧ p < u.heap.size ∧ q < u.heap.size ∧ u.cell? ⟨p, 0, none⟩ = some (.int .i64 v.size) ∧ u.cell? ⟨p, 1, none⟩ = some (.slice A n c) ∧ u.cell? ⟨p, 2, none⟩ = some (.int .i64 v.wrong) ∧ u.cell? ⟨p, 3, none⟩ = some (.int .i64 v.hxl) ∧ u.cell? ⟨p, 4, none⟩ = some (.int .i64 v.hxh) ∧ u.cell? ⟨p, 5, none⟩ = some (.int .i64 v.hyl) ∧ u.cell? ⟨p, 6, none⟩ = some (.int .i64 v.hyh) ∧ u.cell? ⟨q, 0, none⟩ = some (.int .i64 m.x) ∧ u.cell? ⟨q, 1, none⟩ = some (.int .i64 m.y) ∧ u.cell? ⟨q, 2, none⟩ = some (.int .i64 m.hx) ∧ u.cell? ⟨q, 3, none⟩ = some (.int .i64 m.hy)) → (Below W0.heap.size W0 u' ∧ p < u'.heap.size ∧ q < u'.heap.size ∧ u'.cell? ⟨p, 0, none⟩ = some (.int .i64 v.size) ∧ u'.cell? ⟨p, 1, none⟩ = some (.slice A n c) ∧ u'.cell? ⟨p, 2, none⟩ = some (.int .i64 v.wrong) ∧ u'.cell? ⟨p, 3, none⟩ = some (.int .i64 v.hxl) ∧ u'.cell? ⟨p, 4, none⟩ = some (.int .i64 v.hxh) ∧ u'.cell? ⟨p, 5, none⟩ = some (.int .i64 v.hyl) ∧ u'.cell? ⟨p, 6, none⟩ = some (.int .i64 v.hyh) ∧ u'.cell? ⟨q, 0, none⟩ = some (.int .i64 m.x) ∧ u'.cell? ⟨q, 1, none⟩ = some (.int .i64 m.y) ∧ u'.cell? ⟨q, 2, none⟩ = some (.int .i64 m.hx) ∧ u'.cell? ⟨q, 3, none⟩ = some (.int .i64 m.hy)) := by
      rintro u u' hb ⟨hB, l_p, l_q, k0, k1, k2, k3, k4, k5, k6, k7, k8, k9, k10⟩
      exact ⟨hB.trans (hb.mono hB.size), Nat.lt_of_lt_of_le l_p hb.size, Nat.lt_of_lt_of_le l_q hb.size, (hb.cell (p := ⟨p, 0, none⟩) l_p).trans k0, (hb.cell (p := ⟨p, 1, none⟩) l_p).trans k1, (hb.cell (p := ⟨p, 2, none⟩) l_p).trans k2, (hb.cell (p := ⟨p, 3, none⟩) l_p).trans k3, (hb.cell (p := ⟨p, 4, none⟩) l_p).trans k4, (hb.cell (p := ⟨p, 5, none⟩) l_p).trans k5, (hb.cell (p := ⟨p, 6, none⟩) l_p).trans k6, (hb.cell (p := ⟨q, 0, none⟩) l_q).trans k7, (hb.cell (p := ⟨q, 1, none⟩) l_q).trans k8, (hb.cell (p := ⟨q, 2, none⟩) l_q).trans k9, (hb.cell (p := ⟨q, 3, none⟩) l_q).trans k10⟩
    dsimp only at hS
    refine wp_region_held_drew (S := (fun w' => Below W0.heap.size W0 w' ∧ p < w'.heap.size ∧ q < w'.heap.size ∧ w'.cell? ⟨p, 0, none⟩ = some (.int .i64 v.size) ∧ w'.cell? ⟨p, 1, none⟩ = some (.slice A n c) ∧ w'.cell? ⟨p, 2, none⟩ = some (.int .i64 v.wrong) ∧ w'.cell? ⟨p, 3, none⟩ = some (.int .i64 v.hxl) ∧ w'.cell? ⟨p, 4, none⟩ = some (.int .i64 v.hxh) ∧ w'.cell? ⟨p, 5, none⟩ = some (.int .i64 v.hyl) ∧ w'.cell? ⟨p, 6, none⟩ = some (.int .i64 v.hyh) ∧ w'.cell? ⟨q, 0, none⟩ = some (.int .i64 m.x) ∧ w'.cell? ⟨q, 1, none⟩ = some (.int .i64 m.y) ∧ w'.cell? ⟨q, 2, none⟩ = some (.int .i64 m.hx) ∧ w'.cell? ⟨q, 3, none⟩ = some (.int .i64 m.hy))) (by kernel_rfl) ?_ (fun hHeld0 => ?_)
    · (try dsimp only); (first | (go_keep; done) | (go_split_ands; (repeat' apply And.intro) <;> first | (go_keep; done) | (simp [*, zcA, zcP, zfA, zfP]; done) | (simp [zcA, zcP] <;> rfl) | (simp [*, zsS, zsO, zsA]; done) | ((first | refine (hc _ _ ?_).trans ?_ | refine (hf _ _ ?_).trans ?_) <;> first | assumption | (simp; done) | (simp; omega) | omega | (go_keep; done) | (simp [*, zcA, zcP, zfA, zfP]; done) | (simp [zcA, zcP]; rfl)) | (repeat' first | exact zbR _ _ | assumption | refine zbD ?_ | refine zbA ?_ ?_ _ | refine zbS ?_ ?_ _ | refine zbT ?_ (by assumption) ?_ | (simp; done) | (simp; omega) | omega)))
    refine tL (v := ?_) 0 rfl (by kernel_rfl) (fun _ _ _ h => h) (Or.inl ⟨by rfl, ?_⟩) (by assumption) ?_; rotate_left
    · (intro w hSw; (try dsimp only at hSw); go_simp; try with_reducible rfl)
    try simp only [Act.put, zl, z0, z1]
    refine tL (v := ?_) 1 rfl (by kernel_rfl) (fun _ _ _ h => h) (Or.inl ⟨by rfl, ?_⟩) (by assumption) ?_; rotate_left
    · (intro w hSw; (try dsimp only at hSw); go_simp; try with_reducible rfl)
    try simp only [Act.put, zl, z0, z1]
    refine wpAnyH_ready (rs := [2]) (by kernel_rfl) (by simp) ?_
    refine consL 2 rfl (fun K hK => ?_) AllReadyH.nil
    go_simp
    (go_at_call 49; refine (isMark_any v A n c m _).mono ?_; rintro e w2 ⟨rfl, hb⟩; rw [HM.out]; have hSn := hkeep _ _ hb (by assumption); (try clear hS); have hS := hSn; clear hSn)
    refine hK.out _ _ ?_ (fun hHeld1 => ?_)
    · (try dsimp only); exact hS
    clear hK K hHeld0
    try simp only [Act.put, zl, z0, z1]
    refine tL (v := ?_) 3 rfl (by kernel_rfl) (fun _ _ _ h => h) (Or.inl ⟨by rfl, ?_⟩) (by assumption) ?_; rotate_left
    · (intro w hSw; (try dsimp only at hSw); go_simp; try with_reducible rfl)
    try simp only [Act.put, zl, z0, z1]
    refine takeL 4 rfl (by kernel_rfl) (by kernel_rfl) (by kernel_rfl) (fun _ _ _ h => h) (Or.inr ⟨by rfl, rfl⟩) (by assumption) ?_
    try simp only [Act.put, zl, z0, z1]
    refine takeL 5 rfl (by kernel_rfl) (by kernel_rfl) (by kernel_rfl) (fun _ _ _ h => h) (Or.inr ⟨by rfl, rfl⟩) (by assumption) ?_
    try simp only [Act.put, zl, z0, z1]
    refine takeL 6 rfl (by kernel_rfl) (by kernel_rfl) (by kernel_rfl) (fun _ _ _ h => h) (Or.inr ⟨by rfl, rfl⟩) (by assumption) ?_
    try simp only [Act.put, zl, z0, z1]
    refine takeL 7 rfl (by kernel_rfl) (by kernel_rfl) (by kernel_rfl) (fun _ _ _ h => h) (Or.inr ⟨by rfl, rfl⟩) (by assumption) ?_
    try simp only [Act.put, zl, z0, z1]
    refine takeL 8 rfl (by kernel_rfl) (by kernel_rfl) (by kernel_rfl) (fun _ _ _ h => h) (Or.inr ⟨by rfl, rfl⟩) (by assumption) ?_
    try simp only [Act.put, zl, z0, z1]
    refine takeL 9 rfl (by kernel_rfl) (by kernel_rfl) (by kernel_rfl) (fun _ _ _ h => h) (Or.inr ⟨by rfl, rfl⟩) (by assumption) ?_
    try simp only [Act.put, zl, z0, z1]
    refine takeL 10 rfl (by kernel_rfl) (by kernel_rfl) (by kernel_rfl) (fun _ _ _ h => h) (Or.inr ⟨by rfl, rfl⟩) (by assumption) ?_
    try simp only [Act.put, zl, z0, z1]
    refine takeL 11 rfl (by kernel_rfl) (by kernel_rfl) (by kernel_rfl) (fun _ _ _ h => h) (Or.inr ⟨by rfl, rfl⟩) (by assumption) ?_
    try simp only [Act.put, zl, z0, z1]
    refine takeL 12 rfl (by kernel_rfl) (by kernel_rfl) (by kernel_rfl) (fun _ _ _ h => h) (Or.inr ⟨by rfl, rfl⟩) (by assumption) ?_
    try simp only [Act.put, zl, z0, z1]
    refine takeL 13 rfl (by kernel_rfl) (by kernel_rfl) (by kernel_rfl) (fun _ _ _ h => h) (Or.inr ⟨by rfl, rfl⟩) (by assumption) ?_
    try simp only [Act.put, zl, z0, z1]
    refine tL (v := ?_) 14 rfl (by kernel_rfl) (fun _ _ _ h => h) (Or.inl ⟨by rfl, ?_⟩) (by assumption) ?_; rotate_left
    · (intro w hSw; (try dsimp only at hSw); go_simp; try with_reducible rfl)
    try simp only [Act.put, zl, z0, z1]
    refine tL (v := ?_) 15 rfl (by kernel_rfl) (fun _ _ _ h => h) (Or.inl ⟨by rfl, ?_⟩) (by assumption) ?_; rotate_left
    · (intro w hSw; (try dsimp only at hSw); go_simp; try with_reducible rfl)
    try simp only [Act.put, zl, z0, z1]
    refine wpAnyH_done (by kernel_rfl) ?_ _
    go_wp2
    go_ret
    exact ⟨by rw [HE.out]; rfl, by (go_split_ands; (have h9 : Below W0.heap.size W0 _ := (by assumption); exact HB0.out.trans (h9.mono (by have := HS0.out; omega))))⟩
  · have HE := hide (show L.truthB v m = decide (((L.wrongL v m.x m.y).length : Int) ≤ v.wrong) by unfold L.truthB; rw [hm]; rfl)
    have HM := hide (show L.markB m v.size v.hxl v.hxh v.hyl v.hyh = true from hm)
    have HB := hide (L.isMark_bd HV.out hm).1
    clear hm
    go_enter Try.func18, Try.ntmps18
    go_upto_region 1 with fail
    obtain ⟨W0, hW0⟩ : ∃ W0, (w.alloc (.cells #[.int .i64 v.size, .slice A n c, .int .i64 v.wrong, .int .i64 v.hxl, .int .i64 v.hxh, .int .i64 v.hyl, .int .i64 v.hyh] 26)).alloc (.cells #[.int .i64 m.x, .int .i64 m.y, .int .i64 m.hx, .int .i64 m.hy] 30) = W0 := ⟨_, rfl⟩
    rw [hW0]
    obtain ⟨p, hp⟩ : ∃ p, w.heap.size = p := ⟨_, rfl⟩
    obtain ⟨q, hq⟩ : ∃ q, w.heap.size + 1 = q := ⟨_, rfl⟩
    have hS : (fun w' => Below W0.heap.size W0 w' ∧ p < w'.heap.size ∧ q < w'.heap.size ∧ w'.cell? ⟨p, 0, none⟩ = some (.int .i64 v.size) ∧ w'.cell? ⟨p, 1, none⟩ = some (.slice A n c) ∧ w'.cell? ⟨p, 2, none⟩ = some (.int .i64 v.wrong) ∧ w'.cell? ⟨p, 3, none⟩ = some (.int .i64 v.hxl) ∧ w'.cell? ⟨p, 4, none⟩ = some (.int .i64 v.hxh) ∧ w'.cell? ⟨p, 5, none⟩ = some (.int .i64 v.hyl) ∧ w'.cell? ⟨p, 6, none⟩ = some (.int .i64 v.hyh) ∧ w'.cell? ⟨q, 0, none⟩ = some (.int .i64 m.x) ∧ w'.cell? ⟨q, 1, none⟩ = some (.int .i64 m.y) ∧ w'.cell? ⟨q, 2, none⟩ = some (.int .i64 m.hx) ∧ w'.cell? ⟨q, 3, none⟩ = some (.int .i64 m.hy)) W0 := by
      rw [← hW0, ← hp, ← hq]
      refine ⟨Below.refl _ _, (by first | (simp; done) | (simp; omega) | omega), (by first | (simp; done) | (simp; omega) | omega), (zcP _ _ _ (by first | (simp; done) | (simp; omega) | omega)).trans (zcA _ _ _ _ rfl), (zcP _ _ _ (by first | (simp; done) | (simp; omega) | omega)).trans (zcA _ _ _ _ rfl), (zcP _ _ _ (by first | (simp; done) | (simp; omega) | omega)).trans (zcA _ _ _ _ rfl), (zcP _ _ _ (by first | (simp; done) | (simp; omega) | omega)).trans (zcA _ _ _ _ rfl), (zcP _ _ _ (by first | (simp; done) | (simp; omega) | omega)).trans (zcA _ _ _ _ rfl), (zcP _ _ _ (by first | (simp; done) | (simp; omega) | omega)).trans (zcA _ _ _ _ rfl), (zcP _ _ _ (by first | (simp; done) | (simp; omega) | omega)).trans (zcA _ _ _ _ rfl), zcA _ _ _ _ (by simp), zcA _ _ _ _ (by simp), zcA _ _ _ _ (by simp), zcA _ _ _ _ (by simp)⟩
    have hs0 : W0.heap.size = w.heap.size + 1 + 1 := by rw [← hW0]; simp
    have hb0 : Below w.heap.size w W0 := by rw [← hW0]; (repeat' first | exact zbR _ _ | assumption | refine zbD ?_ | refine zbA ?_ ?_ _ | refine zbS ?_ ?_ _ | refine zbT ?_ (by assumption) ?_ | (simp; done) | (simp; omega) | omega)
    rw [hq, hp]
    have hq' : q = p + 1 := by omega
    have HP := hide hp
    have HB0 := hide hb0
    have HS0 := hide hs0
    have HQ := hide hq'
    clear hW0 hp hq hb0 hs0 hq'
    have hkeep : ∀ u u' : World, Below u.heap.size u u' → (Below W0.heap.size W0 u ∧ p < u.heap.size ∧ q < u.heap.size ∧ u.cell? ⟨p, 0, none⟩ = some (.int .i64 v.size) ∧ u.cell? ⟨p, 1, none⟩ = some (.slice A n c) ∧ u.cell? ⟨p, 2, none⟩ = some (.int .i64 v.wrong) ∧ u.cell? ⟨p, 3, none⟩ = some (.int .i64 v.hxl) ∧ u.cell? ⟨p, 4, none⟩ = some (.int .i64 v.hxh) ∧ u.cell? ⟨p, 5, none⟩ = some (.int .i64 v.hyl) ∧ u.cell? ⟨p, 6, none⟩ = some (.int .i64 v.hyh) ∧ u.cell? ⟨q, 0, none⟩ = some (.int .i64 m.x) ∧ u.cell? ⟨q, 1, none⟩ = some (.int .i64 m.y) ∧ u.cell? ⟨q, 2, none⟩ = some (.int .i64 m.hx) ∧ u.cell? ⟨q, 3, none⟩ = some (.int .i64 m.hy)) → (Below W0.heap.size W0 u' ∧ p < u'.heap.size ∧ q < u'.heap.size ∧ u'.cell? ⟨p, 0, none⟩ = some (.int .i64 v.size) ∧ u'.cell? ⟨p, 1, none⟩ = some (.slice A n c) ∧ u'.cell? ⟨p, 2, none⟩ = some (.int .i64 v.wrong) ∧ u'.cell? ⟨p, 3, none⟩ = some (.int .i64 v.hxl) ∧ u'.cell? ⟨p, 4, none⟩ = some (.int .i64 v.hxh) ∧ u'.cell? ⟨p, 5, none⟩ = some (.int .i64 v.hyl) ∧ u'.cell? ⟨p, 6, none⟩ = some (.int .i64 v.hyh) ∧ u'.cell? ⟨q, 0, none⟩ = some (.int .i64 m.x) ∧ u'.cell? ⟨q, 1, none⟩ = some (.int .i64 m.y) ∧ u'.cell? ⟨q, 2, none⟩ = some (.int .i64 m.hx) ∧ u'.cell? ⟨q, 3, none⟩ = some (.int .i64 m.hy)) := by
      rintro u u' hb ⟨hB, l_p, l_q, k0, k1, k2, k3, k4, k5, k6, k7, k8, k9, k10⟩
      exact ⟨hB.trans (hb.mono hB.size), Nat.lt_of_lt_of_le l_p hb.size, Nat.lt_of_lt_of_le l_q hb.size, (hb.cell (p := ⟨p, 0, none⟩) l_p).trans k0, (hb.cell (p := ⟨p, 1, none⟩) l_p).trans k1, (hb.cell (p := ⟨p, 2, none⟩) l_p).trans k2, (hb.cell (p := ⟨p, 3, none⟩) l_p).trans k3, (hb.cell (p := ⟨p, 4, none⟩) l_p).trans k4, (hb.cell (p := ⟨p, 5, none⟩) l_p).trans k5, (hb.cell (p := ⟨p, 6, none⟩) l_p).trans k6, (hb.cell (p := ⟨q, 0, none⟩) l_q).trans k7, (hb.cell (p := ⟨q, 1, none⟩) l_q).trans k8, (hb.cell (p := ⟨q, 2, none⟩) l_q).trans k9, (hb.cell (p := ⟨q, 3, none⟩) l_q).trans k10⟩
    dsimp only at hS
    refine wp_region_held_drew (S := (fun w' => Below W0.heap.size W0 w' ∧ p < w'.heap.size ∧ q < w'.heap.size ∧ w'.cell? ⟨p, 0, none⟩ = some (.int .i64 v.size) ∧ w'.cell? ⟨p, 1, none⟩ = some (.slice A n c) ∧ w'.cell? ⟨p, 2, none⟩ = some (.int .i64 v.wrong) ∧ w'.cell? ⟨p, 3, none⟩ = some (.int .i64 v.hxl) ∧ w'.cell? ⟨p, 4, none⟩ = some (.int .i64 v.hxh) ∧ w'.cell? ⟨p, 5, none⟩ = some (.int .i64 v.hyl) ∧ w'.cell? ⟨p, 6, none⟩ = some (.int .i64 v.hyh) ∧ w'.cell? ⟨q, 0, none⟩ = some (.int .i64 m.x) ∧ w'.cell? ⟨q, 1, none⟩ = some (.int .i64 m.y) ∧ w'.cell? ⟨q, 2, none⟩ = some (.int .i64 m.hx) ∧ w'.cell? ⟨q, 3, none⟩ = some (.int .i64 m.hy))) (by kernel_rfl) ?_ (fun hHeld0 => ?_)
    · (try dsimp only); (first | (go_keep; done) | (go_split_ands; (repeat' apply And.intro) <;> first | (go_keep; done) | (simp [*, zcA, zcP, zfA, zfP]; done) | (simp [zcA, zcP] <;> rfl) | (simp [*, zsS, zsO, zsA]; done) | ((first | refine (hc _ _ ?_).trans ?_ | refine (hf _ _ ?_).trans ?_) <;> first | assumption | (simp; done) | (simp; omega) | omega | (go_keep; done) | (simp [*, zcA, zcP, zfA, zfP]; done) | (simp [zcA, zcP]; rfl)) | (repeat' first | exact zbR _ _ | assumption | refine zbD ?_ | refine zbA ?_ ?_ _ | refine zbS ?_ ?_ _ | refine zbT ?_ (by assumption) ?_ | (simp; done) | (simp; omega) | omega)))
    refine tL (v := ?_) 0 rfl (by kernel_rfl) (fun _ _ _ h => h) (Or.inl ⟨by rfl, ?_⟩) (by assumption) ?_; rotate_left
    · (intro w hSw; (try dsimp only at hSw); go_simp; try with_reducible rfl)
    try simp only [Act.put, zl, z0, z1]
    refine tL (v := ?_) 1 rfl (by kernel_rfl) (fun _ _ _ h => h) (Or.inl ⟨by rfl, ?_⟩) (by assumption) ?_; rotate_left
    · (intro w hSw; (try dsimp only at hSw); go_simp; try with_reducible rfl)
    try simp only [Act.put, zl, z0, z1]
    refine wpAnyH_ready (rs := [2]) (by kernel_rfl) (by simp) ?_
    refine consL 2 rfl (fun K hK => ?_) AllReadyH.nil
    go_simp
    (go_at_call 49; refine (isMark_any v A n c m _).mono ?_; rintro e w2 ⟨rfl, hb⟩; rw [HM.out]; have hSn := hkeep _ _ hb (by assumption); (try clear hS); have hS := hSn; clear hSn)
    refine hK.out _ _ ?_ (fun hHeld1 => ?_)
    · (try dsimp only); exact hS
    clear hK K hHeld0
    try simp only [Act.put, zl, z0, z1]
    refine tL (v := ?_) 3 rfl (by kernel_rfl) (fun _ _ _ h => h) (Or.inl ⟨by rfl, ?_⟩) (by assumption) ?_; rotate_left
    · (intro w hSw; (try dsimp only at hSw); go_simp; try with_reducible rfl)
    try simp only [Act.put, zl, z0, z1]
    refine tL (v := ?_) 4 rfl (by kernel_rfl) (fun _ _ _ h => h) (Or.inl ⟨by rfl, ?_⟩) (by assumption) ?_; rotate_left
    · (intro w hSw; (try dsimp only at hSw); go_simp; try with_reducible rfl)
    try simp only [Act.put, zl, z0, z1]
    refine tL (v := ?_) 5 rfl (by kernel_rfl) (fun _ _ _ h => h) (Or.inl ⟨by rfl, ?_⟩) (by assumption) ?_; rotate_left
    · (intro w hSw; (try dsimp only at hSw); go_simp; try with_reducible rfl)
    try simp only [Act.put, zl, z0, z1]
    refine tL (v := ?_) 6 rfl (by kernel_rfl) (fun _ _ _ h => h) (Or.inl ⟨by rfl, ?_⟩) (by assumption) ?_; rotate_left
    · (intro w hSw; (try dsimp only at hSw); go_simp; try with_reducible rfl)
    try simp only [Act.put, zl, z0, z1]
    refine tL (v := ?_) 7 rfl (by kernel_rfl) (fun _ _ _ h => h) (Or.inl ⟨by rfl, ?_⟩) (by assumption) ?_; rotate_left
    · (intro w hSw; (try dsimp only at hSw); go_simp; try with_reducible rfl)
    try simp only [Act.put, zl, z0, z1]
    refine tL (v := ?_) 8 rfl (by kernel_rfl) (fun _ _ _ h => h) (Or.inl ⟨by rfl, ?_⟩) (by assumption) ?_; rotate_left
    · (intro w hSw; (try dsimp only at hSw); go_simp; try with_reducible rfl)
    try simp only [Act.put, zl, z0, z1]
    refine tL (v := ?_) 11 rfl (by kernel_rfl) (fun _ _ _ h => h) (Or.inl ⟨by rfl, ?_⟩) (by assumption) ?_; rotate_left
    · (intro w hSw; (try dsimp only at hSw); go_simp; try with_reducible rfl)
    try simp only [Act.put, zl, z0, z1]
    refine tL (v := ?_) 12 rfl (by kernel_rfl) (fun _ _ _ h => h) (Or.inl ⟨by rfl, ?_⟩) (by assumption) ?_; rotate_left
    · (intro w hSw; (try dsimp only at hSw); go_simp; try with_reducible rfl)
    try simp only [Act.put, zl, z0, z1]
    refine wpAnyH_ready (rs := [9]) (by kernel_rfl) (by simp) ?_
    refine consL 9 rfl (fun K hK => ?_) AllReadyH.nil
    go_simp
    (go_at_call 50; refine (refWrong_any v A n c m.x m.y _ HN.out ((HR.out.below (HB0.out.trans (hS.1.mono (by have := HS0.out; omega)))).mono (by have := hS.1.size; have := HS0.out; omega)) HV.out.ok (by have := HV.out.n8; have := HN.out; omega) HB.out.x0 HB.out.x1 HB.out.y0 HB.out.y1).mono ?_; rintro e w3 ⟨sv, c3, rfl, hown, hb⟩; clear hown; have hSn := hkeep _ _ hb (by assumption); (try clear hS); have hS := hSn; clear hSn)
    refine hK.out _ _ ?_ (fun hHeld2 => ?_)
    · (try dsimp only); exact hS
    clear hK K hHeld1
    try simp only [Act.put, zl, z0, z1]
    refine tL (v := ?_) 10 rfl (by kernel_rfl) (fun _ _ _ h => h) (Or.inl ⟨by rfl, ?_⟩) (by assumption) ?_; rotate_left
    · (intro w hSw; (try dsimp only at hSw); go_simp; try with_reducible rfl)
    try simp only [Act.put, zl, z0, z1]
    refine tL (v := ?_) 13 rfl (by kernel_rfl) (fun _ _ _ h => h) (Or.inl ⟨by rfl, ?_⟩) (by assumption) ?_; rotate_left
    · (intro w hSw; (try dsimp only at hSw); go_simp; try with_reducible rfl)
    try simp only [Act.put, zl, z0, z1]
    refine tL (v := ?_) 14 rfl (by kernel_rfl) (fun _ _ _ h => h) (Or.inl ⟨by rfl, ?_⟩) (by assumption) ?_; rotate_left
    · (intro w hSw; (try dsimp only at hSw); go_simp; try with_reducible rfl)
    try simp only [Act.put, zl, z0, z1]
    refine tL (v := ?_) 15 rfl (by kernel_rfl) (fun _ _ _ h => h) (Or.inl ⟨by rfl, ?_⟩) (by assumption) ?_; rotate_left
    · (intro w hSw; (try dsimp only at hSw); go_simp; try with_reducible rfl)
    try simp only [Act.put, zl, z0, z1]
    refine wpAnyH_done (by kernel_rfl) ?_ _
    go_wp2
    go_ret
    exact ⟨by rw [HE.out]; rfl, by (go_split_ands; (have h9 : Below W0.heap.size W0 _ := (by assumption); exact HB0.out.trans (h9.mono (by have := HS0.out; omega))))⟩

end Go.Proofs.Ytgnobonhohfofaa

namespace Go.Proofs.Ytgnobonhohfofaa
open Go.RowKit
attribute [local go_sem ↓] Go.wp_at_zero Go.wp_at_succ

def L.wrgE (v : L.Vw) (m : L.Mk) : Int := if L.viewB v then (if L.isMarkB v m then 0 else 22) else 20
def L.wrgL (v : L.Vw) (m : L.Mk) : List Int := if L.viewB v then (if L.isMarkB v m then L.wrongL v m.x m.y else []) else []
def WrgPost (v : L.Vw) (m : L.Mk) (w : World) (e : Ending) (w' : World) : Prop :=
  ∃ sv c', e = .returned (.tuple #[.slice sv (L.wrgL v m).length c', .int .i64 (L.wrgE v m)]) ∧ w'.ownsRow w.heap.size 3 1 (.slice sv (L.wrgL v m).length c') (L.wrgL v m).length (flatI (L.wrgL v m)) ∧ Below w.heap.size w w'
theorem wrg_none {v : L.Vw} {m : L.Mk} {w w' : World} {k : Int} (h1 : L.wrgL v m = []) (h2 : L.wrgE v m = k) (hb : Below w.heap.size w w') : WrgPost v m w (.returned (.tuple #[.slice none 0 0, .int .i64 k])) w' := by
  unfold WrgPost
  rw [h1, h2]
  exact ⟨none, 0, rfl, World.ownsRow_nil _ _ _ _, hb⟩
theorem wrg_some {v : L.Vw} {m : L.Mk} {w w' : World} {sv : Option Addr} {c : Nat} {l : List Int} {n : Nat} (hn : l.length = n) (h1 : L.wrgL v m = l) (h2 : L.wrgE v m = 0) (ho : w'.ownsRow w.heap.size 3 1 (.slice sv n c) n (flatI l)) (hb : Below w.heap.size w w') : WrgPost v m w (.returned (.tuple #[.slice sv n c, .int .i64 0])) w' := by
  subst hn
  unfold WrgPost
  rw [h1, h2]
  exact ⟨sv, c, rfl, ho, hb⟩
theorem L.check_t {v : L.Vw} (h : L.viewB v = true) : L.checkE v = 0 := by unfold L.checkE; rw [h]; rfl
theorem L.check_f {v : L.Vw} (h : L.viewB v = false) : L.checkE v = 20 := by unfold L.checkE; rw [h]; rfl

set_option maxRecDepth 100000 in
set_option maxHeartbeats 1600000 in
theorem Wrong_any (v : L.Vw) (A : Option Addr) (n c : Nat) (m : L.Mk) (w : World) (hn : v.ss.length = n) (hr : RdS w w.heap.size A v.ss) :
    Calls Try.prog 31 #[.agg #[.int .i64 v.size, .slice A n c, .int .i64 v.wrong, .int .i64 v.hxl, .int .i64 v.hxh, .int .i64 v.hyl, .int .i64 v.hyh], .agg #[.int .i64 m.x, .int .i64 m.y, .int .i64 m.hx, .int .i64 m.hy]] w fun e w' => WrgPost v m w e w' := by
  have HN := hide hn
  have HR := hide hr
  clear hn hr
  cases hv : L.viewB v
  · have E1 := hide (show L.wrgL v m = [] by unfold L.wrgL; rw [hv]; rfl)
    have E2 := hide (show L.wrgE v m = 20 by unfold L.wrgE; rw [hv]; rfl)
    have HC := hide (L.check_f hv)
    clear hv
    go_enter Try.func31, Try.ntmps31
    go_wp2_with (go_at_call 35; refine (Check_any v A n c _ HN.out ((HR.out.below (by (repeat' first | exact zbR _ _ | assumption | refine zbD ?_ | refine zbA ?_ ?_ _ | refine zbS ?_ ?_ _ | refine zbT ?_ (by assumption) ?_ | (simp; done) | (simp; omega) | omega))).mono (by first | (simp; done) | (simp; omega) | omega))).mono ?_; rintro e w2 ⟨rfl, hb2⟩; rw [HC.out]; obtain ⟨hc2, hf2⟩ := bcell hb2; have q2 := hb2.size; (try simp only [World.size_alloc] at q2); have z2_0 : w.heap.size < w2.heap.size := (by omega); have z2_1 : w.heap.size + 1 < w2.heap.size := (by omega))
    go_ret2
    exact wrg_none E1.out E2.out (by (repeat' first | exact zbR _ _ | assumption | refine zbD ?_ | refine zbA ?_ ?_ _ | refine zbS ?_ ?_ _ | refine zbT ?_ (by assumption) ?_ | (simp; done) | (simp; omega) | omega))
  cases hm : L.isMarkB v m
  · have E1 := hide (show L.wrgL v m = [] by unfold L.wrgL; rw [hv, hm]; rfl)
    have E2 := hide (show L.wrgE v m = 22 by unfold L.wrgE; rw [hv, hm]; rfl)
    have HC := hide (L.check_t hv)
    have HM := hide (show L.markB m v.size v.hxl v.hxh v.hyl v.hyh = false from hm)
    clear hv hm
    go_enter Try.func31, Try.ntmps31
    go_wp2_with (first | (go_at_call 35; refine (Check_any v A n c _ HN.out ((HR.out.below (by (repeat' first | exact zbR _ _ | assumption | refine zbD ?_ | refine zbA ?_ ?_ _ | refine zbS ?_ ?_ _ | refine zbT ?_ (by assumption) ?_ | (simp; done) | (simp; omega) | omega))).mono (by first | (simp; done) | (simp; omega) | omega))).mono ?_; rintro e w2 ⟨rfl, hb2⟩; rw [HC.out]; obtain ⟨hc2, hf2⟩ := bcell hb2; have q2 := hb2.size; (try simp only [World.size_alloc] at q2); have z2_0 : w.heap.size < w2.heap.size := (by omega); have z2_1 : w.heap.size + 1 < w2.heap.size := (by omega)) | (go_at_call 52; refine (markWithin_any m _ _ _ _ _ _).mono ?_; rintro e w3 ⟨rfl, hb3⟩; rw [HM.out]; obtain ⟨hc3, hf3⟩ := bcell hb3; have q3 := hb3.size; (try simp only [World.size_alloc] at q3); have z3_0 : w.heap.size < w3.heap.size := (by omega); have z3_1 : w.heap.size + 1 < w3.heap.size := (by omega)))
    go_ret2
    exact wrg_none E1.out E2.out (by (repeat' first | exact zbR _ _ | assumption | refine zbD ?_ | refine zbA ?_ ?_ _ | refine zbS ?_ ?_ _ | refine zbT ?_ (by assumption) ?_ | (simp; done) | (simp; omega) | omega))
  · have E1 := hide (show L.wrgL v m = L.wrongL v m.x m.y by unfold L.wrgL; rw [hv, hm]; rfl)
    have E2 := hide (show L.wrgE v m = 0 by unfold L.wrgE; rw [hv, hm]; rfl)
    have HC := hide (L.check_t hv)
    have HM := hide (show L.markB m v.size v.hxl v.hxh v.hyl v.hyh = true from hm)
    have HV := hide (L.viewB_ok hv)
    have HB := hide (L.isMark_bd HV.out hm).1
    clear hv hm
    go_enter Try.func31, Try.ntmps31
    go_wp2_with (first | (go_at_call 35; refine (Check_any v A n c _ HN.out ((HR.out.below (by (repeat' first | exact zbR _ _ | assumption | refine zbD ?_ | refine zbA ?_ ?_ _ | refine zbS ?_ ?_ _ | refine zbT ?_ (by assumption) ?_ | (simp; done) | (simp; omega) | omega))).mono (by first | (simp; done) | (simp; omega) | omega))).mono ?_; rintro e w2 ⟨rfl, hb2⟩; rw [HC.out]; obtain ⟨hc2, hf2⟩ := bcell hb2; have q2 := hb2.size; (try simp only [World.size_alloc] at q2); have z2_0 : w.heap.size < w2.heap.size := (by omega); have z2_1 : w.heap.size + 1 < w2.heap.size := (by omega)) | (go_at_call 52; refine (markWithin_any m _ _ _ _ _ _).mono ?_; rintro e w3 ⟨rfl, hb3⟩; rw [HM.out]; obtain ⟨hc3, hf3⟩ := bcell hb3; have q3 := hb3.size; (try simp only [World.size_alloc] at q3); have z3_0 : w.heap.size < w3.heap.size := (by omega); have z3_1 : w.heap.size + 1 < w3.heap.size := (by omega)) | (go_at_call 60; refine (wrongAbout_any v A n c m.x m.y _ HN.out ((HR.out.below (by (repeat' first | exact zbR _ _ | assumption | refine zbD ?_ | refine zbA ?_ ?_ _ | refine zbS ?_ ?_ _ | refine zbT ?_ (by assumption) ?_ | (simp; done) | (simp; omega) | omega))).mono (by first | (simp; done) | (simp; omega) | omega)) HV.out.ok (by have := HV.out.n8; have := HN.out; omega) HB.out.x0 HB.out.x1 HB.out.y0 HB.out.y1).mono ?_; rintro e w4 ⟨sv, c4, rfl, hown, hb4⟩; have HO := hide hown; clear hown))
    go_ret2
    exact wrg_some rfl E1.out E2.out (owns_mono HO.out (by first | (simp; done) | (simp; omega) | omega)) (by (repeat' first | exact zbR _ _ | assumption | refine zbD ?_ | refine zbA ?_ ?_ _ | refine zbS ?_ ?_ _ | refine zbT ?_ (by assumption) ?_ | (simp; done) | (simp; omega) | omega))

set_option maxRecDepth 100000 in
set_option maxHeartbeats 1600000 in
theorem refWrongs_any (v : L.Vw) (A : Option Addr) (n c : Nat) (m : L.Mk) (w : World) (hn : v.ss.length = n) (hr : RdS w w.heap.size A v.ss) :
    Calls Try.prog 37 #[.agg #[.int .i64 v.size, .slice A n c, .int .i64 v.wrong, .int .i64 v.hxl, .int .i64 v.hxh, .int .i64 v.hyl, .int .i64 v.hyh], .agg #[.int .i64 m.x, .int .i64 m.y, .int .i64 m.hx, .int .i64 m.hy]] w fun e w' => WrgPost v m w e w' := by
  have HN := hide hn
  have HR := hide hr
  clear hn hr
  cases hv : L.viewB v
  · have E1 := hide (show L.wrgL v m = [] by unfold L.wrgL; rw [hv]; rfl)
    have E2 := hide (show L.wrgE v m = 20 by unfold L.wrgE; rw [hv]; rfl)
    have HC := hide (L.check_f hv)
    clear hv
    go_enter Try.func37, Try.ntmps37
    go_wp2_with (go_at_call 23; refine (RefCheck_any v A n c _ HN.out ((HR.out.below (by (repeat' first | exact zbR _ _ | assumption | refine zbD ?_ | refine zbA ?_ ?_ _ | refine zbS ?_ ?_ _ | refine zbT ?_ (by assumption) ?_ | (simp; done) | (simp; omega) | omega))).mono (by first | (simp; done) | (simp; omega) | omega))).mono ?_; rintro e w2 ⟨rfl, hb2⟩; rw [HC.out]; obtain ⟨hc2, hf2⟩ := bcell hb2; have q2 := hb2.size; (try simp only [World.size_alloc] at q2); have z2_0 : w.heap.size < w2.heap.size := (by omega); have z2_1 : w.heap.size + 1 < w2.heap.size := (by omega))
    go_ret2
    exact wrg_none E1.out E2.out (by (repeat' first | exact zbR _ _ | assumption | refine zbD ?_ | refine zbA ?_ ?_ _ | refine zbS ?_ ?_ _ | refine zbT ?_ (by assumption) ?_ | (simp; done) | (simp; omega) | omega))
  cases hm : L.isMarkB v m
  · have E1 := hide (show L.wrgL v m = [] by unfold L.wrgL; rw [hv, hm]; rfl)
    have E2 := hide (show L.wrgE v m = 22 by unfold L.wrgE; rw [hv, hm]; rfl)
    have HC := hide (L.check_t hv)
    have HM := hide (show L.markB m v.size v.hxl v.hxh v.hyl v.hyh = false from hm)
    clear hv hm
    go_enter Try.func37, Try.ntmps37
    go_wp2_with (first | (go_at_call 23; refine (RefCheck_any v A n c _ HN.out ((HR.out.below (by (repeat' first | exact zbR _ _ | assumption | refine zbD ?_ | refine zbA ?_ ?_ _ | refine zbS ?_ ?_ _ | refine zbT ?_ (by assumption) ?_ | (simp; done) | (simp; omega) | omega))).mono (by first | (simp; done) | (simp; omega) | omega))).mono ?_; rintro e w2 ⟨rfl, hb2⟩; rw [HC.out]; obtain ⟨hc2, hf2⟩ := bcell hb2; have q2 := hb2.size; (try simp only [World.size_alloc] at q2); have z2_0 : w.heap.size < w2.heap.size := (by omega); have z2_1 : w.heap.size + 1 < w2.heap.size := (by omega)) | (go_at_call 49; refine (isMark_any v A n c m _).mono ?_; rintro e w3 ⟨rfl, hb3⟩; rw [HM.out]; obtain ⟨hc3, hf3⟩ := bcell hb3; have q3 := hb3.size; (try simp only [World.size_alloc] at q3); have z3_0 : w.heap.size < w3.heap.size := (by omega); have z3_1 : w.heap.size + 1 < w3.heap.size := (by omega)))
    go_ret2
    exact wrg_none E1.out E2.out (by (repeat' first | exact zbR _ _ | assumption | refine zbD ?_ | refine zbA ?_ ?_ _ | refine zbS ?_ ?_ _ | refine zbT ?_ (by assumption) ?_ | (simp; done) | (simp; omega) | omega))
  · have E1 := hide (show L.wrgL v m = L.wrongL v m.x m.y by unfold L.wrgL; rw [hv, hm]; rfl)
    have E2 := hide (show L.wrgE v m = 0 by unfold L.wrgE; rw [hv, hm]; rfl)
    have HC := hide (L.check_t hv)
    have HM := hide (show L.markB m v.size v.hxl v.hxh v.hyl v.hyh = true from hm)
    have HV := hide (L.viewB_ok hv)
    have HB := hide (L.isMark_bd HV.out hm).1
    clear hv hm
    go_enter Try.func37, Try.ntmps37
    go_wp2_with (first | (go_at_call 23; refine (RefCheck_any v A n c _ HN.out ((HR.out.below (by (repeat' first | exact zbR _ _ | assumption | refine zbD ?_ | refine zbA ?_ ?_ _ | refine zbS ?_ ?_ _ | refine zbT ?_ (by assumption) ?_ | (simp; done) | (simp; omega) | omega))).mono (by first | (simp; done) | (simp; omega) | omega))).mono ?_; rintro e w2 ⟨rfl, hb2⟩; rw [HC.out]; obtain ⟨hc2, hf2⟩ := bcell hb2; have q2 := hb2.size; (try simp only [World.size_alloc] at q2); have z2_0 : w.heap.size < w2.heap.size := (by omega); have z2_1 : w.heap.size + 1 < w2.heap.size := (by omega)) | (go_at_call 49; refine (isMark_any v A n c m _).mono ?_; rintro e w3 ⟨rfl, hb3⟩; rw [HM.out]; obtain ⟨hc3, hf3⟩ := bcell hb3; have q3 := hb3.size; (try simp only [World.size_alloc] at q3); have z3_0 : w.heap.size < w3.heap.size := (by omega); have z3_1 : w.heap.size + 1 < w3.heap.size := (by omega)) | (go_at_call 50; refine (refWrong_any v A n c m.x m.y _ HN.out ((HR.out.below (by (repeat' first | exact zbR _ _ | assumption | refine zbD ?_ | refine zbA ?_ ?_ _ | refine zbS ?_ ?_ _ | refine zbT ?_ (by assumption) ?_ | (simp; done) | (simp; omega) | omega))).mono (by first | (simp; done) | (simp; omega) | omega)) HV.out.ok (by have := HV.out.n8; have := HN.out; omega) HB.out.x0 HB.out.x1 HB.out.y0 HB.out.y1).mono ?_; rintro e w4 ⟨sv, c4, rfl, hown, hb4⟩; have HO := hide hown; clear hown))
    go_ret2
    exact wrg_some rfl E1.out E2.out (owns_mono HO.out (by first | (simp; done) | (simp; omega) | omega)) (by (repeat' first | exact zbR _ _ | assumption | refine zbD ?_ | refine zbA ?_ ?_ _ | refine zbS ?_ ?_ _ | refine zbT ?_ (by assumption) ?_ | (simp; done) | (simp; omega) | omega))

end Go.Proofs.Ytgnobonhohfofaa

namespace Go.Proofs.Ytgnobonhohfofaa
open Go.RowKit

theorem L.wrgL_len (v : L.Vw) (m : L.Mk) : (L.wrgL v m).length ≤ v.ss.length := by
  unfold L.wrgL
  split
  · split
    · rw [L.wrongL_length]; exact L.many_le _ _ _ _
    · simp
  · simp
theorem run_neq_strip (a b c d : Int) (w : World) :
    (binOp .neq 54 (.agg #[.int .i64 a, .int .i64 b, .int .i64 c, .int .i64 d]) (.agg #[.int .i64 a, .int .i64 b, .int .i64 c, .int .i64 d])).run Try.prog w = .ok (.bool false) w := by
  simp [go_sem, Try.underlying54]
attribute [local go_sem ↓] Go.wp_at_zero Go.wp_at_succ run_neq_strip

set_option maxRecDepth 100000 in
set_option maxHeartbeats 3200000 in
theorem touchesLaw_out (v : L.Vw) (A : Option Addr) (n c : Nat) (m : L.Mk) (b : L.Bx) (w : World) (h : 40 < (n : Int)) :
    Calls Try.prog 10 #[.agg #[.int .i64 v.size, .slice A n c, .int .i64 v.wrong, .int .i64 v.hxl, .int .i64 v.hxh, .int .i64 v.hyl, .int .i64 v.hyh], .agg #[.int .i64 m.x, .int .i64 m.y, .int .i64 m.hx, .int .i64 m.hy], .agg #[.int .i64 b.l, .int .i64 b.r, .int .i64 b.b, .int .i64 b.t]] w fun e w' => e = .returned (.bool true) ∧ Below w.heap.size w w' := by
  go_enter Try.func10, Try.ntmps10
  go_wp2_with (go_at_call 16; refine (works_any _).mono ?_; rintro e w3 ⟨rfl, hb3⟩)
  go_ret
  exact ⟨rfl, by (repeat' first | exact zbR _ _ | assumption | refine zbD ?_ | refine zbA ?_ ?_ _ | refine zbS ?_ ?_ _ | refine zbT ?_ (by assumption) ?_ | (simp; done) | (simp; omega) | omega)⟩

set_option maxRecDepth 100000 in
set_option maxHeartbeats 6400000 in
theorem touchesLaw_in (v : L.Vw) (A : Option Addr) (n c : Nat) (m : L.Mk) (b : L.Bx) (w : World) (h : n ≤ 40) (hn : v.ss.length = n) (hr : RdS w w.heap.size A v.ss) (hA : A = none → c = 0) :
    Calls Try.prog 10 #[.agg #[.int .i64 v.size, .slice A n c, .int .i64 v.wrong, .int .i64 v.hxl, .int .i64 v.hxh, .int .i64 v.hyl, .int .i64 v.hyh], .agg #[.int .i64 m.x, .int .i64 m.y, .int .i64 m.hx, .int .i64 m.hy], .agg #[.int .i64 b.l, .int .i64 b.r, .int .i64 b.b, .int .i64 b.t]] w fun e w' => e = .returned (.bool true) ∧ Below w.heap.size w w' := by
  have HN := hide hn
  have HR := hide hr
  have HA := hide hA
  clear hn hr hA
  have hlt : ¬ (40 : Int) < (n : Int) := by omega
  have hlt2 : (n : Int) ≤ 40 := by omega
  go_enter Try.func10, Try.ntmps10
  go_upto_region 4 with (go_at_call 26; refine (Copy_any v A n c _ HN.out ((HR.out.below (by (repeat' first | exact zbR _ _ | assumption | refine zbD ?_ | refine zbA ?_ ?_ _ | refine zbS ?_ ?_ _ | refine zbT ?_ (by assumption) ?_ | (simp; done) | (simp; omega) | omega))).mono (by first | (simp; done) | (simp; omega) | omega)) HA.out (by omega)).mono ?_; rintro e w2 ⟨A', c', rfl, hown, hb2⟩; have HO := hide hown; clear hown; obtain ⟨hc2, hf2⟩ := bcell hb2; have q2 := hb2.size; (try simp only [World.size_alloc] at q2); have z2_0 : w.heap.size < w2.heap.size := (by omega); have z2_1 : w.heap.size + 1 < w2.heap.size := (by omega); have z2_2 : w.heap.size + 1 + 1 < w2.heap.size := (by omega))
  obtain ⟨W0, hW0⟩ : ∃ W0, w2.alloc (.cells #[.int .i64 v.size, .slice A' n c', .int .i64 v.wrong, .int .i64 v.hxl, .int .i64 v.hxh, .int .i64 v.hyl, .int .i64 v.hyh] 26) = W0 := ⟨_, rfl⟩
  rw [hW0]
  obtain ⟨p, hp⟩ : ∃ p, w.heap.size = p := ⟨_, rfl⟩
  obtain ⟨q, hq⟩ : ∃ q, w.heap.size + 1 = q := ⟨_, rfl⟩
  obtain ⟨r, hr'⟩ : ∃ r, w.heap.size + 1 + 1 = r := ⟨_, rfl⟩
  obtain ⟨o, ho⟩ : ∃ o, w2.heap.size = o := ⟨_, rfl⟩
  have hS : (fun w' => Below W0.heap.size W0 w' ∧ p < w'.heap.size ∧ q < w'.heap.size ∧ r < w'.heap.size ∧ o < w'.heap.size ∧ w'.cell? ⟨p, 0, none⟩ = some (.int .i64 v.size) ∧ w'.cell? ⟨p, 1, none⟩ = some (.slice A n c) ∧ w'.cell? ⟨p, 2, none⟩ = some (.int .i64 v.wrong) ∧ w'.cell? ⟨p, 3, none⟩ = some (.int .i64 v.hxl) ∧ w'.cell? ⟨p, 4, none⟩ = some (.int .i64 v.hxh) ∧ w'.cell? ⟨p, 5, none⟩ = some (.int .i64 v.hyl) ∧ w'.cell? ⟨p, 6, none⟩ = some (.int .i64 v.hyh) ∧ w'.cell? ⟨q, 0, none⟩ = some (.int .i64 m.x) ∧ w'.cell? ⟨q, 1, none⟩ = some (.int .i64 m.y) ∧ w'.cell? ⟨q, 2, none⟩ = some (.int .i64 m.hx) ∧ w'.cell? ⟨q, 3, none⟩ = some (.int .i64 m.hy) ∧ w'.cell? ⟨r, 0, none⟩ = some (.int .i64 b.l) ∧ w'.cell? ⟨r, 1, none⟩ = some (.int .i64 b.r) ∧ w'.cell? ⟨r, 2, none⟩ = some (.int .i64 b.b) ∧ w'.cell? ⟨r, 3, none⟩ = some (.int .i64 b.t) ∧ w'.cell? ⟨o, 0, none⟩ = some (.int .i64 v.size) ∧ w'.cell? ⟨o, 1, none⟩ = some (.slice A' n c') ∧ w'.cell? ⟨o, 2, none⟩ = some (.int .i64 v.wrong) ∧ w'.cell? ⟨o, 3, none⟩ = some (.int .i64 v.hxl) ∧ w'.cell? ⟨o, 4, none⟩ = some (.int .i64 v.hxh) ∧ w'.cell? ⟨o, 5, none⟩ = some (.int .i64 v.hyl) ∧ w'.cell? ⟨o, 6, none⟩ = some (.int .i64 v.hyh)) W0 := by
    rw [← hW0, ← hp, ← hq, ← hr', ← ho]
    exact ⟨Below.refl _ _, by simp; omega, by simp; omega, by simp; omega, by simp, (zcP _ _ _ z2_0).trans ((hc2 _ _ (by first | (simp; done) | (simp; omega) | omega)).trans ((zcP _ _ _ (by first | (simp; done) | (simp; omega) | omega)).trans ((zcP _ _ _ (by first | (simp; done) | (simp; omega) | omega)).trans ((zcA _ _ _ _ (by first | rfl | (simp; done))).trans rfl)))), (zcP _ _ _ z2_0).trans ((hc2 _ _ (by first | (simp; done) | (simp; omega) | omega)).trans ((zcP _ _ _ (by first | (simp; done) | (simp; omega) | omega)).trans ((zcP _ _ _ (by first | (simp; done) | (simp; omega) | omega)).trans ((zcA _ _ _ _ (by first | rfl | (simp; done))).trans rfl)))), (zcP _ _ _ z2_0).trans ((hc2 _ _ (by first | (simp; done) | (simp; omega) | omega)).trans ((zcP _ _ _ (by first | (simp; done) | (simp; omega) | omega)).trans ((zcP _ _ _ (by first | (simp; done) | (simp; omega) | omega)).trans ((zcA _ _ _ _ (by first | rfl | (simp; done))).trans rfl)))), (zcP _ _ _ z2_0).trans ((hc2 _ _ (by first | (simp; done) | (simp; omega) | omega)).trans ((zcP _ _ _ (by first | (simp; done) | (simp; omega) | omega)).trans ((zcP _ _ _ (by first | (simp; done) | (simp; omega) | omega)).trans ((zcA _ _ _ _ (by first | rfl | (simp; done))).trans rfl)))), (zcP _ _ _ z2_0).trans ((hc2 _ _ (by first | (simp; done) | (simp; omega) | omega)).trans ((zcP _ _ _ (by first | (simp; done) | (simp; omega) | omega)).trans ((zcP _ _ _ (by first | (simp; done) | (simp; omega) | omega)).trans ((zcA _ _ _ _ (by first | rfl | (simp; done))).trans rfl)))), (zcP _ _ _ z2_0).trans ((hc2 _ _ (by first | (simp; done) | (simp; omega) | omega)).trans ((zcP _ _ _ (by first | (simp; done) | (simp; omega) | omega)).trans ((zcP _ _ _ (by first | (simp; done) | (simp; omega) | omega)).trans ((zcA _ _ _ _ (by first | rfl | (simp; done))).trans rfl)))), (zcP _ _ _ z2_0).trans ((hc2 _ _ (by first | (simp; done) | (simp; omega) | omega)).trans ((zcP _ _ _ (by first | (simp; done) | (simp; omega) | omega)).trans ((zcP _ _ _ (by first | (simp; done) | (simp; omega) | omega)).trans ((zcA _ _ _ _ (by first | rfl | (simp; done))).trans rfl)))), (zcP _ _ _ z2_1).trans ((hc2 _ _ (by first | (simp; done) | (simp; omega) | omega)).trans ((zcP _ _ _ (by first | (simp; done) | (simp; omega) | omega)).trans ((zcA _ _ _ _ (by first | rfl | (simp; done))).trans rfl))), (zcP _ _ _ z2_1).trans ((hc2 _ _ (by first | (simp; done) | (simp; omega) | omega)).trans ((zcP _ _ _ (by first | (simp; done) | (simp; omega) | omega)).trans ((zcA _ _ _ _ (by first | rfl | (simp; done))).trans rfl))), (zcP _ _ _ z2_1).trans ((hc2 _ _ (by first | (simp; done) | (simp; omega) | omega)).trans ((zcP _ _ _ (by first | (simp; done) | (simp; omega) | omega)).trans ((zcA _ _ _ _ (by first | rfl | (simp; done))).trans rfl))), (zcP _ _ _ z2_1).trans ((hc2 _ _ (by first | (simp; done) | (simp; omega) | omega)).trans ((zcP _ _ _ (by first | (simp; done) | (simp; omega) | omega)).trans ((zcA _ _ _ _ (by first | rfl | (simp; done))).trans rfl))), (zcP _ _ _ z2_2).trans ((hc2 _ _ (by first | (simp; done) | (simp; omega) | omega)).trans ((zcA _ _ _ _ (by first | rfl | (simp; done))).trans rfl)), (zcP _ _ _ z2_2).trans ((hc2 _ _ (by first | (simp; done) | (simp; omega) | omega)).trans ((zcA _ _ _ _ (by first | rfl | (simp; done))).trans rfl)), (zcP _ _ _ z2_2).trans ((hc2 _ _ (by first | (simp; done) | (simp; omega) | omega)).trans ((zcA _ _ _ _ (by first | rfl | (simp; done))).trans rfl)), (zcP _ _ _ z2_2).trans ((hc2 _ _ (by first | (simp; done) | (simp; omega) | omega)).trans ((zcA _ _ _ _ (by first | rfl | (simp; done))).trans rfl)), (zcA _ _ _ _ rfl).trans rfl, (zcA _ _ _ _ rfl).trans rfl, (zcA _ _ _ _ rfl).trans rfl, (zcA _ _ _ _ rfl).trans rfl, (zcA _ _ _ _ rfl).trans rfl, (zcA _ _ _ _ rfl).trans rfl, (zcA _ _ _ _ rfl).trans rfl⟩
  have q2' := hb2.size
  (try simp only [World.size_alloc] at q2')
  have hs0 : W0.heap.size = w2.heap.size + 1 := by rw [← hW0]; simp
  have hb0 : Below w.heap.size w W0 := by rw [← hW0]; (repeat' first | exact zbR _ _ | assumption | refine zbD ?_ | refine zbA ?_ ?_ _ | refine zbS ?_ ?_ _ | refine zbT ?_ (by assumption) ?_ | (simp; done) | (simp; omega) | omega)
  have hown0 : W0.ownsRow (w.heap.size + 1 + 1 + 1) 54 4 (.slice A' n c') n (flatS v.ss) := by rw [← hW0]; exact (owns_mono HO.out (by simp)).alloc _
  have HRO := hide (owns_RdS hown0 HN.out)
  have HR0 := hide ((HR.out.below hb0).mono hb0.size)
  have HB0 := hide hb0
  (try rw [ho]); (try rw [hr']); (try rw [hq]); (try rw [hp])
  clear hp hq hr' ho hW0 hc2 hf2 z2_0 z2_1 z2_2 hb2 HO hb0 hown0
  have hkeep : ∀ u u' : World, Below u.heap.size u u' → (Below W0.heap.size W0 u ∧ p < u.heap.size ∧ q < u.heap.size ∧ r < u.heap.size ∧ o < u.heap.size ∧ u.cell? ⟨p, 0, none⟩ = some (.int .i64 v.size) ∧ u.cell? ⟨p, 1, none⟩ = some (.slice A n c) ∧ u.cell? ⟨p, 2, none⟩ = some (.int .i64 v.wrong) ∧ u.cell? ⟨p, 3, none⟩ = some (.int .i64 v.hxl) ∧ u.cell? ⟨p, 4, none⟩ = some (.int .i64 v.hxh) ∧ u.cell? ⟨p, 5, none⟩ = some (.int .i64 v.hyl) ∧ u.cell? ⟨p, 6, none⟩ = some (.int .i64 v.hyh) ∧ u.cell? ⟨q, 0, none⟩ = some (.int .i64 m.x) ∧ u.cell? ⟨q, 1, none⟩ = some (.int .i64 m.y) ∧ u.cell? ⟨q, 2, none⟩ = some (.int .i64 m.hx) ∧ u.cell? ⟨q, 3, none⟩ = some (.int .i64 m.hy) ∧ u.cell? ⟨r, 0, none⟩ = some (.int .i64 b.l) ∧ u.cell? ⟨r, 1, none⟩ = some (.int .i64 b.r) ∧ u.cell? ⟨r, 2, none⟩ = some (.int .i64 b.b) ∧ u.cell? ⟨r, 3, none⟩ = some (.int .i64 b.t) ∧ u.cell? ⟨o, 0, none⟩ = some (.int .i64 v.size) ∧ u.cell? ⟨o, 1, none⟩ = some (.slice A' n c') ∧ u.cell? ⟨o, 2, none⟩ = some (.int .i64 v.wrong) ∧ u.cell? ⟨o, 3, none⟩ = some (.int .i64 v.hxl) ∧ u.cell? ⟨o, 4, none⟩ = some (.int .i64 v.hxh) ∧ u.cell? ⟨o, 5, none⟩ = some (.int .i64 v.hyl) ∧ u.cell? ⟨o, 6, none⟩ = some (.int .i64 v.hyh)) → (Below W0.heap.size W0 u' ∧ p < u'.heap.size ∧ q < u'.heap.size ∧ r < u'.heap.size ∧ o < u'.heap.size ∧ u'.cell? ⟨p, 0, none⟩ = some (.int .i64 v.size) ∧ u'.cell? ⟨p, 1, none⟩ = some (.slice A n c) ∧ u'.cell? ⟨p, 2, none⟩ = some (.int .i64 v.wrong) ∧ u'.cell? ⟨p, 3, none⟩ = some (.int .i64 v.hxl) ∧ u'.cell? ⟨p, 4, none⟩ = some (.int .i64 v.hxh) ∧ u'.cell? ⟨p, 5, none⟩ = some (.int .i64 v.hyl) ∧ u'.cell? ⟨p, 6, none⟩ = some (.int .i64 v.hyh) ∧ u'.cell? ⟨q, 0, none⟩ = some (.int .i64 m.x) ∧ u'.cell? ⟨q, 1, none⟩ = some (.int .i64 m.y) ∧ u'.cell? ⟨q, 2, none⟩ = some (.int .i64 m.hx) ∧ u'.cell? ⟨q, 3, none⟩ = some (.int .i64 m.hy) ∧ u'.cell? ⟨r, 0, none⟩ = some (.int .i64 b.l) ∧ u'.cell? ⟨r, 1, none⟩ = some (.int .i64 b.r) ∧ u'.cell? ⟨r, 2, none⟩ = some (.int .i64 b.b) ∧ u'.cell? ⟨r, 3, none⟩ = some (.int .i64 b.t) ∧ u'.cell? ⟨o, 0, none⟩ = some (.int .i64 v.size) ∧ u'.cell? ⟨o, 1, none⟩ = some (.slice A' n c') ∧ u'.cell? ⟨o, 2, none⟩ = some (.int .i64 v.wrong) ∧ u'.cell? ⟨o, 3, none⟩ = some (.int .i64 v.hxl) ∧ u'.cell? ⟨o, 4, none⟩ = some (.int .i64 v.hxh) ∧ u'.cell? ⟨o, 5, none⟩ = some (.int .i64 v.hyl) ∧ u'.cell? ⟨o, 6, none⟩ = some (.int .i64 v.hyh)) := by
    rintro u u' hb ⟨hB, l_p, l_q, l_r, l_o, k0, k1, k2, k3, k4, k5, k6, k7, k8, k9, k10, k11, k12, k13, k14, k15, k16, k17, k18, k19, k20, k21⟩
    exact ⟨hB.trans (hb.mono hB.size), Nat.lt_of_lt_of_le l_p hb.size, Nat.lt_of_lt_of_le l_q hb.size, Nat.lt_of_lt_of_le l_r hb.size, Nat.lt_of_lt_of_le l_o hb.size, (hb.cell (p := ⟨p, 0, none⟩) l_p).trans k0, (hb.cell (p := ⟨p, 1, none⟩) l_p).trans k1, (hb.cell (p := ⟨p, 2, none⟩) l_p).trans k2, (hb.cell (p := ⟨p, 3, none⟩) l_p).trans k3, (hb.cell (p := ⟨p, 4, none⟩) l_p).trans k4, (hb.cell (p := ⟨p, 5, none⟩) l_p).trans k5, (hb.cell (p := ⟨p, 6, none⟩) l_p).trans k6, (hb.cell (p := ⟨q, 0, none⟩) l_q).trans k7, (hb.cell (p := ⟨q, 1, none⟩) l_q).trans k8, (hb.cell (p := ⟨q, 2, none⟩) l_q).trans k9, (hb.cell (p := ⟨q, 3, none⟩) l_q).trans k10, (hb.cell (p := ⟨r, 0, none⟩) l_r).trans k11, (hb.cell (p := ⟨r, 1, none⟩) l_r).trans k12, (hb.cell (p := ⟨r, 2, none⟩) l_r).trans k13, (hb.cell (p := ⟨r, 3, none⟩) l_r).trans k14, (hb.cell (p := ⟨o, 0, none⟩) l_o).trans k15, (hb.cell (p := ⟨o, 1, none⟩) l_o).trans k16, (hb.cell (p := ⟨o, 2, none⟩) l_o).trans k17, (hb.cell (p := ⟨o, 3, none⟩) l_o).trans k18, (hb.cell (p := ⟨o, 4, none⟩) l_o).trans k19, (hb.cell (p := ⟨o, 5, none⟩) l_o).trans k20, (hb.cell (p := ⟨o, 6, none⟩) l_o).trans k21⟩
  dsimp only at hS
  refine wp_region_held_drew (S := (fun w' => Below W0.heap.size W0 w' ∧ p < w'.heap.size ∧ q < w'.heap.size ∧ r < w'.heap.size ∧ o < w'.heap.size ∧ w'.cell? ⟨p, 0, none⟩ = some (.int .i64 v.size) ∧ w'.cell? ⟨p, 1, none⟩ = some (.slice A n c) ∧ w'.cell? ⟨p, 2, none⟩ = some (.int .i64 v.wrong) ∧ w'.cell? ⟨p, 3, none⟩ = some (.int .i64 v.hxl) ∧ w'.cell? ⟨p, 4, none⟩ = some (.int .i64 v.hxh) ∧ w'.cell? ⟨p, 5, none⟩ = some (.int .i64 v.hyl) ∧ w'.cell? ⟨p, 6, none⟩ = some (.int .i64 v.hyh) ∧ w'.cell? ⟨q, 0, none⟩ = some (.int .i64 m.x) ∧ w'.cell? ⟨q, 1, none⟩ = some (.int .i64 m.y) ∧ w'.cell? ⟨q, 2, none⟩ = some (.int .i64 m.hx) ∧ w'.cell? ⟨q, 3, none⟩ = some (.int .i64 m.hy) ∧ w'.cell? ⟨r, 0, none⟩ = some (.int .i64 b.l) ∧ w'.cell? ⟨r, 1, none⟩ = some (.int .i64 b.r) ∧ w'.cell? ⟨r, 2, none⟩ = some (.int .i64 b.b) ∧ w'.cell? ⟨r, 3, none⟩ = some (.int .i64 b.t) ∧ w'.cell? ⟨o, 0, none⟩ = some (.int .i64 v.size) ∧ w'.cell? ⟨o, 1, none⟩ = some (.slice A' n c') ∧ w'.cell? ⟨o, 2, none⟩ = some (.int .i64 v.wrong) ∧ w'.cell? ⟨o, 3, none⟩ = some (.int .i64 v.hxl) ∧ w'.cell? ⟨o, 4, none⟩ = some (.int .i64 v.hxh) ∧ w'.cell? ⟨o, 5, none⟩ = some (.int .i64 v.hyl) ∧ w'.cell? ⟨o, 6, none⟩ = some (.int .i64 v.hyh))) (by kernel_rfl) ?_ (fun hHeld0 => ?_)
  · (try dsimp only); (first | (go_keep; done) | (go_split_ands; (repeat' apply And.intro) <;> first | (go_keep; done) | (simp [*, zcA, zcP, zfA, zfP]; done) | (simp [zcA, zcP] <;> rfl) | (simp [*, zsS, zsO, zsA]; done) | ((first | refine (hc _ _ ?_).trans ?_ | refine (hf _ _ ?_).trans ?_) <;> first | assumption | (simp; done) | (simp; omega) | omega | (go_keep; done) | (simp [*, zcA, zcP, zfA, zfP]; done) | (simp [zcA, zcP]; rfl)) | (repeat' first | exact zbR _ _ | assumption | refine zbD ?_ | refine zbA ?_ ?_ _ | refine zbS ?_ ?_ _ | refine zbT ?_ (by assumption) ?_ | (simp; done) | (simp; omega) | omega)))
  refine tL (v := ?_) 0 rfl (by kernel_rfl) (fun _ _ _ h => h) (Or.inl ⟨by rfl, ?_⟩) (by assumption) ?_; rotate_left
  · (intro w hSw; (try dsimp only at hSw); go_simp; try with_reducible rfl)
  try simp only [Act.put, zl, z0, z1]
  refine tL (v := ?_) 2 rfl (by kernel_rfl) (fun _ _ _ h => h) (Or.inl ⟨by rfl, ?_⟩) (by assumption) ?_; rotate_left
  · (intro w hSw; (try dsimp only at hSw); go_simp; try with_reducible rfl)
  try simp only [Act.put, zl, z0, z1]
  refine wpAnyH_ready (rs := [1]) (by kernel_rfl) (by simp) ?_
  refine consL 1 rfl (fun K hK => ?_) AllReadyH.nil
  go_simp
  (go_at_call 35; refine (Check_any v A' n c' _ HN.out (by first | exact (HRO.out.below hS.1).mono hS.1.size | exact (HRO.out.below (zbD hS.1)).mono hS.1.size)).mono ?_; rintro e w4 ⟨rfl, hb⟩; have hSn := hkeep _ _ hb (by assumption); (try clear hS); have hS := hSn; clear hSn)
  refine hK.out _ _ ?_ (fun hHeld1 => ?_)
  · (try dsimp only); exact hS
  clear hK K hHeld0
  try simp only [Act.put, zl, z0, z1]
  refine wpAnyH_ready (rs := [3]) (by kernel_rfl) (by simp) ?_
  refine consL 3 rfl (fun K hK => ?_) AllReadyH.nil
  go_simp
  (go_at_call 23; refine (RefCheck_any v A n c _ HN.out (by first | exact (HR0.out.below hS.1).mono hS.1.size | exact (HR0.out.below (zbD hS.1)).mono hS.1.size)).mono ?_; rintro e w4 ⟨rfl, hb⟩; have hSn := hkeep _ _ hb (by assumption); (try clear hS); have hS := hSn; clear hSn)
  refine hK.out _ _ ?_ (fun hHeld2 => ?_)
  · (try dsimp only); exact hS
  clear hK K hHeld1
  try simp only [Act.put, zl, z0, z1]
  refine tL (v := ?_) 4 rfl (by kernel_rfl) (fun _ _ _ h => h) (Or.inl ⟨by rfl, ?_⟩) (by assumption) ?_; rotate_left
  · (intro w hSw; (try dsimp only at hSw); go_simp; try with_reducible rfl)
  try simp only [Act.put, zl, z0, z1]
  refine wpAnyH_done (by kernel_rfl) ?_ _
  all_goals
    obtain ⟨hB4, lp, lq, lr, lo, kc_p0, kc_p1, kc_p2, kc_p3, kc_p4, kc_p5, kc_p6, kc_q0, kc_q1, kc_q2, kc_q3, kc_r0, kc_r1, kc_r2, kc_r3, kc_o0, kc_o1, kc_o2, kc_o3, kc_o4, kc_o5, kc_o6⟩ := hHeld2
    have HRO4 := hide ((HRO.out.below hB4).mono hB4.size)
    have HR4 := hide ((HR0.out.below hB4).mono hB4.size)
    have hB04 := HB0.out.trans (hB4.mono (by have := HB0.out.size; omega))
    clear HRO HR0 hkeep
    go_wp2_with (first
      | (go_at_call 19; refine (Touches_any m b _).mono ?_; rintro e w5 ⟨rfl, hb5⟩; obtain ⟨hc5, hf5⟩ := bcell hb5; have q5 := hb5.size; (try simp only [World.size_alloc] at q5); have z5p : p < w5.heap.size := (by omega); have z5q : q < w5.heap.size := (by omega); have z5r : r < w5.heap.size := (by omega); have z5o : o < w5.heap.size := (by omega))
      | (go_at_call 36; refine (refTouches_any m b _).mono ?_; rintro e w6 ⟨rfl, hb6⟩; obtain ⟨hc6, hf6⟩ := bcell hb6; have q6 := hb6.size; (try simp only [World.size_alloc] at q6); have z6p : p < w6.heap.size := (by omega); have z6q : q < w6.heap.size := (by omega); have z6r : r < w6.heap.size := (by omega); have z6o : o < w6.heap.size := (by omega))
      | (go_at_call 31; refine (Wrong_any v A' n c' m _ HN.out ((HRO4.out.below (by (repeat' first | exact zbR _ _ | assumption | refine zbD ?_ | refine zbA ?_ ?_ _ | refine zbS ?_ ?_ _ | refine zbT ?_ (by assumption) ?_ | (simp; done) | (simp; omega) | omega))).mono (by first | (simp; done) | (simp; omega) | omega))).mono ?_; rintro e w7 ⟨sv7, c7, rfl, ho7, hb7⟩; have HI7 := hide (owns_RdI ho7 rfl); clear ho7; obtain ⟨hc7, hf7⟩ := bcell hb7; have q7 := hb7.size; (try simp only [World.size_alloc] at q7); have z7p : p < w7.heap.size := (by omega); have z7q : q < w7.heap.size := (by omega); have z7r : r < w7.heap.size := (by omega); have z7o : o < w7.heap.size := (by omega))
      | (go_at_call 37; refine (refWrongs_any v A n c m _ HN.out ((HR4.out.below (by (repeat' first | exact zbR _ _ | assumption | refine zbD ?_ | refine zbA ?_ ?_ _ | refine zbS ?_ ?_ _ | refine zbT ?_ (by assumption) ?_ | (simp; done) | (simp; omega) | omega))).mono (by first | (simp; done) | (simp; omega) | omega))).mono ?_; rintro e w8 ⟨sv8, c8, rfl, ho8, hb8⟩; have HI8 := hide (owns_RdI ho8 rfl); clear ho8; obtain ⟨hc8, hf8⟩ := bcell hb8; have q8 := hb8.size; (try simp only [World.size_alloc] at q8); have z8p : p < w8.heap.size := (by omega); have z8q : q < w8.heap.size := (by omega); have z8r : r < w8.heap.size := (by omega); have z8o : o < w8.heap.size := (by omega)))
    have hB48 : Below w4.heap.size w4 w8 := by (repeat' first | exact zbR _ _ | assumption | refine zbD ?_ | refine zbA ?_ ?_ _ | refine zbS ?_ ?_ _ | refine zbT ?_ (by assumption) ?_ | (simp; done) | (simp; omega) | omega)
    have kp := (hc8 p 1 z7p).trans ((hc7 p 1 z6p).trans ((hc6 p 1 z5p).trans ((hc5 p 1 lp).trans kc_p1)))
    have ko := (hc8 o 1 z7o).trans ((hc7 o 1 z6o).trans ((hc6 o 1 z5o).trans ((hc5 o 1 lo).trans kc_o1)))
    have HB := hide (hB04.trans (hB48.mono (by have := hB04.size; omega)))
    have HR8 := hide ((HR4.out.below hB48).mono hB48.size)
    have HRO8 := hide ((HRO4.out.below hB48).mono hB48.size)
    have HI7' := hide ((HI7.out.below hb8).mono hb8.size)
    have HQ := hide q8
    clear hc5 hf5 hc6 hf6 hc7 hf7 hc8 hf8 hb5 hb6 hb7 hb8 hB48 hB04 HR4 HRO4 HI7 q5 q6 q7 q8 z5p z5q z5r z5o z6p z6q z6r z6o z7p z7q z7r z7o HB0 hB4
    go_loopw [16] (fun i wr => ∃ k : Nat, k ≤ n ∧ i = .int .i64 k ∧ Below w8.heap.size w8 wr) (fun i _ => n - (intOf i).toNat)
    case atStart => exact ⟨0, by omega, rfl, Below.refl _ _⟩
    case round =>
      obtain ⟨k, hk, rfl, hB⟩ := hrel
      have e1 := (hB.cell (p := ⟨p, 1, none⟩) z8p).trans kp
      have e2 := (hB.cell (p := ⟨o, 1, none⟩) z8o).trans ko
      by_cases hlk : k < n
      · obtain ⟨s, hs⟩ : ∃ s, v.ss[k]? = some s := ⟨_, List.getElem?_eq_getElem (by have := HN.out; omega)⟩
        obtain ⟨b1, o1, hA1, hbB1, d0, d1, d2, d3⟩ := (HR8.out.below hB) k s hs
        obtain ⟨b2, o2, hA2, hbB2, g0, g1, g2, g3⟩ := (HRO8.out.below hB) k s hs
        subst hA1 hA2
        clear hs
        have hlt' : (k : Int) < (n : Int) := by omega
        have hk0 : (0 : Int) ≤ (k : Int) := by omega
        go_wp2_with fail
        go_quiet (fail)
        go_wp2_with fail
        go_roundw
        case rel => exact ⟨k + 1, by omega, by go_num, below_drewN hB _⟩
        case measure => simp [intOf]; omega
      · have hkn : k = n := by omega
        subst hkn
        have hl := L.wrgL_len v m
        have qB := hB.size
        have hl2 : (L.wrgL v m).length ≤ 1000000 := by have := HN.out; omega
        go_wp2_with (first | (go_at_call 34; refine (sameInts_any sv7 sv8 _ c7 c8 (L.wrgL v m) _ rfl ((HI7'.out.below (by (repeat' first | exact zbR _ _ | assumption | refine zbD ?_ | refine zbA ?_ ?_ _ | refine zbS ?_ ?_ _ | refine zbT ?_ (by assumption) ?_ | (simp; done) | (simp; omega) | omega))).mono (by first | (simp; done) | (simp; omega) | omega)) ((HI8.out.below (by (repeat' first | exact zbR _ _ | assumption | refine zbD ?_ | refine zbA ?_ ?_ _ | refine zbS ?_ ?_ _ | refine zbT ?_ (by assumption) ?_ | (simp; done) | (simp; omega) | omega))).mono (by first | (simp; done) | (simp; omega) | omega)) hl2).mono ?_; rintro e w9 ⟨rfl, hb9⟩) | (go_at_call 16; refine (works_any _).mono ?_; rintro e w3 ⟨rfl, hb3⟩))
        go_ret
        exact ⟨rfl, by have h1 := HB.out.size; have h2 := hb9.size; exact ((HB.out.trans (hB.mono h1)).trans (hb9.mono (by omega))).trans (hb3.mono (by omega))⟩

theorem touchesLaw_any (v : L.Vw) (A : Option Addr) (n c : Nat) (m : L.Mk) (b : L.Bx) (w : World) (hn : v.ss.length = n) (hr : RdS w w.heap.size A v.ss) (hA : A = none → c = 0) :
    Calls Try.prog 10 #[.agg #[.int .i64 v.size, .slice A n c, .int .i64 v.wrong, .int .i64 v.hxl, .int .i64 v.hxh, .int .i64 v.hyl, .int .i64 v.hyh], .agg #[.int .i64 m.x, .int .i64 m.y, .int .i64 m.hx, .int .i64 m.hy], .agg #[.int .i64 b.l, .int .i64 b.r, .int .i64 b.b, .int .i64 b.t]] w fun e w' => e = .returned (.bool true) ∧ Below w.heap.size w w' := by
  by_cases h : n ≤ 40
  · exact touchesLaw_in v A n c m b w h hn hr hA
  · exact touchesLaw_out v A n c m b w (by omega)

end Go.Proofs.Ytgnobonhohfofaa

namespace Go.Proofs.Ytgnobonhohfofaa
open Go.ChangeShapes Go.WideShapes Go.ChangeAt Go.RowKit Go.Deep Go.Joins

theorem Try.ownLinesTouches : ownKnob Try.prog.godebug = none := by kernel_rfl

set_option maxRecDepth 100000 in
theorem linesTouches_call (H : Type) (enc : TypeId × Value → H) (W : World) (base : Nat) (args : Array Value) (ds : List (DataW H)) (p : List MemPlace) (hval : ∀ (j : Nat) t v, Try.f10.params[j]? = some t → args[j]? = some v → Value.okWide Try.prog W .any base t v)
    (hA : DataW.TrodAll enc Try.prog W 0 (fun _ => true) true Try.f10.params.toList args.toList ds p) : Calls Try.prog 10 args W fun e W' => e = .returned (.bool true) ∧ Below W.heap.size W W' := by
  rw [Try.params10] at hA hval
  obtain ⟨v0, v1, v2, d0, d1, d2, p0, p1, p2, rfl, rfl, rfl, h0, h1, h2⟩ := trodAll_three hA
  obtain ⟨x0, A0, n0, c0, rfl, hle0, hmx0, hn0, hr0, hno0, hwf0⟩ := open_view (hval 0 26 v0 rfl rfl) h0
  obtain ⟨x1, rfl, hwf1⟩ := open_mark (hval 1 30 v1 rfl rfl) h1
  obtain ⟨x2, rfl, hwf2⟩ := open_box (hval 2 28 v2 rfl rfl) h2
  exact touchesLaw_any x0 A0 n0 c0 x1 x2 W hn0 hr0 hno0

set_option maxRecDepth 100000 in
theorem LinesTouches_holds : Rows.LinesTouchesSaid :=
  OpenClaim.holds_of_wide (p := Try.pinned) (s := Rows.linesTouchesSpec) (c := Rows.linesTouchesRow) 10 Try.f10 rfl rfl rfl rfl rfl rfl rfl ⟨rfl, rfl, rfl, rfl, rfl⟩ rfl rfl rfl rfl rfl (by kernel_rfl) Try.func10 (by kernel_rfl)
    (of_decide_eq_true (by kernel_rfl)) (by unfold Func.isWrapper; first | (rw [if_pos (by decide +kernel)]; kernel_rfl) | (rw [if_neg (by decide +kernel)]; exact ⟨rfl, rfl⟩))
    (fun os started H enc _ => law_lift (C := Try.checked) (F := 10) (fn := Try.f10) (s := Rows.linesTouchesSpec) (bt := 4) started Try.ownLinesTouches (by kernel_rfl) Try.func10 (by kernel_rfl) Try.underlying4 rfl laidOut (of_decide_eq_true (by kernel_rfl))
      (fun ds hds => match ds, hds with | [_, _, _], _ => rfl)
      (ChangeSpec.witness6 (enc := enc) (C := Try.checked) false ⟨#[], #[.agg #[.int .i64 0, .slice none 0 0, .int .i64 0, .int .i64 0, .int .i64 0, .int .i64 0, .int .i64 0], .agg #[.int .i64 0, .int .i64 0, .int .i64 0, .int .i64 0], .agg #[.int .i64 0, .int .i64 0, .int .i64 0, .int .i64 0]], []⟩ 8 (by kernel_rfl) (by kernel_rfl) (by kernel_rfl) (by kernel_rfl))
      (fun W base args ds p hval hA _ => linesTouches_call H enc W base args ds p hval hA) _ _ _)

end Go.Proofs.Ytgnobonhohfofaa
