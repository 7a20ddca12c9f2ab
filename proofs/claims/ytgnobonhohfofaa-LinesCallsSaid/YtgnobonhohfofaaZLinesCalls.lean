/-
  For every view, every box and every number the law LinesCalls returns true and leaves its arguments as they were. No condition.
-/
import Derived.Deep.RegionHeld3
import Derived.KernelRfl
import Derived.Deep.CutRange
import Derived.Deep.DeepCutAuto
import Derived.IntWalk
import Derived.Test.YtgnobonhohfofaaZB01
import Derived.Test.YtgnobonhohfofaaZB02
namespace Go.Proofs.Ytgnobonhohfofaa
open Go.RowKit
attribute [local go_sem ↓] Go.wp_at_zero Go.wp_at_succ

theorem blk_new2 {w : World} {X Y : Obj} : ((w.alloc X).alloc Y).heap[w.heap.size + 1]? = some Y := by
  have := World.alloc_heap_new (w.alloc X) Y
  rwa [World.size_alloc] at this
theorem L.wrongFrom_take {ss : List L.St} {k : Nat} {s : L.St} (x y : Int) (hk : ss[k]? = some s) : L.wrongFrom x y 0 (ss.take (k + 1)) = L.wrongFrom x y 0 (ss.take k) ++ (if L.off x y 0 s then [(k : Int)] else []) := by
  rw [List.take_add_one, hk, Option.toList_some, L.wrongFrom_append]
  have hl : (ss.take k).length = k := by rw [List.length_take]; have := (List.getElem?_eq_some_iff.1 hk).1; omega
  rw [hl, Nat.zero_add]
  simp only [L.wrongFrom]
theorem L.off_zero (x y : Int) (s : L.St) : L.off x y 0 s = !L.within (s.p * x + s.q * y) s.lo s.hi := by unfold L.off; rw [Int.sub_zero, Int.add_zero]

set_option maxRecDepth 100000 in
set_option maxHeartbeats 3200000 in
theorem refWrong_any (v : L.Vw) (A : Option Addr) (n c : Nat) (x y : Int) (w : World) (hn : v.ss.length = n) (hr : RdS w w.heap.size A v.ss) (ho : ∀ s ∈ v.ss, L.StOk s) (h8 : n ≤ 8) (hx0 : 0 ≤ x) (hx1 : x ≤ 40) (hy0 : 0 ≤ y) (hy1 : y ≤ 40) :
    Calls Try.prog 50 #[.agg #[.int .i64 v.size, .slice A n c, .int .i64 v.wrong, .int .i64 v.hxl, .int .i64 v.hxh, .int .i64 v.hyl, .int .i64 v.hyh], .int .i64 x, .int .i64 y] w fun e w' => ∃ sv c', e = .returned (.slice sv (L.wrongL v x y).length c') ∧ w'.ownsRow w.heap.size 3 1 (.slice sv (L.wrongL v x y).length c') (L.wrongL v x y).length (flatI (L.wrongL v x y)) ∧ Below w.heap.size w w' := by
  have HN := hide hn
  have HR := hide hr
  have HO := hide ho
  clear hn hr ho
  go_enter Try.func50, Try.ntmps50
  go_wp2
  go_loopw [7, 8] (fun m i wr => ∃ j : Nat, j ≤ n ∧ i = .int .i64 j ∧ (∃ sv c', m = .slice sv (L.wrongFrom x y 0 (v.ss.take j)).length c' ∧ Hid (wr.ownsRow (w.heap.size + 1) 3 1 (.slice sv (L.wrongFrom x y 0 (v.ss.take j)).length c') (L.wrongFrom x y 0 (v.ss.take j)).length (flatI (L.wrongFrom x y 0 (v.ss.take j))))) ∧ Below (w.heap.size + 1) (w.alloc (.cells #[.int .i64 v.size, .slice A n c, .int .i64 v.wrong, .int .i64 v.hxl, .int .i64 v.hxh, .int .i64 v.hyl, .int .i64 v.hyh] 26)) wr) (fun _ i _ => n - (intOf i).toNat)
  case atStart => exact ⟨0, by omega, rfl, ⟨none, 0, rfl, hide (World.ownsRow_nil _ _ _ _)⟩, by (repeat' first | exact zbR _ _ | assumption | refine zbD ?_ | refine zbA ?_ ?_ _ | refine zbS ?_ ?_ _ | refine zbT ?_ (by assumption) ?_ | (simp; done) | (simp; omega) | omega)⟩
  case round =>
    obtain ⟨j, hj, rfl, ⟨sv, c', rfl, hown⟩, hB⟩ := hrel
    have hBs := hB.size
    simp only [World.size_alloc] at hBs
    have hB0 : Below w.heap.size w wr := ((Below.refl _ w).alloc (Nat.le_refl _) _).trans (hB.mono (by omega))
    have k1 : wr.cell? ⟨w.heap.size, 1, none⟩ = some (.slice A n c) := (hB.cell (p := ⟨w.heap.size, 1, none⟩) (by show w.heap.size < _; omega)).trans (zcA _ _ _ _ rfl)
    have hm : (L.wrongFrom x y 0 (v.ss.take j)).length ≤ 8 := by
      rw [L.wrongFrom_length]; have := L.many_take_le v.ss j x y 0; omega
    by_cases hlt : j < n
    · obtain ⟨s, hs⟩ : ∃ s, v.ss[j]? = some s := ⟨_, List.getElem?_eq_getElem (by have := HN.out; omega)⟩
      obtain ⟨b, o, hA, hbB, d0, d1, d2, d3⟩ := (HR.out.below hB0) j s hs
      subst hA
      obtain ⟨p0, p1, q0, q1, l0, lh, h1⟩ := HO.out s (List.mem_of_getElem? hs)
      obtain ⟨m0, m1⟩ : -120 ≤ s.p * x ∧ s.p * x ≤ 120 := by have := L.mul_bd p0 p1 hx0 hx1; omega
      obtain ⟨m2, m3⟩ : -120 ≤ s.q * y ∧ s.q * y ≤ 120 := by have := L.mul_bd q0 q1 hy0 hy1; omega
      have HM := hide (L.wrongFrom_take x y hs)
      have HZ := hide (L.off_zero x y s)
      clear hs
      have hlt' : (j : Int) < (n : Int) := by omega
      have hj0 : (0 : Int) ≤ (j : Int) := by omega
      cases hv : L.within (s.p * x + s.q * y) s.lo s.hi
      · have HE : Hid (L.wrongFrom x y 0 (v.ss.take (j + 1)) = L.wrongFrom x y 0 (v.ss.take j) ++ [(j : Int)]) := hide (by rw [HM.out, HZ.out, hv]; rfl)
        have HL := hide (show (L.wrongFrom x y 0 (v.ss.take (j + 1))).length = (L.wrongFrom x y 0 (v.ss.take j)).length + 1 by rw [HE.out, List.length_append]; rfl)
        go_wp2_with (first | (go_at_call 57; refine (refWithin_any _ _ _ _).mono ?_; rintro e w3 ⟨rfl, rfl⟩; rw [hv]) | (refine wpList_app_at rfl (.tmp 37) (.tmp 39) rfl (w.heap.size + 1) _ (L.wrongFrom x y 0 (v.ss.take j)) _ rfl (owns_below hown.out (((Below.refl _ wr).alloc (Nat.le_refl _) _).alloc (by first | (simp; done) | (simp; omega) | omega) _)) (some ⟨wr.heap.size + 1, 0, none⟩) 1 1 [(j : Int)] rfl rfl (rdI_one blk_new2) (fun e => by cases e) (by omega) (by omega) (by first | (simp; done) | (simp; omega) | omega) ?_; intro A2 c2 w5 hown2 hgrow; have hg5 := grown_below (B := w.heap.size + 1) hgrow (by first | (simp; done) | (simp; omega) | omega) (fun g hg => (hown.out.lt g hg).1); have HO2 := hide hown2; clear hown2 hgrow))
        go_roundw
        case rel => exact ⟨j + 1, by omega, by go_num, ⟨A2, c2, by rw [HL.out], hide (by rw [HL.out, HE.out]; exact HO2.out)⟩, (hB.trans (((Below.refl _ wr).alloc (by omega) _).alloc (by simp; omega) _)).trans hg5⟩
        case measure => simp [intOf]; omega
      · have HE : Hid (L.wrongFrom x y 0 (v.ss.take (j + 1)) = L.wrongFrom x y 0 (v.ss.take j)) := hide (by rw [HM.out, HZ.out, hv]; simp)
        go_wp2_with (go_at_call 57; refine (refWithin_any _ _ _ _).mono ?_; rintro e w3 ⟨rfl, rfl⟩; rw [hv])
        go_roundw
        case rel => exact ⟨j + 1, by omega, by go_num, ⟨sv, c', by rw [HE.out], hide (by rw [HE.out]; exact owns_below hown.out ((Below.refl _ wr).alloc (Nat.le_refl _) _))⟩, by (repeat' first | exact zbR _ _ | assumption | refine zbD ?_ | refine zbA ?_ ?_ _ | refine zbS ?_ ?_ _ | refine zbT ?_ (by assumption) ?_ | (simp; done) | (simp; omega) | omega)⟩
        case measure => simp [intOf]; omega
    · have hjn : j = n := by omega
      subst hjn
      have HE : Hid (L.wrongFrom x y 0 (v.ss.take j) = L.wrongL v x y) := hide (by rw [List.take_of_length_le (by have := HN.out; omega)]; rfl)
      go_wp2_with fail
      go_ret
      refine ⟨sv, c', ?_, ?_, hB0⟩
      · rw [← HE.out]; rfl
      · rw [← HE.out]; exact owns_mono hown.out (by omega)

end Go.Proofs.Ytgnobonhohfofaa

namespace Go.Proofs.Ytgnobonhohfofaa
open Go.RowKit
attribute [local go_sem ↓] Go.wp_at_zero Go.wp_at_succ

def flatS (ss : List L.St) : List Value := ss.flatMap fun s => [.int .i64 s.p, .int .i64 s.q, .int .i64 s.lo, .int .i64 s.hi]
theorem flatS_length : ∀ ss : List L.St, (flatS ss).length = ss.length * 4
  | [] => rfl
  | s :: r => by
    have := flatS_length r
    simp only [flatS, List.flatMap_cons, List.length_append, List.length_cons, List.length_nil] at this ⊢
    omega
theorem flatS_at : ∀ {ss : List L.St} {k : Nat} {s : L.St}, ss[k]? = some s → (flatS ss)[k * 4]? = some (.int .i64 s.p) ∧ (flatS ss)[k * 4 + 1]? = some (.int .i64 s.q) ∧ (flatS ss)[k * 4 + 2]? = some (.int .i64 s.lo) ∧ (flatS ss)[k * 4 + 3]? = some (.int .i64 s.hi)
  | [], k, s, h => by simp at h
  | a :: r, 0, s, h => by
    have h' : a = s := Option.some.inj h
    subst h'
    exact ⟨rfl, rfl, rfl, rfl⟩
  | a :: r, k + 1, s, h => by
    have ih := flatS_at (ss := r) (k := k) (s := s) h
    have e : (k + 1) * 4 = k * 4 + 4 := by omega
    rw [e]
    exact ih
theorem flatS_one (ss : List L.St) : ∀ u ∈ flatS ss, u.oneCell' = true := by
  intro u hu
  simp only [flatS, List.mem_flatMap, List.mem_cons, List.not_mem_nil, or_false] at hu
  obtain ⟨s, _, rfl | rfl | rfl | rfl⟩ := hu <;> rfl
theorem flatS_app (a b : List L.St) : flatS (a ++ b) = flatS a ++ flatS b := by unfold flatS; simp
theorem flatS_cells {w : World} {B : Nat} {a : Addr} {ss : List L.St} (h : RdS w B (some a) ss) : ∀ j u, (flatS ss)[j]? = some u → w.cell? (a.add j) = some u := by
  intro j u hj
  have hl : j < ss.length * 4 := by rw [← flatS_length]; exact (List.getElem?_eq_some_iff.1 hj).1
  obtain ⟨s, hs⟩ : ∃ s, ss[j / 4]? = some s := ⟨_, List.getElem?_eq_getElem (by omega)⟩
  obtain ⟨b, o, e, _, c0, c1, c2, c3⟩ := h (j / 4) s hs
  injection e with e
  subst e
  obtain ⟨h0, h1, h2, h3⟩ := flatS_at hs
  rw [add_plain]
  obtain hm | hm | hm | hm : j % 4 = 0 ∨ j % 4 = 1 ∨ j % 4 = 2 ∨ j % 4 = 3 := by omega
  · have e : j / 4 * 4 = j := by omega
    rw [e] at h0 c0
    rw [hj] at h0
    rw [c0]; exact h0.symm
  · have e : j / 4 * 4 + 1 = j := by omega
    rw [e] at h1
    rw [Nat.add_assoc, e] at c1
    rw [hj] at h1
    rw [c1]; exact h1.symm
  · have e : j / 4 * 4 + 2 = j := by omega
    rw [e] at h2
    rw [Nat.add_assoc, Nat.add_assoc, e] at c2
    rw [hj] at h2
    rw [c2]; exact h2.symm
  · have e : j / 4 * 4 + 3 = j := by omega
    rw [e] at h3
    rw [Nat.add_assoc, Nat.add_assoc, Nat.add_assoc, e] at c3
    rw [hj] at h3
    rw [c3]; exact h3.symm
theorem owns_RdS {w : World} {base : Nat} {A : Option Addr} {n c : Nat} {ss : List L.St} (h : w.ownsRow base 54 4 (.slice A n c) n (flatS ss)) (hn : ss.length = n) : RdS w w.heap.size A ss := by
  intro k s hk
  have hkl : k < n := by rw [← hn]; exact (List.getElem?_eq_some_iff.1 hk).1
  obtain ⟨g, cap, e, hbg, hh⟩ := h.form (by omega)
  have e' : A = some ⟨g, 0, none⟩ ∧ c = cap := by
    simp only [Value.slice.injEq] at e
    exact ⟨e.1, e.2.2⟩
  obtain ⟨rfl, rfl⟩ := e'
  obtain ⟨h0, h1, h2, h3⟩ := flatS_at hk
  refine ⟨g, 0, rfl, (h.lt g rfl).2, ?_, ?_, ?_, ?_⟩
  · rw [Nat.zero_add, h.cellAt (k * 4) (by omega)]; exact h0
  · rw [Nat.zero_add, h.cellAt (k * 4 + 1) (by omega)]; exact h1
  · rw [Nat.zero_add, h.cellAt (k * 4 + 1 + 1) (by omega)]; exact h2
  · rw [Nat.zero_add, h.cellAt (k * 4 + 1 + 1 + 1) (by omega)]; exact h3
theorem strip_info : (Try.prog.info? 54).map (fun i => (i.zero, i.size, i.bytes)) = some (some (.agg #[.int .i64 0, .int .i64 0, .int .i64 0, .int .i64 0]), 4, 32) := by kernel_rfl
theorem RdS.none {w : World} {B : Nat} {ss : List L.St} (h : RdS w B none ss) : ss = [] := by
  match ss, h with
  | [], _ => rfl
  | x :: r, h => obtain ⟨_, _, e, _⟩ := h 0 x rfl; cases e
theorem owns_emptyS {w : World} {b : Nat} {base : Nat} (hb : w.heap[b]? = some (.cells #[] 54 (0, 0))) (hle : base ≤ b) : w.ownsRow base 54 4 (.slice (some ⟨b, 0, none⟩) 0 0) 0 (flatS []) :=
  ⟨rfl, .inr ⟨b, 0, #[], rfl, hle, hb, Nat.le_refl _, Nat.zero_le _, rfl, rfl⟩⟩

theorem run_app_strips {w : World} (ty : TypeId) (base : Nat) (v : Value) (ps : List L.St) (m0 : Nat) (hown : w.ownsRow base 54 4 v m0 (flatS ps))
    (A : Option Addr) (n c : Nat) (ss : List L.St) (hn : ss.length = n) (hr : RdS w w.heap.size A ss) (hA : A = none → c = 0) (h0 : m0 ≤ 1000) (h1 : n ≤ 1000) (hbase : base ≤ w.heap.size) :
    ∃ A' c' w', (Builtin.append_ #[22, 22] ty #[v, .slice A n c]).run Try.prog w = .ok (.slice A' (m0 + n) c') w' ∧ w'.ownsRow base 54 4 (.slice A' (m0 + n) c') (m0 + n) (flatS (ps ++ ss)) ∧ w.grownBy w' v.ownBlock := by
  obtain ⟨i, hi, hz0, hz1, hz2⟩ := info_parts strip_info
  rcases A with _ | ad
  · have hx0 : ss = [] := hr.none
    subst hx0
    have hn0 : n = 0 := by simpa using hn.symm
    subst hn0
    have hc0 := hA rfl
    subst hc0
    obtain ⟨A', c', rfl⟩ := own_form hown
    have hrun := run_append_owned_none (P := Try.prog) (w := w) base 22 ty 54 i 4 Try.underlying22 hi (.slice A' m0 c') m0 (flatS ps) hown
    exact ⟨A', c', w, hrun, by simpa using hown, World.grownBy.refl w _⟩
  · obtain ⟨v', w', hrun, h2, h3, _, _⟩ := run_append_own_at (P := Try.prog) w base 22 ty 54 i _ 4 32 Try.underlying22 hi hz0 hz1 hz2 (by rfl) (by decide) v m0 (flatS ps) hown ad n c (flatS ss) (by rw [flatS_length]; omega) (flatS_cells hr) (flatS_one ss) (by unfold maxLen; omega) (by omega) hbase
    obtain ⟨A', c', rfl⟩ := own_form h2
    exact ⟨A', c', w', hrun, by rw [flatS_app]; exact h2, h3⟩
theorem wpList_app_strips {w : World} {ops : Array Oper} {rest : List Oper} {o : Oper} {a : Act} {Q : Exit → Act → World → Prop} (hgd : o.guard = none) (s x : Operand)
    (ho : o.op = .call { callee := .builtin .append, args := #[s, x], argTypes := #[22, 22] }) (base : Nat) (v : Value) (ps : List L.St) (m0 : Nat) (hs : a.eval s = v) (hown : w.ownsRow base 54 4 v m0 (flatS ps))
    (A : Option Addr) (n c : Nat) (ss : List L.St) (hx : a.eval x = .slice A n c) (hn : ss.length = n) (hr : RdS w w.heap.size A ss) (hA : A = none → c = 0) (h0 : m0 ≤ 1000) (h1 : n ≤ 1000) (hbase : base ≤ w.heap.size) (N : Nat) (hN : m0 + n = N)
    (h : ∀ A' c' w', w'.ownsRow base 54 4 (.slice A' N c') N (flatS (ps ++ ss)) → w.grownBy w' v.ownBlock → wpList Try.prog ops Q rest (a.put o.dst (.slice A' N c')) w') :
    wpList Try.prog ops Q (o :: rest) a w := by
  subst hN
  refine wpList_plain hgd fun K hK => ?_
  obtain ⟨A', c', w', hr', h2, h3⟩ := run_app_strips o.type base v ps m0 hown A n c ss hn hr hA h0 h1 hbase
  unfold Oper.wp execOp
  simp only [ho, resolve, invoke, builtin, Sem.run_bind, Sem.run_pure, Result.andThen_ok, List.map_toArray, List.map_cons, List.map_nil, hs, hx, hr']
  exact hK _ _ (h A' c' w' h2 h3)

theorem blk_new4 {w : World} {X Y Z V : Obj} : ((((w.alloc X).alloc Y).alloc Z).alloc V).heap[w.heap.size + 1 + 1 + 1]? = some V := by
  have := World.alloc_heap_new (((w.alloc X).alloc Y).alloc Z) V
  rwa [World.size_alloc, World.size_alloc, World.size_alloc] at this

theorem copy_results {Z : World} {g : Nat} {x0 x1 x2 x3 x4 x5 x6 : Value} {cs tmps : Array Value} (h3 : Z.heap[g]? = some (.cells cs 26 (0, 0)))
    (e3 : cs = #[x0, x1, x2, x3, x4, x5, x6]) (t2 : tmps[2]? = some (.pointer (some ⟨g, 0, none⟩))) :
    (results Try.f26 tmps).run Try.prog Z = .ok (.agg #[x0, x1, x2, x3, x4, x5, x6]) Z := by
  subst e3
  have k0 : Z.cell? ⟨g, 0, none⟩ = some x0 := blk_cell h3 0
  have k1 : Z.cell? ⟨g, 1, none⟩ = some x1 := blk_cell h3 1
  have k2 : Z.cell? ⟨g, 2, none⟩ = some x2 := blk_cell h3 2
  have k3 : Z.cell? ⟨g, 3, none⟩ = some x3 := blk_cell h3 3
  have k4 : Z.cell? ⟨g, 4, none⟩ = some x4 := blk_cell h3 4
  have k5 : Z.cell? ⟨g, 5, none⟩ = some x5 := blk_cell h3 5
  have k6 : Z.cell? ⟨g, 6, none⟩ = some x6 := blk_cell h3 6
  simp [results, Try.results26, go_sem, t2, k0, k1, k2, k3, k4, k5, k6]

set_option maxRecDepth 100000 in
set_option maxHeartbeats 3200000 in
theorem Copy_any (v : L.Vw) (A : Option Addr) (n c : Nat) (w : World) (hn : v.ss.length = n) (hr : RdS w w.heap.size A v.ss) (hA : A = none → c = 0) (h40 : n ≤ 1000) :
    Calls Try.prog 26 #[.agg #[.int .i64 v.size, .slice A n c, .int .i64 v.wrong, .int .i64 v.hxl, .int .i64 v.hxh, .int .i64 v.hyl, .int .i64 v.hyh]] w fun e w' => ∃ A' c', e = .returned (.agg #[.int .i64 v.size, .slice A' n c', .int .i64 v.wrong, .int .i64 v.hxl, .int .i64 v.hxh, .int .i64 v.hyl, .int .i64 v.hyh]) ∧ w'.ownsRow w.heap.size 54 4 (.slice A' n c') n (flatS v.ss) ∧ Below w.heap.size w w' := by
  have HN := hide hn
  have HR := hide hr
  clear hn hr
  go_enter Try.func26, Try.ntmps26
  go_wp2_with (refine wpList_app_strips rfl (.tmp 5) (.tmp 7) rfl (w.heap.size + 1 + 1 + 1) _ [] 0 rfl (owns_emptyS blk_new4 (Nat.le_refl _)) A n c v.ss rfl HN.out ((HR.out.below (by (repeat' first | exact zbR _ _ | assumption | refine zbD ?_ | refine zbA ?_ ?_ _ | refine zbS ?_ ?_ _ | refine zbT ?_ (by assumption) ?_ | (simp; done) | (simp; omega) | omega))).mono (by first | (simp; done) | (simp; omega) | omega)) hA (by omega) h40 (by first | (simp; done) | (simp; omega) | omega) n (by omega) ?_; intro A' c' w5 hown hgrow; have hg5 := grown_below (B := w.heap.size + 1 + 1 + 1) hgrow (by first | (simp; done) | (simp; omega) | omega) (fun g hg => by cases hg; simp); have HO := hide hown; have q5 := hg5.size; (try simp only [World.size_alloc] at q5); have k3 := (hg5.block (w.heap.size + 1 + 1) (by omega)).trans ((Below.heap_alloc _ _ _ (by first | (simp; done) | (simp; omega))).trans ((congrArg _ (by simp)).trans (World.alloc_heap_new _ _))); have k2 := (hg5.block (w.heap.size + 1) (by omega)).trans ((Below.heap_alloc _ _ _ (by first | (simp; done) | (simp; omega))).trans ((Below.heap_alloc _ _ _ (by first | (simp; done) | (simp; omega))).trans ((congrArg _ (by simp)).trans (World.alloc_heap_new _ _)))); have c0 := (blk_cell k3 0).trans rfl; have f0 := blk_frozen k3 0; have d0 := (blk_cell k2 0).trans rfl; have g0 := blk_frozen k2 0; have c1 := (blk_cell k3 1).trans rfl; have f1 := blk_frozen k3 1; have d1 := (blk_cell k2 1).trans rfl; have g1 := blk_frozen k2 1; have c2 := (blk_cell k3 2).trans rfl; have f2 := blk_frozen k3 2; have d2 := (blk_cell k2 2).trans rfl; have g2 := blk_frozen k2 2; have c3 := (blk_cell k3 3).trans rfl; have f3 := blk_frozen k3 3; have d3 := (blk_cell k2 3).trans rfl; have g3 := blk_frozen k2 3; have c4 := (blk_cell k3 4).trans rfl; have f4 := blk_frozen k3 4; have d4 := (blk_cell k2 4).trans rfl; have g4 := blk_frozen k2 4; have c5 := (blk_cell k3 5).trans rfl; have f5 := blk_frozen k3 5; have d5 := (blk_cell k2 5).trans rfl; have g5 := blk_frozen k2 5; have c6 := (blk_cell k3 6).trans rfl; have f6 := blk_frozen k3 6; have d6 := (blk_cell k2 6).trans rfl; have g6 := blk_frozen k2 6; have z2 : w.heap.size + 1 < w5.heap.size := (by omega); have z3 : w.heap.size + 1 + 1 < w5.heap.size := (by omega); have K2 := hide k2; clear hown hgrow k2 k3)
  refine bodyPost_ret (v := .agg #[.int .i64 v.size, .slice A' n c', .int .i64 v.wrong, .int .i64 v.hxl, .int .i64 v.hxh, .int .i64 v.hyl, .int .i64 v.hyh]) (copy_results (blk_set (blk_set (blk_set (blk_set (blk_set (blk_set (blk_set (blk_other K2.out (by omega) 1 _) 0 _) 1 _) 2 _) 3 _) 4 _) 5 _) 6 _) rfl rfl) rfl ?_
  have hB5 : Below w.heap.size w w5 := by (repeat' first | exact zbR _ _ | assumption | refine zbD ?_ | refine zbA ?_ ?_ _ | refine zbS ?_ ?_ _ | refine zbT ?_ (by assumption) ?_ | (simp; done) | (simp; omega) | omega)
  have e0 : flatS ([] ++ v.ss) = flatS v.ss := by rw [List.nil_append]
  refine ⟨A', c', rfl, ?_, ?_⟩
  · rw [← e0]
    exact owns_mono (ownsRow_setCell_below (ownsRow_setCell_below (ownsRow_setCell_below (ownsRow_setCell_below (ownsRow_setCell_below (ownsRow_setCell_below (ownsRow_setCell_below (ownsRow_setCell_below (HO.out) (show w.heap.size + 1 + 1 < w.heap.size + 1 + 1 + 1 by omega) _) (show w.heap.size + 1 < w.heap.size + 1 + 1 + 1 by omega) _) (show w.heap.size + 1 < w.heap.size + 1 + 1 + 1 by omega) _) (show w.heap.size + 1 < w.heap.size + 1 + 1 + 1 by omega) _) (show w.heap.size + 1 < w.heap.size + 1 + 1 + 1 by omega) _) (show w.heap.size + 1 < w.heap.size + 1 + 1 + 1 by omega) _) (show w.heap.size + 1 < w.heap.size + 1 + 1 + 1 by omega) _) (show w.heap.size + 1 < w.heap.size + 1 + 1 + 1 by omega) _) (by omega)
  · exact zbS (zbS (zbS (zbS (zbS (zbS (zbS (zbS (hB5) (show w.heap.size ≤ w.heap.size + 1 + 1 by omega) _) (show w.heap.size ≤ w.heap.size + 1 by omega) _) (show w.heap.size ≤ w.heap.size + 1 by omega) _) (show w.heap.size ≤ w.heap.size + 1 by omega) _) (show w.heap.size ≤ w.heap.size + 1 by omega) _) (show w.heap.size ≤ w.heap.size + 1 by omega) _) (show w.heap.size ≤ w.heap.size + 1 by omega) _) (show w.heap.size ≤ w.heap.size + 1 by omega) _

end Go.Proofs.Ytgnobonhohfofaa

namespace Go.Proofs.Ytgnobonhohfofaa
open Go.RowKit
attribute [local go_sem ↓] Go.wp_at_zero Go.wp_at_succ

def RdM (w : World) (B : Nat) (A : Option Addr) (ss : List L.Mk) : Prop :=
  ∀ (k : Nat) (s : L.Mk), ss[k]? = some s → ∃ b o : Nat, A = some ⟨b, o, none⟩ ∧ b < B ∧ w.cell? ⟨b, o + k * 4, none⟩ = some (.int .i64 s.x) ∧ w.cell? ⟨b, o + k * 4 + 1, none⟩ = some (.int .i64 s.y) ∧ w.cell? ⟨b, o + k * 4 + 1 + 1, none⟩ = some (.int .i64 s.hx) ∧ w.cell? ⟨b, o + k * 4 + 1 + 1 + 1, none⟩ = some (.int .i64 s.hy)
theorem RdM.nil (w : World) (B : Nat) (A : Option Addr) : RdM w B A [] := fun k s h => by simp at h
theorem RdM.below {w w' : World} {B : Nat} {A : Option Addr} {ss : List L.Mk} (h : RdM w B A ss) (hb : Below B w w') : RdM w' B A ss := fun k s hk => by
  obtain ⟨b, o, hA, hlt, h0, h1, h2, h3⟩ := h k s hk
  exact ⟨b, o, hA, hlt, (hb.cell (p := ⟨b, _, none⟩) hlt).trans h0, (hb.cell (p := ⟨b, _, none⟩) hlt).trans h1, (hb.cell (p := ⟨b, _, none⟩) hlt).trans h2, (hb.cell (p := ⟨b, _, none⟩) hlt).trans h3⟩
theorem RdM.mono {w : World} {B B' : Nat} {A : Option Addr} {ss : List L.Mk} (h : RdM w B A ss) (hb : B ≤ B') : RdM w B' A ss := fun k s hk => by
  obtain ⟨b, o, hA, hlt, h0⟩ := h k s hk
  exact ⟨b, o, hA, Nat.lt_of_lt_of_le hlt hb, h0⟩
theorem RdM.take {w : World} {B : Nat} {A : Option Addr} {ss : List L.Mk} (h : RdM w B A ss) (n : Nat) : RdM w B A (ss.take n) := fun k s hk => h k s (by
  rcases Nat.lt_or_ge k n with hl | hl
  · rwa [List.getElem?_take_of_lt hl] at hk
  · rw [List.getElem?_eq_none (by rw [List.length_take]; omega)] at hk; cases hk)

def flatM (ss : List L.Mk) : List Value := ss.flatMap fun s => [.int .i64 s.x, .int .i64 s.y, .int .i64 s.hx, .int .i64 s.hy]
theorem flatM_length : ∀ ss : List L.Mk, (flatM ss).length = ss.length * 4
  | [] => rfl
  | s :: r => by
    have := flatM_length r
    simp only [flatM, List.flatMap_cons, List.length_append, List.length_cons, List.length_nil] at this ⊢
    omega
theorem flatM_at : ∀ {ss : List L.Mk} {k : Nat} {s : L.Mk}, ss[k]? = some s → (flatM ss)[k * 4]? = some (.int .i64 s.x) ∧ (flatM ss)[k * 4 + 1]? = some (.int .i64 s.y) ∧ (flatM ss)[k * 4 + 2]? = some (.int .i64 s.hx) ∧ (flatM ss)[k * 4 + 3]? = some (.int .i64 s.hy)
  | [], k, s, h => by simp at h
  | a :: r, 0, s, h => by
    have h' : a = s := Option.some.inj h
    subst h'
    exact ⟨rfl, rfl, rfl, rfl⟩
  | a :: r, k + 1, s, h => by
    have ih := flatM_at (ss := r) (k := k) (s := s) h
    have e : (k + 1) * 4 = k * 4 + 4 := by omega
    rw [e]
    exact ih
theorem flatM_one (ss : List L.Mk) : ∀ u ∈ flatM ss, u.oneCell' = true := by
  intro u hu
  simp only [flatM, List.mem_flatMap, List.mem_cons, List.not_mem_nil, or_false] at hu
  obtain ⟨s, _, rfl | rfl | rfl | rfl⟩ := hu <;> rfl
theorem flatM_app (a b : List L.Mk) : flatM (a ++ b) = flatM a ++ flatM b := by unfold flatM; simp
theorem flatM_cells {w : World} {B : Nat} {a : Addr} {ss : List L.Mk} (h : RdM w B (some a) ss) : ∀ j u, (flatM ss)[j]? = some u → w.cell? (a.add j) = some u := by
  intro j u hj
  have hl : j < ss.length * 4 := by rw [← flatM_length]; exact (List.getElem?_eq_some_iff.1 hj).1
  obtain ⟨s, hs⟩ : ∃ s, ss[j / 4]? = some s := ⟨_, List.getElem?_eq_getElem (by omega)⟩
  obtain ⟨b, o, e, _, c0, c1, c2, c3⟩ := h (j / 4) s hs
  injection e with e
  subst e
  obtain ⟨h0, h1, h2, h3⟩ := flatM_at hs
  rw [add_plain]
  obtain hm | hm | hm | hm : j % 4 = 0 ∨ j % 4 = 1 ∨ j % 4 = 2 ∨ j % 4 = 3 := by omega
  · have e : j / 4 * 4 = j := by omega
    rw [e] at h0 c0
    rw [hj] at h0
    rw [c0]; exact h0.symm
  · have e : j / 4 * 4 + 1 = j := by omega
    rw [e] at h1
    rw [Nat.add_assoc, e] at c1
    rw [hj] at h1
    rw [c1]; exact h1.symm
  · have e : j / 4 * 4 + 2 = j := by omega
    rw [e] at h2
    rw [Nat.add_assoc, Nat.add_assoc, e] at c2
    rw [hj] at h2
    rw [c2]; exact h2.symm
  · have e : j / 4 * 4 + 3 = j := by omega
    rw [e] at h3
    rw [Nat.add_assoc, Nat.add_assoc, Nat.add_assoc, e] at c3
    rw [hj] at h3
    rw [c3]; exact h3.symm
theorem owns_RdM {w : World} {base : Nat} {A : Option Addr} {n c : Nat} {ss : List L.Mk} (h : w.ownsRow base 30 4 (.slice A n c) n (flatM ss)) (hn : ss.length = n) : RdM w w.heap.size A ss := by
  intro k s hk
  have hkl : k < n := by rw [← hn]; exact (List.getElem?_eq_some_iff.1 hk).1
  obtain ⟨g, cap, e, hbg, hh⟩ := h.form (by omega)
  have e' : A = some ⟨g, 0, none⟩ ∧ c = cap := by
    simp only [Value.slice.injEq] at e
    exact ⟨e.1, e.2.2⟩
  obtain ⟨rfl, rfl⟩ := e'
  obtain ⟨h0, h1, h2, h3⟩ := flatM_at hk
  refine ⟨g, 0, rfl, (h.lt g rfl).2, ?_, ?_, ?_, ?_⟩
  · rw [Nat.zero_add, h.cellAt (k * 4) (by omega)]; exact h0
  · rw [Nat.zero_add, h.cellAt (k * 4 + 1) (by omega)]; exact h1
  · rw [Nat.zero_add, h.cellAt (k * 4 + 1 + 1) (by omega)]; exact h2
  · rw [Nat.zero_add, h.cellAt (k * 4 + 1 + 1 + 1) (by omega)]; exact h3
theorem mark_info : (Try.prog.info? 30).map (fun i => (i.zero, i.size, i.bytes)) = some (some (.agg #[.int .i64 0, .int .i64 0, .int .i64 0, .int .i64 0]), 4, 32) := by kernel_rfl
theorem RdM.none {w : World} {B : Nat} {ss : List L.Mk} (h : RdM w B none ss) : ss = [] := by
  match ss, h with
  | [], _ => rfl
  | x :: r, h => obtain ⟨_, _, e, _⟩ := h 0 x rfl; cases e
theorem run_app_marks {w : World} (ty : TypeId) (base : Nat) (v : Value) (ps : List L.Mk) (m0 : Nat) (hown : w.ownsRow base 30 4 v m0 (flatM ps))
    (A : Option Addr) (n c : Nat) (ss : List L.Mk) (hn : ss.length = n) (hr : RdM w w.heap.size A ss) (hA : A = none → c = 0) (h0 : m0 ≤ 1000000) (h1 : n ≤ 1000) (hbase : base ≤ w.heap.size) :
    ∃ A' c' w', (Builtin.append_ #[93, 93] ty #[v, .slice A n c]).run Try.prog w = .ok (.slice A' (m0 + n) c') w' ∧ w'.ownsRow base 30 4 (.slice A' (m0 + n) c') (m0 + n) (flatM (ps ++ ss)) ∧ w.grownBy w' v.ownBlock := by
  obtain ⟨i, hi, hz0, hz1, hz2⟩ := info_parts mark_info
  rcases A with _ | ad
  · have hx0 : ss = [] := hr.none
    subst hx0
    have hn0 : n = 0 := by simpa using hn.symm
    subst hn0
    have hc0 := hA rfl
    subst hc0
    obtain ⟨A', c', rfl⟩ := own_form hown
    have hrun := run_append_owned_none (P := Try.prog) (w := w) base 93 ty 30 i 4 Try.underlying93 hi (.slice A' m0 c') m0 (flatM ps) hown
    exact ⟨A', c', w, hrun, by simpa using hown, World.grownBy.refl w _⟩
  · obtain ⟨v', w', hrun, h2, h3, _, _⟩ := run_append_own_at (P := Try.prog) w base 93 ty 30 i _ 4 32 Try.underlying93 hi hz0 hz1 hz2 (by rfl) (by decide) v m0 (flatM ps) hown ad n c (flatM ss) (by rw [flatM_length]; omega) (flatM_cells hr) (flatM_one ss) (by unfold maxLen; omega) (by omega) hbase
    obtain ⟨A', c', rfl⟩ := own_form h2
    exact ⟨A', c', w', hrun, by rw [flatM_app]; exact h2, h3⟩
theorem wpList_app_marks {w : World} {ops : Array Oper} {rest : List Oper} {o : Oper} {a : Act} {Q : Exit → Act → World → Prop} (hgd : o.guard = none) (s x : Operand)
    (ho : o.op = .call { callee := .builtin .append, args := #[s, x], argTypes := #[93, 93] }) (base : Nat) (v : Value) (ps : List L.Mk) (m0 : Nat) (hs : a.eval s = v) (hown : w.ownsRow base 30 4 v m0 (flatM ps))
    (A : Option Addr) (n c : Nat) (ss : List L.Mk) (hx : a.eval x = .slice A n c) (hn : ss.length = n) (hr : RdM w w.heap.size A ss) (hA : A = none → c = 0) (h0 : m0 ≤ 1000000) (h1 : n ≤ 1000) (hbase : base ≤ w.heap.size) (N : Nat) (hN : m0 + n = N)
    (h : ∀ A' c' w', w'.ownsRow base 30 4 (.slice A' N c') N (flatM (ps ++ ss)) → w.grownBy w' v.ownBlock → wpList Try.prog ops Q rest (a.put o.dst (.slice A' N c')) w') :
    wpList Try.prog ops Q (o :: rest) a w := by
  subst hN
  refine wpList_plain hgd fun K hK => ?_
  obtain ⟨A', c', w', hr', h2, h3⟩ := run_app_marks o.type base v ps m0 hown A n c ss hn hr hA h0 h1 hbase
  unfold Oper.wp execOp
  simp only [ho, resolve, invoke, builtin, Sem.run_bind, Sem.run_pure, Result.andThen_ok, List.map_toArray, List.map_cons, List.map_nil, hs, hx, hr']
  exact hK _ _ (h A' c' w' h2 h3)


theorem rdM_one {w : World} {q : Nat} {s : L.Mk} (hq : w.heap[q]? = some (.cells #[.int .i64 s.x, .int .i64 s.y, .int .i64 s.hx, .int .i64 s.hy] 30 (0, 0))) : RdM w w.heap.size (some ⟨q, 0, none⟩) [s] := by
  intro k y hk
  match k, hk with
  | 0, hk =>
    have hy : s = y := Option.some.inj hk
    subst hy
    exact ⟨_, 0, rfl, blk_lt hq, (blk_cell hq 0).trans rfl, (blk_cell hq 1).trans rfl, (blk_cell hq 2).trans rfl, (blk_cell hq 3).trans rfl⟩
  | k + 1, hk => cases hk

end Go.Proofs.Ytgnobonhohfofaa

namespace Go.Proofs.Ytgnobonhohfofaa
open Go.RowKit
attribute [local go_sem ↓] Go.wp_at_zero Go.wp_at_succ

structure L.StPq (s : L.St) : Prop where
  p0 : -3 ≤ s.p
  p1 : s.p ≤ 3
  q0 : -3 ≤ s.q
  q1 : s.q ≤ 3
theorem L.StOk.pq {s : L.St} (h : L.StOk s) : L.StPq s := ⟨h.p0, h.p1, h.q0, h.q1⟩

set_option maxRecDepth 100000 in
set_option maxHeartbeats 3200000 in
theorem refWrong_pq (v : L.Vw) (A : Option Addr) (n c : Nat) (x y : Int) (w : World) (hn : v.ss.length = n) (hr : RdS w w.heap.size A v.ss) (ho : ∀ s ∈ v.ss, L.StPq s) (h8 : n ≤ 8) (hx0 : 0 ≤ x) (hx1 : x ≤ 40) (hy0 : 0 ≤ y) (hy1 : y ≤ 40) :
    Calls Try.prog 50 #[.agg #[.int .i64 v.size, .slice A n c, .int .i64 v.wrong, .int .i64 v.hxl, .int .i64 v.hxh, .int .i64 v.hyl, .int .i64 v.hyh], .int .i64 x, .int .i64 y] w fun e w' => ∃ sv c', e = .returned (.slice sv (L.wrongL v x y).length c') ∧ w'.ownsRow w.heap.size 3 1 (.slice sv (L.wrongL v x y).length c') (L.wrongL v x y).length (flatI (L.wrongL v x y)) ∧ Below w.heap.size w w' := by
  have HN := hide hn
  have HR := hide hr
  have HO := hide ho
  clear hn hr ho
  go_enter Try.func50, Try.ntmps50
  go_wp2
  go_loopw [7, 8] (fun m i wr => ∃ j : Nat, j ≤ n ∧ i = .int .i64 j ∧ (∃ sv c', m = .slice sv (L.wrongFrom x y 0 (v.ss.take j)).length c' ∧ Hid (wr.ownsRow (w.heap.size + 1) 3 1 (.slice sv (L.wrongFrom x y 0 (v.ss.take j)).length c') (L.wrongFrom x y 0 (v.ss.take j)).length (flatI (L.wrongFrom x y 0 (v.ss.take j))))) ∧ Below (w.heap.size + 1) (w.alloc (.cells #[.int .i64 v.size, .slice A n c, .int .i64 v.wrong, .int .i64 v.hxl, .int .i64 v.hxh, .int .i64 v.hyl, .int .i64 v.hyh] 26)) wr) (fun _ i _ => n - (intOf i).toNat)
  case atStart => exact ⟨0, by omega, rfl, ⟨none, 0, rfl, hide (World.ownsRow_nil _ _ _ _)⟩, by (repeat' first | exact zbR _ _ | assumption | refine zbD ?_ | refine zbA ?_ ?_ _ | refine zbS ?_ ?_ _ | refine zbT ?_ (by assumption) ?_ | (simp; done) | (simp; omega) | omega)⟩
  case round =>
    obtain ⟨j, hj, rfl, ⟨sv, c', rfl, hown⟩, hB⟩ := hrel
    have hBs := hB.size
    simp only [World.size_alloc] at hBs
    have hB0 : Below w.heap.size w wr := ((Below.refl _ w).alloc (Nat.le_refl _) _).trans (hB.mono (by omega))
    have k1 : wr.cell? ⟨w.heap.size, 1, none⟩ = some (.slice A n c) := (hB.cell (p := ⟨w.heap.size, 1, none⟩) (by show w.heap.size < _; omega)).trans (zcA _ _ _ _ rfl)
    have hm : (L.wrongFrom x y 0 (v.ss.take j)).length ≤ 8 := by
      rw [L.wrongFrom_length]; have := L.many_take_le v.ss j x y 0; omega
    by_cases hlt : j < n
    · obtain ⟨s, hs⟩ : ∃ s, v.ss[j]? = some s := ⟨_, List.getElem?_eq_getElem (by have := HN.out; omega)⟩
      obtain ⟨b, o, hA, hbB, d0, d1, d2, d3⟩ := (HR.out.below hB0) j s hs
      subst hA
      obtain ⟨p0, p1, q0, q1⟩ := HO.out s (List.mem_of_getElem? hs)
      obtain ⟨m0, m1⟩ : -120 ≤ s.p * x ∧ s.p * x ≤ 120 := by have := L.mul_bd p0 p1 hx0 hx1; omega
      obtain ⟨m2, m3⟩ : -120 ≤ s.q * y ∧ s.q * y ≤ 120 := by have := L.mul_bd q0 q1 hy0 hy1; omega
      have HM := hide (L.wrongFrom_take x y hs)
      have HZ := hide (L.off_zero x y s)
      clear hs
      have hlt' : (j : Int) < (n : Int) := by omega
      have hj0 : (0 : Int) ≤ (j : Int) := by omega
      cases hv : L.within (s.p * x + s.q * y) s.lo s.hi
      · have HE : Hid (L.wrongFrom x y 0 (v.ss.take (j + 1)) = L.wrongFrom x y 0 (v.ss.take j) ++ [(j : Int)]) := hide (by rw [HM.out, HZ.out, hv]; rfl)
        have HL := hide (show (L.wrongFrom x y 0 (v.ss.take (j + 1))).length = (L.wrongFrom x y 0 (v.ss.take j)).length + 1 by rw [HE.out, List.length_append]; rfl)
        go_wp2_with (first | (go_at_call 57; refine (refWithin_any _ _ _ _).mono ?_; rintro e w3 ⟨rfl, rfl⟩; rw [hv]) | (refine wpList_app_at rfl (.tmp 37) (.tmp 39) rfl (w.heap.size + 1) _ (L.wrongFrom x y 0 (v.ss.take j)) _ rfl (owns_below hown.out (((Below.refl _ wr).alloc (Nat.le_refl _) _).alloc (by first | (simp; done) | (simp; omega) | omega) _)) (some ⟨wr.heap.size + 1, 0, none⟩) 1 1 [(j : Int)] rfl rfl (rdI_one blk_new2) (fun e => by cases e) (by omega) (by omega) (by first | (simp; done) | (simp; omega) | omega) ?_; intro A2 c2 w5 hown2 hgrow; have hg5 := grown_below (B := w.heap.size + 1) hgrow (by first | (simp; done) | (simp; omega) | omega) (fun g hg => (hown.out.lt g hg).1); have HO2 := hide hown2; clear hown2 hgrow))
        go_roundw
        case rel => exact ⟨j + 1, by omega, by go_num, ⟨A2, c2, by rw [HL.out], hide (by rw [HL.out, HE.out]; exact HO2.out)⟩, (hB.trans (((Below.refl _ wr).alloc (by omega) _).alloc (by simp; omega) _)).trans hg5⟩
        case measure => simp [intOf]; omega
      · have HE : Hid (L.wrongFrom x y 0 (v.ss.take (j + 1)) = L.wrongFrom x y 0 (v.ss.take j)) := hide (by rw [HM.out, HZ.out, hv]; simp)
        go_wp2_with (go_at_call 57; refine (refWithin_any _ _ _ _).mono ?_; rintro e w3 ⟨rfl, rfl⟩; rw [hv])
        go_roundw
        case rel => exact ⟨j + 1, by omega, by go_num, ⟨sv, c', by rw [HE.out], hide (by rw [HE.out]; exact owns_below hown.out ((Below.refl _ wr).alloc (Nat.le_refl _) _))⟩, by (repeat' first | exact zbR _ _ | assumption | refine zbD ?_ | refine zbA ?_ ?_ _ | refine zbS ?_ ?_ _ | refine zbT ?_ (by assumption) ?_ | (simp; done) | (simp; omega) | omega)⟩
        case measure => simp [intOf]; omega
    · have hjn : j = n := by omega
      subst hjn
      have HE : Hid (L.wrongFrom x y 0 (v.ss.take j) = L.wrongL v x y) := hide (by rw [List.take_of_length_le (by have := HN.out; omega)]; rfl)
      go_wp2_with fail
      go_ret
      refine ⟨sv, c', ?_, ?_, hB0⟩
      · rw [← HE.out]; rfl
      · rw [← HE.out]; exact owns_mono hown.out (by omega)

end Go.Proofs.Ytgnobonhohfofaa

namespace Go.Proofs.Ytgnobonhohfofaa
open Go

theorem drop_get {α : Type} {l rest : List α} {x : α} : ∀ {i : Nat}, l.drop i = x :: rest → l.toArray[i]? = some x := by
  intro i h
  have : l[i]? = some x := by
    have := congrArg List.head? h
    simpa [List.head?_drop] using this
  simpa using this

theorem takeL {P : Program} {md : Region.Mode} {l rest : List Oper} {Q : Exit → Act → World → Prop} {S : World → Prop} {oi : Oper} {v : Value} {fuel : Nat} {listed : Array Bool} {a : Act} {w : World} (i : Nat) (hi : l.drop i = oi :: rest)
    (hs : Region.noSelect l.toArray = true) (hf : Region.free md l.toArray listed i = true) (hr : (Region.ready md l.toArray listed).contains i = true)
    (hQ : ∀ c a w, Q (.panic c) (a.put oi.dst v) w → Q (.panic c) a w) (hy : YieldsIf P l.toArray S oi v a) (hS : S w)
    (h : wpAnyH P md l.toArray Q S fuel (listed.setIfInBounds i true) (a.put oi.dst v) w) : wpAnyH P md l.toArray Q S (fuel + 1) listed a w :=
  wpAnyH_take (drop_get hi) hs hf hr hQ hy hS h

theorem tL {P : Program} {md : Region.Mode} {l rest : List Oper} {Q : Exit → Act → World → Prop} {S : World → Prop} {oi : Oper} {v : Value} {fuel : Nat} {listed : Array Bool} {a : Act} {w : World} (i : Nat) (hi : l.drop i = oi :: rest)
    (hb : (Region.noSelect l.toArray && Region.free md l.toArray listed i && (Region.ready md l.toArray listed).contains i) = true)
    (hQ : ∀ c a w, Q (.panic c) (a.put oi.dst v) w → Q (.panic c) a w) (hy : YieldsIf P l.toArray S oi v a) (hS : S w)
    (h : wpAnyH P md l.toArray Q S fuel (listed.setIfInBounds i true) (a.put oi.dst v) w) : wpAnyH P md l.toArray Q S (fuel + 1) listed a w := by
  rw [Bool.and_eq_true, Bool.and_eq_true] at hb
  exact takeL i hi hb.1.1 hb.1.2 hb.2 hQ hy hS h
theorem zl {α : Type} (l : List α) (i : Nat) (a : α) : l.toArray.setIfInBounds i a = (l.set i a).toArray := List.setIfInBounds_toArray l i a
theorem z0 {α : Type} {x : α} {xs : List α} {a : α} : (x :: xs).set 0 a = a :: xs := List.set_cons_zero
theorem z1 {α : Type} {x : α} {xs : List α} {i : Nat} {a : α} : (x :: xs).set (i + 1) a = x :: xs.set i a := List.set_cons_succ

theorem consL {P : Program} {md : Region.Mode} {l rest : List Oper} {Q : Exit → Act → World → Prop} {S : World → Prop} {fuel : Nat} {listed : Array Bool} {a : Act} {w : World} {o : Oper} {rs : List Nat} (i : Nat) (ho : l.drop i = o :: rest)
    (h : ∀ K' : Act → World → Prop, Shut (∀ a w, S w → (S w → wpAnyH P md l.toArray Q S fuel (listed.setIfInBounds i true) a w) → K' a w) → if Region.wanted o (yielded l.toArray a.tmps) = true then Oper.wp P o a w K' Q else K' (a.put o.dst undef) w)
    (hs : AllReadyH P md l.toArray Q S fuel listed a w rs) : AllReadyH P md l.toArray Q S fuel listed a w (i :: rs) :=
  AllReadyH.cons (drop_get ho) h hs

end Go.Proofs.Ytgnobonhohfofaa

namespace Go.Proofs.Ytgnobonhohfofaa
open Go.RowKit
attribute [local go_sem ↓] Go.wp_at_zero Go.wp_at_succ

namespace L
theorem okAt_zero' (v : Vw) (c : Int × Int) : okAt v 0 c = decide (((wrongL v c.1 c.2).length : Int) ≤ v.wrong) := by unfold okAt; rw [wrongL_length]
structure VwW (v : Vw) : Prop where
  s0 : 0 ≤ v.size
  s1 : v.size ≤ 40
  w0 : 0 ≤ v.wrong
  w1 : v.wrong ≤ 3
  x0 : 1 ≤ v.hxl
  xx : v.hxl ≤ v.hxh
  x1 : v.hxh ≤ 9
  y0 : 1 ≤ v.hyl
  yy : v.hyl ≤ v.hyh
  y1 : v.hyh ≤ 9
  n8 : v.ss.length ≤ 8
  ok : ∀ s ∈ v.ss, StPq s
theorem VwOk.w {v : Vw} (h : VwOk v) : VwW v := ⟨h.s0, h.s1, h.w0, h.w1, h.x0, h.xx, h.x1, h.y0, h.yy, h.y1, h.n8, fun s hs => (h.ok s hs).pq⟩
def mk0 (c : Int × Int) : Mk := ⟨c.1, c.2, 0, 0⟩
def tcTo (v : Vw) (N i j : Nat) : List Mk := (((rowsTo N i ++ rowAt N i j)).filter (okAt v 0)).map mk0
theorem tcTo_row (v : Vw) (N i : Nat) : tcTo v N i (N + 1) = tcTo v N (i + 1) 0 := by
  unfold tcTo; rw [rowsTo_next]; rw [show rowAt N (i + 1) 0 = [] from rfl, List.append_nil]
theorem tcTo_next (v : Vw) (N i j : Nat) : tcTo v N i (j + 1) = tcTo v N i j ++ (if okAt v 0 ((i : Int), (j : Int)) then [mk0 ((i : Int), (j : Int))] else []) := by
  unfold tcTo
  rw [rowAt_next, ← List.append_assoc, List.filter_append, List.map_append]
  congr 1
  cases h : okAt v 0 ((i : Int), (j : Int)) <;> simp [List.filter_cons, h]
theorem tcTo_all (v : Vw) (N : Nat) : tcTo v N (N + 1) 0 = ((cents N).filter (okAt v 0)).map mk0 := by
  unfold tcTo; rw [show rowAt N (N + 1) 0 = [] from rfl, List.append_nil, ← cents_rows]
theorem tcTo_le (v : Vw) {N i j : Nat} (hN : N ≤ 40) (hi : i ≤ N) (hj : j ≤ N + 1) : (tcTo v N i j).length ≤ 1681 := by
  unfold tcTo
  rw [List.length_map]
  refine Nat.le_trans (List.length_filter_le _ _) ?_
  have h1 : (rowsTo N i ++ rowAt N i j).length ≤ (cents N).length := by
    rw [cents_rows]
    refine (List.IsPrefix.trans ?_ (rowsTo_pre N (show i + 1 ≤ N + 1 by omega))).length_le
    rw [rowsTo_next]
    exact (List.prefix_append_right_inj _).2 (rowAt_pre N i hj)
  rw [cents_length] at h1
  have h2 : N + 1 ≤ 41 := by omega
  have := Nat.mul_le_mul h2 h2
  omega
end L

theorem refWrong_N (v : L.Vw) (A : Option Addr) (n c N : Nat) (x y : Int) (w : World) (hN : v.size = (N : Int)) (hn : v.ss.length = n) (hr : RdS w w.heap.size A v.ss) (ho : ∀ s ∈ v.ss, L.StPq s) (h8 : n ≤ 8) (hx0 : 0 ≤ x) (hx1 : x ≤ 40) (hy0 : 0 ≤ y) (hy1 : y ≤ 40) :
    Calls Try.prog 50 #[.agg #[.int .i64 (N : Int), .slice A n c, .int .i64 v.wrong, .int .i64 v.hxl, .int .i64 v.hxh, .int .i64 v.hyl, .int .i64 v.hyh], .int .i64 x, .int .i64 y] w fun e w' => ∃ sv c', e = .returned (.slice sv (L.wrongL v x y).length c') ∧ w'.ownsRow w.heap.size 3 1 (.slice sv (L.wrongL v x y).length c') (L.wrongL v x y).length (flatI (L.wrongL v x y)) ∧ Below w.heap.size w w' := by
  rw [← hN]
  exact refWrong_pq v A n c x y w hn hr ho h8 hx0 hx1 hy0 hy1

set_option maxRecDepth 100000 in
set_option maxHeartbeats 6400000 in
theorem refCents_any (v : L.Vw) (A : Option Addr) (n c N : Nat) (w : World) (hv : L.VwW v) (hN : v.size = (N : Int)) (hn : v.ss.length = n) (hr : RdS w w.heap.size A v.ss) :
    Calls Try.prog 64 #[.agg #[.int .i64 v.size, .slice A n c, .int .i64 v.wrong, .int .i64 v.hxl, .int .i64 v.hxh, .int .i64 v.hyl, .int .i64 v.hyh]] w fun e w' => ∃ sv c', e = .returned (.slice sv ((L.tcents v 0).map L.mk0).length c') ∧ w'.ownsRow w.heap.size 30 4 (.slice sv ((L.tcents v 0).map L.mk0).length c') ((L.tcents v 0).map L.mk0).length (flatM ((L.tcents v 0).map L.mk0)) ∧ Below w.heap.size w w' := by
  have HN := hide hn
  have HR := hide hr
  have HV := hide hv
  have hN40 : N ≤ 40 := by have := hv.s1; omega
  have hn8 : n ≤ 8 := by have := hv.n8; omega
  have HALL := hide (show L.tcTo v N (N + 1) 0 = (L.tcents v 0).map L.mk0 by rw [L.tcTo_all]; unfold L.tcents; rw [show v.size.toNat = N by omega])
  have HSz := hide hN
  have hv1 : (0 : Int) ≤ v.wrong := hv.w0
  have hv2 : v.wrong ≤ 3 := hv.w1
  clear hn hr hv
  go_enter Try.func64, Try.ntmps64
  go_upto_region 1 with fail
  rw [hN]
  obtain ⟨W0, hW0⟩ : ∃ W0, w.alloc (.cells #[.int .i64 (N : Int), .slice A n c, .int .i64 v.wrong, .int .i64 v.hxl, .int .i64 v.hxh, .int .i64 v.hyl, .int .i64 v.hyh] 26) = W0 := ⟨_, rfl⟩
  have gp : W0.heap[w.heap.size]? = some (.cells #[.int .i64 (N : Int), .slice A n c, .int .i64 v.wrong, .int .i64 v.hxl, .int .i64 v.hxh, .int .i64 v.hyl, .int .i64 v.hyh] 26 (0, 0)) := by
    rw [← hW0]; exact World.alloc_heap_new _ _
  have gs : W0.heap.size = w.heap.size + 1 := by rw [← hW0]; simp
  have gB : Below w.heap.size w W0 := by rw [← hW0]; (repeat' first | exact zbR _ _ | assumption | refine zbD ?_ | refine zbA ?_ ?_ _ | refine zbS ?_ ?_ _ | refine zbT ?_ (by assumption) ?_ | (simp; done) | (simp; omega) | omega)
  rw [hW0]
  clear hW0 hN
  obtain ⟨p, hp⟩ : ∃ p, w.heap.size = p := ⟨_, rfl⟩
  rw [hp]
  rw [hp] at gp
  have lp : p < W0.heap.size := by omega
  have HR0 := hide ((HR.out.below gB).mono gB.size)
  have HP := hide hp
  have GB := hide gB
  have GP := hide gp
  have GS := hide gs
  clear gp gB HR hp gs
  go_wp2_with fail
  go_loopw [3, 4] (fun m t wr => ∃ i : Nat, i ≤ N + 1 ∧ t = .int .i64 i ∧ (∃ sv c', m = .slice sv (L.tcTo v N i 0).length c' ∧ Hid (wr.ownsRow W0.heap.size 30 4 (.slice sv (L.tcTo v N i 0).length c') (L.tcTo v N i 0).length (flatM (L.tcTo v N i 0)))) ∧ Below W0.heap.size W0 wr) (fun _ t _ => N + 1 - (intOf t).toNat)
  case atStart => exact ⟨0, by omega, rfl, ⟨none, 0, rfl, hide (World.ownsRow_nil _ _ _ _)⟩, Below.refl _ _⟩
  case round =>
    obtain ⟨i, hi, rfl, ⟨sv, c', rfl, hown⟩, hB⟩ := hrel
    have qB := hB.size
    have bp := (hB.block p lp).trans GP.out
    have cp0 := (blk_cell bp 0).trans rfl; have cp1 := (blk_cell bp 1).trans rfl; have cp2 := (blk_cell bp 2).trans rfl; have cp3 := (blk_cell bp 3).trans rfl; have cp4 := (blk_cell bp 4).trans rfl; have cp5 := (blk_cell bp 5).trans rfl; have cp6 := (blk_cell bp 6).trans rfl
    have lpr : p < wr.heap.size := by omega
    have hi0 : (0 : Int) ≤ (i : Int) := by omega
    have hi1 : (i : Int) ≤ 41 := by omega
    clear bp
    by_cases hlt : i < N + 1
    · have hlt' : (i : Int) ≤ (N : Int) := by omega
      have GPr := hide ((hB.block p lp).trans GP.out)
      go_wp2_with fail
      clear cp0 cp1 cp2 cp3 cp4 cp5 cp6
      go_loopw [3, 5] (fun m t wq => ∃ j : Nat, j ≤ N + 1 ∧ t = .int .i64 j ∧ (∃ sv c', m = .slice sv (L.tcTo v N i j).length c' ∧ Hid (wq.ownsRow W0.heap.size 30 4 (.slice sv (L.tcTo v N i j).length c') (L.tcTo v N i j).length (flatM (L.tcTo v N i j)))) ∧ Below W0.heap.size W0 wq) (fun _ t _ => N + 1 - (intOf t).toNat)
      case atStart => exact ⟨0, by omega, rfl, ⟨sv, c', rfl, hown⟩, hB⟩
      case round =>
        clear hown hB qB lpr GPr
        obtain ⟨j, hj, rfl, ⟨sv, c', rfl, hown⟩, hB⟩ := hrel
        have qB := hB.size
        have bp := (hB.block p lp).trans GP.out
        have cp0 := (blk_cell bp 0).trans rfl; have cp1 := (blk_cell bp 1).trans rfl; have cp2 := (blk_cell bp 2).trans rfl; have cp3 := (blk_cell bp 3).trans rfl; have cp4 := (blk_cell bp 4).trans rfl; have cp5 := (blk_cell bp 5).trans rfl; have cp6 := (blk_cell bp 6).trans rfl
        have GPr := hide bp
        have lpr : p < wr.heap.size := by omega
        have hj0 : (0 : Int) ≤ (j : Int) := by omega
        have hj1 : (j : Int) ≤ 41 := by omega
        clear bp
        by_cases hlt2 : j < N + 1
        · have hlt2' : (j : Int) ≤ (N : Int) := by omega
          have HRr := hide ((HR0.out.below hB).mono qB)
          have hle := L.tcTo_le v hN40 (show i ≤ N by omega) (show j ≤ N + 1 by omega)
          have HNX := hide (L.tcTo_next v N i j)
          obtain ⟨ln, hln⟩ : ∃ ln, (L.wrongL v (i : Int) (j : Int)).length = ln := ⟨_, rfl⟩
          have HOK := hide (show L.okAt v 0 ((i : Int), (j : Int)) = decide ((ln : Int) ≤ v.wrong) by rw [← hln]; exact L.okAt_zero' v _)
          have HLN := hide hln
          have hln8 : (ln : Int) ≤ 8 := by rw [← hln, L.wrongL_length]; have := L.many_le v.ss (i : Int) (j : Int) 0; have := HN.out; omega
          clear hln
          go_upto_region 8 with fail
          have hS : (fun w' => Below wr.heap.size wr w' ∧ p < w'.heap.size ∧ w'.cell? ⟨p, 0, none⟩ = some (.int .i64 (N : Int)) ∧ w'.cell? ⟨p, 1, none⟩ = some (.slice A n c) ∧ w'.cell? ⟨p, 2, none⟩ = some (.int .i64 v.wrong) ∧ w'.cell? ⟨p, 3, none⟩ = some (.int .i64 v.hxl) ∧ w'.cell? ⟨p, 4, none⟩ = some (.int .i64 v.hxh) ∧ w'.cell? ⟨p, 5, none⟩ = some (.int .i64 v.hyl) ∧ w'.cell? ⟨p, 6, none⟩ = some (.int .i64 v.hyh)) wr := ⟨Below.refl _ _, lpr, cp0, cp1, cp2, cp3, cp4, cp5, cp6⟩
          obtain ⟨W1, hW1⟩ : ∃ W1, wr = W1 := ⟨_, rfl⟩
          have HOW := hide hown.out
          have HB1 := hide hB
          rw [hW1] at hS HRr HOW HB1 ⊢
          clear hW1 hown hB qB lpr GPr cp0 cp1 cp2 cp3 cp4 cp5 cp6
          have hkeep : ∀ u u' : World, Below u.heap.size u u' → (Below W1.heap.size W1 u ∧ p < u.heap.size ∧ u.cell? ⟨p, 0, none⟩ = some (.int .i64 (N : Int)) ∧ u.cell? ⟨p, 1, none⟩ = some (.slice A n c) ∧ u.cell? ⟨p, 2, none⟩ = some (.int .i64 v.wrong) ∧ u.cell? ⟨p, 3, none⟩ = some (.int .i64 v.hxl) ∧ u.cell? ⟨p, 4, none⟩ = some (.int .i64 v.hxh) ∧ u.cell? ⟨p, 5, none⟩ = some (.int .i64 v.hyl) ∧ u.cell? ⟨p, 6, none⟩ = some (.int .i64 v.hyh)) → (Below W1.heap.size W1 u' ∧ p < u'.heap.size ∧ u'.cell? ⟨p, 0, none⟩ = some (.int .i64 (N : Int)) ∧ u'.cell? ⟨p, 1, none⟩ = some (.slice A n c) ∧ u'.cell? ⟨p, 2, none⟩ = some (.int .i64 v.wrong) ∧ u'.cell? ⟨p, 3, none⟩ = some (.int .i64 v.hxl) ∧ u'.cell? ⟨p, 4, none⟩ = some (.int .i64 v.hxh) ∧ u'.cell? ⟨p, 5, none⟩ = some (.int .i64 v.hyl) ∧ u'.cell? ⟨p, 6, none⟩ = some (.int .i64 v.hyh)) := by
            rintro u u' hb ⟨hB, l_p, k0, k1, k2, k3, k4, k5, k6⟩
            exact ⟨hB.trans (hb.mono hB.size), Nat.lt_of_lt_of_le l_p hb.size, (hb.cell (p := ⟨p, 0, none⟩) l_p).trans k0, (hb.cell (p := ⟨p, 1, none⟩) l_p).trans k1, (hb.cell (p := ⟨p, 2, none⟩) l_p).trans k2, (hb.cell (p := ⟨p, 3, none⟩) l_p).trans k3, (hb.cell (p := ⟨p, 4, none⟩) l_p).trans k4, (hb.cell (p := ⟨p, 5, none⟩) l_p).trans k5, (hb.cell (p := ⟨p, 6, none⟩) l_p).trans k6⟩
          (try dsimp only at hS)
          refine wp_region_held_drew (S := (fun w' => Below W1.heap.size W1 w' ∧ p < w'.heap.size ∧ w'.cell? ⟨p, 0, none⟩ = some (.int .i64 (N : Int)) ∧ w'.cell? ⟨p, 1, none⟩ = some (.slice A n c) ∧ w'.cell? ⟨p, 2, none⟩ = some (.int .i64 v.wrong) ∧ w'.cell? ⟨p, 3, none⟩ = some (.int .i64 v.hxl) ∧ w'.cell? ⟨p, 4, none⟩ = some (.int .i64 v.hxh) ∧ w'.cell? ⟨p, 5, none⟩ = some (.int .i64 v.hyl) ∧ w'.cell? ⟨p, 6, none⟩ = some (.int .i64 v.hyh))) (by kernel_rfl) ?_ (fun hHeld0 => ?_)
          · (try dsimp only); (first | (go_keep; done) | (go_split_ands; (repeat' apply And.intro) <;> first | (go_keep; done) | (simp [*, zcA, zcP, zfA, zfP]; done) | (simp [zcA, zcP] <;> rfl) | (simp [*, zsS, zsO, zsA]; done) | ((first | refine (hc _ _ ?_).trans ?_ | refine (hf _ _ ?_).trans ?_) <;> first | assumption | (simp; done) | (simp; omega) | omega | (go_keep; done) | (simp [*, zcA, zcP, zfA, zfP]; done) | (simp [zcA, zcP]; rfl)) | (repeat' first | exact zbR _ _ | assumption | refine zbD ?_ | refine zbA ?_ ?_ _ | refine zbS ?_ ?_ _ | refine zbT ?_ (by assumption) ?_ | (simp; done) | (simp; omega) | omega)))
          refine tL (v := ?_) 0 rfl (by kernel_rfl) (fun _ _ _ h => h) (Or.inl ⟨by rfl, ?_⟩) (by assumption) ?_; rotate_left
          · (intro w hSw; (try dsimp only at hSw); go_simp; try with_reducible rfl)
          try simp only [Act.put, zl, z0, z1]
          refine tL (v := ?_) 1 rfl (by kernel_rfl) (fun _ _ _ h => h) (Or.inl ⟨by rfl, ?_⟩) (by assumption) ?_; rotate_left
          · (intro w hSw; (try dsimp only at hSw); go_simp; try with_reducible rfl)
          try simp only [Act.put, zl, z0, z1]
          refine tL (v := ?_) 2 rfl (by kernel_rfl) (fun _ _ _ h => h) (Or.inl ⟨by rfl, ?_⟩) (by assumption) ?_; rotate_left
          · (intro w hSw; (try dsimp only at hSw); go_simp; try with_reducible rfl)
          try simp only [Act.put, zl, z0, z1]
          refine tL (v := ?_) 5 rfl (by kernel_rfl) (fun _ _ _ h => h) (Or.inl ⟨by rfl, ?_⟩) (by assumption) ?_; rotate_left
          · (intro w hSw; (try dsimp only at hSw); go_simp; try with_reducible rfl)
          try simp only [Act.put, zl, z0, z1]
          refine tL (v := ?_) 6 rfl (by kernel_rfl) (fun _ _ _ h => h) (Or.inl ⟨by rfl, ?_⟩) (by assumption) ?_; rotate_left
          · (intro w hSw; (try dsimp only at hSw); go_simp; try with_reducible rfl)
          try simp only [Act.put, zl, z0, z1]
          refine wpAnyH_ready (rs := [3]) (by kernel_rfl) (by simp) ?_
          refine consL 3 rfl (fun K hK => ?_) AllReadyH.nil
          go_simp
          (go_at_call 50; refine (refWrong_N v A n c N (i : Int) (j : Int) _ HSz.out HN.out (by first | exact (HRr.out.below hS.1).mono hS.1.size | exact (HRr.out.below (zbD hS.1)).mono hS.1.size) HV.out.ok hn8 hi0 (by omega) hj0 (by omega)).mono ?_; rintro e w6 ⟨sv6, c6, rfl, hown6, hb⟩; clear hown6; rw [HLN.out]; have hSn := hkeep _ _ hb (by assumption); (try clear hS); have hS := hSn; clear hSn)
          refine hK.out _ _ ?_ (fun hHeld1 => ?_)
          · (try dsimp only); exact hS
          clear hK K hHeld0
          try simp only [Act.put, zl, z0, z1]
          refine tL (v := ?_) 4 rfl (by kernel_rfl) (fun _ _ _ h => h) (Or.inl ⟨by rfl, ?_⟩) (by assumption) ?_; rotate_left
          · (intro w hSw; (try dsimp only at hSw); go_simp; try with_reducible rfl)
          try simp only [Act.put, zl, z0, z1]
          refine tL (v := ?_) 7 rfl (by kernel_rfl) (fun _ _ _ h => h) (Or.inl ⟨by rfl, ?_⟩) (by assumption) ?_; rotate_left
          · (intro w hSw; (try dsimp only at hSw); go_simp; try with_reducible rfl)
          try simp only [Act.put, zl, z0, z1]
          refine wpAnyH_done (by kernel_rfl) ?_ _
          obtain ⟨hB6, lp6, k_p0, k_p1, k_p2, k_p3, k_p4, k_p5, k_p6⟩ := hS
          have HO6 := hide (owns_below HOW.out hB6)
          have q6 := hB6.size
          have HB6 := hide (HB1.out.trans (hB6.mono HB1.out.size))
          have q60 := HB6.out.size
          clear hkeep hHeld1
          by_cases hw : (ln : Int) ≤ v.wrong
          · have HE := hide (show L.tcTo v N i (j + 1) = L.tcTo v N i j ++ [L.mk0 ((i : Int), (j : Int))] by rw [HNX.out, HOK.out, decide_eq_true hw]; rfl)
            have HL := hide (show (L.tcTo v N i (j + 1)).length = (L.tcTo v N i j).length + 1 by rw [HE.out, List.length_append]; rfl)
            clear hB6
            go_wp2_with (refine wpList_app_marks rfl (.tmp 26) (.tmp 30) rfl W0.heap.size _ (L.tcTo v N i j) _ rfl (HO6.out.alloc _) (some ⟨_, 0, none⟩) 1 1 [L.mk0 ((i : Int), (j : Int))] rfl rfl (rdM_one (World.alloc_heap_new _ _)) (fun e => by cases e) (by omega) (by omega) (by simp; omega) _ rfl ?_; intro A2 c2 w7 hown2 hgrow; have hg7 := grown_below (B := W0.heap.size) hgrow (by simp; omega) (fun g hg => (HO6.out.lt g hg).1); have HO2 := hide hown2; clear hown2 hgrow)
            go_roundw
            case rel => exact ⟨j + 1, by omega, by go_num, ⟨A2, c2, by rw [HL.out], hide (by rw [HL.out, HE.out]; exact HO2.out)⟩, (HB6.out.trans ((Below.refl _ _).alloc q60 _)).trans hg7⟩
            case measure => simp [intOf]; omega
          · have HE := hide (show L.tcTo v N i (j + 1) = L.tcTo v N i j by rw [HNX.out, HOK.out, decide_eq_false hw, if_neg (by decide), List.append_nil])
            clear hB6
            go_wp2_with fail
            go_roundw
            case rel => exact ⟨j + 1, by omega, by go_num, ⟨sv, c', by rw [HE.out], hide (by rw [HE.out]; exact HO6.out)⟩, HB6.out⟩
            case measure => simp [intOf]; omega
        · have hjn : j = N + 1 := by omega
          subst hjn
          go_wp2_with fail
          go_roundw
          case rel => exact ⟨i + 1, by omega, by go_num, ⟨sv, c', by rw [← L.tcTo_row], hide (by rw [← L.tcTo_row]; exact hown.out)⟩, hB⟩
          case measure => simp [intOf]; omega
    · have hin : i = N + 1 := by omega
      subst hin
      go_wp2_with fail
      go_ret
      refine ⟨sv, c', ?_, ?_, ?_⟩
      · rw [← HALL.out]; rfl
      · rw [← HALL.out]; exact owns_mono hown.out (by have := GS.out; have := HP.out; omega)
      · exact GB.out.trans (hB.mono GB.out.size)

end Go.Proofs.Ytgnobonhohfofaa

namespace Go.Proofs.Ytgnobonhohfofaa
open Go.RowKit
attribute [local go_sem ↓] Go.wp_at_zero Go.wp_at_succ

namespace L
def nA (v : Vw) : Nat := (v.hxh - v.hxl + 1).toNat
def nB (v : Vw) : Nat := (v.hyh - v.hyl + 1).toNat
def trB (v : Vw) (c : Mk) (a : Int) (k : Nat) : List Mk := (List.range k).map fun (j : Nat) => ⟨c.x, c.y, a, v.hyl + (j : Int)⟩
def trA (v : Vw) (c : Mk) (k : Nat) : List Mk := (List.range k).flatMap fun (i : Nat) => trB v c (v.hxl + (i : Int)) (nB v)
def trC (v : Vw) (l : List Mk) : List Mk := l.flatMap fun c => trA v c (nA v)
def truths (v : Vw) : List Mk := trC v ((tcents v 0).map mk0)
theorem trB_next (v : Vw) (c : Mk) (a : Int) (k : Nat) : trB v c a (k + 1) = trB v c a k ++ [⟨c.x, c.y, a, v.hyl + (k : Int)⟩] := by unfold trB; rw [List.range_succ, List.map_append]; rfl
theorem trA_next (v : Vw) (c : Mk) (k : Nat) : trA v c (k + 1) = trA v c k ++ trB v c (v.hxl + (k : Int)) (nB v) := by unfold trA; rw [List.range_succ, List.flatMap_append]; simp
theorem trC_next (v : Vw) {l : List Mk} {i : Nat} {c : Mk} (h : l[i]? = some c) : trC v (l.take (i + 1)) = trC v (l.take i) ++ trA v c (nA v) := by
  unfold trC; rw [List.take_add_one, h, Option.toList_some, List.flatMap_append]; simp
theorem trB_len (v : Vw) (c : Mk) (a : Int) (k : Nat) : (trB v c a k).length = k := by unfold trB; simp
theorem trA_len (v : Vw) (c : Mk) : ∀ k, (trA v c k).length = k * nB v
  | 0 => by simp [trA]
  | k + 1 => by rw [trA_next, List.length_append, trA_len v c k, trB_len, Nat.add_mul, Nat.one_mul]
theorem trC_len (v : Vw) : ∀ l : List Mk, (trC v l).length = l.length * (nA v * nB v)
  | [] => by simp [trC]
  | c :: r => by
    have ih := trC_len v r
    unfold trC at ih ⊢
    rw [List.flatMap_cons, List.length_append, ih, trA_len, List.length_cons, Nat.add_mul, Nat.one_mul, Nat.add_comm]
end L
theorem step_app_marks {w : World} {ops : Array Oper} {o : Oper} {a : Act} {K : Act → World → Prop} {Q : Exit → Act → World → Prop} {E : Prop} (hgd : o.guard = none) (s x : Operand)
    (ho : o.op = .call { callee := .builtin .append, args := #[s, x], argTypes := #[93, 93] }) (base : Nat) (v : Value) (ps : List L.Mk) (m0 : Nat) (hs : a.eval s = v) (hown : w.ownsRow base 30 4 v m0 (flatM ps))
    (A : Option Addr) (n c : Nat) (ss : List L.Mk) (hx : a.eval x = .slice A n c) (hn : ss.length = n) (hr : RdM w w.heap.size A ss) (hA : A = none → c = 0) (h0 : m0 ≤ 1000000) (h1 : n ≤ 1000) (hbase : base ≤ w.heap.size) (N : Nat) (hN : m0 + n = N)
    (h : ∀ A' c' w', w'.ownsRow base 30 4 (.slice A' N c') N (flatM (ps ++ ss)) → w.grownBy w' v.ownBlock → K (a.put o.dst (.slice A' N c')) w') :
    if Region.wanted o (yielded ops a.tmps) = true then Oper.wp Try.prog o a w K Q else E := by
  subst hN
  have hw : Region.wanted o (yielded ops a.tmps) = true := by simp [Region.wanted, hgd]
  rw [if_pos hw]
  obtain ⟨A', c', w', hr', h2, h3⟩ := run_app_marks o.type base v ps m0 hown A n c ss hn hr hA h0 h1 hbase
  unfold Oper.wp execOp
  simp only [ho, resolve, invoke, builtin, Sem.run_bind, Sem.run_pure, Result.andThen_ok, List.map_toArray, List.map_cons, List.map_nil, hs, hx, hr']
  exact h A' c' w' h2 h3

set_option maxRecDepth 100000 in
set_option maxHeartbeats 6400000 in
theorem refTruths_any (v : L.Vw) (A : Option Addr) (n c : Nat) (w : World) (hv : L.VwW v) (hn : v.ss.length = n) (hr : RdS w w.heap.size A v.ss) :
    Calls Try.prog 73 #[.agg #[.int .i64 v.size, .slice A n c, .int .i64 v.wrong, .int .i64 v.hxl, .int .i64 v.hxh, .int .i64 v.hyl, .int .i64 v.hyh]] w fun e w' => ∃ sv c', e = .returned (.slice sv (L.truths v).length c') ∧ w'.ownsRow w.heap.size 30 4 (.slice sv (L.truths v).length c') (L.truths v).length (flatM (L.truths v)) ∧ Below w.heap.size w w' := by
  have HN := hide hn
  have HR := hide hr
  have HV := hide hv
  obtain ⟨N, hN⟩ : ∃ N : Nat, v.size = (N : Int) := ⟨v.size.toNat, (Int.toNat_of_nonneg hv.s0).symm⟩
  have HSz := hide hN
  obtain ⟨tc, htc⟩ : ∃ tc, (L.tcents v 0).map L.mk0 = tc := ⟨_, rfl⟩
  have HTC := hide htc
  have hlen : tc.length ≤ 1681 := by
    have h1 : (L.tcents v 0).length ≤ (L.cents v.size.toNat).length := List.length_filter_le _ _
    rw [L.cents_length] at h1
    have h2 : v.size.toNat + 1 ≤ 41 := by have := hv.s0; have := hv.s1; omega
    have h3 := Nat.mul_le_mul h2 h2
    rw [← htc, List.length_map]; omega
  have hnA : L.nA v ≤ 9 := by unfold L.nA; have := hv.x0; have := hv.x1; omega
  have hnB : L.nB v ≤ 9 := by unfold L.nB; have := hv.y0; have := hv.y1; omega
  have EA := hide (show v.hxl + (L.nA v : Int) = v.hxh + 1 by unfold L.nA; have := hv.xx; omega)
  have EB := hide (show v.hyl + (L.nB v : Int) = v.hyh + 1 by unfold L.nB; have := hv.yy; omega)
  have hAB : L.nA v * L.nB v ≤ 81 := Nat.mul_le_mul hnA hnB
  have HTr := hide (show L.trC v tc = L.truths v by rw [← htc]; rfl)
  have x0 : 1 ≤ v.hxl := hv.x0
  have x1 : v.hxh ≤ 9 := hv.x1
  have y0 : 1 ≤ v.hyl := hv.y0
  have y1 : v.hyh ≤ 9 := hv.y1
  clear hn hr hv hN htc
  go_enter Try.func73, Try.ntmps73
  go_upto_region 1 with fail
  obtain ⟨W0, hW0⟩ : ∃ W0, w.alloc (.cells #[.int .i64 v.size, .slice A n c, .int .i64 v.wrong, .int .i64 v.hxl, .int .i64 v.hxh, .int .i64 v.hyl, .int .i64 v.hyh] 26) = W0 := ⟨_, rfl⟩
  have gp : W0.heap[w.heap.size]? = some (.cells #[.int .i64 v.size, .slice A n c, .int .i64 v.wrong, .int .i64 v.hxl, .int .i64 v.hxh, .int .i64 v.hyl, .int .i64 v.hyh] 26 (0, 0)) := by
    rw [← hW0]; exact World.alloc_heap_new _ _
  have gs : W0.heap.size = w.heap.size + 1 := by rw [← hW0]; simp
  have gB : Below w.heap.size w W0 := by rw [← hW0]; (repeat' first | exact zbR _ _ | assumption | refine zbD ?_ | refine zbA ?_ ?_ _ | refine zbS ?_ ?_ _ | refine zbT ?_ (by assumption) ?_ | (simp; done) | (simp; omega) | omega)
  rw [hW0]
  clear hW0
  obtain ⟨p, hp⟩ : ∃ p, w.heap.size = p := ⟨_, rfl⟩
  rw [hp]
  rw [hp] at gp
  have lp : p < W0.heap.size := by omega
  have HR0 := hide ((HR.out.below gB).mono gB.size)
  have HP := hide hp
  have GB := hide gB
  have GP := hide gp
  have cp0 := (blk_cell gp 0).trans rfl; have cp1 := (blk_cell gp 1).trans rfl; have cp2 := (blk_cell gp 2).trans rfl; have cp3 := (blk_cell gp 3).trans rfl; have cp4 := (blk_cell gp 4).trans rfl; have cp5 := (blk_cell gp 5).trans rfl; have cp6 := (blk_cell gp 6).trans rfl
  clear gp gB HR hp gs
  go_wp2_with (go_at_call 64; refine (refCents_any v A n c N _ HV.out HSz.out HN.out HR0.out).mono ?_; rintro e w2 ⟨svc, cc, rfl, hownc, hb2⟩; rw [HTC.out] at hownc ⊢)
  have GP2 := hide ((hb2.block p lp).trans GP.out)
  have GB2 := hide (GB.out.trans (hb2.mono GB.out.size))
  have q2 := hb2.size
  have lp2 : p < w2.heap.size := by omega
  have HC2 := hide hownc
  clear cp0 cp1 cp2 cp3 cp4 cp5 cp6 hownc hb2 lp q2 GP GB HR0
  go_loopw [3, 5] (fun m t wr => ∃ i : Nat, i ≤ tc.length ∧ t = .int .i64 i ∧ (∃ sv c', m = .slice sv (L.trC v (tc.take i)).length c' ∧ Hid (wr.ownsRow w2.heap.size 30 4 (.slice sv (L.trC v (tc.take i)).length c') (L.trC v (tc.take i)).length (flatM (L.trC v (tc.take i))))) ∧ Below w2.heap.size w2 wr) (fun _ t _ => tc.length - (intOf t).toNat)
  case atStart => exact ⟨0, by omega, rfl, ⟨none, 0, rfl, hide (World.ownsRow_nil _ _ _ _)⟩, Below.refl _ _⟩
  case round =>
    obtain ⟨i, hi, rfl, ⟨sv, c', rfl, hown⟩, hB⟩ := hrel
    have qB := hB.size
    have bp := (hB.block p lp2).trans GP2.out
    have cp0 := (blk_cell bp 0).trans rfl; have cp1 := (blk_cell bp 1).trans rfl; have cp2 := (blk_cell bp 2).trans rfl; have cp3 := (blk_cell bp 3).trans rfl; have cp4 := (blk_cell bp 4).trans rfl; have cp5 := (blk_cell bp 5).trans rfl; have cp6 := (blk_cell bp 6).trans rfl
    have lpr : p < wr.heap.size := by omega
    have hi0 : (0 : Int) ≤ (i : Int) := by omega
    have hi1 : (i : Int) ≤ 1681 := by omega
    clear bp
    by_cases hlt : i < tc.length
    · obtain ⟨cm, hcm⟩ : ∃ cm, tc[i]? = some cm := ⟨_, List.getElem?_eq_getElem hlt⟩
      have HCM := hide hcm
      clear hcm
      have hlt' : (i : Int) < (tc.length : Int) := by omega
      go_wp2_with fail
      clear cp0 cp1 cp2 cp3 cp4 cp5 cp6
      go_loopw [3, 6] (fun m t wr => ∃ k : Nat, k ≤ L.nA v ∧ t = .int .i64 (v.hxl + (k : Int)) ∧ (∃ sv c', m = .slice sv (L.trC v (tc.take i) ++ L.trA v cm k).length c' ∧ Hid (wr.ownsRow w2.heap.size 30 4 (.slice sv (L.trC v (tc.take i) ++ L.trA v cm k).length c') (L.trC v (tc.take i) ++ L.trA v cm k).length (flatM (L.trC v (tc.take i) ++ L.trA v cm k)))) ∧ Below w2.heap.size w2 wr) (fun _ t _ => (v.hxh + 1 - intOf t).toNat)
      case atStart => exact ⟨0, by omega, by simp, ⟨sv, c', by rw [show L.trA v cm 0 = [] from rfl, List.append_nil], by rw [show L.trA v cm 0 = [] from rfl, List.append_nil]; exact hown⟩, hB⟩
      case round =>
        clear hown hB qB lpr
        obtain ⟨k, hk, rfl, ⟨sv, c', rfl, hown⟩, hB⟩ := hrel
        have qB := hB.size
        have bp := (hB.block p lp2).trans GP2.out
        have cp0 := (blk_cell bp 0).trans rfl; have cp1 := (blk_cell bp 1).trans rfl; have cp2 := (blk_cell bp 2).trans rfl; have cp3 := (blk_cell bp 3).trans rfl; have cp4 := (blk_cell bp 4).trans rfl; have cp5 := (blk_cell bp 5).trans rfl; have cp6 := (blk_cell bp 6).trans rfl
        have lpr : p < wr.heap.size := by omega
        have hk0 : (0 : Int) ≤ (k : Int) := by omega
        have hk9 : (k : Int) ≤ 9 := by omega
        have ea := EA.out
        clear bp
        by_cases hlt2 : k < L.nA v
        · have hlt2' : v.hxl + (k : Int) ≤ v.hxh := by omega
          clear ea
          go_wp2_with fail
          clear cp0 cp1 cp2 cp3 cp4 cp5 cp6
          go_loopw [3, 7] (fun m t wr => ∃ l : Nat, l ≤ L.nB v ∧ t = .int .i64 (v.hyl + (l : Int)) ∧ (∃ sv c', m = .slice sv (L.trC v (tc.take i) ++ L.trA v cm k ++ L.trB v cm (v.hxl + (k : Int)) l).length c' ∧ Hid (wr.ownsRow w2.heap.size 30 4 (.slice sv (L.trC v (tc.take i) ++ L.trA v cm k ++ L.trB v cm (v.hxl + (k : Int)) l).length c') (L.trC v (tc.take i) ++ L.trA v cm k ++ L.trB v cm (v.hxl + (k : Int)) l).length (flatM (L.trC v (tc.take i) ++ L.trA v cm k ++ L.trB v cm (v.hxl + (k : Int)) l)))) ∧ Below w2.heap.size w2 wr) (fun _ t _ => (v.hyh + 1 - intOf t).toNat)
          case atStart => exact ⟨0, by omega, by simp, ⟨sv, c', by rw [show L.trB v cm (v.hxl + (k : Int)) 0 = [] from rfl, List.append_nil], by rw [show L.trB v cm (v.hxl + (k : Int)) 0 = [] from rfl, List.append_nil]; exact hown⟩, hB⟩
          case round =>
            clear hown hB qB lpr
            obtain ⟨l, hl, rfl, ⟨sv, c', rfl, hown⟩, hB⟩ := hrel
            have qB := hB.size
            have bp := (hB.block p lp2).trans GP2.out
            have cp0 := (blk_cell bp 0).trans rfl; have cp1 := (blk_cell bp 1).trans rfl; have cp2 := (blk_cell bp 2).trans rfl; have cp3 := (blk_cell bp 3).trans rfl; have cp4 := (blk_cell bp 4).trans rfl; have cp5 := (blk_cell bp 5).trans rfl; have cp6 := (blk_cell bp 6).trans rfl
            have lpr : p < wr.heap.size := by omega
            have hl0 : (0 : Int) ≤ (l : Int) := by omega
            have hl9 : (l : Int) ≤ 9 := by omega
            have eb := EB.out
            by_cases hlt3 : l < L.nB v
            · have hlt3' : v.hyl + (l : Int) ≤ v.hyh := by omega
              clear eb
              obtain ⟨outl, hout⟩ : ∃ outl, L.trC v (tc.take i) ++ L.trA v cm k ++ L.trB v cm (v.hxl + (k : Int)) l = outl := ⟨_, rfl⟩
              have hol : outl.length ≤ 200000 := by
                rw [← hout, List.length_append, List.length_append, L.trC_len, L.trA_len, L.trB_len, List.length_take]
                have h1 : min i tc.length * (L.nA v * L.nB v) ≤ 1681 * 81 := Nat.mul_le_mul (by omega) hAB
                have h2 : k * L.nB v ≤ 9 * 9 := Nat.mul_le_mul (by omega) hnB
                omega
              have HOut := hide hout
              obtain ⟨g, cap, e, hbg, hgl⟩ := HC2.out.form (by omega)
              have e' : svc = some ⟨g, 0, none⟩ ∧ cc = cap := by
                simp only [Value.slice.injEq] at e
                exact ⟨e.1, e.2.2⟩
              obtain ⟨rfl, rfl⟩ := e'
              obtain ⟨m0, m1, m2, m3⟩ := flatM_at HCM.out
              have s0 := (hB.cell (p := ⟨g, i * 4, none⟩) hgl).trans ((HC2.out.cellAt (i * 4) (by omega)).trans m0)
              have s1 := (hB.cell (p := ⟨g, i * 4 + 1, none⟩) hgl).trans ((HC2.out.cellAt (i * 4 + 1) (by omega)).trans m1)
              rw [hout] at hown ⊢
              have lgr : g < wr.heap.size := by omega
              clear e m0 m1 m2 m3 bp hout
              go_upto_region 12 with fail
              have hS : (fun w' => Below w2.heap.size w2 w' ∧ p < w'.heap.size ∧ g < w'.heap.size ∧ w'.cell? ⟨g, i * 4, none⟩ = some (.int .i64 cm.x) ∧ w'.cell? ⟨g, i * 4 + 1, none⟩ = some (.int .i64 cm.y)) wr := ⟨hB, lpr, lgr, s0, s1⟩
              have HO1 := hide hown.out
              have q1 := qB
              obtain ⟨W1, hW1⟩ : ∃ W1, wr = W1 := ⟨_, rfl⟩
              rw [hW1] at hS HO1 q1 ⊢
              clear hW1 hown hB qB lpr lgr s0 s1 cp0 cp1 cp2 cp3 cp4 cp5 cp6
              have hkeep : ∀ u u' : World, Below w2.heap.size u u' → (Below w2.heap.size w2 u ∧ p < u.heap.size ∧ g < u.heap.size ∧ u.cell? ⟨g, i * 4, none⟩ = some (.int .i64 cm.x) ∧ u.cell? ⟨g, i * 4 + 1, none⟩ = some (.int .i64 cm.y)) → (Below w2.heap.size w2 u' ∧ p < u'.heap.size ∧ g < u'.heap.size ∧ u'.cell? ⟨g, i * 4, none⟩ = some (.int .i64 cm.x) ∧ u'.cell? ⟨g, i * 4 + 1, none⟩ = some (.int .i64 cm.y)) := by
                rintro u u' hb ⟨hB, l_p, l_g, k0, k1⟩
                exact ⟨hB.trans hb, Nat.lt_of_lt_of_le l_p hb.size, Nat.lt_of_lt_of_le l_g hb.size, (hb.cell (p := ⟨g, i * 4, none⟩) hgl).trans k0, (hb.cell (p := ⟨g, i * 4 + 1, none⟩) hgl).trans k1⟩
              (try dsimp only at hS)
              refine wp_region_held_drew (S := (fun w' => Below w2.heap.size w2 w' ∧ p < w'.heap.size ∧ g < w'.heap.size ∧ w'.cell? ⟨g, i * 4, none⟩ = some (.int .i64 cm.x) ∧ w'.cell? ⟨g, i * 4 + 1, none⟩ = some (.int .i64 cm.y))) (by kernel_rfl) ?_ (fun hHeld0 => ?_)
              · (try dsimp only); first | exact hkeep _ _ hg7 (by assumption) | exact hkeep _ _ (zbA (zbR _ _) (show w2.heap.size ≤ _ by simp; omega) _) (by assumption) | exact hkeep _ _ (zbD (zbR _ _)) hS | (first | (go_keep; done) | (go_split_ands; (repeat' apply And.intro) <;> first | (go_keep; done) | (simp [*, zcA, zcP, zfA, zfP]; done) | (simp [zcA, zcP] <;> rfl) | (simp [*, zsS, zsO, zsA]; done) | ((first | refine (hc _ _ ?_).trans ?_ | refine (hf _ _ ?_).trans ?_) <;> first | assumption | (simp; done) | (simp; omega) | omega | (go_keep; done) | (simp [*, zcA, zcP, zfA, zfP]; done) | (simp [zcA, zcP]; rfl)) | (repeat' first | exact zbR _ _ | assumption | refine zbD ?_ | refine zbA ?_ ?_ _ | refine zbS ?_ ?_ _ | refine zbT ?_ (by assumption) ?_ | (simp; done) | (simp; omega) | omega)))
              refine tL (v := ?_) 0 rfl (by kernel_rfl) (fun _ _ _ h => h) (Or.inl ⟨by rfl, ?_⟩) (by assumption) ?_; rotate_left
              · (intro w hSw; (try dsimp only at hSw); go_simp; try with_reducible rfl)
              try simp only [Act.put, zl, z0, z1]
              refine tL (v := ?_) 1 rfl (by kernel_rfl) (fun _ _ _ h => h) (Or.inl ⟨by rfl, ?_⟩) (by assumption) ?_; rotate_left
              · (intro w hSw; (try dsimp only at hSw); go_simp; try with_reducible rfl)
              try simp only [Act.put, zl, z0, z1]
              refine tL (v := ?_) 2 rfl (by kernel_rfl) (fun _ _ _ h => h) (Or.inl ⟨by rfl, ?_⟩) (by assumption) ?_; rotate_left
              · (intro w hSw; (try dsimp only at hSw); go_simp; try with_reducible rfl)
              try simp only [Act.put, zl, z0, z1]
              refine tL (v := ?_) 3 rfl (by kernel_rfl) (fun _ _ _ h => h) (Or.inl ⟨by rfl, ?_⟩) (by assumption) ?_; rotate_left
              · (intro w hSw; (try dsimp only at hSw); go_simp; try with_reducible rfl)
              try simp only [Act.put, zl, z0, z1]
              refine tL (v := ?_) 4 rfl (by kernel_rfl) (fun _ _ _ h => h) (Or.inl ⟨by rfl, ?_⟩) (by assumption) ?_; rotate_left
              · (intro w hSw; (try dsimp only at hSw); go_simp; try with_reducible rfl)
              try simp only [Act.put, zl, z0, z1]
              refine tL (v := ?_) 5 rfl (by kernel_rfl) (fun _ _ _ h => h) (Or.inl ⟨by rfl, ?_⟩) (by assumption) ?_; rotate_left
              · (intro w hSw; (try dsimp only at hSw); go_simp; try with_reducible rfl)
              try simp only [Act.put, zl, z0, z1]
              refine tL (v := ?_) 6 rfl (by kernel_rfl) (fun _ _ _ h => h) (Or.inl ⟨by rfl, ?_⟩) (by assumption) ?_; rotate_left
              · (intro w hSw; (try dsimp only at hSw); go_simp; try with_reducible rfl)
              try simp only [Act.put, zl, z0, z1]
              refine tL (v := ?_) 7 rfl (by kernel_rfl) (fun _ _ _ h => h) (Or.inl ⟨by rfl, ?_⟩) (by assumption) ?_; rotate_left
              · (intro w hSw; (try dsimp only at hSw); go_simp; try with_reducible rfl)
              try simp only [Act.put, zl, z0, z1]
              refine tL (v := ?_) 8 rfl (by kernel_rfl) (fun _ _ _ h => h) (Or.inl ⟨by rfl, ?_⟩) (by assumption) ?_; rotate_left
              · (intro w hSw; (try dsimp only at hSw); go_simp; try with_reducible rfl)
              try simp only [Act.put, zl, z0, z1]
              refine tL (v := ?_) 9 rfl (by kernel_rfl) (fun _ _ _ h => h) (Or.inl ⟨by rfl, ?_⟩) (by assumption) ?_; rotate_left
              · (intro w hSw; (try dsimp only at hSw); go_simp; try with_reducible rfl)
              try simp only [Act.put, zl, z0, z1]
              refine tL (v := ?_) 10 rfl (by kernel_rfl) (fun _ _ _ h => h) (Or.inl ⟨by rfl, ?_⟩) (by assumption) ?_; rotate_left
              · (intro w hSw; (try dsimp only at hSw); go_simp; try with_reducible rfl)
              try simp only [Act.put, zl, z0, z1]
              refine tL (v := ?_) 11 rfl (by kernel_rfl) (fun _ _ _ h => h) (Or.inl ⟨by rfl, ?_⟩) (by assumption) ?_; rotate_left
              · (intro w hSw; (try dsimp only at hSw); go_simp; try with_reducible rfl)
              try simp only [Act.put, zl, z0, z1]
              refine tL (v := ?_) 12 rfl (by kernel_rfl) (fun _ _ _ h => h) (Or.inl ⟨by rfl, ?_⟩) (by assumption) ?_; rotate_left
              · (intro w hSw; (try dsimp only at hSw); go_simp; try with_reducible rfl)
              try simp only [Act.put, zl, z0, z1]
              refine tL (v := ?_) 13 rfl (by kernel_rfl) (fun _ _ _ h => h) (Or.inl ⟨by rfl, ?_⟩) (by assumption) ?_; rotate_left
              · (intro w hSw; (try dsimp only at hSw); go_simp; try with_reducible rfl)
              try simp only [Act.put, zl, z0, z1]
              refine wpAnyH_ready (rs := [14]) (by kernel_rfl) (by simp) ?_
              refine consL 14 rfl (fun K hK => ?_) AllReadyH.nil
              go_simp
              refine hK.out _ _ ?_ (fun hHeld1 => ?_)
              · (try dsimp only); first | exact hkeep _ _ hg7 (by assumption) | exact hkeep _ _ (zbA (zbR _ _) (show w2.heap.size ≤ _ by simp; omega) _) (by assumption) | exact hkeep _ _ (zbD (zbR _ _)) hS | (first | (go_keep; done) | (go_split_ands; (repeat' apply And.intro) <;> first | (go_keep; done) | (simp [*, zcA, zcP, zfA, zfP]; done) | (simp [zcA, zcP] <;> rfl) | (simp [*, zsS, zsO, zsA]; done) | ((first | refine (hc _ _ ?_).trans ?_ | refine (hf _ _ ?_).trans ?_) <;> first | assumption | (simp; done) | (simp; omega) | omega | (go_keep; done) | (simp [*, zcA, zcP, zfA, zfP]; done) | (simp [zcA, zcP]; rfl)) | (repeat' first | exact zbR _ _ | assumption | refine zbD ?_ | refine zbA ?_ ?_ _ | refine zbS ?_ ?_ _ | refine zbT ?_ (by assumption) ?_ | (simp; done) | (simp; omega) | omega)))
              clear hK K hHeld0
              try simp only [Act.put, zl, z0, z1]
              refine wpAnyH_ready (rs := [15]) (by kernel_rfl) (by simp) ?_
              refine consL 15 rfl (fun K hK => ?_) AllReadyH.nil
              (refine step_app_marks rfl (.tmp 36) (.tmp 50) rfl w2.heap.size _ outl _ rfl (HO1.out.drew.alloc _) (some ⟨_, 0, none⟩) 1 1 [⟨cm.x, cm.y, v.hxl + (k : Int), v.hyl + (l : Int)⟩] rfl rfl (rdM_one (World.alloc_heap_new _ _)) (fun e => by cases e) (by omega) (by omega) (by simp; omega) _ rfl ?_; intro A2 c2 w7 hown2 hgrow; have hg7 := grown_below (B := w2.heap.size) hgrow (by simp; omega) (fun g hg => (HO1.out.lt g hg).1); have HO2 := hide hown2; clear hown2 hgrow)
              refine hK.out _ _ ?_ (fun hHeld2 => ?_)
              · (try dsimp only); first | exact hkeep _ _ hg7 (by assumption) | exact hkeep _ _ (zbA (zbR _ _) (show w2.heap.size ≤ _ by simp; omega) _) (by assumption) | exact hkeep _ _ (zbD (zbR _ _)) hS | (first | (go_keep; done) | (go_split_ands; (repeat' apply And.intro) <;> first | (go_keep; done) | (simp [*, zcA, zcP, zfA, zfP]; done) | (simp [zcA, zcP] <;> rfl) | (simp [*, zsS, zsO, zsA]; done) | ((first | refine (hc _ _ ?_).trans ?_ | refine (hf _ _ ?_).trans ?_) <;> first | assumption | (simp; done) | (simp; omega) | omega | (go_keep; done) | (simp [*, zcA, zcP, zfA, zfP]; done) | (simp [zcA, zcP]; rfl)) | (repeat' first | exact zbR _ _ | assumption | refine zbD ?_ | refine zbA ?_ ?_ _ | refine zbS ?_ ?_ _ | refine zbT ?_ (by assumption) ?_ | (simp; done) | (simp; omega) | omega)))
              clear hK K hHeld1
              try simp only [Act.put, zl, z0, z1]
              refine tL (v := ?_) 16 rfl (by kernel_rfl) (fun _ _ _ h => h) (Or.inl ⟨by rfl, ?_⟩) (by assumption) ?_; rotate_left
              · (intro w hSw; (try dsimp only at hSw); go_simp; try with_reducible rfl)
              try simp only [Act.put, zl, z0, z1]
              refine wpAnyH_done (by kernel_rfl) ?_ _
              all_goals
                have HB7 := hide (show Below w2.heap.size w2 w7 by go_split_ands; assumption)
                have HE := hide (show L.trC v (tc.take i) ++ L.trA v cm k ++ L.trB v cm (v.hxl + (k : Int)) (l + 1) = outl ++ [⟨cm.x, cm.y, v.hxl + (k : Int), v.hyl + (l : Int)⟩] by rw [L.trB_next, ← List.append_assoc, HOut.out])
                have HL := hide (show (L.trC v (tc.take i) ++ L.trA v cm k ++ L.trB v cm (v.hxl + (k : Int)) (l + 1)).length = outl.length + 1 by rw [HE.out, List.length_append]; rfl)
                clear hkeep hS HOut
                go_wp2_with fail
                go_roundw
                case rel => exact ⟨l + 1, by omega, by go_num, ⟨A2, c2, by rw [HL.out], hide (by rw [HL.out, HE.out]; exact HO2.out)⟩, HB7.out⟩
                case measure => simp [intOf]; omega
            · have hln : l = L.nB v := by omega
              subst hln
              have hgt : v.hyh < v.hyl + (L.nB v : Int) := by omega
              clear eb bp
              have HE := hide (show L.trC v (tc.take i) ++ L.trA v cm (k + 1) = L.trC v (tc.take i) ++ L.trA v cm k ++ L.trB v cm (v.hxl + (k : Int)) (L.nB v) by rw [L.trA_next, List.append_assoc])
              go_wp2_with fail
              go_roundw
              case rel => exact ⟨k + 1, by omega, by go_num, ⟨sv, c', by rw [HE.out], hide (by rw [HE.out]; exact hown.out)⟩, hB⟩
              case measure => simp [intOf]; omega
        · have hkn : k = L.nA v := by omega
          subst hkn
          have hgt : v.hxh < v.hxl + (L.nA v : Int) := by omega
          clear ea
          have HE := hide (L.trC_next v HCM.out)
          go_wp2_with fail
          go_roundw
          case rel => exact ⟨i + 1, by omega, by go_num, ⟨sv, c', by rw [HE.out], hide (by rw [HE.out]; exact hown.out)⟩, hB⟩
          case measure => simp [intOf]; omega
    · have hin : i = tc.length := by omega
      subst hin
      have HE := hide (show L.trC v (tc.take tc.length) = L.truths v by rw [List.take_of_length_le (Nat.le_refl _)]; exact HTr.out)
      go_wp2_with fail
      go_ret
      refine ⟨sv, c', ?_, ?_, ?_⟩
      · rw [← HE.out]; rfl
      · rw [← HE.out]; exact owns_mono hown.out GB2.out.size
      · exact GB2.out.trans (hB.mono GB2.out.size)

end Go.Proofs.Ytgnobonhohfofaa

namespace Go.Proofs.Ytgnobonhohfofaa
open Go.RowKit
attribute [local go_sem ↓] Go.wp_at_zero Go.wp_at_succ

theorem ret_int {k : IntKind} {a b : Int} (h : a = b) : Ending.returned (.int k a) = .returned (.int k b) := by rw [h]
theorem refFar_any (n lo hi : Int) (w : World) (h0 : 0 ≤ n) (h1 : n ≤ 40) (h2 : 0 ≤ lo) (h3 : lo ≤ 40) (h4 : 0 ≤ hi) (h5 : hi ≤ 40) :
    Calls Try.prog 56 #[.int .i64 n, .int .i64 lo, .int .i64 hi] w fun e w' => e = .returned (.int .i64 (L.far n lo hi)) ∧ w' = w := by
  go_enter Try.func56, Try.ntmps56
  go_wp2
  all_goals
    go_ret
    exact ⟨ret_int (by unfold L.far; (try simp only [Array.getD_eq_getD_getElem?]); omega), rfl⟩

set_option maxHeartbeats 1600000 in
theorem refTouch_any (m : L.Mk) (b : L.Bx) (w : World) (hb : L.BxOk b) (hm : L.MkOk m) :
    Calls Try.prog 21 #[.agg #[.int .i64 m.x, .int .i64 m.y, .int .i64 m.hx, .int .i64 m.hy], .agg #[.int .i64 b.l, .int .i64 b.r, .int .i64 b.b, .int .i64 b.t]] w fun e w' => e = .returned (.bool (L.touch m b)) ∧ Below w.heap.size w w' := by
  obtain ⟨l0, lr, r1, b0, bt, t1⟩ := hb
  obtain ⟨x0, x1, y0, y1, p0, p1, q0, q1⟩ := hm
  obtain ⟨r0, r2⟩ := L.far_bd (d := L.far m.x b.l b.r) rfl x0 x1 l0 lr r1
  obtain ⟨s0, s1⟩ := L.far_bd (d := L.far m.y b.b b.t) rfl y0 y1 b0 bt t1
  obtain ⟨a1, a2⟩ : 0 ≤ (L.far m.x b.l b.r) * (L.far m.x b.l b.r) ∧ (L.far m.x b.l b.r) * (L.far m.x b.l b.r) ≤ 1600 := L.mul_in r0 r2 r0 r2
  obtain ⟨a3, a4⟩ : 0 ≤ (L.far m.x b.l b.r) * (L.far m.x b.l b.r) * m.hy ∧ (L.far m.x b.l b.r) * (L.far m.x b.l b.r) * m.hy ≤ 14400 := L.mul_in a1 a2 (by omega) q1
  obtain ⟨a5, a6⟩ : 0 ≤ (L.far m.x b.l b.r) * (L.far m.x b.l b.r) * m.hy * m.hy ∧ (L.far m.x b.l b.r) * (L.far m.x b.l b.r) * m.hy * m.hy ≤ 129600 := L.mul_in a3 a4 (by omega) q1
  obtain ⟨c1, c2⟩ : 0 ≤ (L.far m.y b.b b.t) * (L.far m.y b.b b.t) ∧ (L.far m.y b.b b.t) * (L.far m.y b.b b.t) ≤ 1600 := L.mul_in s0 s1 s0 s1
  obtain ⟨c3, c4⟩ : 0 ≤ (L.far m.y b.b b.t) * (L.far m.y b.b b.t) * m.hx ∧ (L.far m.y b.b b.t) * (L.far m.y b.b b.t) * m.hx ≤ 14400 := L.mul_in c1 c2 (by omega) p1
  obtain ⟨c5, c6⟩ : 0 ≤ (L.far m.y b.b b.t) * (L.far m.y b.b b.t) * m.hx * m.hx ∧ (L.far m.y b.b b.t) * (L.far m.y b.b b.t) * m.hx * m.hx ≤ 129600 := L.mul_in c3 c4 (by omega) p1
  obtain ⟨e1, e2⟩ : 0 ≤ m.hx * m.hx ∧ m.hx * m.hx ≤ 81 := L.mul_in (by omega) p1 (by omega) p1
  obtain ⟨e3, e4⟩ : 0 ≤ m.hx * m.hx * m.hy ∧ m.hx * m.hx * m.hy ≤ 729 := L.mul_in e1 e2 (by omega) q1
  obtain ⟨e5, e6⟩ : 0 ≤ m.hx * m.hx * m.hy * m.hy ∧ m.hx * m.hx * m.hy * m.hy ≤ 6561 := L.mul_in e3 e4 (by omega) q1
  have HE := hide (show L.touch m b = decide ((L.far m.x b.l b.r) * (L.far m.x b.l b.r) * m.hy * m.hy + (L.far m.y b.b b.t) * (L.far m.y b.b b.t) * m.hx * m.hx ≤ m.hx * m.hx * m.hy * m.hy) by unfold L.touch; rw [L.sq_mul, L.sq_mul (L.far m.y b.b b.t), L.sq_mul m.hx, Int.mul_assoc ((L.far m.x b.l b.r) * (L.far m.x b.l b.r)), Int.mul_assoc ((L.far m.y b.b b.t) * (L.far m.y b.b b.t)), Int.mul_assoc (m.hx * m.hx)])
  go_enter Try.func21, Try.ntmps21
  go_upto_region 1 with fail
  go_quiet ((go_at_call 56; exact Calls.quiet_of_same (refFar_any _ _ _ _ (by omega) (by omega) (by omega) (by omega) (by omega) (by omega))))
  all_goals
    go_wp2
    go_ret
    exact ⟨by rw [HE.out]; rfl, below_drewN (by (repeat' first | exact zbR _ _ | assumption | refine zbD ?_ | refine zbA ?_ ?_ _ | refine zbS ?_ ?_ _ | refine zbT ?_ (by assumption) ?_ | (simp; done) | (simp; omega) | omega)) _⟩

end Go.Proofs.Ytgnobonhohfofaa

namespace Go.Proofs.Ytgnobonhohfofaa
open Go.RowKit
attribute [local go_sem ↓] Go.wp_at_zero Go.wp_at_succ

def L.isMarkB (v : L.Vw) (m : L.Mk) : Bool := L.markB m v.size v.hxl v.hxh v.hyl v.hyh
def L.truthB (v : L.Vw) (m : L.Mk) : Bool := L.isMarkB v m && decide (((L.wrongL v m.x m.y).length : Int) ≤ v.wrong)
theorem L.isMark_bd {v : L.Vw} (hv : L.VwOk v) {m : L.Mk} (h : L.isMarkB v m = true) : L.MkOk m ∧ m.x ≤ v.size ∧ m.y ≤ v.size := by
  unfold L.isMarkB L.markB L.within at h
  simp only [Bool.and_eq_true, decide_eq_true_eq] at h
  obtain ⟨⟨⟨⟨a, b⟩, c, d⟩, e, f⟩, g, i⟩ := h
  have := hv.s1; have := hv.x0; have := hv.x1; have := hv.y0; have := hv.y1; have := hv.xx; have := hv.yy
  exact ⟨⟨a, by omega, c, by omega, by omega, by omega, by omega, by omega⟩, b, d⟩

set_option maxRecDepth 100000 in
set_option maxHeartbeats 3200000 in
theorem isTruth_any (v : L.Vw) (A : Option Addr) (n c : Nat) (m : L.Mk) (w : World) (hv : L.VwOk v) (hn : v.ss.length = n) (hr : RdS w w.heap.size A v.ss) :
    Calls Try.prog 18 #[.agg #[.int .i64 v.size, .slice A n c, .int .i64 v.wrong, .int .i64 v.hxl, .int .i64 v.hxh, .int .i64 v.hyl, .int .i64 v.hyh], .agg #[.int .i64 m.x, .int .i64 m.y, .int .i64 m.hx, .int .i64 m.hy]] w fun e w' => e = .returned (.bool (L.truthB v m)) ∧ Below w.heap.size w w' := by
  have HN := hide hn
  have HR := hide hr
  have HV := hide hv
  clear hn hr hv
  cases hm : L.isMarkB v m
  · have HE := hide (show L.truthB v m = false by unfold L.truthB; rw [hm]; rfl)
    have HM := hide (show L.markB m v.size v.hxl v.hxh v.hyl v.hyh = false from hm)
    clear hm
    go_enter Try.func18, Try.ntmps18
    go_upto_region 1 with fail
    obtain ⟨W0, hW0⟩ : ∃ W0, (w.alloc (.cells #[.int .i64 v.size, .slice A n c, .int .i64 v.wrong, .int .i64 v.hxl, .int .i64 v.hxh, .int .i64 v.hyl, .int .i64 v.hyh] 26)).alloc (.cells #[.int .i64 m.x, .int .i64 m.y, .int .i64 m.hx, .int .i64 m.hy] 30) = W0 := ⟨_, rfl⟩
    rw [hW0]
    obtain ⟨p, hp⟩ : ∃ p, w.heap.size = p := ⟨_, rfl⟩
    obtain ⟨q, hq⟩ : ∃ q, w.heap.size + 1 = q := ⟨_, rfl⟩
    have hS : (fun w' => Below W0.heap.size W0 w' ∧ p < w'.heap.size ∧ q < w'.heap.size ∧ w'.cell? ⟨p, 0, none⟩ = some (.int .i64 v.size) ∧ w'.cell? ⟨p, 1, none⟩ = some (.slice A n c) ∧ w'.cell? ⟨p, 2, none⟩ = some (.int .i64 v.wrong) ∧ w'.cell? ⟨p, 3, none⟩ = some (.int .i64 v.hxl) ∧ w'.cell? ⟨p, 4, none⟩ = some (.int .i64 v.hxh) ∧ w'.cell? ⟨p, 5, none⟩ = some (.int .i64 v.hyl) ∧ w'.cell? ⟨p, 6, none⟩ = some (.int .i64 v.hyh) ∧ w'.cell? ⟨q, 0, none⟩ = some (.int .i64 m.x) ∧ w'.cell? ⟨q, 1, none⟩ = some (.int .i64 m.y) ∧ w'.cell? ⟨q, 2, none⟩ = some (.int .i64 m.hx) ∧ w'.cell? ⟨q, 3, none⟩ = some (.int .i64 m.hy)) W0 := by
      rw [← hW0, ← hp, ← hq]
      refine ⟨Below.refl _ _, (by first | (simp; done) | (simp; omega) | omega), (by first | (simp; done) | (simp; omega) | omega), (zcP _ _ _ (by first | (simp; done) | (simp; omega) | omega)).trans (zcA _ _ _ _ rfl), (zcP _ _ _ (by first | (simp; done) | (simp; omega) | omega)).trans (zcA _ _ _ _ rfl), (zcP _ _ _ (by first | (simp; done) | (simp; omega) | omega)).trans (zcA _ _ _ _ rfl), (zcP _ _ _ (by first | (simp; done) | (simp; omega) | omega)).trans (zcA _ _ _ _ rfl), (zcP _ _ _ (by first | (simp; done) | (simp; omega) | omega)).trans (zcA _ _ _ _ rfl), (zcP _ _ _ (by first | (simp; done) | (simp; omega) | omega)).trans (zcA _ _ _ _ rfl), (zcP _ _ _ (by first | (simp; done) | (simp; omega) | omega)).trans (zcA _ _ _ _ rfl), zcA _ _ _ _ (by simp), zcA _ _ _ _ (by simp), zcA _ _ _ _ (by simp), zcA _ _ _ _ (by simp)⟩
    have hs0 : W0.heap.size = w.heap.size + 1 + 1 := by rw [← hW0]; simp
    have hb0 : Below w.heap.size w W0 := by rw [← hW0]; (repeat' first | exact zbR _ _ | assumption | refine zbD ?_ | refine zbA ?_ ?_ _ | refine zbS ?_ ?_ _ | refine zbT ?_ (by assumption) ?_ | (simp; done) | (simp; omega) | omega)
    rw [hq, hp]
    have hq' : q = p + 1 := by omega
    have HP := hide hp
    have HB0 := hide hb0
    have HS0 := hide hs0
    have HQ := hide hq'
    clear hW0 hp hq hb0 hs0 hq'
    have hkeep : ∀ u u' : World, Below u.heap.size u u' → (Below W0.heap.size W0 u ∧ p < u.heap.size ∧ q < u.heap.size ∧ u.cell? ⟨p, 0, none⟩ = some (.int .i64 v.size) ∧ u.cell? ⟨p, 1, none⟩ = some (.slice A n c) ∧ u.cell? ⟨p, 2, none⟩ = some (.int .i64 v.wrong) ∧ u.cell? ⟨p, 3, none⟩ = some (.int .i64 v.hxl) ∧ u.cell? ⟨p, 4, none⟩ = some (.int .i64 v.hxh) ∧ u.cell? ⟨p, 5, none⟩ = some (.int .i64 v.hyl) ∧ u.cell? ⟨p, 6, none⟩ = some (.int .i64 v.hyh) ∧ u.cell? ⟨q, 0, none⟩ = some (.int .i64 m.x) ∧ u.cell? ⟨q, 1, none⟩ = some (.int .i64 m.y) ∧ u.cell? ⟨q, 2, none⟩ = some (.int .i64 m.hx) ∧ u.cell? ⟨q, 3, none⟩ = some (.int .i64 m.hy)) → (Below W0.heap.size W0 u' ∧ p < u'.heap.size ∧ q < u'.heap.size ∧ u'.cell? ⟨p, 0, none⟩ = some (.int .i64 v.size) ∧ u'.cell? ⟨p, 1, none⟩ = some (.slice A n c) ∧ u'.cell? ⟨p, 2, none⟩ = some (.int .i64 v.wrong) ∧ u'.cell? ⟨p, 3, none⟩ = some (.int .i64 v.hxl) ∧ u'.cell? ⟨p, 4, none⟩ = some (.int .i64 v.hxh) ∧ u'.cell? ⟨p, 5, none⟩ = some (.int .i64 v.hyl) ∧ u'.cell? ⟨p, 6, none⟩ = some (.int .i64 v.hyh) ∧ u'.cell? ⟨q, 0, none⟩ = some (.int .i64 m.x) ∧ u'.cell? ⟨q, 1, none⟩ = some (.int .i64 m.y) ∧ u'.cell? ⟨q, 2, none⟩ = some (.int .i64 m.hx) ∧ u'.cell? ⟨q, 3, none⟩ = some (.int .i64 m.hy)) := by
      rintro u u' hb ⟨hB, l_p, l_q, k0, k1, k2, k3, k4, k5, k6, k7, k8, k9, k10⟩
      exact ⟨hB.trans (hb.mono hB.size), Nat.lt_of_lt_of_le l_p hb.size, Nat.lt_of_lt_of_le l_q hb.size, (hb.cell (p := ⟨p, 0, none⟩) l_p).trans k0, (hb.cell (p := ⟨p, 1, none⟩) l_p).trans k1, (hb.cell (p := ⟨p, 2, none⟩) l_p).trans k2, (hb.cell (p := ⟨p, 3, none⟩) l_p).trans k3, (hb.cell (p := ⟨p, 4, none⟩) l_p).trans k4, (hb.cell (p := ⟨p, 5, none⟩) l_p).trans k5, (hb.cell (p := ⟨p, 6, none⟩) l_p).trans k6, (hb.cell (p := ⟨q, 0, none⟩) l_q).trans k7, (hb.cell (p := ⟨q, 1, none⟩) l_q).trans k8, (hb.cell (p := ⟨q, 2, none⟩) l_q).trans k9, (hb.cell (p := ⟨q, 3, none⟩) l_q).trans k10⟩
    dsimp only at hS
    refine wp_region_held_drew (S := (fun w' => Below W0.heap.size W0 w' ∧ p < w'.heap.size ∧ q < w'.heap.size ∧ w'.cell? ⟨p, 0, none⟩ = some (.int .i64 v.size) ∧ w'.cell? ⟨p, 1, none⟩ = some (.slice A n c) ∧ w'.cell? ⟨p, 2, none⟩ = some (.int .i64 v.wrong) ∧ w'.cell? ⟨p, 3, none⟩ = some (.int .i64 v.hxl) ∧ w'.cell? ⟨p, 4, none⟩ = some (.int .i64 v.hxh) ∧ w'.cell? ⟨p, 5, none⟩ = some (.int .i64 v.hyl) ∧ w'.cell? ⟨p, 6, none⟩ = some (.int .i64 v.hyh) ∧ w'.cell? ⟨q, 0, none⟩ = some (.int .i64 m.x) ∧ w'.cell? ⟨q, 1, none⟩ = some (.int .i64 m.y) ∧ w'.cell? ⟨q, 2, none⟩ = some (.int .i64 m.hx) ∧ w'.cell? ⟨q, 3, none⟩ = some (.int .i64 m.hy))) (by kernel_rfl) ?_ (fun hHeld0 => ?_)
    · (try dsimp only); (first | (go_keep; done) | (go_split_ands; (repeat' apply And.intro) <;> first | (go_keep; done) | (simp [*, zcA, zcP, zfA, zfP]; done) | (simp [zcA, zcP] <;> rfl) | (simp [*, zsS, zsO, zsA]; done) | ((first | refine (hc _ _ ?_).trans ?_ | refine (hf _ _ ?_).trans ?_) <;> first | assumption | (simp; done) | (simp; omega) | omega | (go_keep; done) | (simp [*, zcA, zcP, zfA, zfP]; done) | (simp [zcA, zcP]; rfl)) | (repeat' first | exact zbR _ _ | assumption | refine zbD ?_ | refine zbA ?_ ?_ _ | refine zbS ?_ ?_ _ | refine zbT ?_ (by assumption) ?_ | (simp; done) | (simp; omega) | omega)))
    refine tL (v := ?_) 0 rfl (by kernel_rfl) (fun _ _ _ h => h) (Or.inl ⟨by rfl, ?_⟩) (by assumption) ?_; rotate_left
    · (intro w hSw; (try dsimp only at hSw); go_simp; try with_reducible rfl)
    try simp only [Act.put, zl, z0, z1]
    refine tL (v := ?_) 1 rfl (by kernel_rfl) (fun _ _ _ h => h) (Or.inl ⟨by rfl, ?_⟩) (by assumption) ?_; rotate_left
    · (intro w hSw; (try dsimp only at hSw); go_simp; try with_reducible rfl)
    try simp only [Act.put, zl, z0, z1]
    refine wpAnyH_ready (rs := [2]) (by kernel_rfl) (by simp) ?_
    refine consL 2 rfl (fun K hK => ?_) AllReadyH.nil
    go_simp
    (go_at_call 49; refine (isMark_any v A n c m _).mono ?_; rintro e w2 ⟨rfl, hb⟩; rw [HM.out]; have hSn := hkeep _ _ hb (by assumption); (try clear hS); have hS := hSn; clear hSn)
    refine hK.out _ _ ?_ (fun hHeld1 => ?_)
    · (try dsimp only); exact hS
    clear hK K hHeld0
    try simp only [Act.put, zl, z0, z1]
    refine tL (v := ?_) 3 rfl (by kernel_rfl) (fun _ _ _ h => h) (Or.inl ⟨by rfl, ?_⟩) (by assumption) ?_; rotate_left
    · (intro w hSw; (try dsimp only at hSw); go_simp; try with_reducible rfl)
    try simp only [Act.put, zl, z0, z1]
    refine takeL 4 rfl (by kernel_rfl) (by kernel_rfl) (by kernel_rfl) (fun _ _ _ h => h) (Or.inr ⟨by rfl, rfl⟩) (by assumption) ?_
    try simp only [Act.put, zl, z0, z1]
    refine takeL 5 rfl (by kernel_rfl) (by kernel_rfl) (by kernel_rfl) (fun _ _ _ h => h) (Or.inr ⟨by rfl, rfl⟩) (by assumption) ?_
    try simp only [Act.put, zl, z0, z1]
    refine takeL 6 rfl (by kernel_rfl) (by kernel_rfl) (by kernel_rfl) (fun _ _ _ h => h) (Or.inr ⟨by rfl, rfl⟩) (by assumption) ?_
    try simp only [Act.put, zl, z0, z1]
    refine takeL 7 rfl (by kernel_rfl) (by kernel_rfl) (by kernel_rfl) (fun _ _ _ h => h) (Or.inr ⟨by rfl, rfl⟩) (by assumption) ?_
    try simp only [Act.put, zl, z0, z1]
    refine takeL 8 rfl (by kernel_rfl) (by kernel_rfl) (by kernel_rfl) (fun _ _ _ h => h) (Or.inr ⟨by rfl, rfl⟩) (by assumption) ?_
    try simp only [Act.put, zl, z0, z1]
    refine takeL 9 rfl (by kernel_rfl) (by kernel_rfl) (by kernel_rfl) (fun _ _ _ h => h) (Or.inr ⟨by rfl, rfl⟩) (by assumption) ?_
    try simp only [Act.put, zl, z0, z1]
    refine takeL 10 rfl (by kernel_rfl) (by kernel_rfl) (by kernel_rfl) (fun _ _ _ h => h) (Or.inr ⟨by rfl, rfl⟩) (by assumption) ?_
    try simp only [Act.put, zl, z0, z1]
    refine takeL 11 rfl (by kernel_rfl) (by kernel_rfl) (by kernel_rfl) (fun _ _ _ h => h) (Or.inr ⟨by rfl, rfl⟩) (by assumption) ?_
    try simp only [Act.put, zl, z0, z1]
    refine takeL 12 rfl (by kernel_rfl) (by kernel_rfl) (by kernel_rfl) (fun _ _ _ h => h) (Or.inr ⟨by rfl, rfl⟩) (by assumption) ?_
    try simp only [Act.put, zl, z0, z1]
    refine takeL 13 rfl (by kernel_rfl) (by kernel_rfl) (by kernel_rfl) (fun _ _ _ h => h) (Or.inr ⟨by rfl, rfl⟩) (by assumption) ?_
    try simp only [Act.put, zl, z0, z1]
    refine tL (v := ?_) 14 rfl (by kernel_rfl) (fun _ _ _ h => h) (Or.inl ⟨by rfl, ?_⟩) (by assumption) ?_; rotate_left
    · (intro w hSw; (try dsimp only at hSw); go_simp; try with_reducible rfl)
    try simp only [Act.put, zl, z0, z1]
    refine tL (v := ?_) 15 rfl (by kernel_rfl) (fun _ _ _ h => h) (Or.inl ⟨by rfl, ?_⟩) (by assumption) ?_; rotate_left
    · (intro w hSw; (try dsimp only at hSw); go_simp; try with_reducible rfl)
    try simp only [Act.put, zl, z0, z1]
    refine wpAnyH_done (by kernel_rfl) ?_ _
    go_wp2
    go_ret
    exact ⟨by rw [HE.out]; rfl, by (go_split_ands; (have h9 : Below W0.heap.size W0 _ := (by assumption); exact HB0.out.trans (h9.mono (by have := HS0.out; omega))))⟩
  · have HE := hide (show L.truthB v m = decide (((L.wrongL v m.x m.y).length : Int) ≤ v.wrong) by unfold L.truthB; rw [hm]; rfl)
    have HM := hide (show L.markB m v.size v.hxl v.hxh v.hyl v.hyh = true from hm)
    have HB := hide (L.isMark_bd HV.out hm).1
    clear hm
    go_enter Try.func18, Try.ntmps18
    go_upto_region 1 with fail
    obtain ⟨W0, hW0⟩ : ∃ W0, (w.alloc (.cells #[.int .i64 v.size, .slice A n c, .int .i64 v.wrong, .int .i64 v.hxl, .int .i64 v.hxh, .int .i64 v.hyl, .int .i64 v.hyh] 26)).alloc (.cells #[.int .i64 m.x, .int .i64 m.y, .int .i64 m.hx, .int .i64 m.hy] 30) = W0 := ⟨_, rfl⟩
    rw [hW0]
    obtain ⟨p, hp⟩ : ∃ p, w.heap.size = p := ⟨_, rfl⟩
    obtain ⟨q, hq⟩ : ∃ q, w.heap.size + 1 = q := ⟨_, rfl⟩
    have hS : (fun w' => Below W0.heap.size W0 w' ∧ p < w'.heap.size ∧ q < w'.heap.size ∧ w'.cell? ⟨p, 0, none⟩ = some (.int .i64 v.size) ∧ w'.cell? ⟨p, 1, none⟩ = some (.slice A n c) ∧ w'.cell? ⟨p, 2, none⟩ = some (.int .i64 v.wrong) ∧ w'.cell? ⟨p, 3, none⟩ = some (.int .i64 v.hxl) ∧ w'.cell? ⟨p, 4, none⟩ = some (.int .i64 v.hxh) ∧ w'.cell? ⟨p, 5, none⟩ = some (.int .i64 v.hyl) ∧ w'.cell? ⟨p, 6, none⟩ = some (.int .i64 v.hyh) ∧ w'.cell? ⟨q, 0, none⟩ = some (.int .i64 m.x) ∧ w'.cell? ⟨q, 1, none⟩ = some (.int .i64 m.y) ∧ w'.cell? ⟨q, 2, none⟩ = some (.int .i64 m.hx) ∧ w'.cell? ⟨q, 3, none⟩ = some (.int .i64 m.hy)) W0 := by
      rw [← hW0, ← hp, ← hq]
      refine ⟨Below.refl _ _, (by first | (simp; done) | (simp; omega) | omega), (by first | (simp; done) | (simp; omega) | omega), (zcP _ _ _ (by first | (simp; done) | (simp; omega) | omega)).trans (zcA _ _ _ _ rfl), (zcP _ _ _ (by first | (simp; done) | (simp; omega) | omega)).trans (zcA _ _ _ _ rfl), (zcP _ _ _ (by first | (simp; done) | (simp; omega) | omega)).trans (zcA _ _ _ _ rfl), (zcP _ _ _ (by first | (simp; done) | (simp; omega) | omega)).trans (zcA _ _ _ _ rfl), (zcP _ _ _ (by first | (simp; done) | (simp; omega) | omega)).trans (zcA _ _ _ _ rfl), (zcP _ _ _ (by first | (simp; done) | (simp; omega) | omega)).trans (zcA _ _ _ _ rfl), (zcP _ _ _ (by first | (simp; done) | (simp; omega) | omega)).trans (zcA _ _ _ _ rfl), zcA _ _ _ _ (by simp), zcA _ _ _ _ (by simp), zcA _ _ _ _ (by simp), zcA _ _ _ _ (by simp)⟩
    have hs0 : W0.heap.size = w.heap.size + 1 + 1 := by rw [← hW0]; simp
    have hb0 : Below w.heap.size w W0 := by rw [← hW0]; (repeat' first | exact zbR _ _ | assumption | refine zbD ?_ | refine zbA ?_ ?_ _ | refine zbS ?_ ?_ _ | refine zbT ?_ (by assumption) ?_ | (simp; done) | (simp; omega) | omega)
    rw [hq, hp]
    have hq' : q = p + 1 := by omega
    have HP := hide hp
    have HB0 := hide hb0
    have HS0 := hide hs0
    have HQ := hide hq'
    clear hW0 hp hq hb0 hs0 hq'
    have hkeep : ∀ u u' : World, Below u.heap.size u u' → (Below W0.heap.size W0 u ∧ p < u.heap.size ∧ q < u.heap.size ∧ u.cell? ⟨p, 0, none⟩ = some (.int .i64 v.size) ∧ u.cell? ⟨p, 1, none⟩ = some (.slice A n c) ∧ u.cell? ⟨p, 2, none⟩ = some (.int .i64 v.wrong) ∧ u.cell? ⟨p, 3, none⟩ = some (.int .i64 v.hxl) ∧ u.cell? ⟨p, 4, none⟩ = some (.int .i64 v.hxh) ∧ u.cell? ⟨p, 5, none⟩ = some (.int .i64 v.hyl) ∧ u.cell? ⟨p, 6, none⟩ = some (.int .i64 v.hyh) ∧ u.cell? ⟨q, 0, none⟩ = some (.int .i64 m.x) ∧ u.cell? ⟨q, 1, none⟩ = some (.int .i64 m.y) ∧ u.cell? ⟨q, 2, none⟩ = some (.int .i64 m.hx) ∧ u.cell? ⟨q, 3, none⟩ = some (.int .i64 m.hy)) → (Below W0.heap.size W0 u' ∧ p < u'.heap.size ∧ q < u'.heap.size ∧ u'.cell? ⟨p, 0, none⟩ = some (.int .i64 v.size) ∧ u'.cell? ⟨p, 1, none⟩ = some (.slice A n c) ∧ u'.cell? ⟨p, 2, none⟩ = some (.int .i64 v.wrong) ∧ u'.cell? ⟨p, 3, none⟩ = some (.int .i64 v.hxl) ∧ u'.cell? ⟨p, 4, none⟩ = some (.int .i64 v.hxh) ∧ u'.cell? ⟨p, 5, none⟩ = some (.int .i64 v.hyl) ∧ u'.cell? ⟨p, 6, none⟩ = some (.int .i64 v.hyh) ∧ u'.cell? ⟨q, 0, none⟩ = some (.int .i64 m.x) ∧ u'.cell? ⟨q, 1, none⟩ = some (.int .i64 m.y) ∧ u'.cell? ⟨q, 2, none⟩ = some (.int .i64 m.hx) ∧ u'.cell? ⟨q, 3, none⟩ = some (.int .i64 m.hy)) := by
      rintro u u' hb ⟨hB, l_p, l_q, k0, k1, k2, k3, k4, k5, k6, k7, k8, k9, k10⟩
      exact ⟨hB.trans (hb.mono hB.size), Nat.lt_of_lt_of_le l_p hb.size, Nat.lt_of_lt_of_le l_q hb.size, (hb.cell (p := ⟨p, 0, none⟩) l_p).trans k0, (hb.cell (p := ⟨p, 1, none⟩) l_p).trans k1, (hb.cell (p := ⟨p, 2, none⟩) l_p).trans k2, (hb.cell (p := ⟨p, 3, none⟩) l_p).trans k3, (hb.cell (p := ⟨p, 4, none⟩) l_p).trans k4, (hb.cell (p := ⟨p, 5, none⟩) l_p).trans k5, (hb.cell (p := ⟨p, 6, none⟩) l_p).trans k6, (hb.cell (p := ⟨q, 0, none⟩) l_q).trans k7, (hb.cell (p := ⟨q, 1, none⟩) l_q).trans k8, (hb.cell (p := ⟨q, 2, none⟩) l_q).trans k9, (hb.cell (p := ⟨q, 3, none⟩) l_q).trans k10⟩
    dsimp only at hS
    refine wp_region_held_drew (S := (fun w' => Below W0.heap.size W0 w' ∧ p < w'.heap.size ∧ q < w'.heap.size ∧ w'.cell? ⟨p, 0, none⟩ = some (.int .i64 v.size) ∧ w'.cell? ⟨p, 1, none⟩ = some (.slice A n c) ∧ w'.cell? ⟨p, 2, none⟩ = some (.int .i64 v.wrong) ∧ w'.cell? ⟨p, 3, none⟩ = some (.int .i64 v.hxl) ∧ w'.cell? ⟨p, 4, none⟩ = some (.int .i64 v.hxh) ∧ w'.cell? ⟨p, 5, none⟩ = some (.int .i64 v.hyl) ∧ w'.cell? ⟨p, 6, none⟩ = some (.int .i64 v.hyh) ∧ w'.cell? ⟨q, 0, none⟩ = some (.int .i64 m.x) ∧ w'.cell? ⟨q, 1, none⟩ = some (.int .i64 m.y) ∧ w'.cell? ⟨q, 2, none⟩ = some (.int .i64 m.hx) ∧ w'.cell? ⟨q, 3, none⟩ = some (.int .i64 m.hy))) (by kernel_rfl) ?_ (fun hHeld0 => ?_)
    · (try dsimp only); (first | (go_keep; done) | (go_split_ands; (repeat' apply And.intro) <;> first | (go_keep; done) | (simp [*, zcA, zcP, zfA, zfP]; done) | (simp [zcA, zcP] <;> rfl) | (simp [*, zsS, zsO, zsA]; done) | ((first | refine (hc _ _ ?_).trans ?_ | refine (hf _ _ ?_).trans ?_) <;> first | assumption | (simp; done) | (simp; omega) | omega | (go_keep; done) | (simp [*, zcA, zcP, zfA, zfP]; done) | (simp [zcA, zcP]; rfl)) | (repeat' first | exact zbR _ _ | assumption | refine zbD ?_ | refine zbA ?_ ?_ _ | refine zbS ?_ ?_ _ | refine zbT ?_ (by assumption) ?_ | (simp; done) | (simp; omega) | omega)))
    refine tL (v := ?_) 0 rfl (by kernel_rfl) (fun _ _ _ h => h) (Or.inl ⟨by rfl, ?_⟩) (by assumption) ?_; rotate_left
    · (intro w hSw; (try dsimp only at hSw); go_simp; try with_reducible rfl)
    try simp only [Act.put, zl, z0, z1]
    refine tL (v := ?_) 1 rfl (by kernel_rfl) (fun _ _ _ h => h) (Or.inl ⟨by rfl, ?_⟩) (by assumption) ?_; rotate_left
    · (intro w hSw; (try dsimp only at hSw); go_simp; try with_reducible rfl)
    try simp only [Act.put, zl, z0, z1]
    refine wpAnyH_ready (rs := [2]) (by kernel_rfl) (by simp) ?_
    refine consL 2 rfl (fun K hK => ?_) AllReadyH.nil
    go_simp
    (go_at_call 49; refine (isMark_any v A n c m _).mono ?_; rintro e w2 ⟨rfl, hb⟩; rw [HM.out]; have hSn := hkeep _ _ hb (by assumption); (try clear hS); have hS := hSn; clear hSn)
    refine hK.out _ _ ?_ (fun hHeld1 => ?_)
    · (try dsimp only); exact hS
    clear hK K hHeld0
    try simp only [Act.put, zl, z0, z1]
    refine tL (v := ?_) 3 rfl (by kernel_rfl) (fun _ _ _ h => h) (Or.inl ⟨by rfl, ?_⟩) (by assumption) ?_; rotate_left
    · (intro w hSw; (try dsimp only at hSw); go_simp; try with_reducible rfl)
    try simp only [Act.put, zl, z0, z1]
    refine tL (v := ?_) 4 rfl (by kernel_rfl) (fun _ _ _ h => h) (Or.inl ⟨by rfl, ?_⟩) (by assumption) ?_; rotate_left
    · (intro w hSw; (try dsimp only at hSw); go_simp; try with_reducible rfl)
    try simp only [Act.put, zl, z0, z1]
    refine tL (v := ?_) 5 rfl (by kernel_rfl) (fun _ _ _ h => h) (Or.inl ⟨by rfl, ?_⟩) (by assumption) ?_; rotate_left
    · (intro w hSw; (try dsimp only at hSw); go_simp; try with_reducible rfl)
    try simp only [Act.put, zl, z0, z1]
    refine tL (v := ?_) 6 rfl (by kernel_rfl) (fun _ _ _ h => h) (Or.inl ⟨by rfl, ?_⟩) (by assumption) ?_; rotate_left
    · (intro w hSw; (try dsimp only at hSw); go_simp; try with_reducible rfl)
    try simp only [Act.put, zl, z0, z1]
    refine tL (v := ?_) 7 rfl (by kernel_rfl) (fun _ _ _ h => h) (Or.inl ⟨by rfl, ?_⟩) (by assumption) ?_; rotate_left
    · (intro w hSw; (try dsimp only at hSw); go_simp; try with_reducible rfl)
    try simp only [Act.put, zl, z0, z1]
    refine tL (v := ?_) 8 rfl (by kernel_rfl) (fun _ _ _ h => h) (Or.inl ⟨by rfl, ?_⟩) (by assumption) ?_; rotate_left
    · (intro w hSw; (try dsimp only at hSw); go_simp; try with_reducible rfl)
    try simp only [Act.put, zl, z0, z1]
    refine tL (v := ?_) 11 rfl (by kernel_rfl) (fun _ _ _ h => h) (Or.inl ⟨by rfl, ?_⟩) (by assumption) ?_; rotate_left
    · (intro w hSw; (try dsimp only at hSw); go_simp; try with_reducible rfl)
    try simp only [Act.put, zl, z0, z1]
    refine tL (v := ?_) 12 rfl (by kernel_rfl) (fun _ _ _ h => h) (Or.inl ⟨by rfl, ?_⟩) (by assumption) ?_; rotate_left
    · (intro w hSw; (try dsimp only at hSw); go_simp; try with_reducible rfl)
    try simp only [Act.put, zl, z0, z1]
    refine wpAnyH_ready (rs := [9]) (by kernel_rfl) (by simp) ?_
    refine consL 9 rfl (fun K hK => ?_) AllReadyH.nil
    go_simp
    (go_at_call 50; refine (refWrong_any v A n c m.x m.y _ HN.out ((HR.out.below (HB0.out.trans (hS.1.mono (by have := HS0.out; omega)))).mono (by have := hS.1.size; have := HS0.out; omega)) HV.out.ok (by have := HV.out.n8; have := HN.out; omega) HB.out.x0 HB.out.x1 HB.out.y0 HB.out.y1).mono ?_; rintro e w3 ⟨sv, c3, rfl, hown, hb⟩; clear hown; have hSn := hkeep _ _ hb (by assumption); (try clear hS); have hS := hSn; clear hSn)
    refine hK.out _ _ ?_ (fun hHeld2 => ?_)
    · (try dsimp only); exact hS
    clear hK K hHeld1
    try simp only [Act.put, zl, z0, z1]
    refine tL (v := ?_) 10 rfl (by kernel_rfl) (fun _ _ _ h => h) (Or.inl ⟨by rfl, ?_⟩) (by assumption) ?_; rotate_left
    · (intro w hSw; (try dsimp only at hSw); go_simp; try with_reducible rfl)
    try simp only [Act.put, zl, z0, z1]
    refine tL (v := ?_) 13 rfl (by kernel_rfl) (fun _ _ _ h => h) (Or.inl ⟨by rfl, ?_⟩) (by assumption) ?_; rotate_left
    · (intro w hSw; (try dsimp only at hSw); go_simp; try with_reducible rfl)
    try simp only [Act.put, zl, z0, z1]
    refine tL (v := ?_) 14 rfl (by kernel_rfl) (fun _ _ _ h => h) (Or.inl ⟨by rfl, ?_⟩) (by assumption) ?_; rotate_left
    · (intro w hSw; (try dsimp only at hSw); go_simp; try with_reducible rfl)
    try simp only [Act.put, zl, z0, z1]
    refine tL (v := ?_) 15 rfl (by kernel_rfl) (fun _ _ _ h => h) (Or.inl ⟨by rfl, ?_⟩) (by assumption) ?_; rotate_left
    · (intro w hSw; (try dsimp only at hSw); go_simp; try with_reducible rfl)
    try simp only [Act.put, zl, z0, z1]
    refine wpAnyH_done (by kernel_rfl) ?_ _
    go_wp2
    go_ret
    exact ⟨by rw [HE.out]; rfl, by (go_split_ands; (have h9 : Below W0.heap.size W0 _ := (by assumption); exact HB0.out.trans (h9.mono (by have := HS0.out; omega))))⟩

end Go.Proofs.Ytgnobonhohfofaa

namespace Go.Proofs.Ytgnobonhohfofaa
open Go.RowKit
attribute [local go_sem ↓] Go.wp_at_zero Go.wp_at_succ

namespace L
def touE (m : Mk) (b : Bx) : Int := if boxB b then (if markB m 40 1 9 1 9 then 0 else 22) else 21
def touV (m : Mk) (b : Bx) : Bool := boxB b && (markB m 40 1 9 1 9 && touch m b)
theorem markB_ok {m : Mk} (h : markB m 40 1 9 1 9 = true) : MkOk m := by
  unfold markB within at h
  simp only [Bool.and_eq_true, decide_eq_true_eq] at h
  obtain ⟨⟨⟨⟨a, b⟩, c, d⟩, e, f⟩, g, i⟩ := h
  exact ⟨a, b, c, d, e, f, g, i⟩
def showE (v : Vw) (b : Bx) (call : Int) : Int := if checkBE v b = 0 then (if sure call then (if (findC v b 0 call).isSome then 0 else 3) else 22) else checkBE v b
def showM (v : Vw) (b : Bx) (call : Int) : Mk := if checkBE v b = 0 then (if sure call then foundM v b 0 call else ⟨0, 0, 0, 0⟩) else ⟨0, 0, 0, 0⟩
theorem found_none {v : Vw} {b : Bx} {k call : Int} (h : (findC v b k call).isSome = false) : foundM v b k call = ⟨0, 0, 0, 0⟩ := by
  unfold foundM
  cases hf : findC v b k call
  · rfl
  · rw [hf] at h; cases h
end L

set_option maxRecDepth 100000 in
set_option maxHeartbeats 800000 in
theorem Touches_any (m : L.Mk) (b : L.Bx) (w : World) :
    Calls Try.prog 19 #[.agg #[.int .i64 m.x, .int .i64 m.y, .int .i64 m.hx, .int .i64 m.hy], .agg #[.int .i64 b.l, .int .i64 b.r, .int .i64 b.b, .int .i64 b.t]] w fun e w' => e = .returned (.tuple #[.bool (L.touV m b), .int .i64 (L.touE m b)]) ∧ Below w.heap.size w w' := by
  cases hb : L.boxB b
  · have E1 := hide (show L.touV m b = false by unfold L.touV; rw [hb]; rfl)
    have E2 := hide (show L.touE m b = 21 by unfold L.touE; rw [hb]; rfl)
    have HB := hide hb
    clear hb
    go_enter Try.func19, Try.ntmps19
    go_wp2_with (go_at_call 51; refine (validBox_any b _).mono ?_; rintro e w2 ⟨rfl, hb2⟩; rw [HB.out]; obtain ⟨hc2, hf2⟩ := bcell hb2; have q2 := hb2.size; (try simp only [World.size_alloc] at q2); have z2_0 : w.heap.size < w2.heap.size := (by omega); have z2_1 : w.heap.size + 1 < w2.heap.size := (by omega))
    go_ret2
    exact ⟨by rw [E1.out, E2.out]; rfl, by (repeat' first | exact zbR _ _ | assumption | refine zbD ?_ | refine zbA ?_ ?_ _ | refine zbS ?_ ?_ _ | refine zbT ?_ (by assumption) ?_ | (simp; done) | (simp; omega) | omega)⟩
  cases hm : L.markB m 40 1 9 1 9
  · have E1 := hide (show L.touV m b = false by unfold L.touV; rw [hb, hm]; rfl)
    have E2 := hide (show L.touE m b = 22 by unfold L.touE; rw [hb, hm]; rfl)
    have HB := hide hb
    have HM := hide hm
    clear hb hm
    go_enter Try.func19, Try.ntmps19
    go_wp2_with (first | (go_at_call 51; refine (validBox_any b _).mono ?_; rintro e w2 ⟨rfl, hb2⟩; rw [HB.out]; obtain ⟨hc2, hf2⟩ := bcell hb2; have q2 := hb2.size; (try simp only [World.size_alloc] at q2); have z2_0 : w.heap.size < w2.heap.size := (by omega); have z2_1 : w.heap.size + 1 < w2.heap.size := (by omega)) | (go_at_call 52; refine (markWithin_any m 40 1 9 1 9 _).mono ?_; rintro e w3 ⟨rfl, hb3⟩; rw [HM.out]; obtain ⟨hc3, hf3⟩ := bcell hb3; have q3 := hb3.size; (try simp only [World.size_alloc] at q3); have z3_0 : w.heap.size < w3.heap.size := (by omega); have z3_1 : w.heap.size + 1 < w3.heap.size := (by omega)))
    go_ret2
    exact ⟨by rw [E1.out, E2.out]; rfl, by (repeat' first | exact zbR _ _ | assumption | refine zbD ?_ | refine zbA ?_ ?_ _ | refine zbS ?_ ?_ _ | refine zbT ?_ (by assumption) ?_ | (simp; done) | (simp; omega) | omega)⟩
  · have E1 := hide (show L.touV m b = L.touch m b by unfold L.touV; rw [hb, hm]; rfl)
    have E2 := hide (show L.touE m b = 0 by unfold L.touE; rw [hb, hm]; rfl)
    have HB := hide hb
    have HM := hide hm
    clear hb hm
    go_enter Try.func19, Try.ntmps19
    go_wp2_with (first | (go_at_call 51; refine (validBox_any b _).mono ?_; rintro e w2 ⟨rfl, hb2⟩; rw [HB.out]; obtain ⟨hc2, hf2⟩ := bcell hb2; have q2 := hb2.size; (try simp only [World.size_alloc] at q2); have z2_0 : w.heap.size < w2.heap.size := (by omega); have z2_1 : w.heap.size + 1 < w2.heap.size := (by omega)) | (go_at_call 52; refine (markWithin_any m 40 1 9 1 9 _).mono ?_; rintro e w3 ⟨rfl, hb3⟩; rw [HM.out]; obtain ⟨hc3, hf3⟩ := bcell hb3; have q3 := hb3.size; (try simp only [World.size_alloc] at q3); have z3_0 : w.heap.size < w3.heap.size := (by omega); have z3_1 : w.heap.size + 1 < w3.heap.size := (by omega)) | (go_at_call 53; refine (touches_any m b _ (L.boxB_ok HB.out) (L.markB_ok HM.out)).mono ?_; rintro e w4 ⟨rfl, hb4⟩; obtain ⟨hc4, hf4⟩ := bcell hb4; have q4 := hb4.size; (try simp only [World.size_alloc] at q4); have z4_0 : w.heap.size < w4.heap.size := (by omega); have z4_1 : w.heap.size + 1 < w4.heap.size := (by omega)))
    go_ret2
    exact ⟨by rw [E1.out, E2.out]; rfl, by (repeat' first | exact zbR _ _ | assumption | refine zbD ?_ | refine zbA ?_ ?_ _ | refine zbS ?_ ?_ _ | refine zbT ?_ (by assumption) ?_ | (simp; done) | (simp; omega) | omega)⟩

end Go.Proofs.Ytgnobonhohfofaa

namespace Go.Proofs.Ytgnobonhohfofaa
open Go.RowKit
attribute [local go_sem ↓] Go.wp_at_zero Go.wp_at_succ

theorem show_results {Z : World} {g : Nat} {x y p q e : Int} {cs tmps : Array Value} (h3 : Z.heap[g]? = some (.cells cs 30 (0, 0)))
    (e3 : cs = #[.int .i64 x, .int .i64 y, .int .i64 p, .int .i64 q]) (t6 : tmps[6]? = some (.pointer (some ⟨g, 0, none⟩))) (t7 : tmps[7]? = some (.int .i64 e)) :
    (results Try.f20 tmps).run Try.prog Z = .ok (.tuple #[.agg #[.int .i64 x, .int .i64 y, .int .i64 p, .int .i64 q], .int .i64 e]) Z := by
  subst e3
  have k0 : Z.cell? ⟨g, 0, none⟩ = some (.int .i64 x) := blk_cell h3 0
  have k1 : Z.cell? ⟨g, 1, none⟩ = some (.int .i64 y) := blk_cell h3 1
  have k2 : Z.cell? ⟨g, 2, none⟩ = some (.int .i64 p) := blk_cell h3 2
  have k3 : Z.cell? ⟨g, 3, none⟩ = some (.int .i64 q) := blk_cell h3 3
  simp [results, Try.results20, go_sem, t6, t7, k0, k1, k2, k3]

theorem blk_new3 {w : World} {X Y Z : Obj} : (((w.alloc X).alloc Y).alloc Z).heap[w.heap.size + 1 + 1]? = some Z := by
  have := World.alloc_heap_new ((w.alloc X).alloc Y) Z
  rwa [World.size_alloc, World.size_alloc] at this

set_option maxRecDepth 100000 in
set_option maxHeartbeats 1600000 in
theorem Show_any (v : L.Vw) (A : Option Addr) (n c : Nat) (b : L.Bx) (call : Int) (w : World) (hn : v.ss.length = n) (hr : RdS w w.heap.size A v.ss) :
    Calls Try.prog 20 #[.agg #[.int .i64 v.size, .slice A n c, .int .i64 v.wrong, .int .i64 v.hxl, .int .i64 v.hxh, .int .i64 v.hyl, .int .i64 v.hyh], .agg #[.int .i64 b.l, .int .i64 b.r, .int .i64 b.b, .int .i64 b.t], .int .i64 call] w fun e w' => e = .returned (.tuple #[.agg #[.int .i64 ((L.showM v b call)).x, .int .i64 ((L.showM v b call)).y, .int .i64 ((L.showM v b call)).hx, .int .i64 ((L.showM v b call)).hy], .int .i64 (L.showE v b call)]) ∧ Below w.heap.size w w' := by
  have HN := hide hn
  have HR := hide hr
  clear hn hr
  rcases L.checkBE_cases v b with h | h | h
  · obtain ⟨hv, hb⟩ := L.checkBE_ok h
    have HV := hide hv
    have HB := hide hb
    have H := hide h
    clear hv hb h
    cases hs : L.sure call
    · have E1 := hide (show L.showM v b call = ⟨0, 0, 0, 0⟩ by unfold L.showM; rw [if_pos H.out, hs]; rfl)
      have E2 := hide (show L.showE v b call = 22 by unfold L.showE; rw [if_pos H.out, hs]; rfl)
      have HS := hide hs
      clear hs
      go_enter Try.func20, Try.ntmps20
      go_wp2_with (first | (go_at_call 47; refine (check_any v A n c b _ HN.out ((HR.out.below (by (repeat' first | exact zbR _ _ | assumption | refine zbD ?_ | refine zbA ?_ ?_ _ | refine zbS ?_ ?_ _ | refine zbT ?_ (by assumption) ?_ | (simp; done) | (simp; omega) | omega))).mono (by first | (simp; done) | (simp; omega) | omega))).mono ?_; rintro e w2 ⟨rfl, hb2⟩; rw [H.out]; obtain ⟨hc2, hf2⟩ := bcell hb2; have q2 := hb2.size; (try simp only [World.size_alloc] at q2); have z2_0 : w.heap.size < w2.heap.size := (by omega); have z2_1 : w.heap.size + 1 < w2.heap.size := (by omega); have z2_2 : w.heap.size + 1 + 1 < w2.heap.size := (by omega); have k3 := (hb2.block (w.heap.size + 1 + 1) (by first | (simp; done) | (simp; omega) | omega)).trans blk_new3; have c0 := (blk_cell k3 0).trans rfl; have c1 := (blk_cell k3 1).trans rfl; have c2 := (blk_cell k3 2).trans rfl; have c3 := (blk_cell k3 3).trans rfl; have f0 := blk_frozen k3 0; have f1 := blk_frozen k3 1; have f2 := blk_frozen k3 2; have f3 := blk_frozen k3 3; have K3 := hide k3; clear k3) | (go_at_call 54; refine (sure_any call _).mono ?_; rintro e w3 ⟨rfl, rfl⟩; rw [HS.out]))
      rw [E1.out, E2.out]
      exact bodyPost_ret (v := .tuple #[.agg #[.int .i64 0, .int .i64 0, .int .i64 0, .int .i64 0], .int .i64 (22)]) (show_results (blk_set (blk_set (blk_set (blk_set (K3.out) 0 (.int .i64 0)) 1 (.int .i64 0)) 2 (.int .i64 0)) 3 (.int .i64 0)) rfl rfl rfl) rfl ⟨rfl, by (repeat' first | exact zbR _ _ | assumption | refine zbD ?_ | refine zbA ?_ ?_ _ | refine zbS ?_ ?_ _ | refine zbT ?_ (by assumption) ?_ | (simp; done) | (simp; omega) | omega)⟩
    · cases hf : (L.findC v b 0 call).isSome
      · have E1 := hide (show L.showM v b call = ⟨0, 0, 0, 0⟩ by unfold L.showM; rw [if_pos H.out, hs]; exact L.found_none hf)
        have E2 := hide (show L.showE v b call = 3 by unfold L.showE; rw [if_pos H.out, hs, hf]; rfl)
        have HS := hide hs
        have HF := hide hf
        clear hs hf
        go_enter Try.func20, Try.ntmps20
        go_wp2_with (first | (go_at_call 47; refine (check_any v A n c b _ HN.out ((HR.out.below (by (repeat' first | exact zbR _ _ | assumption | refine zbD ?_ | refine zbA ?_ ?_ _ | refine zbS ?_ ?_ _ | refine zbT ?_ (by assumption) ?_ | (simp; done) | (simp; omega) | omega))).mono (by first | (simp; done) | (simp; omega) | omega))).mono ?_; rintro e w2 ⟨rfl, hb2⟩; rw [H.out]; obtain ⟨hc2, hf2⟩ := bcell hb2; have q2 := hb2.size; (try simp only [World.size_alloc] at q2); have z2_0 : w.heap.size < w2.heap.size := (by omega); have z2_1 : w.heap.size + 1 < w2.heap.size := (by omega); have z2_2 : w.heap.size + 1 + 1 < w2.heap.size := (by omega); have k2 := (hb2.block (w.heap.size + 1 + 1) (by first | (simp; done) | (simp; omega) | omega)).trans blk_new3; have K2 := hide k2; clear k2) | (go_at_call 54; refine (sure_any call _).mono ?_; rintro e w3 ⟨rfl, rfl⟩; rw [HS.out]) | (go_at_call 55; refine (find_any v A n c b 0 call _ HV.out HB.out HN.out ((HR.out.below (by (repeat' first | exact zbR _ _ | assumption | refine zbD ?_ | refine zbA ?_ ?_ _ | refine zbS ?_ ?_ _ | refine zbT ?_ (by assumption) ?_ | (simp; done) | (simp; omega) | omega))).mono (by first | (simp; done) | (simp; omega) | omega)) (by omega) (by omega)).mono ?_; rintro e w4 ⟨rfl, hb4⟩; rw [HF.out]; have q4 := hb4.size; have k3 := (hb4.block (w.heap.size + 1 + 1) (by omega)).trans K2.out; have c0 := (blk_cell k3 0).trans rfl; have c1 := (blk_cell k3 1).trans rfl; have c2 := (blk_cell k3 2).trans rfl; have c3 := (blk_cell k3 3).trans rfl; have f0 := blk_frozen k3 0; have f1 := blk_frozen k3 1; have f2 := blk_frozen k3 2; have f3 := blk_frozen k3 3; have z4_2 : w.heap.size + 1 + 1 < w4.heap.size := (by omega); have K3 := hide k3; clear k3))
        rw [E1.out, E2.out]
        exact bodyPost_ret (v := .tuple #[.agg #[.int .i64 0, .int .i64 0, .int .i64 0, .int .i64 0], .int .i64 (3)]) (show_results ((Below.heap_alloc _ _ _ (by simp only [World.size_setCell]; exact z4_2)).trans (blk_set (blk_set (blk_set (blk_set (K3.out) 0 (.int .i64 0)) 1 (.int .i64 0)) 2 (.int .i64 0)) 3 (.int .i64 0))) rfl rfl rfl) rfl ⟨rfl, by (repeat' first | exact zbR _ _ | assumption | refine zbD ?_ | refine zbA ?_ ?_ _ | refine zbS ?_ ?_ _ | refine zbT ?_ (by assumption) ?_ | (simp; done) | (simp; omega) | omega)⟩
      · have E1 := hide (show L.showM v b call = L.foundM v b 0 call by unfold L.showM; rw [if_pos H.out, hs]; rfl)
        have E2 := hide (show L.showE v b call = 0 by unfold L.showE; rw [if_pos H.out, hs, hf]; rfl)
        have HS := hide hs
        have HF := hide hf
        clear hs hf
        go_enter Try.func20, Try.ntmps20
        go_wp2_with (first | (go_at_call 47; refine (check_any v A n c b _ HN.out ((HR.out.below (by (repeat' first | exact zbR _ _ | assumption | refine zbD ?_ | refine zbA ?_ ?_ _ | refine zbS ?_ ?_ _ | refine zbT ?_ (by assumption) ?_ | (simp; done) | (simp; omega) | omega))).mono (by first | (simp; done) | (simp; omega) | omega))).mono ?_; rintro e w2 ⟨rfl, hb2⟩; rw [H.out]; obtain ⟨hc2, hf2⟩ := bcell hb2; have q2 := hb2.size; (try simp only [World.size_alloc] at q2); have z2_0 : w.heap.size < w2.heap.size := (by omega); have z2_1 : w.heap.size + 1 < w2.heap.size := (by omega); have z2_2 : w.heap.size + 1 + 1 < w2.heap.size := (by omega); have k2 := (hb2.block (w.heap.size + 1 + 1) (by first | (simp; done) | (simp; omega) | omega)).trans blk_new3; have K2 := hide k2; clear k2) | (go_at_call 54; refine (sure_any call _).mono ?_; rintro e w3 ⟨rfl, rfl⟩; rw [HS.out]) | (go_at_call 55; refine (find_any v A n c b 0 call _ HV.out HB.out HN.out ((HR.out.below (by (repeat' first | exact zbR _ _ | assumption | refine zbD ?_ | refine zbA ?_ ?_ _ | refine zbS ?_ ?_ _ | refine zbT ?_ (by assumption) ?_ | (simp; done) | (simp; omega) | omega))).mono (by first | (simp; done) | (simp; omega) | omega)) (by omega) (by omega)).mono ?_; rintro e w4 ⟨rfl, hb4⟩; rw [HF.out]; have q4 := hb4.size; have k3 := (hb4.block (w.heap.size + 1 + 1) (by omega)).trans K2.out; have c0 := (blk_cell k3 0).trans rfl; have c1 := (blk_cell k3 1).trans rfl; have c2 := (blk_cell k3 2).trans rfl; have c3 := (blk_cell k3 3).trans rfl; have f0 := blk_frozen k3 0; have f1 := blk_frozen k3 1; have f2 := blk_frozen k3 2; have f3 := blk_frozen k3 3; have z4_2 : w.heap.size + 1 + 1 < w4.heap.size := (by omega); have K3 := hide k3; clear k3))
        rw [E1.out, E2.out]
        exact bodyPost_ret (v := .tuple #[.agg #[.int .i64 (L.foundM v b 0 call).x, .int .i64 (L.foundM v b 0 call).y, .int .i64 (L.foundM v b 0 call).hx, .int .i64 (L.foundM v b 0 call).hy], .int .i64 (0)]) (show_results ((Below.heap_alloc _ _ _ (by simp only [World.size_setCell]; exact z4_2)).trans (blk_set (blk_set (blk_set (blk_set (K3.out) 0 (.int .i64 (L.foundM v b 0 call).x)) 1 (.int .i64 (L.foundM v b 0 call).y)) 2 (.int .i64 (L.foundM v b 0 call).hx)) 3 (.int .i64 (L.foundM v b 0 call).hy))) rfl rfl rfl) rfl ⟨rfl, by (repeat' first | exact zbR _ _ | assumption | refine zbD ?_ | refine zbA ?_ ?_ _ | refine zbS ?_ ?_ _ | refine zbT ?_ (by assumption) ?_ | (simp; done) | (simp; omega) | omega)⟩
  all_goals
    have E1 := hide (show L.showM v b call = ⟨0, 0, 0, 0⟩ by unfold L.showM; rw [if_neg (by omega)])
    have E2 := hide (show L.showE v b call = L.checkBE v b by unfold L.showE; rw [if_neg (by omega)])
    have H := hide h
    clear h
    go_enter Try.func20, Try.ntmps20
    go_wp2_with (go_at_call 47; refine (check_any v A n c b _ HN.out ((HR.out.below (by (repeat' first | exact zbR _ _ | assumption | refine zbD ?_ | refine zbA ?_ ?_ _ | refine zbS ?_ ?_ _ | refine zbT ?_ (by assumption) ?_ | (simp; done) | (simp; omega) | omega))).mono (by first | (simp; done) | (simp; omega) | omega))).mono ?_; rintro e w2 ⟨rfl, hb2⟩; rw [H.out]; have k3 := (hb2.block (w.heap.size + 1 + 1) (by first | (simp; done) | (simp; omega) | omega)).trans blk_new3; have c0 := (blk_cell k3 0).trans rfl; have c1 := (blk_cell k3 1).trans rfl; have c2 := (blk_cell k3 2).trans rfl; have c3 := (blk_cell k3 3).trans rfl; have f0 := blk_frozen k3 0; have f1 := blk_frozen k3 1; have f2 := blk_frozen k3 2; have f3 := blk_frozen k3 3; have K3 := hide k3; clear k3)
    rw [E1.out, E2.out, H.out]
    exact bodyPost_ret (v := .tuple #[.agg #[.int .i64 0, .int .i64 0, .int .i64 0, .int .i64 0], .int .i64 _]) (show_results (blk_set (blk_set (blk_set (blk_set (K3.out) 0 (.int .i64 0)) 1 (.int .i64 0)) 2 (.int .i64 0)) 3 (.int .i64 0)) rfl rfl rfl) rfl ⟨rfl, by (repeat' first | exact zbR _ _ | assumption | refine zbD ?_ | refine zbA ?_ ?_ _ | refine zbS ?_ ?_ _ | refine zbT ?_ (by assumption) ?_ | (simp; done) | (simp; omega) | omega)⟩

end Go.Proofs.Ytgnobonhohfofaa

namespace Go.Proofs.Ytgnobonhohfofaa
open Go.RowKit
attribute [local go_sem ↓] Go.wp_at_zero Go.wp_at_succ

def L.farB (v : L.Vw) : Bool := decide (40 < v.ss.length) || (L.viewB v && (decide (12 < v.size) || decide (5 < v.hxh) || decide (5 < v.hyh)))
def L.validB (v : L.Vw) (b : L.Bx) : Bool := !L.farB v && (L.viewB v && L.boxB b)
theorem L.check_view (v : L.Vw) : L.checkE v = if L.viewB v then 0 else 20 := rfl

set_option maxRecDepth 100000 in
set_option maxHeartbeats 1600000 in
theorem Far_any (v : L.Vw) (A : Option Addr) (n c : Nat) (w : World) (hn : v.ss.length = n) (hr : RdS w w.heap.size A v.ss) :
    Calls Try.prog 28 #[.agg #[.int .i64 v.size, .slice A n c, .int .i64 v.wrong, .int .i64 v.hxl, .int .i64 v.hxh, .int .i64 v.hyl, .int .i64 v.hyh]] w fun e w' => e = .returned (.bool (L.farB v)) ∧ Below w.heap.size w w' := by
  have HN := hide hn
  have HR := hide hr
  have hc := L.check_view v
  by_cases h40 : (40 : Int) < (n : Int)
  · have HE := hide (show L.farB v = true by unfold L.farB; rw [decide_eq_true (by omega)]; rfl)
    clear hn hr hc
    go_enter Try.func28, Try.ntmps28
    go_wp2
    go_ret
    exact ⟨by rw [HE.out]; rfl, by (repeat' first | exact zbR _ _ | assumption | refine zbD ?_ | refine zbA ?_ ?_ _ | refine zbS ?_ ?_ _ | refine zbT ?_ (by assumption) ?_ | (simp; done) | (simp; omega) | omega)⟩
  have hf : L.farB v = (L.viewB v && (decide (12 < v.size) || decide (5 < v.hxh) || decide (5 < v.hyh))) := by unfold L.farB; rw [decide_eq_false (by omega)]; rfl
  cases hv : L.viewB v
  · rw [hv] at hc hf
    have HC := hide (show L.checkE v = 20 from hc)
    have HE := hide (show L.farB v = false from hf)
    clear hn hr hc hv hf
    go_enter Try.func28, Try.ntmps28
    go_wp2_with (go_at_call 23; refine (RefCheck_any v A n c _ HN.out ((HR.out.below (by (repeat' first | exact zbR _ _ | assumption | refine zbD ?_ | refine zbA ?_ ?_ _ | refine zbS ?_ ?_ _ | refine zbT ?_ (by assumption) ?_ | (simp; done) | (simp; omega) | omega))).mono (by first | (simp; done) | (simp; omega) | omega))).mono ?_; rintro e w2 ⟨rfl, hb2⟩; rw [HC.out])
    go_ret
    exact ⟨by rw [HE.out]; rfl, by (repeat' first | exact zbR _ _ | assumption | refine zbD ?_ | refine zbA ?_ ?_ _ | refine zbS ?_ ?_ _ | refine zbT ?_ (by assumption) ?_ | (simp; done) | (simp; omega) | omega)⟩
  rw [hv] at hc hf
  have HC := hide (show L.checkE v = 0 from hc)
  have HF := hide hf
  clear hn hr hc hv hf
  rw [Bool.true_and] at HF
  go_enter Try.func28, Try.ntmps28
  go_wp2_with (go_at_call 23; refine (RefCheck_any v A n c _ HN.out ((HR.out.below (by (repeat' first | exact zbR _ _ | assumption | refine zbD ?_ | refine zbA ?_ ?_ _ | refine zbS ?_ ?_ _ | refine zbT ?_ (by assumption) ?_ | (simp; done) | (simp; omega) | omega))).mono (by first | (simp; done) | (simp; omega) | omega))).mono ?_; rintro e w2 ⟨rfl, hb2⟩; rw [HC.out]; obtain ⟨hc2, hf2⟩ := bcell hb2; have hz2 : w.heap.size < w2.heap.size := (by have := hb2.size; (try simp at this); omega))
  all_goals
    go_ret
    exact ⟨by rw [HF.out]; (first | rfl | (simp [*]; done)), by (repeat' first | exact zbR _ _ | assumption | refine zbD ?_ | refine zbA ?_ ?_ _ | refine zbS ?_ ?_ _ | refine zbT ?_ (by assumption) ?_ | (simp; done) | (simp; omega) | omega)⟩

theorem L.farB_no {v : L.Vw} (h : L.farB v = false) : v.ss.length ≤ 40 ∧ (L.viewB v = true → v.size ≤ 12 ∧ v.hxh ≤ 5 ∧ v.hyh ≤ 5) := by
  unfold L.farB at h
  simp only [Bool.or_eq_false_iff, decide_eq_false_iff_not, Bool.and_eq_false_iff] at h
  refine ⟨by omega, fun hv => ?_⟩
  rcases h.2 with h' | h'
  · rw [hv] at h'; cases h'
  · omega

set_option maxRecDepth 100000 in
set_option maxHeartbeats 1600000 in
theorem valid_any (v : L.Vw) (A : Option Addr) (n c : Nat) (b : L.Bx) (w : World) (hn : v.ss.length = n) (hr : RdS w w.heap.size A v.ss) :
    Calls Try.prog 15 #[.agg #[.int .i64 v.size, .slice A n c, .int .i64 v.wrong, .int .i64 v.hxl, .int .i64 v.hxh, .int .i64 v.hyl, .int .i64 v.hyh], .agg #[.int .i64 b.l, .int .i64 b.r, .int .i64 b.b, .int .i64 b.t]] w fun e w' => e = .returned (.bool (L.validB v b)) ∧ Below w.heap.size w w' := by
  have HN := hide hn
  have HR := hide hr
  have hc := L.check_view v
  have he : L.validB v b = (!L.farB v && (L.viewB v && L.boxB b)) := rfl
  cases hf : L.farB v <;> cases hv : L.viewB v <;> cases hb : L.boxB b
  all_goals
    rw [hv] at hc
    rw [hf, hv, hb] at he
    have HC := hide hc
    have HE := hide he
    have HF := hide hf
    have HB := hide hb
    clear hn hr hc he hf hv hb
    go_enter Try.func15, Try.ntmps15
    go_wp2_with (first | (go_at_call 28; refine (Far_any v A n c _ HN.out ((HR.out.below (by (repeat' first | exact zbR _ _ | assumption | refine zbD ?_ | refine zbA ?_ ?_ _ | refine zbS ?_ ?_ _ | refine zbT ?_ (by assumption) ?_ | (simp; done) | (simp; omega) | omega))).mono (by first | (simp; done) | (simp; omega) | omega))).mono ?_; rintro e w2 ⟨rfl, hb2⟩; rw [HF.out]; obtain ⟨hc2, hf2⟩ := bcell hb2; have hz2 : w.heap.size + 1 < w2.heap.size := (by have := hb2.size; (try simp at this); omega); have hy2 : w.heap.size < w2.heap.size := (by omega)) | (go_at_call 23; refine (RefCheck_any v A n c _ HN.out ((HR.out.below (by (repeat' first | exact zbR _ _ | assumption | refine zbD ?_ | refine zbA ?_ ?_ _ | refine zbS ?_ ?_ _ | refine zbT ?_ (by assumption) ?_ | (simp; done) | (simp; omega) | omega))).mono (by first | (simp; done) | (simp; omega) | omega))).mono ?_; rintro e w3 ⟨rfl, hb3⟩; rw [HC.out]; obtain ⟨hc3, hf3⟩ := bcell hb3; have hz3 : w.heap.size + 1 < w3.heap.size := (by have := hb3.size; (try simp at this); omega); (try simp only [if_true, Bool.false_eq_true, if_false])) | (go_at_call 25; refine (isBox_any b _).mono ?_; rintro e w4 ⟨rfl, hb4⟩; rw [HB.out]))
    go_ret
    exact ⟨by rw [HE.out]; rfl, by (repeat' first | exact zbR _ _ | assumption | refine zbD ?_ | refine zbA ?_ ?_ _ | refine zbS ?_ ?_ _ | refine zbT ?_ (by assumption) ?_ | (simp; done) | (simp; omega) | omega)⟩

end Go.Proofs.Ytgnobonhohfofaa

namespace Go.Proofs.Ytgnobonhohfofaa
open Go.RowKit
attribute [local go_sem ↓] Go.wp_at_zero Go.wp_at_succ

namespace L
theorem boxB_of {b : Bx} (h : BxOk b) : boxB b = true := by
  obtain ⟨h1, h2, h3, h4, h5, h6⟩ := h
  simp [boxB, spanIn, h1, h2, h3, h4, h5, h6]
theorem checkBE_yes {v : Vw} {b : Bx} (hv : viewB v = true) (hb : boxB b = true) : checkBE v b = 0 := by unfold checkBE; rw [hv, hb]; rfl
theorem callV_ok {v : Vw} {b : Bx} (h : checkBE v b = 0) : callV v b = callOf v b 0 := by unfold callV; rw [if_pos h]
theorem callE_ok {v : Vw} {b : Bx} (h : checkBE v b = 0) : callE v b = if callOf v b 0 = 0 then 3 else 0 := by unfold callE; rw [if_pos h]
theorem validB_ok {v : Vw} {b : Bx} (h : validB v b = true) : viewB v = true ∧ boxB b = true ∧ farB v = false := by
  unfold validB at h
  simp only [Bool.and_eq_true, Bool.not_eq_true'] at h
  exact ⟨h.2.1, h.2.2, h.1⟩
def Larger (b o : Bx) : Prop := o.l ≤ b.l ∧ b.r ≤ o.r ∧ o.b ≤ b.b ∧ b.t ≤ o.t ∧ BxOk o
theorem larger_cases {v : Vw} (hv : viewB v = true) {b o : Bx} (hb : boxB b = true) (h : Larger b o) :
    (callV v b = 0 ∧ callE v b = 3 ∧ callV v o = 0 ∧ callE v o = 3) ∨ (callV v b = 1 ∧ callE v b = 0 ∧ callV v o = 1 ∧ callE v o = 0) ∨ (callV v b = 2 ∧ callE v b = 0 ∧ callV v o = 2 ∧ callE v o = 0) ∨ (callV v b ≠ 1 ∧ callE v b = 0 ∧ callV v o ≠ 2 ∧ callE v o = 0) := by
  obtain ⟨h1, h2, h3, h4, h5⟩ := h
  have c1 := checkBE_yes hv hb
  have c2 := checkBE_yes hv (boxB_of h5)
  obtain ⟨a1, a2, a3⟩ := larger (viewB_ok hv) h1 h2 h3 h4 0
  rw [callV_ok c1, callE_ok c1, callV_ok c2, callE_ok c2]
  by_cases hz : callOf v b 0 = 0
  · exact .inl ⟨hz, by rw [if_pos hz], a1.1 hz, by rw [if_pos (a1.1 hz)]⟩
  · have hz' : callOf v o 0 ≠ 0 := fun e => hz (a1.2 e)
    rw [if_neg hz, if_neg hz']
    by_cases h1' : callOf v b 0 = 1
    · exact .inr (.inl ⟨h1', rfl, a2 h1', rfl⟩)
    · by_cases h2' : callOf v o 0 = 2
      · exact .inr (.inr (.inl ⟨a3 h2', rfl, h2', rfl⟩))
      · exact .inr (.inr (.inr ⟨h1', rfl, h2', rfl⟩))
end L

theorem Call_ints (v : L.Vw) (A : Option Addr) (n c : Nat) (l r b t : Int) (w : World) (hn : v.ss.length = n) (hr : RdS w w.heap.size A v.ss) :
    Calls Try.prog 17 #[.agg #[.int .i64 v.size, .slice A n c, .int .i64 v.wrong, .int .i64 v.hxl, .int .i64 v.hxh, .int .i64 v.hyl, .int .i64 v.hyh], .agg #[.int .i64 l, .int .i64 r, .int .i64 b, .int .i64 t]] w fun e w' => e = .returned (.tuple #[.int .i64 (L.callV v ⟨l, r, b, t⟩), .int .i64 (L.callE v ⟨l, r, b, t⟩)]) ∧ Below w.heap.size w w' :=
  Call_any v A n c ⟨l, r, b, t⟩ w hn hr
set_option maxRecDepth 100000 in
set_option maxHeartbeats 3200000 in
theorem largerLaw_out (v : L.Vw) (A : Option Addr) (n c : Nat) (b m : L.Bx) (w : World) (hn : v.ss.length = n) (hr : RdS w w.heap.size A v.ss) (h : L.validB v b = false ∨ (L.validB v b = true ∧ L.boxB m = false)) :
    Calls Try.prog 5 #[.agg #[.int .i64 v.size, .slice A n c, .int .i64 v.wrong, .int .i64 v.hxl, .int .i64 v.hxh, .int .i64 v.hyl, .int .i64 v.hyh], .agg #[.int .i64 b.l, .int .i64 b.r, .int .i64 b.b, .int .i64 b.t], .agg #[.int .i64 m.l, .int .i64 m.r, .int .i64 m.b, .int .i64 m.t]] w fun e w' => e = .returned (.bool true) ∧ Below w.heap.size w w' := by
  have HN := hide hn
  have HR := hide hr
  clear hn hr
  rcases h with h | ⟨h, hm⟩
  · have H := hide h
    clear h
    go_enter Try.func5, Try.ntmps5
    go_wp2_with (first | (go_at_call 15; refine (valid_any v A n c b _ HN.out ((HR.out.below (by (repeat' first | exact zbR _ _ | assumption | refine zbD ?_ | refine zbA ?_ ?_ _ | refine zbS ?_ ?_ _ | refine zbT ?_ (by assumption) ?_ | (simp; done) | (simp; omega) | omega))).mono (by first | (simp; done) | (simp; omega) | omega))).mono ?_; rintro e w2 ⟨rfl, hb2⟩; rw [H.out]; obtain ⟨hc2, hf2⟩ := bcell hb2; have q2 := hb2.size; (try simp only [World.size_alloc] at q2); have z2_0 : w.heap.size < w2.heap.size := (by omega); have z2_1 : w.heap.size + 1 < w2.heap.size := (by omega); have z2_2 : w.heap.size + 1 + 1 < w2.heap.size := (by omega)) | (go_at_call 16; refine (works_any _).mono ?_; rintro e w3 ⟨rfl, hb3⟩))
    go_ret
    exact ⟨rfl, by (repeat' first | exact zbR _ _ | assumption | refine zbD ?_ | refine zbA ?_ ?_ _ | refine zbS ?_ ?_ _ | refine zbT ?_ (by assumption) ?_ | (simp; done) | (simp; omega) | omega)⟩
  · have H := hide h
    have HM := hide hm
    clear h hm
    go_enter Try.func5, Try.ntmps5
    go_wp2_with (first | (go_at_call 15; refine (valid_any v A n c b _ HN.out ((HR.out.below (by (repeat' first | exact zbR _ _ | assumption | refine zbD ?_ | refine zbA ?_ ?_ _ | refine zbS ?_ ?_ _ | refine zbT ?_ (by assumption) ?_ | (simp; done) | (simp; omega) | omega))).mono (by first | (simp; done) | (simp; omega) | omega))).mono ?_; rintro e w2 ⟨rfl, hb2⟩; rw [H.out]; obtain ⟨hc2, hf2⟩ := bcell hb2; have q2 := hb2.size; (try simp only [World.size_alloc] at q2); have z2_0 : w.heap.size < w2.heap.size := (by omega); have z2_1 : w.heap.size + 1 < w2.heap.size := (by omega); have z2_2 : w.heap.size + 1 + 1 < w2.heap.size := (by omega)) | (go_at_call 25; refine (isBox_any m _).mono ?_; rintro e w4 ⟨rfl, hb4⟩; rw [HM.out]; obtain ⟨hc4, hf4⟩ := bcell hb4; have q4 := hb4.size; (try simp only [World.size_alloc] at q4); have z4_0 : w.heap.size < w4.heap.size := (by omega); have z4_1 : w.heap.size + 1 < w4.heap.size := (by omega); have z4_2 : w.heap.size + 1 + 1 < w4.heap.size := (by omega)) | (go_at_call 16; refine (works_any _).mono ?_; rintro e w3 ⟨rfl, hb3⟩))
    go_ret
    exact ⟨rfl, by (repeat' first | exact zbR _ _ | assumption | refine zbD ?_ | refine zbA ?_ ?_ _ | refine zbS ?_ ?_ _ | refine zbT ?_ (by assumption) ?_ | (simp; done) | (simp; omega) | omega)⟩

set_option maxRecDepth 100000 in
set_option maxHeartbeats 3200000 in
theorem largerLaw_in (v : L.Vw) (A : Option Addr) (n c : Nat) (b m : L.Bx) (w : World) (hn : v.ss.length = n) (hr : RdS w w.heap.size A v.ss) (h : L.validB v b = true) (hm : L.boxB m = true) :
    Calls Try.prog 5 #[.agg #[.int .i64 v.size, .slice A n c, .int .i64 v.wrong, .int .i64 v.hxl, .int .i64 v.hxh, .int .i64 v.hyl, .int .i64 v.hyh], .agg #[.int .i64 b.l, .int .i64 b.r, .int .i64 b.b, .int .i64 b.t], .agg #[.int .i64 m.l, .int .i64 m.r, .int .i64 m.b, .int .i64 m.t]] w fun e w' => e = .returned (.bool true) ∧ Below w.heap.size w w' := by
  have HN := hide hn
  have HR := hide hr
  have H := hide h
  have HM := hide hm
  obtain ⟨b1, b2, b3, b4, b5, b6⟩ := L.boxB_ok (L.validB_ok h).2.1
  obtain ⟨m1, m2, m3, m4, m5, m6⟩ := L.boxB_ok hm
  clear hn hr h hm
  go_enter Try.func5, Try.ntmps5
  go_upto_region 3 with (first | (go_at_call 15; refine (valid_any v A n c b _ HN.out ((HR.out.below (by (repeat' first | exact zbR _ _ | assumption | refine zbD ?_ | refine zbA ?_ ?_ _ | refine zbS ?_ ?_ _ | refine zbT ?_ (by assumption) ?_ | (simp; done) | (simp; omega) | omega))).mono (by first | (simp; done) | (simp; omega) | omega))).mono ?_; rintro e w2 ⟨rfl, hb2⟩; rw [H.out]; obtain ⟨hc2, hf2⟩ := bcell hb2; have q2 := hb2.size; (try simp only [World.size_alloc] at q2); have z2_0 : w.heap.size < w2.heap.size := (by omega); have z2_1 : w.heap.size + 1 < w2.heap.size := (by omega); have z2_2 : w.heap.size + 1 + 1 < w2.heap.size := (by omega)) | (go_at_call 25; refine (isBox_any m _).mono ?_; rintro e w4 ⟨rfl, hb4⟩; rw [HM.out]; obtain ⟨hc4, hf4⟩ := bcell hb4; have q4 := hb4.size; (try simp only [World.size_alloc] at q4); have z4_0 : w.heap.size < w4.heap.size := (by omega); have z4_1 : w.heap.size + 1 < w4.heap.size := (by omega); have z4_2 : w.heap.size + 1 + 1 < w4.heap.size := (by omega)))
  go_cut [7] from 22 to 42 (fun v7 wx => ∃ (q : Nat) (x1 x2 x3 x4 : Int), v7 = .pointer (some ⟨q, 0, none⟩) ∧ Hid (L.Larger b ⟨x1, x2, x3, x4⟩) ∧ Hid (wx.heap[q]? = some (.cells #[.int .i64 x1, .int .i64 x2, .int .i64 x3, .int .i64 x4] 28 (0, 0))) ∧ Hid (w4.heap.size ≤ q ∧ Below w4.heap.size w4 wx))
  case first =>
    go_wp2
    all_goals
      go_meet
      refine ⟨_, _, _, _, _, rfl, ?_, hide (World.alloc_heap_new _ _), hide ⟨Nat.le_refl _, (Below.refl _ _).alloc (Nat.le_refl _) _⟩⟩
      exact hide ⟨by dsimp only; omega, by dsimp only; omega, by dsimp only; omega, by dsimp only; omega, ⟨by dsimp only; omega, by dsimp only; omega, by dsimp only; omega, by dsimp only; omega, by dsimp only; omega, by dsimp only; omega⟩⟩
  case rest =>
    obtain ⟨q, x1, x2, x3, x4, rfl, HL, HQ, HW⟩ := hcut
    obtain ⟨hq, hW⟩ := HW.out
    obtain ⟨hc5, hf5⟩ := bcell hW
    have q5 := hW.size
    have o1 := (blk_cell HQ.out 0).trans rfl
    have o2 := (blk_cell HQ.out 1).trans rfl
    have o3 := (blk_cell HQ.out 2).trans rfl
    have o4 := (blk_cell HQ.out 3).trans rfl
    have lq : q < wc.heap.size := blk_lt HQ.out
    have y0 : w.heap.size < wc.heap.size := by omega
    have y1 : w.heap.size + 1 < wc.heap.size := by omega
    have HWW := hide hW
    rcases L.larger_cases (L.validB_ok H.out).1 (L.validB_ok H.out).2.1 HL.out with ⟨e1, e2, e3, e4⟩ | ⟨e1, e2, e3, e4⟩ | ⟨e1, e2, e3, e4⟩ | ⟨e1, e2, e3, e4⟩
    rotate_left 3
    · have d1 : (L.callV v b == 1) = false := by simpa using e1
      have d2 : (L.callV v ⟨x1, x2, x3, x4⟩ == 2) = false := by simpa using e3
      have d3 : (L.callV v b != 1) = true := by simpa using e1
      have d4 : (L.callV v ⟨x1, x2, x3, x4⟩ != 2) = true := by simpa using e3
      have E2 := hide e2
      have E4 := hide e4
      clear e1 e2 e3 e4
      go_wp2_with (first | (go_at_call 17; refine (Call_ints v A n c _ _ _ _ _ HN.out ((HR.out.below (by (repeat' first | exact zbR _ _ | assumption | refine zbD ?_ | refine zbA ?_ ?_ _ | refine zbS ?_ ?_ _ | refine zbT ?_ (by assumption) ?_ | (simp; done) | (simp; omega) | omega))).mono (by first | (simp; done) | (simp; omega) | omega))).mono ?_; rintro e w6 ⟨rfl, hb6⟩; (first | rw [E2.out] | rw [E4.out]); obtain ⟨hc6, hf6⟩ := bcell hb6; have q6 := hb6.size; (try simp only [World.size_alloc] at q6); have z6_0 : w.heap.size < w6.heap.size := (by omega); have z6_1 : q < w6.heap.size := (by omega)) | (go_at_call 16; refine (works_any _).mono ?_; rintro e w3 ⟨rfl, hb3⟩))
      go_ret
      exact ⟨rfl, by (repeat' first | exact zbR _ _ | assumption | refine zbD ?_ | refine zbA ?_ ?_ _ | refine zbS ?_ ?_ _ | refine zbT ?_ (by assumption) ?_ | (simp; done) | (simp; omega) | omega)⟩
    all_goals
      have E1 := hide e1
      have E2 := hide e2
      have E3 := hide e3
      have E4 := hide e4
      clear e1 e2 e3 e4
      go_wp2_with (first | (go_at_call 17; refine (Call_ints v A n c _ _ _ _ _ HN.out ((HR.out.below (by (repeat' first | exact zbR _ _ | assumption | refine zbD ?_ | refine zbA ?_ ?_ _ | refine zbS ?_ ?_ _ | refine zbT ?_ (by assumption) ?_ | (simp; done) | (simp; omega) | omega))).mono (by first | (simp; done) | (simp; omega) | omega))).mono ?_; rintro e w6 ⟨rfl, hb6⟩; (first | rw [E1.out, E2.out] | rw [E3.out, E4.out]); obtain ⟨hc6, hf6⟩ := bcell hb6; have q6 := hb6.size; (try simp only [World.size_alloc] at q6); have z6_0 : w.heap.size < w6.heap.size := (by omega); have z6_1 : q < w6.heap.size := (by omega)) | (go_at_call 16; refine (works_any _).mono ?_; rintro e w3 ⟨rfl, hb3⟩))
      go_ret
      exact ⟨rfl, by (repeat' first | exact zbR _ _ | assumption | refine zbD ?_ | refine zbA ?_ ?_ _ | refine zbS ?_ ?_ _ | refine zbT ?_ (by assumption) ?_ | (simp; done) | (simp; omega) | omega)⟩

end Go.Proofs.Ytgnobonhohfofaa

namespace Go.Proofs.Ytgnobonhohfofaa
namespace L

theorem cents_mem {n : Nat} {x y : Int} (hx0 : 0 ≤ x) (hx1 : x ≤ n) (hy0 : 0 ≤ y) (hy1 : y ≤ n) : (x, y) ∈ cents n := by
  simp only [cents, List.mem_flatMap, List.mem_map, List.mem_range]
  exact ⟨x.toNat, by omega, y.toNat, by omega, Prod.ext (Int.toNat_of_nonneg hx0) (Int.toNat_of_nonneg hy0)⟩
theorem mem_tcents {v : Vw} (hv : VwOk v) {c : Int × Int} {k : Int} : c ∈ tcents v k ↔ (0 ≤ c.1 ∧ c.1 ≤ v.size ∧ 0 ≤ c.2 ∧ c.2 ≤ v.size) ∧ okAt v k c = true := by
  unfold tcents
  rw [List.mem_filter]
  have h0 := hv.s0
  have hs : (v.size.toNat : Int) = v.size := Int.toNat_of_nonneg h0
  constructor
  · rintro ⟨h, h'⟩
    obtain ⟨a, b, c, d⟩ := mem_cents h
    exact ⟨⟨a, by omega, c, by omega⟩, h'⟩
  · rintro ⟨⟨a, b, c, d⟩, h'⟩
    exact ⟨cents_mem a (by omega) c (by omega), h'⟩
theorem okAt_zero (v : Vw) (c : Int × Int) : okAt v 0 c = decide (((wrongL v c.1 c.2).length : Int) ≤ v.wrong) := by
  unfold okAt; rw [wrongL_length]
theorem truth_mem {v : Vw} (hv : VwOk v) {m : Mk} (h : truthB v m = true) : (m.x, m.y) ∈ tcents v 0 ∧ v.hxl ≤ m.hx ∧ m.hx ≤ v.hxh ∧ v.hyl ≤ m.hy ∧ m.hy ≤ v.hyh := by
  unfold truthB at h
  rw [Bool.and_eq_true] at h
  obtain ⟨h1, h2⟩ := h
  unfold isMarkB markB within at h1
  simp only [Bool.and_eq_true, decide_eq_true_eq] at h1
  obtain ⟨⟨⟨⟨a, b⟩, c, d⟩, e, f⟩, g, i⟩ := h1
  exact ⟨(mem_tcents hv).2 ⟨⟨a, b, c, d⟩, by rw [okAt_zero]; exact h2⟩, e, f, g, i⟩
theorem truth_of {v : Vw} (hv : VwOk v) {c : Int × Int} {p q : Int} (hc : c ∈ tcents v 0) (h1 : v.hxl ≤ p) (h2 : p ≤ v.hxh) (h3 : v.hyl ≤ q) (h4 : q ≤ v.hyh) : truthB v ⟨c.1, c.2, p, q⟩ = true := by
  obtain ⟨⟨a, b, d, e⟩, f⟩ := (mem_tcents hv).1 hc
  rw [okAt_zero] at f
  unfold truthB isMarkB markB within
  simp only [Bool.and_eq_true, decide_eq_true_eq]
  exact ⟨⟨⟨⟨⟨a, b⟩, d, e⟩, h1, h2⟩, h3, h4⟩, by simpa using f⟩
theorem markB_of {m : Mk} (h : MkOk m) : markB m 40 1 9 1 9 = true := by
  obtain ⟨a, b, c, d, e, f, g, i⟩ := h
  unfold markB within
  simp only [Bool.and_eq_true, decide_eq_true_eq]
  exact ⟨⟨⟨⟨a, b⟩, c, d⟩, e, f⟩, g, i⟩
theorem truth_ok {v : Vw} (hv : VwOk v) {m : Mk} (h : truthB v m = true) : MkOk m := by
  unfold truthB at h
  rw [Bool.and_eq_true] at h
  exact (isMark_bd hv h.1).1
theorem touch_low {v : Vw} (hv : VwOk v) {m : Mk} {b : Bx} (h : truthB v m = true) (ht : touch ⟨m.x, m.y, v.hxl, v.hyl⟩ b = true) : touch m b = true := by
  obtain ⟨_, h1, h2, h3, h4⟩ := truth_mem hv h
  exact touch_axes hv.x0 hv.y0 h1 h3 ht
theorem touch_high {v : Vw} (hv : VwOk v) {m : Mk} {b : Bx} (h : truthB v m = true) (ht : touch m b = true) : touch ⟨m.x, m.y, v.hxh, v.hyh⟩ b = true := by
  obtain ⟨_, h1, h2, h3, h4⟩ := truth_mem hv h
  exact touch_axes (by have := hv.x0; omega) (by have := hv.y0; omega) h2 h4 ht
theorem found_some {v : Vw} (hv : VwOk v) {b : Bx} {call : Int} (h : (findC v b 0 call).isSome = true) : truthB v (foundM v b 0 call) = true ∧ touch (foundM v b 0 call) b = decide (call = 1) := by
  obtain ⟨c, hc⟩ := Option.isSome_iff_exists.1 h
  have e : foundM v b 0 call = ⟨c.1, c.2, hxOf v call, hyOf v call⟩ := by unfold foundM; rw [hc]; exact markOf_eq v call c
  have h1 : c ∈ tcents v 0 := List.mem_of_find?_eq_some hc
  have h2 : hitAt v b call c = true := List.find?_some hc
  rw [hitAt_eq] at h2
  rw [e]
  refine ⟨?_, by simpa using h2⟩
  have := hv.xx
  have := hv.yy
  exact truth_of hv h1 (by unfold hxOf; split <;> omega) (by unfold hxOf; split <;> omega) (by unfold hyOf; split <;> omega) (by unfold hyOf; split <;> omega)

theorem showE_1 {v : Vw} {b : Bx} (h : checkBE v b = 0) : showE v b 1 = if (findC v b 0 1).isSome then 0 else 3 := by unfold showE; rw [if_pos h, if_pos (by decide)]
theorem showE_2 {v : Vw} {b : Bx} (h : checkBE v b = 0) : showE v b 2 = if (findC v b 0 2).isSome then 0 else 3 := by unfold showE; rw [if_pos h, if_pos (by decide)]
theorem showM_1 {v : Vw} {b : Bx} (h : checkBE v b = 0) : showM v b 1 = foundM v b 0 1 := by unfold showM; rw [if_pos h, if_pos (by decide)]
theorem showM_2 {v : Vw} {b : Bx} (h : checkBE v b = 0) : showM v b 2 = foundM v b 0 2 := by unfold showM; rw [if_pos h, if_pos (by decide)]

structure SureOk (v : Vw) (b : Bx) (m : Mk) (cv e1 e2 : Int) : Prop where
  fcv : callV v b = cv
  fce : callE v b = 0
  f1 : showE v b 1 = e1
  f2 : showE v b 2 = e2
  tou : truthB v m = true → touE m b = 0
  tin : cv = 1 → truthB v m = true → touV m b = true
  tout : cv = 2 → truthB v m = true → touV m b = false
  t1 : e1 = 0 → truthB v (showM v b 1) = true ∧ touch (showM v b 1) b = true ∧ MkOk (showM v b 1)
  t2 : e2 = 0 → truthB v (showM v b 2) = true ∧ touch (showM v b 2) b = false ∧ MkOk (showM v b 2)

theorem sure_cases {v : Vw} (hv : viewB v = true) {b : Bx} (hb : boxB b = true) (m : Mk) :
    (callV v b = 0 ∧ callE v b = 3 ∧ truthB v m = false) ∨ SureOk v b m 1 0 3 ∨ SureOk v b m 2 3 0 ∨ SureOk v b m 3 0 0 := by
  have hc := checkBE_yes hv hb
  have hk := viewB_ok hv
  have T : truthB v m = true → touE m b = 0 ∧ touV m b = touch m b := fun h => by
    have := markB_of (truth_ok hk h)
    exact ⟨by unfold touE; rw [hb, this]; rfl, by unfold touV; rw [hb, this]; rfl⟩
  have F1 : (findC v b 0 1).isSome = true → truthB v (showM v b 1) = true ∧ touch (showM v b 1) b = true ∧ MkOk (showM v b 1) := fun h => by
    obtain ⟨a1, a2⟩ := found_some hk h
    rw [showM_1 hc]
    exact ⟨a1, by simpa using a2, truth_ok hk a1⟩
  have F2 : (findC v b 0 2).isSome = true → truthB v (showM v b 2) = true ∧ touch (showM v b 2) b = false ∧ MkOk (showM v b 2) := fun h => by
    obtain ⟨a1, a2⟩ := found_some hk h
    rw [showM_2 hc]
    exact ⟨a1, by simpa using a2, truth_ok hk a1⟩
  have i1 := find1 v b 0
  have i2 := find2 v b 0
  rcases call_cases v b 0 with ⟨h, a1, a2⟩ | ⟨h, a1, a2⟩ | ⟨h, a1, a2⟩ | ⟨h, a1, a2⟩
  · refine .inl ⟨by rw [callV_ok hc, h], by rw [callE_ok hc, if_pos h], ?_⟩
    cases ht : truthB v m
    · rfl
    · have := (truth_mem hk ht).1
      rw [(call_zero hk b 0).1 h] at this
      cases this
  · have s1 := i1.2 a1
    have s2 : (findC v b 0 2).isSome = false := by cases hq : (findC v b 0 2).isSome; rfl; exact (a2 (i2.1 hq)).elim
    refine .inr (.inl ⟨by rw [callV_ok hc, h], by rw [callE_ok hc, if_neg (by omega)], by rw [showE_1 hc, s1]; rfl, by rw [showE_2 hc, s2]; rfl, fun t => (T t).1, fun _ t => ?_, fun e => by omega, fun _ => F1 s1, fun e => by omega⟩)
    rw [(T t).2]
    have hm := (truth_mem hk t).1
    cases hl : touch ⟨m.x, m.y, v.hxl, v.hyl⟩ b
    · exact (a2 ⟨_, hm, hl⟩).elim
    · exact touch_low hk t hl
  · have s2 := i2.2 a2
    have s1 : (findC v b 0 1).isSome = false := by cases hq : (findC v b 0 1).isSome; rfl; exact (a1 (i1.1 hq)).elim
    refine .inr (.inr (.inl ⟨by rw [callV_ok hc, h], by rw [callE_ok hc, if_neg (by omega)], by rw [showE_1 hc, s1]; rfl, by rw [showE_2 hc, s2]; rfl, fun t => (T t).1, fun e => by omega, fun _ t => ?_, fun e => by omega, fun _ => F2 s2⟩))
    rw [(T t).2]
    have hm := (truth_mem hk t).1
    cases hl : touch m b
    · rfl
    · exact (a1 ⟨_, hm, touch_high hk t hl⟩).elim
  · have s1 := i1.2 a1
    have s2 := i2.2 a2
    exact .inr (.inr (.inr ⟨by rw [callV_ok hc, h], by rw [callE_ok hc, if_neg (by omega)], by rw [showE_1 hc, s1]; rfl, by rw [showE_2 hc, s2]; rfl, fun t => (T t).1, fun e => by omega, fun e => by omega, fun _ => F1 s1, fun _ => F2 s2⟩))
end L
end Go.Proofs.Ytgnobonhohfofaa

namespace Go.Proofs.Ytgnobonhohfofaa
open Go.RowKit
attribute [local go_sem ↓] Go.wp_at_zero Go.wp_at_succ

namespace L
theorem truths_mem {v : Vw} {m : Mk} (h : m ∈ truths v) : ∃ c ∈ tcents v 0, m.x = c.1 ∧ m.y = c.2 ∧ v.hxl ≤ m.hx ∧ m.hx ≤ v.hxh ∧ v.hyl ≤ m.hy ∧ m.hy ≤ v.hyh := by
  unfold truths trC at h
  obtain ⟨k, hk, h⟩ := List.mem_flatMap.1 h
  obtain ⟨c, hc, rfl⟩ := List.mem_map.1 hk
  unfold trA at h
  obtain ⟨i, hi, h⟩ := List.mem_flatMap.1 h
  unfold trB at h
  obtain ⟨j, hj, rfl⟩ := List.mem_map.1 h
  rw [List.mem_range] at hi hj
  unfold nA at hi
  unfold nB at hj
  exact ⟨c, hc, rfl, rfl, by dsimp only; omega, by dsimp only; omega, by dsimp only; omega, by dsimp only; omega⟩
theorem truths_of {v : Vw} {c : Int × Int} (hc : c ∈ tcents v 0) {p q : Int} (h1 : v.hxl ≤ p) (h2 : p ≤ v.hxh) (h3 : v.hyl ≤ q) (h4 : q ≤ v.hyh) : (⟨c.1, c.2, p, q⟩ : Mk) ∈ truths v := by
  unfold truths trC
  refine List.mem_flatMap.2 ⟨mk0 c, List.mem_map.2 ⟨c, hc, rfl⟩, ?_⟩
  unfold trA
  refine List.mem_flatMap.2 ⟨(p - v.hxl).toNat, List.mem_range.2 (by unfold nA; omega), ?_⟩
  unfold trB
  refine List.mem_map.2 ⟨(q - v.hyl).toNat, List.mem_range.2 (by unfold nB; omega), ?_⟩
  have e1 : v.hxl + ((p - v.hxl).toNat : Int) = p := by omega
  have e2 : v.hyl + ((q - v.hyl).toNat : Int) = q := by omega
  rw [e1, e2]
  rfl
def cntT (b : Bx) (l : List Mk) : Nat := (l.filter fun m => touch m b).length
theorem cntT_le (b : Bx) (l : List Mk) : cntT b l ≤ l.length := List.length_filter_le _ _
theorem cntT_next (b : Bx) {l : List Mk} {i : Nat} {m : Mk} (h : l[i]? = some m) : cntT b (l.take (i + 1)) = cntT b (l.take i) + (if touch m b then 1 else 0) := by
  unfold cntT
  rw [List.take_add_one, h, Option.toList_some, List.filter_append, List.length_append]
  congr 1
  cases ht : touch m b <;> simp [List.filter_cons, ht]
def callR (l : List Mk) (b : Bx) : Int := if l.length = 0 then 0 else if cntT b l = l.length then 1 else if cntT b l = 0 then 2 else 3
theorem callR_eq {v : Vw} (hv : VwW v) (b : Bx) : callR (truths v) b = callOf v b 0 := by
  have lowT : ∀ m ∈ truths v, ¬ outAt' v b 0 → touch m b = true := fun m hm ho => by
    obtain ⟨c, hc, e1, e2, h1, h2, h3, h4⟩ := truths_mem hm
    cases hl : touch ⟨c.1, c.2, v.hxl, v.hyl⟩ b
    · exact (ho ⟨c, hc, hl⟩).elim
    · obtain ⟨x, y, p, q⟩ := m
      dsimp only at e1 e2 h1 h3
      subst e1 e2
      exact touch_axes hv.x0 hv.y0 h1 h3 hl
  have highF : ∀ m ∈ truths v, ¬ inAt' v b 0 → touch m b = false := fun m hm ho => by
    obtain ⟨c, hc, e1, e2, h1, h2, h3, h4⟩ := truths_mem hm
    cases hl : touch m b
    · rfl
    · refine (ho ⟨c, hc, ?_⟩).elim
      obtain ⟨x, y, p, q⟩ := m
      dsimp only at e1 e2 h1 h2 h3 h4
      subst e1 e2
      exact touch_axes (by have := hv.x0; omega) (by have := hv.y0; omega) h2 h4 hl
  have inM : inAt' v b 0 → ∃ m ∈ truths v, touch m b = true := fun ⟨c, hc, h⟩ => ⟨_, truths_of hc hv.xx (Int.le_refl _) hv.yy (Int.le_refl _), h⟩
  have outM : outAt' v b 0 → ∃ m ∈ truths v, touch m b = false := fun ⟨c, hc, h⟩ => ⟨_, truths_of hc (Int.le_refl _) hv.xx (Int.le_refl _) hv.yy, h⟩
  have pos : ∀ m ∈ truths v, (truths v).length ≠ 0 := fun m hm e => by rw [List.eq_nil_of_length_eq_zero e] at hm; cases hm
  have all : (∀ m ∈ truths v, touch m b = true) → cntT b (truths v) = (truths v).length := fun h => List.length_filter_eq_length_iff.2 (by simpa using h)
  have none : (∀ m ∈ truths v, touch m b = false) → cntT b (truths v) = 0 := fun h => by
    unfold cntT
    rw [List.length_eq_zero_iff, List.filter_eq_nil_iff]
    intro m hm
    rw [h m hm]
    decide
  unfold callR
  rcases call_cases v b 0 with ⟨e, h1, h2⟩ | ⟨e, h1, h2⟩ | ⟨e, h1, h2⟩ | ⟨e, h1, h2⟩
  · rw [e, if_pos]
    rcases hl : truths v with _ | ⟨m, r⟩
    · rfl
    · have hm : m ∈ truths v := by rw [hl]; simp
      have a1 := lowT m hm h2
      have a2 := highF m hm h1
      rw [a1] at a2
      cases a2
  · obtain ⟨m, hm, _⟩ := inM h1
    rw [e, if_neg (pos m hm), if_pos (all (fun m hm => lowT m hm h2))]
  · obtain ⟨m, hm, _⟩ := outM h2
    have := none (fun m hm => highF m hm h1)
    have hp := pos m hm
    rw [e, if_neg hp, if_neg (by omega), if_pos this]
  · obtain ⟨m, hm, ht⟩ := inM h1
    obtain ⟨m', hm', ht'⟩ := outM h2
    have a1 : cntT b (truths v) ≠ (truths v).length := fun h => by
      have := List.length_filter_eq_length_iff.1 h m' hm'
      rw [ht'] at this
      cases this
    have a2 : cntT b (truths v) ≠ 0 := fun h => by
      unfold cntT at h
      rw [List.length_eq_zero_iff, List.filter_eq_nil_iff] at h
      exact h m hm ht
    rw [e, if_neg (pos m hm), if_neg a1, if_neg a2]
theorem truths_ok {v : Vw} (hv : VwW v) {m : Mk} (h : m ∈ truths v) : MkOk m := by
  obtain ⟨c, hc, e1, e2, h1, h2, h3, h4⟩ := truths_mem h
  unfold tcents at hc
  obtain ⟨a1, a2, a3, a4⟩ := mem_cents (List.mem_filter.1 hc).1
  have := hv.s0; have := hv.s1; have := hv.x0; have := hv.x1; have := hv.y0; have := hv.y1
  exact ⟨by omega, by omega, by omega, by omega, by omega, by omega, by omega, by omega⟩
theorem truths_len {v : Vw} (hv : VwW v) : (truths v).length ≤ 200000 := by
  unfold truths
  rw [trC_len, List.length_map]
  have h1 : (tcents v 0).length ≤ (cents v.size.toNat).length := List.length_filter_le _ _
  rw [cents_length] at h1
  have h2 : v.size.toNat + 1 ≤ 41 := by have := hv.s0; have := hv.s1; omega
  have h3 := Nat.mul_le_mul h2 h2
  have hnA : nA v ≤ 9 := by unfold nA; have := hv.x0; have := hv.x1; omega
  have hnB : nB v ≤ 9 := by unfold nB; have := hv.y0; have := hv.y1; omega
  have h4 := Nat.mul_le_mul hnA hnB
  have h5 := Nat.mul_le_mul (show (tcents v 0).length ≤ 1681 by omega) h4
  omega
end L

set_option maxRecDepth 100000 in
set_option maxHeartbeats 6400000 in
theorem refcall_any (v : L.Vw) (A : Option Addr) (n c : Nat) (b : L.Bx) (w : World) (hv : L.VwW v) (hb : L.BxOk b) (hn : v.ss.length = n) (hr : RdS w w.heap.size A v.ss) :
    Calls Try.prog 67 #[.agg #[.int .i64 v.size, .slice A n c, .int .i64 v.wrong, .int .i64 v.hxl, .int .i64 v.hxh, .int .i64 v.hyl, .int .i64 v.hyh], .agg #[.int .i64 b.l, .int .i64 b.r, .int .i64 b.b, .int .i64 b.t]] w fun e w' => e = .returned (.int .i64 (L.callOf v b 0)) ∧ Below w.heap.size w w' := by
  have HN := hide hn
  have HR := hide hr
  have HV := hide hv
  have HB := hide hb
  have HE := hide (L.callR_eq hv b)
  obtain ⟨tl, htl⟩ : ∃ tl, L.truths v = tl := ⟨_, rfl⟩
  have HTL := hide htl
  have hlen : tl.length ≤ 200000 := by rw [← htl]; exact L.truths_len hv
  have HOKS := hide (show ∀ m ∈ tl, L.MkOk m from fun m hm => L.truths_ok hv (by rw [htl]; exact hm))
  clear hn hr hv hb
  rw [htl] at HE
  clear htl
  go_enter Try.func67, Try.ntmps67
  go_upto_region 1 with fail
  obtain ⟨W0, hW0⟩ : ∃ W0, (w.alloc (.cells #[.int .i64 v.size, .slice A n c, .int .i64 v.wrong, .int .i64 v.hxl, .int .i64 v.hxh, .int .i64 v.hyl, .int .i64 v.hyh] 26)).alloc (.cells #[.int .i64 b.l, .int .i64 b.r, .int .i64 b.b, .int .i64 b.t] 28) = W0 := ⟨_, rfl⟩
  have gp : W0.heap[w.heap.size]? = some (.cells #[.int .i64 v.size, .slice A n c, .int .i64 v.wrong, .int .i64 v.hxl, .int .i64 v.hxh, .int .i64 v.hyl, .int .i64 v.hyh] 26 (0, 0)) := by
    rw [← hW0]; exact (Below.heap_alloc _ _ _ (by first | (simp; done) | (simp; omega) | omega)).trans (World.alloc_heap_new _ _)
  have gq : W0.heap[w.heap.size + 1]? = some (.cells #[.int .i64 b.l, .int .i64 b.r, .int .i64 b.b, .int .i64 b.t] 28 (0, 0)) := by
    rw [← hW0]; exact blk_new2
  have gs : W0.heap.size = w.heap.size + 1 + 1 := by rw [← hW0]; simp
  have gB : Below w.heap.size w W0 := by rw [← hW0]; (repeat' first | exact zbR _ _ | assumption | refine zbD ?_ | refine zbA ?_ ?_ _ | refine zbS ?_ ?_ _ | refine zbT ?_ (by assumption) ?_ | (simp; done) | (simp; omega) | omega)
  rw [hW0]
  clear hW0
  obtain ⟨p, hp⟩ : ∃ p, w.heap.size = p := ⟨_, rfl⟩
  obtain ⟨q, hq⟩ : ∃ q, w.heap.size + 1 = q := ⟨_, rfl⟩
  rw [hq, hp]
  rw [hp] at gp
  rw [hq] at gq
  have lp : p < W0.heap.size := by omega
  have lq : q < W0.heap.size := by omega
  have HR0 := hide ((HR.out.below gB).mono gB.size)
  have GB := hide gB
  have GQ := hide gq
  have cp0 := (blk_cell gp 0).trans rfl; have cp1 := (blk_cell gp 1).trans rfl; have cp2 := (blk_cell gp 2).trans rfl; have cp3 := (blk_cell gp 3).trans rfl; have cp4 := (blk_cell gp 4).trans rfl; have cp5 := (blk_cell gp 5).trans rfl; have cp6 := (blk_cell gp 6).trans rfl
  clear gp gq gB gs hp hq HR
  go_wp2_with (go_at_call 73; refine (refTruths_any v A n c _ HV.out HN.out HR0.out).mono ?_; rintro e w2 ⟨svt, ct, rfl, hownt, hb2⟩; rw [HTL.out] at hownt ⊢)
  have GQ2 := hide ((hb2.block q lq).trans GQ.out)
  have GB2 := hide (GB.out.trans (hb2.mono GB.out.size))
  have q2 := hb2.size
  have lq2 : q < w2.heap.size := by omega
  have HT2 := hide hownt
  clear cp0 cp1 cp2 cp3 cp4 cp5 cp6 hownt hb2 lp lq q2 GQ GB HR0
  go_loopw [6, 7] (fun m t wr => ∃ i : Nat, i ≤ tl.length ∧ t = .int .i64 i ∧ m = .int .i64 (L.cntT b (tl.take i) : Int) ∧ Below w2.heap.size w2 wr) (fun _ t _ => tl.length - (intOf t).toNat)
  case atStart => exact ⟨0, by omega, rfl, by simp [L.cntT], Below.refl _ _⟩
  case round =>
    obtain ⟨i, hi, rfl, rfl, hB⟩ := hrel
    have qB := hB.size
    have hi0 : (0 : Int) ≤ (i : Int) := by omega
    have hcl := L.cntT_le b (tl.take i)
    rw [List.length_take] at hcl
    by_cases hlt : i < tl.length
    · obtain ⟨tm, htm⟩ : ∃ tm, tl[i]? = some tm := ⟨_, List.getElem?_eq_getElem hlt⟩
      obtain ⟨g, cap, e, hbg, hgl⟩ := HT2.out.form (by omega)
      have e' : svt = some ⟨g, 0, none⟩ ∧ ct = cap := by
        simp only [Value.slice.injEq] at e
        exact ⟨e.1, e.2.2⟩
      obtain ⟨rfl, rfl⟩ := e'
      obtain ⟨m0, m1, m2, m3⟩ := flatM_at htm
      have s0 := (hB.cell (p := ⟨g, i * 4, none⟩) hgl).trans ((HT2.out.cellAt (i * 4) (by omega)).trans m0)
      have s1 := (hB.cell (p := ⟨g, i * 4 + 1, none⟩) hgl).trans ((HT2.out.cellAt (i * 4 + 1) (by omega)).trans m1)
      have s2 := (hB.cell (p := ⟨g, i * 4 + 1 + 1, none⟩) hgl).trans ((HT2.out.cellAt (i * 4 + 1 + 1) (by omega)).trans m2)
      have s3 := (hB.cell (p := ⟨g, i * 4 + 1 + 1 + 1, none⟩) hgl).trans ((HT2.out.cellAt (i * 4 + 1 + 1 + 1) (by omega)).trans m3)
      have bq := (hB.block q lq2).trans GQ2.out
      have hlt' : (i : Int) < (tl.length : Int) := by omega
      have HTM := hide (HOKS.out tm (List.mem_of_getElem? htm))
      have HNX := hide (L.cntT_next b htm)
      have lgr : g < wr.heap.size := by omega
      have lqr : q < wr.heap.size := by omega
      have hc0 : (0 : Int) ≤ (L.cntT b (tl.take i) : Int) := by omega
      have hc1 : (L.cntT b (tl.take i) : Int) ≤ 200000 := by omega
      have cq0 := (blk_cell bq 0).trans rfl; have cq1 := (blk_cell bq 1).trans rfl; have cq2 := (blk_cell bq 2).trans rfl; have cq3 := (blk_cell bq 3).trans rfl
      clear e m0 m1 m2 m3 bq htm hcl
      go_upto_region 6 with fail
      have hS : (fun w' => Below wr.heap.size wr w' ∧ q < w'.heap.size ∧ g < w'.heap.size ∧ w'.cell? ⟨q, 0, none⟩ = some (.int .i64 b.l) ∧ w'.cell? ⟨q, 1, none⟩ = some (.int .i64 b.r) ∧ w'.cell? ⟨q, 2, none⟩ = some (.int .i64 b.b) ∧ w'.cell? ⟨q, 3, none⟩ = some (.int .i64 b.t) ∧ w'.cell? ⟨g, i * 4, none⟩ = some (.int .i64 tm.x) ∧ w'.cell? ⟨g, i * 4 + 1, none⟩ = some (.int .i64 tm.y) ∧ w'.cell? ⟨g, i * 4 + 1 + 1, none⟩ = some (.int .i64 tm.hx) ∧ w'.cell? ⟨g, i * 4 + 1 + 1 + 1, none⟩ = some (.int .i64 tm.hy)) wr := ⟨Below.refl _ _, lqr, lgr, cq0, cq1, cq2, cq3, s0, s1, s2, s3⟩
      have HB1 := hide hB
      obtain ⟨W1, hW1⟩ : ∃ W1, wr = W1 := ⟨_, rfl⟩
      rw [hW1] at hS HB1 ⊢
      clear hW1 hB qB lqr lgr cq0 cq1 cq2 cq3 s0 s1 s2 s3
      have hkeep : ∀ u u' : World, Below u.heap.size u u' → (Below W1.heap.size W1 u ∧ q < u.heap.size ∧ g < u.heap.size ∧ u.cell? ⟨q, 0, none⟩ = some (.int .i64 b.l) ∧ u.cell? ⟨q, 1, none⟩ = some (.int .i64 b.r) ∧ u.cell? ⟨q, 2, none⟩ = some (.int .i64 b.b) ∧ u.cell? ⟨q, 3, none⟩ = some (.int .i64 b.t) ∧ u.cell? ⟨g, i * 4, none⟩ = some (.int .i64 tm.x) ∧ u.cell? ⟨g, i * 4 + 1, none⟩ = some (.int .i64 tm.y) ∧ u.cell? ⟨g, i * 4 + 1 + 1, none⟩ = some (.int .i64 tm.hx) ∧ u.cell? ⟨g, i * 4 + 1 + 1 + 1, none⟩ = some (.int .i64 tm.hy)) → (Below W1.heap.size W1 u' ∧ q < u'.heap.size ∧ g < u'.heap.size ∧ u'.cell? ⟨q, 0, none⟩ = some (.int .i64 b.l) ∧ u'.cell? ⟨q, 1, none⟩ = some (.int .i64 b.r) ∧ u'.cell? ⟨q, 2, none⟩ = some (.int .i64 b.b) ∧ u'.cell? ⟨q, 3, none⟩ = some (.int .i64 b.t) ∧ u'.cell? ⟨g, i * 4, none⟩ = some (.int .i64 tm.x) ∧ u'.cell? ⟨g, i * 4 + 1, none⟩ = some (.int .i64 tm.y) ∧ u'.cell? ⟨g, i * 4 + 1 + 1, none⟩ = some (.int .i64 tm.hx) ∧ u'.cell? ⟨g, i * 4 + 1 + 1 + 1, none⟩ = some (.int .i64 tm.hy)) := by
        rintro u u' hb ⟨hB, l_q, l_g, k0, k1, k2, k3, k4, k5, k6, k7⟩
        exact ⟨hB.trans (hb.mono hB.size), Nat.lt_of_lt_of_le l_q hb.size, Nat.lt_of_lt_of_le l_g hb.size, (hb.cell (p := ⟨q, 0, none⟩) l_q).trans k0, (hb.cell (p := ⟨q, 1, none⟩) l_q).trans k1, (hb.cell (p := ⟨q, 2, none⟩) l_q).trans k2, (hb.cell (p := ⟨q, 3, none⟩) l_q).trans k3, (hb.cell (p := ⟨g, i * 4, none⟩) l_g).trans k4, (hb.cell (p := ⟨g, i * 4 + 1, none⟩) l_g).trans k5, (hb.cell (p := ⟨g, i * 4 + 1 + 1, none⟩) l_g).trans k6, (hb.cell (p := ⟨g, i * 4 + 1 + 1 + 1, none⟩) l_g).trans k7⟩
      (try dsimp only at hS)
      refine wp_region_held_drew (S := (fun w' => Below W1.heap.size W1 w' ∧ q < w'.heap.size ∧ g < w'.heap.size ∧ w'.cell? ⟨q, 0, none⟩ = some (.int .i64 b.l) ∧ w'.cell? ⟨q, 1, none⟩ = some (.int .i64 b.r) ∧ w'.cell? ⟨q, 2, none⟩ = some (.int .i64 b.b) ∧ w'.cell? ⟨q, 3, none⟩ = some (.int .i64 b.t) ∧ w'.cell? ⟨g, i * 4, none⟩ = some (.int .i64 tm.x) ∧ w'.cell? ⟨g, i * 4 + 1, none⟩ = some (.int .i64 tm.y) ∧ w'.cell? ⟨g, i * 4 + 1 + 1, none⟩ = some (.int .i64 tm.hx) ∧ w'.cell? ⟨g, i * 4 + 1 + 1 + 1, none⟩ = some (.int .i64 tm.hy))) (by kernel_rfl) ?_ (fun hHeld0 => ?_)
      · (try dsimp only); (first | (go_keep; done) | (go_split_ands; (repeat' apply And.intro) <;> first | (go_keep; done) | (simp [*, zcA, zcP, zfA, zfP]; done) | (simp [zcA, zcP] <;> rfl) | (simp [*, zsS, zsO, zsA]; done) | ((first | refine (hc _ _ ?_).trans ?_ | refine (hf _ _ ?_).trans ?_) <;> first | assumption | (simp; done) | (simp; omega) | omega | (go_keep; done) | (simp [*, zcA, zcP, zfA, zfP]; done) | (simp [zcA, zcP]; rfl)) | (repeat' first | exact zbR _ _ | assumption | refine zbD ?_ | refine zbA ?_ ?_ _ | refine zbS ?_ ?_ _ | refine zbT ?_ (by assumption) ?_ | (simp; done) | (simp; omega) | omega)))
      refine tL (v := ?_) 0 rfl (by kernel_rfl) (fun _ _ _ h => h) (Or.inl ⟨by rfl, ?_⟩) (by assumption) ?_; rotate_left
      · (intro w hSw; (try dsimp only at hSw); go_simp; try with_reducible rfl)
      try simp only [Act.put, zl, z0, z1]
      refine tL (v := ?_) 1 rfl (by kernel_rfl) (fun _ _ _ h => h) (Or.inl ⟨by rfl, ?_⟩) (by assumption) ?_; rotate_left
      · (intro w hSw; (try dsimp only at hSw); go_simp; try with_reducible rfl)
      try simp only [Act.put, zl, z0, z1]
      refine tL (v := ?_) 2 rfl (by kernel_rfl) (fun _ _ _ h => h) (Or.inl ⟨by rfl, ?_⟩) (by assumption) ?_; rotate_left
      · (intro w hSw; (try dsimp only at hSw); go_simp; try with_reducible rfl)
      try simp only [Act.put, zl, z0, z1]
      refine tL (v := ?_) 3 rfl (by kernel_rfl) (fun _ _ _ h => h) (Or.inl ⟨by rfl, ?_⟩) (by assumption) ?_; rotate_left
      · (intro w hSw; (try dsimp only at hSw); go_simp; try with_reducible rfl)
      try simp only [Act.put, zl, z0, z1]
      refine tL (v := ?_) 4 rfl (by kernel_rfl) (fun _ _ _ h => h) (Or.inl ⟨by rfl, ?_⟩) (by assumption) ?_; rotate_left
      · (intro w hSw; (try dsimp only at hSw); go_simp; try with_reducible rfl)
      try simp only [Act.put, zl, z0, z1]
      refine wpAnyH_ready (rs := [5]) (by kernel_rfl) (by simp) ?_
      refine consL 5 rfl (fun K hK => ?_) AllReadyH.nil
      go_simp
      (go_at_call 21; refine (refTouch_any tm b _ HB.out HTM.out).mono ?_; rintro e w6 ⟨rfl, hb⟩; have hSn := hkeep _ _ hb (by assumption); (try clear hS); have hS := hSn; clear hSn)
      refine hK.out _ _ ?_ (fun hHeld1 => ?_)
      · (try dsimp only); exact hS
      clear hK K hHeld0
      try simp only [Act.put, zl, z0, z1]
      refine wpAnyH_done (by kernel_rfl) ?_ _
      obtain ⟨hB6, _, _, _⟩ := hS
      have HB6 := hide (HB1.out.trans (hB6.mono HB1.out.size))
      clear hkeep hHeld1 hB6
      cases ht : L.touch tm b
      all_goals
        rw [ht] at HNX
        go_wp2_with fail
        go_roundw
        case rel => exact ⟨i + 1, by omega, by go_num, by (first | (rw [HNX.out]; simp; done) | (rw [HNX.out]; go_num)), HB6.out⟩
        case measure => simp [intOf]; omega
    · have hin : i = tl.length := by omega
      subst hin
      have hT := List.take_of_length_le (Nat.le_refl tl.length)
      rw [hT] at hcl ⊢
      obtain ⟨cn, hcn⟩ : ∃ cn, L.cntT b tl = cn := ⟨_, rfl⟩
      obtain ⟨ln, hln⟩ : ∃ ln, tl.length = ln := ⟨_, rfl⟩
      unfold L.callR at HE
      rw [hcn, hln] at HE
      rw [hcn, hln] at hcl
      rw [hcn]
      simp only [hln]
      have HLN := hide hln
      clear hT hcn hln hlen hlt hi
      by_cases e0 : ln = 0
      · rw [if_pos e0] at HE
        subst e0
        go_wp2_with fail
        go_ret
        exact ⟨by rw [← HE.out]; rfl, GB2.out.trans (hB.mono GB2.out.size)⟩
      · rw [if_neg e0] at HE
        have d0 : ((ln : Int) == 0) = false := by simp only [beq_eq_false_iff_ne, ne_eq]; omega
        by_cases e1 : cn = ln
        · rw [if_pos e1] at HE
          subst e1
          go_wp2_with fail
          go_ret
          exact ⟨by rw [← HE.out]; rfl, GB2.out.trans (hB.mono GB2.out.size)⟩
        · rw [if_neg e1] at HE
          have d1 : ((cn : Int) == (ln : Int)) = false := by simp only [beq_eq_false_iff_ne, ne_eq]; omega
          by_cases e2 : cn = 0
          · rw [if_pos e2] at HE
            subst e2
            go_wp2_with fail
            go_ret
            exact ⟨by rw [← HE.out]; rfl, GB2.out.trans (hB.mono GB2.out.size)⟩
          · rw [if_neg e2] at HE
            have d2 : ((cn : Int) == 0) = false := by simp only [beq_eq_false_iff_ne, ne_eq]; omega
            go_wp2_with fail
            go_ret
            exact ⟨by rw [← HE.out]; rfl, GB2.out.trans (hB.mono GB2.out.size)⟩

end Go.Proofs.Ytgnobonhohfofaa

namespace Go.Proofs.Ytgnobonhohfofaa
open Go.RowKit
attribute [local go_sem ↓] Go.wp_at_zero Go.wp_at_succ


set_option maxRecDepth 100000 in
set_option maxHeartbeats 3200000 in
theorem refCall_any (v : L.Vw) (A : Option Addr) (n c : Nat) (b : L.Bx) (w : World) (hn : v.ss.length = n) (hr : RdS w w.heap.size A v.ss) :
    Calls Try.prog 41 #[.agg #[.int .i64 v.size, .slice A n c, .int .i64 v.wrong, .int .i64 v.hxl, .int .i64 v.hxh, .int .i64 v.hyl, .int .i64 v.hyh], .agg #[.int .i64 b.l, .int .i64 b.r, .int .i64 b.b, .int .i64 b.t]] w fun e w' => e = .returned (.tuple #[.int .i64 (L.callV v b), .int .i64 (L.callE v b)]) ∧ Below w.heap.size w w' := by
  have HN := hide hn
  have HR := hide hr
  clear hn hr
  rcases L.checkBE_cases v b with h | h | h
  · obtain ⟨hv, hb⟩ := L.checkBE_ok h
    have HV := hide hv
    have HB := hide hb
    have H := hide h
    clear hv hb h
    have E1 := hide (show L.callV v b = L.callOf v b 0 by unfold L.callV; rw [if_pos H.out])
    by_cases h0 : L.callOf v b 0 = 0
    · have E2 := hide (show L.callE v b = 3 by unfold L.callE; rw [if_pos H.out, if_pos h0])
      have H0 := hide h0
      clear h0
      go_enter Try.func41, Try.ntmps41
      go_wp2_with (first | (go_at_call 66; refine (checkBox_any v A n c b _ HN.out ((HR.out.below (by (repeat' first | exact zbR _ _ | assumption | refine zbD ?_ | refine zbA ?_ ?_ _ | refine zbS ?_ ?_ _ | refine zbT ?_ (by assumption) ?_ | (simp; done) | (simp; omega) | omega))).mono (by first | (simp; done) | (simp; omega) | omega))).mono ?_; rintro e w2 ⟨rfl, hb2⟩; rw [H.out]; obtain ⟨hc2, hf2⟩ := bcell hb2; have q2 := hb2.size; (try simp only [World.size_alloc] at q2); have z2_0 : w.heap.size < w2.heap.size := (by omega); have z2_1 : w.heap.size + 1 < w2.heap.size := (by omega)) | (go_at_call 67; refine (refcall_any v A n c b _ HV.out.w HB.out HN.out ((HR.out.below (by (repeat' first | exact zbR _ _ | assumption | refine zbD ?_ | refine zbA ?_ ?_ _ | refine zbS ?_ ?_ _ | refine zbT ?_ (by assumption) ?_ | (simp; done) | (simp; omega) | omega))).mono (by first | (simp; done) | (simp; omega) | omega))).mono ?_; rintro e w3 ⟨rfl, hb3⟩; rw [H0.out]))
      go_ret2
      exact ⟨by rw [E1.out, E2.out, H0.out]; rfl, by (repeat' first | exact zbR _ _ | assumption | refine zbD ?_ | refine zbA ?_ ?_ _ | refine zbS ?_ ?_ _ | refine zbT ?_ (by assumption) ?_ | (simp; done) | (simp; omega) | omega)⟩
    · have E2 := hide (show L.callE v b = 0 by unfold L.callE; rw [if_pos H.out, if_neg h0])
      have d0 : (L.callOf v b 0 == 0) = false := by simpa using h0
      clear h0
      go_enter Try.func41, Try.ntmps41
      go_wp2_with (first | (go_at_call 66; refine (checkBox_any v A n c b _ HN.out ((HR.out.below (by (repeat' first | exact zbR _ _ | assumption | refine zbD ?_ | refine zbA ?_ ?_ _ | refine zbS ?_ ?_ _ | refine zbT ?_ (by assumption) ?_ | (simp; done) | (simp; omega) | omega))).mono (by first | (simp; done) | (simp; omega) | omega))).mono ?_; rintro e w2 ⟨rfl, hb2⟩; rw [H.out]; obtain ⟨hc2, hf2⟩ := bcell hb2; have q2 := hb2.size; (try simp only [World.size_alloc] at q2); have z2_0 : w.heap.size < w2.heap.size := (by omega); have z2_1 : w.heap.size + 1 < w2.heap.size := (by omega)) | (go_at_call 67; refine (refcall_any v A n c b _ HV.out.w HB.out HN.out ((HR.out.below (by (repeat' first | exact zbR _ _ | assumption | refine zbD ?_ | refine zbA ?_ ?_ _ | refine zbS ?_ ?_ _ | refine zbT ?_ (by assumption) ?_ | (simp; done) | (simp; omega) | omega))).mono (by first | (simp; done) | (simp; omega) | omega))).mono ?_; rintro e w3 ⟨rfl, hb3⟩))
      go_ret2
      exact ⟨by rw [E1.out, E2.out]; rfl, by (repeat' first | exact zbR _ _ | assumption | refine zbD ?_ | refine zbA ?_ ?_ _ | refine zbS ?_ ?_ _ | refine zbT ?_ (by assumption) ?_ | (simp; done) | (simp; omega) | omega)⟩
  all_goals
    have E1 := hide (show L.callV v b = 0 by unfold L.callV; rw [if_neg (by omega)])
    have E2 := hide (show L.callE v b = L.checkBE v b by unfold L.callE; rw [if_neg (by omega)])
    have H := hide h
    clear h
    go_enter Try.func41, Try.ntmps41
    go_wp2_with (first | (go_at_call 66; refine (checkBox_any v A n c b _ HN.out ((HR.out.below (by (repeat' first | exact zbR _ _ | assumption | refine zbD ?_ | refine zbA ?_ ?_ _ | refine zbS ?_ ?_ _ | refine zbT ?_ (by assumption) ?_ | (simp; done) | (simp; omega) | omega))).mono (by first | (simp; done) | (simp; omega) | omega))).mono ?_; rintro e w2 ⟨rfl, hb2⟩; rw [H.out]; obtain ⟨hc2, hf2⟩ := bcell hb2; have q2 := hb2.size; (try simp only [World.size_alloc] at q2); have z2_0 : w.heap.size < w2.heap.size := (by omega); have z2_1 : w.heap.size + 1 < w2.heap.size := (by omega)))
    go_ret2
    exact ⟨by rw [E1.out, E2.out, H.out]; rfl, by (repeat' first | exact zbR _ _ | assumption | refine zbD ?_ | refine zbA ?_ ?_ _ | refine zbS ?_ ?_ _ | refine zbT ?_ (by assumption) ?_ | (simp; done) | (simp; omega) | omega)⟩

theorem L.not_sure {c : Int} (h : L.sure c = false) : (c == 1) = false ∧ (c == 2) = false := by
  unfold L.sure at h
  simpa using h
theorem L.is_sure {c : Int} (h : L.sure c = true) : c = 1 ∨ c = 2 := by
  unfold L.sure at h
  simpa using h

set_option maxRecDepth 100000 in
set_option maxHeartbeats 3200000 in
theorem refDecide_any (said : Int) (v : L.Vw) (A : Option Addr) (n c : Nat) (b : L.Bx) (w : World) (hn : v.ss.length = n) (hr : RdS w w.heap.size A v.ss) :
    Calls Try.prog 43 #[.int .i64 said, .agg #[.int .i64 v.size, .slice A n c, .int .i64 v.wrong, .int .i64 v.hxl, .int .i64 v.hxh, .int .i64 v.hyl, .int .i64 v.hyh], .agg #[.int .i64 b.l, .int .i64 b.r, .int .i64 b.b, .int .i64 b.t]] w fun e w' => e = .returned (.tuple #[.int .i64 (L.decV said v b), .bool (L.decK said v b), .int .i64 (L.decE said v b)]) ∧ Below w.heap.size w w' := by
  have HN := hide hn
  have HR := hide hr
  clear hn hr
  rcases L.checkBE_cases v b with h | h | h
  · obtain ⟨hv, hb⟩ := L.checkBE_ok h
    have HV := hide hv
    have HB := hide hb
    have H := hide h
    clear hv hb h
    cases hs : L.sure said
    · have E1 := hide (show L.decV said v b = 0 by unfold L.decV; rw [if_pos H.out, hs]; rfl)
      have E2 := hide (show L.decK said v b = false by unfold L.decK; rw [if_pos H.out, hs]; rfl)
      have E3 := hide (show L.decE said v b = 22 by unfold L.decE; rw [if_pos H.out, hs]; rfl)
      obtain ⟨d1, d2⟩ := L.not_sure hs
      have d3 : (said != 1) = true := by simp only [bne, d1]; rfl
      have d4 : (said != 2) = true := by simp only [bne, d2]; rfl
      clear hs
      go_enter Try.func43, Try.ntmps43
      go_wp2_with (first | (go_at_call 66; refine (checkBox_any v A n c b _ HN.out ((HR.out.below (by (repeat' first | exact zbR _ _ | assumption | refine zbD ?_ | refine zbA ?_ ?_ _ | refine zbS ?_ ?_ _ | refine zbT ?_ (by assumption) ?_ | (simp; done) | (simp; omega) | omega))).mono (by first | (simp; done) | (simp; omega) | omega))).mono ?_; rintro e w2 ⟨rfl, hb2⟩; rw [H.out]; obtain ⟨hc2, hf2⟩ := bcell hb2; have q2 := hb2.size; (try simp only [World.size_alloc] at q2); have z2_0 : w.heap.size < w2.heap.size := (by omega); have z2_1 : w.heap.size + 1 < w2.heap.size := (by omega)))
      go_ret3
      exact ⟨by rw [E1.out, E2.out, E3.out]; rfl, by (repeat' first | exact zbR _ _ | assumption | refine zbD ?_ | refine zbA ?_ ?_ _ | refine zbS ?_ ?_ _ | refine zbT ?_ (by assumption) ?_ | (simp; done) | (simp; omega) | omega)⟩
    · have hs' := L.is_sure hs
      obtain ⟨cv, hcv⟩ : ∃ cv, L.callOf v b 0 = cv := ⟨_, rfl⟩
      have HCV := hide hcv
      have hr1 := L.callOf_rng v b 0
      cases hs2 : L.sure (L.callOf v b 0)
      · have E1 := hide (show L.decV said v b = said by unfold L.decV; rw [if_pos H.out, hs, hs2]; rfl)
        have E2 := hide (show L.decK said v b = true by unfold L.decK; rw [if_pos H.out, hs, hs2]; rfl)
        have E3 := hide (show L.decE said v b = 0 by unfold L.decE; rw [if_pos H.out, hs]; rfl)
        rw [hcv] at hs2
        obtain ⟨d1, d2⟩ := L.not_sure hs2
        clear hs hs2 hcv hr1
        rcases hs' with rfl | rfl
        all_goals
          go_enter Try.func43, Try.ntmps43
          go_wp2_with (first | (go_at_call 66; refine (checkBox_any v A n c b _ HN.out ((HR.out.below (by (repeat' first | exact zbR _ _ | assumption | refine zbD ?_ | refine zbA ?_ ?_ _ | refine zbS ?_ ?_ _ | refine zbT ?_ (by assumption) ?_ | (simp; done) | (simp; omega) | omega))).mono (by first | (simp; done) | (simp; omega) | omega))).mono ?_; rintro e w2 ⟨rfl, hb2⟩; rw [H.out]; obtain ⟨hc2, hf2⟩ := bcell hb2; have q2 := hb2.size; (try simp only [World.size_alloc] at q2); have z2_0 : w.heap.size < w2.heap.size := (by omega); have z2_1 : w.heap.size + 1 < w2.heap.size := (by omega)) | (go_at_call 67; refine (refcall_any v A n c b _ HV.out.w HB.out HN.out ((HR.out.below (by (repeat' first | exact zbR _ _ | assumption | refine zbD ?_ | refine zbA ?_ ?_ _ | refine zbS ?_ ?_ _ | refine zbT ?_ (by assumption) ?_ | (simp; done) | (simp; omega) | omega))).mono (by first | (simp; done) | (simp; omega) | omega))).mono ?_; rintro e w3 ⟨rfl, hb3⟩; rw [HCV.out]))
          go_ret3
          exact ⟨by rw [E1.out, E2.out, E3.out]; rfl, by (repeat' first | exact zbR _ _ | assumption | refine zbD ?_ | refine zbA ?_ ?_ _ | refine zbS ?_ ?_ _ | refine zbT ?_ (by assumption) ?_ | (simp; done) | (simp; omega) | omega)⟩
      · have E1 := hide (show L.decV said v b = cv by unfold L.decV; rw [if_pos H.out, hs, hs2, hcv]; rfl)
        have E2 := hide (show L.decK said v b = (cv != said) by unfold L.decK; rw [if_pos H.out, hs, hs2, hcv]; rfl)
        have E3 := hide (show L.decE said v b = 0 by unfold L.decE; rw [if_pos H.out, hs]; rfl)
        rw [hcv] at hs2
        have hs2' := L.is_sure hs2
        clear hs hs2 hcv hr1
        rcases hs' with rfl | rfl <;> rcases hs2' with rfl | rfl
        all_goals
          go_enter Try.func43, Try.ntmps43
          go_wp2_with (first | (go_at_call 66; refine (checkBox_any v A n c b _ HN.out ((HR.out.below (by (repeat' first | exact zbR _ _ | assumption | refine zbD ?_ | refine zbA ?_ ?_ _ | refine zbS ?_ ?_ _ | refine zbT ?_ (by assumption) ?_ | (simp; done) | (simp; omega) | omega))).mono (by first | (simp; done) | (simp; omega) | omega))).mono ?_; rintro e w2 ⟨rfl, hb2⟩; rw [H.out]; obtain ⟨hc2, hf2⟩ := bcell hb2; have q2 := hb2.size; (try simp only [World.size_alloc] at q2); have z2_0 : w.heap.size < w2.heap.size := (by omega); have z2_1 : w.heap.size + 1 < w2.heap.size := (by omega)) | (go_at_call 67; refine (refcall_any v A n c b _ HV.out.w HB.out HN.out ((HR.out.below (by (repeat' first | exact zbR _ _ | assumption | refine zbD ?_ | refine zbA ?_ ?_ _ | refine zbS ?_ ?_ _ | refine zbT ?_ (by assumption) ?_ | (simp; done) | (simp; omega) | omega))).mono (by first | (simp; done) | (simp; omega) | omega))).mono ?_; rintro e w3 ⟨rfl, hb3⟩; rw [HCV.out]))
          go_ret3
          exact ⟨by rw [E1.out, E2.out, E3.out]; rfl, by (repeat' first | exact zbR _ _ | assumption | refine zbD ?_ | refine zbA ?_ ?_ _ | refine zbS ?_ ?_ _ | refine zbT ?_ (by assumption) ?_ | (simp; done) | (simp; omega) | omega)⟩
  all_goals
    have E1 := hide (show L.decV said v b = 0 by unfold L.decV; rw [if_neg (by omega)])
    have E2 := hide (show L.decK said v b = false by unfold L.decK; rw [if_neg (by omega)])
    have E3 := hide (show L.decE said v b = L.checkBE v b by unfold L.decE; rw [if_neg (by omega)])
    have H := hide h
    clear h
    go_enter Try.func43, Try.ntmps43
    go_wp2_with (first | (go_at_call 66; refine (checkBox_any v A n c b _ HN.out ((HR.out.below (by (repeat' first | exact zbR _ _ | assumption | refine zbD ?_ | refine zbA ?_ ?_ _ | refine zbS ?_ ?_ _ | refine zbT ?_ (by assumption) ?_ | (simp; done) | (simp; omega) | omega))).mono (by first | (simp; done) | (simp; omega) | omega))).mono ?_; rintro e w2 ⟨rfl, hb2⟩; rw [H.out]; obtain ⟨hc2, hf2⟩ := bcell hb2; have q2 := hb2.size; (try simp only [World.size_alloc] at q2); have z2_0 : w.heap.size < w2.heap.size := (by omega); have z2_1 : w.heap.size + 1 < w2.heap.size := (by omega)))
    go_ret3
    exact ⟨by rw [E1.out, E2.out, E3.out, H.out]; rfl, by (repeat' first | exact zbR _ _ | assumption | refine zbD ?_ | refine zbA ?_ ?_ _ | refine zbS ?_ ?_ _ | refine zbT ?_ (by assumption) ?_ | (simp; done) | (simp; omega) | omega)⟩

theorem L.find_call (v : L.Vw) (b : L.Bx) : ((L.findC v b 0 1).isSome = (L.callOf v b 0 == 1 || L.callOf v b 0 == 3)) ∧ ((L.findC v b 0 2).isSome = (L.callOf v b 0 == 2 || L.callOf v b 0 == 3)) := by
  unfold L.callOf
  cases h1 : (L.findC v b 0 1).isSome <;> cases h2 : (L.findC v b 0 2).isSome <;> simp

set_option maxRecDepth 100000 in
set_option maxHeartbeats 3200000 in
theorem refCheckShow_any (v : L.Vw) (A : Option Addr) (n c : Nat) (b : L.Bx) (call : Int) (w : World) (hn : v.ss.length = n) (hr : RdS w w.heap.size A v.ss) :
    Calls Try.prog 44 #[.agg #[.int .i64 v.size, .slice A n c, .int .i64 v.wrong, .int .i64 v.hxl, .int .i64 v.hxh, .int .i64 v.hyl, .int .i64 v.hyh], .agg #[.int .i64 b.l, .int .i64 b.r, .int .i64 b.b, .int .i64 b.t], .int .i64 call] w fun e w' => e = .returned (.int .i64 (L.showE v b call)) ∧ Below w.heap.size w w' := by
  have HN := hide hn
  have HR := hide hr
  clear hn hr
  rcases L.checkBE_cases v b with h | h | h
  · obtain ⟨hv, hb⟩ := L.checkBE_ok h
    have HV := hide hv
    have HB := hide hb
    have H := hide h
    clear hv hb h
    cases hs : L.sure call
    · have E1 := hide (show L.showE v b call = 22 by unfold L.showE; rw [if_pos H.out, hs]; rfl)
      obtain ⟨d1, d2⟩ := L.not_sure hs
      have d3 : (call != 1) = true := by simp only [bne, d1]; rfl
      have d4 : (call != 2) = true := by simp only [bne, d2]; rfl
      clear hs
      go_enter Try.func44, Try.ntmps44
      go_wp2_with (first | (go_at_call 66; refine (checkBox_any v A n c b _ HN.out ((HR.out.below (by (repeat' first | exact zbR _ _ | assumption | refine zbD ?_ | refine zbA ?_ ?_ _ | refine zbS ?_ ?_ _ | refine zbT ?_ (by assumption) ?_ | (simp; done) | (simp; omega) | omega))).mono (by first | (simp; done) | (simp; omega) | omega))).mono ?_; rintro e w2 ⟨rfl, hb2⟩; rw [H.out]; obtain ⟨hc2, hf2⟩ := bcell hb2; have q2 := hb2.size; (try simp only [World.size_alloc] at q2); have z2_0 : w.heap.size < w2.heap.size := (by omega); have z2_1 : w.heap.size + 1 < w2.heap.size := (by omega)))
      go_ret
      exact ⟨by rw [E1.out]; rfl, by (repeat' first | exact zbR _ _ | assumption | refine zbD ?_ | refine zbA ?_ ?_ _ | refine zbS ?_ ?_ _ | refine zbT ?_ (by assumption) ?_ | (simp; done) | (simp; omega) | omega)⟩
    · have hs' := L.is_sure hs
      have hr1 := L.callOf_rng v b 0
      have hf := L.find_call v b
      have E1 := show L.showE v b call = if (L.findC v b 0 call).isSome then 0 else 3 by unfold L.showE; rw [if_pos H.out, hs]; rfl
      obtain ⟨cv, hcv⟩ : ∃ cv, L.callOf v b 0 = cv := ⟨_, rfl⟩
      have HCV := hide hcv
      rw [hcv] at hr1 hf
      clear hs hcv
      have hcv4 : cv = 0 ∨ cv = 1 ∨ cv = 2 ∨ cv = 3 := by omega
      rcases hs' with rfl | rfl
      · rw [hf.1] at E1
        clear hf hr1
        rcases hcv4 with rfl | rfl | rfl | rfl
        all_goals
          have EE := hide E1
          clear E1
          go_enter Try.func44, Try.ntmps44
          go_wp2_with (first | (go_at_call 66; refine (checkBox_any v A n c b _ HN.out ((HR.out.below (by (repeat' first | exact zbR _ _ | assumption | refine zbD ?_ | refine zbA ?_ ?_ _ | refine zbS ?_ ?_ _ | refine zbT ?_ (by assumption) ?_ | (simp; done) | (simp; omega) | omega))).mono (by first | (simp; done) | (simp; omega) | omega))).mono ?_; rintro e w2 ⟨rfl, hb2⟩; rw [H.out]; obtain ⟨hc2, hf2⟩ := bcell hb2; have q2 := hb2.size; (try simp only [World.size_alloc] at q2); have z2_0 : w.heap.size < w2.heap.size := (by omega); have z2_1 : w.heap.size + 1 < w2.heap.size := (by omega)) | (go_at_call 67; refine (refcall_any v A n c b _ HV.out.w HB.out HN.out ((HR.out.below (by (repeat' first | exact zbR _ _ | assumption | refine zbD ?_ | refine zbA ?_ ?_ _ | refine zbS ?_ ?_ _ | refine zbT ?_ (by assumption) ?_ | (simp; done) | (simp; omega) | omega))).mono (by first | (simp; done) | (simp; omega) | omega))).mono ?_; rintro e w3 ⟨rfl, hb3⟩; rw [HCV.out]))
          go_ret
          exact ⟨by rw [EE.out]; rfl, by (repeat' first | exact zbR _ _ | assumption | refine zbD ?_ | refine zbA ?_ ?_ _ | refine zbS ?_ ?_ _ | refine zbT ?_ (by assumption) ?_ | (simp; done) | (simp; omega) | omega)⟩
      · rw [hf.2] at E1
        clear hf hr1
        rcases hcv4 with rfl | rfl | rfl | rfl
        all_goals
          have EE := hide E1
          clear E1
          go_enter Try.func44, Try.ntmps44
          go_wp2_with (first | (go_at_call 66; refine (checkBox_any v A n c b _ HN.out ((HR.out.below (by (repeat' first | exact zbR _ _ | assumption | refine zbD ?_ | refine zbA ?_ ?_ _ | refine zbS ?_ ?_ _ | refine zbT ?_ (by assumption) ?_ | (simp; done) | (simp; omega) | omega))).mono (by first | (simp; done) | (simp; omega) | omega))).mono ?_; rintro e w2 ⟨rfl, hb2⟩; rw [H.out]; obtain ⟨hc2, hf2⟩ := bcell hb2; have q2 := hb2.size; (try simp only [World.size_alloc] at q2); have z2_0 : w.heap.size < w2.heap.size := (by omega); have z2_1 : w.heap.size + 1 < w2.heap.size := (by omega)) | (go_at_call 67; refine (refcall_any v A n c b _ HV.out.w HB.out HN.out ((HR.out.below (by (repeat' first | exact zbR _ _ | assumption | refine zbD ?_ | refine zbA ?_ ?_ _ | refine zbS ?_ ?_ _ | refine zbT ?_ (by assumption) ?_ | (simp; done) | (simp; omega) | omega))).mono (by first | (simp; done) | (simp; omega) | omega))).mono ?_; rintro e w3 ⟨rfl, hb3⟩; rw [HCV.out]))
          go_ret
          exact ⟨by rw [EE.out]; rfl, by (repeat' first | exact zbR _ _ | assumption | refine zbD ?_ | refine zbA ?_ ?_ _ | refine zbS ?_ ?_ _ | refine zbT ?_ (by assumption) ?_ | (simp; done) | (simp; omega) | omega)⟩
  all_goals
    have E1 := hide (show L.showE v b call = L.checkBE v b by unfold L.showE; rw [if_neg (by omega)])
    have H := hide h
    clear h
    go_enter Try.func44, Try.ntmps44
    go_wp2_with (first | (go_at_call 66; refine (checkBox_any v A n c b _ HN.out ((HR.out.below (by (repeat' first | exact zbR _ _ | assumption | refine zbD ?_ | refine zbA ?_ ?_ _ | refine zbS ?_ ?_ _ | refine zbT ?_ (by assumption) ?_ | (simp; done) | (simp; omega) | omega))).mono (by first | (simp; done) | (simp; omega) | omega))).mono ?_; rintro e w2 ⟨rfl, hb2⟩; rw [H.out]; obtain ⟨hc2, hf2⟩ := bcell hb2; have q2 := hb2.size; (try simp only [World.size_alloc] at q2); have z2_0 : w.heap.size < w2.heap.size := (by omega); have z2_1 : w.heap.size + 1 < w2.heap.size := (by omega)))
    go_ret
    exact ⟨by rw [E1.out, H.out]; rfl, by (repeat' first | exact zbR _ _ | assumption | refine zbD ?_ | refine zbA ?_ ?_ _ | refine zbS ?_ ?_ _ | refine zbT ?_ (by assumption) ?_ | (simp; done) | (simp; omega) | omega)⟩

end Go.Proofs.Ytgnobonhohfofaa

namespace Go.Proofs.Ytgnobonhohfofaa
open Go.RowKit
attribute [local go_sem ↓] Go.wp_at_zero Go.wp_at_succ

namespace L
def wid (k : Int) (s : St) : St := ⟨s.p, s.q, s.lo - k, s.hi + k⟩
def wider (v : Vw) (k : Int) : Vw := { v with ss := v.ss.map (wid k) }
def mix (ss : List St) (k : Int) (i : Nat) : List St := (ss.take i).map (wid k) ++ ss.drop i
theorem mix_zero (ss : List St) (k : Int) : mix ss k 0 = ss := by unfold mix; simp
theorem mix_all (ss : List St) (k : Int) : mix ss k ss.length = ss.map (wid k) := by unfold mix; simp
theorem mix_length (ss : List St) (k : Int) (i : Nat) : (mix ss k i).length = ss.length := by unfold mix; simp; omega
theorem mix_at {ss : List St} {k : Int} {i : Nat} {s : St} (h : ss[i]? = some s) : (mix ss k i)[i]? = some s := by
  have hl : i < ss.length := (List.getElem?_eq_some_iff.1 h).1
  unfold mix
  rw [List.getElem?_append_right (by simp; omega), List.length_map, List.length_take, Nat.min_eq_left (by omega), Nat.sub_self, List.getElem?_drop, Nat.add_zero]
  exact h
theorem mix_next {ss : List St} {k : Int} {i : Nat} {s : St} (h : ss[i]? = some s) : mix ss k (i + 1) = (mix ss k i).set i (wid k s) := by
  have hl : i < ss.length := (List.getElem?_eq_some_iff.1 h).1
  have h1 : ((ss.take i).map (wid k)).length = i := by simp; omega
  unfold mix
  rw [List.set_append_right _ _ (by omega), h1, Nat.sub_self, List.take_add_one, h, List.drop_eq_getElem_cons hl, List.set_cons_zero]
  simp
end L
theorem flatS_set : ∀ {ss : List L.St} {i : Nat} {s t : L.St}, ss[i]? = some s → t.p = s.p → t.q = s.q → flatS (ss.set i t) = ((flatS ss).set (i * 4 + 2) (.int .i64 t.lo)).set (i * 4 + 3) (.int .i64 t.hi)
  | [], i, s, t, h, _, _ => by simp at h
  | a :: r, 0, s, t, h, hp, hq => by
    have h' : a = s := Option.some.inj h
    subst h'
    show [Value.int .i64 t.p, .int .i64 t.q, .int .i64 t.lo, .int .i64 t.hi] ++ flatS r = _
    rw [hp, hq]
    rfl
  | a :: r, i + 1, s, t, h, hp, hq => by
    have ih := flatS_set (ss := r) (i := i) (s := s) (t := t) h hp hq
    have e1 : (i + 1) * 4 + 2 = i * 4 + 2 + 4 := by omega
    have e2 : (i + 1) * 4 + 3 = i * 4 + 3 + 4 := by omega
    rw [e1, e2]
    show [Value.int .i64 a.p, .int .i64 a.q, .int .i64 a.lo, .int .i64 a.hi] ++ flatS (r.set i t) = _
    rw [ih]
    rfl

theorem wider_results {Z : World} {g : Nat} {x0 x1 x2 x3 x4 x5 x6 : Value} {cs tmps : Array Value} (h3 : Z.heap[g]? = some (.cells cs 26 (0, 0)))
    (e3 : cs = #[x0, x1, x2, x3, x4, x5, x6]) (t2 : tmps[4]? = some (.pointer (some ⟨g, 0, none⟩))) :
    (results Try.f22 tmps).run Try.prog Z = .ok (.agg #[x0, x1, x2, x3, x4, x5, x6]) Z := by
  subst e3
  have k0 : Z.cell? ⟨g, 0, none⟩ = some x0 := blk_cell h3 0
  have k1 : Z.cell? ⟨g, 1, none⟩ = some x1 := blk_cell h3 1
  have k2 : Z.cell? ⟨g, 2, none⟩ = some x2 := blk_cell h3 2
  have k3 : Z.cell? ⟨g, 3, none⟩ = some x3 := blk_cell h3 3
  have k4 : Z.cell? ⟨g, 4, none⟩ = some x4 := blk_cell h3 4
  have k5 : Z.cell? ⟨g, 5, none⟩ = some x5 := blk_cell h3 5
  have k6 : Z.cell? ⟨g, 6, none⟩ = some x6 := blk_cell h3 6
  simp [results, Try.results22, go_sem, t2, k0, k1, k2, k3, k4, k5, k6]

theorem own_view_ne {w : World} {base g o n c : Nat} {xs : List Value} {cs : Array Value} (h : w.ownsRow base 54 4 (.slice (some ⟨g, 0, none⟩) n c) n xs) (ho : w.heap[o]? = some (.cells cs 26 (0, 0))) : g ≠ o := by
  rintro rfl
  obtain ⟨_, h2⟩ := h
  rcases h2 with ⟨h2, _⟩ | ⟨g', cap, cur, hv, _, hh, _⟩
  · cases h2
  · cases hv
    rw [hh] at ho
    cases ho

set_option maxRecDepth 100000 in
set_option maxHeartbeats 3200000 in
theorem Wider_any (v : L.Vw) (A : Option Addr) (n c : Nat) (k : Int) (w : World) (hn : v.ss.length = n) (hr : RdS w w.heap.size A v.ss) (hA : A = none → c = 0) (h40 : n ≤ 1000) (hk0 : 0 ≤ k) (hk1 : k ≤ 1000) (hb : ∀ s ∈ v.ss, -1000 ≤ s.lo ∧ s.lo ≤ 1000 ∧ -1000 ≤ s.hi ∧ s.hi ≤ 1000) :
    Calls Try.prog 22 #[.agg #[.int .i64 v.size, .slice A n c, .int .i64 v.wrong, .int .i64 v.hxl, .int .i64 v.hxh, .int .i64 v.hyl, .int .i64 v.hyh], .int .i64 k] w fun e w' => ∃ A' c', e = .returned (.agg #[.int .i64 v.size, .slice A' n c', .int .i64 v.wrong, .int .i64 v.hxl, .int .i64 v.hxh, .int .i64 v.hyl, .int .i64 v.hyh]) ∧ w'.ownsRow w.heap.size 54 4 (.slice A' n c') n (flatS (v.ss.map (L.wid k))) ∧ Below w.heap.size w w' := by
  have HN := hide hn
  have HR := hide hr
  have HBD := hide hb
  clear hn hr hb
  go_enter Try.func22, Try.ntmps22
  go_wp2_with (go_at_call 26; refine (Copy_any v A n c _ HN.out ((HR.out.below (by (repeat' first | exact zbR _ _ | assumption | refine zbD ?_ | refine zbA ?_ ?_ _ | refine zbS ?_ ?_ _ | refine zbT ?_ (by assumption) ?_ | (simp; done) | (simp; omega) | omega))).mono (by first | (simp; done) | (simp; omega) | omega)) hA h40).mono ?_; rintro e w2 ⟨A', c', rfl, hown, hb2⟩; have HO := hide hown; clear hown)
  have q2 := hb2.size
  (try simp only [World.size_alloc] at q2)
  obtain ⟨W1, hW1⟩ : ∃ W1, w2.alloc (.cells #[.int .i64 v.size, .slice A' n c', .int .i64 v.wrong, .int .i64 v.hxl, .int .i64 v.hxh, .int .i64 v.hyl, .int .i64 v.hyh] 26) = W1 := ⟨_, rfl⟩
  have go : W1.heap[w2.heap.size]? = some (.cells #[.int .i64 v.size, .slice A' n c', .int .i64 v.wrong, .int .i64 v.hxl, .int .i64 v.hxh, .int .i64 v.hyl, .int .i64 v.hyh] 26 (0, 0)) := by rw [← hW1]; exact World.alloc_heap_new _ _
  have gr : W1.heap[w.heap.size + 1]? = some (.cells #[.int .i64 0, .slice none 0 0, .int .i64 0, .int .i64 0, .int .i64 0, .int .i64 0, .int .i64 0] 26 (0, 0)) := by
    rw [← hW1]; exact (Below.heap_alloc _ _ _ (by omega)).trans ((hb2.block (w.heap.size + 1) (by first | (simp; done) | (simp; omega) | omega)).trans blk_new2)
  have gown : W1.ownsRow (w.heap.size + 1 + 1) 54 4 (.slice A' n c') n (flatS (L.mix v.ss k 0)) := by rw [← hW1, L.mix_zero]; exact (owns_mono HO.out (by simp)).alloc _
  have gB : Below w.heap.size w W1 := by rw [← hW1]; (repeat' first | exact zbR _ _ | assumption | refine zbD ?_ | refine zbA ?_ ?_ _ | refine zbS ?_ ?_ _ | refine zbT ?_ (by assumption) ?_ | (simp; done) | (simp; omega) | omega)
  have gs : W1.heap.size = w2.heap.size + 1 := by rw [← hW1]; simp
  rw [hW1]
  obtain ⟨o, ho⟩ : ∃ o, w2.heap.size = o := ⟨_, rfl⟩
  rw [ho] at go gs q2
  rw [ho]
  have GR := hide gr
  have GB := hide gB
  clear hW1 hb2 HO gr gB
  go_loopw [6] (fun i wr => ∃ j : Nat, j ≤ n ∧ i = .int .i64 j ∧ Hid (wr.ownsRow (w.heap.size + 1 + 1) 54 4 (.slice A' n c') n (flatS (L.mix v.ss k j))) ∧ wr.heap[o]? = some (.cells #[.int .i64 v.size, .slice A' n c', .int .i64 v.wrong, .int .i64 v.hxl, .int .i64 v.hxh, .int .i64 v.hyl, .int .i64 v.hyh] 26 (0, 0)) ∧ Below (w.heap.size + 1 + 1) W1 wr) (fun i _ => n - (intOf i).toNat)
  case atStart => exact ⟨0, by omega, rfl, hide gown, go, Below.refl _ _⟩
  case round =>
    obtain ⟨j, hj, rfl, hO, hgo, hB⟩ := hrel
    have qB := hB.size
    have lo := blk_lt hgo
    have co0 := (blk_cell hgo 0).trans rfl; have co1 := (blk_cell hgo 1).trans rfl; have co2 := (blk_cell hgo 2).trans rfl; have co3 := (blk_cell hgo 3).trans rfl; have co4 := (blk_cell hgo 4).trans rfl; have co5 := (blk_cell hgo 5).trans rfl; have co6 := (blk_cell hgo 6).trans rfl
    have HGO := hide hgo
    clear gown go
    by_cases hlt : j < n
    · obtain ⟨s, hs⟩ : ∃ s, v.ss[j]? = some s := ⟨_, List.getElem?_eq_getElem (by have := HN.out; omega)⟩
      obtain ⟨b0, b1, b2, b3⟩ := HBD.out s (List.mem_of_getElem? hs)
      obtain ⟨g, cap, e, hbg, hform⟩ := hO.out.form (by omega)
      have e' : A' = some ⟨g, 0, none⟩ ∧ c' = cap := by
        simp only [Value.slice.injEq] at e
        exact ⟨e.1, e.2.2⟩
      obtain ⟨rfl, rfl⟩ := e'
      have hgo' := own_view_ne hO.out hgo
      obtain ⟨x0, x1, x2, x3⟩ := flatS_at (L.mix_at (k := k) hs)
      have y2 := (hO.out.cellAt (j * 4 + 2) (by omega)).trans x2
      have y3 := (hO.out.cellAt (j * 4 + 3) (by omega)).trans x3
      have f2 := hO.out.frozenAt (j * 4 + 2)
      have f3 := hO.out.frozenAt (j * 4 + 3)
      have lg := (hO.out.lt g rfl).2
      have hlt' : (j : Int) < (n : Int) := by omega
      have hj0 : (0 : Int) ≤ (j : Int) := by omega
      clear e x0 x1 x2 x3 hgo
      have HS := hide hs
      clear hs
      go_wp2_with fail
      go_roundw
      case rel =>
        refine ⟨j + 1, by omega, by go_num, hide ?_, ?_, ?_⟩
        · have h1 := (hO.out.stored (j * 4 + 2) (.int .i64 (s.lo - k))).1
          have h2 := (h1.stored (j * 4 + 3) (.int .i64 (s.hi + k))).1
          rw [L.mix_next HS.out, flatS_set (t := L.wid k s) (L.mix_at HS.out) rfl rfl]
          exact h2
        · exact blk_other (blk_other HGO.out (Ne.symm hgo') _ _) (Ne.symm hgo') _ _
        · exact zbS (zbS hB hbg _) hbg _
      case measure => simp [intOf]; omega
    · have hjn : j = n := by omega
      subst hjn
      have kr := (hB.block (w.heap.size + 1) (by omega)).trans GR.out
      have lr : w.heap.size + 1 < wr.heap.size := by omega
      have cr0 := (blk_cell kr 0).trans rfl; have cr1 := (blk_cell kr 1).trans rfl; have cr2 := (blk_cell kr 2).trans rfl; have cr3 := (blk_cell kr 3).trans rfl; have cr4 := (blk_cell kr 4).trans rfl; have cr5 := (blk_cell kr 5).trans rfl; have cr6 := (blk_cell kr 6).trans rfl
      have fr0 := blk_frozen kr 0; have fr1 := blk_frozen kr 1; have fr2 := blk_frozen kr 2; have fr3 := blk_frozen kr 3; have fr4 := blk_frozen kr 4; have fr5 := blk_frozen kr 5; have fr6 := blk_frozen kr 6
      have KR := hide kr
      have hB0 : Below w.heap.size w wr := GB.out.trans (hB.mono (by omega))
      have HM := hide (show flatS (L.mix v.ss k j) = flatS (v.ss.map (L.wid k)) by rw [← HN.out, L.mix_all])
      clear kr
      go_wp2_with fail
      refine bodyPost_ret (v := .agg #[.int .i64 v.size, .slice A' j c', .int .i64 v.wrong, .int .i64 v.hxl, .int .i64 v.hxh, .int .i64 v.hyl, .int .i64 v.hyh]) (wider_results (blk_set (blk_set (blk_set (blk_set (blk_set (blk_set (blk_set (KR.out) 0 _) 1 _) 2 _) 3 _) 4 _) 5 _) 6 _) rfl rfl) rfl ?_
      refine ⟨A', c', rfl, ?_, ?_⟩
      · rw [← HM.out]
        exact owns_mono (ownsRow_setCell_below (ownsRow_setCell_below (ownsRow_setCell_below (ownsRow_setCell_below (ownsRow_setCell_below (ownsRow_setCell_below (ownsRow_setCell_below (hO.out) (show w.heap.size + 1 < w.heap.size + 1 + 1 by omega) _) (show w.heap.size + 1 < w.heap.size + 1 + 1 by omega) _) (show w.heap.size + 1 < w.heap.size + 1 + 1 by omega) _) (show w.heap.size + 1 < w.heap.size + 1 + 1 by omega) _) (show w.heap.size + 1 < w.heap.size + 1 + 1 by omega) _) (show w.heap.size + 1 < w.heap.size + 1 + 1 by omega) _) (show w.heap.size + 1 < w.heap.size + 1 + 1 by omega) _) (by omega)
      · exact zbS (zbS (zbS (zbS (zbS (zbS (zbS (hB0) (show w.heap.size ≤ w.heap.size + 1 by omega) _) (show w.heap.size ≤ w.heap.size + 1 by omega) _) (show w.heap.size ≤ w.heap.size + 1 by omega) _) (show w.heap.size ≤ w.heap.size + 1 by omega) _) (show w.heap.size ≤ w.heap.size + 1 by omega) _) (show w.heap.size ≤ w.heap.size + 1 by omega) _) (show w.heap.size ≤ w.heap.size + 1 by omega) _

end Go.Proofs.Ytgnobonhohfofaa

namespace Go.Proofs.Ytgnobonhohfofaa
open Go.RowKit
attribute [local go_sem ↓] Go.wp_at_zero Go.wp_at_succ

namespace L
def slackGo (v : Vw) (b : Bx) (cv : Int) : Nat → Nat → Nat
  | 0, n => n
  | f + 1, n => if callOf v b ((n : Int) + 1) = cv then slackGo v b cv f (n + 1) else n
def slackV (v : Vw) (b : Bx) : Int := if checkBE v b = 0 then (if sure (callOf v b 0) then (slackGo v b (callOf v b 0) 20 0 : Int) else if callOf v b 0 = 0 then 0 else -1) else 0
theorem slackGo_le (v : Vw) (b : Bx) (cv : Int) : ∀ f n, n ≤ slackGo v b cv f n ∧ slackGo v b cv f n ≤ n + f
  | 0, n => ⟨Nat.le_refl _, Nat.le_refl _⟩
  | f + 1, n => by
    unfold slackGo
    split
    · obtain ⟨h1, h2⟩ := slackGo_le v b cv f (n + 1); omega
    · omega
theorem slackGo_yes {v : Vw} {b : Bx} {cv : Int} {n : Nat} (hn : n < 20) (h : callOf v b ((n : Int) + 1) = cv) : slackGo v b cv (20 - n) n = slackGo v b cv (20 - (n + 1)) (n + 1) := by
  obtain ⟨d, hd⟩ : ∃ d, 20 - n = d + 1 := ⟨19 - n, by omega⟩
  have hd' : 20 - (n + 1) = d := by omega
  rw [hd, hd', slackGo, if_pos h]
theorem slackGo_no {v : Vw} {b : Bx} {cv : Int} {n : Nat} (hn : n < 20) (h : callOf v b ((n : Int) + 1) ≠ cv) : slackGo v b cv (20 - n) n = n := by
  obtain ⟨d, hd⟩ : ∃ d, 20 - n = d + 1 := ⟨19 - n, by omega⟩
  rw [hd, slackGo, if_neg h]
theorem sure_cases' {c : Int} (h : sure c = true) : c = 1 ∨ c = 2 := by
  unfold sure at h
  simpa using h
end L

set_option maxRecDepth 100000 in
set_option maxHeartbeats 3200000 in
theorem Slack_sure (v : L.Vw) (A : Option Addr) (n c : Nat) (b : L.Bx) (w : World) (hn : v.ss.length = n) (hr : RdS w w.heap.size A v.ss) (h : L.checkBE v b = 0) (hs : L.sure (L.callOf v b 0) = true) :
    Calls Try.prog 27 #[.agg #[.int .i64 v.size, .slice A n c, .int .i64 v.wrong, .int .i64 v.hxl, .int .i64 v.hxh, .int .i64 v.hyl, .int .i64 v.hyh], .agg #[.int .i64 b.l, .int .i64 b.r, .int .i64 b.b, .int .i64 b.t]] w fun e w' => e = .returned (.tuple #[.int .i64 (L.slackV v b), .int .i64 (L.callE v b)]) ∧ Below w.heap.size w w' := by
  have HN := hide hn
  have HR := hide hr
  obtain ⟨hv, hb⟩ := L.checkBE_ok h
  have HV := hide hv
  have HB := hide hb
  obtain ⟨cv, hcv⟩ : ∃ cv, L.callOf v b 0 = cv := ⟨_, rfl⟩
  have hc12 := L.sure_cases' hs
  have E1 := hide (show L.callV v b = cv by unfold L.callV; rw [if_pos h, hcv])
  have E2 := hide (show L.callE v b = 0 by unfold L.callE; rw [if_pos h, if_neg (by omega)])
  have E3 := hide (show L.slackV v b = (L.slackGo v b cv 20 0 : Int) by unfold L.slackV; rw [if_pos h, if_pos hs, hcv])
  rw [hcv] at hs hc12
  have HS := hide hs
  have HC := hide hcv
  clear hn hr hv hb h hs hcv
  go_enter Try.func27, Try.ntmps27
  go_upto_region 1 with fail
  obtain ⟨W0, hW0⟩ : ∃ W0, (w.alloc (.cells #[.int .i64 v.size, .slice A n c, .int .i64 v.wrong, .int .i64 v.hxl, .int .i64 v.hxh, .int .i64 v.hyl, .int .i64 v.hyh] 26)).alloc (.cells #[.int .i64 b.l, .int .i64 b.r, .int .i64 b.b, .int .i64 b.t] 28) = W0 := ⟨_, rfl⟩
  have gp : W0.heap[w.heap.size]? = some (.cells #[.int .i64 v.size, .slice A n c, .int .i64 v.wrong, .int .i64 v.hxl, .int .i64 v.hxh, .int .i64 v.hyl, .int .i64 v.hyh] 26 (0, 0)) := by
    rw [← hW0]; exact (Below.heap_alloc _ _ _ (by first | (simp; done) | (simp; omega) | omega)).trans (World.alloc_heap_new _ _)
  have gq : W0.heap[w.heap.size + 1]? = some (.cells #[.int .i64 b.l, .int .i64 b.r, .int .i64 b.b, .int .i64 b.t] 28 (0, 0)) := by
    rw [← hW0]; exact blk_new2
  have gs : W0.heap.size = w.heap.size + 1 + 1 := by rw [← hW0]; simp
  have gB : Below w.heap.size w W0 := by rw [← hW0]; (repeat' first | exact zbR _ _ | assumption | refine zbD ?_ | refine zbA ?_ ?_ _ | refine zbS ?_ ?_ _ | refine zbT ?_ (by assumption) ?_ | (simp; done) | (simp; omega) | omega)
  rw [hW0]
  clear hW0
  obtain ⟨p, hp⟩ : ∃ p, w.heap.size = p := ⟨_, rfl⟩
  obtain ⟨q, hq⟩ : ∃ q, w.heap.size + 1 = q := ⟨_, rfl⟩
  rw [hq, hp]
  rw [hp] at gp
  rw [hq] at gq
  have lp : p < W0.heap.size := by omega
  have lq : q < W0.heap.size := by omega
  have HR0 := hide ((HR.out.below gB).mono gB.size)
  have GB := hide gB
  have GP := hide gp
  have GQ := hide gq
  have cp0 := (blk_cell gp 0).trans rfl; have cp1 := (blk_cell gp 1).trans rfl; have cp2 := (blk_cell gp 2).trans rfl; have cp3 := (blk_cell gp 3).trans rfl; have cp4 := (blk_cell gp 4).trans rfl; have cp5 := (blk_cell gp 5).trans rfl; have cp6 := (blk_cell gp 6).trans rfl
  have cq0 := (blk_cell gq 0).trans rfl; have cq1 := (blk_cell gq 1).trans rfl; have cq2 := (blk_cell gq 2).trans rfl; have cq3 := (blk_cell gq 3).trans rfl
  clear gp gq gB gs hp hq
  go_wp2_with (first | (go_at_call 17; refine (Call_any v A n c b _ HN.out HR0.out).mono ?_; rintro e w2 ⟨rfl, hb2⟩; rw [E1.out, E2.out]; obtain ⟨hc2, hf2⟩ := bcell hb2; have q2 := hb2.size) | (go_at_call 54; refine (sure_any _ _).mono ?_; rintro e w3 ⟨rfl, rfl⟩; rw [HS.out]))
  have GP2 := hide ((hb2.block p lp).trans GP.out)
  have GQ2 := hide ((hb2.block q lq).trans GQ.out)
  have HR2 := hide ((HR0.out.below hb2).mono hb2.size)
  have GB2 := hide (GB.out.trans (hb2.mono GB.out.size))
  have lp2 : p < w2.heap.size := by omega
  have lq2 : q < w2.heap.size := by omega
  clear cp0 cp1 cp2 cp3 cp4 cp5 cp6 cq0 cq1 cq2 cq3 hc2 hf2 hb2 lp lq q2 GB GP GQ HR0
  go_loopw [8] (fun s wr => ∃ k : Nat, k ≤ 20 ∧ s = .int .i64 k ∧ Hid (L.slackGo v b cv (20 - k) k = L.slackGo v b cv 20 0) ∧ Below w2.heap.size w2 wr) (fun s _ => 20 - (intOf s).toNat)
  case atStart => exact ⟨0, by omega, rfl, hide rfl, Below.refl _ _⟩
  case round =>
    obtain ⟨k, hk, rfl, hG, hB⟩ := hrel
    have qB := hB.size
    have bp := (hB.block p lp2).trans GP2.out
    have bq := (hB.block q lq2).trans GQ2.out
    have cp0 := (blk_cell bp 0).trans rfl; have cp1 := (blk_cell bp 1).trans rfl; have cp2 := (blk_cell bp 2).trans rfl; have cp3 := (blk_cell bp 3).trans rfl; have cp4 := (blk_cell bp 4).trans rfl; have cp5 := (blk_cell bp 5).trans rfl; have cp6 := (blk_cell bp 6).trans rfl
    have cq0 := (blk_cell bq 0).trans rfl; have cq1 := (blk_cell bq 1).trans rfl; have cq2 := (blk_cell bq 2).trans rfl; have cq3 := (blk_cell bq 3).trans rfl
    have lp3 : p < wr.heap.size := by omega
    have lq3 : q < wr.heap.size := by omega
    have hk0 : (0 : Int) ≤ (k : Int) := by omega
    have HRr := hide ((HR2.out.below hB).mono qB)
    clear bp bq
    by_cases hlt : k < 20
    · have hlt' : (k : Int) < 20 := by omega
      by_cases he : L.callOf v b ((k : Int) + 1) = cv
      · have HE := hide he
        have HG := hide (L.slackGo_yes hlt he)
        clear he
        go_wp2_with (go_at_call 48; refine (callOf_any v A n c b ((k : Int) + 1) _ HV.out HB.out HN.out HRr.out (by omega) (by omega)).mono ?_; rintro e w4 ⟨rfl, hb4⟩; rw [HE.out])
        go_roundw
        case rel => exact ⟨k + 1, by omega, by go_num, hide (HG.out.symm.trans hG.out), hB.trans (hb4.mono qB)⟩
        case measure => simp [intOf]; omega
      · have hE : (L.callOf v b ((k : Int) + 1) == cv) = false := by simpa using he
        have HG := hide (L.slackGo_no hlt he)
        clear he
        go_wp2_with (go_at_call 48; refine (callOf_any v A n c b ((k : Int) + 1) _ HV.out HB.out HN.out HRr.out (by omega) (by omega)).mono ?_; rintro e w4 ⟨rfl, hb4⟩)
        go_ret2
        exact ⟨by rw [E2.out, E3.out, ← hG.out, HG.out]; rfl, (GB2.out.trans (hB.mono GB2.out.size)).trans (hb4.mono (by have := GB2.out.size; omega))⟩
    · have hk20 : k = 20 := by omega
      subst hk20
      go_wp2_with fail
      go_ret2
      exact ⟨by rw [E2.out, E3.out, ← hG.out]; rfl, GB2.out.trans (hB.mono GB2.out.size)⟩

set_option maxRecDepth 100000 in
set_option maxHeartbeats 3200000 in
theorem Slack_any (v : L.Vw) (A : Option Addr) (n c : Nat) (b : L.Bx) (w : World) (hn : v.ss.length = n) (hr : RdS w w.heap.size A v.ss) :
    Calls Try.prog 27 #[.agg #[.int .i64 v.size, .slice A n c, .int .i64 v.wrong, .int .i64 v.hxl, .int .i64 v.hxh, .int .i64 v.hyl, .int .i64 v.hyh], .agg #[.int .i64 b.l, .int .i64 b.r, .int .i64 b.b, .int .i64 b.t]] w fun e w' => e = .returned (.tuple #[.int .i64 (L.slackV v b), .int .i64 (L.callE v b)]) ∧ Below w.heap.size w w' := by
  by_cases h : L.checkBE v b = 0
  · cases hs : L.sure (L.callOf v b 0)
    · have HN := hide hn
      have HR := hide hr
      have E1 := hide (show L.callV v b = L.callOf v b 0 by unfold L.callV; rw [if_pos h])
      by_cases h0 : L.callOf v b 0 = 0
      · have E2 := hide (show L.callE v b = 3 by unfold L.callE; rw [if_pos h, if_pos h0])
        have E3 := hide (show L.slackV v b = 0 by unfold L.slackV; rw [if_pos h, if_neg (by rw [hs]; decide), if_pos h0])
        clear hn hr h hs h0
        go_enter Try.func27, Try.ntmps27
        go_wp2_with (go_at_call 17; refine (Call_any v A n c b _ HN.out ((HR.out.below (by (repeat' first | exact zbR _ _ | assumption | refine zbD ?_ | refine zbA ?_ ?_ _ | refine zbS ?_ ?_ _ | refine zbT ?_ (by assumption) ?_ | (simp; done) | (simp; omega) | omega))).mono (by first | (simp; done) | (simp; omega) | omega))).mono ?_; rintro e w2 ⟨rfl, hb2⟩; rw [E2.out])
        go_ret2
        exact ⟨by rw [E2.out, E3.out]; rfl, by (repeat' first | exact zbR _ _ | assumption | refine zbD ?_ | refine zbA ?_ ?_ _ | refine zbS ?_ ?_ _ | refine zbT ?_ (by assumption) ?_ | (simp; done) | (simp; omega) | omega)⟩
      · have E2 := hide (show L.callE v b = 0 by unfold L.callE; rw [if_pos h, if_neg h0])
        have E3 := hide (show L.slackV v b = -1 by unfold L.slackV; rw [if_pos h, if_neg (by rw [hs]; decide), if_neg h0])
        have HS := hide hs
        clear hn hr h hs h0
        go_enter Try.func27, Try.ntmps27
        go_wp2_with (first | (go_at_call 17; refine (Call_any v A n c b _ HN.out ((HR.out.below (by (repeat' first | exact zbR _ _ | assumption | refine zbD ?_ | refine zbA ?_ ?_ _ | refine zbS ?_ ?_ _ | refine zbT ?_ (by assumption) ?_ | (simp; done) | (simp; omega) | omega))).mono (by first | (simp; done) | (simp; omega) | omega))).mono ?_; rintro e w2 ⟨rfl, hb2⟩; rw [E1.out, E2.out]; obtain ⟨hc2, hf2⟩ := bcell hb2; have q2 := hb2.size; (try simp only [World.size_alloc] at q2); have z2_0 : w.heap.size < w2.heap.size := (by omega); have z2_1 : w.heap.size + 1 < w2.heap.size := (by omega)) | (go_at_call 54; refine (sure_any _ _).mono ?_; rintro e w3 ⟨rfl, rfl⟩; rw [HS.out]))
        go_ret2
        exact ⟨by rw [E2.out, E3.out]; rfl, by (repeat' first | exact zbR _ _ | assumption | refine zbD ?_ | refine zbA ?_ ?_ _ | refine zbS ?_ ?_ _ | refine zbT ?_ (by assumption) ?_ | (simp; done) | (simp; omega) | omega)⟩
    · exact Slack_sure v A n c b w hn hr h hs
  · have HN := hide hn
    have HR := hide hr
    have E2 := hide (show L.callE v b = L.checkBE v b by unfold L.callE; rw [if_neg h])
    have E3 := hide (show L.slackV v b = 0 by unfold L.slackV; rw [if_neg h])
    have HE := L.checkBE_cases v b
    clear hn hr
    obtain ⟨k, hk⟩ : ∃ k, L.checkBE v b = k := ⟨_, rfl⟩
    rw [hk] at h HE E2
    rcases HE with rfl | rfl | rfl
    · exact (h rfl).elim
    all_goals
      clear h hk
      go_enter Try.func27, Try.ntmps27
      go_wp2_with (go_at_call 17; refine (Call_any v A n c b _ HN.out ((HR.out.below (by (repeat' first | exact zbR _ _ | assumption | refine zbD ?_ | refine zbA ?_ ?_ _ | refine zbS ?_ ?_ _ | refine zbT ?_ (by assumption) ?_ | (simp; done) | (simp; omega) | omega))).mono (by first | (simp; done) | (simp; omega) | omega))).mono ?_; rintro e w2 ⟨rfl, hb2⟩; rw [E2.out])
      go_ret2
      exact ⟨by rw [E2.out, E3.out]; rfl, by (repeat' first | exact zbR _ _ | assumption | refine zbD ?_ | refine zbA ?_ ?_ _ | refine zbS ?_ ?_ _ | refine zbT ?_ (by assumption) ?_ | (simp; done) | (simp; omega) | omega)⟩

end Go.Proofs.Ytgnobonhohfofaa

namespace Go.Proofs.Ytgnobonhohfofaa
namespace L

theorem off_wid (x y k d : Int) (s : St) : off x y d (wid k s) = off x y (k + d) s := by
  unfold off wid
  rw [show s.lo - k - d = s.lo - (k + d) by omega, show s.hi + k + d = s.hi + (k + d) by omega]
theorem many_wid (ss : List St) (x y k d : Int) : many (ss.map (wid k)) x y d = many ss x y (k + d) := by
  unfold many
  rw [List.filter_map, List.length_map]
  congr 1
  exact List.filter_congr fun s _ => off_wid x y k d s
theorem okAt_wid (v : Vw) (k d : Int) (c : Int × Int) : okAt (wider v k) d c = okAt v (k + d) c := by
  unfold okAt wider
  rw [many_wid]
theorem tcents_wid (v : Vw) (k d : Int) : tcents (wider v k) d = tcents v (k + d) := by
  unfold tcents
  exact List.filter_congr fun c _ => okAt_wid v k d c
theorem hitAt_wid (v : Vw) (k : Int) (b : Bx) (call : Int) (c : Int × Int) : hitAt (wider v k) b call c = hitAt v b call c := rfl
theorem findC_wid (v : Vw) (k d : Int) (b : Bx) (call : Int) : findC (wider v k) b d call = findC v b (k + d) call := by
  unfold findC
  rw [tcents_wid]
  rfl
theorem callOf_wid (v : Vw) (k d : Int) (b : Bx) : callOf (wider v k) b d = callOf v b (k + d) := by
  unfold callOf
  rw [findC_wid, findC_wid]
theorem off_mono {x y k d : Int} {s : St} (h : k ≤ d) (ho : off x y d s = true) : off x y k s = true := by
  unfold off within at ho ⊢
  simp only [Bool.not_eq_true', Bool.and_eq_false_iff, decide_eq_false_iff_not] at ho ⊢
  omega
theorem many_mono {ss : List St} {x y k d : Int} (h : k ≤ d) : many ss x y d ≤ many ss x y k := by
  unfold many
  induction ss with
  | nil => simp
  | cons s r ih =>
    simp only [List.filter_cons]
    cases h1 : off x y d s
    · cases h2 : off x y k s
      · simpa using ih
      · simp only [Bool.false_eq_true, if_false, if_true, List.length_cons]; omega
    · rw [off_mono h h1]; simpa using ih
theorem tcents_mono {v : Vw} {k d : Int} (h : k ≤ d) {c : Int × Int} (hc : c ∈ tcents v k) : c ∈ tcents v d := by
  unfold tcents okAt at hc ⊢
  rw [List.mem_filter, decide_eq_true_eq] at hc ⊢
  have := many_mono (ss := v.ss) (x := c.1) (y := c.2) h
  exact ⟨hc.1, by omega⟩
theorem callOf_mono {v : Vw} (hv : VwOk v) {b : Bx} {k d : Int} (h : k ≤ d) (h0 : callOf v b k ≠ 0) : callOf v b d ≠ 0 := by
  intro he
  rw [call_zero hv] at he
  cases ht : tcents v k with
  | nil => exact h0 ((call_zero hv b k).2 ht)
  | cons c r =>
    have := tcents_mono h (show c ∈ tcents v k by rw [ht]; simp)
    rw [he] at this
    cases this
theorem slackGo_spec (v : Vw) (b : Bx) (cv : Int) : ∀ (f n : Nat), callOf v b (n : Int) = cv → callOf v b (slackGo v b cv f n : Int) = cv ∧ (slackGo v b cv f n < n + f → callOf v b ((slackGo v b cv f n : Int) + 1) ≠ cv)
  | 0, n, h => ⟨h, fun h' => by unfold slackGo at h'; omega⟩
  | f + 1, n, h => by
    unfold slackGo
    split
    · rename_i h1
      have ih := slackGo_spec v b cv f (n + 1) (by rw [show ((n + 1 : Nat) : Int) = (n : Int) + 1 by omega]; exact h1)
      exact ⟨ih.1, fun h' => ih.2 (by omega)⟩
    · rename_i h1
      exact ⟨h, fun _ => h1⟩
theorem wider_ok {v : Vw} (hv : viewB v = true) {k : Int} (h0 : 0 ≤ k) (h1 : k ≤ 100) (hb : ∀ s ∈ v.ss, -400 ≤ s.lo ∧ s.hi ≤ 400) : viewB (wider v k) = true := by
  unfold viewB wider at *
  rw [Bool.and_eq_true] at hv ⊢
  refine ⟨by simpa [headB] using hv.1, ?_⟩
  rw [List.all_eq_true] at hv ⊢
  intro s hs
  obtain ⟨t, ht, rfl⟩ := List.mem_map.1 hs
  have h2 := hv.2 t ht
  have h3 := hb t ht
  unfold stripB wid spanIn at *
  simp only [Bool.and_eq_true, decide_eq_true_eq] at h2 ⊢
  obtain ⟨⟨⟨a, b⟩, c⟩, ⟨d, e⟩, f⟩ := h2
  exact ⟨⟨⟨a, b⟩, c⟩, ⟨by omega, by omega⟩, by omega⟩
structure SlackOk (v : Vw) (b : Bx) (cv : Int) (N : Nat) : Prop where
  n20 : N ≤ 20
  own : callV v b = cv
  err : callE v b = 0
  slk : slackV v b = (N : Int)
  v1 : callV (wider v (N : Int)) b = cv
  e1 : callE (wider v (N : Int)) b = 0
  e2 : callE (wider v ((N : Int) + 1)) b = 0
  v2 : N = 20 ∨ callV (wider v ((N : Int) + 1)) b ≠ cv
theorem slack_ok {v : Vw} {b : Bx} (hv : viewB v = true) (hb : boxB b = true) (hs : sure (callOf v b 0) = true) (hr : ∀ s ∈ v.ss, -400 ≤ s.lo ∧ s.hi ≤ 400) : ∃ N, SlackOk v b (callOf v b 0) N := by
  have hc := checkBE_yes hv hb
  have hk := viewB_ok hv
  have h12 := sure_cases' hs
  obtain ⟨N, hN⟩ : ∃ N, slackGo v b (callOf v b 0) 20 0 = N := ⟨_, rfl⟩
  have hle := slackGo_le v b (callOf v b 0) 20 0
  have hsp := slackGo_spec v b (callOf v b 0) 20 0 rfl
  rw [hN] at hle hsp
  have w1 := checkBE_yes (wider_ok hv (k := (N : Int)) (by omega) (by omega) hr) hb
  have w2 := checkBE_yes (wider_ok hv (k := (N : Int) + 1) (by omega) (by omega) hr) hb
  have z1 : callOf v b (N : Int) ≠ 0 := by rw [hsp.1]; omega
  have z2 : callOf v b ((N : Int) + 1) ≠ 0 := callOf_mono hk (by omega) z1
  refine ⟨N, by omega, callV_ok hc, by rw [callE_ok hc, if_neg (by omega)], ?_, ?_, ?_, ?_, ?_⟩
  · unfold slackV; rw [if_pos hc, if_pos hs, hN]
  · rw [callV_ok w1, callOf_wid, Int.add_zero]; exact hsp.1
  · rw [callE_ok w1, callOf_wid, Int.add_zero, if_neg z1]
  · rw [callE_ok w2, callOf_wid, Int.add_zero, if_neg z2]
  · rcases Nat.lt_or_ge N 20 with h | h
    · exact .inr (by rw [callV_ok w2, callOf_wid, Int.add_zero]; exact hsp.2 (by omega))
    · exact .inl (by omega)
end L
end Go.Proofs.Ytgnobonhohfofaa

namespace Go.Proofs.Ytgnobonhohfofaa
open Go.RowKit
attribute [local go_sem ↓] Go.wp_at_zero Go.wp_at_succ

theorem L.VwW.wider {v : L.Vw} (h : L.VwW v) (k : Int) : L.VwW (L.wider v k) :=
  ⟨h.s0, h.s1, h.w0, h.w1, h.x0, h.xx, h.x1, h.y0, h.yy, h.y1, by
    show (v.ss.map (L.wid k)).length ≤ 8
    rw [List.length_map]; exact h.n8, fun s hs => by
    obtain ⟨t, ht, rfl⟩ := List.mem_map.1 (show s ∈ v.ss.map (L.wid k) from hs)
    obtain ⟨a, b, c, d⟩ := h.ok t ht
    exact ⟨a, b, c, d⟩⟩

set_option maxRecDepth 100000 in
set_option maxHeartbeats 6400000 in
theorem refSlack_sure (v : L.Vw) (A : Option Addr) (n c : Nat) (b : L.Bx) (w : World) (hn : v.ss.length = n) (hr : RdS w w.heap.size A v.ss) (hA : A = none → c = 0) (h : L.checkBE v b = 0) (hs : L.sure (L.callOf v b 0) = true) :
    Calls Try.prog 42 #[.agg #[.int .i64 v.size, .slice A n c, .int .i64 v.wrong, .int .i64 v.hxl, .int .i64 v.hxh, .int .i64 v.hyl, .int .i64 v.hyh], .agg #[.int .i64 b.l, .int .i64 b.r, .int .i64 b.b, .int .i64 b.t]] w fun e w' => e = .returned (.tuple #[.int .i64 (L.slackV v b), .int .i64 (L.callE v b)]) ∧ Below w.heap.size w w' := by
  have HN := hide hn
  have HR := hide hr
  have HA := hide hA
  obtain ⟨hv, hb⟩ := L.checkBE_ok h
  have HV := hide hv
  have HB := hide hb
  obtain ⟨cv, hcv⟩ : ∃ cv, L.callOf v b 0 = cv := ⟨_, rfl⟩
  have hc12 := L.is_sure hs
  have E2 := hide (show L.callE v b = 0 by unfold L.callE; rw [if_pos h, if_neg (by omega)])
  have E3 := hide (show L.slackV v b = (L.slackGo v b cv 20 0 : Int) by unfold L.slackV; rw [if_pos h, if_pos hs, hcv])
  rw [hcv] at hc12
  have d0 : (cv == 0) = false := by simp only [beq_eq_false_iff_ne, ne_eq]; omega
  have d3 : (cv == 3) = false := by simp only [beq_eq_false_iff_ne, ne_eq]; omega
  have HC := hide hcv
  have H := hide h
  have HBD := hide (show ∀ s ∈ v.ss, -1000 ≤ s.lo ∧ s.lo ≤ 1000 ∧ -1000 ≤ s.hi ∧ s.hi ≤ 1000 from fun s hs => by obtain ⟨_, _, _, _, a, b, c⟩ := hv.ok s hs; omega)
  have hn8 : n ≤ 8 := by have := hv.n8; omega
  clear hn hr hv hb h hs hcv hA hc12
  go_enter Try.func42, Try.ntmps42
  go_upto_region 1 with fail
  obtain ⟨W0, hW0⟩ : ∃ W0, (w.alloc (.cells #[.int .i64 v.size, .slice A n c, .int .i64 v.wrong, .int .i64 v.hxl, .int .i64 v.hxh, .int .i64 v.hyl, .int .i64 v.hyh] 26)).alloc (.cells #[.int .i64 b.l, .int .i64 b.r, .int .i64 b.b, .int .i64 b.t] 28) = W0 := ⟨_, rfl⟩
  have gp : W0.heap[w.heap.size]? = some (.cells #[.int .i64 v.size, .slice A n c, .int .i64 v.wrong, .int .i64 v.hxl, .int .i64 v.hxh, .int .i64 v.hyl, .int .i64 v.hyh] 26 (0, 0)) := by
    rw [← hW0]; exact (Below.heap_alloc _ _ _ (by first | (simp; done) | (simp; omega) | omega)).trans (World.alloc_heap_new _ _)
  have gq : W0.heap[w.heap.size + 1]? = some (.cells #[.int .i64 b.l, .int .i64 b.r, .int .i64 b.b, .int .i64 b.t] 28 (0, 0)) := by
    rw [← hW0]; exact blk_new2
  have gs : W0.heap.size = w.heap.size + 1 + 1 := by rw [← hW0]; simp
  have gB : Below w.heap.size w W0 := by rw [← hW0]; (repeat' first | exact zbR _ _ | assumption | refine zbD ?_ | refine zbA ?_ ?_ _ | refine zbS ?_ ?_ _ | refine zbT ?_ (by assumption) ?_ | (simp; done) | (simp; omega) | omega)
  rw [hW0]
  clear hW0
  obtain ⟨p, hp⟩ : ∃ p, w.heap.size = p := ⟨_, rfl⟩
  obtain ⟨q, hq⟩ : ∃ q, w.heap.size + 1 = q := ⟨_, rfl⟩
  rw [hq, hp]
  rw [hp] at gp
  rw [hq] at gq
  have lp : p < W0.heap.size := by omega
  have lq : q < W0.heap.size := by omega
  have HR0 := hide ((HR.out.below gB).mono gB.size)
  have GB := hide gB
  have GP := hide gp
  have GQ := hide gq
  have cp0 := (blk_cell gp 0).trans rfl; have cp1 := (blk_cell gp 1).trans rfl; have cp2 := (blk_cell gp 2).trans rfl; have cp3 := (blk_cell gp 3).trans rfl; have cp4 := (blk_cell gp 4).trans rfl; have cp5 := (blk_cell gp 5).trans rfl; have cp6 := (blk_cell gp 6).trans rfl
  have cq0 := (blk_cell gq 0).trans rfl; have cq1 := (blk_cell gq 1).trans rfl; have cq2 := (blk_cell gq 2).trans rfl; have cq3 := (blk_cell gq 3).trans rfl
  clear gp gq gB gs hp hq HR
  go_wp2_with (first | (go_at_call 66; refine (checkBox_any v A n c b _ HN.out HR0.out).mono ?_; rintro e w2 ⟨rfl, hb2⟩; rw [H.out]; obtain ⟨hc2, hf2⟩ := bcell hb2; have q2 := hb2.size; have lp2 : p < w2.heap.size := (by omega); have lq2 : q < w2.heap.size := (by omega)) | (go_at_call 67; refine (refcall_any v A n c b _ HV.out.w HB.out HN.out ((HR0.out.below hb2).mono hb2.size)).mono ?_; rintro e w3 ⟨rfl, hb3⟩; rw [HC.out]))
  have hb23 := hb2.trans (hb3.mono hb2.size)
  have q3 := hb3.size
  have GP2 := hide ((hb23.block p lp).trans GP.out)
  have GQ2 := hide ((hb23.block q lq).trans GQ.out)
  have HR2 := hide ((HR0.out.below hb23).mono hb23.size)
  have GB2 := hide (GB.out.trans (hb23.mono GB.out.size))
  have lp3 : p < w3.heap.size := by omega
  have lq3 : q < w3.heap.size := by omega
  clear cp0 cp1 cp2 cp3 cp4 cp5 cp6 cq0 cq1 cq2 cq3 hc2 hf2 hb2 hb3 hb23 lp lq q2 q3 lp2 lq2 GB GP GQ HR0
  go_loopw [8] (fun s wr => ∃ k : Nat, k ≤ 20 ∧ s = .int .i64 k ∧ Hid (L.slackGo v b cv (20 - k) k = L.slackGo v b cv 20 0) ∧ Below w3.heap.size w3 wr) (fun s _ => 20 - (intOf s).toNat)
  case atStart => exact ⟨0, by omega, rfl, hide rfl, Below.refl _ _⟩
  case round =>
    obtain ⟨k, hk, rfl, hG, hB⟩ := hrel
    have qB := hB.size
    have bp := (hB.block p lp3).trans GP2.out
    have bq := (hB.block q lq3).trans GQ2.out
    have hk0 : (0 : Int) ≤ (k : Int) := by omega
    have hk1 : (k : Int) ≤ 20 := by omega
    have HRr := hide ((HR2.out.below hB).mono qB)
    go_upto_region 10 with fail
    have hS : (fun w' => Below wr.heap.size wr w' ∧ p < w'.heap.size ∧ q < w'.heap.size ∧ w'.cell? ⟨p, 0, none⟩ = some (.int .i64 v.size) ∧ w'.cell? ⟨p, 1, none⟩ = some (.slice A n c) ∧ w'.cell? ⟨p, 2, none⟩ = some (.int .i64 v.wrong) ∧ w'.cell? ⟨p, 3, none⟩ = some (.int .i64 v.hxl) ∧ w'.cell? ⟨p, 4, none⟩ = some (.int .i64 v.hxh) ∧ w'.cell? ⟨p, 5, none⟩ = some (.int .i64 v.hyl) ∧ w'.cell? ⟨p, 6, none⟩ = some (.int .i64 v.hyh) ∧ w'.cell? ⟨q, 0, none⟩ = some (.int .i64 b.l) ∧ w'.cell? ⟨q, 1, none⟩ = some (.int .i64 b.r) ∧ w'.cell? ⟨q, 2, none⟩ = some (.int .i64 b.b) ∧ w'.cell? ⟨q, 3, none⟩ = some (.int .i64 b.t)) wr := ⟨Below.refl _ _, by omega, by omega, (blk_cell bp 0).trans rfl, (blk_cell bp 1).trans rfl, (blk_cell bp 2).trans rfl, (blk_cell bp 3).trans rfl, (blk_cell bp 4).trans rfl, (blk_cell bp 5).trans rfl, (blk_cell bp 6).trans rfl, (blk_cell bq 0).trans rfl, (blk_cell bq 1).trans rfl, (blk_cell bq 2).trans rfl, (blk_cell bq 3).trans rfl⟩
    have HB1 := hide (GB2.out.trans (hB.mono GB2.out.size))
    have HB3 := hide hB
    obtain ⟨W1, hW1⟩ : ∃ W1, wr = W1 := ⟨_, rfl⟩
    rw [hW1] at hS HB1 HB3 HRr ⊢
    clear hW1 hB qB bp bq
    have hkeep : ∀ u u' : World, Below u.heap.size u u' → (Below W1.heap.size W1 u ∧ p < u.heap.size ∧ q < u.heap.size ∧ u.cell? ⟨p, 0, none⟩ = some (.int .i64 v.size) ∧ u.cell? ⟨p, 1, none⟩ = some (.slice A n c) ∧ u.cell? ⟨p, 2, none⟩ = some (.int .i64 v.wrong) ∧ u.cell? ⟨p, 3, none⟩ = some (.int .i64 v.hxl) ∧ u.cell? ⟨p, 4, none⟩ = some (.int .i64 v.hxh) ∧ u.cell? ⟨p, 5, none⟩ = some (.int .i64 v.hyl) ∧ u.cell? ⟨p, 6, none⟩ = some (.int .i64 v.hyh) ∧ u.cell? ⟨q, 0, none⟩ = some (.int .i64 b.l) ∧ u.cell? ⟨q, 1, none⟩ = some (.int .i64 b.r) ∧ u.cell? ⟨q, 2, none⟩ = some (.int .i64 b.b) ∧ u.cell? ⟨q, 3, none⟩ = some (.int .i64 b.t)) → (Below W1.heap.size W1 u' ∧ p < u'.heap.size ∧ q < u'.heap.size ∧ u'.cell? ⟨p, 0, none⟩ = some (.int .i64 v.size) ∧ u'.cell? ⟨p, 1, none⟩ = some (.slice A n c) ∧ u'.cell? ⟨p, 2, none⟩ = some (.int .i64 v.wrong) ∧ u'.cell? ⟨p, 3, none⟩ = some (.int .i64 v.hxl) ∧ u'.cell? ⟨p, 4, none⟩ = some (.int .i64 v.hxh) ∧ u'.cell? ⟨p, 5, none⟩ = some (.int .i64 v.hyl) ∧ u'.cell? ⟨p, 6, none⟩ = some (.int .i64 v.hyh) ∧ u'.cell? ⟨q, 0, none⟩ = some (.int .i64 b.l) ∧ u'.cell? ⟨q, 1, none⟩ = some (.int .i64 b.r) ∧ u'.cell? ⟨q, 2, none⟩ = some (.int .i64 b.b) ∧ u'.cell? ⟨q, 3, none⟩ = some (.int .i64 b.t)) := by
      rintro u u' hb ⟨hB, l_p, l_q, k0, k1, k2, k3, k4, k5, k6, k7, k8, k9, k10⟩
      exact ⟨hB.trans (hb.mono hB.size), Nat.lt_of_lt_of_le l_p hb.size, Nat.lt_of_lt_of_le l_q hb.size, (hb.cell (p := ⟨p, 0, none⟩) l_p).trans k0, (hb.cell (p := ⟨p, 1, none⟩) l_p).trans k1, (hb.cell (p := ⟨p, 2, none⟩) l_p).trans k2, (hb.cell (p := ⟨p, 3, none⟩) l_p).trans k3, (hb.cell (p := ⟨p, 4, none⟩) l_p).trans k4, (hb.cell (p := ⟨p, 5, none⟩) l_p).trans k5, (hb.cell (p := ⟨p, 6, none⟩) l_p).trans k6, (hb.cell (p := ⟨q, 0, none⟩) l_q).trans k7, (hb.cell (p := ⟨q, 1, none⟩) l_q).trans k8, (hb.cell (p := ⟨q, 2, none⟩) l_q).trans k9, (hb.cell (p := ⟨q, 3, none⟩) l_q).trans k10⟩
    (try dsimp only at hS)
    have ew : IntKind.i64.wrap ((k : Int) + 1) = (k : Int) + 1 := IntWalk.i64_in _ (by omega)
    have HCW := hide (show L.callOf (L.wider v ((k : Int) + 1)) b 0 = L.callOf v b ((k : Int) + 1) by rw [L.callOf_wid, Int.add_zero])
    by_cases hlt : k < 20
    · have hlt' : (k : Int) < 20 := by omega
      obtain ⟨cw, hcw⟩ : ∃ cw, L.callOf v b ((k : Int) + 1) = cw := ⟨_, rfl⟩
      rw [hcw] at HCW
      have HCWE := hide hcw
      clear hcw
      refine wp_region_held_drew (S := (fun w' => Below W1.heap.size W1 w' ∧ p < w'.heap.size ∧ q < w'.heap.size ∧ w'.cell? ⟨p, 0, none⟩ = some (.int .i64 v.size) ∧ w'.cell? ⟨p, 1, none⟩ = some (.slice A n c) ∧ w'.cell? ⟨p, 2, none⟩ = some (.int .i64 v.wrong) ∧ w'.cell? ⟨p, 3, none⟩ = some (.int .i64 v.hxl) ∧ w'.cell? ⟨p, 4, none⟩ = some (.int .i64 v.hxh) ∧ w'.cell? ⟨p, 5, none⟩ = some (.int .i64 v.hyl) ∧ w'.cell? ⟨p, 6, none⟩ = some (.int .i64 v.hyh) ∧ w'.cell? ⟨q, 0, none⟩ = some (.int .i64 b.l) ∧ w'.cell? ⟨q, 1, none⟩ = some (.int .i64 b.r) ∧ w'.cell? ⟨q, 2, none⟩ = some (.int .i64 b.b) ∧ w'.cell? ⟨q, 3, none⟩ = some (.int .i64 b.t))) (by kernel_rfl) ?_ (fun hHeld0 => ?_)
      · (try dsimp only); (first | (go_keep; done) | (go_split_ands; (repeat' apply And.intro) <;> first | (go_keep; done) | (simp [*, zcA, zcP, zfA, zfP]; done) | (simp [zcA, zcP] <;> rfl) | (simp [*, zsS, zsO, zsA]; done) | ((first | refine (hc _ _ ?_).trans ?_ | refine (hf _ _ ?_).trans ?_) <;> first | assumption | (simp; done) | (simp; omega) | omega | (go_keep; done) | (simp [*, zcA, zcP, zfA, zfP]; done) | (simp [zcA, zcP]; rfl)) | (repeat' first | exact zbR _ _ | assumption | refine zbD ?_ | refine zbA ?_ ?_ _ | refine zbS ?_ ?_ _ | refine zbT ?_ (by assumption) ?_ | (simp; done) | (simp; omega) | omega)))
      refine tL (v := ?_) 0 rfl (by kernel_rfl) (fun _ _ _ h => h) (Or.inl ⟨by rfl, ?_⟩) (by assumption) ?_; rotate_left
      · (intro w hSw; (try dsimp only at hSw); go_simp; try with_reducible rfl)
      try simp only [Act.put, zl, z0, z1]
      refine tL (v := ?_) 1 rfl (by kernel_rfl) (fun _ _ _ h => h) (Or.inl ⟨by rfl, ?_⟩) (by assumption) ?_; rotate_left
      · (intro w hSw; (try dsimp only at hSw); go_simp; try with_reducible rfl)
      try simp only [Act.put, zl, z0, z1]
      refine tL (v := ?_) 2 rfl (by kernel_rfl) (fun _ _ _ h => h) (Or.inl ⟨by rfl, ?_⟩) (by assumption) ?_; rotate_left
      · (intro w hSw; (try dsimp only at hSw); go_simp; try with_reducible rfl)
      try simp only [Act.put, zl, z0, z1]
      refine tL (v := ?_) 3 rfl (by kernel_rfl) (fun _ _ _ h => h) (Or.inl ⟨by rfl, ?_⟩) (by assumption) ?_; rotate_left
      · (intro w hSw; (try dsimp only at hSw); go_simp; try with_reducible rfl)
      try simp only [Act.put, zl, z0, z1]
      refine tL (v := ?_) 4 rfl (by kernel_rfl) (fun _ _ _ h => h) (Or.inl ⟨by rfl, ?_⟩) (by assumption) ?_; rotate_left
      · (intro w hSw; (try dsimp only at hSw); go_simp; try with_reducible rfl)
      try simp only [Act.put, zl, z0, z1]
      refine tL (v := ?_) 5 rfl (by kernel_rfl) (fun _ _ _ h => h) (Or.inl ⟨by rfl, ?_⟩) (by assumption) ?_; rotate_left
      · (intro w hSw; (try dsimp only at hSw); go_simp; try with_reducible rfl)
      try simp only [Act.put, zl, z0, z1]
      refine tL (v := ?_) 7 rfl (by kernel_rfl) (fun _ _ _ h => h) (Or.inl ⟨by rfl, ?_⟩) (by assumption) ?_; rotate_left
      · (intro w hSw; (try dsimp only at hSw); go_simp; try with_reducible rfl)
      try simp only [Act.put, zl, z0, z1]
      refine tL (v := ?_) 9 rfl (by kernel_rfl) (fun _ _ _ h => h) (Or.inl ⟨by rfl, ?_⟩) (by assumption) ?_; rotate_left
      · (intro w hSw; (try dsimp only at hSw); go_simp; try with_reducible rfl)
      try simp only [Act.put, zl, z0, z1]
      refine wpAnyH_ready (rs := [6]) (by kernel_rfl) (by simp) ?_
      refine consL 6 rfl (fun K hK => ?_) AllReadyH.nil
      go_simp
      (go_at_call 22; refine (Wider_any v A n c ((k : Int) + 1) _ HN.out (by first | exact (HRr.out.below hS.1).mono hS.1.size | exact (HRr.out.below (zbD hS.1)).mono hS.1.size) HA.out (by omega) (by omega) (by omega) HBD.out).mono ?_; rintro e w6 ⟨A1, c1, rfl, hown, hb⟩; have HW := hide (owns_RdS hown (by rw [List.length_map]; exact HN.out)); clear hown; have hSn := hkeep _ _ hb (by assumption); (try clear hS); have hS := hSn; clear hSn)
      refine hK.out _ _ ?_ (fun hHeld1 => ?_)
      · (try dsimp only); exact hS
      clear hK K hHeld0
      try simp only [Act.put, zl, z0, z1]
      refine wpAnyH_ready (rs := [8]) (by kernel_rfl) (by simp) ?_
      refine consL 8 rfl (fun K hK => ?_) AllReadyH.nil
      go_simp
      (go_at_call 67; refine (refcall_any (L.wider v ((k : Int) + 1)) A1 n c1 b _ (L.VwW.wider HV.out.w _) HB.out (by rw [show (L.wider v ((k : Int) + 1)).ss = v.ss.map (L.wid ((k : Int) + 1)) from rfl, List.length_map]; exact HN.out) HW.out).mono ?_; rintro e w7 ⟨rfl, hb⟩; rw [HCW.out]; have hSn := hkeep _ _ hb (by assumption); (try clear hS); have hS := hSn; clear hSn)
      refine hK.out _ _ ?_ (fun hHeld2 => ?_)
      · (try dsimp only); exact hS
      clear hK K hHeld1
      try simp only [Act.put, zl, z0, z1]
      refine tL (v := ?_) 10 rfl (by kernel_rfl) (fun _ _ _ h => h) (Or.inl ⟨by rfl, ?_⟩) (by assumption) ?_; rotate_left
      · (intro w hSw; (try dsimp only at hSw); go_simp; try with_reducible rfl)
      try simp only [Act.put, zl, z0, z1]
      refine tL (v := ?_) 11 rfl (by kernel_rfl) (fun _ _ _ h => h) (Or.inl ⟨by rfl, ?_⟩) (by assumption) ?_; rotate_left
      · (intro w hSw; (try dsimp only at hSw); go_simp; try with_reducible rfl)
      try simp only [Act.put, zl, z0, z1]
      refine wpAnyH_done (by kernel_rfl) ?_ _
      obtain ⟨hB6, _, _, _⟩ := hS
      have HB6 := hide hB6
      clear hkeep hHeld2 hB6 HW
      by_cases he : cw = cv
      · have HG := hide (L.slackGo_yes hlt (HCWE.out.trans he))
        subst he
        go_wp2_with fail
        go_roundw
        case rel => exact ⟨k + 1, by omega, by go_num, hide (HG.out.symm.trans hG.out), HB3.out.trans (HB6.out.mono HB3.out.size)⟩
        case measure => simp [intOf]; omega
      · have hE : (cw == cv) = false := by simpa using he
        have HG := hide (L.slackGo_no (cv := cv) hlt (by rw [HCWE.out]; exact he))
        clear he
        go_wp2_with fail
        go_ret2
        exact ⟨by rw [E2.out, E3.out, ← hG.out, HG.out]; rfl, HB1.out.trans (HB6.out.mono HB1.out.size)⟩
    · have hk20 : k = 20 := by omega
      subst hk20
      refine wp_region_held_drew (S := (fun w' => Below W1.heap.size W1 w' ∧ p < w'.heap.size ∧ q < w'.heap.size ∧ w'.cell? ⟨p, 0, none⟩ = some (.int .i64 v.size) ∧ w'.cell? ⟨p, 1, none⟩ = some (.slice A n c) ∧ w'.cell? ⟨p, 2, none⟩ = some (.int .i64 v.wrong) ∧ w'.cell? ⟨p, 3, none⟩ = some (.int .i64 v.hxl) ∧ w'.cell? ⟨p, 4, none⟩ = some (.int .i64 v.hxh) ∧ w'.cell? ⟨p, 5, none⟩ = some (.int .i64 v.hyl) ∧ w'.cell? ⟨p, 6, none⟩ = some (.int .i64 v.hyh) ∧ w'.cell? ⟨q, 0, none⟩ = some (.int .i64 b.l) ∧ w'.cell? ⟨q, 1, none⟩ = some (.int .i64 b.r) ∧ w'.cell? ⟨q, 2, none⟩ = some (.int .i64 b.b) ∧ w'.cell? ⟨q, 3, none⟩ = some (.int .i64 b.t))) (by kernel_rfl) ?_ (fun hHeld0 => ?_)
      · (try dsimp only); (first | (go_keep; done) | (go_split_ands; (repeat' apply And.intro) <;> first | (go_keep; done) | (simp [*, zcA, zcP, zfA, zfP]; done) | (simp [zcA, zcP] <;> rfl) | (simp [*, zsS, zsO, zsA]; done) | ((first | refine (hc _ _ ?_).trans ?_ | refine (hf _ _ ?_).trans ?_) <;> first | assumption | (simp; done) | (simp; omega) | omega | (go_keep; done) | (simp [*, zcA, zcP, zfA, zfP]; done) | (simp [zcA, zcP]; rfl)) | (repeat' first | exact zbR _ _ | assumption | refine zbD ?_ | refine zbA ?_ ?_ _ | refine zbS ?_ ?_ _ | refine zbT ?_ (by assumption) ?_ | (simp; done) | (simp; omega) | omega)))
      refine tL (v := ?_) 0 rfl (by kernel_rfl) (fun _ _ _ h => h) (Or.inl ⟨by rfl, ?_⟩) (by assumption) ?_; rotate_left
      · (intro w hSw; (try dsimp only at hSw); go_simp; try with_reducible rfl)
      try simp only [Act.put, zl, z0, z1]
      refine tL (v := ?_) 1 rfl (by kernel_rfl) (fun _ _ _ h => h) (Or.inl ⟨by rfl, ?_⟩) (by assumption) ?_; rotate_left
      · (intro w hSw; (try dsimp only at hSw); go_simp; try with_reducible rfl)
      try simp only [Act.put, zl, z0, z1]
      refine tL (v := ?_) 2 rfl (by kernel_rfl) (fun _ _ _ h => h) (Or.inl ⟨by rfl, ?_⟩) (by assumption) ?_; rotate_left
      · (intro w hSw; (try dsimp only at hSw); go_simp; try with_reducible rfl)
      try simp only [Act.put, zl, z0, z1]
      refine takeL 3 rfl (by kernel_rfl) (by kernel_rfl) (by kernel_rfl) (fun _ _ _ h => h) (Or.inr ⟨by rfl, rfl⟩) (by assumption) ?_
      try simp only [Act.put, zl, z0, z1]
      refine takeL 4 rfl (by kernel_rfl) (by kernel_rfl) (by kernel_rfl) (fun _ _ _ h => h) (Or.inr ⟨by rfl, rfl⟩) (by assumption) ?_
      try simp only [Act.put, zl, z0, z1]
      refine takeL 5 rfl (by kernel_rfl) (by kernel_rfl) (by kernel_rfl) (fun _ _ _ h => h) (Or.inr ⟨by rfl, rfl⟩) (by assumption) ?_
      try simp only [Act.put, zl, z0, z1]
      refine takeL 6 rfl (by kernel_rfl) (by kernel_rfl) (by kernel_rfl) (fun _ _ _ h => h) (Or.inr ⟨by rfl, rfl⟩) (by assumption) ?_
      try simp only [Act.put, zl, z0, z1]
      refine takeL 7 rfl (by kernel_rfl) (by kernel_rfl) (by kernel_rfl) (fun _ _ _ h => h) (Or.inr ⟨by rfl, rfl⟩) (by assumption) ?_
      try simp only [Act.put, zl, z0, z1]
      refine takeL 8 rfl (by kernel_rfl) (by kernel_rfl) (by kernel_rfl) (fun _ _ _ h => h) (Or.inr ⟨by rfl, rfl⟩) (by assumption) ?_
      try simp only [Act.put, zl, z0, z1]
      refine takeL 9 rfl (by kernel_rfl) (by kernel_rfl) (by kernel_rfl) (fun _ _ _ h => h) (Or.inr ⟨by rfl, rfl⟩) (by assumption) ?_
      try simp only [Act.put, zl, z0, z1]
      refine takeL 10 rfl (by kernel_rfl) (by kernel_rfl) (by kernel_rfl) (fun _ _ _ h => h) (Or.inr ⟨by rfl, rfl⟩) (by assumption) ?_
      try simp only [Act.put, zl, z0, z1]
      refine tL (v := ?_) 11 rfl (by kernel_rfl) (fun _ _ _ h => h) (Or.inl ⟨by rfl, ?_⟩) (by assumption) ?_; rotate_left
      · (intro w hSw; (try dsimp only at hSw); go_simp; try with_reducible rfl)
      try simp only [Act.put, zl, z0, z1]
      refine wpAnyH_done (by kernel_rfl) ?_ _
      obtain ⟨hB6, _, _, _⟩ := hS
      have HB6 := hide hB6
      clear hkeep hB6
      go_wp2_with fail
      go_ret2
      exact ⟨by rw [E2.out, E3.out, ← hG.out]; rfl, (zbD HB1.out)⟩

set_option maxRecDepth 100000 in
set_option maxHeartbeats 3200000 in
theorem refSlack_any (v : L.Vw) (A : Option Addr) (n c : Nat) (b : L.Bx) (w : World) (hn : v.ss.length = n) (hr : RdS w w.heap.size A v.ss) (hA : A = none → c = 0) :
    Calls Try.prog 42 #[.agg #[.int .i64 v.size, .slice A n c, .int .i64 v.wrong, .int .i64 v.hxl, .int .i64 v.hxh, .int .i64 v.hyl, .int .i64 v.hyh], .agg #[.int .i64 b.l, .int .i64 b.r, .int .i64 b.b, .int .i64 b.t]] w fun e w' => e = .returned (.tuple #[.int .i64 (L.slackV v b), .int .i64 (L.callE v b)]) ∧ Below w.heap.size w w' := by
  by_cases h : L.checkBE v b = 0
  · cases hs : L.sure (L.callOf v b 0)
    · have HN := hide hn
      have HR := hide hr
      obtain ⟨hv, hb⟩ := L.checkBE_ok h
      have HV := hide hv
      have HB := hide hb
      have H := hide h
      have hrg := L.callOf_rng v b 0
      by_cases h0 : L.callOf v b 0 = 0
      · have E2 := hide (show L.callE v b = 3 by unfold L.callE; rw [if_pos h, if_pos h0])
        have E3 := hide (show L.slackV v b = 0 by unfold L.slackV; rw [if_pos h, if_neg (by rw [hs]; decide), if_pos h0])
        have HC := hide h0
        clear hn hr h hs h0 hv hb hrg
        go_enter Try.func42, Try.ntmps42
        go_wp2_with (first | (go_at_call 66; refine (checkBox_any v A n c b _ HN.out ((HR.out.below (by (repeat' first | exact zbR _ _ | assumption | refine zbD ?_ | refine zbA ?_ ?_ _ | refine zbS ?_ ?_ _ | refine zbT ?_ (by assumption) ?_ | (simp; done) | (simp; omega) | omega))).mono (by first | (simp; done) | (simp; omega) | omega))).mono ?_; rintro e w2 ⟨rfl, hb2⟩; rw [H.out]; obtain ⟨hc2, hf2⟩ := bcell hb2; have q2 := hb2.size; (try simp only [World.size_alloc] at q2); have z2_0 : w.heap.size < w2.heap.size := (by omega); have z2_1 : w.heap.size + 1 < w2.heap.size := (by omega)) | (go_at_call 67; refine (refcall_any v A n c b _ HV.out.w HB.out HN.out ((HR.out.below (by (repeat' first | exact zbR _ _ | assumption | refine zbD ?_ | refine zbA ?_ ?_ _ | refine zbS ?_ ?_ _ | refine zbT ?_ (by assumption) ?_ | (simp; done) | (simp; omega) | omega))).mono (by first | (simp; done) | (simp; omega) | omega))).mono ?_; rintro e w3 ⟨rfl, hb3⟩; rw [HC.out]))
        go_ret2
        exact ⟨by rw [E2.out, E3.out]; rfl, by (repeat' first | exact zbR _ _ | assumption | refine zbD ?_ | refine zbA ?_ ?_ _ | refine zbS ?_ ?_ _ | refine zbT ?_ (by assumption) ?_ | (simp; done) | (simp; omega) | omega)⟩
      · have h3 : L.callOf v b 0 = 3 := by
          obtain ⟨d1, d2⟩ := L.not_sure hs
          simp only [beq_eq_false_iff_ne, ne_eq] at d1 d2
          omega
        have E2 := hide (show L.callE v b = 0 by unfold L.callE; rw [if_pos h, if_neg h0])
        have E3 := hide (show L.slackV v b = -1 by unfold L.slackV; rw [if_pos h, if_neg (by rw [hs]; decide), if_neg h0])
        have HC := hide h3
        clear hn hr h hs h0 h3 hv hb hrg
        go_enter Try.func42, Try.ntmps42
        go_wp2_with (first | (go_at_call 66; refine (checkBox_any v A n c b _ HN.out ((HR.out.below (by (repeat' first | exact zbR _ _ | assumption | refine zbD ?_ | refine zbA ?_ ?_ _ | refine zbS ?_ ?_ _ | refine zbT ?_ (by assumption) ?_ | (simp; done) | (simp; omega) | omega))).mono (by first | (simp; done) | (simp; omega) | omega))).mono ?_; rintro e w2 ⟨rfl, hb2⟩; rw [H.out]; obtain ⟨hc2, hf2⟩ := bcell hb2; have q2 := hb2.size; (try simp only [World.size_alloc] at q2); have z2_0 : w.heap.size < w2.heap.size := (by omega); have z2_1 : w.heap.size + 1 < w2.heap.size := (by omega)) | (go_at_call 67; refine (refcall_any v A n c b _ HV.out.w HB.out HN.out ((HR.out.below (by (repeat' first | exact zbR _ _ | assumption | refine zbD ?_ | refine zbA ?_ ?_ _ | refine zbS ?_ ?_ _ | refine zbT ?_ (by assumption) ?_ | (simp; done) | (simp; omega) | omega))).mono (by first | (simp; done) | (simp; omega) | omega))).mono ?_; rintro e w3 ⟨rfl, hb3⟩; rw [HC.out]))
        go_ret2
        exact ⟨by rw [E2.out, E3.out]; rfl, by (repeat' first | exact zbR _ _ | assumption | refine zbD ?_ | refine zbA ?_ ?_ _ | refine zbS ?_ ?_ _ | refine zbT ?_ (by assumption) ?_ | (simp; done) | (simp; omega) | omega)⟩
    · exact refSlack_sure v A n c b w hn hr hA h hs
  · have HN := hide hn
    have HR := hide hr
    have E2 := hide (show L.callE v b = L.checkBE v b by unfold L.callE; rw [if_neg h])
    have E3 := hide (show L.slackV v b = 0 by unfold L.slackV; rw [if_neg h])
    have HE := L.checkBE_cases v b
    obtain ⟨k, hk⟩ : ∃ k, L.checkBE v b = k := ⟨_, rfl⟩
    have H := hide hk
    rw [hk] at h HE E2
    clear hn hr hk
    rcases HE with rfl | rfl | rfl
    · exact (h rfl).elim
    all_goals
      clear h
      go_enter Try.func42, Try.ntmps42
      go_wp2_with (go_at_call 66; refine (checkBox_any v A n c b _ HN.out ((HR.out.below (by (repeat' first | exact zbR _ _ | assumption | refine zbD ?_ | refine zbA ?_ ?_ _ | refine zbS ?_ ?_ _ | refine zbT ?_ (by assumption) ?_ | (simp; done) | (simp; omega) | omega))).mono (by first | (simp; done) | (simp; omega) | omega))).mono ?_; rintro e w2 ⟨rfl, hb2⟩; rw [H.out]; obtain ⟨hc2, hf2⟩ := bcell hb2; have q2 := hb2.size; (try simp only [World.size_alloc] at q2); have z2_0 : w.heap.size < w2.heap.size := (by omega); have z2_1 : w.heap.size + 1 < w2.heap.size := (by omega))
      go_ret2
      exact ⟨by rw [E2.out, E3.out]; rfl, by (repeat' first | exact zbR _ _ | assumption | refine zbD ?_ | refine zbA ?_ ?_ _ | refine zbS ?_ ?_ _ | refine zbT ?_ (by assumption) ?_ | (simp; done) | (simp; omega) | omega)⟩

end Go.Proofs.Ytgnobonhohfofaa

namespace Go.Proofs.Ytgnobonhohfofaa
open Go.RowKit
attribute [local go_sem ↓] Go.wp_at_zero Go.wp_at_succ

set_option maxRecDepth 100000 in
set_option maxHeartbeats 6400000 in
theorem callsLaw_far (v : L.Vw) (A : Option Addr) (n c : Nat) (b : L.Bx) (said : Int) (w : World) (hn : v.ss.length = n) (hr : RdS w w.heap.size A v.ss) (hA : A = none → c = 0) (h : L.farB v = true) :
    Calls Try.prog 12 #[.agg #[.int .i64 v.size, .slice A n c, .int .i64 v.wrong, .int .i64 v.hxl, .int .i64 v.hxh, .int .i64 v.hyl, .int .i64 v.hyh], .agg #[.int .i64 b.l, .int .i64 b.r, .int .i64 b.b, .int .i64 b.t], .int .i64 said] w fun e w' => e = .returned (.bool true) ∧ Below w.heap.size w w' := by
  have HN := hide hn
  have HR := hide hr
  have HA := hide hA
  clear hn hr hA
  have HF := hide h
  clear h
  go_enter Try.func12, Try.ntmps12
  go_upto_region 1 with fail
  obtain ⟨W0, hW0⟩ : ∃ W0, (w.alloc (.cells #[.int .i64 v.size, .slice A n c, .int .i64 v.wrong, .int .i64 v.hxl, .int .i64 v.hxh, .int .i64 v.hyl, .int .i64 v.hyh] 26)).alloc (.cells #[.int .i64 b.l, .int .i64 b.r, .int .i64 b.b, .int .i64 b.t] 28) = W0 := ⟨_, rfl⟩
  have gp : W0.heap[w.heap.size]? = some (.cells #[.int .i64 v.size, .slice A n c, .int .i64 v.wrong, .int .i64 v.hxl, .int .i64 v.hxh, .int .i64 v.hyl, .int .i64 v.hyh] 26 (0, 0)) := by
    rw [← hW0]; exact ((Below.heap_alloc _ _ _ (by first | (simp; done) | (simp; omega) | omega)).trans (World.alloc_heap_new _ _))
  have gq : W0.heap[w.heap.size + 1]? = some (.cells #[.int .i64 b.l, .int .i64 b.r, .int .i64 b.b, .int .i64 b.t] 28 (0, 0)) := by
    rw [← hW0]; exact ((congrArg _ (by simp)).trans (World.alloc_heap_new _ _))
  have gs : W0.heap.size = w.heap.size + 1 + 1 := by rw [← hW0]; simp
  have gB : Below w.heap.size w W0 := by rw [← hW0]; (repeat' first | exact zbR _ _ | assumption | refine zbD ?_ | refine zbA ?_ ?_ _ | refine zbS ?_ ?_ _ | refine zbT ?_ (by assumption) ?_ | (simp; done) | (simp; omega) | omega)
  rw [hW0]
  clear hW0
  obtain ⟨p, hp⟩ : ∃ p, w.heap.size = p := ⟨_, rfl⟩
  obtain ⟨q, hq⟩ : ∃ q, w.heap.size + 1 = q := ⟨_, rfl⟩
  rw [hq, hp]
  rw [hp] at gp
  rw [hq] at gq
  have lp : p < W0.heap.size := by omega
  have lq : q < W0.heap.size := by omega
  have HR0 := hide ((HR.out.below gB).mono gB.size)
  have GB := hide gB
  have GP := hide gp
  have cp0 := (blk_cell gp 0).trans rfl; have cp1 := (blk_cell gp 1).trans rfl; have cp2 := (blk_cell gp 2).trans rfl; have cp3 := (blk_cell gp 3).trans rfl; have cp4 := (blk_cell gp 4).trans rfl; have cp5 := (blk_cell gp 5).trans rfl; have cp6 := (blk_cell gp 6).trans rfl
  have GQ := hide gq
  have cq0 := (blk_cell gq 0).trans rfl; have cq1 := (blk_cell gq 1).trans rfl; have cq2 := (blk_cell gq 2).trans rfl; have cq3 := (blk_cell gq 3).trans rfl
  clear gp gq gB gs hp hq
  go_wp2_with (first | (go_at_call 28; refine (Far_any v A n c _ HN.out ((HR0.out.below (by (repeat' first | exact zbR _ _ | assumption | refine zbD ?_ | refine zbA ?_ ?_ _ | refine zbS ?_ ?_ _ | refine zbT ?_ (by assumption) ?_ | (simp; done) | (simp; omega) | omega))).mono (by first | (simp; done) | (simp; omega) | omega))).mono ?_; rintro e w2 ⟨rfl, hb2⟩; rw [HF.out]; obtain ⟨hc2, hf2⟩ := bcell hb2; have q2 := hb2.size; (try simp only [World.size_alloc] at q2); have z2_p : p < w2.heap.size := (by omega); have z2_q : q < w2.heap.size := (by omega)) | (go_at_call 16; refine (works_any _).mono ?_; rintro e w19 ⟨rfl, hb19⟩))
  go_ret
  exact ⟨rfl, GB.out.trans ((show Below W0.heap.size W0 _ by (repeat' first | exact zbR _ _ | assumption | refine zbD ?_ | refine zbA ?_ ?_ _ | refine zbS ?_ ?_ _ | refine zbT ?_ (by assumption) ?_ | (simp; done) | (simp; omega) | omega)).mono GB.out.size)⟩

set_option maxRecDepth 100000 in
set_option maxHeartbeats 6400000 in
theorem callsLaw_in (v : L.Vw) (A : Option Addr) (n c : Nat) (b : L.Bx) (said : Int) (w : World) (hn : v.ss.length = n) (hr : RdS w w.heap.size A v.ss) (hA : A = none → c = 0) (h : L.farB v = false) :
    Calls Try.prog 12 #[.agg #[.int .i64 v.size, .slice A n c, .int .i64 v.wrong, .int .i64 v.hxl, .int .i64 v.hxh, .int .i64 v.hyl, .int .i64 v.hyh], .agg #[.int .i64 b.l, .int .i64 b.r, .int .i64 b.b, .int .i64 b.t], .int .i64 said] w fun e w' => e = .returned (.bool true) ∧ Below w.heap.size w w' := by
  have HN := hide hn
  have HR := hide hr
  have HA := hide hA
  clear hn hr hA
  have HF := hide h
  have hn40 : n ≤ 1000 := by have := (L.farB_no h).1; have := HN.out; omega
  clear h
  go_enter Try.func12, Try.ntmps12
  go_upto_region 1 with fail
  obtain ⟨W0, hW0⟩ : ∃ W0, (w.alloc (.cells #[.int .i64 v.size, .slice A n c, .int .i64 v.wrong, .int .i64 v.hxl, .int .i64 v.hxh, .int .i64 v.hyl, .int .i64 v.hyh] 26)).alloc (.cells #[.int .i64 b.l, .int .i64 b.r, .int .i64 b.b, .int .i64 b.t] 28) = W0 := ⟨_, rfl⟩
  have gp : W0.heap[w.heap.size]? = some (.cells #[.int .i64 v.size, .slice A n c, .int .i64 v.wrong, .int .i64 v.hxl, .int .i64 v.hxh, .int .i64 v.hyl, .int .i64 v.hyh] 26 (0, 0)) := by
    rw [← hW0]; exact ((Below.heap_alloc _ _ _ (by first | (simp; done) | (simp; omega) | omega)).trans (World.alloc_heap_new _ _))
  have gq : W0.heap[w.heap.size + 1]? = some (.cells #[.int .i64 b.l, .int .i64 b.r, .int .i64 b.b, .int .i64 b.t] 28 (0, 0)) := by
    rw [← hW0]; exact ((congrArg _ (by simp)).trans (World.alloc_heap_new _ _))
  have gs : W0.heap.size = w.heap.size + 1 + 1 := by rw [← hW0]; simp
  have gB : Below w.heap.size w W0 := by rw [← hW0]; (repeat' first | exact zbR _ _ | assumption | refine zbD ?_ | refine zbA ?_ ?_ _ | refine zbS ?_ ?_ _ | refine zbT ?_ (by assumption) ?_ | (simp; done) | (simp; omega) | omega)
  rw [hW0]
  clear hW0
  obtain ⟨p, hp⟩ : ∃ p, w.heap.size = p := ⟨_, rfl⟩
  obtain ⟨q, hq⟩ : ∃ q, w.heap.size + 1 = q := ⟨_, rfl⟩
  rw [hq, hp]
  rw [hp] at gp
  rw [hq] at gq
  have lp : p < W0.heap.size := by omega
  have lq : q < W0.heap.size := by omega
  have HR0 := hide ((HR.out.below gB).mono gB.size)
  have GB := hide gB
  have GP := hide gp
  have cp0 := (blk_cell gp 0).trans rfl; have cp1 := (blk_cell gp 1).trans rfl; have cp2 := (blk_cell gp 2).trans rfl; have cp3 := (blk_cell gp 3).trans rfl; have cp4 := (blk_cell gp 4).trans rfl; have cp5 := (blk_cell gp 5).trans rfl; have cp6 := (blk_cell gp 6).trans rfl
  have GQ := hide gq
  have cq0 := (blk_cell gq 0).trans rfl; have cq1 := (blk_cell gq 1).trans rfl; have cq2 := (blk_cell gq 2).trans rfl; have cq3 := (blk_cell gq 3).trans rfl
  clear gp gq gB gs hp hq
  go_wp2_with (first | (go_at_call 28; refine (Far_any v A n c _ HN.out ((HR0.out.below (by (repeat' first | exact zbR _ _ | assumption | refine zbD ?_ | refine zbA ?_ ?_ _ | refine zbS ?_ ?_ _ | refine zbT ?_ (by assumption) ?_ | (simp; done) | (simp; omega) | omega))).mono (by first | (simp; done) | (simp; omega) | omega))).mono ?_; rintro e w2 ⟨rfl, hb2⟩; rw [HF.out]; obtain ⟨hc2, hf2⟩ := bcell hb2; have q2 := hb2.size; (try simp only [World.size_alloc] at q2); have z2_p : p < w2.heap.size := (by omega); have z2_q : q < w2.heap.size := (by omega)) | (go_at_call 26; refine (Copy_any v A n c _ HN.out ((HR0.out.below (by (repeat' first | exact zbR _ _ | assumption | refine zbD ?_ | refine zbA ?_ ?_ _ | refine zbS ?_ ?_ _ | refine zbT ?_ (by assumption) ?_ | (simp; done) | (simp; omega) | omega))).mono (by first | (simp; done) | (simp; omega) | omega)) HA.out hn40).mono ?_; rintro e w3 ⟨A', c', rfl, hown, hb3⟩; have HRO := hide (owns_RdS hown HN.out); clear hown; obtain ⟨hc3, hf3⟩ := bcell hb3; have q3 := hb3.size; (try simp only [World.size_alloc] at q3); have z3_p : p < w3.heap.size := (by omega); have z3_q : q < w3.heap.size := (by omega)) | (go_at_call 17; refine (Call_any v A' n c' b _ HN.out ((HRO.out.below (by (repeat' first | exact zbR _ _ | assumption | refine zbD ?_ | refine zbA ?_ ?_ _ | refine zbS ?_ ?_ _ | refine zbT ?_ (by assumption) ?_ | (simp; done) | (simp; omega) | omega))).mono (by first | (simp; done) | (simp; omega) | omega))).mono ?_; rintro e w4 ⟨rfl, hb4⟩; obtain ⟨hc4, hf4⟩ := bcell hb4; have q4 := hb4.size; (try simp only [World.size_alloc] at q4); have z4_p : p < w4.heap.size := (by omega); have z4_q : q < w4.heap.size := (by omega); have z4_w3 : w3.heap.size < w4.heap.size := (by omega)) | (go_at_call 41; refine (refCall_any v A n c b _ HN.out ((HR0.out.below (by (repeat' first | exact zbR _ _ | assumption | refine zbD ?_ | refine zbA ?_ ?_ _ | refine zbS ?_ ?_ _ | refine zbT ?_ (by assumption) ?_ | (simp; done) | (simp; omega) | omega))).mono (by first | (simp; done) | (simp; omega) | omega))).mono ?_; rintro e w5 ⟨rfl, hb5⟩; obtain ⟨hc5, hf5⟩ := bcell hb5; have q5 := hb5.size; (try simp only [World.size_alloc] at q5); have z5_p : p < w5.heap.size := (by omega); have z5_q : q < w5.heap.size := (by omega); have z5_w3 : w3.heap.size < w5.heap.size := (by omega)) | (go_at_call 27; refine (Slack_any v A' n c' b _ HN.out ((HRO.out.below (by (repeat' first | exact zbR _ _ | assumption | refine zbD ?_ | refine zbA ?_ ?_ _ | refine zbS ?_ ?_ _ | refine zbT ?_ (by assumption) ?_ | (simp; done) | (simp; omega) | omega))).mono (by first | (simp; done) | (simp; omega) | omega))).mono ?_; rintro e w6 ⟨rfl, hb6⟩; obtain ⟨hc6, hf6⟩ := bcell hb6; have q6 := hb6.size; (try simp only [World.size_alloc] at q6); have z6_p : p < w6.heap.size := (by omega); have z6_q : q < w6.heap.size := (by omega); have z6_w3 : w3.heap.size < w6.heap.size := (by omega)) | (go_at_call 42; refine (refSlack_any v A n c b _ HN.out ((HR0.out.below (by (repeat' first | exact zbR _ _ | assumption | refine zbD ?_ | refine zbA ?_ ?_ _ | refine zbS ?_ ?_ _ | refine zbT ?_ (by assumption) ?_ | (simp; done) | (simp; omega) | omega))).mono (by first | (simp; done) | (simp; omega) | omega)) HA.out).mono ?_; rintro e w7 ⟨rfl, hb7⟩; obtain ⟨hc7, hf7⟩ := bcell hb7; have q7 := hb7.size; (try simp only [World.size_alloc] at q7); have z7_p : p < w7.heap.size := (by omega); have z7_q : q < w7.heap.size := (by omega); have z7_w3 : w3.heap.size < w7.heap.size := (by omega)) | (go_at_call 32; refine (Decide_any said v A' n c' b _ HN.out ((HRO.out.below (by (repeat' first | exact zbR _ _ | assumption | refine zbD ?_ | refine zbA ?_ ?_ _ | refine zbS ?_ ?_ _ | refine zbT ?_ (by assumption) ?_ | (simp; done) | (simp; omega) | omega))).mono (by first | (simp; done) | (simp; omega) | omega))).mono ?_; rintro e w8 ⟨rfl, hb8⟩; obtain ⟨hc8, hf8⟩ := bcell hb8; have q8 := hb8.size; (try simp only [World.size_alloc] at q8); have z8_p : p < w8.heap.size := (by omega); have z8_q : q < w8.heap.size := (by omega); have z8_w3 : w3.heap.size < w8.heap.size := (by omega)) | (go_at_call 43; refine (refDecide_any said v A n c b _ HN.out ((HR0.out.below (by (repeat' first | exact zbR _ _ | assumption | refine zbD ?_ | refine zbA ?_ ?_ _ | refine zbS ?_ ?_ _ | refine zbT ?_ (by assumption) ?_ | (simp; done) | (simp; omega) | omega))).mono (by first | (simp; done) | (simp; omega) | omega))).mono ?_; rintro e w9 ⟨rfl, hb9⟩; obtain ⟨hc9, hf9⟩ := bcell hb9; have q9 := hb9.size; (try simp only [World.size_alloc] at q9); have z9_p : p < w9.heap.size := (by omega); have z9_q : q < w9.heap.size := (by omega); have z9_w3 : w3.heap.size < w9.heap.size := (by omega)) | (go_at_call 16; refine (works_any _).mono ?_; rintro e w19 ⟨rfl, hb19⟩))
  go_ret
  exact ⟨rfl, GB.out.trans ((show Below W0.heap.size W0 _ by (repeat' first | exact zbR _ _ | assumption | refine zbD ?_ | refine zbA ?_ ?_ _ | refine zbS ?_ ?_ _ | refine zbT ?_ (by assumption) ?_ | (simp; done) | (simp; omega) | omega)).mono GB.out.size)⟩

theorem callsLaw_any (v : L.Vw) (A : Option Addr) (n c : Nat) (b : L.Bx) (said : Int) (w : World) (hn : v.ss.length = n) (hr : RdS w w.heap.size A v.ss) (hA : A = none → c = 0) :
    Calls Try.prog 12 #[.agg #[.int .i64 v.size, .slice A n c, .int .i64 v.wrong, .int .i64 v.hxl, .int .i64 v.hxh, .int .i64 v.hyl, .int .i64 v.hyh], .agg #[.int .i64 b.l, .int .i64 b.r, .int .i64 b.b, .int .i64 b.t], .int .i64 said] w fun e w' => e = .returned (.bool true) ∧ Below w.heap.size w w' := by
  cases h : L.farB v
  · exact callsLaw_in v A n c b said w hn hr hA h
  · exact callsLaw_far v A n c b said w hn hr hA h

end Go.Proofs.Ytgnobonhohfofaa

namespace Go.Proofs.Ytgnobonhohfofaa
open Go.ChangeShapes Go.WideShapes Go.ChangeAt Go.RowKit Go.Deep Go.Joins

theorem Try.ownLinesCalls : ownKnob Try.prog.godebug = none := by kernel_rfl

set_option maxRecDepth 100000 in
theorem linesCalls_call (H : Type) (enc : TypeId × Value → H) (W : World) (base : Nat) (args : Array Value) (ds : List (DataW H)) (p : List MemPlace) (hval : ∀ (j : Nat) t v, Try.f12.params[j]? = some t → args[j]? = some v → Value.okWide Try.prog W .any base t v)
    (hA : DataW.TrodAll enc Try.prog W 0 (fun _ => true) true Try.f12.params.toList args.toList ds p) : Calls Try.prog 12 args W fun e W' => e = .returned (.bool true) ∧ Below W.heap.size W W' := by
  rw [Try.params12] at hA hval
  obtain ⟨v0, v1, v2, d0, d1, d2, p0, p1, p2, rfl, rfl, rfl, h0, h1, h2⟩ := trodAll_three hA
  obtain ⟨x0, A0, n0, c0, rfl, hle0, hmx0, hn0, hr0, hno0, hwf0⟩ := open_view (hval 0 26 v0 rfl rfl) h0
  obtain ⟨x1, rfl, hwf1⟩ := open_box (hval 1 28 v1 rfl rfl) h1
  obtain ⟨x2, rfl, hd2, hp2, hwf2⟩ := Go.ChangeShapes.open_int Try.underlying3 (hval 2 3 v2 rfl rfl) h2
  exact callsLaw_any x0 A0 n0 c0 x1 x2 W hn0 hr0 hno0

set_option maxRecDepth 100000 in
theorem LinesCalls_holds : Rows.LinesCallsSaid :=
  OpenClaim.holds_of_wide (p := Try.pinned) (s := Rows.linesCallsSpec) (c := Rows.linesCallsRow) 12 Try.f12 rfl rfl rfl rfl rfl rfl rfl ⟨rfl, rfl, rfl, rfl, rfl⟩ rfl rfl rfl rfl rfl (by kernel_rfl) Try.func12 (by kernel_rfl)
    (of_decide_eq_true (by kernel_rfl)) (by unfold Func.isWrapper; first | (rw [if_pos (by decide +kernel)]; kernel_rfl) | (rw [if_neg (by decide +kernel)]; exact ⟨rfl, rfl⟩))
    (fun os started H enc _ => law_lift (C := Try.checked) (F := 12) (fn := Try.f12) (s := Rows.linesCallsSpec) (bt := 4) started Try.ownLinesCalls (by kernel_rfl) Try.func12 (by kernel_rfl) Try.underlying4 rfl laidOut (of_decide_eq_true (by kernel_rfl))
      (fun ds hds => match ds, hds with | [_, _, _], _ => rfl)
      (ChangeSpec.witness6 (enc := enc) (C := Try.checked) false ⟨#[], #[.agg #[.int .i64 0, .slice none 0 0, .int .i64 0, .int .i64 0, .int .i64 0, .int .i64 0, .int .i64 0], .agg #[.int .i64 0, .int .i64 0, .int .i64 0, .int .i64 0], .int .i64 0], []⟩ 8 (by kernel_rfl) (by kernel_rfl) (by kernel_rfl) (by kernel_rfl))
      (fun W base args ds p hval hA _ => linesCalls_call H enc W base args ds p hval hA) _ _ _)

end Go.Proofs.Ytgnobonhohfofaa
