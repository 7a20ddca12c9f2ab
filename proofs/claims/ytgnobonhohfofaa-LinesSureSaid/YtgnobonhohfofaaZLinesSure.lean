/-
  For every view, every box and every mark the law LinesSure returns true and leaves its arguments as they were. No condition.
-/
import Derived.Deep.CutRange
import Derived.Deep.DeepCutAuto
import Derived.Deep.RegionHeld3
import Derived.KernelRfl
import Derived.Test.YtgnobonhohfofaaZB01
import Derived.Test.YtgnobonhohfofaaZB02
namespace Go.Proofs.Ytgnobonhohfofaa
open Go.RowKit
attribute [local go_sem ↓] Go.wp_at_zero Go.wp_at_succ

theorem blk_new2 {w : World} {X Y : Obj} : ((w.alloc X).alloc Y).heap[w.heap.size + 1]? = some Y := by
  have := World.alloc_heap_new (w.alloc X) Y
  rwa [World.size_alloc] at this
theorem L.wrongFrom_take {ss : List L.St} {k : Nat} {s : L.St} (x y : Int) (hk : ss[k]? = some s) : L.wrongFrom x y 0 (ss.take (k + 1)) = L.wrongFrom x y 0 (ss.take k) ++ (if L.off x y 0 s then [(k : Int)] else []) := by
  rw [List.take_add_one, hk, Option.toList_some, L.wrongFrom_append]
  have hl : (ss.take k).length = k := by rw [List.length_take]; have := (List.getElem?_eq_some_iff.1 hk).1; omega
  rw [hl, Nat.zero_add]
  simp only [L.wrongFrom]
theorem L.off_zero (x y : Int) (s : L.St) : L.off x y 0 s = !L.within (s.p * x + s.q * y) s.lo s.hi := by unfold L.off; rw [Int.sub_zero, Int.add_zero]

set_option maxRecDepth 100000 in
set_option maxHeartbeats 3200000 in
theorem refWrong_any (v : L.Vw) (A : Option Addr) (n c : Nat) (x y : Int) (w : World) (hn : v.ss.length = n) (hr : RdS w w.heap.size A v.ss) (ho : ∀ s ∈ v.ss, L.StOk s) (h8 : n ≤ 8) (hx0 : 0 ≤ x) (hx1 : x ≤ 40) (hy0 : 0 ≤ y) (hy1 : y ≤ 40) :
    Calls Try.prog 50 #[.agg #[.int .i64 v.size, .slice A n c, .int .i64 v.wrong, .int .i64 v.hxl, .int .i64 v.hxh, .int .i64 v.hyl, .int .i64 v.hyh], .int .i64 x, .int .i64 y] w fun e w' => ∃ sv c', e = .returned (.slice sv (L.wrongL v x y).length c') ∧ w'.ownsRow w.heap.size 3 1 (.slice sv (L.wrongL v x y).length c') (L.wrongL v x y).length (flatI (L.wrongL v x y)) ∧ Below w.heap.size w w' := by
  have HN := hide hn
  have HR := hide hr
  have HO := hide ho
  clear hn hr ho
  go_enter Try.func50, Try.ntmps50
  go_wp2
  go_loopw [7, 8] (fun m i wr => ∃ j : Nat, j ≤ n ∧ i = .int .i64 j ∧ (∃ sv c', m = .slice sv (L.wrongFrom x y 0 (v.ss.take j)).length c' ∧ Hid (wr.ownsRow (w.heap.size + 1) 3 1 (.slice sv (L.wrongFrom x y 0 (v.ss.take j)).length c') (L.wrongFrom x y 0 (v.ss.take j)).length (flatI (L.wrongFrom x y 0 (v.ss.take j))))) ∧ Below (w.heap.size + 1) (w.alloc (.cells #[.int .i64 v.size, .slice A n c, .int .i64 v.wrong, .int .i64 v.hxl, .int .i64 v.hxh, .int .i64 v.hyl, .int .i64 v.hyh] 26)) wr) (fun _ i _ => n - (intOf i).toNat)
  case atStart => exact ⟨0, by omega, rfl, ⟨none, 0, rfl, hide (World.ownsRow_nil _ _ _ _)⟩, by (repeat' first | exact zbR _ _ | assumption | refine zbD ?_ | refine zbA ?_ ?_ _ | refine zbS ?_ ?_ _ | refine zbT ?_ (by assumption) ?_ | (simp; done) | (simp; omega) | omega)⟩
  case round =>
    obtain ⟨j, hj, rfl, ⟨sv, c', rfl, hown⟩, hB⟩ := hrel
    have hBs := hB.size
    simp only [World.size_alloc] at hBs
    have hB0 : Below w.heap.size w wr := ((Below.refl _ w).alloc (Nat.le_refl _) _).trans (hB.mono (by omega))
    have k1 : wr.cell? ⟨w.heap.size, 1, none⟩ = some (.slice A n c) := (hB.cell (p := ⟨w.heap.size, 1, none⟩) (by show w.heap.size < _; omega)).trans (zcA _ _ _ _ rfl)
    have hm : (L.wrongFrom x y 0 (v.ss.take j)).length ≤ 8 := by
      rw [L.wrongFrom_length]; have := L.many_take_le v.ss j x y 0; omega
    by_cases hlt : j < n
    · obtain ⟨s, hs⟩ : ∃ s, v.ss[j]? = some s := ⟨_, List.getElem?_eq_getElem (by have := HN.out; omega)⟩
      obtain ⟨b, o, hA, hbB, d0, d1, d2, d3⟩ := (HR.out.below hB0) j s hs
      subst hA
      obtain ⟨p0, p1, q0, q1, l0, lh, h1⟩ := HO.out s (List.mem_of_getElem? hs)
      obtain ⟨m0, m1⟩ : -120 ≤ s.p * x ∧ s.p * x ≤ 120 := by have := L.mul_bd p0 p1 hx0 hx1; omega
      obtain ⟨m2, m3⟩ : -120 ≤ s.q * y ∧ s.q * y ≤ 120 := by have := L.mul_bd q0 q1 hy0 hy1; omega
      have HM := hide (L.wrongFrom_take x y hs)
      have HZ := hide (L.off_zero x y s)
      clear hs
      have hlt' : (j : Int) < (n : Int) := by omega
      have hj0 : (0 : Int) ≤ (j : Int) := by omega
      cases hv : L.within (s.p * x + s.q * y) s.lo s.hi
      · have HE : Hid (L.wrongFrom x y 0 (v.ss.take (j + 1)) = L.wrongFrom x y 0 (v.ss.take j) ++ [(j : Int)]) := hide (by rw [HM.out, HZ.out, hv]; rfl)
        have HL := hide (show (L.wrongFrom x y 0 (v.ss.take (j + 1))).length = (L.wrongFrom x y 0 (v.ss.take j)).length + 1 by rw [HE.out, List.length_append]; rfl)
        go_wp2_with (first | (go_at_call 57; refine (refWithin_any _ _ _ _).mono ?_; rintro e w3 ⟨rfl, rfl⟩; rw [hv]) | (refine wpList_app_at rfl (.tmp 37) (.tmp 39) rfl (w.heap.size + 1) _ (L.wrongFrom x y 0 (v.ss.take j)) _ rfl (owns_below hown.out (((Below.refl _ wr).alloc (Nat.le_refl _) _).alloc (by first | (simp; done) | (simp; omega) | omega) _)) (some ⟨wr.heap.size + 1, 0, none⟩) 1 1 [(j : Int)] rfl rfl (rdI_one blk_new2) (fun e => by cases e) (by omega) (by omega) (by first | (simp; done) | (simp; omega) | omega) ?_; intro A2 c2 w5 hown2 hgrow; have hg5 := grown_below (B := w.heap.size + 1) hgrow (by first | (simp; done) | (simp; omega) | omega) (fun g hg => (hown.out.lt g hg).1); have HO2 := hide hown2; clear hown2 hgrow))
        go_roundw
        case rel => exact ⟨j + 1, by omega, by go_num, ⟨A2, c2, by rw [HL.out], hide (by rw [HL.out, HE.out]; exact HO2.out)⟩, (hB.trans (((Below.refl _ wr).alloc (by omega) _).alloc (by simp; omega) _)).trans hg5⟩
        case measure => simp [intOf]; omega
      · have HE : Hid (L.wrongFrom x y 0 (v.ss.take (j + 1)) = L.wrongFrom x y 0 (v.ss.take j)) := hide (by rw [HM.out, HZ.out, hv]; simp)
        go_wp2_with (go_at_call 57; refine (refWithin_any _ _ _ _).mono ?_; rintro e w3 ⟨rfl, rfl⟩; rw [hv])
        go_roundw
        case rel => exact ⟨j + 1, by omega, by go_num, ⟨sv, c', by rw [HE.out], hide (by rw [HE.out]; exact owns_below hown.out ((Below.refl _ wr).alloc (Nat.le_refl _) _))⟩, by (repeat' first | exact zbR _ _ | assumption | refine zbD ?_ | refine zbA ?_ ?_ _ | refine zbS ?_ ?_ _ | refine zbT ?_ (by assumption) ?_ | (simp; done) | (simp; omega) | omega)⟩
        case measure => simp [intOf]; omega
    · have hjn : j = n := by omega
      subst hjn
      have HE : Hid (L.wrongFrom x y 0 (v.ss.take j) = L.wrongL v x y) := hide (by rw [List.take_of_length_le (by have := HN.out; omega)]; rfl)
      go_wp2_with fail
      go_ret
      refine ⟨sv, c', ?_, ?_, hB0⟩
      · rw [← HE.out]; rfl
      · rw [← HE.out]; exact owns_mono hown.out (by omega)

end Go.Proofs.Ytgnobonhohfofaa

namespace Go.Proofs.Ytgnobonhohfofaa
open Go.RowKit
attribute [local go_sem ↓] Go.wp_at_zero Go.wp_at_succ

theorem ret_int {k : IntKind} {a b : Int} (h : a = b) : Ending.returned (.int k a) = .returned (.int k b) := by rw [h]
theorem refFar_any (n lo hi : Int) (w : World) (h0 : 0 ≤ n) (h1 : n ≤ 40) (h2 : 0 ≤ lo) (h3 : lo ≤ 40) (h4 : 0 ≤ hi) (h5 : hi ≤ 40) :
    Calls Try.prog 56 #[.int .i64 n, .int .i64 lo, .int .i64 hi] w fun e w' => e = .returned (.int .i64 (L.far n lo hi)) ∧ w' = w := by
  go_enter Try.func56, Try.ntmps56
  go_wp2
  all_goals
    go_ret
    exact ⟨ret_int (by unfold L.far; (try simp only [Array.getD_eq_getD_getElem?]); omega), rfl⟩

set_option maxHeartbeats 1600000 in
theorem refTouch_any (m : L.Mk) (b : L.Bx) (w : World) (hb : L.BxOk b) (hm : L.MkOk m) :
    Calls Try.prog 21 #[.agg #[.int .i64 m.x, .int .i64 m.y, .int .i64 m.hx, .int .i64 m.hy], .agg #[.int .i64 b.l, .int .i64 b.r, .int .i64 b.b, .int .i64 b.t]] w fun e w' => e = .returned (.bool (L.touch m b)) ∧ Below w.heap.size w w' := by
  obtain ⟨l0, lr, r1, b0, bt, t1⟩ := hb
  obtain ⟨x0, x1, y0, y1, p0, p1, q0, q1⟩ := hm
  obtain ⟨r0, r2⟩ := L.far_bd (d := L.far m.x b.l b.r) rfl x0 x1 l0 lr r1
  obtain ⟨s0, s1⟩ := L.far_bd (d := L.far m.y b.b b.t) rfl y0 y1 b0 bt t1
  obtain ⟨a1, a2⟩ : 0 ≤ (L.far m.x b.l b.r) * (L.far m.x b.l b.r) ∧ (L.far m.x b.l b.r) * (L.far m.x b.l b.r) ≤ 1600 := L.mul_in r0 r2 r0 r2
  obtain ⟨a3, a4⟩ : 0 ≤ (L.far m.x b.l b.r) * (L.far m.x b.l b.r) * m.hy ∧ (L.far m.x b.l b.r) * (L.far m.x b.l b.r) * m.hy ≤ 14400 := L.mul_in a1 a2 (by omega) q1
  obtain ⟨a5, a6⟩ : 0 ≤ (L.far m.x b.l b.r) * (L.far m.x b.l b.r) * m.hy * m.hy ∧ (L.far m.x b.l b.r) * (L.far m.x b.l b.r) * m.hy * m.hy ≤ 129600 := L.mul_in a3 a4 (by omega) q1
  obtain ⟨c1, c2⟩ : 0 ≤ (L.far m.y b.b b.t) * (L.far m.y b.b b.t) ∧ (L.far m.y b.b b.t) * (L.far m.y b.b b.t) ≤ 1600 := L.mul_in s0 s1 s0 s1
  obtain ⟨c3, c4⟩ : 0 ≤ (L.far m.y b.b b.t) * (L.far m.y b.b b.t) * m.hx ∧ (L.far m.y b.b b.t) * (L.far m.y b.b b.t) * m.hx ≤ 14400 := L.mul_in c1 c2 (by omega) p1
  obtain ⟨c5, c6⟩ : 0 ≤ (L.far m.y b.b b.t) * (L.far m.y b.b b.t) * m.hx * m.hx ∧ (L.far m.y b.b b.t) * (L.far m.y b.b b.t) * m.hx * m.hx ≤ 129600 := L.mul_in c3 c4 (by omega) p1
  obtain ⟨e1, e2⟩ : 0 ≤ m.hx * m.hx ∧ m.hx * m.hx ≤ 81 := L.mul_in (by omega) p1 (by omega) p1
  obtain ⟨e3, e4⟩ : 0 ≤ m.hx * m.hx * m.hy ∧ m.hx * m.hx * m.hy ≤ 729 := L.mul_in e1 e2 (by omega) q1
  obtain ⟨e5, e6⟩ : 0 ≤ m.hx * m.hx * m.hy * m.hy ∧ m.hx * m.hx * m.hy * m.hy ≤ 6561 := L.mul_in e3 e4 (by omega) q1
  have HE := hide (show L.touch m b = decide ((L.far m.x b.l b.r) * (L.far m.x b.l b.r) * m.hy * m.hy + (L.far m.y b.b b.t) * (L.far m.y b.b b.t) * m.hx * m.hx ≤ m.hx * m.hx * m.hy * m.hy) by unfold L.touch; rw [L.sq_mul, L.sq_mul (L.far m.y b.b b.t), L.sq_mul m.hx, Int.mul_assoc ((L.far m.x b.l b.r) * (L.far m.x b.l b.r)), Int.mul_assoc ((L.far m.y b.b b.t) * (L.far m.y b.b b.t)), Int.mul_assoc (m.hx * m.hx)])
  go_enter Try.func21, Try.ntmps21
  go_upto_region 1 with fail
  go_quiet ((go_at_call 56; exact Calls.quiet_of_same (refFar_any _ _ _ _ (by omega) (by omega) (by omega) (by omega) (by omega) (by omega))))
  all_goals
    go_wp2
    go_ret
    exact ⟨by rw [HE.out]; rfl, below_drewN (by (repeat' first | exact zbR _ _ | assumption | refine zbD ?_ | refine zbA ?_ ?_ _ | refine zbS ?_ ?_ _ | refine zbT ?_ (by assumption) ?_ | (simp; done) | (simp; omega) | omega)) _⟩

end Go.Proofs.Ytgnobonhohfofaa

namespace Go.Proofs.Ytgnobonhohfofaa
open Go

theorem drop_get {α : Type} {l rest : List α} {x : α} : ∀ {i : Nat}, l.drop i = x :: rest → l.toArray[i]? = some x := by
  intro i h
  have : l[i]? = some x := by
    have := congrArg List.head? h
    simpa [List.head?_drop] using this
  simpa using this

theorem takeL {P : Program} {md : Region.Mode} {l rest : List Oper} {Q : Exit → Act → World → Prop} {S : World → Prop} {oi : Oper} {v : Value} {fuel : Nat} {listed : Array Bool} {a : Act} {w : World} (i : Nat) (hi : l.drop i = oi :: rest)
    (hs : Region.noSelect l.toArray = true) (hf : Region.free md l.toArray listed i = true) (hr : (Region.ready md l.toArray listed).contains i = true)
    (hQ : ∀ c a w, Q (.panic c) (a.put oi.dst v) w → Q (.panic c) a w) (hy : YieldsIf P l.toArray S oi v a) (hS : S w)
    (h : wpAnyH P md l.toArray Q S fuel (listed.setIfInBounds i true) (a.put oi.dst v) w) : wpAnyH P md l.toArray Q S (fuel + 1) listed a w :=
  wpAnyH_take (drop_get hi) hs hf hr hQ hy hS h

theorem tL {P : Program} {md : Region.Mode} {l rest : List Oper} {Q : Exit → Act → World → Prop} {S : World → Prop} {oi : Oper} {v : Value} {fuel : Nat} {listed : Array Bool} {a : Act} {w : World} (i : Nat) (hi : l.drop i = oi :: rest)
    (hb : (Region.noSelect l.toArray && Region.free md l.toArray listed i && (Region.ready md l.toArray listed).contains i) = true)
    (hQ : ∀ c a w, Q (.panic c) (a.put oi.dst v) w → Q (.panic c) a w) (hy : YieldsIf P l.toArray S oi v a) (hS : S w)
    (h : wpAnyH P md l.toArray Q S fuel (listed.setIfInBounds i true) (a.put oi.dst v) w) : wpAnyH P md l.toArray Q S (fuel + 1) listed a w := by
  rw [Bool.and_eq_true, Bool.and_eq_true] at hb
  exact takeL i hi hb.1.1 hb.1.2 hb.2 hQ hy hS h
theorem zl {α : Type} (l : List α) (i : Nat) (a : α) : l.toArray.setIfInBounds i a = (l.set i a).toArray := List.setIfInBounds_toArray l i a
theorem z0 {α : Type} {x : α} {xs : List α} {a : α} : (x :: xs).set 0 a = a :: xs := List.set_cons_zero
theorem z1 {α : Type} {x : α} {xs : List α} {i : Nat} {a : α} : (x :: xs).set (i + 1) a = x :: xs.set i a := List.set_cons_succ

theorem consL {P : Program} {md : Region.Mode} {l rest : List Oper} {Q : Exit → Act → World → Prop} {S : World → Prop} {fuel : Nat} {listed : Array Bool} {a : Act} {w : World} {o : Oper} {rs : List Nat} (i : Nat) (ho : l.drop i = o :: rest)
    (h : ∀ K' : Act → World → Prop, Shut (∀ a w, S w → (S w → wpAnyH P md l.toArray Q S fuel (listed.setIfInBounds i true) a w) → K' a w) → if Region.wanted o (yielded l.toArray a.tmps) = true then Oper.wp P o a w K' Q else K' (a.put o.dst undef) w)
    (hs : AllReadyH P md l.toArray Q S fuel listed a w rs) : AllReadyH P md l.toArray Q S fuel listed a w (i :: rs) :=
  AllReadyH.cons (drop_get ho) h hs

end Go.Proofs.Ytgnobonhohfofaa

namespace Go.Proofs.Ytgnobonhohfofaa
open Go.RowKit
attribute [local go_sem ↓] Go.wp_at_zero Go.wp_at_succ

def L.isMarkB (v : L.Vw) (m : L.Mk) : Bool := L.markB m v.size v.hxl v.hxh v.hyl v.hyh
def L.truthB (v : L.Vw) (m : L.Mk) : Bool := L.isMarkB v m && decide (((L.wrongL v m.x m.y).length : Int) ≤ v.wrong)
theorem L.isMark_bd {v : L.Vw} (hv : L.VwOk v) {m : L.Mk} (h : L.isMarkB v m = true) : L.MkOk m ∧ m.x ≤ v.size ∧ m.y ≤ v.size := by
  unfold L.isMarkB L.markB L.within at h
  simp only [Bool.and_eq_true, decide_eq_true_eq] at h
  obtain ⟨⟨⟨⟨a, b⟩, c, d⟩, e, f⟩, g, i⟩ := h
  have := hv.s1; have := hv.x0; have := hv.x1; have := hv.y0; have := hv.y1; have := hv.xx; have := hv.yy
  exact ⟨⟨a, by omega, c, by omega, by omega, by omega, by omega, by omega⟩, b, d⟩

set_option maxRecDepth 100000 in
set_option maxHeartbeats 3200000 in
theorem isTruth_any (v : L.Vw) (A : Option Addr) (n c : Nat) (m : L.Mk) (w : World) (hv : L.VwOk v) (hn : v.ss.length = n) (hr : RdS w w.heap.size A v.ss) :
    Calls Try.prog 18 #[.agg #[.int .i64 v.size, .slice A n c, .int .i64 v.wrong, .int .i64 v.hxl, .int .i64 v.hxh, .int .i64 v.hyl, .int .i64 v.hyh], .agg #[.int .i64 m.x, .int .i64 m.y, .int .i64 m.hx, .int .i64 m.hy]] w fun e w' => e = .returned (.bool (L.truthB v m)) ∧ Below w.heap.size w w' := by
  have HN := hide hn
  have HR := hide hr
  have HV := hide hv
  clear hn hr hv
  cases hm : L.isMarkB v m
  · have HE := hide (show L.truthB v m = false by unfold L.truthB; rw [hm]; rfl)
    have HM := hide (show L.markB m v.size v.hxl v.hxh v.hyl v.hyh = false from hm)
    clear hm
    go_enter Try.func18, Try.ntmps18
    go_upto_region 1 with fail
    obtain ⟨W0, hW0⟩ : ∃ W0, (w.alloc (.cells #[.int .i64 v.size, .slice A n c, .int .i64 v.wrong, .int .i64 v.hxl, .int .i64 v.hxh, .int .i64 v.hyl, .int .i64 v.hyh] 26)).alloc (.cells #[.int .i64 m.x, .int .i64 m.y, .int .i64 m.hx, .int .i64 m.hy] 30) = W0 := ⟨_, rfl⟩
    rw [hW0]
    obtain ⟨p, hp⟩ : ∃ p, w.heap.size = p := ⟨_, rfl⟩
    obtain ⟨q, hq⟩ : ∃ q, w.heap.size + 1 = q := ⟨_, rfl⟩
    have hS : (fun w' => Below W0.heap.size W0 w' ∧ p < w'.heap.size ∧ q < w'.heap.size ∧ w'.cell? ⟨p, 0, none⟩ = some (.int .i64 v.size) ∧ w'.cell? ⟨p, 1, none⟩ = some (.slice A n c) ∧ w'.cell? ⟨p, 2, none⟩ = some (.int .i64 v.wrong) ∧ w'.cell? ⟨p, 3, none⟩ = some (.int .i64 v.hxl) ∧ w'.cell? ⟨p, 4, none⟩ = some (.int .i64 v.hxh) ∧ w'.cell? ⟨p, 5, none⟩ = some (.int .i64 v.hyl) ∧ w'.cell? ⟨p, 6, none⟩ = some (.int .i64 v.hyh) ∧ w'.cell? ⟨q, 0, none⟩ = some (.int .i64 m.x) ∧ w'.cell? ⟨q, 1, none⟩ = some (.int .i64 m.y) ∧ w'.cell? ⟨q, 2, none⟩ = some (.int .i64 m.hx) ∧ w'.cell? ⟨q, 3, none⟩ = some (.int .i64 m.hy)) W0 := by
      rw [← hW0, ← hp, ← hq]
      refine ⟨Below.refl _ _, (by first | (simp; done) | (simp; omega) | omega), (by first | (simp; done) | (simp; omega) | omega), (zcP _ _ _ (by first | (simp; done) | (simp; omega) | omega)).trans (zcA _ _ _ _ rfl), (zcP _ _ _ (by first | (simp; done) | (simp; omega) | omega)).trans (zcA _ _ _ _ rfl), (zcP _ _ _ (by first | (simp; done) | (simp; omega) | omega)).trans (zcA _ _ _ _ rfl), (zcP _ _ _ (by first | (simp; done) | (simp; omega) | omega)).trans (zcA _ _ _ _ rfl), (zcP _ _ _ (by first | (simp; done) | (simp; omega) | omega)).trans (zcA _ _ _ _ rfl), (zcP _ _ _ (by first | (simp; done) | (simp; omega) | omega)).trans (zcA _ _ _ _ rfl), (zcP _ _ _ (by first | (simp; done) | (simp; omega) | omega)).trans (zcA _ _ _ _ rfl), zcA _ _ _ _ (by simp), zcA _ _ _ _ (by simp), zcA _ _ _ _ (by simp), zcA _ _ _ _ (by simp)⟩
    have hs0 : W0.heap.size = w.heap.size + 1 + 1 := by rw [← hW0]; simp
    have hb0 : Below w.heap.size w W0 := by rw [← hW0]; (repeat' first | exact zbR _ _ | assumption | refine zbD ?_ | refine zbA ?_ ?_ _ | refine zbS ?_ ?_ _ | refine zbT ?_ (by assumption) ?_ | (simp; done) | (simp; omega) | omega)
    rw [hq, hp]
    have hq' : q = p + 1 := by omega
    have HP := hide hp
    have HB0 := hide hb0
    have HS0 := hide hs0
    have HQ := hide hq'
    clear hW0 hp hq hb0 hs0 hq'
    have hkeep : ∀ u u' : World, Below u.heap.size u u' → (Below W0.heap.size W0 u ∧ p < u.heap.size ∧ q < u.heap.size ∧ u.cell? ⟨p, 0, none⟩ = some (.int .i64 v.size) ∧ u.cell? ⟨p, 1, none⟩ = some (.slice A n c) ∧ u.cell? ⟨p, 2, none⟩ = some (.int .i64 v.wrong) ∧ u.cell? ⟨p, 3, none⟩ = some (.int .i64 v.hxl) ∧ u.cell? ⟨p, 4, none⟩ = some (.int .i64 v.hxh) ∧ u.cell? ⟨p, 5, none⟩ = some (.int .i64 v.hyl) ∧ u.cell? ⟨p, 6, none⟩ = some (.int .i64 v.hyh) ∧ u.cell? ⟨q, 0, none⟩ = some (.int .i64 m.x) ∧ u.cell? ⟨q, 1, none⟩ = some (.int .i64 m.y) ∧ u.cell? ⟨q, 2, none⟩ = some (.int .i64 m.hx) ∧ u.cell? ⟨q, 3, none⟩ = some (.int .i64 m.hy)) → (Below W0.heap.size W0 u' ∧ p < u'.heap.size ∧ q < u'.heap.size ∧ u'.cell? ⟨p, 0, none⟩ = some (.int .i64 v.size) ∧ u'.cell? ⟨p, 1, none⟩ = some (.slice A n c) ∧ u'.cell? ⟨p, 2, none⟩ = some (.int .i64 v.wrong) ∧ u'.cell? ⟨p, 3, none⟩ = some (.int .i64 v.hxl) ∧ u'.cell? ⟨p, 4, none⟩ = some (.int .i64 v.hxh) ∧ u'.cell? ⟨p, 5, none⟩ = some (.int .i64 v.hyl) ∧ u'.cell? ⟨p, 6, none⟩ = some (.int .i64 v.hyh) ∧ u'.cell? ⟨q, 0, none⟩ = some (.int .i64 m.x) ∧ u'.cell? ⟨q, 1, none⟩ = some (.int .i64 m.y) ∧ u'.cell? ⟨q, 2, none⟩ = some (.int .i64 m.hx) ∧ u'.cell? ⟨q, 3, none⟩ = some (.int .i64 m.hy)) := by
      rintro u u' hb ⟨hB, l_p, l_q, k0, k1, k2, k3, k4, k5, k6, k7, k8, k9, k10⟩
      exact ⟨hB.trans (hb.mono hB.size), Nat.lt_of_lt_of_le l_p hb.size, Nat.lt_of_lt_of_le l_q hb.size, (hb.cell (p := ⟨p, 0, none⟩) l_p).trans k0, (hb.cell (p := ⟨p, 1, none⟩) l_p).trans k1, (hb.cell (p := ⟨p, 2, none⟩) l_p).trans k2, (hb.cell (p := ⟨p, 3, none⟩) l_p).trans k3, (hb.cell (p := ⟨p, 4, none⟩) l_p).trans k4, (hb.cell (p := ⟨p, 5, none⟩) l_p).trans k5, (hb.cell (p := ⟨p, 6, none⟩) l_p).trans k6, (hb.cell (p := ⟨q, 0, none⟩) l_q).trans k7, (hb.cell (p := ⟨q, 1, none⟩) l_q).trans k8, (hb.cell (p := ⟨q, 2, none⟩) l_q).trans k9, (hb.cell (p := ⟨q, 3, none⟩) l_q).trans k10⟩
    dsimp only at hS
    refine wp_region_held_drew (S := (fun w' => Below W0.heap.size W0 w' ∧ p < w'.heap.size ∧ q < w'.heap.size ∧ w'.cell? ⟨p, 0, none⟩ = some (.int .i64 v.size) ∧ w'.cell? ⟨p, 1, none⟩ = some (.slice A n c) ∧ w'.cell? ⟨p, 2, none⟩ = some (.int .i64 v.wrong) ∧ w'.cell? ⟨p, 3, none⟩ = some (.int .i64 v.hxl) ∧ w'.cell? ⟨p, 4, none⟩ = some (.int .i64 v.hxh) ∧ w'.cell? ⟨p, 5, none⟩ = some (.int .i64 v.hyl) ∧ w'.cell? ⟨p, 6, none⟩ = some (.int .i64 v.hyh) ∧ w'.cell? ⟨q, 0, none⟩ = some (.int .i64 m.x) ∧ w'.cell? ⟨q, 1, none⟩ = some (.int .i64 m.y) ∧ w'.cell? ⟨q, 2, none⟩ = some (.int .i64 m.hx) ∧ w'.cell? ⟨q, 3, none⟩ = some (.int .i64 m.hy))) (by kernel_rfl) ?_ (fun hHeld0 => ?_)
    · (try dsimp only); (first | (go_keep; done) | (go_split_ands; (repeat' apply And.intro) <;> first | (go_keep; done) | (simp [*, zcA, zcP, zfA, zfP]; done) | (simp [zcA, zcP] <;> rfl) | (simp [*, zsS, zsO, zsA]; done) | ((first | refine (hc _ _ ?_).trans ?_ | refine (hf _ _ ?_).trans ?_) <;> first | assumption | (simp; done) | (simp; omega) | omega | (go_keep; done) | (simp [*, zcA, zcP, zfA, zfP]; done) | (simp [zcA, zcP]; rfl)) | (repeat' first | exact zbR _ _ | assumption | refine zbD ?_ | refine zbA ?_ ?_ _ | refine zbS ?_ ?_ _ | refine zbT ?_ (by assumption) ?_ | (simp; done) | (simp; omega) | omega)))
    refine tL (v := ?_) 0 rfl (by kernel_rfl) (fun _ _ _ h => h) (Or.inl ⟨by rfl, ?_⟩) (by assumption) ?_; rotate_left
    · (intro w hSw; (try dsimp only at hSw); go_simp; try with_reducible rfl)
    try simp only [Act.put, zl, z0, z1]
    refine tL (v := ?_) 1 rfl (by kernel_rfl) (fun _ _ _ h => h) (Or.inl ⟨by rfl, ?_⟩) (by assumption) ?_; rotate_left
    · (intro w hSw; (try dsimp only at hSw); go_simp; try with_reducible rfl)
    try simp only [Act.put, zl, z0, z1]
    refine wpAnyH_ready (rs := [2]) (by kernel_rfl) (by simp) ?_
    refine consL 2 rfl (fun K hK => ?_) AllReadyH.nil
    go_simp
    (go_at_call 49; refine (isMark_any v A n c m _).mono ?_; rintro e w2 ⟨rfl, hb⟩; rw [HM.out]; have hSn := hkeep _ _ hb (by assumption); (try clear hS); have hS := hSn; clear hSn)
    refine hK.out _ _ ?_ (fun hHeld1 => ?_)
    · (try dsimp only); exact hS
    clear hK K hHeld0
    try simp only [Act.put, zl, z0, z1]
    refine tL (v := ?_) 3 rfl (by kernel_rfl) (fun _ _ _ h => h) (Or.inl ⟨by rfl, ?_⟩) (by assumption) ?_; rotate_left
    · (intro w hSw; (try dsimp only at hSw); go_simp; try with_reducible rfl)
    try simp only [Act.put, zl, z0, z1]
    refine takeL 4 rfl (by kernel_rfl) (by kernel_rfl) (by kernel_rfl) (fun _ _ _ h => h) (Or.inr ⟨by rfl, rfl⟩) (by assumption) ?_
    try simp only [Act.put, zl, z0, z1]
    refine takeL 5 rfl (by kernel_rfl) (by kernel_rfl) (by kernel_rfl) (fun _ _ _ h => h) (Or.inr ⟨by rfl, rfl⟩) (by assumption) ?_
    try simp only [Act.put, zl, z0, z1]
    refine takeL 6 rfl (by kernel_rfl) (by kernel_rfl) (by kernel_rfl) (fun _ _ _ h => h) (Or.inr ⟨by rfl, rfl⟩) (by assumption) ?_
    try simp only [Act.put, zl, z0, z1]
    refine takeL 7 rfl (by kernel_rfl) (by kernel_rfl) (by kernel_rfl) (fun _ _ _ h => h) (Or.inr ⟨by rfl, rfl⟩) (by assumption) ?_
    try simp only [Act.put, zl, z0, z1]
    refine takeL 8 rfl (by kernel_rfl) (by kernel_rfl) (by kernel_rfl) (fun _ _ _ h => h) (Or.inr ⟨by rfl, rfl⟩) (by assumption) ?_
    try simp only [Act.put, zl, z0, z1]
    refine takeL 9 rfl (by kernel_rfl) (by kernel_rfl) (by kernel_rfl) (fun _ _ _ h => h) (Or.inr ⟨by rfl, rfl⟩) (by assumption) ?_
    try simp only [Act.put, zl, z0, z1]
    refine takeL 10 rfl (by kernel_rfl) (by kernel_rfl) (by kernel_rfl) (fun _ _ _ h => h) (Or.inr ⟨by rfl, rfl⟩) (by assumption) ?_
    try simp only [Act.put, zl, z0, z1]
    refine takeL 11 rfl (by kernel_rfl) (by kernel_rfl) (by kernel_rfl) (fun _ _ _ h => h) (Or.inr ⟨by rfl, rfl⟩) (by assumption) ?_
    try simp only [Act.put, zl, z0, z1]
    refine takeL 12 rfl (by kernel_rfl) (by kernel_rfl) (by kernel_rfl) (fun _ _ _ h => h) (Or.inr ⟨by rfl, rfl⟩) (by assumption) ?_
    try simp only [Act.put, zl, z0, z1]
    refine takeL 13 rfl (by kernel_rfl) (by kernel_rfl) (by kernel_rfl) (fun _ _ _ h => h) (Or.inr ⟨by rfl, rfl⟩) (by assumption) ?_
    try simp only [Act.put, zl, z0, z1]
    refine tL (v := ?_) 14 rfl (by kernel_rfl) (fun _ _ _ h => h) (Or.inl ⟨by rfl, ?_⟩) (by assumption) ?_; rotate_left
    · (intro w hSw; (try dsimp only at hSw); go_simp; try with_reducible rfl)
    try simp only [Act.put, zl, z0, z1]
    refine tL (v := ?_) 15 rfl (by kernel_rfl) (fun _ _ _ h => h) (Or.inl ⟨by rfl, ?_⟩) (by assumption) ?_; rotate_left
    · (intro w hSw; (try dsimp only at hSw); go_simp; try with_reducible rfl)
    try simp only [Act.put, zl, z0, z1]
    refine wpAnyH_done (by kernel_rfl) ?_ _
    go_wp2
    go_ret
    exact ⟨by rw [HE.out]; rfl, by (go_split_ands; (have h9 : Below W0.heap.size W0 _ := (by assumption); exact HB0.out.trans (h9.mono (by have := HS0.out; omega))))⟩
  · have HE := hide (show L.truthB v m = decide (((L.wrongL v m.x m.y).length : Int) ≤ v.wrong) by unfold L.truthB; rw [hm]; rfl)
    have HM := hide (show L.markB m v.size v.hxl v.hxh v.hyl v.hyh = true from hm)
    have HB := hide (L.isMark_bd HV.out hm).1
    clear hm
    go_enter Try.func18, Try.ntmps18
    go_upto_region 1 with fail
    obtain ⟨W0, hW0⟩ : ∃ W0, (w.alloc (.cells #[.int .i64 v.size, .slice A n c, .int .i64 v.wrong, .int .i64 v.hxl, .int .i64 v.hxh, .int .i64 v.hyl, .int .i64 v.hyh] 26)).alloc (.cells #[.int .i64 m.x, .int .i64 m.y, .int .i64 m.hx, .int .i64 m.hy] 30) = W0 := ⟨_, rfl⟩
    rw [hW0]
    obtain ⟨p, hp⟩ : ∃ p, w.heap.size = p := ⟨_, rfl⟩
    obtain ⟨q, hq⟩ : ∃ q, w.heap.size + 1 = q := ⟨_, rfl⟩
    have hS : (fun w' => Below W0.heap.size W0 w' ∧ p < w'.heap.size ∧ q < w'.heap.size ∧ w'.cell? ⟨p, 0, none⟩ = some (.int .i64 v.size) ∧ w'.cell? ⟨p, 1, none⟩ = some (.slice A n c) ∧ w'.cell? ⟨p, 2, none⟩ = some (.int .i64 v.wrong) ∧ w'.cell? ⟨p, 3, none⟩ = some (.int .i64 v.hxl) ∧ w'.cell? ⟨p, 4, none⟩ = some (.int .i64 v.hxh) ∧ w'.cell? ⟨p, 5, none⟩ = some (.int .i64 v.hyl) ∧ w'.cell? ⟨p, 6, none⟩ = some (.int .i64 v.hyh) ∧ w'.cell? ⟨q, 0, none⟩ = some (.int .i64 m.x) ∧ w'.cell? ⟨q, 1, none⟩ = some (.int .i64 m.y) ∧ w'.cell? ⟨q, 2, none⟩ = some (.int .i64 m.hx) ∧ w'.cell? ⟨q, 3, none⟩ = some (.int .i64 m.hy)) W0 := by
      rw [← hW0, ← hp, ← hq]
      refine ⟨Below.refl _ _, (by first | (simp; done) | (simp; omega) | omega), (by first | (simp; done) | (simp; omega) | omega), (zcP _ _ _ (by first | (simp; done) | (simp; omega) | omega)).trans (zcA _ _ _ _ rfl), (zcP _ _ _ (by first | (simp; done) | (simp; omega) | omega)).trans (zcA _ _ _ _ rfl), (zcP _ _ _ (by first | (simp; done) | (simp; omega) | omega)).trans (zcA _ _ _ _ rfl), (zcP _ _ _ (by first | (simp; done) | (simp; omega) | omega)).trans (zcA _ _ _ _ rfl), (zcP _ _ _ (by first | (simp; done) | (simp; omega) | omega)).trans (zcA _ _ _ _ rfl), (zcP _ _ _ (by first | (simp; done) | (simp; omega) | omega)).trans (zcA _ _ _ _ rfl), (zcP _ _ _ (by first | (simp; done) | (simp; omega) | omega)).trans (zcA _ _ _ _ rfl), zcA _ _ _ _ (by simp), zcA _ _ _ _ (by simp), zcA _ _ _ _ (by simp), zcA _ _ _ _ (by simp)⟩
    have hs0 : W0.heap.size = w.heap.size + 1 + 1 := by rw [← hW0]; simp
    have hb0 : Below w.heap.size w W0 := by rw [← hW0]; (repeat' first | exact zbR _ _ | assumption | refine zbD ?_ | refine zbA ?_ ?_ _ | refine zbS ?_ ?_ _ | refine zbT ?_ (by assumption) ?_ | (simp; done) | (simp; omega) | omega)
    rw [hq, hp]
    have hq' : q = p + 1 := by omega
    have HP := hide hp
    have HB0 := hide hb0
    have HS0 := hide hs0
    have HQ := hide hq'
    clear hW0 hp hq hb0 hs0 hq'
    have hkeep : ∀ u u' : World, Below u.heap.size u u' → (Below W0.heap.size W0 u ∧ p < u.heap.size ∧ q < u.heap.size ∧ u.cell? ⟨p, 0, none⟩ = some (.int .i64 v.size) ∧ u.cell? ⟨p, 1, none⟩ = some (.slice A n c) ∧ u.cell? ⟨p, 2, none⟩ = some (.int .i64 v.wrong) ∧ u.cell? ⟨p, 3, none⟩ = some (.int .i64 v.hxl) ∧ u.cell? ⟨p, 4, none⟩ = some (.int .i64 v.hxh) ∧ u.cell? ⟨p, 5, none⟩ = some (.int .i64 v.hyl) ∧ u.cell? ⟨p, 6, none⟩ = some (.int .i64 v.hyh) ∧ u.cell? ⟨q, 0, none⟩ = some (.int .i64 m.x) ∧ u.cell? ⟨q, 1, none⟩ = some (.int .i64 m.y) ∧ u.cell? ⟨q, 2, none⟩ = some (.int .i64 m.hx) ∧ u.cell? ⟨q, 3, none⟩ = some (.int .i64 m.hy)) → (Below W0.heap.size W0 u' ∧ p < u'.heap.size ∧ q < u'.heap.size ∧ u'.cell? ⟨p, 0, none⟩ = some (.int .i64 v.size) ∧ u'.cell? ⟨p, 1, none⟩ = some (.slice A n c) ∧ u'.cell? ⟨p, 2, none⟩ = some (.int .i64 v.wrong) ∧ u'.cell? ⟨p, 3, none⟩ = some (.int .i64 v.hxl) ∧ u'.cell? ⟨p, 4, none⟩ = some (.int .i64 v.hxh) ∧ u'.cell? ⟨p, 5, none⟩ = some (.int .i64 v.hyl) ∧ u'.cell? ⟨p, 6, none⟩ = some (.int .i64 v.hyh) ∧ u'.cell? ⟨q, 0, none⟩ = some (.int .i64 m.x) ∧ u'.cell? ⟨q, 1, none⟩ = some (.int .i64 m.y) ∧ u'.cell? ⟨q, 2, none⟩ = some (.int .i64 m.hx) ∧ u'.cell? ⟨q, 3, none⟩ = some (.int .i64 m.hy)) := by
      rintro u u' hb ⟨hB, l_p, l_q, k0, k1, k2, k3, k4, k5, k6, k7, k8, k9, k10⟩
      exact ⟨hB.trans (hb.mono hB.size), Nat.lt_of_lt_of_le l_p hb.size, Nat.lt_of_lt_of_le l_q hb.size, (hb.cell (p := ⟨p, 0, none⟩) l_p).trans k0, (hb.cell (p := ⟨p, 1, none⟩) l_p).trans k1, (hb.cell (p := ⟨p, 2, none⟩) l_p).trans k2, (hb.cell (p := ⟨p, 3, none⟩) l_p).trans k3, (hb.cell (p := ⟨p, 4, none⟩) l_p).trans k4, (hb.cell (p := ⟨p, 5, none⟩) l_p).trans k5, (hb.cell (p := ⟨p, 6, none⟩) l_p).trans k6, (hb.cell (p := ⟨q, 0, none⟩) l_q).trans k7, (hb.cell (p := ⟨q, 1, none⟩) l_q).trans k8, (hb.cell (p := ⟨q, 2, none⟩) l_q).trans k9, (hb.cell (p := ⟨q, 3, none⟩) l_q).trans k10⟩
    dsimp only at hS
    refine wp_region_held_drew (S := (fun w' => Below W0.heap.size W0 w' ∧ p < w'.heap.size ∧ q < w'.heap.size ∧ w'.cell? ⟨p, 0, none⟩ = some (.int .i64 v.size) ∧ w'.cell? ⟨p, 1, none⟩ = some (.slice A n c) ∧ w'.cell? ⟨p, 2, none⟩ = some (.int .i64 v.wrong) ∧ w'.cell? ⟨p, 3, none⟩ = some (.int .i64 v.hxl) ∧ w'.cell? ⟨p, 4, none⟩ = some (.int .i64 v.hxh) ∧ w'.cell? ⟨p, 5, none⟩ = some (.int .i64 v.hyl) ∧ w'.cell? ⟨p, 6, none⟩ = some (.int .i64 v.hyh) ∧ w'.cell? ⟨q, 0, none⟩ = some (.int .i64 m.x) ∧ w'.cell? ⟨q, 1, none⟩ = some (.int .i64 m.y) ∧ w'.cell? ⟨q, 2, none⟩ = some (.int .i64 m.hx) ∧ w'.cell? ⟨q, 3, none⟩ = some (.int .i64 m.hy))) (by kernel_rfl) ?_ (fun hHeld0 => ?_)
    · (try dsimp only); (first | (go_keep; done) | (go_split_ands; (repeat' apply And.intro) <;> first | (go_keep; done) | (simp [*, zcA, zcP, zfA, zfP]; done) | (simp [zcA, zcP] <;> rfl) | (simp [*, zsS, zsO, zsA]; done) | ((first | refine (hc _ _ ?_).trans ?_ | refine (hf _ _ ?_).trans ?_) <;> first | assumption | (simp; done) | (simp; omega) | omega | (go_keep; done) | (simp [*, zcA, zcP, zfA, zfP]; done) | (simp [zcA, zcP]; rfl)) | (repeat' first | exact zbR _ _ | assumption | refine zbD ?_ | refine zbA ?_ ?_ _ | refine zbS ?_ ?_ _ | refine zbT ?_ (by assumption) ?_ | (simp; done) | (simp; omega) | omega)))
    refine tL (v := ?_) 0 rfl (by kernel_rfl) (fun _ _ _ h => h) (Or.inl ⟨by rfl, ?_⟩) (by assumption) ?_; rotate_left
    · (intro w hSw; (try dsimp only at hSw); go_simp; try with_reducible rfl)
    try simp only [Act.put, zl, z0, z1]
    refine tL (v := ?_) 1 rfl (by kernel_rfl) (fun _ _ _ h => h) (Or.inl ⟨by rfl, ?_⟩) (by assumption) ?_; rotate_left
    · (intro w hSw; (try dsimp only at hSw); go_simp; try with_reducible rfl)
    try simp only [Act.put, zl, z0, z1]
    refine wpAnyH_ready (rs := [2]) (by kernel_rfl) (by simp) ?_
    refine consL 2 rfl (fun K hK => ?_) AllReadyH.nil
    go_simp
    (go_at_call 49; refine (isMark_any v A n c m _).mono ?_; rintro e w2 ⟨rfl, hb⟩; rw [HM.out]; have hSn := hkeep _ _ hb (by assumption); (try clear hS); have hS := hSn; clear hSn)
    refine hK.out _ _ ?_ (fun hHeld1 => ?_)
    · (try dsimp only); exact hS
    clear hK K hHeld0
    try simp only [Act.put, zl, z0, z1]
    refine tL (v := ?_) 3 rfl (by kernel_rfl) (fun _ _ _ h => h) (Or.inl ⟨by rfl, ?_⟩) (by assumption) ?_; rotate_left
    · (intro w hSw; (try dsimp only at hSw); go_simp; try with_reducible rfl)
    try simp only [Act.put, zl, z0, z1]
    refine tL (v := ?_) 4 rfl (by kernel_rfl) (fun _ _ _ h => h) (Or.inl ⟨by rfl, ?_⟩) (by assumption) ?_; rotate_left
    · (intro w hSw; (try dsimp only at hSw); go_simp; try with_reducible rfl)
    try simp only [Act.put, zl, z0, z1]
    refine tL (v := ?_) 5 rfl (by kernel_rfl) (fun _ _ _ h => h) (Or.inl ⟨by rfl, ?_⟩) (by assumption) ?_; rotate_left
    · (intro w hSw; (try dsimp only at hSw); go_simp; try with_reducible rfl)
    try simp only [Act.put, zl, z0, z1]
    refine tL (v := ?_) 6 rfl (by kernel_rfl) (fun _ _ _ h => h) (Or.inl ⟨by rfl, ?_⟩) (by assumption) ?_; rotate_left
    · (intro w hSw; (try dsimp only at hSw); go_simp; try with_reducible rfl)
    try simp only [Act.put, zl, z0, z1]
    refine tL (v := ?_) 7 rfl (by kernel_rfl) (fun _ _ _ h => h) (Or.inl ⟨by rfl, ?_⟩) (by assumption) ?_; rotate_left
    · (intro w hSw; (try dsimp only at hSw); go_simp; try with_reducible rfl)
    try simp only [Act.put, zl, z0, z1]
    refine tL (v := ?_) 8 rfl (by kernel_rfl) (fun _ _ _ h => h) (Or.inl ⟨by rfl, ?_⟩) (by assumption) ?_; rotate_left
    · (intro w hSw; (try dsimp only at hSw); go_simp; try with_reducible rfl)
    try simp only [Act.put, zl, z0, z1]
    refine tL (v := ?_) 11 rfl (by kernel_rfl) (fun _ _ _ h => h) (Or.inl ⟨by rfl, ?_⟩) (by assumption) ?_; rotate_left
    · (intro w hSw; (try dsimp only at hSw); go_simp; try with_reducible rfl)
    try simp only [Act.put, zl, z0, z1]
    refine tL (v := ?_) 12 rfl (by kernel_rfl) (fun _ _ _ h => h) (Or.inl ⟨by rfl, ?_⟩) (by assumption) ?_; rotate_left
    · (intro w hSw; (try dsimp only at hSw); go_simp; try with_reducible rfl)
    try simp only [Act.put, zl, z0, z1]
    refine wpAnyH_ready (rs := [9]) (by kernel_rfl) (by simp) ?_
    refine consL 9 rfl (fun K hK => ?_) AllReadyH.nil
    go_simp
    (go_at_call 50; refine (refWrong_any v A n c m.x m.y _ HN.out ((HR.out.below (HB0.out.trans (hS.1.mono (by have := HS0.out; omega)))).mono (by have := hS.1.size; have := HS0.out; omega)) HV.out.ok (by have := HV.out.n8; have := HN.out; omega) HB.out.x0 HB.out.x1 HB.out.y0 HB.out.y1).mono ?_; rintro e w3 ⟨sv, c3, rfl, hown, hb⟩; clear hown; have hSn := hkeep _ _ hb (by assumption); (try clear hS); have hS := hSn; clear hSn)
    refine hK.out _ _ ?_ (fun hHeld2 => ?_)
    · (try dsimp only); exact hS
    clear hK K hHeld1
    try simp only [Act.put, zl, z0, z1]
    refine tL (v := ?_) 10 rfl (by kernel_rfl) (fun _ _ _ h => h) (Or.inl ⟨by rfl, ?_⟩) (by assumption) ?_; rotate_left
    · (intro w hSw; (try dsimp only at hSw); go_simp; try with_reducible rfl)
    try simp only [Act.put, zl, z0, z1]
    refine tL (v := ?_) 13 rfl (by kernel_rfl) (fun _ _ _ h => h) (Or.inl ⟨by rfl, ?_⟩) (by assumption) ?_; rotate_left
    · (intro w hSw; (try dsimp only at hSw); go_simp; try with_reducible rfl)
    try simp only [Act.put, zl, z0, z1]
    refine tL (v := ?_) 14 rfl (by kernel_rfl) (fun _ _ _ h => h) (Or.inl ⟨by rfl, ?_⟩) (by assumption) ?_; rotate_left
    · (intro w hSw; (try dsimp only at hSw); go_simp; try with_reducible rfl)
    try simp only [Act.put, zl, z0, z1]
    refine tL (v := ?_) 15 rfl (by kernel_rfl) (fun _ _ _ h => h) (Or.inl ⟨by rfl, ?_⟩) (by assumption) ?_; rotate_left
    · (intro w hSw; (try dsimp only at hSw); go_simp; try with_reducible rfl)
    try simp only [Act.put, zl, z0, z1]
    refine wpAnyH_done (by kernel_rfl) ?_ _
    go_wp2
    go_ret
    exact ⟨by rw [HE.out]; rfl, by (go_split_ands; (have h9 : Below W0.heap.size W0 _ := (by assumption); exact HB0.out.trans (h9.mono (by have := HS0.out; omega))))⟩

end Go.Proofs.Ytgnobonhohfofaa

namespace Go.Proofs.Ytgnobonhohfofaa
open Go.RowKit
attribute [local go_sem ↓] Go.wp_at_zero Go.wp_at_succ

namespace L
def touE (m : Mk) (b : Bx) : Int := if boxB b then (if markB m 40 1 9 1 9 then 0 else 22) else 21
def touV (m : Mk) (b : Bx) : Bool := boxB b && (markB m 40 1 9 1 9 && touch m b)
theorem markB_ok {m : Mk} (h : markB m 40 1 9 1 9 = true) : MkOk m := by
  unfold markB within at h
  simp only [Bool.and_eq_true, decide_eq_true_eq] at h
  obtain ⟨⟨⟨⟨a, b⟩, c, d⟩, e, f⟩, g, i⟩ := h
  exact ⟨a, b, c, d, e, f, g, i⟩
def showE (v : Vw) (b : Bx) (call : Int) : Int := if checkBE v b = 0 then (if sure call then (if (findC v b 0 call).isSome then 0 else 3) else 22) else checkBE v b
def showM (v : Vw) (b : Bx) (call : Int) : Mk := if checkBE v b = 0 then (if sure call then foundM v b 0 call else ⟨0, 0, 0, 0⟩) else ⟨0, 0, 0, 0⟩
theorem found_none {v : Vw} {b : Bx} {k call : Int} (h : (findC v b k call).isSome = false) : foundM v b k call = ⟨0, 0, 0, 0⟩ := by
  unfold foundM
  cases hf : findC v b k call
  · rfl
  · rw [hf] at h; cases h
end L

set_option maxRecDepth 100000 in
set_option maxHeartbeats 800000 in
theorem Touches_any (m : L.Mk) (b : L.Bx) (w : World) :
    Calls Try.prog 19 #[.agg #[.int .i64 m.x, .int .i64 m.y, .int .i64 m.hx, .int .i64 m.hy], .agg #[.int .i64 b.l, .int .i64 b.r, .int .i64 b.b, .int .i64 b.t]] w fun e w' => e = .returned (.tuple #[.bool (L.touV m b), .int .i64 (L.touE m b)]) ∧ Below w.heap.size w w' := by
  cases hb : L.boxB b
  · have E1 := hide (show L.touV m b = false by unfold L.touV; rw [hb]; rfl)
    have E2 := hide (show L.touE m b = 21 by unfold L.touE; rw [hb]; rfl)
    have HB := hide hb
    clear hb
    go_enter Try.func19, Try.ntmps19
    go_wp2_with (go_at_call 51; refine (validBox_any b _).mono ?_; rintro e w2 ⟨rfl, hb2⟩; rw [HB.out]; obtain ⟨hc2, hf2⟩ := bcell hb2; have q2 := hb2.size; (try simp only [World.size_alloc] at q2); have z2_0 : w.heap.size < w2.heap.size := (by omega); have z2_1 : w.heap.size + 1 < w2.heap.size := (by omega))
    go_ret2
    exact ⟨by rw [E1.out, E2.out]; rfl, by (repeat' first | exact zbR _ _ | assumption | refine zbD ?_ | refine zbA ?_ ?_ _ | refine zbS ?_ ?_ _ | refine zbT ?_ (by assumption) ?_ | (simp; done) | (simp; omega) | omega)⟩
  cases hm : L.markB m 40 1 9 1 9
  · have E1 := hide (show L.touV m b = false by unfold L.touV; rw [hb, hm]; rfl)
    have E2 := hide (show L.touE m b = 22 by unfold L.touE; rw [hb, hm]; rfl)
    have HB := hide hb
    have HM := hide hm
    clear hb hm
    go_enter Try.func19, Try.ntmps19
    go_wp2_with (first | (go_at_call 51; refine (validBox_any b _).mono ?_; rintro e w2 ⟨rfl, hb2⟩; rw [HB.out]; obtain ⟨hc2, hf2⟩ := bcell hb2; have q2 := hb2.size; (try simp only [World.size_alloc] at q2); have z2_0 : w.heap.size < w2.heap.size := (by omega); have z2_1 : w.heap.size + 1 < w2.heap.size := (by omega)) | (go_at_call 52; refine (markWithin_any m 40 1 9 1 9 _).mono ?_; rintro e w3 ⟨rfl, hb3⟩; rw [HM.out]; obtain ⟨hc3, hf3⟩ := bcell hb3; have q3 := hb3.size; (try simp only [World.size_alloc] at q3); have z3_0 : w.heap.size < w3.heap.size := (by omega); have z3_1 : w.heap.size + 1 < w3.heap.size := (by omega)))
    go_ret2
    exact ⟨by rw [E1.out, E2.out]; rfl, by (repeat' first | exact zbR _ _ | assumption | refine zbD ?_ | refine zbA ?_ ?_ _ | refine zbS ?_ ?_ _ | refine zbT ?_ (by assumption) ?_ | (simp; done) | (simp; omega) | omega)⟩
  · have E1 := hide (show L.touV m b = L.touch m b by unfold L.touV; rw [hb, hm]; rfl)
    have E2 := hide (show L.touE m b = 0 by unfold L.touE; rw [hb, hm]; rfl)
    have HB := hide hb
    have HM := hide hm
    clear hb hm
    go_enter Try.func19, Try.ntmps19
    go_wp2_with (first | (go_at_call 51; refine (validBox_any b _).mono ?_; rintro e w2 ⟨rfl, hb2⟩; rw [HB.out]; obtain ⟨hc2, hf2⟩ := bcell hb2; have q2 := hb2.size; (try simp only [World.size_alloc] at q2); have z2_0 : w.heap.size < w2.heap.size := (by omega); have z2_1 : w.heap.size + 1 < w2.heap.size := (by omega)) | (go_at_call 52; refine (markWithin_any m 40 1 9 1 9 _).mono ?_; rintro e w3 ⟨rfl, hb3⟩; rw [HM.out]; obtain ⟨hc3, hf3⟩ := bcell hb3; have q3 := hb3.size; (try simp only [World.size_alloc] at q3); have z3_0 : w.heap.size < w3.heap.size := (by omega); have z3_1 : w.heap.size + 1 < w3.heap.size := (by omega)) | (go_at_call 53; refine (touches_any m b _ (L.boxB_ok HB.out) (L.markB_ok HM.out)).mono ?_; rintro e w4 ⟨rfl, hb4⟩; obtain ⟨hc4, hf4⟩ := bcell hb4; have q4 := hb4.size; (try simp only [World.size_alloc] at q4); have z4_0 : w.heap.size < w4.heap.size := (by omega); have z4_1 : w.heap.size + 1 < w4.heap.size := (by omega)))
    go_ret2
    exact ⟨by rw [E1.out, E2.out]; rfl, by (repeat' first | exact zbR _ _ | assumption | refine zbD ?_ | refine zbA ?_ ?_ _ | refine zbS ?_ ?_ _ | refine zbT ?_ (by assumption) ?_ | (simp; done) | (simp; omega) | omega)⟩

end Go.Proofs.Ytgnobonhohfofaa

namespace Go.Proofs.Ytgnobonhohfofaa
open Go.RowKit
attribute [local go_sem ↓] Go.wp_at_zero Go.wp_at_succ

theorem show_results {Z : World} {g : Nat} {x y p q e : Int} {cs tmps : Array Value} (h3 : Z.heap[g]? = some (.cells cs 30 (0, 0)))
    (e3 : cs = #[.int .i64 x, .int .i64 y, .int .i64 p, .int .i64 q]) (t6 : tmps[6]? = some (.pointer (some ⟨g, 0, none⟩))) (t7 : tmps[7]? = some (.int .i64 e)) :
    (results Try.f20 tmps).run Try.prog Z = .ok (.tuple #[.agg #[.int .i64 x, .int .i64 y, .int .i64 p, .int .i64 q], .int .i64 e]) Z := by
  subst e3
  have k0 : Z.cell? ⟨g, 0, none⟩ = some (.int .i64 x) := blk_cell h3 0
  have k1 : Z.cell? ⟨g, 1, none⟩ = some (.int .i64 y) := blk_cell h3 1
  have k2 : Z.cell? ⟨g, 2, none⟩ = some (.int .i64 p) := blk_cell h3 2
  have k3 : Z.cell? ⟨g, 3, none⟩ = some (.int .i64 q) := blk_cell h3 3
  simp [results, Try.results20, go_sem, t6, t7, k0, k1, k2, k3]

theorem blk_new3 {w : World} {X Y Z : Obj} : (((w.alloc X).alloc Y).alloc Z).heap[w.heap.size + 1 + 1]? = some Z := by
  have := World.alloc_heap_new ((w.alloc X).alloc Y) Z
  rwa [World.size_alloc, World.size_alloc] at this

set_option maxRecDepth 100000 in
set_option maxHeartbeats 1600000 in
theorem Show_any (v : L.Vw) (A : Option Addr) (n c : Nat) (b : L.Bx) (call : Int) (w : World) (hn : v.ss.length = n) (hr : RdS w w.heap.size A v.ss) :
    Calls Try.prog 20 #[.agg #[.int .i64 v.size, .slice A n c, .int .i64 v.wrong, .int .i64 v.hxl, .int .i64 v.hxh, .int .i64 v.hyl, .int .i64 v.hyh], .agg #[.int .i64 b.l, .int .i64 b.r, .int .i64 b.b, .int .i64 b.t], .int .i64 call] w fun e w' => e = .returned (.tuple #[.agg #[.int .i64 ((L.showM v b call)).x, .int .i64 ((L.showM v b call)).y, .int .i64 ((L.showM v b call)).hx, .int .i64 ((L.showM v b call)).hy], .int .i64 (L.showE v b call)]) ∧ Below w.heap.size w w' := by
  have HN := hide hn
  have HR := hide hr
  clear hn hr
  rcases L.checkBE_cases v b with h | h | h
  · obtain ⟨hv, hb⟩ := L.checkBE_ok h
    have HV := hide hv
    have HB := hide hb
    have H := hide h
    clear hv hb h
    cases hs : L.sure call
    · have E1 := hide (show L.showM v b call = ⟨0, 0, 0, 0⟩ by unfold L.showM; rw [if_pos H.out, hs]; rfl)
      have E2 := hide (show L.showE v b call = 22 by unfold L.showE; rw [if_pos H.out, hs]; rfl)
      have HS := hide hs
      clear hs
      go_enter Try.func20, Try.ntmps20
      go_wp2_with (first | (go_at_call 47; refine (check_any v A n c b _ HN.out ((HR.out.below (by (repeat' first | exact zbR _ _ | assumption | refine zbD ?_ | refine zbA ?_ ?_ _ | refine zbS ?_ ?_ _ | refine zbT ?_ (by assumption) ?_ | (simp; done) | (simp; omega) | omega))).mono (by first | (simp; done) | (simp; omega) | omega))).mono ?_; rintro e w2 ⟨rfl, hb2⟩; rw [H.out]; obtain ⟨hc2, hf2⟩ := bcell hb2; have q2 := hb2.size; (try simp only [World.size_alloc] at q2); have z2_0 : w.heap.size < w2.heap.size := (by omega); have z2_1 : w.heap.size + 1 < w2.heap.size := (by omega); have z2_2 : w.heap.size + 1 + 1 < w2.heap.size := (by omega); have k3 := (hb2.block (w.heap.size + 1 + 1) (by first | (simp; done) | (simp; omega) | omega)).trans blk_new3; have c0 := (blk_cell k3 0).trans rfl; have c1 := (blk_cell k3 1).trans rfl; have c2 := (blk_cell k3 2).trans rfl; have c3 := (blk_cell k3 3).trans rfl; have f0 := blk_frozen k3 0; have f1 := blk_frozen k3 1; have f2 := blk_frozen k3 2; have f3 := blk_frozen k3 3; have K3 := hide k3; clear k3) | (go_at_call 54; refine (sure_any call _).mono ?_; rintro e w3 ⟨rfl, rfl⟩; rw [HS.out]))
      rw [E1.out, E2.out]
      exact bodyPost_ret (v := .tuple #[.agg #[.int .i64 0, .int .i64 0, .int .i64 0, .int .i64 0], .int .i64 (22)]) (show_results (blk_set (blk_set (blk_set (blk_set (K3.out) 0 (.int .i64 0)) 1 (.int .i64 0)) 2 (.int .i64 0)) 3 (.int .i64 0)) rfl rfl rfl) rfl ⟨rfl, by (repeat' first | exact zbR _ _ | assumption | refine zbD ?_ | refine zbA ?_ ?_ _ | refine zbS ?_ ?_ _ | refine zbT ?_ (by assumption) ?_ | (simp; done) | (simp; omega) | omega)⟩
    · cases hf : (L.findC v b 0 call).isSome
      · have E1 := hide (show L.showM v b call = ⟨0, 0, 0, 0⟩ by unfold L.showM; rw [if_pos H.out, hs]; exact L.found_none hf)
        have E2 := hide (show L.showE v b call = 3 by unfold L.showE; rw [if_pos H.out, hs, hf]; rfl)
        have HS := hide hs
        have HF := hide hf
        clear hs hf
        go_enter Try.func20, Try.ntmps20
        go_wp2_with (first | (go_at_call 47; refine (check_any v A n c b _ HN.out ((HR.out.below (by (repeat' first | exact zbR _ _ | assumption | refine zbD ?_ | refine zbA ?_ ?_ _ | refine zbS ?_ ?_ _ | refine zbT ?_ (by assumption) ?_ | (simp; done) | (simp; omega) | omega))).mono (by first | (simp; done) | (simp; omega) | omega))).mono ?_; rintro e w2 ⟨rfl, hb2⟩; rw [H.out]; obtain ⟨hc2, hf2⟩ := bcell hb2; have q2 := hb2.size; (try simp only [World.size_alloc] at q2); have z2_0 : w.heap.size < w2.heap.size := (by omega); have z2_1 : w.heap.size + 1 < w2.heap.size := (by omega); have z2_2 : w.heap.size + 1 + 1 < w2.heap.size := (by omega); have k2 := (hb2.block (w.heap.size + 1 + 1) (by first | (simp; done) | (simp; omega) | omega)).trans blk_new3; have K2 := hide k2; clear k2) | (go_at_call 54; refine (sure_any call _).mono ?_; rintro e w3 ⟨rfl, rfl⟩; rw [HS.out]) | (go_at_call 55; refine (find_any v A n c b 0 call _ HV.out HB.out HN.out ((HR.out.below (by (repeat' first | exact zbR _ _ | assumption | refine zbD ?_ | refine zbA ?_ ?_ _ | refine zbS ?_ ?_ _ | refine zbT ?_ (by assumption) ?_ | (simp; done) | (simp; omega) | omega))).mono (by first | (simp; done) | (simp; omega) | omega)) (by omega) (by omega)).mono ?_; rintro e w4 ⟨rfl, hb4⟩; rw [HF.out]; have q4 := hb4.size; have k3 := (hb4.block (w.heap.size + 1 + 1) (by omega)).trans K2.out; have c0 := (blk_cell k3 0).trans rfl; have c1 := (blk_cell k3 1).trans rfl; have c2 := (blk_cell k3 2).trans rfl; have c3 := (blk_cell k3 3).trans rfl; have f0 := blk_frozen k3 0; have f1 := blk_frozen k3 1; have f2 := blk_frozen k3 2; have f3 := blk_frozen k3 3; have z4_2 : w.heap.size + 1 + 1 < w4.heap.size := (by omega); have K3 := hide k3; clear k3))
        rw [E1.out, E2.out]
        exact bodyPost_ret (v := .tuple #[.agg #[.int .i64 0, .int .i64 0, .int .i64 0, .int .i64 0], .int .i64 (3)]) (show_results ((Below.heap_alloc _ _ _ (by simp only [World.size_setCell]; exact z4_2)).trans (blk_set (blk_set (blk_set (blk_set (K3.out) 0 (.int .i64 0)) 1 (.int .i64 0)) 2 (.int .i64 0)) 3 (.int .i64 0))) rfl rfl rfl) rfl ⟨rfl, by (repeat' first | exact zbR _ _ | assumption | refine zbD ?_ | refine zbA ?_ ?_ _ | refine zbS ?_ ?_ _ | refine zbT ?_ (by assumption) ?_ | (simp; done) | (simp; omega) | omega)⟩
      · have E1 := hide (show L.showM v b call = L.foundM v b 0 call by unfold L.showM; rw [if_pos H.out, hs]; rfl)
        have E2 := hide (show L.showE v b call = 0 by unfold L.showE; rw [if_pos H.out, hs, hf]; rfl)
        have HS := hide hs
        have HF := hide hf
        clear hs hf
        go_enter Try.func20, Try.ntmps20
        go_wp2_with (first | (go_at_call 47; refine (check_any v A n c b _ HN.out ((HR.out.below (by (repeat' first | exact zbR _ _ | assumption | refine zbD ?_ | refine zbA ?_ ?_ _ | refine zbS ?_ ?_ _ | refine zbT ?_ (by assumption) ?_ | (simp; done) | (simp; omega) | omega))).mono (by first | (simp; done) | (simp; omega) | omega))).mono ?_; rintro e w2 ⟨rfl, hb2⟩; rw [H.out]; obtain ⟨hc2, hf2⟩ := bcell hb2; have q2 := hb2.size; (try simp only [World.size_alloc] at q2); have z2_0 : w.heap.size < w2.heap.size := (by omega); have z2_1 : w.heap.size + 1 < w2.heap.size := (by omega); have z2_2 : w.heap.size + 1 + 1 < w2.heap.size := (by omega); have k2 := (hb2.block (w.heap.size + 1 + 1) (by first | (simp; done) | (simp; omega) | omega)).trans blk_new3; have K2 := hide k2; clear k2) | (go_at_call 54; refine (sure_any call _).mono ?_; rintro e w3 ⟨rfl, rfl⟩; rw [HS.out]) | (go_at_call 55; refine (find_any v A n c b 0 call _ HV.out HB.out HN.out ((HR.out.below (by (repeat' first | exact zbR _ _ | assumption | refine zbD ?_ | refine zbA ?_ ?_ _ | refine zbS ?_ ?_ _ | refine zbT ?_ (by assumption) ?_ | (simp; done) | (simp; omega) | omega))).mono (by first | (simp; done) | (simp; omega) | omega)) (by omega) (by omega)).mono ?_; rintro e w4 ⟨rfl, hb4⟩; rw [HF.out]; have q4 := hb4.size; have k3 := (hb4.block (w.heap.size + 1 + 1) (by omega)).trans K2.out; have c0 := (blk_cell k3 0).trans rfl; have c1 := (blk_cell k3 1).trans rfl; have c2 := (blk_cell k3 2).trans rfl; have c3 := (blk_cell k3 3).trans rfl; have f0 := blk_frozen k3 0; have f1 := blk_frozen k3 1; have f2 := blk_frozen k3 2; have f3 := blk_frozen k3 3; have z4_2 : w.heap.size + 1 + 1 < w4.heap.size := (by omega); have K3 := hide k3; clear k3))
        rw [E1.out, E2.out]
        exact bodyPost_ret (v := .tuple #[.agg #[.int .i64 (L.foundM v b 0 call).x, .int .i64 (L.foundM v b 0 call).y, .int .i64 (L.foundM v b 0 call).hx, .int .i64 (L.foundM v b 0 call).hy], .int .i64 (0)]) (show_results ((Below.heap_alloc _ _ _ (by simp only [World.size_setCell]; exact z4_2)).trans (blk_set (blk_set (blk_set (blk_set (K3.out) 0 (.int .i64 (L.foundM v b 0 call).x)) 1 (.int .i64 (L.foundM v b 0 call).y)) 2 (.int .i64 (L.foundM v b 0 call).hx)) 3 (.int .i64 (L.foundM v b 0 call).hy))) rfl rfl rfl) rfl ⟨rfl, by (repeat' first | exact zbR _ _ | assumption | refine zbD ?_ | refine zbA ?_ ?_ _ | refine zbS ?_ ?_ _ | refine zbT ?_ (by assumption) ?_ | (simp; done) | (simp; omega) | omega)⟩
  all_goals
    have E1 := hide (show L.showM v b call = ⟨0, 0, 0, 0⟩ by unfold L.showM; rw [if_neg (by omega)])
    have E2 := hide (show L.showE v b call = L.checkBE v b by unfold L.showE; rw [if_neg (by omega)])
    have H := hide h
    clear h
    go_enter Try.func20, Try.ntmps20
    go_wp2_with (go_at_call 47; refine (check_any v A n c b _ HN.out ((HR.out.below (by (repeat' first | exact zbR _ _ | assumption | refine zbD ?_ | refine zbA ?_ ?_ _ | refine zbS ?_ ?_ _ | refine zbT ?_ (by assumption) ?_ | (simp; done) | (simp; omega) | omega))).mono (by first | (simp; done) | (simp; omega) | omega))).mono ?_; rintro e w2 ⟨rfl, hb2⟩; rw [H.out]; have k3 := (hb2.block (w.heap.size + 1 + 1) (by first | (simp; done) | (simp; omega) | omega)).trans blk_new3; have c0 := (blk_cell k3 0).trans rfl; have c1 := (blk_cell k3 1).trans rfl; have c2 := (blk_cell k3 2).trans rfl; have c3 := (blk_cell k3 3).trans rfl; have f0 := blk_frozen k3 0; have f1 := blk_frozen k3 1; have f2 := blk_frozen k3 2; have f3 := blk_frozen k3 3; have K3 := hide k3; clear k3)
    rw [E1.out, E2.out, H.out]
    exact bodyPost_ret (v := .tuple #[.agg #[.int .i64 0, .int .i64 0, .int .i64 0, .int .i64 0], .int .i64 _]) (show_results (blk_set (blk_set (blk_set (blk_set (K3.out) 0 (.int .i64 0)) 1 (.int .i64 0)) 2 (.int .i64 0)) 3 (.int .i64 0)) rfl rfl rfl) rfl ⟨rfl, by (repeat' first | exact zbR _ _ | assumption | refine zbD ?_ | refine zbA ?_ ?_ _ | refine zbS ?_ ?_ _ | refine zbT ?_ (by assumption) ?_ | (simp; done) | (simp; omega) | omega)⟩

end Go.Proofs.Ytgnobonhohfofaa

namespace Go.Proofs.Ytgnobonhohfofaa
open Go.RowKit
attribute [local go_sem ↓] Go.wp_at_zero Go.wp_at_succ

def L.farB (v : L.Vw) : Bool := decide (40 < v.ss.length) || (L.viewB v && (decide (12 < v.size) || decide (5 < v.hxh) || decide (5 < v.hyh)))
def L.validB (v : L.Vw) (b : L.Bx) : Bool := !L.farB v && (L.viewB v && L.boxB b)
theorem L.check_view (v : L.Vw) : L.checkE v = if L.viewB v then 0 else 20 := rfl

set_option maxRecDepth 100000 in
set_option maxHeartbeats 1600000 in
theorem Far_any (v : L.Vw) (A : Option Addr) (n c : Nat) (w : World) (hn : v.ss.length = n) (hr : RdS w w.heap.size A v.ss) :
    Calls Try.prog 28 #[.agg #[.int .i64 v.size, .slice A n c, .int .i64 v.wrong, .int .i64 v.hxl, .int .i64 v.hxh, .int .i64 v.hyl, .int .i64 v.hyh]] w fun e w' => e = .returned (.bool (L.farB v)) ∧ Below w.heap.size w w' := by
  have HN := hide hn
  have HR := hide hr
  have hc := L.check_view v
  by_cases h40 : (40 : Int) < (n : Int)
  · have HE := hide (show L.farB v = true by unfold L.farB; rw [decide_eq_true (by omega)]; rfl)
    clear hn hr hc
    go_enter Try.func28, Try.ntmps28
    go_wp2
    go_ret
    exact ⟨by rw [HE.out]; rfl, by (repeat' first | exact zbR _ _ | assumption | refine zbD ?_ | refine zbA ?_ ?_ _ | refine zbS ?_ ?_ _ | refine zbT ?_ (by assumption) ?_ | (simp; done) | (simp; omega) | omega)⟩
  have hf : L.farB v = (L.viewB v && (decide (12 < v.size) || decide (5 < v.hxh) || decide (5 < v.hyh))) := by unfold L.farB; rw [decide_eq_false (by omega)]; rfl
  cases hv : L.viewB v
  · rw [hv] at hc hf
    have HC := hide (show L.checkE v = 20 from hc)
    have HE := hide (show L.farB v = false from hf)
    clear hn hr hc hv hf
    go_enter Try.func28, Try.ntmps28
    go_wp2_with (go_at_call 23; refine (RefCheck_any v A n c _ HN.out ((HR.out.below (by (repeat' first | exact zbR _ _ | assumption | refine zbD ?_ | refine zbA ?_ ?_ _ | refine zbS ?_ ?_ _ | refine zbT ?_ (by assumption) ?_ | (simp; done) | (simp; omega) | omega))).mono (by first | (simp; done) | (simp; omega) | omega))).mono ?_; rintro e w2 ⟨rfl, hb2⟩; rw [HC.out])
    go_ret
    exact ⟨by rw [HE.out]; rfl, by (repeat' first | exact zbR _ _ | assumption | refine zbD ?_ | refine zbA ?_ ?_ _ | refine zbS ?_ ?_ _ | refine zbT ?_ (by assumption) ?_ | (simp; done) | (simp; omega) | omega)⟩
  rw [hv] at hc hf
  have HC := hide (show L.checkE v = 0 from hc)
  have HF := hide hf
  clear hn hr hc hv hf
  rw [Bool.true_and] at HF
  go_enter Try.func28, Try.ntmps28
  go_wp2_with (go_at_call 23; refine (RefCheck_any v A n c _ HN.out ((HR.out.below (by (repeat' first | exact zbR _ _ | assumption | refine zbD ?_ | refine zbA ?_ ?_ _ | refine zbS ?_ ?_ _ | refine zbT ?_ (by assumption) ?_ | (simp; done) | (simp; omega) | omega))).mono (by first | (simp; done) | (simp; omega) | omega))).mono ?_; rintro e w2 ⟨rfl, hb2⟩; rw [HC.out]; obtain ⟨hc2, hf2⟩ := bcell hb2; have hz2 : w.heap.size < w2.heap.size := (by have := hb2.size; (try simp at this); omega))
  all_goals
    go_ret
    exact ⟨by rw [HF.out]; (first | rfl | (simp [*]; done)), by (repeat' first | exact zbR _ _ | assumption | refine zbD ?_ | refine zbA ?_ ?_ _ | refine zbS ?_ ?_ _ | refine zbT ?_ (by assumption) ?_ | (simp; done) | (simp; omega) | omega)⟩

theorem L.farB_no {v : L.Vw} (h : L.farB v = false) : v.ss.length ≤ 40 ∧ (L.viewB v = true → v.size ≤ 12 ∧ v.hxh ≤ 5 ∧ v.hyh ≤ 5) := by
  unfold L.farB at h
  simp only [Bool.or_eq_false_iff, decide_eq_false_iff_not, Bool.and_eq_false_iff] at h
  refine ⟨by omega, fun hv => ?_⟩
  rcases h.2 with h' | h'
  · rw [hv] at h'; cases h'
  · omega

set_option maxRecDepth 100000 in
set_option maxHeartbeats 1600000 in
theorem valid_any (v : L.Vw) (A : Option Addr) (n c : Nat) (b : L.Bx) (w : World) (hn : v.ss.length = n) (hr : RdS w w.heap.size A v.ss) :
    Calls Try.prog 15 #[.agg #[.int .i64 v.size, .slice A n c, .int .i64 v.wrong, .int .i64 v.hxl, .int .i64 v.hxh, .int .i64 v.hyl, .int .i64 v.hyh], .agg #[.int .i64 b.l, .int .i64 b.r, .int .i64 b.b, .int .i64 b.t]] w fun e w' => e = .returned (.bool (L.validB v b)) ∧ Below w.heap.size w w' := by
  have HN := hide hn
  have HR := hide hr
  have hc := L.check_view v
  have he : L.validB v b = (!L.farB v && (L.viewB v && L.boxB b)) := rfl
  cases hf : L.farB v <;> cases hv : L.viewB v <;> cases hb : L.boxB b
  all_goals
    rw [hv] at hc
    rw [hf, hv, hb] at he
    have HC := hide hc
    have HE := hide he
    have HF := hide hf
    have HB := hide hb
    clear hn hr hc he hf hv hb
    go_enter Try.func15, Try.ntmps15
    go_wp2_with (first | (go_at_call 28; refine (Far_any v A n c _ HN.out ((HR.out.below (by (repeat' first | exact zbR _ _ | assumption | refine zbD ?_ | refine zbA ?_ ?_ _ | refine zbS ?_ ?_ _ | refine zbT ?_ (by assumption) ?_ | (simp; done) | (simp; omega) | omega))).mono (by first | (simp; done) | (simp; omega) | omega))).mono ?_; rintro e w2 ⟨rfl, hb2⟩; rw [HF.out]; obtain ⟨hc2, hf2⟩ := bcell hb2; have hz2 : w.heap.size + 1 < w2.heap.size := (by have := hb2.size; (try simp at this); omega); have hy2 : w.heap.size < w2.heap.size := (by omega)) | (go_at_call 23; refine (RefCheck_any v A n c _ HN.out ((HR.out.below (by (repeat' first | exact zbR _ _ | assumption | refine zbD ?_ | refine zbA ?_ ?_ _ | refine zbS ?_ ?_ _ | refine zbT ?_ (by assumption) ?_ | (simp; done) | (simp; omega) | omega))).mono (by first | (simp; done) | (simp; omega) | omega))).mono ?_; rintro e w3 ⟨rfl, hb3⟩; rw [HC.out]; obtain ⟨hc3, hf3⟩ := bcell hb3; have hz3 : w.heap.size + 1 < w3.heap.size := (by have := hb3.size; (try simp at this); omega); (try simp only [if_true, Bool.false_eq_true, if_false])) | (go_at_call 25; refine (isBox_any b _).mono ?_; rintro e w4 ⟨rfl, hb4⟩; rw [HB.out]))
    go_ret
    exact ⟨by rw [HE.out]; rfl, by (repeat' first | exact zbR _ _ | assumption | refine zbD ?_ | refine zbA ?_ ?_ _ | refine zbS ?_ ?_ _ | refine zbT ?_ (by assumption) ?_ | (simp; done) | (simp; omega) | omega)⟩

end Go.Proofs.Ytgnobonhohfofaa

namespace Go.Proofs.Ytgnobonhohfofaa
open Go.RowKit
attribute [local go_sem ↓] Go.wp_at_zero Go.wp_at_succ

namespace L
theorem boxB_of {b : Bx} (h : BxOk b) : boxB b = true := by
  obtain ⟨h1, h2, h3, h4, h5, h6⟩ := h
  simp [boxB, spanIn, h1, h2, h3, h4, h5, h6]
theorem checkBE_yes {v : Vw} {b : Bx} (hv : viewB v = true) (hb : boxB b = true) : checkBE v b = 0 := by unfold checkBE; rw [hv, hb]; rfl
theorem callV_ok {v : Vw} {b : Bx} (h : checkBE v b = 0) : callV v b = callOf v b 0 := by unfold callV; rw [if_pos h]
theorem callE_ok {v : Vw} {b : Bx} (h : checkBE v b = 0) : callE v b = if callOf v b 0 = 0 then 3 else 0 := by unfold callE; rw [if_pos h]
theorem validB_ok {v : Vw} {b : Bx} (h : validB v b = true) : viewB v = true ∧ boxB b = true ∧ farB v = false := by
  unfold validB at h
  simp only [Bool.and_eq_true, Bool.not_eq_true'] at h
  exact ⟨h.2.1, h.2.2, h.1⟩
def Larger (b o : Bx) : Prop := o.l ≤ b.l ∧ b.r ≤ o.r ∧ o.b ≤ b.b ∧ b.t ≤ o.t ∧ BxOk o
theorem larger_cases {v : Vw} (hv : viewB v = true) {b o : Bx} (hb : boxB b = true) (h : Larger b o) :
    (callV v b = 0 ∧ callE v b = 3 ∧ callV v o = 0 ∧ callE v o = 3) ∨ (callV v b = 1 ∧ callE v b = 0 ∧ callV v o = 1 ∧ callE v o = 0) ∨ (callV v b = 2 ∧ callE v b = 0 ∧ callV v o = 2 ∧ callE v o = 0) ∨ (callV v b ≠ 1 ∧ callE v b = 0 ∧ callV v o ≠ 2 ∧ callE v o = 0) := by
  obtain ⟨h1, h2, h3, h4, h5⟩ := h
  have c1 := checkBE_yes hv hb
  have c2 := checkBE_yes hv (boxB_of h5)
  obtain ⟨a1, a2, a3⟩ := larger (viewB_ok hv) h1 h2 h3 h4 0
  rw [callV_ok c1, callE_ok c1, callV_ok c2, callE_ok c2]
  by_cases hz : callOf v b 0 = 0
  · exact .inl ⟨hz, by rw [if_pos hz], a1.1 hz, by rw [if_pos (a1.1 hz)]⟩
  · have hz' : callOf v o 0 ≠ 0 := fun e => hz (a1.2 e)
    rw [if_neg hz, if_neg hz']
    by_cases h1' : callOf v b 0 = 1
    · exact .inr (.inl ⟨h1', rfl, a2 h1', rfl⟩)
    · by_cases h2' : callOf v o 0 = 2
      · exact .inr (.inr (.inl ⟨a3 h2', rfl, h2', rfl⟩))
      · exact .inr (.inr (.inr ⟨h1', rfl, h2', rfl⟩))
end L

theorem Call_ints (v : L.Vw) (A : Option Addr) (n c : Nat) (l r b t : Int) (w : World) (hn : v.ss.length = n) (hr : RdS w w.heap.size A v.ss) :
    Calls Try.prog 17 #[.agg #[.int .i64 v.size, .slice A n c, .int .i64 v.wrong, .int .i64 v.hxl, .int .i64 v.hxh, .int .i64 v.hyl, .int .i64 v.hyh], .agg #[.int .i64 l, .int .i64 r, .int .i64 b, .int .i64 t]] w fun e w' => e = .returned (.tuple #[.int .i64 (L.callV v ⟨l, r, b, t⟩), .int .i64 (L.callE v ⟨l, r, b, t⟩)]) ∧ Below w.heap.size w w' :=
  Call_any v A n c ⟨l, r, b, t⟩ w hn hr
set_option maxRecDepth 100000 in
set_option maxHeartbeats 3200000 in
theorem largerLaw_out (v : L.Vw) (A : Option Addr) (n c : Nat) (b m : L.Bx) (w : World) (hn : v.ss.length = n) (hr : RdS w w.heap.size A v.ss) (h : L.validB v b = false ∨ (L.validB v b = true ∧ L.boxB m = false)) :
    Calls Try.prog 5 #[.agg #[.int .i64 v.size, .slice A n c, .int .i64 v.wrong, .int .i64 v.hxl, .int .i64 v.hxh, .int .i64 v.hyl, .int .i64 v.hyh], .agg #[.int .i64 b.l, .int .i64 b.r, .int .i64 b.b, .int .i64 b.t], .agg #[.int .i64 m.l, .int .i64 m.r, .int .i64 m.b, .int .i64 m.t]] w fun e w' => e = .returned (.bool true) ∧ Below w.heap.size w w' := by
  have HN := hide hn
  have HR := hide hr
  clear hn hr
  rcases h with h | ⟨h, hm⟩
  · have H := hide h
    clear h
    go_enter Try.func5, Try.ntmps5
    go_wp2_with (first | (go_at_call 15; refine (valid_any v A n c b _ HN.out ((HR.out.below (by (repeat' first | exact zbR _ _ | assumption | refine zbD ?_ | refine zbA ?_ ?_ _ | refine zbS ?_ ?_ _ | refine zbT ?_ (by assumption) ?_ | (simp; done) | (simp; omega) | omega))).mono (by first | (simp; done) | (simp; omega) | omega))).mono ?_; rintro e w2 ⟨rfl, hb2⟩; rw [H.out]; obtain ⟨hc2, hf2⟩ := bcell hb2; have q2 := hb2.size; (try simp only [World.size_alloc] at q2); have z2_0 : w.heap.size < w2.heap.size := (by omega); have z2_1 : w.heap.size + 1 < w2.heap.size := (by omega); have z2_2 : w.heap.size + 1 + 1 < w2.heap.size := (by omega)) | (go_at_call 16; refine (works_any _).mono ?_; rintro e w3 ⟨rfl, hb3⟩))
    go_ret
    exact ⟨rfl, by (repeat' first | exact zbR _ _ | assumption | refine zbD ?_ | refine zbA ?_ ?_ _ | refine zbS ?_ ?_ _ | refine zbT ?_ (by assumption) ?_ | (simp; done) | (simp; omega) | omega)⟩
  · have H := hide h
    have HM := hide hm
    clear h hm
    go_enter Try.func5, Try.ntmps5
    go_wp2_with (first | (go_at_call 15; refine (valid_any v A n c b _ HN.out ((HR.out.below (by (repeat' first | exact zbR _ _ | assumption | refine zbD ?_ | refine zbA ?_ ?_ _ | refine zbS ?_ ?_ _ | refine zbT ?_ (by assumption) ?_ | (simp; done) | (simp; omega) | omega))).mono (by first | (simp; done) | (simp; omega) | omega))).mono ?_; rintro e w2 ⟨rfl, hb2⟩; rw [H.out]; obtain ⟨hc2, hf2⟩ := bcell hb2; have q2 := hb2.size; (try simp only [World.size_alloc] at q2); have z2_0 : w.heap.size < w2.heap.size := (by omega); have z2_1 : w.heap.size + 1 < w2.heap.size := (by omega); have z2_2 : w.heap.size + 1 + 1 < w2.heap.size := (by omega)) | (go_at_call 25; refine (isBox_any m _).mono ?_; rintro e w4 ⟨rfl, hb4⟩; rw [HM.out]; obtain ⟨hc4, hf4⟩ := bcell hb4; have q4 := hb4.size; (try simp only [World.size_alloc] at q4); have z4_0 : w.heap.size < w4.heap.size := (by omega); have z4_1 : w.heap.size + 1 < w4.heap.size := (by omega); have z4_2 : w.heap.size + 1 + 1 < w4.heap.size := (by omega)) | (go_at_call 16; refine (works_any _).mono ?_; rintro e w3 ⟨rfl, hb3⟩))
    go_ret
    exact ⟨rfl, by (repeat' first | exact zbR _ _ | assumption | refine zbD ?_ | refine zbA ?_ ?_ _ | refine zbS ?_ ?_ _ | refine zbT ?_ (by assumption) ?_ | (simp; done) | (simp; omega) | omega)⟩

set_option maxRecDepth 100000 in
set_option maxHeartbeats 3200000 in
theorem largerLaw_in (v : L.Vw) (A : Option Addr) (n c : Nat) (b m : L.Bx) (w : World) (hn : v.ss.length = n) (hr : RdS w w.heap.size A v.ss) (h : L.validB v b = true) (hm : L.boxB m = true) :
    Calls Try.prog 5 #[.agg #[.int .i64 v.size, .slice A n c, .int .i64 v.wrong, .int .i64 v.hxl, .int .i64 v.hxh, .int .i64 v.hyl, .int .i64 v.hyh], .agg #[.int .i64 b.l, .int .i64 b.r, .int .i64 b.b, .int .i64 b.t], .agg #[.int .i64 m.l, .int .i64 m.r, .int .i64 m.b, .int .i64 m.t]] w fun e w' => e = .returned (.bool true) ∧ Below w.heap.size w w' := by
  have HN := hide hn
  have HR := hide hr
  have H := hide h
  have HM := hide hm
  obtain ⟨b1, b2, b3, b4, b5, b6⟩ := L.boxB_ok (L.validB_ok h).2.1
  obtain ⟨m1, m2, m3, m4, m5, m6⟩ := L.boxB_ok hm
  clear hn hr h hm
  go_enter Try.func5, Try.ntmps5
  go_upto_region 3 with (first | (go_at_call 15; refine (valid_any v A n c b _ HN.out ((HR.out.below (by (repeat' first | exact zbR _ _ | assumption | refine zbD ?_ | refine zbA ?_ ?_ _ | refine zbS ?_ ?_ _ | refine zbT ?_ (by assumption) ?_ | (simp; done) | (simp; omega) | omega))).mono (by first | (simp; done) | (simp; omega) | omega))).mono ?_; rintro e w2 ⟨rfl, hb2⟩; rw [H.out]; obtain ⟨hc2, hf2⟩ := bcell hb2; have q2 := hb2.size; (try simp only [World.size_alloc] at q2); have z2_0 : w.heap.size < w2.heap.size := (by omega); have z2_1 : w.heap.size + 1 < w2.heap.size := (by omega); have z2_2 : w.heap.size + 1 + 1 < w2.heap.size := (by omega)) | (go_at_call 25; refine (isBox_any m _).mono ?_; rintro e w4 ⟨rfl, hb4⟩; rw [HM.out]; obtain ⟨hc4, hf4⟩ := bcell hb4; have q4 := hb4.size; (try simp only [World.size_alloc] at q4); have z4_0 : w.heap.size < w4.heap.size := (by omega); have z4_1 : w.heap.size + 1 < w4.heap.size := (by omega); have z4_2 : w.heap.size + 1 + 1 < w4.heap.size := (by omega)))
  go_cut [7] from 22 to 42 (fun v7 wx => ∃ (q : Nat) (x1 x2 x3 x4 : Int), v7 = .pointer (some ⟨q, 0, none⟩) ∧ Hid (L.Larger b ⟨x1, x2, x3, x4⟩) ∧ Hid (wx.heap[q]? = some (.cells #[.int .i64 x1, .int .i64 x2, .int .i64 x3, .int .i64 x4] 28 (0, 0))) ∧ Hid (w4.heap.size ≤ q ∧ Below w4.heap.size w4 wx))
  case first =>
    go_wp2
    all_goals
      go_meet
      refine ⟨_, _, _, _, _, rfl, ?_, hide (World.alloc_heap_new _ _), hide ⟨Nat.le_refl _, (Below.refl _ _).alloc (Nat.le_refl _) _⟩⟩
      exact hide ⟨by dsimp only; omega, by dsimp only; omega, by dsimp only; omega, by dsimp only; omega, ⟨by dsimp only; omega, by dsimp only; omega, by dsimp only; omega, by dsimp only; omega, by dsimp only; omega, by dsimp only; omega⟩⟩
  case rest =>
    obtain ⟨q, x1, x2, x3, x4, rfl, HL, HQ, HW⟩ := hcut
    obtain ⟨hq, hW⟩ := HW.out
    obtain ⟨hc5, hf5⟩ := bcell hW
    have q5 := hW.size
    have o1 := (blk_cell HQ.out 0).trans rfl
    have o2 := (blk_cell HQ.out 1).trans rfl
    have o3 := (blk_cell HQ.out 2).trans rfl
    have o4 := (blk_cell HQ.out 3).trans rfl
    have lq : q < wc.heap.size := blk_lt HQ.out
    have y0 : w.heap.size < wc.heap.size := by omega
    have y1 : w.heap.size + 1 < wc.heap.size := by omega
    have HWW := hide hW
    rcases L.larger_cases (L.validB_ok H.out).1 (L.validB_ok H.out).2.1 HL.out with ⟨e1, e2, e3, e4⟩ | ⟨e1, e2, e3, e4⟩ | ⟨e1, e2, e3, e4⟩ | ⟨e1, e2, e3, e4⟩
    rotate_left 3
    · have d1 : (L.callV v b == 1) = false := by simpa using e1
      have d2 : (L.callV v ⟨x1, x2, x3, x4⟩ == 2) = false := by simpa using e3
      have d3 : (L.callV v b != 1) = true := by simpa using e1
      have d4 : (L.callV v ⟨x1, x2, x3, x4⟩ != 2) = true := by simpa using e3
      have E2 := hide e2
      have E4 := hide e4
      clear e1 e2 e3 e4
      go_wp2_with (first | (go_at_call 17; refine (Call_ints v A n c _ _ _ _ _ HN.out ((HR.out.below (by (repeat' first | exact zbR _ _ | assumption | refine zbD ?_ | refine zbA ?_ ?_ _ | refine zbS ?_ ?_ _ | refine zbT ?_ (by assumption) ?_ | (simp; done) | (simp; omega) | omega))).mono (by first | (simp; done) | (simp; omega) | omega))).mono ?_; rintro e w6 ⟨rfl, hb6⟩; (first | rw [E2.out] | rw [E4.out]); obtain ⟨hc6, hf6⟩ := bcell hb6; have q6 := hb6.size; (try simp only [World.size_alloc] at q6); have z6_0 : w.heap.size < w6.heap.size := (by omega); have z6_1 : q < w6.heap.size := (by omega)) | (go_at_call 16; refine (works_any _).mono ?_; rintro e w3 ⟨rfl, hb3⟩))
      go_ret
      exact ⟨rfl, by (repeat' first | exact zbR _ _ | assumption | refine zbD ?_ | refine zbA ?_ ?_ _ | refine zbS ?_ ?_ _ | refine zbT ?_ (by assumption) ?_ | (simp; done) | (simp; omega) | omega)⟩
    all_goals
      have E1 := hide e1
      have E2 := hide e2
      have E3 := hide e3
      have E4 := hide e4
      clear e1 e2 e3 e4
      go_wp2_with (first | (go_at_call 17; refine (Call_ints v A n c _ _ _ _ _ HN.out ((HR.out.below (by (repeat' first | exact zbR _ _ | assumption | refine zbD ?_ | refine zbA ?_ ?_ _ | refine zbS ?_ ?_ _ | refine zbT ?_ (by assumption) ?_ | (simp; done) | (simp; omega) | omega))).mono (by first | (simp; done) | (simp; omega) | omega))).mono ?_; rintro e w6 ⟨rfl, hb6⟩; (first | rw [E1.out, E2.out] | rw [E3.out, E4.out]); obtain ⟨hc6, hf6⟩ := bcell hb6; have q6 := hb6.size; (try simp only [World.size_alloc] at q6); have z6_0 : w.heap.size < w6.heap.size := (by omega); have z6_1 : q < w6.heap.size := (by omega)) | (go_at_call 16; refine (works_any _).mono ?_; rintro e w3 ⟨rfl, hb3⟩))
      go_ret
      exact ⟨rfl, by (repeat' first | exact zbR _ _ | assumption | refine zbD ?_ | refine zbA ?_ ?_ _ | refine zbS ?_ ?_ _ | refine zbT ?_ (by assumption) ?_ | (simp; done) | (simp; omega) | omega)⟩

end Go.Proofs.Ytgnobonhohfofaa

namespace Go.Proofs.Ytgnobonhohfofaa
namespace L

theorem cents_mem {n : Nat} {x y : Int} (hx0 : 0 ≤ x) (hx1 : x ≤ n) (hy0 : 0 ≤ y) (hy1 : y ≤ n) : (x, y) ∈ cents n := by
  simp only [cents, List.mem_flatMap, List.mem_map, List.mem_range]
  exact ⟨x.toNat, by omega, y.toNat, by omega, Prod.ext (Int.toNat_of_nonneg hx0) (Int.toNat_of_nonneg hy0)⟩
theorem mem_tcents {v : Vw} (hv : VwOk v) {c : Int × Int} {k : Int} : c ∈ tcents v k ↔ (0 ≤ c.1 ∧ c.1 ≤ v.size ∧ 0 ≤ c.2 ∧ c.2 ≤ v.size) ∧ okAt v k c = true := by
  unfold tcents
  rw [List.mem_filter]
  have h0 := hv.s0
  have hs : (v.size.toNat : Int) = v.size := Int.toNat_of_nonneg h0
  constructor
  · rintro ⟨h, h'⟩
    obtain ⟨a, b, c, d⟩ := mem_cents h
    exact ⟨⟨a, by omega, c, by omega⟩, h'⟩
  · rintro ⟨⟨a, b, c, d⟩, h'⟩
    exact ⟨cents_mem a (by omega) c (by omega), h'⟩
theorem okAt_zero (v : Vw) (c : Int × Int) : okAt v 0 c = decide (((wrongL v c.1 c.2).length : Int) ≤ v.wrong) := by
  unfold okAt; rw [wrongL_length]
theorem truth_mem {v : Vw} (hv : VwOk v) {m : Mk} (h : truthB v m = true) : (m.x, m.y) ∈ tcents v 0 ∧ v.hxl ≤ m.hx ∧ m.hx ≤ v.hxh ∧ v.hyl ≤ m.hy ∧ m.hy ≤ v.hyh := by
  unfold truthB at h
  rw [Bool.and_eq_true] at h
  obtain ⟨h1, h2⟩ := h
  unfold isMarkB markB within at h1
  simp only [Bool.and_eq_true, decide_eq_true_eq] at h1
  obtain ⟨⟨⟨⟨a, b⟩, c, d⟩, e, f⟩, g, i⟩ := h1
  exact ⟨(mem_tcents hv).2 ⟨⟨a, b, c, d⟩, by rw [okAt_zero]; exact h2⟩, e, f, g, i⟩
theorem truth_of {v : Vw} (hv : VwOk v) {c : Int × Int} {p q : Int} (hc : c ∈ tcents v 0) (h1 : v.hxl ≤ p) (h2 : p ≤ v.hxh) (h3 : v.hyl ≤ q) (h4 : q ≤ v.hyh) : truthB v ⟨c.1, c.2, p, q⟩ = true := by
  obtain ⟨⟨a, b, d, e⟩, f⟩ := (mem_tcents hv).1 hc
  rw [okAt_zero] at f
  unfold truthB isMarkB markB within
  simp only [Bool.and_eq_true, decide_eq_true_eq]
  exact ⟨⟨⟨⟨⟨a, b⟩, d, e⟩, h1, h2⟩, h3, h4⟩, by simpa using f⟩
theorem markB_of {m : Mk} (h : MkOk m) : markB m 40 1 9 1 9 = true := by
  obtain ⟨a, b, c, d, e, f, g, i⟩ := h
  unfold markB within
  simp only [Bool.and_eq_true, decide_eq_true_eq]
  exact ⟨⟨⟨⟨a, b⟩, c, d⟩, e, f⟩, g, i⟩
theorem truth_ok {v : Vw} (hv : VwOk v) {m : Mk} (h : truthB v m = true) : MkOk m := by
  unfold truthB at h
  rw [Bool.and_eq_true] at h
  exact (isMark_bd hv h.1).1
theorem touch_low {v : Vw} (hv : VwOk v) {m : Mk} {b : Bx} (h : truthB v m = true) (ht : touch ⟨m.x, m.y, v.hxl, v.hyl⟩ b = true) : touch m b = true := by
  obtain ⟨_, h1, h2, h3, h4⟩ := truth_mem hv h
  exact touch_axes hv.x0 hv.y0 h1 h3 ht
theorem touch_high {v : Vw} (hv : VwOk v) {m : Mk} {b : Bx} (h : truthB v m = true) (ht : touch m b = true) : touch ⟨m.x, m.y, v.hxh, v.hyh⟩ b = true := by
  obtain ⟨_, h1, h2, h3, h4⟩ := truth_mem hv h
  exact touch_axes (by have := hv.x0; omega) (by have := hv.y0; omega) h2 h4 ht
theorem found_some {v : Vw} (hv : VwOk v) {b : Bx} {call : Int} (h : (findC v b 0 call).isSome = true) : truthB v (foundM v b 0 call) = true ∧ touch (foundM v b 0 call) b = decide (call = 1) := by
  obtain ⟨c, hc⟩ := Option.isSome_iff_exists.1 h
  have e : foundM v b 0 call = ⟨c.1, c.2, hxOf v call, hyOf v call⟩ := by unfold foundM; rw [hc]; exact markOf_eq v call c
  have h1 : c ∈ tcents v 0 := List.mem_of_find?_eq_some hc
  have h2 : hitAt v b call c = true := List.find?_some hc
  rw [hitAt_eq] at h2
  rw [e]
  refine ⟨?_, by simpa using h2⟩
  have := hv.xx
  have := hv.yy
  exact truth_of hv h1 (by unfold hxOf; split <;> omega) (by unfold hxOf; split <;> omega) (by unfold hyOf; split <;> omega) (by unfold hyOf; split <;> omega)

theorem showE_1 {v : Vw} {b : Bx} (h : checkBE v b = 0) : showE v b 1 = if (findC v b 0 1).isSome then 0 else 3 := by unfold showE; rw [if_pos h, if_pos (by decide)]
theorem showE_2 {v : Vw} {b : Bx} (h : checkBE v b = 0) : showE v b 2 = if (findC v b 0 2).isSome then 0 else 3 := by unfold showE; rw [if_pos h, if_pos (by decide)]
theorem showM_1 {v : Vw} {b : Bx} (h : checkBE v b = 0) : showM v b 1 = foundM v b 0 1 := by unfold showM; rw [if_pos h, if_pos (by decide)]
theorem showM_2 {v : Vw} {b : Bx} (h : checkBE v b = 0) : showM v b 2 = foundM v b 0 2 := by unfold showM; rw [if_pos h, if_pos (by decide)]

structure SureOk (v : Vw) (b : Bx) (m : Mk) (cv e1 e2 : Int) : Prop where
  fcv : callV v b = cv
  fce : callE v b = 0
  f1 : showE v b 1 = e1
  f2 : showE v b 2 = e2
  tou : truthB v m = true → touE m b = 0
  tin : cv = 1 → truthB v m = true → touV m b = true
  tout : cv = 2 → truthB v m = true → touV m b = false
  t1 : e1 = 0 → truthB v (showM v b 1) = true ∧ touch (showM v b 1) b = true ∧ MkOk (showM v b 1)
  t2 : e2 = 0 → truthB v (showM v b 2) = true ∧ touch (showM v b 2) b = false ∧ MkOk (showM v b 2)

theorem sure_cases {v : Vw} (hv : viewB v = true) {b : Bx} (hb : boxB b = true) (m : Mk) :
    (callV v b = 0 ∧ callE v b = 3 ∧ truthB v m = false) ∨ SureOk v b m 1 0 3 ∨ SureOk v b m 2 3 0 ∨ SureOk v b m 3 0 0 := by
  have hc := checkBE_yes hv hb
  have hk := viewB_ok hv
  have T : truthB v m = true → touE m b = 0 ∧ touV m b = touch m b := fun h => by
    have := markB_of (truth_ok hk h)
    exact ⟨by unfold touE; rw [hb, this]; rfl, by unfold touV; rw [hb, this]; rfl⟩
  have F1 : (findC v b 0 1).isSome = true → truthB v (showM v b 1) = true ∧ touch (showM v b 1) b = true ∧ MkOk (showM v b 1) := fun h => by
    obtain ⟨a1, a2⟩ := found_some hk h
    rw [showM_1 hc]
    exact ⟨a1, by simpa using a2, truth_ok hk a1⟩
  have F2 : (findC v b 0 2).isSome = true → truthB v (showM v b 2) = true ∧ touch (showM v b 2) b = false ∧ MkOk (showM v b 2) := fun h => by
    obtain ⟨a1, a2⟩ := found_some hk h
    rw [showM_2 hc]
    exact ⟨a1, by simpa using a2, truth_ok hk a1⟩
  have i1 := find1 v b 0
  have i2 := find2 v b 0
  rcases call_cases v b 0 with ⟨h, a1, a2⟩ | ⟨h, a1, a2⟩ | ⟨h, a1, a2⟩ | ⟨h, a1, a2⟩
  · refine .inl ⟨by rw [callV_ok hc, h], by rw [callE_ok hc, if_pos h], ?_⟩
    cases ht : truthB v m
    · rfl
    · have := (truth_mem hk ht).1
      rw [(call_zero hk b 0).1 h] at this
      cases this
  · have s1 := i1.2 a1
    have s2 : (findC v b 0 2).isSome = false := by cases hq : (findC v b 0 2).isSome; rfl; exact (a2 (i2.1 hq)).elim
    refine .inr (.inl ⟨by rw [callV_ok hc, h], by rw [callE_ok hc, if_neg (by omega)], by rw [showE_1 hc, s1]; rfl, by rw [showE_2 hc, s2]; rfl, fun t => (T t).1, fun _ t => ?_, fun e => by omega, fun _ => F1 s1, fun e => by omega⟩)
    rw [(T t).2]
    have hm := (truth_mem hk t).1
    cases hl : touch ⟨m.x, m.y, v.hxl, v.hyl⟩ b
    · exact (a2 ⟨_, hm, hl⟩).elim
    · exact touch_low hk t hl
  · have s2 := i2.2 a2
    have s1 : (findC v b 0 1).isSome = false := by cases hq : (findC v b 0 1).isSome; rfl; exact (a1 (i1.1 hq)).elim
    refine .inr (.inr (.inl ⟨by rw [callV_ok hc, h], by rw [callE_ok hc, if_neg (by omega)], by rw [showE_1 hc, s1]; rfl, by rw [showE_2 hc, s2]; rfl, fun t => (T t).1, fun e => by omega, fun _ t => ?_, fun e => by omega, fun _ => F2 s2⟩))
    rw [(T t).2]
    have hm := (truth_mem hk t).1
    cases hl : touch m b
    · rfl
    · exact (a1 ⟨_, hm, touch_high hk t hl⟩).elim
  · have s1 := i1.2 a1
    have s2 := i2.2 a2
    exact .inr (.inr (.inr ⟨by rw [callV_ok hc, h], by rw [callE_ok hc, if_neg (by omega)], by rw [showE_1 hc, s1]; rfl, by rw [showE_2 hc, s2]; rfl, fun t => (T t).1, fun e => by omega, fun e => by omega, fun _ => F1 s1, fun _ => F2 s2⟩))
end L
end Go.Proofs.Ytgnobonhohfofaa

namespace Go.Proofs.Ytgnobonhohfofaa
open Go.RowKit
attribute [local go_sem ↓] Go.wp_at_zero Go.wp_at_succ

set_option maxRecDepth 100000 in
set_option maxHeartbeats 6400000 in
theorem sureLaw_out (v : L.Vw) (A : Option Addr) (n c : Nat) (b : L.Bx) (m : L.Mk) (w : World) (hn : v.ss.length = n) (hr : RdS w w.heap.size A v.ss) (h : L.validB v b = false) :
    Calls Try.prog 3 #[.agg #[.int .i64 v.size, .slice A n c, .int .i64 v.wrong, .int .i64 v.hxl, .int .i64 v.hxh, .int .i64 v.hyl, .int .i64 v.hyh], .agg #[.int .i64 b.l, .int .i64 b.r, .int .i64 b.b, .int .i64 b.t], .agg #[.int .i64 m.x, .int .i64 m.y, .int .i64 m.hx, .int .i64 m.hy]] w fun e w' => e = .returned (.bool true) ∧ Below w.heap.size w w' := by
  have HN := hide hn
  have HR := hide hr
  clear hn hr
  have H := hide h
  clear h
  go_enter Try.func3, Try.ntmps3
  go_wp2_with (first | (go_at_call 15; refine (valid_any v A n c b _ HN.out ((HR.out.below (by (repeat' first | exact zbR _ _ | assumption | refine zbD ?_ | refine zbA ?_ ?_ _ | refine zbS ?_ ?_ _ | refine zbT ?_ (by assumption) ?_ | (simp; done) | (simp; omega) | omega))).mono (by first | (simp; done) | (simp; omega) | omega))).mono ?_; rintro e w2 ⟨rfl, hb2⟩; rw [H.out]; obtain ⟨hc2, hf2⟩ := bcell hb2; have q2 := hb2.size; (try simp only [World.size_alloc] at q2); have z2_0 : w.heap.size < w2.heap.size := (by omega); have z2_1 : w.heap.size + 1 < w2.heap.size := (by omega); have z2_2 : w.heap.size + 1 + 1 < w2.heap.size := (by omega)) | (go_at_call 16; refine (works_any _).mono ?_; rintro e w3 ⟨rfl, hb3⟩))
  go_ret
  exact ⟨rfl, by (repeat' first | exact zbR _ _ | assumption | refine zbD ?_ | refine zbA ?_ ?_ _ | refine zbS ?_ ?_ _ | refine zbT ?_ (by assumption) ?_ | (simp; done) | (simp; omega) | omega)⟩

set_option maxRecDepth 100000 in
set_option maxHeartbeats 6400000 in
theorem sureLaw_none (v : L.Vw) (A : Option Addr) (n c : Nat) (b : L.Bx) (m : L.Mk) (w : World) (hn : v.ss.length = n) (hr : RdS w w.heap.size A v.ss) (h : L.validB v b = true) (h1 : L.callV v b = 0) (h2 : L.callE v b = 3) (h3 : L.truthB v m = false) :
    Calls Try.prog 3 #[.agg #[.int .i64 v.size, .slice A n c, .int .i64 v.wrong, .int .i64 v.hxl, .int .i64 v.hxh, .int .i64 v.hyl, .int .i64 v.hyh], .agg #[.int .i64 b.l, .int .i64 b.r, .int .i64 b.b, .int .i64 b.t], .agg #[.int .i64 m.x, .int .i64 m.y, .int .i64 m.hx, .int .i64 m.hy]] w fun e w' => e = .returned (.bool true) ∧ Below w.heap.size w w' := by
  have HN := hide hn
  have HR := hide hr
  clear hn hr
  have HV := hide (L.viewB_ok (L.validB_ok h).1)
  have H := hide h
  have HCV := hide h1
  have HCE := hide h2
  have HT := hide h3
  clear h h1 h2 h3
  go_enter Try.func3, Try.ntmps3
  go_wp2_with (first | (go_at_call 15; refine (valid_any v A n c b _ HN.out ((HR.out.below (by (repeat' first | exact zbR _ _ | assumption | refine zbD ?_ | refine zbA ?_ ?_ _ | refine zbS ?_ ?_ _ | refine zbT ?_ (by assumption) ?_ | (simp; done) | (simp; omega) | omega))).mono (by first | (simp; done) | (simp; omega) | omega))).mono ?_; rintro e w2 ⟨rfl, hb2⟩; rw [H.out]; obtain ⟨hc2, hf2⟩ := bcell hb2; have q2 := hb2.size; (try simp only [World.size_alloc] at q2); have z2_0 : w.heap.size < w2.heap.size := (by omega); have z2_1 : w.heap.size + 1 < w2.heap.size := (by omega); have z2_2 : w.heap.size + 1 + 1 < w2.heap.size := (by omega)) | (go_at_call 17; refine (Call_any v A n c b _ HN.out ((HR.out.below (by (repeat' first | exact zbR _ _ | assumption | refine zbD ?_ | refine zbA ?_ ?_ _ | refine zbS ?_ ?_ _ | refine zbT ?_ (by assumption) ?_ | (simp; done) | (simp; omega) | omega))).mono (by first | (simp; done) | (simp; omega) | omega))).mono ?_; rintro e w4 ⟨rfl, hb4⟩; rw [HCV.out, HCE.out]; obtain ⟨hc4, hf4⟩ := bcell hb4; have q4 := hb4.size; (try simp only [World.size_alloc] at q4); have z4_0 : w.heap.size < w4.heap.size := (by omega); have z4_1 : w.heap.size + 1 < w4.heap.size := (by omega); have z4_2 : w.heap.size + 1 + 1 < w4.heap.size := (by omega)) | (go_at_call 18; refine (isTruth_any v A n c m _ HV.out HN.out ((HR.out.below (by (repeat' first | exact zbR _ _ | assumption | refine zbD ?_ | refine zbA ?_ ?_ _ | refine zbS ?_ ?_ _ | refine zbT ?_ (by assumption) ?_ | (simp; done) | (simp; omega) | omega))).mono (by first | (simp; done) | (simp; omega) | omega))).mono ?_; rintro e w5 ⟨rfl, hb5⟩; rw [HT.out]; obtain ⟨hc5, hf5⟩ := bcell hb5; have q5 := hb5.size; (try simp only [World.size_alloc] at q5); have z5_0 : w.heap.size < w5.heap.size := (by omega); have z5_1 : w.heap.size + 1 < w5.heap.size := (by omega); have z5_2 : w.heap.size + 1 + 1 < w5.heap.size := (by omega)) | (go_at_call 16; refine (works_any _).mono ?_; rintro e w3 ⟨rfl, hb3⟩))
  go_ret
  exact ⟨rfl, by (repeat' first | exact zbR _ _ | assumption | refine zbD ?_ | refine zbA ?_ ?_ _ | refine zbS ?_ ?_ _ | refine zbT ?_ (by assumption) ?_ | (simp; done) | (simp; omega) | omega)⟩

set_option maxRecDepth 100000 in
set_option maxHeartbeats 6400000 in
theorem sureLaw_1f (v : L.Vw) (A : Option Addr) (n c : Nat) (b : L.Bx) (m : L.Mk) (w : World) (hn : v.ss.length = n) (hr : RdS w w.heap.size A v.ss) (h : L.validB v b = true) (hs : L.SureOk v b m 1 0 3) (ht : L.truthB v m = false) :
    Calls Try.prog 3 #[.agg #[.int .i64 v.size, .slice A n c, .int .i64 v.wrong, .int .i64 v.hxl, .int .i64 v.hxh, .int .i64 v.hyl, .int .i64 v.hyh], .agg #[.int .i64 b.l, .int .i64 b.r, .int .i64 b.b, .int .i64 b.t], .agg #[.int .i64 m.x, .int .i64 m.y, .int .i64 m.hx, .int .i64 m.hy]] w fun e w' => e = .returned (.bool true) ∧ Below w.heap.size w w' := by
  have HN := hide hn
  have HR := hide hr
  clear hn hr
  have HV := hide (L.viewB_ok (L.validB_ok h).1)
  have HB := hide (L.boxB_ok (L.validB_ok h).2.1)
  have H := hide h
  obtain ⟨h1, h2, h3, h4, h5, h6, h7, h8, h9⟩ := hs
  have HCV := hide h1
  have HCE := hide h2
  obtain ⟨y1, hy1⟩ : ∃ y, L.showM v b 1 = y := ⟨_, rfl⟩
  obtain ⟨y2, hy2⟩ : ∃ y, L.showM v b 2 = y := ⟨_, rfl⟩
  obtain ⟨tv, htv⟩ : ∃ y, L.touV m b = y := ⟨_, rfl⟩
  obtain ⟨te, hte⟩ : ∃ y, L.touE m b = y := ⟨_, rfl⟩
  rw [hy1] at h8
  rw [hy2] at h9
  rw [htv] at h6 h7
  rw [hte] at h5
  have HY1 := hide hy1
  have HY2 := hide hy2
  have HTV := hide htv
  have HTE := hide hte
  have HE1 := hide h3
  have HE2 := hide h4
  clear h h1 h2 h3 h4 hy1 hy2 htv hte
  have HT := hide ht
  obtain ⟨a1, a2, a3⟩ := h8 rfl
  have HT1 := hide a1
  have HO1 := hide a2
  have HM1 := hide a3
  clear a1 a2 a3
  clear h5 h6 h7 h8 h9 ht
  go_enter Try.func3, Try.ntmps3
  go_upto_region 1 with fail
  obtain ⟨W0, hW0⟩ : ∃ W0, ((w.alloc (.cells #[.int .i64 v.size, .slice A n c, .int .i64 v.wrong, .int .i64 v.hxl, .int .i64 v.hxh, .int .i64 v.hyl, .int .i64 v.hyh] 26)).alloc (.cells #[.int .i64 b.l, .int .i64 b.r, .int .i64 b.b, .int .i64 b.t] 28)).alloc (.cells #[.int .i64 m.x, .int .i64 m.y, .int .i64 m.hx, .int .i64 m.hy] 30) = W0 := ⟨_, rfl⟩
  have gp : W0.heap[w.heap.size]? = some (.cells #[.int .i64 v.size, .slice A n c, .int .i64 v.wrong, .int .i64 v.hxl, .int .i64 v.hxh, .int .i64 v.hyl, .int .i64 v.hyh] 26 (0, 0)) := by
    rw [← hW0]; exact (Below.heap_alloc _ _ _ (by first | (simp; done) | (simp; omega) | omega)).trans ((Below.heap_alloc _ _ _ (by first | (simp; done) | (simp; omega) | omega)).trans (World.alloc_heap_new _ _))
  have gq : W0.heap[w.heap.size + 1]? = some (.cells #[.int .i64 b.l, .int .i64 b.r, .int .i64 b.b, .int .i64 b.t] 28 (0, 0)) := by
    rw [← hW0]; exact (Below.heap_alloc _ _ _ (by first | (simp; done) | (simp; omega) | omega)).trans blk_new2
  have gr : W0.heap[w.heap.size + 1 + 1]? = some (.cells #[.int .i64 m.x, .int .i64 m.y, .int .i64 m.hx, .int .i64 m.hy] 30 (0, 0)) := by
    rw [← hW0]; exact blk_new3
  have gs : W0.heap.size = w.heap.size + 1 + 1 + 1 := by rw [← hW0]; simp
  have gB : Below w.heap.size w W0 := by rw [← hW0]; (repeat' first | exact zbR _ _ | assumption | refine zbD ?_ | refine zbA ?_ ?_ _ | refine zbS ?_ ?_ _ | refine zbT ?_ (by assumption) ?_ | (simp; done) | (simp; omega) | omega)
  rw [hW0]
  clear hW0
  obtain ⟨p, hp⟩ : ∃ p, w.heap.size = p := ⟨_, rfl⟩
  obtain ⟨q, hq⟩ : ∃ q, w.heap.size + 1 = q := ⟨_, rfl⟩
  obtain ⟨r, hr⟩ : ∃ r, w.heap.size + 1 + 1 = r := ⟨_, rfl⟩
  rw [hr, hq, hp]
  rw [hp] at gp
  rw [hq] at gq
  rw [hr] at gr
  have lp : p < W0.heap.size := by omega
  have lq : q < W0.heap.size := by omega
  have lr : r < W0.heap.size := by omega
  have HR0 := hide ((HR.out.below gB).mono gB.size)
  have GB := hide gB
  have cp0 := (blk_cell gp 0).trans rfl; have cp1 := (blk_cell gp 1).trans rfl; have cp2 := (blk_cell gp 2).trans rfl; have cp3 := (blk_cell gp 3).trans rfl; have cp4 := (blk_cell gp 4).trans rfl; have cp5 := (blk_cell gp 5).trans rfl; have cp6 := (blk_cell gp 6).trans rfl
  have cq0 := (blk_cell gq 0).trans rfl; have cq1 := (blk_cell gq 1).trans rfl; have cq2 := (blk_cell gq 2).trans rfl; have cq3 := (blk_cell gq 3).trans rfl
  have cr0 := (blk_cell gr 0).trans rfl; have cr1 := (blk_cell gr 1).trans rfl; have cr2 := (blk_cell gr 2).trans rfl; have cr3 := (blk_cell gr 3).trans rfl
  clear gp gq gr gB gs hp hq hr HR
  go_wp2_with (first | (go_at_call 15; refine (valid_any v A n c b _ HN.out ((HR0.out.below (by (repeat' first | exact zbR _ _ | assumption | refine zbD ?_ | refine zbA ?_ ?_ _ | refine zbS ?_ ?_ _ | refine zbT ?_ (by assumption) ?_ | (simp; done) | (simp; omega) | omega))).mono (by first | (simp; done) | (simp; omega) | omega))).mono ?_; rintro e w2 ⟨rfl, hb2⟩; rw [H.out]; obtain ⟨hc2, hf2⟩ := bcell hb2; have q2 := hb2.size; (try simp only [World.size_alloc] at q2); have z2p : p < w2.heap.size := (by omega); have z2q : q < w2.heap.size := (by omega); have z2r : r < w2.heap.size := (by omega)) | (go_at_call 17; refine (Call_any v A n c b _ HN.out ((HR0.out.below (by (repeat' first | exact zbR _ _ | assumption | refine zbD ?_ | refine zbA ?_ ?_ _ | refine zbS ?_ ?_ _ | refine zbT ?_ (by assumption) ?_ | (simp; done) | (simp; omega) | omega))).mono (by first | (simp; done) | (simp; omega) | omega))).mono ?_; rintro e w4 ⟨rfl, hb4⟩; rw [HCV.out, HCE.out]; obtain ⟨hc4, hf4⟩ := bcell hb4; have q4 := hb4.size; (try simp only [World.size_alloc] at q4); have z4p : p < w4.heap.size := (by omega); have z4q : q < w4.heap.size := (by omega); have z4r : r < w4.heap.size := (by omega)) | (go_at_call 19; refine (Touches_any m b _).mono ?_; rintro e w14 ⟨rfl, hb14⟩; rw [HTV.out, HTE.out]; obtain ⟨hc14, hf14⟩ := bcell hb14; have q14 := hb14.size; (try simp only [World.size_alloc] at q14); have z14p : p < w14.heap.size := (by omega); have z14q : q < w14.heap.size := (by omega); have z14r : r < w14.heap.size := (by omega)) | (go_at_call 18; refine (isTruth_any v A n c _ _ HV.out HN.out ((HR0.out.below (by (repeat' first | exact zbR _ _ | assumption | refine zbD ?_ | refine zbA ?_ ?_ _ | refine zbS ?_ ?_ _ | refine zbT ?_ (by assumption) ?_ | (simp; done) | (simp; omega) | omega))).mono (by first | (simp; done) | (simp; omega) | omega))).mono ?_; (first | (rintro e w5 ⟨rfl, hb5⟩; rw [HT.out]; obtain ⟨hc5, hf5⟩ := bcell hb5; have q5 := hb5.size; (try simp only [World.size_alloc] at q5); have z5p : p < w5.heap.size := (by omega); have z5q : q < w5.heap.size := (by omega); have z5r : r < w5.heap.size := (by omega)) | (rintro e w8 ⟨rfl, hb8⟩; rw [HT1.out]; obtain ⟨hc8, hf8⟩ := bcell hb8; have q8 := hb8.size; (try simp only [World.size_alloc] at q8); have z8p : p < w8.heap.size := (by omega); have z8q : q < w8.heap.size := (by omega); have z8r : r < w8.heap.size := (by omega); have z8_w6 : w6.heap.size < w8.heap.size := (by omega); have z8_w7 : w7.heap.size < w8.heap.size := (by omega)))) | (go_at_call 20; refine (Show_any v A n c b _ _ HN.out ((HR0.out.below (by (repeat' first | exact zbR _ _ | assumption | refine zbD ?_ | refine zbA ?_ ?_ _ | refine zbS ?_ ?_ _ | refine zbT ?_ (by assumption) ?_ | (simp; done) | (simp; omega) | omega))).mono (by first | (simp; done) | (simp; omega) | omega))).mono ?_; (first | (rintro e w6 ⟨rfl, hb6⟩; rw [HY1.out, HE1.out]; obtain ⟨hc6, hf6⟩ := bcell hb6; have q6 := hb6.size; (try simp only [World.size_alloc] at q6); have z6p : p < w6.heap.size := (by omega); have z6q : q < w6.heap.size := (by omega); have z6r : r < w6.heap.size := (by omega)) | (rintro e w7 ⟨rfl, hb7⟩; rw [HY2.out, HE2.out]; obtain ⟨hc7, hf7⟩ := bcell hb7; have q7 := hb7.size; (try simp only [World.size_alloc] at q7); have z7p : p < w7.heap.size := (by omega); have z7q : q < w7.heap.size := (by omega); have z7r : r < w7.heap.size := (by omega); have z7_w6 : w6.heap.size < w7.heap.size := (by omega)))) | (go_at_call 21; refine (refTouch_any _ b _ HB.out (by first | exact HM1.out)).mono ?_; (first | (rintro e w9 ⟨rfl, hb9⟩; rw [HO1.out]; obtain ⟨hc9, hf9⟩ := bcell hb9; have q9 := hb9.size; (try simp only [World.size_alloc] at q9); have z9p : p < w9.heap.size := (by omega); have z9q : q < w9.heap.size := (by omega); have z9r : r < w9.heap.size := (by omega); have z9_w6 : w6.heap.size < w9.heap.size := (by omega); have z9_w7 : w7.heap.size < w9.heap.size := (by omega)))) | (go_at_call 16; refine (works_any _).mono ?_; rintro e w3 ⟨rfl, hb3⟩))
  go_ret
  exact ⟨rfl, GB.out.trans ((show Below W0.heap.size W0 _ by (repeat' first | exact zbR _ _ | assumption | refine zbD ?_ | refine zbA ?_ ?_ _ | refine zbS ?_ ?_ _ | refine zbT ?_ (by assumption) ?_ | (simp; done) | (simp; omega) | omega)).mono GB.out.size)⟩

set_option maxRecDepth 100000 in
set_option maxHeartbeats 6400000 in
theorem sureLaw_1t (v : L.Vw) (A : Option Addr) (n c : Nat) (b : L.Bx) (m : L.Mk) (w : World) (hn : v.ss.length = n) (hr : RdS w w.heap.size A v.ss) (h : L.validB v b = true) (hs : L.SureOk v b m 1 0 3) (ht : L.truthB v m = true) :
    Calls Try.prog 3 #[.agg #[.int .i64 v.size, .slice A n c, .int .i64 v.wrong, .int .i64 v.hxl, .int .i64 v.hxh, .int .i64 v.hyl, .int .i64 v.hyh], .agg #[.int .i64 b.l, .int .i64 b.r, .int .i64 b.b, .int .i64 b.t], .agg #[.int .i64 m.x, .int .i64 m.y, .int .i64 m.hx, .int .i64 m.hy]] w fun e w' => e = .returned (.bool true) ∧ Below w.heap.size w w' := by
  have HN := hide hn
  have HR := hide hr
  clear hn hr
  have HV := hide (L.viewB_ok (L.validB_ok h).1)
  have HB := hide (L.boxB_ok (L.validB_ok h).2.1)
  have H := hide h
  obtain ⟨h1, h2, h3, h4, h5, h6, h7, h8, h9⟩ := hs
  have HCV := hide h1
  have HCE := hide h2
  obtain ⟨y1, hy1⟩ : ∃ y, L.showM v b 1 = y := ⟨_, rfl⟩
  obtain ⟨y2, hy2⟩ : ∃ y, L.showM v b 2 = y := ⟨_, rfl⟩
  obtain ⟨tv, htv⟩ : ∃ y, L.touV m b = y := ⟨_, rfl⟩
  obtain ⟨te, hte⟩ : ∃ y, L.touE m b = y := ⟨_, rfl⟩
  rw [hy1] at h8
  rw [hy2] at h9
  rw [htv] at h6 h7
  rw [hte] at h5
  have HY1 := hide hy1
  have HY2 := hide hy2
  have HTV := hide htv
  have HTE := hide hte
  have HE1 := hide h3
  have HE2 := hide h4
  clear h h1 h2 h3 h4 hy1 hy2 htv hte
  have HT := hide ht
  have he := h5 ht
  subst he
  have ho := h6 rfl ht
  subst ho
  obtain ⟨a1, a2, a3⟩ := h8 rfl
  have HT1 := hide a1
  have HO1 := hide a2
  have HM1 := hide a3
  clear a1 a2 a3
  clear h5 h6 h7 h8 h9 ht
  go_enter Try.func3, Try.ntmps3
  go_upto_region 1 with fail
  obtain ⟨W0, hW0⟩ : ∃ W0, ((w.alloc (.cells #[.int .i64 v.size, .slice A n c, .int .i64 v.wrong, .int .i64 v.hxl, .int .i64 v.hxh, .int .i64 v.hyl, .int .i64 v.hyh] 26)).alloc (.cells #[.int .i64 b.l, .int .i64 b.r, .int .i64 b.b, .int .i64 b.t] 28)).alloc (.cells #[.int .i64 m.x, .int .i64 m.y, .int .i64 m.hx, .int .i64 m.hy] 30) = W0 := ⟨_, rfl⟩
  have gp : W0.heap[w.heap.size]? = some (.cells #[.int .i64 v.size, .slice A n c, .int .i64 v.wrong, .int .i64 v.hxl, .int .i64 v.hxh, .int .i64 v.hyl, .int .i64 v.hyh] 26 (0, 0)) := by
    rw [← hW0]; exact (Below.heap_alloc _ _ _ (by first | (simp; done) | (simp; omega) | omega)).trans ((Below.heap_alloc _ _ _ (by first | (simp; done) | (simp; omega) | omega)).trans (World.alloc_heap_new _ _))
  have gq : W0.heap[w.heap.size + 1]? = some (.cells #[.int .i64 b.l, .int .i64 b.r, .int .i64 b.b, .int .i64 b.t] 28 (0, 0)) := by
    rw [← hW0]; exact (Below.heap_alloc _ _ _ (by first | (simp; done) | (simp; omega) | omega)).trans blk_new2
  have gr : W0.heap[w.heap.size + 1 + 1]? = some (.cells #[.int .i64 m.x, .int .i64 m.y, .int .i64 m.hx, .int .i64 m.hy] 30 (0, 0)) := by
    rw [← hW0]; exact blk_new3
  have gs : W0.heap.size = w.heap.size + 1 + 1 + 1 := by rw [← hW0]; simp
  have gB : Below w.heap.size w W0 := by rw [← hW0]; (repeat' first | exact zbR _ _ | assumption | refine zbD ?_ | refine zbA ?_ ?_ _ | refine zbS ?_ ?_ _ | refine zbT ?_ (by assumption) ?_ | (simp; done) | (simp; omega) | omega)
  rw [hW0]
  clear hW0
  obtain ⟨p, hp⟩ : ∃ p, w.heap.size = p := ⟨_, rfl⟩
  obtain ⟨q, hq⟩ : ∃ q, w.heap.size + 1 = q := ⟨_, rfl⟩
  obtain ⟨r, hr⟩ : ∃ r, w.heap.size + 1 + 1 = r := ⟨_, rfl⟩
  rw [hr, hq, hp]
  rw [hp] at gp
  rw [hq] at gq
  rw [hr] at gr
  have lp : p < W0.heap.size := by omega
  have lq : q < W0.heap.size := by omega
  have lr : r < W0.heap.size := by omega
  have HR0 := hide ((HR.out.below gB).mono gB.size)
  have GB := hide gB
  have cp0 := (blk_cell gp 0).trans rfl; have cp1 := (blk_cell gp 1).trans rfl; have cp2 := (blk_cell gp 2).trans rfl; have cp3 := (blk_cell gp 3).trans rfl; have cp4 := (blk_cell gp 4).trans rfl; have cp5 := (blk_cell gp 5).trans rfl; have cp6 := (blk_cell gp 6).trans rfl
  have cq0 := (blk_cell gq 0).trans rfl; have cq1 := (blk_cell gq 1).trans rfl; have cq2 := (blk_cell gq 2).trans rfl; have cq3 := (blk_cell gq 3).trans rfl
  have cr0 := (blk_cell gr 0).trans rfl; have cr1 := (blk_cell gr 1).trans rfl; have cr2 := (blk_cell gr 2).trans rfl; have cr3 := (blk_cell gr 3).trans rfl
  clear gp gq gr gB gs hp hq hr HR
  go_wp2_with (first | (go_at_call 15; refine (valid_any v A n c b _ HN.out ((HR0.out.below (by (repeat' first | exact zbR _ _ | assumption | refine zbD ?_ | refine zbA ?_ ?_ _ | refine zbS ?_ ?_ _ | refine zbT ?_ (by assumption) ?_ | (simp; done) | (simp; omega) | omega))).mono (by first | (simp; done) | (simp; omega) | omega))).mono ?_; rintro e w2 ⟨rfl, hb2⟩; rw [H.out]; obtain ⟨hc2, hf2⟩ := bcell hb2; have q2 := hb2.size; (try simp only [World.size_alloc] at q2); have z2p : p < w2.heap.size := (by omega); have z2q : q < w2.heap.size := (by omega); have z2r : r < w2.heap.size := (by omega)) | (go_at_call 17; refine (Call_any v A n c b _ HN.out ((HR0.out.below (by (repeat' first | exact zbR _ _ | assumption | refine zbD ?_ | refine zbA ?_ ?_ _ | refine zbS ?_ ?_ _ | refine zbT ?_ (by assumption) ?_ | (simp; done) | (simp; omega) | omega))).mono (by first | (simp; done) | (simp; omega) | omega))).mono ?_; rintro e w4 ⟨rfl, hb4⟩; rw [HCV.out, HCE.out]; obtain ⟨hc4, hf4⟩ := bcell hb4; have q4 := hb4.size; (try simp only [World.size_alloc] at q4); have z4p : p < w4.heap.size := (by omega); have z4q : q < w4.heap.size := (by omega); have z4r : r < w4.heap.size := (by omega)) | (go_at_call 19; refine (Touches_any m b _).mono ?_; rintro e w14 ⟨rfl, hb14⟩; rw [HTV.out, HTE.out]; obtain ⟨hc14, hf14⟩ := bcell hb14; have q14 := hb14.size; (try simp only [World.size_alloc] at q14); have z14p : p < w14.heap.size := (by omega); have z14q : q < w14.heap.size := (by omega); have z14r : r < w14.heap.size := (by omega)) | (go_at_call 18; refine (isTruth_any v A n c _ _ HV.out HN.out ((HR0.out.below (by (repeat' first | exact zbR _ _ | assumption | refine zbD ?_ | refine zbA ?_ ?_ _ | refine zbS ?_ ?_ _ | refine zbT ?_ (by assumption) ?_ | (simp; done) | (simp; omega) | omega))).mono (by first | (simp; done) | (simp; omega) | omega))).mono ?_; (first | (rintro e w5 ⟨rfl, hb5⟩; rw [HT.out]; obtain ⟨hc5, hf5⟩ := bcell hb5; have q5 := hb5.size; (try simp only [World.size_alloc] at q5); have z5p : p < w5.heap.size := (by omega); have z5q : q < w5.heap.size := (by omega); have z5r : r < w5.heap.size := (by omega)) | (rintro e w8 ⟨rfl, hb8⟩; rw [HT1.out]; obtain ⟨hc8, hf8⟩ := bcell hb8; have q8 := hb8.size; (try simp only [World.size_alloc] at q8); have z8p : p < w8.heap.size := (by omega); have z8q : q < w8.heap.size := (by omega); have z8r : r < w8.heap.size := (by omega); have z8_w6 : w6.heap.size < w8.heap.size := (by omega); have z8_w7 : w7.heap.size < w8.heap.size := (by omega)))) | (go_at_call 20; refine (Show_any v A n c b _ _ HN.out ((HR0.out.below (by (repeat' first | exact zbR _ _ | assumption | refine zbD ?_ | refine zbA ?_ ?_ _ | refine zbS ?_ ?_ _ | refine zbT ?_ (by assumption) ?_ | (simp; done) | (simp; omega) | omega))).mono (by first | (simp; done) | (simp; omega) | omega))).mono ?_; (first | (rintro e w6 ⟨rfl, hb6⟩; rw [HY1.out, HE1.out]; obtain ⟨hc6, hf6⟩ := bcell hb6; have q6 := hb6.size; (try simp only [World.size_alloc] at q6); have z6p : p < w6.heap.size := (by omega); have z6q : q < w6.heap.size := (by omega); have z6r : r < w6.heap.size := (by omega)) | (rintro e w7 ⟨rfl, hb7⟩; rw [HY2.out, HE2.out]; obtain ⟨hc7, hf7⟩ := bcell hb7; have q7 := hb7.size; (try simp only [World.size_alloc] at q7); have z7p : p < w7.heap.size := (by omega); have z7q : q < w7.heap.size := (by omega); have z7r : r < w7.heap.size := (by omega); have z7_w6 : w6.heap.size < w7.heap.size := (by omega)))) | (go_at_call 21; refine (refTouch_any _ b _ HB.out (by first | exact HM1.out)).mono ?_; (first | (rintro e w9 ⟨rfl, hb9⟩; rw [HO1.out]; obtain ⟨hc9, hf9⟩ := bcell hb9; have q9 := hb9.size; (try simp only [World.size_alloc] at q9); have z9p : p < w9.heap.size := (by omega); have z9q : q < w9.heap.size := (by omega); have z9r : r < w9.heap.size := (by omega); have z9_w6 : w6.heap.size < w9.heap.size := (by omega); have z9_w7 : w7.heap.size < w9.heap.size := (by omega)))) | (go_at_call 16; refine (works_any _).mono ?_; rintro e w3 ⟨rfl, hb3⟩))
  go_ret
  exact ⟨rfl, GB.out.trans ((show Below W0.heap.size W0 _ by (repeat' first | exact zbR _ _ | assumption | refine zbD ?_ | refine zbA ?_ ?_ _ | refine zbS ?_ ?_ _ | refine zbT ?_ (by assumption) ?_ | (simp; done) | (simp; omega) | omega)).mono GB.out.size)⟩

set_option maxRecDepth 100000 in
set_option maxHeartbeats 6400000 in
theorem sureLaw_2f (v : L.Vw) (A : Option Addr) (n c : Nat) (b : L.Bx) (m : L.Mk) (w : World) (hn : v.ss.length = n) (hr : RdS w w.heap.size A v.ss) (h : L.validB v b = true) (hs : L.SureOk v b m 2 3 0) (ht : L.truthB v m = false) :
    Calls Try.prog 3 #[.agg #[.int .i64 v.size, .slice A n c, .int .i64 v.wrong, .int .i64 v.hxl, .int .i64 v.hxh, .int .i64 v.hyl, .int .i64 v.hyh], .agg #[.int .i64 b.l, .int .i64 b.r, .int .i64 b.b, .int .i64 b.t], .agg #[.int .i64 m.x, .int .i64 m.y, .int .i64 m.hx, .int .i64 m.hy]] w fun e w' => e = .returned (.bool true) ∧ Below w.heap.size w w' := by
  have HN := hide hn
  have HR := hide hr
  clear hn hr
  have HV := hide (L.viewB_ok (L.validB_ok h).1)
  have HB := hide (L.boxB_ok (L.validB_ok h).2.1)
  have H := hide h
  obtain ⟨h1, h2, h3, h4, h5, h6, h7, h8, h9⟩ := hs
  have HCV := hide h1
  have HCE := hide h2
  obtain ⟨y1, hy1⟩ : ∃ y, L.showM v b 1 = y := ⟨_, rfl⟩
  obtain ⟨y2, hy2⟩ : ∃ y, L.showM v b 2 = y := ⟨_, rfl⟩
  obtain ⟨tv, htv⟩ : ∃ y, L.touV m b = y := ⟨_, rfl⟩
  obtain ⟨te, hte⟩ : ∃ y, L.touE m b = y := ⟨_, rfl⟩
  rw [hy1] at h8
  rw [hy2] at h9
  rw [htv] at h6 h7
  rw [hte] at h5
  have HY1 := hide hy1
  have HY2 := hide hy2
  have HTV := hide htv
  have HTE := hide hte
  have HE1 := hide h3
  have HE2 := hide h4
  clear h h1 h2 h3 h4 hy1 hy2 htv hte
  have HT := hide ht
  obtain ⟨a1, a2, a3⟩ := h9 rfl
  have HT2 := hide a1
  have HO2 := hide a2
  have HM2 := hide a3
  clear a1 a2 a3
  clear h5 h6 h7 h8 h9 ht
  go_enter Try.func3, Try.ntmps3
  go_upto_region 1 with fail
  obtain ⟨W0, hW0⟩ : ∃ W0, ((w.alloc (.cells #[.int .i64 v.size, .slice A n c, .int .i64 v.wrong, .int .i64 v.hxl, .int .i64 v.hxh, .int .i64 v.hyl, .int .i64 v.hyh] 26)).alloc (.cells #[.int .i64 b.l, .int .i64 b.r, .int .i64 b.b, .int .i64 b.t] 28)).alloc (.cells #[.int .i64 m.x, .int .i64 m.y, .int .i64 m.hx, .int .i64 m.hy] 30) = W0 := ⟨_, rfl⟩
  have gp : W0.heap[w.heap.size]? = some (.cells #[.int .i64 v.size, .slice A n c, .int .i64 v.wrong, .int .i64 v.hxl, .int .i64 v.hxh, .int .i64 v.hyl, .int .i64 v.hyh] 26 (0, 0)) := by
    rw [← hW0]; exact (Below.heap_alloc _ _ _ (by first | (simp; done) | (simp; omega) | omega)).trans ((Below.heap_alloc _ _ _ (by first | (simp; done) | (simp; omega) | omega)).trans (World.alloc_heap_new _ _))
  have gq : W0.heap[w.heap.size + 1]? = some (.cells #[.int .i64 b.l, .int .i64 b.r, .int .i64 b.b, .int .i64 b.t] 28 (0, 0)) := by
    rw [← hW0]; exact (Below.heap_alloc _ _ _ (by first | (simp; done) | (simp; omega) | omega)).trans blk_new2
  have gr : W0.heap[w.heap.size + 1 + 1]? = some (.cells #[.int .i64 m.x, .int .i64 m.y, .int .i64 m.hx, .int .i64 m.hy] 30 (0, 0)) := by
    rw [← hW0]; exact blk_new3
  have gs : W0.heap.size = w.heap.size + 1 + 1 + 1 := by rw [← hW0]; simp
  have gB : Below w.heap.size w W0 := by rw [← hW0]; (repeat' first | exact zbR _ _ | assumption | refine zbD ?_ | refine zbA ?_ ?_ _ | refine zbS ?_ ?_ _ | refine zbT ?_ (by assumption) ?_ | (simp; done) | (simp; omega) | omega)
  rw [hW0]
  clear hW0
  obtain ⟨p, hp⟩ : ∃ p, w.heap.size = p := ⟨_, rfl⟩
  obtain ⟨q, hq⟩ : ∃ q, w.heap.size + 1 = q := ⟨_, rfl⟩
  obtain ⟨r, hr⟩ : ∃ r, w.heap.size + 1 + 1 = r := ⟨_, rfl⟩
  rw [hr, hq, hp]
  rw [hp] at gp
  rw [hq] at gq
  rw [hr] at gr
  have lp : p < W0.heap.size := by omega
  have lq : q < W0.heap.size := by omega
  have lr : r < W0.heap.size := by omega
  have HR0 := hide ((HR.out.below gB).mono gB.size)
  have GB := hide gB
  have cp0 := (blk_cell gp 0).trans rfl; have cp1 := (blk_cell gp 1).trans rfl; have cp2 := (blk_cell gp 2).trans rfl; have cp3 := (blk_cell gp 3).trans rfl; have cp4 := (blk_cell gp 4).trans rfl; have cp5 := (blk_cell gp 5).trans rfl; have cp6 := (blk_cell gp 6).trans rfl
  have cq0 := (blk_cell gq 0).trans rfl; have cq1 := (blk_cell gq 1).trans rfl; have cq2 := (blk_cell gq 2).trans rfl; have cq3 := (blk_cell gq 3).trans rfl
  have cr0 := (blk_cell gr 0).trans rfl; have cr1 := (blk_cell gr 1).trans rfl; have cr2 := (blk_cell gr 2).trans rfl; have cr3 := (blk_cell gr 3).trans rfl
  clear gp gq gr gB gs hp hq hr HR
  go_wp2_with (first | (go_at_call 15; refine (valid_any v A n c b _ HN.out ((HR0.out.below (by (repeat' first | exact zbR _ _ | assumption | refine zbD ?_ | refine zbA ?_ ?_ _ | refine zbS ?_ ?_ _ | refine zbT ?_ (by assumption) ?_ | (simp; done) | (simp; omega) | omega))).mono (by first | (simp; done) | (simp; omega) | omega))).mono ?_; rintro e w2 ⟨rfl, hb2⟩; rw [H.out]; obtain ⟨hc2, hf2⟩ := bcell hb2; have q2 := hb2.size; (try simp only [World.size_alloc] at q2); have z2p : p < w2.heap.size := (by omega); have z2q : q < w2.heap.size := (by omega); have z2r : r < w2.heap.size := (by omega)) | (go_at_call 17; refine (Call_any v A n c b _ HN.out ((HR0.out.below (by (repeat' first | exact zbR _ _ | assumption | refine zbD ?_ | refine zbA ?_ ?_ _ | refine zbS ?_ ?_ _ | refine zbT ?_ (by assumption) ?_ | (simp; done) | (simp; omega) | omega))).mono (by first | (simp; done) | (simp; omega) | omega))).mono ?_; rintro e w4 ⟨rfl, hb4⟩; rw [HCV.out, HCE.out]; obtain ⟨hc4, hf4⟩ := bcell hb4; have q4 := hb4.size; (try simp only [World.size_alloc] at q4); have z4p : p < w4.heap.size := (by omega); have z4q : q < w4.heap.size := (by omega); have z4r : r < w4.heap.size := (by omega)) | (go_at_call 19; refine (Touches_any m b _).mono ?_; rintro e w14 ⟨rfl, hb14⟩; rw [HTV.out, HTE.out]; obtain ⟨hc14, hf14⟩ := bcell hb14; have q14 := hb14.size; (try simp only [World.size_alloc] at q14); have z14p : p < w14.heap.size := (by omega); have z14q : q < w14.heap.size := (by omega); have z14r : r < w14.heap.size := (by omega)) | (go_at_call 18; refine (isTruth_any v A n c _ _ HV.out HN.out ((HR0.out.below (by (repeat' first | exact zbR _ _ | assumption | refine zbD ?_ | refine zbA ?_ ?_ _ | refine zbS ?_ ?_ _ | refine zbT ?_ (by assumption) ?_ | (simp; done) | (simp; omega) | omega))).mono (by first | (simp; done) | (simp; omega) | omega))).mono ?_; (first | (rintro e w5 ⟨rfl, hb5⟩; rw [HT.out]; obtain ⟨hc5, hf5⟩ := bcell hb5; have q5 := hb5.size; (try simp only [World.size_alloc] at q5); have z5p : p < w5.heap.size := (by omega); have z5q : q < w5.heap.size := (by omega); have z5r : r < w5.heap.size := (by omega)) | (rintro e w10 ⟨rfl, hb10⟩; rw [HT2.out]; obtain ⟨hc10, hf10⟩ := bcell hb10; have q10 := hb10.size; (try simp only [World.size_alloc] at q10); have z10p : p < w10.heap.size := (by omega); have z10q : q < w10.heap.size := (by omega); have z10r : r < w10.heap.size := (by omega); have z10_w6 : w6.heap.size < w10.heap.size := (by omega); have z10_w7 : w7.heap.size < w10.heap.size := (by omega)))) | (go_at_call 20; refine (Show_any v A n c b _ _ HN.out ((HR0.out.below (by (repeat' first | exact zbR _ _ | assumption | refine zbD ?_ | refine zbA ?_ ?_ _ | refine zbS ?_ ?_ _ | refine zbT ?_ (by assumption) ?_ | (simp; done) | (simp; omega) | omega))).mono (by first | (simp; done) | (simp; omega) | omega))).mono ?_; (first | (rintro e w6 ⟨rfl, hb6⟩; rw [HY1.out, HE1.out]; obtain ⟨hc6, hf6⟩ := bcell hb6; have q6 := hb6.size; (try simp only [World.size_alloc] at q6); have z6p : p < w6.heap.size := (by omega); have z6q : q < w6.heap.size := (by omega); have z6r : r < w6.heap.size := (by omega)) | (rintro e w7 ⟨rfl, hb7⟩; rw [HY2.out, HE2.out]; obtain ⟨hc7, hf7⟩ := bcell hb7; have q7 := hb7.size; (try simp only [World.size_alloc] at q7); have z7p : p < w7.heap.size := (by omega); have z7q : q < w7.heap.size := (by omega); have z7r : r < w7.heap.size := (by omega); have z7_w6 : w6.heap.size < w7.heap.size := (by omega)))) | (go_at_call 21; refine (refTouch_any _ b _ HB.out (by first | exact HM2.out)).mono ?_; (first | (rintro e w11 ⟨rfl, hb11⟩; rw [HO2.out]; obtain ⟨hc11, hf11⟩ := bcell hb11; have q11 := hb11.size; (try simp only [World.size_alloc] at q11); have z11p : p < w11.heap.size := (by omega); have z11q : q < w11.heap.size := (by omega); have z11r : r < w11.heap.size := (by omega); have z11_w6 : w6.heap.size < w11.heap.size := (by omega); have z11_w7 : w7.heap.size < w11.heap.size := (by omega)))) | (go_at_call 16; refine (works_any _).mono ?_; rintro e w3 ⟨rfl, hb3⟩))
  go_ret
  exact ⟨rfl, GB.out.trans ((show Below W0.heap.size W0 _ by (repeat' first | exact zbR _ _ | assumption | refine zbD ?_ | refine zbA ?_ ?_ _ | refine zbS ?_ ?_ _ | refine zbT ?_ (by assumption) ?_ | (simp; done) | (simp; omega) | omega)).mono GB.out.size)⟩

set_option maxRecDepth 100000 in
set_option maxHeartbeats 6400000 in
theorem sureLaw_2t (v : L.Vw) (A : Option Addr) (n c : Nat) (b : L.Bx) (m : L.Mk) (w : World) (hn : v.ss.length = n) (hr : RdS w w.heap.size A v.ss) (h : L.validB v b = true) (hs : L.SureOk v b m 2 3 0) (ht : L.truthB v m = true) :
    Calls Try.prog 3 #[.agg #[.int .i64 v.size, .slice A n c, .int .i64 v.wrong, .int .i64 v.hxl, .int .i64 v.hxh, .int .i64 v.hyl, .int .i64 v.hyh], .agg #[.int .i64 b.l, .int .i64 b.r, .int .i64 b.b, .int .i64 b.t], .agg #[.int .i64 m.x, .int .i64 m.y, .int .i64 m.hx, .int .i64 m.hy]] w fun e w' => e = .returned (.bool true) ∧ Below w.heap.size w w' := by
  have HN := hide hn
  have HR := hide hr
  clear hn hr
  have HV := hide (L.viewB_ok (L.validB_ok h).1)
  have HB := hide (L.boxB_ok (L.validB_ok h).2.1)
  have H := hide h
  obtain ⟨h1, h2, h3, h4, h5, h6, h7, h8, h9⟩ := hs
  have HCV := hide h1
  have HCE := hide h2
  obtain ⟨y1, hy1⟩ : ∃ y, L.showM v b 1 = y := ⟨_, rfl⟩
  obtain ⟨y2, hy2⟩ : ∃ y, L.showM v b 2 = y := ⟨_, rfl⟩
  obtain ⟨tv, htv⟩ : ∃ y, L.touV m b = y := ⟨_, rfl⟩
  obtain ⟨te, hte⟩ : ∃ y, L.touE m b = y := ⟨_, rfl⟩
  rw [hy1] at h8
  rw [hy2] at h9
  rw [htv] at h6 h7
  rw [hte] at h5
  have HY1 := hide hy1
  have HY2 := hide hy2
  have HTV := hide htv
  have HTE := hide hte
  have HE1 := hide h3
  have HE2 := hide h4
  clear h h1 h2 h3 h4 hy1 hy2 htv hte
  have HT := hide ht
  have he := h5 ht
  subst he
  have ho := h7 rfl ht
  subst ho
  obtain ⟨a1, a2, a3⟩ := h9 rfl
  have HT2 := hide a1
  have HO2 := hide a2
  have HM2 := hide a3
  clear a1 a2 a3
  clear h5 h6 h7 h8 h9 ht
  go_enter Try.func3, Try.ntmps3
  go_upto_region 1 with fail
  obtain ⟨W0, hW0⟩ : ∃ W0, ((w.alloc (.cells #[.int .i64 v.size, .slice A n c, .int .i64 v.wrong, .int .i64 v.hxl, .int .i64 v.hxh, .int .i64 v.hyl, .int .i64 v.hyh] 26)).alloc (.cells #[.int .i64 b.l, .int .i64 b.r, .int .i64 b.b, .int .i64 b.t] 28)).alloc (.cells #[.int .i64 m.x, .int .i64 m.y, .int .i64 m.hx, .int .i64 m.hy] 30) = W0 := ⟨_, rfl⟩
  have gp : W0.heap[w.heap.size]? = some (.cells #[.int .i64 v.size, .slice A n c, .int .i64 v.wrong, .int .i64 v.hxl, .int .i64 v.hxh, .int .i64 v.hyl, .int .i64 v.hyh] 26 (0, 0)) := by
    rw [← hW0]; exact (Below.heap_alloc _ _ _ (by first | (simp; done) | (simp; omega) | omega)).trans ((Below.heap_alloc _ _ _ (by first | (simp; done) | (simp; omega) | omega)).trans (World.alloc_heap_new _ _))
  have gq : W0.heap[w.heap.size + 1]? = some (.cells #[.int .i64 b.l, .int .i64 b.r, .int .i64 b.b, .int .i64 b.t] 28 (0, 0)) := by
    rw [← hW0]; exact (Below.heap_alloc _ _ _ (by first | (simp; done) | (simp; omega) | omega)).trans blk_new2
  have gr : W0.heap[w.heap.size + 1 + 1]? = some (.cells #[.int .i64 m.x, .int .i64 m.y, .int .i64 m.hx, .int .i64 m.hy] 30 (0, 0)) := by
    rw [← hW0]; exact blk_new3
  have gs : W0.heap.size = w.heap.size + 1 + 1 + 1 := by rw [← hW0]; simp
  have gB : Below w.heap.size w W0 := by rw [← hW0]; (repeat' first | exact zbR _ _ | assumption | refine zbD ?_ | refine zbA ?_ ?_ _ | refine zbS ?_ ?_ _ | refine zbT ?_ (by assumption) ?_ | (simp; done) | (simp; omega) | omega)
  rw [hW0]
  clear hW0
  obtain ⟨p, hp⟩ : ∃ p, w.heap.size = p := ⟨_, rfl⟩
  obtain ⟨q, hq⟩ : ∃ q, w.heap.size + 1 = q := ⟨_, rfl⟩
  obtain ⟨r, hr⟩ : ∃ r, w.heap.size + 1 + 1 = r := ⟨_, rfl⟩
  rw [hr, hq, hp]
  rw [hp] at gp
  rw [hq] at gq
  rw [hr] at gr
  have lp : p < W0.heap.size := by omega
  have lq : q < W0.heap.size := by omega
  have lr : r < W0.heap.size := by omega
  have HR0 := hide ((HR.out.below gB).mono gB.size)
  have GB := hide gB
  have cp0 := (blk_cell gp 0).trans rfl; have cp1 := (blk_cell gp 1).trans rfl; have cp2 := (blk_cell gp 2).trans rfl; have cp3 := (blk_cell gp 3).trans rfl; have cp4 := (blk_cell gp 4).trans rfl; have cp5 := (blk_cell gp 5).trans rfl; have cp6 := (blk_cell gp 6).trans rfl
  have cq0 := (blk_cell gq 0).trans rfl; have cq1 := (blk_cell gq 1).trans rfl; have cq2 := (blk_cell gq 2).trans rfl; have cq3 := (blk_cell gq 3).trans rfl
  have cr0 := (blk_cell gr 0).trans rfl; have cr1 := (blk_cell gr 1).trans rfl; have cr2 := (blk_cell gr 2).trans rfl; have cr3 := (blk_cell gr 3).trans rfl
  clear gp gq gr gB gs hp hq hr HR
  go_wp2_with (first | (go_at_call 15; refine (valid_any v A n c b _ HN.out ((HR0.out.below (by (repeat' first | exact zbR _ _ | assumption | refine zbD ?_ | refine zbA ?_ ?_ _ | refine zbS ?_ ?_ _ | refine zbT ?_ (by assumption) ?_ | (simp; done) | (simp; omega) | omega))).mono (by first | (simp; done) | (simp; omega) | omega))).mono ?_; rintro e w2 ⟨rfl, hb2⟩; rw [H.out]; obtain ⟨hc2, hf2⟩ := bcell hb2; have q2 := hb2.size; (try simp only [World.size_alloc] at q2); have z2p : p < w2.heap.size := (by omega); have z2q : q < w2.heap.size := (by omega); have z2r : r < w2.heap.size := (by omega)) | (go_at_call 17; refine (Call_any v A n c b _ HN.out ((HR0.out.below (by (repeat' first | exact zbR _ _ | assumption | refine zbD ?_ | refine zbA ?_ ?_ _ | refine zbS ?_ ?_ _ | refine zbT ?_ (by assumption) ?_ | (simp; done) | (simp; omega) | omega))).mono (by first | (simp; done) | (simp; omega) | omega))).mono ?_; rintro e w4 ⟨rfl, hb4⟩; rw [HCV.out, HCE.out]; obtain ⟨hc4, hf4⟩ := bcell hb4; have q4 := hb4.size; (try simp only [World.size_alloc] at q4); have z4p : p < w4.heap.size := (by omega); have z4q : q < w4.heap.size := (by omega); have z4r : r < w4.heap.size := (by omega)) | (go_at_call 19; refine (Touches_any m b _).mono ?_; rintro e w14 ⟨rfl, hb14⟩; rw [HTV.out, HTE.out]; obtain ⟨hc14, hf14⟩ := bcell hb14; have q14 := hb14.size; (try simp only [World.size_alloc] at q14); have z14p : p < w14.heap.size := (by omega); have z14q : q < w14.heap.size := (by omega); have z14r : r < w14.heap.size := (by omega)) | (go_at_call 18; refine (isTruth_any v A n c _ _ HV.out HN.out ((HR0.out.below (by (repeat' first | exact zbR _ _ | assumption | refine zbD ?_ | refine zbA ?_ ?_ _ | refine zbS ?_ ?_ _ | refine zbT ?_ (by assumption) ?_ | (simp; done) | (simp; omega) | omega))).mono (by first | (simp; done) | (simp; omega) | omega))).mono ?_; (first | (rintro e w5 ⟨rfl, hb5⟩; rw [HT.out]; obtain ⟨hc5, hf5⟩ := bcell hb5; have q5 := hb5.size; (try simp only [World.size_alloc] at q5); have z5p : p < w5.heap.size := (by omega); have z5q : q < w5.heap.size := (by omega); have z5r : r < w5.heap.size := (by omega)) | (rintro e w10 ⟨rfl, hb10⟩; rw [HT2.out]; obtain ⟨hc10, hf10⟩ := bcell hb10; have q10 := hb10.size; (try simp only [World.size_alloc] at q10); have z10p : p < w10.heap.size := (by omega); have z10q : q < w10.heap.size := (by omega); have z10r : r < w10.heap.size := (by omega); have z10_w6 : w6.heap.size < w10.heap.size := (by omega); have z10_w7 : w7.heap.size < w10.heap.size := (by omega)))) | (go_at_call 20; refine (Show_any v A n c b _ _ HN.out ((HR0.out.below (by (repeat' first | exact zbR _ _ | assumption | refine zbD ?_ | refine zbA ?_ ?_ _ | refine zbS ?_ ?_ _ | refine zbT ?_ (by assumption) ?_ | (simp; done) | (simp; omega) | omega))).mono (by first | (simp; done) | (simp; omega) | omega))).mono ?_; (first | (rintro e w6 ⟨rfl, hb6⟩; rw [HY1.out, HE1.out]; obtain ⟨hc6, hf6⟩ := bcell hb6; have q6 := hb6.size; (try simp only [World.size_alloc] at q6); have z6p : p < w6.heap.size := (by omega); have z6q : q < w6.heap.size := (by omega); have z6r : r < w6.heap.size := (by omega)) | (rintro e w7 ⟨rfl, hb7⟩; rw [HY2.out, HE2.out]; obtain ⟨hc7, hf7⟩ := bcell hb7; have q7 := hb7.size; (try simp only [World.size_alloc] at q7); have z7p : p < w7.heap.size := (by omega); have z7q : q < w7.heap.size := (by omega); have z7r : r < w7.heap.size := (by omega); have z7_w6 : w6.heap.size < w7.heap.size := (by omega)))) | (go_at_call 21; refine (refTouch_any _ b _ HB.out (by first | exact HM2.out)).mono ?_; (first | (rintro e w11 ⟨rfl, hb11⟩; rw [HO2.out]; obtain ⟨hc11, hf11⟩ := bcell hb11; have q11 := hb11.size; (try simp only [World.size_alloc] at q11); have z11p : p < w11.heap.size := (by omega); have z11q : q < w11.heap.size := (by omega); have z11r : r < w11.heap.size := (by omega); have z11_w6 : w6.heap.size < w11.heap.size := (by omega); have z11_w7 : w7.heap.size < w11.heap.size := (by omega)))) | (go_at_call 16; refine (works_any _).mono ?_; rintro e w3 ⟨rfl, hb3⟩))
  go_ret
  exact ⟨rfl, GB.out.trans ((show Below W0.heap.size W0 _ by (repeat' first | exact zbR _ _ | assumption | refine zbD ?_ | refine zbA ?_ ?_ _ | refine zbS ?_ ?_ _ | refine zbT ?_ (by assumption) ?_ | (simp; done) | (simp; omega) | omega)).mono GB.out.size)⟩

set_option maxRecDepth 100000 in
set_option maxHeartbeats 6400000 in
theorem sureLaw_3f (v : L.Vw) (A : Option Addr) (n c : Nat) (b : L.Bx) (m : L.Mk) (w : World) (hn : v.ss.length = n) (hr : RdS w w.heap.size A v.ss) (h : L.validB v b = true) (hs : L.SureOk v b m 3 0 0) (ht : L.truthB v m = false) :
    Calls Try.prog 3 #[.agg #[.int .i64 v.size, .slice A n c, .int .i64 v.wrong, .int .i64 v.hxl, .int .i64 v.hxh, .int .i64 v.hyl, .int .i64 v.hyh], .agg #[.int .i64 b.l, .int .i64 b.r, .int .i64 b.b, .int .i64 b.t], .agg #[.int .i64 m.x, .int .i64 m.y, .int .i64 m.hx, .int .i64 m.hy]] w fun e w' => e = .returned (.bool true) ∧ Below w.heap.size w w' := by
  have HN := hide hn
  have HR := hide hr
  clear hn hr
  have HV := hide (L.viewB_ok (L.validB_ok h).1)
  have HB := hide (L.boxB_ok (L.validB_ok h).2.1)
  have H := hide h
  obtain ⟨h1, h2, h3, h4, h5, h6, h7, h8, h9⟩ := hs
  have HCV := hide h1
  have HCE := hide h2
  obtain ⟨y1, hy1⟩ : ∃ y, L.showM v b 1 = y := ⟨_, rfl⟩
  obtain ⟨y2, hy2⟩ : ∃ y, L.showM v b 2 = y := ⟨_, rfl⟩
  obtain ⟨tv, htv⟩ : ∃ y, L.touV m b = y := ⟨_, rfl⟩
  obtain ⟨te, hte⟩ : ∃ y, L.touE m b = y := ⟨_, rfl⟩
  rw [hy1] at h8
  rw [hy2] at h9
  rw [htv] at h6 h7
  rw [hte] at h5
  have HY1 := hide hy1
  have HY2 := hide hy2
  have HTV := hide htv
  have HTE := hide hte
  have HE1 := hide h3
  have HE2 := hide h4
  clear h h1 h2 h3 h4 hy1 hy2 htv hte
  have HT := hide ht
  obtain ⟨a1, a2, a3⟩ := h8 rfl
  have HT1 := hide a1
  have HO1 := hide a2
  have HM1 := hide a3
  clear a1 a2 a3
  obtain ⟨a1, a2, a3⟩ := h9 rfl
  have HT2 := hide a1
  have HO2 := hide a2
  have HM2 := hide a3
  clear a1 a2 a3
  clear h5 h6 h7 h8 h9 ht
  go_enter Try.func3, Try.ntmps3
  go_upto_region 1 with fail
  obtain ⟨W0, hW0⟩ : ∃ W0, ((w.alloc (.cells #[.int .i64 v.size, .slice A n c, .int .i64 v.wrong, .int .i64 v.hxl, .int .i64 v.hxh, .int .i64 v.hyl, .int .i64 v.hyh] 26)).alloc (.cells #[.int .i64 b.l, .int .i64 b.r, .int .i64 b.b, .int .i64 b.t] 28)).alloc (.cells #[.int .i64 m.x, .int .i64 m.y, .int .i64 m.hx, .int .i64 m.hy] 30) = W0 := ⟨_, rfl⟩
  have gp : W0.heap[w.heap.size]? = some (.cells #[.int .i64 v.size, .slice A n c, .int .i64 v.wrong, .int .i64 v.hxl, .int .i64 v.hxh, .int .i64 v.hyl, .int .i64 v.hyh] 26 (0, 0)) := by
    rw [← hW0]; exact (Below.heap_alloc _ _ _ (by first | (simp; done) | (simp; omega) | omega)).trans ((Below.heap_alloc _ _ _ (by first | (simp; done) | (simp; omega) | omega)).trans (World.alloc_heap_new _ _))
  have gq : W0.heap[w.heap.size + 1]? = some (.cells #[.int .i64 b.l, .int .i64 b.r, .int .i64 b.b, .int .i64 b.t] 28 (0, 0)) := by
    rw [← hW0]; exact (Below.heap_alloc _ _ _ (by first | (simp; done) | (simp; omega) | omega)).trans blk_new2
  have gr : W0.heap[w.heap.size + 1 + 1]? = some (.cells #[.int .i64 m.x, .int .i64 m.y, .int .i64 m.hx, .int .i64 m.hy] 30 (0, 0)) := by
    rw [← hW0]; exact blk_new3
  have gs : W0.heap.size = w.heap.size + 1 + 1 + 1 := by rw [← hW0]; simp
  have gB : Below w.heap.size w W0 := by rw [← hW0]; (repeat' first | exact zbR _ _ | assumption | refine zbD ?_ | refine zbA ?_ ?_ _ | refine zbS ?_ ?_ _ | refine zbT ?_ (by assumption) ?_ | (simp; done) | (simp; omega) | omega)
  rw [hW0]
  clear hW0
  obtain ⟨p, hp⟩ : ∃ p, w.heap.size = p := ⟨_, rfl⟩
  obtain ⟨q, hq⟩ : ∃ q, w.heap.size + 1 = q := ⟨_, rfl⟩
  obtain ⟨r, hr⟩ : ∃ r, w.heap.size + 1 + 1 = r := ⟨_, rfl⟩
  rw [hr, hq, hp]
  rw [hp] at gp
  rw [hq] at gq
  rw [hr] at gr
  have lp : p < W0.heap.size := by omega
  have lq : q < W0.heap.size := by omega
  have lr : r < W0.heap.size := by omega
  have HR0 := hide ((HR.out.below gB).mono gB.size)
  have GB := hide gB
  have cp0 := (blk_cell gp 0).trans rfl; have cp1 := (blk_cell gp 1).trans rfl; have cp2 := (blk_cell gp 2).trans rfl; have cp3 := (blk_cell gp 3).trans rfl; have cp4 := (blk_cell gp 4).trans rfl; have cp5 := (blk_cell gp 5).trans rfl; have cp6 := (blk_cell gp 6).trans rfl
  have cq0 := (blk_cell gq 0).trans rfl; have cq1 := (blk_cell gq 1).trans rfl; have cq2 := (blk_cell gq 2).trans rfl; have cq3 := (blk_cell gq 3).trans rfl
  have cr0 := (blk_cell gr 0).trans rfl; have cr1 := (blk_cell gr 1).trans rfl; have cr2 := (blk_cell gr 2).trans rfl; have cr3 := (blk_cell gr 3).trans rfl
  clear gp gq gr gB gs hp hq hr HR
  go_wp2_with (first | (go_at_call 15; refine (valid_any v A n c b _ HN.out ((HR0.out.below (by (repeat' first | exact zbR _ _ | assumption | refine zbD ?_ | refine zbA ?_ ?_ _ | refine zbS ?_ ?_ _ | refine zbT ?_ (by assumption) ?_ | (simp; done) | (simp; omega) | omega))).mono (by first | (simp; done) | (simp; omega) | omega))).mono ?_; rintro e w2 ⟨rfl, hb2⟩; rw [H.out]; obtain ⟨hc2, hf2⟩ := bcell hb2; have q2 := hb2.size; (try simp only [World.size_alloc] at q2); have z2p : p < w2.heap.size := (by omega); have z2q : q < w2.heap.size := (by omega); have z2r : r < w2.heap.size := (by omega)) | (go_at_call 17; refine (Call_any v A n c b _ HN.out ((HR0.out.below (by (repeat' first | exact zbR _ _ | assumption | refine zbD ?_ | refine zbA ?_ ?_ _ | refine zbS ?_ ?_ _ | refine zbT ?_ (by assumption) ?_ | (simp; done) | (simp; omega) | omega))).mono (by first | (simp; done) | (simp; omega) | omega))).mono ?_; rintro e w4 ⟨rfl, hb4⟩; rw [HCV.out, HCE.out]; obtain ⟨hc4, hf4⟩ := bcell hb4; have q4 := hb4.size; (try simp only [World.size_alloc] at q4); have z4p : p < w4.heap.size := (by omega); have z4q : q < w4.heap.size := (by omega); have z4r : r < w4.heap.size := (by omega)) | (go_at_call 19; refine (Touches_any m b _).mono ?_; rintro e w14 ⟨rfl, hb14⟩; rw [HTV.out, HTE.out]; obtain ⟨hc14, hf14⟩ := bcell hb14; have q14 := hb14.size; (try simp only [World.size_alloc] at q14); have z14p : p < w14.heap.size := (by omega); have z14q : q < w14.heap.size := (by omega); have z14r : r < w14.heap.size := (by omega)) | (go_at_call 18; refine (isTruth_any v A n c _ _ HV.out HN.out ((HR0.out.below (by (repeat' first | exact zbR _ _ | assumption | refine zbD ?_ | refine zbA ?_ ?_ _ | refine zbS ?_ ?_ _ | refine zbT ?_ (by assumption) ?_ | (simp; done) | (simp; omega) | omega))).mono (by first | (simp; done) | (simp; omega) | omega))).mono ?_; (first | (rintro e w5 ⟨rfl, hb5⟩; rw [HT.out]; obtain ⟨hc5, hf5⟩ := bcell hb5; have q5 := hb5.size; (try simp only [World.size_alloc] at q5); have z5p : p < w5.heap.size := (by omega); have z5q : q < w5.heap.size := (by omega); have z5r : r < w5.heap.size := (by omega)) | (rintro e w8 ⟨rfl, hb8⟩; rw [HT1.out]; obtain ⟨hc8, hf8⟩ := bcell hb8; have q8 := hb8.size; (try simp only [World.size_alloc] at q8); have z8p : p < w8.heap.size := (by omega); have z8q : q < w8.heap.size := (by omega); have z8r : r < w8.heap.size := (by omega); have z8_w6 : w6.heap.size < w8.heap.size := (by omega); have z8_w7 : w7.heap.size < w8.heap.size := (by omega)) | (rintro e w10 ⟨rfl, hb10⟩; rw [HT2.out]; obtain ⟨hc10, hf10⟩ := bcell hb10; have q10 := hb10.size; (try simp only [World.size_alloc] at q10); have z10p : p < w10.heap.size := (by omega); have z10q : q < w10.heap.size := (by omega); have z10r : r < w10.heap.size := (by omega); have z10_w6 : w6.heap.size < w10.heap.size := (by omega); have z10_w7 : w7.heap.size < w10.heap.size := (by omega)))) | (go_at_call 20; refine (Show_any v A n c b _ _ HN.out ((HR0.out.below (by (repeat' first | exact zbR _ _ | assumption | refine zbD ?_ | refine zbA ?_ ?_ _ | refine zbS ?_ ?_ _ | refine zbT ?_ (by assumption) ?_ | (simp; done) | (simp; omega) | omega))).mono (by first | (simp; done) | (simp; omega) | omega))).mono ?_; (first | (rintro e w6 ⟨rfl, hb6⟩; rw [HY1.out, HE1.out]; obtain ⟨hc6, hf6⟩ := bcell hb6; have q6 := hb6.size; (try simp only [World.size_alloc] at q6); have z6p : p < w6.heap.size := (by omega); have z6q : q < w6.heap.size := (by omega); have z6r : r < w6.heap.size := (by omega)) | (rintro e w7 ⟨rfl, hb7⟩; rw [HY2.out, HE2.out]; obtain ⟨hc7, hf7⟩ := bcell hb7; have q7 := hb7.size; (try simp only [World.size_alloc] at q7); have z7p : p < w7.heap.size := (by omega); have z7q : q < w7.heap.size := (by omega); have z7r : r < w7.heap.size := (by omega); have z7_w6 : w6.heap.size < w7.heap.size := (by omega)))) | (go_at_call 21; refine (refTouch_any _ b _ HB.out (by first | exact HM1.out | exact HM2.out)).mono ?_; (first | (rintro e w9 ⟨rfl, hb9⟩; rw [HO1.out]; obtain ⟨hc9, hf9⟩ := bcell hb9; have q9 := hb9.size; (try simp only [World.size_alloc] at q9); have z9p : p < w9.heap.size := (by omega); have z9q : q < w9.heap.size := (by omega); have z9r : r < w9.heap.size := (by omega); have z9_w6 : w6.heap.size < w9.heap.size := (by omega); have z9_w7 : w7.heap.size < w9.heap.size := (by omega)) | (rintro e w11 ⟨rfl, hb11⟩; rw [HO2.out]; obtain ⟨hc11, hf11⟩ := bcell hb11; have q11 := hb11.size; (try simp only [World.size_alloc] at q11); have z11p : p < w11.heap.size := (by omega); have z11q : q < w11.heap.size := (by omega); have z11r : r < w11.heap.size := (by omega); have z11_w6 : w6.heap.size < w11.heap.size := (by omega); have z11_w7 : w7.heap.size < w11.heap.size := (by omega)))) | (go_at_call 16; refine (works_any _).mono ?_; rintro e w3 ⟨rfl, hb3⟩))
  go_ret
  exact ⟨rfl, GB.out.trans ((show Below W0.heap.size W0 _ by (repeat' first | exact zbR _ _ | assumption | refine zbD ?_ | refine zbA ?_ ?_ _ | refine zbS ?_ ?_ _ | refine zbT ?_ (by assumption) ?_ | (simp; done) | (simp; omega) | omega)).mono GB.out.size)⟩

set_option maxRecDepth 100000 in
set_option maxHeartbeats 6400000 in
theorem sureLaw_3t (v : L.Vw) (A : Option Addr) (n c : Nat) (b : L.Bx) (m : L.Mk) (w : World) (hn : v.ss.length = n) (hr : RdS w w.heap.size A v.ss) (h : L.validB v b = true) (hs : L.SureOk v b m 3 0 0) (ht : L.truthB v m = true) :
    Calls Try.prog 3 #[.agg #[.int .i64 v.size, .slice A n c, .int .i64 v.wrong, .int .i64 v.hxl, .int .i64 v.hxh, .int .i64 v.hyl, .int .i64 v.hyh], .agg #[.int .i64 b.l, .int .i64 b.r, .int .i64 b.b, .int .i64 b.t], .agg #[.int .i64 m.x, .int .i64 m.y, .int .i64 m.hx, .int .i64 m.hy]] w fun e w' => e = .returned (.bool true) ∧ Below w.heap.size w w' := by
  have HN := hide hn
  have HR := hide hr
  clear hn hr
  have HV := hide (L.viewB_ok (L.validB_ok h).1)
  have HB := hide (L.boxB_ok (L.validB_ok h).2.1)
  have H := hide h
  obtain ⟨h1, h2, h3, h4, h5, h6, h7, h8, h9⟩ := hs
  have HCV := hide h1
  have HCE := hide h2
  obtain ⟨y1, hy1⟩ : ∃ y, L.showM v b 1 = y := ⟨_, rfl⟩
  obtain ⟨y2, hy2⟩ : ∃ y, L.showM v b 2 = y := ⟨_, rfl⟩
  obtain ⟨tv, htv⟩ : ∃ y, L.touV m b = y := ⟨_, rfl⟩
  obtain ⟨te, hte⟩ : ∃ y, L.touE m b = y := ⟨_, rfl⟩
  rw [hy1] at h8
  rw [hy2] at h9
  rw [htv] at h6 h7
  rw [hte] at h5
  have HY1 := hide hy1
  have HY2 := hide hy2
  have HTV := hide htv
  have HTE := hide hte
  have HE1 := hide h3
  have HE2 := hide h4
  clear h h1 h2 h3 h4 hy1 hy2 htv hte
  have HT := hide ht
  have he := h5 ht
  subst he
  obtain ⟨a1, a2, a3⟩ := h8 rfl
  have HT1 := hide a1
  have HO1 := hide a2
  have HM1 := hide a3
  clear a1 a2 a3
  obtain ⟨a1, a2, a3⟩ := h9 rfl
  have HT2 := hide a1
  have HO2 := hide a2
  have HM2 := hide a3
  clear a1 a2 a3
  clear h5 h6 h7 h8 h9 ht
  go_enter Try.func3, Try.ntmps3
  go_upto_region 1 with fail
  obtain ⟨W0, hW0⟩ : ∃ W0, ((w.alloc (.cells #[.int .i64 v.size, .slice A n c, .int .i64 v.wrong, .int .i64 v.hxl, .int .i64 v.hxh, .int .i64 v.hyl, .int .i64 v.hyh] 26)).alloc (.cells #[.int .i64 b.l, .int .i64 b.r, .int .i64 b.b, .int .i64 b.t] 28)).alloc (.cells #[.int .i64 m.x, .int .i64 m.y, .int .i64 m.hx, .int .i64 m.hy] 30) = W0 := ⟨_, rfl⟩
  have gp : W0.heap[w.heap.size]? = some (.cells #[.int .i64 v.size, .slice A n c, .int .i64 v.wrong, .int .i64 v.hxl, .int .i64 v.hxh, .int .i64 v.hyl, .int .i64 v.hyh] 26 (0, 0)) := by
    rw [← hW0]; exact (Below.heap_alloc _ _ _ (by first | (simp; done) | (simp; omega) | omega)).trans ((Below.heap_alloc _ _ _ (by first | (simp; done) | (simp; omega) | omega)).trans (World.alloc_heap_new _ _))
  have gq : W0.heap[w.heap.size + 1]? = some (.cells #[.int .i64 b.l, .int .i64 b.r, .int .i64 b.b, .int .i64 b.t] 28 (0, 0)) := by
    rw [← hW0]; exact (Below.heap_alloc _ _ _ (by first | (simp; done) | (simp; omega) | omega)).trans blk_new2
  have gr : W0.heap[w.heap.size + 1 + 1]? = some (.cells #[.int .i64 m.x, .int .i64 m.y, .int .i64 m.hx, .int .i64 m.hy] 30 (0, 0)) := by
    rw [← hW0]; exact blk_new3
  have gs : W0.heap.size = w.heap.size + 1 + 1 + 1 := by rw [← hW0]; simp
  have gB : Below w.heap.size w W0 := by rw [← hW0]; (repeat' first | exact zbR _ _ | assumption | refine zbD ?_ | refine zbA ?_ ?_ _ | refine zbS ?_ ?_ _ | refine zbT ?_ (by assumption) ?_ | (simp; done) | (simp; omega) | omega)
  rw [hW0]
  clear hW0
  obtain ⟨p, hp⟩ : ∃ p, w.heap.size = p := ⟨_, rfl⟩
  obtain ⟨q, hq⟩ : ∃ q, w.heap.size + 1 = q := ⟨_, rfl⟩
  obtain ⟨r, hr⟩ : ∃ r, w.heap.size + 1 + 1 = r := ⟨_, rfl⟩
  rw [hr, hq, hp]
  rw [hp] at gp
  rw [hq] at gq
  rw [hr] at gr
  have lp : p < W0.heap.size := by omega
  have lq : q < W0.heap.size := by omega
  have lr : r < W0.heap.size := by omega
  have HR0 := hide ((HR.out.below gB).mono gB.size)
  have GB := hide gB
  have cp0 := (blk_cell gp 0).trans rfl; have cp1 := (blk_cell gp 1).trans rfl; have cp2 := (blk_cell gp 2).trans rfl; have cp3 := (blk_cell gp 3).trans rfl; have cp4 := (blk_cell gp 4).trans rfl; have cp5 := (blk_cell gp 5).trans rfl; have cp6 := (blk_cell gp 6).trans rfl
  have cq0 := (blk_cell gq 0).trans rfl; have cq1 := (blk_cell gq 1).trans rfl; have cq2 := (blk_cell gq 2).trans rfl; have cq3 := (blk_cell gq 3).trans rfl
  have cr0 := (blk_cell gr 0).trans rfl; have cr1 := (blk_cell gr 1).trans rfl; have cr2 := (blk_cell gr 2).trans rfl; have cr3 := (blk_cell gr 3).trans rfl
  clear gp gq gr gB gs hp hq hr HR
  go_wp2_with (first | (go_at_call 15; refine (valid_any v A n c b _ HN.out ((HR0.out.below (by (repeat' first | exact zbR _ _ | assumption | refine zbD ?_ | refine zbA ?_ ?_ _ | refine zbS ?_ ?_ _ | refine zbT ?_ (by assumption) ?_ | (simp; done) | (simp; omega) | omega))).mono (by first | (simp; done) | (simp; omega) | omega))).mono ?_; rintro e w2 ⟨rfl, hb2⟩; rw [H.out]; obtain ⟨hc2, hf2⟩ := bcell hb2; have q2 := hb2.size; (try simp only [World.size_alloc] at q2); have z2p : p < w2.heap.size := (by omega); have z2q : q < w2.heap.size := (by omega); have z2r : r < w2.heap.size := (by omega)) | (go_at_call 17; refine (Call_any v A n c b _ HN.out ((HR0.out.below (by (repeat' first | exact zbR _ _ | assumption | refine zbD ?_ | refine zbA ?_ ?_ _ | refine zbS ?_ ?_ _ | refine zbT ?_ (by assumption) ?_ | (simp; done) | (simp; omega) | omega))).mono (by first | (simp; done) | (simp; omega) | omega))).mono ?_; rintro e w4 ⟨rfl, hb4⟩; rw [HCV.out, HCE.out]; obtain ⟨hc4, hf4⟩ := bcell hb4; have q4 := hb4.size; (try simp only [World.size_alloc] at q4); have z4p : p < w4.heap.size := (by omega); have z4q : q < w4.heap.size := (by omega); have z4r : r < w4.heap.size := (by omega)) | (go_at_call 19; refine (Touches_any m b _).mono ?_; rintro e w14 ⟨rfl, hb14⟩; rw [HTV.out, HTE.out]; obtain ⟨hc14, hf14⟩ := bcell hb14; have q14 := hb14.size; (try simp only [World.size_alloc] at q14); have z14p : p < w14.heap.size := (by omega); have z14q : q < w14.heap.size := (by omega); have z14r : r < w14.heap.size := (by omega)) | (go_at_call 18; refine (isTruth_any v A n c _ _ HV.out HN.out ((HR0.out.below (by (repeat' first | exact zbR _ _ | assumption | refine zbD ?_ | refine zbA ?_ ?_ _ | refine zbS ?_ ?_ _ | refine zbT ?_ (by assumption) ?_ | (simp; done) | (simp; omega) | omega))).mono (by first | (simp; done) | (simp; omega) | omega))).mono ?_; (first | (rintro e w5 ⟨rfl, hb5⟩; rw [HT.out]; obtain ⟨hc5, hf5⟩ := bcell hb5; have q5 := hb5.size; (try simp only [World.size_alloc] at q5); have z5p : p < w5.heap.size := (by omega); have z5q : q < w5.heap.size := (by omega); have z5r : r < w5.heap.size := (by omega)) | (rintro e w8 ⟨rfl, hb8⟩; rw [HT1.out]; obtain ⟨hc8, hf8⟩ := bcell hb8; have q8 := hb8.size; (try simp only [World.size_alloc] at q8); have z8p : p < w8.heap.size := (by omega); have z8q : q < w8.heap.size := (by omega); have z8r : r < w8.heap.size := (by omega); have z8_w6 : w6.heap.size < w8.heap.size := (by omega); have z8_w7 : w7.heap.size < w8.heap.size := (by omega)) | (rintro e w10 ⟨rfl, hb10⟩; rw [HT2.out]; obtain ⟨hc10, hf10⟩ := bcell hb10; have q10 := hb10.size; (try simp only [World.size_alloc] at q10); have z10p : p < w10.heap.size := (by omega); have z10q : q < w10.heap.size := (by omega); have z10r : r < w10.heap.size := (by omega); have z10_w6 : w6.heap.size < w10.heap.size := (by omega); have z10_w7 : w7.heap.size < w10.heap.size := (by omega)))) | (go_at_call 20; refine (Show_any v A n c b _ _ HN.out ((HR0.out.below (by (repeat' first | exact zbR _ _ | assumption | refine zbD ?_ | refine zbA ?_ ?_ _ | refine zbS ?_ ?_ _ | refine zbT ?_ (by assumption) ?_ | (simp; done) | (simp; omega) | omega))).mono (by first | (simp; done) | (simp; omega) | omega))).mono ?_; (first | (rintro e w6 ⟨rfl, hb6⟩; rw [HY1.out, HE1.out]; obtain ⟨hc6, hf6⟩ := bcell hb6; have q6 := hb6.size; (try simp only [World.size_alloc] at q6); have z6p : p < w6.heap.size := (by omega); have z6q : q < w6.heap.size := (by omega); have z6r : r < w6.heap.size := (by omega)) | (rintro e w7 ⟨rfl, hb7⟩; rw [HY2.out, HE2.out]; obtain ⟨hc7, hf7⟩ := bcell hb7; have q7 := hb7.size; (try simp only [World.size_alloc] at q7); have z7p : p < w7.heap.size := (by omega); have z7q : q < w7.heap.size := (by omega); have z7r : r < w7.heap.size := (by omega); have z7_w6 : w6.heap.size < w7.heap.size := (by omega)))) | (go_at_call 21; refine (refTouch_any _ b _ HB.out (by first | exact HM1.out | exact HM2.out)).mono ?_; (first | (rintro e w9 ⟨rfl, hb9⟩; rw [HO1.out]; obtain ⟨hc9, hf9⟩ := bcell hb9; have q9 := hb9.size; (try simp only [World.size_alloc] at q9); have z9p : p < w9.heap.size := (by omega); have z9q : q < w9.heap.size := (by omega); have z9r : r < w9.heap.size := (by omega); have z9_w6 : w6.heap.size < w9.heap.size := (by omega); have z9_w7 : w7.heap.size < w9.heap.size := (by omega)) | (rintro e w11 ⟨rfl, hb11⟩; rw [HO2.out]; obtain ⟨hc11, hf11⟩ := bcell hb11; have q11 := hb11.size; (try simp only [World.size_alloc] at q11); have z11p : p < w11.heap.size := (by omega); have z11q : q < w11.heap.size := (by omega); have z11r : r < w11.heap.size := (by omega); have z11_w6 : w6.heap.size < w11.heap.size := (by omega); have z11_w7 : w7.heap.size < w11.heap.size := (by omega)))) | (go_at_call 16; refine (works_any _).mono ?_; rintro e w3 ⟨rfl, hb3⟩))
  go_ret
  exact ⟨rfl, GB.out.trans ((show Below W0.heap.size W0 _ by (repeat' first | exact zbR _ _ | assumption | refine zbD ?_ | refine zbA ?_ ?_ _ | refine zbS ?_ ?_ _ | refine zbT ?_ (by assumption) ?_ | (simp; done) | (simp; omega) | omega)).mono GB.out.size)⟩

theorem sureLaw_any (v : L.Vw) (A : Option Addr) (n c : Nat) (b : L.Bx) (m : L.Mk) (w : World) (hn : v.ss.length = n) (hr : RdS w w.heap.size A v.ss) :
    Calls Try.prog 3 #[.agg #[.int .i64 v.size, .slice A n c, .int .i64 v.wrong, .int .i64 v.hxl, .int .i64 v.hxh, .int .i64 v.hyl, .int .i64 v.hyh], .agg #[.int .i64 b.l, .int .i64 b.r, .int .i64 b.b, .int .i64 b.t], .agg #[.int .i64 m.x, .int .i64 m.y, .int .i64 m.hx, .int .i64 m.hy]] w fun e w' => e = .returned (.bool true) ∧ Below w.heap.size w w' := by
  cases h : L.validB v b
  · exact sureLaw_out v A n c b m w hn hr h
  · rcases L.sure_cases (L.validB_ok h).1 (L.validB_ok h).2.1 m with ⟨h1, h2, h3⟩ | hs | hs | hs
    · exact sureLaw_none v A n c b m w hn hr h h1 h2 h3
    all_goals cases ht : L.truthB v m
    · exact sureLaw_1f v A n c b m w hn hr h hs ht
    · exact sureLaw_1t v A n c b m w hn hr h hs ht
    · exact sureLaw_2f v A n c b m w hn hr h hs ht
    · exact sureLaw_2t v A n c b m w hn hr h hs ht
    · exact sureLaw_3f v A n c b m w hn hr h hs ht
    · exact sureLaw_3t v A n c b m w hn hr h hs ht

end Go.Proofs.Ytgnobonhohfofaa

namespace Go.Proofs.Ytgnobonhohfofaa
open Go.ChangeShapes Go.WideShapes Go.ChangeAt Go.RowKit Go.Deep Go.Joins

theorem Try.ownLinesSure : ownKnob Try.prog.godebug = none := by kernel_rfl

set_option maxRecDepth 100000 in
theorem linesSure_call (H : Type) (enc : TypeId × Value → H) (W : World) (base : Nat) (args : Array Value) (ds : List (DataW H)) (p : List MemPlace) (hval : ∀ (j : Nat) t v, Try.f3.params[j]? = some t → args[j]? = some v → Value.okWide Try.prog W .any base t v)
    (hA : DataW.TrodAll enc Try.prog W 0 (fun _ => true) true Try.f3.params.toList args.toList ds p) : Calls Try.prog 3 args W fun e W' => e = .returned (.bool true) ∧ Below W.heap.size W W' := by
  rw [Try.params3] at hA hval
  obtain ⟨v0, v1, v2, d0, d1, d2, p0, p1, p2, rfl, rfl, rfl, h0, h1, h2⟩ := trodAll_three hA
  obtain ⟨x0, A0, n0, c0, rfl, hle0, hmx0, hn0, hr0, hno0, hwf0⟩ := open_view (hval 0 26 v0 rfl rfl) h0
  obtain ⟨x1, rfl, hwf1⟩ := open_box (hval 1 28 v1 rfl rfl) h1
  obtain ⟨x2, rfl, hwf2⟩ := open_mark (hval 2 30 v2 rfl rfl) h2
  exact sureLaw_any x0 A0 n0 c0 x1 x2 W hn0 hr0

set_option maxRecDepth 100000 in
theorem LinesSure_holds : Rows.LinesSureSaid :=
  OpenClaim.holds_of_wide (p := Try.pinned) (s := Rows.linesSureSpec) (c := Rows.linesSureRow) 3 Try.f3 rfl rfl rfl rfl rfl rfl rfl ⟨rfl, rfl, rfl, rfl, rfl⟩ rfl rfl rfl rfl rfl (by kernel_rfl) Try.func3 (by kernel_rfl)
    (of_decide_eq_true (by kernel_rfl)) (by unfold Func.isWrapper; first | (rw [if_pos (by decide +kernel)]; kernel_rfl) | (rw [if_neg (by decide +kernel)]; exact ⟨rfl, rfl⟩))
    (fun os started H enc _ => law_lift (C := Try.checked) (F := 3) (fn := Try.f3) (s := Rows.linesSureSpec) (bt := 4) started Try.ownLinesSure (by kernel_rfl) Try.func3 (by kernel_rfl) Try.underlying4 rfl laidOut (of_decide_eq_true (by kernel_rfl))
      (fun ds hds => match ds, hds with | [_, _, _], _ => rfl)
      (ChangeSpec.witness6 (enc := enc) (C := Try.checked) false ⟨#[], #[.agg #[.int .i64 0, .slice none 0 0, .int .i64 0, .int .i64 0, .int .i64 0, .int .i64 0, .int .i64 0], .agg #[.int .i64 0, .int .i64 0, .int .i64 0, .int .i64 0], .agg #[.int .i64 0, .int .i64 0, .int .i64 0, .int .i64 0]], []⟩ 8 (by kernel_rfl) (by kernel_rfl) (by kernel_rfl) (by kernel_rfl))
      (fun W base args ds p hval hA _ => linesSure_call H enc W base args ds p hval hA) _ _ _)

end Go.Proofs.Ytgnobonhohfofaa
