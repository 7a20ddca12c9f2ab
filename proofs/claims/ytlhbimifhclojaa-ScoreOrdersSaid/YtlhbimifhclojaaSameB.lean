/-
  Contracts: the law's sameBoard.
-/
import Derived.Test.YtlhbimifhclojaaPairEq
import Derived.Test.YtlhbimifhclojaaStand
namespace Go.Proofs.Ytlhbimifhclojaa
open Go.RowKit
theorem run_neq_pair (a b c d : Int) (w : World) :
    (binOp .neq 32 (.agg #[.int .i64 a, .int .i64 b]) (.agg #[.int .i64 c, .int .i64 d])).run Try.prog w = .ok (.bool (!(a == c && b == d))) w := by
  by_cases h1 : a = c
  · by_cases h2 : b = d
    · simp [go_sem, h1, h2, Try.underlying32]
    · simp [go_sem, h1, h2, Try.underlying32]
  · simp [go_sem, h1, Try.underlying32]
attribute [local go_sem ↓] Go.wp_at_zero Go.wp_at_succ run_eql_pair run_neq_pair

theorem below_drewN {B : Nat} {a w : World} (h : Below B a w) (n : Nat) : Below B a (w.drewN n) := ⟨h.os, h.tape, h.output, h.size, h.block⟩
theorem pr_eq {g h : M.Pr} : (g.A == h.A && g.B == h.B) = decide (g = h) := by
  obtain ⟨a, b⟩ := g
  obtain ⟨c, d⟩ := h
  rw [Bool.eq_iff_iff]
  simp
def M.sameB (ps qs : List M.Pr) (g1 g2 p1 p2 : M.Pr) : Bool := decide (ps = qs) && decide (g1 = g2) && decide (p1 = p2)
theorem take_next {ps qs : List M.Pr} {k : Nat} {p q : M.Pr} (h : ps.take k = qs.take k) (hp : ps[k]? = some p) (hq : qs[k]? = some q) (he : p = q) : ps.take (k + 1) = qs.take (k + 1) := by
  rw [List.take_add_one, List.take_add_one, h, hp, hq, he]
theorem take_diff {ps qs : List M.Pr} {k : Nat} {p q : M.Pr} (hp : ps[k]? = some p) (hq : qs[k]? = some q) (he : p ≠ q) : ps ≠ qs := by
  rintro rfl
  rw [hp] at hq
  exact he (Option.some.inj hq)

set_option maxHeartbeats 4000000 in
theorem sameBoard_any (A1 A2 : Option Addr) (n1 n2 c1 c2 : Nat) (ps qs : List M.Pr) (g1 g2 p1 p2 : M.Pr) (w : World) (hn1 : ps.length = n1) (hn2 : qs.length = n2) (hr1 : RdP w w.heap.size A1 ps) (hr2 : RdP w w.heap.size A2 qs) (hm : n1 ≤ 1000000) (hm2 : n2 ≤ 1000000) :
    Calls Try.prog 21 #[.agg #[.slice A1 n1 c1, .int .i64 g1.A, .int .i64 g1.B, .int .i64 p1.A, .int .i64 p1.B], .agg #[.slice A2 n2 c2, .int .i64 g2.A, .int .i64 g2.B, .int .i64 p2.A, .int .i64 p2.B]] w fun e w' => e = .returned (.bool (M.sameB ps qs g1 g2 p1 p2)) ∧ Below w.heap.size w w' := by
  have HN1 := hide hn1
  have HN2 := hide hn2
  have HR1 := hide hr1
  have HR2 := hide hr2
  clear hn1 hn2 hr1 hr2
  cases hl : ((n1 : Int) != (n2 : Int))
  · obtain rfl : n1 = n2 := by simp at hl; omega
    cases hg : (g1.A == g2.A && g1.B == g2.B)
    · have ho : M.sameB ps qs g1 g2 p1 p2 = false := by unfold M.sameB; rw [← pr_eq (g := g1), hg]; simp
      rw [ho]; clear ho
      go_enter Try.func21, Try.ntmps21
      go_wp2_with fail
      go_ret
      exact ⟨rfl, by (repeat' first | exact Below.refl _ _ | assumption | refine Below.drew ?_ | refine Below.alloc ?_ ?_ _ | refine Below.setCell ?_ ?_ _ | refine Below.trans ?_ (Below.mono (by assumption) ?_) | (simp; done) | (simp; omega) | omega)⟩
    · cases hp : (p1.A == p2.A && p1.B == p2.B)
      · have ho : M.sameB ps qs g1 g2 p1 p2 = false := by unfold M.sameB; rw [← pr_eq (g := p1), hp]; simp
        rw [ho]; clear ho
        go_enter Try.func21, Try.ntmps21
        go_wp2_with fail
        go_ret
        exact ⟨rfl, by (repeat' first | exact Below.refl _ _ | assumption | refine Below.drew ?_ | refine Below.alloc ?_ ?_ _ | refine Below.setCell ?_ ?_ _ | refine Below.trans ?_ (Below.mono (by assumption) ?_) | (simp; done) | (simp; omega) | omega)⟩
      · have ho : M.sameB ps qs g1 g2 p1 p2 = decide (ps = qs) := by unfold M.sameB; rw [← pr_eq (g := g1), hg, ← pr_eq (g := p1), hp]; simp
        rw [ho]; clear ho
        go_enter Try.func21, Try.ntmps21
        go_wp2_with fail
        go_loopw [5] (fun i wr => ∃ k : Nat, k ≤ n1 ∧ i = .int .i64 k ∧ Hid (ps.take k = qs.take k) ∧ wr.cell? ⟨w.heap.size, 0, none⟩ = some (.slice A1 n1 c1) ∧ wr.cell? ⟨w.heap.size + 1, 0, none⟩ = some (.slice A2 n1 c2) ∧ Below w.heap.size w wr ∧ w.heap.size < wr.heap.size ∧ w.heap.size + 1 < wr.heap.size) (fun i _ => n1 - (intOf i).toNat)
        case atStart => exact ⟨0, by omega, rfl, hide rfl, by (first | (go_keep; done) | (go_split_ands; (repeat' apply And.intro) <;> first | (go_keep; done) | (simp [*, World.cell?_alloc_at, World.cell?_alloc_past, World.frozen?_alloc_at, World.frozen?_alloc_past]; done) | (simp [World.cell?_alloc_at, World.cell?_alloc_past]; done) | (simp [World.cell?_alloc_at, World.cell?_alloc_past]; rfl) | (simp [*, World.cell?_setCell_same', World.cell?_setCell_other, World.cell?_alloc_some]; done) | (refine (hc _ _ (by first | (simp; done) | (simp; omega) | omega)).trans ?_; (first | (go_keep; done) | assumption | (simp [*, World.cell?_alloc_at, World.cell?_alloc_past, World.frozen?_alloc_at, World.frozen?_alloc_past]; done) | (simp [World.cell?_alloc_at, World.cell?_alloc_past]; rfl))) | (refine (hf _ _ (by first | (simp; done) | (simp; omega) | omega)).trans ?_; (first | (go_keep; done) | assumption | (simp [*, World.cell?_alloc_at, World.cell?_alloc_past, World.frozen?_alloc_at, World.frozen?_alloc_past]; done))) | (repeat' first | exact Below.refl _ _ | assumption | refine Below.drew ?_ | refine Below.alloc ?_ ?_ _ | refine Below.setCell ?_ ?_ _ | refine Below.trans ?_ (Below.mono (by assumption) ?_) | (simp; done) | (simp; omega) | omega) | (simp; omega) | omega))⟩
        case round =>
          obtain ⟨k, hk, rfl, hno, hS0⟩ := hrel
          by_cases hlt : k < n1
          · obtain ⟨p, hp'⟩ : ∃ q, ps[k]? = some q := ⟨_, List.getElem?_eq_getElem (by have := HN1.out; omega)⟩
            obtain ⟨q, hq'⟩ : ∃ q, qs[k]? = some q := ⟨_, List.getElem?_eq_getElem (by have := HN2.out; omega)⟩
            obtain ⟨b, o, hA, hbB, c0, c1'⟩ := (HR1.out.below hS0.2.2.1) k p hp'
            obtain ⟨b2, o2, hA2, hbB2, d0, d1⟩ := (HR2.out.below hS0.2.2.1) k q hq'
            subst hA hA2
            have HP := hide hp'
            have HQ := hide hq'
            clear hp' hq'
            have hlt' : (k : Int) < (n1 : Int) := by omega
            have hk0 : (0 : Int) ≤ (k : Int) := by omega
            obtain ⟨hx0, hx1, hB, hz0, hz1⟩ := hS0
            cases he : (p.A == q.A && p.B == q.B)
            · have hne : ps ≠ qs := take_diff HP.out HQ.out (by rw [pr_eq] at he; simpa using he)
              have hd : decide (ps = qs) = false := decide_eq_false hne
              have HDD := hide hd
              clear hne hd
              go_wp2_with fail
              go_quiet (fail)
              go_wp2_with fail
              go_ret
              exact ⟨by rw [HDD.out]; rfl, below_drewN hB _⟩
            · have HT := hide (take_next hno.out HP.out HQ.out (by rw [pr_eq] at he; simpa using he))
              go_wp2_with fail
              go_quiet (fail)
              go_wp2_with fail
              go_roundw
              case rel => exact ⟨k + 1, by omega, by go_num, HT, by simp [hx0], by simp [hx1], below_drewN hB _, by simp [hz0], by simp [hz1]⟩
              case measure => simp [intOf]; omega
          · have hkn : k = n1 := by omega
            have hall : ps = qs := by
              have := hno.out
              rwa [List.take_of_length_le (by have := HN1.out; omega), List.take_of_length_le (by have := HN2.out; omega)] at this
            have hd : decide (ps = qs) = true := decide_eq_true hall
            have HDD := hide hd
            clear hall hd
            subst hkn
            obtain ⟨hx0, hx1, hB, hz0, hz1⟩ := hS0
            go_wp2_with fail
            go_ret
            exact ⟨by rw [HDD.out]; rfl, by (repeat' first | exact Below.refl _ _ | assumption | refine Below.drew ?_ | refine Below.alloc ?_ ?_ _ | refine Below.setCell ?_ ?_ _ | refine Below.trans ?_ (Below.mono (by assumption) ?_) | (simp; done) | (simp; omega) | omega)⟩
  · have ho : M.sameB ps qs g1 g2 p1 p2 = false := by
      have : ps ≠ qs := by rintro rfl; have h1 := HN1.out; have h2 := HN2.out; simp at hl; omega
      unfold M.sameB; rw [decide_eq_false this]; rfl
    rw [ho]; clear ho
    go_enter Try.func21, Try.ntmps21
    go_wp2_with fail
    go_ret
    exact ⟨rfl, by (repeat' first | exact Below.refl _ _ | assumption | refine Below.drew ?_ | refine Below.alloc ?_ ?_ _ | refine Below.setCell ?_ ?_ _ | refine Below.trans ?_ (Below.mono (by assumption) ?_) | (simp; done) | (simp; omega) | omega)⟩

end Go.Proofs.Ytlhbimifhclojaa
