/-
  append of pairs that come in onto a slice that the call owns, at a step of a region that draws its order.
-/
import Derived.Test.YtlhbimifhclojaaWorks
import Derived.Test.YtlhbimifhclojaaRow
import Derived.Maps.AppendAt
namespace Go.Proofs.Ytlhbimifhclojaa
open Go.RowKit

theorem flatP_cells {w : World} {B : Nat} {a : Addr} : ∀ {ps : List M.Pr}, RdP w B (some a) ps → ∀ j u, (flatP ps)[j]? = some u → w.cell? (a.add j) = some u := by
  intro ps h j u hj
  have hl : j < ps.length * 2 := by rw [← flatP_length]; exact (List.getElem?_eq_some_iff.1 hj).1
  obtain ⟨p, hp⟩ : ∃ p, ps[j / 2]? = some p := ⟨_, List.getElem?_eq_getElem (by omega)⟩
  obtain ⟨b, o, e, _, c0, c1⟩ := h (j / 2) p hp
  injection e with e
  subst e
  obtain ⟨h0, h1⟩ := flatP_at ps (j / 2) p hp
  rw [add_plain]
  rcases Nat.mod_two_eq_zero_or_one j with hm | hm
  · have e : j / 2 * 2 = j := by omega
    rw [e] at h0 c0
    rw [hj] at h0
    rw [c0]; exact h0.symm
  · have e : j / 2 * 2 + 1 = j := by omega
    rw [e] at h1
    rw [Nat.add_assoc, e] at c1
    rw [hj] at h1
    rw [c1]; exact h1.symm
theorem flatP_one' (l : List M.Pr) : ∀ u ∈ flatP l, u.oneCell' = true := by
  intro u hu
  simp only [flatP, List.mem_flatMap, List.mem_cons, List.not_mem_nil, or_false] at hu
  obtain ⟨p, _, rfl | rfl⟩ := hu <;> rfl
theorem flatP_app2 (l r : List M.Pr) : flatP (l ++ r) = flatP l ++ flatP r := by unfold flatP; simp

theorem step_app {w : World} {ops : Array Oper} {o : Oper} {a : Act} {K : Act → World → Prop} {Q : Exit → Act → World → Prop} {E : Prop} (hgd : o.guard = none) (s x : Operand)
    (ho : o.op = .call { callee := .builtin .append, args := #[s, x], argTypes := #[30, 30] }) (base : Nat) (v : Value) (ps : List M.Pr) (hs : a.eval s = v) (hown : w.ownsRow base 32 2 v ps.length (flatP ps))
    (ad : Addr) (m c : Nat) (qs : List M.Pr) (hx : a.eval x = .slice (some ad) m c) (hm : qs.length = m) (hr : RdP w w.heap.size (some ad) qs) (N : Nat) (hN : ps.length + m = N) (h1 : ps.length ≤ 1000) (h2 : m ≤ 1000) (hbase : base ≤ w.heap.size)
    (h : ∀ A' c' w', w'.ownsRow base 32 2 (.slice A' N c') N (flatP (ps ++ qs)) → w.grownBy w' v.ownBlock → K (a.put o.dst (.slice A' N c')) w') :
    if Region.wanted o (yielded ops a.tmps) = true then Oper.wp Try.prog o a w K Q else E := by
  subst hN
  have hw : Region.wanted o (yielded ops a.tmps) = true := by simp [Region.wanted, hgd]
  rw [if_pos hw]
  obtain ⟨i, hi, hz0, hz1, hz2⟩ := info_parts pair_info
  obtain ⟨v', w', hrun, g2, g3, _, _⟩ := run_append_own_at (P := Try.prog) w base 30 o.type 32 i _ 2 16 Try.underlying30 hi hz0 hz1 hz2 (by rfl) (by decide) v ps.length (flatP ps) hown ad m c (flatP qs) (by rw [flatP_length, hm]) (flatP_cells hr) (flatP_one' qs) (by unfold maxLen; omega) (by omega) hbase
  obtain ⟨A', c', rfl⟩ := own_form g2
  unfold Oper.wp execOp
  simp only [ho, resolve, invoke, builtin, Sem.run_bind, Sem.run_pure, Result.andThen_ok, List.map_toArray, List.map_cons, List.map_nil, hs, hx, hrun]
  exact h A' c' w' (by rw [flatP_app2]; exact g2) g3

theorem owns_empty {w : World} {b : Nat} {base : Nat} (hb : w.heap[b]? = some (.cells #[] 32 (0, 0))) (hle : base ≤ b) : w.ownsRow base 32 2 (.slice (some ⟨b, 0, none⟩) 0 0) ([] : List M.Pr).length (flatP []) :=
  ⟨rfl, .inr ⟨b, 0, #[], rfl, hle, hb, Nat.le_refl _, Nat.zero_le _, rfl, rfl⟩⟩
theorem grown_below {w w' : World} {row : Option Nat} {B : Nat} (h : w.grownBy w' row) (hB : B ≤ w.heap.size) (hr : ∀ g, row = some g → B ≤ g) : Below B w w' :=
  ⟨h.os, h.tape, h.output, h.size, fun i hi => h.block i (by omega) (fun e => by have := hr i e.symm; omega)⟩
theorem RdP.take {w : World} {B : Nat} {A : Option Addr} {ps : List M.Pr} (h : RdP w B A ps) (k : Nat) : RdP w B A (ps.take k) := by
  intro j p hj
  have hjk : j < k := by
    have := (List.getElem?_eq_some_iff.1 hj).1
    rw [List.length_take] at this
    omega
  rw [List.getElem?_take_of_lt hjk] at hj
  exact h j p hj

end Go.Proofs.Ytlhbimifhclojaa
