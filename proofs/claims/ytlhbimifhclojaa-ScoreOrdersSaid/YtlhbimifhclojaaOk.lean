/-
  What a match keeps from point to point.
-/
import Derived.Test.YtlhbimifhclojaaPoint
namespace Go.Proofs.Ytlhbimifhclojaa
open Go.RowKit

theorem Ok.mono {m : M.Mt} {k k' : Nat} (h : M.Ok m k) (hk : k ≤ k') : M.Ok m k' := by
  obtain ⟨a1, a2, a3, a4, a5, a6, a7, a8, a9⟩ := h
  exact ⟨a1, by omega, by omega, a4, by omega, by omega, by omega, by omega, by omega⟩
theorem Ok.withPts {m : M.Mt} {k : Nat} {p : M.Pr} (h : M.Ok m k) (hp : 0 ≤ p.A ∧ 0 ≤ p.B ∧ p.A ≤ (k + 1 : Nat) ∧ p.B ≤ (k + 1 : Nat)) : M.Ok { m with pts := p } (k + 1) := by
  obtain ⟨a1, a2, a3, a4, a5, a6, a7, a8, a9⟩ := h
  exact ⟨a1, by dsimp only; omega, by dsimp only; omega, a4, by dsimp only; omega, by dsimp only; omega, by dsimp only; omega, hp, by dsimp only; omega⟩
theorem zero_le (k : Nat) : 0 ≤ M.zero.A ∧ 0 ≤ M.zero.B ∧ M.zero.A ≤ (k : Nat) ∧ M.zero.B ≤ (k : Nat) := by
  unfold M.zero
  dsimp only
  omega
/-- behind the set's end; the balls not yet changed -/
theorem Ok.endSet {m : M.Mt} {k : Nat} {p : M.Pr} (side : Int) (h : M.Ok m k) : M.Ok (M.endSet { m with pts := p } side) (k + 1) ∧ (M.endSet { m with pts := p } side).balls ≤ k ∧ (M.endSet { m with pts := p } side).ends ≤ k := by
  obtain ⟨a1, a2, a3, a4, a5, a6, a7, a8, a9⟩ := h
  have hg := plus_le side a7
  have hw := plus_le side a9
  have hz := zero_le (k + 1)
  unfold M.endSet
  split
  · refine ⟨⟨a1, ?_, ?_, a4, ?_, ?_, hz, hz, hw⟩, a5.2, a6.2⟩
    · dsimp only; simp; omega
    · dsimp only; simp; omega
    · dsimp only; omega
    · dsimp only; omega
  · refine ⟨⟨a1, ?_, ?_, a4, ?_, ?_, hg, hz, ?_⟩, a5.2, a6.2⟩
    · dsimp only; simp; omega
    · dsimp only; omega
    · dsimp only; omega
    · dsimp only; omega
    · dsimp only; omega
theorem Ok.begin {m : M.Mt} {k : Nat} (h : M.Ok m (k + 1)) (hb : m.balls ≤ k) : M.Ok (M.begin m) (k + 1) := by
  obtain ⟨a1, a2, a3, a4, a5, a6, a7, a8, a9⟩ := h
  refine ⟨a1, a2, a3, a4, ?_, a6, a7, a8, a9⟩
  unfold M.begin
  dsimp only
  split <;> omega
theorem Ok.endGame {m : M.Mt} {k : Nat} {p : M.Pr} (side : Int) (h : M.Ok m k) : M.Ok (M.endGame { m with pts := p } side) (k + 1) := by
  obtain ⟨h1, h2, h3⟩ := Ok.endSet (p := p) side h
  obtain ⟨n, hn⟩ : ∃ n, M.endSet { m with pts := p } side = n := ⟨_, rfl⟩
  rw [endGame_of hn]
  rw [hn] at h1 h2 h3
  obtain ⟨a1, a2, a3, a4, a5, a6, a7, a8, a9⟩ := h1
  split
  · exact ⟨a1, a2, a3, a4, a5, a6, a7, a8, a9⟩
  · split
    · exact Ok.begin ⟨a1, a2, a3, a4, a5, by dsimp only; omega, a7, a8, a9⟩ h2
    · exact Ok.begin ⟨a1, a2, a3, a4, a5, a6, a7, a8, a9⟩ h2
theorem Ok.point {m : M.Mt} {k : Nat} (side : Int) (h : M.Ok m k) : M.Ok (M.point m side) (k + 1) := by
  have hp := plus_le side h.pts
  cases hE : M.endsGame (M.ofSet m.f m.won) (M.isTie (M.ofSet m.f m.won) m.games) (M.plus m.pts side) side
  · cases hT : M.isTie (M.ofSet m.f m.won) m.games
    · rw [point_not hE hT]
      exact Ok.withPts h hp
    · rw [point_tie hE hT]
      obtain ⟨a1, a2, a3, a4, a5, a6, a7, a8, a9⟩ := h
      refine ⟨a1, by dsimp only; omega, by dsimp only; omega, a4, by dsimp only; omega, ?_, by dsimp only; omega, hp, by dsimp only; omega⟩
      dsimp only
      split <;> omega
  · rw [point_end hE]
    exact Ok.endGame side h

end Go.Proofs.Ytlhbimifhclojaa
