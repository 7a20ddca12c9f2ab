/-
  A match in memory.
-/
import Derived.Test.YtlhbimifhclojaaChanges
import Derived.Deep.AppendLies
namespace Go.Proofs.Ytlhbimifhclojaa
open Go.RowKit

def flatP (l : List M.Pr) : List Value := l.flatMap fun p => [.int .i64 p.A, .int .i64 p.B]
def flatG (l : List M.Gm) : List Value := l.flatMap fun g => [.int .i64 g.set, .bool g.tie, .int .i64 g.server, .int .i64 g.winner, .int .i64 g.pts.A, .int .i64 g.pts.B, .bool g.fresh]

def MAt (w : World) (base b : Nat) (m : M.Mt) (sv gv : Value) : Prop :=
  base ≤ b ∧ w.heap[b]? = some (.cells #[.int .i64 m.f.sets, .int .i64 m.f.games, .bool m.f.noAd, .int .i64 m.f.tie, .int .i64 m.f.to, .int .i64 m.f.lastTie, .int .i64 m.f.lastTo, .int .i64 m.f.first, .int .i64 m.f.next, .bool m.f.doubles, sv, .int .i64 m.games.A, .int .i64 m.games.B, .int .i64 m.pts.A, .int .i64 m.pts.B, .int .i64 m.server, .int .i64 m.ends, .int .i64 m.balls, .int .i64 m.winner, .int .i64 m.opens, .int .i64 m.won.A, .int .i64 m.won.B, .bool m.fresh, gv] 71 (0, 0)) ∧ w.ownsRow base 32 2 sv m.sets.length (flatP m.sets) ∧ w.ownsRow base 44 7 gv m.log.length (flatG m.log)

section
variable {w w' : World} {base b : Nat} {m : M.Mt} {sv gv : Value}
theorem MAt.lt (h : MAt w base b m sv gv) : b < w.heap.size := by
  rcases Nat.lt_or_ge b w.heap.size with hl | hl
  · exact hl
  · have := h.2.1; rw [Array.getElem?_eq_none hl] at this; cases this
theorem MAt.mc (h : MAt w base b m sv gv) : w.cell? ⟨b, 0, none⟩ = some (.int .i64 m.f.sets) ∧ w.cell? ⟨b, 1, none⟩ = some (.int .i64 m.f.games) ∧ w.cell? ⟨b, 2, none⟩ = some (.bool m.f.noAd) ∧ w.cell? ⟨b, 3, none⟩ = some (.int .i64 m.f.tie) ∧ w.cell? ⟨b, 4, none⟩ = some (.int .i64 m.f.to) ∧ w.cell? ⟨b, 5, none⟩ = some (.int .i64 m.f.lastTie) ∧ w.cell? ⟨b, 6, none⟩ = some (.int .i64 m.f.lastTo) ∧ w.cell? ⟨b, 7, none⟩ = some (.int .i64 m.f.first) ∧ w.cell? ⟨b, 8, none⟩ = some (.int .i64 m.f.next) ∧ w.cell? ⟨b, 9, none⟩ = some (.bool m.f.doubles) ∧ w.cell? ⟨b, 10, none⟩ = some (sv) ∧ w.cell? ⟨b, 11, none⟩ = some (.int .i64 m.games.A) ∧ w.cell? ⟨b, 12, none⟩ = some (.int .i64 m.games.B) ∧ w.cell? ⟨b, 13, none⟩ = some (.int .i64 m.pts.A) ∧ w.cell? ⟨b, 14, none⟩ = some (.int .i64 m.pts.B) ∧ w.cell? ⟨b, 15, none⟩ = some (.int .i64 m.server) ∧ w.cell? ⟨b, 16, none⟩ = some (.int .i64 m.ends) ∧ w.cell? ⟨b, 17, none⟩ = some (.int .i64 m.balls) ∧ w.cell? ⟨b, 18, none⟩ = some (.int .i64 m.winner) ∧ w.cell? ⟨b, 19, none⟩ = some (.int .i64 m.opens) ∧ w.cell? ⟨b, 20, none⟩ = some (.int .i64 m.won.A) ∧ w.cell? ⟨b, 21, none⟩ = some (.int .i64 m.won.B) ∧ w.cell? ⟨b, 22, none⟩ = some (.bool m.fresh) ∧ w.cell? ⟨b, 23, none⟩ = some (gv) := by
  have hc := fun i => cell_of_row w b i _ _ _ h.2.1
  (repeat' apply And.intro) <;> (rw [hc]; rfl)
theorem MAt.fr (h : MAt w base b m sv gv) (i : Nat) : w.frozen? ⟨b, i, none⟩ = false := by
  have := h.2.1
  simp [World.frozen?, this]
theorem MAt.drew (h : MAt w base b m sv gv) : MAt w.drew base b m sv gv := h
theorem MAt.below (h : MAt w base b m sv gv) (hb : Below w.heap.size w w') : MAt w' base b m sv gv :=
  have hg : w.grownBy w' none := ⟨hb.os, hb.tape, hb.output, hb.size, fun i hi _ => hb.block i hi⟩
  ⟨h.1, (hb.block b h.lt).trans h.2.1, h.2.2.1.kept hg (by cases sv.ownBlock <;> simp), h.2.2.2.kept hg (by cases gv.ownBlock <;> simp)⟩
theorem row_ne {e : TypeId} {n size : Nat} {xs : List Value} {v : Value} {cs : Array Value} {t : TypeId} (h : w.ownsRow base e size v n xs) (hb : w.heap[b]? = some (.cells cs t (0, 0))) (ht : e ≠ t) : v.ownBlock ≠ some b := by
  rcases h.2 with ⟨rfl, _⟩ | ⟨g, cap, cur, rfl, _, hh, _⟩
  · simp [Value.ownBlock]
  · intro he
    have hgb : g = b := by simpa [Value.ownBlock] using he
    subst hgb
    rw [hb] at hh
    simp only [Option.some.injEq, Obj.cells.injEq] at hh
    exact ht hh.2.1.symm
theorem setCell_grown (w : World) (a : Addr) (u : Value) : w.grownBy (w.setCell a u) (some a.block) :=
  ⟨rfl, rfl, rfl, by simp [World.setCell], fun k _ hk => Below.heap_setCell w a u k (fun e => hk (by rw [e]))⟩
theorem blk_set {cs : Array Value} {t : TypeId} (h : w.heap[b]? = some (.cells cs t (0, 0))) (i : Nat) (u : Value) : (w.setCell ⟨b, i, none⟩ u).heap[b]? = some (.cells (cs.setIfInBounds i u) t (0, 0)) := by
  simp [World.setCell, Array.getElem?_modify, h]
theorem MAt.set (h : MAt w base b m sv gv) (i : Nat) (u : Value) {m' : M.Mt} (he : (#[.int .i64 m.f.sets, .int .i64 m.f.games, .bool m.f.noAd, .int .i64 m.f.tie, .int .i64 m.f.to, .int .i64 m.f.lastTie, .int .i64 m.f.lastTo, .int .i64 m.f.first, .int .i64 m.f.next, .bool m.f.doubles, sv, .int .i64 m.games.A, .int .i64 m.games.B, .int .i64 m.pts.A, .int .i64 m.pts.B, .int .i64 m.server, .int .i64 m.ends, .int .i64 m.balls, .int .i64 m.winner, .int .i64 m.opens, .int .i64 m.won.A, .int .i64 m.won.B, .bool m.fresh, gv] : Array Value).setIfInBounds i u = #[.int .i64 m'.f.sets, .int .i64 m'.f.games, .bool m'.f.noAd, .int .i64 m'.f.tie, .int .i64 m'.f.to, .int .i64 m'.f.lastTie, .int .i64 m'.f.lastTo, .int .i64 m'.f.first, .int .i64 m'.f.next, .bool m'.f.doubles, sv, .int .i64 m'.games.A, .int .i64 m'.games.B, .int .i64 m'.pts.A, .int .i64 m'.pts.B, .int .i64 m'.server, .int .i64 m'.ends, .int .i64 m'.balls, .int .i64 m'.winner, .int .i64 m'.opens, .int .i64 m'.won.A, .int .i64 m'.won.B, .bool m'.fresh, gv]) (hs : m'.sets = m.sets) (hl : m'.log = m.log) :
    MAt (w.setCell ⟨b, i, none⟩ u) base b m' sv gv := by
  refine ⟨h.1, ?_, ?_, ?_⟩
  · rw [blk_set h.2.1, he]
  · rw [hs]; exact h.2.2.1.kept (setCell_grown w _ u) (.inr (row_ne h.2.2.1 h.2.1 (by decide)))
  · rw [hl]; exact h.2.2.2.kept (setCell_grown w _ u) (.inr (row_ne h.2.2.2 h.2.1 (by decide)))
theorem own_form {e : TypeId} {n size : Nat} {xs : List Value} {v : Value} (h : w.ownsRow base e size v n xs) : ∃ A c, v = .slice A n c := by
  rcases h.2 with ⟨rfl, rfl⟩ | ⟨g, cap, cur, rfl, _⟩
  · exact ⟨none, 0, rfl⟩
  · exact ⟨_, cap, rfl⟩
theorem flatG_length : ∀ l : List M.Gm, (flatG l).length = l.length * 7
  | [] => rfl
  | g :: r => by
    have := flatG_length r
    unfold flatG at this ⊢
    simp only [List.flatMap_cons, List.length_append, List.length_cons, List.length_nil, this]
    omega
theorem flatG_tie : ∀ (l : List M.Gm) (k : Nat), k < l.length → (flatG l)[k * 7 + 1]? = some (.bool (M.tieAt l k))
  | [], k, h => by simp at h
  | g :: r, 0, _ => by simp [flatG, M.tieAt]
  | g :: r, k + 1, h => by
    have := flatG_tie r k (by simpa using h)
    unfold flatG at this ⊢
    rw [List.flatMap_cons, List.getElem?_append_right (by simp; omega)]
    have e : (k + 1) * 7 + 1 - [Value.int .i64 g.set, .bool g.tie, .int .i64 g.server, .int .i64 g.winner, .int .i64 g.pts.A, .int .i64 g.pts.B, .bool g.fresh].length = k * 7 + 1 := by simp; omega
    rw [e, this]; rfl
theorem flatP_length : ∀ l : List M.Pr, (flatP l).length = l.length * 2
  | [] => rfl
  | g :: r => by
    have := flatP_length r
    unfold flatP at this ⊢
    simp only [List.flatMap_cons, List.length_append, List.length_cons, List.length_nil, this]
    omega

/-- changes, of a match in memory -/
theorem changes_at (h : MAt w base b m sv gv) (hv : M.Valid m.f) (hn : m.log.length ≤ 9000) :
    Calls Try.prog 83 #[.pointer (some ⟨b, 0, none⟩), .int .i64 (m.log.length : Int)] w fun e w' => e = .returned (.bool (M.changesB m)) ∧ Below w.heap.size w w' := by
  obtain ⟨A, c, rfl⟩ := own_form h.2.2.2
  by_cases h2 : m.log.length < 2
  · exact changes_few b m sv A _ c w hv rfl hn h.lt h.mc h2
  · obtain ⟨g, cap, e, _, _⟩ := h.2.2.2.form (by omega)
    rw [e] at h
    refine changes_many b m sv g _ cap w hv rfl hn h.lt h.mc (by omega) ?_
    rw [h.2.2.2.cellAt _ (by omega)]
    exact flatG_tie m.log _ (by omega)
end

end Go.Proofs.Ytlhbimifhclojaa
