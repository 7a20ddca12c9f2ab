/-
  Part of a claim's texts: contracts of the program's functions and the plain functions that they compute, in build order.
-/
import Derived.Deep.RegionHeld3
import Derived.KernelRfl
import Derived.Below
import Derived.Test.YtobjahlmjcnfoaaGreatRows
import Derived.Test.YtobjahlmjcnfoaaGreatProg
import Derived.WalkKit
import Derived.WalkSpells
import Derived.WalkLawsBesides
import Derived.Deep.QuietTactic
import Derived.BigQuiet
import Derived.Deep.DrawnRows
import Derived.Outline
import Derived.Laws.AppendOwn
import Derived.Laws.Rows
import Derived.Laws.Tables
import Derived.Maps.AppendAt
import Derived.Laws.AppendOwnNone
import Derived.Deep.AppendLies
import Derived.OwnWalk
import Derived.IntWalk
import Derived.RangeFuncBox
import Derived.Lib.Small
import Derived.Maps.Range
import Derived.Lib.SliceRun
import Derived.Shelf.Abstract
import Derived.Maps.OwnOps
import Derived.Maps.Views
import Derived.Maps.OwnSet
import Derived.Maps.RangeWalk
import Derived.StillTailTactics
import Derived.Sort.Grow
import Derived.Sort.Row
import Derived.Deep.Cut
import Derived.Sort.OwnSorted
import Derived.Shelf.SlSortCmp.Whole1
import Derived.Shelf.SlSortCmp.NoneTotal
import Derived.Sort.OwnSortedInts
namespace Go.Proofs.YtobjahlmjcnfoaaGreat
open Go

theorem drop_get {α : Type} {l rest : List α} {x : α} : ∀ {i : Nat}, l.drop i = x :: rest → l.toArray[i]? = some x := by
  intro i h
  have : l[i]? = some x := by
    have := congrArg List.head? h
    simpa [List.head?_drop] using this
  simpa using this

theorem takeL {P : Program} {md : Region.Mode} {l rest : List Oper} {Q : Exit → Act → World → Prop} {S : World → Prop} {oi : Oper} {v : Value} {fuel : Nat} {listed : Array Bool} {a : Act} {w : World} (i : Nat) (hi : l.drop i = oi :: rest)
    (hs : Region.noSelect l.toArray = true) (hf : Region.free md l.toArray listed i = true) (hr : (Region.ready md l.toArray listed).contains i = true)
    (hQ : ∀ c a w, Q (.panic c) (a.put oi.dst v) w → Q (.panic c) a w) (hy : YieldsIf P l.toArray S oi v a) (hS : S w)
    (h : wpAnyH P md l.toArray Q S fuel (listed.setIfInBounds i true) (a.put oi.dst v) w) : wpAnyH P md l.toArray Q S (fuel + 1) listed a w :=
  wpAnyH_take (drop_get hi) hs hf hr hQ hy hS h

theorem tL {P : Program} {md : Region.Mode} {l rest : List Oper} {Q : Exit → Act → World → Prop} {S : World → Prop} {oi : Oper} {v : Value} {fuel : Nat} {listed : Array Bool} {a : Act} {w : World} (i : Nat) (hi : l.drop i = oi :: rest)
    (hb : (Region.noSelect l.toArray && Region.free md l.toArray listed i && (Region.ready md l.toArray listed).contains i) = true)
    (hQ : ∀ c a w, Q (.panic c) (a.put oi.dst v) w → Q (.panic c) a w) (hy : YieldsIf P l.toArray S oi v a) (hS : S w)
    (h : wpAnyH P md l.toArray Q S fuel (listed.setIfInBounds i true) (a.put oi.dst v) w) : wpAnyH P md l.toArray Q S (fuel + 1) listed a w := by
  rw [Bool.and_eq_true, Bool.and_eq_true] at hb
  exact takeL i hi hb.1.1 hb.1.2 hb.2 hQ hy hS h
theorem tW {P : Program} {md : Region.Mode} {l rest : List Oper} {Q : Exit → Act → World → Prop} {S : World → Prop} {oi : Oper} {fuel : Nat} {listed : Array Bool} {a : Act} {w : World} (v : Value) (i : Nat) (hi : l.drop i = oi :: rest)
    (hb : (Region.noSelect l.toArray && Region.free md l.toArray listed i && (Region.ready md l.toArray listed).contains i) = true)
    (hQ : ∀ c a w, Q (.panic c) (a.put oi.dst v) w → Q (.panic c) a w) (hw : Region.wanted oi (yielded l.toArray a.tmps) = true) (hS : S w) (hy : ∀ w, S w → (execOp a.eval oi).run P w = .ok (.value v) w)
    (h : wpAnyH P md l.toArray Q S fuel (listed.setIfInBounds i true) (a.put oi.dst v) w) : wpAnyH P md l.toArray Q S (fuel + 1) listed a w := tL i hi hb hQ (.inl ⟨hw, hy⟩) hS h
theorem zl {α : Type} (l : List α) (i : Nat) (a : α) : l.toArray.setIfInBounds i a = (l.set i a).toArray := List.setIfInBounds_toArray l i a
theorem z0 {α : Type} {x : α} {xs : List α} {a : α} : (x :: xs).set 0 a = a :: xs := List.set_cons_zero
theorem z1 {α : Type} {x : α} {xs : List α} {i : Nat} {a : α} : (x :: xs).set (i + 1) a = x :: xs.set i a := List.set_cons_succ

theorem consL {P : Program} {md : Region.Mode} {l rest : List Oper} {Q : Exit → Act → World → Prop} {S : World → Prop} {fuel : Nat} {listed : Array Bool} {a : Act} {w : World} {o : Oper} {rs : List Nat} (i : Nat) (ho : l.drop i = o :: rest)
    (h : ∀ K' : Act → World → Prop, Shut (∀ a w, S w → (S w → wpAnyH P md l.toArray Q S fuel (listed.setIfInBounds i true) a w) → K' a w) → if Region.wanted o (yielded l.toArray a.tmps) = true then Oper.wp P o a w K' Q else K' (a.put o.dst undef) w)
    (hs : AllReadyH P md l.toArray Q S fuel listed a w rs) : AllReadyH P md l.toArray Q S fuel listed a w (i :: rs) :=
  AllReadyH.cons (drop_get ho) h hs

end Go.Proofs.YtobjahlmjcnfoaaGreat

namespace Go.Proofs.YtobjahlmjcnfoaaGreat
open Go.RowKit

theorem zbR (B : Nat) (w : World) : Go.RowKit.Below B w w := Go.RowKit.Below.refl B w
theorem zbD {B : Nat} {a w : World} (h : Go.RowKit.Below B a w) : Go.RowKit.Below B a w.drew := h.drew
theorem zbA {B : Nat} {a w : World} (h : Go.RowKit.Below B a w) (hB : B ≤ w.heap.size) (o : Obj) : Go.RowKit.Below B a (w.alloc o) := h.alloc hB o
theorem zbS {B : Nat} {a w : World} (h : Go.RowKit.Below B a w) {p : Addr} (hB : B ≤ p.block) (u : Value) : Go.RowKit.Below B a (w.setCell p u) := h.setCell hB u
theorem zbT {B B' : Nat} {a b c : World} (h1 : Go.RowKit.Below B a b) (h2 : Go.RowKit.Below B' b c) (hB : B ≤ B') : Go.RowKit.Below B a c := h1.trans (h2.mono hB)
def Hid (p : Prop) : Prop := p
theorem hide {p : Prop} (h : p) : Hid p := h
theorem Hid.out {p : Prop} (h : Hid p) : p := h


theorem blk_cell {W : World} {g : Nat} {cells : Array Value} {t : TypeId} (h : W.heap[g]? = some (.cells cells t (0, 0))) (i : Nat) : W.cell? ⟨g, i, none⟩ = cells[i]? := by simp [World.cell?, h]
theorem blk_frozen {W : World} {g : Nat} {cells : Array Value} {t : TypeId} (h : W.heap[g]? = some (.cells cells t (0, 0))) (i : Nat) : W.frozen? ⟨g, i, none⟩ = false := by simp [World.frozen?, h]
theorem blk_set {W : World} {g : Nat} {cells : Array Value} {t : TypeId} (h : W.heap[g]? = some (.cells cells t (0, 0))) (i : Nat) (v : Value) : (W.setCell ⟨g, i, none⟩ v).heap[g]? = some (.cells (cells.setIfInBounds i v) t (0, 0)) := by
  obtain ⟨hlt, hk⟩ := Array.getElem?_eq_some_iff.1 h
  show (W.heap.modify g _)[g]? = _
  rw [Array.getElem?_eq_getElem (by rw [Array.size_modify]; exact hlt), Array.getElem_modify_self, hk]
  rfl
theorem blk_other {W : World} {g g' : Nat} {o : Obj} (h : W.heap[g]? = some o) (hne : g ≠ g') (i : Nat) (v : Value) : (W.setCell ⟨g', i, none⟩ v).heap[g]? = some o := (Below.heap_setCell _ _ _ g (fun e => hne e)).trans h
theorem add_plain (b o k : Nat) : (⟨b, o, none⟩ : Addr).add k = ⟨b, o + k, none⟩ := by
  unfold Addr.add
  split
  · rename_i h; subst h; rfl
  · rfl
theorem below_row {B : Nat} {a w : World} (h : Below B a w) {b : Nat} (hb : B ≤ b) (cs : Array Value) : Below B a (w.setRow b cs) :=
  ⟨h.os, h.tape, h.output, by simp only [size_setRow]; exact h.size, fun i hi => (setRow_other _ _ i _ (by omega)).trans (h.block i hi)⟩
theorem alloc_new_at {w : World} {O : Obj} {k : Nat} (h : k = w.heap.size) : (w.alloc O).heap[k]? = some O := by subst h; exact World.alloc_heap_new w O
theorem drew_size (W : World) : W.drew.heap.size = W.heap.size := rfl

theorem bcell {W w1 : World} (hb : Below W.heap.size W w1) : (∀ b o, b < W.heap.size → w1.cell? ⟨b, o, none⟩ = W.cell? ⟨b, o, none⟩) ∧ (∀ b o, b < W.heap.size → w1.frozen? ⟨b, o, none⟩ = W.frozen? ⟨b, o, none⟩) :=
  ⟨fun b o h => hb.cell (p := ⟨b, o, none⟩) h, fun b o h => hb.frozen (p := ⟨b, o, none⟩) h⟩
theorem below_drewN {B : Nat} {a w : World} (h : Below B a w) (n : Nat) : Below B a (w.drewN n) := ⟨h.os, h.tape, h.output, h.size, h.block⟩
theorem owns_mono {w : World} {base base' : Nat} {e : TypeId} {size : Nat} {v : Value} {n : Nat} {xs : List Value} (h : w.ownsRow base e size v n xs) (hb : base' ≤ base) : w.ownsRow base' e size v n xs :=
  ⟨h.1, h.2.imp id fun ⟨g, cap, cur, e1, hg, r⟩ => ⟨g, cap, cur, e1, Nat.le_trans hb hg, r⟩⟩
theorem own_form {w : World} {base : Nat} {e : TypeId} {n size : Nat} {xs : List Value} {v : Value} (h : w.ownsRow base e size v n xs) : ∃ A c, v = .slice A n c := by
  rcases h.2 with ⟨rfl, rfl⟩ | ⟨g, cap, cur, rfl, _⟩
  · exact ⟨none, 0, rfl⟩
  · exact ⟨_, cap, rfl⟩
theorem only_of_below' {a w : World} (h : Below a.heap.size a w) : a.grownBy w none := ⟨h.os, h.tape, h.output, h.size, fun i hi _ => h.block i hi⟩
theorem owns_below {w w' : World} {base : Nat} {e : TypeId} {size : Nat} {v : Value} {n : Nat} {xs : List Value} (h : w.ownsRow base e size v n xs) (hb : Below w.heap.size w w') : w'.ownsRow base e size v n xs :=
  h.kept (only_of_below' hb) (by cases v.ownBlock <;> simp)
theorem grown_below {w w' : World} {row : Option Nat} {B : Nat} (h : w.grownBy w' row) (hB : B ≤ w.heap.size) (hr : ∀ g, row = some g → B ≤ g) : Below B w w' :=
  ⟨h.os, h.tape, h.output, h.size, fun i hi => h.block i (by omega) (fun e => by have := hr i e.symm; omega)⟩


def RdI (w : World) (B : Nat) (A : Option Addr) (xs : List Int) : Prop :=
  ∀ (k : Nat) (x : Int), xs[k]? = some x → ∃ b o : Nat, A = some ⟨b, o, none⟩ ∧ b < B ∧ w.cell? ⟨b, o + k, none⟩ = some (.int .i64 x)
theorem RdI.below {w w' : World} {B : Nat} {A : Option Addr} {xs : List Int} (h : RdI w B A xs) (hb : Below B w w') : RdI w' B A xs := fun k p hk => by
  obtain ⟨b, o, e, hB, c0⟩ := h k p hk
  exact ⟨b, o, e, hB, (hb.cell (p := ⟨b, o + k, none⟩) hB).trans c0⟩
theorem RdI.mono {w : World} {B B' : Nat} {A : Option Addr} {xs : List Int} (h : RdI w B A xs) (hB : B ≤ B') : RdI w B' A xs := fun k p hk => by
  obtain ⟨b, o, e, hB, c0⟩ := h k p hk
  exact ⟨b, o, e, by omega, c0⟩
theorem RdI.nil (w : World) (B : Nat) (A : Option Addr) : RdI w B A [] := fun k p h => by simp at h
def flatI (xs : List Int) : List Value := xs.map fun x => .int .i64 x
theorem flatI_at {xs : List Int} {k : Nat} {x : Int} (h : xs[k]? = some x) : (flatI xs)[k]? = some (.int .i64 x) := by
  unfold flatI; rw [List.getElem?_map, h]; rfl
theorem flatI_one (xs : List Int) : ∀ u ∈ flatI xs, u.oneCell' = true := by
  intro u hu
  simp only [flatI, List.mem_map] at hu
  obtain ⟨x, _, rfl⟩ := hu
  rfl
theorem owns_RdI {w : World} {base : Nat} {A : Option Addr} {n c : Nat} {xs : List Int} (h : w.ownsRow base 3 1 (.slice A n c) n (flatI xs)) (hn : xs.length = n) : RdI w w.heap.size A xs := by
  intro k p hk
  have hkl : k < n := by rw [← hn]; exact (List.getElem?_eq_some_iff.1 hk).1
  obtain ⟨g, cap, e, hbg, hh⟩ := h.form (by omega)
  have e' : A = some ⟨g, 0, none⟩ ∧ c = cap := by
    simp only [Value.slice.injEq] at e
    exact ⟨e.1, e.2.2⟩
  obtain ⟨rfl, rfl⟩ := e'
  refine ⟨g, 0, rfl, ?_, ?_⟩
  · exact (h.lt g rfl).2
  · rw [Nat.zero_add, h.cellAt k (by omega)]; exact flatI_at hk
theorem int_info : (Tryz.prog.info? 3).map (fun i => (i.zero, i.size, i.bytes)) = some (some (.int .i64 0), 1, 8) := by kernel_rfl
theorem RdI.none {w : World} {B : Nat} {xs : List Int} (h : RdI w B none xs) : xs = [] := by
  match xs, h with
  | [], _ => rfl
  | x :: r, h => obtain ⟨_, _, e, _⟩ := h 0 x rfl; cases e

theorem flatI_app (a b : List Int) : flatI (a ++ b) = flatI a ++ flatI b := by unfold flatI; simp
theorem flatI_length (a : List Int) : (flatI a).length = a.length := by unfold flatI; simp
theorem run_app_ints {w : World} (ty : TypeId) (base : Nat) (v : Value) (ps : List Int) (m0 : Nat) (hown : w.ownsRow base 3 1 v m0 (flatI ps))
    (A : Option Addr) (n c : Nat) (xs : List Int) (hn : xs.length = n) (hr : RdI w w.heap.size A xs) (hA : A = none → c = 0) (h0 : m0 ≤ 1000) (h1 : n ≤ 1000) (hbase : base ≤ w.heap.size) :
    ∃ A' c' w', (Builtin.append_ #[36, 36] ty #[v, .slice A n c]).run Tryz.prog w = .ok (.slice A' (m0 + n) c') w' ∧ w'.ownsRow base 3 1 (.slice A' (m0 + n) c') (m0 + n) (flatI (ps ++ xs)) ∧ w.grownBy w' v.ownBlock := by
  obtain ⟨i, hi, hz0, hz1, hz2⟩ := info_parts int_info
  rcases A with _ | ad
  · have hx0 : xs = [] := hr.none
    subst hx0
    have hn0 : n = 0 := by simpa using hn.symm
    subst hn0
    have hc0 := hA rfl
    subst hc0
    obtain ⟨A', c', rfl⟩ := own_form hown
    have hrun := run_append_owned_none (P := Tryz.prog) (w := w) base 36 ty 3 i 1 Tryz.underlying36 hi (.slice A' m0 c') m0 (flatI ps) hown
    exact ⟨A', c', w, hrun, by simpa using hown, World.grownBy.refl w _⟩
  · obtain ⟨v', w', hrun, h2, h3, _, _⟩ := run_append_own_at (P := Tryz.prog) w base 36 ty 3 i _ 1 8 Tryz.underlying36 hi hz0 hz1 hz2 (by rfl) (by decide) v m0 (flatI ps) hown ad n c (flatI xs) (by rw [flatI_length]; omega) (by
      intro j u hj
      obtain ⟨y, hk⟩ : ∃ y, xs[j]? = some y := by
        have hjl : j < (flatI xs).length := (List.getElem?_eq_some_iff.1 hj).1
        rw [flatI_length] at hjl
        exact ⟨_, List.getElem?_eq_getElem hjl⟩
      rw [flatI_at hk] at hj
      have hj' := Option.some.inj hj
      subst hj'
      obtain ⟨b, o2, e, _, c0⟩ := hr j y hk
      have e' := Option.some.inj e
      subst e'
      rw [add_plain]
      exact c0) (flatI_one xs) (by unfold maxLen; omega) (by omega) hbase
    obtain ⟨A', c', rfl⟩ := own_form h2
    exact ⟨A', c', w', hrun, by rw [flatI_app]; exact h2, h3⟩
theorem wpList_app_at {w : World} {ops : Array Oper} {rest : List Oper} {o : Oper} {a : Act} {Q : Exit → Act → World → Prop} (hgd : o.guard = none) (s x : Operand)
    (ho : o.op = .call { callee := .builtin .append, args := #[s, x], argTypes := #[36, 36] }) (base : Nat) (v : Value) (ps : List Int) (m0 : Nat) (hs : a.eval s = v) (hown : w.ownsRow base 3 1 v m0 (flatI ps))
    (A : Option Addr) (n c : Nat) (xs : List Int) (hx : a.eval x = .slice A n c) (hn : xs.length = n) (hr : RdI w w.heap.size A xs) (hA : A = none → c = 0) (h0 : m0 ≤ 1000) (h1 : n ≤ 1000) (hbase : base ≤ w.heap.size)
    (h : ∀ A' c' w', w'.ownsRow base 3 1 (.slice A' (m0 + n) c') (m0 + n) (flatI (ps ++ xs)) → w.grownBy w' v.ownBlock → wpList Tryz.prog ops Q rest (a.put o.dst (.slice A' (m0 + n) c')) w') :
    wpList Tryz.prog ops Q (o :: rest) a w := by
  refine wpList_plain hgd fun K hK => ?_
  obtain ⟨A', c', w', hr', h2, h3⟩ := run_app_ints o.type base v ps m0 hown A n c xs hn hr hA h0 h1 hbase
  unfold Oper.wp execOp
  simp only [ho, resolve, invoke, builtin, Sem.run_bind, Sem.run_pure, Result.andThen_ok, List.map_toArray, List.map_cons, List.map_nil, hs, hx, hr']
  exact hK _ _ (h A' c' w' h2 h3)

theorem blk_lt {W : World} {g : Nat} {o : Obj} (h : W.heap[g]? = some o) : g < W.heap.size := (Array.getElem?_eq_some_iff.1 h).1
theorem rdI_one {w : World} {q : Nat} {x : Int} (hq : w.heap[q]? = some (.cells #[.int .i64 x] 3 (0, 0))) : RdI w w.heap.size (some ⟨q, 0, none⟩) [x] := by
  intro k y hk
  match k, hk with
  | 0, hk =>
    have hy : x = y := Option.some.inj hk
    subst hy
    exact ⟨_, 0, rfl, blk_lt hq, (blk_cell hq 0).trans rfl⟩
  | k + 1, hk => cases hk


theorem cap_alloc {K : Act → World → Prop} {a : Act} {u : World} {O : Obj} (h : (u.alloc O).heap[u.heap.size]? = some O → Below u.heap.size u (u.alloc O) → u.heap.size ≤ u.heap.size → K a (u.alloc O)) : K a (u.alloc O) := h (World.alloc_heap_new u O) (zbA (zbR _ _) (Nat.le_refl _) O) (Nat.le_refl _)
theorem cap_allocD {K : Act → World → Prop} {a : Act} {u : World} {O : Obj} (h : (u.alloc O).heap[u.heap.size]? = some O → Below u.heap.size u (u.alloc O) → u.heap.size ≤ u.heap.size → K a (u.alloc O).drew) : K a (u.alloc O).drew := h (World.alloc_heap_new u O) (zbA (zbR _ _) (Nat.le_refl _) O) (Nat.le_refl _)
theorem cap_gen {K : Act → World → Prop} {a : Act} {W : World} (h : ∀ W', W' = W → K a W') : K a W := h W rfl
theorem step_row {P : Program} {w : World} {ops : Array Oper} {o : Oper} {a : Act} {K : Act → World → Prop} {Q : Exit → Act → World → Prop} {E : Prop} (hgd : o.guard = none) (ty : TypeId) (x y : Operand) (ho : o.op = .store ty x y)
    (g : Nat) (cells : Array Value) (hx : a.eval x = .pointer (some ⟨g, 0, none⟩)) (hy : a.eval y = .agg cells)
    (t : TypeId) (old : Array Value) (hg : w.heap[g]? = some (.cells old t (0, 0))) (hi : (P.info? ty).map (·.size) = some cells.size)
    (hold : old.size = cells.size) (h1 : cells.all (·.oneCell') = true)
    (h : K (a.put o.dst undef) (w.setRow g cells)) : if Region.wanted o (yielded ops a.tmps) = true then Oper.wp P o a w K Q else E := by
  have hw : Region.wanted o (yielded ops a.tmps) = true := by simp [Region.wanted, hgd]
  rw [if_pos hw]
  exact wp_store_row ty x y ho g cells hx hy t old hg hi hold h1 h
theorem setRow_grown (w : World) (b : Nat) (cs : Array Value) : w.grownBy (w.setRow b cs) (some b) := ⟨rfl, rfl, rfl, by simp, fun k _ hk => setRow_other w _ k _ (fun e => hk (by rw [e]))⟩
theorem row_ne {w : World} {base b : Nat} {e : TypeId} {n size : Nat} {xs : List Value} {v : Value} {cs : Array Value} {t : TypeId} (h : w.ownsRow base e size v n xs) (hb : w.heap[b]? = some (.cells cs t (0, 0))) (ht : e ≠ t) : v.ownBlock ≠ some b := by
  rcases h.2 with ⟨rfl, _⟩ | ⟨g, cap, cur, rfl, _, hh, _⟩
  · simp [Value.ownBlock]
  · intro he
    have hgb : g = b := by simpa [Value.ownBlock] using he
    subst hgb
    rw [hb] at hh
    simp only [Option.some.injEq, Obj.cells.injEq] at hh
    exact ht hh.2.1.symm


end Go.Proofs.YtobjahlmjcnfoaaGreat

namespace Go.Proofs.YtobjahlmjcnfoaaGreat
namespace E

structure Nt where
  id : Int
  hour : Int
  kind : Int
  player : Int
  rank : Int
  deriving DecidableEq
structure Pl where
  ent : Bool
  grd : Bool
  card : Bool
  quit : Bool
  sgn : Bool
  rank : Int
  turn : Int
  deriving DecidableEq
structure Fd where
  places : Int
  wilds : Int
  guards : Int
  close : Int
  freeze : Int
  deriving DecidableEq

def within (n lo hi : Int) : Bool := decide (lo ≤ n) && decide (n ≤ hi)
def validField (f : Fd) : Bool := within f.places 1 32 && within f.wilds 0 32 && within f.guards 0 32 && within f.close 0 9999 && within f.freeze f.close 9999
def lowOf (k : Int) : Int := if k = 1 then 0 else if k = 2 then 1 else if k = 3 ∨ k = 4 ∨ k = 5 then 0 else 1
def highOf (k : Int) : Int := if k = 1 then 9999 else if k = 2 then 9999 else 0
def validNotice (x : Nt) : Bool := within x.id 0 999 && within x.player 0 999 && within x.hour 0 9999 && within x.rank (lowOf x.kind) (highOf x.kind)

def diff : List Nt → List Nt → Option (List Nt)
  | acc, [] => some acc
  | acc, x :: r =>
    if validNotice x = false then none
    else match acc.find? (fun y => y.id == x.id) with
      | some y => if y = x then diff acc r else none
      | none => diff (acc ++ [x]) r
def cmp (x y : Int) : Int := if x < y then -1 else if y < x then 1 else 0
def orL : List Int → Int
  | [] => 0
  | x :: r => if x = 0 then orL r else x
def cmpN (x y : Nt) : Int := orL [cmp x.hour y.hour, cmp x.id y.id]
def leN (x y : Nt) : Bool := decide (0 ≤ cmpN y x)
def diffs (l : List Nt) : Option (List Nt) := if 60 < l.length then none else (diff [] l).map (fun d => d.mergeSort leN)
def checkE (f : Fd) (l : List Nt) : Int := if validField f then (if (diffs l).isSome then 0 else 51) else 50

def Pl.zero : Pl := ⟨false, false, false, false, false, 0, 0⟩
def Pl.entry (p : Pl) : Bool := p.ent && !p.quit && !p.card
def one (b : Bool) : Int := if b then 1 else 0

def cmpP (p q : Pl) : Int := orL [cmp (one (p.rank == 0)) (one (q.rank == 0)), cmp p.rank q.rank, cmp p.turn q.turn]
structure St where
  f : Fd
  pl : Int → Pl
  known : List Int
  turns : Int
  main : List Int
  cards : List Int

def St.new (f : Fd) : St := ⟨f, fun _ => Pl.zero, [], 0, [], []⟩
def late (f : Fd) (h : Int) : Bool := decide (f.freeze < h)
def St.leP (s : St) (a b : Int) : Bool := decide (0 ≤ cmpP (s.pl b) (s.pl a))
def St.order (s : St) : List Int := (s.known.filter (fun k => (s.pl k).entry)).mergeSort s.leP
def St.alts (s : St) : List Int := s.order.filter (fun k => !s.main.contains k)
def St.fill (s : St) (lt : Bool) : List Int → List Int → Int → List Int
  | [], m, _ => m
  | k :: r, m, g =>
    if (m.length : Int) < s.f.places ∧ ((s.pl k).sgn = true ∨ lt = false) ∧ (g < s.f.guards ∨ (s.pl k).grd = false) then s.fill lt r (m ++ [k]) (g + one (s.pl k).grd)
    else s.fill lt r m g
def St.guardsOf (s : St) (l : List Int) : Int := (l.map (fun k => one (s.pl k).grd)).sum
def St.settle (s : St) (lt : Bool) : St :=
  let m := s.main.filter (fun k => lt && (s.pl k).entry)
  { s with main := St.fill s lt ({ s with main := m }.alts) m (s.guardsOf m) }
def St.put (s : St) (k : Int) (p : Pl) : St := { s with pl := fun j => if j = k then p else s.pl j, known := if k ∈ s.known then s.known else s.known ++ [k] }
def St.said (s : St) (x : Nt) : St :=
  let p := s.pl x.player
  if x.kind = 1 ∨ x.kind = 2 then
    if x.hour ≤ s.f.close ∧ p.ent = false then { s with turns := s.turns + 1 }.put x.player { p with ent := true, grd := decide (x.kind = 2), rank := x.rank, turn := s.turns }
    else s.put x.player p
  else if x.kind = 3 then
    if late s.f x.hour = false ∧ p.card = false ∧ p.quit = false ∧ (s.cards.length : Int) < s.f.wilds then { s with cards := s.cards ++ [x.player] }.put x.player { p with card := true }
    else s.put x.player p
  else if x.kind = 4 then
    { s with f := if late s.f x.hour = true ∧ p.card = true ∧ p.quit = false then { s.f with places := s.f.places + 1 } else s.f, cards := s.cards.filter (fun k => k != x.player) }.put x.player { p with quit := true }
  else if x.kind = 5 then s.put x.player { p with sgn := true }
  else s.put x.player p
def St.take (s : St) (x : Nt) : St := (s.said x).settle (late s.f x.hour)
def St.at (f : Fd) (l : List Nt) (h : Int) : St := (l.filter (fun x => decide (x.hour ≤ h))).foldl St.take (St.new f)
def idx (l : List Int) (k : Int) : Int := match l.findIdx? (· == k) with | some i => (i : Int) | none => -1
def St.where_ (s : St) (k : Int) : Int × Int :=
  if 0 ≤ idx s.main k then (1, idx s.main k + 1) else if 0 ≤ idx s.cards k then (2, idx s.cards k + 1) else if 0 ≤ idx s.alts k then (3, idx s.alts k + 1) else (0, 0)
def St.quitter (s : St) (k : Int) : Int :=
  match s.main.findIdx? (fun o => (s.pl o).grd == (s.pl k).grd) with
  | some i => s.main.getD i 0
  | none => s.main.getD 0 0
def St.needs (h k : Int) : Nat → Int → St → Option Int
  | 0, _, _ => none
  | n + 1, q, s => if s.main.contains k then some q else if s.main = [] then none else St.needs h k n (q + 1) (s.take ⟨0, h, 4, s.quitter k, 0⟩)
def St.when (k : Int) : St → List Nt → Option Int
  | _, [] => none
  | s, x :: r =>
    let s' := s.take x
    let more := match r with | y :: _ => decide (y.hour = x.hour) | [] => false
    if more = false ∧ ((s'.where_ k).1 = 1 ∨ (s'.where_ k).1 = 2) then some x.hour else St.when k s' r

end E
end Go.Proofs.YtobjahlmjcnfoaaGreat

namespace Go.Proofs.YtobjahlmjcnfoaaGreat
open Go.RowKit
attribute [local go_sem ↓] Go.wp_at_zero Go.wp_at_succ

namespace E
theorem orL_hit {xs : List Int} {k : Nat} {x : Int} (h : ∀ j, j < k → xs[j]? = some 0) (hk : xs[k]? = some x) (hx : x ≠ 0) : orL xs = x := by
  induction xs generalizing k with
  | nil => cases hk
  | cons y r ih =>
    cases k with
    | zero =>
      have : y = x := Option.some.inj hk
      subst this
      simp [orL, hx]
    | succ k =>
      have h0 : y = 0 := Option.some.inj (h 0 (by omega))
      subst h0
      simp only [orL, if_true]
      exact ih (fun j hj => h (j + 1) (by omega)) hk
theorem orL_none {xs : List Int} (h : ∀ j, j < xs.length → xs[j]? = some 0) : orL xs = 0 := by
  induction xs with
  | nil => rfl
  | cons y r ih =>
    have h0 : y = 0 := Option.some.inj (h 0 (by simp))
    subst h0
    simp only [orL, if_true]
    exact ih (fun j hj => h (j + 1) (by simpa using hj))
theorem idx_hit {xs : List Int} {k : Nat} {x : Int} (h : ∀ j, j < k → xs[j]? ≠ some x) (hk : xs[k]? = some x) : idx xs x = (k : Int) := by
  unfold idx
  have : xs.findIdx? (· == x) = some k := by
    rw [List.findIdx?_eq_some_iff_getElem]
    obtain ⟨hl, he⟩ := List.getElem?_eq_some_iff.1 hk
    refine ⟨hl, by simp [he], fun j hj => ?_⟩
    have := h j hj
    rw [List.getElem?_eq_getElem (by omega)] at this
    simpa using this
  rw [this]
theorem idx_none {xs : List Int} {x : Int} (h : ∀ j, j < xs.length → xs[j]? ≠ some x) : idx xs x = -1 := by
  unfold idx
  have : xs.findIdx? (· == x) = none := by
    rw [List.findIdx?_eq_none_iff]
    intro y hy
    obtain ⟨j, hj, rfl⟩ := List.getElem_of_mem hy
    have := h j hj
    rw [List.getElem?_eq_getElem hj] at this
    simpa using this
  rw [this]
theorem idx_has (xs : List Int) (x : Int) : decide (0 ≤ idx xs x) = xs.contains x := by
  unfold idx
  cases hf : xs.findIdx? (· == x) with
  | none =>
    rw [List.findIdx?_eq_none_iff] at hf
    have : xs.contains x = false := by
      rw [List.contains_eq_mem, decide_eq_false_iff_not]
      intro hm
      have := hf x hm
      simp at this
    rw [this]; rfl
  | some k =>
    rw [List.findIdx?_eq_some_iff_getElem] at hf
    obtain ⟨hl, he, _⟩ := hf
    have : xs.contains x = true := by
      rw [List.contains_eq_mem, decide_eq_true_eq]
      have : xs[k] = x := by simpa using he
      rw [← this]; exact List.getElem_mem hl
    rw [this, decide_eq_true_eq]
    show (0 : Int) ≤ (k : Int)
    omega
end E

theorem isNaN_any (x : Int) (w : World) : Calls Tryz.prog 74 #[.int .i64 x] w fun e w' => e = .returned (.bool false) ∧ w = w' := by
  go_enter Tryz.func74, Tryz.ntmps74
  go_wp2
  go_ret
  exact ⟨by simp, rfl⟩

theorem compare_any (x y : Int) (w : World) : Calls Tryz.prog 58 #[.int .i64 x, .int .i64 y] w fun e w' => e = .returned (.int .i64 (E.cmp x y)) ∧ w = w' := by
  obtain ⟨r, hr⟩ : ∃ r, Hid (E.cmp x y = r) := ⟨_, hide rfl⟩
  rcases Int.lt_trichotomy x y with h | h | h
  · go_enter Tryz.func58, Tryz.ntmps58
    go_wp2_with (go_at_call 74; refine (isNaN_any _ _).mono ?_; rintro e w' ⟨rfl, rfl⟩)
    go_ret
    exact ⟨by simp [E.cmp, h], rfl⟩
  · subst h
    go_enter Tryz.func58, Tryz.ntmps58
    go_wp2_with (go_at_call 74; refine (isNaN_any _ _).mono ?_; rintro e w' ⟨rfl, rfl⟩)
    go_ret
    exact ⟨by simp [E.cmp], rfl⟩
  · have h' : ¬ x < y := by omega
    go_enter Tryz.func58, Tryz.ntmps58
    go_wp2_with (go_at_call 74; refine (isNaN_any _ _).mono ?_; rintro e w' ⟨rfl, rfl⟩)
    go_ret
    exact ⟨by simp [E.cmp, h, h'], rfl⟩

set_option maxHeartbeats 1600000 in
theorem or_any (A : Option Addr) (n c : Nat) (xs : List Int) (w : World) (hn : xs.length = n) (hr : RdI w w.heap.size A xs) (hm : n ≤ 1000000) :
    Calls Tryz.prog 57 #[.slice A n c] w fun e w' => e = .returned (.int .i64 (E.orL xs)) ∧ w = w' := by
  have HN := hide hn
  have HR := hide hr
  clear hn hr
  go_enter Tryz.func57, Tryz.ntmps57
  go_wp2_with fail
  go_loop [8] (fun i => ∃ k : Nat, k ≤ n ∧ i = .int .i64 k ∧ Hid (∀ j, j < k → xs[j]? = some 0)) (fun i => n - (intOf i).toNat)
  case atStart => exact ⟨0, by omega, rfl, hide (fun j hj => by omega)⟩
  case round =>
    obtain ⟨k, hk, rfl, HZ⟩ := hrel
    by_cases hlt : k < n
    · obtain ⟨x, hx⟩ : ∃ q, xs[k]? = some q := ⟨_, List.getElem?_eq_getElem (by have := HN.out; omega)⟩
      obtain ⟨b, o, hA, hbB, c0⟩ := HR.out k x hx
      subst hA
      have HX := hide hx
      clear hx
      have hlt' : (k : Int) < (n : Int) := by omega
      have hk0 : (0 : Int) ≤ (k : Int) := by omega
      cases h0 : (x != 0)
      · have hx0 : x = 0 := by simpa using h0
        have HX0 := hide hx0
        clear hx0
        go_wp2_with fail
        go_round
        case rel => exact ⟨k + 1, by omega, by go_num, hide (fun j hj => by
          rcases Nat.lt_or_ge j k with h | h
          · exact HZ.out j h
          · have : j = k := by omega
            rw [this, HX.out, HX0.out])⟩
        case measure => simp [intOf]; omega
      · have HX0 := hide (show x ≠ 0 by simpa using h0)
        go_wp2_with fail
        go_ret
        exact ⟨by rw [E.orL_hit HZ.out HX.out HX0.out]; rfl, rfl⟩
    · have hkn : k = n := by omega
      subst hkn
      go_wp2_with fail
      go_ret
      exact ⟨by rw [E.orL_none (fun j hj => HZ.out j (by have := HN.out; omega))]; rfl, rfl⟩

set_option maxHeartbeats 1600000 in
theorem index_any (A : Option Addr) (n c : Nat) (xs : List Int) (y : Int) (w : World) (hn : xs.length = n) (hr : RdI w w.heap.size A xs) (hm : n ≤ 1000000) :
    Calls Tryz.prog 60 #[.slice A n c, .int .i64 y] w fun e w' => e = .returned (.int .i64 (E.idx xs y)) ∧ w = w' := by
  have HN := hide hn
  have HR := hide hr
  clear hn hr
  go_enter Tryz.func60, Tryz.ntmps60
  go_wp2_with fail
  go_loop [8] (fun i => ∃ k : Nat, k ≤ n ∧ i = .int .i64 k ∧ Hid (∀ j, j < k → xs[j]? ≠ some y)) (fun i => n - (intOf i).toNat)
  case atStart => exact ⟨0, by omega, rfl, hide (fun j hj => by omega)⟩
  case round =>
    obtain ⟨k, hk, rfl, HZ⟩ := hrel
    by_cases hlt : k < n
    · obtain ⟨x, hx⟩ : ∃ q, xs[k]? = some q := ⟨_, List.getElem?_eq_getElem (by have := HN.out; omega)⟩
      obtain ⟨b, o, hA, hbB, c0⟩ := HR.out k x hx
      subst hA
      have HX := hide hx
      clear hx
      have hlt' : (k : Int) < (n : Int) := by omega
      have hk0 : (0 : Int) ≤ (k : Int) := by omega
      cases h0 : (y == x)
      · have HX0 := hide (show y ≠ x by simpa using h0)
        go_wp2_with fail
        go_round
        case rel => exact ⟨k + 1, by omega, by go_num, hide (fun j hj => by
          rcases Nat.lt_or_ge j k with h | h
          · exact HZ.out j h
          · have : j = k := by omega
            rw [this, HX.out]
            intro e
            exact HX0.out (Option.some.inj e).symm)⟩
        case measure => simp [intOf]; omega
      · have HX0 := hide (show y = x by simpa using h0)
        go_wp2_with fail
        go_ret
        exact ⟨by rw [E.idx_hit HZ.out (by rw [HX.out, HX0.out])]; rfl, rfl⟩
    · have hkn : k = n := by omega
      subst hkn
      go_wp2_with fail
      go_ret
      exact ⟨by rw [E.idx_none (fun j hj => HZ.out j (by have := HN.out; omega))]; rfl, rfl⟩

theorem contains_any (A : Option Addr) (n c : Nat) (xs : List Int) (y : Int) (w : World) (hn : xs.length = n) (hr : RdI w w.heap.size A xs) (hm : n ≤ 1000000) :
    Calls Tryz.prog 37 #[.slice A n c, .int .i64 y] w fun e w' => e = .returned (.bool (xs.contains y)) ∧ w = w' := by
  have HC := hide (E.idx_has xs y)
  have H0 := index_any A n c xs y w hn hr hm
  generalize E.idx xs y = r at HC H0
  generalize xs.contains y = q at HC ⊢
  clear hn hr
  have HD := hide hm
  clear hm
  cases hq : q
  · have h0 : ¬ 0 ≤ r := by have := HC.out; rw [hq] at this; simpa using this
    have h1 : r < 0 := by omega
    clear h0 hq HC
    go_enter Tryz.func37, Tryz.ntmps37
    go_wp2_with (go_at_call 60; refine H0.mono ?_; rintro e w' ⟨rfl, rfl⟩)
    go_ret
    exact ⟨by simp [h1], rfl⟩
  · have h0 : 0 ≤ r := by have := HC.out; rw [hq] at this; simpa using this
    clear hq HC
    go_enter Tryz.func37, Tryz.ntmps37
    go_wp2_with (go_at_call 60; refine H0.mono ?_; rintro e w' ⟨rfl, rfl⟩)
    go_ret
    exact ⟨by simp [h0], rfl⟩

set_option maxRecDepth 100000 in
theorem clone_any (A : Option Addr) (n c : Nat) (xs : List Int) (w : World) (hn : xs.length = n) (hr : RdI w w.heap.size A xs) (hA : A = none → c = 0) (hm : n ≤ 1000) :
    Calls Tryz.prog 46 #[.slice A n c] w fun e w' => ∃ A' c', e = .returned (.slice A' n c') ∧ w'.ownsRow w.heap.size 3 1 (.slice A' n c') n (flatI xs) ∧ Below w.heap.size w w' := by
  have q22 : ∀ (w : World) (a : Option Addr) (n c n' c' : Nat), (binOp .eql 36 (.slice a n c) (.slice none n' c')).run Tryz.prog w = .ok (.bool a.isNone) w := fun w a n c n' c' => Lib.run_eql_slice_nil w _ _ a n c n' c' Tryz.underlying36
  rcases A with _ | a
  · have hx : xs = [] := hr.none
    subst hx
    have hn0 : n = 0 := by simpa using hn.symm
    subst hn0
    have hc := hA rfl
    subst hc
    clear hm hA hr hn
    go_enter Tryz.func46, Tryz.ntmps46
    go_wp2_with fail
    go_ret
    exact ⟨none, 0, rfl, World.ownsRow_nil _ _ _ _, by (repeat' first | exact zbR _ _ | assumption | refine zbD ?_ | refine zbA ?_ ?_ _ | refine zbS ?_ ?_ _ | refine zbT ?_ (by assumption) ?_ | (simp; done) | (simp; omega) | omega)⟩
  · have HN := hide hn
    have HR := hide hr
    have HM := hide hm
    clear hn hr hA hm
    go_enter Tryz.func46, Tryz.ntmps46
    go_wp2_with (at_builtin; refine wpList_app_at rfl (.tmp 5) (.tmp 6) rfl w.heap.size _ [] 0 rfl (show World.ownsRow _ _ _ 1 _ 0 (flatI []) from World.ownsRow_made w #[] 0 (Nat.le_refl _) (by unfold maxLen; omega) rfl) (some a) n c xs rfl HN.out ((HR.out.below (by (repeat' first | exact zbR _ _ | assumption | refine zbD ?_ | refine zbA ?_ ?_ _ | refine zbS ?_ ?_ _ | refine zbT ?_ (by assumption) ?_ | (simp; done) | (simp; omega) | omega))).mono (by simp)) (fun e => by cases e) (by omega) (by have := HM.out; omega) (by simp) ?_; intro A2 c2 w9 hown2 hgrow)
    go_ret
    have hb : Below w.heap.size (w.alloc (.cells #[] 3)) w9 := grown_below hgrow (by simp) (fun g hg => by
      have h : some w.heap.size = some g := hg
      have := Option.some.inj h
      omega)
    exact ⟨A2, c2, rfl, by simpa using hown2, (show Below w.heap.size w (w.alloc (.cells #[] 3)) by (repeat' first | exact zbR _ _ | assumption | refine zbD ?_ | refine zbA ?_ ?_ _ | refine zbS ?_ ?_ _ | refine zbT ?_ (by assumption) ?_ | (simp; done) | (simp; omega) | omega)).trans hb⟩

end Go.Proofs.YtobjahlmjcnfoaaGreat

namespace Go.Proofs.YtobjahlmjcnfoaaGreat
open Go.RowKit
attribute [local go_sem ↓] Go.wp_at_zero Go.wp_at_succ

theorem bel_of {w w' : World} (h : w.grownBy w' none) : Below w.heap.size w w' := ⟨h.os, h.tape, h.output, h.size, fun i hi => h.block i hi (by simp)⟩
theorem gr_of {w w' : World} (h : Below w.heap.size w w') : w.grownBy w' none := ⟨h.os, h.tape, h.output, h.size, fun i hi _ => h.block i hi⟩
theorem gr_trans {a b c : World} {row : Option Nat} (h : a.grownBy b row) (k : b.grownBy c row) : a.grownBy c row := h.andThen k (fun _ hj => .inr hj)
theorem gr_set (w : World) (g i : Nat) (v : Value) : w.grownBy (w.setCell ⟨g, i, none⟩ v) (some g) :=
  ⟨rfl, rfl, rfl, by simp [World.setCell], fun k _ hk => Below.heap_setCell w ⟨g, i, none⟩ v k (fun e => hk (by rw [e]))⟩
theorem gr_sets (g : Nat) : ∀ (vs : List Value) (o : Nat) (w : World), w.grownBy (w.setCells g o vs) (some g)
  | [], _, w => World.grownBy.refl w _
  | v :: vs, o, w => gr_trans (gr_set w g o v) (gr_sets g vs (o + 1) _)
theorem blk_sets {g : Nat} {t : TypeId} : ∀ (vs : List Value) (o : Nat) {w : World} {cs : Array Value}, w.heap[g]? = some (.cells cs t (0, 0)) →
    ∃ cs' : Array Value, (w.setCells g o vs).heap[g]? = some (.cells cs' t (0, 0)) ∧ cs'.size = cs.size ∧ ∀ k, k < o → cs'[k]? = cs[k]?
  | [], o, w, cs, h => ⟨cs, h, rfl, fun _ _ => rfl⟩
  | v :: vs, o, w, cs, h => by
    obtain ⟨cs', h', hs, hk⟩ := blk_sets vs (o + 1) (blk_set h o v)
    exact ⟨cs', h', by rw [hs]; simp, fun k hko => by rw [hk k (by omega)]; simp [Array.getElem?_setIfInBounds]; omega⟩

namespace E
def idxP (p : Int → Bool) (xs : List Int) : Int := match xs.findIdx? p with | some i => (i : Int) | none => -1
theorem idxP_hit {p : Int → Bool} {xs : List Int} {k : Nat} {x : Int} (h : ∀ j y, j < k → xs[j]? = some y → p y = false) (hk : xs[k]? = some x) (hx : p x = true) : idxP p xs = (k : Int) := by
  unfold idxP
  have : xs.findIdx? p = some k := by
    rw [List.findIdx?_eq_some_iff_getElem]
    obtain ⟨hl, he⟩ := List.getElem?_eq_some_iff.1 hk
    refine ⟨hl, by rw [he]; exact hx, fun j hj => ?_⟩
    have := h j _ hj (List.getElem?_eq_getElem (by omega))
    simpa using this
  rw [this]
theorem idxP_none {p : Int → Bool} {xs : List Int} (h : ∀ j y, j < xs.length → xs[j]? = some y → p y = false) : idxP p xs = -1 := by
  unfold idxP
  have : xs.findIdx? p = none := by
    rw [List.findIdx?_eq_none_iff]
    intro y hy
    obtain ⟨j, hj, rfl⟩ := List.getElem_of_mem hy
    exact h j _ hj (List.getElem?_eq_getElem hj)
  rw [this]
end E

set_option maxHeartbeats 1600000 in
theorem indexFunc_any (g : Nat) (lb : Array Value) (eg : ∀ args w, (callFunc g args).run Tryz.prog w = .ok (.enter g args) w) (p : Int → Bool) (K : World → Prop) (xs : List Int)
    (hp : ∀ W x, x ∈ xs → K W → Calls Tryz.prog g (#[.int .i64 x] ++ lb) W fun e W' => e = .returned (.bool (p x)) ∧ W.grownBy W' none) (hst : ∀ W W', K W → W.grownBy W' none → K W')
    (A : Option Addr) (n c : Nat) (w : World) (hn : xs.length = n) (hr : RdI w w.heap.size A xs) (hm : n ≤ 1000000) (hK : K w) :
    Calls Tryz.prog 65 #[.slice A n c, .func (.func g) #[] lb] w fun e w' => e = .returned (.int .i64 (E.idxP p xs)) ∧ w.grownBy w' none := by
  have HN := hide hn
  have HR := hide hr
  have HP := hide hp
  have HST := hide hst
  have HK := hide hK
  clear hn hr hp hst hK
  go_enter Tryz.func65, Tryz.ntmps65
  go_wp2_with fail
  go_loopw [8] (fun i wr => ∃ k : Nat, k ≤ n ∧ i = .int .i64 k ∧ Hid (∀ j y, j < k → xs[j]? = some y → p y = false) ∧ w.grownBy wr none) (fun i _ => n - (intOf i).toNat)
  case atStart => exact ⟨0, by omega, rfl, hide (fun j y hj => by omega), World.grownBy.refl _ _⟩
  case round =>
    obtain ⟨k, hk, rfl, HZ, hG⟩ := hrel
    have HB := hide (bel_of hG)
    have HG := hide hG
    clear hG
    by_cases hlt : k < n
    · obtain ⟨x, hx⟩ : ∃ q, xs[k]? = some q := ⟨_, List.getElem?_eq_getElem (by have := HN.out; omega)⟩
      obtain ⟨b, o, hA, hbB, c0⟩ := (HR.out.below HB.out) k x hx
      subst hA
      have HX := hide hx
      clear hx
      have hlt' : (k : Int) < (n : Int) := by omega
      have hk0 : (0 : Int) ≤ (k : Int) := by omega
      have hc := HP.out wr x (List.mem_of_getElem? HX.out) (HST.out w wr HK.out HG.out)
      cases h0 : p x
      · rw [h0] at hc
        have HX0 := hide h0
        clear h0
        go_wp2_with (go_at_fn g; refine hc.mono ?_; rintro e w2 ⟨rfl, hg2⟩)
        go_roundw
        case rel => exact ⟨k + 1, by omega, by go_num, hide (fun j y hj hy => by
          rcases Nat.lt_or_ge j k with h | h
          · exact HZ.out j y h hy
          · have : j = k := by omega
            rw [this, HX.out] at hy
            rw [← Option.some.inj hy]; exact HX0.out), gr_trans HG.out hg2⟩
        case measure => simp [intOf]; omega
      · rw [h0] at hc
        have HX0 := hide h0
        clear h0
        go_wp2_with (go_at_fn g; refine hc.mono ?_; rintro e w2 ⟨rfl, hg2⟩)
        go_ret
        exact ⟨by rw [E.idxP_hit HZ.out HX.out HX0.out]; rfl, gr_trans HG.out hg2⟩
    · have hkn : k = n := by omega
      subst hkn
      go_wp2_with fail
      go_ret
      exact ⟨by rw [E.idxP_none (fun j y hj hy => HZ.out j y (by have := HN.out; omega) hy)]; rfl, HG.out⟩

namespace E
theorem take_snoc {xs : List Int} {j : Nat} {x : Int} (h : xs[j]? = some x) (q : Int → Bool) : (xs.take (j + 1)).filter q = (xs.take j).filter q ++ (if q x then [x] else []) := by
  rw [List.take_add_one, h, List.filter_append]
  congr 1
  simp only [Option.toList_some, List.filter_cons, List.filter_nil]
end E

set_option maxRecDepth 100000 in
set_option maxHeartbeats 3200000 in
theorem deleteFunc_any (g : Nat) (lb : Array Value) (eg : ∀ args w, (callFunc g args).run Tryz.prog w = .ok (.enter g args) w) (p : Int → Bool) (K : World → Prop) (xs : List Int)
    (hp : ∀ W x, x ∈ xs → K W → Calls Tryz.prog g (#[.int .i64 x] ++ lb) W fun e W' => e = .returned (.bool (p x)) ∧ W.grownBy W' none)
    (base : Nat) (A : Option Addr) (n c : Nat) (w : World) (hst : ∀ W W', K W → W.grownBy W' (Value.slice A n c).ownBlock → K W')
    (hown : w.ownsRow base 3 1 (.slice A n c) n (flatI xs)) (hm : n ≤ 1000000) (hK : K w) :
    Calls Tryz.prog 51 #[.slice A n c, .func (.func g) #[] lb] w fun e w' => e = .returned (.slice A (xs.filter fun x => !p x).length c) ∧ w'.ownsRow base 3 1 (.slice A (xs.filter fun x => !p x).length c) (xs.filter fun x => !p x).length (flatI (xs.filter fun x => !p x)) ∧ w.grownBy w' (Value.slice A n c).ownBlock := by
  have hn : xs.length = n := by have := hown.1; rw [flatI_length] at this; omega
  have hst0 : ∀ W W', K W → W.grownBy W' none → K W' := fun W W' h hg => hst W W' h ⟨hg.os, hg.tape, hg.output, hg.size, fun i hi _ => hg.block i hi (by simp)⟩
  have hIF := indexFunc_any g lb eg p K xs hp hst0 A n c w hn (owns_RdI hown hn) hm hK
  rcases hf : xs.findIdx? p with _ | k0
  · have e1 : E.idxP p xs = -1 := by unfold E.idxP; rw [hf]
    rw [e1] at hIF
    have e2 : xs.filter (fun x => !p x) = xs := by
      rw [List.findIdx?_eq_none_iff] at hf
      exact List.filter_eq_self.2 (fun x hx => by rw [hf x hx]; rfl)
    rw [e2, hn]
    have HO := hide hown
    clear hown e1 e2 hf hp hst hst0 hK hn
    go_enter Tryz.func51, Tryz.ntmps51
    go_wp2_with (go_at_call 65; refine hIF.mono ?_; rintro e w2 ⟨rfl, hg2⟩)
    go_ret
    exact ⟨rfl, HO.out.kept hg2 (by cases (Value.slice A n c).ownBlock <;> simp), ⟨hg2.os, hg2.tape, hg2.output, hg2.size, fun i hi _ => hg2.block i hi (by simp)⟩⟩
  · have e1 : E.idxP p xs = (k0 : Int) := by unfold E.idxP; rw [hf]
    rw [e1] at hIF
    rw [List.findIdx?_eq_some_iff_getElem] at hf
    obtain ⟨hk0, hpk, hlow⟩ := hf
    have hk0n : k0 < n := by omega
    obtain ⟨m, hmm⟩ : ∃ m, (xs.filter fun x => !p x).length = m := ⟨_, rfl⟩
    rw [hmm]
    obtain ⟨gb, cap, e, hbg, hh⟩ := hown.form (by omega)
    simp only [Value.slice.injEq] at e
    obtain ⟨rfl, -, rfl⟩ := e
    obtain ⟨-, ⟨h0, _⟩ | ⟨gb', cap', cur, e', -, hblk, hcap, hcapm, hsz, htk⟩⟩ := hown
    · cases h0
    simp only [Value.slice.injEq, Option.some.injEq, Addr.mk.injEq] at e'
    obtain ⟨⟨rfl, -, -⟩, -, rfl⟩ := e'
    have hcur : ∀ (k : Nat) (y : Int), xs[k]? = some y → cur[k]? = some (Value.int .i64 y) := fun k y hy => by
      have h1 := flatI_at hy
      rw [← htk, List.getElem?_take] at h1
      split at h1
      · simpa using h1
      · cases h1
    have hlow' : ∀ j y, j < k0 → xs[j]? = some y → p y = false := fun j y hj hy => by
      have := hlow j hj
      obtain ⟨hl, he⟩ := List.getElem?_eq_some_iff.1 hy
      rw [he] at this
      simpa using this
    have hxk : xs[k0]? = some xs[k0] := List.getElem?_eq_getElem hk0
    have ht0 : (xs.take k0).filter (fun x => !p x) = xs.take k0 := List.filter_eq_self.2 (fun x hx => by
      obtain ⟨j, hj, rfl⟩ := List.getElem_of_mem hx
      have hj' : j < k0 := by rw [List.length_take] at hj; omega
      rw [hlow' j _ hj' (by rw [List.getElem_take]; exact List.getElem?_eq_getElem (by omega))]; rfl)
    have ht1 : (xs.take (k0 + 1)).filter (fun x => !p x) = xs.take k0 := by
      rw [E.take_snoc hxk, ht0, hpk]; simp
    have HX := hide hcur
    have HT := hide ht1
    have HN := hide hn
    have HB := hide hblk
    have HS := hide hsz
    have HM := hide hmm
    have HP := hide hp
    have HST := hide hst
    have HK := hide hK
    have HBG := hide hbg
    have HCM := hide hcapm
    have lgb : gb < w.heap.size := blk_lt hblk
    have hne1 : ((k0 : Int) == -1) = false := beq_eq_false_iff_ne.2 (by omega)
    clear hcur ht1 ht0 hn hblk hsz hmm hp hst hst0 hK hbg hcapm hlow hlow' hxk hpk htk hh e1 hk0
    have hcn : (n : Int) ≤ (c : Int) := by omega
    have hm' : (n : Int) ≤ 1000000 := by omega
    have hk0i : (0 : Int) ≤ (k0 : Int) := by omega
    go_enter Tryz.func51, Tryz.ntmps51
    go_wp2_with (go_at_call 65; refine hIF.mono ?_; rintro e w2 ⟨rfl, hg2⟩)
    have HG2 := hide hg2
    clear hg2 hIF
    go_loopw [5, 6] (fun s5 s6 wr => ∃ (i j : Nat) (cs : Array Value), s5 = .int .i64 i ∧ s6 = .int .i64 j ∧ j ≤ n ∧ i < j ∧ Hid (wr.heap[gb]? = some (.cells cs 3 (0, 0))) ∧ Hid (cs.size = c * 1) ∧ Hid (((xs.take j).filter fun x => !p x).length = i) ∧ Hid (∀ (k : Nat) y, ((xs.take j).filter fun x => !p x)[k]? = some y → cs[k]? = some (.int .i64 y)) ∧ Hid (∀ (k : Nat) y, j ≤ k → xs[k]? = some y → cs[k]? = some (.int .i64 y)) ∧ Hid (w.grownBy wr (some gb))) (fun _ t _ => n - (intOf t).toNat)
    case atStart =>
      exact ⟨k0, k0 + 1, cur, rfl, by go_num, by omega, by omega, hide ((HG2.out.block gb lgb (by simp)).trans HB.out), HS, hide (by rw [HT.out, List.length_take]; have := HN.out; omega), hide (fun k y hy => by
        rw [HT.out, List.getElem?_take] at hy
        split at hy
        · exact HX.out k y hy
        · cases hy), hide (fun k y _ hy => HX.out k y hy), hide ⟨HG2.out.os, HG2.out.tape, HG2.out.output, HG2.out.size, fun i hi _ => HG2.out.block i hi (by simp)⟩⟩
    case round =>
      obtain ⟨i, j, cs, rfl, rfl, hj, hij, HB1, HS1, HL1, HW1, HH1, HG1⟩ := hrel
      have hi0 : (0 : Int) ≤ (i : Int) := by omega
      have hj0 : (0 : Int) ≤ (j : Int) := by omega
      have lgr : gb < wr.heap.size := blk_lt HB1.out
      by_cases hlt : j < n
      · obtain ⟨x, hx⟩ : ∃ q, xs[j]? = some q := ⟨_, List.getElem?_eq_getElem (by have := HN.out; omega)⟩
        have c0 : wr.cell? ⟨gb, j, none⟩ = some (.int .i64 x) := (blk_cell HB1.out j).trans (HH1.out j x (Nat.le_refl _) hx)
        obtain ⟨old, ho⟩ : ∃ u, cs[i]? = some u := ⟨_, Array.getElem?_eq_getElem (by have := HS1.out; omega)⟩
        have c1 : wr.cell? ⟨gb, i, none⟩ = some old := (blk_cell HB1.out i).trans ho
        have f1 := blk_frozen HB1.out i
        have HX1 := hide hx
        have HSN := hide (E.take_snoc hx (fun x => !p x))
        clear hx ho
        have hlt' : (j : Int) < (n : Int) := by omega
        have hin : (i : Int) < (n : Int) := by omega
        have hc := HP.out wr x (List.mem_of_getElem? HX1.out) (HST.out w wr HK.out HG1.out)
        cases h0 : p x
        · rw [h0] at hc
          have HX0 := hide h0
          clear h0
          go_wp2_with (go_at_fn g; refine hc.mono ?_; rintro e w3 ⟨rfl, hg3⟩; obtain ⟨hc3, hf3⟩ := bcell (bel_of hg3); have q3 := hg3.size; have lg3 : gb < w3.heap.size := (by omega))
          go_roundw
          case rel =>
            have hb3 := (hg3.block gb lgr (by simp)).trans HB1.out
            have e2 : ((xs.take (j + 1)).filter fun x => !p x) = ((xs.take j).filter fun x => !p x) ++ [x] := by rw [HSN.out, HX0.out]; rfl
            refine ⟨i + 1, j + 1, cs.setIfInBounds i (.int .i64 x), by go_num, by go_num, by omega, by omega, hide (blk_set hb3 i _), hide (by rw [Array.size_setIfInBounds]; exact HS1.out), hide (by rw [e2, List.length_append, HL1.out]; rfl), hide (fun k y hy => ?_), hide (fun k y hk hy => ?_), hide (gr_trans (gr_trans HG1.out ⟨hg3.os, hg3.tape, hg3.output, hg3.size, fun i hi _ => hg3.block i hi (by simp)⟩) (gr_set _ _ _ _))⟩
            · rw [e2] at hy
              rw [Array.getElem?_setIfInBounds]
              rcases Nat.lt_or_ge k i with h | h
              · rw [if_neg (by omega)]
                rw [List.getElem?_append_left (by rw [HL1.out]; omega)] at hy
                exact HW1.out k y hy
              · have hki : k = i := by
                  have := (List.getElem?_eq_some_iff.1 hy).1
                  rw [List.length_append, HL1.out] at this
                  simp at this; omega
                subst hki
                rw [List.getElem?_append_right (by rw [HL1.out]; omega), HL1.out] at hy
                simp at hy
                rw [if_pos rfl, if_pos (by have := HS1.out; omega), hy]
            · rw [Array.getElem?_setIfInBounds, if_neg (by omega)]
              exact HH1.out k y (by omega) hy
          case measure => simp [intOf]; omega
        · rw [h0] at hc
          have HX0 := hide h0
          clear h0
          go_wp2_with (go_at_fn g; refine hc.mono ?_; rintro e w3 ⟨rfl, hg3⟩; obtain ⟨hc3, hf3⟩ := bcell (bel_of hg3); have q3 := hg3.size; have lg3 : gb < w3.heap.size := (by omega))
          go_roundw
          case rel =>
            have hb3 := (hg3.block gb lgr (by simp)).trans HB1.out
            have e2 : ((xs.take (j + 1)).filter fun x => !p x) = ((xs.take j).filter fun x => !p x) := by rw [HSN.out, HX0.out]; simp
            exact ⟨i, j + 1, cs, rfl, by go_num, by omega, by omega, hide hb3, HS1, hide (by rw [e2]; exact HL1.out), hide (by rw [e2]; exact HW1.out), hide (fun k y hk hy => HH1.out k y (by omega) hy), hide (gr_trans HG1.out ⟨hg3.os, hg3.tape, hg3.output, hg3.size, fun i hi _ => hg3.block i hi (by simp)⟩)⟩
          case measure => simp [intOf]; omega
      · obtain rfl : j = n := by omega
        have htn : xs.take j = xs := List.take_of_length_le (by have := HN.out; omega)
        have him : i = m := by rw [← HL1.out, htn]; exact HM.out
        have HTN := hide htn
        subst him
        have hcl : ∀ ty, (Builtin.clear_ #[36] ty #[.slice (some ⟨gb, i, none⟩) (j - i) (c - i)]).run Tryz.prog wr = .ok (.tuple #[]) (wr.setCells gb i (List.replicate (j - i) (.int .i64 0))) :=
          fun ty => Lib.run_clear_slice wr _ _ ty _ Tryz.underlying36 (fun w => by kernel_rfl) rfl rfl gb i _ _ (by omega) (fun t ht => by rw [blk_cell HB1.out]; rw [Array.getElem?_eq_getElem (by have := HS1.out; omega)]; rfl) (fun t _ => blk_frozen HB1.out _)
        clear htn
        go_wp2_with fail
        go_ret
        obtain ⟨cs', hb', hs', hk'⟩ := blk_sets (List.replicate (j - i) (.int .i64 0)) i HB1.out
        refine ⟨rfl, ⟨by rw [flatI_length]; have := HM.out; omega, .inr ⟨gb, c, cs', rfl, HBG.out, hb', by omega, HCM.out, by rw [hs']; exact HS1.out, ?_⟩⟩, gr_trans HG1.out (gr_sets _ _ _ _)⟩
        refine List.ext_getElem? (fun k => ?_)
        have hw := HW1.out
        rw [HTN.out] at hw
        rw [List.getElem?_take]
        split
        · rename_i hk
          obtain ⟨y, hy⟩ : ∃ y, (xs.filter fun x => !p x)[k]? = some y := ⟨_, List.getElem?_eq_getElem (by have := HM.out; omega)⟩
          rw [flatI_at hy, Array.getElem?_toList, hk' k (by omega)]
          exact hw k y hy
        · rw [List.getElem?_eq_none (by rw [flatI_length]; have := HM.out; omega)]

end Go.Proofs.YtobjahlmjcnfoaaGreat

namespace Go.Proofs.YtobjahlmjcnfoaaGreat
open Go.RowKit Go.Maps

theorem intKeyed : Keyed Tryz.prog 3 := int_keyed Tryz.underlying3
theorem keyI {k : Int} (h0 : 0 ≤ k) (h1 : k ≤ 999) : keyOf Tryz.prog 3 (.int .i64 k) = some (.int .i64 k) := keyOf_int_mk Tryz.underlying3 (WalkArith.wf_i64 (by omega))
theorem keyI_ne {j k : Int} (h : j ≠ k) : (Lit.int .i64 j) ≠ Lit.int .i64 k := fun e => h (by injection e)

structure Elem (α : Type) where
  enc : α → Value
  dat : α → DataW Unit
  zero : α
  enc_inj : ∀ x y, enc x = enc y → x = y
  dat_inj : ∀ x y, dat x = dat y → x = y

section
variable {α : Type} (E : Elem α)
open Classical in
noncomputable def Elem.rd (v : Value) : Option (DataW Unit × List MemPlace) := if h : ∃ x, E.enc x = v then some (E.dat h.choose, []) else none
theorem Elem.rd_enc (x : α) : E.rd (E.enc x) = some (E.dat x, []) := by
  unfold Elem.rd
  have h : ∃ y, E.enc y = E.enc x := ⟨x, rfl⟩
  rw [dif_pos h, E.enc_inj _ _ h.choose_spec]
theorem Elem.rd_inv {v : Value} {y : DataW Unit × List MemPlace} (h : E.rd v = some y) : ∃ x, v = E.enc x ∧ y = (E.dat x, []) := by
  unfold Elem.rd at h
  split at h
  · rename_i hx
    exact ⟨hx.choose, hx.choose_spec.symm, (Option.some.inj h).symm⟩
  · cases h

def MapK (w : World) (B : Nat) (F : Int → α) (kn : Int → Bool) (n : Nat) : Prop :=
  ∃ D : DataW Unit, w.ownsMap Tryz.prog 3 E.rd B n D ∧ (∀ k, 0 ≤ k → k ≤ 999 → D.atKey (.int .i64 k) (E.dat E.zero) = E.dat (F k) ∧ Maps.has D (.int .i64 k) = kn k) ∧ ∀ kl, Maps.has D kl = true → ∃ k, kl = .int .i64 k ∧ 0 ≤ k ∧ k ≤ 999

variable {E : Elem α} {w w' : World} {B n : Nat} {F : Int → α} {kn : Int → Bool}
theorem MapK.made (w : World) : MapK E (w.alloc (.map #[] 0)) w.heap.size (fun _ => E.zero) (fun _ => false) 0 :=
  ⟨.map [], World.ownsMap_made _ _ _ _, fun k _ _ => ⟨by simp [DataW.atKey], rfl⟩, fun kl h => by simp [Maps.has] at h⟩
theorem MapK.lt (h : MapK E w B F kn n) : B < w.heap.size := by
  obtain ⟨D, h, _⟩ := h; exact h.lt
theorem MapK.kept {row : Option Nat} (h : MapK E w B F kn n) (hg : w.grownBy w' row) (hne : some B ≠ row) : MapK E w' B F kn n := by
  obtain ⟨D, h, hF⟩ := h
  exact ⟨D, h.kept hg hne, hF⟩
theorem MapK.below (h : MapK E w B F kn n) (hb : Below w.heap.size w w') : MapK E w' B F kn n := h.kept (gr_of hb) (by simp)
theorem MapK.look {t e : TypeId} (ht : Tryz.prog.underlying t = some (.map 3 e)) (hz : ∀ w, (zeroValue e).run Tryz.prog w = .ok (E.enc E.zero) w) (h : MapK E w B F kn n) {k : Int} (h0 : 0 ≤ k) (h1 : k ≤ 999) :
    (Instr.lookup t (.map (some B)) (.int .i64 k) false).run Tryz.prog w = .ok (E.enc (F k)) w := by
  obtain ⟨D, h, hF, _⟩ := h
  obtain ⟨v, ps, hrun, hat⟩ := h.lookup intKeyed ht (hz w) (E.rd_enc E.zero) (keyI h0 h1)
  rw [(hF k h0 h1).1] at hat
  obtain ⟨x, rfl, hx⟩ := E.rd_inv hat
  have := E.dat_inj _ _ (congrArg Prod.fst hx)
  rw [this]; exact hrun
theorem MapK.lookOk {t e : TypeId} (ht : Tryz.prog.underlying t = some (.map 3 e)) (hz : ∀ w, (zeroValue e).run Tryz.prog w = .ok (E.enc E.zero) w) (h : MapK E w B F kn n) {k : Int} (h0 : 0 ≤ k) (h1 : k ≤ 999) :
    (Instr.lookup t (.map (some B)) (.int .i64 k) true).run Tryz.prog w = .ok (.tuple #[E.enc (F k), .bool (kn k)]) w := by
  obtain ⟨D, h, hF, _⟩ := h
  obtain ⟨v, ps, hrun, hat⟩ := h.look_ok intKeyed ht (hz w) (E.rd_enc E.zero) (keyI h0 h1)
  rw [(hF k h0 h1).1] at hat
  obtain ⟨x, rfl, hx⟩ := E.rd_inv hat
  have := E.dat_inj _ _ (congrArg Prod.fst hx)
  rw [this, ← (hF k h0 h1).2]; exact hrun
theorem MapK.store {t e : TypeId} (ht : Tryz.prog.underlying t = some (.map 3 e)) (h : MapK E w B F kn n) (hn : n < 1000000) {k : Int} (h0 : 0 ≤ k) (h1 : k ≤ 999) (v : α) :
    ∃ w', (Instr.mapUpdate t (.map (some B)) (.int .i64 k) (E.enc v)).run Tryz.prog w = .ok () w' ∧ MapK E w' B (fun j => if j = k then v else F j) (fun j => if j = k then true else kn j) (n + 1) ∧ w.grownBy w' (some B) := by
  obtain ⟨D, h, hF, hR⟩ := h
  obtain ⟨w', hrun, ho, hg⟩ := h.update intKeyed ht (by simp only [maxLen]; omega) (keyI h0 h1) (E.rd_enc v)
  refine ⟨w', hrun, ⟨_, ho, fun j j0 j1 => ?_, fun kl hkl => ?_⟩, hg⟩
  · by_cases e : j = k
    · subst e
      simp only [if_true]
      exact ⟨atKey_put_same h.isMap (intKeyed.key (keyI h0 h1)) _ _, has_put_same h.isMap (intKeyed.key (keyI h0 h1)) _⟩
    · simp only [if_neg e]
      rw [atKey_put_other (keyI_ne e), has_put_other (keyI_ne e)]
      exact hF j j0 j1
  · by_cases e : kl = .int .i64 k
    · exact ⟨k, e, h0, h1⟩
    · rw [has_put_other e] at hkl
      exact hR kl hkl

def RangeK (E : Elem α) (w : World) (B r : Nat) (F : Int → α) (kn : Int → Bool) (n : Nat) (vis : List Int) (cnt : Nat) : Prop :=
  ∃ (D : DataW Unit) (left : Lit → Bool), w.ranges Tryz.prog 3 E.rd B r n D left cnt ∧ (∀ k, 0 ≤ k → k ≤ 999 → D.atKey (.int .i64 k) (E.dat E.zero) = E.dat (F k) ∧ Maps.has D (.int .i64 k) = kn k) ∧ (∀ kl, Maps.has D kl = true → ∃ k, kl = .int .i64 k ∧ 0 ≤ k ∧ k ≤ 999)
    ∧ (∀ kl, left kl = true → Maps.has D kl = true) ∧ (∀ k, 0 ≤ k → k ≤ 999 → left (.int .i64 k) = (kn k && !vis.contains k)) ∧ vis.Nodup ∧ (∀ k ∈ vis, 0 ≤ k ∧ k ≤ 999 ∧ kn k = true) ∧ vis.length + cnt ≤ n
theorem RangeK.left_eq {r : Nat} {vis : List Int} {cnt : Nat} (h : RangeK E w B r F kn n vis cnt) : w.rangeLeft B r = cnt := by
  obtain ⟨D, left, h, _⟩ := h; exact h.left_eq
theorem RangeK.kept {r : Nat} {vis : List Int} {cnt : Nat} {row : Option Nat} (h : RangeK E w B r F kn n vis cnt) (hg : w.grownBy w' row) (h1 : some B ≠ row) (h2 : some r ≠ row) : RangeK E w' B r F kn n vis cnt := by
  obtain ⟨D, left, h, hr⟩ := h; exact ⟨D, left, h.kept hg h1 h2, hr⟩
theorem RangeK.map {r : Nat} {vis : List Int} {cnt : Nat} (h : RangeK E w B r F kn n vis cnt) : MapK E w B F kn n := by
  obtain ⟨D, left, h, h1, h2, _⟩ := h; exact ⟨D, h.owns, h1, h2⟩
theorem RangeK.ne {r : Nat} {vis : List Int} {cnt : Nat} (h : RangeK E w B r F kn n vis cnt) : r ≠ B := by
  obtain ⟨D, left, h, _⟩ := h; exact h.ne
theorem RangeK.lt {r : Nat} {vis : List Int} {cnt : Nat} (h : RangeK E w B r F kn n vis cnt) : r < w.heap.size := by
  obtain ⟨D, left, h, _⟩ := h; exact h.lt

theorem wpList_range_K {α : Type} {E : Elem α} {w : World} {ops : Array Oper} {rest : List Oper} {o : Oper} {a : Act} {Q : Exit → Act → World → Prop} {B n : Nat} {F : Int → α} {kn : Int → Bool} (hg : o.guard = none) (m : Operand) (t e : TypeId) (hop : o.op = Op.range t m)
    (ht : Tryz.prog.underlying t = some (.map 3 e)) (hm : a.eval m = .map (some B)) (h : MapK E w B F kn n)
    (hK : ∀ w' cnt, RangeK E w' B w.heap.size F kn n [] cnt → w.grownBy w' none → w'.heap.size = w.heap.size + 1 → wpList Tryz.prog ops Q rest (a.put o.dst (.pointer (some ⟨w.heap.size, 0, none⟩))) w') :
    wpList Tryz.prog ops Q (o :: rest) a w := by
  obtain ⟨D, h, hF, hR⟩ := h
  refine wpList_range_own w hg m t hop 3 e intKeyed ht E.rd B n D hm h (fun w' hr hgr hs => hK w' _ ⟨D, _, hr, hF, hR, fun _ h => h, fun k k0 k1 => by rw [(hF k k0 k1).2]; simp, List.nodup_nil, (fun _ h => by cases h), by simpa using h.size_le⟩ hgr hs)

theorem wpList_next_K {α : Type} {E : Elem α} {w : World} {ops : Array Oper} {rest : List Oper} {o : Oper} {a : Act} {Q : Exit → Act → World → Prop} {B r n cnt : Nat} {F : Int → α} {kn : Int → Bool} {vis : List Int} (hg : o.guard = none) (it : Operand) (hop : o.op = Op.next it false)
    (hit : a.eval it = .pointer (some ⟨r, 0, none⟩)) (h : RangeK E w B r F kn n vis cnt)
    (hDone : (∀ k, 0 ≤ k → k ≤ 999 → kn k = true → k ∈ vis) → wpList Tryz.prog ops Q rest (a.put o.dst (.tuple #[.bool false])) w)
    (hMore : ∀ (k : Int) (w' : World) (cnt' : Nat), 0 ≤ k → k ≤ 999 → kn k = true → k ∉ vis → RangeK E w' B r F kn n (vis ++ [k]) cnt' → cnt' < cnt → w.grownBy w' (some r) → w'.heap.size = w.heap.size →
      (Instr.entry (.pointer (some ⟨r, 0, none⟩))).run Tryz.prog w' = .ok (.tuple #[.int .i64 k, E.enc (F k)]) w' → wpList Tryz.prog ops Q rest (a.put o.dst (.tuple #[.bool true, .int .i64 k, E.enc (F k)])) w') :
    wpList Tryz.prog ops Q (o :: rest) a w := by
  obtain ⟨D, left, h, hF, hR, hL, hLk, hN, hV, hC⟩ := h
  refine wpList_next_ranges w hg it hop 3 intKeyed E.rd (Value.int .i64) E.enc (fun key kl hkey => by obtain ⟨x, rfl, _⟩ := Maps.keyOf_int_inv Tryz.underlying3 hkey; exact ⟨x, rfl⟩) (fun v y hv => by obtain ⟨x, rfl, _⟩ := E.rd_inv hv; exact ⟨x, rfl⟩) B r n D left cnt hit h
    (fun _ hl => hDone (fun k k0 k1 hk => by
      have := hl (.int .i64 k)
      rw [hLk k k0 k1, hk, Bool.true_and, Bool.not_eq_false'] at this
      simpa using this)) (fun x c kl y w' cnt' hkey hlk hv hat hrg hlt hgr hsz hen => ?_)
  obtain ⟨k, hkl, k0, k1⟩ := hR kl (hL kl hlk)
  obtain ⟨x', hx', hkl', _⟩ := Maps.keyOf_int_inv Tryz.underlying3 hkey
  injection hx' with _ hx'
  subst hx'
  rw [hkl'] at hkl
  injection hkl with _ hkl
  subst hkl
  subst hkl'
  have hl2 := hlk
  rw [hLk x k0 k1, Bool.and_eq_true, Bool.not_eq_true'] at hl2
  obtain ⟨hkn, hnv⟩ := hl2
  have hnv' : x ∉ vis := by simpa using hnv
  obtain ⟨x2, hx2, hy⟩ := E.rd_inv hv
  have e1 : E.dat (F x) = E.dat x2 := by rw [← (hF x k0 k1).1, hat, hy]
  have e2 := E.dat_inj _ _ e1
  have e3 : E.enc c = E.enc (F x) := by rw [hx2, e2]
  rw [e3] at hen ⊢
  refine hMore x w' cnt' k0 k1 hkn hnv' ⟨D, _, hrg, hF, hR, fun kl h => hL kl (by simp only [Bool.and_eq_true] at h; exact h.1), fun j j0 j1 => ?_, List.nodup_append.2 ⟨hN, by simp, fun a ha b hb => by simp at hb; subst hb; exact fun e => hnv' (e ▸ ha)⟩, fun j hj => ?_, by simp; omega⟩ hlt hgr hsz hen
  · rw [hLk j j0 j1]
    by_cases e : j = x
    · subst e
      have : (Lit.int .i64 j).sameKey (Lit.int .i64 j) = true := by simp [Lit.sameKey]
      rw [this]; simp
    · rw [sameKey_ne (keyI_ne e)]
      have : (vis ++ [x]).contains j = vis.contains j := by simp [e]
      rw [this]; simp
  · rcases List.mem_append.1 hj with h | h
    · exact hV j h
    · simp at h; subst h; exact ⟨k0, k1, hkn⟩
end

def encP (p : E.Pl) : Value := .agg #[.bool p.ent, .bool p.grd, .bool p.card, .bool p.quit, .bool p.sgn, .int .i64 p.rank, .int .i64 p.turn]
def encN (x : E.Nt) : Value := .agg #[.int .i64 x.id, .int .i64 x.hour, .int .i64 x.kind, .int .i64 x.player, .int .i64 x.rank]
def elP : Elem E.Pl where
  enc := encP
  dat p := .agg [.lit (.bool p.ent), .lit (.bool p.grd), .lit (.bool p.card), .lit (.bool p.quit), .lit (.bool p.sgn), .lit (.int .i64 p.rank), .lit (.int .i64 p.turn)]
  zero := E.Pl.zero
  enc_inj x y h := by cases x; cases y; simp [encP] at h ⊢; simp_all
  dat_inj x y h := by cases x; cases y; simp at h ⊢; simp_all
def elN : Elem E.Nt where
  enc := encN
  dat x := .agg [.lit (.int .i64 x.id), .lit (.int .i64 x.hour), .lit (.int .i64 x.kind), .lit (.int .i64 x.player), .lit (.int .i64 x.rank)]
  zero := ⟨0, 0, 0, 0, 0⟩
  enc_inj x y h := by cases x; cases y; simp [encN] at h ⊢; simp_all
  dat_inj x y h := by cases x; cases y; simp at h ⊢; simp_all
theorem zeroP (w : World) : (zeroValue 79).run Tryz.prog w = .ok (elP.enc elP.zero) w := by kernel_rfl
theorem zeroN (w : World) : (zeroValue 70).run Tryz.prog w = .ok (elN.enc elN.zero) w := by kernel_rfl

end Go.Proofs.YtobjahlmjcnfoaaGreat

namespace Go.Proofs.YtobjahlmjcnfoaaGreat
open Go.RowKit

theorem within_any (n lo hi : Int) (w : World) :
    Calls Tryz.prog 33 #[.int .i64 n, .int .i64 lo, .int .i64 hi] w fun e w' => e = .returned (.bool (E.within n lo hi)) ∧ w = w' := by
  by_cases h1 : lo ≤ n <;> by_cases h2 : n ≤ hi <;>
    (go_enter Tryz.func33, Tryz.ntmps33
     go_wp2
     go_ret
     exact ⟨by simp [E.within, h1, h2], rfl⟩)

theorem one_any (b : Bool) (w : World) :
    Calls Tryz.prog 59 #[.bool b] w fun e w' => e = .returned (.int .i64 (E.one b)) ∧ w = w' := by
  cases b <;>
    (go_enter Tryz.func59, Tryz.ntmps59
     go_wp2
     go_ret
     exact ⟨rfl, rfl⟩)

theorem entry_any (p : E.Pl) (w : World) :
    Calls Tryz.prog 54 #[.agg #[.bool p.ent, .bool p.grd, .bool p.card, .bool p.quit, .bool p.sgn, .int .i64 p.rank, .int .i64 p.turn]] w fun e w' => e = .returned (.bool p.entry) ∧ w' = w.alloc (.cells #[.bool p.ent, .bool p.grd, .bool p.card, .bool p.quit, .bool p.sgn, .int .i64 p.rank, .int .i64 p.turn] 79) := by
  obtain ⟨a, b, c, d, e, r, t⟩ := p
  cases a <;> cases c <;> cases d <;>
    (go_enter Tryz.func54, Tryz.ntmps54
     go_wp2
     go_ret
     exact ⟨rfl, rfl⟩)

set_option maxHeartbeats 1600000 in
theorem validField_any (f : E.Fd) (w : World) :
    Calls Tryz.prog 48 #[.agg #[.int .i64 f.places, .int .i64 f.wilds, .int .i64 f.guards, .int .i64 f.close, .int .i64 f.freeze]] w fun e w' => e = .returned (.bool (E.validField f)) ∧ Below w.heap.size w w' := by
  have ho : ∃ b, Hid (E.validField f = b) := ⟨_, rfl⟩
  obtain ⟨b, hb⟩ := ho
  have hb' := hb.out
  unfold E.validField at hb'
  cases h1 : E.within f.places 1 32 <;> cases h2 : E.within f.wilds 0 32 <;> cases h3 : E.within f.guards 0 32 <;> cases h4 : E.within f.close 0 9999 <;> cases h5 : E.within f.freeze f.close 9999 <;>
    (rw [h1, h2, h3, h4, h5] at hb'
     have hb2 : _ = b := hb'
     simp only [Bool.and_true, Bool.and_false, Bool.true_and, Bool.false_and] at hb2
     subst hb2
     have H1 := hide h1
     have H2 := hide h2
     have H3 := hide h3
     have H4 := hide h4
     have H5 := hide h5
     clear h1 h2 h3 h4 h5 hb'
     go_enter Tryz.func48, Tryz.ntmps48
     go_wp2_with (first | (go_at_call 33; with_reducible refine (within_any f.places 1 32 _).mono ?_; rintro e w' ⟨rfl, rfl⟩; rw [H1.out]) | (go_at_call 33; with_reducible refine (within_any f.wilds 0 32 _).mono ?_; rintro e w' ⟨rfl, rfl⟩; rw [H2.out]) | (go_at_call 33; with_reducible refine (within_any f.guards 0 32 _).mono ?_; rintro e w' ⟨rfl, rfl⟩; rw [H3.out]) | (go_at_call 33; with_reducible refine (within_any f.close 0 9999 _).mono ?_; rintro e w' ⟨rfl, rfl⟩; rw [H4.out]) | (go_at_call 33; with_reducible refine (within_any f.freeze f.close 9999 _).mono ?_; rintro e w' ⟨rfl, rfl⟩; rw [H5.out]))
     go_ret
     exact ⟨by rw [hb.out]; rfl, by (repeat' first | exact zbR _ _ | assumption | refine zbD ?_ | refine zbA ?_ ?_ _ | refine zbS ?_ ?_ _ | refine zbT ?_ (by assumption) ?_ | (simp; done) | (simp; omega) | omega)⟩)

theorem ranksOf_any (k : Int) (w : World) :
    Calls Tryz.prog 76 #[.int .i64 k] w fun e w' => e = .returned (.agg #[.int .i64 (E.lowOf k), .int .i64 (E.highOf k)]) ∧ Below w.heap.size w w' := by
  by_cases h1 : k = 1
  · (subst h1; go_enter Tryz.func76, Tryz.ntmps76; go_wp2; exact bodyPost_ret (v := .agg #[.int .i64 0, .int .i64 9999]) (by simp [results, Tryz.results76, go_sem]) rfl ⟨rfl, by (repeat' first | exact zbR _ _ | assumption | refine zbD ?_ | refine zbA ?_ ?_ _ | refine zbS ?_ ?_ _ | refine zbT ?_ (by assumption) ?_ | (simp; done) | (simp; omega) | omega)⟩)
  · by_cases h2 : k = 2
    · (subst h2; go_enter Tryz.func76, Tryz.ntmps76; go_wp2; exact bodyPost_ret (v := .agg #[.int .i64 1, .int .i64 9999]) (by simp [results, Tryz.results76, go_sem]) rfl ⟨rfl, by (repeat' first | exact zbR _ _ | assumption | refine zbD ?_ | refine zbA ?_ ?_ _ | refine zbS ?_ ?_ _ | refine zbT ?_ (by assumption) ?_ | (simp; done) | (simp; omega) | omega)⟩)
    · by_cases h3 : k = 3
      · (subst h3; go_enter Tryz.func76, Tryz.ntmps76; go_wp2; exact bodyPost_ret (v := .agg #[.int .i64 0, .int .i64 0]) (by simp [results, Tryz.results76, go_sem]) rfl ⟨rfl, by (repeat' first | exact zbR _ _ | assumption | refine zbD ?_ | refine zbA ?_ ?_ _ | refine zbS ?_ ?_ _ | refine zbT ?_ (by assumption) ?_ | (simp; done) | (simp; omega) | omega)⟩)
      · by_cases h4 : k = 4
        · (subst h4; go_enter Tryz.func76, Tryz.ntmps76; go_wp2; exact bodyPost_ret (v := .agg #[.int .i64 0, .int .i64 0]) (by simp [results, Tryz.results76, go_sem]) rfl ⟨rfl, by (repeat' first | exact zbR _ _ | assumption | refine zbD ?_ | refine zbA ?_ ?_ _ | refine zbS ?_ ?_ _ | refine zbT ?_ (by assumption) ?_ | (simp; done) | (simp; omega) | omega)⟩)
        · by_cases h5 : k = 5
          · (subst h5; go_enter Tryz.func76, Tryz.ntmps76; go_wp2; exact bodyPost_ret (v := .agg #[.int .i64 0, .int .i64 0]) (by simp [results, Tryz.results76, go_sem]) rfl ⟨rfl, by (repeat' first | exact zbR _ _ | assumption | refine zbD ?_ | refine zbA ?_ ?_ _ | refine zbS ?_ ?_ _ | refine zbT ?_ (by assumption) ?_ | (simp; done) | (simp; omega) | omega)⟩)
          · have e1 : E.lowOf k = 1 := by simp [E.lowOf, h1, h2, h3, h4, h5]
            have e2 : E.highOf k = 0 := by simp [E.highOf, h1, h2]
            rw [e1, e2]
            have d1 : (k == 1) = false := by simpa using h1
            have d2 : (k == 2) = false := by simpa using h2
            have d3 : (k == 3) = false := by simpa using h3
            have d4 : (k == 4) = false := by simpa using h4
            have d5 : (k == 5) = false := by simpa using h5
            clear e1 e2 h1 h2 h3 h4 h5
            (skip; go_enter Tryz.func76, Tryz.ntmps76; go_wp2; exact bodyPost_ret (v := .agg #[.int .i64 1, .int .i64 0]) (by simp [results, Tryz.results76, go_sem]) rfl ⟨rfl, by (repeat' first | exact zbR _ _ | assumption | refine zbD ?_ | refine zbA ?_ ?_ _ | refine zbS ?_ ?_ _ | refine zbT ?_ (by assumption) ?_ | (simp; done) | (simp; omega) | omega)⟩)

set_option maxHeartbeats 1600000 in
theorem validNotice_any (x : E.Nt) (w : World) :
    Calls Tryz.prog 68 #[.agg #[.int .i64 x.id, .int .i64 x.hour, .int .i64 x.kind, .int .i64 x.player, .int .i64 x.rank]] w fun e w' => e = .returned (.bool (E.validNotice x)) ∧ Below w.heap.size w w' := by
  have ho : ∃ b, Hid (E.validNotice x = b) := ⟨_, rfl⟩
  obtain ⟨b, hb⟩ := ho
  have hb' := hb.out
  unfold E.validNotice at hb'
  obtain ⟨lo, hlo⟩ : ∃ y, E.lowOf x.kind = y := ⟨_, rfl⟩
  obtain ⟨hi, hhi⟩ : ∃ y, E.highOf x.kind = y := ⟨_, rfl⟩
  rw [hlo, hhi] at hb'
  have HLO := hide hlo
  have HHI := hide hhi
  clear hlo hhi
  cases h1 : E.within x.id 0 999 <;> cases h2 : E.within x.player 0 999 <;> cases h3 : E.within x.hour 0 9999 <;> cases h4 : E.within x.rank lo hi <;>
    (rw [h1, h2, h3, h4] at hb'
     have hb2 : _ = b := hb'
     simp only [Bool.and_true, Bool.and_false, Bool.true_and, Bool.false_and] at hb2
     subst hb2
     have H1 := hide h1
     have H2 := hide h2
     have H3 := hide h3
     have H4 := hide h4
     clear h1 h2 h3 h4 hb'
     go_enter Tryz.func68, Tryz.ntmps68
     go_wp2_with (first | (go_at_call 76; refine (ranksOf_any x.kind _).mono ?_; rintro e w9 ⟨rfl, hb9⟩; rw [HLO.out, HHI.out]; obtain ⟨hc9, hf9⟩ := bcell hb9; have z9 : w.heap.size < w9.heap.size := (by have := hb9.size; (try simp at this); omega)) | (go_at_call 33; with_reducible refine (within_any x.id 0 999 _).mono ?_; rintro e w' ⟨rfl, rfl⟩; rw [H1.out]) | (go_at_call 33; with_reducible refine (within_any x.player 0 999 _).mono ?_; rintro e w' ⟨rfl, rfl⟩; rw [H2.out]) | (go_at_call 33; with_reducible refine (within_any x.hour 0 9999 _).mono ?_; rintro e w' ⟨rfl, rfl⟩; rw [H3.out]) | (go_at_call 33; with_reducible refine (within_any x.rank lo hi _).mono ?_; rintro e w' ⟨rfl, rfl⟩; rw [H4.out]))
     go_ret
     exact ⟨by rw [hb.out]; rfl, by (repeat' first | exact zbR _ _ | assumption | refine zbD ?_ | refine zbA ?_ ?_ _ | refine zbS ?_ ?_ _ | refine zbT ?_ (by assumption) ?_ | (simp; done) | (simp; omega) | omega)⟩)

end Go.Proofs.YtobjahlmjcnfoaaGreat

namespace Go.Proofs.YtobjahlmjcnfoaaGreat
open Go.RowKit Go.Sort
attribute [local go_sem ↓] Go.wp_at_zero Go.wp_at_succ


theorem grow_drew (W : World) (os : Array Obj) (o : Obj) : (grow W os).drew.alloc o = grow (W.drewN 1) (os ++ #[o]) := by
  rw [alloc_eq_grow]
  show grow (grow (W.drewN 1) os) #[o] = _
  exact grow_grow _ _ _
theorem compare_still (x y : Int) (w : World) : Calls Tryz.prog 58 #[.int .i64 x, .int .i64 y] w fun e w' => e = .returned (.int .i64 (E.cmp x y)) ∧ w' = w := (compare_any x y w).mono fun _ _ h => ⟨h.1, h.2.symm⟩
theorem one_still (b : Bool) (w : World) : Calls Tryz.prog 59 #[.bool b] w fun e w' => e = .returned (.int .i64 (E.one b)) ∧ w' = w := (one_any b w).mono fun _ _ h => ⟨h.1, h.2.symm⟩
theorem rdI_two {w : World} {q : Nat} {x y : Int} (hq : w.heap[q]? = some (.cells #[.int .i64 x, .int .i64 y] 3 (0, 0))) : RdI w w.heap.size (some ⟨q, 0, none⟩) [x, y] := by
  intro k z hk
  match k, hk with
  | 0, hk => have hy : x = z := Option.some.inj hk; subst hy; exact ⟨_, 0, rfl, blk_lt hq, (blk_cell hq 0).trans rfl⟩
  | 1, hk => have hy : y = z := Option.some.inj hk; subst hy; exact ⟨_, 0, rfl, blk_lt hq, (blk_cell hq 1).trans rfl⟩
  | k + 2, hk => cases hk
theorem rdI_three {w : World} {q : Nat} {x y u : Int} (hq : w.heap[q]? = some (.cells #[.int .i64 x, .int .i64 y, .int .i64 u] 3 (0, 0))) : RdI w w.heap.size (some ⟨q, 0, none⟩) [x, y, u] := by
  intro k z hk
  match k, hk with
  | 0, hk => have hy : x = z := Option.some.inj hk; subst hy; exact ⟨_, 0, rfl, blk_lt hq, (blk_cell hq 0).trans rfl⟩
  | 1, hk => have hy : y = z := Option.some.inj hk; subst hy; exact ⟨_, 0, rfl, blk_lt hq, (blk_cell hq 1).trans rfl⟩
  | 2, hk => have hy : u = z := Option.some.inj hk; subst hy; exact ⟨_, 0, rfl, blk_lt hq, (blk_cell hq 2).trans rfl⟩
  | k + 3, hk => cases hk

set_option maxHeartbeats 3200000 in
set_option maxRecDepth 100000 in
theorem cmpN_any (x y : E.Nt) (W : World) :
    Calls Tryz.prog 70 #[.agg #[.int .i64 x.id, .int .i64 x.hour, .int .i64 x.kind, .int .i64 x.player, .int .i64 x.rank], .agg #[.int .i64 y.id, .int .i64 y.hour, .int .i64 y.kind, .int .i64 y.player, .int .i64 y.rank]] W fun e w' => e = .returned (.int .i64 (E.cmpN x y)) ∧ ∃ q os', w' = grow (W.drewN q) os' := by
  go_enter Tryz.func70, Tryz.ntmps70
  go_upto_region 1 with fail
  obtain ⟨W0, hW0⟩ : ∃ W0, (W.alloc (.cells #[.int .i64 x.id, .int .i64 x.hour, .int .i64 x.kind, .int .i64 x.player, .int .i64 x.rank] 70)).alloc (.cells #[.int .i64 y.id, .int .i64 y.hour, .int .i64 y.kind, .int .i64 y.player, .int .i64 y.rank] 70) = W0 := ⟨_, rfl⟩
  have hp : W0.heap[W.heap.size]? = some (.cells #[.int .i64 x.id, .int .i64 x.hour, .int .i64 x.kind, .int .i64 x.player, .int .i64 x.rank] 70 (0, 0)) := by
    rw [← hW0]; exact (Below.heap_alloc _ _ _ (by first | (simp; done) | (simp; omega) | omega)).trans (World.alloc_heap_new _ _)
  have hq : W0.heap[W.heap.size + 1]? = some (.cells #[.int .i64 y.id, .int .i64 y.hour, .int .i64 y.kind, .int .i64 y.player, .int .i64 y.rank] 70 (0, 0)) := by
    rw [← hW0]; exact (congrArg _ (by simp)).trans (World.alloc_heap_new _ _)
  have hG : W0 = grow W #[.cells #[.int .i64 x.id, .int .i64 x.hour, .int .i64 x.kind, .int .i64 x.player, .int .i64 x.rank] 70, .cells #[.int .i64 y.id, .int .i64 y.hour, .int .i64 y.kind, .int .i64 y.player, .int .i64 y.rank] 70] := by
    rw [← hW0, alloc_eq_grow, alloc_eq_grow, grow_grow]; rfl
  have HG := hide hG
  rw [hW0]
  clear hW0 hG
  refine wp_region_still_tail 10 (by kernel_rfl) (by kernel_rfl) ?_
  simp only [List.take_succ_cons, List.take_zero, List.drop_succ_cons, List.drop_zero]
  obtain ⟨V, hV⟩ : ∃ V, W0.drew = V := ⟨_, rfl⟩
  have HV := hide hV
  change wpStill _ _ W0.drew (fun a' => wpList _ _ _ _ a' W0.drew) _ _
  rw [hV]
  have hp2 : V.heap[W.heap.size]? = some (.cells #[.int .i64 x.id, .int .i64 x.hour, .int .i64 x.kind, .int .i64 x.player, .int .i64 x.rank] 70 (0, 0)) := by rw [← hV]; exact hp
  have hq2 : V.heap[W.heap.size + 1]? = some (.cells #[.int .i64 y.id, .int .i64 y.hour, .int .i64 y.kind, .int .i64 y.player, .int .i64 y.rank] 70 (0, 0)) := by rw [← hV]; exact hq
  clear hp hq hV
  have cp0 := (blk_cell hp2 0).trans rfl; have cp1 := (blk_cell hp2 1).trans rfl; have cp2 := (blk_cell hp2 2).trans rfl; have cp3 := (blk_cell hp2 3).trans rfl; have cp4 := (blk_cell hp2 4).trans rfl
  have cq0 := (blk_cell hq2 0).trans rfl; have cq1 := (blk_cell hq2 1).trans rfl; have cq2 := (blk_cell hq2 2).trans rfl; have cq3 := (blk_cell hq2 3).trans rfl; have cq4 := (blk_cell hq2 4).trans rfl
  clear hp2 hq2
  (repeat still_step)
  still_call (compare_still x.hour y.hour _)
  (repeat still_step)
  still_call (compare_still x.id y.id _)
  refine wpStill_nil ?_
  obtain ⟨r1, hr1⟩ : ∃ r, E.cmp x.hour y.hour = r := ⟨_, rfl⟩
  obtain ⟨r2, hr2⟩ : ∃ r, E.cmp x.id y.id = r := ⟨_, rfl⟩
  have HR := hide (show E.cmpN x y = E.orL [r1, r2] by unfold E.cmpN; rw [hr1, hr2])
  rw [hr1, hr2]
  clear hr1 hr2
  go_wp2_with (go_at_call 57; refine (or_any _ 2 2 [r1, r2] _ rfl (rdI_two (World.alloc_heap_new _ _)) (by omega)).mono ?_; rintro e w' ⟨rfl, rfl⟩)
  go_ret
  exact ⟨by rw [HR.out]; rfl, 1, _, by rw [← HV.out, HG.out]; exact grow_drew _ _ _⟩

def GB (W w' : World) : Prop := Below W.heap.size W w' ∧ W.drawn ≤ w'.drawn
theorem GB.refl (W : World) : GB W W := ⟨Below.refl _ _, Nat.le_refl _⟩
theorem GB.drew {W w' : World} (h : GB W w') : GB W w'.drew := ⟨zbD h.1, Nat.le_succ_of_le h.2⟩
theorem GB.alloc {W w' : World} (h : GB W w') (o : Obj) : GB W (w'.alloc o) := ⟨zbA h.1 h.1.size o, h.2⟩
theorem GB.setRow {W w' : World} (h : GB W w') {b : Nat} (hb : W.heap.size ≤ b) (cs : Array Value) : GB W (w'.setRow b cs) := ⟨below_row h.1 hb cs, h.2⟩
theorem GB.ex {W w' : World} (h : GB W w') : ∃ q os', w' = grow (W.drewN q) os' := by
  obtain ⟨hb, hd⟩ := h
  obtain ⟨os', h1⟩ : ∃ os', w'.heap = W.heap ++ os' := by
    refine ⟨w'.heap.extract W.heap.size w'.heap.size, Array.ext_getElem? (fun i => ?_)⟩
    rw [Array.getElem?_append]
    split
    · rename_i hi; exact hb.block i hi
    · rename_i hi
      have hs := hb.size
      rw [Array.getElem?_extract]
      split
      · rename_i h2
        congr 1
        omega
      · rename_i h2
        exact Array.getElem?_eq_none (by omega)
  have h2 : W.drawn + (w'.drawn - W.drawn) = w'.drawn := by omega
  refine ⟨w'.drawn - W.drawn, os', ?_⟩
  have h3 := hb.os
  have h4 := hb.tape
  have h5 := hb.output
  show w' = World.mk (W.heap ++ os') W.tape (W.drawn + (w'.drawn - W.drawn)) W.os W.output
  rw [h2, ← h1, ← h3, ← h4, ← h5]

theorem cap_row {K : Act → World → Prop} {a : Act} {w : World} {g : Nat} {cs old : Array Value} {t : TypeId} {fr : Nat × Nat} (hg : w.heap[g]? = some (.cells old t fr))
    (h : ∀ W9 : World, W9.heap[g]? = some (.cells cs t fr) → (∀ k, k ≠ g → W9.heap[k]? = w.heap[k]?) → (∀ W, GB W w → W.heap.size ≤ g → GB W W9) → w.grownBy W9 (some g) → W9.heap.size = w.heap.size → K a W9) : K a (w.setRow g cs) :=
  h _ (setRow_heap _ _ _ _ _ _ hg) (fun k hk => setRow_other _ _ _ _ hk) (fun W hw hb => GB.setRow hw hb cs) (setRow_grown _ _ _) (by simp)

end Go.Proofs.YtobjahlmjcnfoaaGreat

namespace Go.Proofs.YtobjahlmjcnfoaaGreat
open Go.RowKit Go.Sort
attribute [local go_sem ↓] Go.wp_at_zero Go.wp_at_succ

theorem plRow : (Tryz.prog.info? 79).map (·.size) = some 7 := by kernel_rfl

set_option maxHeartbeats 6400000 in
set_option maxRecDepth 100000 in
theorem cmpP_any (bl L B n : Nat) (F : Int → E.Pl) (kn : Int → Bool) (a b : Int) (ha0 : 0 ≤ a) (ha1 : a ≤ 999) (hb0 : 0 ≤ b) (hb1 : b ≤ 999) (W : World) (hl : W.cell? ⟨bl, 0, none⟩ = some (.pointer (some ⟨L, 0, none⟩))) (hm : W.cell? ⟨L, 5, none⟩ = some (.map (some B))) (lbl : bl < W.heap.size) (lL : L < W.heap.size) (hM : MapK elP W B F kn n) :
    Calls Tryz.prog 56 #[.int .i64 a, .int .i64 b, .pointer (some ⟨bl, 0, none⟩)] W fun e w' => e = .returned (.int .i64 (E.cmpP (F a) (F b))) ∧ GB W w' := by
  obtain ⟨x, hx⟩ : ∃ x, F a = x := ⟨_, rfl⟩
  obtain ⟨y, hy⟩ : ∃ y, F b = y := ⟨_, rfl⟩
  have hSof : ∀ v, GB W v → (fun w' => GB W w' ∧ w'.cell? ⟨bl, 0, none⟩ = some (.pointer (some ⟨L, 0, none⟩)) ∧ w'.cell? ⟨L, 5, none⟩ = some (.map (some B)) ∧ (Instr.lookup 80 (.map (some B)) (.int .i64 a) false).run Tryz.prog w' = .ok (.agg #[.bool x.ent, .bool x.grd, .bool x.card, .bool x.quit, .bool x.sgn, .int .i64 x.rank, .int .i64 x.turn]) w' ∧ (Instr.lookup 80 (.map (some B)) (.int .i64 b) false).run Tryz.prog w' = .ok (.agg #[.bool y.ent, .bool y.grd, .bool y.card, .bool y.quit, .bool y.sgn, .int .i64 y.rank, .int .i64 y.turn]) w') v := by
    intro v h
    have hMv := hM.below h.1
    refine ⟨h, (h.1.cell (p := ⟨bl, 0, none⟩) lbl).trans hl, (h.1.cell (p := ⟨L, 5, none⟩) lL).trans hm, ?_, ?_⟩
    · have := hMv.look Tryz.underlying80 zeroP ha0 ha1
      rw [hx] at this; exact this
    · have := hMv.look Tryz.underlying80 zeroP hb0 hb1
      rw [hy] at this; exact this
  rw [hx, hy]
  clear hx hy hM hl hm ha0 ha1 hb0 hb1
  go_enter Tryz.func56, Tryz.ntmps56
  go_upto_region 1 with fail
  have hS : (fun w' => GB W w' ∧ w'.cell? ⟨bl, 0, none⟩ = some (.pointer (some ⟨L, 0, none⟩)) ∧ w'.cell? ⟨L, 5, none⟩ = some (.map (some B)) ∧ (Instr.lookup 80 (.map (some B)) (.int .i64 a) false).run Tryz.prog w' = .ok (.agg #[.bool x.ent, .bool x.grd, .bool x.card, .bool x.quit, .bool x.sgn, .int .i64 x.rank, .int .i64 x.turn]) w' ∧ (Instr.lookup 80 (.map (some B)) (.int .i64 b) false).run Tryz.prog w' = .ok (.agg #[.bool y.ent, .bool y.grd, .bool y.card, .bool y.quit, .bool y.sgn, .int .i64 y.rank, .int .i64 y.turn]) w') W := hSof _ (GB.refl _)
  (try dsimp only at hS)
  refine wp_region_held_drew (S := (fun w' => GB W w' ∧ w'.cell? ⟨bl, 0, none⟩ = some (.pointer (some ⟨L, 0, none⟩)) ∧ w'.cell? ⟨L, 5, none⟩ = some (.map (some B)) ∧ (Instr.lookup 80 (.map (some B)) (.int .i64 a) false).run Tryz.prog w' = .ok (.agg #[.bool x.ent, .bool x.grd, .bool x.card, .bool x.quit, .bool x.sgn, .int .i64 x.rank, .int .i64 x.turn]) w' ∧ (Instr.lookup 80 (.map (some B)) (.int .i64 b) false).run Tryz.prog w' = .ok (.agg #[.bool y.ent, .bool y.grd, .bool y.card, .bool y.quit, .bool y.sgn, .int .i64 y.rank, .int .i64 y.turn]) w')) (by kernel_rfl) ?_ (fun hD0 => ?_)
  · (try dsimp only); first | assumption | exact hSof _ (hD0.1.alloc _) | exact hSof _ (hD0.1.alloc _).drew | exact hSof _ hD0.1.drew | exact hSof _ (GB.refl _).drew
  refine tW ?_ 0 rfl (by kernel_rfl) (fun _ _ _ h => h) (by rfl) (by assumption) ?_ ?_; rotate_left; (focus (intro w hSw; (try dsimp only at hSw); go_simp; try with_reducible rfl)); try simp only [Act.put, zl, z0, z1]
  refine tW ?_ 1 rfl (by kernel_rfl) (fun _ _ _ h => h) (by rfl) (by assumption) ?_ ?_; rotate_left; (focus (intro w hSw; (try dsimp only at hSw); go_simp; try with_reducible rfl)); try simp only [Act.put, zl, z0, z1]
  refine tW ?_ 2 rfl (by kernel_rfl) (fun _ _ _ h => h) (by rfl) (by assumption) ?_ ?_; rotate_left; (focus (intro w hSw; (try dsimp only at hSw); go_simp; try with_reducible rfl)); try simp only [Act.put, zl, z0, z1]
  refine tW ?_ 3 rfl (by kernel_rfl) (fun _ _ _ h => h) (by rfl) (by assumption) ?_ ?_; rotate_left; (focus (intro w hSw; (try dsimp only at hSw); go_simp; try with_reducible rfl)); try simp only [Act.put, zl, z0, z1]
  refine tW ?_ 4 rfl (by kernel_rfl) (fun _ _ _ h => h) (by rfl) (by assumption) ?_ ?_; rotate_left; (focus (intro w hSw; (try dsimp only at hSw); go_simp; try with_reducible rfl)); try simp only [Act.put, zl, z0, z1]
  refine tW ?_ 5 rfl (by kernel_rfl) (fun _ _ _ h => h) (by rfl) (by assumption) ?_ ?_; rotate_left; (focus (intro w hSw; (try dsimp only at hSw); go_simp; try with_reducible rfl)); try simp only [Act.put, zl, z0, z1]
  refine tW ?_ 6 rfl (by kernel_rfl) (fun _ _ _ h => h) (by rfl) (by assumption) ?_ ?_; rotate_left; (focus (intro w hSw; (try dsimp only at hSw); go_simp; try with_reducible rfl)); try simp only [Act.put, zl, z0, z1]
  refine tW ?_ 7 rfl (by kernel_rfl) (fun _ _ _ h => h) (by rfl) (by assumption) ?_ ?_; rotate_left; (focus (intro w hSw; (try dsimp only at hSw); go_simp; try with_reducible rfl)); try simp only [Act.put, zl, z0, z1]
  refine tW ?_ 8 rfl (by kernel_rfl) (fun _ _ _ h => h) (by rfl) (by assumption) ?_ ?_; rotate_left; (focus (intro w hSw; (try dsimp only at hSw); go_simp; try with_reducible rfl)); try simp only [Act.put, zl, z0, z1]
  refine tW ?_ 9 rfl (by kernel_rfl) (fun _ _ _ h => h) (by rfl) (by assumption) ?_ ?_; rotate_left; (focus (intro w hSw; (try dsimp only at hSw); go_simp; try with_reducible rfl)); try simp only [Act.put, zl, z0, z1]
  refine tW ?_ 10 rfl (by kernel_rfl) (fun _ _ _ h => h) (by rfl) (by assumption) ?_ ?_; rotate_left; (focus (intro w hSw; (try dsimp only at hSw); go_simp; try with_reducible rfl)); try simp only [Act.put, zl, z0, z1]
  refine tW ?_ 11 rfl (by kernel_rfl) (fun _ _ _ h => h) (by rfl) (by assumption) ?_ ?_; rotate_left; (focus (intro w hSw; (try dsimp only at hSw); go_simp; try with_reducible rfl)); try simp only [Act.put, zl, z0, z1]
  refine wpAnyH_ready (rs := [12, 13]) (by kernel_rfl) (by simp) ?_; refine consL 12 rfl (fun K hK => ?_) ?_
  · skip
    (go_simp; (first | refine cap_alloc (K := K) (O := (.cells #[.bool false, .bool false, .bool false, .bool false, .bool false, .int .i64 0, .int .i64 0] 79 (0, 0))) (fun hG hb hle => ?_) | refine cap_allocD (K := K) (O := (.cells #[.bool false, .bool false, .bool false, .bool false, .bool false, .int .i64 0, .int .i64 0] 79 (0, 0))) (fun hG hb hle => ?_)); (try replace H7 := hide ((hb.block _ (blk_lt H7.out)).trans H7.out)); (try simp only [World.size_alloc, drew_size] at hG); have H6 := hide hG; clear hG hle hb)
    refine hK.out _ _ ?_ (fun hD1 => ?_)
    · (try dsimp only); first | assumption | exact hSof _ (hD0.1.alloc _) | exact hSof _ (hD0.1.alloc _).drew | exact hSof _ hD0.1.drew | exact hSof _ (GB.refl _).drew
    clear hK K hD0; try simp only [Act.put, zl, z0, z1]
    refine wpAnyH_ready (rs := [13]) (by kernel_rfl) (by simp) ?_; refine consL 13 rfl (fun K hK => ?_) AllReadyH.nil
    (go_simp; (first | refine cap_alloc (K := K) (O := (.cells #[.bool false, .bool false, .bool false, .bool false, .bool false, .int .i64 0, .int .i64 0] 79 (0, 0))) (fun hG hb hle => ?_) | refine cap_allocD (K := K) (O := (.cells #[.bool false, .bool false, .bool false, .bool false, .bool false, .int .i64 0, .int .i64 0] 79 (0, 0))) (fun hG hb hle => ?_)); (try replace H6 := hide ((hb.block _ (blk_lt H6.out)).trans H6.out)); (try simp only [World.size_alloc, drew_size] at hG); have H7 := hide hG; clear hG hle hb)
    refine hK.out _ _ ?_ (fun hD2 => ?_)
    · (try dsimp only); first | assumption | exact hSof _ (hD1.1.alloc _) | exact hSof _ (hD1.1.alloc _).drew | exact hSof _ hD1.1.drew | exact hSof _ (GB.refl _).drew
    clear hK K hD1; try simp only [Act.put, zl, z0, z1]
    refine wpAnyH_ready (rs := [14]) (by kernel_rfl) (by simp) ?_; refine consL 14 rfl (fun K hK => ?_) AllReadyH.nil
    (refine step_row rfl 79 (.tmp 6) (.tmp 13) rfl _ _ rfl rfl 79 _ H6.out plRow rfl (by simp [Value.oneCell']) ?_; refine cap_row H6.out (fun W9 hr ho hgb _ hs9 => ?_); have hk := (ho _ (by omega)).trans H7.out; have hSn := hSof _ (hgb _ hD2.1 (by omega)); have R6 := hide hr; (try clear H6); (try clear H7); have H7 := hide hk; clear hr ho hk hgb; (try dsimp only at hSn))
    refine hK.out _ _ ?_ (fun hD3 => ?_)
    · (try dsimp only); first | assumption | exact hSof _ (hD2.1.alloc _) | exact hSof _ (hD2.1.alloc _).drew | exact hSof _ hD2.1.drew | exact hSof _ (GB.refl _).drew
    clear hK K hD2; try simp only [Act.put, zl, z0, z1]
    refine wpAnyH_ready (rs := [15]) (by kernel_rfl) (by simp) ?_; refine consL 15 rfl (fun K hK => ?_) AllReadyH.nil
    (refine step_row rfl 79 (.tmp 7) (.tmp 19) rfl _ _ rfl rfl 79 _ H7.out plRow rfl (by simp [Value.oneCell']) ?_; refine cap_row H7.out (fun W9 hr ho hgb _ hs9 => ?_); have hk := (ho _ (by omega)).trans R6.out; have hSn := hSof _ (hgb _ hD3.1 (by omega)); have R7 := hide hr; (try clear H7); (try clear R6); have R6 := hide hk; clear hr ho hk hgb; (try dsimp only at hSn))
    refine hK.out _ _ ?_ (fun hD4 => ?_)
    · (try dsimp only); first | assumption | exact hSof _ (hD3.1.alloc _) | exact hSof _ (hD3.1.alloc _).drew | exact hSof _ hD3.1.drew | exact hSof _ (GB.refl _).drew
    clear hK K hD3; try simp only [Act.put, zl, z0, z1]
    refine wpAnyH_done (by kernel_rfl) ?_ _
    have hGB := hSn.1
    (try dsimp only [Act.put, List.getElem_toArray, List.getElem_cons_succ, List.getElem_cons_zero])
    (try simp only [zl, z0, z1])
    go_upto_region 2 with fail
    obtain ⟨V, hV⟩ : ∃ V, W9.drew = V := ⟨_, rfl⟩
    have HGV := hide (show GB W V by rw [← hV]; exact GB.drew hGB)
    have h6 := R6.out
    have h7 := R7.out
    rw [show W9.heap = V.heap from by rw [← hV]; rfl] at h6 h7
    refine wp_region_still_tail 19 (by kernel_rfl) (by kernel_rfl) ?_
    simp only [List.take_succ_cons, List.take_zero, List.drop_succ_cons, List.drop_zero]
    change wpStill _ _ W9.drew (fun a' => wpList _ _ _ _ a' W9.drew) _ _
    rw [hV]
    clear hV hGB hSn hSof hS R6 R7
    have c60 := (blk_cell h6 5).trans rfl
    have c61 := (blk_cell h6 6).trans rfl
    have c70 := (blk_cell h7 5).trans rfl
    have c71 := (blk_cell h7 6).trans rfl
    clear h6 h7
    (repeat still_step)
    still_call (one_still (x.rank == 0) _)
    (repeat still_step)
    still_call (one_still (y.rank == 0) _)
    still_call (compare_still _ _ _)
    (repeat still_step)
    still_call (compare_still _ _ _)
    (repeat still_step)
    still_call (compare_still _ _ _)
    refine wpStill_nil ?_
    obtain ⟨r1, hr1⟩ : ∃ r, E.cmp (E.one (x.rank == 0)) (E.one (y.rank == 0)) = r := ⟨_, rfl⟩
    obtain ⟨r2, hr2⟩ : ∃ r, E.cmp x.rank y.rank = r := ⟨_, rfl⟩
    obtain ⟨r3, hr3⟩ : ∃ r, E.cmp x.turn y.turn = r := ⟨_, rfl⟩
    have HR := hide (show E.cmpP x y = E.orL [r1, r2, r3] by unfold E.cmpP; rw [hr1, hr2, hr3])
    rw [hr1, hr2, hr3]
    clear hr1 hr2 hr3
    go_wp2_with (go_at_call 57; refine (or_any _ 3 3 [r1, r2, r3] _ rfl (rdI_three (World.alloc_heap_new _ _)) (by omega)).mono ?_; rintro e w' ⟨rfl, rfl⟩)
    go_ret
    exact ⟨by rw [HR.out]; rfl, HGV.out.alloc _⟩
  refine consL 13 rfl (fun K hK => ?_) AllReadyH.nil
  focus
    (go_simp; (first | refine cap_alloc (K := K) (O := (.cells #[.bool false, .bool false, .bool false, .bool false, .bool false, .int .i64 0, .int .i64 0] 79 (0, 0))) (fun hG hb hle => ?_) | refine cap_allocD (K := K) (O := (.cells #[.bool false, .bool false, .bool false, .bool false, .bool false, .int .i64 0, .int .i64 0] 79 (0, 0))) (fun hG hb hle => ?_)); (try replace H6 := hide ((hb.block _ (blk_lt H6.out)).trans H6.out)); (try simp only [World.size_alloc, drew_size] at hG); have H7 := hide hG; clear hG hle hb)
    refine hK.out _ _ ?_ (fun hD1 => ?_)
    · (try dsimp only); first | assumption | exact hSof _ (hD0.1.alloc _) | exact hSof _ (hD0.1.alloc _).drew | exact hSof _ hD0.1.drew | exact hSof _ (GB.refl _).drew
    clear hK K hD0; try simp only [Act.put, zl, z0, z1]
    refine wpAnyH_ready (rs := [12]) (by kernel_rfl) (by simp) ?_; refine consL 12 rfl (fun K hK => ?_) AllReadyH.nil
    (go_simp; (first | refine cap_alloc (K := K) (O := (.cells #[.bool false, .bool false, .bool false, .bool false, .bool false, .int .i64 0, .int .i64 0] 79 (0, 0))) (fun hG hb hle => ?_) | refine cap_allocD (K := K) (O := (.cells #[.bool false, .bool false, .bool false, .bool false, .bool false, .int .i64 0, .int .i64 0] 79 (0, 0))) (fun hG hb hle => ?_)); (try replace H7 := hide ((hb.block _ (blk_lt H7.out)).trans H7.out)); (try simp only [World.size_alloc, drew_size] at hG); have H6 := hide hG; clear hG hle hb)
    refine hK.out _ _ ?_ (fun hD2 => ?_)
    · (try dsimp only); first | assumption | exact hSof _ (hD1.1.alloc _) | exact hSof _ (hD1.1.alloc _).drew | exact hSof _ hD1.1.drew | exact hSof _ (GB.refl _).drew
    clear hK K hD1; try simp only [Act.put, zl, z0, z1]
    refine wpAnyH_ready (rs := [14]) (by kernel_rfl) (by simp) ?_; refine consL 14 rfl (fun K hK => ?_) AllReadyH.nil
    (refine step_row rfl 79 (.tmp 6) (.tmp 13) rfl _ _ rfl rfl 79 _ H6.out plRow rfl (by simp [Value.oneCell']) ?_; refine cap_row H6.out (fun W9 hr ho hgb _ hs9 => ?_); have hk := (ho _ (by omega)).trans H7.out; have hSn := hSof _ (hgb _ hD2.1 (by omega)); have R6 := hide hr; (try clear H6); (try clear H7); have H7 := hide hk; clear hr ho hk hgb; (try dsimp only at hSn))
    refine hK.out _ _ ?_ (fun hD3 => ?_)
    · (try dsimp only); first | assumption | exact hSof _ (hD2.1.alloc _) | exact hSof _ (hD2.1.alloc _).drew | exact hSof _ hD2.1.drew | exact hSof _ (GB.refl _).drew
    clear hK K hD2; try simp only [Act.put, zl, z0, z1]
    refine wpAnyH_ready (rs := [15]) (by kernel_rfl) (by simp) ?_; refine consL 15 rfl (fun K hK => ?_) AllReadyH.nil
    (refine step_row rfl 79 (.tmp 7) (.tmp 19) rfl _ _ rfl rfl 79 _ H7.out plRow rfl (by simp [Value.oneCell']) ?_; refine cap_row H7.out (fun W9 hr ho hgb _ hs9 => ?_); have hk := (ho _ (by omega)).trans R6.out; have hSn := hSof _ (hgb _ hD3.1 (by omega)); have R7 := hide hr; (try clear H7); (try clear R6); have R6 := hide hk; clear hr ho hk hgb; (try dsimp only at hSn))
    refine hK.out _ _ ?_ (fun hD4 => ?_)
    · (try dsimp only); first | assumption | exact hSof _ (hD3.1.alloc _) | exact hSof _ (hD3.1.alloc _).drew | exact hSof _ hD3.1.drew | exact hSof _ (GB.refl _).drew
    clear hK K hD3; try simp only [Act.put, zl, z0, z1]
    refine wpAnyH_done (by kernel_rfl) ?_ _
    have hGB := hSn.1
    (try dsimp only [Act.put, List.getElem_toArray, List.getElem_cons_succ, List.getElem_cons_zero])
    (try simp only [zl, z0, z1])
    go_upto_region 2 with fail
    obtain ⟨V, hV⟩ : ∃ V, W9.drew = V := ⟨_, rfl⟩
    have HGV := hide (show GB W V by rw [← hV]; exact GB.drew hGB)
    have h6 := R6.out
    have h7 := R7.out
    rw [show W9.heap = V.heap from by rw [← hV]; rfl] at h6 h7
    refine wp_region_still_tail 19 (by kernel_rfl) (by kernel_rfl) ?_
    simp only [List.take_succ_cons, List.take_zero, List.drop_succ_cons, List.drop_zero]
    change wpStill _ _ W9.drew (fun a' => wpList _ _ _ _ a' W9.drew) _ _
    rw [hV]
    clear hV hGB hSn hSof hS R6 R7
    have c60 := (blk_cell h6 5).trans rfl
    have c61 := (blk_cell h6 6).trans rfl
    have c70 := (blk_cell h7 5).trans rfl
    have c71 := (blk_cell h7 6).trans rfl
    clear h6 h7
    (repeat still_step)
    still_call (one_still (x.rank == 0) _)
    (repeat still_step)
    still_call (one_still (y.rank == 0) _)
    still_call (compare_still _ _ _)
    (repeat still_step)
    still_call (compare_still _ _ _)
    (repeat still_step)
    still_call (compare_still _ _ _)
    refine wpStill_nil ?_
    obtain ⟨r1, hr1⟩ : ∃ r, E.cmp (E.one (x.rank == 0)) (E.one (y.rank == 0)) = r := ⟨_, rfl⟩
    obtain ⟨r2, hr2⟩ : ∃ r, E.cmp x.rank y.rank = r := ⟨_, rfl⟩
    obtain ⟨r3, hr3⟩ : ∃ r, E.cmp x.turn y.turn = r := ⟨_, rfl⟩
    have HR := hide (show E.cmpP x y = E.orL [r1, r2, r3] by unfold E.cmpP; rw [hr1, hr2, hr3])
    rw [hr1, hr2, hr3]
    clear hr1 hr2 hr3
    go_wp2_with (go_at_call 57; refine (or_any _ 3 3 [r1, r2, r3] _ rfl (rdI_three (World.alloc_heap_new _ _)) (by omega)).mono ?_; rintro e w' ⟨rfl, rfl⟩)
    go_ret
    exact ⟨by rw [HR.out]; rfl, HGV.out.alloc _⟩

end Go.Proofs.YtobjahlmjcnfoaaGreat

namespace Go.Proofs.YtobjahlmjcnfoaaGreat
open Go.RowKit Go.Sort
attribute [local go_sem ↓] Go.wp_at_zero Go.wp_at_succ

theorem fldGrd (a b c d e : Bool) (r t : Int) (V : World) : (Instr.field 79 (.agg #[.bool a, .bool b, .bool c, .bool d, .bool e, .int .i64 r, .int .i64 t]) 1).run Tryz.prog V = .ok (.bool b) V := by kernel_rfl

theorem clTake_any (q : Nat) (k y : Int) (W : World) (hq : W.cell? ⟨q, 3, none⟩ = some (.int .i64 k)) (lq : q < W.heap.size) :
    Calls Tryz.prog 52 #[.int .i64 y, .pointer (some ⟨q, 0, none⟩)] W fun e w' => e = .returned (.bool (y == k)) ∧ W.grownBy w' none := by
  go_enter Tryz.func52, Tryz.ntmps52
  go_wp2
  go_ret
  exact ⟨rfl, World.grownBy.refl _ _⟩

theorem clAlt_any (bl L : Nat) (A : Option Addr) (n c : Nat) (xs : List Int) (y : Int) (W : World) (hl : W.cell? ⟨bl, 0, none⟩ = some (.pointer (some ⟨L, 0, none⟩))) (hm : W.cell? ⟨L, 7, none⟩ = some (.slice A n c)) (lbl : bl < W.heap.size) (lL : L < W.heap.size)
    (hn : xs.length = n) (hr : RdI W W.heap.size A xs) (hx : n ≤ 1000000) :
    Calls Tryz.prog 67 #[.int .i64 y, .pointer (some ⟨bl, 0, none⟩)] W fun e w' => e = .returned (.bool (xs.contains y)) ∧ W.grownBy w' none := by
  have H0 := contains_any A n c xs y W hn hr hx
  generalize xs.contains y = q at H0 ⊢
  clear hn hr
  have HX := hide hx
  clear hx
  go_enter Tryz.func67, Tryz.ntmps67
  go_wp2_with (go_at_call 37; refine H0.mono ?_; rintro e w' ⟨rfl, rfl⟩)
  go_ret
  exact ⟨rfl, World.grownBy.refl _ _⟩

set_option maxHeartbeats 1600000 in
theorem clSettle_any (bt bl L B n : Nat) (F : Int → E.Pl) (kn : Int → Bool) (lt : Bool) (y : Int) (h0 : 0 ≤ y) (h1 : y ≤ 999) (W : World) (ht : W.cell? ⟨bt, 0, none⟩ = some (.bool lt)) (hl : W.cell? ⟨bl, 0, none⟩ = some (.pointer (some ⟨L, 0, none⟩))) (hm : W.cell? ⟨L, 5, none⟩ = some (.map (some B)))
    (lbt : bt < W.heap.size) (lbl : bl < W.heap.size) (lL : L < W.heap.size) (hM : MapK elP W B F kn n) :
    Calls Tryz.prog 71 #[.int .i64 y, .pointer (some ⟨bt, 0, none⟩), .pointer (some ⟨bl, 0, none⟩)] W fun e w' => e = .returned (.bool (!(lt && (F y).entry))) ∧ W.grownBy w' none := by
  obtain ⟨x, hx⟩ : ∃ x, F y = x := ⟨_, rfl⟩
  have hlk : (Instr.lookup 80 (.map (some B)) (.int .i64 y) false).run Tryz.prog W = .ok (.agg #[.bool x.ent, .bool x.grd, .bool x.card, .bool x.quit, .bool x.sgn, .int .i64 x.rank, .int .i64 x.turn]) W := by
    have := hM.look Tryz.underlying80 zeroP h0 h1
    rw [hx] at this; exact this
  rw [hx]
  clear hx hM h0 h1
  obtain ⟨q, hq⟩ : ∃ q, x.entry = q := ⟨_, rfl⟩
  have HE := fun w => entry_any x w
  rw [hq] at HE ⊢
  clear hq
  cases lt
  · go_enter Tryz.func71, Tryz.ntmps71
    go_wp2_with (go_at_call 54; refine (HE _).mono ?_; rintro e w' ⟨rfl, rfl⟩)
    go_ret
    exact ⟨rfl, World.grownBy.refl _ _⟩
  · cases q <;>
    (go_enter Tryz.func71, Tryz.ntmps71
     go_wp2_with (go_at_call 54; refine (HE _).mono ?_; rintro e w' ⟨rfl, rfl⟩)
     go_ret
     exact ⟨rfl, World.grownBy_alloc _ _ _⟩)

set_option maxHeartbeats 1600000 in
set_option maxRecDepth 100000 in
theorem clQuit_any (bl bg L B n : Nat) (F : Int → E.Pl) (kn : Int → Bool) (g : Bool) (y : Int) (h0 : 0 ≤ y) (h1 : y ≤ 999) (W : World) (ht : W.cell? ⟨bg, 0, none⟩ = some (.bool g)) (hl : W.cell? ⟨bl, 0, none⟩ = some (.pointer (some ⟨L, 0, none⟩))) (hm : W.cell? ⟨L, 5, none⟩ = some (.map (some B)))
    (lbg : bg < W.heap.size) (lbl : bl < W.heap.size) (lL : L < W.heap.size) (hM : MapK elP W B F kn n) :
    Calls Tryz.prog 66 #[.int .i64 y, .pointer (some ⟨bl, 0, none⟩), .pointer (some ⟨bg, 0, none⟩)] W fun e w' => e = .returned (.bool ((F y).grd == g)) ∧ W.grownBy w' none := by
  obtain ⟨x, hx⟩ : ∃ x, F y = x := ⟨_, rfl⟩
  have hSof : ∀ v, GB W v → (GB W v ∧ v.cell? ⟨bg, 0, none⟩ = some (.bool g) ∧ v.cell? ⟨bl, 0, none⟩ = some (.pointer (some ⟨L, 0, none⟩)) ∧ v.cell? ⟨L, 5, none⟩ = some (.map (some B)) ∧ (Instr.lookup 80 (.map (some B)) (.int .i64 y) false).run Tryz.prog v = .ok (.agg #[.bool x.ent, .bool x.grd, .bool x.card, .bool x.quit, .bool x.sgn, .int .i64 x.rank, .int .i64 x.turn]) v) := by
    intro v h
    refine ⟨h, (h.1.cell (p := ⟨bg, 0, none⟩) lbg).trans ht, (h.1.cell (p := ⟨bl, 0, none⟩) lbl).trans hl, (h.1.cell (p := ⟨L, 5, none⟩) lL).trans hm, ?_⟩
    have := (hM.below h.1).look Tryz.underlying80 zeroP h0 h1
    rw [hx] at this; exact this
  rw [hx]
  clear hx hM h0 h1 ht hl hm
  go_enter Tryz.func66, Tryz.ntmps66
  go_upto_region 1 with fail
  have hv := hSof W.drew (GB.refl _).drew
  obtain ⟨hg, e1, e2, e3, e4⟩ := hv
  refine wp_region_still_tail 9 (by kernel_rfl) (by kernel_rfl) ?_
  simp only [List.take_succ_cons, List.take_zero, List.drop_succ_cons, List.drop_zero]
  change wpStill _ _ W.drew (fun a' => wpList _ _ _ _ a' W.drew) _ _
  have HG := hide hg
  clear hg hSof
  generalize W.drew = V at e1 e2 e3 e4 HG ⊢
  have hfl := fldGrd x.ent x.grd x.card x.quit x.sgn x.rank x.turn V
  (repeat still_step)
  refine wpStill_nil ?_
  go_wp2
  go_ret
  exact ⟨rfl, gr_of HG.out.1⟩

end Go.Proofs.YtobjahlmjcnfoaaGreat

namespace Go.Proofs.YtobjahlmjcnfoaaGreat
open Go.RowKit Go.Sort
attribute [local go_sem ↓] Go.wp_at_zero Go.wp_at_succ

def SortP : Prop := ∀ (bl L B n : Nat) (F : Int → E.Pl) (kn : Int → Bool) (base : Nat) (A : Option Addr) (m c : Nat) (xs : List Int) (W : World) (hl : W.cell? ⟨bl, 0, none⟩ = some (.pointer (some ⟨L, 0, none⟩))) (hm : W.cell? ⟨L, 5, none⟩ = some (.map (some B))) (lbl : bl < W.heap.size) (lL : L < W.heap.size) (hM : MapK elP W B F kn n)
    (hown : W.ownsRow base 3 1 (.slice A m c) m (flatI xs)) (hr : ∀ k ∈ xs, 0 ≤ k ∧ k ≤ 999) (h1 : (Value.slice A m c).ownBlock ≠ some bl) (h2 : (Value.slice A m c).ownBlock ≠ some L) (h3 : (Value.slice A m c).ownBlock ≠ some B) (hx : m ≤ 1000),
    Calls Tryz.prog 55 #[.slice A m c, .func (.func 56) #[] #[.pointer (some ⟨bl, 0, none⟩)]] W fun e w' => e = .returned (.tuple #[]) ∧ ∃ ys : List Int, ys.Perm xs ∧ ys.Pairwise (fun a b => 0 ≤ E.cmpP (F b) (F a)) ∧ w'.ownsRow base 3 1 (.slice A m c) m (flatI ys) ∧ W.grownBy w' (Value.slice A m c).ownBlock

theorem mapIter_ne {α : Type} {w : World} {E0 : Elem α} {b r n : Nat} {F : Int → α} {kn : Int → Bool} {vis : List Int} {cnt base : Nat} {e : TypeId} {size : Nat} {v : Value} {m : Nat} {xs : List Value} (h : w.ownsRow base e size v m xs) (hr : RangeK E0 w b r F kn n vis cnt) : some r ≠ v.ownBlock := by
  obtain ⟨_, _, hr, _⟩ := hr
  exact row_ne_iter h hr

theorem wpList_next_P {w : World} {ops : Array Oper} {rest : List Oper} {o : Oper} {a : Act} {Q : Exit → Act → World → Prop} {B r n cnt : Nat} {F : Int → E.Pl} {kn : Int → Bool} {vis : List Int} (hg : o.guard = none) (it : Operand) (hop : o.op = Op.next it false)
    (hit : a.eval it = .pointer (some ⟨r, 0, none⟩)) (h : RangeK elP w B r F kn n vis cnt)
    (hDone : Hid (∀ k, 0 ≤ k → k ≤ 999 → kn k = true → k ∈ vis) → wpList Tryz.prog ops Q rest (a.put o.dst (.tuple #[.bool false])) w)
    (hMore : ∀ (k : Int) (x : E.Pl) (w' : World) (cnt' : Nat), Hid (F k = x) → 0 ≤ k → k ≤ 999 → Hid (kn k = true ∧ k ∉ vis ∧ RangeK elP w' B r F kn n (vis ++ [k]) cnt' ∧ cnt' < cnt ∧ w.grownBy w' (some r) ∧ w'.heap.size = w.heap.size) →
      (Instr.entry (.pointer (some ⟨r, 0, none⟩))).run Tryz.prog w' = .ok (.tuple #[.int .i64 k, .agg #[.bool x.ent, .bool x.grd, .bool x.card, .bool x.quit, .bool x.sgn, .int .i64 x.rank, .int .i64 x.turn]]) w' → wpList Tryz.prog ops Q rest (a.put o.dst (.tuple #[.bool true, .int .i64 k, .agg #[.bool x.ent, .bool x.grd, .bool x.card, .bool x.quit, .bool x.sgn, .int .i64 x.rank, .int .i64 x.turn]])) w') :
    wpList Tryz.prog ops Q (o :: rest) a w :=
  wpList_next_K hg it hop hit h hDone (fun k w' cnt' h0 h1 h2 h3 h4 h5 h6 h7 h8 => hMore k (F k) w' cnt' rfl h0 h1 ⟨h2, h3, h4, h5, h6, h7⟩ h8)

def OrderPost (F : Int → E.Pl) (kn : Int → Bool) (n : Nat) (w : World) (e : Ending) (w' : World) : Prop := ∃ (A : Option Addr) (m c : Nat) (vis ys : List Int), e = .returned (.slice A m c) ∧ w'.ownsRow w.heap.size 3 1 (.slice A m c) m (flatI ys) ∧ Below w.heap.size w w' ∧ vis.Nodup ∧ (∀ k, k ∈ vis ↔ 0 ≤ k ∧ k ≤ 999 ∧ kn k = true) ∧ ys.Perm (vis.filter fun k => (F k).entry) ∧ ys.Pairwise (fun a b => 0 ≤ E.cmpP (F b) (F a)) ∧ vis.length ≤ n

set_option maxHeartbeats 6400000 in
set_option maxRecDepth 100000 in
theorem order_raw (hSort : SortP) (L B n : Nat) (F : Int → E.Pl) (kn : Int → Bool) (w : World) (hm : w.cell? ⟨L, 5, none⟩ = some (.map (some B))) (lL : L < w.heap.size) (hM : MapK elP w B F kn n) (hn : n ≤ 1000) :
    Calls Tryz.prog 36 #[.pointer (some ⟨L, 0, none⟩)] w (OrderPost F kn n w) := by
  have HM := hide hM
  clear hM
  go_enter Tryz.func36, Tryz.ntmps36
  go_wp2_with (at_range; refine wpList_range_K rfl _ 80 79 rfl Tryz.underlying80 rfl (HM.out.below (by (repeat' first | exact zbR _ _ | assumption | refine zbD ?_ | refine zbA ?_ ?_ _ | refine zbS ?_ ?_ _ | refine zbT ?_ (by assumption) ?_ | (simp; done) | (simp; omega) | omega))) ?_; intro w2 cnt hrg hg2 hs2)
  go_frame
  simp only [World.size_alloc] at hrg hs2
  have hbL := hide (((World.alloc_heap_new w (.cells #[.pointer (some ⟨L, 0, none⟩)] 47)) : _))
  have HB0 := hide (show Below w.heap.size w w2 from (show Below w.heap.size w (w.alloc (.cells #[.pointer (some ⟨L, 0, none⟩)] 47)) by (repeat' first | exact zbR _ _ | assumption | refine zbD ?_ | refine zbA ?_ ?_ _ | refine zbS ?_ ?_ _ | refine zbT ?_ (by assumption) ?_ | (simp; done) | (simp; omega) | omega)).trans ((bel_of hg2).mono (by simp)))
  have HL0 := hide ((hg2.block w.heap.size (by simp) (by simp)).trans hbL.out)
  obtain ⟨r, hr⟩ : ∃ r, w.heap.size + 1 = r := ⟨_, rfl⟩
  have hs2' : w2.heap.size = r + 1 := by omega
  simp only [World.size_alloc]
  rw [hr] at hrg ⊢
  have hrb : w.heap.size < r := by omega
  clear hs2 hs2' hg2 hbL hr
  obtain ⟨bl, hbl⟩ : ∃ bl, w.heap.size = bl := ⟨_, rfl⟩
  have HBL := hide hbl
  rw [hbl] at HL0 ⊢
  clear hbl
  have lbl2 : bl < w2.heap.size := blk_lt HL0.out
  have hblr : bl ≠ r := by have := HBL.out; omega
  have lL' : L < bl := by have := HBL.out; omega
  go_loopw [3] (fun s3 wr => ∃ (vis : List Int) (cnt : Nat) (A : Option Addr) (m c : Nat), s3 = .slice A m c ∧ RangeK elP wr B r F kn n vis cnt ∧ Hid (wr.ownsRow (bl + 1) 3 1 (.slice A m c) m (flatI (vis.filter fun k => (F k).entry))) ∧ Hid (Below (bl + 1) w2 wr)) (fun _ wr => wr.rangeLeft B r)
  case atStart => exact ⟨[], cnt, none, 0, 0, rfl, hrg, hide (World.ownsRow_nil _ _ _ _), hide (Below.refl _ _)⟩
  case round =>
    obtain ⟨vis, cnt1, A, m, c, rfl, hrg1, HO, HBw⟩ := hrel
    have HRG := hide hrg1
    have hml : m = (vis.filter fun k => (F k).entry).length := by have := HO.out.1; rw [flatI_length] at this; omega
    have HML := hide hml
    have HME := hide hrg1.left_eq
    clear hml
    clear hrg1 hrg
    have lblr : bl < wr.heap.size := by have := HBw.out.size; omega
    have cbl : wr.cell? ⟨bl, 0, none⟩ = some (.pointer (some ⟨L, 0, none⟩)) := (blk_cell ((HBw.out.block bl (by omega)).trans HL0.out) 0).trans rfl
    have cL5 : wr.cell? ⟨L, 5, none⟩ = some (.map (some B)) := ((HB0.out.trans (HBw.out.mono (by have := HBL.out; omega))).cell (p := ⟨L, 5, none⟩) lL).trans hm
    go_wp2_with (at_next; refine wpList_next_P rfl _ rfl rfl HRG.out (fun hall => ?_) (fun k x w3 cnt2 HX k0 k1 HH hen => ?_))
    · have lB : B < w.heap.size := HM.out.lt
      have HB := hide lB
      clear lB
      have hmn : m ≤ 1000 := by
        have := HRG.out
        obtain ⟨_, _, _, _, _, _, _, _, _, hc⟩ := this
        have := List.length_filter_le (fun k => (F k).entry) vis
        have := HML.out
        omega
      refine (hSort bl L B n F kn (bl + 1) A m c (vis.filter fun k => (F k).entry) wr cbl cL5 lblr (by omega) HRG.out.map HO.out (fun k hk => by
        obtain ⟨_, _, _, _, _, _, _, _, hv, _⟩ := HRG.out
        have := hv k (List.mem_filter.1 hk).1
        exact ⟨this.1, this.2.1⟩) (fun e => row_ne_low HO.out (b := bl) (by omega) e.symm) (fun e => row_ne_low HO.out (b := L) (by omega) e.symm) (fun e => row_ne_low HO.out (b := B) (by have := HB.out; have := HBL.out; omega) e.symm) hmn).mono ?_
      rintro e w9 ⟨rfl, ys, hp, hs, ho, hg⟩
      have HP := hide hp
      have HS := hide hs
      have HO9 := hide ho
      have HG9 := hide (grown_below (B := bl + 1) hg (by omega) (fun g hg' => (HO.out.lt g hg').1))
      clear hp hs ho hg cbl cL5
      go_wp2_with fail
      go_ret
      refine ⟨A, m, c, vis, ys, rfl, owns_mono HO9.out (by have := HBL.out; omega), HB0.out.trans ((HBw.out.trans HG9.out).mono (by have := HBL.out; omega)), ?_, ?_, HP.out, HS.out, ?_⟩
      · obtain ⟨_, _, _, _, _, _, _, h, _⟩ := HRG.out; exact h
      · obtain ⟨_, _, _, _, _, _, _, _, hv, _⟩ := HRG.out
        exact fun k => ⟨hv k, fun h => hall.out k h.1 h.2.1 h.2.2⟩
      · obtain ⟨_, _, _, _, _, _, _, _, _, hc⟩ := HRG.out
        omega
    · have lB : B < w.heap.size := HM.out.lt
      have HB := hide (show B < bl + 1 by have := HBL.out; omega)
      clear lB
      obtain ⟨hkn, hnv, hrg3, hlt3, hg3, hs3⟩ := HH.out
      have HO3 := hide (HO.out.kept hg3 (.inr (fun e => mapIter_ne HO.out HRG.out e.symm)))
      have HR3 := hide hrg3
      have HLT := hide hlt3
      have HB3 := hide (HBw.out.trans (grown_below (B := bl + 1) hg3 (by omega) (fun g hg' => by have := Option.some.inj hg'; have := HBL.out; omega)))
      have l3 : bl + 1 ≤ w3.heap.size := by omega
      have hmn : m ≤ 999 := by
        have := HRG.out
        obtain ⟨_, _, _, _, _, _, _, _, _, hc⟩ := HR3.out
        have := List.length_filter_le (fun k => (F k).entry) vis
        have := HML.out
        simp at hc
        omega
      clear hkn hnv hrg3 hlt3 hg3 hs3 hen cbl cL5
      refine (entry_any x _).mono ?_
      rintro e w4 ⟨rfl, rfl⟩
      have HFX := hide (show (F k).entry = x.entry by rw [HX.out])
      cases hxe : x.entry
      · have HXE := hide (HFX.out.trans hxe)
        clear hxe
        go_wp2_with fail
        go_roundw
        case rel => exact ⟨vis ++ [k], cnt2, A, m, c, rfl, (HR3.out.kept (row := none) (World.grownBy_alloc _ _ _) (by simp) (by simp)).kept (row := none) (World.grownBy_alloc _ _ _) (by simp) (by simp), hide (by
          rw [List.filter_append]
          simp only [List.filter_cons, HXE.out, List.filter_nil, List.append_nil, Bool.false_eq_true, if_false]
          exact (HO3.out.alloc _).alloc _), hide (HB3.out.trans (by (repeat' first | exact zbR _ _ | assumption | refine zbD ?_ | refine zbA ?_ ?_ _ | refine zbS ?_ ?_ _ | refine zbT ?_ (by assumption) ?_ | (simp; done) | (simp; omega) | omega)))⟩
        case measure =>
          rw [((HR3.out.kept (row := none) (World.grownBy_alloc _ _ _) (by simp) (by simp)).kept (row := none) (World.grownBy_alloc _ _ _) (by simp) (by simp)).left_eq, HME.out]
          exact HLT.out
      · have HXE := hide (HFX.out.trans hxe)
        clear hxe
        go_wp2_with (at_builtin; refine wpList_app_at rfl (.tmp 18) (.tmp 20) rfl (bl + 1) (.slice A m c) (vis.filter fun k => (F k).entry) _ rfl (((HO3.out.alloc _).alloc _).alloc _) (some ⟨_, 0, none⟩) 1 1 [k] rfl rfl (rdI_one (alloc_new_at (by simp))) (fun e => by cases e) (by omega) (by omega) (by simp only [World.size_alloc]; omega) ?_; intro A2 c2 w9 hown2 hgrow; have HO2 := hide hown2; have HG9 := hide hgrow; clear hown2 hgrow)
        go_roundw
        case rel =>
          have R4 := ((HR3.out.kept (row := none) (World.grownBy_alloc _ (.cells #[.bool x.ent, .bool x.grd, .bool x.card, .bool x.quit, .bool x.sgn, .int .i64 x.rank, .int .i64 x.turn] 79) _) (by simp) (by simp)).kept (row := none) (World.grownBy_alloc _ (.cells #[.bool x.ent, .bool x.grd, .bool x.card, .bool x.quit, .bool x.sgn, .int .i64 x.rank, .int .i64 x.turn] 79) _) (by simp) (by simp)).kept (row := none) (World.grownBy_alloc _ (.cells #[.int .i64 k] 3) _) (by simp) (by simp)
          have O4 := ((HO3.out.alloc (.cells #[.bool x.ent, .bool x.grd, .bool x.card, .bool x.quit, .bool x.sgn, .int .i64 x.rank, .int .i64 x.turn] 79)).alloc (.cells #[.bool x.ent, .bool x.grd, .bool x.card, .bool x.quit, .bool x.sgn, .int .i64 x.rank, .int .i64 x.turn] 79)).alloc (.cells #[.int .i64 k] 3)
          exact ⟨vis ++ [k], cnt2, A2, m + 1, c2, rfl, R4.kept HG9.out (row_ne_low O4 HB.out) (mapIter_ne O4 R4), hide (by
            rw [List.filter_append]
            simp only [List.filter_cons, HXE.out, List.filter_nil, if_true]
            exact HO2.out), hide (HB3.out.trans ((show Below (bl + 1) w3 _ by (repeat' first | exact zbR _ _ | assumption | refine zbD ?_ | refine zbA ?_ ?_ _ | refine zbS ?_ ?_ _ | refine zbT ?_ (by assumption) ?_ | (simp; done) | (simp; omega) | omega)).trans (grown_below (B := bl + 1) HG9.out (by simp only [World.size_alloc]; omega) (fun g hg => (O4.lt g hg).1))))⟩
        case measure =>
          have R4 := ((HR3.out.kept (row := none) (World.grownBy_alloc _ (.cells #[.bool x.ent, .bool x.grd, .bool x.card, .bool x.quit, .bool x.sgn, .int .i64 x.rank, .int .i64 x.turn] 79) _) (by simp) (by simp)).kept (row := none) (World.grownBy_alloc _ (.cells #[.bool x.ent, .bool x.grd, .bool x.card, .bool x.quit, .bool x.sgn, .int .i64 x.rank, .int .i64 x.turn] 79) _) (by simp) (by simp)).kept (row := none) (World.grownBy_alloc _ (.cells #[.int .i64 k] 3) _) (by simp) (by simp)
          have O4 := ((HO3.out.alloc (.cells #[.bool x.ent, .bool x.grd, .bool x.card, .bool x.quit, .bool x.sgn, .int .i64 x.rank, .int .i64 x.turn] 79)).alloc (.cells #[.bool x.ent, .bool x.grd, .bool x.card, .bool x.quit, .bool x.sgn, .int .i64 x.rank, .int .i64 x.turn] 79)).alloc (.cells #[.int .i64 k] 3)
          rw [(R4.kept HG9.out (row_ne_low O4 HB.out) (mapIter_ne O4 R4)).left_eq, HME.out]
          exact HLT.out

end Go.Proofs.YtobjahlmjcnfoaaGreat

namespace Go.Proofs.YtobjahlmjcnfoaaGreat
open Go.Shelf Go.RowKit Go.Lib Go.Sort

def Tryz.sortInts_ren : Go.Shelf.Ren := ⟨fun | 6 => 55 | 15 => 73 | 14 => 72 | 28 => 86 | 29 => 87 | 20 => 78 | 21 => 79 | 22 => 80 | 23 => 81 | 24 => 82 | 25 => 83 | 26 => 84 | 27 => 85 | 46 => 96 | 47 => 97 | 48 => 98 | 49 => 99 | 50 => 100 | 57 => 104 | n => n, fun | 22 => 36 | 24 => 3 | 25 => 98 | 3 => 3 | 39 => 111 | 0 => 0 | 53 => 125 | 55 => 127 | 4 => 4 | 46 => 119 | 45 => 118 | 50 => 46 | 5 => 5 | 9 => 9 | 66 => 133 | 70 => 137 | 76 => 141 | 77 => 61 | n => n, fun n => n⟩
theorem Tryz.sortInts : SlLaysF.n6 Tryz.prog Tryz.sortInts_ren where
  mixed := by kernel_rfl
  f6 := ⟨ "slices.SortFunc[[]int,int]", by decide, Tryz.func55.trans (congrArg some (by kernel_rfl))⟩
  f14 := ⟨ "slices.pdqsortCmpFunc[int]", by decide, Tryz.func72.trans (congrArg some (by kernel_rfl))⟩
  f15 := Tryz.func73.trans (congrArg some (by kernel_rfl))
  f20 := ⟨ "slices.insertionSortCmpFunc[int]", by decide, Tryz.func78.trans (congrArg some (by kernel_rfl))⟩
  f21 := ⟨ "slices.heapSortCmpFunc[int]", by decide, Tryz.func79.trans (congrArg some (by kernel_rfl))⟩
  f22 := ⟨ "slices.breakPatternsCmpFunc[int]", by decide, Tryz.func80.trans (congrArg some (by kernel_rfl))⟩
  f23 := ⟨ "slices.choosePivotCmpFunc[int]", by decide, Tryz.func81.trans (congrArg some (by kernel_rfl))⟩
  f24 := ⟨ "slices.reverseRangeCmpFunc[int]", by decide, Tryz.func82.trans (congrArg some (by kernel_rfl))⟩
  f25 := ⟨ "slices.partialInsertionSortCmpFunc[int]", by decide, Tryz.func83.trans (congrArg some (by kernel_rfl))⟩
  f26 := ⟨ "slices.partitionEqualCmpFunc[int]", by decide, Tryz.func84.trans (congrArg some (by kernel_rfl))⟩
  f27 := ⟨ "slices.partitionCmpFunc[int]", by decide, Tryz.func85.trans (congrArg some (by kernel_rfl))⟩
  f28 := Tryz.func86.trans (congrArg some (by kernel_rfl))
  f29 := Tryz.func87.trans (congrArg some (by kernel_rfl))
  f46 := ⟨ "slices.siftDownCmpFunc[int]", by decide, Tryz.func96.trans (congrArg some (by kernel_rfl))⟩
  f47 := Tryz.func97.trans (congrArg some (by kernel_rfl))
  f48 := Tryz.func98.trans (congrArg some (by kernel_rfl))
  f49 := ⟨ "slices.medianAdjacentCmpFunc[int]", by decide, Tryz.func99.trans (congrArg some (by kernel_rfl))⟩
  f50 := ⟨ "slices.medianCmpFunc[int]", by decide, Tryz.func100.trans (congrArg some (by kernel_rfl))⟩
  f57 := ⟨ "slices.order2CmpFunc[int]", by decide, Tryz.func104.trans (congrArg some (by kernel_rfl))⟩
  t0 := Tryz.underlying0
  a0 := Tryz.isAgg0
  z0 := Tryz.sizeOf0
  v0 := Tryz.zeroValue0
  t3 := Tryz.underlying3
  a3 := Tryz.isAgg3
  z3 := Tryz.sizeOf3
  v3 := Tryz.zeroValue3
  t4 := Tryz.underlying4
  a4 := Tryz.isAgg4
  z4 := Tryz.sizeOf4
  v4 := Tryz.zeroValue4
  t5 := Tryz.underlying5
  a5 := Tryz.isAgg5
  z5 := Tryz.sizeOf5
  v5 := Tryz.zeroValue5
  t9 := Tryz.underlying9
  a9 := Tryz.isAgg9
  z9 := Tryz.sizeOf9
  v9 := Tryz.zeroValue9
  t22 := Tryz.underlying36
  a22 := Tryz.isAgg36
  z22 := Tryz.sizeOf36
  v22 := Tryz.zeroValue36
  a24 := Tryz.isAgg3
  z24 := Tryz.sizeOf3
  t25 := Tryz.underlying98
  a25 := Tryz.isAgg98
  z25 := Tryz.sizeOf98
  v25 := Tryz.zeroValue98
  t39 := Tryz.underlying111
  a39 := Tryz.isAgg111
  z39 := Tryz.sizeOf111
  v39 := Tryz.zeroValue111
  t45 := Tryz.underlying118
  a45 := Tryz.isAgg118
  z45 := Tryz.sizeOf118
  v45 := Tryz.zeroValue118
  t46 := Tryz.underlying119
  a46 := Tryz.isAgg119
  z46 := Tryz.sizeOf119
  v46 := Tryz.zeroValue119
  t50 := Tryz.underlying46
  a50 := Tryz.isAgg46
  z50 := Tryz.sizeOf46
  v50 := Tryz.zeroValue46
  t53 := Tryz.underlying125
  a53 := Tryz.isAgg125
  z53 := Tryz.sizeOf125
  v53 := Tryz.zeroValue125
  t55 := Tryz.underlying127
  a55 := Tryz.isAgg127
  z55 := Tryz.sizeOf127
  v55 := Tryz.zeroValue127
  t66 := Tryz.underlying133
  a66 := Tryz.isAgg133
  z66 := Tryz.sizeOf133
  v66 := Tryz.zeroValue133
  t70 := Tryz.underlying137
  a70 := Tryz.isAgg137
  z70 := Tryz.sizeOf137
  v70 := Tryz.zeroValue137
  t76 := Tryz.underlying141
  a76 := Tryz.isAgg141
  z76 := Tryz.sizeOf141
  v76 := Tryz.zeroValue141
  t77 := Tryz.underlying61
  a77 := Tryz.isAgg61
  z77 := Tryz.sizeOf61
  v77 := Tryz.zeroValue61

end Go.Proofs.YtobjahlmjcnfoaaGreat

namespace Go.Proofs.YtobjahlmjcnfoaaGreat
open Go.Shelf Go.RowKit Go.Lib Go.Sort

namespace E
theorem cmpP_neg (p q : Pl) : cmpP p q < 0 ↔ one (p.rank == 0) < one (q.rank == 0) ∨ (one (p.rank == 0) = one (q.rank == 0) ∧ (p.rank < q.rank ∨ (p.rank = q.rank ∧ p.turn < q.turn))) := by
  unfold cmpP
  generalize one (p.rank == 0) = a
  generalize one (q.rank == 0) = b
  generalize p.rank = c
  generalize q.rank = d
  generalize p.turn = e
  generalize q.turn = f
  simp only [orL, cmp]
  repeat' split
  all_goals omega
end E

theorem gr_cell {w w' : World} {row : Option Nat} (h : w.grownBy w' row) {b : Nat} (hb : b < w.heap.size) (hne : some b ≠ row) (i : Nat) : w'.cell? ⟨b, i, none⟩ = w.cell? ⟨b, i, none⟩ := by
  unfold World.cell?
  rw [h.block b hb hne]

def encF (k : Fin 1000) : Value := .int .i64 (k.val : Int)
def finOf (x : Int) : Fin 1000 := ⟨x.toNat % 1000, Nat.mod_lt _ (by omega)⟩
theorem finOf_val {x : Int} (h0 : 0 ≤ x) (h1 : x ≤ 999) : ((finOf x).val : Int) = x := by
  show ((x.toNat % 1000 : Nat) : Int) = x
  omega

theorem grownBy_sortF {w : World} {g n : Nat} {os : Array Obj} (d : Array (Fin 1000)) : w.grownBy (sortWorld encF w g 0 n d os) (some g) := by
  refine ⟨rfl, rfl, rfl, by simp [sortWorld], fun k hk hne => ?_⟩
  unfold sortWorld
  rw [heap_grow_old _ _ (by simpa using hk)]
  have : g ≠ k := fun e => hne (by rw [e])
  simp [putRow, mapBlock, Sort.ahead, Array.getElem?_modify, this]

theorem putCells_fin (d : Array (Fin 1000)) : putCells encF 0 d = putCells (Value.int .i64) 0 (d.toList.map fun k : Fin 1000 => (k.val : Int)).toArray := by
  funext c
  unfold putCells
  refine Array.ext_getElem? (fun i => ?_)
  simp only [Array.getElem?_mapIdx, List.size_toArray, List.length_map, Array.length_toList]
  rcases c[i]? with _ | v
  · rfl
  · simp only [Option.map_some]
    congr 1
    split
    · rename_i h
      have hi : i - 0 < d.size := by omega
      rw [getElem!_pos d (i - 0) hi, getElem!_pos _ (i - 0) (by simpa using hi)]
      simp [encF]
    · rfl

theorem swoP (F : Int → E.Pl) : SWO (ltOf fun x y : Fin 1000 => E.cmpP (F x.val) (F y.val)) where
  irrefl x := by
    unfold ltOf
    rw [decide_eq_false_iff_not, E.cmpP_neg]
    omega
  trans x y z h1 h2 := by
    unfold ltOf at *
    rw [decide_eq_true_eq, E.cmpP_neg] at *
    omega
  ntrans x y z h1 h2 := by
    unfold ltOf at *
    rw [decide_eq_false_iff_not, E.cmpP_neg] at *
    omega

theorem sortP_holds : SortP := by
  intro bl L B n F kn base A m c xs W hl hm lbl lL hM hown hr h1 h2 h3 hx
  have hlen : xs.length = m := by have := hown.1; rw [flatI_length] at this; omega
  rcases A with _ | ad
  · have hx0 : xs = [] := (owns_RdI hown hlen).none
    subst hx0
    have hm0 : m = 0 := by simpa using hlen.symm
    subst hm0
    have hcon := AnyF.slices_SortFunc_none (P := Tryz.prog) (ρ := Tryz.sortInts_ren) { Tryz.sortInts with } none c (.func (.func 56) #[] #[.pointer (some ⟨bl, 0, none⟩)]) W
    change Calls Tryz.prog 55 _ _ _ at hcon
    refine hcon.mono ?_
    rintro e w' ⟨rfl, rfl⟩
    exact ⟨rfl, [], List.Perm.refl _, List.Pairwise.nil, hown, World.grownBy.refl _ _⟩
  · obtain ⟨-, ⟨h0, _⟩ | ⟨g, cap, cur, e, hbg, hblk, hcap, hcapm, hsz, htk⟩⟩ := id hown
    · cases h0
    simp only [Value.slice.injEq, Option.some.injEq] at e
    obtain ⟨rfl, -, rfl⟩ := e
    have hgl : g < W.heap.size := blk_lt hblk
    have hg1 : bl ≠ g := fun e => h1 (by simp [Value.ownBlock, e])
    have hg2 : L ≠ g := fun e => h2 (by simp [Value.ownBlock, e])
    have hg3 : B ≠ g := fun e => h3 (by simp [Value.ownBlock, e])
    have hds : ((xs.map finOf).toArray).size = m := by simp [hlen]
    have hH : Holds encF W g 0 (xs.map finOf).toArray := fun j hj => by
      have hj' : j < xs.length := by simpa using hj
      refine ⟨?_, by rw [Nat.zero_add]; exact blk_frozen hblk j⟩
      rw [Nat.zero_add, hown.cellAt j (by omega), getElem!_pos _ j hj]
      have := hr _ (List.getElem_mem hj')
      rw [flatI_at (List.getElem?_eq_getElem hj')]
      simp [encF, finOf_val this.1 this.2]
    have eg : ∀ args w, (callFunc 56 args).run Tryz.prog w = .ok (.enter 56 args) w := enters_of Tryz.func56 (by kernel_rfl) rfl
    have hcmp : CmpLays1 Tryz.prog 56 #[.pointer (some ⟨bl, 0, none⟩)] encF (fun x y : Fin 1000 => E.cmpP (F x.val) (F y.val)) g 0 ((xs.map finOf).toArray).size W := by
      intro q os dk hs x y
      have hG := grownBy_sortF (w := W) (g := g) (n := q) (os := os) dk
      generalize sortWorld encF W g 0 q dk os = V at hG
      have := cmpP_any bl L B n F kn x.val y.val (by omega) (by omega) (by omega) (by omega) V ((gr_cell hG lbl (by simp [hg1]) 0).trans hl) ((gr_cell hG lL (by simp [hg2]) 5).trans hm) (Nat.lt_of_lt_of_le lbl hG.size) (Nat.lt_of_lt_of_le lL hG.size) (hM.kept hG (by simp [hg3]))
      exact this.mono (fun e w' h => ⟨h.1, h.2.ex⟩)
    have hcon := Any.slices_SortFunc Tryz.sortInts encF (fun _ => rfl) (fun x y : Fin 1000 => E.cmpP (F x.val) (F y.val)) (swoP F) 56 #[.pointer (some ⟨bl, 0, none⟩)] g 0 c (xs.map finOf).toArray W eg hcmp hH hgl (by omega)
    change Calls Tryz.prog 55 _ _ _ at hcon
    rw [hds] at hcon
    refine hcon.mono ?_
    rintro e w' ⟨rfl, d', q, os, hp, hs, rfl⟩
    obtain ⟨hp1, _, hp3⟩ := hp
    have hd' : d'.size = m := by rw [hp1, hds]
    have hpl : d'.toList.Perm (xs.map finOf) := by
      have e1 : (d'.extract 0 m).toList = d'.toList := by rw [← hd']; simp
      have e2 : ((xs.map finOf).toArray.extract 0 m).toList = xs.map finOf := by rw [← hds]; simp; exact List.take_of_length_le (by simp)
      rw [e1, e2] at hp3
      exact hp3
    have hps : (d'.toList.map fun k : Fin 1000 => (k.val : Int)).Perm xs := by
      have := hpl.map (fun k : Fin 1000 => (k.val : Int))
      refine this.trans ?_
      rw [List.map_map]
      have : xs.map ((fun k : Fin 1000 => (k.val : Int)) ∘ finOf) = xs := by
        conv => rhs; rw [← List.map_id xs]
        refine List.map_congr_left (fun k hk => ?_)
        exact finOf_val (hr k hk).1 (hr k hk).2
      rw [this]
    have hys : (d'.toList.map fun k : Fin 1000 => (k.val : Int)).length = xs.length := by simp [hd', hlen]
    refine ⟨rfl, d'.toList.map (fun k : Fin 1000 => (k.val : Int)), hps, ?_, ?_, grownBy_sortF d'⟩
    · rw [List.pairwise_iff_getElem]
      intro i j hi hj hij
      have hi' : i < d'.size := by simpa using hi
      have hj' : j < d'.size := by simpa using hj
      have := hs i j (Nat.zero_le _) hij (by omega)
      unfold ltOf at this
      rw [decide_eq_false_iff_not, getElem!_pos d' j hj', getElem!_pos d' i hi'] at this
      simp only [List.getElem_map, Array.getElem_toList]
      exact Int.not_lt.1 this
    · have e1 : sortWorld encF W g 0 q d' os = grow (putRow (Value.int .i64) (Sort.ahead W q) g 0 (d'.toList.map fun k : Fin 1000 => (k.val : Int)).toArray) os := by
        unfold sortWorld putRow
        rw [putCells_fin]
      rw [e1]
      have := ownsRow_sortedI (w := W) (base := base) (g := g) (cap := c) (n := q) (e := 3) (os := os) (cur := cur) (ss := xs) (ts := d'.toList.map fun k : Fin 1000 => (k.val : Int)) hys hbg hblk (by omega) hcapm hsz
      rw [hlen] at this
      exact this

end Go.Proofs.YtobjahlmjcnfoaaGreat

namespace Go.Proofs.YtobjahlmjcnfoaaGreat
namespace E

structure StOk (s : St) : Prop where
  known : s.known.Nodup
  range : ∀ k ∈ s.known, 0 ≤ k ∧ k ≤ 999
  zero : ∀ k, k ∉ s.known → s.pl k = Pl.zero
  turn : ∀ k ∈ s.known, (s.pl k).ent = true → 0 ≤ (s.pl k).turn ∧ (s.pl k).turn < s.turns
  apart : ∀ j ∈ s.known, ∀ k ∈ s.known, (s.pl j).ent = true → (s.pl k).ent = true → (s.pl j).turn = (s.pl k).turn → j = k
  main : ∀ k ∈ s.main, k ∈ s.known
  cards : ∀ k ∈ s.cards, k ∈ s.known

theorem entry_ent {p : Pl} (h : p.entry = true) : p.ent = true := by
  unfold Pl.entry at h
  cases h1 : p.ent <;> simp_all

theorem leP_trans (s : St) (a b c : Int) (h1 : s.leP a b = true) (h2 : s.leP b c = true) : s.leP a c = true := by
  unfold St.leP at *
  rw [decide_eq_true_eq] at *
  have e1 := cmpP_neg (s.pl b) (s.pl a)
  have e2 := cmpP_neg (s.pl c) (s.pl b)
  have e3 := cmpP_neg (s.pl c) (s.pl a)
  omega
theorem leP_total (s : St) (a b : Int) : (s.leP a b || s.leP b a) = true := by
  unfold St.leP
  rw [Bool.or_eq_true, decide_eq_true_eq, decide_eq_true_eq]
  have e1 := cmpP_neg (s.pl b) (s.pl a)
  have e2 := cmpP_neg (s.pl a) (s.pl b)
  omega

theorem order_eq {s : St} (h : StOk s) {ys : List Int} (hp : ys.Perm (s.known.filter fun k => (s.pl k).entry)) (hs : ys.Pairwise fun a b => 0 ≤ cmpP (s.pl b) (s.pl a)) : ys = s.order := by
  have hm : s.order.Perm (s.known.filter fun k => (s.pl k).entry) := List.mergeSort_perm _ _
  have ho : s.order.Pairwise fun a b => 0 ≤ cmpP (s.pl b) (s.pl a) := by
    have := List.pairwise_mergeSort (le := s.leP) (leP_trans s) (leP_total s) (s.known.filter fun k => (s.pl k).entry)
    refine List.Pairwise.imp (fun {a b} hab => ?_) this
    unfold St.leP at hab
    exact of_decide_eq_true hab
  refine List.Perm.eq_of_pairwise (le := fun a b => 0 ≤ cmpP (s.pl b) (s.pl a)) (fun a b ha hb h1 h2 => ?_) hs ho (hp.trans hm.symm)
  have ha' := List.mem_filter.1 (hp.mem_iff.1 ha)
  have hb' := List.mem_filter.1 (hm.mem_iff.1 hb)
  have e1 := cmpP_neg (s.pl b) (s.pl a)
  have e2 := cmpP_neg (s.pl a) (s.pl b)
  exact h.apart a ha'.1 b hb'.1 (entry_ent ha'.2) (entry_ent hb'.2) (by omega)

theorem order_mem {s : St} {k : Int} : k ∈ s.order ↔ k ∈ s.known ∧ (s.pl k).entry = true := by
  unfold St.order
  rw [List.mem_mergeSort, List.mem_filter]
theorem order_nodup {s : St} (h : StOk s) : s.order.Nodup := (List.mergeSort_perm _ _).nodup_iff.2 (h.known.filter _)
end E
end Go.Proofs.YtobjahlmjcnfoaaGreat

namespace Go.Proofs.YtobjahlmjcnfoaaGreat
open Go.RowKit Go.Sort
attribute [local go_sem ↓] Go.wp_at_zero Go.wp_at_succ

structure LAt (w : World) (base L B n : Nat) (s : E.St) (mv cv : Value) : Prop where
  lowL : base ≤ L
  lowB : base ≤ B
  blk : w.heap[L]? = some (.cells #[.int .i64 s.f.places, .int .i64 s.f.wilds, .int .i64 s.f.guards, .int .i64 s.f.close, .int .i64 s.f.freeze, .map (some B), .int .i64 s.turns, mv, cv] 82 (0, 0))
  map : MapK elP w B s.pl (fun k => decide (k ∈ s.known)) n
  main : w.ownsRow base 3 1 mv s.main.length (flatI s.main)
  cards : w.ownsRow base 3 1 cv s.cards.length (flatI s.cards)
  apart : ∀ g, mv.ownBlock = some g → cv.ownBlock ≠ some g

section
variable {w w' : World} {base L B n : Nat} {s : E.St} {mv cv : Value}
theorem LAt.lt (h : LAt w base L B n s mv cv) : L < w.heap.size := blk_lt h.blk
theorem LAt.c (h : LAt w base L B n s mv cv) (i : Nat) : w.cell? ⟨L, i, none⟩ = (#[.int .i64 s.f.places, .int .i64 s.f.wilds, .int .i64 s.f.guards, .int .i64 s.f.close, .int .i64 s.f.freeze, .map (some B), .int .i64 s.turns, mv, cv] : Array Value)[i]? := blk_cell h.blk i
theorem LAt.kept (h : LAt w base L B n s mv cv) (hg : w.grownBy w' none) : LAt w' base L B n s mv cv :=
  ⟨h.lowL, h.lowB, (hg.block L h.lt (by simp)).trans h.blk, h.map.kept hg (by simp), h.main.kept hg (by cases mv.ownBlock <;> simp), h.cards.kept hg (by cases cv.ownBlock <;> simp), h.apart⟩
theorem LAt.below (h : LAt w base L B n s mv cv) (hb : Below w.heap.size w w') : LAt w' base L B n s mv cv := h.kept (gr_of hb)
theorem LAt.notMap (h : LAt w base L B n s mv cv) : L ≠ B := by
  intro e
  obtain ⟨D, ⟨es, clock, hb, _⟩, _⟩ := h.map
  rw [← e, h.blk] at hb
  cases hb
end

theorem late_any (f : E.Fd) (L : Nat) (x : Int) (W : World) (hc : W.cell? ⟨L, 4, none⟩ = some (.int .i64 f.freeze)) :
    Calls Tryz.prog 50 #[.pointer (some ⟨L, 0, none⟩), .int .i64 x] W fun e w' => e = .returned (.bool (E.late f x)) ∧ W = w' := by
  unfold E.late
  go_enter Tryz.func50, Tryz.ntmps50
  go_wp2
  go_ret
  exact ⟨rfl, rfl⟩

def AltPost (s : E.St) (w : World) (e : Ending) (w' : World) : Prop := ∃ (A : Option Addr) (c : Nat), e = .returned (.slice A s.alts.length c) ∧ w'.ownsRow w.heap.size 3 1 (.slice A s.alts.length c) s.alts.length (flatI s.alts) ∧ Below w.heap.size w w' ∧ s.alts.length ≤ 1000

set_option maxHeartbeats 3200000 in
set_option maxRecDepth 100000 in
theorem alternates_any (base L B n : Nat) (s : E.St) (mv cv : Value) (w : World) (h : LAt w base L B n s mv cv) (ok : E.StOk s) (hn : n ≤ 1000) (hml : s.main.length ≤ 1000) :
    Calls Tryz.prog 47 #[.pointer (some ⟨L, 0, none⟩)] w (AltPost s w) := by
  have HL := hide h
  have OK := hide ok
  have HN := hide hn
  have HML := hide hml
  clear h ok hn hml
  go_enter Tryz.func47, Tryz.ntmps47
  go_wp2_with fail
  obtain ⟨w1, hw1⟩ : ∃ w1, w.alloc (.cells #[.pointer (some ⟨L, 0, none⟩)] 47) = w1 := ⟨_, rfl⟩
  have HB1 := hide (show Below w.heap.size w w1 by rw [← hw1]; (repeat' first | exact zbR _ _ | assumption | refine zbD ?_ | refine zbA ?_ ?_ _ | refine zbS ?_ ?_ _ | refine zbT ?_ (by assumption) ?_ | (simp; done) | (simp; omega) | omega))
  have HS1 := hide (show w1.heap.size = w.heap.size + 1 by rw [← hw1]; simp)
  have HP := hide (show w1.heap[w.heap.size]? = some (.cells #[.pointer (some ⟨L, 0, none⟩)] 47 (0, 0)) by rw [← hw1]; exact World.alloc_heap_new _ _)
  rw [hw1]
  clear hw1
  have HL1 := hide (HL.out.below HB1.out)
  refine (order_raw sortP_holds L B n s.pl (fun k => decide (k ∈ s.known)) w1 ((HL1.out.c 5).trans rfl) HL1.out.lt HL1.out.map HN.out).mono ?_
  rintro e w2 ⟨A, m, c, vis, ys, rfl, ho, hb, hnd, hiff, hp, hs, hv⟩
  have hys : ys = s.order := by
    refine E.order_eq OK.out (hp.trans ?_) hs
    refine List.Perm.filter _ ((List.perm_ext_iff_of_nodup hnd OK.out.known).2 (fun k => ?_))
    rw [hiff k, decide_eq_true_eq]
    exact ⟨fun h => h.2.2, fun h => ⟨(OK.out.range k h).1, (OK.out.range k h).2, h⟩⟩
  subst hys
  have HO := hide ho
  have HB2 := hide hb
  have hm : m = s.order.length := by have := ho.1; rw [flatI_length] at this; omega
  have HM := hide hm
  have hml : s.order.length ≤ 1000 := by
    have e1 : s.order.length = (vis.filter fun k => (s.pl k).entry).length := hp.length_eq
    have e2 := List.length_filter_le (fun k => (s.pl k).entry) vis
    have := HN.out
    omega
  clear ho hb hnd hiff hp hs hm hv
  have eg : ∀ args w, (callFunc 67 args).run Tryz.prog w = .ok (.enter 67 args) w := enters_of Tryz.func67 (by kernel_rfl) rfl
  obtain ⟨Am, cm, hmv⟩ := own_form HL1.out.main
  have hdel := deleteFunc_any 67 #[.pointer (some ⟨w.heap.size, 0, none⟩)] eg (fun k => s.main.contains k) (fun W => Below w1.heap.size w1 W) s.order (fun W x _ hK => by
      have hLW := HL1.out.below hK
      have hb := (hK.block w.heap.size (by have := HS1.out; omega)).trans HP.out
      refine clAlt_any w.heap.size L Am s.main.length cm s.main x W ((blk_cell hb 0).trans rfl) ((hLW.c 7).trans (by rw [hmv]; rfl)) (blk_lt hb) hLW.lt rfl ?_ (by have := HML.out; omega)
      have := hLW.main
      rw [hmv] at this
      exact owns_RdI this rfl)
    w1.heap.size A m c w2 (fun W W' hK hg => hK.trans (grown_below hg hK.size (fun g hg' => (HO.out.lt g hg').1))) HO.out (by have := HM.out; omega) HB2.out
  rw [show (s.order.filter fun x => !(s.main.contains x)) = s.alts from rfl] at hdel
  have HD := hide hdel
  have HAL := hide (show s.alts.length ≤ 1000 from Nat.le_trans (List.length_filter_le _ _) hml)
  clear hdel hml
  go_wp2_with (go_at_call 51; refine HD.out.mono ?_; rintro e w3 ⟨rfl, ho3, hg3⟩; have HO3 := hide ho3; have HG3 := hide hg3; clear ho3 hg3)
  go_ret
  exact ⟨A, c, rfl, owns_mono HO3.out HB1.out.size, HB1.out.trans ((HB2.out.trans (grown_below HG3.out HB2.out.size (fun g hg' => (HO.out.lt g hg').1))).mono HB1.out.size), HAL.out⟩

end Go.Proofs.YtobjahlmjcnfoaaGreat

namespace Go.Proofs.YtobjahlmjcnfoaaGreat
open Go.RowKit Go.Sort

theorem row_ne_map {α : Type} {E0 : Elem α} {w : World} {B n base : Nat} {F : Int → α} {kn : Int → Bool} {e : TypeId} {size : Nat} {v : Value} {m : Nat} {xs : List Value} (h : w.ownsRow base e size v m xs) (hM : MapK E0 w B F kn n) : some B ≠ v.ownBlock := by
  obtain ⟨D, ⟨es, clock, hB, _⟩, _⟩ := hM
  rcases h.2 with ⟨rfl, _⟩ | ⟨g, cap, cur, rfl, _, hb, _⟩
  · simp [Value.ownBlock]
  · intro e1
    have : B = g := by simpa [Value.ownBlock] using e1
    subst this
    rw [hB] at hb
    cases hb

section
variable {w w2 : World} {base L B n : Nat} {s : E.St} {mv cv : Value}
theorem LAt.mainL (h : LAt w base L B n s mv cv) : mv.ownBlock ≠ some L := row_ne h.main h.blk (by decide)
theorem LAt.cardsL (h : LAt w base L B n s mv cv) : cv.ownBlock ≠ some L := row_ne h.cards h.blk (by decide)
theorem LAt.setMain (h : LAt w base L B n s mv cv) (hg : w.grownBy w2 mv.ownBlock) {mv' : Value} {l' : List Int} (hown : w2.ownsRow base 3 1 mv' l'.length (flatI l')) (hb : ∀ g, mv'.ownBlock = some g → mv.ownBlock = some g ∨ w.heap.size ≤ g) :
    LAt (w2.setCell ⟨L, 7, none⟩ mv') base L B n { s with main := l' } mv' cv := by
  have hL2 : w2.heap[L]? = _ := (hg.block L h.lt (fun e => h.mainL e.symm)).trans h.blk
  have hne : mv'.ownBlock ≠ some L := row_ne hown hL2 (by decide)
  refine ⟨h.lowL, h.lowB, ?_, ?_, ?_, ?_, ?_⟩
  · rw [blk_set hL2 7 mv']; rfl
  · exact (h.map.kept hg (row_ne_map h.main h.map)).kept (gr_set _ _ _ _) (fun e => h.notMap (Option.some.inj e).symm)
  · exact hown.kept (gr_set _ _ _ _) (.inr hne)
  · refine (h.cards.kept hg ?_).kept (gr_set _ _ _ _) (.inr h.cardsL)
    cases hc : mv.ownBlock with
    | none => exact Classical.em _
    | some g => exact .inr (by intro e; exact h.apart g hc e)
  · intro g hg1 hg2
    rcases hb g hg1 with h1 | h1
    · exact h.apart g h1 hg2
    · have := (h.cards.lt g hg2).2
      omega
theorem LAt.setCards (h : LAt w base L B n s mv cv) (hg : w.grownBy w2 cv.ownBlock) {cv' : Value} {l' : List Int} (hown : w2.ownsRow base 3 1 cv' l'.length (flatI l')) (hb : ∀ g, cv'.ownBlock = some g → cv.ownBlock = some g ∨ w.heap.size ≤ g) :
    LAt (w2.setCell ⟨L, 8, none⟩ cv') base L B n { s with cards := l' } mv cv' := by
  have hL2 : w2.heap[L]? = _ := (hg.block L h.lt (fun e => h.cardsL e.symm)).trans h.blk
  have hne : cv'.ownBlock ≠ some L := row_ne hown hL2 (by decide)
  refine ⟨h.lowL, h.lowB, ?_, ?_, ?_, ?_, ?_⟩
  · rw [blk_set hL2 8 cv']; rfl
  · exact (h.map.kept hg (row_ne_map h.cards h.map)).kept (gr_set _ _ _ _) (fun e => h.notMap (Option.some.inj e).symm)
  · refine (h.main.kept hg ?_).kept (gr_set _ _ _ _) (.inr h.mainL)
    cases hc : cv.ownBlock with
    | none => exact Classical.em _
    | some g => exact .inr (by intro e; exact h.apart g e hc)
  · exact hown.kept (gr_set _ _ _ _) (.inr hne)
  · intro g hg1 hg2
    rcases hb g hg2 with h1 | h1
    · exact h.apart g hg1 h1
    · have := (h.main.lt g hg1).2
      omega
end
end Go.Proofs.YtobjahlmjcnfoaaGreat
