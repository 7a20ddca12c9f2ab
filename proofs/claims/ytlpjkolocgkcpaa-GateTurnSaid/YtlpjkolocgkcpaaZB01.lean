/-
  Part of a claim's texts: contracts of the program's functions and the plain functions that they compute, in build order.
-/
import Derived.Deep.RegionHeld3
import Derived.KernelRfl
import Derived.Below
import Derived.Test.YtlpjkolocgkcpaaRows
import Derived.Test.YtlpjkolocgkcpaaProg
import Derived.WalkKit
import Derived.WalkSpells
import Derived.WalkLawsBesides
import Derived.Deep.QuietTactic
import Derived.BigQuiet
import Derived.Deep.DrawnRows
import Derived.Outline
import Derived.Laws.AppendOwn
import Derived.Laws.Rows
import Derived.Laws.Tables
import Derived.Maps.AppendAt
import Derived.Laws.AppendOwnNone
import Derived.Deep.AppendLies
import Derived.OwnWalk
import Derived.IntWalk
import Derived.RangeFuncBox
import Derived.Lib.Small
import Derived.Maps.Range
import Derived.Lib.SliceRun
import Derived.Shelf.Abstract
import Derived.Deep.Cut
import Derived.Deep.CutRange
import Derived.Maps.OwnOps
import Derived.Maps.Views
import Derived.Maps.OwnSet
import Derived.Maps.RangeWalk
import Derived.StillTailTactics
import Derived.Sort.Grow
import Derived.Sort.Row
import Derived.Shelf.SlSortCmp.Whole1
namespace Go.Proofs.Ytlpjkolocgkcpaa
open Go

theorem drop_get {α : Type} {l rest : List α} {x : α} : ∀ {i : Nat}, l.drop i = x :: rest → l.toArray[i]? = some x := by
  intro i h
  have : l[i]? = some x := by
    have := congrArg List.head? h
    simpa [List.head?_drop] using this
  simpa using this

theorem takeL {P : Program} {md : Region.Mode} {l rest : List Oper} {Q : Exit → Act → World → Prop} {S : World → Prop} {oi : Oper} {v : Value} {fuel : Nat} {listed : Array Bool} {a : Act} {w : World} (i : Nat) (hi : l.drop i = oi :: rest)
    (hs : Region.noSelect l.toArray = true) (hf : Region.free md l.toArray listed i = true) (hr : (Region.ready md l.toArray listed).contains i = true)
    (hQ : ∀ c a w, Q (.panic c) (a.put oi.dst v) w → Q (.panic c) a w) (hy : YieldsIf P l.toArray S oi v a) (hS : S w)
    (h : wpAnyH P md l.toArray Q S fuel (listed.setIfInBounds i true) (a.put oi.dst v) w) : wpAnyH P md l.toArray Q S (fuel + 1) listed a w :=
  wpAnyH_take (drop_get hi) hs hf hr hQ hy hS h

theorem tL {P : Program} {md : Region.Mode} {l rest : List Oper} {Q : Exit → Act → World → Prop} {S : World → Prop} {oi : Oper} {v : Value} {fuel : Nat} {listed : Array Bool} {a : Act} {w : World} (i : Nat) (hi : l.drop i = oi :: rest)
    (hb : (Region.noSelect l.toArray && Region.free md l.toArray listed i && (Region.ready md l.toArray listed).contains i) = true)
    (hQ : ∀ c a w, Q (.panic c) (a.put oi.dst v) w → Q (.panic c) a w) (hy : YieldsIf P l.toArray S oi v a) (hS : S w)
    (h : wpAnyH P md l.toArray Q S fuel (listed.setIfInBounds i true) (a.put oi.dst v) w) : wpAnyH P md l.toArray Q S (fuel + 1) listed a w := by
  rw [Bool.and_eq_true, Bool.and_eq_true] at hb
  exact takeL i hi hb.1.1 hb.1.2 hb.2 hQ hy hS h
theorem tW {P : Program} {md : Region.Mode} {l rest : List Oper} {Q : Exit → Act → World → Prop} {S : World → Prop} {oi : Oper} {fuel : Nat} {listed : Array Bool} {a : Act} {w : World} (v : Value) (i : Nat) (hi : l.drop i = oi :: rest)
    (hb : (Region.noSelect l.toArray && Region.free md l.toArray listed i && (Region.ready md l.toArray listed).contains i) = true)
    (hQ : ∀ c a w, Q (.panic c) (a.put oi.dst v) w → Q (.panic c) a w) (hw : Region.wanted oi (yielded l.toArray a.tmps) = true) (hS : S w) (hy : ∀ w, S w → (execOp a.eval oi).run P w = .ok (.value v) w)
    (h : wpAnyH P md l.toArray Q S fuel (listed.setIfInBounds i true) (a.put oi.dst v) w) : wpAnyH P md l.toArray Q S (fuel + 1) listed a w := tL i hi hb hQ (.inl ⟨hw, hy⟩) hS h
theorem zl {α : Type} (l : List α) (i : Nat) (a : α) : l.toArray.setIfInBounds i a = (l.set i a).toArray := List.setIfInBounds_toArray l i a
theorem z0 {α : Type} {x : α} {xs : List α} {a : α} : (x :: xs).set 0 a = a :: xs := List.set_cons_zero
theorem z1 {α : Type} {x : α} {xs : List α} {i : Nat} {a : α} : (x :: xs).set (i + 1) a = x :: xs.set i a := List.set_cons_succ

theorem consL {P : Program} {md : Region.Mode} {l rest : List Oper} {Q : Exit → Act → World → Prop} {S : World → Prop} {fuel : Nat} {listed : Array Bool} {a : Act} {w : World} {o : Oper} {rs : List Nat} (i : Nat) (ho : l.drop i = o :: rest)
    (h : ∀ K' : Act → World → Prop, Shut (∀ a w, S w → (S w → wpAnyH P md l.toArray Q S fuel (listed.setIfInBounds i true) a w) → K' a w) → if Region.wanted o (yielded l.toArray a.tmps) = true then Oper.wp P o a w K' Q else K' (a.put o.dst undef) w)
    (hs : AllReadyH P md l.toArray Q S fuel listed a w rs) : AllReadyH P md l.toArray Q S fuel listed a w (i :: rs) :=
  AllReadyH.cons (drop_get ho) h hs

end Go.Proofs.Ytlpjkolocgkcpaa

namespace Go.Proofs.Ytlpjkolocgkcpaa
open Go.RowKit

theorem zbR (B : Nat) (w : World) : Go.RowKit.Below B w w := Go.RowKit.Below.refl B w
theorem zbD {B : Nat} {a w : World} (h : Go.RowKit.Below B a w) : Go.RowKit.Below B a w.drew := h.drew
theorem zbA {B : Nat} {a w : World} (h : Go.RowKit.Below B a w) (hB : B ≤ w.heap.size) (o : Obj) : Go.RowKit.Below B a (w.alloc o) := h.alloc hB o
theorem zbS {B : Nat} {a w : World} (h : Go.RowKit.Below B a w) {p : Addr} (hB : B ≤ p.block) (u : Value) : Go.RowKit.Below B a (w.setCell p u) := h.setCell hB u
theorem zbT {B B' : Nat} {a b c : World} (h1 : Go.RowKit.Below B a b) (h2 : Go.RowKit.Below B' b c) (hB : B ≤ B') : Go.RowKit.Below B a c := h1.trans (h2.mono hB)
def Hid (p : Prop) : Prop := p
theorem hide {p : Prop} (h : p) : Hid p := h
theorem Hid.out {p : Prop} (h : Hid p) : p := h


theorem blk_cell {W : World} {g : Nat} {cells : Array Value} {t : TypeId} (h : W.heap[g]? = some (.cells cells t (0, 0))) (i : Nat) : W.cell? ⟨g, i, none⟩ = cells[i]? := by simp [World.cell?, h]
theorem blk_frozen {W : World} {g : Nat} {cells : Array Value} {t : TypeId} (h : W.heap[g]? = some (.cells cells t (0, 0))) (i : Nat) : W.frozen? ⟨g, i, none⟩ = false := by simp [World.frozen?, h]
theorem blk_set {W : World} {g : Nat} {cells : Array Value} {t : TypeId} (h : W.heap[g]? = some (.cells cells t (0, 0))) (i : Nat) (v : Value) : (W.setCell ⟨g, i, none⟩ v).heap[g]? = some (.cells (cells.setIfInBounds i v) t (0, 0)) := by
  obtain ⟨hlt, hk⟩ := Array.getElem?_eq_some_iff.1 h
  show (W.heap.modify g _)[g]? = _
  rw [Array.getElem?_eq_getElem (by rw [Array.size_modify]; exact hlt), Array.getElem_modify_self, hk]
  rfl
theorem blk_other {W : World} {g g' : Nat} {o : Obj} (h : W.heap[g]? = some o) (hne : g ≠ g') (i : Nat) (v : Value) : (W.setCell ⟨g', i, none⟩ v).heap[g]? = some o := (Below.heap_setCell _ _ _ g (fun e => hne e)).trans h
theorem add_plain (b o k : Nat) : (⟨b, o, none⟩ : Addr).add k = ⟨b, o + k, none⟩ := by
  unfold Addr.add
  split
  · rename_i h; subst h; rfl
  · rfl
theorem below_row {B : Nat} {a w : World} (h : Below B a w) {b : Nat} (hb : B ≤ b) (cs : Array Value) : Below B a (w.setRow b cs) :=
  ⟨h.os, h.tape, h.output, by simp only [size_setRow]; exact h.size, fun i hi => (setRow_other _ _ i _ (by omega)).trans (h.block i hi)⟩
theorem alloc_new_at {w : World} {O : Obj} {k : Nat} (h : k = w.heap.size) : (w.alloc O).heap[k]? = some O := by subst h; exact World.alloc_heap_new w O
theorem drew_size (W : World) : W.drew.heap.size = W.heap.size := rfl

theorem below_drewN {B : Nat} {a w : World} (h : Below B a w) (n : Nat) : Below B a (w.drewN n) := ⟨h.os, h.tape, h.output, h.size, h.block⟩
theorem owns_mono {w : World} {base base' : Nat} {e : TypeId} {size : Nat} {v : Value} {n : Nat} {xs : List Value} (h : w.ownsRow base e size v n xs) (hb : base' ≤ base) : w.ownsRow base' e size v n xs :=
  ⟨h.1, h.2.imp id fun ⟨g, cap, cur, e1, hg, r⟩ => ⟨g, cap, cur, e1, Nat.le_trans hb hg, r⟩⟩
theorem own_form {w : World} {base : Nat} {e : TypeId} {n size : Nat} {xs : List Value} {v : Value} (h : w.ownsRow base e size v n xs) : ∃ A c, v = .slice A n c := by
  rcases h.2 with ⟨rfl, rfl⟩ | ⟨g, cap, cur, rfl, _⟩
  · exact ⟨none, 0, rfl⟩
  · exact ⟨_, cap, rfl⟩
theorem only_of_below' {a w : World} (h : Below a.heap.size a w) : a.grownBy w none := ⟨h.os, h.tape, h.output, h.size, fun i hi _ => h.block i hi⟩
theorem owns_below {w w' : World} {base : Nat} {e : TypeId} {size : Nat} {v : Value} {n : Nat} {xs : List Value} (h : w.ownsRow base e size v n xs) (hb : Below w.heap.size w w') : w'.ownsRow base e size v n xs :=
  h.kept (only_of_below' hb) (by cases v.ownBlock <;> simp)
theorem grown_below {w w' : World} {row : Option Nat} {B : Nat} (h : w.grownBy w' row) (hB : B ≤ w.heap.size) (hr : ∀ g, row = some g → B ≤ g) : Below B w w' :=
  ⟨h.os, h.tape, h.output, h.size, fun i hi => h.block i (by omega) (fun e => by have := hr i e.symm; omega)⟩


def RdI (w : World) (B : Nat) (A : Option Addr) (xs : List Int) : Prop :=
  ∀ (k : Nat) (x : Int), xs[k]? = some x → ∃ b o : Nat, A = some ⟨b, o, none⟩ ∧ b < B ∧ w.cell? ⟨b, o + k, none⟩ = some (.int .i64 x)
theorem RdI.below {w w' : World} {B : Nat} {A : Option Addr} {xs : List Int} (h : RdI w B A xs) (hb : Below B w w') : RdI w' B A xs := fun k p hk => by
  obtain ⟨b, o, e, hB, c0⟩ := h k p hk
  exact ⟨b, o, e, hB, (hb.cell (p := ⟨b, o + k, none⟩) hB).trans c0⟩
theorem RdI.mono {w : World} {B B' : Nat} {A : Option Addr} {xs : List Int} (h : RdI w B A xs) (hB : B ≤ B') : RdI w B' A xs := fun k p hk => by
  obtain ⟨b, o, e, hB, c0⟩ := h k p hk
  exact ⟨b, o, e, by omega, c0⟩
theorem RdI.nil (w : World) (B : Nat) (A : Option Addr) : RdI w B A [] := fun k p h => by simp at h
def flatI (xs : List Int) : List Value := xs.map fun x => .int .i64 x
theorem flatI_at {xs : List Int} {k : Nat} {x : Int} (h : xs[k]? = some x) : (flatI xs)[k]? = some (.int .i64 x) := by
  unfold flatI; rw [List.getElem?_map, h]; rfl
theorem flatI_one (xs : List Int) : ∀ u ∈ flatI xs, u.oneCell' = true := by
  intro u hu
  simp only [flatI, List.mem_map] at hu
  obtain ⟨x, _, rfl⟩ := hu
  rfl
theorem owns_RdI {w : World} {base : Nat} {A : Option Addr} {n c : Nat} {xs : List Int} (h : w.ownsRow base 3 1 (.slice A n c) n (flatI xs)) (hn : xs.length = n) : RdI w w.heap.size A xs := by
  intro k p hk
  have hkl : k < n := by rw [← hn]; exact (List.getElem?_eq_some_iff.1 hk).1
  obtain ⟨g, cap, e, hbg, hh⟩ := h.form (by omega)
  have e' : A = some ⟨g, 0, none⟩ ∧ c = cap := by
    simp only [Value.slice.injEq] at e
    exact ⟨e.1, e.2.2⟩
  obtain ⟨rfl, rfl⟩ := e'
  refine ⟨g, 0, rfl, ?_, ?_⟩
  · exact (h.lt g rfl).2
  · rw [Nat.zero_add, h.cellAt k (by omega)]; exact flatI_at hk
theorem int_info : (Try.prog.info? 3).map (fun i => (i.zero, i.size, i.bytes)) = some (some (.int .i64 0), 1, 8) := by kernel_rfl
theorem RdI.none {w : World} {B : Nat} {xs : List Int} (h : RdI w B none xs) : xs = [] := by
  match xs, h with
  | [], _ => rfl
  | x :: r, h => obtain ⟨_, _, e, _⟩ := h 0 x rfl; cases e

theorem flatI_app (a b : List Int) : flatI (a ++ b) = flatI a ++ flatI b := by unfold flatI; simp
theorem flatI_length (a : List Int) : (flatI a).length = a.length := by unfold flatI; simp
theorem run_app_ints {w : World} (ty : TypeId) (base : Nat) (v : Value) (ps : List Int) (m0 : Nat) (hown : w.ownsRow base 3 1 v m0 (flatI ps))
    (A : Option Addr) (n c : Nat) (xs : List Int) (hn : xs.length = n) (hr : RdI w w.heap.size A xs) (hA : A = none → c = 0) (h0 : m0 ≤ 1000) (h1 : n ≤ 1000) (hbase : base ≤ w.heap.size) :
    ∃ A' c' w', (Builtin.append_ #[35, 35] ty #[v, .slice A n c]).run Try.prog w = .ok (.slice A' (m0 + n) c') w' ∧ w'.ownsRow base 3 1 (.slice A' (m0 + n) c') (m0 + n) (flatI (ps ++ xs)) ∧ w.grownBy w' v.ownBlock := by
  obtain ⟨i, hi, hz0, hz1, hz2⟩ := info_parts int_info
  rcases A with _ | ad
  · have hx0 : xs = [] := hr.none
    subst hx0
    have hn0 : n = 0 := by simpa using hn.symm
    subst hn0
    have hc0 := hA rfl
    subst hc0
    obtain ⟨A', c', rfl⟩ := own_form hown
    have hrun := run_append_owned_none (P := Try.prog) (w := w) base 35 ty 3 i 1 Try.underlying35 hi (.slice A' m0 c') m0 (flatI ps) hown
    exact ⟨A', c', w, hrun, by simpa using hown, World.grownBy.refl w _⟩
  · obtain ⟨v', w', hrun, h2, h3, _, _⟩ := run_append_own_at (P := Try.prog) w base 35 ty 3 i _ 1 8 Try.underlying35 hi hz0 hz1 hz2 (by rfl) (by decide) v m0 (flatI ps) hown ad n c (flatI xs) (by rw [flatI_length]; omega) (by
      intro j u hj
      obtain ⟨y, hk⟩ : ∃ y, xs[j]? = some y := by
        have hjl : j < (flatI xs).length := (List.getElem?_eq_some_iff.1 hj).1
        rw [flatI_length] at hjl
        exact ⟨_, List.getElem?_eq_getElem hjl⟩
      rw [flatI_at hk] at hj
      have hj' := Option.some.inj hj
      subst hj'
      obtain ⟨b, o2, e, _, c0⟩ := hr j y hk
      have e' := Option.some.inj e
      subst e'
      rw [add_plain]
      exact c0) (flatI_one xs) (by unfold maxLen; omega) (by omega) hbase
    obtain ⟨A', c', rfl⟩ := own_form h2
    exact ⟨A', c', w', hrun, by rw [flatI_app]; exact h2, h3⟩
theorem wpList_app_at {w : World} {ops : Array Oper} {rest : List Oper} {o : Oper} {a : Act} {Q : Exit → Act → World → Prop} (hgd : o.guard = none) (s x : Operand)
    (ho : o.op = .call { callee := .builtin .append, args := #[s, x], argTypes := #[35, 35] }) (base : Nat) (v : Value) (ps : List Int) (m0 : Nat) (hs : a.eval s = v) (hown : w.ownsRow base 3 1 v m0 (flatI ps))
    (A : Option Addr) (n c : Nat) (xs : List Int) (hx : a.eval x = .slice A n c) (hn : xs.length = n) (hr : RdI w w.heap.size A xs) (hA : A = none → c = 0) (h0 : m0 ≤ 1000) (h1 : n ≤ 1000) (hbase : base ≤ w.heap.size)
    (h : ∀ A' c' w', w'.ownsRow base 3 1 (.slice A' (m0 + n) c') (m0 + n) (flatI (ps ++ xs)) → w.grownBy w' v.ownBlock → wpList Try.prog ops Q rest (a.put o.dst (.slice A' (m0 + n) c')) w') :
    wpList Try.prog ops Q (o :: rest) a w := by
  refine wpList_plain hgd fun K hK => ?_
  obtain ⟨A', c', w', hr', h2, h3⟩ := run_app_ints o.type base v ps m0 hown A n c xs hn hr hA h0 h1 hbase
  unfold Oper.wp execOp
  simp only [ho, resolve, invoke, builtin, Sem.run_bind, Sem.run_pure, Result.andThen_ok, List.map_toArray, List.map_cons, List.map_nil, hs, hx, hr']
  exact hK _ _ (h A' c' w' h2 h3)

theorem blk_lt {W : World} {g : Nat} {o : Obj} (h : W.heap[g]? = some o) : g < W.heap.size := (Array.getElem?_eq_some_iff.1 h).1
theorem rdI_one {w : World} {q : Nat} {x : Int} (hq : w.heap[q]? = some (.cells #[.int .i64 x] 3 (0, 0))) : RdI w w.heap.size (some ⟨q, 0, none⟩) [x] := by
  intro k y hk
  match k, hk with
  | 0, hk =>
    have hy : x = y := Option.some.inj hk
    subst hy
    exact ⟨_, 0, rfl, blk_lt hq, (blk_cell hq 0).trans rfl⟩
  | k + 1, hk => cases hk


theorem cap_alloc {K : Act → World → Prop} {a : Act} {u : World} {O : Obj} (h : (u.alloc O).heap[u.heap.size]? = some O → Below u.heap.size u (u.alloc O) → u.heap.size ≤ u.heap.size → K a (u.alloc O)) : K a (u.alloc O) := h (World.alloc_heap_new u O) (zbA (zbR _ _) (Nat.le_refl _) O) (Nat.le_refl _)
theorem cap_allocD {K : Act → World → Prop} {a : Act} {u : World} {O : Obj} (h : (u.alloc O).heap[u.heap.size]? = some O → Below u.heap.size u (u.alloc O) → u.heap.size ≤ u.heap.size → K a (u.alloc O).drew) : K a (u.alloc O).drew := h (World.alloc_heap_new u O) (zbA (zbR _ _) (Nat.le_refl _) O) (Nat.le_refl _)
theorem cap_gen {K : Act → World → Prop} {a : Act} {W : World} (h : ∀ W', W' = W → K a W') : K a W := h W rfl
theorem step_row {P : Program} {w : World} {ops : Array Oper} {o : Oper} {a : Act} {K : Act → World → Prop} {Q : Exit → Act → World → Prop} {E : Prop} (hgd : o.guard = none) (ty : TypeId) (x y : Operand) (ho : o.op = .store ty x y)
    (g : Nat) (cells : Array Value) (hx : a.eval x = .pointer (some ⟨g, 0, none⟩)) (hy : a.eval y = .agg cells)
    (t : TypeId) (old : Array Value) (hg : w.heap[g]? = some (.cells old t (0, 0))) (hi : (P.info? ty).map (·.size) = some cells.size)
    (hold : old.size = cells.size) (h1 : cells.all (·.oneCell') = true)
    (h : K (a.put o.dst undef) (w.setRow g cells)) : if Region.wanted o (yielded ops a.tmps) = true then Oper.wp P o a w K Q else E := by
  have hw : Region.wanted o (yielded ops a.tmps) = true := by simp [Region.wanted, hgd]
  rw [if_pos hw]
  exact wp_store_row ty x y ho g cells hx hy t old hg hi hold h1 h
theorem setRow_grown (w : World) (b : Nat) (cs : Array Value) : w.grownBy (w.setRow b cs) (some b) := ⟨rfl, rfl, rfl, by simp, fun k _ hk => setRow_other w _ k _ (fun e => hk (by rw [e]))⟩
end Go.Proofs.Ytlpjkolocgkcpaa

namespace Go.Proofs.Ytlpjkolocgkcpaa
namespace G

structure Pt where
  id : Int
  at_ : Int
  size : Int
  quits : Int
  deriving DecidableEq
structure Fr where
  at_ : Int
  count : Int
  deriving DecidableEq
structure Qu where
  opn : Int
  lo : Int
  hi : Int
  seats : Int
  gs : List Pt
  fs : List Fr
structure Tk where
  id : Int
  price : Int
  day : Int
  paid : Int
  deriving DecidableEq
structure Tm where
  short : Int
  long : Int
  played : List Int

def within (n lo hi : Int) : Bool := decide (lo ≤ n) && decide (n ≤ hi)
def vMin (n : Int) : Bool := within n 0 1440
def vSeats (n : Int) : Bool := within n 0 9999
def vGates (q : Qu) : Bool := vMin q.opn && within q.lo 1 q.hi && decide (q.hi ≤ 100) && vSeats q.seats
def vParty (p : Pt) : Bool := within p.id 0 999 && vMin p.at_ && within p.size 1 20 && (p.quits == -1 || within p.quits p.at_ 1440)
def vFree (f : Fr) : Bool := vMin f.at_ && vSeats f.count
def vNew : List Int → List Pt → Bool
  | _, [] => true
  | seen, p :: r => !seen.contains p.id && vParty p && vNew (seen ++ [p.id]) r
def vGroups (gs : List Pt) : Bool := decide (gs.length ≤ 40) && vNew [] gs
def vFrees (fs : List Fr) : Bool := decide (fs.length ≤ 40) && fs.all vFree
def valid (q : Qu) : Bool := vGates q && vGroups q.gs && vFrees q.fs

def cmp (x y : Int) : Int := if x < y then -1 else if y < x then 1 else 0
def cmpG (a b : Pt) : Int := if cmp a.at_ b.at_ = 0 then cmp a.id b.id else cmp a.at_ b.at_
def ins (p : Pt) : List Pt → List Pt
  | [] => [p]
  | x :: r => if cmpG p x ≤ 0 then p :: x :: r else x :: ins p r
def srt : List Pt → List Pt
  | [] => []
  | p :: r => ins p (srt r)

def sumF (fs : List Fr) (m : Int) : Int := ((fs.filter (fun f => decide (f.at_ ≤ m))).map (·.count)).sum
def Qu.S (q : Qu) (m : Int) : Int := q.seats + sumF q.fs m
def Pt.gone (p : Pt) : Int := if p.quits = -1 then 1441 else p.quits
def wait (S : Int → Int) (need gone : Int) : Nat → Int → Int
  | 0, m => m
  | k + 1, m => if gone ≤ m ∨ need ≤ S m then m else wait S need gone k (m + 1)
structure Mo where
  min : Int
  passed : Int
  used : Int
def from_ (opn : Int) (p : Pt) (s : Mo) : Int := max s.min (max p.at_ opn)
def ready (S : Int → Int) (opn : Int) (p : Pt) (s : Mo) : Int := wait (fun m => S m - s.used) p.size p.gone (p.gone - from_ opn p s).toNat (from_ opn p s)
def now (S : Int → Int) (opn : Int) (p : Pt) (s : Mo) : Int := if ready S opn p s = s.min then s.passed else 0
def minuteOf (S : Int → Int) (rate opn : Int) (p : Pt) (s : Mo) : Int :=
  if p.gone ≤ ready S opn p s then -1
  else if 1440 < ready S opn p s + (now S opn p s + p.size - 1) / rate then -1 else ready S opn p s + (now S opn p s + p.size - 1) / rate
def next (S : Int → Int) (rate opn : Int) (p : Pt) (s : Mo) : Mo :=
  if p.gone ≤ ready S opn p s then ⟨ready S opn p s, now S opn p s, s.used⟩
  else ⟨ready S opn p s + (now S opn p s + p.size) / rate, (now S opn p s + p.size) % rate, s.used + p.size⟩
def run (S : Int → Int) (rate opn : Int) : List Pt → Mo → List (Int × Int)
  | [], _ => []
  | p :: r, s => (p.id, minuteOf S rate opn p s) :: run S rate opn r (next S rate opn p s)
def look (id : Int) (l : List (Int × Int)) : Int := ((l.find? (fun x => x.1 == id)).map (·.2)).getD (-1)
def enter (q : Qu) (rate : Int) : List Int := q.gs.map (fun p => look p.id (run q.S rate q.opn (srt q.gs) ⟨0, 0, 0⟩))

def rates (q : Qu) : List Int := (List.range (q.hi - q.lo + 1).toNat).map (fun (k : Nat) => q.lo + (k : Int))
def minL : List Int → Int
  | [] => 0
  | x :: r => r.foldl (fun a b => if b < a then b else a) x
def maxL : List Int → Int
  | [] => 0
  | x :: r => r.foldl (fun a b => if a < b then b else a) x
def minutesOf (q : Qu) (g : Nat) : List Int := (rates q).map (fun r => (enter q r).getD g 0)
def idxOf (q : Qu) (id : Int) : Option Nat := q.gs.findIdx? (fun p => p.id == id)
def inside1 (q : Qu) (m : Int) (l : List Int) : Int := ((q.gs.zip l).map (fun x => if x.2 ≠ -1 ∧ x.2 ≤ m then x.1.size else 0)).sum
def upTo (q : Qu) (m : Int) : List Int := (rates q).map (fun r => inside1 q m (enter q r))
def always (q : Qu) (g : Nat) : Bool := (minutesOf q g).all (fun m => m != -1)
def people (gs : List Pt) : Int := (gs.map (·.size)).sum
def enoughF (q : Qu) (g : Nat) : Nat → Int → Option Int
  | 0, _ => none
  | k + 1, n => if always { q with seats := q.seats + n } g then some n else enoughF q g k (n + 1)
def enough (q : Qu) (g : Nat) : Option Int := enoughF q g ((max (people q.gs - q.seats) 0) + 1).toNat 0

def checkE (q : Qu) : Int := if valid q then 0 else 110
def enterE (q : Qu) (rate : Int) : Int := if valid q then (if within rate q.lo q.hi then 0 else 1) else 110
def enterV (q : Qu) (rate : Int) : List Int := if enterE q rate = 0 then enter q rate else []
def sureE (q : Qu) (id : Int) : Int := if valid q then (match idxOf q id with | none => 1 | some g => if (minutesOf q g).contains (-1) then 3 else 0) else 110
def sureV (q : Qu) (id : Int) : Int × Int := if sureE q id = 0 then (match idxOf q id with | none => (0, 0) | some g => (minL (minutesOf q g), maxL (minutesOf q g))) else (0, 0)
def enoughE (q : Qu) (id : Int) : Int := if valid q then (match idxOf q id with | none => 1 | some g => if (enough q g).isSome then 0 else 3) else 110
def enoughV (q : Qu) (id : Int) : Int := if valid q then (match idxOf q id with | none => 0 | some g => (enough q g).getD 0) else 0

def vTerms (x : Tm) : Bool := within x.short 0 x.long && vMin x.long && decide (x.played.length ≤ 30) && x.played.all vMin
def vTicket (x : Tm) (t : Tk) : Bool := within t.id 0 999 && within t.price 0 1000000 && within t.day 0 ((x.played.length : Int) - 1) && within t.paid 0 t.price
def vTicks (x : Tm) : List Int → List Tk → Bool
  | _, [] => true
  | seen, t :: r => !seen.contains t.id && vTicket x t && vTicks x (seen ++ [t.id]) r
def vTickets (x : Tm) (l : List Tk) : Bool := decide (l.length ≤ 40) && vTicks x [] l
def due (x : Tm) (t : Tk) : Int :=
  if x.played.getD t.day.toNat 0 < x.short then t.price else if x.played.getD t.day.toNat 0 < x.long then t.price / 2 else 0
def refund1 (x : Tm) (t : Tk) : Int := max (due x t - t.paid) 0
def refundE (x : Tm) (l : List Tk) : Int := if vTerms x && vTickets x l then 0 else 111
def refundV (x : Tm) (l : List Tk) : List Int := if refundE x l = 0 then l.map (refund1 x) else []
def totalV (x : Tm) (l : List Tk) : Int := (refundV x l).sum

def exQ : Qu := ⟨10, 2, 3, 5, [⟨1, 0, 2, -1⟩, ⟨2, 3, 4, 12⟩, ⟨3, 3, 2, -1⟩, ⟨4, 11, 1, -1⟩], [⟨13, 3⟩]⟩
theorem ex_enter : enterV exQ 2 = [10, -1, 12, 13] ∧ enterE exQ 2 = 0 := by decide +kernel
theorem ex_sure : sureV exQ 4 = (12, 13) ∧ sureE exQ 4 = 0 := by decide +kernel
theorem ex_enough : enoughV exQ 2 = 1 ∧ enoughE exQ 2 = 0 := by decide +kernel
def exX : Tm := ⟨60, 120, [30, 90, 200]⟩
def exL : List Tk := [⟨1, 1001, 0, 0⟩, ⟨2, 1001, 1, 0⟩, ⟨3, 1001, 1, 600⟩, ⟨4, 1001, 2, 0⟩]
theorem ex_total : totalV exX exL = 1501 ∧ refundE exX exL = 0 := by decide +kernel
end G
end Go.Proofs.Ytlpjkolocgkcpaa

namespace Go.Proofs.Ytlpjkolocgkcpaa
open Go.RowKit
attribute [local go_sem ↓] Go.wp_at_zero Go.wp_at_succ

theorem within_any (n lo hi : Int) (w : World) :
    Calls Try.prog 38 #[.int .i64 n, .int .i64 lo, .int .i64 hi] w fun e w' => e = .returned (.bool (G.within n lo hi)) ∧ w = w' := by
  by_cases h1 : lo ≤ n <;> by_cases h2 : n ≤ hi <;>
    (go_enter Try.func38, Try.ntmps38
     go_wp2
     go_ret
     exact ⟨by simp [G.within, h1, h2], rfl⟩)
theorem validMinute_any (n : Int) (w : World) :
    Calls Try.prog 63 #[.int .i64 n] w fun e w' => e = .returned (.bool (G.vMin n)) ∧ w = w' := by
  go_enter Try.func63, Try.ntmps63
  go_wp2_with (go_at_call 38; (with_reducible refine (within_any _ _ _ _).mono ?_); rintro e w' ⟨rfl, rfl⟩)
  go_ret
  exact ⟨rfl, rfl⟩
theorem validSeats_any (n : Int) (w : World) :
    Calls Try.prog 66 #[.int .i64 n] w fun e w' => e = .returned (.bool (G.vSeats n)) ∧ w = w' := by
  go_enter Try.func66, Try.ntmps66
  go_wp2_with (go_at_call 38; (with_reducible refine (within_any _ _ _ _).mono ?_); rintro e w' ⟨rfl, rfl⟩)
  go_ret
  exact ⟨rfl, rfl⟩
set_option maxHeartbeats 1600000 in
theorem validGates_any (q : G.Qu) (A : Option Addr) (n c : Nat) (F : Option Addr) (m d : Nat) (w : World) :
    Calls Try.prog 52 #[.agg #[.int .i64 q.opn, .int .i64 q.lo, .int .i64 q.hi, .int .i64 q.seats, .slice A n c, .slice F m d]] w fun e w' => e = .returned (.bool (G.vGates q)) ∧ Below w.heap.size w w' := by
  obtain ⟨b, hb⟩ : ∃ b, Hid (G.vGates q = b) := ⟨_, rfl⟩
  have hb' := hb.out
  unfold G.vGates at hb'
  cases h1 : G.vMin q.opn <;> cases h2 : G.within q.lo 1 q.hi <;> cases h3 : decide (q.hi ≤ 100) <;> cases h4 : G.vSeats q.seats <;>
    (rw [h1, h2, h3, h4] at hb'
     have hb2 : _ = b := hb'
     simp only [Bool.and_true, Bool.and_false, Bool.true_and, Bool.false_and, Bool.or_true, Bool.or_false, Bool.true_or, Bool.false_or] at hb2
     subst hb2
     have H1 := hide h1
     have H2 := hide h2
     have H3 := hide h3
     have H4 := hide h4
     clear hb' h1 h2 h4
     (try simp only [decide_eq_true_eq, decide_eq_false_iff_not, Int.not_le] at h3)
     go_enter Try.func52, Try.ntmps52
     go_wp2_with (first | (go_at_call 63; (with_reducible refine (validMinute_any (q.opn) _).mono ?_); rintro e w' ⟨rfl, rfl⟩; rw [H1.out]) | (go_at_call 38; (with_reducible refine (within_any (q.lo) (1) (q.hi) _).mono ?_); rintro e w' ⟨rfl, rfl⟩; rw [H2.out]) | (go_at_call 66; (with_reducible refine (validSeats_any (q.seats) _).mono ?_); rintro e w' ⟨rfl, rfl⟩; rw [H4.out]))
     go_ret
     exact ⟨by rw [hb.out]; rfl, by (repeat' first | exact zbR _ _ | assumption | refine zbD ?_ | refine zbA ?_ ?_ _ | refine zbS ?_ ?_ _ | refine zbT ?_ (by assumption) ?_ | (simp; done) | (simp; omega) | omega)⟩)
set_option maxHeartbeats 1600000 in
theorem validParty_any (p : G.Pt) (w : World) :
    Calls Try.prog 67 #[.agg #[.int .i64 p.id, .int .i64 p.at_, .int .i64 p.size, .int .i64 p.quits]] w fun e w' => e = .returned (.bool (G.vParty p)) ∧ Below w.heap.size w w' := by
  obtain ⟨b, hb⟩ : ∃ b, Hid (G.vParty p = b) := ⟨_, rfl⟩
  have hb' := hb.out
  unfold G.vParty at hb'
  cases h1 : G.within p.id 0 999 <;> cases h2 : G.vMin p.at_ <;> cases h3 : G.within p.size 1 20 <;> cases h4 : (p.quits == -1) <;> cases h5 : G.within p.quits p.at_ 1440 <;>
    (rw [h1, h2, h3, h4, h5] at hb'
     have hb2 : _ = b := hb'
     simp only [Bool.and_true, Bool.and_false, Bool.true_and, Bool.false_and, Bool.or_true, Bool.or_false, Bool.true_or, Bool.false_or] at hb2
     subst hb2
     have H1 := hide h1
     have H2 := hide h2
     have H3 := hide h3
     have H4 := hide h4
     have H5 := hide h5
     clear hb' h1 h2 h3 h5
     go_enter Try.func67, Try.ntmps67
     go_wp2_with (first | (go_at_call 63; (with_reducible refine (validMinute_any (p.at_) _).mono ?_); rintro e w' ⟨rfl, rfl⟩; rw [H2.out]) | (go_at_call 38; (with_reducible refine (within_any (p.id) (0) (999) _).mono ?_); rintro e w' ⟨rfl, rfl⟩; rw [H1.out]) | (go_at_call 38; (with_reducible refine (within_any (p.size) (1) (20) _).mono ?_); rintro e w' ⟨rfl, rfl⟩; rw [H3.out]) | (go_at_call 38; (with_reducible refine (within_any (p.quits) (p.at_) (1440) _).mono ?_); rintro e w' ⟨rfl, rfl⟩; rw [H5.out]))
     go_ret
     exact ⟨by rw [hb.out]; rfl, by (repeat' first | exact zbR _ _ | assumption | refine zbD ?_ | refine zbA ?_ ?_ _ | refine zbS ?_ ?_ _ | refine zbT ?_ (by assumption) ?_ | (simp; done) | (simp; omega) | omega)⟩)
set_option maxHeartbeats 1600000 in
theorem validTicket_any (x : G.Tm) (A : Option Addr) (n c : Nat) (t : G.Tk) (w : World) (hn : x.played.length = n) (hm : n ≤ 1000000) :
    Calls Try.prog 65 #[.agg #[.int .i64 x.short, .int .i64 x.long, .slice A n c], .agg #[.int .i64 t.id, .int .i64 t.price, .int .i64 t.day, .int .i64 t.paid]] w fun e w' => e = .returned (.bool (G.vTicket x t)) ∧ Below w.heap.size w w' := by
  have HN := hide hn
  clear hn
  have hw1 : IntKind.i64.wrap ((n : Int) - 1) = (n : Int) - 1 := IntWalk.i64_in _ (by omega)
  obtain ⟨b, hb⟩ : ∃ b, Hid (G.vTicket x t = b) := ⟨_, rfl⟩
  have hb' := hb.out
  unfold G.vTicket at hb'
  rw [HN.out] at hb'
  cases h1 : G.within t.id 0 999 <;> cases h2 : G.within t.price 0 1000000 <;> cases h3 : G.within t.day 0 ((n : Int) - 1) <;> cases h4 : G.within t.paid 0 t.price <;>
    (rw [h1, h2, h3, h4] at hb'
     have hb2 : _ = b := hb'
     simp only [Bool.and_true, Bool.and_false, Bool.true_and, Bool.false_and, Bool.or_true, Bool.or_false, Bool.true_or, Bool.false_or] at hb2
     subst hb2
     have H1 := hide h1
     have H2 := hide h2
     have H3 := hide h3
     have H4 := hide h4
     clear hb' h1 h2 h3 h4
     go_enter Try.func65, Try.ntmps65
     go_wp2_with (first | (go_at_call 38; (with_reducible refine (within_any (t.id) (0) (999) _).mono ?_); rintro e w' ⟨rfl, rfl⟩; rw [H1.out]) | (go_at_call 38; (with_reducible refine (within_any (t.price) (0) (1000000) _).mono ?_); rintro e w' ⟨rfl, rfl⟩; rw [H2.out]) | (go_at_call 38; (with_reducible refine (within_any (t.day) (0) ((n : Int) - 1) _).mono ?_); rintro e w' ⟨rfl, rfl⟩; rw [H3.out]) | (go_at_call 38; (with_reducible refine (within_any (t.paid) (0) (t.price) _).mono ?_); rintro e w' ⟨rfl, rfl⟩; rw [H4.out]))
     go_ret
     exact ⟨by rw [hb.out]; rfl, by (repeat' first | exact zbR _ _ | assumption | refine zbD ?_ | refine zbA ?_ ?_ _ | refine zbS ?_ ?_ _ | refine zbT ?_ (by assumption) ?_ | (simp; done) | (simp; omega) | omega)⟩)

end Go.Proofs.Ytlpjkolocgkcpaa

namespace Go.Proofs.Ytlpjkolocgkcpaa
namespace E

structure Nt where
  id : Int
  hour : Int
  kind : Int
  player : Int
  rank : Int
  deriving DecidableEq
structure Pl where
  ent : Bool
  grd : Bool
  card : Bool
  quit : Bool
  sgn : Bool
  rank : Int
  turn : Int
  deriving DecidableEq
structure Fd where
  places : Int
  wilds : Int
  guards : Int
  close : Int
  freeze : Int
  deriving DecidableEq

def within (n lo hi : Int) : Bool := decide (lo ≤ n) && decide (n ≤ hi)
def validField (f : Fd) : Bool := within f.places 1 32 && within f.wilds 0 32 && within f.guards 0 32 && within f.close 0 9999 && within f.freeze f.close 9999
def lowOf (k : Int) : Int := if k = 1 then 0 else if k = 2 then 1 else if k = 3 ∨ k = 4 ∨ k = 5 then 0 else 1
def highOf (k : Int) : Int := if k = 1 then 9999 else if k = 2 then 9999 else 0
def validNotice (x : Nt) : Bool := within x.id 0 999 && within x.player 0 999 && within x.hour 0 9999 && within x.rank (lowOf x.kind) (highOf x.kind)

def diff : List Nt → List Nt → Option (List Nt)
  | acc, [] => some acc
  | acc, x :: r =>
    if validNotice x = false then none
    else match acc.find? (fun y => y.id == x.id) with
      | some y => if y = x then diff acc r else none
      | none => diff (acc ++ [x]) r
def cmp (x y : Int) : Int := if x < y then -1 else if y < x then 1 else 0
def orL : List Int → Int
  | [] => 0
  | x :: r => if x = 0 then orL r else x
def cmpN (x y : Nt) : Int := orL [cmp x.hour y.hour, cmp x.id y.id]
def leN (x y : Nt) : Bool := decide (0 ≤ cmpN y x)
def diffs (l : List Nt) : Option (List Nt) := if 60 < l.length then none else (diff [] l).map (fun d => d.mergeSort leN)
def checkE (f : Fd) (l : List Nt) : Int := if validField f then (if (diffs l).isSome then 0 else 51) else 50

def Pl.zero : Pl := ⟨false, false, false, false, false, 0, 0⟩
def Pl.entry (p : Pl) : Bool := p.ent && !p.quit && !p.card
def one (b : Bool) : Int := if b then 1 else 0

def cmpP (p q : Pl) : Int := orL [cmp (one (p.rank == 0)) (one (q.rank == 0)), cmp p.rank q.rank, cmp p.turn q.turn]
structure St where
  f : Fd
  pl : Int → Pl
  known : List Int
  turns : Int
  main : List Int
  cards : List Int

def St.new (f : Fd) : St := ⟨f, fun _ => Pl.zero, [], 0, [], []⟩
def late (f : Fd) (h : Int) : Bool := decide (f.freeze < h)
def St.leP (s : St) (a b : Int) : Bool := decide (0 ≤ cmpP (s.pl b) (s.pl a))
def St.order (s : St) : List Int := (s.known.filter (fun k => (s.pl k).entry)).mergeSort s.leP
def St.alts (s : St) : List Int := s.order.filter (fun k => !s.main.contains k)
def St.fill (s : St) (lt : Bool) : List Int → List Int → Int → List Int
  | [], m, _ => m
  | k :: r, m, g =>
    if (m.length : Int) < s.f.places ∧ ((s.pl k).sgn = true ∨ lt = false) ∧ (g < s.f.guards ∨ (s.pl k).grd = false) then s.fill lt r (m ++ [k]) (g + one (s.pl k).grd)
    else s.fill lt r m g
def St.guardsOf (s : St) (l : List Int) : Int := (l.map (fun k => one (s.pl k).grd)).sum
def St.settle (s : St) (lt : Bool) : St :=
  let m := s.main.filter (fun k => lt && (s.pl k).entry)
  { s with main := St.fill s lt ({ s with main := m }.alts) m (s.guardsOf m) }
def St.put (s : St) (k : Int) (p : Pl) : St := { s with pl := fun j => if j = k then p else s.pl j, known := if k ∈ s.known then s.known else s.known ++ [k] }
def St.said (s : St) (x : Nt) : St :=
  let p := s.pl x.player
  if x.kind = 1 ∨ x.kind = 2 then
    if x.hour ≤ s.f.close ∧ p.ent = false then { s with turns := s.turns + 1 }.put x.player { p with ent := true, grd := decide (x.kind = 2), rank := x.rank, turn := s.turns }
    else s.put x.player p
  else if x.kind = 3 then
    if late s.f x.hour = false ∧ p.card = false ∧ p.quit = false ∧ (s.cards.length : Int) < s.f.wilds then { s with cards := s.cards ++ [x.player] }.put x.player { p with card := true }
    else s.put x.player p
  else if x.kind = 4 then
    { s with f := if late s.f x.hour = true ∧ p.card = true ∧ p.quit = false then { s.f with places := s.f.places + 1 } else s.f, cards := s.cards.filter (fun k => k != x.player) }.put x.player { p with quit := true }
  else if x.kind = 5 then s.put x.player { p with sgn := true }
  else s.put x.player p
def St.take (s : St) (x : Nt) : St := (s.said x).settle (late s.f x.hour)
def St.at (f : Fd) (l : List Nt) (h : Int) : St := (l.filter (fun x => decide (x.hour ≤ h))).foldl St.take (St.new f)
def idx (l : List Int) (k : Int) : Int := match l.findIdx? (· == k) with | some i => (i : Int) | none => -1
end E
end Go.Proofs.Ytlpjkolocgkcpaa

namespace Go.Proofs.Ytlpjkolocgkcpaa
open Go.RowKit
attribute [local go_sem ↓] Go.wp_at_zero Go.wp_at_succ

namespace E
theorem orL_hit {xs : List Int} {k : Nat} {x : Int} (h : ∀ j, j < k → xs[j]? = some 0) (hk : xs[k]? = some x) (hx : x ≠ 0) : orL xs = x := by
  induction xs generalizing k with
  | nil => cases hk
  | cons y r ih =>
    cases k with
    | zero =>
      have : y = x := Option.some.inj hk
      subst this
      simp [orL, hx]
    | succ k =>
      have h0 : y = 0 := Option.some.inj (h 0 (by omega))
      subst h0
      simp only [orL, if_true]
      exact ih (fun j hj => h (j + 1) (by omega)) hk
theorem orL_none {xs : List Int} (h : ∀ j, j < xs.length → xs[j]? = some 0) : orL xs = 0 := by
  induction xs with
  | nil => rfl
  | cons y r ih =>
    have h0 : y = 0 := Option.some.inj (h 0 (by simp))
    subst h0
    simp only [orL, if_true]
    exact ih (fun j hj => h (j + 1) (by simpa using hj))
theorem idx_hit {xs : List Int} {k : Nat} {x : Int} (h : ∀ j, j < k → xs[j]? ≠ some x) (hk : xs[k]? = some x) : idx xs x = (k : Int) := by
  unfold idx
  have : xs.findIdx? (· == x) = some k := by
    rw [List.findIdx?_eq_some_iff_getElem]
    obtain ⟨hl, he⟩ := List.getElem?_eq_some_iff.1 hk
    refine ⟨hl, by simp [he], fun j hj => ?_⟩
    have := h j hj
    rw [List.getElem?_eq_getElem (by omega)] at this
    simpa using this
  rw [this]
theorem idx_none {xs : List Int} {x : Int} (h : ∀ j, j < xs.length → xs[j]? ≠ some x) : idx xs x = -1 := by
  unfold idx
  have : xs.findIdx? (· == x) = none := by
    rw [List.findIdx?_eq_none_iff]
    intro y hy
    obtain ⟨j, hj, rfl⟩ := List.getElem_of_mem hy
    have := h j hj
    rw [List.getElem?_eq_getElem hj] at this
    simpa using this
  rw [this]
theorem idx_has (xs : List Int) (x : Int) : decide (0 ≤ idx xs x) = xs.contains x := by
  unfold idx
  cases hf : xs.findIdx? (· == x) with
  | none =>
    rw [List.findIdx?_eq_none_iff] at hf
    have : xs.contains x = false := by
      rw [List.contains_eq_mem, decide_eq_false_iff_not]
      intro hm
      have := hf x hm
      simp at this
    rw [this]; rfl
  | some k =>
    rw [List.findIdx?_eq_some_iff_getElem] at hf
    obtain ⟨hl, he, _⟩ := hf
    have : xs.contains x = true := by
      rw [List.contains_eq_mem, decide_eq_true_eq]
      have : xs[k] = x := by simpa using he
      rw [← this]; exact List.getElem_mem hl
    rw [this, decide_eq_true_eq]
    show (0 : Int) ≤ (k : Int)
    omega
end E

theorem isNaN_any (x : Int) (w : World) : Calls Try.prog 84 #[.int .i64 x] w fun e w' => e = .returned (.bool false) ∧ w = w' := by
  go_enter Try.func84, Try.ntmps84
  go_wp2
  go_ret
  exact ⟨by simp, rfl⟩

theorem compare_any (x y : Int) (w : World) : Calls Try.prog 71 #[.int .i64 x, .int .i64 y] w fun e w' => e = .returned (.int .i64 (E.cmp x y)) ∧ w = w' := by
  obtain ⟨r, hr⟩ : ∃ r, Hid (E.cmp x y = r) := ⟨_, hide rfl⟩
  rcases Int.lt_trichotomy x y with h | h | h
  · go_enter Try.func71, Try.ntmps71
    go_wp2_with (go_at_call 84; refine (isNaN_any _ _).mono ?_; rintro e w' ⟨rfl, rfl⟩)
    go_ret
    exact ⟨by simp [E.cmp, h], rfl⟩
  · subst h
    go_enter Try.func71, Try.ntmps71
    go_wp2_with (go_at_call 84; refine (isNaN_any _ _).mono ?_; rintro e w' ⟨rfl, rfl⟩)
    go_ret
    exact ⟨by simp [E.cmp], rfl⟩
  · have h' : ¬ x < y := by omega
    go_enter Try.func71, Try.ntmps71
    go_wp2_with (go_at_call 84; refine (isNaN_any _ _).mono ?_; rintro e w' ⟨rfl, rfl⟩)
    go_ret
    exact ⟨by simp [E.cmp, h, h'], rfl⟩

set_option maxHeartbeats 1600000 in
theorem or_any (A : Option Addr) (n c : Nat) (xs : List Int) (w : World) (hn : xs.length = n) (hr : RdI w w.heap.size A xs) (hm : n ≤ 1000000) :
    Calls Try.prog 70 #[.slice A n c] w fun e w' => e = .returned (.int .i64 (E.orL xs)) ∧ w = w' := by
  have HN := hide hn
  have HR := hide hr
  clear hn hr
  go_enter Try.func70, Try.ntmps70
  go_wp2_with fail
  go_loop [8] (fun i => ∃ k : Nat, k ≤ n ∧ i = .int .i64 k ∧ Hid (∀ j, j < k → xs[j]? = some 0)) (fun i => n - (intOf i).toNat)
  case atStart => exact ⟨0, by omega, rfl, hide (fun j hj => by omega)⟩
  case round =>
    obtain ⟨k, hk, rfl, HZ⟩ := hrel
    by_cases hlt : k < n
    · obtain ⟨x, hx⟩ : ∃ q, xs[k]? = some q := ⟨_, List.getElem?_eq_getElem (by have := HN.out; omega)⟩
      obtain ⟨b, o, hA, hbB, c0⟩ := HR.out k x hx
      subst hA
      have HX := hide hx
      clear hx
      have hlt' : (k : Int) < (n : Int) := by omega
      have hk0 : (0 : Int) ≤ (k : Int) := by omega
      cases h0 : (x != 0)
      · have hx0 : x = 0 := by simpa using h0
        have HX0 := hide hx0
        clear hx0
        go_wp2_with fail
        go_round
        case rel => exact ⟨k + 1, by omega, by go_num, hide (fun j hj => by
          rcases Nat.lt_or_ge j k with h | h
          · exact HZ.out j h
          · have : j = k := by omega
            rw [this, HX.out, HX0.out])⟩
        case measure => simp [intOf]; omega
      · have HX0 := hide (show x ≠ 0 by simpa using h0)
        go_wp2_with fail
        go_ret
        exact ⟨by rw [E.orL_hit HZ.out HX.out HX0.out]; rfl, rfl⟩
    · have hkn : k = n := by omega
      subst hkn
      go_wp2_with fail
      go_ret
      exact ⟨by rw [E.orL_none (fun j hj => HZ.out j (by have := HN.out; omega))]; rfl, rfl⟩

set_option maxHeartbeats 1600000 in
theorem index_any (A : Option Addr) (n c : Nat) (xs : List Int) (y : Int) (w : World) (hn : xs.length = n) (hr : RdI w w.heap.size A xs) (hm : n ≤ 1000000) :
    Calls Try.prog 60 #[.slice A n c, .int .i64 y] w fun e w' => e = .returned (.int .i64 (E.idx xs y)) ∧ w = w' := by
  have HN := hide hn
  have HR := hide hr
  clear hn hr
  go_enter Try.func60, Try.ntmps60
  go_wp2_with fail
  go_loop [8] (fun i => ∃ k : Nat, k ≤ n ∧ i = .int .i64 k ∧ Hid (∀ j, j < k → xs[j]? ≠ some y)) (fun i => n - (intOf i).toNat)
  case atStart => exact ⟨0, by omega, rfl, hide (fun j hj => by omega)⟩
  case round =>
    obtain ⟨k, hk, rfl, HZ⟩ := hrel
    by_cases hlt : k < n
    · obtain ⟨x, hx⟩ : ∃ q, xs[k]? = some q := ⟨_, List.getElem?_eq_getElem (by have := HN.out; omega)⟩
      obtain ⟨b, o, hA, hbB, c0⟩ := HR.out k x hx
      subst hA
      have HX := hide hx
      clear hx
      have hlt' : (k : Int) < (n : Int) := by omega
      have hk0 : (0 : Int) ≤ (k : Int) := by omega
      cases h0 : (y == x)
      · have HX0 := hide (show y ≠ x by simpa using h0)
        go_wp2_with fail
        go_round
        case rel => exact ⟨k + 1, by omega, by go_num, hide (fun j hj => by
          rcases Nat.lt_or_ge j k with h | h
          · exact HZ.out j h
          · have : j = k := by omega
            rw [this, HX.out]
            intro e
            exact HX0.out (Option.some.inj e).symm)⟩
        case measure => simp [intOf]; omega
      · have HX0 := hide (show y = x by simpa using h0)
        go_wp2_with fail
        go_ret
        exact ⟨by rw [E.idx_hit HZ.out (by rw [HX.out, HX0.out])]; rfl, rfl⟩
    · have hkn : k = n := by omega
      subst hkn
      go_wp2_with fail
      go_ret
      exact ⟨by rw [E.idx_none (fun j hj => HZ.out j (by have := HN.out; omega))]; rfl, rfl⟩

theorem contains_any (A : Option Addr) (n c : Nat) (xs : List Int) (y : Int) (w : World) (hn : xs.length = n) (hr : RdI w w.heap.size A xs) (hm : n ≤ 1000000) :
    Calls Try.prog 45 #[.slice A n c, .int .i64 y] w fun e w' => e = .returned (.bool (xs.contains y)) ∧ w = w' := by
  have HC := hide (E.idx_has xs y)
  have H0 := index_any A n c xs y w hn hr hm
  generalize E.idx xs y = r at HC H0
  generalize xs.contains y = q at HC ⊢
  clear hn hr
  have HD := hide hm
  clear hm
  cases hq : q
  · have h0 : ¬ 0 ≤ r := by have := HC.out; rw [hq] at this; simpa using this
    have h1 : r < 0 := by omega
    clear h0 hq HC
    go_enter Try.func45, Try.ntmps45
    go_wp2_with (go_at_call 60; refine H0.mono ?_; rintro e w' ⟨rfl, rfl⟩)
    go_ret
    exact ⟨by simp [h1], rfl⟩
  · have h0 : 0 ≤ r := by have := HC.out; rw [hq] at this; simpa using this
    clear hq HC
    go_enter Try.func45, Try.ntmps45
    go_wp2_with (go_at_call 60; refine H0.mono ?_; rintro e w' ⟨rfl, rfl⟩)
    go_ret
    exact ⟨by simp [h0], rfl⟩

end Go.Proofs.Ytlpjkolocgkcpaa

namespace Go.Proofs.Ytlpjkolocgkcpaa
open Go.RowKit
attribute [local go_sem ↓] Go.wp_at_zero Go.wp_at_succ

theorem bel_of {w w' : World} (h : w.grownBy w' none) : Below w.heap.size w w' := ⟨h.os, h.tape, h.output, h.size, fun i hi => h.block i hi (by simp)⟩
theorem gr_of {w w' : World} (h : Below w.heap.size w w') : w.grownBy w' none := ⟨h.os, h.tape, h.output, h.size, fun i hi _ => h.block i hi⟩
theorem gr_trans {a b c : World} {row : Option Nat} (h : a.grownBy b row) (k : b.grownBy c row) : a.grownBy c row := h.andThen k (fun _ hj => .inr hj)
theorem gr_set (w : World) (g i : Nat) (v : Value) : w.grownBy (w.setCell ⟨g, i, none⟩ v) (some g) :=
  ⟨rfl, rfl, rfl, by simp [World.setCell], fun k _ hk => Below.heap_setCell w ⟨g, i, none⟩ v k (fun e => hk (by rw [e]))⟩
namespace E
def idxP (p : Int → Bool) (xs : List Int) : Int := match xs.findIdx? p with | some i => (i : Int) | none => -1
theorem idxP_hit {p : Int → Bool} {xs : List Int} {k : Nat} {x : Int} (h : ∀ j y, j < k → xs[j]? = some y → p y = false) (hk : xs[k]? = some x) (hx : p x = true) : idxP p xs = (k : Int) := by
  unfold idxP
  have : xs.findIdx? p = some k := by
    rw [List.findIdx?_eq_some_iff_getElem]
    obtain ⟨hl, he⟩ := List.getElem?_eq_some_iff.1 hk
    refine ⟨hl, by rw [he]; exact hx, fun j hj => ?_⟩
    have := h j _ hj (List.getElem?_eq_getElem (by omega))
    simpa using this
  rw [this]
theorem idxP_none {p : Int → Bool} {xs : List Int} (h : ∀ j y, j < xs.length → xs[j]? = some y → p y = false) : idxP p xs = -1 := by
  unfold idxP
  have : xs.findIdx? p = none := by
    rw [List.findIdx?_eq_none_iff]
    intro y hy
    obtain ⟨j, hj, rfl⟩ := List.getElem_of_mem hy
    exact h j _ hj (List.getElem?_eq_getElem hj)
  rw [this]
end E

set_option maxHeartbeats 1600000 in
theorem indexFunc_any (g : Nat) (lb : Array Value) (eg : ∀ args w, (callFunc g args).run Try.prog w = .ok (.enter g args) w) (p : Int → Bool) (K : World → Prop) (xs : List Int)
    (hp : ∀ W x, x ∈ xs → K W → Calls Try.prog g (#[.int .i64 x] ++ lb) W fun e W' => e = .returned (.bool (p x)) ∧ W.grownBy W' none) (hst : ∀ W W', K W → W.grownBy W' none → K W')
    (A : Option Addr) (n c : Nat) (w : World) (hn : xs.length = n) (hr : RdI w w.heap.size A xs) (hm : n ≤ 1000000) (hK : K w) :
    Calls Try.prog 81 #[.slice A n c, .func (.func g) #[] lb] w fun e w' => e = .returned (.int .i64 (E.idxP p xs)) ∧ w.grownBy w' none := by
  have HN := hide hn
  have HR := hide hr
  have HP := hide hp
  have HST := hide hst
  have HK := hide hK
  clear hn hr hp hst hK
  go_enter Try.func81, Try.ntmps81
  go_wp2_with fail
  go_loopw [8] (fun i wr => ∃ k : Nat, k ≤ n ∧ i = .int .i64 k ∧ Hid (∀ j y, j < k → xs[j]? = some y → p y = false) ∧ w.grownBy wr none) (fun i _ => n - (intOf i).toNat)
  case atStart => exact ⟨0, by omega, rfl, hide (fun j y hj => by omega), World.grownBy.refl _ _⟩
  case round =>
    obtain ⟨k, hk, rfl, HZ, hG⟩ := hrel
    have HB := hide (bel_of hG)
    have HG := hide hG
    clear hG
    by_cases hlt : k < n
    · obtain ⟨x, hx⟩ : ∃ q, xs[k]? = some q := ⟨_, List.getElem?_eq_getElem (by have := HN.out; omega)⟩
      obtain ⟨b, o, hA, hbB, c0⟩ := (HR.out.below HB.out) k x hx
      subst hA
      have HX := hide hx
      clear hx
      have hlt' : (k : Int) < (n : Int) := by omega
      have hk0 : (0 : Int) ≤ (k : Int) := by omega
      have hc := HP.out wr x (List.mem_of_getElem? HX.out) (HST.out w wr HK.out HG.out)
      cases h0 : p x
      · rw [h0] at hc
        have HX0 := hide h0
        clear h0
        go_wp2_with (go_at_fn g; refine hc.mono ?_; rintro e w2 ⟨rfl, hg2⟩)
        go_roundw
        case rel => exact ⟨k + 1, by omega, by go_num, hide (fun j y hj hy => by
          rcases Nat.lt_or_ge j k with h | h
          · exact HZ.out j y h hy
          · have : j = k := by omega
            rw [this, HX.out] at hy
            rw [← Option.some.inj hy]; exact HX0.out), gr_trans HG.out hg2⟩
        case measure => simp [intOf]; omega
      · rw [h0] at hc
        have HX0 := hide h0
        clear h0
        go_wp2_with (go_at_fn g; refine hc.mono ?_; rintro e w2 ⟨rfl, hg2⟩)
        go_ret
        exact ⟨by rw [E.idxP_hit HZ.out HX.out HX0.out]; rfl, gr_trans HG.out hg2⟩
    · have hkn : k = n := by omega
      subst hkn
      go_wp2_with fail
      go_ret
      exact ⟨by rw [E.idxP_none (fun j y hj hy => HZ.out j y (by have := HN.out; omega) hy)]; rfl, HG.out⟩

namespace E
theorem take_snoc {xs : List Int} {j : Nat} {x : Int} (h : xs[j]? = some x) (q : Int → Bool) : (xs.take (j + 1)).filter q = (xs.take j).filter q ++ (if q x then [x] else []) := by
  rw [List.take_add_one, h, List.filter_append]
  congr 1
  simp only [Option.toList_some, List.filter_cons, List.filter_nil]
end E

end Go.Proofs.Ytlpjkolocgkcpaa

namespace Go.Proofs.Ytlpjkolocgkcpaa
open Go.RowKit

def RdG (w : World) (B : Nat) (A : Option Addr) (xs : List G.Pt) : Prop :=
  ∀ (k : Nat) (p : G.Pt), xs[k]? = some p → ∃ b o : Nat, A = some ⟨b, o, none⟩ ∧ b < B ∧ w.cell? ⟨b, o + k * 4, none⟩ = some (.int .i64 p.id) ∧ w.cell? ⟨b, o + k * 4 + 1, none⟩ = some (.int .i64 p.at_) ∧ w.cell? ⟨b, o + k * 4 + 2, none⟩ = some (.int .i64 p.size) ∧ w.cell? ⟨b, o + k * 4 + 3, none⟩ = some (.int .i64 p.quits)
def RdF (w : World) (B : Nat) (A : Option Addr) (xs : List G.Fr) : Prop :=
  ∀ (k : Nat) (p : G.Fr), xs[k]? = some p → ∃ b o : Nat, A = some ⟨b, o, none⟩ ∧ b < B ∧ w.cell? ⟨b, o + k * 2, none⟩ = some (.int .i64 p.at_) ∧ w.cell? ⟨b, o + k * 2 + 1, none⟩ = some (.int .i64 p.count)
def RdT (w : World) (B : Nat) (A : Option Addr) (xs : List G.Tk) : Prop :=
  ∀ (k : Nat) (p : G.Tk), xs[k]? = some p → ∃ b o : Nat, A = some ⟨b, o, none⟩ ∧ b < B ∧ w.cell? ⟨b, o + k * 4, none⟩ = some (.int .i64 p.id) ∧ w.cell? ⟨b, o + k * 4 + 1, none⟩ = some (.int .i64 p.price) ∧ w.cell? ⟨b, o + k * 4 + 2, none⟩ = some (.int .i64 p.day) ∧ w.cell? ⟨b, o + k * 4 + 3, none⟩ = some (.int .i64 p.paid)
theorem RdG.below {w w' : World} {B : Nat} {A : Option Addr} {xs : List G.Pt} (h : RdG w B A xs) (hb : Below B w w') : RdG w' B A xs := fun k p hk => by
  obtain ⟨b, o, e, hB, c0, c1, c2, c3⟩ := h k p hk
  exact ⟨b, o, e, hB, (hb.cell (p := ⟨b, o + k * 4, none⟩) hB).trans c0, (hb.cell (p := ⟨b, o + k * 4 + 1, none⟩) hB).trans c1, (hb.cell (p := ⟨b, o + k * 4 + 2, none⟩) hB).trans c2, (hb.cell (p := ⟨b, o + k * 4 + 3, none⟩) hB).trans c3⟩
theorem RdT.below {w w' : World} {B : Nat} {A : Option Addr} {xs : List G.Tk} (h : RdT w B A xs) (hb : Below B w w') : RdT w' B A xs := fun k p hk => by
  obtain ⟨b, o, e, hB, c0, c1, c2, c3⟩ := h k p hk
  exact ⟨b, o, e, hB, (hb.cell (p := ⟨b, o + k * 4, none⟩) hB).trans c0, (hb.cell (p := ⟨b, o + k * 4 + 1, none⟩) hB).trans c1, (hb.cell (p := ⟨b, o + k * 4 + 2, none⟩) hB).trans c2, (hb.cell (p := ⟨b, o + k * 4 + 3, none⟩) hB).trans c3⟩
theorem RdF.below {w w' : World} {B : Nat} {A : Option Addr} {xs : List G.Fr} (h : RdF w B A xs) (hb : Below B w w') : RdF w' B A xs := fun k p hk => by
  obtain ⟨b, o, e, hB, c0, c1⟩ := h k p hk
  exact ⟨b, o, e, hB, (hb.cell (p := ⟨b, o + k * 2, none⟩) hB).trans c0, (hb.cell (p := ⟨b, o + k * 2 + 1, none⟩) hB).trans c1⟩
theorem RdG.mono {w : World} {B B' : Nat} {A : Option Addr} {xs : List G.Pt} (h : RdG w B A xs) (hB : B ≤ B') : RdG w B' A xs := fun k p hk => by
  obtain ⟨b, o, e, hb, c⟩ := h k p hk
  exact ⟨b, o, e, by omega, c⟩
theorem RdT.mono {w : World} {B B' : Nat} {A : Option Addr} {xs : List G.Tk} (h : RdT w B A xs) (hB : B ≤ B') : RdT w B' A xs := fun k p hk => by
  obtain ⟨b, o, e, hb, c⟩ := h k p hk
  exact ⟨b, o, e, by omega, c⟩
theorem RdF.mono {w : World} {B B' : Nat} {A : Option Addr} {xs : List G.Fr} (h : RdF w B A xs) (hB : B ≤ B') : RdF w B' A xs := fun k p hk => by
  obtain ⟨b, o, e, hb, c⟩ := h k p hk
  exact ⟨b, o, e, by omega, c⟩
theorem RdG.nil (w : World) (B : Nat) (A : Option Addr) : RdG w B A [] := fun k p h => by simp at h
theorem RdF.nil (w : World) (B : Nat) (A : Option Addr) : RdF w B A [] := fun k p h => by simp at h
theorem RdT.nil (w : World) (B : Nat) (A : Option Addr) : RdT w B A [] := fun k p h => by simp at h
theorem cap_w {M : World → Prop} (W : World) (h : ∀ W', W' = W → M W') : M W := h W rfl
theorem bkT {u v : World} {q : Nat} {o : Obj} (hb : Below u.heap.size u v) (h : Hid (u.heap[q]? = some o)) : Hid (v.heap[q]? = some o) := hide ((hb.block _ (blk_lt h.out)).trans h.out)
theorem bkG {u v : World} {q : Nat} {o : Obj} {r : Option Nat} (hb : u.grownBy v r) (hn : some q ≠ r) (h : Hid (u.heap[q]? = some o)) : Hid (v.heap[q]? = some o) := hide ((hb.block _ (blk_lt h.out) hn).trans h.out)
end Go.Proofs.Ytlpjkolocgkcpaa

namespace Go.Proofs.Ytlpjkolocgkcpaa
open Go.RowKit
attribute [local go_sem ↓] Go.wp_at_zero Go.wp_at_succ

structure QIn (w : World) (q : G.Qu) (A : Option Addr) (n c : Nat) (F : Option Addr) (m d : Nat) : Prop where
  gl : q.gs.length = n
  fl : q.fs.length = m
  n1 : n ≤ 1000000
  m1 : m ≤ 1000000
  rg : RdG w w.heap.size A q.gs
  rf : RdF w w.heap.size F q.fs
  a : ∀ b o, A = some ⟨b, o, none⟩ → b < w.heap.size
  f : F = none → d = 0
  id : ∀ p ∈ q.gs, (Lit.int .i64 p.id).wf = true
theorem QIn.below {w w' : World} {q : G.Qu} {A : Option Addr} {n c : Nat} {F : Option Addr} {m d : Nat} (h : QIn w q A n c F m d) (hb : Below w.heap.size w w') : QIn w' q A n c F m d :=
  ⟨h.gl, h.fl, h.n1, h.m1, (h.rg.below hb).mono hb.size, (h.rf.below hb).mono hb.size, fun b o e => Nat.lt_of_lt_of_le (h.a b o e) hb.size, h.f, h.id⟩
theorem within_ref (n lo hi : Int) (w : World) :
    Calls Try.prog 37 #[.int .i64 n, .int .i64 lo, .int .i64 hi] w fun e w' => e = .returned (.bool (G.within n lo hi)) ∧ w = w' := by
  by_cases h1 : lo ≤ n <;> by_cases h2 : n ≤ hi <;>
    (go_enter Try.func37, Try.ntmps37
     go_wp2
     go_ret
     exact ⟨by simp [G.within, h1, h2], rfl⟩)

end Go.Proofs.Ytlpjkolocgkcpaa

namespace Go.Proofs.Ytlpjkolocgkcpaa
namespace G

theorem wait_spec (S : Int → Int) (need gone : Int) : ∀ (k : Nat) (m : Int), (gone - m).toNat ≤ k →
    m ≤ wait S need gone k m ∧ (gone ≤ wait S need gone k m ∨ need ≤ S (wait S need gone k m)) ∧ (∀ j, m ≤ j → j < wait S need gone k m → j < gone ∧ S j < need) ∧ (m ≤ gone → wait S need gone k m ≤ gone)
  | 0, m, h => by
    unfold wait
    exact ⟨Int.le_refl _, .inl (by omega), fun j h1 h2 => by omega, fun h => h⟩
  | k + 1, m, h => by
    unfold wait
    by_cases c : gone ≤ m ∨ need ≤ S m
    · rw [if_pos c]
      exact ⟨Int.le_refl _, c, fun j h1 h2 => by omega, fun h => h⟩
    · rw [if_neg c]
      have c1 : ¬ gone ≤ m := fun h => c (.inl h)
      have c2 : ¬ need ≤ S m := fun h => c (.inr h)
      obtain ⟨h1, h2, h3, h4⟩ := wait_spec S need gone k (m + 1) (by omega)
      refine ⟨by omega, h2, fun j a b => ?_, fun _ => h4 (by omega)⟩
      by_cases e : j = m
      · subst e
        exact ⟨by omega, by omega⟩
      · exact h3 j (by omega) b
theorem wait_eq {S : Int → Int} {need gone : Int} {k : Nat} {m r : Int} (hk : (gone - m).toNat ≤ k) (h1 : m ≤ r) (h2 : gone ≤ r ∨ need ≤ S r) (h3 : ∀ j, m ≤ j → j < r → j < gone ∧ S j < need) : wait S need gone k m = r := by
  obtain ⟨a1, a2, a3, _⟩ := wait_spec S need gone k m hk
  rcases Int.lt_trichotomy (wait S need gone k m) r with h | h | h
  · have := h3 _ a1 h; rcases a2 with e | e <;> omega
  · exact h
  · have := a3 _ h1 h; rcases h2 with e | e <;> omega

structure Mo.Ok (rate : Int) (s : Mo) : Prop where
  m0 : 0 ≤ s.min
  p0 : 0 ≤ s.passed
  p1 : s.passed < rate
def Mo.pos (rate : Int) (s : Mo) : Int := s.min * rate + s.passed

section
variable {S : Int → Int} {rate opn : Int} {p : Pt} {s : Mo}
theorem from_le : s.min ≤ from_ opn p s ∧ p.at_ ≤ from_ opn p s ∧ opn ≤ from_ opn p s := by unfold from_; omega
theorem ready_spec : from_ opn p s ≤ ready S opn p s ∧ (p.gone ≤ ready S opn p s ∨ p.size ≤ S (ready S opn p s) - s.used) ∧ (∀ j, from_ opn p s ≤ j → j < ready S opn p s → j < p.gone ∧ S j - s.used < p.size) := by
  obtain ⟨h1, h2, h3, _⟩ := wait_spec (fun m => S m - s.used) p.size p.gone (p.gone - from_ opn p s).toNat (from_ opn p s) (Nat.le_refl _)
  exact ⟨h1, h2, h3⟩
theorem now_bd (hs : s.Ok rate) : 0 ≤ now S opn p s ∧ now S opn p s < rate ∧ s.pos rate ≤ ready S opn p s * rate + now S opn p s := by
  have h1 := (ready_spec (S := S) (opn := opn) (p := p) (s := s)).1
  have h2 := (from_le (opn := opn) (p := p) (s := s)).1
  have hp0 := hs.p0
  have hp1 := hs.p1
  unfold now Mo.pos
  by_cases c : ready S opn p s = s.min
  · rw [if_pos c, c]
    exact ⟨hp0, hp1, Int.le_refl _⟩
  · rw [if_neg c]
    refine ⟨Int.le_refl _, by omega, ?_⟩
    have h3 : (s.min + 1) * rate ≤ ready S opn p s * rate := Int.mul_le_mul_of_nonneg_right (by omega) (by omega)
    rw [Int.add_mul, Int.one_mul] at h3
    omega
theorem next_ok (hr : 1 ≤ rate) (hs : s.Ok rate) (hz : 1 ≤ p.size) : (next S rate opn p s).Ok rate ∧ ready S opn p s ≤ (next S rate opn p s).min := by
  obtain ⟨n0, n1, _⟩ := now_bd (S := S) (opn := opn) (p := p) hs
  have h1 := (ready_spec (S := S) (opn := opn) (p := p) (s := s)).1
  have h2 := (from_le (opn := opn) (p := p) (s := s)).1
  have hm := hs.m0
  unfold next
  split
  · exact ⟨⟨by dsimp only; omega, n0, n1⟩, Int.le_refl _⟩
  · have hd : 0 ≤ (now S opn p s + p.size) / rate := Int.ediv_nonneg (by omega) (by omega)
    exact ⟨⟨by dsimp only; omega, Int.emod_nonneg _ (by omega), Int.emod_lt_of_pos _ (by omega)⟩, by dsimp only; omega⟩
theorem next_gone (h : p.gone ≤ ready S opn p s) : minuteOf S rate opn p s = -1 ∧ (next S rate opn p s).min = ready S opn p s ∧ (next S rate opn p s).used = s.used ∧ (next S rate opn p s).pos rate = ready S opn p s * rate + now S opn p s := by
  unfold minuteOf next Mo.pos
  rw [if_pos h, if_pos h]
  exact ⟨rfl, rfl, rfl, rfl⟩
theorem next_in (hr : 1 ≤ rate) (h : ready S opn p s < p.gone) : (next S rate opn p s).used = s.used + p.size ∧ (next S rate opn p s).pos rate = ready S opn p s * rate + now S opn p s + p.size ∧
    minuteOf S rate opn p s = if 1440 < ((next S rate opn p s).pos rate - 1) / rate then -1 else ((next S rate opn p s).pos rate - 1) / rate := by
  have e : (next S rate opn p s).pos rate = ready S opn p s * rate + now S opn p s + p.size := by
    unfold next Mo.pos
    rw [if_neg (by omega)]
    have := Int.mul_ediv_add_emod (now S opn p s + p.size) rate
    rw [Int.mul_comm] at this
    show (ready S opn p s + (now S opn p s + p.size) / rate) * rate + (now S opn p s + p.size) % rate = _
    rw [Int.add_mul]
    omega
  refine ⟨by unfold next; rw [if_neg (by omega)], e, ?_⟩
  have e2 : ((next S rate opn p s).pos rate - 1) / rate = ready S opn p s + (now S opn p s + p.size - 1) / rate := by
    rw [e, show ready S opn p s * rate + now S opn p s + p.size - 1 = (now S opn p s + p.size - 1) + ready S opn p s * rate by omega, Int.add_mul_ediv_right _ _ (by omega)]
    omega
  rw [e2]
  unfold minuteOf
  rw [if_neg (by omega)]
theorem next_pos (hr : 1 ≤ rate) (hs : s.Ok rate) (hz : 1 ≤ p.size) : s.pos rate ≤ (next S rate opn p s).pos rate := by
  have h := (now_bd (S := S) (opn := opn) (p := p) hs).2.2
  by_cases c : p.gone ≤ ready S opn p s
  · rw [(next_gone c).2.2.2]; exact h
  · rw [(next_in hr (by omega)).2.1]; omega
theorem in_spec (hr : 1 ≤ rate) (hs : s.Ok rate) (hz : 1 ≤ p.size) (h : minuteOf S rate opn p s ≠ -1) :
    ready S opn p s < p.gone ∧ minuteOf S rate opn p s = ((next S rate opn p s).pos rate - 1) / rate ∧ minuteOf S rate opn p s ≤ 1440 ∧ ready S opn p s ≤ minuteOf S rate opn p s := by
  have hg : ready S opn p s < p.gone := Int.not_le.1 (fun c => h (next_gone c).1)
  obtain ⟨h1, h2, h3⟩ := next_in (S := S) (opn := opn) hr hg
  obtain ⟨n0, n1, _⟩ := now_bd (S := S) (opn := opn) (p := p) hs
  by_cases c : 1440 < ((next S rate opn p s).pos rate - 1) / rate
  · rw [if_pos c] at h3; exact absurd h3 h
  · rw [if_neg c] at h3
    refine ⟨hg, h3, by omega, ?_⟩
    rw [h3, h2, show ready S opn p s * rate + now S opn p s + p.size - 1 = (now S opn p s + p.size - 1) + ready S opn p s * rate by omega, Int.add_mul_ediv_right _ _ (by omega)]
    have : 0 ≤ (now S opn p s + p.size - 1) / rate := Int.ediv_nonneg (by omega) (by omega)
    omega
end

theorem run_later {S : Int → Int} {rate opn : Int} (hr : 1 ≤ rate) : ∀ (l : List Pt) (s : Mo), s.Ok rate → (∀ p ∈ l, 1 ≤ p.size) → ∀ x ∈ run S rate opn l s, x.2 = -1 ∨ ((s.pos rate - 1) / rate ≤ x.2 ∧ s.min ≤ x.2 ∧ x.2 ≤ 1440)
  | [], _, _, _, x, h => by cases h
  | p :: r, s, hs, hz, x, h => by
    unfold run at h
    have hz0 := hz p (List.mem_cons_self ..)
    rcases List.mem_cons.1 h with rfl | h
    · by_cases c : minuteOf S rate opn p s = -1
      · exact .inl c
      · obtain ⟨h1, h2, h3, h4⟩ := in_spec hr hs hz0 c
        refine .inr ⟨?_, ?_, h3⟩
        · show _ ≤ minuteOf S rate opn p s
          rw [h2]
          exact Int.ediv_le_ediv (by omega) (by have := next_pos (S := S) (opn := opn) hr hs hz0; omega)
        · show _ ≤ minuteOf S rate opn p s
          have := (ready_spec (S := S) (opn := opn) (p := p) (s := s)).1
          have := (from_le (opn := opn) (p := p) (s := s)).1
          omega
    · obtain ⟨k1, k2⟩ := next_ok (S := S) (opn := opn) hr hs hz0
      rcases run_later hr r _ k1 (fun q hq => hz q (List.mem_cons_of_mem _ hq)) x h with e | ⟨e1, e2, e3⟩
      · exact .inl e
      · have h1 := (ready_spec (S := S) (opn := opn) (p := p) (s := s)).1
        have h2 := (from_le (opn := opn) (p := p) (s := s)).1
        refine .inr ⟨Int.le_trans (Int.ediv_le_ediv (by omega) ?_) e1, by omega, e3⟩
        have := next_pos (S := S) (opn := opn) hr hs hz0
        omega
def Turn (p : Pt) (x y : Int) : Prop := y = -1 ∨ (x ≠ -1 ∧ x ≤ y) ∨ (x = -1 ∧ p.quits ≠ -1 ∧ p.quits ≤ y)
theorem head_turn {S : Int → Int} {rate opn : Int} (hr : 1 ≤ rate) {p : Pt} {r : List Pt} {s : Mo} (hs : s.Ok rate) (hz : ∀ q ∈ p :: r, 1 ≤ q.size) {x : Int × Int} (h : x ∈ run S rate opn r (next S rate opn p s)) : Turn p (minuteOf S rate opn p s) x.2 := by
  have hz0 := hz p (List.mem_cons_self ..)
  obtain ⟨k1, k2⟩ := next_ok (S := S) (opn := opn) hr hs hz0
  rcases run_later hr r _ k1 (fun q hq => hz q (List.mem_cons_of_mem _ hq)) x h with e | ⟨e1, e2, e3⟩
  · exact .inl e
  · by_cases c : p.gone ≤ ready S opn p s
    · refine .inr (.inr ⟨(next_gone c).1, ?_, ?_⟩)
      · intro hq
        have : p.gone = 1441 := if_pos hq
        omega
      · have : p.quits ≤ p.gone := by unfold Pt.gone; split <;> omega
        omega
    · obtain ⟨h1, h2, h3⟩ := next_in (S := S) (opn := opn) hr (Int.not_le.1 c)
      rw [if_neg (by omega)] at h3
      refine .inr (.inl ⟨?_, by omega⟩)
      have h4 := (now_bd (S := S) (opn := opn) (p := p) hs).1
      have h5 := (ready_spec (S := S) (opn := opn) (p := p) (s := s)).1
      have h6 := (from_le (opn := opn) (p := p) (s := s)).1
      have h7 := hs.m0
      have h8 : 0 ≤ ready S opn p s * rate := Int.mul_nonneg (by omega) (by omega)
      have : 0 ≤ ((next S rate opn p s).pos rate - 1) / rate := Int.ediv_nonneg (by rw [h2]; omega) (by omega)
      omega
theorem run_turn {S : Int → Int} {rate opn : Int} (hr : 1 ≤ rate) : ∀ (l : List Pt) (s : Mo), s.Ok rate → (∀ p ∈ l, 1 ≤ p.size) → ∀ (i j : Nat) (p : Pt) (x y : Int × Int), i < j → l[i]? = some p → (run S rate opn l s)[i]? = some x → (run S rate opn l s)[j]? = some y → Turn p x.2 y.2
  | [], _, _, _, i, j, p, x, y, _, hp, _, _ => by simp at hp
  | q :: r, s, hs, hz, i, j, p, x, y, hij, hp, hx, hy => by
    unfold run at hx hy
    obtain ⟨j', rfl⟩ : ∃ j', j = j' + 1 := ⟨j - 1, by omega⟩
    rw [List.getElem?_cons_succ] at hy
    cases i with
    | zero =>
      rw [List.getElem?_cons_zero] at hx hp
      cases hx
      cases hp
      exact head_turn hr hs hz (List.mem_of_getElem? hy)
    | succ i' =>
      rw [List.getElem?_cons_succ] at hx hp
      exact run_turn hr r _ (next_ok hr hs (hz q (List.mem_cons_self ..))).1 (fun q hq => hz q (List.mem_cons_of_mem _ hq)) i' j' p x y (by omega) hp hx hy

def Fair (rate opn : Int) (p : Pt) (x : Int) : Prop := x = -1 ∨ (0 ≤ x ∧ x ≤ 1440 ∧ opn ≤ x ∧ p.at_ ≤ x ∧ (0 ≤ p.quits → x - (p.size + rate - 1) / rate < p.quits))
theorem one_fair {S : Int → Int} {rate opn : Int} (hr : 1 ≤ rate) {p : Pt} {s : Mo} (hs : s.Ok rate) (hz : 1 ≤ p.size) : Fair rate opn p (minuteOf S rate opn p s) := by
  by_cases c : minuteOf S rate opn p s = -1
  · exact .inl c
  · obtain ⟨h1, h2, h3, h4⟩ := in_spec hr hs hz c
    have h5 := (ready_spec (S := S) (opn := opn) (p := p) (s := s)).1
    have h6 := from_le (opn := opn) (p := p) (s := s)
    have h7 := hs.m0
    obtain ⟨n0, n1, _⟩ := now_bd (S := S) (opn := opn) (p := p) hs
    refine .inr ⟨by omega, h3, by omega, by omega, fun hq => ?_⟩
    have hg : p.gone = p.quits := if_neg (by omega)
    have h8 := (next_in (S := S) (opn := opn) hr h1).2.1
    rw [h2, h8, show ready S opn p s * rate + now S opn p s + p.size - 1 = (now S opn p s + p.size - 1) + ready S opn p s * rate by omega, Int.add_mul_ediv_right _ _ (by omega)]
    have : (now S opn p s + p.size - 1) / rate ≤ (p.size + rate - 1) / rate := Int.ediv_le_ediv (by omega) (by omega)
    omega
theorem run_fair {S : Int → Int} {rate opn : Int} (hr : 1 ≤ rate) : ∀ (l : List Pt) (s : Mo), s.Ok rate → (∀ p ∈ l, 1 ≤ p.size) → ∀ (i : Nat) (p : Pt) (x : Int × Int), l[i]? = some p → (run S rate opn l s)[i]? = some x → x.1 = p.id ∧ Fair rate opn p x.2
  | [], _, _, _, i, p, x, hp, _ => by simp at hp
  | q :: r, s, hs, hz, i, p, x, hp, hx => by
    unfold run at hx
    cases i with
    | zero =>
      rw [List.getElem?_cons_zero] at hx hp
      cases hx
      cases hp
      exact ⟨rfl, one_fair hr hs (hz q (List.mem_cons_self ..))⟩
    | succ i' =>
      rw [List.getElem?_cons_succ] at hx hp
      exact run_fair hr r _ (next_ok hr hs (hz q (List.mem_cons_self ..))).1 (fun q hq => hz q (List.mem_cons_of_mem _ hq)) i' p x hp hx

end G
end Go.Proofs.Ytlpjkolocgkcpaa

namespace Go.Proofs.Ytlpjkolocgkcpaa
namespace G

theorem within_iff {n lo hi : Int} : within n lo hi = true ↔ lo ≤ n ∧ n ≤ hi := by
  unfold within
  simp only [Bool.and_eq_true, decide_eq_true_eq]
theorem vNew_iff : ∀ (gs : List Pt) (seen : List Int), vNew seen gs = true ↔ (∀ p ∈ gs, vParty p = true) ∧ (gs.map (·.id)).Nodup ∧ ∀ p ∈ gs, p.id ∉ seen
  | [], seen => by simp [vNew]
  | p :: r, seen => by
    unfold vNew
    rw [Bool.and_eq_true, Bool.and_eq_true, vNew_iff r]
    simp only [List.mem_cons, List.map_cons, List.nodup_cons, List.mem_append, List.mem_map, Bool.not_eq_true', List.contains_eq_mem, decide_eq_false_iff_not]
    constructor
    · rintro ⟨⟨h1, h2⟩, h3, h4, h5⟩
      refine ⟨?_, ⟨?_, h4⟩, ?_⟩
      · rintro q (rfl | hq)
        · exact h2
        · exact h3 q hq
      · rintro ⟨q, hq, e⟩
        exact h5 q hq (.inr (.inl e))
      · rintro q (rfl | hq)
        · exact h1
        · exact fun h => h5 q hq (.inl h)
    · rintro ⟨h1, ⟨h2, h3⟩, h4⟩
      refine ⟨⟨h4 p (.inl rfl), h1 p (.inl rfl)⟩, fun q hq => h1 q (.inr hq), h3, fun q hq h => ?_⟩
      rcases h with h | h | h
      · exact h4 q (.inr hq) h
      · exact h2 ⟨q, hq, h⟩
      · cases h
structure Valid (q : Qu) : Prop where
  o0 : 0 ≤ q.opn
  o1 : q.opn ≤ 1440
  l0 : 1 ≤ q.lo
  lh : q.lo ≤ q.hi
  h1 : q.hi ≤ 100
  s0 : 0 ≤ q.seats
  s1 : q.seats ≤ 9999
  gl : q.gs.length ≤ 40
  gv : ∀ p ∈ q.gs, vParty p = true
  gn : (q.gs.map (·.id)).Nodup
  fl : q.fs.length ≤ 40
  fv : ∀ f ∈ q.fs, vFree f = true
theorem valid_iff {q : Qu} : valid q = true ↔ Valid q := by
  unfold valid vGates vGroups vFrees vMin vSeats
  simp only [Bool.and_eq_true, within_iff, decide_eq_true_eq, List.all_eq_true, vNew_iff]
  constructor
  · rintro ⟨⟨⟨⟨⟨⟨a, b⟩, c, d⟩, e⟩, f, g⟩, h, i, j, _⟩, k, l⟩
    exact ⟨a, b, c, d, e, f, g, h, i, j, k, l⟩
  · intro h
    exact ⟨⟨⟨⟨⟨⟨h.o0, h.o1⟩, h.l0, h.lh⟩, h.h1⟩, h.s0, h.s1⟩, h.gl, h.gv, h.gn, fun p _ => by simp⟩, h.fl, h.fv⟩
structure Pt.V (p : Pt) : Prop where
  i0 : 0 ≤ p.id
  i1 : p.id ≤ 999
  a0 : 0 ≤ p.at_
  a1 : p.at_ ≤ 1440
  z0 : 1 ≤ p.size
  z1 : p.size ≤ 20
  qt : p.quits = -1 ∨ (p.at_ ≤ p.quits ∧ p.quits ≤ 1440)
theorem vParty_iff {p : Pt} : vParty p = true ↔ p.V := by
  unfold vParty vMin
  simp only [Bool.and_eq_true, Bool.or_eq_true, within_iff, beq_iff_eq]
  constructor
  · rintro ⟨⟨⟨⟨a, b⟩, c, d⟩, e, f⟩, g⟩
    exact ⟨a, b, c, d, e, f, g⟩
  · intro h
    exact ⟨⟨⟨⟨h.i0, h.i1⟩, h.a0, h.a1⟩, h.z0, h.z1⟩, h.qt⟩
theorem vFree_iff {f : Fr} : vFree f = true ↔ (0 ≤ f.at_ ∧ f.at_ ≤ 1440) ∧ 0 ≤ f.count ∧ f.count ≤ 9999 := by
  unfold vFree vMin vSeats
  simp only [Bool.and_eq_true, within_iff]

theorem cmp_neg {x y : Int} : cmp x y < 0 ↔ x < y := by
  unfold cmp
  repeat' split
  all_goals omega
theorem cmp_zero {x y : Int} : cmp x y = 0 ↔ x = y := by
  unfold cmp
  repeat' split
  all_goals omega
theorem cmp_le {x y : Int} : cmp x y ≤ 0 ↔ x ≤ y := by
  unfold cmp
  repeat' split
  all_goals omega
theorem cmpG_le {a b : Pt} : cmpG a b ≤ 0 ↔ a.at_ < b.at_ ∨ (a.at_ = b.at_ ∧ a.id ≤ b.id) := by
  unfold cmpG
  by_cases h : cmp a.at_ b.at_ = 0
  · rw [if_pos h, cmp_le]
    have := cmp_zero.1 h
    omega
  · rw [if_neg h, cmp_le]
    have h2 : ¬ a.at_ = b.at_ := fun c => h (cmp_zero.2 c)
    omega
theorem ins_perm (p : Pt) : ∀ l, (ins p l).Perm (p :: l)
  | [] => List.Perm.refl _
  | x :: r => by
    unfold ins
    split
    · exact List.Perm.refl _
    · exact ((ins_perm p r).cons x).trans (List.Perm.swap p x r)
theorem srt_perm : ∀ l, (srt l).Perm l
  | [] => List.Perm.refl _
  | p :: r => (ins_perm p _).trans ((srt_perm r).cons p)
def Sorted (l : List Pt) : Prop := l.Pairwise (fun a b => cmpG a b ≤ 0)
theorem cmpG_trans {a b c : Pt} (h1 : cmpG a b ≤ 0) (h2 : cmpG b c ≤ 0) : cmpG a c ≤ 0 := by rw [cmpG_le] at *; omega
theorem cmpG_total {a b : Pt} (h : ¬ cmpG a b ≤ 0) : cmpG b a ≤ 0 := by rw [cmpG_le] at *; omega
theorem ins_sorted (p : Pt) : ∀ l, Sorted l → Sorted (ins p l)
  | [], _ => by unfold ins Sorted; simp
  | x :: r, h => by
    unfold ins
    have h' := List.pairwise_cons.1 h
    split
    · rename_i c
      refine List.pairwise_cons.2 ⟨fun y hy => ?_, h⟩
      rcases List.mem_cons.1 hy with rfl | hy
      · exact c
      · exact cmpG_trans c (h'.1 y hy)
    · rename_i c
      refine List.pairwise_cons.2 ⟨fun y hy => ?_, ins_sorted p r h'.2⟩
      rcases List.mem_cons.1 ((ins_perm p r).mem_iff.1 hy) with rfl | hy
      · exact cmpG_total c
      · exact h'.1 y hy
theorem srt_sorted : ∀ l, Sorted (srt l)
  | [] => List.Pairwise.nil
  | p :: r => ins_sorted p _ (srt_sorted r)
theorem id_inj {gs : List Pt} (h : (gs.map (·.id)).Nodup) : ∀ a ∈ gs, ∀ b ∈ gs, a.id = b.id → a = b := by
  induction gs with
  | nil => intro a ha; cases ha
  | cons x r ih =>
    rw [List.map_cons, List.nodup_cons] at h
    intro a ha b hb e
    rcases List.mem_cons.1 ha with rfl | ha' <;> rcases List.mem_cons.1 hb with rfl | hb'
    · rfl
    · exact absurd (show a.id ∈ r.map (·.id) by rw [e]; exact List.mem_map_of_mem (f := (·.id)) hb') h.1
    · exact absurd (show b.id ∈ r.map (·.id) by rw [← e]; exact List.mem_map_of_mem (f := (·.id)) ha') h.1
    · exact ih h.2 a ha' b hb' e
theorem sorted_eq {l l' gs : List Pt} (hn : (gs.map (·.id)).Nodup) (p1 : l.Perm gs) (p2 : l'.Perm gs) (s1 : Sorted l) (s2 : Sorted l') : l = l' := by
  refine (p1.trans p2.symm).eq_of_pairwise (fun a b ha hb h1 h2 => ?_) s1 s2
  rw [cmpG_le] at h1 h2
  exact id_inj hn a (p1.mem_iff.1 ha) b (p2.mem_iff.1 hb) (by omega)

theorem run_len (S : Int → Int) (rate opn : Int) : ∀ l s, (run S rate opn l s).length = l.length
  | [], _ => rfl
  | p :: r, s => by unfold run; rw [List.length_cons, List.length_cons, run_len S rate opn r]
theorem run_ids (S : Int → Int) (rate opn : Int) : ∀ l s, (run S rate opn l s).map (·.1) = l.map (·.id)
  | [], _ => rfl
  | p :: r, s => by unfold run; rw [List.map_cons, List.map_cons, run_ids S rate opn r]
theorem look_at : ∀ {l : List (Int × Int)} {i : Nat} {x : Int × Int}, (l.map (·.1)).Nodup → l[i]? = some x → look x.1 l = x.2
  | [], i, x, _, h => by simp at h
  | y :: r, i, x, hn, h => by
    rw [List.map_cons, List.nodup_cons] at hn
    cases i with
    | zero =>
      rw [List.getElem?_cons_zero] at h
      cases h
      unfold look
      rw [List.find?_cons_of_pos (by simp)]
      rfl
    | succ i =>
      rw [List.getElem?_cons_succ] at h
      have hm := List.mem_map_of_mem (f := (·.1)) (List.mem_of_getElem? h)
      have ih := look_at hn.2 h
      unfold look at ih ⊢
      rw [List.find?_cons_of_neg (by simp; intro e; exact hn.1 (e ▸ hm))]
      exact ih
theorem enter_len (q : Qu) (rate : Int) : (enter q rate).length = q.gs.length := by unfold enter; rw [List.length_map]
theorem enter_get {q : Qu} {rate : Int} {i : Nat} {p : Pt} (h : q.gs[i]? = some p) : (enter q rate)[i]? = some (look p.id (run q.S rate q.opn (srt q.gs) ⟨0, 0, 0⟩)) := by
  unfold enter
  rw [List.getElem?_map, h]
  rfl
theorem enter_ord {q : Qu} (hv : Valid q) {rate : Int} {O : List Nat} (hO : O.map (fun j => q.gs[j]?) = (srt q.gs).map some) {i j : Nat} (h : O[i]? = some j) :
    ∃ p x, q.gs[j]? = some p ∧ (srt q.gs)[i]? = some p ∧ (run q.S rate q.opn (srt q.gs) ⟨0, 0, 0⟩)[i]? = some x ∧ x.1 = p.id ∧ (enter q rate)[j]? = some x.2 := by
  have h1 := congrArg (fun l => l[i]?) hO
  simp only [List.getElem?_map, h, Option.map_some] at h1
  cases hs : (srt q.gs)[i]? with
  | none => rw [hs] at h1; simp at h1
  | some p =>
    rw [hs] at h1
    simp only [Option.map_some, Option.some.injEq] at h1
    have hl : i < (run q.S rate q.opn (srt q.gs) ⟨0, 0, 0⟩).length := by rw [run_len]; exact (List.getElem?_eq_some_iff.1 hs).1
    obtain ⟨x, hx⟩ : ∃ x, (run q.S rate q.opn (srt q.gs) ⟨0, 0, 0⟩)[i]? = some x := ⟨_, List.getElem?_eq_getElem hl⟩
    have hid : x.1 = p.id := by
      have h2 := congrArg (fun l => l[i]?) (run_ids q.S rate q.opn (srt q.gs) ⟨0, 0, 0⟩)
      simp only [List.getElem?_map, hx, hs, Option.map_some, Option.some.injEq] at h2
      exact h2
    refine ⟨p, x, h1, rfl, hx, hid, ?_⟩
    rw [enter_get h1, ← hid, look_at ?_ hx]
    rw [run_ids]
    exact ((srt_perm q.gs).map _).nodup_iff.2 hv.gn
theorem zero_ok {rate : Int} (h : 1 ≤ rate) : (⟨0, 0, 0⟩ : Mo).Ok rate := ⟨by dsimp only; omega, by dsimp only; omega, by dsimp only; omega⟩
end G
end Go.Proofs.Ytlpjkolocgkcpaa

namespace Go.Proofs.Ytlpjkolocgkcpaa
open Go.RowKit
attribute [local go_sem ↓] Go.wp_at_zero Go.wp_at_succ

namespace G
theorem vNew_stepC {seen : List Int} {l : List Pt} {k : Nat} {t : Pt} (h : l[k]? = some t) : vNew seen (l.drop k) = (!seen.contains t.id && vParty t && vNew (seen ++ [t.id]) (l.drop (k + 1))) := by
  obtain ⟨hl, he⟩ := List.getElem?_eq_some_iff.1 h
  rw [List.drop_eq_getElem_cons hl, he]
  rfl
end G
set_option maxHeartbeats 6400000 in
set_option maxRecDepth 100000 in
theorem Check_ref (q : G.Qu) (A : Option Addr) (n c : Nat) (F : Option Addr) (m d : Nat) (w : World) (h : QIn w q A n c F m d) :
    Calls Try.prog 16 #[.agg #[.int .i64 q.opn, .int .i64 q.lo, .int .i64 q.hi, .int .i64 q.seats, .slice A n c, .slice F m d]] w fun e w' => e = .returned (.int .i64 (G.checkE q)) ∧ Below w.heap.size w w' := by
  have HI := hide h
  have HN := hide h.gl
  have HM := hide h.fl
  clear h
  cases h1 : G.within (q.opn) (0) (1440)
  · have H1 := hide h1
    clear h1
    have HC := hide (show G.checkE q = 110 by unfold G.checkE G.valid G.vGates G.vGroups G.vFrees G.vMin G.vSeats; simp [H1.out])
    go_enter Try.func16, Try.ntmps16
    go_wp2_with (go_at_call 37; (with_reducible refine (within_ref (q.opn) (0) (1440) _).mono ?_); rintro e w' ⟨rfl, rfl⟩; rw [H1.out])
    go_ret
    exact ⟨by rw [HC.out]; rfl, by (repeat' first | exact zbR _ _ | assumption | refine zbD ?_ | refine zbA ?_ ?_ _ | refine zbS ?_ ?_ _ | refine zbT ?_ (by assumption) ?_ | (simp; done) | (simp; omega) | omega)⟩
  · have H1 := hide h1
    clear h1
    cases h2 : G.within (q.lo) (1) (q.hi)
    · have H2 := hide h2
      clear h2
      have HC := hide (show G.checkE q = 110 by unfold G.checkE G.valid G.vGates G.vGroups G.vFrees G.vMin G.vSeats; simp [H2.out])
      go_enter Try.func16, Try.ntmps16
      go_wp2_with (first | (go_at_call 37; (with_reducible refine (within_ref (q.opn) (0) (1440) _).mono ?_); rintro e w' ⟨rfl, rfl⟩; rw [H1.out]) | (go_at_call 37; (with_reducible refine (within_ref (q.lo) (1) (q.hi) _).mono ?_); rintro e w' ⟨rfl, rfl⟩; rw [H2.out]))
      go_ret
      exact ⟨by rw [HC.out]; rfl, by (repeat' first | exact zbR _ _ | assumption | refine zbD ?_ | refine zbA ?_ ?_ _ | refine zbS ?_ ?_ _ | refine zbT ?_ (by assumption) ?_ | (simp; done) | (simp; omega) | omega)⟩
    · have H2 := hide h2
      clear h2
      by_cases h3 : (100 : Int) < q.hi
      · have h3' : (100 : Int) < q.hi := by omega
        have HC := hide (show G.checkE q = 110 by unfold G.checkE G.valid G.vGates G.vGroups G.vFrees G.vMin G.vSeats; simp [HN.out, HM.out, show ¬ (q.hi ≤ 100) by omega])
        go_enter Try.func16, Try.ntmps16
        go_wp2_with (first | (go_at_call 37; (with_reducible refine (within_ref (q.opn) (0) (1440) _).mono ?_); rintro e w' ⟨rfl, rfl⟩; rw [H1.out]) | (go_at_call 37; (with_reducible refine (within_ref (q.lo) (1) (q.hi) _).mono ?_); rintro e w' ⟨rfl, rfl⟩; rw [H2.out]))
        go_ret
        exact ⟨by rw [HC.out]; rfl, by (repeat' first | exact zbR _ _ | assumption | refine zbD ?_ | refine zbA ?_ ?_ _ | refine zbS ?_ ?_ _ | refine zbT ?_ (by assumption) ?_ | (simp; done) | (simp; omega) | omega)⟩
      · have h3' : q.hi ≤ 100 := by omega
        cases h4 : G.within (q.seats) (0) (9999)
        · have H4 := hide h4
          clear h4
          have HC := hide (show G.checkE q = 110 by unfold G.checkE G.valid G.vGates G.vGroups G.vFrees G.vMin G.vSeats; simp [H4.out])
          go_enter Try.func16, Try.ntmps16
          go_wp2_with (first | (go_at_call 37; (with_reducible refine (within_ref (q.opn) (0) (1440) _).mono ?_); rintro e w' ⟨rfl, rfl⟩; rw [H1.out]) | (go_at_call 37; (with_reducible refine (within_ref (q.lo) (1) (q.hi) _).mono ?_); rintro e w' ⟨rfl, rfl⟩; rw [H2.out]) | (go_at_call 37; (with_reducible refine (within_ref (q.seats) (0) (9999) _).mono ?_); rintro e w' ⟨rfl, rfl⟩; rw [H4.out]))
          go_ret
          exact ⟨by rw [HC.out]; rfl, by (repeat' first | exact zbR _ _ | assumption | refine zbD ?_ | refine zbA ?_ ?_ _ | refine zbS ?_ ?_ _ | refine zbT ?_ (by assumption) ?_ | (simp; done) | (simp; omega) | omega)⟩
        · have H4 := hide h4
          clear h4
          by_cases h5 : (40 : Int) < (n : Int)
          · have h5' : (40 : Int) < (n : Int) := by omega
            have HC := hide (show G.checkE q = 110 by unfold G.checkE G.valid G.vGates G.vGroups G.vFrees G.vMin G.vSeats; simp [HN.out, HM.out, show ¬ (n ≤ 40) by omega])
            go_enter Try.func16, Try.ntmps16
            go_wp2_with (first | (go_at_call 37; (with_reducible refine (within_ref (q.opn) (0) (1440) _).mono ?_); rintro e w' ⟨rfl, rfl⟩; rw [H1.out]) | (go_at_call 37; (with_reducible refine (within_ref (q.lo) (1) (q.hi) _).mono ?_); rintro e w' ⟨rfl, rfl⟩; rw [H2.out]) | (go_at_call 37; (with_reducible refine (within_ref (q.seats) (0) (9999) _).mono ?_); rintro e w' ⟨rfl, rfl⟩; rw [H4.out]))
            go_ret
            exact ⟨by rw [HC.out]; rfl, by (repeat' first | exact zbR _ _ | assumption | refine zbD ?_ | refine zbA ?_ ?_ _ | refine zbS ?_ ?_ _ | refine zbT ?_ (by assumption) ?_ | (simp; done) | (simp; omega) | omega)⟩
          · have h5' : (n : Int) ≤ 40 := by omega
            by_cases h6 : (40 : Int) < (m : Int)
            · have h6' : (40 : Int) < (m : Int) := by omega
              have HC := hide (show G.checkE q = 110 by unfold G.checkE G.valid G.vGates G.vGroups G.vFrees G.vMin G.vSeats; simp [HN.out, HM.out, show ¬ (m ≤ 40) by omega])
              go_enter Try.func16, Try.ntmps16
              go_wp2_with (first | (go_at_call 37; (with_reducible refine (within_ref (q.opn) (0) (1440) _).mono ?_); rintro e w' ⟨rfl, rfl⟩; rw [H1.out]) | (go_at_call 37; (with_reducible refine (within_ref (q.lo) (1) (q.hi) _).mono ?_); rintro e w' ⟨rfl, rfl⟩; rw [H2.out]) | (go_at_call 37; (with_reducible refine (within_ref (q.seats) (0) (9999) _).mono ?_); rintro e w' ⟨rfl, rfl⟩; rw [H4.out]))
              go_ret
              exact ⟨by rw [HC.out]; rfl, by (repeat' first | exact zbR _ _ | assumption | refine zbD ?_ | refine zbA ?_ ?_ _ | refine zbS ?_ ?_ _ | refine zbT ?_ (by assumption) ?_ | (simp; done) | (simp; omega) | omega)⟩
            · have h6' : (m : Int) ≤ 40 := by omega
              have HE := hide (show G.checkE q = if G.vNew [] q.gs && q.fs.all G.vFree then 0 else 110 by unfold G.checkE G.valid G.vGates G.vGroups G.vFrees G.vMin G.vSeats; simp [H1.out, H2.out, H4.out, HN.out, HM.out, h3', show n ≤ 40 by omega, show m ≤ 40 by omega])
              have hn40 : n ≤ 40 := by omega
              have hm40 : m ≤ 40 := by omega
              go_enter Try.func16, Try.ntmps16
              go_wp2_with (first | (go_at_call 37; (with_reducible refine (within_ref (q.opn) (0) (1440) _).mono ?_); rintro e w' ⟨rfl, rfl⟩; rw [H1.out]) | (go_at_call 37; (with_reducible refine (within_ref (q.lo) (1) (q.hi) _).mono ?_); rintro e w' ⟨rfl, rfl⟩; rw [H2.out]) | (go_at_call 37; (with_reducible refine (within_ref (q.seats) (0) (9999) _).mono ?_); rintro e w' ⟨rfl, rfl⟩; rw [H4.out]))
              refine cap_w (M := Code.wp _ _ _ _) _ (fun w1 hw1 => ?_)
              have HB1 := hide (show Below w.heap.size w w1 by rw [hw1]; (repeat' first | exact zbR _ _ | assumption | refine zbD ?_ | refine zbA ?_ ?_ _ | refine zbS ?_ ?_ _ | refine zbT ?_ (by assumption) ?_ | (simp; done) | (simp; omega) | omega))
              have HQ := hide (show w1.heap[w.heap.size]? = some (.cells #[.int .i64 q.opn, .int .i64 q.lo, .int .i64 q.hi, .int .i64 q.seats, .slice A n c, .slice F m d] 27 (0, 0)) by rw [hw1]; exact World.alloc_heap_new _ _)
              have HR := hide ((HI.out.below HB1.out).rg)
              have HRF := hide ((HI.out.below HB1.out).rf)
              clear hw1 h3 h3' h5 h5' h6 h6'
              obtain ⟨b0, hb0⟩ : ∃ x, w.heap.size = x := ⟨_, rfl⟩
              have HE0 := hide hb0
              rw [hb0] at HQ ⊢
              clear hb0
              go_loopw [3] (fun i wr => ∃ k : Nat, k ≤ n ∧ i = .int .i64 k ∧ Hid (G.vNew ((q.gs.take k).map (·.id)) (q.gs.drop k) = G.vNew [] q.gs) ∧ Hid (Below w1.heap.size w1 wr)) (fun i _ => n - (intOf i).toNat)
              case atStart => exact ⟨0, by omega, rfl, hide rfl, hide (Below.refl _ _)⟩
              case round =>
                obtain ⟨k, hk, rfl, HV, HBr⟩ := hrel
                have HQr := bkT HBr.out HQ
                have x4 : wr.cell? ⟨b0, 4, none⟩ = some (.slice A n c) := (blk_cell HQr.out 4).trans rfl
                have lx := blk_lt HQr.out
                by_cases hlt : k < n
                · obtain ⟨p, hp⟩ : ∃ p, q.gs[k]? = some p := ⟨_, List.getElem?_eq_getElem (by have := HN.out; omega)⟩
                  obtain ⟨bg, og, rfl, hbg, d0, d1, d2, d3⟩ := (HR.out.below HBr.out) k p hp
                  have hlt' : (k : Int) < (n : Int) := by omega
                  have hk0 : (0 : Int) ≤ (k : Int) := by omega
                  have hbr : bg < wr.heap.size := Nat.lt_of_lt_of_le hbg HBr.out.size
                  have HS := hide (G.vNew_stepC (seen := (q.gs.take k).map (·.id)) hp)
                  have HTK := hide (show (q.gs.take (k + 1)).map (·.id) = (q.gs.take k).map (·.id) ++ [p.id] by rw [List.take_add_one, hp]; simp)
                  clear hp
                  go_upto_region 7 with fail
                  refine cap_w (M := Code.wp _ _ _ _) _ (fun w2 hw2 => ?_)
                  have HB2 := hide (show Below wr.heap.size wr w2 by rw [hw2]; exact zbA (zbR _ _) (Nat.le_refl _) _)
                  have HT2 := hide (show w2.heap[wr.heap.size]? = some (.cells #[.int .i64 p.id, .int .i64 p.at_, .int .i64 p.size, .int .i64 p.quits] 42 (0, 0)) by rw [hw2]; exact World.alloc_heap_new _ _)
                  clear hw2 d0 d1 d2 d3 x4 lx
                  have HQ2 := bkT HB2.out HQr
                  have HR2 := hide (((HR.out.below HBr.out).below (HB2.out.mono HBr.out.size)).mono (Nat.le_trans HBr.out.size HB2.out.size))
                  obtain ⟨g, hg⟩ : ∃ g, wr.heap.size = g := ⟨_, rfl⟩
                  have HG := hide hg
                  rw [hg] at HT2 ⊢
                  clear hg
                  have c0 : w2.cell? ⟨g, 0, none⟩ = some (.int .i64 p.id) := (blk_cell HT2.out 0).trans rfl
                  have c1 : w2.cell? ⟨g, 1, none⟩ = some (.int .i64 p.at_) := (blk_cell HT2.out 1).trans rfl
                  have c2 : w2.cell? ⟨g, 2, none⟩ = some (.int .i64 p.size) := (blk_cell HT2.out 2).trans rfl
                  have c3 : w2.cell? ⟨g, 3, none⟩ = some (.int .i64 p.quits) := (blk_cell HT2.out 3).trans rfl
                  have lg := blk_lt HT2.out
                  cases ha : G.within (p.id) (0) (999)
                  · have Ha := hide ha
                    clear ha
                    have HBAD := hide (show G.vNew [] q.gs = false by rw [← HV.out, HS.out]; unfold G.vParty G.vMin; simp [Ha.out])
                    go_wp2_with (go_at_call 37; (with_reducible refine (within_ref (p.id) (0) (999) _).mono ?_); rintro e w' ⟨rfl, rfl⟩; rw [Ha.out])
                    go_ret
                    exact ⟨by rw [HE.out, HBAD.out]; rfl, zbT HB1.out (zbT HBr.out HB2.out HBr.out.size) HB1.out.size⟩
                  · have Ha := hide ha
                    clear ha
                    cases hb : G.within (p.at_) (0) (1440)
                    · have Hb := hide hb
                      clear hb
                      have HBAD := hide (show G.vNew [] q.gs = false by rw [← HV.out, HS.out]; unfold G.vParty G.vMin; simp [Hb.out])
                      go_wp2_with (first | (go_at_call 37; (with_reducible refine (within_ref (p.id) (0) (999) _).mono ?_); rintro e w' ⟨rfl, rfl⟩; rw [Ha.out]) | (go_at_call 37; (with_reducible refine (within_ref (p.at_) (0) (1440) _).mono ?_); rintro e w' ⟨rfl, rfl⟩; rw [Hb.out]))
                      go_ret
                      exact ⟨by rw [HE.out, HBAD.out]; rfl, zbT HB1.out (zbT HBr.out HB2.out HBr.out.size) HB1.out.size⟩
                    · have Hb := hide hb
                      clear hb
                      cases hc : G.within (p.size) (1) (20)
                      · have Hc := hide hc
                        clear hc
                        have HBAD := hide (show G.vNew [] q.gs = false by rw [← HV.out, HS.out]; unfold G.vParty G.vMin; simp [Hc.out])
                        go_wp2_with (first | (go_at_call 37; (with_reducible refine (within_ref (p.id) (0) (999) _).mono ?_); rintro e w' ⟨rfl, rfl⟩; rw [Ha.out]) | (go_at_call 37; (with_reducible refine (within_ref (p.at_) (0) (1440) _).mono ?_); rintro e w' ⟨rfl, rfl⟩; rw [Hb.out]) | (go_at_call 37; (with_reducible refine (within_ref (p.size) (1) (20) _).mono ?_); rintro e w' ⟨rfl, rfl⟩; rw [Hc.out]))
                        go_ret
                        exact ⟨by rw [HE.out, HBAD.out]; rfl, zbT HB1.out (zbT HBr.out HB2.out HBr.out.size) HB1.out.size⟩
                      · have Hc := hide hc
                        clear hc
                        by_cases hq1 : p.quits = -1
                        · have hqb : (p.quits == -1) = true := by rw [hq1]; rfl
                          have hqc : (p.quits != -1) = false := by rw [hq1]; rfl
                          have HVP := hide (show G.vParty p = true by unfold G.vParty G.vMin; simp [Ha.out, Hb.out, Hc.out, hq1])
                          clear hq1
                          go_wp2_with (first | (go_at_call 37; (with_reducible refine (within_ref (p.id) (0) (999) _).mono ?_); rintro e w' ⟨rfl, rfl⟩; rw [Ha.out]) | (go_at_call 37; (with_reducible refine (within_ref (p.at_) (0) (1440) _).mono ?_); rintro e w' ⟨rfl, rfl⟩; rw [Hb.out]) | (go_at_call 37; (with_reducible refine (within_ref (p.size) (1) (20) _).mono ?_); rintro e w' ⟨rfl, rfl⟩; rw [Hc.out]))
                          clear c0 c1 c2 c3 hqb hqc
                          go_loopw [5] (fun j wr => ∃ i : Nat, i ≤ k ∧ j = .int .i64 i ∧ Hid (∀ y ∈ q.gs.take i, y.id ≠ p.id) ∧ Hid (Below w2.heap.size w2 wr)) (fun j _ => k - (intOf j).toNat)
                          case atStart => exact ⟨0, by omega, rfl, hide (fun y hy => by simp at hy), hide (Below.refl _ _)⟩
                          case round =>
                            obtain ⟨i, hi, rfl, HNE, HBi⟩ := hrel
                            have HQ3 := bkT HBi.out HQ2
                            have HT3 := bkT HBi.out HT2
                            have x4 : wr.cell? ⟨b0, 4, none⟩ = some (.slice (some ⟨bg, og, none⟩) n c) := (blk_cell HQ3.out 4).trans rfl
                            have lx := blk_lt HQ3.out
                            have c0 : wr.cell? ⟨g, 0, none⟩ = some (.int .i64 p.id) := (blk_cell HT3.out 0).trans rfl
                            have lg := blk_lt HT3.out
                            by_cases hik : i < k
                            · obtain ⟨y, hy⟩ : ∃ y, q.gs[i]? = some y := ⟨_, List.getElem?_eq_getElem (by have := HN.out; omega)⟩
                              obtain ⟨b', o', e', _, y0, _, _, _⟩ := (HR2.out.below HBi.out) i y hy
                              injection e' with e'
                              injection e' with e1 e2
                              subst e1 e2
                              have HY := hide hy
                              have hi1 : (i : Int) < (k : Int) := by omega
                              have hi2 : (i : Int) < (n : Int) := by omega
                              have hi0 : (0 : Int) ≤ (i : Int) := by omega
                              clear hy
                              cases hq : (y.id == p.id)
                              · have HQE := hide hq
                                go_wp2_with fail
                                go_quiet (fail)
                                clear hq
                                go_wp2_with fail
                                go_roundw
                                case rel =>
                                  refine ⟨i + 1, by omega, by go_num, hide (fun z hz => ?_), hide (zbT HBi.out (by first | exact below_drewN (zbR _ _) _ | (repeat' first | exact zbR _ _ | assumption | refine zbD ?_ | refine zbA ?_ ?_ _ | refine zbS ?_ ?_ _ | refine zbT ?_ (by assumption) ?_ | (simp; done) | (simp; omega) | omega)) HBi.out.size)⟩
                                  rw [List.take_add_one, HY.out] at hz
                                  rcases List.mem_append.1 hz with hz | hz
                                  · exact HNE.out z hz
                                  · obtain rfl : z = y := by simpa using hz
                                    exact beq_eq_false_iff_ne.1 HQE.out
                                case measure => simp [intOf]; omega
                              · have HBAD := hide (show G.vNew [] q.gs = false by
                                  rw [← HV.out, HS.out]
                                  have : (((q.gs.take k).map (·.id)).contains p.id) = true := by
                                    rw [List.contains_iff_mem]
                                    exact List.mem_map.2 ⟨y, List.mem_of_getElem? (by rw [List.getElem?_take, if_pos hik]; exact HY.out), beq_iff_eq.1 hq⟩
                                  rw [this]
                                  rfl)
                                go_wp2_with fail
                                go_quiet (fail)
                                clear hq
                                go_wp2_with fail
                                go_ret
                                exact ⟨by rw [HE.out, HBAD.out]; rfl, zbT HB1.out (zbT HBr.out (zbT HB2.out (zbT HBi.out (by first | exact below_drewN (zbR _ _) _ | (repeat' first | exact zbR _ _ | assumption | refine zbD ?_ | refine zbA ?_ ?_ _ | refine zbS ?_ ?_ _ | refine zbT ?_ (by assumption) ?_ | (simp; done) | (simp; omega) | omega)) HBi.out.size) HB2.out.size) HBr.out.size) HB1.out.size⟩
                            · have hik' : i = k := by omega
                              subst hik'
                              have HV' := hide (show G.vNew ((q.gs.take (i + 1)).map (·.id)) (q.gs.drop (i + 1)) = G.vNew [] q.gs by
                                rw [← HV.out, HS.out, HTK.out, HVP.out]
                                have : (((q.gs.take i).map (·.id)).contains p.id) = false := by
                                  rw [List.contains_eq_mem, decide_eq_false_iff_not]
                                  intro hm
                                  obtain ⟨y, hy, e⟩ := List.mem_map.1 hm
                                  exact HNE.out y hy e
                                rw [this]
                                rfl)
                              go_wp2_with fail
                              go_roundw
                              case rel => exact ⟨i + 1, by omega, by go_num, HV', hide (zbT HBr.out (zbT HB2.out (zbT HBi.out (by first | exact below_drewN (zbR _ _) _ | (repeat' first | exact zbR _ _ | assumption | refine zbD ?_ | refine zbA ?_ ?_ _ | refine zbS ?_ ?_ _ | refine zbT ?_ (by assumption) ?_ | (simp; done) | (simp; omega) | omega)) HBi.out.size) HB2.out.size) HBr.out.size)⟩
                              case measure => simp [intOf]; omega
                        · have hqb : (p.quits == -1) = false := by simpa using hq1
                          have hqc : (p.quits != -1) = true := by simpa using hq1
                          clear hq1
                          cases hd : G.within p.quits p.at_ 1440
                          · have Hd := hide hd
                            have HBAD := hide (show G.vNew [] q.gs = false by rw [← HV.out, HS.out]; unfold G.vParty; simp [Hd.out, hqb])
                            clear hd
                            go_wp2_with (first | (go_at_call 37; (with_reducible refine (within_ref (p.id) (0) (999) _).mono ?_); rintro e w' ⟨rfl, rfl⟩; rw [Ha.out]) | (go_at_call 37; (with_reducible refine (within_ref (p.at_) (0) (1440) _).mono ?_); rintro e w' ⟨rfl, rfl⟩; rw [Hb.out]) | (go_at_call 37; (with_reducible refine (within_ref (p.size) (1) (20) _).mono ?_); rintro e w' ⟨rfl, rfl⟩; rw [Hc.out]) | (go_at_call 37; (with_reducible refine (within_ref (p.quits) (p.at_) (1440) _).mono ?_); rintro e w' ⟨rfl, rfl⟩; rw [Hd.out]))
                            go_ret
                            exact ⟨by rw [HE.out, HBAD.out]; rfl, zbT HB1.out (zbT HBr.out HB2.out HBr.out.size) HB1.out.size⟩
                          · have Hd := hide hd
                            have HVP := hide (show G.vParty p = true by unfold G.vParty G.vMin; simp [Ha.out, Hb.out, Hc.out, Hd.out])
                            clear hd
                            go_wp2_with (first | (go_at_call 37; (with_reducible refine (within_ref (p.id) (0) (999) _).mono ?_); rintro e w' ⟨rfl, rfl⟩; rw [Ha.out]) | (go_at_call 37; (with_reducible refine (within_ref (p.at_) (0) (1440) _).mono ?_); rintro e w' ⟨rfl, rfl⟩; rw [Hb.out]) | (go_at_call 37; (with_reducible refine (within_ref (p.size) (1) (20) _).mono ?_); rintro e w' ⟨rfl, rfl⟩; rw [Hc.out]) | (go_at_call 37; (with_reducible refine (within_ref (p.quits) (p.at_) (1440) _).mono ?_); rintro e w' ⟨rfl, rfl⟩; rw [Hd.out]))
                            clear c0 c1 c2 c3 hqb hqc
                            go_loopw [5] (fun j wr => ∃ i : Nat, i ≤ k ∧ j = .int .i64 i ∧ Hid (∀ y ∈ q.gs.take i, y.id ≠ p.id) ∧ Hid (Below w2.heap.size w2 wr)) (fun j _ => k - (intOf j).toNat)
                            case atStart => exact ⟨0, by omega, rfl, hide (fun y hy => by simp at hy), hide (Below.refl _ _)⟩
                            case round =>
                              obtain ⟨i, hi, rfl, HNE, HBi⟩ := hrel
                              have HQ3 := bkT HBi.out HQ2
                              have HT3 := bkT HBi.out HT2
                              have x4 : wr.cell? ⟨b0, 4, none⟩ = some (.slice (some ⟨bg, og, none⟩) n c) := (blk_cell HQ3.out 4).trans rfl
                              have lx := blk_lt HQ3.out
                              have c0 : wr.cell? ⟨g, 0, none⟩ = some (.int .i64 p.id) := (blk_cell HT3.out 0).trans rfl
                              have lg := blk_lt HT3.out
                              by_cases hik : i < k
                              · obtain ⟨y, hy⟩ : ∃ y, q.gs[i]? = some y := ⟨_, List.getElem?_eq_getElem (by have := HN.out; omega)⟩
                                obtain ⟨b', o', e', _, y0, _, _, _⟩ := (HR2.out.below HBi.out) i y hy
                                injection e' with e'
                                injection e' with e1 e2
                                subst e1 e2
                                have HY := hide hy
                                have hi1 : (i : Int) < (k : Int) := by omega
                                have hi2 : (i : Int) < (n : Int) := by omega
                                have hi0 : (0 : Int) ≤ (i : Int) := by omega
                                clear hy
                                cases hq : (y.id == p.id)
                                · have HQE := hide hq
                                  go_wp2_with fail
                                  go_quiet (fail)
                                  clear hq
                                  go_wp2_with fail
                                  go_roundw
                                  case rel =>
                                    refine ⟨i + 1, by omega, by go_num, hide (fun z hz => ?_), hide (zbT HBi.out (by first | exact below_drewN (zbR _ _) _ | (repeat' first | exact zbR _ _ | assumption | refine zbD ?_ | refine zbA ?_ ?_ _ | refine zbS ?_ ?_ _ | refine zbT ?_ (by assumption) ?_ | (simp; done) | (simp; omega) | omega)) HBi.out.size)⟩
                                    rw [List.take_add_one, HY.out] at hz
                                    rcases List.mem_append.1 hz with hz | hz
                                    · exact HNE.out z hz
                                    · obtain rfl : z = y := by simpa using hz
                                      exact beq_eq_false_iff_ne.1 HQE.out
                                  case measure => simp [intOf]; omega
                                · have HBAD := hide (show G.vNew [] q.gs = false by
                                    rw [← HV.out, HS.out]
                                    have : (((q.gs.take k).map (·.id)).contains p.id) = true := by
                                      rw [List.contains_iff_mem]
                                      exact List.mem_map.2 ⟨y, List.mem_of_getElem? (by rw [List.getElem?_take, if_pos hik]; exact HY.out), beq_iff_eq.1 hq⟩
                                    rw [this]
                                    rfl)
                                  go_wp2_with fail
                                  go_quiet (fail)
                                  clear hq
                                  go_wp2_with fail
                                  go_ret
                                  exact ⟨by rw [HE.out, HBAD.out]; rfl, zbT HB1.out (zbT HBr.out (zbT HB2.out (zbT HBi.out (by first | exact below_drewN (zbR _ _) _ | (repeat' first | exact zbR _ _ | assumption | refine zbD ?_ | refine zbA ?_ ?_ _ | refine zbS ?_ ?_ _ | refine zbT ?_ (by assumption) ?_ | (simp; done) | (simp; omega) | omega)) HBi.out.size) HB2.out.size) HBr.out.size) HB1.out.size⟩
                              · have hik' : i = k := by omega
                                subst hik'
                                have HV' := hide (show G.vNew ((q.gs.take (i + 1)).map (·.id)) (q.gs.drop (i + 1)) = G.vNew [] q.gs by
                                  rw [← HV.out, HS.out, HTK.out, HVP.out]
                                  have : (((q.gs.take i).map (·.id)).contains p.id) = false := by
                                    rw [List.contains_eq_mem, decide_eq_false_iff_not]
                                    intro hm
                                    obtain ⟨y, hy, e⟩ := List.mem_map.1 hm
                                    exact HNE.out y hy e
                                  rw [this]
                                  rfl)
                                go_wp2_with fail
                                go_roundw
                                case rel => exact ⟨i + 1, by omega, by go_num, HV', hide (zbT HBr.out (zbT HB2.out (zbT HBi.out (by first | exact below_drewN (zbR _ _) _ | (repeat' first | exact zbR _ _ | assumption | refine zbD ?_ | refine zbA ?_ ?_ _ | refine zbS ?_ ?_ _ | refine zbT ?_ (by assumption) ?_ | (simp; done) | (simp; omega) | omega)) HBi.out.size) HB2.out.size) HBr.out.size)⟩
                                case measure => simp [intOf]; omega
                · have hkn : k = n := by omega
                  subst hkn
                  have HVN := hide (show G.vNew [] q.gs = true by rw [← HV.out, List.drop_eq_nil_of_le (by have := HN.out; omega)]; rfl)
                  have HB3 := HBr
                  clear HBr HV hlt hk
                  go_wp2_with fail
                  obtain ⟨w3, hw3⟩ : ∃ x, wr = x := ⟨_, rfl⟩
                  rw [hw3] at HB3 HQr ⊢
                  clear hw3 x4 lx
                  go_loopw [6] (fun i wr => ∃ j : Nat, j ≤ m ∧ i = .int .i64 j ∧ Hid (∀ y ∈ q.fs.take j, G.vFree y = true) ∧ Hid (Below w3.heap.size w3 wr)) (fun i _ => m - (intOf i).toNat)
                  case atStart => exact ⟨0, by omega, rfl, hide (fun y hy => by simp at hy), hide (Below.refl _ _)⟩
                  case round =>
                    obtain ⟨k, hk, rfl, HAL, HBr⟩ := hrel
                    have HQs := bkT HBr.out HQr
                    have x5 : wr.cell? ⟨b0, 5, none⟩ = some (.slice F m d) := (blk_cell HQs.out 5).trans rfl
                    have lx := blk_lt HQs.out
                    by_cases hlt : k < m
                    · obtain ⟨f, hf⟩ : ∃ f, q.fs[k]? = some f := ⟨_, List.getElem?_eq_getElem (by have := HM.out; omega)⟩
                      obtain ⟨bf, of', rfl, hbf, d0, d1⟩ := ((HRF.out.below HB3.out).below (HBr.out.mono HB3.out.size)) k f hf
                      have hlt' : (k : Int) < (m : Int) := by omega
                      have hk0 : (0 : Int) ≤ (k : Int) := by omega
                      have HF := hide hf
                      clear hf
                      cases ha : G.within (f.at_) (0) (1440)
                      · have Ha := hide ha
                        clear ha
                        have HBAD := hide (show q.fs.all G.vFree = false by rw [List.all_eq_false]; exact ⟨f, List.mem_of_getElem? HF.out, by unfold G.vFree G.vMin G.vSeats; simp [Ha.out]⟩)
                        go_wp2_with (go_at_call 37; (with_reducible refine (within_ref (f.at_) (0) (1440) _).mono ?_); rintro e w' ⟨rfl, rfl⟩; rw [Ha.out])
                        go_ret
                        exact ⟨by rw [HE.out, HBAD.out, Bool.and_false]; rfl, zbT HB1.out (zbT HB3.out (zbT HBr.out (by (repeat' first | exact zbR _ _ | assumption | refine zbD ?_ | refine zbA ?_ ?_ _ | refine zbS ?_ ?_ _ | refine zbT ?_ (by assumption) ?_ | (simp; done) | (simp; omega) | omega)) HBr.out.size) HB3.out.size) HB1.out.size⟩
                      · have Ha := hide ha
                        clear ha
                        cases hb : G.within (f.count) (0) (9999)
                        · have Hb := hide hb
                          clear hb
                          have HBAD := hide (show q.fs.all G.vFree = false by rw [List.all_eq_false]; exact ⟨f, List.mem_of_getElem? HF.out, by unfold G.vFree G.vMin G.vSeats; simp [Hb.out]⟩)
                          go_wp2_with (first | (go_at_call 37; (with_reducible refine (within_ref (f.at_) (0) (1440) _).mono ?_); rintro e w' ⟨rfl, rfl⟩; rw [Ha.out]) | (go_at_call 37; (with_reducible refine (within_ref (f.count) (0) (9999) _).mono ?_); rintro e w' ⟨rfl, rfl⟩; rw [Hb.out]))
                          go_ret
                          exact ⟨by rw [HE.out, HBAD.out, Bool.and_false]; rfl, zbT HB1.out (zbT HB3.out (zbT HBr.out (by (repeat' first | exact zbR _ _ | assumption | refine zbD ?_ | refine zbA ?_ ?_ _ | refine zbS ?_ ?_ _ | refine zbT ?_ (by assumption) ?_ | (simp; done) | (simp; omega) | omega)) HBr.out.size) HB3.out.size) HB1.out.size⟩
                        · have Hb := hide hb
                          clear hb
                          go_wp2_with (first | (go_at_call 37; (with_reducible refine (within_ref (f.at_) (0) (1440) _).mono ?_); rintro e w' ⟨rfl, rfl⟩; rw [Ha.out]) | (go_at_call 37; (with_reducible refine (within_ref (f.count) (0) (9999) _).mono ?_); rintro e w' ⟨rfl, rfl⟩; rw [Hb.out]))
                          go_roundw
                          case rel =>
                            refine ⟨k + 1, by omega, by go_num, hide (fun z hz => ?_), hide (zbT HBr.out (by (repeat' first | exact zbR _ _ | assumption | refine zbD ?_ | refine zbA ?_ ?_ _ | refine zbS ?_ ?_ _ | refine zbT ?_ (by assumption) ?_ | (simp; done) | (simp; omega) | omega)) HBr.out.size)⟩
                            rw [List.take_add_one, HF.out] at hz
                            rcases List.mem_append.1 hz with hz | hz
                            · exact HAL.out z hz
                            · obtain rfl : z = f := by simpa using hz
                              unfold G.vFree G.vMin G.vSeats
                              rw [Ha.out, Hb.out]
                              rfl
                          case measure => simp [intOf]; omega
                    · have hkm : k = m := by omega
                      subst hkm
                      have HAL2 := hide (show q.fs.all G.vFree = true by
                        rw [List.all_eq_true]
                        have h := HAL.out
                        rw [List.take_of_length_le (by have := HM.out; omega)] at h
                        exact h)
                      go_wp2_with fail
                      go_ret
                      exact ⟨by rw [HE.out, HVN.out, HAL2.out]; rfl, zbT HB1.out (zbT HB3.out (zbT HBr.out (by (repeat' first | exact zbR _ _ | assumption | refine zbD ?_ | refine zbA ?_ ?_ _ | refine zbS ?_ ?_ _ | refine zbT ?_ (by assumption) ?_ | (simp; done) | (simp; omega) | omega)) HBr.out.size) HB3.out.size) HB1.out.size⟩
end Go.Proofs.Ytlpjkolocgkcpaa

namespace Go.Proofs.Ytlpjkolocgkcpaa
open Go.RowKit Go.Maps

theorem intKeyed : Keyed Try.prog 3 := int_keyed Try.underlying3
theorem keyI {k : Int} (h0 : 0 ≤ k) (h1 : k ≤ 999) : keyOf Try.prog 3 (.int .i64 k) = some (.int .i64 k) := keyOf_int_mk Try.underlying3 (WalkArith.wf_i64 (by omega))
theorem keyI_ne {j k : Int} (h : j ≠ k) : (Lit.int .i64 j) ≠ Lit.int .i64 k := fun e => h (by injection e)

structure Elem (α : Type) where
  enc : α → Value
  dat : α → DataW Unit
  zero : α
  enc_inj : ∀ x y, enc x = enc y → x = y
  dat_inj : ∀ x y, dat x = dat y → x = y

section
variable {α : Type} (E : Elem α)
open Classical in
noncomputable def Elem.rd (v : Value) : Option (DataW Unit × List MemPlace) := if h : ∃ x, E.enc x = v then some (E.dat h.choose, []) else none
theorem Elem.rd_enc (x : α) : E.rd (E.enc x) = some (E.dat x, []) := by
  unfold Elem.rd
  have h : ∃ y, E.enc y = E.enc x := ⟨x, rfl⟩
  rw [dif_pos h, E.enc_inj _ _ h.choose_spec]
theorem Elem.rd_inv {v : Value} {y : DataW Unit × List MemPlace} (h : E.rd v = some y) : ∃ x, v = E.enc x ∧ y = (E.dat x, []) := by
  unfold Elem.rd at h
  split at h
  · rename_i hx
    exact ⟨hx.choose, hx.choose_spec.symm, (Option.some.inj h).symm⟩
  · cases h

def MapK (w : World) (B : Nat) (F : Int → α) (kn : Int → Bool) (n : Nat) : Prop :=
  ∃ D : DataW Unit, w.ownsMap Try.prog 3 E.rd B n D ∧ (∀ k, 0 ≤ k → k ≤ 999 → D.atKey (.int .i64 k) (E.dat E.zero) = E.dat (F k) ∧ Maps.has D (.int .i64 k) = kn k) ∧ ∀ kl, Maps.has D kl = true → ∃ k, kl = .int .i64 k ∧ 0 ≤ k ∧ k ≤ 999

variable {E : Elem α} {w w' : World} {B n : Nat} {F : Int → α} {kn : Int → Bool}
theorem MapK.made (w : World) : MapK E (w.alloc (.map #[] 0)) w.heap.size (fun _ => E.zero) (fun _ => false) 0 :=
  ⟨.map [], World.ownsMap_made _ _ _ _, fun k _ _ => ⟨by simp [DataW.atKey], rfl⟩, fun kl h => by simp [Maps.has] at h⟩
theorem MapK.lt (h : MapK E w B F kn n) : B < w.heap.size := by
  obtain ⟨D, h, _⟩ := h; exact h.lt
theorem MapK.kept {row : Option Nat} (h : MapK E w B F kn n) (hg : w.grownBy w' row) (hne : some B ≠ row) : MapK E w' B F kn n := by
  obtain ⟨D, h, hF⟩ := h
  exact ⟨D, h.kept hg hne, hF⟩
theorem MapK.below (h : MapK E w B F kn n) (hb : Below w.heap.size w w') : MapK E w' B F kn n := h.kept (gr_of hb) (by simp)
theorem MapK.look {t e : TypeId} (ht : Try.prog.underlying t = some (.map 3 e)) (hz : ∀ w, (zeroValue e).run Try.prog w = .ok (E.enc E.zero) w) (h : MapK E w B F kn n) {k : Int} (h0 : 0 ≤ k) (h1 : k ≤ 999) :
    (Instr.lookup t (.map (some B)) (.int .i64 k) false).run Try.prog w = .ok (E.enc (F k)) w := by
  obtain ⟨D, h, hF, _⟩ := h
  obtain ⟨v, ps, hrun, hat⟩ := h.lookup intKeyed ht (hz w) (E.rd_enc E.zero) (keyI h0 h1)
  rw [(hF k h0 h1).1] at hat
  obtain ⟨x, rfl, hx⟩ := E.rd_inv hat
  have := E.dat_inj _ _ (congrArg Prod.fst hx)
  rw [this]; exact hrun
theorem MapK.lookOk {t e : TypeId} (ht : Try.prog.underlying t = some (.map 3 e)) (hz : ∀ w, (zeroValue e).run Try.prog w = .ok (E.enc E.zero) w) (h : MapK E w B F kn n) {k : Int} (h0 : 0 ≤ k) (h1 : k ≤ 999) :
    (Instr.lookup t (.map (some B)) (.int .i64 k) true).run Try.prog w = .ok (.tuple #[E.enc (F k), .bool (kn k)]) w := by
  obtain ⟨D, h, hF, _⟩ := h
  obtain ⟨v, ps, hrun, hat⟩ := h.look_ok intKeyed ht (hz w) (E.rd_enc E.zero) (keyI h0 h1)
  rw [(hF k h0 h1).1] at hat
  obtain ⟨x, rfl, hx⟩ := E.rd_inv hat
  have := E.dat_inj _ _ (congrArg Prod.fst hx)
  rw [this, ← (hF k h0 h1).2]; exact hrun
theorem MapK.store {t e : TypeId} (ht : Try.prog.underlying t = some (.map 3 e)) (h : MapK E w B F kn n) (hn : n < 1000000) {k : Int} (h0 : 0 ≤ k) (h1 : k ≤ 999) (v : α) :
    ∃ w', (Instr.mapUpdate t (.map (some B)) (.int .i64 k) (E.enc v)).run Try.prog w = .ok () w' ∧ MapK E w' B (fun j => if j = k then v else F j) (fun j => if j = k then true else kn j) (n + 1) ∧ w.grownBy w' (some B) := by
  obtain ⟨D, h, hF, hR⟩ := h
  obtain ⟨w', hrun, ho, hg⟩ := h.update intKeyed ht (by simp only [maxLen]; omega) (keyI h0 h1) (E.rd_enc v)
  refine ⟨w', hrun, ⟨_, ho, fun j j0 j1 => ?_, fun kl hkl => ?_⟩, hg⟩
  · by_cases e : j = k
    · subst e
      simp only [if_true]
      exact ⟨atKey_put_same h.isMap (intKeyed.key (keyI h0 h1)) _ _, has_put_same h.isMap (intKeyed.key (keyI h0 h1)) _⟩
    · simp only [if_neg e]
      rw [atKey_put_other (keyI_ne e), has_put_other (keyI_ne e)]
      exact hF j j0 j1
  · by_cases e : kl = .int .i64 k
    · exact ⟨k, e, h0, h1⟩
    · rw [has_put_other e] at hkl
      exact hR kl hkl

def RangeK (E : Elem α) (w : World) (B r : Nat) (F : Int → α) (kn : Int → Bool) (n : Nat) (vis : List Int) (cnt : Nat) : Prop :=
  ∃ (D : DataW Unit) (left : Lit → Bool), w.ranges Try.prog 3 E.rd B r n D left cnt ∧ (∀ k, 0 ≤ k → k ≤ 999 → D.atKey (.int .i64 k) (E.dat E.zero) = E.dat (F k) ∧ Maps.has D (.int .i64 k) = kn k) ∧ (∀ kl, Maps.has D kl = true → ∃ k, kl = .int .i64 k ∧ 0 ≤ k ∧ k ≤ 999)
    ∧ (∀ kl, left kl = true → Maps.has D kl = true) ∧ (∀ k, 0 ≤ k → k ≤ 999 → left (.int .i64 k) = (kn k && !vis.contains k)) ∧ vis.Nodup ∧ (∀ k ∈ vis, 0 ≤ k ∧ k ≤ 999 ∧ kn k = true) ∧ vis.length + cnt ≤ n
theorem RangeK.kept {r : Nat} {vis : List Int} {cnt : Nat} {row : Option Nat} (h : RangeK E w B r F kn n vis cnt) (hg : w.grownBy w' row) (h1 : some B ≠ row) (h2 : some r ≠ row) : RangeK E w' B r F kn n vis cnt := by
  obtain ⟨D, left, h, hr⟩ := h; exact ⟨D, left, h.kept hg h1 h2, hr⟩
theorem RangeK.map {r : Nat} {vis : List Int} {cnt : Nat} (h : RangeK E w B r F kn n vis cnt) : MapK E w B F kn n := by
  obtain ⟨D, left, h, h1, h2, _⟩ := h; exact ⟨D, h.owns, h1, h2⟩
theorem RangeK.lt {r : Nat} {vis : List Int} {cnt : Nat} (h : RangeK E w B r F kn n vis cnt) : r < w.heap.size := by
  obtain ⟨D, left, h, _⟩ := h; exact h.lt

end

end Go.Proofs.Ytlpjkolocgkcpaa

namespace Go.Proofs.Ytlpjkolocgkcpaa
open Go.RowKit

end Go.Proofs.Ytlpjkolocgkcpaa

namespace Go.Proofs.Ytlpjkolocgkcpaa
open Go.RowKit Go.Sort
attribute [local go_sem ↓] Go.wp_at_zero Go.wp_at_succ


theorem compare_still (x y : Int) (w : World) : Calls Try.prog 71 #[.int .i64 x, .int .i64 y] w fun e w' => e = .returned (.int .i64 (E.cmp x y)) ∧ w' = w := (compare_any x y w).mono fun _ _ h => ⟨h.1, h.2.symm⟩
theorem rdI_two {w : World} {q : Nat} {x y : Int} (hq : w.heap[q]? = some (.cells #[.int .i64 x, .int .i64 y] 3 (0, 0))) : RdI w w.heap.size (some ⟨q, 0, none⟩) [x, y] := by
  intro k z hk
  match k, hk with
  | 0, hk => have hy : x = z := Option.some.inj hk; subst hy; exact ⟨_, 0, rfl, blk_lt hq, (blk_cell hq 0).trans rfl⟩
  | 1, hk => have hy : y = z := Option.some.inj hk; subst hy; exact ⟨_, 0, rfl, blk_lt hq, (blk_cell hq 1).trans rfl⟩
  | k + 2, hk => cases hk
def GB (W w' : World) : Prop := Below W.heap.size W w' ∧ W.drawn ≤ w'.drawn
theorem GB.refl (W : World) : GB W W := ⟨Below.refl _ _, Nat.le_refl _⟩
theorem GB.drew {W w' : World} (h : GB W w') : GB W w'.drew := ⟨zbD h.1, Nat.le_succ_of_le h.2⟩
theorem GB.alloc {W w' : World} (h : GB W w') (o : Obj) : GB W (w'.alloc o) := ⟨zbA h.1 h.1.size o, h.2⟩
theorem GB.setRow {W w' : World} (h : GB W w') {b : Nat} (hb : W.heap.size ≤ b) (cs : Array Value) : GB W (w'.setRow b cs) := ⟨below_row h.1 hb cs, h.2⟩
theorem GB.ex {W w' : World} (h : GB W w') : ∃ q os', w' = grow (W.drewN q) os' := by
  obtain ⟨hb, hd⟩ := h
  obtain ⟨os', h1⟩ : ∃ os', w'.heap = W.heap ++ os' := by
    refine ⟨w'.heap.extract W.heap.size w'.heap.size, Array.ext_getElem? (fun i => ?_)⟩
    rw [Array.getElem?_append]
    split
    · rename_i hi; exact hb.block i hi
    · rename_i hi
      have hs := hb.size
      rw [Array.getElem?_extract]
      split
      · rename_i h2
        congr 1
        omega
      · rename_i h2
        exact Array.getElem?_eq_none (by omega)
  have h2 : W.drawn + (w'.drawn - W.drawn) = w'.drawn := by omega
  refine ⟨w'.drawn - W.drawn, os', ?_⟩
  have h3 := hb.os
  have h4 := hb.tape
  have h5 := hb.output
  show w' = World.mk (W.heap ++ os') W.tape (W.drawn + (w'.drawn - W.drawn)) W.os W.output
  rw [h2, ← h1, ← h3, ← h4, ← h5]

theorem cap_row {K : Act → World → Prop} {a : Act} {w : World} {g : Nat} {cs old : Array Value} {t : TypeId} {fr : Nat × Nat} (hg : w.heap[g]? = some (.cells old t fr))
    (h : ∀ W9 : World, W9.heap[g]? = some (.cells cs t fr) → (∀ k, k ≠ g → W9.heap[k]? = w.heap[k]?) → (∀ W, GB W w → W.heap.size ≤ g → GB W W9) → w.grownBy W9 (some g) → W9.heap.size = w.heap.size → K a W9) : K a (w.setRow g cs) :=
  h _ (setRow_heap _ _ _ _ _ _ hg) (fun k hk => setRow_other _ _ _ _ hk) (fun W hw hb => GB.setRow hw hb cs) (setRow_grown _ _ _) (by simp)

end Go.Proofs.Ytlpjkolocgkcpaa

namespace Go.Proofs.Ytlpjkolocgkcpaa
open Go.RowKit Go.Sort
attribute [local go_sem ↓] Go.wp_at_zero Go.wp_at_succ

theorem ptRow : (Try.prog.info? 42).map (·.size) = some 4 := by kernel_rfl
theorem G.cmpG_or (x y : G.Pt) : G.cmpG x y = E.orL [E.cmp x.at_ y.at_, E.cmp x.id y.id] := by
  unfold G.cmpG
  rw [show G.cmp = E.cmp from rfl]
  unfold E.orL
  by_cases h : E.cmp x.at_ y.at_ = 0
  · by_cases h2 : E.cmp x.id y.id = 0 <;> simp [h, h2, E.orL]
  · simp [h]

set_option maxHeartbeats 6400000 in
set_option maxRecDepth 100000 in
theorem cmpG_any (bl L n c : Nat) (A : Option Addr) (gs : List G.Pt) (hn : gs.length = n) (hm : n ≤ 1000) (a b : Nat) (x y : G.Pt) (ha : gs[a]? = some x) (hb : gs[b]? = some y) (W : World) (hl : W.cell? ⟨bl, 0, none⟩ = some (.pointer (some ⟨L, 0, none⟩))) (hg : W.cell? ⟨L, 4, none⟩ = some (.slice A n c)) (lbl : bl < W.heap.size) (lL : L < W.heap.size) (hr : RdG W W.heap.size A gs) :
    Calls Try.prog 69 #[.int .i64 (a : Int), .int .i64 (b : Int), .pointer (some ⟨bl, 0, none⟩)] W fun e w' => e = .returned (.int .i64 (G.cmpG x y)) ∧ GB W w' := by
  obtain ⟨bg, og, rfl, lbg, x0, x1, x2, x3⟩ := hr a x ha
  obtain ⟨bg', og', e, _, y0, y1, y2, y3⟩ := hr b y hb
  obtain ⟨rfl, rfl⟩ : bg = bg' ∧ og = og' := by simpa using e
  have han : a < n := by rw [← hn]; exact (List.getElem?_eq_some_iff.1 ha).1
  have hbn : b < n := by rw [← hn]; exact (List.getElem?_eq_some_iff.1 hb).1
  have hai : (a : Int) < (n : Int) := by omega
  have hbi : (b : Int) < (n : Int) := by omega
  have ha0 : (0 : Int) ≤ (a : Int) := by omega
  have hb0 : (0 : Int) ≤ (b : Int) := by omega
  have hSof : ∀ v, GB W v → (fun w' => GB W w' ∧ w'.cell? ⟨bl, 0, none⟩ = some (.pointer (some ⟨L, 0, none⟩)) ∧ w'.cell? ⟨L, 4, none⟩ = some (.slice (some ⟨bg, og, none⟩) n c) ∧ w'.cell? ⟨bg, og + a * 4, none⟩ = some (.int .i64 x.id) ∧ w'.cell? ⟨bg, og + a * 4 + 1, none⟩ = some (.int .i64 x.at_) ∧ w'.cell? ⟨bg, og + a * 4 + 2, none⟩ = some (.int .i64 x.size) ∧ w'.cell? ⟨bg, og + a * 4 + 3, none⟩ = some (.int .i64 x.quits) ∧ w'.cell? ⟨bg, og + b * 4, none⟩ = some (.int .i64 y.id) ∧ w'.cell? ⟨bg, og + b * 4 + 1, none⟩ = some (.int .i64 y.at_) ∧ w'.cell? ⟨bg, og + b * 4 + 2, none⟩ = some (.int .i64 y.size) ∧ w'.cell? ⟨bg, og + b * 4 + 3, none⟩ = some (.int .i64 y.quits) ∧ bg < w'.heap.size) v := by
    intro v h
    have hc := fun o => h.1.cell (p := ⟨bg, o, none⟩) lbg
    exact ⟨h, (h.1.cell (p := ⟨bl, 0, none⟩) lbl).trans hl, (h.1.cell (p := ⟨L, 4, none⟩) lL).trans hg, (hc _).trans x0, (hc _).trans x1, (hc _).trans x2, (hc _).trans x3, (hc _).trans y0, (hc _).trans y1, (hc _).trans y2, (hc _).trans y3, Nat.lt_of_lt_of_le lbg h.1.size⟩
  clear hr ha hb e hl hg x0 x1 x2 x3 y0 y1 y2 y3 hn
  go_enter Try.func69, Try.ntmps69
  go_upto_region 1 with fail
  have hS : (fun w' => GB W w' ∧ w'.cell? ⟨bl, 0, none⟩ = some (.pointer (some ⟨L, 0, none⟩)) ∧ w'.cell? ⟨L, 4, none⟩ = some (.slice (some ⟨bg, og, none⟩) n c) ∧ w'.cell? ⟨bg, og + a * 4, none⟩ = some (.int .i64 x.id) ∧ w'.cell? ⟨bg, og + a * 4 + 1, none⟩ = some (.int .i64 x.at_) ∧ w'.cell? ⟨bg, og + a * 4 + 2, none⟩ = some (.int .i64 x.size) ∧ w'.cell? ⟨bg, og + a * 4 + 3, none⟩ = some (.int .i64 x.quits) ∧ w'.cell? ⟨bg, og + b * 4, none⟩ = some (.int .i64 y.id) ∧ w'.cell? ⟨bg, og + b * 4 + 1, none⟩ = some (.int .i64 y.at_) ∧ w'.cell? ⟨bg, og + b * 4 + 2, none⟩ = some (.int .i64 y.size) ∧ w'.cell? ⟨bg, og + b * 4 + 3, none⟩ = some (.int .i64 y.quits) ∧ bg < w'.heap.size) W := hSof _ (GB.refl _)
  (try dsimp only at hS)
  refine wp_region_held_drew (S := (fun w' => GB W w' ∧ w'.cell? ⟨bl, 0, none⟩ = some (.pointer (some ⟨L, 0, none⟩)) ∧ w'.cell? ⟨L, 4, none⟩ = some (.slice (some ⟨bg, og, none⟩) n c) ∧ w'.cell? ⟨bg, og + a * 4, none⟩ = some (.int .i64 x.id) ∧ w'.cell? ⟨bg, og + a * 4 + 1, none⟩ = some (.int .i64 x.at_) ∧ w'.cell? ⟨bg, og + a * 4 + 2, none⟩ = some (.int .i64 x.size) ∧ w'.cell? ⟨bg, og + a * 4 + 3, none⟩ = some (.int .i64 x.quits) ∧ w'.cell? ⟨bg, og + b * 4, none⟩ = some (.int .i64 y.id) ∧ w'.cell? ⟨bg, og + b * 4 + 1, none⟩ = some (.int .i64 y.at_) ∧ w'.cell? ⟨bg, og + b * 4 + 2, none⟩ = some (.int .i64 y.size) ∧ w'.cell? ⟨bg, og + b * 4 + 3, none⟩ = some (.int .i64 y.quits) ∧ bg < w'.heap.size)) (by kernel_rfl) ?_ (fun hD0 => ?_)
  · (try dsimp only); first | assumption | exact hSof _ (hD0.1.alloc _) | exact hSof _ (hD0.1.alloc _).drew | exact hSof _ hD0.1.drew | exact hSof _ (GB.refl _).drew
  refine tW ?_ 0 rfl (by kernel_rfl) (fun _ _ _ h => h) (by rfl) (by assumption) ?_ ?_; rotate_left; (focus (intro w hSw; (try dsimp only at hSw); go_simp; try with_reducible rfl)); try simp only [Act.put, zl, z0, z1]
  refine tW ?_ 1 rfl (by kernel_rfl) (fun _ _ _ h => h) (by rfl) (by assumption) ?_ ?_; rotate_left; (focus (intro w hSw; (try dsimp only at hSw); go_simp; try with_reducible rfl)); try simp only [Act.put, zl, z0, z1]
  refine tW ?_ 2 rfl (by kernel_rfl) (fun _ _ _ h => h) (by rfl) (by assumption) ?_ ?_; rotate_left; (focus (intro w hSw; (try dsimp only at hSw); go_simp; try with_reducible rfl)); try simp only [Act.put, zl, z0, z1]
  refine tW ?_ 3 rfl (by kernel_rfl) (fun _ _ _ h => h) (by rfl) (by assumption) ?_ ?_; rotate_left; (focus (intro w hSw; (try dsimp only at hSw); go_simp; try with_reducible rfl)); try simp only [Act.put, zl, z0, z1]
  refine tW ?_ 4 rfl (by kernel_rfl) (fun _ _ _ h => h) (by rfl) (by assumption) ?_ ?_; rotate_left; (focus (intro w hSw; (try dsimp only at hSw); go_simp; try with_reducible rfl)); try simp only [Act.put, zl, z0, z1]
  refine tW ?_ 5 rfl (by kernel_rfl) (fun _ _ _ h => h) (by rfl) (by assumption) ?_ ?_; rotate_left; (focus (intro w hSw; (try dsimp only at hSw); go_simp; try with_reducible rfl)); try simp only [Act.put, zl, z0, z1]
  refine tW ?_ 6 rfl (by kernel_rfl) (fun _ _ _ h => h) (by rfl) (by assumption) ?_ ?_; rotate_left; (focus (intro w hSw; (try dsimp only at hSw); go_simp; try with_reducible rfl)); try simp only [Act.put, zl, z0, z1]
  refine tW ?_ 7 rfl (by kernel_rfl) (fun _ _ _ h => h) (by rfl) (by assumption) ?_ ?_; rotate_left; (focus (intro w hSw; (try dsimp only at hSw); go_simp; try with_reducible rfl)); try simp only [Act.put, zl, z0, z1]
  refine tW ?_ 8 rfl (by kernel_rfl) (fun _ _ _ h => h) (by rfl) (by assumption) ?_ ?_; rotate_left; (focus (intro w hSw; (try dsimp only at hSw); go_simp; try with_reducible rfl)); try simp only [Act.put, zl, z0, z1]
  refine tW ?_ 9 rfl (by kernel_rfl) (fun _ _ _ h => h) (by rfl) (by assumption) ?_ ?_; rotate_left; (focus (intro w hSw; (try dsimp only at hSw); go_simp; try with_reducible rfl)); try simp only [Act.put, zl, z0, z1]
  refine tW ?_ 10 rfl (by kernel_rfl) (fun _ _ _ h => h) (by rfl) (by assumption) ?_ ?_; rotate_left; (focus (intro w hSw; (try dsimp only at hSw); go_simp; try with_reducible rfl)); try simp only [Act.put, zl, z0, z1]
  refine tW ?_ 11 rfl (by kernel_rfl) (fun _ _ _ h => h) (by rfl) (by assumption) ?_ ?_; rotate_left; (focus (intro w hSw; (try dsimp only at hSw); go_simp; try with_reducible rfl)); try simp only [Act.put, zl, z0, z1]
  refine tW ?_ 12 rfl (by kernel_rfl) (fun _ _ _ h => h) (by rfl) (by assumption) ?_ ?_; rotate_left; (focus (intro w hSw; (try dsimp only at hSw); go_simp; try with_reducible rfl)); try simp only [Act.put, zl, z0, z1]
  refine tW ?_ 13 rfl (by kernel_rfl) (fun _ _ _ h => h) (by rfl) (by assumption) ?_ ?_; rotate_left; (focus (intro w hSw; (try dsimp only at hSw); go_simp; try with_reducible rfl)); try simp only [Act.put, zl, z0, z1]
  refine tW ?_ 14 rfl (by kernel_rfl) (fun _ _ _ h => h) (by rfl) (by assumption) ?_ ?_; rotate_left; (focus (intro w hSw; (try dsimp only at hSw); go_simp; try with_reducible rfl)); try simp only [Act.put, zl, z0, z1]
  refine tW ?_ 15 rfl (by kernel_rfl) (fun _ _ _ h => h) (by rfl) (by assumption) ?_ ?_; rotate_left; (focus (intro w hSw; (try dsimp only at hSw); go_simp; try with_reducible rfl)); try simp only [Act.put, zl, z0, z1]
  refine wpAnyH_ready (rs := [16, 17]) (by kernel_rfl) (by simp) ?_; refine consL 16 rfl (fun K hK => ?_) ?_
  · skip
    (go_simp; (first | refine cap_alloc (K := K) (O := (.cells #[.int .i64 0, .int .i64 0, .int .i64 0, .int .i64 0] 42 (0, 0))) (fun hG hb hle => ?_) | refine cap_allocD (K := K) (O := (.cells #[.int .i64 0, .int .i64 0, .int .i64 0, .int .i64 0] 42 (0, 0))) (fun hG hb hle => ?_)); (try replace H7 := hide ((hb.block _ (blk_lt H7.out)).trans H7.out)); (try simp only [World.size_alloc, drew_size] at hG); have H6 := hide hG; clear hG hle hb)
    refine hK.out _ _ ?_ (fun hD1 => ?_)
    · (try dsimp only); first | assumption | exact hSof _ (hD0.1.alloc _) | exact hSof _ (hD0.1.alloc _).drew | exact hSof _ hD0.1.drew | exact hSof _ (GB.refl _).drew
    clear hK K hD0; try simp only [Act.put, zl, z0, z1]
    refine wpAnyH_ready (rs := [17]) (by kernel_rfl) (by simp) ?_; refine consL 17 rfl (fun K hK => ?_) AllReadyH.nil
    (go_simp; (first | refine cap_alloc (K := K) (O := (.cells #[.int .i64 0, .int .i64 0, .int .i64 0, .int .i64 0] 42 (0, 0))) (fun hG hb hle => ?_) | refine cap_allocD (K := K) (O := (.cells #[.int .i64 0, .int .i64 0, .int .i64 0, .int .i64 0] 42 (0, 0))) (fun hG hb hle => ?_)); (try replace H6 := hide ((hb.block _ (blk_lt H6.out)).trans H6.out)); (try simp only [World.size_alloc, drew_size] at hG); have H7 := hide hG; clear hG hle hb)
    refine hK.out _ _ ?_ (fun hD2 => ?_)
    · (try dsimp only); first | assumption | exact hSof _ (hD1.1.alloc _) | exact hSof _ (hD1.1.alloc _).drew | exact hSof _ hD1.1.drew | exact hSof _ (GB.refl _).drew
    clear hK K hD1; try simp only [Act.put, zl, z0, z1]
    refine wpAnyH_ready (rs := [18]) (by kernel_rfl) (by simp) ?_; refine consL 18 rfl (fun K hK => ?_) AllReadyH.nil
    (refine step_row rfl 42 (.tmp 6) (.tmp 15) rfl _ _ rfl rfl 42 _ H6.out ptRow rfl (by simp [Value.oneCell']) ?_; refine cap_row H6.out (fun W9 hr ho hgb _ hs9 => ?_); have hk := (ho _ (by omega)).trans H7.out; have hSn := hSof _ (hgb _ hD2.1 (by omega)); have R6 := hide hr; (try clear H6); (try clear H7); have H7 := hide hk; clear hr ho hk hgb; (try dsimp only at hSn))
    refine hK.out _ _ ?_ (fun hD3 => ?_)
    · (try dsimp only); first | assumption | exact hSof _ (hD2.1.alloc _) | exact hSof _ (hD2.1.alloc _).drew | exact hSof _ hD2.1.drew | exact hSof _ (GB.refl _).drew
    clear hK K hD2; try simp only [Act.put, zl, z0, z1]
    refine wpAnyH_ready (rs := [19]) (by kernel_rfl) (by simp) ?_; refine consL 19 rfl (fun K hK => ?_) AllReadyH.nil
    (refine step_row rfl 42 (.tmp 7) (.tmp 23) rfl _ _ rfl rfl 42 _ H7.out ptRow rfl (by simp [Value.oneCell']) ?_; refine cap_row H7.out (fun W9 hr ho hgb _ hs9 => ?_); have hk := (ho _ (by omega)).trans R6.out; have hSn := hSof _ (hgb _ hD3.1 (by omega)); have R7 := hide hr; (try clear H7); (try clear R6); have R6 := hide hk; clear hr ho hk hgb; (try dsimp only at hSn))
    refine hK.out _ _ ?_ (fun hD4 => ?_)
    · (try dsimp only); first | assumption | exact hSof _ (hD3.1.alloc _) | exact hSof _ (hD3.1.alloc _).drew | exact hSof _ hD3.1.drew | exact hSof _ (GB.refl _).drew
    clear hK K hD3; try simp only [Act.put, zl, z0, z1]
    refine wpAnyH_done (by kernel_rfl) ?_ _
    have hGB := hSn.1
    (try dsimp only [Act.put, List.getElem_toArray, List.getElem_cons_succ, List.getElem_cons_zero])
    (try simp only [zl, z0, z1])
    go_upto_region 2 with fail
    obtain ⟨V, hV⟩ : ∃ V, W9.drew = V := ⟨_, rfl⟩
    have HGV := hide (show GB W V by rw [← hV]; exact GB.drew hGB)
    have h6 := R6.out
    have h7 := R7.out
    rw [show W9.heap = V.heap from by rw [← hV]; rfl] at h6 h7
    refine wp_region_still_tail 10 (by kernel_rfl) (by kernel_rfl) ?_
    simp only [List.take_succ_cons, List.take_zero, List.drop_succ_cons, List.drop_zero]
    change wpStill _ _ W9.drew (fun a' => wpList _ _ _ _ a' W9.drew) _ _
    rw [hV]
    clear hV hGB hSn hSof hS R6 R7
    have c60 := (blk_cell h6 0).trans rfl
    have c61 := (blk_cell h6 1).trans rfl
    have c70 := (blk_cell h7 0).trans rfl
    have c71 := (blk_cell h7 1).trans rfl
    clear h6 h7
    (repeat still_step)
    still_call (compare_still _ _ _)
    (repeat still_step)
    still_call (compare_still _ _ _)
    refine wpStill_nil ?_
    obtain ⟨r1, hr1⟩ : ∃ r, E.cmp x.at_ y.at_ = r := ⟨_, rfl⟩
    obtain ⟨r2, hr2⟩ : ∃ r, E.cmp x.id y.id = r := ⟨_, rfl⟩
    have HR := hide (show G.cmpG x y = E.orL [r1, r2] by rw [← hr1, ← hr2]; exact G.cmpG_or x y)
    rw [hr1, hr2]
    clear hr1 hr2
    go_wp2_with (go_at_call 70; refine (or_any _ 2 2 [r1, r2] _ rfl (rdI_two (World.alloc_heap_new _ _)) (by omega)).mono ?_; rintro e w' ⟨rfl, rfl⟩)
    go_ret
    exact ⟨by rw [HR.out]; rfl, HGV.out.alloc _⟩
  refine consL 17 rfl (fun K hK => ?_) AllReadyH.nil
  focus
    (go_simp; (first | refine cap_alloc (K := K) (O := (.cells #[.int .i64 0, .int .i64 0, .int .i64 0, .int .i64 0] 42 (0, 0))) (fun hG hb hle => ?_) | refine cap_allocD (K := K) (O := (.cells #[.int .i64 0, .int .i64 0, .int .i64 0, .int .i64 0] 42 (0, 0))) (fun hG hb hle => ?_)); (try replace H6 := hide ((hb.block _ (blk_lt H6.out)).trans H6.out)); (try simp only [World.size_alloc, drew_size] at hG); have H7 := hide hG; clear hG hle hb)
    refine hK.out _ _ ?_ (fun hD1 => ?_)
    · (try dsimp only); first | assumption | exact hSof _ (hD0.1.alloc _) | exact hSof _ (hD0.1.alloc _).drew | exact hSof _ hD0.1.drew | exact hSof _ (GB.refl _).drew
    clear hK K hD0; try simp only [Act.put, zl, z0, z1]
    refine wpAnyH_ready (rs := [16]) (by kernel_rfl) (by simp) ?_; refine consL 16 rfl (fun K hK => ?_) AllReadyH.nil
    (go_simp; (first | refine cap_alloc (K := K) (O := (.cells #[.int .i64 0, .int .i64 0, .int .i64 0, .int .i64 0] 42 (0, 0))) (fun hG hb hle => ?_) | refine cap_allocD (K := K) (O := (.cells #[.int .i64 0, .int .i64 0, .int .i64 0, .int .i64 0] 42 (0, 0))) (fun hG hb hle => ?_)); (try replace H7 := hide ((hb.block _ (blk_lt H7.out)).trans H7.out)); (try simp only [World.size_alloc, drew_size] at hG); have H6 := hide hG; clear hG hle hb)
    refine hK.out _ _ ?_ (fun hD2 => ?_)
    · (try dsimp only); first | assumption | exact hSof _ (hD1.1.alloc _) | exact hSof _ (hD1.1.alloc _).drew | exact hSof _ hD1.1.drew | exact hSof _ (GB.refl _).drew
    clear hK K hD1; try simp only [Act.put, zl, z0, z1]
    refine wpAnyH_ready (rs := [18]) (by kernel_rfl) (by simp) ?_; refine consL 18 rfl (fun K hK => ?_) AllReadyH.nil
    (refine step_row rfl 42 (.tmp 6) (.tmp 15) rfl _ _ rfl rfl 42 _ H6.out ptRow rfl (by simp [Value.oneCell']) ?_; refine cap_row H6.out (fun W9 hr ho hgb _ hs9 => ?_); have hk := (ho _ (by omega)).trans H7.out; have hSn := hSof _ (hgb _ hD2.1 (by omega)); have R6 := hide hr; (try clear H6); (try clear H7); have H7 := hide hk; clear hr ho hk hgb; (try dsimp only at hSn))
    refine hK.out _ _ ?_ (fun hD3 => ?_)
    · (try dsimp only); first | assumption | exact hSof _ (hD2.1.alloc _) | exact hSof _ (hD2.1.alloc _).drew | exact hSof _ hD2.1.drew | exact hSof _ (GB.refl _).drew
    clear hK K hD2; try simp only [Act.put, zl, z0, z1]
    refine wpAnyH_ready (rs := [19]) (by kernel_rfl) (by simp) ?_; refine consL 19 rfl (fun K hK => ?_) AllReadyH.nil
    (refine step_row rfl 42 (.tmp 7) (.tmp 23) rfl _ _ rfl rfl 42 _ H7.out ptRow rfl (by simp [Value.oneCell']) ?_; refine cap_row H7.out (fun W9 hr ho hgb _ hs9 => ?_); have hk := (ho _ (by omega)).trans R6.out; have hSn := hSof _ (hgb _ hD3.1 (by omega)); have R7 := hide hr; (try clear H7); (try clear R6); have R6 := hide hk; clear hr ho hk hgb; (try dsimp only at hSn))
    refine hK.out _ _ ?_ (fun hD4 => ?_)
    · (try dsimp only); first | assumption | exact hSof _ (hD3.1.alloc _) | exact hSof _ (hD3.1.alloc _).drew | exact hSof _ hD3.1.drew | exact hSof _ (GB.refl _).drew
    clear hK K hD3; try simp only [Act.put, zl, z0, z1]
    refine wpAnyH_done (by kernel_rfl) ?_ _
    have hGB := hSn.1
    (try dsimp only [Act.put, List.getElem_toArray, List.getElem_cons_succ, List.getElem_cons_zero])
    (try simp only [zl, z0, z1])
    go_upto_region 2 with fail
    obtain ⟨V, hV⟩ : ∃ V, W9.drew = V := ⟨_, rfl⟩
    have HGV := hide (show GB W V by rw [← hV]; exact GB.drew hGB)
    have h6 := R6.out
    have h7 := R7.out
    rw [show W9.heap = V.heap from by rw [← hV]; rfl] at h6 h7
    refine wp_region_still_tail 10 (by kernel_rfl) (by kernel_rfl) ?_
    simp only [List.take_succ_cons, List.take_zero, List.drop_succ_cons, List.drop_zero]
    change wpStill _ _ W9.drew (fun a' => wpList _ _ _ _ a' W9.drew) _ _
    rw [hV]
    clear hV hGB hSn hSof hS R6 R7
    have c60 := (blk_cell h6 0).trans rfl
    have c61 := (blk_cell h6 1).trans rfl
    have c70 := (blk_cell h7 0).trans rfl
    have c71 := (blk_cell h7 1).trans rfl
    clear h6 h7
    (repeat still_step)
    still_call (compare_still _ _ _)
    (repeat still_step)
    still_call (compare_still _ _ _)
    refine wpStill_nil ?_
    obtain ⟨r1, hr1⟩ : ∃ r, E.cmp x.at_ y.at_ = r := ⟨_, rfl⟩
    obtain ⟨r2, hr2⟩ : ∃ r, E.cmp x.id y.id = r := ⟨_, rfl⟩
    have HR := hide (show G.cmpG x y = E.orL [r1, r2] by rw [← hr1, ← hr2]; exact G.cmpG_or x y)
    rw [hr1, hr2]
    clear hr1 hr2
    go_wp2_with (go_at_call 70; refine (or_any _ 2 2 [r1, r2] _ rfl (rdI_two (World.alloc_heap_new _ _)) (by omega)).mono ?_; rintro e w' ⟨rfl, rfl⟩)
    go_ret
    exact ⟨by rw [HR.out]; rfl, HGV.out.alloc _⟩

end Go.Proofs.Ytlpjkolocgkcpaa

namespace Go.Proofs.Ytlpjkolocgkcpaa
open Go.Shelf Go.RowKit Go.Lib Go.Sort

def Try.sortInts_ren : Go.Shelf.Ren := ⟨fun | 6 => 68 | 15 => 83 | 14 => 82 | 28 => 95 | 29 => 96 | 20 => 87 | 21 => 88 | 22 => 89 | 23 => 90 | 24 => 91 | 25 => 92 | 26 => 93 | 27 => 94 | 46 => 105 | 47 => 106 | 48 => 107 | 49 => 108 | 50 => 109 | 57 => 113 | n => n, fun | 22 => 35 | 24 => 3 | 25 => 100 | 3 => 3 | 39 => 114 | 0 => 0 | 53 => 125 | 55 => 127 | 4 => 4 | 46 => 119 | 45 => 118 | 50 => 80 | 5 => 5 | 9 => 9 | 66 => 133 | 70 => 137 | 76 => 141 | 77 => 142 | n => n, fun n => n⟩
theorem Try.sortInts : SlLaysF.n6 Try.prog Try.sortInts_ren where
  mixed := by kernel_rfl
  f6 := ⟨ "slices.SortFunc[[]int,int]", by decide, Try.func68.trans (congrArg some (by kernel_rfl))⟩
  f14 := ⟨ "slices.pdqsortCmpFunc[int]", by decide, Try.func82.trans (congrArg some (by kernel_rfl))⟩
  f15 := Try.func83.trans (congrArg some (by kernel_rfl))
  f20 := ⟨ "slices.insertionSortCmpFunc[int]", by decide, Try.func87.trans (congrArg some (by kernel_rfl))⟩
  f21 := ⟨ "slices.heapSortCmpFunc[int]", by decide, Try.func88.trans (congrArg some (by kernel_rfl))⟩
  f22 := ⟨ "slices.breakPatternsCmpFunc[int]", by decide, Try.func89.trans (congrArg some (by kernel_rfl))⟩
  f23 := ⟨ "slices.choosePivotCmpFunc[int]", by decide, Try.func90.trans (congrArg some (by kernel_rfl))⟩
  f24 := ⟨ "slices.reverseRangeCmpFunc[int]", by decide, Try.func91.trans (congrArg some (by kernel_rfl))⟩
  f25 := ⟨ "slices.partialInsertionSortCmpFunc[int]", by decide, Try.func92.trans (congrArg some (by kernel_rfl))⟩
  f26 := ⟨ "slices.partitionEqualCmpFunc[int]", by decide, Try.func93.trans (congrArg some (by kernel_rfl))⟩
  f27 := ⟨ "slices.partitionCmpFunc[int]", by decide, Try.func94.trans (congrArg some (by kernel_rfl))⟩
  f28 := Try.func95.trans (congrArg some (by kernel_rfl))
  f29 := Try.func96.trans (congrArg some (by kernel_rfl))
  f46 := ⟨ "slices.siftDownCmpFunc[int]", by decide, Try.func105.trans (congrArg some (by kernel_rfl))⟩
  f47 := Try.func106.trans (congrArg some (by kernel_rfl))
  f48 := Try.func107.trans (congrArg some (by kernel_rfl))
  f49 := ⟨ "slices.medianAdjacentCmpFunc[int]", by decide, Try.func108.trans (congrArg some (by kernel_rfl))⟩
  f50 := ⟨ "slices.medianCmpFunc[int]", by decide, Try.func109.trans (congrArg some (by kernel_rfl))⟩
  f57 := ⟨ "slices.order2CmpFunc[int]", by decide, Try.func113.trans (congrArg some (by kernel_rfl))⟩
  t0 := Try.underlying0
  a0 := Try.isAgg0
  z0 := Try.sizeOf0
  v0 := Try.zeroValue0
  t3 := Try.underlying3
  a3 := Try.isAgg3
  z3 := Try.sizeOf3
  v3 := Try.zeroValue3
  t4 := Try.underlying4
  a4 := Try.isAgg4
  z4 := Try.sizeOf4
  v4 := Try.zeroValue4
  t5 := Try.underlying5
  a5 := Try.isAgg5
  z5 := Try.sizeOf5
  v5 := Try.zeroValue5
  t9 := Try.underlying9
  a9 := Try.isAgg9
  z9 := Try.sizeOf9
  v9 := Try.zeroValue9
  t22 := Try.underlying35
  a22 := Try.isAgg35
  z22 := Try.sizeOf35
  v22 := Try.zeroValue35
  a24 := Try.isAgg3
  z24 := Try.sizeOf3
  t25 := Try.underlying100
  a25 := Try.isAgg100
  z25 := Try.sizeOf100
  v25 := Try.zeroValue100
  t39 := Try.underlying114
  a39 := Try.isAgg114
  z39 := Try.sizeOf114
  v39 := Try.zeroValue114
  t45 := Try.underlying118
  a45 := Try.isAgg118
  z45 := Try.sizeOf118
  v45 := Try.zeroValue118
  t46 := Try.underlying119
  a46 := Try.isAgg119
  z46 := Try.sizeOf119
  v46 := Try.zeroValue119
  t50 := Try.underlying80
  a50 := Try.isAgg80
  z50 := Try.sizeOf80
  v50 := Try.zeroValue80
  t53 := Try.underlying125
  a53 := Try.isAgg125
  z53 := Try.sizeOf125
  v53 := Try.zeroValue125
  t55 := Try.underlying127
  a55 := Try.isAgg127
  z55 := Try.sizeOf127
  v55 := Try.zeroValue127
  t66 := Try.underlying133
  a66 := Try.isAgg133
  z66 := Try.sizeOf133
  v66 := Try.zeroValue133
  t70 := Try.underlying137
  a70 := Try.isAgg137
  z70 := Try.sizeOf137
  v70 := Try.zeroValue137
  t76 := Try.underlying141
  a76 := Try.isAgg141
  z76 := Try.sizeOf141
  v76 := Try.zeroValue141
  t77 := Try.underlying142
  a77 := Try.isAgg142
  z77 := Try.sizeOf142
  v77 := Try.zeroValue142

end Go.Proofs.Ytlpjkolocgkcpaa
