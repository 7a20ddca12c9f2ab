/-
  Part of a claim's texts: contracts of the program's functions and the plain functions that they compute, in build order.
-/
import Derived.Deep.RegionHeld3
import Derived.KernelRfl
import Derived.Below
import Derived.Test.YtlpjkolocgkcpaaRows
import Derived.Test.YtlpjkolocgkcpaaProg
import Derived.WalkKit
import Derived.WalkSpells
import Derived.WalkLawsBesides
import Derived.Deep.QuietTactic
import Derived.BigQuiet
import Derived.Deep.DrawnRows
import Derived.Outline
import Derived.Laws.AppendOwn
import Derived.Laws.Rows
import Derived.Laws.Tables
import Derived.Maps.AppendAt
import Derived.Laws.AppendOwnNone
import Derived.Deep.AppendLies
import Derived.OwnWalk
import Derived.IntWalk
import Derived.RangeFuncBox
import Derived.Lib.Small
import Derived.Maps.Range
import Derived.Lib.SliceRun
import Derived.Shelf.Abstract
import Derived.Deep.Cut
import Derived.Deep.CutRange
import Derived.Maps.OwnOps
import Derived.Maps.Views
import Derived.Maps.OwnSet
import Derived.Maps.RangeWalk
import Derived.Deep.OwnRows
import Derived.StillTailTactics
import Derived.Sort.Grow
import Derived.Sort.Row
namespace Go.Proofs.Ytlpjkolocgkcpaa
open Go

theorem drop_get {α : Type} {l rest : List α} {x : α} : ∀ {i : Nat}, l.drop i = x :: rest → l.toArray[i]? = some x := by
  intro i h
  have : l[i]? = some x := by
    have := congrArg List.head? h
    simpa [List.head?_drop] using this
  simpa using this

theorem takeL {P : Program} {md : Region.Mode} {l rest : List Oper} {Q : Exit → Act → World → Prop} {S : World → Prop} {oi : Oper} {v : Value} {fuel : Nat} {listed : Array Bool} {a : Act} {w : World} (i : Nat) (hi : l.drop i = oi :: rest)
    (hs : Region.noSelect l.toArray = true) (hf : Region.free md l.toArray listed i = true) (hr : (Region.ready md l.toArray listed).contains i = true)
    (hQ : ∀ c a w, Q (.panic c) (a.put oi.dst v) w → Q (.panic c) a w) (hy : YieldsIf P l.toArray S oi v a) (hS : S w)
    (h : wpAnyH P md l.toArray Q S fuel (listed.setIfInBounds i true) (a.put oi.dst v) w) : wpAnyH P md l.toArray Q S (fuel + 1) listed a w :=
  wpAnyH_take (drop_get hi) hs hf hr hQ hy hS h

theorem tL {P : Program} {md : Region.Mode} {l rest : List Oper} {Q : Exit → Act → World → Prop} {S : World → Prop} {oi : Oper} {v : Value} {fuel : Nat} {listed : Array Bool} {a : Act} {w : World} (i : Nat) (hi : l.drop i = oi :: rest)
    (hb : (Region.noSelect l.toArray && Region.free md l.toArray listed i && (Region.ready md l.toArray listed).contains i) = true)
    (hQ : ∀ c a w, Q (.panic c) (a.put oi.dst v) w → Q (.panic c) a w) (hy : YieldsIf P l.toArray S oi v a) (hS : S w)
    (h : wpAnyH P md l.toArray Q S fuel (listed.setIfInBounds i true) (a.put oi.dst v) w) : wpAnyH P md l.toArray Q S (fuel + 1) listed a w := by
  rw [Bool.and_eq_true, Bool.and_eq_true] at hb
  exact takeL i hi hb.1.1 hb.1.2 hb.2 hQ hy hS h
theorem tW {P : Program} {md : Region.Mode} {l rest : List Oper} {Q : Exit → Act → World → Prop} {S : World → Prop} {oi : Oper} {fuel : Nat} {listed : Array Bool} {a : Act} {w : World} (v : Value) (i : Nat) (hi : l.drop i = oi :: rest)
    (hb : (Region.noSelect l.toArray && Region.free md l.toArray listed i && (Region.ready md l.toArray listed).contains i) = true)
    (hQ : ∀ c a w, Q (.panic c) (a.put oi.dst v) w → Q (.panic c) a w) (hw : Region.wanted oi (yielded l.toArray a.tmps) = true) (hS : S w) (hy : ∀ w, S w → (execOp a.eval oi).run P w = .ok (.value v) w)
    (h : wpAnyH P md l.toArray Q S fuel (listed.setIfInBounds i true) (a.put oi.dst v) w) : wpAnyH P md l.toArray Q S (fuel + 1) listed a w := tL i hi hb hQ (.inl ⟨hw, hy⟩) hS h
theorem zl {α : Type} (l : List α) (i : Nat) (a : α) : l.toArray.setIfInBounds i a = (l.set i a).toArray := List.setIfInBounds_toArray l i a
theorem z0 {α : Type} {x : α} {xs : List α} {a : α} : (x :: xs).set 0 a = a :: xs := List.set_cons_zero
theorem z1 {α : Type} {x : α} {xs : List α} {i : Nat} {a : α} : (x :: xs).set (i + 1) a = x :: xs.set i a := List.set_cons_succ

theorem consL {P : Program} {md : Region.Mode} {l rest : List Oper} {Q : Exit → Act → World → Prop} {S : World → Prop} {fuel : Nat} {listed : Array Bool} {a : Act} {w : World} {o : Oper} {rs : List Nat} (i : Nat) (ho : l.drop i = o :: rest)
    (h : ∀ K' : Act → World → Prop, Shut (∀ a w, S w → (S w → wpAnyH P md l.toArray Q S fuel (listed.setIfInBounds i true) a w) → K' a w) → if Region.wanted o (yielded l.toArray a.tmps) = true then Oper.wp P o a w K' Q else K' (a.put o.dst undef) w)
    (hs : AllReadyH P md l.toArray Q S fuel listed a w rs) : AllReadyH P md l.toArray Q S fuel listed a w (i :: rs) :=
  AllReadyH.cons (drop_get ho) h hs

end Go.Proofs.Ytlpjkolocgkcpaa

namespace Go.Proofs.Ytlpjkolocgkcpaa
open Go.RowKit

theorem zbR (B : Nat) (w : World) : Go.RowKit.Below B w w := Go.RowKit.Below.refl B w
theorem zbD {B : Nat} {a w : World} (h : Go.RowKit.Below B a w) : Go.RowKit.Below B a w.drew := h.drew
theorem zbA {B : Nat} {a w : World} (h : Go.RowKit.Below B a w) (hB : B ≤ w.heap.size) (o : Obj) : Go.RowKit.Below B a (w.alloc o) := h.alloc hB o
theorem zbS {B : Nat} {a w : World} (h : Go.RowKit.Below B a w) {p : Addr} (hB : B ≤ p.block) (u : Value) : Go.RowKit.Below B a (w.setCell p u) := h.setCell hB u
theorem zbT {B B' : Nat} {a b c : World} (h1 : Go.RowKit.Below B a b) (h2 : Go.RowKit.Below B' b c) (hB : B ≤ B') : Go.RowKit.Below B a c := h1.trans (h2.mono hB)
def Hid (p : Prop) : Prop := p
theorem hide {p : Prop} (h : p) : Hid p := h
theorem Hid.out {p : Prop} (h : Hid p) : p := h


theorem blk_cell {W : World} {g : Nat} {cells : Array Value} {t : TypeId} (h : W.heap[g]? = some (.cells cells t (0, 0))) (i : Nat) : W.cell? ⟨g, i, none⟩ = cells[i]? := by simp [World.cell?, h]
theorem blk_frozen {W : World} {g : Nat} {cells : Array Value} {t : TypeId} (h : W.heap[g]? = some (.cells cells t (0, 0))) (i : Nat) : W.frozen? ⟨g, i, none⟩ = false := by simp [World.frozen?, h]
theorem blk_set {W : World} {g : Nat} {cells : Array Value} {t : TypeId} (h : W.heap[g]? = some (.cells cells t (0, 0))) (i : Nat) (v : Value) : (W.setCell ⟨g, i, none⟩ v).heap[g]? = some (.cells (cells.setIfInBounds i v) t (0, 0)) := by
  obtain ⟨hlt, hk⟩ := Array.getElem?_eq_some_iff.1 h
  show (W.heap.modify g _)[g]? = _
  rw [Array.getElem?_eq_getElem (by rw [Array.size_modify]; exact hlt), Array.getElem_modify_self, hk]
  rfl
theorem blk_other {W : World} {g g' : Nat} {o : Obj} (h : W.heap[g]? = some o) (hne : g ≠ g') (i : Nat) (v : Value) : (W.setCell ⟨g', i, none⟩ v).heap[g]? = some o := (Below.heap_setCell _ _ _ g (fun e => hne e)).trans h
theorem add_plain (b o k : Nat) : (⟨b, o, none⟩ : Addr).add k = ⟨b, o + k, none⟩ := by
  unfold Addr.add
  split
  · rename_i h; subst h; rfl
  · rfl
theorem below_row {B : Nat} {a w : World} (h : Below B a w) {b : Nat} (hb : B ≤ b) (cs : Array Value) : Below B a (w.setRow b cs) :=
  ⟨h.os, h.tape, h.output, by simp only [size_setRow]; exact h.size, fun i hi => (setRow_other _ _ i _ (by omega)).trans (h.block i hi)⟩
theorem alloc_new_at {w : World} {O : Obj} {k : Nat} (h : k = w.heap.size) : (w.alloc O).heap[k]? = some O := by subst h; exact World.alloc_heap_new w O
theorem drew_size (W : World) : W.drew.heap.size = W.heap.size := rfl

theorem below_drewN {B : Nat} {a w : World} (h : Below B a w) (n : Nat) : Below B a (w.drewN n) := ⟨h.os, h.tape, h.output, h.size, h.block⟩
theorem owns_mono {w : World} {base base' : Nat} {e : TypeId} {size : Nat} {v : Value} {n : Nat} {xs : List Value} (h : w.ownsRow base e size v n xs) (hb : base' ≤ base) : w.ownsRow base' e size v n xs :=
  ⟨h.1, h.2.imp id fun ⟨g, cap, cur, e1, hg, r⟩ => ⟨g, cap, cur, e1, Nat.le_trans hb hg, r⟩⟩
theorem own_form {w : World} {base : Nat} {e : TypeId} {n size : Nat} {xs : List Value} {v : Value} (h : w.ownsRow base e size v n xs) : ∃ A c, v = .slice A n c := by
  rcases h.2 with ⟨rfl, rfl⟩ | ⟨g, cap, cur, rfl, _⟩
  · exact ⟨none, 0, rfl⟩
  · exact ⟨_, cap, rfl⟩
theorem only_of_below' {a w : World} (h : Below a.heap.size a w) : a.grownBy w none := ⟨h.os, h.tape, h.output, h.size, fun i hi _ => h.block i hi⟩
theorem owns_below {w w' : World} {base : Nat} {e : TypeId} {size : Nat} {v : Value} {n : Nat} {xs : List Value} (h : w.ownsRow base e size v n xs) (hb : Below w.heap.size w w') : w'.ownsRow base e size v n xs :=
  h.kept (only_of_below' hb) (by cases v.ownBlock <;> simp)
theorem grown_below {w w' : World} {row : Option Nat} {B : Nat} (h : w.grownBy w' row) (hB : B ≤ w.heap.size) (hr : ∀ g, row = some g → B ≤ g) : Below B w w' :=
  ⟨h.os, h.tape, h.output, h.size, fun i hi => h.block i (by omega) (fun e => by have := hr i e.symm; omega)⟩


def RdI (w : World) (B : Nat) (A : Option Addr) (xs : List Int) : Prop :=
  ∀ (k : Nat) (x : Int), xs[k]? = some x → ∃ b o : Nat, A = some ⟨b, o, none⟩ ∧ b < B ∧ w.cell? ⟨b, o + k, none⟩ = some (.int .i64 x)
theorem RdI.below {w w' : World} {B : Nat} {A : Option Addr} {xs : List Int} (h : RdI w B A xs) (hb : Below B w w') : RdI w' B A xs := fun k p hk => by
  obtain ⟨b, o, e, hB, c0⟩ := h k p hk
  exact ⟨b, o, e, hB, (hb.cell (p := ⟨b, o + k, none⟩) hB).trans c0⟩
theorem RdI.mono {w : World} {B B' : Nat} {A : Option Addr} {xs : List Int} (h : RdI w B A xs) (hB : B ≤ B') : RdI w B' A xs := fun k p hk => by
  obtain ⟨b, o, e, hB, c0⟩ := h k p hk
  exact ⟨b, o, e, by omega, c0⟩
theorem RdI.nil (w : World) (B : Nat) (A : Option Addr) : RdI w B A [] := fun k p h => by simp at h
def flatI (xs : List Int) : List Value := xs.map fun x => .int .i64 x
theorem flatI_at {xs : List Int} {k : Nat} {x : Int} (h : xs[k]? = some x) : (flatI xs)[k]? = some (.int .i64 x) := by
  unfold flatI; rw [List.getElem?_map, h]; rfl
theorem flatI_one (xs : List Int) : ∀ u ∈ flatI xs, u.oneCell' = true := by
  intro u hu
  simp only [flatI, List.mem_map] at hu
  obtain ⟨x, _, rfl⟩ := hu
  rfl
theorem owns_RdI {w : World} {base : Nat} {A : Option Addr} {n c : Nat} {xs : List Int} (h : w.ownsRow base 3 1 (.slice A n c) n (flatI xs)) (hn : xs.length = n) : RdI w w.heap.size A xs := by
  intro k p hk
  have hkl : k < n := by rw [← hn]; exact (List.getElem?_eq_some_iff.1 hk).1
  obtain ⟨g, cap, e, hbg, hh⟩ := h.form (by omega)
  have e' : A = some ⟨g, 0, none⟩ ∧ c = cap := by
    simp only [Value.slice.injEq] at e
    exact ⟨e.1, e.2.2⟩
  obtain ⟨rfl, rfl⟩ := e'
  refine ⟨g, 0, rfl, ?_, ?_⟩
  · exact (h.lt g rfl).2
  · rw [Nat.zero_add, h.cellAt k (by omega)]; exact flatI_at hk
theorem int_info : (Try.prog.info? 3).map (fun i => (i.zero, i.size, i.bytes)) = some (some (.int .i64 0), 1, 8) := by kernel_rfl
theorem RdI.none {w : World} {B : Nat} {xs : List Int} (h : RdI w B none xs) : xs = [] := by
  match xs, h with
  | [], _ => rfl
  | x :: r, h => obtain ⟨_, _, e, _⟩ := h 0 x rfl; cases e

theorem flatI_app (a b : List Int) : flatI (a ++ b) = flatI a ++ flatI b := by unfold flatI; simp
theorem flatI_length (a : List Int) : (flatI a).length = a.length := by unfold flatI; simp
theorem run_app_ints {w : World} (ty : TypeId) (base : Nat) (v : Value) (ps : List Int) (m0 : Nat) (hown : w.ownsRow base 3 1 v m0 (flatI ps))
    (A : Option Addr) (n c : Nat) (xs : List Int) (hn : xs.length = n) (hr : RdI w w.heap.size A xs) (hA : A = none → c = 0) (h0 : m0 ≤ 1000) (h1 : n ≤ 1000) (hbase : base ≤ w.heap.size) :
    ∃ A' c' w', (Builtin.append_ #[35, 35] ty #[v, .slice A n c]).run Try.prog w = .ok (.slice A' (m0 + n) c') w' ∧ w'.ownsRow base 3 1 (.slice A' (m0 + n) c') (m0 + n) (flatI (ps ++ xs)) ∧ w.grownBy w' v.ownBlock := by
  obtain ⟨i, hi, hz0, hz1, hz2⟩ := info_parts int_info
  rcases A with _ | ad
  · have hx0 : xs = [] := hr.none
    subst hx0
    have hn0 : n = 0 := by simpa using hn.symm
    subst hn0
    have hc0 := hA rfl
    subst hc0
    obtain ⟨A', c', rfl⟩ := own_form hown
    have hrun := run_append_owned_none (P := Try.prog) (w := w) base 35 ty 3 i 1 Try.underlying35 hi (.slice A' m0 c') m0 (flatI ps) hown
    exact ⟨A', c', w, hrun, by simpa using hown, World.grownBy.refl w _⟩
  · obtain ⟨v', w', hrun, h2, h3, _, _⟩ := run_append_own_at (P := Try.prog) w base 35 ty 3 i _ 1 8 Try.underlying35 hi hz0 hz1 hz2 (by rfl) (by decide) v m0 (flatI ps) hown ad n c (flatI xs) (by rw [flatI_length]; omega) (by
      intro j u hj
      obtain ⟨y, hk⟩ : ∃ y, xs[j]? = some y := by
        have hjl : j < (flatI xs).length := (List.getElem?_eq_some_iff.1 hj).1
        rw [flatI_length] at hjl
        exact ⟨_, List.getElem?_eq_getElem hjl⟩
      rw [flatI_at hk] at hj
      have hj' := Option.some.inj hj
      subst hj'
      obtain ⟨b, o2, e, _, c0⟩ := hr j y hk
      have e' := Option.some.inj e
      subst e'
      rw [add_plain]
      exact c0) (flatI_one xs) (by unfold maxLen; omega) (by omega) hbase
    obtain ⟨A', c', rfl⟩ := own_form h2
    exact ⟨A', c', w', hrun, by rw [flatI_app]; exact h2, h3⟩
theorem wpList_app_at {w : World} {ops : Array Oper} {rest : List Oper} {o : Oper} {a : Act} {Q : Exit → Act → World → Prop} (hgd : o.guard = none) (s x : Operand)
    (ho : o.op = .call { callee := .builtin .append, args := #[s, x], argTypes := #[35, 35] }) (base : Nat) (v : Value) (ps : List Int) (m0 : Nat) (hs : a.eval s = v) (hown : w.ownsRow base 3 1 v m0 (flatI ps))
    (A : Option Addr) (n c : Nat) (xs : List Int) (hx : a.eval x = .slice A n c) (hn : xs.length = n) (hr : RdI w w.heap.size A xs) (hA : A = none → c = 0) (h0 : m0 ≤ 1000) (h1 : n ≤ 1000) (hbase : base ≤ w.heap.size)
    (h : ∀ A' c' w', w'.ownsRow base 3 1 (.slice A' (m0 + n) c') (m0 + n) (flatI (ps ++ xs)) → w.grownBy w' v.ownBlock → wpList Try.prog ops Q rest (a.put o.dst (.slice A' (m0 + n) c')) w') :
    wpList Try.prog ops Q (o :: rest) a w := by
  refine wpList_plain hgd fun K hK => ?_
  obtain ⟨A', c', w', hr', h2, h3⟩ := run_app_ints o.type base v ps m0 hown A n c xs hn hr hA h0 h1 hbase
  unfold Oper.wp execOp
  simp only [ho, resolve, invoke, builtin, Sem.run_bind, Sem.run_pure, Result.andThen_ok, List.map_toArray, List.map_cons, List.map_nil, hs, hx, hr']
  exact hK _ _ (h A' c' w' h2 h3)

theorem blk_lt {W : World} {g : Nat} {o : Obj} (h : W.heap[g]? = some o) : g < W.heap.size := (Array.getElem?_eq_some_iff.1 h).1
theorem cap_alloc {K : Act → World → Prop} {a : Act} {u : World} {O : Obj} (h : (u.alloc O).heap[u.heap.size]? = some O → Below u.heap.size u (u.alloc O) → u.heap.size ≤ u.heap.size → K a (u.alloc O)) : K a (u.alloc O) := h (World.alloc_heap_new u O) (zbA (zbR _ _) (Nat.le_refl _) O) (Nat.le_refl _)
theorem cap_allocD {K : Act → World → Prop} {a : Act} {u : World} {O : Obj} (h : (u.alloc O).heap[u.heap.size]? = some O → Below u.heap.size u (u.alloc O) → u.heap.size ≤ u.heap.size → K a (u.alloc O).drew) : K a (u.alloc O).drew := h (World.alloc_heap_new u O) (zbA (zbR _ _) (Nat.le_refl _) O) (Nat.le_refl _)
theorem step_row {P : Program} {w : World} {ops : Array Oper} {o : Oper} {a : Act} {K : Act → World → Prop} {Q : Exit → Act → World → Prop} {E : Prop} (hgd : o.guard = none) (ty : TypeId) (x y : Operand) (ho : o.op = .store ty x y)
    (g : Nat) (cells : Array Value) (hx : a.eval x = .pointer (some ⟨g, 0, none⟩)) (hy : a.eval y = .agg cells)
    (t : TypeId) (old : Array Value) (hg : w.heap[g]? = some (.cells old t (0, 0))) (hi : (P.info? ty).map (·.size) = some cells.size)
    (hold : old.size = cells.size) (h1 : cells.all (·.oneCell') = true)
    (h : K (a.put o.dst undef) (w.setRow g cells)) : if Region.wanted o (yielded ops a.tmps) = true then Oper.wp P o a w K Q else E := by
  have hw : Region.wanted o (yielded ops a.tmps) = true := by simp [Region.wanted, hgd]
  rw [if_pos hw]
  exact wp_store_row ty x y ho g cells hx hy t old hg hi hold h1 h
theorem setRow_grown (w : World) (b : Nat) (cs : Array Value) : w.grownBy (w.setRow b cs) (some b) := ⟨rfl, rfl, rfl, by simp, fun k _ hk => setRow_other w _ k _ (fun e => hk (by rw [e]))⟩
end Go.Proofs.Ytlpjkolocgkcpaa

namespace Go.Proofs.Ytlpjkolocgkcpaa
namespace G

structure Pt where
  id : Int
  at_ : Int
  size : Int
  quits : Int
  deriving DecidableEq
structure Fr where
  at_ : Int
  count : Int
  deriving DecidableEq
structure Qu where
  opn : Int
  lo : Int
  hi : Int
  seats : Int
  gs : List Pt
  fs : List Fr
structure Tk where
  id : Int
  price : Int
  day : Int
  paid : Int
  deriving DecidableEq
structure Tm where
  short : Int
  long : Int
  played : List Int

def within (n lo hi : Int) : Bool := decide (lo ≤ n) && decide (n ≤ hi)
def vMin (n : Int) : Bool := within n 0 1440
def vSeats (n : Int) : Bool := within n 0 9999
def vGates (q : Qu) : Bool := vMin q.opn && within q.lo 1 q.hi && decide (q.hi ≤ 100) && vSeats q.seats
def vParty (p : Pt) : Bool := within p.id 0 999 && vMin p.at_ && within p.size 1 20 && (p.quits == -1 || within p.quits p.at_ 1440)
def vFree (f : Fr) : Bool := vMin f.at_ && vSeats f.count
def vNew : List Int → List Pt → Bool
  | _, [] => true
  | seen, p :: r => !seen.contains p.id && vParty p && vNew (seen ++ [p.id]) r
def vGroups (gs : List Pt) : Bool := decide (gs.length ≤ 40) && vNew [] gs
def vFrees (fs : List Fr) : Bool := decide (fs.length ≤ 40) && fs.all vFree
def valid (q : Qu) : Bool := vGates q && vGroups q.gs && vFrees q.fs

def cmp (x y : Int) : Int := if x < y then -1 else if y < x then 1 else 0
def cmpG (a b : Pt) : Int := if cmp a.at_ b.at_ = 0 then cmp a.id b.id else cmp a.at_ b.at_
def ins (p : Pt) : List Pt → List Pt
  | [] => [p]
  | x :: r => if cmpG p x ≤ 0 then p :: x :: r else x :: ins p r
def srt : List Pt → List Pt
  | [] => []
  | p :: r => ins p (srt r)

def sumF (fs : List Fr) (m : Int) : Int := ((fs.filter (fun f => decide (f.at_ ≤ m))).map (·.count)).sum
def Qu.S (q : Qu) (m : Int) : Int := q.seats + sumF q.fs m
def Pt.gone (p : Pt) : Int := if p.quits = -1 then 1441 else p.quits
def wait (S : Int → Int) (need gone : Int) : Nat → Int → Int
  | 0, m => m
  | k + 1, m => if gone ≤ m ∨ need ≤ S m then m else wait S need gone k (m + 1)
structure Mo where
  min : Int
  passed : Int
  used : Int
def from_ (opn : Int) (p : Pt) (s : Mo) : Int := max s.min (max p.at_ opn)
def ready (S : Int → Int) (opn : Int) (p : Pt) (s : Mo) : Int := wait (fun m => S m - s.used) p.size p.gone (p.gone - from_ opn p s).toNat (from_ opn p s)
def now (S : Int → Int) (opn : Int) (p : Pt) (s : Mo) : Int := if ready S opn p s = s.min then s.passed else 0
def minuteOf (S : Int → Int) (rate opn : Int) (p : Pt) (s : Mo) : Int :=
  if p.gone ≤ ready S opn p s then -1
  else if 1440 < ready S opn p s + (now S opn p s + p.size - 1) / rate then -1 else ready S opn p s + (now S opn p s + p.size - 1) / rate
def next (S : Int → Int) (rate opn : Int) (p : Pt) (s : Mo) : Mo :=
  if p.gone ≤ ready S opn p s then ⟨ready S opn p s, now S opn p s, s.used⟩
  else ⟨ready S opn p s + (now S opn p s + p.size) / rate, (now S opn p s + p.size) % rate, s.used + p.size⟩
def run (S : Int → Int) (rate opn : Int) : List Pt → Mo → List (Int × Int)
  | [], _ => []
  | p :: r, s => (p.id, minuteOf S rate opn p s) :: run S rate opn r (next S rate opn p s)
def look (id : Int) (l : List (Int × Int)) : Int := ((l.find? (fun x => x.1 == id)).map (·.2)).getD (-1)
def enter (q : Qu) (rate : Int) : List Int := q.gs.map (fun p => look p.id (run q.S rate q.opn (srt q.gs) ⟨0, 0, 0⟩))

def rates (q : Qu) : List Int := (List.range (q.hi - q.lo + 1).toNat).map (fun (k : Nat) => q.lo + (k : Int))
def minL : List Int → Int
  | [] => 0
  | x :: r => r.foldl (fun a b => if b < a then b else a) x
def maxL : List Int → Int
  | [] => 0
  | x :: r => r.foldl (fun a b => if a < b then b else a) x
def minutesOf (q : Qu) (g : Nat) : List Int := (rates q).map (fun r => (enter q r).getD g 0)
def idxOf (q : Qu) (id : Int) : Option Nat := q.gs.findIdx? (fun p => p.id == id)
def inside1 (q : Qu) (m : Int) (l : List Int) : Int := ((q.gs.zip l).map (fun x => if x.2 ≠ -1 ∧ x.2 ≤ m then x.1.size else 0)).sum
def upTo (q : Qu) (m : Int) : List Int := (rates q).map (fun r => inside1 q m (enter q r))
def always (q : Qu) (g : Nat) : Bool := (minutesOf q g).all (fun m => m != -1)
def people (gs : List Pt) : Int := (gs.map (·.size)).sum
def enoughF (q : Qu) (g : Nat) : Nat → Int → Option Int
  | 0, _ => none
  | k + 1, n => if always { q with seats := q.seats + n } g then some n else enoughF q g k (n + 1)
def enough (q : Qu) (g : Nat) : Option Int := enoughF q g ((max (people q.gs - q.seats) 0) + 1).toNat 0

def checkE (q : Qu) : Int := if valid q then 0 else 110
def enterE (q : Qu) (rate : Int) : Int := if valid q then (if within rate q.lo q.hi then 0 else 1) else 110
def enterV (q : Qu) (rate : Int) : List Int := if enterE q rate = 0 then enter q rate else []
def sureE (q : Qu) (id : Int) : Int := if valid q then (match idxOf q id with | none => 1 | some g => if (minutesOf q g).contains (-1) then 3 else 0) else 110
def sureV (q : Qu) (id : Int) : Int × Int := if sureE q id = 0 then (match idxOf q id with | none => (0, 0) | some g => (minL (minutesOf q g), maxL (minutesOf q g))) else (0, 0)
def enoughE (q : Qu) (id : Int) : Int := if valid q then (match idxOf q id with | none => 1 | some g => if (enough q g).isSome then 0 else 3) else 110
def enoughV (q : Qu) (id : Int) : Int := if valid q then (match idxOf q id with | none => 0 | some g => (enough q g).getD 0) else 0

def vTerms (x : Tm) : Bool := within x.short 0 x.long && vMin x.long && decide (x.played.length ≤ 30) && x.played.all vMin
def vTicket (x : Tm) (t : Tk) : Bool := within t.id 0 999 && within t.price 0 1000000 && within t.day 0 ((x.played.length : Int) - 1) && within t.paid 0 t.price
def vTicks (x : Tm) : List Int → List Tk → Bool
  | _, [] => true
  | seen, t :: r => !seen.contains t.id && vTicket x t && vTicks x (seen ++ [t.id]) r
def vTickets (x : Tm) (l : List Tk) : Bool := decide (l.length ≤ 40) && vTicks x [] l
def due (x : Tm) (t : Tk) : Int :=
  if x.played.getD t.day.toNat 0 < x.short then t.price else if x.played.getD t.day.toNat 0 < x.long then t.price / 2 else 0
def refund1 (x : Tm) (t : Tk) : Int := max (due x t - t.paid) 0
def refundE (x : Tm) (l : List Tk) : Int := if vTerms x && vTickets x l then 0 else 111
def refundV (x : Tm) (l : List Tk) : List Int := if refundE x l = 0 then l.map (refund1 x) else []
def totalV (x : Tm) (l : List Tk) : Int := (refundV x l).sum

def exQ : Qu := ⟨10, 2, 3, 5, [⟨1, 0, 2, -1⟩, ⟨2, 3, 4, 12⟩, ⟨3, 3, 2, -1⟩, ⟨4, 11, 1, -1⟩], [⟨13, 3⟩]⟩
theorem ex_enter : enterV exQ 2 = [10, -1, 12, 13] ∧ enterE exQ 2 = 0 := by decide +kernel
theorem ex_sure : sureV exQ 4 = (12, 13) ∧ sureE exQ 4 = 0 := by decide +kernel
theorem ex_enough : enoughV exQ 2 = 1 ∧ enoughE exQ 2 = 0 := by decide +kernel
def exX : Tm := ⟨60, 120, [30, 90, 200]⟩
def exL : List Tk := [⟨1, 1001, 0, 0⟩, ⟨2, 1001, 1, 0⟩, ⟨3, 1001, 1, 600⟩, ⟨4, 1001, 2, 0⟩]
theorem ex_total : totalV exX exL = 1501 ∧ refundE exX exL = 0 := by decide +kernel
end G
end Go.Proofs.Ytlpjkolocgkcpaa

namespace Go.Proofs.Ytlpjkolocgkcpaa
open Go.RowKit
attribute [local go_sem ↓] Go.wp_at_zero Go.wp_at_succ

theorem within_any (n lo hi : Int) (w : World) :
    Calls Try.prog 38 #[.int .i64 n, .int .i64 lo, .int .i64 hi] w fun e w' => e = .returned (.bool (G.within n lo hi)) ∧ w = w' := by
  by_cases h1 : lo ≤ n <;> by_cases h2 : n ≤ hi <;>
    (go_enter Try.func38, Try.ntmps38
     go_wp2
     go_ret
     exact ⟨by simp [G.within, h1, h2], rfl⟩)
theorem validMinute_any (n : Int) (w : World) :
    Calls Try.prog 63 #[.int .i64 n] w fun e w' => e = .returned (.bool (G.vMin n)) ∧ w = w' := by
  go_enter Try.func63, Try.ntmps63
  go_wp2_with (go_at_call 38; (with_reducible refine (within_any _ _ _ _).mono ?_); rintro e w' ⟨rfl, rfl⟩)
  go_ret
  exact ⟨rfl, rfl⟩
theorem validSeats_any (n : Int) (w : World) :
    Calls Try.prog 66 #[.int .i64 n] w fun e w' => e = .returned (.bool (G.vSeats n)) ∧ w = w' := by
  go_enter Try.func66, Try.ntmps66
  go_wp2_with (go_at_call 38; (with_reducible refine (within_any _ _ _ _).mono ?_); rintro e w' ⟨rfl, rfl⟩)
  go_ret
  exact ⟨rfl, rfl⟩
set_option maxHeartbeats 1600000 in
theorem validGates_any (q : G.Qu) (A : Option Addr) (n c : Nat) (F : Option Addr) (m d : Nat) (w : World) :
    Calls Try.prog 52 #[.agg #[.int .i64 q.opn, .int .i64 q.lo, .int .i64 q.hi, .int .i64 q.seats, .slice A n c, .slice F m d]] w fun e w' => e = .returned (.bool (G.vGates q)) ∧ Below w.heap.size w w' := by
  obtain ⟨b, hb⟩ : ∃ b, Hid (G.vGates q = b) := ⟨_, rfl⟩
  have hb' := hb.out
  unfold G.vGates at hb'
  cases h1 : G.vMin q.opn <;> cases h2 : G.within q.lo 1 q.hi <;> cases h3 : decide (q.hi ≤ 100) <;> cases h4 : G.vSeats q.seats <;>
    (rw [h1, h2, h3, h4] at hb'
     have hb2 : _ = b := hb'
     simp only [Bool.and_true, Bool.and_false, Bool.true_and, Bool.false_and, Bool.or_true, Bool.or_false, Bool.true_or, Bool.false_or] at hb2
     subst hb2
     have H1 := hide h1
     have H2 := hide h2
     have H3 := hide h3
     have H4 := hide h4
     clear hb' h1 h2 h4
     (try simp only [decide_eq_true_eq, decide_eq_false_iff_not, Int.not_le] at h3)
     go_enter Try.func52, Try.ntmps52
     go_wp2_with (first | (go_at_call 63; (with_reducible refine (validMinute_any (q.opn) _).mono ?_); rintro e w' ⟨rfl, rfl⟩; rw [H1.out]) | (go_at_call 38; (with_reducible refine (within_any (q.lo) (1) (q.hi) _).mono ?_); rintro e w' ⟨rfl, rfl⟩; rw [H2.out]) | (go_at_call 66; (with_reducible refine (validSeats_any (q.seats) _).mono ?_); rintro e w' ⟨rfl, rfl⟩; rw [H4.out]))
     go_ret
     exact ⟨by rw [hb.out]; rfl, by (repeat' first | exact zbR _ _ | assumption | refine zbD ?_ | refine zbA ?_ ?_ _ | refine zbS ?_ ?_ _ | refine zbT ?_ (by assumption) ?_ | (simp; done) | (simp; omega) | omega)⟩)
set_option maxHeartbeats 1600000 in
theorem validParty_any (p : G.Pt) (w : World) :
    Calls Try.prog 67 #[.agg #[.int .i64 p.id, .int .i64 p.at_, .int .i64 p.size, .int .i64 p.quits]] w fun e w' => e = .returned (.bool (G.vParty p)) ∧ Below w.heap.size w w' := by
  obtain ⟨b, hb⟩ : ∃ b, Hid (G.vParty p = b) := ⟨_, rfl⟩
  have hb' := hb.out
  unfold G.vParty at hb'
  cases h1 : G.within p.id 0 999 <;> cases h2 : G.vMin p.at_ <;> cases h3 : G.within p.size 1 20 <;> cases h4 : (p.quits == -1) <;> cases h5 : G.within p.quits p.at_ 1440 <;>
    (rw [h1, h2, h3, h4, h5] at hb'
     have hb2 : _ = b := hb'
     simp only [Bool.and_true, Bool.and_false, Bool.true_and, Bool.false_and, Bool.or_true, Bool.or_false, Bool.true_or, Bool.false_or] at hb2
     subst hb2
     have H1 := hide h1
     have H2 := hide h2
     have H3 := hide h3
     have H4 := hide h4
     have H5 := hide h5
     clear hb' h1 h2 h3 h5
     go_enter Try.func67, Try.ntmps67
     go_wp2_with (first | (go_at_call 63; (with_reducible refine (validMinute_any (p.at_) _).mono ?_); rintro e w' ⟨rfl, rfl⟩; rw [H2.out]) | (go_at_call 38; (with_reducible refine (within_any (p.id) (0) (999) _).mono ?_); rintro e w' ⟨rfl, rfl⟩; rw [H1.out]) | (go_at_call 38; (with_reducible refine (within_any (p.size) (1) (20) _).mono ?_); rintro e w' ⟨rfl, rfl⟩; rw [H3.out]) | (go_at_call 38; (with_reducible refine (within_any (p.quits) (p.at_) (1440) _).mono ?_); rintro e w' ⟨rfl, rfl⟩; rw [H5.out]))
     go_ret
     exact ⟨by rw [hb.out]; rfl, by (repeat' first | exact zbR _ _ | assumption | refine zbD ?_ | refine zbA ?_ ?_ _ | refine zbS ?_ ?_ _ | refine zbT ?_ (by assumption) ?_ | (simp; done) | (simp; omega) | omega)⟩)
set_option maxHeartbeats 1600000 in
theorem validTicket_any (x : G.Tm) (A : Option Addr) (n c : Nat) (t : G.Tk) (w : World) (hn : x.played.length = n) (hm : n ≤ 1000000) :
    Calls Try.prog 65 #[.agg #[.int .i64 x.short, .int .i64 x.long, .slice A n c], .agg #[.int .i64 t.id, .int .i64 t.price, .int .i64 t.day, .int .i64 t.paid]] w fun e w' => e = .returned (.bool (G.vTicket x t)) ∧ Below w.heap.size w w' := by
  have HN := hide hn
  clear hn
  have hw1 : IntKind.i64.wrap ((n : Int) - 1) = (n : Int) - 1 := IntWalk.i64_in _ (by omega)
  obtain ⟨b, hb⟩ : ∃ b, Hid (G.vTicket x t = b) := ⟨_, rfl⟩
  have hb' := hb.out
  unfold G.vTicket at hb'
  rw [HN.out] at hb'
  cases h1 : G.within t.id 0 999 <;> cases h2 : G.within t.price 0 1000000 <;> cases h3 : G.within t.day 0 ((n : Int) - 1) <;> cases h4 : G.within t.paid 0 t.price <;>
    (rw [h1, h2, h3, h4] at hb'
     have hb2 : _ = b := hb'
     simp only [Bool.and_true, Bool.and_false, Bool.true_and, Bool.false_and, Bool.or_true, Bool.or_false, Bool.true_or, Bool.false_or] at hb2
     subst hb2
     have H1 := hide h1
     have H2 := hide h2
     have H3 := hide h3
     have H4 := hide h4
     clear hb' h1 h2 h3 h4
     go_enter Try.func65, Try.ntmps65
     go_wp2_with (first | (go_at_call 38; (with_reducible refine (within_any (t.id) (0) (999) _).mono ?_); rintro e w' ⟨rfl, rfl⟩; rw [H1.out]) | (go_at_call 38; (with_reducible refine (within_any (t.price) (0) (1000000) _).mono ?_); rintro e w' ⟨rfl, rfl⟩; rw [H2.out]) | (go_at_call 38; (with_reducible refine (within_any (t.day) (0) ((n : Int) - 1) _).mono ?_); rintro e w' ⟨rfl, rfl⟩; rw [H3.out]) | (go_at_call 38; (with_reducible refine (within_any (t.paid) (0) (t.price) _).mono ?_); rintro e w' ⟨rfl, rfl⟩; rw [H4.out]))
     go_ret
     exact ⟨by rw [hb.out]; rfl, by (repeat' first | exact zbR _ _ | assumption | refine zbD ?_ | refine zbA ?_ ?_ _ | refine zbS ?_ ?_ _ | refine zbT ?_ (by assumption) ?_ | (simp; done) | (simp; omega) | omega)⟩)

end Go.Proofs.Ytlpjkolocgkcpaa

namespace Go.Proofs.Ytlpjkolocgkcpaa
namespace E

structure Nt where
  id : Int
  hour : Int
  kind : Int
  player : Int
  rank : Int
  deriving DecidableEq
structure Pl where
  ent : Bool
  grd : Bool
  card : Bool
  quit : Bool
  sgn : Bool
  rank : Int
  turn : Int
  deriving DecidableEq
structure Fd where
  places : Int
  wilds : Int
  guards : Int
  close : Int
  freeze : Int
  deriving DecidableEq

def within (n lo hi : Int) : Bool := decide (lo ≤ n) && decide (n ≤ hi)
def validField (f : Fd) : Bool := within f.places 1 32 && within f.wilds 0 32 && within f.guards 0 32 && within f.close 0 9999 && within f.freeze f.close 9999
def lowOf (k : Int) : Int := if k = 1 then 0 else if k = 2 then 1 else if k = 3 ∨ k = 4 ∨ k = 5 then 0 else 1
def highOf (k : Int) : Int := if k = 1 then 9999 else if k = 2 then 9999 else 0
def validNotice (x : Nt) : Bool := within x.id 0 999 && within x.player 0 999 && within x.hour 0 9999 && within x.rank (lowOf x.kind) (highOf x.kind)

def diff : List Nt → List Nt → Option (List Nt)
  | acc, [] => some acc
  | acc, x :: r =>
    if validNotice x = false then none
    else match acc.find? (fun y => y.id == x.id) with
      | some y => if y = x then diff acc r else none
      | none => diff (acc ++ [x]) r
def cmp (x y : Int) : Int := if x < y then -1 else if y < x then 1 else 0
def orL : List Int → Int
  | [] => 0
  | x :: r => if x = 0 then orL r else x
def cmpN (x y : Nt) : Int := orL [cmp x.hour y.hour, cmp x.id y.id]
def leN (x y : Nt) : Bool := decide (0 ≤ cmpN y x)
def diffs (l : List Nt) : Option (List Nt) := if 60 < l.length then none else (diff [] l).map (fun d => d.mergeSort leN)
def checkE (f : Fd) (l : List Nt) : Int := if validField f then (if (diffs l).isSome then 0 else 51) else 50

def Pl.zero : Pl := ⟨false, false, false, false, false, 0, 0⟩
def Pl.entry (p : Pl) : Bool := p.ent && !p.quit && !p.card
def one (b : Bool) : Int := if b then 1 else 0

def cmpP (p q : Pl) : Int := orL [cmp (one (p.rank == 0)) (one (q.rank == 0)), cmp p.rank q.rank, cmp p.turn q.turn]
structure St where
  f : Fd
  pl : Int → Pl
  known : List Int
  turns : Int
  main : List Int
  cards : List Int

def St.new (f : Fd) : St := ⟨f, fun _ => Pl.zero, [], 0, [], []⟩
def late (f : Fd) (h : Int) : Bool := decide (f.freeze < h)
def St.leP (s : St) (a b : Int) : Bool := decide (0 ≤ cmpP (s.pl b) (s.pl a))
def St.order (s : St) : List Int := (s.known.filter (fun k => (s.pl k).entry)).mergeSort s.leP
def St.alts (s : St) : List Int := s.order.filter (fun k => !s.main.contains k)
def St.fill (s : St) (lt : Bool) : List Int → List Int → Int → List Int
  | [], m, _ => m
  | k :: r, m, g =>
    if (m.length : Int) < s.f.places ∧ ((s.pl k).sgn = true ∨ lt = false) ∧ (g < s.f.guards ∨ (s.pl k).grd = false) then s.fill lt r (m ++ [k]) (g + one (s.pl k).grd)
    else s.fill lt r m g
def St.guardsOf (s : St) (l : List Int) : Int := (l.map (fun k => one (s.pl k).grd)).sum
def St.settle (s : St) (lt : Bool) : St :=
  let m := s.main.filter (fun k => lt && (s.pl k).entry)
  { s with main := St.fill s lt ({ s with main := m }.alts) m (s.guardsOf m) }
def St.put (s : St) (k : Int) (p : Pl) : St := { s with pl := fun j => if j = k then p else s.pl j, known := if k ∈ s.known then s.known else s.known ++ [k] }
def St.said (s : St) (x : Nt) : St :=
  let p := s.pl x.player
  if x.kind = 1 ∨ x.kind = 2 then
    if x.hour ≤ s.f.close ∧ p.ent = false then { s with turns := s.turns + 1 }.put x.player { p with ent := true, grd := decide (x.kind = 2), rank := x.rank, turn := s.turns }
    else s.put x.player p
  else if x.kind = 3 then
    if late s.f x.hour = false ∧ p.card = false ∧ p.quit = false ∧ (s.cards.length : Int) < s.f.wilds then { s with cards := s.cards ++ [x.player] }.put x.player { p with card := true }
    else s.put x.player p
  else if x.kind = 4 then
    { s with f := if late s.f x.hour = true ∧ p.card = true ∧ p.quit = false then { s.f with places := s.f.places + 1 } else s.f, cards := s.cards.filter (fun k => k != x.player) }.put x.player { p with quit := true }
  else if x.kind = 5 then s.put x.player { p with sgn := true }
  else s.put x.player p
def St.take (s : St) (x : Nt) : St := (s.said x).settle (late s.f x.hour)
def St.at (f : Fd) (l : List Nt) (h : Int) : St := (l.filter (fun x => decide (x.hour ≤ h))).foldl St.take (St.new f)
def idx (l : List Int) (k : Int) : Int := match l.findIdx? (· == k) with | some i => (i : Int) | none => -1
end E
end Go.Proofs.Ytlpjkolocgkcpaa

namespace Go.Proofs.Ytlpjkolocgkcpaa
open Go.RowKit
attribute [local go_sem ↓] Go.wp_at_zero Go.wp_at_succ

namespace E
theorem orL_hit {xs : List Int} {k : Nat} {x : Int} (h : ∀ j, j < k → xs[j]? = some 0) (hk : xs[k]? = some x) (hx : x ≠ 0) : orL xs = x := by
  induction xs generalizing k with
  | nil => cases hk
  | cons y r ih =>
    cases k with
    | zero =>
      have : y = x := Option.some.inj hk
      subst this
      simp [orL, hx]
    | succ k =>
      have h0 : y = 0 := Option.some.inj (h 0 (by omega))
      subst h0
      simp only [orL, if_true]
      exact ih (fun j hj => h (j + 1) (by omega)) hk
theorem orL_none {xs : List Int} (h : ∀ j, j < xs.length → xs[j]? = some 0) : orL xs = 0 := by
  induction xs with
  | nil => rfl
  | cons y r ih =>
    have h0 : y = 0 := Option.some.inj (h 0 (by simp))
    subst h0
    simp only [orL, if_true]
    exact ih (fun j hj => h (j + 1) (by simpa using hj))
theorem idx_hit {xs : List Int} {k : Nat} {x : Int} (h : ∀ j, j < k → xs[j]? ≠ some x) (hk : xs[k]? = some x) : idx xs x = (k : Int) := by
  unfold idx
  have : xs.findIdx? (· == x) = some k := by
    rw [List.findIdx?_eq_some_iff_getElem]
    obtain ⟨hl, he⟩ := List.getElem?_eq_some_iff.1 hk
    refine ⟨hl, by simp [he], fun j hj => ?_⟩
    have := h j hj
    rw [List.getElem?_eq_getElem (by omega)] at this
    simpa using this
  rw [this]
theorem idx_none {xs : List Int} {x : Int} (h : ∀ j, j < xs.length → xs[j]? ≠ some x) : idx xs x = -1 := by
  unfold idx
  have : xs.findIdx? (· == x) = none := by
    rw [List.findIdx?_eq_none_iff]
    intro y hy
    obtain ⟨j, hj, rfl⟩ := List.getElem_of_mem hy
    have := h j hj
    rw [List.getElem?_eq_getElem hj] at this
    simpa using this
  rw [this]
theorem idx_has (xs : List Int) (x : Int) : decide (0 ≤ idx xs x) = xs.contains x := by
  unfold idx
  cases hf : xs.findIdx? (· == x) with
  | none =>
    rw [List.findIdx?_eq_none_iff] at hf
    have : xs.contains x = false := by
      rw [List.contains_eq_mem, decide_eq_false_iff_not]
      intro hm
      have := hf x hm
      simp at this
    rw [this]; rfl
  | some k =>
    rw [List.findIdx?_eq_some_iff_getElem] at hf
    obtain ⟨hl, he, _⟩ := hf
    have : xs.contains x = true := by
      rw [List.contains_eq_mem, decide_eq_true_eq]
      have : xs[k] = x := by simpa using he
      rw [← this]; exact List.getElem_mem hl
    rw [this, decide_eq_true_eq]
    show (0 : Int) ≤ (k : Int)
    omega
end E

theorem isNaN_any (x : Int) (w : World) : Calls Try.prog 84 #[.int .i64 x] w fun e w' => e = .returned (.bool false) ∧ w = w' := by
  go_enter Try.func84, Try.ntmps84
  go_wp2
  go_ret
  exact ⟨by simp, rfl⟩

theorem compare_any (x y : Int) (w : World) : Calls Try.prog 71 #[.int .i64 x, .int .i64 y] w fun e w' => e = .returned (.int .i64 (E.cmp x y)) ∧ w = w' := by
  obtain ⟨r, hr⟩ : ∃ r, Hid (E.cmp x y = r) := ⟨_, hide rfl⟩
  rcases Int.lt_trichotomy x y with h | h | h
  · go_enter Try.func71, Try.ntmps71
    go_wp2_with (go_at_call 84; refine (isNaN_any _ _).mono ?_; rintro e w' ⟨rfl, rfl⟩)
    go_ret
    exact ⟨by simp [E.cmp, h], rfl⟩
  · subst h
    go_enter Try.func71, Try.ntmps71
    go_wp2_with (go_at_call 84; refine (isNaN_any _ _).mono ?_; rintro e w' ⟨rfl, rfl⟩)
    go_ret
    exact ⟨by simp [E.cmp], rfl⟩
  · have h' : ¬ x < y := by omega
    go_enter Try.func71, Try.ntmps71
    go_wp2_with (go_at_call 84; refine (isNaN_any _ _).mono ?_; rintro e w' ⟨rfl, rfl⟩)
    go_ret
    exact ⟨by simp [E.cmp, h, h'], rfl⟩

set_option maxHeartbeats 1600000 in
theorem or_any (A : Option Addr) (n c : Nat) (xs : List Int) (w : World) (hn : xs.length = n) (hr : RdI w w.heap.size A xs) (hm : n ≤ 1000000) :
    Calls Try.prog 70 #[.slice A n c] w fun e w' => e = .returned (.int .i64 (E.orL xs)) ∧ w = w' := by
  have HN := hide hn
  have HR := hide hr
  clear hn hr
  go_enter Try.func70, Try.ntmps70
  go_wp2_with fail
  go_loop [8] (fun i => ∃ k : Nat, k ≤ n ∧ i = .int .i64 k ∧ Hid (∀ j, j < k → xs[j]? = some 0)) (fun i => n - (intOf i).toNat)
  case atStart => exact ⟨0, by omega, rfl, hide (fun j hj => by omega)⟩
  case round =>
    obtain ⟨k, hk, rfl, HZ⟩ := hrel
    by_cases hlt : k < n
    · obtain ⟨x, hx⟩ : ∃ q, xs[k]? = some q := ⟨_, List.getElem?_eq_getElem (by have := HN.out; omega)⟩
      obtain ⟨b, o, hA, hbB, c0⟩ := HR.out k x hx
      subst hA
      have HX := hide hx
      clear hx
      have hlt' : (k : Int) < (n : Int) := by omega
      have hk0 : (0 : Int) ≤ (k : Int) := by omega
      cases h0 : (x != 0)
      · have hx0 : x = 0 := by simpa using h0
        have HX0 := hide hx0
        clear hx0
        go_wp2_with fail
        go_round
        case rel => exact ⟨k + 1, by omega, by go_num, hide (fun j hj => by
          rcases Nat.lt_or_ge j k with h | h
          · exact HZ.out j h
          · have : j = k := by omega
            rw [this, HX.out, HX0.out])⟩
        case measure => simp [intOf]; omega
      · have HX0 := hide (show x ≠ 0 by simpa using h0)
        go_wp2_with fail
        go_ret
        exact ⟨by rw [E.orL_hit HZ.out HX.out HX0.out]; rfl, rfl⟩
    · have hkn : k = n := by omega
      subst hkn
      go_wp2_with fail
      go_ret
      exact ⟨by rw [E.orL_none (fun j hj => HZ.out j (by have := HN.out; omega))]; rfl, rfl⟩

set_option maxHeartbeats 1600000 in
theorem index_any (A : Option Addr) (n c : Nat) (xs : List Int) (y : Int) (w : World) (hn : xs.length = n) (hr : RdI w w.heap.size A xs) (hm : n ≤ 1000000) :
    Calls Try.prog 60 #[.slice A n c, .int .i64 y] w fun e w' => e = .returned (.int .i64 (E.idx xs y)) ∧ w = w' := by
  have HN := hide hn
  have HR := hide hr
  clear hn hr
  go_enter Try.func60, Try.ntmps60
  go_wp2_with fail
  go_loop [8] (fun i => ∃ k : Nat, k ≤ n ∧ i = .int .i64 k ∧ Hid (∀ j, j < k → xs[j]? ≠ some y)) (fun i => n - (intOf i).toNat)
  case atStart => exact ⟨0, by omega, rfl, hide (fun j hj => by omega)⟩
  case round =>
    obtain ⟨k, hk, rfl, HZ⟩ := hrel
    by_cases hlt : k < n
    · obtain ⟨x, hx⟩ : ∃ q, xs[k]? = some q := ⟨_, List.getElem?_eq_getElem (by have := HN.out; omega)⟩
      obtain ⟨b, o, hA, hbB, c0⟩ := HR.out k x hx
      subst hA
      have HX := hide hx
      clear hx
      have hlt' : (k : Int) < (n : Int) := by omega
      have hk0 : (0 : Int) ≤ (k : Int) := by omega
      cases h0 : (y == x)
      · have HX0 := hide (show y ≠ x by simpa using h0)
        go_wp2_with fail
        go_round
        case rel => exact ⟨k + 1, by omega, by go_num, hide (fun j hj => by
          rcases Nat.lt_or_ge j k with h | h
          · exact HZ.out j h
          · have : j = k := by omega
            rw [this, HX.out]
            intro e
            exact HX0.out (Option.some.inj e).symm)⟩
        case measure => simp [intOf]; omega
      · have HX0 := hide (show y = x by simpa using h0)
        go_wp2_with fail
        go_ret
        exact ⟨by rw [E.idx_hit HZ.out (by rw [HX.out, HX0.out])]; rfl, rfl⟩
    · have hkn : k = n := by omega
      subst hkn
      go_wp2_with fail
      go_ret
      exact ⟨by rw [E.idx_none (fun j hj => HZ.out j (by have := HN.out; omega))]; rfl, rfl⟩

theorem contains_any (A : Option Addr) (n c : Nat) (xs : List Int) (y : Int) (w : World) (hn : xs.length = n) (hr : RdI w w.heap.size A xs) (hm : n ≤ 1000000) :
    Calls Try.prog 45 #[.slice A n c, .int .i64 y] w fun e w' => e = .returned (.bool (xs.contains y)) ∧ w = w' := by
  have HC := hide (E.idx_has xs y)
  have H0 := index_any A n c xs y w hn hr hm
  generalize E.idx xs y = r at HC H0
  generalize xs.contains y = q at HC ⊢
  clear hn hr
  have HD := hide hm
  clear hm
  cases hq : q
  · have h0 : ¬ 0 ≤ r := by have := HC.out; rw [hq] at this; simpa using this
    have h1 : r < 0 := by omega
    clear h0 hq HC
    go_enter Try.func45, Try.ntmps45
    go_wp2_with (go_at_call 60; refine H0.mono ?_; rintro e w' ⟨rfl, rfl⟩)
    go_ret
    exact ⟨by simp [h1], rfl⟩
  · have h0 : 0 ≤ r := by have := HC.out; rw [hq] at this; simpa using this
    clear hq HC
    go_enter Try.func45, Try.ntmps45
    go_wp2_with (go_at_call 60; refine H0.mono ?_; rintro e w' ⟨rfl, rfl⟩)
    go_ret
    exact ⟨by simp [h0], rfl⟩

end Go.Proofs.Ytlpjkolocgkcpaa

namespace Go.Proofs.Ytlpjkolocgkcpaa
open Go.RowKit
attribute [local go_sem ↓] Go.wp_at_zero Go.wp_at_succ

theorem bel_of {w w' : World} (h : w.grownBy w' none) : Below w.heap.size w w' := ⟨h.os, h.tape, h.output, h.size, fun i hi => h.block i hi (by simp)⟩
theorem gr_of {w w' : World} (h : Below w.heap.size w w') : w.grownBy w' none := ⟨h.os, h.tape, h.output, h.size, fun i hi _ => h.block i hi⟩
theorem gr_trans {a b c : World} {row : Option Nat} (h : a.grownBy b row) (k : b.grownBy c row) : a.grownBy c row := h.andThen k (fun _ hj => .inr hj)
theorem gr_set (w : World) (g i : Nat) (v : Value) : w.grownBy (w.setCell ⟨g, i, none⟩ v) (some g) :=
  ⟨rfl, rfl, rfl, by simp [World.setCell], fun k _ hk => Below.heap_setCell w ⟨g, i, none⟩ v k (fun e => hk (by rw [e]))⟩
namespace E
def idxP (p : Int → Bool) (xs : List Int) : Int := match xs.findIdx? p with | some i => (i : Int) | none => -1
theorem idxP_hit {p : Int → Bool} {xs : List Int} {k : Nat} {x : Int} (h : ∀ j y, j < k → xs[j]? = some y → p y = false) (hk : xs[k]? = some x) (hx : p x = true) : idxP p xs = (k : Int) := by
  unfold idxP
  have : xs.findIdx? p = some k := by
    rw [List.findIdx?_eq_some_iff_getElem]
    obtain ⟨hl, he⟩ := List.getElem?_eq_some_iff.1 hk
    refine ⟨hl, by rw [he]; exact hx, fun j hj => ?_⟩
    have := h j _ hj (List.getElem?_eq_getElem (by omega))
    simpa using this
  rw [this]
theorem idxP_none {p : Int → Bool} {xs : List Int} (h : ∀ j y, j < xs.length → xs[j]? = some y → p y = false) : idxP p xs = -1 := by
  unfold idxP
  have : xs.findIdx? p = none := by
    rw [List.findIdx?_eq_none_iff]
    intro y hy
    obtain ⟨j, hj, rfl⟩ := List.getElem_of_mem hy
    exact h j _ hj (List.getElem?_eq_getElem hj)
  rw [this]
end E

set_option maxHeartbeats 1600000 in
theorem indexFunc_any (g : Nat) (lb : Array Value) (eg : ∀ args w, (callFunc g args).run Try.prog w = .ok (.enter g args) w) (p : Int → Bool) (K : World → Prop) (xs : List Int)
    (hp : ∀ W x, x ∈ xs → K W → Calls Try.prog g (#[.int .i64 x] ++ lb) W fun e W' => e = .returned (.bool (p x)) ∧ W.grownBy W' none) (hst : ∀ W W', K W → W.grownBy W' none → K W')
    (A : Option Addr) (n c : Nat) (w : World) (hn : xs.length = n) (hr : RdI w w.heap.size A xs) (hm : n ≤ 1000000) (hK : K w) :
    Calls Try.prog 81 #[.slice A n c, .func (.func g) #[] lb] w fun e w' => e = .returned (.int .i64 (E.idxP p xs)) ∧ w.grownBy w' none := by
  have HN := hide hn
  have HR := hide hr
  have HP := hide hp
  have HST := hide hst
  have HK := hide hK
  clear hn hr hp hst hK
  go_enter Try.func81, Try.ntmps81
  go_wp2_with fail
  go_loopw [8] (fun i wr => ∃ k : Nat, k ≤ n ∧ i = .int .i64 k ∧ Hid (∀ j y, j < k → xs[j]? = some y → p y = false) ∧ w.grownBy wr none) (fun i _ => n - (intOf i).toNat)
  case atStart => exact ⟨0, by omega, rfl, hide (fun j y hj => by omega), World.grownBy.refl _ _⟩
  case round =>
    obtain ⟨k, hk, rfl, HZ, hG⟩ := hrel
    have HB := hide (bel_of hG)
    have HG := hide hG
    clear hG
    by_cases hlt : k < n
    · obtain ⟨x, hx⟩ : ∃ q, xs[k]? = some q := ⟨_, List.getElem?_eq_getElem (by have := HN.out; omega)⟩
      obtain ⟨b, o, hA, hbB, c0⟩ := (HR.out.below HB.out) k x hx
      subst hA
      have HX := hide hx
      clear hx
      have hlt' : (k : Int) < (n : Int) := by omega
      have hk0 : (0 : Int) ≤ (k : Int) := by omega
      have hc := HP.out wr x (List.mem_of_getElem? HX.out) (HST.out w wr HK.out HG.out)
      cases h0 : p x
      · rw [h0] at hc
        have HX0 := hide h0
        clear h0
        go_wp2_with (go_at_fn g; refine hc.mono ?_; rintro e w2 ⟨rfl, hg2⟩)
        go_roundw
        case rel => exact ⟨k + 1, by omega, by go_num, hide (fun j y hj hy => by
          rcases Nat.lt_or_ge j k with h | h
          · exact HZ.out j y h hy
          · have : j = k := by omega
            rw [this, HX.out] at hy
            rw [← Option.some.inj hy]; exact HX0.out), gr_trans HG.out hg2⟩
        case measure => simp [intOf]; omega
      · rw [h0] at hc
        have HX0 := hide h0
        clear h0
        go_wp2_with (go_at_fn g; refine hc.mono ?_; rintro e w2 ⟨rfl, hg2⟩)
        go_ret
        exact ⟨by rw [E.idxP_hit HZ.out HX.out HX0.out]; rfl, gr_trans HG.out hg2⟩
    · have hkn : k = n := by omega
      subst hkn
      go_wp2_with fail
      go_ret
      exact ⟨by rw [E.idxP_none (fun j y hj hy => HZ.out j y (by have := HN.out; omega) hy)]; rfl, HG.out⟩

namespace E
theorem take_snoc {xs : List Int} {j : Nat} {x : Int} (h : xs[j]? = some x) (q : Int → Bool) : (xs.take (j + 1)).filter q = (xs.take j).filter q ++ (if q x then [x] else []) := by
  rw [List.take_add_one, h, List.filter_append]
  congr 1
  simp only [Option.toList_some, List.filter_cons, List.filter_nil]
end E

end Go.Proofs.Ytlpjkolocgkcpaa

namespace Go.Proofs.Ytlpjkolocgkcpaa
open Go.RowKit

def RdG (w : World) (B : Nat) (A : Option Addr) (xs : List G.Pt) : Prop :=
  ∀ (k : Nat) (p : G.Pt), xs[k]? = some p → ∃ b o : Nat, A = some ⟨b, o, none⟩ ∧ b < B ∧ w.cell? ⟨b, o + k * 4, none⟩ = some (.int .i64 p.id) ∧ w.cell? ⟨b, o + k * 4 + 1, none⟩ = some (.int .i64 p.at_) ∧ w.cell? ⟨b, o + k * 4 + 2, none⟩ = some (.int .i64 p.size) ∧ w.cell? ⟨b, o + k * 4 + 3, none⟩ = some (.int .i64 p.quits)
def RdF (w : World) (B : Nat) (A : Option Addr) (xs : List G.Fr) : Prop :=
  ∀ (k : Nat) (p : G.Fr), xs[k]? = some p → ∃ b o : Nat, A = some ⟨b, o, none⟩ ∧ b < B ∧ w.cell? ⟨b, o + k * 2, none⟩ = some (.int .i64 p.at_) ∧ w.cell? ⟨b, o + k * 2 + 1, none⟩ = some (.int .i64 p.count)
def RdT (w : World) (B : Nat) (A : Option Addr) (xs : List G.Tk) : Prop :=
  ∀ (k : Nat) (p : G.Tk), xs[k]? = some p → ∃ b o : Nat, A = some ⟨b, o, none⟩ ∧ b < B ∧ w.cell? ⟨b, o + k * 4, none⟩ = some (.int .i64 p.id) ∧ w.cell? ⟨b, o + k * 4 + 1, none⟩ = some (.int .i64 p.price) ∧ w.cell? ⟨b, o + k * 4 + 2, none⟩ = some (.int .i64 p.day) ∧ w.cell? ⟨b, o + k * 4 + 3, none⟩ = some (.int .i64 p.paid)
theorem RdG.below {w w' : World} {B : Nat} {A : Option Addr} {xs : List G.Pt} (h : RdG w B A xs) (hb : Below B w w') : RdG w' B A xs := fun k p hk => by
  obtain ⟨b, o, e, hB, c0, c1, c2, c3⟩ := h k p hk
  exact ⟨b, o, e, hB, (hb.cell (p := ⟨b, o + k * 4, none⟩) hB).trans c0, (hb.cell (p := ⟨b, o + k * 4 + 1, none⟩) hB).trans c1, (hb.cell (p := ⟨b, o + k * 4 + 2, none⟩) hB).trans c2, (hb.cell (p := ⟨b, o + k * 4 + 3, none⟩) hB).trans c3⟩
theorem RdT.below {w w' : World} {B : Nat} {A : Option Addr} {xs : List G.Tk} (h : RdT w B A xs) (hb : Below B w w') : RdT w' B A xs := fun k p hk => by
  obtain ⟨b, o, e, hB, c0, c1, c2, c3⟩ := h k p hk
  exact ⟨b, o, e, hB, (hb.cell (p := ⟨b, o + k * 4, none⟩) hB).trans c0, (hb.cell (p := ⟨b, o + k * 4 + 1, none⟩) hB).trans c1, (hb.cell (p := ⟨b, o + k * 4 + 2, none⟩) hB).trans c2, (hb.cell (p := ⟨b, o + k * 4 + 3, none⟩) hB).trans c3⟩
theorem RdF.below {w w' : World} {B : Nat} {A : Option Addr} {xs : List G.Fr} (h : RdF w B A xs) (hb : Below B w w') : RdF w' B A xs := fun k p hk => by
  obtain ⟨b, o, e, hB, c0, c1⟩ := h k p hk
  exact ⟨b, o, e, hB, (hb.cell (p := ⟨b, o + k * 2, none⟩) hB).trans c0, (hb.cell (p := ⟨b, o + k * 2 + 1, none⟩) hB).trans c1⟩
theorem RdG.mono {w : World} {B B' : Nat} {A : Option Addr} {xs : List G.Pt} (h : RdG w B A xs) (hB : B ≤ B') : RdG w B' A xs := fun k p hk => by
  obtain ⟨b, o, e, hb, c⟩ := h k p hk
  exact ⟨b, o, e, by omega, c⟩
theorem RdT.mono {w : World} {B B' : Nat} {A : Option Addr} {xs : List G.Tk} (h : RdT w B A xs) (hB : B ≤ B') : RdT w B' A xs := fun k p hk => by
  obtain ⟨b, o, e, hb, c⟩ := h k p hk
  exact ⟨b, o, e, by omega, c⟩
theorem RdF.mono {w : World} {B B' : Nat} {A : Option Addr} {xs : List G.Fr} (h : RdF w B A xs) (hB : B ≤ B') : RdF w B' A xs := fun k p hk => by
  obtain ⟨b, o, e, hb, c⟩ := h k p hk
  exact ⟨b, o, e, by omega, c⟩
theorem RdG.nil (w : World) (B : Nat) (A : Option Addr) : RdG w B A [] := fun k p h => by simp at h
theorem RdF.nil (w : World) (B : Nat) (A : Option Addr) : RdF w B A [] := fun k p h => by simp at h
theorem RdT.nil (w : World) (B : Nat) (A : Option Addr) : RdT w B A [] := fun k p h => by simp at h
theorem cap_w {M : World → Prop} (W : World) (h : ∀ W', W' = W → M W') : M W := h W rfl
theorem bkT {u v : World} {q : Nat} {o : Obj} (hb : Below u.heap.size u v) (h : Hid (u.heap[q]? = some o)) : Hid (v.heap[q]? = some o) := hide ((hb.block _ (blk_lt h.out)).trans h.out)
theorem bkG {u v : World} {q : Nat} {o : Obj} {r : Option Nat} (hb : u.grownBy v r) (hn : some q ≠ r) (h : Hid (u.heap[q]? = some o)) : Hid (v.heap[q]? = some o) := hide ((hb.block _ (blk_lt h.out) hn).trans h.out)
end Go.Proofs.Ytlpjkolocgkcpaa

namespace Go.Proofs.Ytlpjkolocgkcpaa
open Go.RowKit
attribute [local go_sem ↓] Go.wp_at_zero Go.wp_at_succ

set_option maxHeartbeats 1600000 in
theorem refund_any (x : G.Tm) (A : Option Addr) (n c : Nat) (t : G.Tk) (w : World) (hn : x.played.length = n) (hr : RdI w w.heap.size A x.played) (hm : n ≤ 1000000) (h0 : 0 ≤ t.day) (h1 : t.day < n) (p0 : 0 ≤ t.price) (p1 : t.price ≤ 1000000) (q0 : 0 ≤ t.paid) (q1 : t.paid ≤ 1000000) :
    Calls Try.prog 51 #[.agg #[.int .i64 x.short, .int .i64 x.long, .slice A n c], .agg #[.int .i64 t.id, .int .i64 t.price, .int .i64 t.day, .int .i64 t.paid]] w fun e w' => e = .returned (.int .i64 (G.refund1 x t)) ∧ Below w.heap.size w w' := by
  obtain ⟨id, price, day, paid⟩ := t
  dsimp only at h0 h1 p0 p1 q0 q1 ⊢
  obtain ⟨k, rfl⟩ : ∃ k : Nat, day = (k : Int) := ⟨day.toNat, by omega⟩
  obtain ⟨pl, hpl⟩ : ∃ q, x.played[k]? = some q := ⟨_, List.getElem?_eq_getElem (by omega)⟩
  obtain ⟨b, o, rfl, hbB, hc⟩ := hr k pl hpl
  have hdue : G.due x ⟨id, price, (k : Int), paid⟩ = if pl < x.short then price else if pl < x.long then price / 2 else 0 := by
    unfold G.due
    dsimp only
    rw [Int.toNat_natCast, List.getD_eq_getElem?_getD, hpl]
    rfl
  obtain ⟨r, hrr⟩ : ∃ r, G.refund1 x ⟨id, price, (k : Int), paid⟩ = r := ⟨_, rfl⟩
  rw [hrr]
  have HRR := hide hrr
  unfold G.refund1 at hrr
  rw [hdue] at hrr
  dsimp only at hrr
  have hk0 : (0 : Int) ≤ (k : Int) := h0
  clear hdue hpl hr h0 hn HRR
  have z1 : b < w.heap.size + 1 := by omega
  have z2 : b < w.heap.size + 1 + 1 := by omega
  obtain ⟨sh, hsh⟩ : ∃ q, x.short = q := ⟨_, rfl⟩
  obtain ⟨lo, hlo⟩ : ∃ q, x.long = q := ⟨_, rfl⟩
  rw [hsh, hlo] at hrr ⊢
  clear hsh hlo
  by_cases c1 : pl < sh
  · rw [if_pos c1] at hrr
    have hw : IntKind.i64.wrap (price - paid) = price - paid := IntWalk.i64_in _ (by omega)
    have hm1 : (if price - paid < 0 then 0 else price - paid) = r := by split <;> omega
    have hm2 : max (price - paid) 0 = r := hrr
    clear hrr
    go_enter Try.func51, Try.ntmps51
    go_upto_region 1 with fail
    go_quiet (fail)
    go_wp2
    go_ret
    exact ⟨rfl, by refine below_drewN ?_ _; (repeat' first | exact zbR _ _ | assumption | refine zbD ?_ | refine zbA ?_ ?_ _ | refine zbS ?_ ?_ _ | refine zbT ?_ (by assumption) ?_ | (simp; done) | (simp; omega) | omega)⟩
  · rw [if_neg c1] at hrr
    have c1' : sh ≤ pl := by omega
    clear c1
    by_cases c2 : pl < lo
    · rw [if_pos c2] at hrr
      have hw : IntKind.i64.wrap (price / 2 - paid) = price / 2 - paid := IntWalk.i64_in _ (by omega)
      have hm1 : (if price / 2 - paid < 0 then 0 else price / 2 - paid) = r := by split <;> omega
      have hm2 : max (price / 2 - paid) 0 = r := hrr
      clear hrr
      go_enter Try.func51, Try.ntmps51
      go_upto_region 1 with fail
      go_quiet (fail)
      go_wp2
      go_ret
      exact ⟨rfl, by refine below_drewN ?_ _; (repeat' first | exact zbR _ _ | assumption | refine zbD ?_ | refine zbA ?_ ?_ _ | refine zbS ?_ ?_ _ | refine zbT ?_ (by assumption) ?_ | (simp; done) | (simp; omega) | omega)⟩
    · rw [if_neg c2] at hrr
      have c2' : lo ≤ pl := by omega
      clear c2
      have hr0 : r = 0 := by omega
      subst hr0
      clear hrr
      go_enter Try.func51, Try.ntmps51
      go_upto_region 1 with fail
      go_quiet (fail)
      go_wp2
      all_goals
        go_ret
        exact ⟨by first | rfl | exact congrArg (fun z => Ending.returned (Value.int .i64 z)) (by omega), by refine below_drewN ?_ _; (repeat' first | exact zbR _ _ | assumption | refine zbD ?_ | refine zbA ?_ ?_ _ | refine zbS ?_ ?_ _ | refine zbT ?_ (by assumption) ?_ | (simp; done) | (simp; omega) | omega)⟩

theorem badMinute_any (n : Int) (w : World) :
    Calls Try.prog 62 #[.int .i64 n] w fun e w' => e = .returned (.bool (!G.vMin n)) ∧ w = w' := by
  obtain ⟨b, hb⟩ : ∃ b, G.vMin n = b := ⟨_, rfl⟩
  have HB := hide hb
  rw [hb]
  clear hb
  cases b <;>
    (go_enter Try.func62, Try.ntmps62
     go_wp2_with (go_at_call 63; (with_reducible refine (validMinute_any _ _).mono ?_); rintro e w' ⟨rfl, rfl⟩; rw [HB.out])
     go_ret
     exact ⟨rfl, rfl⟩)
theorem idxP_any (p : Int → Bool) (xs : List Int) : (0 ≤ E.idxP p xs) ↔ xs.any p = true := by
  unfold E.idxP
  cases h : xs.findIdx? p with
  | none =>
    rw [List.findIdx?_eq_none_iff] at h
    simp only [List.any_eq_true]
    constructor
    · intro h; omega
    · rintro ⟨x, hx, hp⟩; rw [h x hx] at hp; cases hp
  | some i =>
    rw [List.findIdx?_eq_some_iff_getElem] at h
    obtain ⟨hl, hp, _⟩ := h
    simp only [List.any_eq_true]
    exact ⟨fun _ => ⟨_, List.getElem_mem hl, hp⟩, fun _ => by omega⟩
set_option maxHeartbeats 1600000 in
theorem containsBad_any (A : Option Addr) (n c : Nat) (xs : List Int) (w : World) (hn : xs.length = n) (hr : RdI w w.heap.size A xs) (hm : n ≤ 1000000) :
    Calls Try.prog 64 #[.slice A n c, .func (.func 62) #[] #[]] w fun e w' => e = .returned (.bool (!xs.all G.vMin)) ∧ Below w.heap.size w w' := by
  have HI := hide (indexFunc_any 62 #[] (enters_of Try.func62 (by kernel_rfl) rfl) (fun n => !G.vMin n) (fun _ => True) xs (fun W x _ _ => (badMinute_any x W).mono (fun e w' h => ⟨h.1, by rw [← h.2]; exact World.grownBy.refl _ _⟩)) (fun _ _ _ _ => trivial) A n c w hn hr hm trivial)
  have hiff := idxP_any (fun n => !G.vMin n) xs
  obtain ⟨r, hr2⟩ : ∃ r, E.idxP (fun n => !G.vMin n) xs = r := ⟨_, rfl⟩
  rw [hr2] at HI hiff
  have ho : (!xs.all G.vMin) = decide (0 ≤ r) := by
    rw [Bool.eq_iff_iff, decide_eq_true_eq, hiff, List.not_all_eq_any_not]
  rw [ho]
  clear hr2 hiff ho hr hn hm
  by_cases h : 0 ≤ r
  · go_enter Try.func64, Try.ntmps64
    go_wp2_with (go_at_call 81; refine HI.out.mono ?_; rintro e w' ⟨rfl, hg⟩)
    go_ret
    exact ⟨by simp [h], bel_of hg⟩
  · have h' : r < 0 := by omega
    go_enter Try.func64, Try.ntmps64
    go_wp2_with (go_at_call 81; refine HI.out.mono ?_; rintro e w' ⟨rfl, hg⟩)
    go_ret
    exact ⟨by simp [h], bel_of hg⟩
end Go.Proofs.Ytlpjkolocgkcpaa

namespace Go.Proofs.Ytlpjkolocgkcpaa
open Go.RowKit Go.Maps

theorem intKeyed : Keyed Try.prog 3 := int_keyed Try.underlying3
theorem keyI {k : Int} (h0 : 0 ≤ k) (h1 : k ≤ 999) : keyOf Try.prog 3 (.int .i64 k) = some (.int .i64 k) := keyOf_int_mk Try.underlying3 (WalkArith.wf_i64 (by omega))
theorem keyI_ne {j k : Int} (h : j ≠ k) : (Lit.int .i64 j) ≠ Lit.int .i64 k := fun e => h (by injection e)

structure Elem (α : Type) where
  enc : α → Value
  dat : α → DataW Unit
  zero : α
  enc_inj : ∀ x y, enc x = enc y → x = y
  dat_inj : ∀ x y, dat x = dat y → x = y

section
variable {α : Type} (E : Elem α)
open Classical in
noncomputable def Elem.rd (v : Value) : Option (DataW Unit × List MemPlace) := if h : ∃ x, E.enc x = v then some (E.dat h.choose, []) else none
theorem Elem.rd_enc (x : α) : E.rd (E.enc x) = some (E.dat x, []) := by
  unfold Elem.rd
  have h : ∃ y, E.enc y = E.enc x := ⟨x, rfl⟩
  rw [dif_pos h, E.enc_inj _ _ h.choose_spec]
theorem Elem.rd_inv {v : Value} {y : DataW Unit × List MemPlace} (h : E.rd v = some y) : ∃ x, v = E.enc x ∧ y = (E.dat x, []) := by
  unfold Elem.rd at h
  split at h
  · rename_i hx
    exact ⟨hx.choose, hx.choose_spec.symm, (Option.some.inj h).symm⟩
  · cases h

def MapK (w : World) (B : Nat) (F : Int → α) (kn : Int → Bool) (n : Nat) : Prop :=
  ∃ D : DataW Unit, w.ownsMap Try.prog 3 E.rd B n D ∧ (∀ k, 0 ≤ k → k ≤ 999 → D.atKey (.int .i64 k) (E.dat E.zero) = E.dat (F k) ∧ Maps.has D (.int .i64 k) = kn k) ∧ ∀ kl, Maps.has D kl = true → ∃ k, kl = .int .i64 k ∧ 0 ≤ k ∧ k ≤ 999

variable {E : Elem α} {w w' : World} {B n : Nat} {F : Int → α} {kn : Int → Bool}
theorem MapK.made (w : World) : MapK E (w.alloc (.map #[] 0)) w.heap.size (fun _ => E.zero) (fun _ => false) 0 :=
  ⟨.map [], World.ownsMap_made _ _ _ _, fun k _ _ => ⟨by simp [DataW.atKey], rfl⟩, fun kl h => by simp [Maps.has] at h⟩
theorem MapK.lt (h : MapK E w B F kn n) : B < w.heap.size := by
  obtain ⟨D, h, _⟩ := h; exact h.lt
theorem MapK.kept {row : Option Nat} (h : MapK E w B F kn n) (hg : w.grownBy w' row) (hne : some B ≠ row) : MapK E w' B F kn n := by
  obtain ⟨D, h, hF⟩ := h
  exact ⟨D, h.kept hg hne, hF⟩
theorem MapK.below (h : MapK E w B F kn n) (hb : Below w.heap.size w w') : MapK E w' B F kn n := h.kept (gr_of hb) (by simp)
theorem MapK.look {t e : TypeId} (ht : Try.prog.underlying t = some (.map 3 e)) (hz : ∀ w, (zeroValue e).run Try.prog w = .ok (E.enc E.zero) w) (h : MapK E w B F kn n) {k : Int} (h0 : 0 ≤ k) (h1 : k ≤ 999) :
    (Instr.lookup t (.map (some B)) (.int .i64 k) false).run Try.prog w = .ok (E.enc (F k)) w := by
  obtain ⟨D, h, hF, _⟩ := h
  obtain ⟨v, ps, hrun, hat⟩ := h.lookup intKeyed ht (hz w) (E.rd_enc E.zero) (keyI h0 h1)
  rw [(hF k h0 h1).1] at hat
  obtain ⟨x, rfl, hx⟩ := E.rd_inv hat
  have := E.dat_inj _ _ (congrArg Prod.fst hx)
  rw [this]; exact hrun
theorem MapK.lookOk {t e : TypeId} (ht : Try.prog.underlying t = some (.map 3 e)) (hz : ∀ w, (zeroValue e).run Try.prog w = .ok (E.enc E.zero) w) (h : MapK E w B F kn n) {k : Int} (h0 : 0 ≤ k) (h1 : k ≤ 999) :
    (Instr.lookup t (.map (some B)) (.int .i64 k) true).run Try.prog w = .ok (.tuple #[E.enc (F k), .bool (kn k)]) w := by
  obtain ⟨D, h, hF, _⟩ := h
  obtain ⟨v, ps, hrun, hat⟩ := h.look_ok intKeyed ht (hz w) (E.rd_enc E.zero) (keyI h0 h1)
  rw [(hF k h0 h1).1] at hat
  obtain ⟨x, rfl, hx⟩ := E.rd_inv hat
  have := E.dat_inj _ _ (congrArg Prod.fst hx)
  rw [this, ← (hF k h0 h1).2]; exact hrun
theorem MapK.store {t e : TypeId} (ht : Try.prog.underlying t = some (.map 3 e)) (h : MapK E w B F kn n) (hn : n < 1000000) {k : Int} (h0 : 0 ≤ k) (h1 : k ≤ 999) (v : α) :
    ∃ w', (Instr.mapUpdate t (.map (some B)) (.int .i64 k) (E.enc v)).run Try.prog w = .ok () w' ∧ MapK E w' B (fun j => if j = k then v else F j) (fun j => if j = k then true else kn j) (n + 1) ∧ w.grownBy w' (some B) := by
  obtain ⟨D, h, hF, hR⟩ := h
  obtain ⟨w', hrun, ho, hg⟩ := h.update intKeyed ht (by simp only [maxLen]; omega) (keyI h0 h1) (E.rd_enc v)
  refine ⟨w', hrun, ⟨_, ho, fun j j0 j1 => ?_, fun kl hkl => ?_⟩, hg⟩
  · by_cases e : j = k
    · subst e
      simp only [if_true]
      exact ⟨atKey_put_same h.isMap (intKeyed.key (keyI h0 h1)) _ _, has_put_same h.isMap (intKeyed.key (keyI h0 h1)) _⟩
    · simp only [if_neg e]
      rw [atKey_put_other (keyI_ne e), has_put_other (keyI_ne e)]
      exact hF j j0 j1
  · by_cases e : kl = .int .i64 k
    · exact ⟨k, e, h0, h1⟩
    · rw [has_put_other e] at hkl
      exact hR kl hkl

def RangeK (E : Elem α) (w : World) (B r : Nat) (F : Int → α) (kn : Int → Bool) (n : Nat) (vis : List Int) (cnt : Nat) : Prop :=
  ∃ (D : DataW Unit) (left : Lit → Bool), w.ranges Try.prog 3 E.rd B r n D left cnt ∧ (∀ k, 0 ≤ k → k ≤ 999 → D.atKey (.int .i64 k) (E.dat E.zero) = E.dat (F k) ∧ Maps.has D (.int .i64 k) = kn k) ∧ (∀ kl, Maps.has D kl = true → ∃ k, kl = .int .i64 k ∧ 0 ≤ k ∧ k ≤ 999)
    ∧ (∀ kl, left kl = true → Maps.has D kl = true) ∧ (∀ k, 0 ≤ k → k ≤ 999 → left (.int .i64 k) = (kn k && !vis.contains k)) ∧ vis.Nodup ∧ (∀ k ∈ vis, 0 ≤ k ∧ k ≤ 999 ∧ kn k = true) ∧ vis.length + cnt ≤ n
theorem RangeK.kept {r : Nat} {vis : List Int} {cnt : Nat} {row : Option Nat} (h : RangeK E w B r F kn n vis cnt) (hg : w.grownBy w' row) (h1 : some B ≠ row) (h2 : some r ≠ row) : RangeK E w' B r F kn n vis cnt := by
  obtain ⟨D, left, h, hr⟩ := h; exact ⟨D, left, h.kept hg h1 h2, hr⟩
theorem RangeK.map {r : Nat} {vis : List Int} {cnt : Nat} (h : RangeK E w B r F kn n vis cnt) : MapK E w B F kn n := by
  obtain ⟨D, left, h, h1, h2, _⟩ := h; exact ⟨D, h.owns, h1, h2⟩
theorem RangeK.lt {r : Nat} {vis : List Int} {cnt : Nat} (h : RangeK E w B r F kn n vis cnt) : r < w.heap.size := by
  obtain ⟨D, left, h, _⟩ := h; exact h.lt

end

end Go.Proofs.Ytlpjkolocgkcpaa

namespace Go.Proofs.Ytlpjkolocgkcpaa
open Go.RowKit Go.Maps

def elB : Elem Bool where
  enc := Value.bool
  dat b := .lit (.bool b)
  zero := false
  enc_inj x y h := by injection h
  dat_inj x y h := by injection h with h; injection h
def elI : Elem Int where
  enc := Value.int .i64
  dat x := .lit (.int .i64 x)
  zero := 0
  enc_inj x y h := by injection h
  dat_inj x y h := by injection h with h; injection h
theorem zeroB (w : World) : (zeroValue 4).run Try.prog w = .ok (elB.enc elB.zero) w := by kernel_rfl
theorem zeroI (w : World) : (zeroValue 3).run Try.prog w = .ok (elI.enc elI.zero) w := by kernel_rfl
theorem MapK.none_out {α : Type} {E : Elem α} {w : World} {B n : Nat} {F : Int → α} {kn : Int → Bool} (h : MapK E w B F kn n) {k : Int} (hr : ¬ (0 ≤ k ∧ k ≤ 999)) : ∃ D : DataW Unit, w.ownsMap Try.prog 3 E.rd B n D ∧ Maps.has D (.int .i64 k) = false := by
  obtain ⟨D, h, hF, hR⟩ := h
  refine ⟨D, h, ?_⟩
  cases hc : Maps.has D (.int .i64 k) with
  | false => rfl
  | true =>
    obtain ⟨k', e, h0, h1⟩ := hR _ hc
    injection e with _ e
    subst e
    exact absurd ⟨h0, h1⟩ hr
theorem MapK.lookOk_wf {α : Type} {E : Elem α} {w : World} {B n : Nat} {F : Int → α} {kn : Int → Bool} {t e : TypeId} (ht : Try.prog.underlying t = some (.map 3 e)) (hz : ∀ w, (zeroValue e).run Try.prog w = .ok (E.enc E.zero) w) (h : MapK E w B F kn n) {k : Int} (hwf : (Lit.int .i64 k).wf = true) :
    ∃ z b, (Instr.lookup t (.map (some B)) (.int .i64 k) true).run Try.prog w = .ok (.tuple #[E.enc z, .bool b]) w ∧ (b = true → 0 ≤ k ∧ k ≤ 999 ∧ z = F k ∧ kn k = true) ∧ (b = false → 0 ≤ k → k ≤ 999 → kn k = false) := by
  by_cases hr : 0 ≤ k ∧ k ≤ 999
  · exact ⟨_, _, h.lookOk ht hz hr.1 hr.2, fun e => ⟨hr.1, hr.2, rfl, e⟩, fun e _ _ => e⟩
  · obtain ⟨D, h, hh⟩ := h.none_out hr
    obtain ⟨v, ps, hrun, hat⟩ := h.look_ok intKeyed ht (hz w) (E.rd_enc E.zero) (keyOf_int_mk Try.underlying3 hwf)
    rw [atKey_of_not_has hh] at hat
    obtain ⟨x, rfl, hx⟩ := E.rd_inv hat
    have := E.dat_inj _ _ (congrArg Prod.fst hx)
    rw [← this] at hrun
    rw [hh] at hrun
    exact ⟨_, false, hrun, fun e => (by cases e), fun _ h0 h1 => absurd ⟨h0, h1⟩ hr⟩
theorem MapK.look_wf {α : Type} {E : Elem α} {w : World} {B n : Nat} {F : Int → α} {kn : Int → Bool} {t e : TypeId} (ht : Try.prog.underlying t = some (.map 3 e)) (hz : ∀ w, (zeroValue e).run Try.prog w = .ok (E.enc E.zero) w) (h : MapK E w B F kn n) {k : Int} (hwf : (Lit.int .i64 k).wf = true) :
    ∃ z, (Instr.lookup t (.map (some B)) (.int .i64 k) false).run Try.prog w = .ok (E.enc z) w ∧ (0 ≤ k → k ≤ 999 → z = F k) ∧ (¬ (0 ≤ k ∧ k ≤ 999) → z = E.zero) := by
  by_cases hr : 0 ≤ k ∧ k ≤ 999
  · exact ⟨_, h.look ht hz hr.1 hr.2, fun _ _ => rfl, fun c => absurd hr c⟩
  · obtain ⟨D, h, hh⟩ := h.none_out hr
    obtain ⟨v, ps, hrun, hat⟩ := h.lookup intKeyed ht (hz w) (E.rd_enc E.zero) (keyOf_int_mk Try.underlying3 hwf)
    rw [atKey_of_not_has hh] at hat
    obtain ⟨x, rfl, hx⟩ := E.rd_inv hat
    have := E.dat_inj _ _ (congrArg Prod.fst hx)
    exact ⟨x, hrun, fun h0 h1 => absurd ⟨h0, h1⟩ hr, fun _ => this.symm⟩
end Go.Proofs.Ytlpjkolocgkcpaa

namespace Go.Proofs.Ytlpjkolocgkcpaa
open Go.RowKit Go.Maps
attribute [local go_sem ↓] Go.wp_at_zero Go.wp_at_succ

set_option maxHeartbeats 1600000 in
theorem validTerms_any (x : G.Tm) (A : Option Addr) (n c : Nat) (w : World) (hn : x.played.length = n) (hr : RdI w w.heap.size A x.played) (hm : n ≤ 1000000) :
    Calls Try.prog 49 #[.agg #[.int .i64 x.short, .int .i64 x.long, .slice A n c]] w fun e w' => e = .returned (.bool (G.vTerms x)) ∧ Below w.heap.size w w' := by
  have HN := hide hn
  have HR := hide hr
  obtain ⟨b, hb⟩ : ∃ b, Hid (G.vTerms x = b) := ⟨_, rfl⟩
  have hb' := hb.out
  unfold G.vTerms at hb'
  rw [hn] at hb'
  clear hn hr
  obtain ⟨al, hal⟩ : ∃ q, x.played.all G.vMin = q := ⟨_, rfl⟩
  have HAL := hide hal
  rw [hal] at hb'
  clear hal
  cases h1 : G.within x.short 0 x.long <;> cases h2 : G.vMin x.long <;> cases h3 : decide (n ≤ 30) <;> cases al <;>
    (rw [h1, h2, h3] at hb'
     have hb2 : _ = b := hb'
     simp only [Bool.and_true, Bool.and_false, Bool.true_and, Bool.false_and] at hb2
     subst hb2
     have H1 := hide h1
     have H2 := hide h2
     (try simp only [decide_eq_true_eq, decide_eq_false_iff_not, Nat.not_le] at h3)
     (first | have h4 : (n : Int) ≤ 30 := by omega | have h4 : (30 : Int) < (n : Int) := by omega)
     clear h1 h2 h3 hb'
     go_enter Try.func49, Try.ntmps49
     go_wp2_with (first | (go_at_call 38; (with_reducible refine (within_any (x.short) (0) (x.long) _).mono ?_); rintro e w' ⟨rfl, rfl⟩; rw [H1.out]) | (go_at_call 63; (with_reducible refine (validMinute_any _ _).mono ?_); rintro e w' ⟨rfl, rfl⟩; rw [H2.out]) | (go_at_call 64; (with_reducible refine (containsBad_any A n c x.played _ HN.out ((HR.out.below (zbA (zbR _ _) (Nat.le_refl _) _)).mono (by simp)) hm).mono ?_); rintro e w2 ⟨rfl, hb2⟩; rw [HAL.out]; have HB2 := hide (zbT (zbA (zbR w.heap.size w) (Nat.le_refl _) _) hb2 (by simp)); clear hb2))
     go_ret
     exact ⟨by rw [hb.out]; rfl, by first | exact HB2.out | (repeat' first | exact zbR _ _ | assumption | refine zbD ?_ | refine zbA ?_ ?_ _ | refine zbS ?_ ?_ _ | refine zbT ?_ (by assumption) ?_ | (simp; done) | (simp; omega) | omega)⟩)

namespace G
theorem vTicks_step {x : Tm} {seen : List Int} {l : List Tk} {k : Nat} {t : Tk} (h : l[k]? = some t) : vTicks x seen (l.drop k) = (!seen.contains t.id && vTicket x t && vTicks x (seen ++ [t.id]) (l.drop (k + 1))) := by
  obtain ⟨hl, he⟩ := List.getElem?_eq_some_iff.1 h
  rw [List.drop_eq_getElem_cons hl, he]
  rfl
theorem vTicket_id {x : Tm} {t : Tk} (h : vTicket x t = true) : 0 ≤ t.id ∧ t.id ≤ 999 := by
  unfold vTicket within at h
  simp only [Bool.and_eq_true, decide_eq_true_eq] at h
  omega
end G
def Seen (F : Int → Bool) (seen : List Int) : Prop := (∀ j, 0 ≤ j → j ≤ 999 → F j = seen.contains j) ∧ ∀ j ∈ seen, 0 ≤ j ∧ j ≤ 999
theorem Seen.add {F : Int → Bool} {seen : List Int} (h : Seen F seen) {i : Int} (h0 : 0 ≤ i) (h1 : i ≤ 999) : Seen (fun j => if j = i then true else F j) (seen ++ [i]) := by
  refine ⟨fun j a b => ?_, fun j hj => ?_⟩
  · by_cases e : j = i
    · simp [e]
    · simp only [if_neg e, h.1 j a b]
      simp [e]
  · rcases List.mem_append.1 hj with hj | hj
    · exact h.2 j hj
    · simp at hj
      omega
set_option maxHeartbeats 6400000 in
set_option maxRecDepth 100000 in
theorem validTickets_any (x : G.Tm) (A : Option Addr) (n c : Nat) (B : Option Addr) (m d : Nat) (l : List G.Tk) (w : World) (hn : x.played.length = n) (hm : n ≤ 1000000) (hl : l.length = m) (hr : RdT w w.heap.size B l) (hid : ∀ t ∈ l, (Lit.int .i64 t.id).wf = true) (hlm : m ≤ 1000000) :
    Calls Try.prog 50 #[.agg #[.int .i64 x.short, .int .i64 x.long, .slice A n c], .slice B m d] w fun e w' => e = .returned (.bool (G.vTickets x l)) ∧ Below w.heap.size w w' := by
  have HN := hide hn
  have HL := hide hl
  have HR := hide hr
  have HID := hide hid
  have hmm := @Go.RowKit.run_makeMap Try.prog
  obtain ⟨r, hres⟩ : ∃ r, G.vTickets x l = r := ⟨_, rfl⟩
  rw [hres]
  unfold G.vTickets at hres
  rw [hl] at hres
  clear hn hl hr hid
  go_enter Try.func50, Try.ntmps50
  by_cases h40 : 40 < m
  · have h1 : (40 : Int) < (m : Int) := by omega
    rw [decide_eq_false (by omega), Bool.false_and] at hres
    subst hres
    go_wp2_with fail
    go_ret
    exact ⟨rfl, by (repeat' first | exact zbR _ _ | assumption | refine zbD ?_ | refine zbA ?_ ?_ _ | refine zbS ?_ ?_ _ | refine zbT ?_ (by assumption) ?_ | (simp; done) | (simp; omega) | omega)⟩
  · have h1 : (m : Int) ≤ 40 := by omega
    have hm40 : m ≤ 40 := by omega
    rw [decide_eq_true hm40, Bool.true_and] at hres
    have HRES := hide hres
    clear h40 hres
    go_upto_region 4 with fail
    refine cap_w (M := Code.wp _ _ _ _) _ (fun w1 hw1 => ?_)
    have HX := hide (show w1.heap[w.heap.size]? = some (.cells #[.int .i64 x.short, .int .i64 x.long, .slice A n c] 48 (0, 0)) by rw [hw1]; exact (Below.heap_alloc _ _ _ (by simp)).trans (World.alloc_heap_new _ _))
    have HM := hide (show MapK elB w1 (w.heap.size + 1) (fun _ => false) (fun _ => false) 0 by
      rw [hw1]
      have h := MapK.made (E := elB) (w.alloc (.cells #[.int .i64 x.short, .int .i64 x.long, .slice A n c] 48))
      rw [World.size_alloc] at h
      exact h)
    have HB1 := hide (show Below w.heap.size w w1 by rw [hw1]; (repeat' first | exact zbR _ _ | assumption | refine zbD ?_ | refine zbA ?_ ?_ _ | refine zbS ?_ ?_ _ | refine zbT ?_ (by assumption) ?_ | (simp; done) | (simp; omega) | omega))
    clear hw1 hmm h1
    obtain ⟨g, hg⟩ : ∃ q, w.heap.size + 1 = q := ⟨_, rfl⟩
    have HGG := hide hg
    rw [hg] at HM ⊢
    clear hg
    go_wp2_with fail
    go_loopw [7, 14] (fun v i wr => ∃ (k : Nat) (F kn : Int → Bool) (e : Nat), k ≤ m ∧ i = .int .i64 k ∧ Hid (G.vTicks x ((l.take k).map (·.id)) (l.drop k) = r) ∧ Hid (e ≤ k ∧ MapK elB wr g F kn e) ∧ Hid (Seen F ((l.take k).map (·.id))) ∧ Hid (wr.heap[w.heap.size]? = some (.cells #[.int .i64 x.short, .int .i64 x.long, .slice A n c] 48 (0, 0))) ∧ Hid (Below w.heap.size w wr)) (fun _ i _ => m - (intOf i).toNat)
    case atStart => exact ⟨0, _, _, 0, by omega, rfl, HRES, hide ⟨Nat.le_refl _, HM.out⟩, hide ⟨fun j _ _ => rfl, fun j hj => by simp at hj⟩, HX, HB1⟩
    case round =>
      clear HM HX HB1 HRES
      obtain ⟨k, F, kn, e0, hk, rfl, HRES, HMM, HSE, HX, HB1⟩ := hrel
      have HE := hide HMM.out.1
      have HM := hide HMM.out.2
      clear HMM
      by_cases hlt : k < m
      · obtain ⟨t, ht⟩ : ∃ q, l[k]? = some q := ⟨_, List.getElem?_eq_getElem (by have := HL.out; omega)⟩
        obtain ⟨b, o, hB, hbB, d0, d1, d2, d3⟩ := (HR.out.below HB1.out) k t ht
        subst hB
        have hlt' : (k : Int) < (m : Int) := by omega
        have hk0 : (0 : Int) ≤ (k : Int) := by omega
        have hbr : b < wr.heap.size := Nat.lt_of_lt_of_le hbB HB1.out.size
        have HS := hide ((G.vTicks_step (x := x) (seen := (l.take k).map (·.id)) ht).symm.trans HRES.out)
        have HWF := hide (HID.out t (List.mem_of_getElem? ht))
        have HTK := hide (show (l.take (k + 1)).map (·.id) = (l.take k).map (·.id) ++ [t.id] by rw [List.take_add_one, ht]; simp)
        clear ht HRES
        go_upto_region 7 with fail
        refine cap_w (M := Code.wp _ _ _ _) _ (fun w2 hw2 => ?_)
        have HB2 := hide (show Below wr.heap.size wr w2 by rw [hw2]; exact zbA (zbR _ _) (Nat.le_refl _) _)
        have HT2 := hide (show w2.heap[wr.heap.size]? = some (.cells #[.int .i64 t.id, .int .i64 t.price, .int .i64 t.day, .int .i64 t.paid] 61 (0, 0)) by rw [hw2]; exact World.alloc_heap_new _ _)
        clear hw2 d0 d1 d2 d3
        have HX2 := bkT HB2.out HX
        have HM2 := hide (HM.out.below HB2.out)
        obtain ⟨q, hq⟩ : ∃ q, wr.heap.size = q := ⟨_, rfl⟩
        have HQ := hide hq
        rw [hq] at HT2 ⊢
        clear hq
        obtain ⟨bo, hlk0, hb1, hb2⟩ := MapK.look_wf Try.underlying94 zeroB HM2.out HWF.out
        have hlk : (Instr.lookup 94 (.map (some g)) (.int .i64 t.id) false).run Try.prog w2 = .ok (.bool bo) w2 := hlk0
        have HBI := hide hb1
        have HBO := hide hb2
        have c0 : w2.cell? ⟨q, 0, none⟩ = some (.int .i64 t.id) := (blk_cell HT2.out 0).trans rfl
        have c1 : w2.cell? ⟨q, 1, none⟩ = some (.int .i64 t.price) := (blk_cell HT2.out 1).trans rfl
        have c2 : w2.cell? ⟨q, 2, none⟩ = some (.int .i64 t.day) := (blk_cell HT2.out 2).trans rfl
        have c3 : w2.cell? ⟨q, 3, none⟩ = some (.int .i64 t.paid) := (blk_cell HT2.out 3).trans rfl
        have x0 : w2.cell? ⟨w.heap.size, 0, none⟩ = some (.int .i64 x.short) := (blk_cell HX2.out 0).trans rfl
        have x1 : w2.cell? ⟨w.heap.size, 1, none⟩ = some (.int .i64 x.long) := (blk_cell HX2.out 1).trans rfl
        have x2 : w2.cell? ⟨w.heap.size, 2, none⟩ = some (.slice A n c) := (blk_cell HX2.out 2).trans rfl
        have z0 := blk_lt HT2.out
        have z1 := blk_lt HX2.out
        have hbo : bo = ((l.take k).map (·.id)).contains t.id := by
          by_cases hin : 0 ≤ t.id ∧ t.id ≤ 999
          · rw [HBI.out hin.1 hin.2, HSE.out.1 _ hin.1 hin.2]
          · rw [HBO.out hin]
            cases hc : ((l.take k).map (·.id)).contains t.id with
            | false => rfl
            | true => exact absurd (HSE.out.2 _ (by simpa using hc)) hin
        have HBB := hide hbo
        clear hlk0 hb1 hb2 hbo HBI HBO
        obtain ⟨vt, hvt⟩ : ∃ q, G.vTicket x t = q := ⟨_, rfl⟩
        have HVT := hide hvt
        clear hvt
        cases bo
        · cases vt
          · have hr0 : r = false := by rw [← HS.out, ← HBB.out, HVT.out]; rfl
            subst hr0
            go_wp2_with (go_at_call 65; (with_reducible refine (validTicket_any x A n c t _ HN.out hm).mono ?_); rintro e w7 ⟨rfl, hb7⟩; rw [HVT.out]; have HB7 := hide (zbT HB2.out hb7 HB2.out.size); clear hb7)
            go_ret
            exact ⟨rfl, zbT HB1.out HB7.out HB1.out.size⟩
          · have hin := G.vTicket_id HVT.out
            have HS2 := hide (show G.vTicks x ((l.take (k + 1)).map (·.id)) (l.drop (k + 1)) = r by rw [HTK.out, ← HS.out, ← HBB.out, HVT.out]; rfl)
            have HSE2 := hide (show Seen (fun j => if j = t.id then true else F j) ((l.take (k + 1)).map (·.id)) by rw [HTK.out]; exact HSE.out.add hin.1 hin.2)
            have HIN := hide hin
            clear hin
            go_wp2_with (go_at_call 65; (with_reducible refine (validTicket_any x A n c t _ HN.out hm).mono ?_); rintro e w7 ⟨rfl, hb7⟩; rw [HVT.out]; have HM7 := hide (HM2.out.below hb7); have HX7 := bkT hb7 HX2; have HT7 := bkT hb7 HT2; have HB7 := hide (zbT HB2.out hb7 HB2.out.size); clear hb7; (try clear c0 c1 c2 c3 x0 x1 x2 hlk); obtain ⟨w8, hrun8, hm8, hg8⟩ := HM7.out.store Try.underlying94 (by have := HE.out; omega) HIN.out.1 HIN.out.2 true; have hrun9 : (Instr.mapUpdate 94 (.map (some g)) (.int .i64 t.id) (.bool true)).run Try.prog w7 = .ok () w8 := hrun8; have HM8 := hide hm8; have HG8 := hide hg8; have HX8 := bkG hg8 (by have := HGG.out; simp; omega) HX7; clear hrun8 hm8 hg8; have c0 : w7.cell? ⟨q, 0, none⟩ = some (.int .i64 t.id) := (blk_cell HT7.out 0).trans rfl)
            go_roundw
            case rel => exact ⟨k + 1, _, _, e0 + 1, by omega, by go_num, HS2, hide ⟨by have := HE.out; omega, HM8.out⟩, HSE2, HX8, hide ((zbT HB1.out HB7.out HB1.out.size).trans (grown_below HG8.out (Nat.le_trans HB1.out.size HB7.out.size) (fun y hy => by have h1 := Option.some.inj hy; have h2 := HGG.out; omega)))⟩
            case measure => simp [intOf]; omega
        · have hr0 : r = false := by rw [← HS.out, ← HBB.out]; rfl
          subst hr0
          go_wp2_with fail
          go_ret
          exact ⟨rfl, zbT HB1.out HB2.out HB1.out.size⟩
      · have hkm : k = m := by omega
        have hr1 : r = true := by
          have h := HRES.out
          rw [List.drop_of_length_le (by have := HL.out; omega)] at h
          exact h.symm
        subst hr1
        subst hkm
        go_wp2_with fail
        go_ret
        exact ⟨rfl, HB1.out⟩
end Go.Proofs.Ytlpjkolocgkcpaa

namespace Go.Proofs.Ytlpjkolocgkcpaa
open Go.RowKit Go.Maps
attribute [local go_sem ↓] Go.wp_at_zero Go.wp_at_succ

def rowI (xs : List Int) : Array Value := (flatI xs).toArray
theorem rowI_get {xs : List Int} {k : Nat} {x : Int} (h : xs[k]? = some x) : (rowI xs)[k]? = some (.int .i64 x) := by
  unfold rowI
  rw [List.getElem?_toArray]
  exact flatI_at h
theorem rowI_size (xs : List Int) : (rowI xs).size = xs.length := by unfold rowI flatI; simp
theorem rowI_set (xs : List Int) (k : Nat) (v : Int) : (rowI xs).setIfInBounds k (.int .i64 v) = rowI (xs.set k v) := by
  unfold rowI flatI
  rw [List.setIfInBounds_toArray, List.map_set]
theorem rowI_zero (n : Nat) : madeCells #[.int .i64 0] n = rowI (List.replicate n 0) := by
  unfold rowI flatI
  rw [List.map_replicate]
  refine Array.ext_getElem? fun i => ?_
  rcases Nat.lt_or_ge i n with h | h
  · simp [madeCells, h, Nat.mod_one]
  · rw [Array.getElem?_eq_none (by simp [madeCells]; omega), Array.getElem?_eq_none (by simp; omega)]
theorem own_rowI {w : World} {g base : Nat} {xs : List Int} {n : Nat} (hn : xs.length = n) (hm : n ≤ 1000000) (hb : base ≤ g) (h : w.heap[g]? = some (.cells (rowI xs) 3 (0, 0))) : w.ownsRow base 3 1 (.slice (some ⟨g, 0, none⟩) n n) n (flatI xs) :=
  ⟨by rw [flatI_length]; omega, .inr ⟨g, n, _, rfl, hb, h, Nat.le_refl _, by unfold maxLen; omega, by rw [rowI_size]; omega, by unfold rowI; rw [List.take_of_length_le (by simp [flatI_length]; omega)]⟩⟩
theorem run_make_ints (n : Nat) (hn : n ≤ 1000) (W : World) : (Instr.makeSlice 35 (.int .i64 (n : Int)) (.int .i64 (n : Int))).run Try.prog W = .ok (.slice (some ⟨W.heap.size, 0, none⟩) n n) (W.alloc (.cells (rowI (List.replicate n 0)) 3)) := by
  rw [← rowI_zero]
  exact run_make_row' (P := Try.prog) 35 3 (.int .i64 0) 8 Try.underlying35 int_info rfl .i64 .i64 n (by omega) (by omega) W
def IntsPost (xs : List Int) (er : Int) (w : World) (e : Ending) (w' : World) : Prop :=
  ∃ (A : Option Addr) (c : Nat), e = .returned (.tuple #[.slice A xs.length c, .int .i64 er]) ∧ w'.ownsRow w.heap.size 3 1 (.slice A xs.length c) xs.length (flatI xs) ∧ Below w.heap.size w w'
namespace G
theorem vTicks_all {x : Tm} : ∀ {l : List Tk} {seen : List Int}, vTicks x seen l = true → ∀ t ∈ l, vTicket x t = true
  | [], _, _, t, h => by cases h
  | a :: r, seen, hv, t, h => by
    unfold vTicks at hv
    rw [Bool.and_eq_true, Bool.and_eq_true] at hv
    rcases List.mem_cons.1 h with rfl | h
    · exact hv.1.2
    · exact vTicks_all hv.2 t h
structure Tk.V (x : Tm) (t : Tk) : Prop where
  i0 : 0 ≤ t.id
  i1 : t.id ≤ 999
  p0 : 0 ≤ t.price
  p1 : t.price ≤ 1000000
  d0 : 0 ≤ t.day
  d1 : t.day < x.played.length
  q0 : 0 ≤ t.paid
  q1 : t.paid ≤ t.price
theorem vTicket_iff {x : Tm} {t : Tk} : vTicket x t = true ↔ t.V x := by
  unfold vTicket within
  simp only [Bool.and_eq_true, decide_eq_true_eq]
  constructor
  · rintro ⟨⟨⟨⟨a, b⟩, c, d⟩, e, f⟩, g, h⟩
    exact ⟨a, b, c, d, e, by omega, g, h⟩
  · intro h
    exact ⟨⟨⟨⟨h.i0, h.i1⟩, h.p0, h.p1⟩, h.d0, by have := h.d1; omega⟩, h.q0, h.q1⟩
theorem refund_bd {x : Tm} {t : Tk} (h : t.V x) : 0 ≤ refund1 x t ∧ refund1 x t ≤ t.price - t.paid := by
  have h1 := h.p0
  have h2 := h.q0
  have h3 := h.q1
  unfold refund1 due
  split
  · omega
  · split <;> omega
end G
theorem refV_ok {x : G.Tm} {l : List G.Tk} (h1 : G.vTerms x = true) (h2 : G.vTickets x l = true) : G.refundE x l = 0 ∧ G.refundV x l = l.map (G.refund1 x) := by
  have h : G.refundE x l = 0 := by unfold G.refundE; rw [h1, h2]; rfl
  exact ⟨h, by unfold G.refundV; rw [if_pos h]⟩
theorem refV_no {x : G.Tm} {l : List G.Tk} (h : G.vTerms x = false ∨ G.vTickets x l = false) : G.refundE x l = 111 ∧ G.refundV x l = [] := by
  have h : G.refundE x l = 111 := by unfold G.refundE; rcases h with h | h <;> rw [h] <;> simp
  exact ⟨h, by unfold G.refundV; rw [h]; rfl⟩

set_option maxHeartbeats 6400000 in
set_option maxRecDepth 100000 in
theorem Refund_any (x : G.Tm) (A : Option Addr) (n c : Nat) (B : Option Addr) (m d : Nat) (l : List G.Tk) (w : World) (hn : x.played.length = n) (hrp : RdI w w.heap.size A x.played) (hm : n ≤ 1000000) (hl : l.length = m) (hr : RdT w w.heap.size B l) (hid : ∀ t ∈ l, (Lit.int .i64 t.id).wf = true) (hlm : m ≤ 1000000) :
    Calls Try.prog 26 #[.agg #[.int .i64 x.short, .int .i64 x.long, .slice A n c], .slice B m d] w (IntsPost (G.refundV x l) (G.refundE x l) w) := by
  have HN := hide hn
  have HL := hide hl
  have HR := hide hr
  have HRP := hide hrp
  have HID := hide hid
  clear hn hl hr hrp hid
  obtain ⟨b1, hb1⟩ : ∃ q, G.vTerms x = q := ⟨_, rfl⟩
  obtain ⟨b2, hb2⟩ : ∃ q, G.vTickets x l = q := ⟨_, rfl⟩
  have HV1 := hide hb1
  have HV2 := hide hb2
  clear hb1 hb2
  have HA0 := hide (show Below w.heap.size w (w.alloc (.cells #[.int .i64 x.short, .int .i64 x.long, .slice A n c] 48)) from zbA (zbR _ _) (Nat.le_refl _) _)
  have HX0 := hide (show (w.alloc (.cells #[.int .i64 x.short, .int .i64 x.long, .slice A n c] 48)).heap[w.heap.size]? = some (.cells #[.int .i64 x.short, .int .i64 x.long, .slice A n c] 48 (0, 0)) from World.alloc_heap_new _ _)
  obtain ⟨w0, hw0⟩ : ∃ q, w.alloc (.cells #[.int .i64 x.short, .int .i64 x.long, .slice A n c] 48) = q := ⟨_, rfl⟩
  rw [hw0] at HA0 HX0
  have HS0 := hide (show w.heap.size < w0.heap.size from blk_lt HX0.out)
  cases b1
  · obtain ⟨he, hv⟩ := refV_no (l := l) (.inl HV1.out)
    rw [he, hv]
    clear he hv
    go_enter Try.func26, Try.ntmps26
    go_upto_region 1 with fail
    (try rw [hw0])
    clear hw0
    have x0 : w0.cell? ⟨w.heap.size, 0, none⟩ = some (.int .i64 x.short) := (blk_cell HX0.out 0).trans rfl
    have x1 : w0.cell? ⟨w.heap.size, 1, none⟩ = some (.int .i64 x.long) := (blk_cell HX0.out 1).trans rfl
    have x2 : w0.cell? ⟨w.heap.size, 2, none⟩ = some (.slice A n c) := (blk_cell HX0.out 2).trans rfl
    go_wp2_with (go_at_call 49; (with_reducible refine (validTerms_any x A n c _ HN.out ((HRP.out.below HA0.out).mono HA0.out.size) hm).mono ?_); rintro e w1 ⟨rfl, hb1⟩; rw [HV1.out]; have HB1 := hide (zbT HA0.out hb1 HA0.out.size); clear hb1)
    go_ret2
    exact ⟨none, 0, rfl, World.ownsRow_nil _ _ _ _, HB1.out⟩
  · cases b2
    · obtain ⟨he, hv⟩ := refV_no (x := x) (.inr HV2.out)
      rw [he, hv]
      clear he hv
      go_enter Try.func26, Try.ntmps26
      go_upto_region 1 with fail
      (try rw [hw0])
      clear hw0
      have x0 : w0.cell? ⟨w.heap.size, 0, none⟩ = some (.int .i64 x.short) := (blk_cell HX0.out 0).trans rfl
      have x1 : w0.cell? ⟨w.heap.size, 1, none⟩ = some (.int .i64 x.long) := (blk_cell HX0.out 1).trans rfl
      have x2 : w0.cell? ⟨w.heap.size, 2, none⟩ = some (.slice A n c) := (blk_cell HX0.out 2).trans rfl
      go_wp2_with (first | (go_at_call 49; (with_reducible refine (validTerms_any x A n c _ HN.out ((HRP.out.below HA0.out).mono HA0.out.size) hm).mono ?_); rintro e w1 ⟨rfl, hb1⟩; rw [HV1.out]; have HX1 := bkT hb1 HX0; have HB1 := hide (zbT HA0.out hb1 HA0.out.size); clear hb1 x0 x1 x2; have y0 : w1.cell? ⟨w.heap.size, 0, none⟩ = some (.int .i64 x.short) := (blk_cell HX1.out 0).trans rfl; have y1 : w1.cell? ⟨w.heap.size, 1, none⟩ = some (.int .i64 x.long) := (blk_cell HX1.out 1).trans rfl; have y2 : w1.cell? ⟨w.heap.size, 2, none⟩ = some (.slice A n c) := (blk_cell HX1.out 2).trans rfl) | (go_at_call 50; (with_reducible refine (validTickets_any x A n c B m d l _ HN.out hm HL.out ((HR.out.below HB1.out).mono HB1.out.size) HID.out hlm).mono ?_); rintro e w2 ⟨rfl, hb2⟩; rw [HV2.out]; have HB2 := hide (zbT HB1.out hb2 HB1.out.size); clear hb2))
      go_ret2
      exact ⟨none, 0, rfl, World.ownsRow_nil _ _ _ _, HB2.out⟩
    · obtain ⟨he, hv⟩ := refV_ok HV1.out HV2.out
      rw [he, hv]
      clear he hv
      have HTV := hide (fun t (ht : t ∈ l) => G.vTicket_iff.1 (G.vTicks_all (by have h := HV2.out; unfold G.vTickets at h; rw [Bool.and_eq_true] at h; exact h.2) t ht))
      have hm40 : m ≤ 40 := by
        have h := HV2.out
        unfold G.vTickets at h
        rw [Bool.and_eq_true, HL.out, decide_eq_true_eq] at h
        exact h.1
      go_enter Try.func26, Try.ntmps26
      go_upto_region 1 with fail
      (try rw [hw0])
      clear hw0
      have x0 : w0.cell? ⟨w.heap.size, 0, none⟩ = some (.int .i64 x.short) := (blk_cell HX0.out 0).trans rfl
      have x1 : w0.cell? ⟨w.heap.size, 1, none⟩ = some (.int .i64 x.long) := (blk_cell HX0.out 1).trans rfl
      have x2 : w0.cell? ⟨w.heap.size, 2, none⟩ = some (.slice A n c) := (blk_cell HX0.out 2).trans rfl
      have hmk := run_make_ints m (by omega)
      go_upto_region 4 with (first | (go_at_call 49; (with_reducible refine (validTerms_any x A n c _ HN.out ((HRP.out.below HA0.out).mono HA0.out.size) hm).mono ?_); rintro e w1 ⟨rfl, hb1⟩; rw [HV1.out]; have HX1 := bkT hb1 HX0; have HB1 := hide (zbT HA0.out hb1 HA0.out.size); clear hb1 x0 x1 x2; have y0 : w1.cell? ⟨w.heap.size, 0, none⟩ = some (.int .i64 x.short) := (blk_cell HX1.out 0).trans rfl; have y1 : w1.cell? ⟨w.heap.size, 1, none⟩ = some (.int .i64 x.long) := (blk_cell HX1.out 1).trans rfl; have y2 : w1.cell? ⟨w.heap.size, 2, none⟩ = some (.slice A n c) := (blk_cell HX1.out 2).trans rfl) | (go_at_call 50; (with_reducible refine (validTickets_any x A n c B m d l _ HN.out hm HL.out ((HR.out.below HB1.out).mono HB1.out.size) HID.out hlm).mono ?_); rintro e w2 ⟨rfl, hb2⟩; rw [HV2.out]; have HX2 := bkT hb2 HX1; have HB2 := hide (zbT HB1.out hb2 HB1.out.size); clear hb2))
      clear hmk
      (try clear y0 y1 y2)
      refine cap_w (M := Code.wp _ _ _ _) _ (fun w3 hw3 => ?_)
      have HB3 := hide (show Below w.heap.size w w3 by rw [hw3]; exact zbA HB2.out HB2.out.size _)
      have HX3 := hide (show w3.heap[w.heap.size]? = some (.cells #[.int .i64 x.short, .int .i64 x.long, .slice A n c] 48 (0, 0)) by rw [hw3]; exact (Below.heap_alloc _ _ _ (blk_lt HX2.out)).trans HX2.out)
      have HG3 := hide (show w3.heap[w2.heap.size]? = some (.cells (rowI (List.replicate m 0)) 3 (0, 0)) by rw [hw3]; exact World.alloc_heap_new _ _)
      clear hw3
      obtain ⟨g, hg⟩ : ∃ q, w2.heap.size = q := ⟨_, rfl⟩
      have HGL := hide (show w.heap.size < g by rw [← hg]; exact blk_lt HX2.out)
      rw [hg] at HG3 ⊢
      clear hg
      go_wp2_with fail
      go_loopw [7, 8, 23] (fun v7 v8 i wr => ∃ k : Nat, k ≤ m ∧ i = .int .i64 k ∧ Hid (wr.heap[g]? = some (.cells (rowI ((l.take k).map (G.refund1 x) ++ List.replicate (m - k) 0)) 3 (0, 0))) ∧ Hid (wr.heap[w.heap.size]? = some (.cells #[.int .i64 x.short, .int .i64 x.long, .slice A n c] 48 (0, 0))) ∧ Hid (Below w.heap.size w wr)) (fun _ _ i _ => m - (intOf i).toNat)
      case atStart => exact ⟨0, by omega, rfl, HG3, HX3, HB3⟩
      case round =>
        clear HG3 HX3 HB3
        obtain ⟨k, hk, rfl, HG, HX, HB⟩ := hrel
        by_cases hlt : k < m
        · obtain ⟨t, ht⟩ : ∃ q, l[k]? = some q := ⟨_, List.getElem?_eq_getElem (by have := HL.out; omega)⟩
          obtain ⟨b, o, hB, hbB, d0, d1, d2, d3⟩ := (HR.out.below HB.out) k t ht
          subst hB
          have hlt' : (k : Int) < (m : Int) := by omega
          have hk0 : (0 : Int) ≤ (k : Int) := by omega
          have hbr : b < wr.heap.size := Nat.lt_of_lt_of_le hbB HB.out.size
          have HT := hide (HTV.out t (List.mem_of_getElem? ht))
          have HTK := hide (show ((l.take k).map (G.refund1 x) ++ List.replicate (m - k) 0).set k (G.refund1 x t) = (l.take (k + 1)).map (G.refund1 x) ++ List.replicate (m - (k + 1)) 0 by
            have hlen : ((l.take k).map (G.refund1 x)).length = k := by rw [List.length_map, List.length_take]; have := HL.out; omega
            rw [List.set_append_right _ _ (by omega), hlen, Nat.sub_self, List.take_add_one, ht, show m - k = (m - (k + 1)) + 1 by omega, List.replicate_succ]
            simp)
          have hlen : ((l.take k).map (G.refund1 x) ++ List.replicate (m - k) 0).length = m := by rw [List.length_append, List.length_map, List.length_take, List.length_replicate]; have := HL.out; omega
          clear ht
          go_upto_region 7 with fail
          refine cap_w (M := Code.wp _ _ _ _) _ (fun w4 hw4 => ?_)
          have HB4 := hide (show Below wr.heap.size wr w4 by rw [hw4]; exact zbA (zbR _ _) (Nat.le_refl _) _)
          have HT4 := hide (show w4.heap[wr.heap.size]? = some (.cells #[.int .i64 t.id, .int .i64 t.price, .int .i64 t.day, .int .i64 t.paid] 61 (0, 0)) by rw [hw4]; exact World.alloc_heap_new _ _)
          clear hw4 d0 d1 d2 d3
          have HX4 := bkT HB4.out HX
          have HG4 := bkT HB4.out HG
          have HBW4 := hide (zbT HB.out HB4.out HB.out.size)
          obtain ⟨q, hq⟩ : ∃ q, wr.heap.size = q := ⟨_, rfl⟩
          rw [hq] at HT4 ⊢
          clear hq
          have c0 : w4.cell? ⟨q, 0, none⟩ = some (.int .i64 t.id) := (blk_cell HT4.out 0).trans rfl
          have c1 : w4.cell? ⟨q, 1, none⟩ = some (.int .i64 t.price) := (blk_cell HT4.out 1).trans rfl
          have c2 : w4.cell? ⟨q, 2, none⟩ = some (.int .i64 t.day) := (blk_cell HT4.out 2).trans rfl
          have c3 : w4.cell? ⟨q, 3, none⟩ = some (.int .i64 t.paid) := (blk_cell HT4.out 3).trans rfl
          have x0 : w4.cell? ⟨w.heap.size, 0, none⟩ = some (.int .i64 x.short) := (blk_cell HX4.out 0).trans rfl
          have x1 : w4.cell? ⟨w.heap.size, 1, none⟩ = some (.int .i64 x.long) := (blk_cell HX4.out 1).trans rfl
          have x2 : w4.cell? ⟨w.heap.size, 2, none⟩ = some (.slice A n c) := (blk_cell HX4.out 2).trans rfl
          obtain ⟨old, hold⟩ : ∃ old, ((l.take k).map (G.refund1 x) ++ List.replicate (m - k) 0)[k]? = some old := ⟨_, List.getElem?_eq_getElem (by omega)⟩
          have HOLD := hide hold
          clear hold hlen
          go_wp2_with (go_at_call 51; (with_reducible refine (refund_any x A n c t _ HN.out ((HRP.out.below HBW4.out).mono HBW4.out.size) hm HT.out.d0 (by have h1 := HT.out.d1; have h2 := HN.out; omega) HT.out.p0 HT.out.p1 HT.out.q0 (by have h1 := HT.out.q1; have h2 := HT.out.p1; omega)).mono ?_); rintro e w5 ⟨rfl, hb5⟩; have HX5 := bkT hb5 HX4; have HG5 := bkT hb5 HG4; have HB5 := hide (zbT HBW4.out hb5 HBW4.out.size); clear hb5 c0 c1 c2 c3 x0 x1 x2; have g0 : w5.cell? ⟨g, k, none⟩ = some (.int .i64 old) := (blk_cell HG5.out k).trans (rowI_get HOLD.out); have g1 := blk_frozen HG5.out k; have g2 := blk_lt HG5.out)
          go_roundw
          case rel => exact ⟨k + 1, by omega, by go_num, hide (by rw [← HTK.out, ← rowI_set]; exact blk_set HG5.out k _), hide (blk_other HX5.out (by have := HGL.out; omega) k _), hide (zbS HB5.out (Nat.le_of_lt HGL.out) _)⟩
          case measure => simp [intOf]; omega
        · have hkm : k = m := by omega
          have HG' := hide (show wr.heap[g]? = some (.cells (rowI (l.map (G.refund1 x))) 3 (0, 0)) by
            have h := HG.out
            rw [hkm, List.take_of_length_le (by have := HL.out; omega), Nat.sub_self, List.replicate_zero, List.append_nil] at h
            exact h)
          clear HG
          subst hkm
          have HLM := hide (show (l.map (G.refund1 x)).length = k by rw [List.length_map]; exact HL.out)
          go_wp2_with fail
          go_ret2
          unfold IntsPost
          rw [HLM.out]
          exact ⟨some ⟨g, 0, none⟩, k, rfl, own_rowI HLM.out (by omega) (Nat.le_of_lt HGL.out) HG'.out, HB.out⟩

theorem sum_bd {l : List Int} (h : ∀ x ∈ l, 0 ≤ x ∧ x ≤ 1000000) : 0 ≤ l.sum ∧ l.sum ≤ 1000000 * l.length := by
  induction l with
  | nil => simp
  | cons a r ih =>
    have h1 := h a (List.mem_cons_self ..)
    have h2 := ih (fun x hx => h x (List.mem_cons_of_mem _ hx))
    rw [List.sum_cons, List.length_cons]
    omega
theorem sum_take {l : List Int} {k : Nat} {x : Int} (h : l[k]? = some x) : (l.take (k + 1)).sum = (l.take k).sum + x := by
  rw [List.take_add_one, h]
  simp
set_option maxHeartbeats 6400000 in
set_option maxRecDepth 100000 in
theorem Total_any (x : G.Tm) (A : Option Addr) (n c : Nat) (B : Option Addr) (m d : Nat) (l : List G.Tk) (w : World) (hn : x.played.length = n) (hrp : RdI w w.heap.size A x.played) (hm : n ≤ 1000000) (hl : l.length = m) (hr : RdT w w.heap.size B l) (hid : ∀ t ∈ l, (Lit.int .i64 t.id).wf = true) (hlm : m ≤ 1000000) :
    Calls Try.prog 28 #[.agg #[.int .i64 x.short, .int .i64 x.long, .slice A n c], .slice B m d] w fun e w' => e = .returned (.tuple #[.int .i64 (G.totalV x l), .int .i64 (G.refundE x l)]) ∧ Below w.heap.size w w' := by
  have HRF := fun (W : World) (h : Below w.heap.size w W) => hide (Refund_any x A n c B m d l W hn ((hrp.below h).mono h.size) hm hl ((hr.below h).mono h.size) hid hlm)
  have hvb : ∀ v ∈ G.refundV x l, 0 ≤ v ∧ v ≤ 1000000 := by
    intro v hv
    unfold G.refundV at hv
    split at hv
    · rename_i he
      unfold G.refundE at he
      split at he
      · rename_i hq
        rw [Bool.and_eq_true] at hq
        obtain ⟨t, ht, rfl⟩ := List.mem_map.1 hv
        have h1 := G.vTicket_iff.1 (G.vTicks_all (by have h := hq.2; unfold G.vTickets at h; rw [Bool.and_eq_true] at h; exact h.2) t ht)
        have h2 := G.refund_bd h1
        have h3 := h1.p1
        have h4 := h1.q0
        omega
      · omega
    · cases hv
  have hvl : (G.refundV x l).length ≤ 1000000 := by
    unfold G.refundV
    split
    · rw [List.length_map]; omega
    · simp
  unfold G.totalV
  obtain ⟨vs, hvs⟩ : ∃ q, G.refundV x l = q := ⟨_, rfl⟩
  obtain ⟨er, her⟩ : ∃ q, G.refundE x l = q := ⟨_, rfl⟩
  have HER := hide (show er ≠ 0 → vs = [] by intro h; rw [← hvs]; unfold G.refundV; rw [her, if_neg h])
  rw [hvs, her] at HRF
  rw [hvs] at hvb hvl
  rw [hvs, her]
  have HVB := hide hvb
  clear hvs her hvb hn hrp hl hr hid
  go_enter Try.func28, Try.ntmps28
  by_cases h0 : er = 0
  · subst h0
    go_upto_region 4 with (go_at_call 26; (with_reducible refine (HRF _ (by (repeat' first | exact zbR _ _ | assumption | refine zbD ?_ | refine zbA ?_ ?_ _ | refine zbS ?_ ?_ _ | refine zbT ?_ (by assumption) ?_ | (simp; done) | (simp; omega) | omega))).out.mono ?_); rintro e w1 ⟨A1, c1, rfl, ho, hb⟩; have HO := hide ho; have HB := hide (zbT (zbA (zbR w.heap.size w) (Nat.le_refl _) _) hb (by simp)); clear ho hb)
    have HRD := hide (owns_RdI HO.out rfl)
    obtain ⟨m1, hm1⟩ : ∃ q, vs.length = q := ⟨_, rfl⟩
    have HM1 := hide hm1
    rw [hm1] at hvl ⊢
    clear hm1 HRF HER
    go_wp2_with fail
    go_loopw [8, 10, 22] (fun v8 _ i wr => ∃ k : Nat, k ≤ m1 ∧ i = .int .i64 k ∧ v8 = .int .i64 (vs.take k).sum ∧ wr = w1) (fun _ _ i _ => m1 - (intOf i).toNat)
    case atStart => exact ⟨0, by omega, rfl, rfl, rfl⟩
    case round =>
      obtain ⟨k, hk, rfl, rfl, hwr⟩ := hrel
      subst hwr
      have hsb := sum_bd (l := vs.take k) (fun v hv => HVB.out v (List.mem_of_mem_take hv))
      have hsl : (vs.take k).length ≤ 1000000 := by rw [List.length_take]; omega
      have hs0 : 0 ≤ (vs.take k).sum := hsb.1
      have hs1 : (vs.take k).sum ≤ 1000000000000 := by omega
      clear hsb hsl
      by_cases hlt : k < m1
      · obtain ⟨v, hv⟩ : ∃ q, vs[k]? = some q := ⟨_, List.getElem?_eq_getElem (by have := HM1.out; omega)⟩
        obtain ⟨b, o, hA, hbB, d0⟩ := HRD.out k v hv
        subst hA
        have hlt' : (k : Int) < (m1 : Int) := by omega
        have hk0 : (0 : Int) ≤ (k : Int) := by omega
        have hv0 : 0 ≤ v := (HVB.out v (List.mem_of_getElem? hv)).1
        have hv1 : v ≤ 1000000 := (HVB.out v (List.mem_of_getElem? hv)).2
        have HST := hide (sum_take hv)
        clear hv
        go_wp2_with fail
        go_roundw
        case rel => exact ⟨k + 1, by omega, by go_num, by rw [HST.out], by first | rfl | trivial⟩
        case measure => simp [intOf]; omega
      · have hkm : k = m1 := by omega
        have HSS := hide (show (vs.take k).sum = vs.sum by rw [List.take_of_length_le (by have := HM1.out; omega)])
        subst hkm
        go_wp2_with fail
        go_ret2
        exact ⟨by rw [← HSS.out]; rfl, HB.out⟩
  · have h1 : (er != 0) = true := by simpa using h0
    have h2 : (er == 0) = false := by simpa using h0
    have hv0 := HER.out h0
    subst hv0
    clear HER h0
    go_wp2_with (go_at_call 26; (with_reducible refine (HRF _ (by (repeat' first | exact zbR _ _ | assumption | refine zbD ?_ | refine zbA ?_ ?_ _ | refine zbS ?_ ?_ _ | refine zbT ?_ (by assumption) ?_ | (simp; done) | (simp; omega) | omega))).out.mono ?_); rintro e w1 ⟨A1, c1, rfl, ho, hb⟩; have HB := hide (zbT (zbA (zbR w.heap.size w) (Nat.le_refl _) _) hb (by simp)); clear ho hb)
    go_ret2
    exact ⟨rfl, HB.out⟩
end Go.Proofs.Ytlpjkolocgkcpaa

namespace Go.Proofs.Ytlpjkolocgkcpaa
open Go.RowKit
attribute [local go_sem ↓] Go.wp_at_zero Go.wp_at_succ

structure QIn (w : World) (q : G.Qu) (A : Option Addr) (n c : Nat) (F : Option Addr) (m d : Nat) : Prop where
  gl : q.gs.length = n
  fl : q.fs.length = m
  n1 : n ≤ 1000000
  m1 : m ≤ 1000000
  rg : RdG w w.heap.size A q.gs
  rf : RdF w w.heap.size F q.fs
  a : ∀ b o, A = some ⟨b, o, none⟩ → b < w.heap.size
  f : F = none → d = 0
  id : ∀ p ∈ q.gs, (Lit.int .i64 p.id).wf = true
theorem QIn.below {w w' : World} {q : G.Qu} {A : Option Addr} {n c : Nat} {F : Option Addr} {m d : Nat} (h : QIn w q A n c F m d) (hb : Below w.heap.size w w') : QIn w' q A n c F m d :=
  ⟨h.gl, h.fl, h.n1, h.m1, (h.rg.below hb).mono hb.size, (h.rf.below hb).mono hb.size, fun b o e => Nat.lt_of_lt_of_le (h.a b o e) hb.size, h.f, h.id⟩
theorem within_ref (n lo hi : Int) (w : World) :
    Calls Try.prog 37 #[.int .i64 n, .int .i64 lo, .int .i64 hi] w fun e w' => e = .returned (.bool (G.within n lo hi)) ∧ w = w' := by
  by_cases h1 : lo ≤ n <;> by_cases h2 : n ≤ hi <;>
    (go_enter Try.func37, Try.ntmps37
     go_wp2
     go_ret
     exact ⟨by simp [G.within, h1, h2], rfl⟩)

end Go.Proofs.Ytlpjkolocgkcpaa

namespace Go.Proofs.Ytlpjkolocgkcpaa
open Go.RowKit
attribute [local go_sem ↓] Go.wp_at_zero Go.wp_at_succ

set_option maxHeartbeats 6400000 in
set_option maxRecDepth 100000 in
theorem CheckTickets_ref (x : G.Tm) (A : Option Addr) (n c : Nat) (B : Option Addr) (m d : Nat) (l : List G.Tk) (w : World) (hn : x.played.length = n) (hrp : RdI w w.heap.size A x.played) (hm : n ≤ 1000000) (hl : l.length = m) (hr : RdT w w.heap.size B l) (hlm : m ≤ 1000000) :
    Calls Try.prog 34 #[.agg #[.int .i64 x.short, .int .i64 x.long, .slice A n c], .slice B m d] w fun e w' => e = .returned (.int .i64 (G.refundE x l)) ∧ Below w.heap.size w w' := by
  have HN := hide hn
  have HL := hide hl
  have HRP := hide hrp
  have HR := hide hr
  clear hn hl hrp hr
  cases h1 : G.within (x.long) (0) (1440)
  · have H1 := hide h1
    clear h1
    have HC := hide (show G.refundE x l = 111 by unfold G.refundE G.vTerms G.vTickets G.vMin; simp [H1.out])
    go_enter Try.func34, Try.ntmps34
    go_wp2_with (go_at_call 37; (with_reducible refine (within_ref (x.long) (0) (1440) _).mono ?_); rintro e w' ⟨rfl, rfl⟩; rw [H1.out])
    go_ret
    exact ⟨by rw [HC.out]; rfl, by (repeat' first | exact zbR _ _ | assumption | refine zbD ?_ | refine zbA ?_ ?_ _ | refine zbS ?_ ?_ _ | refine zbT ?_ (by assumption) ?_ | (simp; done) | (simp; omega) | omega)⟩
  · have H1 := hide h1
    clear h1
    cases h2 : G.within (x.short) (0) (x.long)
    · have H2 := hide h2
      clear h2
      have HC := hide (show G.refundE x l = 111 by unfold G.refundE G.vTerms G.vTickets G.vMin; simp [H2.out])
      go_enter Try.func34, Try.ntmps34
      go_wp2_with (first | (go_at_call 37; (with_reducible refine (within_ref (x.long) (0) (1440) _).mono ?_); rintro e w' ⟨rfl, rfl⟩; rw [H1.out]) | (go_at_call 37; (with_reducible refine (within_ref (x.short) (0) (x.long) _).mono ?_); rintro e w' ⟨rfl, rfl⟩; rw [H2.out]))
      go_ret
      exact ⟨by rw [HC.out]; rfl, by (repeat' first | exact zbR _ _ | assumption | refine zbD ?_ | refine zbA ?_ ?_ _ | refine zbS ?_ ?_ _ | refine zbT ?_ (by assumption) ?_ | (simp; done) | (simp; omega) | omega)⟩
    · have H2 := hide h2
      clear h2
      by_cases h3 : (30 : Int) < (n : Int)
      · have h3' : (30 : Int) < (n : Int) := by omega
        have HC := hide (show G.refundE x l = 111 by unfold G.refundE G.vTerms G.vTickets G.vMin; simp [HN.out, show ¬ (n ≤ 30) by omega])
        go_enter Try.func34, Try.ntmps34
        go_wp2_with (first | (go_at_call 37; (with_reducible refine (within_ref (x.long) (0) (1440) _).mono ?_); rintro e w' ⟨rfl, rfl⟩; rw [H1.out]) | (go_at_call 37; (with_reducible refine (within_ref (x.short) (0) (x.long) _).mono ?_); rintro e w' ⟨rfl, rfl⟩; rw [H2.out]))
        go_ret
        exact ⟨by rw [HC.out]; rfl, by (repeat' first | exact zbR _ _ | assumption | refine zbD ?_ | refine zbA ?_ ?_ _ | refine zbS ?_ ?_ _ | refine zbT ?_ (by assumption) ?_ | (simp; done) | (simp; omega) | omega)⟩
      · have h3' : (n : Int) ≤ 30 := by omega
        by_cases h4 : (40 : Int) < (m : Int)
        · have h4' : (40 : Int) < (m : Int) := by omega
          have HC := hide (show G.refundE x l = 111 by unfold G.refundE G.vTerms G.vTickets G.vMin; simp [HL.out, show ¬ (m ≤ 40) by omega])
          go_enter Try.func34, Try.ntmps34
          go_wp2_with (first | (go_at_call 37; (with_reducible refine (within_ref (x.long) (0) (1440) _).mono ?_); rintro e w' ⟨rfl, rfl⟩; rw [H1.out]) | (go_at_call 37; (with_reducible refine (within_ref (x.short) (0) (x.long) _).mono ?_); rintro e w' ⟨rfl, rfl⟩; rw [H2.out]))
          go_ret
          exact ⟨by rw [HC.out]; rfl, by (repeat' first | exact zbR _ _ | assumption | refine zbD ?_ | refine zbA ?_ ?_ _ | refine zbS ?_ ?_ _ | refine zbT ?_ (by assumption) ?_ | (simp; done) | (simp; omega) | omega)⟩
        · have h4' : (m : Int) ≤ 40 := by omega
          have HE := hide (show G.refundE x l = if x.played.all G.vMin && G.vTicks x [] l then 0 else 111 by unfold G.refundE G.vTerms G.vTickets; rw [show G.vMin x.long = true from H1.out, H2.out, HN.out, HL.out]; simp [show n ≤ 30 by omega, show m ≤ 40 by omega])
          have hn30 : n ≤ 30 := by omega
          have hm40 : m ≤ 40 := by omega
          go_enter Try.func34, Try.ntmps34
          go_wp2_with (first | (go_at_call 37; (with_reducible refine (within_ref (x.long) (0) (1440) _).mono ?_); rintro e w' ⟨rfl, rfl⟩; rw [H1.out]) | (go_at_call 37; (with_reducible refine (within_ref (x.short) (0) (x.long) _).mono ?_); rintro e w' ⟨rfl, rfl⟩; rw [H2.out]))
          refine cap_w (M := Code.wp _ _ _ _) _ (fun w1 hw1 => ?_)
          have HB1 := hide (show Below w.heap.size w w1 by rw [hw1]; (repeat' first | exact zbR _ _ | assumption | refine zbD ?_ | refine zbA ?_ ?_ _ | refine zbS ?_ ?_ _ | refine zbT ?_ (by assumption) ?_ | (simp; done) | (simp; omega) | omega))
          have HQ := hide (show w1.heap[w.heap.size]? = some (.cells #[.int .i64 x.short, .int .i64 x.long, .slice A n c] 48 (0, 0)) by rw [hw1]; exact World.alloc_heap_new _ _)
          have HRP1 := hide ((HRP.out.below HB1.out).mono HB1.out.size)
          have HR1 := hide ((HR.out.below HB1.out).mono HB1.out.size)
          clear hw1 h3 h3' h4 h4'
          obtain ⟨b0, hb0⟩ : ∃ x, w.heap.size = x := ⟨_, rfl⟩
          have HE0 := hide hb0
          rw [hb0] at HQ ⊢
          clear hb0
          go_loopw [5] (fun i wr => ∃ k : Nat, k ≤ n ∧ i = .int .i64 k ∧ Hid (∀ y ∈ x.played.take k, G.vMin y = true) ∧ Hid (Below w1.heap.size w1 wr)) (fun i _ => n - (intOf i).toNat)
          case atStart => exact ⟨0, by omega, rfl, hide (fun y hy => by simp at hy), hide (Below.refl _ _)⟩
          case round =>
            obtain ⟨k, hk, rfl, HAL, HBr⟩ := hrel
            have HQr := bkT HBr.out HQ
            have x2 : wr.cell? ⟨b0, 2, none⟩ = some (.slice A n c) := (blk_cell HQr.out 2).trans rfl
            have lx := blk_lt HQr.out
            by_cases hlt : k < n
            · obtain ⟨v, hv⟩ : ∃ v, x.played[k]? = some v := ⟨_, List.getElem?_eq_getElem (by have := HN.out; omega)⟩
              obtain ⟨bg, og, rfl, hbg, d0⟩ := (HRP1.out.below HBr.out) k v hv
              have hlt' : (k : Int) < (n : Int) := by omega
              have hk0 : (0 : Int) ≤ (k : Int) := by omega
              have HV := hide hv
              clear hv
              cases ha : G.within (v) (0) (1440)
              · have Ha := hide ha
                clear ha
                have HBAD := hide (show x.played.all G.vMin = false by rw [List.all_eq_false]; exact ⟨v, List.mem_of_getElem? HV.out, by unfold G.vMin; simp [Ha.out]⟩)
                go_wp2_with (go_at_call 37; (with_reducible refine (within_ref (v) (0) (1440) _).mono ?_); rintro e w' ⟨rfl, rfl⟩; rw [Ha.out])
                go_ret
                exact ⟨by rw [HE.out, HBAD.out]; first | rfl | (rw [Bool.and_false]; rfl), zbT HB1.out (zbT HBr.out (by (repeat' first | exact zbR _ _ | assumption | refine zbD ?_ | refine zbA ?_ ?_ _ | refine zbS ?_ ?_ _ | refine zbT ?_ (by assumption) ?_ | (simp; done) | (simp; omega) | omega)) HBr.out.size) HB1.out.size⟩
              · have Ha := hide ha
                clear ha
                go_wp2_with (go_at_call 37; (with_reducible refine (within_ref (v) (0) (1440) _).mono ?_); rintro e w' ⟨rfl, rfl⟩; rw [Ha.out])
                go_roundw
                case rel =>
                  refine ⟨k + 1, by omega, by go_num, hide (fun z hz => ?_), hide (zbT HBr.out (by (repeat' first | exact zbR _ _ | assumption | refine zbD ?_ | refine zbA ?_ ?_ _ | refine zbS ?_ ?_ _ | refine zbT ?_ (by assumption) ?_ | (simp; done) | (simp; omega) | omega)) HBr.out.size)⟩
                  rw [List.take_add_one, HV.out] at hz
                  rcases List.mem_append.1 hz with hz | hz
                  · exact HAL.out z hz
                  · obtain rfl : z = v := by simpa using hz
                    exact Ha.out
                case measure => simp [intOf]; omega
            · have hkn : k = n := by omega
              subst hkn
              have HAN := hide (show x.played.all G.vMin = true by
                rw [List.all_eq_true]
                have h := HAL.out
                rw [List.take_of_length_le (by have := HN.out; omega)] at h
                exact h)
              have HB3 := HBr
              clear HBr HAL hlt hk
              obtain ⟨n, hnn⟩ : ∃ n, n = k := ⟨_, rfl⟩
              subst hnn
              go_wp2_with fail
              obtain ⟨w3, hw3⟩ : ∃ x, wr = x := ⟨_, rfl⟩
              rw [hw3] at HB3 HQr ⊢
              clear hw3 x2 lx
              go_loopw [6] (fun i wr => ∃ k : Nat, k ≤ m ∧ i = .int .i64 k ∧ Hid (G.vTicks x ((l.take k).map (·.id)) (l.drop k) = G.vTicks x [] l) ∧ Hid (Below w3.heap.size w3 wr)) (fun i _ => m - (intOf i).toNat)
              case atStart => exact ⟨0, by omega, rfl, hide rfl, hide (Below.refl _ _)⟩
              case round =>
                obtain ⟨k, hk, rfl, HV, HBr⟩ := hrel
                have HQs := bkT HBr.out HQr
                have hnw : IntKind.i64.wrap ((n : Int) - 1) = (n : Int) - 1 := IntWalk.i64_in _ (by omega)
                have hn1 : (0 : Int) ≤ (n : Int) := by omega
                by_cases hlt : k < m
                · obtain ⟨t, ht⟩ : ∃ t, l[k]? = some t := ⟨_, List.getElem?_eq_getElem (by have := HL.out; omega)⟩
                  obtain ⟨bg, og, rfl, hbg, d0, d1, d2, d3⟩ := ((HR1.out.below HB3.out).below (HBr.out.mono HB3.out.size)) k t ht
                  have hlt' : (k : Int) < (m : Int) := by omega
                  have hk0 : (0 : Int) ≤ (k : Int) := by omega
                  have hbr : bg < wr.heap.size := Nat.lt_of_lt_of_le hbg (Nat.le_trans HB3.out.size HBr.out.size)
                  have HS := hide (G.vTicks_step (x := x) (seen := (l.take k).map (·.id)) ht)
                  have HTK := hide (show (l.take (k + 1)).map (·.id) = (l.take k).map (·.id) ++ [t.id] by rw [List.take_add_one, ht]; simp)
                  clear ht
                  go_upto_region 12 with fail
                  refine cap_w (M := Code.wp _ _ _ _) _ (fun w2 hw2 => ?_)
                  have HB2 := hide (show Below wr.heap.size wr w2 by rw [hw2]; exact zbA (zbR _ _) (Nat.le_refl _) _)
                  have HT2 := hide (show w2.heap[wr.heap.size]? = some (.cells #[.int .i64 t.id, .int .i64 t.price, .int .i64 t.day, .int .i64 t.paid] 61 (0, 0)) by rw [hw2]; exact World.alloc_heap_new _ _)
                  clear hw2 d0 d1 d2 d3
                  have HQ2 := bkT HB2.out HQs
                  have HR2 := hide (((((HR1.out.below HB3.out).mono HB3.out.size).below HBr.out).below (HB2.out.mono HBr.out.size)).mono (Nat.le_trans HBr.out.size HB2.out.size))
                  obtain ⟨g, hg⟩ : ∃ g, wr.heap.size = g := ⟨_, rfl⟩
                  have HG := hide hg
                  rw [hg] at HT2 ⊢
                  clear hg
                  have x2 : w2.cell? ⟨b0, 2, none⟩ = some (.slice A n c) := (blk_cell HQ2.out 2).trans rfl
                  have lx := blk_lt HQ2.out
                  have c0 : w2.cell? ⟨g, 0, none⟩ = some (.int .i64 t.id) := (blk_cell HT2.out 0).trans rfl
                  have c1 : w2.cell? ⟨g, 1, none⟩ = some (.int .i64 t.price) := (blk_cell HT2.out 1).trans rfl
                  have c2 : w2.cell? ⟨g, 2, none⟩ = some (.int .i64 t.day) := (blk_cell HT2.out 2).trans rfl
                  have c3 : w2.cell? ⟨g, 3, none⟩ = some (.int .i64 t.paid) := (blk_cell HT2.out 3).trans rfl
                  have lg := blk_lt HT2.out
                  cases ha : G.within (t.id) (0) (999)
                  · have Ha := hide ha
                    clear ha
                    have HBAD := hide (show G.vTicks x [] l = false by rw [← HV.out, HS.out]; unfold G.vTicket; rw [HN.out]; simp [Ha.out])
                    go_wp2_with (go_at_call 37; (with_reducible refine (within_ref (t.id) (0) (999) _).mono ?_); rintro e w' ⟨rfl, rfl⟩; rw [Ha.out])
                    go_ret
                    exact ⟨by rw [HE.out, HBAD.out]; first | rfl | (rw [Bool.and_false]; rfl), zbT HB1.out (zbT HB3.out (zbT HBr.out HB2.out HBr.out.size) HB3.out.size) HB1.out.size⟩
                  · have Ha := hide ha
                    clear ha
                    cases hb : G.within (t.price) (0) (1000000)
                    · have Hb := hide hb
                      clear hb
                      have HBAD := hide (show G.vTicks x [] l = false by rw [← HV.out, HS.out]; unfold G.vTicket; rw [HN.out]; simp [Hb.out])
                      go_wp2_with (first | (go_at_call 37; (with_reducible refine (within_ref (t.id) (0) (999) _).mono ?_); rintro e w' ⟨rfl, rfl⟩; rw [Ha.out]) | (go_at_call 37; (with_reducible refine (within_ref (t.price) (0) (1000000) _).mono ?_); rintro e w' ⟨rfl, rfl⟩; rw [Hb.out]))
                      go_ret
                      exact ⟨by rw [HE.out, HBAD.out]; first | rfl | (rw [Bool.and_false]; rfl), zbT HB1.out (zbT HB3.out (zbT HBr.out HB2.out HBr.out.size) HB3.out.size) HB1.out.size⟩
                    · have Hb := hide hb
                      clear hb
                      cases hc : G.within (t.day) (0) ((n : Int) - 1)
                      · have Hc := hide hc
                        clear hc
                        have HBAD := hide (show G.vTicks x [] l = false by rw [← HV.out, HS.out]; unfold G.vTicket; rw [HN.out]; simp [Hc.out])
                        go_wp2_with (first | (go_at_call 37; (with_reducible refine (within_ref (t.id) (0) (999) _).mono ?_); rintro e w' ⟨rfl, rfl⟩; rw [Ha.out]) | (go_at_call 37; (with_reducible refine (within_ref (t.price) (0) (1000000) _).mono ?_); rintro e w' ⟨rfl, rfl⟩; rw [Hb.out]) | (go_at_call 37; (with_reducible refine (within_ref (t.day) (0) ((n : Int) - 1) _).mono ?_); rintro e w' ⟨rfl, rfl⟩; rw [Hc.out]))
                        go_ret
                        exact ⟨by rw [HE.out, HBAD.out]; first | rfl | (rw [Bool.and_false]; rfl), zbT HB1.out (zbT HB3.out (zbT HBr.out HB2.out HBr.out.size) HB3.out.size) HB1.out.size⟩
                      · have Hc := hide hc
                        clear hc
                        cases hd : G.within (t.paid) (0) (t.price)
                        · have Hd := hide hd
                          clear hd
                          have HBAD := hide (show G.vTicks x [] l = false by rw [← HV.out, HS.out]; unfold G.vTicket; rw [HN.out]; simp [Hd.out])
                          go_wp2_with (first | (go_at_call 37; (with_reducible refine (within_ref (t.id) (0) (999) _).mono ?_); rintro e w' ⟨rfl, rfl⟩; rw [Ha.out]) | (go_at_call 37; (with_reducible refine (within_ref (t.price) (0) (1000000) _).mono ?_); rintro e w' ⟨rfl, rfl⟩; rw [Hb.out]) | (go_at_call 37; (with_reducible refine (within_ref (t.day) (0) ((n : Int) - 1) _).mono ?_); rintro e w' ⟨rfl, rfl⟩; rw [Hc.out]) | (go_at_call 37; (with_reducible refine (within_ref (t.paid) (0) (t.price) _).mono ?_); rintro e w' ⟨rfl, rfl⟩; rw [Hd.out]))
                          go_ret
                          exact ⟨by rw [HE.out, HBAD.out]; first | rfl | (rw [Bool.and_false]; rfl), zbT HB1.out (zbT HB3.out (zbT HBr.out HB2.out HBr.out.size) HB3.out.size) HB1.out.size⟩
                        · have Hd := hide hd
                          clear hd
                          have HVP := hide (show G.vTicket x t = true by unfold G.vTicket; rw [HN.out, Ha.out, Hb.out, Hc.out, Hd.out]; rfl)
                          go_wp2_with (first | (go_at_call 37; (with_reducible refine (within_ref (t.id) (0) (999) _).mono ?_); rintro e w' ⟨rfl, rfl⟩; rw [Ha.out]) | (go_at_call 37; (with_reducible refine (within_ref (t.price) (0) (1000000) _).mono ?_); rintro e w' ⟨rfl, rfl⟩; rw [Hb.out]) | (go_at_call 37; (with_reducible refine (within_ref (t.day) (0) ((n : Int) - 1) _).mono ?_); rintro e w' ⟨rfl, rfl⟩; rw [Hc.out]) | (go_at_call 37; (with_reducible refine (within_ref (t.paid) (0) (t.price) _).mono ?_); rintro e w' ⟨rfl, rfl⟩; rw [Hd.out]))
                          clear c0 c1 c2 c3 hnw hn1
                          go_loopw [8] (fun j wr => ∃ i : Nat, i ≤ k ∧ j = .int .i64 i ∧ Hid (∀ y ∈ l.take i, y.id ≠ t.id) ∧ Hid (Below w2.heap.size w2 wr)) (fun j _ => k - (intOf j).toNat)
                          case atStart => exact ⟨0, by omega, rfl, hide (fun y hy => by simp at hy), hide (Below.refl _ _)⟩
                          case round =>
                            obtain ⟨i, hi, rfl, HNE, HBi⟩ := hrel
                            have HT3 := bkT HBi.out HT2
                            have c0 : wr.cell? ⟨g, 0, none⟩ = some (.int .i64 t.id) := (blk_cell HT3.out 0).trans rfl
                            have lg := blk_lt HT3.out
                            by_cases hik : i < k
                            · obtain ⟨y, hy⟩ : ∃ y, l[i]? = some y := ⟨_, List.getElem?_eq_getElem (by have := HL.out; omega)⟩
                              obtain ⟨b', o', e', _, y0, _, _, _⟩ := (HR2.out.below HBi.out) i y hy
                              injection e' with e'
                              injection e' with e1 e2
                              subst e1 e2
                              have HY := hide hy
                              have hi1 : (i : Int) < (k : Int) := by omega
                              have hi2 : (i : Int) < (m : Int) := by omega
                              have hi0 : (0 : Int) ≤ (i : Int) := by omega
                              cases hq : (y.id == t.id)
                              · have HQE := hide hq
                                go_wp2_with fail
                                go_quiet (fail)
                                clear hq
                                go_wp2_with fail
                                go_roundw
                                case rel =>
                                  refine ⟨i + 1, by omega, by go_num, hide (fun z hz => ?_), hide (zbT HBi.out (by first | exact below_drewN (zbR _ _) _ | (repeat' first | exact zbR _ _ | assumption | refine zbD ?_ | refine zbA ?_ ?_ _ | refine zbS ?_ ?_ _ | refine zbT ?_ (by assumption) ?_ | (simp; done) | (simp; omega) | omega)) HBi.out.size)⟩
                                  rw [List.take_add_one, HY.out] at hz
                                  rcases List.mem_append.1 hz with hz | hz
                                  · exact HNE.out z hz
                                  · obtain rfl : z = y := by simpa using hz
                                    exact beq_eq_false_iff_ne.1 HQE.out
                                case measure => simp [intOf]; omega
                              · have HBAD := hide (show G.vTicks x [] l = false by
                                  rw [← HV.out, HS.out]
                                  have : (((l.take k).map (·.id)).contains t.id) = true := by
                                    rw [List.contains_iff_mem]
                                    exact List.mem_map.2 ⟨y, List.mem_of_getElem? (by rw [List.getElem?_take, if_pos hik]; exact HY.out), beq_iff_eq.1 hq⟩
                                  rw [this]
                                  rfl)
                                go_wp2_with fail
                                go_quiet (fail)
                                clear hq
                                go_wp2_with fail
                                go_ret
                                exact ⟨by rw [HE.out, HBAD.out]; first | rfl | (rw [Bool.and_false]; rfl), zbT HB1.out (zbT HB3.out (zbT HBr.out (zbT HB2.out (zbT HBi.out (by first | exact below_drewN (zbR _ _) _ | (repeat' first | exact zbR _ _ | assumption | refine zbD ?_ | refine zbA ?_ ?_ _ | refine zbS ?_ ?_ _ | refine zbT ?_ (by assumption) ?_ | (simp; done) | (simp; omega) | omega)) HBi.out.size) HB2.out.size) HBr.out.size) HB3.out.size) HB1.out.size⟩
                            · have hik' : i = k := by omega
                              subst hik'
                              have HV' := hide (show G.vTicks x ((l.take (i + 1)).map (·.id)) (l.drop (i + 1)) = G.vTicks x [] l by
                                rw [← HV.out, HS.out, HTK.out, HVP.out]
                                have : (((l.take i).map (·.id)).contains t.id) = false := by
                                  rw [List.contains_eq_mem, decide_eq_false_iff_not]
                                  intro hm
                                  obtain ⟨y, hy, e⟩ := List.mem_map.1 hm
                                  exact HNE.out y hy e
                                rw [this]
                                rfl)
                              go_wp2_with fail
                              go_roundw
                              case rel => exact ⟨i + 1, by omega, by go_num, HV', hide (zbT HBr.out (zbT HB2.out (zbT HBi.out (by (repeat' first | exact zbR _ _ | assumption | refine zbD ?_ | refine zbA ?_ ?_ _ | refine zbS ?_ ?_ _ | refine zbT ?_ (by assumption) ?_ | (simp; done) | (simp; omega) | omega)) HBi.out.size) HB2.out.size) HBr.out.size)⟩
                              case measure => simp [intOf]; omega
                · have hkm : k = m := by omega
                  subst hkm
                  have HVN := hide (show G.vTicks x [] l = true by rw [← HV.out, List.drop_eq_nil_of_le (by have := HL.out; omega)]; rfl)
                  go_wp2_with fail
                  go_ret
                  exact ⟨by rw [HE.out, HVN.out, HAN.out]; rfl, zbT HB1.out (zbT HB3.out (zbT HBr.out (by (repeat' first | exact zbR _ _ | assumption | refine zbD ?_ | refine zbA ?_ ?_ _ | refine zbS ?_ ?_ _ | refine zbT ?_ (by assumption) ?_ | (simp; done) | (simp; omega) | omega)) HBr.out.size) HB3.out.size) HB1.out.size⟩
end Go.Proofs.Ytlpjkolocgkcpaa

namespace Go.Proofs.Ytlpjkolocgkcpaa
open Go.RowKit
attribute [local go_sem ↓] Go.wp_at_zero Go.wp_at_succ

theorem vTickets_get {x : G.Tm} {l : List G.Tk} (h : G.refundE x l = 0) : G.refundV x l = l.map (G.refund1 x) ∧ x.played.length ≤ 30 ∧ l.length ≤ 40 ∧ ∀ t ∈ l, t.V x := by
  unfold G.refundE at h
  split at h
  · rename_i hq
    rw [Bool.and_eq_true] at hq
    refine ⟨(refV_ok hq.1 hq.2).2, ?_, ?_, fun t ht => ?_⟩
    · have h := hq.1
      unfold G.vTerms at h
      simp only [Bool.and_eq_true, decide_eq_true_eq] at h
      exact h.1.2
    · have h := hq.2
      unfold G.vTickets at h
      simp only [Bool.and_eq_true, decide_eq_true_eq] at h
      exact h.1
    · exact G.vTicket_iff.1 (G.vTicks_all (by have h := hq.2; unfold G.vTickets at h; rw [Bool.and_eq_true] at h; exact h.2) t ht)
  · omega
end Go.Proofs.Ytlpjkolocgkcpaa

namespace Go.Proofs.Ytlpjkolocgkcpaa
namespace G

def pd (x : Tm) (t : Tk) : Tk := { t with paid := t.paid + refund1 x t }
theorem ticks_of {x : Tm} {l : List Tk} (h : refundE x l = 0) : vTerms x = true ∧ vTickets x l = true := by
  unfold refundE at h
  split at h
  · rename_i hq
    rw [Bool.and_eq_true] at hq
    exact hq
  · omega
theorem pd_v {x : Tm} {t : Tk} (h : t.V x) : (pd x t).V x := by
  have hb := refund_bd h
  exact ⟨h.i0, h.i1, h.p0, h.p1, h.d0, h.d1, by show 0 ≤ t.paid + refund1 x t; have := h.q0; omega, by show t.paid + refund1 x t ≤ t.price; omega⟩
theorem vTicks_map {x x' : Tm} (f : Tk → Tk) (hid : ∀ t, (f t).id = t.id) : ∀ (l : List Tk) (seen : List Int), (∀ t ∈ l, vTicket x t = true → vTicket x' (f t) = true) → vTicks x seen l = true → vTicks x' seen (l.map f) = true
  | [], _, _, _ => rfl
  | t :: r, seen, hv, h => by
    unfold vTicks at h
    rw [Bool.and_eq_true, Bool.and_eq_true] at h
    rw [List.map_cons]
    unfold vTicks
    rw [hid, h.1.1, hv t (List.mem_cons_self ..) h.1.2, vTicks_map f hid r _ (fun t ht => hv t (List.mem_cons_of_mem _ ht)) h.2]
    rfl
theorem paid_ok {x : Tm} {l : List Tk} (h : refundE x l = 0) : refundE x (l.map (pd x)) = 0 := by
  obtain ⟨h1, h2⟩ := ticks_of h
  unfold refundE
  rw [h1]
  unfold vTickets at h2 ⊢
  rw [Bool.and_eq_true] at h2
  rw [List.length_map, h2.1, vTicks_map (pd x) (fun t => rfl) l [] (fun t _ ht => vTicket_iff.2 (pd_v (vTicket_iff.1 ht))) h2.2]
  rfl
theorem paid_zero {x : Tm} {t : Tk} : refund1 x (pd x t) = 0 := by
  have hd : due x (pd x t) = due x t := rfl
  unfold refund1
  rw [hd]
  show max (due x t - (t.paid + max (due x t - t.paid) 0)) 0 = 0
  omega
theorem paid_total {x : Tm} {l : List Tk} (h : refundE x l = 0) : totalV x (l.map (pd x)) = 0 := by
  unfold totalV refundV
  rw [if_pos (paid_ok h), List.map_map]
  have : (refund1 x ∘ pd x) = fun _ => (0 : Int) := by funext t; exact paid_zero
  rw [this]
  clear this h
  induction l with
  | nil => rfl
  | cons a r ih => rw [List.map_cons, List.sum_cons, ih]; rfl
def less (x : Tm) (d : Nat) (v : Int) : Tm := { x with played := x.played.set d v }
theorem less_ok {x : Tm} {l : List Tk} (h : refundE x l = 0) {d : Nat} {p hi : Int} (hp : x.played[d]? = some p) (h0 : 0 ≤ hi) (h1 : hi ≤ p) : refundE (less x d (p - hi)) l = 0 := by
  obtain ⟨a, b⟩ := ticks_of h
  have hl : (less x d (p - hi)).played.length = x.played.length := by unfold less; rw [List.length_set]
  unfold refundE
  have h2 : vTerms (less x d (p - hi)) = true := by
    unfold vTerms at a ⊢
    rw [hl]
    simp only [Bool.and_eq_true, List.all_eq_true] at a ⊢
    obtain ⟨⟨⟨a1, a2⟩, a3⟩, a4⟩ := a
    refine ⟨⟨⟨a1, a2⟩, a3⟩, fun v hv => ?_⟩
    rcases List.mem_or_eq_of_mem_set hv with hv | rfl
    · exact a4 v hv
    · have := a4 p (List.mem_of_getElem? hp)
      unfold vMin within at this ⊢
      simp only [Bool.and_eq_true, decide_eq_true_eq] at this ⊢
      omega
  have h3 : vTickets (less x d (p - hi)) l = true := by
    unfold vTickets at b ⊢
    rw [Bool.and_eq_true] at b
    have := vTicks_map (x := x) (x' := less x d (p - hi)) (fun t => t) (fun t => rfl) l [] (fun t _ ht => by unfold vTicket at ht ⊢; rw [hl]; exact ht) b.2
    rw [List.map_id'] at this
    rw [b.1, this]
    rfl
  rw [h2, h3]
  rfl
theorem less_more {x : Tm} {t : Tk} (ht : t.V x) {d : Nat} {p hi : Int} (hp : x.played[d]? = some p) (h0 : 0 ≤ hi) : refund1 x t ≤ refund1 (less x d (p - hi)) t := by
  have hg : (less x d (p - hi)).played.getD t.day.toNat 0 ≤ x.played.getD t.day.toNat 0 := by
    unfold less
    rw [List.getD_eq_getElem?_getD, List.getD_eq_getElem?_getD, List.getElem?_set]
    by_cases c : d = t.day.toNat
    · rw [if_pos c, ← c, hp]
      have := (List.getElem?_eq_some_iff.1 hp).1
      rw [if_pos this]
      show p - hi ≤ p
      omega
    · rw [if_neg c]
      exact Int.le_refl _
  have hp0 := ht.p0
  unfold refund1 due
  show max ((if x.played.getD t.day.toNat 0 < x.short then t.price else if x.played.getD t.day.toNat 0 < x.long then t.price / 2 else 0) - t.paid) 0 ≤ max ((if (less x d (p - hi)).played.getD t.day.toNat 0 < x.short then t.price else if (less x d (p - hi)).played.getD t.day.toNat 0 < x.long then t.price / 2 else 0) - t.paid) 0
  generalize (less x d (p - hi)).played.getD t.day.toNat 0 = g' at hg
  generalize x.played.getD t.day.toNat 0 = g at hg
  split <;> split <;> (try split) <;> (try split) <;> omega
end G
end Go.Proofs.Ytlpjkolocgkcpaa

namespace Go.Proofs.Ytlpjkolocgkcpaa
open Go.RowKit
attribute [local go_sem ↓] Go.wp_at_zero Go.wp_at_succ

end Go.Proofs.Ytlpjkolocgkcpaa

namespace Go.Proofs.Ytlpjkolocgkcpaa
open Go.RowKit

end Go.Proofs.Ytlpjkolocgkcpaa

namespace Go.Proofs.Ytlpjkolocgkcpaa
open Go.RowKit Go.Sort
attribute [local go_sem ↓] Go.wp_at_zero Go.wp_at_succ


theorem compare_still (x y : Int) (w : World) : Calls Try.prog 71 #[.int .i64 x, .int .i64 y] w fun e w' => e = .returned (.int .i64 (E.cmp x y)) ∧ w' = w := (compare_any x y w).mono fun _ _ h => ⟨h.1, h.2.symm⟩
theorem rdI_two {w : World} {q : Nat} {x y : Int} (hq : w.heap[q]? = some (.cells #[.int .i64 x, .int .i64 y] 3 (0, 0))) : RdI w w.heap.size (some ⟨q, 0, none⟩) [x, y] := by
  intro k z hk
  match k, hk with
  | 0, hk => have hy : x = z := Option.some.inj hk; subst hy; exact ⟨_, 0, rfl, blk_lt hq, (blk_cell hq 0).trans rfl⟩
  | 1, hk => have hy : y = z := Option.some.inj hk; subst hy; exact ⟨_, 0, rfl, blk_lt hq, (blk_cell hq 1).trans rfl⟩
  | k + 2, hk => cases hk
def GB (W w' : World) : Prop := Below W.heap.size W w' ∧ W.drawn ≤ w'.drawn
theorem GB.refl (W : World) : GB W W := ⟨Below.refl _ _, Nat.le_refl _⟩
theorem GB.drew {W w' : World} (h : GB W w') : GB W w'.drew := ⟨zbD h.1, Nat.le_succ_of_le h.2⟩
theorem GB.alloc {W w' : World} (h : GB W w') (o : Obj) : GB W (w'.alloc o) := ⟨zbA h.1 h.1.size o, h.2⟩
theorem GB.setRow {W w' : World} (h : GB W w') {b : Nat} (hb : W.heap.size ≤ b) (cs : Array Value) : GB W (w'.setRow b cs) := ⟨below_row h.1 hb cs, h.2⟩
theorem GB.ex {W w' : World} (h : GB W w') : ∃ q os', w' = grow (W.drewN q) os' := by
  obtain ⟨hb, hd⟩ := h
  obtain ⟨os', h1⟩ : ∃ os', w'.heap = W.heap ++ os' := by
    refine ⟨w'.heap.extract W.heap.size w'.heap.size, Array.ext_getElem? (fun i => ?_)⟩
    rw [Array.getElem?_append]
    split
    · rename_i hi; exact hb.block i hi
    · rename_i hi
      have hs := hb.size
      rw [Array.getElem?_extract]
      split
      · rename_i h2
        congr 1
        omega
      · rename_i h2
        exact Array.getElem?_eq_none (by omega)
  have h2 : W.drawn + (w'.drawn - W.drawn) = w'.drawn := by omega
  refine ⟨w'.drawn - W.drawn, os', ?_⟩
  have h3 := hb.os
  have h4 := hb.tape
  have h5 := hb.output
  show w' = World.mk (W.heap ++ os') W.tape (W.drawn + (w'.drawn - W.drawn)) W.os W.output
  rw [h2, ← h1, ← h3, ← h4, ← h5]

theorem cap_row {K : Act → World → Prop} {a : Act} {w : World} {g : Nat} {cs old : Array Value} {t : TypeId} {fr : Nat × Nat} (hg : w.heap[g]? = some (.cells old t fr))
    (h : ∀ W9 : World, W9.heap[g]? = some (.cells cs t fr) → (∀ k, k ≠ g → W9.heap[k]? = w.heap[k]?) → (∀ W, GB W w → W.heap.size ≤ g → GB W W9) → w.grownBy W9 (some g) → W9.heap.size = w.heap.size → K a W9) : K a (w.setRow g cs) :=
  h _ (setRow_heap _ _ _ _ _ _ hg) (fun k hk => setRow_other _ _ _ _ hk) (fun W hw hb => GB.setRow hw hb cs) (setRow_grown _ _ _) (by simp)

end Go.Proofs.Ytlpjkolocgkcpaa

namespace Go.Proofs.Ytlpjkolocgkcpaa
namespace G

theorem wait_spec (S : Int → Int) (need gone : Int) : ∀ (k : Nat) (m : Int), (gone - m).toNat ≤ k →
    m ≤ wait S need gone k m ∧ (gone ≤ wait S need gone k m ∨ need ≤ S (wait S need gone k m)) ∧ (∀ j, m ≤ j → j < wait S need gone k m → j < gone ∧ S j < need) ∧ (m ≤ gone → wait S need gone k m ≤ gone)
  | 0, m, h => by
    unfold wait
    exact ⟨Int.le_refl _, .inl (by omega), fun j h1 h2 => by omega, fun h => h⟩
  | k + 1, m, h => by
    unfold wait
    by_cases c : gone ≤ m ∨ need ≤ S m
    · rw [if_pos c]
      exact ⟨Int.le_refl _, c, fun j h1 h2 => by omega, fun h => h⟩
    · rw [if_neg c]
      have c1 : ¬ gone ≤ m := fun h => c (.inl h)
      have c2 : ¬ need ≤ S m := fun h => c (.inr h)
      obtain ⟨h1, h2, h3, h4⟩ := wait_spec S need gone k (m + 1) (by omega)
      refine ⟨by omega, h2, fun j a b => ?_, fun _ => h4 (by omega)⟩
      by_cases e : j = m
      · subst e
        exact ⟨by omega, by omega⟩
      · exact h3 j (by omega) b
theorem wait_eq {S : Int → Int} {need gone : Int} {k : Nat} {m r : Int} (hk : (gone - m).toNat ≤ k) (h1 : m ≤ r) (h2 : gone ≤ r ∨ need ≤ S r) (h3 : ∀ j, m ≤ j → j < r → j < gone ∧ S j < need) : wait S need gone k m = r := by
  obtain ⟨a1, a2, a3, _⟩ := wait_spec S need gone k m hk
  rcases Int.lt_trichotomy (wait S need gone k m) r with h | h | h
  · have := h3 _ a1 h; rcases a2 with e | e <;> omega
  · exact h
  · have := a3 _ h1 h; rcases h2 with e | e <;> omega

structure Mo.Ok (rate : Int) (s : Mo) : Prop where
  m0 : 0 ≤ s.min
  p0 : 0 ≤ s.passed
  p1 : s.passed < rate
def Mo.pos (rate : Int) (s : Mo) : Int := s.min * rate + s.passed

section
variable {S : Int → Int} {rate opn : Int} {p : Pt} {s : Mo}
theorem from_le : s.min ≤ from_ opn p s ∧ p.at_ ≤ from_ opn p s ∧ opn ≤ from_ opn p s := by unfold from_; omega
theorem ready_spec : from_ opn p s ≤ ready S opn p s ∧ (p.gone ≤ ready S opn p s ∨ p.size ≤ S (ready S opn p s) - s.used) ∧ (∀ j, from_ opn p s ≤ j → j < ready S opn p s → j < p.gone ∧ S j - s.used < p.size) := by
  obtain ⟨h1, h2, h3, _⟩ := wait_spec (fun m => S m - s.used) p.size p.gone (p.gone - from_ opn p s).toNat (from_ opn p s) (Nat.le_refl _)
  exact ⟨h1, h2, h3⟩
theorem now_bd (hs : s.Ok rate) : 0 ≤ now S opn p s ∧ now S opn p s < rate ∧ s.pos rate ≤ ready S opn p s * rate + now S opn p s := by
  have h1 := (ready_spec (S := S) (opn := opn) (p := p) (s := s)).1
  have h2 := (from_le (opn := opn) (p := p) (s := s)).1
  have hp0 := hs.p0
  have hp1 := hs.p1
  unfold now Mo.pos
  by_cases c : ready S opn p s = s.min
  · rw [if_pos c, c]
    exact ⟨hp0, hp1, Int.le_refl _⟩
  · rw [if_neg c]
    refine ⟨Int.le_refl _, by omega, ?_⟩
    have h3 : (s.min + 1) * rate ≤ ready S opn p s * rate := Int.mul_le_mul_of_nonneg_right (by omega) (by omega)
    rw [Int.add_mul, Int.one_mul] at h3
    omega
theorem next_ok (hr : 1 ≤ rate) (hs : s.Ok rate) (hz : 1 ≤ p.size) : (next S rate opn p s).Ok rate ∧ ready S opn p s ≤ (next S rate opn p s).min := by
  obtain ⟨n0, n1, _⟩ := now_bd (S := S) (opn := opn) (p := p) hs
  have h1 := (ready_spec (S := S) (opn := opn) (p := p) (s := s)).1
  have h2 := (from_le (opn := opn) (p := p) (s := s)).1
  have hm := hs.m0
  unfold next
  split
  · exact ⟨⟨by dsimp only; omega, n0, n1⟩, Int.le_refl _⟩
  · have hd : 0 ≤ (now S opn p s + p.size) / rate := Int.ediv_nonneg (by omega) (by omega)
    exact ⟨⟨by dsimp only; omega, Int.emod_nonneg _ (by omega), Int.emod_lt_of_pos _ (by omega)⟩, by dsimp only; omega⟩
theorem next_gone (h : p.gone ≤ ready S opn p s) : minuteOf S rate opn p s = -1 ∧ (next S rate opn p s).min = ready S opn p s ∧ (next S rate opn p s).used = s.used ∧ (next S rate opn p s).pos rate = ready S opn p s * rate + now S opn p s := by
  unfold minuteOf next Mo.pos
  rw [if_pos h, if_pos h]
  exact ⟨rfl, rfl, rfl, rfl⟩
end

end G
end Go.Proofs.Ytlpjkolocgkcpaa
