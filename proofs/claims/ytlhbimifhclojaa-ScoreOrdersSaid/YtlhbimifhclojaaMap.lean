/-
  Maps keyed by pairs, of ints: a block that reads as a function.
-/
import Derived.Test.YtlhbimifhclojaaModel
import Derived.Test.YtlhbimifhclojaaRows
import Derived.WalkKit
import Derived.DeepKeys4
import Derived.Maps.OwnOps
import Derived.Maps.Views
import Derived.Maps.OwnSet
namespace Go.Proofs.Ytlhbimifhclojaa
open Go.RowKit Go.Maps

theorem laidOut : laidOutB Try.prog = true := by kernel_rfl
theorem rowPair : 32 < Try.prog.types.size := of_decide_eq_true (by kernel_rfl)
theorem widePair : (match Try.prog.underlying 32 with | some (.array _ _) | some (.struct _) => true | _ => false) = true := by kernel_rfl
theorem pairKey : Try.prog.keyTypeAt 2 32 = true := by kernel_rfl
set_option maxRecDepth 100000 in
theorem pairLaw : WideMaps.KeyLaw Try.prog 32 := deep_law_laid laidOut (m := 2) (by omega) rowPair pairKey widePair
theorem pairKeyed : Keyed Try.prog 32 := Keyed.of_law pairLaw
theorem pairType : Try.prog.keyType 32 = true := by kernel_rfl
theorem pairCells : Try.prog.cellsOf 32 = 2 := by kernel_rfl
theorem intCells : Try.prog.cellsOf 3 = 1 := by kernel_rfl

/-- what a pair reads as, as a key -/
def keyL (p : M.Pr) : Lit := .string (keyBytes [.int .i64 p.A, .int .i64 p.B])
theorem wfA {p : M.Pr} (hp : M.Small p) : (Lit.int .i64 p.A).wf = true := WalkArith.wf_i64 (by have := hp.a0; have := hp.a1; omega)
theorem wfB {p : M.Pr} (hp : M.Small p) : (Lit.int .i64 p.B).wf = true := WalkArith.wf_i64 (by have := hp.b0; have := hp.b1; omega)
theorem keyP_eq (p : M.Pr) (hp : M.Small p) : keyOf Try.prog 32 (.agg #[.int .i64 p.A, .int .i64 p.B]) = some (keyL p) := by
  obtain ⟨m, hm⟩ : ∃ m, Try.prog.types.size = m + 1 := ⟨Try.prog.types.size - 1, by have := rowPair; omega⟩
  unfold keyOf
  simp only [Try.underlying32]
  rw [if_pos (by simp [pairType, Value.formed, Try.underlying32, pairCells]), hm]
  unfold Program.keyLits
  simp only [Try.underlying32, Value.cells]
  rw [if_pos (by rw [pairCells]; exact ⟨rfl, by simp⟩)]
  simp [intCells, Program.keyLits, Try.underlying3, wfA hp, wfB hp, keyL]

theorem keyL_ne {p q : M.Pr} (hp : M.Small p) (hq : M.Small q) (h : p ≠ q) : keyL p ≠ keyL q := fun e => by
  have := pairKeyed.inj (keyP_eq p hp) (by rw [e]; exact keyP_eq q hq)
  injection this with this
  have h0 := congrArg (fun a : Array Value => a[0]?) this
  have h1 := congrArg (fun a : Array Value => a[1]?) this
  simp at h0 h1
  exact h (by cases p; cases q; simp_all)

/-- block B is a map of at most n entries that reads as F -/
def MapF (w : World) (B : Nat) (F : M.Pr → Int) (n : Nat) : Prop :=
  ∃ D : DataW Unit, IsMap D ∧ w.ownsMap Try.prog 32 (plainElem Try.prog 3) B n D ∧ ∀ p, M.Small p → D.atKey (keyL p) (.lit (.int .i64 0)) = .lit (.int .i64 (F p))

theorem zeroInt (w : World) : (zeroValue 3).run Try.prog w = .ok (.int .i64 0) w := by kernel_rfl

open Classical in
noncomputable def upd (F : M.Pr → Int) (p : M.Pr) (v : Int) : M.Pr → Int := fun q => if q = p then v else F q

theorem MapF.made (w : World) : MapF (w.alloc (.map #[] 0)) w.heap.size (fun _ => 0) 0 :=
  ⟨.map [], isMap_empty, World.ownsMap_made _ _ _ _, fun p _ => by simp [DataW.atKey]⟩
theorem MapF.lt {w : World} {B n : Nat} {F : M.Pr → Int} (h : MapF w B F n) : B < w.heap.size := by
  obtain ⟨D, _, h, _⟩ := h; exact h.lt
theorem MapF.below {w w' : World} {B n : Nat} {F : M.Pr → Int} (h : MapF w B F n) (hb : Below w.heap.size w w') : MapF w' B F n := by
  obtain ⟨D, hi, h, hF⟩ := h
  exact ⟨D, hi, h.kept (row := none) ⟨hb.os, hb.tape, hb.output, hb.size, fun i hi _ => hb.block i hi⟩ (by simp), hF⟩
theorem MapF.look {w : World} {B n : Nat} {F : M.Pr → Int} (h : MapF w B F n) (p : M.Pr) (hp : M.Small p) :
    (Instr.lookup 107 (.map (some B)) (.agg #[.int .i64 p.A, .int .i64 p.B]) false).run Try.prog w = .ok (.int .i64 (F p)) w := by
  obtain ⟨D, hi, h, hF⟩ := h
  obtain ⟨c, hrun, hat, _⟩ := h.lookup_int pairKeyed Try.underlying107 Try.underlying3 (zeroInt w) (keyP_eq p hp)
  rw [hF p hp] at hat
  simp only [DataW.lit.injEq, Lit.int.injEq, true_and] at hat
  rw [hat]; exact hrun
set_option maxRecDepth 100000 in
theorem MapF.store {w : World} {B n : Nat} {F : M.Pr → Int} (h : MapF w B F n) (hn : n < 1000000) (p : M.Pr) (hp : M.Small p) (v : Int) (hv : (Lit.int .i64 v).wf = true) :
    ∃ w', (Instr.mapUpdate 107 (.map (some B)) (.agg #[.int .i64 p.A, .int .i64 p.B]) (.int .i64 v)).run Try.prog w = .ok () w' ∧ MapF w' B (upd F p v) (n + 1) ∧ w.grownBy w' (some B) := by
  obtain ⟨D, hi, h, hF⟩ := h
  obtain ⟨w', hrun, ho, hg⟩ := h.update pairKeyed Try.underlying107 (by simp only [maxLen]; omega) (keyP_eq p hp) (plainElem_int Try.underlying3 hv)
  refine ⟨w', hrun, ⟨_, hi.put _ _, ho, fun q hq => ?_⟩, hg⟩
  unfold upd
  by_cases e : q = p
  · rw [if_pos e, e]
    exact atKey_put_same hi (pairKeyed.key (keyP_eq p hp)) _ _
  · rw [if_neg e, atKey_put_other (keyL_ne hq hp e)]
    exact hF q hq

end Go.Proofs.Ytlhbimifhclojaa
