/-
  For every rule and every appeals the law LinesCount returns true: in a set without a tie-break each side has left what it had, less one for each appeal that may be asked and whose call is what was said, and the decisions are those of Decide. No conditions.
-/
import Derived.Test.YtampfpnkkdihaaaZB01
import Derived.Test.YtampfpnkkdihaaaZB03
import Derived.Test.YtampfpnkkdihaaaZB09
namespace Go.Proofs.Ytampfpnkkdihaaa
open Go.ChangeShapes Go.WideShapes Go.ChangeAt Go.RowKit Go.Deep Go.Joins

theorem boxCells : Try.prog.cellsOf 28 = 4 := by kernel_rfl
theorem appealCells : Try.prog.cellsOf 66 = 14 := by kernel_rfl
section
variable {H : Type} {enc : TypeId × Value → H} {w : World} {base : Nat} {spare : Nat → Bool} {held : Bool}
set_option maxRecDepth 100000 in
theorem open_box_cells {cs : List Value} {x : DataW H × List MemPlace} {fuel : Nat} (hf : DataW.trod enc Try.prog w base spare held fuel 28 cs = some x) : ∃ b : L.Bx, cs = [.int .i64 b.l, .int .i64 b.r, .int .i64 b.b, .int .i64 b.t] := by
  obtain ⟨hl, hf⟩ := trod_fields Try.underlying28 boxOne hf
  match cs, hl with
  | [c0, c1, c2, c3], _ =>
    obtain ⟨_, _, _, e0, h0⟩ := hf 0 _ rfl
    obtain ⟨_, _, _, e1, h1⟩ := hf 1 _ rfl
    obtain ⟨_, _, _, e2, h2⟩ := hf 2 _ rfl
    obtain ⟨_, _, _, e3, h3⟩ := hf 3 _ rfl
    obtain ⟨n0, k0, _, w0⟩ := DataW.trod_int Try.underlying3 h0
    obtain ⟨n1, k1, _, w1⟩ := DataW.trod_int Try.underlying3 h1
    obtain ⟨n2, k2, _, w2⟩ := DataW.trod_int Try.underlying3 h2
    obtain ⟨n3, k3, _, w3⟩ := DataW.trod_int Try.underlying3 h3
    refine ⟨⟨n0, n1, n2, n3⟩, ?_⟩
    simp only [List.getElem?_cons_zero, List.getElem?_cons_succ, Option.some.injEq] at e0 e1 e2 e3
    simp only [List.cons.injEq, and_true] at k0 k1 k2 k3
    rw [e0, e1, e2, e3, k0, k1, k2, k3]
set_option maxRecDepth 100000 in
theorem open_view_cells {cs : List Value} {x : DataW H × List MemPlace} {fuel : Nat} (hf : DataW.trod enc Try.prog w base (fun _ => true) held fuel 26 cs = some x) :
    ∃ (x : L.Vw) (A : Option Addr) (n c : Nat), cs = [.int .i64 x.size, .slice A n c, .int .i64 x.wrong, .int .i64 x.hxl, .int .i64 x.hxh, .int .i64 x.hyl, .int .i64 x.hyh] ∧ n ≤ c ∧ c ≤ maxLen ∧ x.ss.length = n ∧ RdS w w.heap.size A x.ss ∧ (A = none → c = 0) := by
  obtain ⟨xs, n, _, _, hcl, hlen, hg⟩ := DataW.trod_struct Try.underlying26 hf
  rw [viewCells] at hcl
  match cs, hcl with
  | [c0, c1, c2, c3, c4, c5, c6], _ =>
    have look : ∀ j, j < xs.length → ∃ y, xs[j]? = some y := fun j hj => ⟨_, List.getElem?_eq_getElem hj⟩
    have hx5 : xs.length = 5 := hlen
    obtain ⟨y0, hy0⟩ := look 0 (by omega)
    obtain ⟨y1, hy1⟩ := look 1 (by omega)
    obtain ⟨y2, hy2⟩ := look 2 (by omega)
    obtain ⟨y3, hy3⟩ := look 3 (by omega)
    obtain ⟨y4, hy4⟩ := look 4 (by omega)
    have g0 : DataW.trod enc Try.prog w base (fun _ => true) held n 3 (List.take (Try.prog.cellsOf 3) (List.drop 0 [c0, c1, c2, c3, c4, c5, c6])) = some y0 := (hg 0 _ rfl).trans hy0
    have g1 : DataW.trod enc Try.prog w base (fun _ => true) held n 22 (List.take (Try.prog.cellsOf 22) (List.drop 1 [c0, c1, c2, c3, c4, c5, c6])) = some y1 := (hg 1 _ rfl).trans hy1
    have g2 : DataW.trod enc Try.prog w base (fun _ => true) held n 3 (List.take (Try.prog.cellsOf 3) (List.drop 2 [c0, c1, c2, c3, c4, c5, c6])) = some y2 := (hg 2 _ rfl).trans hy2
    have g3 : DataW.trod enc Try.prog w base (fun _ => true) held n 24 (List.take (Try.prog.cellsOf 24) (List.drop 3 [c0, c1, c2, c3, c4, c5, c6])) = some y3 := (hg 3 _ rfl).trans hy3
    have g4 : DataW.trod enc Try.prog w base (fun _ => true) held n 24 (List.take (Try.prog.cellsOf 24) (List.drop 5 [c0, c1, c2, c3, c4, c5, c6])) = some y4 := (hg 4 _ rfl).trans hy4
    rw [intCells] at g0 g2
    rw [stripsCells] at g1
    rw [spanCells] at g3 g4
    simp only [List.drop_succ_cons, List.drop_zero, List.take_succ_cons, List.take_zero] at g0 g1 g2 g3 g4
    obtain ⟨n0, k0, _, w0⟩ := DataW.trod_int Try.underlying3 g0
    obtain ⟨A, m, c, ss, k1, h1, h2, h3, h4, h5⟩ := open_strips g1
    obtain ⟨n2, k2, _, w2⟩ := DataW.trod_int Try.underlying3 g2
    obtain ⟨a3, b3, k3, w3, w3'⟩ := open_span g3
    obtain ⟨a4, b4, k4, w4, w4'⟩ := open_span g4
    simp only [List.cons.injEq, and_true] at k0 k2 k3 k4
    obtain ⟨k3, k3'⟩ := k3
    obtain ⟨k4, k4'⟩ := k4
    subst k0 k1 k2 k3 k3' k4 k4'
    exact ⟨⟨n0, ss, n2, a3, b3, a4, b4⟩, A, m, c, rfl, h1, h2, h3, h4, h5⟩
set_option maxRecDepth 100000 in
theorem open_appeal_cells {cs : List Value} {x : DataW H × List MemPlace} {fuel : Nat} (hf : DataW.trod enc Try.prog w base (fun _ => true) held fuel 66 cs = some x) :
    ∃ a : L.Ap, cs = [.int .i64 a.kind, .int .i64 a.side, .int .i64 a.said, .int .i64 a.v.size, .slice a.A a.n a.c, .int .i64 a.v.wrong, .int .i64 a.v.hxl, .int .i64 a.v.hxh, .int .i64 a.v.hyl, .int .i64 a.v.hyh, .int .i64 a.b.l, .int .i64 a.b.r, .int .i64 a.b.b, .int .i64 a.b.t] ∧ a.v.ss.length = a.n ∧ RdS w w.heap.size a.A a.v.ss ∧ (a.A = none → a.c = 0) := by
  obtain ⟨xs, n, _, _, hcl, hlen, hg⟩ := DataW.trod_struct Try.underlying66 hf
  rw [appealCells] at hcl
  match cs, hcl with
  | [c0, c1, c2, c3, c4, c5, c6, c7, c8, c9, c10, c11, c12, c13], _ =>
    have look : ∀ j, j < xs.length → ∃ y, xs[j]? = some y := fun j hj => ⟨_, List.getElem?_eq_getElem hj⟩
    have hx5 : xs.length = 5 := hlen
    obtain ⟨y0, hy0⟩ := look 0 (by omega)
    obtain ⟨y1, hy1⟩ := look 1 (by omega)
    obtain ⟨y2, hy2⟩ := look 2 (by omega)
    obtain ⟨y3, hy3⟩ := look 3 (by omega)
    obtain ⟨y4, hy4⟩ := look 4 (by omega)
    have g0 : DataW.trod enc Try.prog w base (fun _ => true) held n 3 (List.take (Try.prog.cellsOf 3) (List.drop 0 [c0, c1, c2, c3, c4, c5, c6, c7, c8, c9, c10, c11, c12, c13])) = some y0 := (hg 0 _ rfl).trans hy0
    have g1 : DataW.trod enc Try.prog w base (fun _ => true) held n 3 (List.take (Try.prog.cellsOf 3) (List.drop 1 [c0, c1, c2, c3, c4, c5, c6, c7, c8, c9, c10, c11, c12, c13])) = some y1 := (hg 1 _ rfl).trans hy1
    have g2 : DataW.trod enc Try.prog w base (fun _ => true) held n 3 (List.take (Try.prog.cellsOf 3) (List.drop 2 [c0, c1, c2, c3, c4, c5, c6, c7, c8, c9, c10, c11, c12, c13])) = some y2 := (hg 2 _ rfl).trans hy2
    have g3 : DataW.trod enc Try.prog w base (fun _ => true) held n 26 (List.take (Try.prog.cellsOf 26) (List.drop 3 [c0, c1, c2, c3, c4, c5, c6, c7, c8, c9, c10, c11, c12, c13])) = some y3 := (hg 3 _ rfl).trans hy3
    have g4 : DataW.trod enc Try.prog w base (fun _ => true) held n 28 (List.take (Try.prog.cellsOf 28) (List.drop 10 [c0, c1, c2, c3, c4, c5, c6, c7, c8, c9, c10, c11, c12, c13])) = some y4 := (hg 4 _ rfl).trans hy4
    rw [intCells] at g0 g1 g2
    rw [viewCells] at g3
    rw [boxCells] at g4
    simp only [List.drop_succ_cons, List.drop_zero, List.take_succ_cons, List.take_zero] at g0 g1 g2 g3 g4
    obtain ⟨n0, k0, _, _⟩ := DataW.trod_int Try.underlying3 g0
    obtain ⟨n1, k1, _, _⟩ := DataW.trod_int Try.underlying3 g1
    obtain ⟨n2, k2, _, _⟩ := DataW.trod_int Try.underlying3 g2
    obtain ⟨v, A, m, c, k3, _, _, h3, h4, h5⟩ := open_view_cells g3
    obtain ⟨b, k4⟩ := open_box_cells g4
    simp only [List.cons.injEq, and_true] at k0 k1 k2 k3 k4
    obtain ⟨k30, k31, k32, k33, k34, k35, k36⟩ := k3
    obtain ⟨k40, k41, k42, k43⟩ := k4
    subst k0 k1 k2 k30 k31 k32 k33 k34 k35 k36 k40 k41 k42 k43
    exact ⟨⟨n0, n1, n2, v, A, m, c, b⟩, rfl, h3, h4, h5⟩
set_option maxRecDepth 100000 in
theorem open_appeals {v : Value} {x : DataW H × List MemPlace} {fuel : Nat} (hf : DataW.trod enc Try.prog w base (fun _ => true) held fuel 63 [v] = some x) :
    ∃ (A : Option Addr) (n c : Nat) (l : List L.Ap), v = .slice A n c ∧ n ≤ c ∧ c ≤ maxLen ∧ l.length = n ∧ RdA w w.heap.size A l ∧ (A = none → c = 0) := by
  rcases Go.Deep.open_slice Try.underlying63 hf with ⟨hcs, _⟩ | ⟨a, len, cap, m, n, D, Pl, hcs, _, hle, hmax, hm, _, hi⟩
  · simp at hcs
    subst hcs
    exact ⟨none, 0, 0, [], rfl, Nat.le_refl _, Nat.zero_le _, rfl, RdA.nil _ _ _, fun _ => rfl⟩
  · simp at hcs
    subst hcs
    simp only [if_true] at hm
    have each : ∀ i, i < len → ∃ q : L.Ap, w.cell? (a.add (i * 14)) = some (.int .i64 q.kind) ∧ w.cell? ((a.add (i * 14)).add 1) = some (.int .i64 q.side) ∧ w.cell? ((a.add (i * 14)).add 2) = some (.int .i64 q.said) ∧ w.cell? ((a.add (i * 14)).add 3) = some (.int .i64 q.v.size) ∧ w.cell? ((a.add (i * 14)).add 4) = some (.slice q.A q.n q.c) ∧ w.cell? ((a.add (i * 14)).add 5) = some (.int .i64 q.v.wrong) ∧ w.cell? ((a.add (i * 14)).add 6) = some (.int .i64 q.v.hxl) ∧ w.cell? ((a.add (i * 14)).add 7) = some (.int .i64 q.v.hxh) ∧ w.cell? ((a.add (i * 14)).add 8) = some (.int .i64 q.v.hyl) ∧ w.cell? ((a.add (i * 14)).add 9) = some (.int .i64 q.v.hyh) ∧ w.cell? ((a.add (i * 14)).add 10) = some (.int .i64 q.b.l) ∧ w.cell? ((a.add (i * 14)).add 11) = some (.int .i64 q.b.r) ∧ w.cell? ((a.add (i * 14)).add 12) = some (.int .i64 q.b.b) ∧ w.cell? ((a.add (i * 14)).add 13) = some (.int .i64 q.b.t) ∧ q.v.ss.length = q.n ∧ RdS w w.heap.size q.A q.v.ss ∧ (q.A = none → q.c = 0) := by
      intro i hil
      obtain ⟨cs', hc, ht⟩ := hi i (by omega)
      rw [appealCells] at hc
      obtain ⟨_, hcl, hat⟩ := World.cells?_some hc
      obtain ⟨q, hq, h3, h4, h5⟩ := open_appeal_cells ht
      subst hq
      exact ⟨q, hat 0 (by omega), hat 1 (by omega), hat 2 (by omega), hat 3 (by omega), hat 4 (by omega), hat 5 (by omega), hat 6 (by omega), hat 7 (by omega), hat 8 (by omega), hat 9 (by omega), hat 10 (by omega), hat 11 (by omega), hat 12 (by omega), hat 13 (by omega), h3, h4, h5⟩
    refine ⟨some a, len, cap, (List.range len).map (fun i => if h : i < len then (each i h).choose else ⟨0, 0, 0, ⟨0, [], 0, 0, 0, 0, 0⟩, none, 0, 0, ⟨0, 0, 0, 0⟩⟩), rfl, hle, hmax, by simp, ?_, fun e => by cases e⟩
    intro k q hk
    have hkn : k < len := by
      rcases Nat.lt_or_ge k len with hl | hl
      · exact hl
      · rw [List.getElem?_eq_none (by simp; omega)] at hk; cases hk
    have hq : (each k hkn).choose = q := by
      rw [List.getElem?_map, List.getElem?_range hkn] at hk
      simpa [hkn] using hk
    have hc := (each k hkn).choose_spec
    rw [hq] at hc
    obtain ⟨_, h00, _⟩ := each 0 (by omega)
    obtain ⟨b, o, rfl, hb'⟩ := spot_first (by rw [Nat.zero_mul] at h00; exact h00)
    simp only [add_plain] at hc
    obtain ⟨g0, g1, g2, g3, g4, g5, g6, g7, g8, g9, g10, g11, g12, g13, h3, h4, h5⟩ := hc
    exact ⟨b, o, rfl, hb', g0, g1, g2, g3, g4, g5, g6, g7, g8, g9, g10, g11, g12, g13, h3, h4, h5⟩
end
end Go.Proofs.Ytampfpnkkdihaaa

namespace Go.Proofs.Ytampfpnkkdihaaa
open Go.ChangeShapes Go.WideShapes Go.ChangeAt Go.RowKit Go.Deep Go.Joins

section
variable {H : Type} {enc : TypeId × Value → H} {w : World} {base : Nat} {spare : Nat → Bool} {held : Bool}
theorem ruleOne : (match Try.prog.underlying 62 with | some (.struct fs) => oneCellFields Try.prog fs && Try.prog.cellsOf 62 == fs.size | _ => false) = true := by kernel_rfl
set_option maxRecDepth 100000 in
theorem open_rule {r : Reach} {b0 : Nat} {v : Value} {d : DataW H} {p : List MemPlace} (hv : Value.okWide Try.prog w r b0 62 v) (h : DataW.Trod enc Try.prog w base spare held 62 v d p) : ∃ a b : Int, v = .agg #[.int .i64 a, .int .i64 b] := by
  obtain ⟨cs, rfl, hl, hf⟩ := open_fields Try.underlying62 ruleOne hv h
  match cs, hl with
  | [c0, c1], _ =>
    obtain ⟨_, _, _, e0, h0⟩ := hf 0 _ rfl
    obtain ⟨_, _, _, e1, h1⟩ := hf 1 _ rfl
    obtain ⟨n0, k0, _, w0⟩ := DataW.trod_int Try.underlying3 h0
    obtain ⟨n1, k1, _, w1⟩ := DataW.trod_int Try.underlying3 h1
    refine ⟨n0, n1, ?_⟩
    simp only [List.getElem?_cons_zero, List.getElem?_cons_succ, Option.some.injEq] at e0 e1
    simp only [List.cons.injEq, and_true] at k0 k1
    rw [e0, e1, k0, k1]
theorem looseOne : (match Try.prog.underlying 44 with | some (.struct fs) => oneCellFields Try.prog fs && Try.prog.cellsOf 44 == fs.size | _ => false) = true := by kernel_rfl
set_option maxRecDepth 100000 in
theorem open_loose {r : Reach} {b0 : Nat} {v : Value} {d : DataW H} {p : List MemPlace} (hv : Value.okWide Try.prog w r b0 44 v) (h : DataW.Trod enc Try.prog w base spare held 44 v d p) : ∃ a b c e : Int, v = .agg #[.int .i64 a, .int .i64 b, .int .i64 c, .int .i64 e] := by
  obtain ⟨cs, rfl, hl, hf⟩ := open_fields Try.underlying44 looseOne hv h
  match cs, hl with
  | [c0, c1, c2, c3], _ =>
    obtain ⟨_, _, _, e0, h0⟩ := hf 0 _ rfl
    obtain ⟨_, _, _, e1, h1⟩ := hf 1 _ rfl
    obtain ⟨_, _, _, e2, h2⟩ := hf 2 _ rfl
    obtain ⟨_, _, _, e3, h3⟩ := hf 3 _ rfl
    obtain ⟨n0, k0, _, w0⟩ := DataW.trod_int Try.underlying3 h0
    obtain ⟨n1, k1, _, w1⟩ := DataW.trod_int Try.underlying3 h1
    obtain ⟨n2, k2, _, w2⟩ := DataW.trod_int Try.underlying3 h2
    obtain ⟨n3, k3, _, w3⟩ := DataW.trod_int Try.underlying3 h3
    refine ⟨n0, n1, n2, n3, ?_⟩
    simp only [List.getElem?_cons_zero, List.getElem?_cons_succ, Option.some.injEq] at e0 e1 e2 e3
    simp only [List.cons.injEq, and_true] at k0 k1 k2 k3
    rw [e0, e1, e2, e3, k0, k1, k2, k3]
theorem open_appealsV {v : Value} {d : DataW H} {p : List MemPlace} (h : DataW.Trod enc Try.prog w base (fun _ => true) held 63 v d p) (hok : ∃ a n c, v = .slice a n c) :
    ∃ (A : Option Addr) (n c : Nat) (l : List L.Ap), v = .slice A n c ∧ n ≤ c ∧ c ≤ maxLen ∧ l.length = n ∧ RdA w w.heap.size A l ∧ (A = none → c = 0) := by
  obtain ⟨a, n, c, rfl⟩ := hok
  obtain ⟨fuel, hf⟩ := h
  exact open_appeals hf
end
end Go.Proofs.Ytampfpnkkdihaaa

namespace Go.Proofs.Ytampfpnkkdihaaa
open Go.ChangeShapes Go.WideShapes Go.ChangeAt Go.RowKit Go.Deep Go.Joins

theorem Try.ownLinesCount : ownKnob Try.prog.godebug = none := by kernel_rfl

set_option maxRecDepth 100000 in
theorem linesCount_call (H : Type) (enc : TypeId × Value → H) (W : World) (base : Nat) (args : Array Value) (ds : List (DataW H)) (p : List MemPlace) (hval : ∀ (j : Nat) t v, Try.f9.params[j]? = some t → args[j]? = some v → Value.okWide Try.prog W .any base t v)
    (hA : DataW.TrodAll enc Try.prog W 0 (fun _ => true) true Try.f9.params.toList args.toList ds p) : Calls Try.prog 9 args W fun e W' => e = .returned (.bool true) ∧ Below W.heap.size W W' := by
  rw [Try.params9] at hA hval
  obtain ⟨v0, v1, d0, d1, p0, p1, rfl, rfl, rfl, h0, h1⟩ := trodAll_two hA
  obtain ⟨e0, m0, rfl⟩ := open_rule (hval 0 62 v0 rfl rfl) h0
  obtain ⟨A1, n1, c1, l1, rfl, hle1, hmx1, hn1, hr1, hno1⟩ := open_appealsV h1 (okWide_slice Try.underlying63 (hval 1 63 v1 rfl rfl))
  exact countLaw_any e0 m0 l1 A1 n1 c1 W hn1 hr1 hno1

set_option maxRecDepth 100000 in
theorem LinesCount_holds : Rows.LinesCountSaid :=
  OpenClaim.holds_of_wide (p := Try.pinned) (s := Rows.linesCountSpec) (c := Rows.linesCountRow) 9 Try.f9 rfl rfl rfl rfl rfl rfl rfl ⟨rfl, rfl, rfl, rfl, rfl⟩ rfl rfl rfl rfl rfl (by kernel_rfl) Try.func9 (by kernel_rfl)
    (of_decide_eq_true (by kernel_rfl)) (by unfold Func.isWrapper; first | (rw [if_pos (by decide +kernel)]; kernel_rfl) | (rw [if_neg (by decide +kernel)]; exact ⟨rfl, rfl⟩))
    (fun os started H enc _ => law_lift (C := Try.checked) (F := 9) (fn := Try.f9) (s := Rows.linesCountSpec) (bt := 4) started Try.ownLinesCount (by kernel_rfl) Try.func9 (by kernel_rfl) Try.underlying4 rfl laidOut (of_decide_eq_true (by kernel_rfl))
      (fun ds hds => match ds, hds with | [_, _], _ => rfl)
      (ChangeSpec.witness6 (enc := enc) (C := Try.checked) false ⟨#[], #[.agg #[.int .i64 0, .int .i64 0], .slice none 0 0], []⟩ 8 (by kernel_rfl) (by kernel_rfl) (by kernel_rfl) (by kernel_rfl))
      (fun W base args ds p hval hA _ => linesCount_call H enc W base args ds p hval hA) _ _ _)

end Go.Proofs.Ytampfpnkkdihaaa
