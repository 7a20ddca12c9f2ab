/-
  For all queues and rates the law GateTurn returns true and leaves its arguments as they were. No condition.
-/
import Derived.Test.YtlpjkolocgkcpaaRows
import Derived.Carry
import Derived.ProofKit
import Derived.Deep.Slices
import Derived.Deep.Fields
import Derived.Lib.SmallJoins
import Derived.Test.YtlpjkolocgkcpaaZB01
import Derived.Test.YtlpjkolocgkcpaaZB05
namespace Go.Proofs.Ytlpjkolocgkcpaa
open Go.ChangeShapes Go.WideShapes Go.ChangeAt Go.RowKit Go.Deep Go.Joins

theorem laidOut : laidOutB Try.prog = true := by kernel_rfl
section
variable {H : Type} {enc : TypeId × Value → H} {P : Program}

theorem trodAll_stays {W W' : World} {sp : Nat → Bool} (hl : laidOutB P = true) (hb : Below W.heap.size W W') : ∀ {ts : List TypeId} {vs : List Value} {ds : List (DataW H)} {ps : List MemPlace}, (∀ t ∈ ts, P.readableRec t = true ∧ t < P.types.size) → (∀ x ∈ ps, x.block < W.heap.size) → (∀ x ∈ ps, sp x.block = true) → DataW.TrodAll enc P W 0 (fun _ => true) true ts vs ds ps → DataW.TrodAll enc P W' 0 sp true ts vs ds ps
  | [], vs, ds, ps, _, _, _, h => by
    obtain ⟨rfl, rfl, rfl⟩ := trodAll_nil h
    exact trodAll_mk0
  | t :: ts, vs, ds, ps, hr, hlt, hsp, h => by
    obtain ⟨v, vs', d, ds', p, q, rfl, rfl, rfl, h0, h1⟩ := trodAll_cons h
    refine trodAll_cons_mk ?_ (trodAll_stays hl hb (fun t ht => hr t (List.mem_cons_of_mem _ ht)) (fun x hx => hlt x (List.mem_append_right _ hx)) (fun x hx => hsp x (List.mem_append_right _ hx)) h1)
    exact WideElems.Trod_stays hl (hr t (List.mem_cons_self ..)).1 (hr t (List.mem_cons_self ..)).2 h0 (fun x hx => hb.same (hlt x (List.mem_append_left _ hx))) (fun x hx => hsp x (List.mem_append_left _ hx))

theorem law_post {f : Func} {s : ChangeSpec} {fresh handsOn again : Bool} {W W' : World} {args : Array Value} {bt : TypeId} {ds gs : List (DataW H)} {before : List MemPlace}
    (hrt : f.resultTypes = #[bt]) (hbt : P.underlying bt = some .bool) (hsv : s.vars = []) (hs : s.fn H ds = { results := [.lit (.bool true)], args := ds }) (hl : laidOutB P = true) (hr : ∀ t ∈ f.params.toList, P.readableRec t = true ∧ t < P.types.size)
    (hW : DataW.Whole enc P f.params.toList s.vars false W args.toList ds gs before) (hb : Below W.heap.size W W') : s.post enc P f false fresh handsOn again W args (.bool true) W' := by
  have hlt : ∀ p ∈ before, p.block < W.heap.size := fun p hp => hW.lt p hp
  have hW1 := hW
  obtain ⟨p, q, hA, hV, hpq, hz, hn⟩ := hW
  rw [hsv] at hV
  obtain ⟨rfl, rfl⟩ := trodVars_none hV
  rw [List.append_nil] at hpq
  subst hpq
  have hs' : s.fn H (ds ++ []) = { results := [.lit (.bool true)], args := ds } := by rw [List.append_nil]; exact hs
  have hres : ∀ (b : Nat) (sp : Nat → Bool) (hd : Bool), DataW.TrodAll enc P W' b sp hd f.resultTypes.toList ((Value.bool true).resultList f.resultTypes.size) (s.fn H (ds ++ [])).results [] := by
    intro b sp hd
    rw [hs', hrt]
    exact trodAll_mk1 (shut_bool hbt true)
  have hargs : ∀ sp : Nat → Bool, (∀ x ∈ before, sp x.block = true) → DataW.TrodAll enc P W' 0 sp true f.params.toList args.toList (s.fn H (ds ++ [])).args before := by
    intro sp hsp
    rw [hs']
    exact trodAll_stays hl hb hr hlt hsp hA
  have hvars : ∀ sp : Nat → Bool, DataW.TrodVars enc P W' sp s.vars (s.fn H (ds ++ [])).vars [] := by
    intro sp
    rw [hs', hsv]
    rfl
  have hok : ∀ (j : Nat) (t : TypeId) (r : Value), f.resultTypes[j]? = some t → ((Value.bool true).resultList f.resultTypes.size)[j]? = some r → Value.okWide P W' .any 0 t r := by
    have := ok_one (P := P) (W' := W') (f := f) (v := .bool true) hrt rfl (okWide_bool_mk hbt true)
    exact this
  have hold : ∀ x ∈ before, (fun b => decide (b < W.heap.size)) x.block = true := fun x hx => by simpa using hlt x hx
  refine ⟨ds, [], before, [], before, [], hW1, hres _ _ _, hargs _ hold, hvars _, World.keptBut_mono (fun x hx => ⟨hx, ?_⟩) (hb.frame (· ∈ before)), fun _ => ?_⟩
  · first | exact Or.inr hx | exact Or.inr (Or.inl hx) | simpa using hx
  · refine ⟨hok, _, _, ([] ++ before) ++ [], ⟨[] ++ before, [], trodAll_append (hargs _ (fun _ _ => rfl)) (hres _ _ _), hvars _, rfl, ?_, fun ha => by cases ha⟩, ?_⟩
    · intro b off hx
      have hin : MemPlace.cell b off ∈ before := by simpa using hx
      rw [hb.frozen (hlt _ hin)]
      exact hz b off hin
    · exact fun p hp _ => by simpa using hp

theorem law_lift {C : Checked} {F : FuncId} {fn : Func} {s : ChangeSpec} {bt : TypeId} {os : Os} (started : os.Started) (own : ownKnob C.prog.godebug = none) (noInit : C.prog.inits.idxOf? F = none) (hfn : C.prog.funcs[F]? = some fn)
    (hrt : fn.resultTypes = #[bt]) (hbt : C.prog.underlying bt = some .bool) (hsv : s.vars = []) (hl : laidOutB C.prog = true) (hr : ∀ t ∈ fn.params.toList, C.prog.readableRec t = true ∧ t < C.prog.types.size)
    (hs : ∀ ds : List (DataW H), ds.length = fn.params.toList.length → s.fn H ds = { results := [.lit (.bool true)], args := ds })
    (witness : ∃ (w : World) (tape : Tape) (i : Input), w.os = os ∧ (w.forCall tape i).Shaped C.prog ∧ i.vars = [] ∧ Input.okWide C.prog (w.forCall tape i) .any w.heap.size F i ∧
      s.pre6 enc C.prog fn [] false (w.forCall tape i).memory i.args ∧ Assume.holds {} C.prog (lone (Frame.enter C.prog F i.args .normal) [] (w.forCall tape i)))
    (contract : ∀ (W : World) (base : Nat) (args : Array Value) (ds : List (DataW H)) (p : List MemPlace), (∀ (j : Nat) t v, fn.params[j]? = some t → args[j]? = some v → Value.okWide C.prog W .any base t v) →
      DataW.TrodAll enc C.prog W 0 (fun _ => true) true fn.params.toList args.toList ds p → (∀ x ∈ p, x.block < W.heap.size) → Calls C.prog F args W fun e w' => e = .returned (.bool true) ∧ Below W.heap.size W w') (fresh handsOn again : Bool) :
    ReturnsInHanded {} C os F .any (s.pre6 enc C.prog fn [] false) (s.post enc C.prog fn false fresh handsOn again) := by
  refine returnsInHanded_of_change own started noInit hfn witness ?_
  intro W base args ds gs before hval hW hc _
  have hW1 := hW
  obtain ⟨p, q, hA, hV, hpq, hz, hn⟩ := hW
  have hA1 : DataW.TrodAll enc C.prog W 0 (fun _ => true) true fn.params.toList args.toList ds p := hA
  rw [hsv] at hV
  obtain ⟨_, rfl⟩ := trodVars_none hV
  have hlen : ds.length = fn.params.toList.length := by
    clear hW1 hA hval hpq hc contract witness
    generalize fn.params.toList = ts at hA1
    generalize args.toList = vs at hA1
    induction ts generalizing vs ds p with
    | nil => obtain ⟨_, rfl, _⟩ := trodAll_nil hA1; rfl
    | cons t ts ih =>
      obtain ⟨_, _, _, _, _, _, rfl, rfl, rfl, _, h1⟩ := trodAll_cons hA1
      rw [List.length_cons, List.length_cons, ih _ _ _ h1]
  refine (contract W base args ds p hval hA1 (fun x hx => hW1.lt x (by rw [hpq]; exact List.mem_append_left _ hx))).mono fun e W' ⟨he, hb⟩ => ?_
  subst he
  exact ⟨_, rfl, law_post hrt hbt hsv (hs ds hlen) hl hr hW1 hb⟩
end

section
variable {H : Type} {enc : TypeId × Value → H} {w : World} {base : Nat} {spare : Nat → Bool} {held : Bool}
theorem spot_none {w : World} {a : Addr} {v : Value} (h : w.cell? a = some v) : a.spot = none ∧ a.block < w.heap.size := by
  unfold World.cell? at h
  split at h
  · rename_i hb
    refine ⟨?_, (Array.getElem?_eq_some_iff.1 hb).1⟩
    split at h
    · cases h
    · rename_i hs
      simpa using hs
  · cases h
theorem spot_first {w : World} {a : Addr} {v : Value} (h : w.cell? (a.add 0) = some v) : ∃ b o : Nat, a = ⟨b, o, none⟩ ∧ b < w.heap.size := by
  have e : a.add 0 = a := if_pos rfl
  rw [e] at h
  obtain ⟨hs, hb⟩ := spot_none h
  obtain ⟨b, o, s⟩ := a
  have hs' : s = none := hs
  subst hs'
  exact ⟨b, o, rfl, hb⟩
end
theorem okw_cell {P : Program} {w : World} {r : Reach} {b0 : Nat} {t : TypeId} {fs : Array Field} {ts : List TypeId} {cs : Array Value} (hs : P.underlying t = some (.struct fs)) (hts : P.cellTypes P.depth t = some ts) (hv : Value.okWide P w r b0 t (.agg cs)) {i : Nat} {v : Value} {u : TypeId} (hi : cs[i]? = some v) (hu : ts[i]? = some u) : Cell.okWide P w r b0 u v := by
  simp only [Value.okWide, hs] at hv
  obtain ⟨cs', e, h2, ts', h3, _, h4⟩ := hv
  cases e
  rw [hts] at h3
  cases h3
  obtain ⟨u', h5, h6⟩ := h4 i v hi
  have hl : i < ts.length := (List.getElem?_eq_some_iff.1 hu).1
  rw [Nat.mod_eq_of_lt hl, hu] at h5
  cases h5
  exact h6
theorem okw_slice {P : Program} {w : World} {r : Reach} {b0 : Nat} {u e : TypeId} {a : Addr} {n c : Nat} (hu : P.underlying u = some (.slice e)) (h : Cell.okWide P w r b0 u (.slice (some a) n c)) : a.block < w.heap.size := by
  simp only [Cell.okWide, Cell.ok, hu] at h
  obtain ⟨_, _, _, _, row, cells, hsh, _⟩ := h
  unfold World.shape? at hsh
  rcases Nat.lt_or_ge a.block w.heap.size with hl | hl
  · exact hl
  · rw [Array.getElem?_eq_none hl] at hsh
    simp at hsh
section
variable {H : Type} {enc : TypeId × Value → H} {w : World} {base : Nat} {held : Bool}
theorem spanCells : Try.prog.cellsOf 23 = 2 := by kernel_rfl
set_option maxRecDepth 100000 in
theorem open_spanC {cs : List Value} {x : DataW H × List MemPlace} {fuel : Nat} (hf : DataW.trod enc Try.prog w base (fun _ => true) held fuel 23 cs = some x) :
    ∃ (xL : Int) (xH : Int), cs = [.int .i64 xL, .int .i64 xH] ∧ (Lit.int .i64 xL).wf = true ∧ (Lit.int .i64 xH).wf = true := by
  obtain ⟨xs, n, _, _, hcl, hlen, hg⟩ := DataW.trod_struct Try.underlying23 hf
  rw [spanCells] at hcl
  match cs, hcl with
  | [c0, c1], _ =>
    have look : ∀ j, j < xs.length → ∃ y, xs[j]? = some y := fun j hj => ⟨_, List.getElem?_eq_getElem hj⟩
    have hxl : xs.length = 2 := hlen
    obtain ⟨y0, hy0⟩ := look 0 (by omega)
    have g0 : DataW.trod enc Try.prog w base (fun _ => true) held n 3 (List.take (Try.prog.cellsOf 3) (List.drop 0 [c0, c1])) = some y0 := (hg 0 _ rfl).trans hy0
    rw [show Try.prog.cellsOf 3 = 1 by kernel_rfl] at g0
    simp only [List.drop_succ_cons, List.drop_zero, List.take_succ_cons, List.take_zero] at g0
    obtain ⟨y1, hy1⟩ := look 1 (by omega)
    have g1 : DataW.trod enc Try.prog w base (fun _ => true) held n 3 (List.take (Try.prog.cellsOf 3) (List.drop 1 [c0, c1])) = some y1 := (hg 1 _ rfl).trans hy1
    rw [show Try.prog.cellsOf 3 = 1 by kernel_rfl] at g1
    simp only [List.drop_succ_cons, List.drop_zero, List.take_succ_cons, List.take_zero] at g1
    obtain ⟨xL, k0, _, w0⟩ := DataW.trod_int Try.underlying3 g0
    obtain ⟨xH, k1, _, w1⟩ := DataW.trod_int Try.underlying3 g1
    simp only [List.cons.injEq, and_true] at k0 k1
    subst k0
    subst k1
    exact ⟨xL, xH, rfl, w0, w1⟩
theorem partyCells : Try.prog.cellsOf 42 = 4 := by kernel_rfl
set_option maxRecDepth 100000 in
theorem open_partyC {cs : List Value} {x : DataW H × List MemPlace} {fuel : Nat} (hf : DataW.trod enc Try.prog w base (fun _ => true) held fuel 42 cs = some x) :
    ∃ (xI : Int) (xP : Int) (xD : Int) (xQ : Int), cs = [.int .i64 xI, .int .i64 xP, .int .i64 xD, .int .i64 xQ] ∧ (Lit.int .i64 xI).wf = true ∧ (Lit.int .i64 xP).wf = true ∧ (Lit.int .i64 xD).wf = true ∧ (Lit.int .i64 xQ).wf = true := by
  obtain ⟨xs, n, _, _, hcl, hlen, hg⟩ := DataW.trod_struct Try.underlying42 hf
  rw [partyCells] at hcl
  match cs, hcl with
  | [c0, c1, c2, c3], _ =>
    have look : ∀ j, j < xs.length → ∃ y, xs[j]? = some y := fun j hj => ⟨_, List.getElem?_eq_getElem hj⟩
    have hxl : xs.length = 4 := hlen
    obtain ⟨y0, hy0⟩ := look 0 (by omega)
    have g0 : DataW.trod enc Try.prog w base (fun _ => true) held n 3 (List.take (Try.prog.cellsOf 3) (List.drop 0 [c0, c1, c2, c3])) = some y0 := (hg 0 _ rfl).trans hy0
    rw [show Try.prog.cellsOf 3 = 1 by kernel_rfl] at g0
    simp only [List.drop_succ_cons, List.drop_zero, List.take_succ_cons, List.take_zero] at g0
    obtain ⟨y1, hy1⟩ := look 1 (by omega)
    have g1 : DataW.trod enc Try.prog w base (fun _ => true) held n 3 (List.take (Try.prog.cellsOf 3) (List.drop 1 [c0, c1, c2, c3])) = some y1 := (hg 1 _ rfl).trans hy1
    rw [show Try.prog.cellsOf 3 = 1 by kernel_rfl] at g1
    simp only [List.drop_succ_cons, List.drop_zero, List.take_succ_cons, List.take_zero] at g1
    obtain ⟨y2, hy2⟩ := look 2 (by omega)
    have g2 : DataW.trod enc Try.prog w base (fun _ => true) held n 3 (List.take (Try.prog.cellsOf 3) (List.drop 2 [c0, c1, c2, c3])) = some y2 := (hg 2 _ rfl).trans hy2
    rw [show Try.prog.cellsOf 3 = 1 by kernel_rfl] at g2
    simp only [List.drop_succ_cons, List.drop_zero, List.take_succ_cons, List.take_zero] at g2
    obtain ⟨y3, hy3⟩ := look 3 (by omega)
    have g3 : DataW.trod enc Try.prog w base (fun _ => true) held n 3 (List.take (Try.prog.cellsOf 3) (List.drop 3 [c0, c1, c2, c3])) = some y3 := (hg 3 _ rfl).trans hy3
    rw [show Try.prog.cellsOf 3 = 1 by kernel_rfl] at g3
    simp only [List.drop_succ_cons, List.drop_zero, List.take_succ_cons, List.take_zero] at g3
    obtain ⟨xI, k0, _, w0⟩ := DataW.trod_int Try.underlying3 g0
    obtain ⟨xP, k1, _, w1⟩ := DataW.trod_int Try.underlying3 g1
    obtain ⟨xD, k2, _, w2⟩ := DataW.trod_int Try.underlying3 g2
    obtain ⟨xQ, k3, _, w3⟩ := DataW.trod_int Try.underlying3 g3
    simp only [List.cons.injEq, and_true] at k0 k1 k2 k3
    subst k0
    subst k1
    subst k2
    subst k3
    exact ⟨xI, xP, xD, xQ, rfl, w0, w1, w2, w3⟩
set_option maxRecDepth 100000 in
theorem open_partiesC {cs : List Value} {x : DataW H × List MemPlace} {fuel : Nat} (hf : DataW.trod enc Try.prog w base (fun _ => true) held fuel 24 cs = some x) :
    ∃ (A : Option Addr) (n : Nat) (c : Nat) (xs : List G.Pt), cs = [.slice A n c] ∧ n ≤ c ∧ c ≤ maxLen ∧ xs.length = n ∧ RdG w w.heap.size A xs ∧ (A = none → c = 0) ∧ (∀ q ∈ xs, (Lit.int .i64 q.id).wf = true) := by
  rcases Go.Deep.open_slice Try.underlying24 hf with ⟨hcs, _⟩ | ⟨a, len, cap, m, n, D, Pl, hcs, _, hle, hmax, hm, _, hi⟩
  · subst hcs
    exact ⟨none, 0, 0, [], rfl, Nat.le_refl _, Nat.zero_le _, rfl, RdG.nil _ _ _, fun _ => rfl, fun q hq => by cases hq⟩
  · subst hcs
    simp only [if_true] at hm
    have each : ∀ i, i < len → ∃ q : G.Pt, w.cell? (a.add (i * 4)) = some (.int .i64 q.id) ∧ w.cell? ((a.add (i * 4)).add 1) = some (.int .i64 q.at_) ∧ w.cell? ((a.add (i * 4)).add 2) = some (.int .i64 q.size) ∧ w.cell? ((a.add (i * 4)).add 3) = some (.int .i64 q.quits) ∧ (Lit.int .i64 q.id).wf = true := by
      intro i hil
      obtain ⟨cs', hc, ht⟩ := hi i (by omega)
      obtain ⟨xI, xP, xD, xQ, rfl, u0, u1, u2, u3⟩ := open_partyC ht
      rw [partyCells] at hc
      obtain ⟨_, hcl, hat⟩ := World.cells?_some hc
      exact ⟨⟨xI, xP, xD, xQ⟩, hat 0 (by omega), hat 1 (by omega), hat 2 (by omega), hat 3 (by omega), u0⟩
    have pick : ∀ k q, ((List.range len).map (fun i => if h : i < len then (each i h).choose else ⟨0, 0, 0, 0⟩))[k]? = some q → ∃ hkn : k < len, (each k hkn).choose = q := by
      intro k q hk
      have hkn : k < len := by
        rcases Nat.lt_or_ge k len with hl | hl
        · exact hl
        · rw [List.getElem?_eq_none (by simp; omega)] at hk; cases hk
      refine ⟨hkn, ?_⟩
      rw [List.getElem?_map, List.getElem?_range hkn] at hk
      simpa [hkn] using hk
    refine ⟨some a, len, cap, ((List.range len).map (fun i => if h : i < len then (each i h).choose else ⟨0, 0, 0, 0⟩)), rfl, hle, hmax, by simp, ?_, (fun e => by cases e), fun q hq => ?_⟩
    · intro k q hk
      obtain ⟨hkn, hq⟩ := pick k q hk
      have hc := (each k hkn).choose_spec
      rw [hq] at hc
      obtain ⟨_, h00, _⟩ := each 0 (by omega)
      obtain ⟨b, o, rfl, hb'⟩ := spot_first (by rw [Nat.zero_mul] at h00; exact h00)
      simp only [add_plain] at hc
      exact ⟨b, o, rfl, hb', hc.1, hc.2.1, hc.2.2.1, hc.2.2.2.1⟩
    · obtain ⟨k, hk⟩ := List.mem_iff_getElem?.1 hq
      obtain ⟨hkn, hq'⟩ := pick k q hk
      have hc := (each k hkn).choose_spec
      rw [hq'] at hc
      exact hc.2.2.2.2
theorem freeCells : Try.prog.cellsOf 54 = 2 := by kernel_rfl
set_option maxRecDepth 100000 in
theorem open_freeC {cs : List Value} {x : DataW H × List MemPlace} {fuel : Nat} (hf : DataW.trod enc Try.prog w base (fun _ => true) held fuel 54 cs = some x) :
    ∃ (xI : Int) (xP : Int), cs = [.int .i64 xI, .int .i64 xP] ∧ (Lit.int .i64 xI).wf = true ∧ (Lit.int .i64 xP).wf = true := by
  obtain ⟨xs, n, _, _, hcl, hlen, hg⟩ := DataW.trod_struct Try.underlying54 hf
  rw [freeCells] at hcl
  match cs, hcl with
  | [c0, c1], _ =>
    have look : ∀ j, j < xs.length → ∃ y, xs[j]? = some y := fun j hj => ⟨_, List.getElem?_eq_getElem hj⟩
    have hxl : xs.length = 2 := hlen
    obtain ⟨y0, hy0⟩ := look 0 (by omega)
    have g0 : DataW.trod enc Try.prog w base (fun _ => true) held n 3 (List.take (Try.prog.cellsOf 3) (List.drop 0 [c0, c1])) = some y0 := (hg 0 _ rfl).trans hy0
    rw [show Try.prog.cellsOf 3 = 1 by kernel_rfl] at g0
    simp only [List.drop_succ_cons, List.drop_zero, List.take_succ_cons, List.take_zero] at g0
    obtain ⟨y1, hy1⟩ := look 1 (by omega)
    have g1 : DataW.trod enc Try.prog w base (fun _ => true) held n 3 (List.take (Try.prog.cellsOf 3) (List.drop 1 [c0, c1])) = some y1 := (hg 1 _ rfl).trans hy1
    rw [show Try.prog.cellsOf 3 = 1 by kernel_rfl] at g1
    simp only [List.drop_succ_cons, List.drop_zero, List.take_succ_cons, List.take_zero] at g1
    obtain ⟨xI, k0, _, w0⟩ := DataW.trod_int Try.underlying3 g0
    obtain ⟨xP, k1, _, w1⟩ := DataW.trod_int Try.underlying3 g1
    simp only [List.cons.injEq, and_true] at k0 k1
    subst k0
    subst k1
    exact ⟨xI, xP, rfl, w0, w1⟩
set_option maxRecDepth 100000 in
theorem open_freesC {cs : List Value} {x : DataW H × List MemPlace} {fuel : Nat} (hf : DataW.trod enc Try.prog w base (fun _ => true) held fuel 25 cs = some x) :
    ∃ (A : Option Addr) (n : Nat) (c : Nat) (xs : List G.Fr), cs = [.slice A n c] ∧ n ≤ c ∧ c ≤ maxLen ∧ xs.length = n ∧ RdF w w.heap.size A xs ∧ (A = none → c = 0) := by
  rcases Go.Deep.open_slice Try.underlying25 hf with ⟨hcs, _⟩ | ⟨a, len, cap, m, n, D, Pl, hcs, _, hle, hmax, hm, _, hi⟩
  · subst hcs
    exact ⟨none, 0, 0, [], rfl, Nat.le_refl _, Nat.zero_le _, rfl, RdF.nil _ _ _, fun _ => rfl⟩
  · subst hcs
    simp only [if_true] at hm
    have each : ∀ i, i < len → ∃ q : G.Fr, w.cell? (a.add (i * 2)) = some (.int .i64 q.at_) ∧ w.cell? ((a.add (i * 2)).add 1) = some (.int .i64 q.count) := by
      intro i hil
      obtain ⟨cs', hc, ht⟩ := hi i (by omega)
      obtain ⟨xI, xP, rfl, u0, u1⟩ := open_freeC ht
      rw [freeCells] at hc
      obtain ⟨_, hcl, hat⟩ := World.cells?_some hc
      exact ⟨⟨xI, xP⟩, hat 0 (by omega), hat 1 (by omega)⟩
    have pick : ∀ k q, ((List.range len).map (fun i => if h : i < len then (each i h).choose else ⟨0, 0⟩))[k]? = some q → ∃ hkn : k < len, (each k hkn).choose = q := by
      intro k q hk
      have hkn : k < len := by
        rcases Nat.lt_or_ge k len with hl | hl
        · exact hl
        · rw [List.getElem?_eq_none (by simp; omega)] at hk; cases hk
      refine ⟨hkn, ?_⟩
      rw [List.getElem?_map, List.getElem?_range hkn] at hk
      simpa [hkn] using hk
    refine ⟨some a, len, cap, ((List.range len).map (fun i => if h : i < len then (each i h).choose else ⟨0, 0⟩)), rfl, hle, hmax, by simp, ?_, (fun e => by cases e)⟩
    · intro k q hk
      obtain ⟨hkn, hq⟩ := pick k q hk
      have hc := (each k hkn).choose_spec
      rw [hq] at hc
      obtain ⟨_, h00, _⟩ := each 0 (by omega)
      obtain ⟨b, o, rfl, hb'⟩ := spot_first (by rw [Nat.zero_mul] at h00; exact h00)
      simp only [add_plain] at hc
      exact ⟨b, o, rfl, hb', hc.1, hc.2⟩
theorem queueCells : Try.prog.cellsOf 27 = 6 := by kernel_rfl
set_option maxRecDepth 100000 in
theorem open_queueC {cs : List Value} {x : DataW H × List MemPlace} {fuel : Nat} (hf : DataW.trod enc Try.prog w base (fun _ => true) held fuel 27 cs = some x) :
    ∃ (xO : Int) (xLR : Int) (xHR : Int) (xS : Int) (AG : Option Addr) (nG : Nat) (cG : Nat) (xsG : List G.Pt) (AF : Option Addr) (nF : Nat) (cF : Nat) (xsF : List G.Fr), cs = [.int .i64 xO, .int .i64 xLR, .int .i64 xHR, .int .i64 xS, .slice AG nG cG, .slice AF nF cF] ∧ (Lit.int .i64 xO).wf = true ∧ (Lit.int .i64 xLR).wf = true ∧ (Lit.int .i64 xHR).wf = true ∧ (Lit.int .i64 xS).wf = true ∧ nG ≤ cG ∧ cG ≤ maxLen ∧ xsG.length = nG ∧ RdG w w.heap.size AG xsG ∧ (AG = none → cG = 0) ∧ (∀ q ∈ xsG, (Lit.int .i64 q.id).wf = true) ∧ nF ≤ cF ∧ cF ≤ maxLen ∧ xsF.length = nF ∧ RdF w w.heap.size AF xsF ∧ (AF = none → cF = 0) := by
  obtain ⟨xs, n, _, _, hcl, hlen, hg⟩ := DataW.trod_struct Try.underlying27 hf
  rw [queueCells] at hcl
  match cs, hcl with
  | [c0, c1, c2, c3, c4, c5], _ =>
    have look : ∀ j, j < xs.length → ∃ y, xs[j]? = some y := fun j hj => ⟨_, List.getElem?_eq_getElem hj⟩
    have hxl : xs.length = 5 := hlen
    obtain ⟨y0, hy0⟩ := look 0 (by omega)
    have g0 : DataW.trod enc Try.prog w base (fun _ => true) held n 3 (List.take (Try.prog.cellsOf 3) (List.drop 0 [c0, c1, c2, c3, c4, c5])) = some y0 := (hg 0 _ rfl).trans hy0
    rw [show Try.prog.cellsOf 3 = 1 by kernel_rfl] at g0
    simp only [List.drop_succ_cons, List.drop_zero, List.take_succ_cons, List.take_zero] at g0
    obtain ⟨y1, hy1⟩ := look 1 (by omega)
    have g1 : DataW.trod enc Try.prog w base (fun _ => true) held n 23 (List.take (Try.prog.cellsOf 23) (List.drop 1 [c0, c1, c2, c3, c4, c5])) = some y1 := (hg 1 _ rfl).trans hy1
    rw [show Try.prog.cellsOf 23 = 2 by kernel_rfl] at g1
    simp only [List.drop_succ_cons, List.drop_zero, List.take_succ_cons, List.take_zero] at g1
    obtain ⟨y2, hy2⟩ := look 2 (by omega)
    have g2 : DataW.trod enc Try.prog w base (fun _ => true) held n 3 (List.take (Try.prog.cellsOf 3) (List.drop 3 [c0, c1, c2, c3, c4, c5])) = some y2 := (hg 2 _ rfl).trans hy2
    rw [show Try.prog.cellsOf 3 = 1 by kernel_rfl] at g2
    simp only [List.drop_succ_cons, List.drop_zero, List.take_succ_cons, List.take_zero] at g2
    obtain ⟨y3, hy3⟩ := look 3 (by omega)
    have g3 : DataW.trod enc Try.prog w base (fun _ => true) held n 24 (List.take (Try.prog.cellsOf 24) (List.drop 4 [c0, c1, c2, c3, c4, c5])) = some y3 := (hg 3 _ rfl).trans hy3
    rw [show Try.prog.cellsOf 24 = 1 by kernel_rfl] at g3
    simp only [List.drop_succ_cons, List.drop_zero, List.take_succ_cons, List.take_zero] at g3
    obtain ⟨y4, hy4⟩ := look 4 (by omega)
    have g4 : DataW.trod enc Try.prog w base (fun _ => true) held n 25 (List.take (Try.prog.cellsOf 25) (List.drop 5 [c0, c1, c2, c3, c4, c5])) = some y4 := (hg 4 _ rfl).trans hy4
    rw [show Try.prog.cellsOf 25 = 1 by kernel_rfl] at g4
    simp only [List.drop_succ_cons, List.drop_zero, List.take_succ_cons, List.take_zero] at g4
    obtain ⟨xO, k0, _, w0⟩ := DataW.trod_int Try.underlying3 g0
    obtain ⟨xLR, xHR, k1, h1_0, h1_1⟩ := open_spanC g1
    obtain ⟨xS, k2, _, w2⟩ := DataW.trod_int Try.underlying3 g2
    obtain ⟨AG, nG, cG, xsG, k3, h3_0, h3_1, h3_2, h3_3, h3_4, h3_5⟩ := open_partiesC g3
    obtain ⟨AF, nF, cF, xsF, k4, h4_0, h4_1, h4_2, h4_3, h4_4⟩ := open_freesC g4
    simp only [List.cons.injEq, and_true] at k0 k1 k2 k3 k4
    subst k0
    obtain ⟨rfl, rfl⟩ := k1
    subst k2
    subst k3
    subst k4
    exact ⟨xO, xLR, xHR, xS, AG, nG, cG, xsG, AF, nF, cF, xsF, rfl, w0, h1_0, h1_1, w2, h3_0, h3_1, h3_2, h3_3, h3_4, h3_5, h4_0, h4_1, h4_2, h4_3, h4_4⟩
set_option maxRecDepth 100000 in
theorem open_queue {r : Reach} {b0 : Nat} {v : Value} {d : DataW H} {p : List MemPlace} (hv : Value.okWide Try.prog w r b0 27 v) (h : DataW.Trod enc Try.prog w base (fun _ => true) held 27 v d p) :
    ∃ (xO : Int) (xLR : Int) (xHR : Int) (xS : Int) (AG : Option Addr) (nG : Nat) (cG : Nat) (xsG : List G.Pt) (AF : Option Addr) (nF : Nat) (cF : Nat) (xsF : List G.Fr), v = .agg #[.int .i64 xO, .int .i64 xLR, .int .i64 xHR, .int .i64 xS, .slice AG nG cG, .slice AF nF cF] ∧ (Lit.int .i64 xO).wf = true ∧ (Lit.int .i64 xLR).wf = true ∧ (Lit.int .i64 xHR).wf = true ∧ (Lit.int .i64 xS).wf = true ∧ nG ≤ cG ∧ cG ≤ maxLen ∧ xsG.length = nG ∧ RdG w w.heap.size AG xsG ∧ (AG = none → cG = 0) ∧ (∀ q ∈ xsG, (Lit.int .i64 q.id).wf = true) ∧ nF ≤ cF ∧ cF ≤ maxLen ∧ xsF.length = nF ∧ RdF w w.heap.size AF xsF ∧ (AF = none → cF = 0) := by
  obtain ⟨cs, rfl, hsz⟩ := okWide_struct Try.underlying27 hv
  obtain ⟨l⟩ := cs
  obtain ⟨fuel, hf⟩ := h
  have hcells : (Value.agg ⟨l⟩).cells.toList = l := by simp [Value.cells]
  rw [hcells] at hf
  obtain ⟨xO, xLR, xHR, xS, AG, nG, cG, xsG, AF, nF, cF, xsF, rfl, hh0, hh1, hh2, hh3, hh4, hh5, hh6, hh7, hh8, hh9, hh10, hh11, hh12, hh13, hh14⟩ := open_queueC hf
  exact ⟨xO, xLR, xHR, xS, AG, nG, cG, xsG, AF, nF, cF, xsF, rfl, hh0, hh1, hh2, hh3, hh4, hh5, hh6, hh7, hh8, hh9, hh10, hh11, hh12, hh13, hh14⟩
end
theorem queue_types : Try.prog.cellTypes Try.prog.depth 27 = some [3, 3, 3, 3, 24, 25] := by kernel_rfl
set_option maxRecDepth 100000 in
theorem queue_in {r : Reach} {b0 : Nat} {W : World} {xO xLR xHR xS : Int} {AG AF : Option Addr} {nG cG nF cF : Nat} {gs : List G.Pt} {fs : List G.Fr} (hv : Value.okWide Try.prog W r b0 27 (.agg #[.int .i64 xO, .int .i64 xLR, .int .i64 xHR, .int .i64 xS, .slice AG nG cG, .slice AF nF cF]))
    (hg : gs.length = nG) (hf : fs.length = nF) (hn : nG ≤ 100) (hm : nF ≤ 100) (rg : RdG W W.heap.size AG gs) (rf : RdF W W.heap.size AF fs) (hfz : AF = none → cF = 0) (hid : ∀ p ∈ gs, (Lit.int .i64 p.id).wf = true) : QIn W ⟨xO, xLR, xHR, xS, gs, fs⟩ AG nG cG AF nF cF :=
  have ha : ∀ b o, AG = some ⟨b, o, none⟩ → b < W.heap.size := fun b o e => by
    have h := okw_cell (i := 4) (v := .slice AG nG cG) (u := 24) Try.underlying27 queue_types hv rfl rfl
    rw [e] at h
    exact okw_slice (a := ⟨b, o, none⟩) Try.underlying24 h
  ⟨hg, hf, by omega, by omega, rg, rf, ha, hfz, hid⟩
end Go.Proofs.Ytlpjkolocgkcpaa

namespace Go.Proofs.Ytlpjkolocgkcpaa
open Go.ChangeShapes Go.WideShapes Go.ChangeAt Go.RowKit Go.Deep Go.Joins
attribute [local go_sem ↓] Go.wp_at_zero Go.wp_at_succ

theorem Try.ownGateTurn : ownKnob Try.prog.godebug = none := by kernel_rfl

set_option maxRecDepth 100000 in
theorem gateTurn_call (H : Type) (enc : TypeId × Value → H) (W : World) (base : Nat) (args : Array Value) (ds : List (DataW H)) (p : List MemPlace) (hval : ∀ (j : Nat) t v, Try.f7.params[j]? = some t → args[j]? = some v → Value.okWide Try.prog W .any base t v)
    (hA : DataW.TrodAll enc Try.prog W 0 (fun _ => true) true Try.f7.params.toList args.toList ds p) : Calls Try.prog 7 args W fun e W' => e = .returned (.bool true) ∧ Below W.heap.size W W' := by
  rw [Try.params7] at hA hval
  obtain ⟨v0, v1, d0, d1, p0, p1, rfl, rfl, rfl, h0, h1⟩ := trodAll_two hA
  obtain ⟨xO0, xLR0, xHR0, xS0, AG0, nG0, cG0, xsG0, AF0, nF0, cF0, xsF0, rfl, f0_0, f0_1, f0_2, f0_3, f0_4, f0_5, f0_6, f0_7, f0_8, f0_9, f0_10, f0_11, f0_12, f0_13, f0_14⟩ := open_queue (hval 0 27 v0 rfl rfl) h0
  obtain ⟨x1, rfl, _, _, f1_0⟩ := Go.ChangeShapes.open_int Try.underlying3 (hval 1 3 v1 rfl rfl) h1
  by_cases hh : nG0 ≤ 100 ∧ nF0 ≤ 100
  · exact turnLaw_any ⟨xO0, xLR0, xHR0, xS0, xsG0, xsF0⟩ AG0 nG0 cG0 AF0 nF0 cF0 x1 W (queue_in (hval 0 27 _ rfl rfl) f0_6 f0_12 hh.1 hh.2 f0_7 f0_13 f0_14 f0_9) hh.1 hh.2
  · exact turnLaw_long ⟨xO0, xLR0, xHR0, xS0, xsG0, xsF0⟩ AG0 nG0 cG0 AF0 nF0 cF0 x1 W (by omega)

set_option maxRecDepth 100000 in
theorem GateTurn_holds : Rows.GateTurnSaid :=
  OpenClaim.holds_of_wide (p := Try.pinned) (s := Rows.gateTurnSpec) (c := Rows.gateTurnRow) 7 Try.f7 rfl rfl rfl rfl rfl rfl rfl ⟨rfl, rfl, rfl, rfl, rfl⟩ rfl rfl rfl rfl rfl (by kernel_rfl) Try.func7 (by kernel_rfl)
    (of_decide_eq_true (by kernel_rfl)) (by unfold Func.isWrapper; first | (rw [if_pos (by decide +kernel)]; kernel_rfl) | (rw [if_neg (by decide +kernel)]; exact ⟨rfl, rfl⟩))
    (fun os started H enc _ => law_lift (C := Try.checked) (F := 7) (fn := Try.f7) (s := Rows.gateTurnSpec) (bt := 4) started Try.ownGateTurn (by kernel_rfl) Try.func7 (by kernel_rfl) Try.underlying4 rfl laidOut (of_decide_eq_true (by kernel_rfl))
      (fun ds hds => match ds, hds with | [_, _], _ => rfl)
      (ChangeSpec.witness6 (enc := enc) (C := Try.checked) false ⟨#[], #[.agg #[.int .i64 0, .int .i64 0, .int .i64 0, .int .i64 0, .slice none 0 0, .slice none 0 0], .int .i64 0], []⟩ 8 (by kernel_rfl) (by kernel_rfl) (by kernel_rfl) (by kernel_rfl))
      (fun W base args ds p hval hA _ => gateTurn_call H enc W base args ds p hval hA) _ _ _)

end Go.Proofs.Ytlpjkolocgkcpaa
