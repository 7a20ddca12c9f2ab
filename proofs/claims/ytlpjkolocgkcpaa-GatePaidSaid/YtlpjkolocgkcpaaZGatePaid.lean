/-
  For all terms, tickets and fewer minutes the law GatePaid returns true and leaves its arguments as they were. No condition.
-/
import Derived.Test.YtlpjkolocgkcpaaRows
import Derived.Carry
import Derived.ProofKit
import Derived.Deep.Slices
import Derived.Deep.Fields
import Derived.Lib.SmallJoins
import Derived.Test.YtlpjkolocgkcpaaZB01
import Derived.Test.YtlpjkolocgkcpaaZB05
namespace Go.Proofs.Ytlpjkolocgkcpaa
open Go.ChangeShapes Go.WideShapes Go.ChangeAt Go.RowKit Go.Deep Go.Joins

theorem laidOut : laidOutB Try.prog = true := by kernel_rfl
section
variable {H : Type} {enc : TypeId × Value → H} {P : Program}

theorem trodAll_stays {W W' : World} {sp : Nat → Bool} (hl : laidOutB P = true) (hb : Below W.heap.size W W') : ∀ {ts : List TypeId} {vs : List Value} {ds : List (DataW H)} {ps : List MemPlace}, (∀ t ∈ ts, P.readableRec t = true ∧ t < P.types.size) → (∀ x ∈ ps, x.block < W.heap.size) → (∀ x ∈ ps, sp x.block = true) → DataW.TrodAll enc P W 0 (fun _ => true) true ts vs ds ps → DataW.TrodAll enc P W' 0 sp true ts vs ds ps
  | [], vs, ds, ps, _, _, _, h => by
    obtain ⟨rfl, rfl, rfl⟩ := trodAll_nil h
    exact trodAll_mk0
  | t :: ts, vs, ds, ps, hr, hlt, hsp, h => by
    obtain ⟨v, vs', d, ds', p, q, rfl, rfl, rfl, h0, h1⟩ := trodAll_cons h
    refine trodAll_cons_mk ?_ (trodAll_stays hl hb (fun t ht => hr t (List.mem_cons_of_mem _ ht)) (fun x hx => hlt x (List.mem_append_right _ hx)) (fun x hx => hsp x (List.mem_append_right _ hx)) h1)
    exact WideElems.Trod_stays hl (hr t (List.mem_cons_self ..)).1 (hr t (List.mem_cons_self ..)).2 h0 (fun x hx => hb.same (hlt x (List.mem_append_left _ hx))) (fun x hx => hsp x (List.mem_append_left _ hx))

theorem law_post {f : Func} {s : ChangeSpec} {fresh handsOn again : Bool} {W W' : World} {args : Array Value} {bt : TypeId} {ds gs : List (DataW H)} {before : List MemPlace}
    (hrt : f.resultTypes = #[bt]) (hbt : P.underlying bt = some .bool) (hsv : s.vars = []) (hs : s.fn H ds = { results := [.lit (.bool true)], args := ds }) (hl : laidOutB P = true) (hr : ∀ t ∈ f.params.toList, P.readableRec t = true ∧ t < P.types.size)
    (hW : DataW.Whole enc P f.params.toList s.vars false W args.toList ds gs before) (hb : Below W.heap.size W W') : s.post enc P f false fresh handsOn again W args (.bool true) W' := by
  have hlt : ∀ p ∈ before, p.block < W.heap.size := fun p hp => hW.lt p hp
  have hW1 := hW
  obtain ⟨p, q, hA, hV, hpq, hz, hn⟩ := hW
  rw [hsv] at hV
  obtain ⟨rfl, rfl⟩ := trodVars_none hV
  rw [List.append_nil] at hpq
  subst hpq
  have hs' : s.fn H (ds ++ []) = { results := [.lit (.bool true)], args := ds } := by rw [List.append_nil]; exact hs
  have hres : ∀ (b : Nat) (sp : Nat → Bool) (hd : Bool), DataW.TrodAll enc P W' b sp hd f.resultTypes.toList ((Value.bool true).resultList f.resultTypes.size) (s.fn H (ds ++ [])).results [] := by
    intro b sp hd
    rw [hs', hrt]
    exact trodAll_mk1 (shut_bool hbt true)
  have hargs : ∀ sp : Nat → Bool, (∀ x ∈ before, sp x.block = true) → DataW.TrodAll enc P W' 0 sp true f.params.toList args.toList (s.fn H (ds ++ [])).args before := by
    intro sp hsp
    rw [hs']
    exact trodAll_stays hl hb hr hlt hsp hA
  have hvars : ∀ sp : Nat → Bool, DataW.TrodVars enc P W' sp s.vars (s.fn H (ds ++ [])).vars [] := by
    intro sp
    rw [hs', hsv]
    rfl
  have hok : ∀ (j : Nat) (t : TypeId) (r : Value), f.resultTypes[j]? = some t → ((Value.bool true).resultList f.resultTypes.size)[j]? = some r → Value.okWide P W' .any 0 t r := by
    have := ok_one (P := P) (W' := W') (f := f) (v := .bool true) hrt rfl (okWide_bool_mk hbt true)
    exact this
  have hold : ∀ x ∈ before, (fun b => decide (b < W.heap.size)) x.block = true := fun x hx => by simpa using hlt x hx
  refine ⟨ds, [], before, [], before, [], hW1, hres _ _ _, hargs _ hold, hvars _, World.keptBut_mono (fun x hx => ⟨hx, ?_⟩) (hb.frame (· ∈ before)), fun _ => ?_⟩
  · first | exact Or.inr hx | exact Or.inr (Or.inl hx) | simpa using hx
  · refine ⟨hok, _, _, ([] ++ before) ++ [], ⟨[] ++ before, [], trodAll_append (hargs _ (fun _ _ => rfl)) (hres _ _ _), hvars _, rfl, ?_, fun ha => by cases ha⟩, ?_⟩
    · intro b off hx
      have hin : MemPlace.cell b off ∈ before := by simpa using hx
      rw [hb.frozen (hlt _ hin)]
      exact hz b off hin
    · exact fun p hp _ => by simpa using hp

theorem law_lift {C : Checked} {F : FuncId} {fn : Func} {s : ChangeSpec} {bt : TypeId} {os : Os} (started : os.Started) (own : ownKnob C.prog.godebug = none) (noInit : C.prog.inits.idxOf? F = none) (hfn : C.prog.funcs[F]? = some fn)
    (hrt : fn.resultTypes = #[bt]) (hbt : C.prog.underlying bt = some .bool) (hsv : s.vars = []) (hl : laidOutB C.prog = true) (hr : ∀ t ∈ fn.params.toList, C.prog.readableRec t = true ∧ t < C.prog.types.size)
    (hs : ∀ ds : List (DataW H), ds.length = fn.params.toList.length → s.fn H ds = { results := [.lit (.bool true)], args := ds })
    (witness : ∃ (w : World) (tape : Tape) (i : Input), w.os = os ∧ (w.forCall tape i).Shaped C.prog ∧ i.vars = [] ∧ Input.okWide C.prog (w.forCall tape i) .any w.heap.size F i ∧
      s.pre6 enc C.prog fn [] false (w.forCall tape i).memory i.args ∧ Assume.holds {} C.prog (lone (Frame.enter C.prog F i.args .normal) [] (w.forCall tape i)))
    (contract : ∀ (W : World) (base : Nat) (args : Array Value) (ds : List (DataW H)) (p : List MemPlace), (∀ (j : Nat) t v, fn.params[j]? = some t → args[j]? = some v → Value.okWide C.prog W .any base t v) →
      DataW.TrodAll enc C.prog W 0 (fun _ => true) true fn.params.toList args.toList ds p → (∀ x ∈ p, x.block < W.heap.size) → Calls C.prog F args W fun e w' => e = .returned (.bool true) ∧ Below W.heap.size W w') (fresh handsOn again : Bool) :
    ReturnsInHanded {} C os F .any (s.pre6 enc C.prog fn [] false) (s.post enc C.prog fn false fresh handsOn again) := by
  refine returnsInHanded_of_change own started noInit hfn witness ?_
  intro W base args ds gs before hval hW hc _
  have hW1 := hW
  obtain ⟨p, q, hA, hV, hpq, hz, hn⟩ := hW
  have hA1 : DataW.TrodAll enc C.prog W 0 (fun _ => true) true fn.params.toList args.toList ds p := hA
  rw [hsv] at hV
  obtain ⟨_, rfl⟩ := trodVars_none hV
  have hlen : ds.length = fn.params.toList.length := by
    clear hW1 hA hval hpq hc contract witness
    generalize fn.params.toList = ts at hA1
    generalize args.toList = vs at hA1
    induction ts generalizing vs ds p with
    | nil => obtain ⟨_, rfl, _⟩ := trodAll_nil hA1; rfl
    | cons t ts ih =>
      obtain ⟨_, _, _, _, _, _, rfl, rfl, rfl, _, h1⟩ := trodAll_cons hA1
      rw [List.length_cons, List.length_cons, ih _ _ _ h1]
  refine (contract W base args ds p hval hA1 (fun x hx => hW1.lt x (by rw [hpq]; exact List.mem_append_left _ hx))).mono fun e W' ⟨he, hb⟩ => ?_
  subst he
  exact ⟨_, rfl, law_post hrt hbt hsv (hs ds hlen) hl hr hW1 hb⟩
end

section
variable {H : Type} {enc : TypeId × Value → H} {w : World} {base : Nat} {spare : Nat → Bool} {held : Bool}
theorem spot_none {w : World} {a : Addr} {v : Value} (h : w.cell? a = some v) : a.spot = none ∧ a.block < w.heap.size := by
  unfold World.cell? at h
  split at h
  · rename_i hb
    refine ⟨?_, (Array.getElem?_eq_some_iff.1 hb).1⟩
    split at h
    · cases h
    · rename_i hs
      simpa using hs
  · cases h
theorem spot_first {w : World} {a : Addr} {v : Value} (h : w.cell? (a.add 0) = some v) : ∃ b o : Nat, a = ⟨b, o, none⟩ ∧ b < w.heap.size := by
  have e : a.add 0 = a := if_pos rfl
  rw [e] at h
  obtain ⟨hs, hb⟩ := spot_none h
  obtain ⟨b, o, s⟩ := a
  have hs' : s = none := hs
  subst hs'
  exact ⟨b, o, rfl, hb⟩
end
section
variable {H : Type} {enc : TypeId × Value → H} {w : World} {base : Nat} {held : Bool}
theorem intCells' : Try.prog.cellsOf 3 = 1 := by kernel_rfl
theorem open_intsC {cs : List Value} {x : DataW H × List MemPlace} {fuel : Nat} (hf : DataW.trod enc Try.prog w base (fun _ => true) held fuel 35 cs = some x) :
    ∃ (A : Option Addr) (n c : Nat) (xs : List Int), cs = [.slice A n c] ∧ n ≤ c ∧ c ≤ maxLen ∧ xs.length = n ∧ RdI w w.heap.size A xs ∧ (∀ x ∈ xs, (Lit.int .i64 x).wf = true) ∧ (A = none → c = 0) := by
  rcases Go.ChangeShapes.open_ints Try.underlying35 Try.underlying3 intCells' hf with ⟨hcs, _⟩ | ⟨a, len, cap, zs, hcs, _, hle, hmax, hall, _, hcell, hwf⟩
  · subst hcs
    exact ⟨none, 0, 0, [], rfl, Nat.le_refl _, Nat.zero_le _, rfl, RdI.nil _ _ _, (fun x hx => by cases hx), fun _ => rfl⟩
  · subst hcs
    simp only [if_true] at hall
    refine ⟨some a, len, cap, zs.take len, rfl, hle, hmax, by rw [List.length_take]; omega, ?_, (fun x hx => hwf x (List.mem_of_mem_take hx)), fun e => by cases e⟩
    intro k x hk
    have hkn : k < len := by
      rcases Nat.lt_or_ge k len with hl | hl
      · exact hl
      · rw [List.getElem?_eq_none (by rw [List.length_take]; omega)] at hk; cases hk
    rw [List.getElem?_take_of_lt hkn] at hk
    have hc := hcell k (by omega)
    rw [List.getD_eq_getElem?_getD, hk] at hc
    obtain ⟨b, o, rfl, hb'⟩ := spot_first (hcell 0 (by omega))
    exact ⟨b, o, rfl, hb', by rw [add_plain] at hc; exact hc⟩
theorem spanCells : Try.prog.cellsOf 23 = 2 := by kernel_rfl
set_option maxRecDepth 100000 in
theorem open_spanC {cs : List Value} {x : DataW H × List MemPlace} {fuel : Nat} (hf : DataW.trod enc Try.prog w base (fun _ => true) held fuel 23 cs = some x) :
    ∃ (xL : Int) (xH : Int), cs = [.int .i64 xL, .int .i64 xH] ∧ (Lit.int .i64 xL).wf = true ∧ (Lit.int .i64 xH).wf = true := by
  obtain ⟨xs, n, _, _, hcl, hlen, hg⟩ := DataW.trod_struct Try.underlying23 hf
  rw [spanCells] at hcl
  match cs, hcl with
  | [c0, c1], _ =>
    have look : ∀ j, j < xs.length → ∃ y, xs[j]? = some y := fun j hj => ⟨_, List.getElem?_eq_getElem hj⟩
    have hxl : xs.length = 2 := hlen
    obtain ⟨y0, hy0⟩ := look 0 (by omega)
    have g0 : DataW.trod enc Try.prog w base (fun _ => true) held n 3 (List.take (Try.prog.cellsOf 3) (List.drop 0 [c0, c1])) = some y0 := (hg 0 _ rfl).trans hy0
    rw [show Try.prog.cellsOf 3 = 1 by kernel_rfl] at g0
    simp only [List.drop_succ_cons, List.drop_zero, List.take_succ_cons, List.take_zero] at g0
    obtain ⟨y1, hy1⟩ := look 1 (by omega)
    have g1 : DataW.trod enc Try.prog w base (fun _ => true) held n 3 (List.take (Try.prog.cellsOf 3) (List.drop 1 [c0, c1])) = some y1 := (hg 1 _ rfl).trans hy1
    rw [show Try.prog.cellsOf 3 = 1 by kernel_rfl] at g1
    simp only [List.drop_succ_cons, List.drop_zero, List.take_succ_cons, List.take_zero] at g1
    obtain ⟨xL, k0, _, w0⟩ := DataW.trod_int Try.underlying3 g0
    obtain ⟨xH, k1, _, w1⟩ := DataW.trod_int Try.underlying3 g1
    simp only [List.cons.injEq, and_true] at k0 k1
    subst k0
    subst k1
    exact ⟨xL, xH, rfl, w0, w1⟩
set_option maxRecDepth 100000 in
theorem open_span {r : Reach} {b0 : Nat} {v : Value} {d : DataW H} {p : List MemPlace} (hv : Value.okWide Try.prog w r b0 23 v) (h : DataW.Trod enc Try.prog w base (fun _ => true) held 23 v d p) :
    ∃ (xL : Int) (xH : Int), v = .agg #[.int .i64 xL, .int .i64 xH] ∧ (Lit.int .i64 xL).wf = true ∧ (Lit.int .i64 xH).wf = true := by
  obtain ⟨cs, rfl, hsz⟩ := okWide_struct Try.underlying23 hv
  obtain ⟨l⟩ := cs
  obtain ⟨fuel, hf⟩ := h
  have hcells : (Value.agg ⟨l⟩).cells.toList = l := by simp [Value.cells]
  rw [hcells] at hf
  obtain ⟨xL, xH, rfl, hh0, hh1⟩ := open_spanC hf
  exact ⟨xL, xH, rfl, hh0, hh1⟩
theorem termsCells : Try.prog.cellsOf 48 = 3 := by kernel_rfl
set_option maxRecDepth 100000 in
theorem open_termsC {cs : List Value} {x : DataW H × List MemPlace} {fuel : Nat} (hf : DataW.trod enc Try.prog w base (fun _ => true) held fuel 48 cs = some x) :
    ∃ (xS : Int) (xL : Int) (A : Option Addr) (n : Nat) (c : Nat) (xs : List Int), cs = [.int .i64 xS, .int .i64 xL, .slice A n c] ∧ (Lit.int .i64 xS).wf = true ∧ (Lit.int .i64 xL).wf = true ∧ n ≤ c ∧ c ≤ maxLen ∧ xs.length = n ∧ RdI w w.heap.size A xs ∧ (∀ x ∈ xs, (Lit.int .i64 x).wf = true) ∧ (A = none → c = 0) := by
  obtain ⟨xs, n, _, _, hcl, hlen, hg⟩ := DataW.trod_struct Try.underlying48 hf
  rw [termsCells] at hcl
  match cs, hcl with
  | [c0, c1, c2], _ =>
    have look : ∀ j, j < xs.length → ∃ y, xs[j]? = some y := fun j hj => ⟨_, List.getElem?_eq_getElem hj⟩
    have hxl : xs.length = 3 := hlen
    obtain ⟨y0, hy0⟩ := look 0 (by omega)
    have g0 : DataW.trod enc Try.prog w base (fun _ => true) held n 3 (List.take (Try.prog.cellsOf 3) (List.drop 0 [c0, c1, c2])) = some y0 := (hg 0 _ rfl).trans hy0
    rw [show Try.prog.cellsOf 3 = 1 by kernel_rfl] at g0
    simp only [List.drop_succ_cons, List.drop_zero, List.take_succ_cons, List.take_zero] at g0
    obtain ⟨y1, hy1⟩ := look 1 (by omega)
    have g1 : DataW.trod enc Try.prog w base (fun _ => true) held n 3 (List.take (Try.prog.cellsOf 3) (List.drop 1 [c0, c1, c2])) = some y1 := (hg 1 _ rfl).trans hy1
    rw [show Try.prog.cellsOf 3 = 1 by kernel_rfl] at g1
    simp only [List.drop_succ_cons, List.drop_zero, List.take_succ_cons, List.take_zero] at g1
    obtain ⟨y2, hy2⟩ := look 2 (by omega)
    have g2 : DataW.trod enc Try.prog w base (fun _ => true) held n 35 (List.take (Try.prog.cellsOf 35) (List.drop 2 [c0, c1, c2])) = some y2 := (hg 2 _ rfl).trans hy2
    rw [show Try.prog.cellsOf 35 = 1 by kernel_rfl] at g2
    simp only [List.drop_succ_cons, List.drop_zero, List.take_succ_cons, List.take_zero] at g2
    obtain ⟨xS, k0, _, w0⟩ := DataW.trod_int Try.underlying3 g0
    obtain ⟨xL, k1, _, w1⟩ := DataW.trod_int Try.underlying3 g1
    obtain ⟨A, n, c, xs, k2, h2_0, h2_1, h2_2, h2_3, h2_4, h2_5⟩ := open_intsC g2
    simp only [List.cons.injEq, and_true] at k0 k1 k2
    subst k0
    subst k1
    subst k2
    exact ⟨xS, xL, A, n, c, xs, rfl, w0, w1, h2_0, h2_1, h2_2, h2_3, h2_4, h2_5⟩
set_option maxRecDepth 100000 in
theorem open_terms {r : Reach} {b0 : Nat} {v : Value} {d : DataW H} {p : List MemPlace} (hv : Value.okWide Try.prog w r b0 48 v) (h : DataW.Trod enc Try.prog w base (fun _ => true) held 48 v d p) :
    ∃ (xS : Int) (xL : Int) (A : Option Addr) (n : Nat) (c : Nat) (xs : List Int), v = .agg #[.int .i64 xS, .int .i64 xL, .slice A n c] ∧ (Lit.int .i64 xS).wf = true ∧ (Lit.int .i64 xL).wf = true ∧ n ≤ c ∧ c ≤ maxLen ∧ xs.length = n ∧ RdI w w.heap.size A xs ∧ (∀ x ∈ xs, (Lit.int .i64 x).wf = true) ∧ (A = none → c = 0) := by
  obtain ⟨cs, rfl, hsz⟩ := okWide_struct Try.underlying48 hv
  obtain ⟨l⟩ := cs
  obtain ⟨fuel, hf⟩ := h
  have hcells : (Value.agg ⟨l⟩).cells.toList = l := by simp [Value.cells]
  rw [hcells] at hf
  obtain ⟨xS, xL, A, n, c, xs, rfl, hh0, hh1, hh2, hh3, hh4, hh5, hh6, hh7⟩ := open_termsC hf
  exact ⟨xS, xL, A, n, c, xs, rfl, hh0, hh1, hh2, hh3, hh4, hh5, hh6, hh7⟩
theorem ticketCells : Try.prog.cellsOf 61 = 4 := by kernel_rfl
set_option maxRecDepth 100000 in
theorem open_ticketC {cs : List Value} {x : DataW H × List MemPlace} {fuel : Nat} (hf : DataW.trod enc Try.prog w base (fun _ => true) held fuel 61 cs = some x) :
    ∃ (xI : Int) (xP : Int) (xD : Int) (xQ : Int), cs = [.int .i64 xI, .int .i64 xP, .int .i64 xD, .int .i64 xQ] ∧ (Lit.int .i64 xI).wf = true ∧ (Lit.int .i64 xP).wf = true ∧ (Lit.int .i64 xD).wf = true ∧ (Lit.int .i64 xQ).wf = true := by
  obtain ⟨xs, n, _, _, hcl, hlen, hg⟩ := DataW.trod_struct Try.underlying61 hf
  rw [ticketCells] at hcl
  match cs, hcl with
  | [c0, c1, c2, c3], _ =>
    have look : ∀ j, j < xs.length → ∃ y, xs[j]? = some y := fun j hj => ⟨_, List.getElem?_eq_getElem hj⟩
    have hxl : xs.length = 4 := hlen
    obtain ⟨y0, hy0⟩ := look 0 (by omega)
    have g0 : DataW.trod enc Try.prog w base (fun _ => true) held n 3 (List.take (Try.prog.cellsOf 3) (List.drop 0 [c0, c1, c2, c3])) = some y0 := (hg 0 _ rfl).trans hy0
    rw [show Try.prog.cellsOf 3 = 1 by kernel_rfl] at g0
    simp only [List.drop_succ_cons, List.drop_zero, List.take_succ_cons, List.take_zero] at g0
    obtain ⟨y1, hy1⟩ := look 1 (by omega)
    have g1 : DataW.trod enc Try.prog w base (fun _ => true) held n 3 (List.take (Try.prog.cellsOf 3) (List.drop 1 [c0, c1, c2, c3])) = some y1 := (hg 1 _ rfl).trans hy1
    rw [show Try.prog.cellsOf 3 = 1 by kernel_rfl] at g1
    simp only [List.drop_succ_cons, List.drop_zero, List.take_succ_cons, List.take_zero] at g1
    obtain ⟨y2, hy2⟩ := look 2 (by omega)
    have g2 : DataW.trod enc Try.prog w base (fun _ => true) held n 3 (List.take (Try.prog.cellsOf 3) (List.drop 2 [c0, c1, c2, c3])) = some y2 := (hg 2 _ rfl).trans hy2
    rw [show Try.prog.cellsOf 3 = 1 by kernel_rfl] at g2
    simp only [List.drop_succ_cons, List.drop_zero, List.take_succ_cons, List.take_zero] at g2
    obtain ⟨y3, hy3⟩ := look 3 (by omega)
    have g3 : DataW.trod enc Try.prog w base (fun _ => true) held n 3 (List.take (Try.prog.cellsOf 3) (List.drop 3 [c0, c1, c2, c3])) = some y3 := (hg 3 _ rfl).trans hy3
    rw [show Try.prog.cellsOf 3 = 1 by kernel_rfl] at g3
    simp only [List.drop_succ_cons, List.drop_zero, List.take_succ_cons, List.take_zero] at g3
    obtain ⟨xI, k0, _, w0⟩ := DataW.trod_int Try.underlying3 g0
    obtain ⟨xP, k1, _, w1⟩ := DataW.trod_int Try.underlying3 g1
    obtain ⟨xD, k2, _, w2⟩ := DataW.trod_int Try.underlying3 g2
    obtain ⟨xQ, k3, _, w3⟩ := DataW.trod_int Try.underlying3 g3
    simp only [List.cons.injEq, and_true] at k0 k1 k2 k3
    subst k0
    subst k1
    subst k2
    subst k3
    exact ⟨xI, xP, xD, xQ, rfl, w0, w1, w2, w3⟩
set_option maxRecDepth 100000 in
theorem open_ticketsC {cs : List Value} {x : DataW H × List MemPlace} {fuel : Nat} (hf : DataW.trod enc Try.prog w base (fun _ => true) held fuel 49 cs = some x) :
    ∃ (A : Option Addr) (n : Nat) (c : Nat) (xs : List G.Tk), cs = [.slice A n c] ∧ n ≤ c ∧ c ≤ maxLen ∧ xs.length = n ∧ RdT w w.heap.size A xs ∧ (A = none → c = 0) ∧ (∀ q ∈ xs, (Lit.int .i64 q.id).wf = true) := by
  rcases Go.Deep.open_slice Try.underlying49 hf with ⟨hcs, _⟩ | ⟨a, len, cap, m, n, D, Pl, hcs, _, hle, hmax, hm, _, hi⟩
  · subst hcs
    exact ⟨none, 0, 0, [], rfl, Nat.le_refl _, Nat.zero_le _, rfl, RdT.nil _ _ _, fun _ => rfl, fun q hq => by cases hq⟩
  · subst hcs
    simp only [if_true] at hm
    have each : ∀ i, i < len → ∃ q : G.Tk, w.cell? (a.add (i * 4)) = some (.int .i64 q.id) ∧ w.cell? ((a.add (i * 4)).add 1) = some (.int .i64 q.price) ∧ w.cell? ((a.add (i * 4)).add 2) = some (.int .i64 q.day) ∧ w.cell? ((a.add (i * 4)).add 3) = some (.int .i64 q.paid) ∧ (Lit.int .i64 q.id).wf = true := by
      intro i hil
      obtain ⟨cs', hc, ht⟩ := hi i (by omega)
      obtain ⟨xI, xP, xD, xQ, rfl, u0, u1, u2, u3⟩ := open_ticketC ht
      rw [ticketCells] at hc
      obtain ⟨_, hcl, hat⟩ := World.cells?_some hc
      exact ⟨⟨xI, xP, xD, xQ⟩, hat 0 (by omega), hat 1 (by omega), hat 2 (by omega), hat 3 (by omega), u0⟩
    have pick : ∀ k q, ((List.range len).map (fun i => if h : i < len then (each i h).choose else ⟨0, 0, 0, 0⟩))[k]? = some q → ∃ hkn : k < len, (each k hkn).choose = q := by
      intro k q hk
      have hkn : k < len := by
        rcases Nat.lt_or_ge k len with hl | hl
        · exact hl
        · rw [List.getElem?_eq_none (by simp; omega)] at hk; cases hk
      refine ⟨hkn, ?_⟩
      rw [List.getElem?_map, List.getElem?_range hkn] at hk
      simpa [hkn] using hk
    refine ⟨some a, len, cap, ((List.range len).map (fun i => if h : i < len then (each i h).choose else ⟨0, 0, 0, 0⟩)), rfl, hle, hmax, by simp, ?_, (fun e => by cases e), fun q hq => ?_⟩
    · intro k q hk
      obtain ⟨hkn, hq⟩ := pick k q hk
      have hc := (each k hkn).choose_spec
      rw [hq] at hc
      obtain ⟨_, h00, _⟩ := each 0 (by omega)
      obtain ⟨b, o, rfl, hb'⟩ := spot_first (by rw [Nat.zero_mul] at h00; exact h00)
      simp only [add_plain] at hc
      exact ⟨b, o, rfl, hb', hc.1, hc.2.1, hc.2.2.1, hc.2.2.2.1⟩
    · obtain ⟨k, hk⟩ := List.mem_iff_getElem?.1 hq
      obtain ⟨hkn, hq'⟩ := pick k q hk
      have hc := (each k hkn).choose_spec
      rw [hq'] at hc
      exact hc.2.2.2.2
theorem open_tickets {v : Value} {d : DataW H} {p : List MemPlace} (h : DataW.Trod enc Try.prog w base (fun _ => true) held 49 v d p) (hok : ∃ a n c, v = .slice a n c) :
    ∃ (A : Option Addr) (n : Nat) (c : Nat) (xs : List G.Tk), v = .slice A n c ∧ n ≤ c ∧ c ≤ maxLen ∧ xs.length = n ∧ RdT w w.heap.size A xs ∧ (A = none → c = 0) ∧ (∀ q ∈ xs, (Lit.int .i64 q.id).wf = true) := by
  obtain ⟨a0, n0, c0, rfl⟩ := hok
  obtain ⟨fuel, hf⟩ := h
  have hcells : (Value.slice a0 n0 c0).cells.toList = [.slice a0 n0 c0] := by simp [Value.cells]
  rw [hcells] at hf
  obtain ⟨A, n, c, xs, hcs, hh0, hh1, hh2, hh3, hh4, hh5⟩ := open_ticketsC hf
  simp only [List.cons.injEq, and_true] at hcs
  exact ⟨A, n, c, xs, hcs, hh0, hh1, hh2, hh3, hh4, hh5⟩
end
end Go.Proofs.Ytlpjkolocgkcpaa

namespace Go.Proofs.Ytlpjkolocgkcpaa
open Go.ChangeShapes Go.WideShapes Go.ChangeAt Go.RowKit Go.Deep Go.Joins
attribute [local go_sem ↓] Go.wp_at_zero Go.wp_at_succ

theorem Try.ownGatePaid : ownKnob Try.prog.godebug = none := by kernel_rfl

set_option maxRecDepth 100000 in
theorem gatePaid_call (H : Type) (enc : TypeId × Value → H) (W : World) (base : Nat) (args : Array Value) (ds : List (DataW H)) (p : List MemPlace) (hval : ∀ (j : Nat) t v, Try.f10.params[j]? = some t → args[j]? = some v → Value.okWide Try.prog W .any base t v)
    (hA : DataW.TrodAll enc Try.prog W 0 (fun _ => true) true Try.f10.params.toList args.toList ds p) : Calls Try.prog 10 args W fun e W' => e = .returned (.bool true) ∧ Below W.heap.size W W' := by
  rw [Try.params10] at hA hval
  obtain ⟨v0, v1, v2, d0, d1, d2, p0, p1, p2, rfl, rfl, rfl, h0, h1, h2⟩ := trodAll_three hA
  obtain ⟨xS0, xL0, A0, n0, c0, xs0, rfl, f0_0, f0_1, f0_2, f0_3, f0_4, f0_5, f0_6, f0_7⟩ := open_terms (hval 0 48 v0 rfl rfl) h0
  obtain ⟨A1, n1, c1, xs1, rfl, f1_0, f1_1, f1_2, f1_3, f1_4, f1_5⟩ := open_tickets h1 (okWide_slice Try.underlying49 (hval 1 49 v1 rfl rfl))
  obtain ⟨xL2, xH2, rfl, f2_0, f2_1⟩ := open_span (hval 2 23 v2 rfl rfl) h2
  by_cases hh : n0 ≤ 30 ∧ n1 ≤ 40
  · exact paidLaw_any ⟨xS0, xL0, xs0⟩ A0 n0 c0 A1 n1 c1 xs1 xL2 xH2 W f0_4 f0_5 (by omega) f1_2 f1_3 f1_5 (by omega) f0_7 f1_4
  · exact paidLaw_long ⟨xS0, xL0, xs0⟩ A0 n0 c0 A1 n1 c1 xL2 xH2 W (by omega)

set_option maxRecDepth 100000 in
theorem GatePaid_holds : Rows.GatePaidSaid :=
  OpenClaim.holds_of_wide (p := Try.pinned) (s := Rows.gatePaidSpec) (c := Rows.gatePaidRow) 10 Try.f10 rfl rfl rfl rfl rfl rfl rfl ⟨rfl, rfl, rfl, rfl, rfl⟩ rfl rfl rfl rfl rfl (by kernel_rfl) Try.func10 (by kernel_rfl)
    (of_decide_eq_true (by kernel_rfl)) (by unfold Func.isWrapper; first | (rw [if_pos (by decide +kernel)]; kernel_rfl) | (rw [if_neg (by decide +kernel)]; exact ⟨rfl, rfl⟩))
    (fun os started H enc _ => law_lift (C := Try.checked) (F := 10) (fn := Try.f10) (s := Rows.gatePaidSpec) (bt := 4) started Try.ownGatePaid (by kernel_rfl) Try.func10 (by kernel_rfl) Try.underlying4 rfl laidOut (of_decide_eq_true (by kernel_rfl))
      (fun ds hds => match ds, hds with | [_, _, _], _ => rfl)
      (ChangeSpec.witness6 (enc := enc) (C := Try.checked) false ⟨#[], #[.agg #[.int .i64 0, .int .i64 0, .slice none 0 0], .slice none 0 0, .agg #[.int .i64 0, .int .i64 0]], []⟩ 8 (by kernel_rfl) (by kernel_rfl) (by kernel_rfl) (by kernel_rfl))
      (fun W base args ds p hval hA _ => gatePaid_call H enc W base args ds p hval hA) _ _ _)

end Go.Proofs.Ytlpjkolocgkcpaa
