/-
  For every field, all notices and whatever hour and player are asked for the law EntryAsks returns true and leaves its arguments as they were. No condition.
-/
import Derived.Test.YtobjahlmjcnfoaaGreatRows
import Derived.Carry
import Derived.ProofKit
import Derived.Deep.Slices
import Derived.Deep.Fields
import Derived.Lib.SmallJoins
import Derived.Test.YtobjahlmjcnfoaaGreatZB03
import Derived.Test.YtobjahlmjcnfoaaGreatZB05
import Derived.Test.YtobjahlmjcnfoaaGreatZB11
namespace Go.Proofs.YtobjahlmjcnfoaaGreat
open Go.ChangeShapes Go.WideShapes Go.ChangeAt Go.RowKit Go.Deep Go.Joins

theorem laidOut : laidOutB Tryz.prog = true := by kernel_rfl
section
variable {H : Type} {enc : TypeId × Value → H} {P : Program}

theorem trodAll_stays {W W' : World} {sp : Nat → Bool} (hl : laidOutB P = true) (hb : Below W.heap.size W W') : ∀ {ts : List TypeId} {vs : List Value} {ds : List (DataW H)} {ps : List MemPlace}, (∀ t ∈ ts, P.readableRec t = true ∧ t < P.types.size) → (∀ x ∈ ps, x.block < W.heap.size) → (∀ x ∈ ps, sp x.block = true) → DataW.TrodAll enc P W 0 (fun _ => true) true ts vs ds ps → DataW.TrodAll enc P W' 0 sp true ts vs ds ps
  | [], vs, ds, ps, _, _, _, h => by
    obtain ⟨rfl, rfl, rfl⟩ := trodAll_nil h
    exact trodAll_mk0
  | t :: ts, vs, ds, ps, hr, hlt, hsp, h => by
    obtain ⟨v, vs', d, ds', p, q, rfl, rfl, rfl, h0, h1⟩ := trodAll_cons h
    refine trodAll_cons_mk ?_ (trodAll_stays hl hb (fun t ht => hr t (List.mem_cons_of_mem _ ht)) (fun x hx => hlt x (List.mem_append_right _ hx)) (fun x hx => hsp x (List.mem_append_right _ hx)) h1)
    exact WideElems.Trod_stays hl (hr t (List.mem_cons_self ..)).1 (hr t (List.mem_cons_self ..)).2 h0 (fun x hx => hb.same (hlt x (List.mem_append_left _ hx))) (fun x hx => hsp x (List.mem_append_left _ hx))

theorem law_post {f : Func} {s : ChangeSpec} {fresh handsOn again : Bool} {W W' : World} {args : Array Value} {bt : TypeId} {ds gs : List (DataW H)} {before : List MemPlace}
    (hrt : f.resultTypes = #[bt]) (hbt : P.underlying bt = some .bool) (hsv : s.vars = []) (hs : s.fn H ds = { results := [.lit (.bool true)], args := ds }) (hl : laidOutB P = true) (hr : ∀ t ∈ f.params.toList, P.readableRec t = true ∧ t < P.types.size)
    (hW : DataW.Whole enc P f.params.toList s.vars false W args.toList ds gs before) (hb : Below W.heap.size W W') : s.post enc P f false fresh handsOn again W args (.bool true) W' := by
  have hlt : ∀ p ∈ before, p.block < W.heap.size := fun p hp => hW.lt p hp
  have hW1 := hW
  obtain ⟨p, q, hA, hV, hpq, hz, hn⟩ := hW
  rw [hsv] at hV
  obtain ⟨rfl, rfl⟩ := trodVars_none hV
  rw [List.append_nil] at hpq
  subst hpq
  have hs' : s.fn H (ds ++ []) = { results := [.lit (.bool true)], args := ds } := by rw [List.append_nil]; exact hs
  have hres : ∀ (b : Nat) (sp : Nat → Bool) (hd : Bool), DataW.TrodAll enc P W' b sp hd f.resultTypes.toList ((Value.bool true).resultList f.resultTypes.size) (s.fn H (ds ++ [])).results [] := by
    intro b sp hd
    rw [hs', hrt]
    exact trodAll_mk1 (shut_bool hbt true)
  have hargs : ∀ sp : Nat → Bool, (∀ x ∈ before, sp x.block = true) → DataW.TrodAll enc P W' 0 sp true f.params.toList args.toList (s.fn H (ds ++ [])).args before := by
    intro sp hsp
    rw [hs']
    exact trodAll_stays hl hb hr hlt hsp hA
  have hvars : ∀ sp : Nat → Bool, DataW.TrodVars enc P W' sp s.vars (s.fn H (ds ++ [])).vars [] := by
    intro sp
    rw [hs', hsv]
    rfl
  have hok : ∀ (j : Nat) (t : TypeId) (r : Value), f.resultTypes[j]? = some t → ((Value.bool true).resultList f.resultTypes.size)[j]? = some r → Value.okWide P W' .any 0 t r := by
    have := ok_one (P := P) (W' := W') (f := f) (v := .bool true) hrt rfl (okWide_bool_mk hbt true)
    exact this
  have hold : ∀ x ∈ before, (fun b => decide (b < W.heap.size)) x.block = true := fun x hx => by simpa using hlt x hx
  refine ⟨ds, [], before, [], before, [], hW1, hres _ _ _, hargs _ hold, hvars _, World.keptBut_mono (fun x hx => ⟨hx, ?_⟩) (hb.frame (· ∈ before)), fun _ => ?_⟩
  · first | exact Or.inr hx | exact Or.inr (Or.inl hx) | simpa using hx
  · refine ⟨hok, _, _, ([] ++ before) ++ [], ⟨[] ++ before, [], trodAll_append (hargs _ (fun _ _ => rfl)) (hres _ _ _), hvars _, rfl, ?_, fun ha => by cases ha⟩, ?_⟩
    · intro b off hx
      have hin : MemPlace.cell b off ∈ before := by simpa using hx
      rw [hb.frozen (hlt _ hin)]
      exact hz b off hin
    · exact fun p hp _ => by simpa using hp

theorem law_lift {C : Checked} {F : FuncId} {fn : Func} {s : ChangeSpec} {bt : TypeId} {os : Os} (started : os.Started) (own : ownKnob C.prog.godebug = none) (noInit : C.prog.inits.idxOf? F = none) (hfn : C.prog.funcs[F]? = some fn)
    (hrt : fn.resultTypes = #[bt]) (hbt : C.prog.underlying bt = some .bool) (hsv : s.vars = []) (hl : laidOutB C.prog = true) (hr : ∀ t ∈ fn.params.toList, C.prog.readableRec t = true ∧ t < C.prog.types.size)
    (hs : ∀ ds : List (DataW H), ds.length = fn.params.toList.length → s.fn H ds = { results := [.lit (.bool true)], args := ds })
    (witness : ∃ (w : World) (tape : Tape) (i : Input), w.os = os ∧ (w.forCall tape i).Shaped C.prog ∧ i.vars = [] ∧ Input.okWide C.prog (w.forCall tape i) .any w.heap.size F i ∧
      s.pre6 enc C.prog fn [] false (w.forCall tape i).memory i.args ∧ Assume.holds {} C.prog (lone (Frame.enter C.prog F i.args .normal) [] (w.forCall tape i)))
    (contract : ∀ (W : World) (base : Nat) (args : Array Value) (ds : List (DataW H)) (p : List MemPlace), (∀ (j : Nat) t v, fn.params[j]? = some t → args[j]? = some v → Value.okWide C.prog W .any base t v) →
      DataW.TrodAll enc C.prog W 0 (fun _ => true) true fn.params.toList args.toList ds p → (∀ x ∈ p, x.block < W.heap.size) → Calls C.prog F args W fun e w' => e = .returned (.bool true) ∧ Below W.heap.size W w') (fresh handsOn again : Bool) :
    ReturnsInHanded {} C os F .any (s.pre6 enc C.prog fn [] false) (s.post enc C.prog fn false fresh handsOn again) := by
  refine returnsInHanded_of_change own started noInit hfn witness ?_
  intro W base args ds gs before hval hW hc _
  have hW1 := hW
  obtain ⟨p, q, hA, hV, hpq, hz, hn⟩ := hW
  have hA1 : DataW.TrodAll enc C.prog W 0 (fun _ => true) true fn.params.toList args.toList ds p := hA
  rw [hsv] at hV
  obtain ⟨_, rfl⟩ := trodVars_none hV
  have hlen : ds.length = fn.params.toList.length := by
    clear hW1 hA hval hpq hc contract witness
    generalize fn.params.toList = ts at hA1
    generalize args.toList = vs at hA1
    induction ts generalizing vs ds p with
    | nil => obtain ⟨_, rfl, _⟩ := trodAll_nil hA1; rfl
    | cons t ts ih =>
      obtain ⟨_, _, _, _, _, _, rfl, rfl, rfl, _, h1⟩ := trodAll_cons hA1
      rw [List.length_cons, List.length_cons, ih _ _ _ h1]
  refine (contract W base args ds p hval hA1 (fun x hx => hW1.lt x (by rw [hpq]; exact List.mem_append_left _ hx))).mono fun e W' ⟨he, hb⟩ => ?_
  subst he
  exact ⟨_, rfl, law_post hrt hbt hsv (hs ds hlen) hl hr hW1 hb⟩
end

section
variable {H : Type} {enc : TypeId × Value → H} {w : World} {base : Nat} {spare : Nat → Bool} {held : Bool}
theorem trod_fields {P : Program} {t : TypeId} {fs : Array Field} {fuel : Nat} {cs : List Value} {x : DataW H × List MemPlace} (hs : P.underlying t = some (.struct fs)) (hone0 : (match P.underlying t with | some (.struct fs) => oneCellFields P fs && P.cellsOf t == fs.size | _ => false) = true)
    (h : DataW.trod enc P w base spare held fuel t cs = some x) :
    cs.length = fs.size ∧ ∀ (j : Nat) (f : Field), fs[j]? = some f → ∃ (c : Value) (y : DataW H × List MemPlace) (n : Nat), cs[j]? = some c ∧ DataW.trod enc P w base spare held n f.type [c] = some y := by
  rw [hs] at hone0
  simp only [Bool.and_eq_true, beq_iff_eq] at hone0
  obtain ⟨hone, hC⟩ := hone0
  obtain ⟨xs, n, _, _, hcl, hlen, hg⟩ := DataW.trod_struct hs h
  have hll : cs.length = fs.size := hcl.trans hC
  refine ⟨hll, fun j f hj => ?_⟩
  obtain ⟨o, k⟩ := hone_of hone j f hj
  have hjl : j < fs.size := (Array.getElem?_eq_some_iff.1 hj).1
  have h1 := hg j f hj
  rw [o, k] at h1
  have hone' : (cs.drop j).take 1 = [cs[j]'(by omega)] := by
    rw [List.drop_eq_getElem_cons (by omega)]
    rfl
  rw [hone', List.getElem?_eq_getElem (by omega)] at h1
  exact ⟨_, _, n, List.getElem?_eq_getElem (by omega), h1⟩

theorem open_fields {P : Program} {r : Reach} {b0 : Nat} {t : TypeId} {fs : Array Field} {v : Value} {d : DataW H} {p : List MemPlace} (hs : P.underlying t = some (.struct fs)) (hone0 : (match P.underlying t with | some (.struct fs) => oneCellFields P fs && P.cellsOf t == fs.size | _ => false) = true)
    (hv : Value.okWide P w r b0 t v) (h : DataW.Trod enc P w base spare held t v d p) :
    ∃ cs : List Value, v = .agg ⟨cs⟩ ∧ cs.length = fs.size ∧ ∀ (j : Nat) (f : Field), fs[j]? = some f → ∃ (c : Value) (y : DataW H × List MemPlace) (n : Nat), cs[j]? = some c ∧ DataW.trod enc P w base spare held n f.type [c] = some y := by
  obtain ⟨cs, rfl, hsz⟩ := okWide_struct hs hv
  obtain ⟨l⟩ := cs
  obtain ⟨fuel, hf⟩ := h
  have hcells : (Value.agg ⟨l⟩).cells.toList = l := by simp [Value.cells]
  rw [hcells] at hf
  exact ⟨l, rfl, trod_fields hs hone0 hf⟩

theorem spot_none {w : World} {a : Addr} {v : Value} (h : w.cell? a = some v) : a.spot = none ∧ a.block < w.heap.size := by
  unfold World.cell? at h
  split at h
  · rename_i hb
    refine ⟨?_, (Array.getElem?_eq_some_iff.1 hb).1⟩
    split at h
    · cases h
    · rename_i hs
      simpa using hs
  · cases h
theorem spot_first {w : World} {a : Addr} {v : Value} (h : w.cell? (a.add 0) = some v) : ∃ b o : Nat, a = ⟨b, o, none⟩ ∧ b < w.heap.size := by
  have e : a.add 0 = a := if_pos rfl
  rw [e] at h
  obtain ⟨hs, hb⟩ := spot_none h
  obtain ⟨b, o, s⟩ := a
  have hs' : s = none := hs
  subst hs'
  exact ⟨b, o, rfl, hb⟩
theorem fieldOne : (match Tryz.prog.underlying 23 with | some (.struct fs) => oneCellFields Tryz.prog fs && Tryz.prog.cellsOf 23 == fs.size | _ => false) = true := by kernel_rfl
set_option maxRecDepth 100000 in
theorem open_field {r : Reach} {b0 : Nat} {v : Value} {d : DataW H} {p : List MemPlace} (hv : Value.okWide Tryz.prog w r b0 23 v) (h : DataW.Trod enc Tryz.prog w base spare held 23 v d p) : ∃ f : E.Fd, v = .agg #[.int .i64 f.places, .int .i64 f.wilds, .int .i64 f.guards, .int .i64 f.close, .int .i64 f.freeze] := by
  obtain ⟨cs, rfl, hl, hf⟩ := open_fields Tryz.underlying23 fieldOne hv h
  match cs, hl with
  | [c0, c1, c2, c3, c4], _ =>
    obtain ⟨_, _, _, e0, h0⟩ := hf 0 _ rfl
    obtain ⟨_, _, _, e1, h1⟩ := hf 1 _ rfl
    obtain ⟨_, _, _, e2, h2⟩ := hf 2 _ rfl
    obtain ⟨_, _, _, e3, h3⟩ := hf 3 _ rfl
    obtain ⟨_, _, _, e4, h4⟩ := hf 4 _ rfl
    obtain ⟨n0, k0, _, w0⟩ := DataW.trod_int Tryz.underlying3 h0
    obtain ⟨n1, k1, _, w1⟩ := DataW.trod_int Tryz.underlying3 h1
    obtain ⟨n2, k2, _, w2⟩ := DataW.trod_int Tryz.underlying3 h2
    obtain ⟨n3, k3, _, w3⟩ := DataW.trod_int Tryz.underlying3 h3
    obtain ⟨n4, k4, _, w4⟩ := DataW.trod_int Tryz.underlying3 h4
    refine ⟨⟨n0, n1, n2, n3, n4⟩, ?_⟩
    simp only [List.getElem?_cons_zero, List.getElem?_cons_succ, Option.some.injEq] at e0 e1 e2 e3 e4
    simp only [List.cons.injEq, and_true] at k0 k1 k2 k3 k4
    rw [e0, e1, e2, e3, e4, k0, k1, k2, k3, k4]
theorem askedOne : (match Tryz.prog.underlying 26 with | some (.struct fs) => oneCellFields Tryz.prog fs && Tryz.prog.cellsOf 26 == fs.size | _ => false) = true := by kernel_rfl
set_option maxRecDepth 100000 in
theorem open_asked {r : Reach} {b0 : Nat} {v : Value} {d : DataW H} {p : List MemPlace} (hv : Value.okWide Tryz.prog w r b0 26 v) (h : DataW.Trod enc Tryz.prog w base spare held 26 v d p) : ∃ a b : Int, v = .agg #[.int .i64 a, .int .i64 b] := by
  obtain ⟨cs, rfl, hl, hf⟩ := open_fields Tryz.underlying26 askedOne hv h
  match cs, hl with
  | [c0, c1], _ =>
    obtain ⟨_, _, _, e0, h0⟩ := hf 0 _ rfl
    obtain ⟨_, _, _, e1, h1⟩ := hf 1 _ rfl
    obtain ⟨n0, k0, _, w0⟩ := DataW.trod_int Tryz.underlying3 h0
    obtain ⟨n1, k1, _, w1⟩ := DataW.trod_int Tryz.underlying3 h1
    refine ⟨n0, n1, ?_⟩
    simp only [List.getElem?_cons_zero, List.getElem?_cons_succ, Option.some.injEq] at e0 e1
    simp only [List.cons.injEq, and_true] at k0 k1
    rw [e0, e1, k0, k1]
theorem noticeCells : Tryz.prog.cellsOf 70 = 5 := by kernel_rfl
theorem noticeOne : (match Tryz.prog.underlying 70 with | some (.struct fs) => oneCellFields Tryz.prog fs && Tryz.prog.cellsOf 70 == fs.size | _ => false) = true := by kernel_rfl
set_option maxRecDepth 100000 in
theorem open_notices {v : Value} {d : DataW H} {p : List MemPlace} (h : DataW.Trod enc Tryz.prog w base (fun _ => true) held 24 v d p) (hok : ∃ a n c, v = .slice a n c) :
    ∃ (A : Option Addr) (n c : Nat) (xs : List E.Nt), v = .slice A n c ∧ n ≤ c ∧ c ≤ maxLen ∧ xs.length = n ∧ RdN w w.heap.size A xs ∧ (A = none → c = 0) ∧ ∀ x ∈ xs, (Lit.int .i64 x.id).wf = true := by
  obtain ⟨a0, n0, c0, rfl⟩ := hok
  obtain ⟨fuel, hf⟩ := h
  rcases Go.Deep.open_slice Tryz.underlying24 hf with ⟨hcs, _⟩ | ⟨a, len, cap, m, n, D, Pl, hcs, _, hle, hmax, hm, _, hi⟩
  · simp [Value.cells] at hcs
    obtain ⟨rfl, rfl, rfl⟩ := hcs
    exact ⟨none, 0, 0, [], rfl, Nat.le_refl _, Nat.zero_le _, rfl, RdN.nil _ _ _, fun _ => rfl, fun x hx => by cases hx⟩
  · simp [Value.cells] at hcs
    obtain ⟨rfl, rfl, rfl⟩ := hcs
    simp only [if_true] at hm
    rename Addr => a0'
    have each : ∀ i, i < n0 → ∃ q : E.Nt, w.cell? (a0'.add (i * 5)) = some (.int .i64 q.id) ∧ w.cell? ((a0'.add (i * 5)).add 1) = some (.int .i64 q.hour) ∧ w.cell? ((a0'.add (i * 5)).add 2) = some (.int .i64 q.kind) ∧ w.cell? ((a0'.add (i * 5)).add 3) = some (.int .i64 q.player) ∧ w.cell? ((a0'.add (i * 5)).add 4) = some (.int .i64 q.rank) ∧ (Lit.int .i64 q.id).wf = true := by
      intro i hil
      obtain ⟨cs', hc, ht⟩ := hi i (by omega)
      rw [noticeCells] at hc
      obtain ⟨_, hcl, hat⟩ := World.cells?_some hc
      obtain ⟨_, hff⟩ := trod_fields Tryz.underlying70 noticeOne ht
      match cs', hcl with
      | [c0', c1', c2', c3', c4'], _ =>
        obtain ⟨_, _, _, e0, g0⟩ := hff 0 _ rfl
        obtain ⟨_, _, _, e1, g1⟩ := hff 1 _ rfl
        obtain ⟨_, _, _, e2, g2⟩ := hff 2 _ rfl
        obtain ⟨_, _, _, e3, g3⟩ := hff 3 _ rfl
        obtain ⟨_, _, _, e4, g4⟩ := hff 4 _ rfl
        obtain ⟨n0', k0, _, w0⟩ := DataW.trod_int Tryz.underlying3 g0
        obtain ⟨n1', k1, _, w1⟩ := DataW.trod_int Tryz.underlying3 g1
        obtain ⟨n2', k2, _, w2⟩ := DataW.trod_int Tryz.underlying3 g2
        obtain ⟨n3', k3, _, w3⟩ := DataW.trod_int Tryz.underlying3 g3
        obtain ⟨n4', k4, _, w4⟩ := DataW.trod_int Tryz.underlying3 g4
        simp only [List.getElem?_cons_zero, List.getElem?_cons_succ, Option.some.injEq] at e0 e1 e2 e3 e4
        simp only [List.cons.injEq, and_true] at k0 k1 k2 k3 k4
        rw [← e0] at k0
        rw [← e1] at k1
        rw [← e2] at k2
        rw [← e3] at k3
        rw [← e4] at k4
        subst k0 k1 k2 k3 k4
        exact ⟨⟨n0', n1', n2', n3', n4'⟩, hat 0 (by omega), hat 1 (by omega), hat 2 (by omega), hat 3 (by omega), hat 4 (by omega), w0⟩
    have pick : ∀ k q, ((List.range n0).map (fun i => if h : i < n0 then (each i h).choose else ⟨0, 0, 0, 0, 0⟩))[k]? = some q → ∃ hkn : k < n0, (each k hkn).choose = q := by
      intro k q hk
      have hkn : k < n0 := by
        rcases Nat.lt_or_ge k n0 with hl | hl
        · exact hl
        · rw [List.getElem?_eq_none (by simp; omega)] at hk; cases hk
      refine ⟨hkn, ?_⟩
      rw [List.getElem?_map, List.getElem?_range hkn] at hk
      simpa [hkn] using hk
    refine ⟨some a0', n0, c0, (List.range n0).map (fun i => if h : i < n0 then (each i h).choose else ⟨0, 0, 0, 0, 0⟩), rfl, hle, hmax, by simp, ?_, (fun e => by cases e), fun q hq => ?_⟩
    · intro k q hk
      obtain ⟨hkn, hq⟩ := pick k q hk
      have hc := (each k hkn).choose_spec
      rw [hq] at hc
      obtain ⟨_, h00, _⟩ := each 0 (by omega)
      obtain ⟨b, o, rfl, hb'⟩ := spot_first (by rw [Nat.zero_mul] at h00; exact h00)
      rw [add_plain, add_plain, add_plain, add_plain, add_plain] at hc
      exact ⟨b, o, rfl, hb', hc.1, hc.2.1, hc.2.2.1, hc.2.2.2.1, hc.2.2.2.2.1⟩
    · obtain ⟨k, hk⟩ := List.mem_iff_getElem?.1 hq
      obtain ⟨hkn, hq'⟩ := pick k q hk
      have hc := (each k hkn).choose_spec
      rw [hq'] at hc
      exact hc.2.2.2.2.2
end
end Go.Proofs.YtobjahlmjcnfoaaGreat

namespace Go.Proofs.YtobjahlmjcnfoaaGreat
open Go.ChangeShapes Go.WideShapes Go.ChangeAt Go.RowKit Go.Deep Go.Joins
attribute [local go_sem ↓] Go.wp_at_zero Go.wp_at_succ

set_option maxHeartbeats 1600000 in
set_option maxRecDepth 100000 in
theorem far_long (A : Option Addr) (n c : Nat) (w : World) (h : 100 < n) :
    Calls Tryz.prog 4 #[.slice A n c] w fun e w' => e = .returned (.bool true) ∧ w = w' := by
  have i1 : (20 : Int) < (n : Int) := by omega
  have i2 : ¬ (n : Int) ≤ 60 := by omega
  have i3 : (100 : Int) < (n : Int) := by omega
  clear h
  go_enter Tryz.func4, Tryz.ntmps4
  go_wp2
  go_ret
  exact ⟨rfl, rfl⟩
end Go.Proofs.YtobjahlmjcnfoaaGreat

namespace Go.Proofs.YtobjahlmjcnfoaaGreat
open Go.ChangeShapes Go.WideShapes Go.ChangeAt Go.RowKit Go.Deep Go.Joins
attribute [local go_sem ↓] Go.wp_at_zero Go.wp_at_succ

set_option maxHeartbeats 1600000 in
set_option maxRecDepth 100000 in
theorem asksLaw_long (f : E.Fd) (A : Option Addr) (n c : Nat) (h p : Int) (w : World) (hn : 100 < n) :
    Calls Tryz.prog 3 #[.agg #[.int .i64 f.places, .int .i64 f.wilds, .int .i64 f.guards, .int .i64 f.close, .int .i64 f.freeze], .slice A n c, .agg #[.int .i64 h, .int .i64 p]] w fun e w' => e = .returned (.bool true) ∧ Below w.heap.size w w' := by
  have HF := fun W => hide (far_long A n c W hn)
  clear hn
  go_enter Tryz.func3, Tryz.ntmps3
  go_wp2_with (first | (go_at_call 4; refine (HF _).out.mono ?_; rintro e w1 ⟨rfl, rfl⟩) | (go_at_call 5; refine (works_any _).mono ?_; rintro e w9 ⟨rfl, hb9⟩; have HB9 := hide (zbT (show Below w.heap.size w ((w.alloc (.cells #[.int .i64 f.places, .int .i64 f.wilds, .int .i64 f.guards, .int .i64 f.close, .int .i64 f.freeze] 23)).alloc (.cells #[.int .i64 h, .int .i64 p] 26)) by (repeat' first | exact zbR _ _ | assumption | refine zbD ?_ | refine zbA ?_ ?_ _ | refine zbS ?_ ?_ _ | refine zbT ?_ (by assumption) ?_ | (simp; done) | (simp; omega) | omega)) hb9 (by simp; omega)); clear hb9))
  go_ret
  exact ⟨rfl, HB9.out⟩
theorem asksLaw_all (f : E.Fd) (A : Option Addr) (n c : Nat) (l : List E.Nt) (h p : Int) (w : World) (hn : l.length = n) (hr : RdN w w.heap.size A l) (hid : ∀ x ∈ l, (Lit.int .i64 x.id).wf = true) (hcap : A = none → c = 0) :
    Calls Tryz.prog 3 #[.agg #[.int .i64 f.places, .int .i64 f.wilds, .int .i64 f.guards, .int .i64 f.close, .int .i64 f.freeze], .slice A n c, .agg #[.int .i64 h, .int .i64 p]] w fun e w' => e = .returned (.bool true) ∧ Below w.heap.size w w' := by
  by_cases h1 : n ≤ 1000000
  · exact asksLaw_any f A n c l h p w hn hr hid h1 hcap
  · exact asksLaw_long f A n c h p w (by omega)

theorem Tryz.ownEntryAsks : ownKnob Tryz.prog.godebug = none := by kernel_rfl

set_option maxRecDepth 100000 in
theorem entryAsks_call (H : Type) (enc : TypeId × Value → H) (W : World) (base : Nat) (args : Array Value) (ds : List (DataW H)) (p : List MemPlace) (hval : ∀ (j : Nat) t v, Tryz.f3.params[j]? = some t → args[j]? = some v → Value.okWide Tryz.prog W .any base t v)
    (hA : DataW.TrodAll enc Tryz.prog W 0 (fun _ => true) true Tryz.f3.params.toList args.toList ds p) : Calls Tryz.prog 3 args W fun e W' => e = .returned (.bool true) ∧ Below W.heap.size W W' := by
  rw [Tryz.params3] at hA hval
  obtain ⟨v0, v1, v2, d0, d1, d2, p0, p1, p2, rfl, rfl, rfl, h0, h1, h2⟩ := trodAll_three hA
  obtain ⟨x0, rfl⟩ := open_field (hval 0 23 v0 rfl rfl) h0
  obtain ⟨A1, n1, c1, l1, rfl, hle1, hmx1, hn1, hr1, hno1, hwf1⟩ := open_notices h1 (okWide_slice Tryz.underlying24 (hval 1 24 v1 rfl rfl))
  obtain ⟨a2, b2, rfl⟩ := open_asked (hval 2 26 v2 rfl rfl) h2
  exact asksLaw_all x0 A1 n1 c1 l1 a2 b2 W hn1 hr1 hwf1 hno1

set_option maxRecDepth 100000 in
theorem EntryAsks_holds : Rows.EntryAsksSaid :=
  OpenClaim.holds_of_wide (p := Tryz.pinned) (s := Rows.entryAsksSpec) (c := Rows.entryAsksRow) 3 Tryz.f3 rfl rfl rfl rfl rfl rfl rfl ⟨rfl, rfl, rfl, rfl, rfl⟩ rfl rfl rfl rfl rfl (by kernel_rfl) Tryz.func3 (by kernel_rfl)
    (of_decide_eq_true (by kernel_rfl)) (by unfold Func.isWrapper; first | (rw [if_pos (by decide +kernel)]; kernel_rfl) | (rw [if_neg (by decide +kernel)]; exact ⟨rfl, rfl⟩))
    (fun os started H enc _ => law_lift (C := Tryz.checked) (F := 3) (fn := Tryz.f3) (s := Rows.entryAsksSpec) (bt := 4) started Tryz.ownEntryAsks (by kernel_rfl) Tryz.func3 (by kernel_rfl) Tryz.underlying4 rfl laidOut (of_decide_eq_true (by kernel_rfl))
      (fun ds hds => match ds, hds with | [_, _, _], _ => rfl)
      (ChangeSpec.witness6 (enc := enc) (C := Tryz.checked) false ⟨#[], #[.agg #[.int .i64 0, .int .i64 0, .int .i64 0, .int .i64 0, .int .i64 0], .slice none 0 0, .agg #[.int .i64 0, .int .i64 0]], []⟩ 8 (by kernel_rfl) (by kernel_rfl) (by kernel_rfl) (by kernel_rfl))
      (fun W base args ds p hval hA _ => entryAsks_call H enc W base args ds p hval hA) _ _ _)

end Go.Proofs.YtobjahlmjcnfoaaGreat
