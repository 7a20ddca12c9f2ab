/-
  Part of a claim's texts: contracts of the program's functions and the plain functions that they compute, in build order.
-/
import Derived.Below
import Derived.Test.YtampfpnkkdihaaaRows
import Derived.Carry
import Derived.ProofKit
import Derived.Deep.Slices
import Derived.Deep.Fields
import Derived.Lib.SmallJoins
import Derived.WalkKit
import Derived.WalkSpells
import Derived.WalkLawsBesides
import Derived.Deep.QuietTactic
import Derived.BigQuiet
import Derived.Deep.RegionHeld3
import Derived.Deep.DrawnRows
import Derived.Outline
import Derived.Laws.AppendOwn
import Derived.Laws.Rows
import Derived.IntWalk
import Derived.RangeFuncNested
import Derived.RangeFuncBound
import Derived.RangeFuncCalls
import Derived.RangeFuncLeaves
import Derived.Shelf.Abstract
import Derived.OwnWalkIn
import Derived.TacticsInMore
import Derived.LoopNIn
import Derived.LoopIn
import Derived.Laws.EntriesVeiled
import Derived.Deep.CutRange
import Derived.Deep.DeepCutAuto
import Derived.KernelRfl
import Derived.RegionTactic
import Derived.ChangeAlike
import Derived.Stop.RegionWithIn
namespace Go.Proofs.Ytampfpnkkdihaaa
open Go.RowKit

theorem zbR (B : Nat) (w : World) : Go.RowKit.Below B w w := Go.RowKit.Below.refl B w
theorem zbD {B : Nat} {a w : World} (h : Go.RowKit.Below B a w) : Go.RowKit.Below B a w.drew := h.drew
theorem zbA {B : Nat} {a w : World} (h : Go.RowKit.Below B a w) (hB : B ≤ w.heap.size) (o : Obj) : Go.RowKit.Below B a (w.alloc o) := h.alloc hB o
theorem zbS {B : Nat} {a w : World} (h : Go.RowKit.Below B a w) {p : Addr} (hB : B ≤ p.block) (u : Value) : Go.RowKit.Below B a (w.setCell p u) := h.setCell hB u
theorem zbT {B B' : Nat} {a b c : World} (h1 : Go.RowKit.Below B a b) (h2 : Go.RowKit.Below B' b c) (hB : B ≤ B') : Go.RowKit.Below B a c := h1.trans (h2.mono hB)
namespace L

structure St where
  p : Int
  q : Int
  lo : Int
  hi : Int
deriving DecidableEq

structure Vw where
  size : Int
  ss : List St
  wrong : Int
  hxl : Int
  hxh : Int
  hyl : Int
  hyh : Int

structure Bx where
  l : Int
  r : Int
  b : Int
  t : Int

structure Mk where
  x : Int
  y : Int
  hx : Int
  hy : Int
deriving DecidableEq

def within (n lo hi : Int) : Bool := decide (lo ≤ n) && decide (n ≤ hi)
def spanIn (a b lo hi : Int) : Bool := decide (lo ≤ a) && decide (a ≤ b) && decide (b ≤ hi)
def stripB (s : St) : Bool := within s.p (-3) 3 && within s.q (-3) 3 && (s.p != 0 || s.q != 0) && spanIn s.lo s.hi (-500) 500
def headB (v : Vw) (n : Nat) : Bool := within v.size 0 40 && within v.wrong 0 3 && spanIn v.hxl v.hxh 1 9 && spanIn v.hyl v.hyh 1 9 && decide (n ≤ 8)
def viewB (v : Vw) : Bool := headB v v.ss.length && v.ss.all stripB
def boxB (b : Bx) : Bool := spanIn b.l b.r 0 40 && spanIn b.b b.t 0 40
def markB (m : Mk) (size a b c d : Int) : Bool := within m.x 0 size && within m.y 0 size && within m.hx a b && within m.hy c d

structure StOk (s : St) : Prop where
  p0 : -3 ≤ s.p
  p1 : s.p ≤ 3
  q0 : -3 ≤ s.q
  q1 : s.q ≤ 3
  l0 : -500 ≤ s.lo
  lh : s.lo ≤ s.hi
  h1 : s.hi ≤ 500

structure VwOk (v : Vw) : Prop where
  s0 : 0 ≤ v.size
  s1 : v.size ≤ 40
  w0 : 0 ≤ v.wrong
  w1 : v.wrong ≤ 3
  x0 : 1 ≤ v.hxl
  xx : v.hxl ≤ v.hxh
  x1 : v.hxh ≤ 9
  y0 : 1 ≤ v.hyl
  yy : v.hyl ≤ v.hyh
  y1 : v.hyh ≤ 9
  n8 : v.ss.length ≤ 8
  ok : ∀ s ∈ v.ss, StOk s

theorem viewB_ok {v : Vw} (h : viewB v = true) : VwOk v := by
  simp only [viewB, headB, within, spanIn, Bool.and_eq_true, decide_eq_true_eq, List.all_eq_true] at h
  obtain ⟨⟨⟨⟨⟨⟨a, b⟩, c, d⟩, ⟨e, f⟩, g⟩, ⟨i, j⟩, k⟩, l⟩, m⟩ := h
  refine ⟨a, b, c, d, e, f, g, i, j, k, l, fun s hs => ?_⟩
  have := m s hs
  simp only [stripB, within, spanIn, Bool.and_eq_true, decide_eq_true_eq] at this
  obtain ⟨⟨⟨⟨a, b⟩, c, d⟩, _⟩, ⟨e, f⟩, g⟩ := this
  exact ⟨a, b, c, d, e, f, g⟩

def off (x y k : Int) (s : St) : Bool := !within (s.p * x + s.q * y) (s.lo - k) (s.hi + k)
def wrongFrom (x y : Int) : Nat → List St → List Int
  | _, [] => []
  | i, s :: r => if off x y 0 s then (i : Int) :: wrongFrom x y (i + 1) r else wrongFrom x y (i + 1) r
def wrongL (v : Vw) (x y : Int) : List Int := wrongFrom x y 0 v.ss
def many (ss : List St) (x y k : Int) : Nat := (ss.filter (off x y k)).length
def okAt (v : Vw) (k : Int) (c : Int × Int) : Bool := decide ((many v.ss c.1 c.2 k : Int) ≤ v.wrong)
def cents (n : Nat) : List (Int × Int) := (List.range (n + 1)).flatMap fun (x : Nat) => (List.range (n + 1)).map fun (y : Nat) => ((x : Int), (y : Int))
def tcents (v : Vw) (k : Int) : List (Int × Int) := (cents v.size.toNat).filter (okAt v k)

theorem mem_cents {n : Nat} {c : Int × Int} (h : c ∈ cents n) : 0 ≤ c.1 ∧ c.1 ≤ n ∧ 0 ≤ c.2 ∧ c.2 ≤ n := by
  simp only [cents, List.mem_flatMap, List.mem_map, List.mem_range] at h
  obtain ⟨x, hx, y, hy, rfl⟩ := h
  exact ⟨Int.natCast_nonneg _, by show (x : Int) ≤ n; omega, Int.natCast_nonneg _, by show (y : Int) ≤ n; omega⟩
theorem wrongFrom_append (x y : Int) : ∀ (a b : List St) (i : Nat), wrongFrom x y i (a ++ b) = wrongFrom x y i a ++ wrongFrom x y (i + a.length) b
  | [], b, i => by simp [wrongFrom]
  | s :: a, b, i => by
    simp only [List.cons_append, wrongFrom, wrongFrom_append x y a b (i + 1), List.length_cons]
    have e : i + 1 + a.length = i + (a.length + 1) := by omega
    rw [e]
    split <;> simp
theorem wrongFrom_length (x y : Int) : ∀ (a : List St) (i : Nat), (wrongFrom x y i a).length = many a x y 0
  | [], i => by simp [wrongFrom, many]
  | s :: a, i => by
    have ih := wrongFrom_length x y a (i + 1)
    simp only [wrongFrom, many, List.filter_cons] at ih ⊢
    split <;> simp_all
theorem wrongL_length (v : Vw) (x y : Int) : (wrongL v x y).length = many v.ss x y 0 := wrongFrom_length x y v.ss 0
theorem many_le (ss : List St) (x y k : Int) : many ss x y k ≤ ss.length := List.length_filter_le _ _

def far (n lo hi : Int) : Int := max (max (lo - n) 0) (n - hi)
def touch (m : Mk) (b : Bx) : Bool :=
  decide (far m.x b.l b.r * m.hy * (far m.x b.l b.r * m.hy) + far m.y b.b b.t * m.hx * (far m.y b.b b.t * m.hx) ≤ m.hx * m.hy * (m.hx * m.hy))

def inAt (v : Vw) (b : Bx) (c : Int × Int) : Bool := touch ⟨c.1, c.2, v.hxh, v.hyh⟩ b
def outAt (v : Vw) (b : Bx) (c : Int × Int) : Bool := !touch ⟨c.1, c.2, v.hxl, v.hyl⟩ b
def hitAt (v : Vw) (b : Bx) (call : Int) (c : Int × Int) : Bool := if call = 2 then touch ⟨c.1, c.2, v.hxl, v.hyl⟩ b == decide (call = 1) else touch ⟨c.1, c.2, v.hxh, v.hyh⟩ b == decide (call = 1)
def findC (v : Vw) (b : Bx) (k call : Int) : Option (Int × Int) := (tcents v k).find? (hitAt v b call)
def markOf (v : Vw) (call : Int) (c : Int × Int) : Mk := if call = 2 then ⟨c.1, c.2, v.hxl, v.hyl⟩ else ⟨c.1, c.2, v.hxh, v.hyh⟩
def callOf (v : Vw) (b : Bx) (k : Int) : Int := if (findC v b k 1).isSome then (if (findC v b k 2).isSome then 3 else 1) else (if (findC v b k 2).isSome then 2 else 0)
def checkE (v : Vw) : Int := if viewB v then 0 else 20
def checkBE (v : Vw) (b : Bx) : Int := if viewB v then (if boxB b then 0 else 21) else 20
def sure (c : Int) : Bool := c == 1 || c == 2
def fewest (v : Vw) : Int := (cents v.size.toNat).foldl (fun n c => min n ((wrongL v c.1 c.2).length : Int)) (v.ss.length : Int)
end L

def RdS (w : World) (B : Nat) (A : Option Addr) (ss : List L.St) : Prop :=
  ∀ (k : Nat) (s : L.St), ss[k]? = some s → ∃ b o : Nat, A = some ⟨b, o, none⟩ ∧ b < B ∧ w.cell? ⟨b, o + k * 4, none⟩ = some (.int .i64 s.p) ∧ w.cell? ⟨b, o + k * 4 + 1, none⟩ = some (.int .i64 s.q) ∧ w.cell? ⟨b, o + k * 4 + 1 + 1, none⟩ = some (.int .i64 s.lo) ∧ w.cell? ⟨b, o + k * 4 + 1 + 1 + 1, none⟩ = some (.int .i64 s.hi)
theorem RdS.nil (w : World) (B : Nat) (A : Option Addr) : RdS w B A [] := fun k s h => by simp at h
theorem RdS.below {w w' : World} {B : Nat} {A : Option Addr} {ss : List L.St} (h : RdS w B A ss) (hb : Below B w w') : RdS w' B A ss := fun k s hk => by
  obtain ⟨b, o, hA, hlt, h0, h1, h2, h3⟩ := h k s hk
  exact ⟨b, o, hA, hlt, (hb.cell (p := ⟨b, _, none⟩) hlt).trans h0, (hb.cell (p := ⟨b, _, none⟩) hlt).trans h1, (hb.cell (p := ⟨b, _, none⟩) hlt).trans h2, (hb.cell (p := ⟨b, _, none⟩) hlt).trans h3⟩
theorem RdS.mono {w : World} {B B' : Nat} {A : Option Addr} {ss : List L.St} (h : RdS w B A ss) (hb : B ≤ B') : RdS w B' A ss := fun k s hk => by
  obtain ⟨b, o, hA, hlt, h0⟩ := h k s hk
  exact ⟨b, o, hA, Nat.lt_of_lt_of_le hlt hb, h0⟩
theorem RdS.take {w : World} {B : Nat} {A : Option Addr} {ss : List L.St} (h : RdS w B A ss) (n : Nat) : RdS w B A (ss.take n) := fun k s hk => h k s (by
  rcases Nat.lt_or_ge k n with hl | hl
  · rwa [List.getElem?_take_of_lt hl] at hk
  · rw [List.getElem?_eq_none (by rw [List.length_take]; omega)] at hk; cases hk)

end Go.Proofs.Ytampfpnkkdihaaa

namespace Go.Proofs.Ytampfpnkkdihaaa
open Go.ChangeShapes Go.WideShapes Go.ChangeAt Go.RowKit Go.Deep Go.Joins

theorem laidOut : laidOutB Try.prog = true := by kernel_rfl
theorem intCells : Try.prog.cellsOf 3 = 1 := by kernel_rfl
theorem stripCells : Try.prog.cellsOf 54 = 4 := by kernel_rfl
theorem spanCells : Try.prog.cellsOf 24 = 2 := by kernel_rfl
theorem stripsCells : Try.prog.cellsOf 22 = 1 := by kernel_rfl
theorem viewCells : Try.prog.cellsOf 26 = 7 := by kernel_rfl

section
variable {H : Type} {enc : TypeId × Value → H} {P : Program}

theorem trodAll_stays {W W' : World} {sp : Nat → Bool} (hl : laidOutB P = true) (hb : Below W.heap.size W W') : ∀ {ts : List TypeId} {vs : List Value} {ds : List (DataW H)} {ps : List MemPlace}, (∀ t ∈ ts, P.readableRec t = true ∧ t < P.types.size) → (∀ x ∈ ps, x.block < W.heap.size) → (∀ x ∈ ps, sp x.block = true) → DataW.TrodAll enc P W 0 (fun _ => true) true ts vs ds ps → DataW.TrodAll enc P W' 0 sp true ts vs ds ps
  | [], vs, ds, ps, _, _, _, h => by
    obtain ⟨rfl, rfl, rfl⟩ := trodAll_nil h
    exact trodAll_mk0
  | t :: ts, vs, ds, ps, hr, hlt, hsp, h => by
    obtain ⟨v, vs', d, ds', p, q, rfl, rfl, rfl, h0, h1⟩ := trodAll_cons h
    refine trodAll_cons_mk ?_ (trodAll_stays hl hb (fun t ht => hr t (List.mem_cons_of_mem _ ht)) (fun x hx => hlt x (List.mem_append_right _ hx)) (fun x hx => hsp x (List.mem_append_right _ hx)) h1)
    exact WideElems.Trod_stays hl (hr t (List.mem_cons_self ..)).1 (hr t (List.mem_cons_self ..)).2 h0 (fun x hx => hb.same (hlt x (List.mem_append_left _ hx))) (fun x hx => hsp x (List.mem_append_left _ hx))

theorem law_post {f : Func} {s : ChangeSpec} {fresh handsOn again : Bool} {W W' : World} {args : Array Value} {bt : TypeId} {ds gs : List (DataW H)} {before : List MemPlace}
    (hrt : f.resultTypes = #[bt]) (hbt : P.underlying bt = some .bool) (hsv : s.vars = []) (hs : s.fn H ds = { results := [.lit (.bool true)], args := ds }) (hl : laidOutB P = true) (hr : ∀ t ∈ f.params.toList, P.readableRec t = true ∧ t < P.types.size)
    (hW : DataW.Whole enc P f.params.toList s.vars false W args.toList ds gs before) (hb : Below W.heap.size W W') : s.post enc P f false fresh handsOn again W args (.bool true) W' := by
  have hlt : ∀ p ∈ before, p.block < W.heap.size := fun p hp => hW.lt p hp
  have hW1 := hW
  obtain ⟨p, q, hA, hV, hpq, hz, hn⟩ := hW
  rw [hsv] at hV
  obtain ⟨rfl, rfl⟩ := trodVars_none hV
  rw [List.append_nil] at hpq
  subst hpq
  have hs' : s.fn H (ds ++ []) = { results := [.lit (.bool true)], args := ds } := by rw [List.append_nil]; exact hs
  have hres : ∀ (b : Nat) (sp : Nat → Bool) (hd : Bool), DataW.TrodAll enc P W' b sp hd f.resultTypes.toList ((Value.bool true).resultList f.resultTypes.size) (s.fn H (ds ++ [])).results [] := by
    intro b sp hd
    rw [hs', hrt]
    exact trodAll_mk1 (shut_bool hbt true)
  have hargs : ∀ sp : Nat → Bool, (∀ x ∈ before, sp x.block = true) → DataW.TrodAll enc P W' 0 sp true f.params.toList args.toList (s.fn H (ds ++ [])).args before := by
    intro sp hsp
    rw [hs']
    exact trodAll_stays hl hb hr hlt hsp hA
  have hvars : ∀ sp : Nat → Bool, DataW.TrodVars enc P W' sp s.vars (s.fn H (ds ++ [])).vars [] := by
    intro sp
    rw [hs', hsv]
    rfl
  have hok : ∀ (j : Nat) (t : TypeId) (r : Value), f.resultTypes[j]? = some t → ((Value.bool true).resultList f.resultTypes.size)[j]? = some r → Value.okWide P W' .any 0 t r := by
    have := ok_one (P := P) (W' := W') (f := f) (v := .bool true) hrt rfl (okWide_bool_mk hbt true)
    exact this
  have hold : ∀ x ∈ before, (fun b => decide (b < W.heap.size)) x.block = true := fun x hx => by simpa using hlt x hx
  refine ⟨ds, [], before, [], before, [], hW1, hres _ _ _, hargs _ hold, hvars _, World.keptBut_mono (fun x hx => ⟨hx, ?_⟩) (hb.frame (· ∈ before)), fun _ => ?_⟩
  · first | exact Or.inr hx | exact Or.inr (Or.inl hx) | simpa using hx
  · refine ⟨hok, _, _, ([] ++ before) ++ [], ⟨[] ++ before, [], trodAll_append (hargs _ (fun _ _ => rfl)) (hres _ _ _), hvars _, rfl, ?_, fun ha => by cases ha⟩, ?_⟩
    · intro b off hx
      have hin : MemPlace.cell b off ∈ before := by simpa using hx
      rw [hb.frozen (hlt _ hin)]
      exact hz b off hin
    · exact fun p hp _ => by simpa using hp

theorem law_lift {C : Checked} {F : FuncId} {fn : Func} {s : ChangeSpec} {bt : TypeId} {os : Os} (started : os.Started) (own : ownKnob C.prog.godebug = none) (noInit : C.prog.inits.idxOf? F = none) (hfn : C.prog.funcs[F]? = some fn)
    (hrt : fn.resultTypes = #[bt]) (hbt : C.prog.underlying bt = some .bool) (hsv : s.vars = []) (hl : laidOutB C.prog = true) (hr : ∀ t ∈ fn.params.toList, C.prog.readableRec t = true ∧ t < C.prog.types.size)
    (hs : ∀ ds : List (DataW H), ds.length = fn.params.toList.length → s.fn H ds = { results := [.lit (.bool true)], args := ds })
    (witness : ∃ (w : World) (tape : Tape) (i : Input), w.os = os ∧ (w.forCall tape i).Shaped C.prog ∧ i.vars = [] ∧ Input.okWide C.prog (w.forCall tape i) .any w.heap.size F i ∧
      s.pre6 enc C.prog fn [] false (w.forCall tape i).memory i.args ∧ Assume.holds {} C.prog (lone (Frame.enter C.prog F i.args .normal) [] (w.forCall tape i)))
    (contract : ∀ (W : World) (base : Nat) (args : Array Value) (ds : List (DataW H)) (p : List MemPlace), (∀ (j : Nat) t v, fn.params[j]? = some t → args[j]? = some v → Value.okWide C.prog W .any base t v) →
      DataW.TrodAll enc C.prog W 0 (fun _ => true) true fn.params.toList args.toList ds p → (∀ x ∈ p, x.block < W.heap.size) → Calls C.prog F args W fun e w' => e = .returned (.bool true) ∧ Below W.heap.size W w') (fresh handsOn again : Bool) :
    ReturnsInHanded {} C os F .any (s.pre6 enc C.prog fn [] false) (s.post enc C.prog fn false fresh handsOn again) := by
  refine returnsInHanded_of_change own started noInit hfn witness ?_
  intro W base args ds gs before hval hW hc _
  have hW1 := hW
  obtain ⟨p, q, hA, hV, hpq, hz, hn⟩ := hW
  have hA1 : DataW.TrodAll enc C.prog W 0 (fun _ => true) true fn.params.toList args.toList ds p := hA
  rw [hsv] at hV
  obtain ⟨_, rfl⟩ := trodVars_none hV
  have hlen : ds.length = fn.params.toList.length := by
    clear hW1 hA hval hpq hc contract witness
    generalize fn.params.toList = ts at hA1
    generalize args.toList = vs at hA1
    induction ts generalizing vs ds p with
    | nil => obtain ⟨_, rfl, _⟩ := trodAll_nil hA1; rfl
    | cons t ts ih =>
      obtain ⟨_, _, _, _, _, _, rfl, rfl, rfl, _, h1⟩ := trodAll_cons hA1
      rw [List.length_cons, List.length_cons, ih _ _ _ h1]
  refine (contract W base args ds p hval hA1 (fun x hx => hW1.lt x (by rw [hpq]; exact List.mem_append_left _ hx))).mono fun e W' ⟨he, hb⟩ => ?_
  subst he
  exact ⟨_, rfl, law_post hrt hbt hsv (hs ds hlen) hl hr hW1 hb⟩
end

section
variable {H : Type} {enc : TypeId × Value → H} {w : World} {base : Nat} {spare : Nat → Bool} {held : Bool}
theorem trod_fields {P : Program} {t : TypeId} {fs : Array Field} {fuel : Nat} {cs : List Value} {x : DataW H × List MemPlace} (hs : P.underlying t = some (.struct fs)) (hone0 : (match P.underlying t with | some (.struct fs) => oneCellFields P fs && P.cellsOf t == fs.size | _ => false) = true)
    (h : DataW.trod enc P w base spare held fuel t cs = some x) :
    cs.length = fs.size ∧ ∀ (j : Nat) (f : Field), fs[j]? = some f → ∃ (c : Value) (y : DataW H × List MemPlace) (n : Nat), cs[j]? = some c ∧ DataW.trod enc P w base spare held n f.type [c] = some y := by
  rw [hs] at hone0
  simp only [Bool.and_eq_true, beq_iff_eq] at hone0
  obtain ⟨hone, hC⟩ := hone0
  obtain ⟨xs, n, _, _, hcl, hlen, hg⟩ := DataW.trod_struct hs h
  have hll : cs.length = fs.size := hcl.trans hC
  refine ⟨hll, fun j f hj => ?_⟩
  obtain ⟨o, k⟩ := hone_of hone j f hj
  have hjl : j < fs.size := (Array.getElem?_eq_some_iff.1 hj).1
  have h1 := hg j f hj
  rw [o, k] at h1
  have hone' : (cs.drop j).take 1 = [cs[j]'(by omega)] := by
    rw [List.drop_eq_getElem_cons (by omega)]
    rfl
  rw [hone', List.getElem?_eq_getElem (by omega)] at h1
  exact ⟨_, _, n, List.getElem?_eq_getElem (by omega), h1⟩

theorem open_fields {P : Program} {r : Reach} {b0 : Nat} {t : TypeId} {fs : Array Field} {v : Value} {d : DataW H} {p : List MemPlace} (hs : P.underlying t = some (.struct fs)) (hone0 : (match P.underlying t with | some (.struct fs) => oneCellFields P fs && P.cellsOf t == fs.size | _ => false) = true)
    (hv : Value.okWide P w r b0 t v) (h : DataW.Trod enc P w base spare held t v d p) :
    ∃ cs : List Value, v = .agg ⟨cs⟩ ∧ cs.length = fs.size ∧ ∀ (j : Nat) (f : Field), fs[j]? = some f → ∃ (c : Value) (y : DataW H × List MemPlace) (n : Nat), cs[j]? = some c ∧ DataW.trod enc P w base spare held n f.type [c] = some y := by
  obtain ⟨cs, rfl, hsz⟩ := okWide_struct hs hv
  obtain ⟨l⟩ := cs
  obtain ⟨fuel, hf⟩ := h
  have hcells : (Value.agg ⟨l⟩).cells.toList = l := by simp [Value.cells]
  rw [hcells] at hf
  exact ⟨l, rfl, trod_fields hs hone0 hf⟩

theorem spot_none {w : World} {a : Addr} {v : Value} (h : w.cell? a = some v) : a.spot = none ∧ a.block < w.heap.size := by
  unfold World.cell? at h
  split at h
  · rename_i hb
    refine ⟨?_, (Array.getElem?_eq_some_iff.1 hb).1⟩
    split at h
    · cases h
    · rename_i hs
      simpa using hs
  · cases h
theorem spot_first {w : World} {a : Addr} {v : Value} (h : w.cell? (a.add 0) = some v) : ∃ b o : Nat, a = ⟨b, o, none⟩ ∧ b < w.heap.size := by
  have e : a.add 0 = a := if_pos rfl
  rw [e] at h
  obtain ⟨hs, hb⟩ := spot_none h
  obtain ⟨b, o, s⟩ := a
  have hs' : s = none := hs
  subst hs'
  exact ⟨b, o, rfl, hb⟩
theorem add_plain (b o k : Nat) : (⟨b, o, none⟩ : Addr).add k = ⟨b, o + k, none⟩ := by
  unfold Addr.add
  split
  · rename_i h; subst h; rfl
  · rfl
theorem boxOne : (match Try.prog.underlying 28 with | some (.struct fs) => oneCellFields Try.prog fs && Try.prog.cellsOf 28 == fs.size | _ => false) = true := by kernel_rfl
set_option maxRecDepth 100000 in
theorem open_box {r : Reach} {b0 : Nat} {v : Value} {d : DataW H} {p : List MemPlace} (hv : Value.okWide Try.prog w r b0 28 v) (h : DataW.Trod enc Try.prog w base spare held 28 v d p) : ∃ b : L.Bx, v = .agg #[.int .i64 b.l, .int .i64 b.r, .int .i64 b.b, .int .i64 b.t] ∧ (Lit.int .i64 b.l).wf = true ∧ (Lit.int .i64 b.r).wf = true ∧ (Lit.int .i64 b.b).wf = true ∧ (Lit.int .i64 b.t).wf = true := by
  obtain ⟨cs, rfl, hl, hf⟩ := open_fields Try.underlying28 boxOne hv h
  match cs, hl with
  | [c0, c1, c2, c3], _ =>
    obtain ⟨_, _, _, e0, h0⟩ := hf 0 _ rfl
    obtain ⟨_, _, _, e1, h1⟩ := hf 1 _ rfl
    obtain ⟨_, _, _, e2, h2⟩ := hf 2 _ rfl
    obtain ⟨_, _, _, e3, h3⟩ := hf 3 _ rfl
    obtain ⟨n0, k0, _, w0⟩ := DataW.trod_int Try.underlying3 h0
    obtain ⟨n1, k1, _, w1⟩ := DataW.trod_int Try.underlying3 h1
    obtain ⟨n2, k2, _, w2⟩ := DataW.trod_int Try.underlying3 h2
    obtain ⟨n3, k3, _, w3⟩ := DataW.trod_int Try.underlying3 h3
    refine ⟨⟨n0, n1, n2, n3⟩, ?_, w0, w1, w2, w3⟩
    simp only [List.getElem?_cons_zero, List.getElem?_cons_succ, Option.some.injEq] at e0 e1 e2 e3
    simp only [List.cons.injEq, and_true] at k0 k1 k2 k3
    rw [e0, e1, e2, e3, k0, k1, k2, k3]
theorem markOne : (match Try.prog.underlying 30 with | some (.struct fs) => oneCellFields Try.prog fs && Try.prog.cellsOf 30 == fs.size | _ => false) = true := by kernel_rfl
set_option maxRecDepth 100000 in
theorem open_mark {r : Reach} {b0 : Nat} {v : Value} {d : DataW H} {p : List MemPlace} (hv : Value.okWide Try.prog w r b0 30 v) (h : DataW.Trod enc Try.prog w base spare held 30 v d p) : ∃ b : L.Mk, v = .agg #[.int .i64 b.x, .int .i64 b.y, .int .i64 b.hx, .int .i64 b.hy] ∧ (Lit.int .i64 b.x).wf = true ∧ (Lit.int .i64 b.y).wf = true ∧ (Lit.int .i64 b.hx).wf = true ∧ (Lit.int .i64 b.hy).wf = true := by
  obtain ⟨cs, rfl, hl, hf⟩ := open_fields Try.underlying30 markOne hv h
  match cs, hl with
  | [c0, c1, c2, c3], _ =>
    obtain ⟨_, _, _, e0, h0⟩ := hf 0 _ rfl
    obtain ⟨_, _, _, e1, h1⟩ := hf 1 _ rfl
    obtain ⟨_, _, _, e2, h2⟩ := hf 2 _ rfl
    obtain ⟨_, _, _, e3, h3⟩ := hf 3 _ rfl
    obtain ⟨n0, k0, _, w0⟩ := DataW.trod_int Try.underlying3 h0
    obtain ⟨n1, k1, _, w1⟩ := DataW.trod_int Try.underlying3 h1
    obtain ⟨n2, k2, _, w2⟩ := DataW.trod_int Try.underlying3 h2
    obtain ⟨n3, k3, _, w3⟩ := DataW.trod_int Try.underlying3 h3
    refine ⟨⟨n0, n1, n2, n3⟩, ?_, w0, w1, w2, w3⟩
    simp only [List.getElem?_cons_zero, List.getElem?_cons_succ, Option.some.injEq] at e0 e1 e2 e3
    simp only [List.cons.injEq, and_true] at k0 k1 k2 k3
    rw [e0, e1, e2, e3, k0, k1, k2, k3]
theorem stripOne : (match Try.prog.underlying 54 with | some (.struct fs) => oneCellFields Try.prog fs && Try.prog.cellsOf 54 == fs.size | _ => false) = true := by kernel_rfl
set_option maxRecDepth 100000 in
theorem open_strips {v : Value} {x : DataW H × List MemPlace} {fuel : Nat} (hf : DataW.trod enc Try.prog w base (fun _ => true) held fuel 22 [v] = some x) :
    ∃ (A : Option Addr) (n c : Nat) (ss : List L.St), v = .slice A n c ∧ n ≤ c ∧ c ≤ maxLen ∧ ss.length = n ∧ RdS w w.heap.size A ss ∧ (A = none → c = 0) := by
  rcases Go.Deep.open_slice Try.underlying22 hf with ⟨hcs, _⟩ | ⟨a, len, cap, m, n, D, Pl, hcs, _, hle, hmax, hm, _, hi⟩
  · simp at hcs
    subst hcs
    exact ⟨none, 0, 0, [], rfl, Nat.le_refl _, Nat.zero_le _, rfl, RdS.nil _ _ _, fun _ => rfl⟩
  · simp at hcs
    subst hcs
    simp only [if_true] at hm
    have each : ∀ i, i < len → ∃ q : L.St, w.cell? (a.add (i * 4)) = some (.int .i64 q.p) ∧ w.cell? ((a.add (i * 4)).add 1) = some (.int .i64 q.q) ∧ w.cell? ((a.add (i * 4)).add 2) = some (.int .i64 q.lo) ∧ w.cell? ((a.add (i * 4)).add 3) = some (.int .i64 q.hi) := by
      intro i hil
      obtain ⟨cs', hc, ht⟩ := hi i (by omega)
      rw [stripCells] at hc
      obtain ⟨_, hcl, hat⟩ := World.cells?_some hc
      obtain ⟨_, hff⟩ := trod_fields Try.underlying54 stripOne ht
      match cs', hcl with
      | [c0', c1', c2', c3'], _ =>
        obtain ⟨_, _, _, e0, g0⟩ := hff 0 _ rfl
        obtain ⟨_, _, _, e1, g1⟩ := hff 1 _ rfl
        obtain ⟨_, _, _, e2, g2⟩ := hff 2 _ rfl
        obtain ⟨_, _, _, e3, g3⟩ := hff 3 _ rfl
        obtain ⟨n0', k0, _, _⟩ := DataW.trod_int Try.underlying3 g0
        obtain ⟨n1', k1, _, _⟩ := DataW.trod_int Try.underlying3 g1
        obtain ⟨n2', k2, _, _⟩ := DataW.trod_int Try.underlying3 g2
        obtain ⟨n3', k3, _, _⟩ := DataW.trod_int Try.underlying3 g3
        simp only [List.getElem?_cons_zero, List.getElem?_cons_succ, Option.some.injEq] at e0 e1 e2 e3
        simp only [List.cons.injEq, and_true] at k0 k1 k2 k3
        rw [← e0] at k0
        rw [← e1] at k1
        rw [← e2] at k2
        rw [← e3] at k3
        subst k0 k1 k2 k3
        exact ⟨⟨n0', n1', n2', n3'⟩, hat 0 (by omega), hat 1 (by omega), hat 2 (by omega), hat 3 (by omega)⟩
    refine ⟨some a, len, cap, (List.range len).map (fun i => if h : i < len then (each i h).choose else ⟨0, 0, 0, 0⟩), rfl, hle, hmax, by simp, ?_, fun e => by cases e⟩
    intro k q hk
    have hkn : k < len := by
      rcases Nat.lt_or_ge k len with hl | hl
      · exact hl
      · rw [List.getElem?_eq_none (by simp; omega)] at hk; cases hk
    have hq : (each k hkn).choose = q := by
      rw [List.getElem?_map, List.getElem?_range hkn] at hk
      simpa [hkn] using hk
    have hc := (each k hkn).choose_spec
    rw [hq] at hc
    obtain ⟨_, h00, _⟩ := each 0 (by omega)
    obtain ⟨b, o, rfl, hb'⟩ := spot_first (by rw [Nat.zero_mul] at h00; exact h00)
    rw [add_plain, add_plain, add_plain, add_plain] at hc
    exact ⟨b, o, rfl, hb', hc.1, hc.2.1, hc.2.2.1, hc.2.2.2⟩

theorem spanOne : (match Try.prog.underlying 24 with | some (.struct fs) => oneCellFields Try.prog fs && Try.prog.cellsOf 24 == fs.size | _ => false) = true := by kernel_rfl
theorem open_span {cs : List Value} {x : DataW H × List MemPlace} {fuel : Nat} (h : DataW.trod enc Try.prog w base spare held fuel 24 cs = some x) : ∃ a b : Int, cs = [.int .i64 a, .int .i64 b] ∧ (Lit.int .i64 a).wf = true ∧ (Lit.int .i64 b).wf = true := by
  obtain ⟨hl, hff⟩ := trod_fields Try.underlying24 spanOne h
  match cs, hl with
  | [c0, c1], _ =>
    obtain ⟨_, _, _, e0, g0⟩ := hff 0 _ rfl
    obtain ⟨_, _, _, e1, g1⟩ := hff 1 _ rfl
    obtain ⟨n0, k0, _, w0⟩ := DataW.trod_int Try.underlying3 g0
    obtain ⟨n1, k1, _, w1⟩ := DataW.trod_int Try.underlying3 g1
    simp only [List.getElem?_cons_zero, List.getElem?_cons_succ, Option.some.injEq] at e0 e1
    simp only [List.cons.injEq, and_true] at k0 k1
    exact ⟨n0, n1, by rw [e0, e1, k0, k1], w0, w1⟩
set_option maxRecDepth 100000 in
theorem open_view {r : Reach} {b0 : Nat} {v : Value} {d : DataW H} {p : List MemPlace} (hv : Value.okWide Try.prog w r b0 26 v) (h : DataW.Trod enc Try.prog w base (fun _ => true) held 26 v d p) :
    ∃ (x : L.Vw) (A : Option Addr) (n c : Nat), v = .agg #[.int .i64 x.size, .slice A n c, .int .i64 x.wrong, .int .i64 x.hxl, .int .i64 x.hxh, .int .i64 x.hyl, .int .i64 x.hyh] ∧ n ≤ c ∧ c ≤ maxLen ∧ x.ss.length = n ∧ RdS w w.heap.size A x.ss ∧ (A = none → c = 0) ∧ ((Lit.int .i64 x.size).wf = true ∧ (Lit.int .i64 x.wrong).wf = true ∧ (Lit.int .i64 x.hxl).wf = true ∧ (Lit.int .i64 x.hxh).wf = true ∧ (Lit.int .i64 x.hyl).wf = true ∧ (Lit.int .i64 x.hyh).wf = true) := by
  obtain ⟨cs, rfl, hsz⟩ := okWide_struct Try.underlying26 hv
  obtain ⟨l⟩ := cs
  obtain ⟨fuel, hf⟩ := h
  have hcells : (Value.agg ⟨l⟩).cells.toList = l := by simp [Value.cells]
  rw [hcells] at hf
  obtain ⟨xs, n, _, _, hcl, hlen, hg⟩ := DataW.trod_struct Try.underlying26 hf
  rw [viewCells] at hcl
  match l, hcl with
  | [c0, c1, c2, c3, c4, c5, c6], _ =>
    have look : ∀ j, j < xs.length → ∃ y, xs[j]? = some y := fun j hj => ⟨_, List.getElem?_eq_getElem hj⟩
    have hx5 : xs.length = 5 := hlen
    obtain ⟨y0, hy0⟩ := look 0 (by omega)
    obtain ⟨y1, hy1⟩ := look 1 (by omega)
    obtain ⟨y2, hy2⟩ := look 2 (by omega)
    obtain ⟨y3, hy3⟩ := look 3 (by omega)
    obtain ⟨y4, hy4⟩ := look 4 (by omega)
    have g0 : DataW.trod enc Try.prog w base (fun _ => true) held n 3 (List.take (Try.prog.cellsOf 3) (List.drop 0 [c0, c1, c2, c3, c4, c5, c6])) = some y0 := (hg 0 _ rfl).trans hy0
    have g1 : DataW.trod enc Try.prog w base (fun _ => true) held n 22 (List.take (Try.prog.cellsOf 22) (List.drop 1 [c0, c1, c2, c3, c4, c5, c6])) = some y1 := (hg 1 _ rfl).trans hy1
    have g2 : DataW.trod enc Try.prog w base (fun _ => true) held n 3 (List.take (Try.prog.cellsOf 3) (List.drop 2 [c0, c1, c2, c3, c4, c5, c6])) = some y2 := (hg 2 _ rfl).trans hy2
    have g3 : DataW.trod enc Try.prog w base (fun _ => true) held n 24 (List.take (Try.prog.cellsOf 24) (List.drop 3 [c0, c1, c2, c3, c4, c5, c6])) = some y3 := (hg 3 _ rfl).trans hy3
    have g4 : DataW.trod enc Try.prog w base (fun _ => true) held n 24 (List.take (Try.prog.cellsOf 24) (List.drop 5 [c0, c1, c2, c3, c4, c5, c6])) = some y4 := (hg 4 _ rfl).trans hy4
    rw [intCells] at g0 g2
    rw [stripsCells] at g1
    rw [spanCells] at g3 g4
    simp only [List.drop_succ_cons, List.drop_zero, List.take_succ_cons, List.take_zero] at g0 g1 g2 g3 g4
    obtain ⟨n0, k0, _, w0⟩ := DataW.trod_int Try.underlying3 g0
    obtain ⟨A, m, c, ss, rfl, h1, h2, h3, h4, h5⟩ := open_strips g1
    obtain ⟨n2, k2, _, w2⟩ := DataW.trod_int Try.underlying3 g2
    obtain ⟨a3, b3, k3, w3, w3'⟩ := open_span g3
    obtain ⟨a4, b4, k4, w4, w4'⟩ := open_span g4
    simp only [List.cons.injEq, and_true] at k0 k2 k3 k4
    obtain ⟨k3, k3'⟩ := k3
    obtain ⟨k4, k4'⟩ := k4
    subst k0 k2 k3 k3' k4 k4'
    exact ⟨⟨n0, ss, n2, a3, b3, a4, b4⟩, A, m, c, rfl, h1, h2, h3, h4, h5, w0, w2, w3, w3', w4, w4'⟩

end
end Go.Proofs.Ytampfpnkkdihaaa

namespace Go.Proofs.Ytampfpnkkdihaaa
open Go.RowKit

theorem zcA {w : World} (c : Array Value) (t : TypeId) (n i : Nat) (h : n = w.heap.size) : (w.alloc (.cells c t)).cell? ⟨n, i, none⟩ = c[i]? := World.cell?_alloc_at c t n i h
theorem zcP {w : World} (o : Obj) (n i : Nat) (h : n < w.heap.size) : (w.alloc o).cell? ⟨n, i, none⟩ = w.cell? ⟨n, i, none⟩ := World.cell?_alloc_past o n i h
theorem zfA {w : World} (c : Array Value) (t : TypeId) (n i : Nat) (h : n = w.heap.size) : (w.alloc (.cells c t)).frozen? ⟨n, i, none⟩ = false := World.frozen?_alloc_at c t n i h
theorem zfP {w : World} (o : Obj) (n i : Nat) (h : n < w.heap.size) : (w.alloc o).frozen? ⟨n, i, none⟩ = w.frozen? ⟨n, i, none⟩ := World.frozen?_alloc_past o n i h
theorem zsS (w : World) (a : Addr) (v : Value) (h : (w.cell? a).isSome = true) : (w.setCell a v).cell? a = some v := World.cell?_setCell_same' w a v h
theorem zsO (w : World) (a b : Addr) (v : Value) (h : a ≠ b) : (w.setCell a v).cell? b = w.cell? b := World.cell?_setCell_other w a b v h
theorem zsA (w : World) (a : Addr) (o : Obj) (h : (w.cell? a).isSome = true) : (w.alloc o).cell? a = w.cell? a := World.cell?_alloc_some w a o h

def Hid (p : Prop) : Prop := p
theorem hide {p : Prop} (h : p) : Hid p := h
theorem Hid.out {p : Prop} (h : Hid p) : p := h

theorem within_any (n lo hi : Int) (w : World) :
    Calls Try.prog 61 #[.int .i64 n, .int .i64 lo, .int .i64 hi] w fun e w' => e = .returned (.bool (L.within n lo hi)) ∧ w = w' := by
  by_cases h1 : lo ≤ n <;> by_cases h2 : n ≤ hi <;>
    (have ho : ∃ b, Hid (L.within n lo hi = b) := ⟨_, rfl⟩
     obtain ⟨b, hb⟩ := ho
     go_enter Try.func61, Try.ntmps61
     go_wp2
     go_ret
     exact ⟨by simp [L.within, h1, h2], rfl⟩)

theorem refWithin_any (n lo hi : Int) (w : World) :
    Calls Try.prog 57 #[.int .i64 n, .int .i64 lo, .int .i64 hi] w fun e w' => e = .returned (.bool (L.within n lo hi)) ∧ w = w' := by
  by_cases h1 : lo ≤ n <;> by_cases h2 : n ≤ hi <;>
    (go_enter Try.func57, Try.ntmps57
     go_wp2
     go_ret
     exact ⟨by simp [L.within, h1, h2], rfl⟩)

theorem sure_any (n : Int) (w : World) :
    Calls Try.prog 54 #[.int .i64 n] w fun e w' => e = .returned (.bool (L.sure n)) ∧ w = w' := by
  cases h1 : (n == 1) <;> cases h2 : (n == 2) <;>
    (go_enter Try.func54, Try.ntmps54
     go_wp2
     go_ret
     exact ⟨by simp [L.sure, h1, h2], rfl⟩)

theorem spanWithin_any (a b lo hi : Int) (w : World) :
    Calls Try.prog 62 #[.agg #[.int .i64 a, .int .i64 b], .int .i64 lo, .int .i64 hi] w fun e w' => e = .returned (.bool (L.spanIn a b lo hi)) ∧ Below w.heap.size w w' := by
  by_cases h1 : lo ≤ a <;> by_cases h2 : a ≤ b <;> by_cases h3 : b ≤ hi <;>
    (go_enter Try.func62, Try.ntmps62
     go_wp2
     go_ret
     exact ⟨by simp [L.spanIn, h1, h2, h3], (Below.refl _ _).alloc (Nat.le_refl _) _⟩)

end Go.Proofs.Ytampfpnkkdihaaa

namespace Go.Proofs.Ytampfpnkkdihaaa
open Go.RowKit

theorem bcell {W w1 : World} (hb : Below W.heap.size W w1) : (∀ b o, b < W.heap.size → w1.cell? ⟨b, o, none⟩ = W.cell? ⟨b, o, none⟩) ∧ (∀ b o, b < W.heap.size → w1.frozen? ⟨b, o, none⟩ = W.frozen? ⟨b, o, none⟩) :=
  ⟨fun b o h => hb.cell (p := ⟨b, o, none⟩) h, fun b o h => hb.frozen (p := ⟨b, o, none⟩) h⟩
theorem below_drewN {B : Nat} {a w : World} (h : Below B a w) (n : Nat) : Below B a (w.drewN n) := ⟨h.os, h.tape, h.output, h.size, h.block⟩
theorem owns_mono {w : World} {base base' : Nat} {e : TypeId} {size : Nat} {v : Value} {n : Nat} {xs : List Value} (h : w.ownsRow base e size v n xs) (hb : base' ≤ base) : w.ownsRow base' e size v n xs :=
  ⟨h.1, h.2.imp id fun ⟨g, cap, cur, e1, hg, r⟩ => ⟨g, cap, cur, e1, Nat.le_trans hb hg, r⟩⟩
theorem own_form {w : World} {base : Nat} {e : TypeId} {n size : Nat} {xs : List Value} {v : Value} (h : w.ownsRow base e size v n xs) : ∃ A c, v = .slice A n c := by
  rcases h.2 with ⟨rfl, rfl⟩ | ⟨g, cap, cur, rfl, _⟩
  · exact ⟨none, 0, rfl⟩
  · exact ⟨_, cap, rfl⟩
theorem only_of_below' {a w : World} (h : Below a.heap.size a w) : a.grownBy w none := ⟨h.os, h.tape, h.output, h.size, fun i hi _ => h.block i hi⟩
theorem owns_below {w w' : World} {base : Nat} {e : TypeId} {size : Nat} {v : Value} {n : Nat} {xs : List Value} (h : w.ownsRow base e size v n xs) (hb : Below w.heap.size w w') : w'.ownsRow base e size v n xs :=
  h.kept (only_of_below' hb) (by cases v.ownBlock <;> simp)
theorem grown_below {w w' : World} {row : Option Nat} {B : Nat} (h : w.grownBy w' row) (hB : B ≤ w.heap.size) (hr : ∀ g, row = some g → B ≤ g) : Below B w w' :=
  ⟨h.os, h.tape, h.output, h.size, fun i hi => h.block i (by omega) (fun e => by have := hr i e.symm; omega)⟩

end Go.Proofs.Ytampfpnkkdihaaa

namespace Go.Proofs.Ytampfpnkkdihaaa
open Go.RowKit

theorem validStrip_any (s : L.St) (w : World) :
    Calls Try.prog 63 #[.agg #[.int .i64 s.p, .int .i64 s.q, .int .i64 s.lo, .int .i64 s.hi]] w fun e w' => e = .returned (.bool (L.stripB s)) ∧ Below w.heap.size w w' := by
  cases h1 : L.within s.p (-3) 3
  · go_enter Try.func63, Try.ntmps63
    go_wp2_with (go_at_call 61; refine (within_any _ _ _ _).mono ?_; rintro e w' ⟨rfl, rfl⟩)
    go_ret
    exact ⟨by simp [L.stripB, *], by (repeat' first | exact zbR _ _ | assumption | refine zbD ?_ | refine zbA ?_ ?_ _ | refine zbS ?_ ?_ _ | refine zbT ?_ (by assumption) ?_ | (simp; done) | (simp; omega) | omega)⟩
  cases h2 : L.within s.q (-3) 3
  · go_enter Try.func63, Try.ntmps63
    go_wp2_with (go_at_call 61; refine (within_any _ _ _ _).mono ?_; rintro e w' ⟨rfl, rfl⟩)
    go_ret
    exact ⟨by simp [L.stripB, *], by (repeat' first | exact zbR _ _ | assumption | refine zbD ?_ | refine zbA ?_ ?_ _ | refine zbS ?_ ?_ _ | refine zbT ?_ (by assumption) ?_ | (simp; done) | (simp; omega) | omega)⟩
  cases h3 : (s.p != 0) <;> cases h4 : (s.q != 0) <;> cases h5 : L.spanIn s.lo s.hi (-500) 500
  all_goals
    go_enter Try.func63, Try.ntmps63
    go_wp2_with (first | (go_at_call 61; refine (within_any _ _ _ _).mono ?_; rintro e w' ⟨rfl, rfl⟩) | (go_at_call 62; refine (spanWithin_any _ _ _ _ _).mono ?_; rintro e w2 ⟨rfl, hb2⟩))
    go_ret
    exact ⟨by simp [L.stripB, *], by (repeat' first | exact zbR _ _ | assumption | refine zbD ?_ | refine zbA ?_ ?_ _ | refine zbS ?_ ?_ _ | refine zbT ?_ (by assumption) ?_ | (simp; done) | (simp; omega) | omega)⟩

theorem validBox_any (b : L.Bx) (w : World) :
    Calls Try.prog 51 #[.agg #[.int .i64 b.l, .int .i64 b.r, .int .i64 b.b, .int .i64 b.t]] w fun e w' => e = .returned (.bool (L.boxB b)) ∧ Below w.heap.size w w' := by
  cases h1 : L.spanIn b.l b.r 0 40
  · go_enter Try.func51, Try.ntmps51
    go_wp2_with (go_at_call 62; refine (spanWithin_any _ _ _ _ _).mono ?_; rintro e w2 ⟨rfl, hb2⟩)
    go_ret
    exact ⟨by simp [L.boxB, *], by (repeat' first | exact zbR _ _ | assumption | refine zbD ?_ | refine zbA ?_ ?_ _ | refine zbS ?_ ?_ _ | refine zbT ?_ (by assumption) ?_ | (simp; done) | (simp; omega) | omega)⟩
  cases h2 : L.spanIn b.b b.t 0 40
  all_goals
    go_enter Try.func51, Try.ntmps51
    go_wp2_with (go_at_call 62; refine (spanWithin_any _ _ _ _ _).mono ?_; rintro e w2 ⟨rfl, hb2⟩; obtain ⟨hc, hf⟩ := bcell hb2; have hz := hb2.size; (try simp at hz))
    go_ret
    exact ⟨by simp [L.boxB, *], by (repeat' first | exact zbR _ _ | assumption | refine zbD ?_ | refine zbA ?_ ?_ _ | refine zbS ?_ ?_ _ | refine zbT ?_ (by assumption) ?_ | (simp; done) | (simp; omega) | omega)⟩

theorem markWithin_any (m : L.Mk) (size a b c d : Int) (w : World) :
    Calls Try.prog 52 #[.agg #[.int .i64 m.x, .int .i64 m.y, .int .i64 m.hx, .int .i64 m.hy], .int .i64 size, .agg #[.int .i64 a, .int .i64 b], .agg #[.int .i64 c, .int .i64 d]] w fun e w' => e = .returned (.bool (L.markB m size a b c d)) ∧ Below w.heap.size w w' := by
  cases h1 : L.within m.x 0 size
  · go_enter Try.func52, Try.ntmps52
    go_wp2_with (go_at_call 61; refine (within_any _ _ _ _).mono ?_; rintro e w' ⟨rfl, rfl⟩)
    go_ret
    exact ⟨by simp [L.markB, *], by (repeat' first | exact zbR _ _ | assumption | refine zbD ?_ | refine zbA ?_ ?_ _ | refine zbS ?_ ?_ _ | refine zbT ?_ (by assumption) ?_ | (simp; done) | (simp; omega) | omega)⟩
  cases h2 : L.within m.y 0 size
  · go_enter Try.func52, Try.ntmps52
    go_wp2_with (go_at_call 61; refine (within_any _ _ _ _).mono ?_; rintro e w' ⟨rfl, rfl⟩)
    go_ret
    exact ⟨by simp [L.markB, *], by (repeat' first | exact zbR _ _ | assumption | refine zbD ?_ | refine zbA ?_ ?_ _ | refine zbS ?_ ?_ _ | refine zbT ?_ (by assumption) ?_ | (simp; done) | (simp; omega) | omega)⟩
  cases h3 : L.within m.hx a b
  · go_enter Try.func52, Try.ntmps52
    go_wp2_with (go_at_call 61; refine (within_any _ _ _ _).mono ?_; rintro e w' ⟨rfl, rfl⟩)
    go_ret
    exact ⟨by simp [L.markB, *], by (repeat' first | exact zbR _ _ | assumption | refine zbD ?_ | refine zbA ?_ ?_ _ | refine zbS ?_ ?_ _ | refine zbT ?_ (by assumption) ?_ | (simp; done) | (simp; omega) | omega)⟩
  cases h4 : L.within m.hy c d
  all_goals
    go_enter Try.func52, Try.ntmps52
    go_wp2_with (go_at_call 61; refine (within_any _ _ _ _).mono ?_; rintro e w' ⟨rfl, rfl⟩)
    go_ret
    exact ⟨by simp [L.markB, *], by (repeat' first | exact zbR _ _ | assumption | refine zbD ?_ | refine zbA ?_ ?_ _ | refine zbS ?_ ?_ _ | refine zbT ?_ (by assumption) ?_ | (simp; done) | (simp; omega) | omega)⟩

theorem isBox_any (b : L.Bx) (w : World) :
    Calls Try.prog 25 #[.agg #[.int .i64 b.l, .int .i64 b.r, .int .i64 b.b, .int .i64 b.t]] w fun e w' => e = .returned (.bool (L.boxB b)) ∧ Below w.heap.size w w' := by
  by_cases h1 : 0 ≤ b.l
  · by_cases h2 : b.l ≤ b.r
    · by_cases h3 : b.r ≤ 40
      · by_cases h4 : 0 ≤ b.b
        · by_cases h5 : b.b ≤ b.t
          · by_cases h6 : b.t ≤ 40
            all_goals
              go_enter Try.func25, Try.ntmps25
              go_wp2
              go_ret
              exact ⟨by simp [L.boxB, L.spanIn, *] <;> omega, by (repeat' first | exact zbR _ _ | assumption | refine zbD ?_ | refine zbA ?_ ?_ _ | refine zbS ?_ ?_ _ | refine zbT ?_ (by assumption) ?_ | (simp; done) | (simp; omega) | omega)⟩
          · go_enter Try.func25, Try.ntmps25
            go_wp2
            go_ret
            exact ⟨by simp [L.boxB, L.spanIn, *] <;> omega, by (repeat' first | exact zbR _ _ | assumption | refine zbD ?_ | refine zbA ?_ ?_ _ | refine zbS ?_ ?_ _ | refine zbT ?_ (by assumption) ?_ | (simp; done) | (simp; omega) | omega)⟩
        · go_enter Try.func25, Try.ntmps25
          go_wp2
          go_ret
          exact ⟨by simp [L.boxB, L.spanIn, *] <;> omega, by (repeat' first | exact zbR _ _ | assumption | refine zbD ?_ | refine zbA ?_ ?_ _ | refine zbS ?_ ?_ _ | refine zbT ?_ (by assumption) ?_ | (simp; done) | (simp; omega) | omega)⟩
      · go_enter Try.func25, Try.ntmps25
        go_wp2
        go_ret
        exact ⟨by simp [L.boxB, L.spanIn, *] <;> omega, by (repeat' first | exact zbR _ _ | assumption | refine zbD ?_ | refine zbA ?_ ?_ _ | refine zbS ?_ ?_ _ | refine zbT ?_ (by assumption) ?_ | (simp; done) | (simp; omega) | omega)⟩
    · go_enter Try.func25, Try.ntmps25
      go_wp2
      go_ret
      exact ⟨by simp [L.boxB, L.spanIn, *] <;> omega, by (repeat' first | exact zbR _ _ | assumption | refine zbD ?_ | refine zbA ?_ ?_ _ | refine zbS ?_ ?_ _ | refine zbT ?_ (by assumption) ?_ | (simp; done) | (simp; omega) | omega)⟩
  · go_enter Try.func25, Try.ntmps25
    go_wp2
    go_ret
    exact ⟨by simp [L.boxB, L.spanIn, *] <;> omega, by (repeat' first | exact zbR _ _ | assumption | refine zbD ?_ | refine zbA ?_ ?_ _ | refine zbS ?_ ?_ _ | refine zbT ?_ (by assumption) ?_ | (simp; done) | (simp; omega) | omega)⟩

theorem isMark_any (v : L.Vw) (A : Option Addr) (n c : Nat) (m : L.Mk) (w : World) :
    Calls Try.prog 49 #[.agg #[.int .i64 v.size, .slice A n c, .int .i64 v.wrong, .int .i64 v.hxl, .int .i64 v.hxh, .int .i64 v.hyl, .int .i64 v.hyh], .agg #[.int .i64 m.x, .int .i64 m.y, .int .i64 m.hx, .int .i64 m.hy]] w fun e w' => e = .returned (.bool (L.markB m v.size v.hxl v.hxh v.hyl v.hyh)) ∧ Below w.heap.size w w' := by
  cases h1 : L.within m.x 0 v.size
  · go_enter Try.func49, Try.ntmps49
    go_wp2_with (go_at_call 57; refine (refWithin_any _ _ _ _).mono ?_; rintro e w' ⟨rfl, rfl⟩)
    go_ret
    exact ⟨by simp [L.markB, *], by (repeat' first | exact zbR _ _ | assumption | refine zbD ?_ | refine zbA ?_ ?_ _ | refine zbS ?_ ?_ _ | refine zbT ?_ (by assumption) ?_ | (simp; done) | (simp; omega) | omega)⟩
  cases h2 : L.within m.y 0 v.size
  · go_enter Try.func49, Try.ntmps49
    go_wp2_with (go_at_call 57; refine (refWithin_any _ _ _ _).mono ?_; rintro e w' ⟨rfl, rfl⟩)
    go_ret
    exact ⟨by simp [L.markB, *], by (repeat' first | exact zbR _ _ | assumption | refine zbD ?_ | refine zbA ?_ ?_ _ | refine zbS ?_ ?_ _ | refine zbT ?_ (by assumption) ?_ | (simp; done) | (simp; omega) | omega)⟩
  cases h3 : L.within m.hx v.hxl v.hxh
  · go_enter Try.func49, Try.ntmps49
    go_wp2_with (go_at_call 57; refine (refWithin_any _ _ _ _).mono ?_; rintro e w' ⟨rfl, rfl⟩)
    go_ret
    exact ⟨by simp [L.markB, *], by (repeat' first | exact zbR _ _ | assumption | refine zbD ?_ | refine zbA ?_ ?_ _ | refine zbS ?_ ?_ _ | refine zbT ?_ (by assumption) ?_ | (simp; done) | (simp; omega) | omega)⟩
  cases h4 : L.within m.hy v.hyl v.hyh
  all_goals
    go_enter Try.func49, Try.ntmps49
    go_wp2_with (go_at_call 57; refine (refWithin_any _ _ _ _).mono ?_; rintro e w' ⟨rfl, rfl⟩)
    go_ret
    exact ⟨by simp [L.markB, *], by (repeat' first | exact zbR _ _ | assumption | refine zbD ?_ | refine zbA ?_ ?_ _ | refine zbS ?_ ?_ _ | refine zbT ?_ (by assumption) ?_ | (simp; done) | (simp; omega) | omega)⟩

end Go.Proofs.Ytampfpnkkdihaaa

namespace Go.Proofs.Ytampfpnkkdihaaa
open Go.RowKit
attribute [local go_sem ↓] Go.wp_at_zero Go.wp_at_succ

theorem L.headB_false {v : L.Vw} (h : L.headB v v.ss.length = false) : L.checkE v = 20 := by
  unfold L.checkE L.viewB
  rw [h]; rfl
theorem L.strips_false {v : L.Vw} {k : Nat} {s : L.St} (hk : v.ss[k]? = some s) (h : L.stripB s = false) : L.checkE v = 20 := by
  unfold L.checkE L.viewB
  have : v.ss.all L.stripB = false := by
    rw [List.all_eq_false]
    exact ⟨s, List.mem_of_getElem? hk, by simp [h]⟩
  rw [this]; simp
theorem L.view_true {v : L.Vw} (hh : L.headB v v.ss.length = true) (h : ∀ s ∈ v.ss, L.stripB s = true) : L.checkE v = 0 := by
  unfold L.checkE L.viewB
  rw [hh, List.all_eq_true.2 h]; rfl
theorem L.all_next {ss : List L.St} {k : Nat} {s : L.St} (h : ∀ t ∈ ss.take k, L.stripB t = true) (hk : ss[k]? = some s) (hs : L.stripB s = true) : ∀ t ∈ ss.take (k + 1), L.stripB t = true := by
  intro t ht
  rw [List.take_add_one, hk] at ht
  rcases List.mem_append.1 ht with h1 | h1
  · exact h t h1
  · obtain rfl : t = s := by simpa using h1
    exact hs

set_option maxHeartbeats 1600000 in
theorem Check_head (v : L.Vw) (A : Option Addr) (n c : Nat) (w : World) (h : L.headB v n = false) :
    Calls Try.prog 35 #[.agg #[.int .i64 v.size, .slice A n c, .int .i64 v.wrong, .int .i64 v.hxl, .int .i64 v.hxh, .int .i64 v.hyl, .int .i64 v.hyh]] w fun e w' => e = .returned (.int .i64 20) ∧ Below w.heap.size w w' := by
  cases h1 : L.within v.size 0 40
  · go_enter Try.func35, Try.ntmps35
    go_wp2_with (go_at_call 61; refine (within_any _ _ _ _).mono ?_; rintro e w' ⟨rfl, rfl⟩)
    go_ret
    exact ⟨rfl, by (repeat' first | exact zbR _ _ | assumption | refine zbD ?_ | refine zbA ?_ ?_ _ | refine zbS ?_ ?_ _ | refine zbT ?_ (by assumption) ?_ | (simp; done) | (simp; omega) | omega)⟩
  cases h2 : L.within v.wrong 0 3
  · go_enter Try.func35, Try.ntmps35
    go_wp2_with (go_at_call 61; refine (within_any _ _ _ _).mono ?_; rintro e w' ⟨rfl, rfl⟩)
    go_ret
    exact ⟨rfl, by (repeat' first | exact zbR _ _ | assumption | refine zbD ?_ | refine zbA ?_ ?_ _ | refine zbS ?_ ?_ _ | refine zbT ?_ (by assumption) ?_ | (simp; done) | (simp; omega) | omega)⟩
  cases h3 : L.spanIn v.hxl v.hxh 1 9
  · go_enter Try.func35, Try.ntmps35
    go_wp2_with (first | (go_at_call 61; refine (within_any _ _ _ _).mono ?_; rintro e w' ⟨rfl, rfl⟩) | (go_at_call 62; refine (spanWithin_any _ _ _ _ _).mono ?_; rintro e w2 ⟨rfl, hb2⟩; obtain ⟨hc, hf⟩ := bcell hb2; have hz : w.heap.size < w2.heap.size := (by have := hb2.size; (try simp at this); omega)))
    go_ret
    exact ⟨rfl, by (repeat' first | exact zbR _ _ | assumption | refine zbD ?_ | refine zbA ?_ ?_ _ | refine zbS ?_ ?_ _ | refine zbT ?_ (by assumption) ?_ | (simp; done) | (simp; omega) | omega)⟩
  cases h4 : L.spanIn v.hyl v.hyh 1 9
  · go_enter Try.func35, Try.ntmps35
    go_wp2_with (first | (go_at_call 61; refine (within_any _ _ _ _).mono ?_; rintro e w' ⟨rfl, rfl⟩) | (go_at_call 62; refine (spanWithin_any _ _ _ _ _).mono ?_; rintro e w2 ⟨rfl, hb2⟩; obtain ⟨hc, hf⟩ := bcell hb2; have hz : w.heap.size < w2.heap.size := (by have := hb2.size; (try simp at this); omega)))
    go_ret
    exact ⟨rfl, by (repeat' first | exact zbR _ _ | assumption | refine zbD ?_ | refine zbA ?_ ?_ _ | refine zbS ?_ ?_ _ | refine zbT ?_ (by assumption) ?_ | (simp; done) | (simp; omega) | omega)⟩
  have h5 : (8 : Int) < (n : Int) := by simp [L.headB, *] at h; omega
  clear h
  go_enter Try.func35, Try.ntmps35
  go_wp2_with (first | (go_at_call 61; refine (within_any _ _ _ _).mono ?_; rintro e w' ⟨rfl, rfl⟩) | (go_at_call 62; refine (spanWithin_any _ _ _ _ _).mono ?_; rintro e w2 ⟨rfl, hb2⟩; obtain ⟨hc, hf⟩ := bcell hb2; have hz : w.heap.size < w2.heap.size := (by have := hb2.size; (try simp at this); omega)))
  go_ret
  exact ⟨rfl, by (repeat' first | exact zbR _ _ | assumption | refine zbD ?_ | refine zbA ?_ ?_ _ | refine zbS ?_ ?_ _ | refine zbT ?_ (by assumption) ?_ | (simp; done) | (simp; omega) | omega)⟩

set_option maxHeartbeats 1600000 in
theorem Check_loop (v : L.Vw) (A : Option Addr) (n c : Nat) (w : World) (hn : v.ss.length = n) (hr : RdS w w.heap.size A v.ss) (h : L.headB v n = true) :
    Calls Try.prog 35 #[.agg #[.int .i64 v.size, .slice A n c, .int .i64 v.wrong, .int .i64 v.hxl, .int .i64 v.hxh, .int .i64 v.hyl, .int .i64 v.hyh]] w fun e w' => e = .returned (.int .i64 (L.checkE v)) ∧ Below w.heap.size w w' := by
  have hh : L.headB v v.ss.length = true := by rw [hn]; exact h
  have HH := hide hh
  have HN := hide hn
  have HR := hide hr
  clear hh hn hr
  obtain ⟨h1, h2, h3, h4, h5⟩ : L.within v.size 0 40 = true ∧ L.within v.wrong 0 3 = true ∧ L.spanIn v.hxl v.hxh 1 9 = true ∧ L.spanIn v.hyl v.hyh 1 9 = true ∧ (n : Int) ≤ 8 := by
    simp only [L.headB, Bool.and_eq_true, decide_eq_true_eq] at h
    obtain ⟨⟨⟨⟨a, b⟩, c⟩, d⟩, e⟩ := h
    exact ⟨a, b, c, d, by omega⟩
  clear h
  go_enter Try.func35, Try.ntmps35
  go_wp2_with (first | (go_at_call 61; refine (within_any _ _ _ _).mono ?_; rintro e w' ⟨rfl, rfl⟩) | (go_at_call 62; refine (spanWithin_any _ _ _ _ _).mono ?_; rintro e w2 ⟨rfl, hb2⟩; obtain ⟨hc, hf⟩ := bcell hb2; have hz : w.heap.size < w2.heap.size := (by have := hb2.size; (try simp at this); omega)))
  go_loopw [36] (fun i wr => ∃ k : Nat, k ≤ n ∧ i = .int .i64 k ∧ Hid (∀ s ∈ v.ss.take k, L.stripB s = true) ∧ Below w.heap.size w wr) (fun i _ => n - (intOf i).toNat)
  case atStart => exact ⟨0, by omega, rfl, hide (by simp), by (repeat' first | exact zbR _ _ | assumption | refine zbD ?_ | refine zbA ?_ ?_ _ | refine zbS ?_ ?_ _ | refine zbT ?_ (by assumption) ?_ | (simp; done) | (simp; omega) | omega)⟩
  case round =>
    obtain ⟨k, hk, rfl, hall, hB⟩ := hrel
    have hBs := hB.size
    by_cases hlt : k < n
    · obtain ⟨s, hs⟩ : ∃ s, v.ss[k]? = some s := ⟨_, List.getElem?_eq_getElem (by have := HN.out; omega)⟩
      obtain ⟨b, o, hA, hbB, c0, c1, c2, c3⟩ := (HR.out.below hB) k s hs
      subst hA
      have HS := hide hs
      clear hs
      have hlt' : (k : Int) < (n : Int) := by omega
      have hk0 : (0 : Int) ≤ (k : Int) := by omega
      cases hv : L.stripB s
      · have he := L.strips_false HS.out hv
        have HE := hide he
        clear he
        go_wp2_with (go_at_call 63; refine (validStrip_any s _).mono ?_; rintro e w3 ⟨rfl, hb3⟩)
        go_ret
        exact ⟨by rw [HE.out]; rfl, by (repeat' first | exact zbR _ _ | assumption | refine zbD ?_ | refine zbA ?_ ?_ _ | refine zbS ?_ ?_ _ | refine zbT ?_ (by assumption) ?_ | (simp; done) | (simp; omega) | omega)⟩
      · have HT := hide (L.all_next hall.out HS.out hv)
        go_wp2_with (go_at_call 63; refine (validStrip_any s _).mono ?_; rintro e w3 ⟨rfl, hb3⟩)
        go_roundw
        case rel => exact ⟨k + 1, by omega, by go_num, HT, by (repeat' first | exact zbR _ _ | assumption | refine zbD ?_ | refine zbA ?_ ?_ _ | refine zbS ?_ ?_ _ | refine zbT ?_ (by assumption) ?_ | (simp; done) | (simp; omega) | omega)⟩
        case measure => simp [intOf]; omega
    · have hkn : k = n := by omega
      have he : L.checkE v = 0 := L.view_true HH.out (by have := hall.out; rwa [List.take_of_length_le (by have := HN.out; omega)] at this)
      have HE := hide he
      clear he
      subst hkn
      go_wp2_with fail
      go_ret
      exact ⟨by rw [HE.out]; rfl, hB⟩

theorem Check_any (v : L.Vw) (A : Option Addr) (n c : Nat) (w : World) (hn : v.ss.length = n) (hr : RdS w w.heap.size A v.ss) :
    Calls Try.prog 35 #[.agg #[.int .i64 v.size, .slice A n c, .int .i64 v.wrong, .int .i64 v.hxl, .int .i64 v.hxh, .int .i64 v.hyl, .int .i64 v.hyh]] w fun e w' => e = .returned (.int .i64 (L.checkE v)) ∧ Below w.heap.size w w' := by
  cases h : L.headB v n
  · rw [L.headB_false (by rw [hn]; exact h)]
    exact Check_head v A n c w h
  · exact Check_loop v A n c w hn hr h

end Go.Proofs.Ytampfpnkkdihaaa

namespace Go.Proofs.Ytampfpnkkdihaaa
open Go.RowKit
attribute [local go_sem ↓] Go.wp_at_zero Go.wp_at_succ

set_option maxHeartbeats 4000000 in
theorem RefCheck_head (v : L.Vw) (A : Option Addr) (n c : Nat) (w : World) (h : L.headB v n = false) :
    Calls Try.prog 23 #[.agg #[.int .i64 v.size, .slice A n c, .int .i64 v.wrong, .int .i64 v.hxl, .int .i64 v.hxh, .int .i64 v.hyl, .int .i64 v.hyh]] w fun e w' => e = .returned (.int .i64 20) ∧ Below w.heap.size w w' := by
  cases h1 : L.within v.size 0 40
  · clear h
    go_enter Try.func23, Try.ntmps23
    go_wp2_with (go_at_call 57; refine (refWithin_any _ _ _ _).mono ?_; rintro e w' ⟨rfl, rfl⟩)
    go_ret
    exact ⟨rfl, by (repeat' first | exact zbR _ _ | assumption | refine zbD ?_ | refine zbA ?_ ?_ _ | refine zbS ?_ ?_ _ | refine zbT ?_ (by assumption) ?_ | (simp; done) | (simp; omega) | omega)⟩
  by_cases h2 : (n : Int) ≤ 8
  rotate_left
  · clear h
    have g : (8 : Int) < (n : Int) := by omega
    clear h2
    go_enter Try.func23, Try.ntmps23
    go_wp2_with (go_at_call 57; refine (refWithin_any _ _ _ _).mono ?_; rintro e w' ⟨rfl, rfl⟩)
    go_ret
    exact ⟨rfl, by (repeat' first | exact zbR _ _ | assumption | refine zbD ?_ | refine zbA ?_ ?_ _ | refine zbS ?_ ?_ _ | refine zbT ?_ (by assumption) ?_ | (simp; done) | (simp; omega) | omega)⟩
  cases h3 : L.within v.wrong 0 3
  · clear h
    go_enter Try.func23, Try.ntmps23
    go_wp2_with (go_at_call 57; refine (refWithin_any _ _ _ _).mono ?_; rintro e w' ⟨rfl, rfl⟩)
    go_ret
    exact ⟨rfl, by (repeat' first | exact zbR _ _ | assumption | refine zbD ?_ | refine zbA ?_ ?_ _ | refine zbS ?_ ?_ _ | refine zbT ?_ (by assumption) ?_ | (simp; done) | (simp; omega) | omega)⟩
  by_cases h4 : 1 ≤ v.hxl
  rotate_left
  · clear h
    have g : v.hxl < 1 := by omega
    clear h4
    go_enter Try.func23, Try.ntmps23
    go_wp2_with (go_at_call 57; refine (refWithin_any _ _ _ _).mono ?_; rintro e w' ⟨rfl, rfl⟩)
    go_ret
    exact ⟨rfl, by (repeat' first | exact zbR _ _ | assumption | refine zbD ?_ | refine zbA ?_ ?_ _ | refine zbS ?_ ?_ _ | refine zbT ?_ (by assumption) ?_ | (simp; done) | (simp; omega) | omega)⟩
  by_cases h5 : v.hxl ≤ v.hxh
  rotate_left
  · clear h
    have g : v.hxh < v.hxl := by omega
    clear h5
    go_enter Try.func23, Try.ntmps23
    go_wp2_with (go_at_call 57; refine (refWithin_any _ _ _ _).mono ?_; rintro e w' ⟨rfl, rfl⟩)
    go_ret
    exact ⟨rfl, by (repeat' first | exact zbR _ _ | assumption | refine zbD ?_ | refine zbA ?_ ?_ _ | refine zbS ?_ ?_ _ | refine zbT ?_ (by assumption) ?_ | (simp; done) | (simp; omega) | omega)⟩
  by_cases h6 : v.hxh ≤ 9
  rotate_left
  · clear h
    have g : 9 < v.hxh := by omega
    clear h6
    go_enter Try.func23, Try.ntmps23
    go_wp2_with (go_at_call 57; refine (refWithin_any _ _ _ _).mono ?_; rintro e w' ⟨rfl, rfl⟩)
    go_ret
    exact ⟨rfl, by (repeat' first | exact zbR _ _ | assumption | refine zbD ?_ | refine zbA ?_ ?_ _ | refine zbS ?_ ?_ _ | refine zbT ?_ (by assumption) ?_ | (simp; done) | (simp; omega) | omega)⟩
  by_cases h7 : 1 ≤ v.hyl
  rotate_left
  · clear h
    have g : v.hyl < 1 := by omega
    clear h7
    go_enter Try.func23, Try.ntmps23
    go_wp2_with (go_at_call 57; refine (refWithin_any _ _ _ _).mono ?_; rintro e w' ⟨rfl, rfl⟩)
    go_ret
    exact ⟨rfl, by (repeat' first | exact zbR _ _ | assumption | refine zbD ?_ | refine zbA ?_ ?_ _ | refine zbS ?_ ?_ _ | refine zbT ?_ (by assumption) ?_ | (simp; done) | (simp; omega) | omega)⟩
  by_cases h8 : v.hyl ≤ v.hyh
  rotate_left
  · clear h
    have g : v.hyh < v.hyl := by omega
    clear h8
    go_enter Try.func23, Try.ntmps23
    go_wp2_with (go_at_call 57; refine (refWithin_any _ _ _ _).mono ?_; rintro e w' ⟨rfl, rfl⟩)
    go_ret
    exact ⟨rfl, by (repeat' first | exact zbR _ _ | assumption | refine zbD ?_ | refine zbA ?_ ?_ _ | refine zbS ?_ ?_ _ | refine zbT ?_ (by assumption) ?_ | (simp; done) | (simp; omega) | omega)⟩
  have h9 : 9 < v.hyh := by simp [L.headB, L.spanIn, *] at h; omega
  clear h
  go_enter Try.func23, Try.ntmps23
  go_wp2_with (go_at_call 57; refine (refWithin_any _ _ _ _).mono ?_; rintro e w' ⟨rfl, rfl⟩)
  go_ret
  exact ⟨rfl, by (repeat' first | exact zbR _ _ | assumption | refine zbD ?_ | refine zbA ?_ ?_ _ | refine zbS ?_ ?_ _ | refine zbT ?_ (by assumption) ?_ | (simp; done) | (simp; omega) | omega)⟩

set_option maxHeartbeats 4000000 in
theorem RefCheck_loop (v : L.Vw) (A : Option Addr) (n c : Nat) (w : World) (hn : v.ss.length = n) (hr : RdS w w.heap.size A v.ss) (h : L.headB v n = true) :
    Calls Try.prog 23 #[.agg #[.int .i64 v.size, .slice A n c, .int .i64 v.wrong, .int .i64 v.hxl, .int .i64 v.hxh, .int .i64 v.hyl, .int .i64 v.hyh]] w fun e w' => e = .returned (.int .i64 (L.checkE v)) ∧ Below w.heap.size w w' := by
  have hh : L.headB v v.ss.length = true := by rw [hn]; exact h
  have HH := hide hh
  have HN := hide hn
  have HR := hide hr
  clear hh hn hr
  obtain ⟨h1, h2, h3, h4, h5, h6, h7, h8, h9⟩ : L.within v.size 0 40 = true ∧ (n : Int) ≤ 8 ∧ L.within v.wrong 0 3 = true ∧ 1 ≤ v.hxl ∧ v.hxl ≤ v.hxh ∧ v.hxh ≤ 9 ∧ 1 ≤ v.hyl ∧ v.hyl ≤ v.hyh ∧ v.hyh ≤ 9 := by
    simp only [L.headB, L.spanIn, Bool.and_eq_true, decide_eq_true_eq] at h
    obtain ⟨⟨⟨⟨a, b⟩, ⟨c, d⟩, e⟩, ⟨f, g⟩, i⟩, j⟩ := h
    exact ⟨a, by omega, b, c, d, e, f, g, i⟩
  clear h
  go_enter Try.func23, Try.ntmps23
  go_wp2_with (go_at_call 57; refine (refWithin_any _ _ _ _).mono ?_; rintro e w' ⟨rfl, rfl⟩)
  go_loopw [3] (fun i wr => ∃ k : Nat, k ≤ n ∧ i = .int .i64 k ∧ Hid (∀ s ∈ v.ss.take k, L.stripB s = true) ∧ wr.cell? ⟨w.heap.size, 1, none⟩ = some (.slice A n c) ∧ w.heap.size < wr.heap.size ∧ Below w.heap.size w wr) (fun i _ => n - (intOf i).toNat)
  case atStart => exact ⟨0, by omega, rfl, hide (by simp), by simp, by simp, by (repeat' first | exact zbR _ _ | assumption | refine zbD ?_ | refine zbA ?_ ?_ _ | refine zbS ?_ ?_ _ | refine zbT ?_ (by assumption) ?_ | (simp; done) | (simp; omega) | omega)⟩
  case round =>
    obtain ⟨k, hk, rfl, hall, hcc, hsz, hB⟩ := hrel
    have hBs := hB.size
    by_cases hlt : k < n
    · obtain ⟨s, hs⟩ : ∃ s, v.ss[k]? = some s := ⟨_, List.getElem?_eq_getElem (by have := HN.out; omega)⟩
      obtain ⟨b, o, hA, hbB, c0, c1, c2, c3⟩ := (HR.out.below hB) k s hs
      subst hA
      have HS := hide hs
      clear hs
      have hlt' : (k : Int) < (n : Int) := by omega
      have hk0 : (0 : Int) ≤ (k : Int) := by omega
      cases h10 : L.within s.p (-3) 3
      · have hv : L.stripB s = false := by simp [L.stripB, *]
        have HE := hide (L.strips_false HS.out hv)
        clear hv
        go_wp2_with (go_at_call 57; refine (refWithin_any _ _ _ _).mono ?_; rintro e w' ⟨rfl, rfl⟩)
        go_ret
        exact ⟨by rw [HE.out]; rfl, by (repeat' first | exact zbR _ _ | assumption | refine zbD ?_ | refine zbA ?_ ?_ _ | refine zbS ?_ ?_ _ | refine zbT ?_ (by assumption) ?_ | (simp; done) | (simp; omega) | omega)⟩
      cases h11 : L.within s.q (-3) 3
      · have hv : L.stripB s = false := by simp [L.stripB, *]
        have HE := hide (L.strips_false HS.out hv)
        clear hv
        go_wp2_with (go_at_call 57; refine (refWithin_any _ _ _ _).mono ?_; rintro e w' ⟨rfl, rfl⟩)
        go_ret
        exact ⟨by rw [HE.out]; rfl, by (repeat' first | exact zbR _ _ | assumption | refine zbD ?_ | refine zbA ?_ ?_ _ | refine zbS ?_ ?_ _ | refine zbT ?_ (by assumption) ?_ | (simp; done) | (simp; omega) | omega)⟩
      cases hz0 : (s.p == 0) <;> cases hz1 : (s.q == 0)
      rotate_left 3
      · have hv : L.stripB s = false := by simp at hz0 hz1; simp [L.stripB, *]
        have HE := hide (L.strips_false HS.out hv)
        clear hv
        go_wp2_with (go_at_call 57; refine (refWithin_any _ _ _ _).mono ?_; rintro e w' ⟨rfl, rfl⟩)
        go_ret
        exact ⟨by rw [HE.out]; rfl, by (repeat' first | exact zbR _ _ | assumption | refine zbD ?_ | refine zbA ?_ ?_ _ | refine zbS ?_ ?_ _ | refine zbT ?_ (by assumption) ?_ | (simp; done) | (simp; omega) | omega)⟩
      all_goals
        have hpq : (s.p != 0 || s.q != 0) = true := by simp at hz0 hz1; simp [*]
        have HPQ := hide hpq
        clear hpq
        by_cases h13 : -500 ≤ s.lo
        rotate_left
        · have g : s.lo < -500 := by omega
          have hv : L.stripB s = false := by (have gg := h13; simp [L.stripB, L.spanIn, gg])
          clear h13
          have HE := hide (L.strips_false HS.out hv)
          clear hv
          go_wp2_with (go_at_call 57; refine (refWithin_any _ _ _ _).mono ?_; rintro e w' ⟨rfl, rfl⟩)
          go_ret
          exact ⟨by rw [HE.out]; rfl, by (repeat' first | exact zbR _ _ | assumption | refine zbD ?_ | refine zbA ?_ ?_ _ | refine zbS ?_ ?_ _ | refine zbT ?_ (by assumption) ?_ | (simp; done) | (simp; omega) | omega)⟩
        by_cases h14 : s.lo ≤ s.hi
        rotate_left
        · have g : s.hi < s.lo := by omega
          have hv : L.stripB s = false := by (have gg := h14; simp [L.stripB, L.spanIn, gg])
          clear h14
          have HE := hide (L.strips_false HS.out hv)
          clear hv
          go_wp2_with (go_at_call 57; refine (refWithin_any _ _ _ _).mono ?_; rintro e w' ⟨rfl, rfl⟩)
          go_ret
          exact ⟨by rw [HE.out]; rfl, by (repeat' first | exact zbR _ _ | assumption | refine zbD ?_ | refine zbA ?_ ?_ _ | refine zbS ?_ ?_ _ | refine zbT ?_ (by assumption) ?_ | (simp; done) | (simp; omega) | omega)⟩
        by_cases h15 : s.hi ≤ 500
        rotate_left
        · have g : 500 < s.hi := by omega
          have hv : L.stripB s = false := by (have gg := h15; simp [L.stripB, L.spanIn, gg])
          clear h15
          have HE := hide (L.strips_false HS.out hv)
          clear hv
          go_wp2_with (go_at_call 57; refine (refWithin_any _ _ _ _).mono ?_; rintro e w' ⟨rfl, rfl⟩)
          go_ret
          exact ⟨by rw [HE.out]; rfl, by (repeat' first | exact zbR _ _ | assumption | refine zbD ?_ | refine zbA ?_ ?_ _ | refine zbS ?_ ?_ _ | refine zbT ?_ (by assumption) ?_ | (simp; done) | (simp; omega) | omega)⟩
        have hv : L.stripB s = true := by (have e := HPQ.out; unfold L.stripB; rw [h10, h11, e]; simp [L.spanIn, *])
        have HT := hide (L.all_next hall.out HS.out hv)
        clear hv
        go_wp2_with (go_at_call 57; refine (refWithin_any _ _ _ _).mono ?_; rintro e w' ⟨rfl, rfl⟩)
        go_roundw
        case rel => exact ⟨k + 1, by omega, by go_num, HT, by (first | (go_keep; done) | (go_split_ands; (repeat' apply And.intro) <;> first | (go_keep; done) | (simp [*, zcA, zcP, zfA, zfP]; done) | (simp [zcA, zcP] <;> rfl) | (simp [*, zsS, zsO, zsA]; done) | ((first | refine (hc _ _ ?_).trans ?_ | refine (hf _ _ ?_).trans ?_) <;> first | assumption | (simp; done) | (simp; omega) | omega | (go_keep; done) | (simp [*, zcA, zcP, zfA, zfP]; done) | (simp [zcA, zcP]; rfl)) | (repeat' first | exact zbR _ _ | assumption | refine zbD ?_ | refine zbA ?_ ?_ _ | refine zbS ?_ ?_ _ | refine zbT ?_ (by assumption) ?_ | (simp; done) | (simp; omega) | omega))), by simp; omega, by (repeat' first | exact zbR _ _ | assumption | refine zbD ?_ | refine zbA ?_ ?_ _ | refine zbS ?_ ?_ _ | refine zbT ?_ (by assumption) ?_ | (simp; done) | (simp; omega) | omega)⟩
        case measure => simp [intOf]; omega
    · have hkn : k = n := by omega
      have he : L.checkE v = 0 := L.view_true HH.out (by have := hall.out; rwa [List.take_of_length_le (by have := HN.out; omega)] at this)
      have HE := hide he
      clear he
      subst hkn
      go_wp2_with fail
      go_ret
      exact ⟨by rw [HE.out]; rfl, hB⟩

theorem RefCheck_any (v : L.Vw) (A : Option Addr) (n c : Nat) (w : World) (hn : v.ss.length = n) (hr : RdS w w.heap.size A v.ss) :
    Calls Try.prog 23 #[.agg #[.int .i64 v.size, .slice A n c, .int .i64 v.wrong, .int .i64 v.hxl, .int .i64 v.hxh, .int .i64 v.hyl, .int .i64 v.hyh]] w fun e w' => e = .returned (.int .i64 (L.checkE v)) ∧ Below w.heap.size w w' := by
  cases h : L.headB v n
  · rw [L.headB_false (by rw [hn]; exact h)]
    exact RefCheck_head v A n c w h
  · exact RefCheck_loop v A n c w hn hr h

end Go.Proofs.Ytampfpnkkdihaaa

namespace Go.Proofs.Ytampfpnkkdihaaa
open Go.RowKit
attribute [local go_sem ↓] Go.wp_at_zero Go.wp_at_succ

theorem wrongOn_any (x y k : Int) (w : World) :
    Calls Try.prog 70 #[.int .i64 x, .int .i64 y, .int .i64 k] w fun e w' => e = .returned (.func (.func 74) #[] #[.pointer (some ⟨w.heap.size, 0, none⟩), .pointer (some ⟨w.heap.size + 1, 0, none⟩), .pointer (some ⟨w.heap.size + 1 + 1, 0, none⟩)]) ∧ w' = ((w.alloc (.cells #[.int .i64 x] 3)).alloc (.cells #[.int .i64 y] 3)).alloc (.cells #[.int .i64 k] 3) := by
  go_enter Try.func70, Try.ntmps70
  go_wp2
  go_ret
  exact ⟨rfl, rfl⟩

theorem L.mul_bd {a b M N : Int} (h0 : -M ≤ a) (h1 : a ≤ M) (g0 : 0 ≤ b) (g1 : b ≤ N) : -(M * N) ≤ a * b ∧ a * b ≤ M * N := by
  have hM : 0 ≤ M := by omega
  have h2 : a * b ≤ M * b := Int.mul_le_mul_of_nonneg_right h1 g0
  have h3 : -M * b ≤ a * b := Int.mul_le_mul_of_nonneg_right h0 g0
  have h4 : M * b ≤ M * N := Int.mul_le_mul_of_nonneg_left g1 hM
  rw [Int.neg_mul] at h3
  omega

theorem off_any (s : L.St) (x y k : Int) (a b c : Nat) (w : World) (ho : L.StOk s) (hx0 : 0 ≤ x) (hx1 : x ≤ 40) (hy0 : 0 ≤ y) (hy1 : y ≤ 40) (hk0 : 0 ≤ k) (hk1 : k ≤ 1000)
    (la : a < w.heap.size) (lb : b < w.heap.size) (lc : c < w.heap.size) (ca : w.cell? ⟨a, 0, none⟩ = some (.int .i64 x)) (cb : w.cell? ⟨b, 0, none⟩ = some (.int .i64 y)) (cc : w.cell? ⟨c, 0, none⟩ = some (.int .i64 k)) :
    Calls Try.prog 74 #[.agg #[.int .i64 s.p, .int .i64 s.q, .int .i64 s.lo, .int .i64 s.hi], .pointer (some ⟨a, 0, none⟩), .pointer (some ⟨b, 0, none⟩), .pointer (some ⟨c, 0, none⟩)] w fun e w' => e = .returned (.bool (L.off x y k s)) ∧ Below w.heap.size w w' := by
  obtain ⟨p0, p1, q0, q1, l0, lh, h1⟩ := ho
  obtain ⟨m0, m1⟩ : -120 ≤ s.p * x ∧ s.p * x ≤ 120 := by have := L.mul_bd p0 p1 hx0 hx1; omega
  obtain ⟨m2, m3⟩ : -120 ≤ s.q * y ∧ s.q * y ≤ 120 := by have := L.mul_bd q0 q1 hy0 hy1; omega
  go_enter Try.func74, Try.ntmps74
  go_wp2_with (go_at_call 61; refine (within_any _ _ _ _).mono ?_; rintro e w' ⟨rfl, rfl⟩)
  go_ret
  exact ⟨rfl, by (repeat' first | exact zbR _ _ | assumption | refine zbD ?_ | refine zbA ?_ ?_ _ | refine zbS ?_ ?_ _ | refine zbT ?_ (by assumption) ?_ | (simp; done) | (simp; omega) | omega)⟩

theorem check_any (v : L.Vw) (A : Option Addr) (n c : Nat) (b : L.Bx) (w : World) (hn : v.ss.length = n) (hr : RdS w w.heap.size A v.ss) :
    Calls Try.prog 47 #[.agg #[.int .i64 v.size, .slice A n c, .int .i64 v.wrong, .int .i64 v.hxl, .int .i64 v.hxh, .int .i64 v.hyl, .int .i64 v.hyh], .agg #[.int .i64 b.l, .int .i64 b.r, .int .i64 b.b, .int .i64 b.t]] w fun e w' => e = .returned (.int .i64 (L.checkBE v b)) ∧ Below w.heap.size w w' := by
  have HN := hide hn
  have HR := hide hr
  clear hn hr
  cases hv : L.viewB v
  · have e1 : L.checkE v = 20 := by unfold L.checkE; rw [hv]; rfl
    have e2 : L.checkBE v b = 20 := by unfold L.checkBE; rw [hv]; rfl
    rw [e2]
    have E1 := hide e1
    clear e1 e2
    go_enter Try.func47, Try.ntmps47
    go_wp2_with (go_at_call 35; refine (Check_any v A n c _ HN.out ((HR.out.below (by (repeat' first | exact zbR _ _ | assumption | refine zbD ?_ | refine zbA ?_ ?_ _ | refine zbS ?_ ?_ _ | refine zbT ?_ (by assumption) ?_ | (simp; done) | (simp; omega) | omega))).mono (by simp; omega))).mono ?_; rintro e w2 ⟨rfl, hb2⟩; rw [E1.out])
    go_ret
    exact ⟨rfl, by (repeat' first | exact zbR _ _ | assumption | refine zbD ?_ | refine zbA ?_ ?_ _ | refine zbS ?_ ?_ _ | refine zbT ?_ (by assumption) ?_ | (simp; done) | (simp; omega) | omega)⟩
  · have e1 : L.checkE v = 0 := by unfold L.checkE; rw [hv]; rfl
    have e2 : L.checkBE v b = if L.boxB b then 0 else 21 := by unfold L.checkBE; rw [hv]; rfl
    have E1 := hide e1
    cases hb : L.boxB b
    all_goals
      first
        | (have e3 : L.checkBE v b = 21 := by rw [e2, hb]; rfl
           rw [e3]; clear e1 e2 e3)
        | (have e3 : L.checkBE v b = 0 := by rw [e2, hb]; rfl
           rw [e3]; clear e1 e2 e3)
      go_enter Try.func47, Try.ntmps47
      go_wp2_with (first | (go_at_call 35; refine (Check_any v A n c _ HN.out ((HR.out.below (by (repeat' first | exact zbR _ _ | assumption | refine zbD ?_ | refine zbA ?_ ?_ _ | refine zbS ?_ ?_ _ | refine zbT ?_ (by assumption) ?_ | (simp; done) | (simp; omega) | omega))).mono (by simp; omega))).mono ?_; rintro e w2 ⟨rfl, hb2⟩; rw [E1.out]; obtain ⟨hc, hf⟩ := bcell hb2; have hz : w.heap.size + 1 < w2.heap.size := (by have := hb2.size; (try simp at this); omega)) | (go_at_call 51; refine (validBox_any b _).mono ?_; rintro e w3 ⟨rfl, hb3⟩))
      go_ret
      exact ⟨rfl, by (repeat' first | exact zbR _ _ | assumption | refine zbD ?_ | refine zbA ?_ ?_ _ | refine zbS ?_ ?_ _ | refine zbT ?_ (by assumption) ?_ | (simp; done) | (simp; omega) | omega)⟩

theorem checkBox_any (v : L.Vw) (A : Option Addr) (n c : Nat) (b : L.Bx) (w : World) (hn : v.ss.length = n) (hr : RdS w w.heap.size A v.ss) :
    Calls Try.prog 66 #[.agg #[.int .i64 v.size, .slice A n c, .int .i64 v.wrong, .int .i64 v.hxl, .int .i64 v.hxh, .int .i64 v.hyl, .int .i64 v.hyh], .agg #[.int .i64 b.l, .int .i64 b.r, .int .i64 b.b, .int .i64 b.t]] w fun e w' => e = .returned (.int .i64 (L.checkBE v b)) ∧ Below w.heap.size w w' := by
  have HN := hide hn
  have HR := hide hr
  clear hn hr
  cases hv : L.viewB v
  · have e1 : L.checkE v = 20 := by unfold L.checkE; rw [hv]; rfl
    have e2 : L.checkBE v b = 20 := by unfold L.checkBE; rw [hv]; rfl
    rw [e2]
    have E1 := hide e1
    clear e1 e2
    go_enter Try.func66, Try.ntmps66
    go_wp2_with (go_at_call 23; refine (RefCheck_any v A n c _ HN.out ((HR.out.below (by (repeat' first | exact zbR _ _ | assumption | refine zbD ?_ | refine zbA ?_ ?_ _ | refine zbS ?_ ?_ _ | refine zbT ?_ (by assumption) ?_ | (simp; done) | (simp; omega) | omega))).mono (by simp; omega))).mono ?_; rintro e w2 ⟨rfl, hb2⟩; rw [E1.out])
    go_ret
    exact ⟨rfl, by (repeat' first | exact zbR _ _ | assumption | refine zbD ?_ | refine zbA ?_ ?_ _ | refine zbS ?_ ?_ _ | refine zbT ?_ (by assumption) ?_ | (simp; done) | (simp; omega) | omega)⟩
  · have e1 : L.checkE v = 0 := by unfold L.checkE; rw [hv]; rfl
    have e2 : L.checkBE v b = if L.boxB b then 0 else 21 := by unfold L.checkBE; rw [hv]; rfl
    have E1 := hide e1
    cases hb : L.boxB b
    all_goals
      first
        | (have e3 : L.checkBE v b = 21 := by rw [e2, hb]; rfl
           rw [e3]; clear e1 e2 e3)
        | (have e3 : L.checkBE v b = 0 := by rw [e2, hb]; rfl
           rw [e3]; clear e1 e2 e3)
      go_enter Try.func66, Try.ntmps66
      go_wp2_with (first | (go_at_call 23; refine (RefCheck_any v A n c _ HN.out ((HR.out.below (by (repeat' first | exact zbR _ _ | assumption | refine zbD ?_ | refine zbA ?_ ?_ _ | refine zbS ?_ ?_ _ | refine zbT ?_ (by assumption) ?_ | (simp; done) | (simp; omega) | omega))).mono (by simp; omega))).mono ?_; rintro e w2 ⟨rfl, hb2⟩; rw [E1.out]; obtain ⟨hc, hf⟩ := bcell hb2; have hz : w.heap.size + 1 < w2.heap.size := (by have := hb2.size; (try simp at this); omega)) | (go_at_call 25; refine (isBox_any b _).mono ?_; rintro e w3 ⟨rfl, hb3⟩))
      go_ret
      exact ⟨rfl, by (repeat' first | exact zbR _ _ | assumption | refine zbD ?_ | refine zbA ?_ ?_ _ | refine zbS ?_ ?_ _ | refine zbT ?_ (by assumption) ?_ | (simp; done) | (simp; omega) | omega)⟩

end Go.Proofs.Ytampfpnkkdihaaa

namespace Go.Proofs.Ytampfpnkkdihaaa
open Go.RowKit Go.Shelf

structure Keeps (S : Nat → Prop) (W W' : World) : Prop where
  rest : Below 0 W W'
  same : ∀ k, S k → k < W.heap.size → W'.heap[k]? = W.heap[k]?
theorem Keeps.refl (S : Nat → Prop) (W : World) : Keeps S W W := ⟨Below.refl 0 W, fun _ _ _ => rfl⟩
theorem Keeps.trans {S : Nat → Prop} {A B C : World} (h : Keeps S A B) (k : Keeps S B C) : Keeps S A C :=
  ⟨h.rest.trans k.rest, fun i hS hi => (k.same i hS (Nat.lt_of_lt_of_le hi h.rest.size)).trans (h.same i hS hi)⟩
theorem Keeps.less {S T : Nat → Prop} {A B : World} (h : Keeps S A B) (hT : ∀ k, T k → S k) : Keeps T A B := ⟨h.rest, fun k hk => h.same k (hT k hk)⟩
theorem Keeps.of_below {S : Nat → Prop} {A B : World} (h : Below A.heap.size A B) : Keeps S A B := ⟨h.mono (Nat.zero_le _), fun k _ hk => h.block k hk⟩
theorem Keeps.below {S : Nat → Prop} {A B : World} (h : Keeps S A B) {n : Nat} (hn : ∀ k, k < n → S k) (hA : n ≤ A.heap.size) : Below n A B :=
  ⟨h.rest.os, h.rest.tape, h.rest.output, h.rest.size, fun k hk => h.same k (hn k hk) (Nat.lt_of_lt_of_le hk hA)⟩
theorem Keeps.turn {S : Nat → Prop} {l : Nat} {W : World} (o : Obj) (h : ¬ S l) (hl : l < W.heap.size) : Keeps S W (W.putObj l o) :=
  ⟨(Below.refl 0 W).grown (grownBy_putObj' W l o) (Nat.zero_le _) (fun _ _ => Nat.zero_le _), fun k hk _ => World.putObj_heap_other (fun e => h (e ▸ hk))⟩
theorem Keeps.set {S : Nat → Prop} {b : Nat} (W : World) (v : Value) (h : ¬ S b) : Keeps S W (W.setCell ⟨b, 0, none⟩ v) :=
  ⟨(Below.refl 0 W).setCell (Nat.zero_le _) _, fun k hk _ => Below.heap_setCell _ _ _ k (fun e => h (by rw [show b = k from e.symm]; exact hk))⟩
theorem Keeps.setAt {S : Nat → Prop} (W : World) (a : Addr) (v : Value) (h : ¬ S a.block) : Keeps S W (W.setCell a v) :=
  ⟨(Below.refl 0 W).setCell (Nat.zero_le _) _, fun k hk _ => Below.heap_setCell _ _ _ k (fun e => h (by rw [show a.block = k from e.symm]; exact hk))⟩
theorem Keeps.alloc {S : Nat → Prop} {A B : World} (h : Keeps S A B) (o : Obj) : Keeps S A (B.alloc o) := h.trans (Keeps.of_below ((Below.refl _ B).alloc (Nat.le_refl _) o))
theorem Keeps.cell {S : Nat → Prop} {A B : World} (h : Keeps S A B) {b o : Nat} (hS : S b) (hb : b < A.heap.size) : B.cell? ⟨b, o, none⟩ = A.cell? ⟨b, o, none⟩ := World.cell?_of_block (h.same b hS hb)
theorem Keeps.frozen {S : Nat → Prop} {A B : World} (h : Keeps S A B) {b o : Nat} (hS : S b) (hb : b < A.heap.size) : B.frozen? ⟨b, o, none⟩ = A.frozen? ⟨b, o, none⟩ := World.frozen?_of_block (h.same b hS hb)
theorem keeps_own {β : Type} {S : Nat → Prop} {A : World} {B : Nat} (hB : A.heap.size ≤ B) : OwnFrom B (fun (_ : β) W => Keeps S A W) := fun _ X Y row h hg hr =>
  ⟨h.rest.grown hg (Nat.zero_le _) (fun _ _ => Nat.zero_le _), fun k hS hk => (hg.block k (Nat.lt_of_lt_of_le hk h.rest.size) (fun e => by have := (hr k e.symm).1; omega)).trans (h.same k hS hk)⟩

def YieldT (P : Program) (l : Nat) (args : Array Value) (W : World) (R : Ending → World → Prop) : Prop := ∀ m, YieldAt Fence.wide m P l args W R
theorem YieldT.of {P : Program} {l m : Nat} {args : Array Value} {W : World} {R : Ending → World → Prop} (h : YieldAt Fence.wide m P l args W R) : YieldT P l args W R := fun m' => by
  obtain ⟨fn, tmps, assign, body, hy, hR⟩ := h
  exact ⟨fn, tmps, assign, body, hy, hR.1, fun c cs _ => hR.2 c cs (room_wide _)⟩

def SeqT {α : Type} (P : Program) (g : Nat) (lb : Array Value) (encs : α → Array Value) (xs : List α) (S : Nat → Prop) (w : World) : Prop :=
  ∀ (l : Nat) (J Jx : List α → World → Prop) (W : World), Below w.heap.size w W → OwnFrom W.heap.size J → OwnFrom W.heap.size Jx →
    (∀ pre x W1, J pre W1 → (pre ++ [x]) <+: xs → YieldT P l (encs x) W1 fun e W' => Keeps (fun k => S k ∨ W.heap.size ≤ k) W1 W' ∧
      ((e = .returned (.bool true) ∧ J (pre ++ [x]) W') ∨ (e = .returned (.bool false) ∧ Jx (pre ++ [x]) W'))) →
    J [] W →
    Calls P g (#[.func (.yield l) #[] #[]] ++ lb) W fun e W' => (∃ v, e = .returned v) ∧ (J xs W' ∨ ∃ pre, pre <+: xs ∧ Jx pre W')

def postT {α : Type} (S : Nat → Prop) (I : List α → World → Prop) (Ix : Code → List α → World → Prop) (xs : List α) (W : World) : Exit → Act → World → Prop
  | .normal, _, W' => Keeps S W W' ∧ I xs W'
  | .ret, _, W' => Keeps S W W' ∧ Ix .ret xs W'
  | .exit id, _, W' => Keeps S W W' ∧ Ix (.exit id) xs W'
  | .goto t, _, W' => Keeps S W W' ∧ Ix (.goto t) xs W'
  | .panic _, _, _ => False
  | .outgrown, _, _ => False

theorem wp_rangeT {α : Type} {P : Program} {g : Operand} {ps : Array Tmp} {assign body : Code} {Q : Exit → Act → World → Prop} {a : Act} {w w0 : World} {n gf : Nat} {S : Nat → Prop} {lb : Array Value} {encs : α → Array Value} {xs : List α}
    (hg : a.eval g = .func (.func gf) #[] lb) (eg : ∀ args w, (callFunc gf args).run P w = .ok (.enter gf args) w)
    (hseq : SeqT P gf lb encs xs S w0) (hb0 : Below w0.heap.size w0 w) (hS : ∀ k, S k → k < w.heap.size) (hps : ∀ x, (encs x).size = ps.size)
    (I : List α → World → Prop) (Ix : Code → List α → World → Prop) (hI : OwnFrom w.heap.size I) (hIx : ∀ c, OwnFrom w.heap.size (Ix c)) (h0 : I [] w) (a₁ : α → Act)
    (hassign : ∀ (l : Nat) (x : α) (W : World) (K : Act → World → Prop), K (a₁ x) W →
      assign.wpIn (Fence.wide.inRound l) n P (Exit.then K (fun _ _ _ => False)) { tmps := (ps.zip (encs x)).foldl (fun t (p, v) => t.setIfInBounds p v) a.tmps, defers := [] } W)
    (hbody : ∀ (l : Nat) (pre : List α) (x : α) (W : World), I pre W → (pre ++ [x]) <+: xs → body.wpIn (Fence.wide.inRound l) n P (postT (fun k => S k ∨ w.heap.size ≤ k) I Ix (pre ++ [x]) W) (a₁ x) W)
    (hdone : ∀ (D : Nat) (W : World), w.heap.size ≤ D → I xs W → W.heap[D]? = some (.deferred (some [])) → Q .normal { a with defers := { target := .collected D, args := #[] } :: a.defers } W)
    (hstop : ∀ (D : Nat) (c : Code) (pre : List α) (W : World), w.heap.size ≤ D → pre <+: xs → Ix c pre W → W.heap[D]? = some (.deferred (some [])) → c.wpIn Fence.wide n P Q { a with defers := { target := .collected D, args := #[] } :: a.defers } W) :
    (Code.rangeFunc g ps assign body).wpIn Fence.wide n P Q a w := by
  refine wpIn_rangeFunc ?_
  intro fn hfn
  have hro : Fence.wide.round = none := rfl
  rw [hro]
  generalize hB : w.heap.size = B at *
  obtain ⟨rec, hrec⟩ : ∃ rec : LoopState → Option Code → Loop, rec = fun st pe => { state := st, pending := pe, fn, tmps := a.tmps, params := ps, assign, body, defers := B } := ⟨_, rfl⟩
  obtain ⟨V, hV⟩ : ∃ V, (w.alloc (.deferred (some []))).alloc (.loop (rec .ready none)) = V := ⟨_, rfl⟩
  have hVs : V.heap.size = B + 2 := by rw [← hV]; simp [hB]
  have hL : V.heap[B + 1]? = some (.loop (rec .ready none)) := by
    rw [← hV]; have := World.alloc_heap_new (w.alloc (.deferred (some []))) (.loop (rec .ready none)); rwa [World.size_alloc, hB] at this
  have hD : V.heap[B]? = some (.deferred (some [])) := by
    rw [← hV, ← hB]; exact (Below.heap_alloc _ _ _ (by simp)).trans (World.alloc_heap_new w _)
  have hIV : I [] V := by rw [← hV]; exact hI.alloc _ (hI.alloc _ h0)
  have hbV : Below w0.heap.size w0 V := by
    rw [← hV]; exact hb0.trans ((((Below.refl _ w).alloc (Nat.le_refl _) _).alloc (by simp) _).mono hb0.size)
  have hrun := run_enterLoop_outer (P := P) (w := w) fn a.tmps ps assign body
  rw [hB] at hrun
  refine ⟨B + 1, _, V, { target := .fn (.func gf) lb, args := #[.func (.yield (B + 1)) #[] #[]] }, V, gf, #[.func (.yield (B + 1)) #[] #[]] ++ lb, V, (by rw [← hV, hrec]; exact hrun), (by simp only [resolve, hg]; simp [go_sem]), fun _ _ => trivial, (by simp [invoke, go_sem, eg]), fun h => (by cases h), ?_⟩
  refine (callsIn_wide.2 (hseq (B + 1)
    (fun pre W => I pre W ∧ W.heap[B + 1]? = some (.loop (rec .ready none)) ∧ W.heap[B]? = some (.deferred (some [])))
    (fun pre W => ∃ c, Ix c pre W ∧ W.heap[B + 1]? = some (.loop (rec .done (some c))) ∧ W.heap[B]? = some (.deferred (some [])))
    V hbV ?_ ?_ ?_ ⟨hIV, hL, hD⟩)).mono ?_
  · rintro s X Y row ⟨h1, h2, h3⟩ hg' hr
    have keep : ∀ (k : Nat), k < B + 2 → ∀ o : Obj, X.heap[k]? = some o → Y.heap[k]? = some o := fun k hk o ho => (hg'.block k (Array.getElem?_eq_some_iff.1 ho).1 (fun e => by have := (hr k e.symm).1; omega)).trans ho
    exact ⟨hI s X Y row h1 hg' (fun r e => ⟨by have := (hr r e).1; omega, (hr r e).2⟩), keep _ (by omega) _ h2, keep _ (by omega) _ h3⟩
  · rintro s X Y row ⟨c, h1, h2, h3⟩ hg' hr
    have keep : ∀ (k : Nat), k < B + 2 → ∀ o : Obj, X.heap[k]? = some o → Y.heap[k]? = some o := fun k hk o ho => (hg'.block k (Array.getElem?_eq_some_iff.1 ho).1 (fun e => by have := (hr k e.symm).1; omega)).trans ho
    exact ⟨c, hIx c s X Y row h1 hg' (fun r e => ⟨by have := (hr r e).1; omega, (hr r e).2⟩), keep _ (by omega) _ h2, keep _ (by omega) _ h3⟩
  · rintro pre x X ⟨hi, hl, hd⟩ hpre
    refine YieldT.of (m := n) ?_
    have hy := run_yield (P := P) (args := encs x) hl (by rw [hrec]; exact hps x)
    have hlt : B + 1 < X.heap.size := (Array.getElem?_eq_some_iff.1 hl).1
    rw [hrec] at hy
    refine ⟨fn, _, assign, body, hy, roundIn_of_wpIn hfn (hassign _ x X _ ⟨_, run_beginRound hl (by rw [hrec]), ?_⟩)⟩
    clear hy
    obtain ⟨busy, hbusy⟩ : ∃ busy, X.putObj (B + 1) (.loop { rec .ready none with state := .busy }) = busy := ⟨_, rfl⟩
    rw [hbusy]
    have hl2 : busy.heap[B + 1]? = some (.loop { rec .ready none with state := .busy }) := by rw [← hbusy]; exact World.putObj_heap_same hlt
    have hd2 : busy.heap[B]? = some (.deferred (some [])) := by rw [← hbusy]; exact (World.putObj_heap_other (by omega)).trans hd
    have hSl : ¬ (S (B + 1) ∨ V.heap.size ≤ B + 1) := fun h => h.elim (fun h => by have := hS _ h; omega) (fun h => by omega)
    have hk2 : Keeps (fun k => S k ∨ V.heap.size ≤ k) X busy := by rw [← hbusy]; exact Keeps.turn _ hSl hlt
    have hi2 : I pre busy := by rw [← hbusy]; exact hI.putObj _ hi (by omega) hl rfl
    refine wpIn_mono (hbody _ pre x busy hi2 hpre) ?_
    have fin : ∀ (jump : Option Code) (Y : World), Keeps (fun k => S k ∨ B ≤ k) busy Y → ∃ Z, Z = Y.putObj (B + 1) (.loop (rec (if jump.isNone then .ready else .done) jump)) ∧ (Instr.endRound (B + 1) jump).run P Y = .ok (.bool jump.isNone) Z ∧
        Y.heap[B + 1]? = some (.loop { rec .ready none with state := .busy }) ∧ Z.heap[B + 1]? = some (.loop (rec (if jump.isNone then .ready else .done) jump)) ∧ Z.heap[B]? = some (.deferred (some [])) ∧ Keeps (fun k => S k ∨ V.heap.size ≤ k) X Z := fun jump Y hk => by
      have hl3 := (hk.same (B + 1) (.inr (by omega)) (Array.getElem?_eq_some_iff.1 hl2).1).trans hl2
      have hlt3 := (Array.getElem?_eq_some_iff.1 hl3).1
      have hr := run_endRound (P := P) jump hl3
      rw [hrec] at hr
      refine ⟨_, rfl, by rw [hrec]; exact hr, hl3, World.putObj_heap_same hlt3, (World.putObj_heap_other (by omega)).trans ((hk.same B (.inr (Nat.le_refl _)) (Array.getElem?_eq_some_iff.1 hd2).1).trans hd2), (hk2.trans (hk.less (fun k h => h.imp id (fun h => by omega)))).trans (Keeps.turn _ hSl hlt3)⟩
    rintro e a3 Y hp
    cases e with
    | normal =>
      obtain ⟨hk, hiY⟩ := hp
      obtain ⟨Z, hZ, hr, h3, h4, h5, h6⟩ := fin none Y hk
      exact ⟨_, Z, hr, h6, .inl ⟨rfl, by rw [hZ]; exact hI.putObj _ hiY (by omega) h3 rfl, h4, h5⟩⟩
    | ret =>
      obtain ⟨hk, hiY⟩ := hp
      obtain ⟨Z, hZ, hr, h3, h4, h5, h6⟩ := fin (some .ret) Y hk
      exact ⟨_, Z, hr, h6, .inr ⟨rfl, _, by rw [hZ]; exact (hIx _).putObj _ hiY (by omega) h3 rfl, h4, h5⟩⟩
    | exit id =>
      obtain ⟨hk, hiY⟩ := hp
      obtain ⟨Z, hZ, hr, h3, h4, h5, h6⟩ := fin (some (.exit id)) Y hk
      exact ⟨_, Z, hr, h6, .inr ⟨rfl, _, by rw [hZ]; exact (hIx _).putObj _ hiY (by omega) h3 rfl, h4, h5⟩⟩
    | goto t =>
      obtain ⟨hk, hiY⟩ := hp
      obtain ⟨Z, hZ, hr, h3, h4, h5, h6⟩ := fin (some (.goto t)) Y hk
      exact ⟨_, Z, hr, h6, .inr ⟨rfl, _, by rw [hZ]; exact (hIx _).putObj _ hiY (by omega) h3 rfl, h4, h5⟩⟩
    | panic ch => exact hp.elim
    | outgrown => exact hp.elim
  · rintro e W2 ⟨⟨v, rfl⟩, (⟨hi, hl, hk⟩ | ⟨pre, hpre, c, hi, hl, hk⟩)⟩
    · exact ⟨none, _, by have := run_endLoop (P := P) hl (by rw [hrec]; simp); rw [hrec] at this; exact this, hdone _ _ (Nat.le_refl _) (hI.putObj _ hi (by omega) hl rfl) ((World.putObj_heap_other (by omega)).trans hk)⟩
    · exact ⟨some c, _, by have := run_endLoop (P := P) hl (by rw [hrec]; simp); rw [hrec] at this; exact this, hstop _ c pre _ (Nat.le_refl _) hpre ((hIx c).putObj _ hi (by omega) hl rfl) ((World.putObj_heap_other (by omega)).trans hk)⟩

theorem wp_rangeP {α : Type} {P : Program} {g : Operand} {ps : Array Tmp} {assign body : Code} {Q : Exit → Act → World → Prop} {a : Act} {w w0 : World} {gf : Nat} {S : Nat → Prop} {lb : Array Value} {encs : α → Array Value} {xs : List α}
    (hg : a.eval g = .func (.func gf) #[] lb) (eg : ∀ args w, (callFunc gf args).run P w = .ok (.enter gf args) w)
    (hseq : SeqT P gf lb encs xs S w0) (hb0 : Below w0.heap.size w0 w) (hS : ∀ k, S k → k < w.heap.size) (hps : ∀ x, (encs x).size = ps.size)
    (I : List α → World → Prop) (Ix : Code → List α → World → Prop) (hI : OwnFrom w.heap.size I) (hIx : ∀ c, OwnFrom w.heap.size (Ix c)) (h0 : I [] w) (a₁ : α → Act)
    (hassign : ∀ (l : Nat) (x : α) (W : World) (K : Act → World → Prop), K (a₁ x) W →
      assign.wpIn (Fence.wide.inRound l) 9 P (Exit.then K (fun _ _ _ => False)) { tmps := (ps.zip (encs x)).foldl (fun t (p, v) => t.setIfInBounds p v) a.tmps, defers := [] } W)
    (hbody : ∀ (l : Nat) (pre : List α) (x : α) (W : World), I pre W → (pre ++ [x]) <+: xs → body.wpIn (Fence.wide.inRound l) 9 P (postT (fun k => S k ∨ w.heap.size ≤ k) I Ix (pre ++ [x]) W) (a₁ x) W)
    (hdone : ∀ (D : Nat) (W : World), w.heap.size ≤ D → I xs W → W.heap[D]? = some (.deferred (some [])) → Q .normal { a with defers := { target := .collected D, args := #[] } :: a.defers } W)
    (hstop : ∀ (D : Nat) (c : Code) (pre : List α) (W : World), w.heap.size ≤ D → pre <+: xs → Ix c pre W → W.heap[D]? = some (.deferred (some [])) → c.wp P Q { a with defers := { target := .collected D, args := #[] } :: a.defers } W) :
    (Code.rangeFunc g ps assign body).wp P Q a w :=
  (wpIn_wide (n := 9)).1 (wp_rangeT hg eg hseq hb0 hS hps I Ix hI hIx h0 a₁ hassign hbody hdone (fun D c pre W h1 h2 h3 h4 => wpIn_wide.2 (hstop D c pre W h1 h2 h3 h4)))
theorem calls_marks {P : Program} {f : FuncId} {fn : Func} {c : Code} {args : Array Value} {w : World} {R : Ending → World → Prop} (hf : P.funcs[f]? = some fn) (hb : fn.body = some c)
    (h : c.wp P (bodyPostM Fence.wide 9 P fn R) { tmps := args ++ Array.replicate (fn.ntmps - args.size) undef, defers := [] } w) : Calls P f args w R :=
  (callsIn_wide (n := 9)).1 (callsIn_of_wp_marks hf hb trivial (wpIn_wide.2 h) rfl)

end Go.Proofs.Ytampfpnkkdihaaa

namespace Go.Proofs.Ytampfpnkkdihaaa
open Go.RowKit
attribute [local go_sem ↓] Go.wp_at_zero Go.wp_at_succ

theorem L.many_take {ss : List L.St} {k : Nat} {s : L.St} (x y d : Int) (hk : ss[k]? = some s) : L.many (ss.take (k + 1)) x y d = L.many (ss.take k) x y d + (if L.off x y d s then 1 else 0) := by
  unfold L.many
  rw [List.take_add_one, hk, List.filter_append, List.length_append]
  cases h : L.off x y d s <;> simp [List.filter_cons, h]
theorem L.many_take_le (ss : List L.St) (k : Nat) (x y d : Int) : L.many (ss.take k) x y d ≤ k := by
  have := L.many_le (ss.take k) x y d
  rw [List.length_take] at this
  omega

set_option maxHeartbeats 1600000 in
theorem allowed_any (v : L.Vw) (A : Option Addr) (n c : Nat) (x y k : Int) (bs bv : Nat) (w : World) (hn : v.ss.length = n) (hr : RdS w w.heap.size A v.ss) (ho : ∀ s ∈ v.ss, L.StOk s) (h8 : n ≤ 8) (hw : 0 ≤ v.wrong ∧ v.wrong ≤ 3)
    (hx0 : 0 ≤ x) (hx1 : x ≤ 40) (hy0 : 0 ≤ y) (hy1 : y ≤ 40) (hk0 : 0 ≤ k) (hk1 : k ≤ 1000) (ls : bs < w.heap.size) (lv : bv < w.heap.size) (cs : w.cell? ⟨bs, 0, none⟩ = some (.int .i64 k))
    (c1 : w.cell? ⟨bv, 1, none⟩ = some (.slice A n c)) (c2 : w.cell? ⟨bv, 2, none⟩ = some (.int .i64 v.wrong)) :
    Calls Try.prog 69 #[.int .i64 x, .int .i64 y, .pointer (some ⟨bs, 0, none⟩), .pointer (some ⟨bv, 0, none⟩)] w fun e w' => e = .returned (.bool (L.okAt v k (x, y))) ∧ Below w.heap.size w w' := by
  have HN := hide hn
  have HR := hide hr
  have HO := hide ho
  clear hn hr ho
  have lv1 : bv < w.heap.size + 1 := by omega
  have lv2 : bv < w.heap.size + 1 + 1 := by omega
  go_enter Try.func69, Try.ntmps69
  go_wp2_with (go_at_call 70; refine (wrongOn_any _ _ _ _).mono ?_; rintro e w' ⟨rfl, rfl⟩)
  go_loopw [8, 18] (fun m i wr => ∃ j : Nat, j ≤ n ∧ i = .int .i64 j ∧ m = .int .i64 (L.many (v.ss.take j) x y k) ∧ Below (w.heap.size + 1 + 1 + 1) (((w.alloc (.cells #[.int .i64 x] 3)).alloc (.cells #[.int .i64 y] 3)).alloc (.cells #[.int .i64 k] 3)) wr) (fun _ i _ => n - (intOf i).toNat)
  case atStart => exact ⟨0, by omega, rfl, by simp [L.many], by (repeat' first | exact zbR _ _ | assumption | refine zbD ?_ | refine zbA ?_ ?_ _ | refine zbS ?_ ?_ _ | refine zbT ?_ (by assumption) ?_ | (simp; done) | (simp; omega) | omega)⟩
  case round =>
    obtain ⟨j, hj, rfl, rfl, hB⟩ := hrel
    have hBs := hB.size
    simp only [World.size_alloc] at hBs
    have hB0 : Below w.heap.size w wr := (((((Below.refl _ w).alloc (Nat.le_refl _) _).alloc (by simp) _).alloc (by simp; omega) _).trans (hB.mono (by omega)))
    have k1 : wr.cell? ⟨bv, 1, none⟩ = some (.slice A n c) := (hB0.cell (p := ⟨bv, 1, none⟩) lv).trans c1
    have k2 : wr.cell? ⟨bv, 2, none⟩ = some (.int .i64 v.wrong) := (hB0.cell (p := ⟨bv, 2, none⟩) lv).trans c2
    have hm := L.many_take_le v.ss j x y k
    by_cases hlt : j < n
    · obtain ⟨s, hs⟩ : ∃ s, v.ss[j]? = some s := ⟨_, List.getElem?_eq_getElem (by have := HN.out; omega)⟩
      obtain ⟨b, o, hA, hbB, d0, d1, d2, d3⟩ := (HR.out.below hB0) j s hs
      subst hA
      have hso := HO.out s (List.mem_of_getElem? hs)
      have HM := hide (L.many_take x y k hs)
      clear hs
      have hlt' : (j : Int) < (n : Int) := by omega
      have hj0 : (0 : Int) ≤ (j : Int) := by omega
      have hm0 : (0 : Int) ≤ (L.many (v.ss.take j) x y k : Int) := by omega
      have hm1 : (L.many (v.ss.take j) x y k : Int) ≤ 8 := by omega
      have e0 : wr.cell? ⟨w.heap.size, 0, none⟩ = some (.int .i64 x) := (hB.cell (p := ⟨w.heap.size, 0, none⟩) (by show w.heap.size < _; omega)).trans ((zcP _ _ _ (by simp; omega)).trans ((zcP _ _ _ (by simp)).trans (zcA _ _ _ _ rfl)))
      have e1 : wr.cell? ⟨w.heap.size + 1, 0, none⟩ = some (.int .i64 y) := (hB.cell (p := ⟨w.heap.size + 1, 0, none⟩) (by show w.heap.size + 1 < _; omega)).trans ((zcP _ _ _ (by simp)).trans (zcA _ _ _ _ (by simp)))
      have e2 : wr.cell? ⟨w.heap.size + 1 + 1, 0, none⟩ = some (.int .i64 k) := (hB.cell (p := ⟨w.heap.size + 1 + 1, 0, none⟩) (by show w.heap.size + 1 + 1 < _; omega)).trans (zcA _ _ _ _ (by simp))
      have lw0 : w.heap.size < wr.heap.size := by omega
      have lw1 : w.heap.size + 1 < wr.heap.size := by omega
      have lw2 : w.heap.size + 1 + 1 < wr.heap.size := by omega
      cases hv : L.off x y k s
      all_goals
        go_wp2_with (go_at_call 74; refine (off_any s x y k _ _ _ _ hso hx0 hx1 hy0 hy1 hk0 hk1 (Nat.lt_of_lt_of_le lw0 (by simp)) (Nat.lt_of_lt_of_le lw1 (by simp)) (Nat.lt_of_lt_of_le lw2 (by simp)) ((zcP _ _ _ lw0).trans e0) ((zcP _ _ _ lw1).trans e1) ((zcP _ _ _ lw2).trans e2)).mono ?_; rintro e w3 ⟨rfl, hb3⟩; rw [hv])
        go_roundw
        case rel => exact ⟨j + 1, by omega, by go_num, by rw [HM.out, hv]; simp, by (repeat' first | exact zbR _ _ | assumption | refine zbD ?_ | refine zbA ?_ ?_ _ | refine zbS ?_ ?_ _ | refine zbT ?_ (by assumption) ?_ | (simp; done) | (simp; omega) | omega)⟩
        case measure => simp [intOf]; omega
    · have hjn : j = n := by omega
      subst hjn
      have he : L.okAt v k (x, y) = decide ((L.many (v.ss.take j) x y k : Int) ≤ v.wrong) := by unfold L.okAt; rw [List.take_of_length_le (by have := HN.out; omega)]
      have HE := hide he
      clear he
      go_wp2_with fail
      go_ret
      exact ⟨by rw [HE.out]; rfl, by (repeat' first | exact zbR _ _ | assumption | refine zbD ?_ | refine zbA ?_ ?_ _ | refine zbS ?_ ?_ _ | refine zbT ?_ (by assumption) ?_ | (simp; done) | (simp; omega) | omega)⟩

theorem centres_any (size : Int) (w : World) :
    Calls Try.prog 59 #[.int .i64 size] w fun e w' => e = .returned (.func (.func 72) #[] #[.pointer (some ⟨w.heap.size, 0, none⟩)]) ∧ w' = w.alloc (.cells #[.int .i64 size] 3) := by
  go_enter Try.func59, Try.ntmps59
  go_wp2
  go_ret
  exact ⟨rfl, rfl⟩


end Go.Proofs.Ytampfpnkkdihaaa

namespace Go.Proofs.Ytampfpnkkdihaaa
open Go.RowKit
attribute [local go_sem ↓] Go.wp_at_zero Go.wp_at_succ

namespace L
def rowAt (N i j : Nat) : List (Int × Int) := (List.range j).map fun (y : Nat) => ((i : Int), (y : Int))
def rowsTo (N i : Nat) : List (Int × Int) := (List.range i).flatMap fun (x : Nat) => rowAt N x (N + 1)
theorem cents_rows (N : Nat) : cents N = rowsTo N (N + 1) := rfl
theorem rowAt_next (N i j : Nat) : rowAt N i (j + 1) = rowAt N i j ++ [((i : Int), (j : Int))] := by unfold rowAt; rw [List.range_succ, List.map_append]; rfl
theorem rowsTo_next (N i : Nat) : rowsTo N (i + 1) = rowsTo N i ++ rowAt N i (N + 1) := by unfold rowsTo; rw [List.range_succ, List.flatMap_append]; simp
theorem rowAt_pre (N i : Nat) {j k : Nat} (h : j ≤ k) : rowAt N i j <+: rowAt N i k := by
  obtain ⟨d, rfl⟩ := Nat.le.dest h
  induction d with
  | zero => exact List.prefix_refl _
  | succ d ih => exact (ih (by omega)).trans (by rw [← Nat.add_assoc, rowAt_next]; exact List.prefix_append _ _)
theorem rowsTo_pre (N : Nat) {j k : Nat} (h : j ≤ k) : rowsTo N j <+: rowsTo N k := by
  obtain ⟨d, rfl⟩ := Nat.le.dest h
  induction d with
  | zero => exact List.prefix_refl _
  | succ d ih => exact (ih (by omega)).trans (by rw [← Nat.add_assoc, rowsTo_next]; exact List.prefix_append _ _)
theorem cents_pre {N i j : Nat} (hi : i ≤ N) (hj : j ≤ N) : (rowsTo N i ++ rowAt N i j) ++ [((i : Int), (j : Int))] <+: cents N := by
  rw [List.append_assoc, ← rowAt_next, cents_rows]
  refine List.IsPrefix.trans ?_ (rowsTo_pre N (show i + 1 ≤ N + 1 by omega))
  rw [rowsTo_next]
  exact (List.prefix_append_right_inj _).2 (rowAt_pre N i (by omega))
end L
def encP (c : Int × Int) : Array Value := #[.int .i64 c.1, .int .i64 c.2]

set_option maxRecDepth 100000 in
set_option maxHeartbeats 1600000 in
theorem centres_seq (N Bn : Nat) (S : Nat → Prop) (w : World) (h1 : N ≤ 40) (hB : Bn < w.heap.size) (hS : S Bn) (hc : w.cell? ⟨Bn, 0, none⟩ = some (.int .i64 (N : Int))) :
    SeqT Try.prog 72 #[.pointer (some ⟨Bn, 0, none⟩)] encP (L.cents N) S w := by
  intro l J Jx W hW hJ hJx hY h00
  have hBW : Bn < W.heap.size := Nat.lt_of_lt_of_le hB hW.size
  have hcW : W.cell? ⟨Bn, 0, none⟩ = some (.int .i64 (N : Int)) := (hW.cell (p := ⟨Bn, 0, none⟩) hB).trans hc
  have hN0 : (0 : Int) ≤ (N : Int) := by omega
  have hN1 : (N : Int) ≤ 40 := by omega
  clear hW hc hB
  refine (callsIn_wide (n := 3)).1 ?_
  refine callsIn_of_wp Try.func72 rfl trivial ?_ rfl
  simp only [Try.ntmps72, List.size_toArray, List.length_cons, List.length_nil, Nat.reduceAdd, Nat.reduceSub, Array.replicate_succ, Array.replicate_zero, List.push_toArray, List.append_toArray, List.nil_append, List.cons_append]
  gi_wp2
  gi_loopw [7] (fun t wr => ∃ i : Nat, i ≤ N + 1 ∧ t = .int .i64 (i : Int) ∧ J (L.rowsTo N i) wr ∧ Keeps (fun k => S k ∨ W.heap.size ≤ k) W wr) (fun t _ => N + 1 - (intOf t).toNat)
  case atStart => exact ⟨0, by omega, rfl, h00, Keeps.refl _ _⟩
  case round =>
    obtain ⟨i, hi, rfl, hJi, hKi⟩ := hrel
    have hci : wr.cell? ⟨Bn, 0, none⟩ = some (.int .i64 (N : Int)) := (hKi.cell (.inl hS) hBW).trans hcW
    by_cases hlt : i < N + 1
    · have hlt' : (i : Int) < (N : Int) + 1 := by omega
      gi_wp2
      gi_loopw [12] (fun t wr => ∃ j : Nat, j ≤ N + 1 ∧ t = .int .i64 (j : Int) ∧ J (L.rowsTo N i ++ L.rowAt N i j) wr ∧ Keeps (fun k => S k ∨ W.heap.size ≤ k) W wr) (fun t _ => N + 1 - (intOf t).toNat)
      case atStart => exact ⟨0, by omega, rfl, by rw [show L.rowAt N i 0 = [] from rfl, List.append_nil]; exact hJi, hKi⟩
      case round =>
        obtain ⟨j, hj, rfl, hJj, hKj⟩ := hrel
        by_cases hlt2 : j < N + 1
        · have hlt2' : (j : Int) < (N : Int) + 1 := by omega
          obtain ⟨fn, tmps, assign, body, hy, hR⟩ := hY _ _ _ hJj (L.cents_pre (by omega) (by omega)) (3 - 1)
          simp only [encP] at hy
          gi_wp2
          refine hR.mono ?_
          rintro e W3 ⟨hk3, (⟨rfl, hJ3⟩ | ⟨rfl, hJx3⟩)⟩
          · gi_wp2
            go_roundw
            case rel => exact ⟨j + 1, by omega, by go_num, by rw [L.rowAt_next, ← List.append_assoc]; exact hJ3, hKj.trans hk3⟩
            case measure => simp [intOf]; omega
          · gi_wp2
            refine bodyPost_ret (results_none rfl _ _ _) rfl ?_
            exact ⟨⟨_, rfl⟩, .inr ⟨_, L.cents_pre (by omega) (by omega), hJx3⟩⟩
        · have hj' : j = N + 1 := by omega
          subst hj'
          gi_wp2
          go_roundw
          case rel => exact ⟨i + 1, by omega, by go_num, by rw [L.rowsTo_next]; exact hJj, hKj⟩
          case measure => simp [intOf]; omega
    · have hi' : i = N + 1 := by omega
      subst hi'
      gi_wp2
      go_end0
      exact ⟨⟨_, rfl⟩, .inl hJi⟩

end Go.Proofs.Ytampfpnkkdihaaa

namespace Go.Proofs.Ytampfpnkkdihaaa
open Go.RowKit
attribute [local go_sem ↓] Go.wp_at_zero Go.wp_at_succ
attribute [local go_sem] Oper.semAt_some

set_option maxHeartbeats 800000 in
theorem trueCentres_any (v : L.Vw) (A : Option Addr) (n c : Nat) (k : Int) (w : World) :
    Calls Try.prog 58 #[.agg #[.int .i64 v.size, .slice A n c, .int .i64 v.wrong, .int .i64 v.hxl, .int .i64 v.hxh, .int .i64 v.hyl, .int .i64 v.hyh], .int .i64 k] w fun e w' => e = .returned (.func (.func 71) #[] #[.pointer (some ⟨w.heap.size, 0, none⟩), .pointer (some ⟨w.heap.size + 1 + 1, 0, none⟩)]) ∧
      Below w.heap.size w w' ∧ w'.heap.size = w.heap.size + 1 + 1 + 1 ∧ w'.cell? ⟨w.heap.size, 0, none⟩ = some (.int .i64 v.size) ∧ w'.cell? ⟨w.heap.size, 1, none⟩ = some (.slice A n c) ∧ w'.cell? ⟨w.heap.size, 2, none⟩ = some (.int .i64 v.wrong) ∧ w'.cell? ⟨w.heap.size + 1, 0, none⟩ = some (.int .i64 k) ∧
      w'.cell? ⟨w.heap.size + 1 + 1, 0, none⟩ = some (.func (.func 69) #[] #[.pointer (some ⟨w.heap.size + 1, 0, none⟩), .pointer (some ⟨w.heap.size, 0, none⟩)]) := by
  go_enter Try.func58, Try.ntmps58
  go_wp2
  go_ret
  refine ⟨rfl, by (repeat' first | exact zbR _ _ | assumption | refine zbD ?_ | refine zbA ?_ ?_ _ | refine zbS ?_ ?_ _ | refine zbT ?_ (by assumption) ?_ | (simp; done) | (simp; omega) | omega), by simp, ?_, ?_, ?_, ?_, ?_⟩
  all_goals
    (try refine (zsO _ _ _ _ (by simp)).trans ?_)
    repeat (first | exact (zcA _ _ _ _ rfl).trans rfl | exact (zcA _ _ _ _ (by simp; done)).trans rfl | exact zsS _ _ _ (by rw [zcA _ _ _ _ (by simp; done)]; rfl) | (refine (zcP _ _ _ (by first | (simp; done) | (simp; omega))).trans ?_))

theorem roundIn_in {F : Fence} {n : Nat} {P : Program} {l : Nat} {f : FuncId} {tmps : Array Value} {assign body : Code} {w : World} {R : Ending → World → Prop} (l2 : Nat) (h : RoundIn F n P l f tmps assign body w R) : RoundIn (F.inRound l2) n P l f tmps assign body w R := h
theorem ownFrom_mono {β : Type} {B B' : Nat} {I : β → World → Prop} (h : OwnFrom B I) (hB : B ≤ B') : OwnFrom B' I := fun s X Y row hs hg hr => h s X Y row hs hg (fun r e => ⟨Nat.le_trans hB (hr r e).1, (hr r e).2⟩)
theorem ownFrom_map {β γ : Type} {B : Nat} {I : β → World → Prop} (h : OwnFrom B I) (f : γ → β) : OwnFrom B (fun s W => I (f s) W) := fun s X Y row hs hg hr => h (f s) X Y row hs hg hr

set_option maxRecDepth 100000 in
set_option maxHeartbeats 1600000 in
theorem trueCentres_seq (v : L.Vw) (A : Option Addr) (n c : Nat) (k : Int) (bv bs ba B : Nat) (S : Nat → Prop) (w : World) (hv : L.VwOk v) (hn : v.ss.length = n) (hB : B ≤ w.heap.size) (hr : RdS w B A v.ss) (hSB : ∀ b, b < B → S b) (hSw : ∀ b, S b → b < w.heap.size) (hk0 : 0 ≤ k) (hk1 : k ≤ 1000)
    (hbv : S bv) (hbs : S bs) (hba : S ba) (c0 : w.cell? ⟨bv, 0, none⟩ = some (.int .i64 v.size)) (c1 : w.cell? ⟨bv, 1, none⟩ = some (.slice A n c)) (c2 : w.cell? ⟨bv, 2, none⟩ = some (.int .i64 v.wrong)) (c3 : w.cell? ⟨bs, 0, none⟩ = some (.int .i64 k))
    (c4 : w.cell? ⟨ba, 0, none⟩ = some (.func (.func 69) #[] #[.pointer (some ⟨bs, 0, none⟩), .pointer (some ⟨bv, 0, none⟩)])) :
    SeqT Try.prog 71 #[.pointer (some ⟨bv, 0, none⟩), .pointer (some ⟨ba, 0, none⟩)] encP (L.tcents v k) S w := by
  intro l J Jx W hW hJ hJx hY h00
  obtain ⟨N, hN⟩ : ∃ N : Nat, v.size = (N : Int) := ⟨v.size.toNat, (Int.toNat_of_nonneg hv.s0).symm⟩
  have hN40 : N ≤ 40 := by have := hv.s1; omega
  have hNt : v.size.toNat = N := by omega
  have lbv := hSw _ hbv
  have lbs := hSw _ hbs
  have lba := hSw _ hba
  have d0 : W.cell? ⟨bv, 0, none⟩ = some (.int .i64 (N : Int)) := ((hW.cell (p := ⟨bv, 0, none⟩) lbv).trans c0).trans (by rw [hN])
  have d1 : W.cell? ⟨bv, 1, none⟩ = some (.slice A n c) := (hW.cell (p := ⟨bv, 1, none⟩) lbv).trans c1
  have d2 : W.cell? ⟨bv, 2, none⟩ = some (.int .i64 v.wrong) := (hW.cell (p := ⟨bv, 2, none⟩) lbv).trans c2
  have d3 : W.cell? ⟨bs, 0, none⟩ = some (.int .i64 k) := (hW.cell (p := ⟨bs, 0, none⟩) lbs).trans c3
  have d4 : W.cell? ⟨ba, 0, none⟩ = some (.func (.func 69) #[] #[.pointer (some ⟨bs, 0, none⟩), .pointer (some ⟨bv, 0, none⟩)]) := (hW.cell (p := ⟨ba, 0, none⟩) lba).trans c4
  have hrW : RdS W B A v.ss := hr.below (hW.mono hB)
  have hWs := hW.size
  clear c0 c1 c2 c3 c4 hr
  have mbv : bv < W.heap.size := by omega
  have HN := hide hn
  have HR := hide hrW
  have HT := hide hNt
  have HS := hide hN
  clear hn hrW hNt hN
  refine (callsIn_wide (n := 9)).1 ?_
  refine callsIn_of_wp_marks Try.func71 rfl trivial ?_ rfl
  simp only [Try.ntmps71, List.size_toArray, List.length_cons, List.length_nil, Nat.reduceAdd, Nat.reduceSub, Array.replicate_succ, Array.replicate_zero, List.push_toArray, List.append_toArray, List.nil_append, List.cons_append]
  gi_wp2_with (refine ⟨trivial, ?_⟩; gi_at_call 59; refine (callsIn_wide.2 (centres_any _ _)).mono ?_; rintro e w' ⟨rfl, rfl⟩)
  obtain ⟨V, hV⟩ : ∃ V, (W.alloc (.cells #[.func (.yield l) #[] #[]] 99)).alloc (.cells #[.int .i64 (N : Int)] 3) = V := ⟨_, rfl⟩
  have hVs : V.heap.size = W.heap.size + 1 + 1 := by rw [← hV]; simp
  have hVB : Below W.heap.size W V := by rw [← hV]; exact ((Below.refl _ W).alloc (Nat.le_refl _) _).alloc (by simp) _
  have g0 : V.cell? ⟨W.heap.size, 0, none⟩ = some (.func (.yield l) #[] #[]) := by rw [← hV]; exact (zcP _ _ _ (by simp)).trans ((zcA _ _ _ _ rfl).trans rfl)
  have g1 : V.cell? ⟨W.heap.size + 1, 0, none⟩ = some (.int .i64 (N : Int)) := by rw [← hV]; exact (zcA _ _ _ _ (by simp)).trans rfl
  have hJV : J [] V := by rw [← hV]; exact hJ.alloc _ (hJ.alloc _ h00)
  rw [hV]
  clear hV h00
  have hSV : ∀ b, (S b ∨ (W.heap.size ≤ b ∧ b < V.heap.size)) → b < V.heap.size := fun b h => h.elim (fun h => by have := hSw b h; omega) (fun h => h.2)
  have hSS : ∀ b, (S b ∨ W.heap.size ≤ b) → ((S b ∨ (W.heap.size ≤ b ∧ b < V.heap.size)) ∨ V.heap.size ≤ b) := fun b h => by
    rcases h with h | h
    · exact .inl (.inl h)
    · by_cases hb : b < V.heap.size
      · exact .inl (.inr ⟨h, hb⟩)
      · exact .inr (by omega)
  have hST : ∀ b, ((S b ∨ (W.heap.size ≤ b ∧ b < V.heap.size)) ∨ V.heap.size ≤ b) → (S b ∨ W.heap.size ≤ b) := fun b h => by
    rcases h with (h | h) | h
    · exact .inl h
    · exact .inr h.1
    · exact .inr (by omega)
  refine wp_rangeT (gf := 72) (lb := #[.pointer (some ⟨W.heap.size + 1, 0, none⟩)]) rfl (enters_of Try.func72 (by kernel_rfl) rfl)
    (centres_seq N (W.heap.size + 1) (fun b => S b ∨ (W.heap.size ≤ b ∧ b < V.heap.size)) V hN40 (by omega) (.inr ⟨by omega, by omega⟩) g1) (Below.refl _ _) hSV (fun _ => rfl)
    (fun pre X => J (pre.filter (L.okAt v k)) X ∧ Keeps (fun b => S b ∨ W.heap.size ≤ b) V X)
    (fun cd pre X => cd = .ret ∧ Jx (pre.filter (L.okAt v k)) X)
    (OwnFrom.and (ownFrom_mono (ownFrom_map hJ _) (by omega)) (keeps_own (Nat.le_refl _)))
    (fun cd => OwnFrom.and (ownFrom_pure _ _) (ownFrom_mono (ownFrom_map hJx _) (by omega)))
    ⟨hJV, Keeps.refl _ _⟩ ?a1 ?assign ?body ?done ?stop
  case assign =>
    intro l2 x X K hK
    simp only [encP]
    gi_wp2
    exact hK
  case body =>
    rintro l2 pre x X ⟨hJp, hKp⟩ hpre
    obtain ⟨hx0, hx1, hy0, hy1⟩ := L.mem_cents (hpre.subset (List.mem_append_right _ (List.mem_singleton.2 rfl)))
    have hX := hKp.rest.size
    have e0 : X.cell? ⟨W.heap.size, 0, none⟩ = some (.func (.yield l) #[] #[]) := (hKp.cell (.inr (Nat.le_refl _)) (by omega)).trans g0
    have e1 : X.cell? ⟨bv, 1, none⟩ = some (.slice A n c) := (hKp.cell (.inl hbv) (by omega)).trans ((hVB.cell (p := ⟨bv, 1, none⟩) (show bv < _ by omega)).trans d1)
    have e2 : X.cell? ⟨bv, 2, none⟩ = some (.int .i64 v.wrong) := (hKp.cell (.inl hbv) (by omega)).trans ((hVB.cell (p := ⟨bv, 2, none⟩) (show bv < _ by omega)).trans d2)
    have e3 : X.cell? ⟨bs, 0, none⟩ = some (.int .i64 k) := (hKp.cell (.inl hbs) (by omega)).trans ((hVB.cell (p := ⟨bs, 0, none⟩) (show bs < _ by omega)).trans d3)
    have e4 : X.cell? ⟨ba, 0, none⟩ = some (.func (.func 69) #[] #[.pointer (some ⟨bs, 0, none⟩), .pointer (some ⟨bv, 0, none⟩)]) := (hKp.cell (.inl hba) (by omega)).trans ((hVB.cell (p := ⟨ba, 0, none⟩) (show ba < _ by omega)).trans d4)
    have HRX := hide (((HR.out.below (hVB.mono (by omega))).below (hKp.below (n := B) (fun b hb => .inl (hSB b hb)) (by omega))).mono (B' := X.heap.size) (by omega))
    have HV := hide hv
    have HPre := hide hpre
    cases hok : L.okAt v k x
    · have HF := hide (show (pre ++ [x]).filter (L.okAt v k) = pre.filter (L.okAt v k) by rw [List.filter_append]; simp [List.filter_cons, hok])
      gi_wp2_with (refine ⟨trivial, ?_⟩; gi_at_call 69; refine (CallsIn.inRound l2 (callsIn_wide.2 (allowed_any v A n c x.1 x.2 k bs bv _ HN.out HRX.out HV.out.ok (by have := HV.out.n8; have := HN.out; omega) ⟨HV.out.w0, HV.out.w1⟩ hx0 (by omega) hy0 (by omega) hk0 hk1 (by omega) (by omega) e3 e1 e2))).mono ?_; rintro e w3 ⟨rfl, hb3⟩; rw [hok])
      refine ⟨fun _ h => (by cases h), ?_⟩
      gi_wp2
      exact ⟨Keeps.of_below hb3, by rw [HF.out]; exact hJ _ X w3 none hJp (only_of_below' hb3) (by rintro r ⟨⟩), hKp.trans (Keeps.of_below hb3)⟩
    · have HF := hide (show (pre ++ [x]).filter (L.okAt v k) = pre.filter (L.okAt v k) ++ [x] by rw [List.filter_append]; simp [List.filter_cons, hok])
      have HPF := hide (show pre.filter (L.okAt v k) ++ [x] <+: L.tcents v k by rw [← HF.out, L.tcents, HT.out]; exact HPre.out.filter _)
      gi_wp2_with (refine ⟨trivial, ?_⟩; gi_at_call 69; refine (CallsIn.inRound l2 (callsIn_wide.2 (allowed_any v A n c x.1 x.2 k bs bv _ HN.out HRX.out HV.out.ok (by have := HV.out.n8; have := HN.out; omega) ⟨HV.out.w0, HV.out.w1⟩ hx0 (by omega) hy0 (by omega) hk0 hk1 (by omega) (by omega) e3 e1 e2))).mono ?_; rintro e w3 ⟨rfl, hb3⟩; rw [hok]; have q0 : w3.cell? ⟨W.heap.size, 0, none⟩ = some (.func (.yield l) #[] #[]) := (hb3.cell (p := ⟨W.heap.size, 0, none⟩) (show W.heap.size < _ by omega)).trans e0; have hJ3 := hJ _ X w3 none hJp (only_of_below' hb3) (by rintro r ⟨⟩); obtain ⟨fn, tmps, asg, bdy, hy, hR⟩ := hY _ x w3 hJ3 HPF.out (9 - 1); simp only [encP] at hy)
      refine (roundIn_in l2 hR).mono ?_
      rintro e W4 ⟨hk4, (⟨rfl, hJ4⟩ | ⟨rfl, hJ4⟩)⟩
      · gi_wp2
        exact ⟨(Keeps.of_below hb3).trans (hk4.less hST), by rw [HF.out]; exact hJ4, (hKp.trans (Keeps.of_below hb3)).trans hk4⟩
      · gi_wp2
        exact ⟨(Keeps.of_below hb3).trans (hk4.less hST), rfl, by rw [HF.out]; exact hJ4⟩
  case done =>
    rintro D X hD ⟨hJp, hKp⟩ hdef
    gi_wp2
    refine ⟨by simp, .inl ⟨_, _, rfl, run_takeDeferred hdef, ?_⟩⟩
    exact ⟨_, results_none rfl _ _ _, ⟨_, rfl⟩, .inl (by rw [L.tcents, HT.out]; exact hJ.putObj _ hJp (by omega) hdef rfl)⟩
  case stop =>
    rintro D cd pre X hD hpre ⟨rfl, hJp⟩ hdef
    gi_wp2
    refine ⟨by simp, .inl ⟨_, _, rfl, run_takeDeferred hdef, ?_⟩⟩
    exact ⟨_, results_none rfl _ _ _, ⟨_, rfl⟩, .inr ⟨_, by rw [L.tcents, HT.out]; exact hpre.filter _, hJx.putObj _ hJp (by omega) hdef rfl⟩⟩

end Go.Proofs.Ytampfpnkkdihaaa

namespace Go.Proofs.Ytampfpnkkdihaaa
open Go.RowKit
attribute [local go_sem ↓] Go.wp_at_zero Go.wp_at_succ

theorem square_any (n : Int) (w : World) (h0 : 0 ≤ n) (h1 : n ≤ 1000) :
    Calls Try.prog 68 #[.int .i64 n] w fun e w' => e = .returned (.int .i64 (n * n)) ∧ w' = w := by
  obtain ⟨a, b⟩ := L.mul_bd (a := n) (b := n) (M := 1000) (N := 1000) (by omega) h1 h0 h1
  have a' : -1000000 ≤ n * n := by omega
  have b' : n * n ≤ 1000000 := by omega
  clear a b
  go_enter Try.func68, Try.ntmps68
  go_wp2
  go_ret
  exact ⟨rfl, rfl⟩

structure L.BxOk (b : L.Bx) : Prop where
  l0 : 0 ≤ b.l
  lr : b.l ≤ b.r
  r1 : b.r ≤ 40
  b0 : 0 ≤ b.b
  bt : b.b ≤ b.t
  t1 : b.t ≤ 40
structure L.MkOk (m : L.Mk) : Prop where
  x0 : 0 ≤ m.x
  x1 : m.x ≤ 40
  y0 : 0 ≤ m.y
  y1 : m.y ≤ 40
  hx0 : 1 ≤ m.hx
  hx1 : m.hx ≤ 9
  hy0 : 1 ≤ m.hy
  hy1 : m.hy ≤ 9

theorem L.far_bd {d n lo hi : Int} (h : d = L.far n lo hi) (h0 : 0 ≤ n) (h1 : n ≤ 40) (h2 : 0 ≤ lo) (h3 : lo ≤ hi) (h4 : hi ≤ 40) : 0 ≤ d ∧ d ≤ 40 := by
  rw [h]; unfold L.far; omega
theorem L.mul_in {a b M N : Int} (h0 : 0 ≤ a) (h1 : a ≤ M) (g0 : 0 ≤ b) (g1 : b ≤ N) : 0 ≤ a * b ∧ a * b ≤ M * N :=
  ⟨Int.mul_nonneg h0 g0, Int.mul_le_mul h1 g1 g0 (by omega)⟩

set_option maxHeartbeats 1600000 in
theorem touches_any (m : L.Mk) (b : L.Bx) (w : World) (hb : L.BxOk b) (hm : L.MkOk m) :
    Calls Try.prog 53 #[.agg #[.int .i64 m.x, .int .i64 m.y, .int .i64 m.hx, .int .i64 m.hy], .agg #[.int .i64 b.l, .int .i64 b.r, .int .i64 b.b, .int .i64 b.t]] w fun e w' => e = .returned (.bool (L.touch m b)) ∧ Below w.heap.size w w' := by
  obtain ⟨l0, lr, r1, b0, bt, t1⟩ := hb
  obtain ⟨x0, x1, y0, y1, p0, p1, q0, q1⟩ := hm
  go_enter Try.func53, Try.ntmps53
  go_upto_region 1 with fail
  go_cut [5] (fun v5 wx => ∃ d : Int, v5 = .int .i64 d ∧ Hid (d = L.far m.x b.l b.r) ∧ wx = (w.alloc (.cells #[.int .i64 m.x, .int .i64 m.y, .int .i64 m.hx, .int .i64 m.hy] 30)).alloc (.cells #[.int .i64 b.l, .int .i64 b.r, .int .i64 b.b, .int .i64 b.t] 28))
  case first =>
    go_wp2
    all_goals (go_meet; exact ⟨_, rfl, hide (by unfold L.far; omega), rfl⟩)
  case rest =>
    obtain ⟨dx, rfl, hd, rfl⟩ := hcut
    go_upto_region 2 with fail
    go_cut [6] (fun v6 wx => ∃ d : Int, v6 = .int .i64 d ∧ Hid (d = L.far m.y b.b b.t) ∧ wx = (w.alloc (.cells #[.int .i64 m.x, .int .i64 m.y, .int .i64 m.hx, .int .i64 m.hy] 30)).alloc (.cells #[.int .i64 b.l, .int .i64 b.r, .int .i64 b.b, .int .i64 b.t] 28))
    case first =>
      go_wp2
      all_goals (go_meet; exact ⟨_, rfl, hide (by unfold L.far; omega), rfl⟩)
    case rest =>
      obtain ⟨dy, rfl, he, rfl⟩ := hcut
      obtain ⟨r0, r1⟩ := L.far_bd hd.out (by omega) (by omega) (by omega) (by omega) (by omega)
      obtain ⟨s0, s1⟩ := L.far_bd he.out (by omega) (by omega) (by omega) (by omega) (by omega)
      obtain ⟨a0, a1⟩ : 0 ≤ dx * m.hy ∧ dx * m.hy ≤ 360 := L.mul_in r0 r1 (by omega) q1
      obtain ⟨b0', b1'⟩ : 0 ≤ dy * m.hx ∧ dy * m.hx ≤ 360 := L.mul_in s0 s1 (by omega) p1
      obtain ⟨c0, c1⟩ : 0 ≤ m.hx * m.hy ∧ m.hx * m.hy ≤ 81 := L.mul_in (by omega) p1 (by omega) q1
      obtain ⟨e0, e1⟩ : 0 ≤ dx * m.hy * (dx * m.hy) ∧ dx * m.hy * (dx * m.hy) ≤ 129600 := L.mul_in a0 a1 a0 a1
      obtain ⟨f0, f1⟩ : 0 ≤ dy * m.hx * (dy * m.hx) ∧ dy * m.hx * (dy * m.hx) ≤ 129600 := L.mul_in b0' b1' b0' b1'
      obtain ⟨g0, g1⟩ : 0 ≤ m.hx * m.hy * (m.hx * m.hy) ∧ m.hx * m.hy * (m.hx * m.hy) ≤ 6561 := L.mul_in c0 c1 c0 c1
      have w1 : IntKind.i64.wrap (dx * m.hy) = dx * m.hy := IntWalk.i64_in _ (by omega)
      have w2 : IntKind.i64.wrap (dy * m.hx) = dy * m.hx := IntWalk.i64_in _ (by omega)
      have w3 : IntKind.i64.wrap (m.hx * m.hy) = m.hx * m.hy := IntWalk.i64_in _ (by omega)
      have w4 : IntKind.i64.wrap (dx * m.hy * (dx * m.hy) + dy * m.hx * (dy * m.hx)) = dx * m.hy * (dx * m.hy) + dy * m.hx * (dy * m.hx) := IntWalk.i64_in _ (by omega)
      have HE := hide (show L.touch m b = decide (dx * m.hy * (dx * m.hy) + dy * m.hx * (dy * m.hx) ≤ m.hx * m.hy * (m.hx * m.hy)) by unfold L.touch; rw [← hd.out, ← he.out])
      go_upto_region 4 with fail
      go_quiet ((go_at_call 68; exact Calls.quiet_of_same (square_any _ _ (by omega) (by omega))))
      all_goals
        clear w1 w2 w3 w4
        go_wp2
        go_ret
        exact ⟨by rw [HE.out]; rfl, below_drewN (by (repeat' first | exact zbR _ _ | assumption | refine zbD ?_ | refine zbA ?_ ?_ _ | refine zbS ?_ ?_ _ | refine zbT ?_ (by assumption) ?_ | (simp; done) | (simp; omega) | omega)) _⟩

end Go.Proofs.Ytampfpnkkdihaaa

namespace Go.Proofs.Ytampfpnkkdihaaa
open Go.RowKit
attribute [local go_sem ↓] Go.wp_at_zero Go.wp_at_succ
attribute [local go_sem] Oper.semAt_some

namespace L
def foundM (v : Vw) (b : Bx) (k call : Int) : Mk := match findC v b k call with
  | some c => markOf v call c
  | none => ⟨0, 0, 0, 0⟩
def hxOf (v : Vw) (call : Int) : Int := if call = 2 then v.hxl else v.hxh
def hyOf (v : Vw) (call : Int) : Int := if call = 2 then v.hyl else v.hyh
theorem markOf_eq (v : Vw) (call : Int) (c : Int × Int) : markOf v call c = ⟨c.1, c.2, hxOf v call, hyOf v call⟩ := by
  unfold markOf hxOf hyOf; split <;> rfl
theorem hitAt_eq (v : Vw) (b : Bx) (call : Int) (c : Int × Int) : hitAt v b call c = (touch ⟨c.1, c.2, hxOf v call, hyOf v call⟩ b == decide (call = 1)) := by
  unfold hitAt hxOf hyOf; split <;> rfl
theorem hxOf_bd {v : Vw} (h : VwOk v) (call : Int) : (1 ≤ hxOf v call ∧ hxOf v call ≤ 9) ∧ 1 ≤ hyOf v call ∧ hyOf v call ≤ 9 := by
  have := h.x0; have := h.xx; have := h.x1; have := h.y0; have := h.yy; have := h.y1
  unfold hxOf hyOf; split <;> omega
end L

theorem boxed_new' {W : World} {T : TypeId} {u : Value} {p : Nat} (h : p = W.heap.size) : Boxed (W.alloc (.cells #[u] T)) p T u := by
  subst h; exact Boxed.new W T u
theorem boxed_drew {W : World} {T : TypeId} {u : Value} {p : Nat} (h : Boxed W p T u) : Boxed W.drew p T u := h
theorem blk_cell {W : World} {g : Nat} {cells : Array Value} {t : TypeId} (h : W.heap[g]? = some (.cells cells t (0, 0))) (i : Nat) : W.cell? ⟨g, i, none⟩ = cells[i]? := by simp [World.cell?, h]
theorem blk_frozen {W : World} {g : Nat} {cells : Array Value} {t : TypeId} (h : W.heap[g]? = some (.cells cells t (0, 0))) (i : Nat) : W.frozen? ⟨g, i, none⟩ = false := by simp [World.frozen?, h]
theorem blk_set {W : World} {g : Nat} {cells : Array Value} {t : TypeId} (h : W.heap[g]? = some (.cells cells t (0, 0))) (i : Nat) (v : Value) : (W.setCell ⟨g, i, none⟩ v).heap[g]? = some (.cells (cells.setIfInBounds i v) t (0, 0)) := by
  obtain ⟨hlt, hk⟩ := Array.getElem?_eq_some_iff.1 h
  show (W.heap.modify g _)[g]? = _
  rw [Array.getElem?_eq_getElem (by rw [Array.size_modify]; exact hlt), Array.getElem_modify_self, hk]
  rfl
theorem blk_other {W : World} {g g' : Nat} {o : Obj} (h : W.heap[g]? = some o) (hne : g ≠ g') (i : Nat) (v : Value) : (W.setCell ⟨g', i, none⟩ v).heap[g]? = some o := (Below.heap_setCell _ _ _ g (fun e => hne e)).trans h
theorem own_block {β : Type} {B b : Nat} (hb : b < B) (o : β → Obj) : OwnFrom B (fun s W => W.heap[b]? = some (o s)) := fun _ _ _ _ h hg hr =>
  (hg.block b (Array.getElem?_eq_some_iff.1 h).1 (fun e => by have := (hr b e.symm).1; omega)).trans h

theorem find_results {Y : World} {D g g' : Nat} {o : Obj} {x y p q : Int} {fl : Bool} {cs cs' : Array Value} {tmps : Array Value} (h1 : g ≠ D) (h2 : g' ≠ D) (h3 : Y.heap[g]? = some (.cells cs 30 (0, 0))) (h4 : Y.heap[g']? = some (.cells cs' 4 (0, 0)))
    (e3 : cs = #[.int .i64 x, .int .i64 y, .int .i64 p, .int .i64 q]) (e4 : cs' = #[.bool fl]) (t8 : tmps[8]? = some (.pointer (some ⟨g, 0, none⟩)) ) (t9 : tmps[9]? = some (.pointer (some ⟨g', 0, none⟩))) :
    (results Try.f55 tmps).run Try.prog (Y.putObj D o) = .ok (.tuple #[.agg #[.int .i64 x, .int .i64 y, .int .i64 p, .int .i64 q], .bool fl]) (Y.putObj D o) := by
  subst e3 e4
  have z3 : (Y.putObj D o).heap[g]? = some (.cells #[.int .i64 x, .int .i64 y, .int .i64 p, .int .i64 q] 30 (0, 0)) := (World.putObj_heap_other h1).trans h3
  have z4 : (Y.putObj D o).heap[g']? = some (.cells #[.bool fl] 4 (0, 0)) := (World.putObj_heap_other h2).trans h4
  have k0 : (Y.putObj D o).cell? ⟨g, 0, none⟩ = some (.int .i64 x) := blk_cell z3 0
  have k1 : (Y.putObj D o).cell? ⟨g, 1, none⟩ = some (.int .i64 y) := blk_cell z3 1
  have k2 : (Y.putObj D o).cell? ⟨g, 2, none⟩ = some (.int .i64 p) := blk_cell z3 2
  have k3 : (Y.putObj D o).cell? ⟨g, 3, none⟩ = some (.int .i64 q) := blk_cell z3 3
  have k4 : (Y.putObj D o).cell? ⟨g', 0, none⟩ = some (.bool fl) := blk_cell z4 0
  simp [results, Try.results55, go_sem, t8, t9, k0, k1, k2, k3, k4]

set_option maxRecDepth 100000 in
set_option maxHeartbeats 1600000 in
theorem find_any (v : L.Vw) (A : Option Addr) (n c : Nat) (b : L.Bx) (k call : Int) (w : World) (hv : L.VwOk v) (hb : L.BxOk b) (hn : v.ss.length = n) (hr : RdS w w.heap.size A v.ss) (hk0 : 0 ≤ k) (hk1 : k ≤ 1000) :
    Calls Try.prog 55 #[.agg #[.int .i64 v.size, .slice A n c, .int .i64 v.wrong, .int .i64 v.hxl, .int .i64 v.hxh, .int .i64 v.hyl, .int .i64 v.hyh], .agg #[.int .i64 b.l, .int .i64 b.r, .int .i64 b.b, .int .i64 b.t], .int .i64 k, .int .i64 call] w fun e w' => e = .returned (.tuple #[.agg #[.int .i64 ((L.foundM v b k call)).x, .int .i64 ((L.foundM v b k call)).y, .int .i64 ((L.foundM v b k call)).hx, .int .i64 ((L.foundM v b k call)).hy], .bool (L.findC v b k call).isSome]) ∧ Below w.heap.size w w' := by
  have HN := hide hn
  have HR := hide hr
  have HV := hide hv
  have HB := hide hb
  clear hn hr hv hb
  refine calls_marks Try.func55 rfl ?_
  simp only [Try.ntmps55, List.size_toArray, List.length_cons, List.length_nil, Nat.reduceAdd, Nat.reduceSub, Array.replicate_succ, Array.replicate_zero, List.push_toArray, List.append_toArray, List.nil_append, List.cons_append]
  go_upto_region 1 with fail
  obtain ⟨W0, hW0⟩ : ∃ W0, ((((w.alloc (.cells #[.int .i64 v.size, .slice A n c, .int .i64 v.wrong, .int .i64 v.hxl, .int .i64 v.hxh, .int .i64 v.hyl, .int .i64 v.hyh] 26)).alloc (.cells #[.int .i64 b.l, .int .i64 b.r, .int .i64 b.b, .int .i64 b.t] 28)).alloc (.cells #[.int .i64 call] 3)).alloc (.cells #[.int .i64 0, .int .i64 0, .int .i64 0, .int .i64 0] 30)).alloc (.cells #[.bool false] 4) = W0 := ⟨_, rfl⟩
  have g0 : ∀ i, i < 7 → W0.cell? ⟨w.heap.size, i, none⟩ = (#[.int .i64 v.size, .slice A n c, .int .i64 v.wrong, .int .i64 v.hxl, .int .i64 v.hxh, .int .i64 v.hyl, .int .i64 v.hyh] : Array Value)[i]? := fun i _ => by
    rw [← hW0]; exact (zcP _ _ _ (by first | (simp; done) | (simp; omega))).trans ((zcP _ _ _ (by first | (simp; done) | (simp; omega))).trans ((zcP _ _ _ (by first | (simp; done) | (simp; omega))).trans ((zcP _ _ _ (by simp)).trans (zcA _ _ _ _ rfl))))
  have g1 : ∀ i, i < 4 → W0.cell? ⟨w.heap.size + 1, i, none⟩ = (#[.int .i64 b.l, .int .i64 b.r, .int .i64 b.b, .int .i64 b.t] : Array Value)[i]? := fun i _ => by
    rw [← hW0]; exact (zcP _ _ _ (by first | (simp; done) | (simp; omega))).trans ((zcP _ _ _ (by first | (simp; done) | (simp; omega))).trans ((zcP _ _ _ (by simp)).trans (zcA _ _ _ _ (by simp))))
  have g2 : W0.cell? ⟨w.heap.size + 1 + 1, 0, none⟩ = some (.int .i64 call) := by
    rw [← hW0]; exact (zcP _ _ _ (by first | (simp; done) | (simp; omega))).trans ((zcP _ _ _ (by simp)).trans (zcA _ _ _ _ (by simp)))
  have g3 : W0.heap[w.heap.size + 1 + 1 + 1]? = some (.cells #[.int .i64 0, .int .i64 0, .int .i64 0, .int .i64 0] 30 (0, 0)) := by
    rw [← hW0]; exact (Below.heap_alloc _ _ _ (by simp)).trans ((congrArg _ (by simp)).trans (World.alloc_heap_new _ _))
  have g4 : Boxed W0 (w.heap.size + 1 + 1 + 1 + 1) 4 (.bool false) := by
    rw [← hW0]; exact (congrArg _ (by simp)).trans (World.alloc_heap_new _ _)
  have gs : W0.heap.size = w.heap.size + 1 + 1 + 1 + 1 + 1 := by rw [← hW0]; simp
  have gB : Below w.heap.size w W0 := by rw [← hW0]; (repeat' first | exact zbR _ _ | assumption | refine zbD ?_ | refine zbA ?_ ?_ _ | refine zbS ?_ ?_ _ | refine zbT ?_ (by assumption) ?_ | (simp; done) | (simp; omega) | omega)
  have G3 := hide g3
  have G4 := hide g4
  rw [hW0]
  clear hW0 g3 g4
  have a3 := g0 3 (by omega)
  have a4 := g0 4 (by omega)
  have a5 := g0 5 (by omega)
  have a6 := g0 6 (by omega)
  simp at a3 a4 a5 a6
  have l0 : w.heap.size < W0.heap.size := by omega
  have G0 := hide g0
  have G1 := hide g1
  have G2 := hide g2
  have GB := hide gB
  clear g0 g1 g2 gB
  go_cut [10, 11] from 15 to 20 (fun v10 v11 wx => ∃ p q : Nat, v10 = .pointer (some ⟨p, 0, none⟩) ∧ v11 = .pointer (some ⟨q, 0, none⟩) ∧ Hid (p ≠ q ∧ W0.heap.size ≤ p ∧ W0.heap.size ≤ q ∧ Boxed wx p 3 (.int .i64 v.hxh) ∧ Boxed wx q 3 (.int .i64 v.hyh) ∧ Below W0.heap.size W0 wx))
  case first =>
    go_region
    all_goals
      go_wp2_with fail
      go_meet
      refine ⟨_, _, rfl, rfl, hide ⟨by omega, by omega, by omega, ?_, ?_, ?_⟩⟩
      · first | exact boxed_drew ((boxed_new' gs.symm).alloc _) | exact boxed_drew (boxed_new' (by simp [gs]))
      · first | exact boxed_drew ((boxed_new' gs.symm).alloc _) | exact boxed_drew (boxed_new' (by simp [gs]))
      · exact (((Below.refl _ W0).alloc (Nat.le_refl _) _).alloc (by simp) _).drew
  case rest =>
    obtain ⟨p, q, rfl, rfl, hpq⟩ := hcut
    obtain ⟨hpq, hp, hq, hbp, hbq, hB1⟩ := hpq.out
    have z1 := hB1.size
    have lp := hbp.lt
    have lq := hbq.lt
    have cp := hbp.cell
    have cq := hbq.cell
    have fp := hbp.frozen
    have fq := hbq.frozen
    have b2 : wc.cell? ⟨w.heap.size + 1 + 1, 0, none⟩ = some (.int .i64 call) := (hB1.cell (p := ⟨w.heap.size + 1 + 1, 0, none⟩) (show w.heap.size + 1 + 1 < _ by omega)).trans G2.out
    have b3 : wc.cell? ⟨w.heap.size, 3, none⟩ = some (.int .i64 v.hxl) := (hB1.cell (p := ⟨w.heap.size, 3, none⟩) (show w.heap.size < _ by omega)).trans a3
    have b5 : wc.cell? ⟨w.heap.size, 5, none⟩ = some (.int .i64 v.hyl) := (hB1.cell (p := ⟨w.heap.size, 5, none⟩) (show w.heap.size < _ by omega)).trans a5
    have HBp := hide hbp
    have HBq := hide hbq
    have HB1 := hide hB1
    clear hbp hbq hB1
    go_upto_if 22 with fail
    go_cut [] from 23 to 28 (fun wx => Hid (Boxed wx p 3 (.int .i64 (L.hxOf v call)) ∧ Boxed wx q 3 (.int .i64 (L.hyOf v call)) ∧ Below W0.heap.size W0 wx))
    case first =>
      by_cases hcall : call = 2
      · have d1 : decide (call = 2) = true := by simp [hcall]
        have d2 : (call == 2) = true := by simp [hcall]
        have HC := hide hcall
        clear hcall
        go_wp2_with fail
        go_region
        all_goals
          go_wp2_with fail
          go_meet
          exact hide ⟨by rw [L.hxOf, if_pos HC.out]; exact boxed_drew ((HBp.out.set _).other hpq _), by rw [L.hyOf, if_pos HC.out]; exact boxed_drew ((HBq.out.other (Ne.symm hpq) _).set _), ((HB1.out.setCell (p := ⟨p, 0, none⟩) hp _).setCell (p := ⟨q, 0, none⟩) hq _).drew⟩
      · have d1 : decide (call = 2) = false := by simp [hcall]
        have d2 : (call == 2) = false := by simp [hcall]
        have HC := hide hcall
        clear hcall
        go_wp2_with fail
        go_meet
        exact hide ⟨by rw [L.hxOf, if_neg HC.out]; exact HBp.out, by rw [L.hyOf, if_neg HC.out]; exact HBq.out, HB1.out⟩
    case rest =>
      clear z1 lp lq cp cq fp fq b2 b3 b5 HBp HBq HB1 a3 a4 a5 a6
      obtain ⟨hbp, hbq, hB1⟩ := hcut.out
      clear hcut
      have z1 := hB1.size
      have lp := hbp.lt
      have lq := hbq.lt
      have e0 : ∀ i, i < 7 → wc.cell? ⟨w.heap.size, i, none⟩ = (#[.int .i64 v.size, .slice A n c, .int .i64 v.wrong, .int .i64 v.hxl, .int .i64 v.hxh, .int .i64 v.hyl, .int .i64 v.hyh] : Array Value)[i]? := fun i hi => (hB1.cell (p := ⟨w.heap.size, i, none⟩) (show w.heap.size < _ by omega)).trans (G0.out i hi)
      have s0 := e0 0 (by omega)
      have s1 := e0 1 (by omega)
      have s2 := e0 2 (by omega)
      have s3 := e0 3 (by omega)
      have s4 := e0 4 (by omega)
      have s5 := e0 5 (by omega)
      have s6 := e0 6 (by omega)
      simp at s0 s1 s2 s3 s4 s5 s6
      have HE0 := hide e0
      have hB0 := hide (GB.out.trans (hB1.mono (by omega)))
      have HBp := hide hbp
      have HBq := hide hbq
      have HB1 := hide hB1
      clear e0 hbp hbq hB1
      go_wp2_with (go_at_call 58; refine (trueCentres_any v A n c k _).mono ?_; rintro e V ⟨rfl, hVb, hVs, hV0, hV1, hV2, hV3, hV4⟩)
      have hBV : Below w.heap.size w V := hB0.out.trans (hVb.mono (by omega))
      have f0 : V.cell? ⟨w.heap.size + 1, 0, none⟩ = some (.int .i64 b.l) := (hVb.cell (p := ⟨w.heap.size + 1, 0, none⟩) (show w.heap.size + 1 < _ by omega)).trans ((HB1.out.cell (p := ⟨w.heap.size + 1, 0, none⟩) (show w.heap.size + 1 < _ by omega)).trans (G1.out 0 (by omega)))
      have f1 : V.cell? ⟨w.heap.size + 1, 1, none⟩ = some (.int .i64 b.r) := (hVb.cell (p := ⟨w.heap.size + 1, 1, none⟩) (show w.heap.size + 1 < _ by omega)).trans ((HB1.out.cell (p := ⟨w.heap.size + 1, 1, none⟩) (show w.heap.size + 1 < _ by omega)).trans (G1.out 1 (by omega)))
      have f2 : V.cell? ⟨w.heap.size + 1, 2, none⟩ = some (.int .i64 b.b) := (hVb.cell (p := ⟨w.heap.size + 1, 2, none⟩) (show w.heap.size + 1 < _ by omega)).trans ((HB1.out.cell (p := ⟨w.heap.size + 1, 2, none⟩) (show w.heap.size + 1 < _ by omega)).trans (G1.out 2 (by omega)))
      have f3 : V.cell? ⟨w.heap.size + 1, 3, none⟩ = some (.int .i64 b.t) := (hVb.cell (p := ⟨w.heap.size + 1, 3, none⟩) (show w.heap.size + 1 < _ by omega)).trans ((HB1.out.cell (p := ⟨w.heap.size + 1, 3, none⟩) (show w.heap.size + 1 < _ by omega)).trans (G1.out 3 (by omega)))
      have f4 : V.cell? ⟨w.heap.size + 1 + 1, 0, none⟩ = some (.int .i64 call) := (hVb.cell (p := ⟨w.heap.size + 1 + 1, 0, none⟩) (show w.heap.size + 1 + 1 < _ by omega)).trans ((HB1.out.cell (p := ⟨w.heap.size + 1 + 1, 0, none⟩) (show w.heap.size + 1 + 1 < _ by omega)).trans G2.out)
      have f5 : V.cell? ⟨p, 0, none⟩ = some (.int .i64 (L.hxOf v call)) := (hVb.cell (p := ⟨p, 0, none⟩) lp).trans HBp.out.cell
      have f6 : V.cell? ⟨q, 0, none⟩ = some (.int .i64 (L.hyOf v call)) := (hVb.cell (p := ⟨q, 0, none⟩) lq).trans HBq.out.cell
      have r3 : V.heap[w.heap.size + 1 + 1 + 1]? = some (.cells #[.int .i64 0, .int .i64 0, .int .i64 0, .int .i64 0] 30 (0, 0)) := (hVb.block _ (by omega)).trans ((HB1.out.block _ (by omega)).trans G3.out)
      have r4 : V.heap[w.heap.size + 1 + 1 + 1 + 1]? = some (.cells #[.bool false] 4 (0, 0)) := (hVb.block _ (by omega)).trans ((HB1.out.block _ (by omega)).trans G4.out)
      refine wp_rangeP (gf := 71) (lb := #[.pointer (some ⟨wc.heap.size, 0, none⟩), .pointer (some ⟨wc.heap.size + 1 + 1, 0, none⟩)]) rfl (enters_of Try.func71 (by kernel_rfl) rfl)
        (trueCentres_seq v A n c k wc.heap.size (wc.heap.size + 1) (wc.heap.size + 1 + 1) w.heap.size (fun x => x < V.heap.size ∧ x ≠ w.heap.size + 1 + 1 + 1 ∧ x ≠ w.heap.size + 1 + 1 + 1 + 1) V HV.out HN.out hBV.size (HR.out.below hBV) (fun x hx => ⟨by omega, by omega, by omega⟩) (fun x hx => hx.1) hk0 hk1 ⟨by omega, by omega, by omega⟩ ⟨by omega, by omega, by omega⟩ ⟨by omega, by omega, by omega⟩ hV0 hV1 hV2 hV3 hV4) (Below.refl _ _) (fun x hx => hx.1) (fun _ => rfl)
        (fun pre X => (∀ c ∈ pre, L.hitAt v b call c = false) ∧ Keeps (fun _ => True) V X)
        (fun cd pre X => cd = .ret ∧ ∃ x pr, pre = pr ++ [x] ∧ (∀ c ∈ pr, L.hitAt v b call c = false) ∧ L.hitAt v b call x = true ∧ Keeps (fun x => x ≠ w.heap.size + 1 + 1 + 1 ∧ x ≠ w.heap.size + 1 + 1 + 1 + 1) V X ∧ X.heap[w.heap.size + 1 + 1 + 1]? = some (.cells #[.int .i64 x.1, .int .i64 x.2, .int .i64 (L.hxOf v call), .int .i64 (L.hyOf v call)] 30 (0, 0)) ∧ X.heap[w.heap.size + 1 + 1 + 1 + 1]? = some (.cells #[.bool true] 4 (0, 0)))
        (OwnFrom.and (ownFrom_pure _ _) (keeps_own (Nat.le_refl _)))
        (fun cd s X Y row ⟨h1, x, pr, h2, h3, h4, h5, h6, h7⟩ hg hr => ⟨h1, x, pr, h2, h3, h4, keeps_own (β := Unit) (Nat.le_refl _) () X Y row h5 hg hr, own_block (β := Unit) (show w.heap.size + 1 + 1 + 1 < V.heap.size by omega) (fun _ => _) () X Y row h6 hg hr, own_block (β := Unit) (show w.heap.size + 1 + 1 + 1 + 1 < V.heap.size by omega) (fun _ => _) () X Y row h7 hg hr⟩)
        ⟨fun _ h => (by cases h), Keeps.refl _ _⟩ ?a1 ?assign ?body ?done ?stop
      case assign =>
        intro l2 x X K hK
        simp only [encP]
        gi_wp2
        exact hK
      case body =>
        rintro l2 pre x X ⟨hno, hK⟩ hpre
        have hmem := hpre.subset (List.mem_append_right _ (List.mem_singleton.2 rfl))
        obtain ⟨hx0, hx1, hy0, hy1⟩ := L.mem_cents (List.mem_filter.1 hmem).1
        obtain ⟨⟨p0, p1⟩, q0, q1⟩ := L.hxOf_bd HV.out call
        have z2 := hK.rest.size
        have zs := HV.out.s1
        have u0 : X.cell? ⟨w.heap.size + 1, 0, none⟩ = some (.int .i64 b.l) := (hK.cell trivial (by omega)).trans f0
        have u1 : X.cell? ⟨w.heap.size + 1, 1, none⟩ = some (.int .i64 b.r) := (hK.cell trivial (by omega)).trans f1
        have u2 : X.cell? ⟨w.heap.size + 1, 2, none⟩ = some (.int .i64 b.b) := (hK.cell trivial (by omega)).trans f2
        have u3 : X.cell? ⟨w.heap.size + 1, 3, none⟩ = some (.int .i64 b.t) := (hK.cell trivial (by omega)).trans f3
        have u4 : X.cell? ⟨w.heap.size + 1 + 1, 0, none⟩ = some (.int .i64 call) := (hK.cell trivial (by omega)).trans f4
        have u5 : X.cell? ⟨p, 0, none⟩ = some (.int .i64 (L.hxOf v call)) := (hK.cell trivial (by omega)).trans f5
        have u6 : X.cell? ⟨q, 0, none⟩ = some (.int .i64 (L.hyOf v call)) := (hK.cell trivial (by omega)).trans f6
        have n0 : w.heap.size + 1 < X.heap.size := by omega
        have n1 : w.heap.size + 1 + 1 < X.heap.size := by omega
        have n2 : p < X.heap.size := by omega
        have n3 : q < X.heap.size := by omega
        have hm : L.MkOk ⟨x.1, x.2, L.hxOf v call, L.hyOf v call⟩ := ⟨hx0, by simp only; omega, hy0, by simp only; omega, p0, p1, q0, q1⟩
        have HNO := hide hno
        have HK := hide hK
        have HM := hide hm
        clear hno hK hm hmem hpre f0 f1 f2 f3 f4 f5 f6
        gi_wp2
        obtain ⟨X1, hX1⟩ : ∃ X1, X.alloc (.cells #[.int .i64 x.1, .int .i64 x.2, .int .i64 (L.hxOf v call), .int .i64 (L.hyOf v call)] 30) = X1 := ⟨_, rfl⟩
        have m0 : X1.cell? ⟨X.heap.size, 0, none⟩ = some (.int .i64 x.1) := by rw [← hX1]; exact zcA _ _ _ _ rfl
        have m1 : X1.cell? ⟨X.heap.size, 1, none⟩ = some (.int .i64 x.2) := by rw [← hX1]; exact zcA _ _ _ _ rfl
        have m2 : X1.cell? ⟨X.heap.size, 2, none⟩ = some (.int .i64 (L.hxOf v call)) := by rw [← hX1]; exact zcA _ _ _ _ rfl
        have m3 : X1.cell? ⟨X.heap.size, 3, none⟩ = some (.int .i64 (L.hyOf v call)) := by rw [← hX1]; exact zcA _ _ _ _ rfl
        have b0 : X1.cell? ⟨w.heap.size + 1, 0, none⟩ = some (.int .i64 b.l) := by rw [← hX1]; exact (zcP _ _ _ n0).trans u0
        have b1 : X1.cell? ⟨w.heap.size + 1, 1, none⟩ = some (.int .i64 b.r) := by rw [← hX1]; exact (zcP _ _ _ n0).trans u1
        have b2 : X1.cell? ⟨w.heap.size + 1, 2, none⟩ = some (.int .i64 b.b) := by rw [← hX1]; exact (zcP _ _ _ n0).trans u2
        have b3 : X1.cell? ⟨w.heap.size + 1, 3, none⟩ = some (.int .i64 b.t) := by rw [← hX1]; exact (zcP _ _ _ n0).trans u3
        have b4 : X1.cell? ⟨w.heap.size + 1 + 1, 0, none⟩ = some (.int .i64 call) := by rw [← hX1]; exact (zcP _ _ _ n1).trans u4
        have HX1 := hide (show Below X.heap.size X X1 by rw [← hX1]; exact (Below.refl _ X).alloc (Nat.le_refl _) _)
        have zx : X1.heap.size = X.heap.size + 1 := by rw [← hX1]; simp
        rw [hX1]
        clear hX1 u0 u1 u2 u3 u4 u5 u6
        have lx : X.heap.size < X1.heap.size := by omega
        replace n0 : w.heap.size + 1 < X1.heap.size := by omega
        replace n1 : w.heap.size + 1 + 1 < X1.heap.size := by omega
        gi_region_with ((refine ⟨trivial, ?_⟩; gi_at_call 53; refine (CallsIn.inRound l2 (callsIn_wide.2 (touches_any ⟨x.1, x.2, L.hxOf v call, L.hyOf v call⟩ b _ HB.out HM.out))).mono ?_; rintro e w3 ⟨rfl, hb3⟩; have c4 : w3.cell? ⟨w.heap.size + 1 + 1, 0, none⟩ = some (.int .i64 call) := (hb3.cell (p := ⟨w.heap.size + 1 + 1, 0, none⟩) n1).trans b4))
        all_goals
          have hx1 := HX1.out
          have hXw : Below X.heap.size X w3 := by (repeat' first | exact zbR _ _ | assumption | refine zbD ?_ | refine zbA ?_ ?_ _ | refine zbS ?_ ?_ _ | refine zbT ?_ (by assumption) ?_ | (simp; done) | (simp; omega) | omega)
          have HH := hide (L.hitAt_eq v b call x)
          cases hh : (L.touch ⟨x.1, x.2, L.hxOf v call, L.hyOf v call⟩ b == (call == 1))
          · gi_wp2
            exact ⟨Keeps.of_below hXw, fun c hc => (by
              rcases List.mem_append.1 hc with h | h
              · exact HNO.out c h
              · obtain rfl : c = x := by simpa using h
                exact HH.out.trans hh), HK.out.trans (Keeps.of_below hXw)⟩
          · have q3 : w3.heap[w.heap.size + 1 + 1 + 1]? = some (.cells #[.int .i64 0, .int .i64 0, .int .i64 0, .int .i64 0] 30 (0, 0)) := (hXw.block _ (by omega)).trans ((HK.out.same _ trivial (by omega)).trans r3)
            have q4 : w3.heap[w.heap.size + 1 + 1 + 1 + 1]? = some (.cells #[.bool false] 4 (0, 0)) := (hXw.block _ (by omega)).trans ((HK.out.same _ trivial (by omega)).trans r4)
            have x0 := (blk_cell q3 0).trans rfl
            have x1 := (blk_cell q3 1).trans rfl
            have x2 := (blk_cell q3 2).trans rfl
            have x3 := (blk_cell q3 3).trans rfl
            have y0 := blk_frozen q3 0
            have y1 := blk_frozen q3 1
            have y2 := blk_frozen q3 2
            have y3 := blk_frozen q3 3
            have x4 := (blk_cell q4 0).trans rfl
            have y4 := blk_frozen q4 0
            have v0 := (hb3.cell (p := ⟨X.heap.size, 0, none⟩) lx).trans m0
            have v1 := (hb3.cell (p := ⟨X.heap.size, 1, none⟩) lx).trans m1
            have v2 := (hb3.cell (p := ⟨X.heap.size, 2, none⟩) lx).trans m2
            have v3 := (hb3.cell (p := ⟨X.heap.size, 3, none⟩) lx).trans m3
            have Q3 := hide q3
            have Q4 := hide q4
            have HHH := hide hh
            clear q3 q4
            gi_wp2
            have k3 := blk_other (blk_set (blk_set (blk_set (blk_set Q3.out 0 (.int .i64 x.1)) 1 (.int .i64 x.2)) 2 (.int .i64 (L.hxOf v call))) 3 (.int .i64 (L.hyOf v call))) (show w.heap.size + 1 + 1 + 1 ≠ w.heap.size + 1 + 1 + 1 + 1 by omega) 0 (.bool true)
            have k4 := blk_set (blk_other (blk_other (blk_other (blk_other Q4.out (show w.heap.size + 1 + 1 + 1 + 1 ≠ w.heap.size + 1 + 1 + 1 by omega) 0 (.int .i64 x.1)) (show w.heap.size + 1 + 1 + 1 + 1 ≠ w.heap.size + 1 + 1 + 1 by omega) 1 (.int .i64 x.2)) (show w.heap.size + 1 + 1 + 1 + 1 ≠ w.heap.size + 1 + 1 + 1 by omega) 2 (.int .i64 (L.hxOf v call))) (show w.heap.size + 1 + 1 + 1 + 1 ≠ w.heap.size + 1 + 1 + 1 by omega) 3 (.int .i64 (L.hyOf v call))) 0 (.bool true)
            have KK : ∀ S : Nat → Prop, ¬ S (w.heap.size + 1 + 1 + 1) → ¬ S (w.heap.size + 1 + 1 + 1 + 1) → Keeps S w3 (((((w3.setCell ⟨w.heap.size + 1 + 1 + 1, 0, none⟩ (.int .i64 x.1)).setCell ⟨w.heap.size + 1 + 1 + 1, 1, none⟩ (.int .i64 x.2)).setCell ⟨w.heap.size + 1 + 1 + 1, 2, none⟩ (.int .i64 (L.hxOf v call))).setCell ⟨w.heap.size + 1 + 1 + 1, 3, none⟩ (.int .i64 (L.hyOf v call))).setCell ⟨w.heap.size + 1 + 1 + 1 + 1, 0, none⟩ (.bool true)) := fun S h1 h2 =>
              ((((Keeps.setAt _ _ _ h1).trans (Keeps.setAt _ _ _ h1)).trans (Keeps.setAt _ _ _ h1)).trans (Keeps.setAt _ _ _ h1)).trans (Keeps.setAt _ _ _ h2)
            exact ⟨(Keeps.of_below hXw).trans (KK _ (fun h => by rcases h with ⟨_, h, _⟩ | h <;> omega) (fun h => by rcases h with ⟨_, _, h⟩ | h <;> omega)), rfl, x, pre, rfl, HNO.out, HH.out.trans HHH.out, (HK.out.less (fun _ _ => trivial)).trans ((Keeps.of_below hXw).trans (KK _ (fun h => h.1 rfl) (fun h => h.2 rfl))), k3, k4⟩
      case done =>
        rintro D X hD ⟨hno, hK⟩ hdef
        have z2 := hK.rest.size
        have t3 : X.heap[w.heap.size + 1 + 1 + 1]? = some (.cells #[.int .i64 0, .int .i64 0, .int .i64 0, .int .i64 0] 30 (0, 0)) := (hK.same _ trivial (by omega)).trans r3
        have t4 : X.heap[w.heap.size + 1 + 1 + 1 + 1]? = some (.cells #[.bool false] 4 (0, 0)) := (hK.same _ trivial (by omega)).trans r4
        have x0 := (blk_cell t3 0).trans rfl
        have x1 := (blk_cell t3 1).trans rfl
        have x2 := (blk_cell t3 2).trans rfl
        have x3 := (blk_cell t3 3).trans rfl
        have y0 := blk_frozen t3 0
        have y1 := blk_frozen t3 1
        have y2 := blk_frozen t3 2
        have y3 := blk_frozen t3 3
        have x4 := (blk_cell t4 0).trans rfl
        have y4 := blk_frozen t4 0
        have T3 := hide t3
        have T4 := hide t4
        clear t3 t4
        go_wp2
        have q3 := blk_other (blk_set (blk_set (blk_set (blk_set T3.out 0 (.int .i64 0)) 1 (.int .i64 0)) 2 (.int .i64 0)) 3 (.int .i64 0)) (show w.heap.size + 1 + 1 + 1 ≠ w.heap.size + 1 + 1 + 1 + 1 by omega) 0 (.bool false)
        have q4 := blk_set (blk_other (blk_other (blk_other (blk_other T4.out (show w.heap.size + 1 + 1 + 1 + 1 ≠ w.heap.size + 1 + 1 + 1 by omega) 0 (.int .i64 0)) (show w.heap.size + 1 + 1 + 1 + 1 ≠ w.heap.size + 1 + 1 + 1 by omega) 1 (.int .i64 0)) (show w.heap.size + 1 + 1 + 1 + 1 ≠ w.heap.size + 1 + 1 + 1 by omega) 2 (.int .i64 0)) (show w.heap.size + 1 + 1 + 1 + 1 ≠ w.heap.size + 1 + 1 + 1 by omega) 3 (.int .i64 0)) 0 (.bool false)
        have nd : D ≠ w.heap.size + 1 + 1 + 1 := by omega
        have qd := blk_other (blk_other (blk_other (blk_other (blk_other hdef nd 0 (.int .i64 0)) nd 1 (.int .i64 0)) nd 2 (.int .i64 0)) nd 3 (.int .i64 0)) (show D ≠ w.heap.size + 1 + 1 + 1 + 1 by omega) 0 (.bool false)
        have hB5 : Below w.heap.size w ((((((X.setCell ⟨w.heap.size + 1 + 1 + 1, 0, none⟩ (.int .i64 0)).setCell ⟨w.heap.size + 1 + 1 + 1, 1, none⟩ (.int .i64 0)).setCell ⟨w.heap.size + 1 + 1 + 1, 2, none⟩ (.int .i64 0)).setCell ⟨w.heap.size + 1 + 1 + 1, 3, none⟩ (.int .i64 0)).setCell ⟨w.heap.size + 1 + 1 + 1 + 1, 0, none⟩ (.bool false)).putObj D (Obj.deferred none)) :=
          (((((((hBV.trans (hK.below (n := w.heap.size) (fun _ _ => trivial) (by omega))).setCell (p := ⟨w.heap.size + 1 + 1 + 1, 0, none⟩) (show w.heap.size ≤ w.heap.size + 1 + 1 + 1 by omega) _).setCell (p := ⟨w.heap.size + 1 + 1 + 1, 1, none⟩) (show w.heap.size ≤ w.heap.size + 1 + 1 + 1 by omega) _).setCell (p := ⟨w.heap.size + 1 + 1 + 1, 2, none⟩) (show w.heap.size ≤ w.heap.size + 1 + 1 + 1 by omega) _).setCell (p := ⟨w.heap.size + 1 + 1 + 1, 3, none⟩) (show w.heap.size ≤ w.heap.size + 1 + 1 + 1 by omega) _).setCell (p := ⟨w.heap.size + 1 + 1 + 1 + 1, 0, none⟩) (show w.heap.size ≤ w.heap.size + 1 + 1 + 1 + 1 by omega) _).grown (grownBy_putObj' _ D _) (by simp; omega) (fun k e => by cases e; omega))
        have hnone : L.findC v b k call = none := by
          unfold L.findC
          rw [List.find?_eq_none]
          intro c hc
          rw [hno c hc]
          simp
        refine ⟨by simp, .inl ⟨_, _, rfl, run_takeDeferred qd, ?_⟩⟩
        rw [L.foundM, hnone]
        exact ⟨_, find_results nd.symm (show w.heap.size + 1 + 1 + 1 + 1 ≠ D by omega) q3 q4 rfl rfl rfl rfl, rfl, hB5⟩
      case stop =>
        rintro D cd pre X hD hpre ⟨rfl, x, pr, h2, h3, h4, h5, h6, h7⟩ hdef
        have z2 := h5.rest.size
        have hsome : L.findC v b k call = some x := by
          obtain ⟨rest, hrest⟩ := hpre
          unfold L.findC
          rw [← hrest, h2, List.append_assoc, List.find?_append, List.find?_eq_none.2 (fun c hc => by rw [h3 c hc]; simp)]
          simp [h4]
        have hB5 : Below w.heap.size w (X.putObj D (Obj.deferred none)) :=
          (hBV.trans (h5.below (n := w.heap.size) (fun y hy => ⟨by omega, by omega⟩) (by omega))).grown (grownBy_putObj' _ D _) (by omega) (fun k e => by cases e; omega)
        go_wp2
        refine ⟨by simp, .inl ⟨_, _, rfl, run_takeDeferred hdef, ?_⟩⟩
        have hfm : L.foundM v b k call = ⟨x.1, x.2, L.hxOf v call, L.hyOf v call⟩ := by rw [L.foundM, hsome]; exact L.markOf_eq v call x
        rw [hfm, hsome]
        exact ⟨_, find_results (show w.heap.size + 1 + 1 + 1 ≠ D by omega) (show w.heap.size + 1 + 1 + 1 + 1 ≠ D by omega) h6 h7 rfl rfl rfl rfl, rfl, hB5⟩

end Go.Proofs.Ytampfpnkkdihaaa
