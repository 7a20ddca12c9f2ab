/-
  Part of a claim's texts: contracts of the program's functions and the plain functions that they compute, in build order.
-/
import Derived.Test.YtlpjkolocgkcpaaProg
import Derived.StillTail
import Derived.Test.YtlpjkolocgkcpaaZB01
import Derived.Test.YtlpjkolocgkcpaaZB02
import Derived.Test.YtlpjkolocgkcpaaZB03
namespace Go.Proofs.Ytlpjkolocgkcpaa
open Go.RowKit Go.Shelf
attribute [local go_sem ↓] Go.wp_at_zero Go.wp_at_succ
attribute [local go_sem] Oper.semAt_some

namespace G
def upF (m : Int) (x : Pt × Int) : Int := if x.2 ≠ -1 ∧ x.2 ≤ m then x.1.size else 0
def upL (q : Qu) (m : Int) (r : Int) : List Int := (q.gs.zip (enter q r)).map (upF m)
theorem upL_len (q : Qu) (m r : Int) : (upL q m r).length = q.gs.length := by
  unfold upL
  rw [List.length_map, List.length_zip, enter_len, Nat.min_self]
theorem upL_get {q : Qu} {m r : Int} {k : Nat} {p : Pt} (h : q.gs[k]? = some p) : (upL q m r)[k]? = some (upF m (p, (enter q r).getD k 0)) := by
  have hk := (List.getElem?_eq_some_iff.1 h).1
  have hl : k < (enter q r).length := by rw [enter_len]; exact hk
  have hz : (q.gs.zip (enter q r))[k]? = some (p, (enter q r)[k]) := List.getElem?_zip_eq_some.2 ⟨h, List.getElem?_eq_getElem hl⟩
  unfold upL
  rw [List.getElem?_map, hz, List.getD_eq_getElem?_getD, List.getElem?_eq_getElem hl]
  rfl
theorem upL_bd {q : Qu} (hv : Valid q) {m r : Int} : ∀ x ∈ upL q m r, 0 ≤ x ∧ x ≤ 1000000 := by
  intro x hx
  unfold upL at hx
  obtain ⟨y, hy, rfl⟩ := List.mem_map.1 hx
  have hV := vParty_iff.1 (hv.gv _ (List.of_mem_zip (show (y.1, y.2) ∈ _ from hy)).1)
  have h0 := hV.z0
  have h1 := hV.z1
  unfold upF
  split <;> omega
theorem up_take_bd {q : Qu} (hv : Valid q) {m r : Int} (k : Nat) : 0 ≤ ((upL q m r).take k).sum ∧ ((upL q m r).take k).sum ≤ 40000000 := by
  have h := sum_bd (l := (upL q m r).take k) (fun x hx => upL_bd hv x (List.mem_of_mem_take hx))
  have h2 : ((upL q m r).take k).length ≤ 40 := by
    rw [List.length_take, upL_len]
    have := hv.gl
    omega
  omega
end G

theorem wpListIn_app_loc {F : Fence} {nn : Nat} {w : World} {ops : Array Oper} {rest : List Oper} {o : Oper} {a : Act} {Q : Exit → Act → World → Prop} (hgd : o.guard = none) (s x : Operand)
    (ho : o.op = .call { callee := .builtin .append, args := #[s, x], argTypes := #[35, 35] }) (base : Nat) (v : Value) (ps : List Int) (m0 : Nat) (hs : a.eval s = v) (hown : w.ownsRow base 3 1 v m0 (flatI ps))
    (q : Nat) (y : Int) (hx : a.eval x = .slice (some ⟨q, 0, none⟩) 1 1) (hq : w.heap[q]? = some (.cells #[.int .i64 y] 3 (0, 0))) (h0 : m0 ≤ 1000) (hbase : base ≤ w.heap.size) (N : Nat) (hN : m0 + 1 = N)
    (h : ∀ A' c' w', w'.ownsRow base 3 1 (.slice A' N c') N (flatI (ps ++ [y])) → w.grownBy w' v.ownBlock → (∀ g, (Value.slice A' N c').ownBlock = some g → v.ownBlock = some g ∨ w.heap.size ≤ g) → wpListIn F nn Try.prog ops Q rest (a.put o.dst (.slice A' N c')) w') :
    wpListIn F nn Try.prog ops Q (o :: rest) a w := by
  subst hN
  refine wpListIn_plain hgd fun K hK => ?_
  obtain ⟨A', c', w', hr', h2, h3, h4⟩ := run_app_loc o.type base v ps m0 hown q y hq h0 hbase
  unfold Oper.wpIn
  refine ⟨?_, ?_⟩
  · simp [Oper.about, ho, resolve, Target.leads, Sem.run_pure]
  · rw [Oper.semAt_plain F _ _ (by rw [ho]; intro c hc'; cases hc')]
    simp [execOp, ho, resolve, invoke, builtin, hs, hx, hr', Result.andThen]
    exact hK _ _ (h A' c' w' h2 h3 h4)

set_option maxHeartbeats 6400000 in
set_option maxRecDepth 100000 in
theorem peopleUpTo_any (q : G.Qu) (A : Option Addr) (n c : Nat) (F : Option Addr) (m d : Nat) (B : Nat) (O : Option Addr) (co : Nat) (ord : List Nat) (g : Int) (w : World) (hL : LineAt w q A n c F m d O co ord) :
    Calls Try.prog 42 #[.agg #[.int .i64 q.opn, .int .i64 q.lo, .int .i64 q.hi, .int .i64 q.seats, .slice A n c, .slice F m d, .map (some B), .slice O n co], .int .i64 g] w (RowPost (G.upTo q g) w) := by
  have HL := hide hL
  have HGN := hide hL.gl
  have hn40 : n ≤ 40 := by have := hL.v.gl; have := hL.gl; omega
  have HR100 := hide (show (G.rates q).length ≤ 100 by have := G.rates_len hL.v.lh; have := hL.v.l0; have := hL.v.h1; omega)
  clear hL
  refine calls_marks Try.func42 rfl ?_
  simp only [Try.ntmps42, List.size_toArray, List.length_cons, List.length_nil, Nat.reduceAdd, Nat.reduceSub, Array.replicate_succ, Array.replicate_zero, List.push_toArray, List.append_toArray, List.nil_append, List.cons_append]
  obtain ⟨p, hp⟩ : ∃ p, w.heap.size = p := ⟨_, rfl⟩
  obtain ⟨V, hV⟩ : ∃ V, ((w.alloc (.cells #[.int .i64 q.opn, .int .i64 q.lo, .int .i64 q.hi, .int .i64 q.seats, .slice A n c, .slice F m d, .map (some B), .slice O n co] 67)).alloc (.cells #[.int .i64 g] 3)).alloc (.cells #[.slice none 0 0] 35) = V := ⟨_, rfl⟩
  have vs : V.heap.size = p + 1 + 1 + 1 := by rw [← hV, ← hp]; simp
  have vB : Below p w V := by rw [← hV, ← hp]; (repeat' first | exact zbR _ _ | assumption | refine zbD ?_ | refine zbA ?_ ?_ _ | refine zbS ?_ ?_ _ | refine zbT ?_ (by assumption) ?_ | (simp; done) | (simp; omega) | omega)
  have v0 : V.heap[p]? = some (.cells #[.int .i64 q.opn, .int .i64 q.lo, .int .i64 q.hi, .int .i64 q.seats, .slice A n c, .slice F m d, .map (some B), .slice O n co] 67 (0, 0)) := by
    rw [← hV, ← hp]; exact (Below.heap_alloc _ _ _ (by simp; omega)).trans ((Below.heap_alloc _ _ _ (by simp)).trans (World.alloc_heap_new _ _))
  have v1 : V.heap[p + 1]? = some (.cells #[.int .i64 g] 3 (0, 0)) := by
    rw [← hV, ← hp]; exact (Below.heap_alloc _ _ _ (by simp)).trans ((congrArg (fun z => (World.alloc (w.alloc (.cells #[.int .i64 q.opn, .int .i64 q.lo, .int .i64 q.hi, .int .i64 q.seats, .slice A n c, .slice F m d, .map (some B), .slice O n co] 67)) (.cells #[.int .i64 g] 3)).heap[z]?) (World.size_alloc _ _).symm).trans (World.alloc_heap_new _ _))
  have v2 : V.heap[p + 1 + 1]? = some (.cells #[.slice none 0 0] 35 (0, 0)) := by
    rw [← hV, ← hp]; exact (congrArg (fun z => (World.alloc ((w.alloc (.cells #[.int .i64 q.opn, .int .i64 q.lo, .int .i64 q.hi, .int .i64 q.seats, .slice A n c, .slice F m d, .map (some B), .slice O n co] 67)).alloc (.cells #[.int .i64 g] 3)) (.cells #[.slice none 0 0] 35)).heap[z]?) (by simp)).trans (World.alloc_heap_new _ _)
  have VB := hide vB
  have V0 := hide v0
  have V1 := hide v1
  have V2 := hide v2
  have VL := hide (HL.out.below (by rw [hp]; exact vB))
  go_upto_region 1 with fail
  go_upto_region 2 with fail
  (try rw [hV])
  clear hV vB v1 v2
  have cp0 := (blk_cell v0 0).trans rfl; have cp1 := (blk_cell v0 1).trans rfl; have cp2 := (blk_cell v0 2).trans rfl; have cp3 := (blk_cell v0 3).trans rfl; have cp4 := (blk_cell v0 4).trans rfl; have cp5 := (blk_cell v0 5).trans rfl; have cp6 := (blk_cell v0 6).trans rfl; have cp7 := (blk_cell v0 7).trans rfl
  go_wp2_with fail
  clear cp0 cp1 cp2 cp3 cp4 cp5 cp6 cp7 v0
  refine wp_rangeQ (gf := 59) (lb := #[]) rfl (enters_of Try.func59 (by kernel_rfl) rfl)
    (atRates_seq q A n c F m d B O co ord (fun x => x < V.heap.size ∧ x ≠ p + 1 + 1) w V HL.out (by rw [hp]; exact VB.out) (fun k hk => ⟨by omega, by omega⟩)) (Below.refl _ _) (fun x hx => hx.1) (fun _ => rfl) (fun y B => enI_own q _ y B)
    (fun pre X => Keeps (fun x => x < V.heap.size ∧ x ≠ p + 1 + 1) V X ∧ ∃ A1 c1, X.heap[p + 1 + 1]? = some (.cells #[.slice A1 pre.length c1] 35 (0, 0)) ∧ X.ownsRow (V.heap.size + 3) 3 1 (.slice A1 pre.length c1) pre.length (flatI (pre.map (fun r => (G.upL q g r).sum))) ∧ p + 1 + 1 < V.heap.size)
    (fun _ _ _ => False)
    (OwnFrom.and (keeps_own (Nat.le_refl _)) (own_rowK (by omega) _ _ _))
    (fun _ _ _ _ _ hs _ _ => hs)
    ⟨Keeps.refl _ _, none, 0, V2.out, ⟨rfl, .inl ⟨rfl, rfl⟩⟩, by omega⟩ ?a1 ?assign ?body ?done ?stop
  case assign =>
    intro l2 x X K hK
    gi_wp2
    exact hK
  case body =>
    rintro l2 pre x y X0 X ⟨_, A0, c0, h00, h01, _⟩ ⟨hK, A1, c1, h1, hO, _⟩ hcc he hzX hpre
    obtain ⟨Ay, cy⟩ := y
    have z2 := hK.rest.size
    have cg : X.cell? ⟨p + 1, 0, none⟩ = some (.int .i64 g) := (hK.cell ⟨by omega, by omega⟩ (by omega)).trans ((blk_cell V1.out 0).trans rfl)
    have cl : X.cell? ⟨p, 4, none⟩ = some (.slice A n c) := (hK.cell ⟨by omega, by omega⟩ (by omega)).trans ((blk_cell V0.out 4).trans rfl)
    have cq := (blk_cell h1 0).trans rfl
    have fq := blk_frozen h1 0
    have hk100 : pre.length ≤ 100 := by have := hpre.length_le; rw [List.length_append] at this; have := HR100.out; omega
    have HSN := hide (show ((pre ++ [x]).map (fun r => (G.upL q g r).sum)) = pre.map (fun r => (G.upL q g r).sum) ++ [(G.upL q g x).sum] by rw [List.map_append, List.map_singleton])
    have HLN := hide (show (pre ++ [x]).length = pre.length + 1 by simp)
    obtain ⟨xs, hxs⟩ : ∃ xs, pre.map (fun r => (G.upL q g r).sum) = xs := ⟨_, rfl⟩
    obtain ⟨k, hk⟩ : ∃ k, pre.length = k := ⟨_, rfl⟩
    rw [hxs] at HSN hO
    rw [hk] at HLN h1 hO hk100 cq
    have hnp : (Value.slice A1 k c1).ownBlock ≠ some (p + 1) := fun e => by have := (own_cell hO e).1; omega
    have HB := hide (show Below w.heap.size w X from hp ▸ VB.out.trans (hK.below (n := p) (fun y hy => ⟨by omega, by omega⟩) (by omega)))
    have HK := hide hK
    have HO := hide hO
    have H1 := hide h1
    have HZX := hide hzX
    have HE := hide he
    have lpX : p < X.heap.size := by omega
    have lqX : p + 1 < X.heap.size := by omega
    have lrX : p + 1 + 1 < X.heap.size := by omega
    clear hK hO h1 hpre hcc he hxs hk h00 h01 hnp hzX
    gi_wp2
    gi_loopw [7, 15] (fun v i wr => ∃ j : Nat, j ≤ n ∧ i = .int .i64 (j : Int) ∧ v = .int .i64 ((G.upL q g x).take j).sum ∧ wr = X) (fun _ i _ => n - (intOf i).toNat)
    case atStart => exact ⟨0, by omega, rfl, rfl, rfl⟩
    case round =>
      obtain ⟨j, hj, rfl, rfl, rfl⟩ := hrel
      by_cases hlt : j < n
      · obtain ⟨pt, hpt⟩ : ∃ pt, q.gs[j]? = some pt := ⟨_, List.getElem?_eq_getElem (by rw [HGN.out]; exact hlt)⟩
        obtain ⟨b, o, rfl, _, hb, hc⟩ := HE.out.get (show j < q.gs.length by rw [HGN.out]; exact hlt)
        obtain ⟨bg, og, rfl, hbg, _, _, hsz, _⟩ := (HL.out.rg.below HB.out) j pt hpt
        have lbg : bg < wr.heap.size := Nat.lt_of_lt_of_le hbg HB.out.size
        have hsum := sum_take (G.upL_get (m := g) (r := x) hpt)
        obtain ⟨b0, b1⟩ := G.up_take_bd HL.out.v (m := g) (r := x) j
        have hV := G.vParty_iff.1 (HL.out.v.gv _ (List.mem_of_getElem? hpt))
        have hz0 := hV.z0
        have hz1 := hV.z1
        obtain ⟨mm, hmm⟩ : ∃ mm, (G.enter q x).getD j 0 = mm := ⟨_, rfl⟩
        obtain ⟨ss, hss⟩ : ∃ ss, ((G.upL q g x).take j).sum = ss := ⟨_, rfl⟩
        rw [hmm] at hc hsum
        rw [hss] at hsum b0 b1 ⊢
        unfold G.upF at hsum
        dsimp only at hsum
        have HSUM := hide hsum
        have hltI : (j : Int) < (n : Int) := by omega
        clear hV hpt hmm hss hsum
        by_cases hm : mm = -1
        · subst hm
          gi_wp2
          go_roundw
          case rel => exact ⟨j + 1, by omega, by go_num, by rw [HSUM.out]; simp, trivial⟩
          case measure => simp [intOf]; omega
        · by_cases hle : mm ≤ g
          · gi_wp2
            go_roundw
            case rel => exact ⟨j + 1, by omega, by go_num, by rw [HSUM.out, if_pos ⟨hm, hle⟩], trivial⟩
            case measure => simp [intOf]; omega
          · gi_wp2
            go_roundw
            case rel => exact ⟨j + 1, by omega, by go_num, by rw [HSUM.out, if_neg (fun h => hle h.2)]; simp, trivial⟩
            case measure => simp [intOf]; omega
      · have hjn : j = n := by omega
        subst hjn
        have HFS := hide (show ((G.upL q g x).take j).sum = (G.upL q g x).sum by rw [List.take_of_length_le (by rw [G.upL_len, HGN.out]; exact Nat.le_refl _)])
        rw [HFS.out]
        obtain ⟨mm, hmm⟩ : ∃ mm, (G.upL q g x).sum = mm := ⟨_, rfl⟩
        rw [hmm] at HSN ⊢
        have hO6 := HO.out.alloc (.cells #[.int .i64 mm] 3)
        gi_wp2_with (gi_at_builtin; refine wpListIn_app_loc rfl (.tmp 37) (.tmp 39) rfl (V.heap.size + 3) _ xs k rfl hO6 wr.heap.size mm rfl (World.alloc_heap_new _ _) (by omega) (by have := HZX.out; simp; omega) (k + 1) rfl ?_; intro A2 c2 w9 hown2 hgrow hloc; have e9 := (hgrow.block (p + 1 + 1) (by simp; omega) (fun e => by have := (own_cell HO.out e.symm).1; omega)).trans ((Below.heap_alloc _ _ _ lrX).trans H1.out); have cq9 := (blk_cell e9 0).trans rfl; have fq9 := blk_frozen e9 0; have l9 := blk_lt e9; have E9 := hide e9; have HO2 := hide hown2; have HG2 := hide hgrow; clear hown2 hgrow hloc e9)
        have hb9 : ∀ r, (Value.slice A1 k c1).ownBlock = some r → V.heap.size + 3 ≤ r := fun r e => (own_cell HO.out e).1
        have hk9 : Keeps (fun x => (x < V.heap.size ∧ x ≠ p + 1 + 1) ∨ (V.heap.size ≤ x ∧ x < V.heap.size + 3)) wr (w9.setCell ⟨p + 1 + 1, 0, none⟩ (.slice A2 (k + 1) c2)) :=
          ((Keeps.of_grown (World.grownBy_alloc _ _ none) (fun r e => by cases e)).trans (Keeps.of_grown HG2.out (fun r e h => by have := hb9 r e; omega))).trans (Keeps.setAt _ _ _ (fun h => h.elim (fun h => h.2 rfl) (fun h => by have : V.heap.size ≤ p + 1 + 1 := h.1; omega)))
        refine ⟨hk9, HK.out.trans (hk9.less (fun _ h => .inl h)), A2, c2, ?_, ?_, by omega⟩
        · rw [HLN.out]; exact blk_set E9.out 0 _
        · rw [HLN.out, HSN.out]; exact ownsRow_setCell_below HO2.out (show p + 1 + 1 < V.heap.size + 3 by omega) _
  case done =>
    rintro D X hD ⟨hK, A1, c1, h1, hO, _⟩ hdef
    have z2 := hK.rest.size
    have cq := (blk_cell h1 0).trans rfl
    have HO := hide hO
    clear h1 hO
    go_wp2
    refine ⟨by simp, .inl ⟨_, _, rfl, run_takeDeferred hdef, ?_⟩⟩
    have hB5 : Below p w (X.putObj D (Obj.deferred none)) :=
      (VB.out.trans (hK.below (n := p) (fun y hy => ⟨by omega, by omega⟩) (by omega))).grown (grownBy_putObj' _ D _) (by omega) (fun k e => by cases e; omega)
    refine ⟨_, results_tmp rfl _ _ _, ?_⟩
    unfold RowPost
    have el : (G.upTo q g).length = (G.rates q).length := by unfold G.upTo; rw [List.length_map]
    rw [el]
    exact ⟨A1, c1, rfl, owns_mono (ownsRow_putObj HO.out _ hdef rfl) (by omega), hp ▸ hB5⟩
  case stop =>
    rintro D cd pre X _ _ h _
    exact h.elim
end Go.Proofs.Ytlpjkolocgkcpaa

namespace Go.Proofs.Ytlpjkolocgkcpaa
open Go.RowKit Go.Shelf
attribute [local go_sem ↓] Go.wp_at_zero Go.wp_at_succ

namespace G
theorem minL_snoc {xs : List Int} {k : Nat} {y : Int} (hk : 1 ≤ k) (h : xs[k]? = some y) : minL (xs.take (k + 1)) = if y < minL (xs.take k) then y else minL (xs.take k) := by
  rw [List.take_add_one, h]
  match xs, k, hk, h with
  | [], k, _, h => simp at h
  | a :: r, k + 1, _, _ => (simp [minL, List.foldl_append]; try congr)
theorem maxL_snoc {xs : List Int} {k : Nat} {y : Int} (hk : 1 ≤ k) (h : xs[k]? = some y) : maxL (xs.take (k + 1)) = if maxL (xs.take k) < y then y else maxL (xs.take k) := by
  rw [List.take_add_one, h]
  match xs, k, hk, h with
  | [], k, _, h => simp at h
  | a :: r, k + 1, _, _ => (simp [maxL, List.foldl_append]; try congr)
end G

set_option maxHeartbeats 3200000 in
set_option maxRecDepth 100000 in
theorem min_any (A : Option Addr) (n c : Nat) (xs : List Int) (w : World) (hn : xs.length = n) (hr : RdI w w.heap.size A xs) (hm : n ≤ 1000000) (h1 : 1 ≤ n) :
    Calls Try.prog 57 #[.slice A n c] w fun e w' => e = .returned (.int .i64 (G.minL xs)) ∧ w = w' := by
  have HR := hide hr
  have HN := hide hn
  obtain ⟨x0, hx0⟩ : ∃ x, xs[0]? = some x := ⟨_, List.getElem?_eq_getElem (by omega)⟩
  obtain ⟨b, o, rfl, hb, c0'⟩ := hr 0 x0 hx0
  have c0 : w.cell? ⟨b, o, none⟩ = some (.int .i64 x0) := c0'
  clear c0'
  have E1 := hide (show G.minL (xs.take 1) = x0 by
    match xs, hx0 with
    | a :: r, h => simp at h; subst h; rfl)
  clear hr hn hx0
  go_enter Try.func57, Try.ntmps57
  have hn1 : ¬ ((n : Int) < 1) := by omega
  have hn0 : 0 < n := by omega
  go_wp2
  go_loopw [3, 4] (fun v i wr => ∃ k : Nat, 1 ≤ k ∧ k ≤ n ∧ i = .int .i64 (k : Int) ∧ v = .int .i64 (G.minL (xs.take k)) ∧ wr = w) (fun _ i _ => n - (intOf i).toNat)
  case atStart => exact ⟨1, by omega, by omega, rfl, by rw [E1.out], rfl⟩
  case round =>
    obtain ⟨k, hk1, hk, rfl, rfl, rfl⟩ := hrel
    by_cases hlt : k < n
    · obtain ⟨y, hy⟩ : ∃ y, xs[k]? = some y := ⟨_, List.getElem?_eq_getElem (by rw [HN.out]; exact hlt)⟩
      obtain ⟨_, _, e, _, ck⟩ := HR.out k y hy
      obtain ⟨rfl, rfl⟩ : _ = _ ∧ _ = _ := by simpa using e
      have HS := hide (G.minL_snoc hk1 hy)
      obtain ⟨mm, hmm⟩ : ∃ mm, G.minL (xs.take k) = mm := ⟨_, rfl⟩
      rw [hmm] at HS ⊢
      have hltI : (k : Int) < (n : Int) := by omega
      clear hy e hmm
      go_wp2
      go_roundw
      case rel => exact ⟨k + 1, by omega, by omega, by go_num, by first | (rw [HS.out]; done) | (rw [HS.out]; congr 1; split <;> omega), trivial⟩
      case measure => simp [intOf]; omega
    · have hkn : k = n := by omega
      subst hkn
      have EF := hide (show xs.take k = xs by rw [List.take_of_length_le (by rw [HN.out]; exact Nat.le_refl _)])
      rw [EF.out]
      go_wp2
      go_ret
      exact ⟨rfl, rfl⟩

set_option maxHeartbeats 3200000 in
set_option maxRecDepth 100000 in
theorem max_any (A : Option Addr) (n c : Nat) (xs : List Int) (w : World) (hn : xs.length = n) (hr : RdI w w.heap.size A xs) (hm : n ≤ 1000000) (h1 : 1 ≤ n) :
    Calls Try.prog 58 #[.slice A n c] w fun e w' => e = .returned (.int .i64 (G.maxL xs)) ∧ w = w' := by
  have HR := hide hr
  have HN := hide hn
  obtain ⟨x0, hx0⟩ : ∃ x, xs[0]? = some x := ⟨_, List.getElem?_eq_getElem (by omega)⟩
  obtain ⟨b, o, rfl, hb, c0'⟩ := hr 0 x0 hx0
  have c0 : w.cell? ⟨b, o, none⟩ = some (.int .i64 x0) := c0'
  clear c0'
  have E1 := hide (show G.maxL (xs.take 1) = x0 by
    match xs, hx0 with
    | a :: r, h => simp at h; subst h; rfl)
  clear hr hn hx0
  go_enter Try.func58, Try.ntmps58
  have hn1 : ¬ ((n : Int) < 1) := by omega
  have hn0 : 0 < n := by omega
  go_wp2
  go_loopw [3, 4] (fun v i wr => ∃ k : Nat, 1 ≤ k ∧ k ≤ n ∧ i = .int .i64 (k : Int) ∧ v = .int .i64 (G.maxL (xs.take k)) ∧ wr = w) (fun _ i _ => n - (intOf i).toNat)
  case atStart => exact ⟨1, by omega, by omega, rfl, by rw [E1.out], rfl⟩
  case round =>
    obtain ⟨k, hk1, hk, rfl, rfl, rfl⟩ := hrel
    by_cases hlt : k < n
    · obtain ⟨y, hy⟩ : ∃ y, xs[k]? = some y := ⟨_, List.getElem?_eq_getElem (by rw [HN.out]; exact hlt)⟩
      obtain ⟨_, _, e, _, ck⟩ := HR.out k y hy
      obtain ⟨rfl, rfl⟩ : _ = _ ∧ _ = _ := by simpa using e
      have HS := hide (G.maxL_snoc hk1 hy)
      obtain ⟨mm, hmm⟩ : ∃ mm, G.maxL (xs.take k) = mm := ⟨_, rfl⟩
      rw [hmm] at HS ⊢
      have hltI : (k : Int) < (n : Int) := by omega
      clear hy e hmm
      go_wp2
      go_roundw
      case rel => exact ⟨k + 1, by omega, by omega, by go_num, by first | (rw [HS.out]; done) | (rw [HS.out]; congr 1; split <;> omega), trivial⟩
      case measure => simp [intOf]; omega
    · have hkn : k = n := by omega
      subst hkn
      have EF := hide (show xs.take k = xs by rw [List.take_of_length_le (by rw [HN.out]; exact Nat.le_refl _)])
      rw [EF.out]
      go_wp2
      go_ret
      exact ⟨rfl, rfl⟩

set_option maxHeartbeats 3200000 in
set_option maxRecDepth 100000 in
theorem spanOf_any (A : Option Addr) (n c : Nat) (xs : List Int) (w : World) (hn : xs.length = n) (hr : RdI w w.heap.size A xs) (hm : n ≤ 1000000) (h1 : 1 ≤ n) :
    Calls Try.prog 41 #[.slice A n c] w fun e w' => e = .returned (.agg #[.int .i64 (G.minL xs), .int .i64 (G.maxL xs)]) ∧ Below w.heap.size w w' := by
  have HR := hide hr
  have HN := hide hn
  have HM := hide hm
  have H1 := hide h1
  clear hr hn hm h1
  go_enter Try.func41, Try.ntmps41
  have HB := hide (show Below w.heap.size w (w.alloc (.cells #[.int .i64 0, .int .i64 0] 23)) by (repeat' first | exact zbR _ _ | assumption | refine zbD ?_ | refine zbA ?_ ?_ _ | refine zbS ?_ ?_ _ | refine zbT ?_ (by assumption) ?_ | (simp; done) | (simp; omega) | omega))
  go_wp2_with (first | (go_at_call 57; refine (min_any A n c xs _ HN.out ((HR.out.below HB.out).mono HB.out.size) HM.out H1.out).mono ?_; rintro e w2 ⟨rfl, rfl⟩) | (go_at_call 58; refine (max_any A n c xs _ HN.out ((HR.out.below HB.out).mono HB.out.size) HM.out H1.out).mono ?_; rintro e w2 ⟨rfl, rfl⟩))
  exact bodyPost_ret (v := .agg #[.int .i64 (G.minL xs), .int .i64 (G.maxL xs)]) (by simp [results, Try.results41, go_sem]) rfl ⟨rfl, by (repeat' first | exact zbR _ _ | assumption | refine zbD ?_ | refine zbA ?_ ?_ _ | refine zbS ?_ ?_ _ | refine zbT ?_ (by assumption) ?_ | (simp; done) | (simp; omega) | omega)⟩
end Go.Proofs.Ytlpjkolocgkcpaa

namespace Go.Proofs.Ytlpjkolocgkcpaa
open Go.RowKit Go.Shelf
attribute [local go_sem ↓] Go.wp_at_zero Go.wp_at_succ

namespace G
theorem people_bd {q : Qu} (hv : Valid q) (k : Nat) : 0 ≤ ((q.gs.map (·.size)).take k).sum ∧ ((q.gs.map (·.size)).take k).sum ≤ 800 := by
  have h : ∀ (l : List Int), (∀ x ∈ l, 0 ≤ x ∧ x ≤ 20) → 0 ≤ l.sum ∧ l.sum ≤ 20 * l.length := by
    intro l
    induction l with
    | nil => intro _; simp
    | cons a r ih =>
      intro h
      have h1 := h a (List.mem_cons_self ..)
      have h2 := ih (fun x hx => h x (List.mem_cons_of_mem _ hx))
      rw [List.sum_cons, List.length_cons]
      omega
  have h1 := h ((q.gs.map (·.size)).take k) (fun x hx => by
    obtain ⟨p, hp, rfl⟩ := List.mem_map.1 (List.mem_of_mem_take hx)
    have hV := vParty_iff.1 (hv.gv _ hp)
    have := hV.z0
    have := hV.z1
    omega)
  have h2 : ((q.gs.map (·.size)).take k).length ≤ 40 := by
    rw [List.length_take, List.length_map]
    have := hv.gl
    omega
  omega
theorem people_all (q : Qu) {n : Nat} (h : q.gs.length = n) : ((q.gs.map (·.size)).take n).sum = people q.gs := by
  rw [List.take_of_length_le (by rw [List.length_map]; omega)]
  rfl
end G
theorem LineAt.more {w : World} {q : G.Qu} {A : Option Addr} {n c : Nat} {F : Option Addr} {m d : Nat} {O : Option Addr} {co : Nat} {ord : List Nat} (h : LineAt w q A n c F m d O co ord) {k : Nat} (hk : q.seats + (k : Int) ≤ 9999) : LineAt w { q with seats := q.seats + (k : Int) } A n c F m d O co ord :=
  ⟨⟨h.v.o0, h.v.o1, h.v.l0, h.v.lh, h.v.h1, by have := h.v.s0; show 0 ≤ q.seats + (k : Int); omega, hk, h.v.gl, h.v.gv, h.v.gn, h.v.fl, h.v.fv⟩, h.gl, h.fl, h.ol, h.rg, h.rf, h.ro, h.fs, h.os, h.op⟩

set_option maxHeartbeats 6400000 in
set_option maxRecDepth 100000 in
theorem enough_any (q : G.Qu) (A : Option Addr) (n c : Nat) (F : Option Addr) (m d : Nat) (B : Nat) (O : Option Addr) (co : Nat) (ord : List Nat) (g : Nat) (w : World) (hL : LineAt w q A n c F m d O co ord) (hg : g < n) :
    Calls Try.prog 48 #[.agg #[.int .i64 q.opn, .int .i64 q.lo, .int .i64 q.hi, .int .i64 q.seats, .slice A n c, .slice F m d, .map (some B), .slice O n co], .int .i64 (g : Int)] w fun e w' => e = .returned (.tuple #[.int .i64 ((G.enough q g).getD 0), .bool (G.enough q g).isSome]) ∧ Below w.heap.size w w' := by
  have HL := hide hL
  have HGN := hide hL.gl
  have hn40 : n ≤ 40 := by have := hL.v.gl; have := hL.gl; omega
  have hs0 := hL.v.s0
  have hs1 := hL.v.s1
  clear hL
  go_enter Try.func48, Try.ntmps48
  obtain ⟨p, hp⟩ : ∃ p, w.heap.size = p := ⟨_, rfl⟩
  obtain ⟨V, hV⟩ : ∃ V, w.alloc (.cells #[.int .i64 q.opn, .int .i64 q.lo, .int .i64 q.hi, .int .i64 q.seats, .slice A n c, .slice F m d, .map (some B), .slice O n co] 67) = V := ⟨_, rfl⟩
  have V0 := hide (show V.heap[p]? = some (.cells #[.int .i64 q.opn, .int .i64 q.lo, .int .i64 q.hi, .int .i64 q.seats, .slice A n c, .slice F m d, .map (some B), .slice O n co] 67 (0, 0)) by rw [← hV, ← hp]; exact World.alloc_heap_new _ _)
  have VB := hide (show Below w.heap.size w V by rw [← hV]; (repeat' first | exact zbR _ _ | assumption | refine zbD ?_ | refine zbA ?_ ?_ _ | refine zbS ?_ ?_ _ | refine zbT ?_ (by assumption) ?_ | (simp; done) | (simp; omega) | omega))
  go_upto_region 1 with fail
  (try rw [hV])
  clear hV
  have c4 : V.cell? ⟨p, 4, none⟩ = some (.slice A n c) := (blk_cell V0.out 4).trans rfl
  have lp := blk_lt V0.out
  go_wp2
  go_loopw [6, 15] (fun v i wr => ∃ k : Nat, k ≤ n ∧ i = .int .i64 (k : Int) ∧ v = .int .i64 ((q.gs.map (·.size)).take k).sum ∧ Hid (wr.heap[p]? = some (.cells #[.int .i64 q.opn, .int .i64 q.lo, .int .i64 q.hi, .int .i64 q.seats, .slice A n c, .slice F m d, .map (some B), .slice O n co] 67 (0, 0))) ∧ Hid (Below w.heap.size w wr)) (fun _ i _ => n - (intOf i).toNat)
  case atStart => exact ⟨0, by omega, rfl, rfl, V0, VB⟩
  case round =>
    clear c4 lp V0 VB
    obtain ⟨k, hk, rfl, rfl, V0, VB⟩ := hrel
    have lp := blk_lt V0.out
    by_cases hlt : k < n
    · obtain ⟨pt, hpt⟩ : ∃ pt, q.gs[k]? = some pt := ⟨_, List.getElem?_eq_getElem (by rw [HGN.out]; exact hlt)⟩
      obtain ⟨bg, og, rfl, hbg, d0, d1, d2, d3⟩ := (HL.out.rg.below VB.out) k pt hpt
      have lbg : bg < wr.heap.size := Nat.lt_of_lt_of_le hbg VB.out.size
      have hsum := sum_take (show (q.gs.map (·.size))[k]? = some pt.size by rw [List.getElem?_map, hpt]; rfl)
      obtain ⟨b0, b1⟩ := G.people_bd HL.out.v k
      have hV := G.vParty_iff.1 (HL.out.v.gv _ (List.mem_of_getElem? hpt))
      have hz0 := hV.z0
      have hz1 := hV.z1
      obtain ⟨ss, hss⟩ : ∃ ss, ((q.gs.map (·.size)).take k).sum = ss := ⟨_, rfl⟩
      rw [hss] at hsum b0 b1 ⊢
      have HSUM := hide hsum
      have hltI : (k : Int) < (n : Int) := by omega
      clear hV hpt hss hsum
      go_upto_region 5 with fail
      refine cap_w (M := Code.wp _ _ _ _) _ (fun w2 hw2 => ?_)
      have HB2 := hide (show Below wr.heap.size wr w2 by rw [hw2]; exact zbA (zbR _ _) (Nat.le_refl _) _)
      have HT2 := hide (show w2.heap[wr.heap.size]? = some (.cells #[.int .i64 pt.id, .int .i64 pt.at_, .int .i64 pt.size, .int .i64 pt.quits] 42 (0, 0)) by rw [hw2]; exact World.alloc_heap_new _ _)
      clear hw2 d0 d1 d2 d3
      have c2 : w2.cell? ⟨wr.heap.size, 2, none⟩ = some (.int .i64 pt.size) := (blk_cell HT2.out 2).trans rfl
      have l2 := blk_lt HT2.out
      go_wp2
      go_roundw
      case rel => exact ⟨k + 1, by omega, by go_num, by rw [HSUM.out], bkT HB2.out V0, hide (VB.out.trans (HB2.out.mono VB.out.size))⟩
      case measure => simp [intOf]; omega
    · have hkn : k = n := by omega
      subst hkn
      rw [G.people_all q HGN.out]
      have hpb := G.people_bd HL.out.v k
      rw [G.people_all q HGN.out] at hpb
      obtain ⟨P, hP⟩ : ∃ P, G.people q.gs = P := ⟨_, rfl⟩
      rw [hP] at hpb ⊢
      have HP := hide hP
      obtain ⟨b0, b1⟩ := hpb
      have c3 : wr.cell? ⟨p, 3, none⟩ = some (.int .i64 q.seats) := (blk_cell V0.out 3).trans rfl
      have lp := blk_lt V0.out
      clear hP
      obtain ⟨N, hN⟩ : ∃ N : Nat, (max (P - q.seats) 0) + 1 = (N : Int) := ⟨((max (P - q.seats) 0) + 1).toNat, by omega⟩
      have HE0 := hide (show G.enoughF q g N 0 = G.enough q g by
        unfold G.enough
        rw [HP.out, hN]
        rfl)
      have hN8 : q.seats + (N : Int) ≤ 10000 := by omega
      clear lp
      by_cases hps : 0 < P - q.seats
      · have hx1 : max (P - q.seats) 0 = P - q.seats := by omega
        have hx2 : (if P - q.seats < 0 then 0 else P - q.seats) = P - q.seats := if_neg (by omega)
        go_wp2
        have HNv := hide (show P - q.seats + 1 = (N : Int) by omega)
        have HN8 := hide hN8
        clear c3 hN hN8 hx1 hx2
        go_loopw [4, 5, 31] (fun v4 v5 i wr => ∃ j : Nat, j ≤ N ∧ i = .int .i64 (j : Int) ∧ v4 = .int .i64 0 ∧ v5 = .bool false ∧ Hid (G.enoughF q g (N - j) (j : Int) = G.enough q g) ∧ Hid (wr.heap[p]? = some (.cells #[.int .i64 q.opn, .int .i64 q.lo, .int .i64 q.hi, .int .i64 q.seats, .slice A k c, .slice F m d, .map (some B), .slice O k co] 67 (0, 0))) ∧ Hid (Below w.heap.size w wr)) (fun _ _ i _ => N - (intOf i).toNat)
        case atStart => exact ⟨0, by omega, rfl, rfl, rfl, HE0, V0, VB⟩
        case round =>
          clear V0 VB HE0
          obtain ⟨j, hj, rfl, rfl, rfl, HE, V0, VB⟩ := hrel
          have lp := blk_lt V0.out
          by_cases hlt : j < N
          · have hltI : (j : Int) < P - q.seats + 1 := by have := HNv.out; omega
            have h98 : q.seats + (j : Int) ≤ 9999 := by have := HN8.out; omega
            have hv0 := V0.out
            have cp0 := (blk_cell hv0 0).trans rfl; have cp1 := (blk_cell hv0 1).trans rfl; have cp2 := (blk_cell hv0 2).trans rfl; have cp3 := (blk_cell hv0 3).trans rfl; have cp4 := (blk_cell hv0 4).trans rfl; have cp5 := (blk_cell hv0 5).trans rfl; have cp6 := (blk_cell hv0 6).trans rfl; have cp7 := (blk_cell hv0 7).trans rfl
            have HSTEP := hide (show (if G.always { q with seats := q.seats + (j : Int) } g then some (j : Int) else G.enoughF q g (N - (j + 1)) ((j : Int) + 1)) = G.enough q g by
              have h := HE.out
              rw [show N - j = (N - (j + 1)) + 1 by omega] at h
              exact h)
            clear HE hv0
            go_upto_region 11 with fail
            refine cap_w (M := Code.wp _ _ _ _) _ (fun w2 hw2 => ?_)
            have HB2 := hide (show Below wr.heap.size wr w2 by rw [hw2]; exact zbA (zbR _ _) (Nat.le_refl _) _)
            have HT2 := hide (show w2.heap[wr.heap.size]? = some (.cells #[.int .i64 q.opn, .int .i64 q.lo, .int .i64 q.hi, .int .i64 q.seats, .slice A k c, .slice F m d, .map (some B), .slice O k co] 67 (0, 0)) by rw [hw2]; exact World.alloc_heap_new _ _)
            have V2 := bkT HB2.out V0
            have VB2 := hide (VB.out.trans (HB2.out.mono VB.out.size))
            have HQ0 := hide (show w.heap.size ≤ wr.heap.size from VB.out.size)
            have HQP := hide (show p ≠ wr.heap.size by omega)
            obtain ⟨x, hx⟩ : ∃ x, wr.heap.size = x := ⟨_, rfl⟩
            rw [hx] at HT2 HQ0 HQP ⊢
            clear hw2 hx cp0 cp1 cp2 cp3 cp4 cp5 cp6 cp7 lp
            have d3 : w2.cell? ⟨x, 3, none⟩ = some (.int .i64 q.seats) := (blk_cell HT2.out 3).trans rfl
            have f3 := blk_frozen HT2.out 3
            have l3 := blk_lt HT2.out
            go_upto_region 12 with fail
            refine cap_w (M := Code.wp _ _ _ _) _ (fun w3 hw3 => ?_)
            have HT3 := hide (show w3.heap[x]? = some (.cells #[.int .i64 q.opn, .int .i64 q.lo, .int .i64 q.hi, .int .i64 (q.seats + (j : Int)), .slice A k c, .slice F m d, .map (some B), .slice O k co] 67 (0, 0)) by rw [hw3]; exact blk_set HT2.out 3 _)
            have V3 := hide (show w3.heap[p]? = some (.cells #[.int .i64 q.opn, .int .i64 q.lo, .int .i64 q.hi, .int .i64 q.seats, .slice A k c, .slice F m d, .map (some B), .slice O k co] 67 (0, 0)) by rw [hw3]; exact blk_other V2.out HQP.out 3 _)
            have VB3 := hide (show Below w.heap.size w w3 by rw [hw3]; exact zbS VB2.out HQ0.out _)
            clear hw3 d3 f3 l3 HT2 V2 VB2 HB2
            have ht3 := HT3.out
            have cp0 := (blk_cell ht3 0).trans rfl; have cp1 := (blk_cell ht3 1).trans rfl; have cp2 := (blk_cell ht3 2).trans rfl; have cp3 := (blk_cell ht3 3).trans rfl; have cp4 := (blk_cell ht3 4).trans rfl; have cp5 := (blk_cell ht3 5).trans rfl; have cp6 := (blk_cell ht3 6).trans rfl; have cp7 := (blk_cell ht3 7).trans rfl
            have lx := blk_lt ht3
            have HAL := hide (always_any { q with seats := q.seats + (j : Int) } A k c F m d B O co ord g w3 ((HL.out.below VB3.out).more (by omega)) hg)
            obtain ⟨al, hal⟩ : ∃ al, G.always { q with seats := q.seats + (j : Int) } g = al := ⟨_, rfl⟩
            rw [hal] at HSTEP HAL
            clear ht3 hal
            cases al
            · go_wp2_with (go_at_call 61; (refine HAL.out.mono ?_); rintro e w4 ⟨rfl, hb4⟩; have HB4 := hide hb4; clear hb4)
              go_roundw
              case rel => exact ⟨j + 1, by omega, by go_num, rfl, rfl, hide (by have h := HSTEP.out; rw [if_neg (by decide)] at h; exact h), bkT HB4.out V3, hide (VB3.out.trans (HB4.out.mono VB3.out.size))⟩
              case measure => simp [intOf]; omega
            · go_wp2_with (go_at_call 61; (refine HAL.out.mono ?_); rintro e w4 ⟨rfl, hb4⟩; have HB4 := hide hb4; clear hb4)
              go_ret2
              have h : G.enough q g = some (j : Int) := by rw [← HSTEP.out]; rfl
              exact ⟨by first | rfl | (rw [h]; rfl), by first | exact VB3.out.trans (HB4.out.mono VB3.out.size) | exact hp ▸ VB3.out.trans (HB4.out.mono VB3.out.size)⟩
          · have hjn : j = N := by omega
            have h : G.enough q g = none := by
              rw [← HE.out, hjn, Nat.sub_self]
              rfl
            have hge : ¬ ((j : Int) < P - q.seats + 1) := by have := HNv.out; omega
            go_wp2
            go_ret2
            exact ⟨by first | rfl | (rw [h]; rfl), by first | exact VB.out | exact hp ▸ VB.out⟩
      · have hps' : P - q.seats ≤ 0 := by omega
        have hx1 : max (P - q.seats) 0 = 0 := by omega
        have hx2 : (if P - q.seats < 0 then 0 else P - q.seats) = 0 := by split <;> omega
        clear hps
        go_wp2
        have HNv := hide (show 1 = (N : Int) by omega)
        have HN8 := hide hN8
        clear c3 hN hN8 hx1 hx2
        go_loopw [4, 5, 31] (fun v4 v5 i wr => ∃ j : Nat, j ≤ N ∧ i = .int .i64 (j : Int) ∧ v4 = .int .i64 0 ∧ v5 = .bool false ∧ Hid (G.enoughF q g (N - j) (j : Int) = G.enough q g) ∧ Hid (wr.heap[p]? = some (.cells #[.int .i64 q.opn, .int .i64 q.lo, .int .i64 q.hi, .int .i64 q.seats, .slice A k c, .slice F m d, .map (some B), .slice O k co] 67 (0, 0))) ∧ Hid (Below w.heap.size w wr)) (fun _ _ i _ => N - (intOf i).toNat)
        case atStart => exact ⟨0, by omega, rfl, rfl, rfl, HE0, V0, VB⟩
        case round =>
          clear V0 VB HE0
          obtain ⟨j, hj, rfl, rfl, rfl, HE, V0, VB⟩ := hrel
          have lp := blk_lt V0.out
          by_cases hlt : j < N
          · have hltI : (j : Int) < 1 := by have := HNv.out; omega
            have h98 : q.seats + (j : Int) ≤ 9999 := by have := HN8.out; omega
            have hv0 := V0.out
            have cp0 := (blk_cell hv0 0).trans rfl; have cp1 := (blk_cell hv0 1).trans rfl; have cp2 := (blk_cell hv0 2).trans rfl; have cp3 := (blk_cell hv0 3).trans rfl; have cp4 := (blk_cell hv0 4).trans rfl; have cp5 := (blk_cell hv0 5).trans rfl; have cp6 := (blk_cell hv0 6).trans rfl; have cp7 := (blk_cell hv0 7).trans rfl
            have HSTEP := hide (show (if G.always { q with seats := q.seats + (j : Int) } g then some (j : Int) else G.enoughF q g (N - (j + 1)) ((j : Int) + 1)) = G.enough q g by
              have h := HE.out
              rw [show N - j = (N - (j + 1)) + 1 by omega] at h
              exact h)
            clear HE hv0
            go_upto_region 11 with fail
            refine cap_w (M := Code.wp _ _ _ _) _ (fun w2 hw2 => ?_)
            have HB2 := hide (show Below wr.heap.size wr w2 by rw [hw2]; exact zbA (zbR _ _) (Nat.le_refl _) _)
            have HT2 := hide (show w2.heap[wr.heap.size]? = some (.cells #[.int .i64 q.opn, .int .i64 q.lo, .int .i64 q.hi, .int .i64 q.seats, .slice A k c, .slice F m d, .map (some B), .slice O k co] 67 (0, 0)) by rw [hw2]; exact World.alloc_heap_new _ _)
            have V2 := bkT HB2.out V0
            have VB2 := hide (VB.out.trans (HB2.out.mono VB.out.size))
            have HQ0 := hide (show w.heap.size ≤ wr.heap.size from VB.out.size)
            have HQP := hide (show p ≠ wr.heap.size by omega)
            obtain ⟨x, hx⟩ : ∃ x, wr.heap.size = x := ⟨_, rfl⟩
            rw [hx] at HT2 HQ0 HQP ⊢
            clear hw2 hx cp0 cp1 cp2 cp3 cp4 cp5 cp6 cp7 lp
            have d3 : w2.cell? ⟨x, 3, none⟩ = some (.int .i64 q.seats) := (blk_cell HT2.out 3).trans rfl
            have f3 := blk_frozen HT2.out 3
            have l3 := blk_lt HT2.out
            go_upto_region 12 with fail
            refine cap_w (M := Code.wp _ _ _ _) _ (fun w3 hw3 => ?_)
            have HT3 := hide (show w3.heap[x]? = some (.cells #[.int .i64 q.opn, .int .i64 q.lo, .int .i64 q.hi, .int .i64 (q.seats + (j : Int)), .slice A k c, .slice F m d, .map (some B), .slice O k co] 67 (0, 0)) by rw [hw3]; exact blk_set HT2.out 3 _)
            have V3 := hide (show w3.heap[p]? = some (.cells #[.int .i64 q.opn, .int .i64 q.lo, .int .i64 q.hi, .int .i64 q.seats, .slice A k c, .slice F m d, .map (some B), .slice O k co] 67 (0, 0)) by rw [hw3]; exact blk_other V2.out HQP.out 3 _)
            have VB3 := hide (show Below w.heap.size w w3 by rw [hw3]; exact zbS VB2.out HQ0.out _)
            clear hw3 d3 f3 l3 HT2 V2 VB2 HB2
            have ht3 := HT3.out
            have cp0 := (blk_cell ht3 0).trans rfl; have cp1 := (blk_cell ht3 1).trans rfl; have cp2 := (blk_cell ht3 2).trans rfl; have cp3 := (blk_cell ht3 3).trans rfl; have cp4 := (blk_cell ht3 4).trans rfl; have cp5 := (blk_cell ht3 5).trans rfl; have cp6 := (blk_cell ht3 6).trans rfl; have cp7 := (blk_cell ht3 7).trans rfl
            have lx := blk_lt ht3
            have HAL := hide (always_any { q with seats := q.seats + (j : Int) } A k c F m d B O co ord g w3 ((HL.out.below VB3.out).more (by omega)) hg)
            obtain ⟨al, hal⟩ : ∃ al, G.always { q with seats := q.seats + (j : Int) } g = al := ⟨_, rfl⟩
            rw [hal] at HSTEP HAL
            clear ht3 hal
            cases al
            · go_wp2_with (go_at_call 61; (refine HAL.out.mono ?_); rintro e w4 ⟨rfl, hb4⟩; have HB4 := hide hb4; clear hb4)
              go_roundw
              case rel => exact ⟨j + 1, by omega, by go_num, rfl, rfl, hide (by have h := HSTEP.out; rw [if_neg (by decide)] at h; exact h), bkT HB4.out V3, hide (VB3.out.trans (HB4.out.mono VB3.out.size))⟩
              case measure => simp [intOf]; omega
            · go_wp2_with (go_at_call 61; (refine HAL.out.mono ?_); rintro e w4 ⟨rfl, hb4⟩; have HB4 := hide hb4; clear hb4)
              go_ret2
              have h : G.enough q g = some (j : Int) := by rw [← HSTEP.out]; rfl
              exact ⟨by first | rfl | (rw [h]; rfl), by first | exact VB3.out.trans (HB4.out.mono VB3.out.size) | exact hp ▸ VB3.out.trans (HB4.out.mono VB3.out.size)⟩
          · have hjn : j = N := by omega
            have h : G.enough q g = none := by
              rw [← HE.out, hjn, Nat.sub_self]
              rfl
            have hge : ¬ ((j : Int) < 1) := by have := HNv.out; omega
            go_wp2
            go_ret2
            exact ⟨by first | rfl | (rw [h]; rfl), by first | exact VB.out | exact hp ▸ VB.out⟩
end Go.Proofs.Ytlpjkolocgkcpaa

namespace Go.Proofs.Ytlpjkolocgkcpaa
open Go.RowKit
attribute [local go_sem ↓] Go.wp_at_zero Go.wp_at_succ

set_option maxHeartbeats 3200000 in
set_option maxRecDepth 100000 in
theorem People_ref (q : G.Qu) (A : Option Addr) (n c : Nat) (F : Option Addr) (m d : Nat) (w : World) (h : QIn w q A n c F m d) (hv : G.Valid q) :
    Calls Try.prog 32 #[.agg #[.int .i64 q.opn, .int .i64 q.lo, .int .i64 q.hi, .int .i64 q.seats, .slice A n c, .slice F m d]] w fun e w' => e = .returned (.int .i64 (G.people q.gs)) ∧ Below w.heap.size w w' := by
  have HI := hide h
  have HV := hide hv
  have hn40 : n ≤ 40 := by have := hv.gl; have := h.gl; omega
  clear h hv
  go_enter Try.func32, Try.ntmps32
  go_upto_region 1 with fail
  refine cap_w (M := Code.wp _ _ _ _) _ (fun w1 hw1 => ?_)
  have HB1 := hide (show Below w.heap.size w w1 by rw [hw1]; (repeat' first | exact zbR _ _ | assumption | refine zbD ?_ | refine zbA ?_ ?_ _ | refine zbS ?_ ?_ _ | refine zbT ?_ (by assumption) ?_ | (simp; done) | (simp; omega) | omega))
  have HQ := hide (show w1.heap[w.heap.size]? = some (.cells #[.int .i64 q.opn, .int .i64 q.lo, .int .i64 q.hi, .int .i64 q.seats, .slice A n c, .slice F m d] 27 (0, 0)) by rw [hw1]; exact World.alloc_heap_new _ _)
  have HR := hide ((HI.out.below HB1.out).rg)
  clear hw1
  obtain ⟨b0, hb0⟩ : ∃ x, w.heap.size = x := ⟨_, rfl⟩
  have HE0 := hide hb0
  rw [hb0] at HQ ⊢
  clear hb0
  have q4 : w1.cell? ⟨b0, 4, none⟩ = some (.slice A n c) := (blk_cell HQ.out 4).trans rfl
  have lq := blk_lt HQ.out
  go_wp2
  go_loopw [3, 4] (fun v i wr => ∃ k : Nat, k ≤ n ∧ i = .int .i64 (k : Int) ∧ v = .int .i64 ((q.gs.map (·.size)).take k).sum ∧ wr = w1) (fun _ i _ => n - (intOf i).toNat)
  case atStart => exact ⟨0, by omega, rfl, rfl, rfl⟩
  case round =>
    obtain ⟨k, hk, rfl, rfl, rfl⟩ := hrel
    by_cases hlt : k < n
    · obtain ⟨pt, hpt⟩ : ∃ pt, q.gs[k]? = some pt := ⟨_, List.getElem?_eq_getElem (by rw [HI.out.gl]; exact hlt)⟩
      obtain ⟨bg, og, rfl, hbg, _, _, d2, _⟩ := HR.out k pt hpt
      have hsum := sum_take (show (q.gs.map (·.size))[k]? = some pt.size by rw [List.getElem?_map, hpt]; rfl)
      obtain ⟨b0', b1'⟩ := G.people_bd HV.out k
      have hV := G.vParty_iff.1 (HV.out.gv _ (List.mem_of_getElem? hpt))
      have hz0 := hV.z0
      have hz1 := hV.z1
      obtain ⟨ss, hss⟩ : ∃ ss, ((q.gs.map (·.size)).take k).sum = ss := ⟨_, rfl⟩
      rw [hss] at hsum b0' b1' ⊢
      have HSUM := hide hsum
      have hltI : (k : Int) < (n : Int) := by omega
      clear hV hpt hss hsum
      go_wp2
      go_roundw
      case rel => exact ⟨k + 1, by omega, by go_num, by rw [HSUM.out], trivial⟩
      case measure => simp [intOf]; omega
    · have hkn : k = n := by omega
      subst hkn
      rw [G.people_all q HI.out.gl]
      go_wp2
      go_ret
      exact ⟨rfl, HB1.out⟩
end Go.Proofs.Ytlpjkolocgkcpaa

namespace Go.Proofs.Ytlpjkolocgkcpaa
open Go.RowKit
attribute [local go_sem ↓] Go.wp_at_zero Go.wp_at_succ

namespace G
def far (q : Qu) : Bool := valid q && (decide (3 < q.hi - q.lo) || decide (6 < q.gs.length) || decide (24 < people q.gs))
def rdy (q : Qu) (rate : Int) : Bool := !far q && valid q && decide (q.lo ≤ rate) && decide (rate ≤ q.hi)
structure Rdy (q : Qu) (rate : Int) : Prop where
  v : Valid q
  far : q.hi - q.lo ≤ 3
  g6 : q.gs.length ≤ 6
  p24 : people q.gs ≤ 24
  r0 : q.lo ≤ rate
  r1 : rate ≤ q.hi
theorem rdy_get {q : Qu} {rate : Int} (h : rdy q rate = true) : Rdy q rate := by
  unfold rdy G.far at h
  simp only [Bool.and_eq_true, Bool.not_eq_true', decide_eq_true_eq] at h
  obtain ⟨⟨⟨h1, h2⟩, h3⟩, h4⟩ := h
  rw [h2, Bool.true_and] at h1
  simp only [Bool.or_eq_false_iff, decide_eq_false_iff_not, Nat.not_lt, Int.not_lt] at h1
  exact ⟨valid_iff.1 h2, by omega, h1.1.2, h1.2, h3, h4⟩
end G
set_option maxHeartbeats 3200000 in
set_option maxRecDepth 100000 in
theorem far_long (q : G.Qu) (A : Option Addr) (n c : Nat) (F : Option Addr) (m d : Nat) (w : World) (h : 100 < n ∨ 100 < m) :
    Calls Try.prog 12 #[.agg #[.int .i64 q.opn, .int .i64 q.lo, .int .i64 q.hi, .int .i64 q.seats, .slice A n c, .slice F m d]] w fun e w' => e = .returned (.bool true) ∧ Below w.heap.size w w' := by
  by_cases h1 : 100 < n
  · have h1' : (100 : Int) < (n : Int) := by omega
    clear h h1
    go_enter Try.func12, Try.ntmps12
    go_wp2_with fail
    go_ret
    exact ⟨rfl, by (repeat' first | exact zbR _ _ | assumption | refine zbD ?_ | refine zbA ?_ ?_ _ | refine zbS ?_ ?_ _ | refine zbT ?_ (by assumption) ?_ | (simp; done) | (simp; omega) | omega)⟩
  · have h1' : (n : Int) ≤ 100 := by omega
    have h2' : (100 : Int) < (m : Int) := by omega
    clear h h1
    go_enter Try.func12, Try.ntmps12
    go_wp2_with fail
    go_ret
    exact ⟨rfl, by (repeat' first | exact zbR _ _ | assumption | refine zbD ?_ | refine zbA ?_ ?_ _ | refine zbS ?_ ?_ _ | refine zbT ?_ (by assumption) ?_ | (simp; done) | (simp; omega) | omega)⟩
set_option maxHeartbeats 3200000 in
set_option maxRecDepth 100000 in
theorem Far_any (q : G.Qu) (A : Option Addr) (n c : Nat) (F : Option Addr) (m d : Nat) (w : World) (h : QIn w q A n c F m d) (hn : n ≤ 100) (hm : m ≤ 100) :
    Calls Try.prog 12 #[.agg #[.int .i64 q.opn, .int .i64 q.lo, .int .i64 q.hi, .int .i64 q.seats, .slice A n c, .slice F m d]] w fun e w' => e = .returned (.bool (G.far q)) ∧ Below w.heap.size w w' := by
  have HI := hide h
  have hn' : (n : Int) ≤ 100 := by omega
  have hm' : (m : Int) ≤ 100 := by omega
  clear h
  cases hv : G.valid q
  · have HV := hide hv
    have HE := hide (show G.checkE q = 110 by unfold G.checkE; rw [hv]; rfl)
    have HR := hide (show G.far q = false by unfold G.far; rw [hv]; rfl)
    clear hv
    go_enter Try.func12, Try.ntmps12
    go_wp2_with (go_at_call 16; (with_reducible refine (Check_ref q A n c F m d _ (HI.out.below (show Below w.heap.size w _ by (repeat' first | exact zbR _ _ | assumption | refine zbD ?_ | refine zbA ?_ ?_ _ | refine zbS ?_ ?_ _ | refine zbT ?_ (by assumption) ?_ | (simp; done) | (simp; omega) | omega)))).mono ?_); rintro e w2 ⟨rfl, hb2⟩; rw [HE.out]; have HB2 := hide (zbT (show Below w.heap.size w _ by (repeat' first | exact zbR _ _ | assumption | refine zbD ?_ | refine zbA ?_ ?_ _ | refine zbS ?_ ?_ _ | refine zbT ?_ (by assumption) ?_ | (simp; done) | (simp; omega) | omega)) hb2 (by simp)); have HQ2 := hide ((hb2.block _ (by simp)).trans (World.alloc_heap_new w (.cells #[.int .i64 q.opn, .int .i64 q.lo, .int .i64 q.hi, .int .i64 q.seats, .slice A n c, .slice F m d] 27 (0, 0)))); clear hb2)
    go_ret
    exact ⟨by rw [HR.out]; first | rfl | (simp; omega), HB2.out⟩
  · have HV := hide hv
    have HE := hide (show G.checkE q = 0 by unfold G.checkE; rw [hv]; rfl)
    have hV := G.valid_iff.1 hv
    have hw : IntKind.i64.wrap (q.hi - q.lo) = q.hi - q.lo := IntWalk.i64_in _ (by have := hV.l0; have := hV.lh; have := hV.h1; omega)
    have HGL := hide HI.out.gl
    clear hv hV
    by_cases h3 : 3 < q.hi - q.lo
    · have HR := hide (show G.far q = true by unfold G.far; rw [HV.out]; simp [h3])
      go_enter Try.func12, Try.ntmps12
      go_upto_region 3 with fail
      go_wp2_with (go_at_call 16; (with_reducible refine (Check_ref q A n c F m d _ (HI.out.below (show Below w.heap.size w _ by (repeat' first | exact zbR _ _ | assumption | refine zbD ?_ | refine zbA ?_ ?_ _ | refine zbS ?_ ?_ _ | refine zbT ?_ (by assumption) ?_ | (simp; done) | (simp; omega) | omega)))).mono ?_); rintro e w2 ⟨rfl, hb2⟩; rw [HE.out]; have HB2 := hide (zbT (show Below w.heap.size w _ by (repeat' first | exact zbR _ _ | assumption | refine zbD ?_ | refine zbA ?_ ?_ _ | refine zbS ?_ ?_ _ | refine zbT ?_ (by assumption) ?_ | (simp; done) | (simp; omega) | omega)) hb2 (by simp)); have HQ2 := hide ((hb2.block _ (by simp)).trans (World.alloc_heap_new w (.cells #[.int .i64 q.opn, .int .i64 q.lo, .int .i64 q.hi, .int .i64 q.seats, .slice A n c, .slice F m d] 27 (0, 0)))); clear hb2; have q0 : w2.cell? ⟨w.heap.size, 0, none⟩ = some (.int .i64 q.opn) := (blk_cell HQ2.out 0).trans rfl; have q1 : w2.cell? ⟨w.heap.size, 1, none⟩ = some (.int .i64 q.lo) := (blk_cell HQ2.out 1).trans rfl; have q2 : w2.cell? ⟨w.heap.size, 2, none⟩ = some (.int .i64 q.hi) := (blk_cell HQ2.out 2).trans rfl; have q3 : w2.cell? ⟨w.heap.size, 3, none⟩ = some (.int .i64 q.seats) := (blk_cell HQ2.out 3).trans rfl; have q4 : w2.cell? ⟨w.heap.size, 4, none⟩ = some (.slice A n c) := (blk_cell HQ2.out 4).trans rfl; have q5 : w2.cell? ⟨w.heap.size, 5, none⟩ = some (.slice F m d) := (blk_cell HQ2.out 5).trans rfl; have lq := blk_lt HQ2.out)
      go_ret
      exact ⟨by rw [HR.out]; first | rfl | (simp; omega), HB2.out⟩
    · have h3' : q.hi - q.lo ≤ 3 := by omega
      by_cases h6 : 6 < n
      · have HR := hide (show G.far q = true by unfold G.far; rw [HV.out, HGL.out]; simp [h6])
        have h6' : (6 : Int) < (n : Int) := by omega
        clear h3
        go_enter Try.func12, Try.ntmps12
        go_upto_region 3 with fail
        go_wp2_with (go_at_call 16; (with_reducible refine (Check_ref q A n c F m d _ (HI.out.below (show Below w.heap.size w _ by (repeat' first | exact zbR _ _ | assumption | refine zbD ?_ | refine zbA ?_ ?_ _ | refine zbS ?_ ?_ _ | refine zbT ?_ (by assumption) ?_ | (simp; done) | (simp; omega) | omega)))).mono ?_); rintro e w2 ⟨rfl, hb2⟩; rw [HE.out]; have HB2 := hide (zbT (show Below w.heap.size w _ by (repeat' first | exact zbR _ _ | assumption | refine zbD ?_ | refine zbA ?_ ?_ _ | refine zbS ?_ ?_ _ | refine zbT ?_ (by assumption) ?_ | (simp; done) | (simp; omega) | omega)) hb2 (by simp)); have HQ2 := hide ((hb2.block _ (by simp)).trans (World.alloc_heap_new w (.cells #[.int .i64 q.opn, .int .i64 q.lo, .int .i64 q.hi, .int .i64 q.seats, .slice A n c, .slice F m d] 27 (0, 0)))); clear hb2; have q0 : w2.cell? ⟨w.heap.size, 0, none⟩ = some (.int .i64 q.opn) := (blk_cell HQ2.out 0).trans rfl; have q1 : w2.cell? ⟨w.heap.size, 1, none⟩ = some (.int .i64 q.lo) := (blk_cell HQ2.out 1).trans rfl; have q2 : w2.cell? ⟨w.heap.size, 2, none⟩ = some (.int .i64 q.hi) := (blk_cell HQ2.out 2).trans rfl; have q3 : w2.cell? ⟨w.heap.size, 3, none⟩ = some (.int .i64 q.seats) := (blk_cell HQ2.out 3).trans rfl; have q4 : w2.cell? ⟨w.heap.size, 4, none⟩ = some (.slice A n c) := (blk_cell HQ2.out 4).trans rfl; have q5 : w2.cell? ⟨w.heap.size, 5, none⟩ = some (.slice F m d) := (blk_cell HQ2.out 5).trans rfl; have lq := blk_lt HQ2.out)
        go_ret
        exact ⟨by rw [HR.out]; first | rfl | (simp; omega), HB2.out⟩
      · have h6' : (n : Int) ≤ 6 := by omega
        by_cases h24 : 24 < G.people q.gs
        · have HR := hide (show G.far q = true by unfold G.far; rw [HV.out]; simp [h24])
          clear h3 h6
          go_enter Try.func12, Try.ntmps12
          go_upto_region 3 with fail
          go_wp2_with (first | (go_at_call 16; (with_reducible refine (Check_ref q A n c F m d _ (HI.out.below (show Below w.heap.size w _ by (repeat' first | exact zbR _ _ | assumption | refine zbD ?_ | refine zbA ?_ ?_ _ | refine zbS ?_ ?_ _ | refine zbT ?_ (by assumption) ?_ | (simp; done) | (simp; omega) | omega)))).mono ?_); rintro e w2 ⟨rfl, hb2⟩; rw [HE.out]; have HB2 := hide (zbT (show Below w.heap.size w _ by (repeat' first | exact zbR _ _ | assumption | refine zbD ?_ | refine zbA ?_ ?_ _ | refine zbS ?_ ?_ _ | refine zbT ?_ (by assumption) ?_ | (simp; done) | (simp; omega) | omega)) hb2 (by simp)); have HQ2 := hide ((hb2.block _ (by simp)).trans (World.alloc_heap_new w (.cells #[.int .i64 q.opn, .int .i64 q.lo, .int .i64 q.hi, .int .i64 q.seats, .slice A n c, .slice F m d] 27 (0, 0)))); clear hb2; have q0 : w2.cell? ⟨w.heap.size, 0, none⟩ = some (.int .i64 q.opn) := (blk_cell HQ2.out 0).trans rfl; have q1 : w2.cell? ⟨w.heap.size, 1, none⟩ = some (.int .i64 q.lo) := (blk_cell HQ2.out 1).trans rfl; have q2 : w2.cell? ⟨w.heap.size, 2, none⟩ = some (.int .i64 q.hi) := (blk_cell HQ2.out 2).trans rfl; have q3 : w2.cell? ⟨w.heap.size, 3, none⟩ = some (.int .i64 q.seats) := (blk_cell HQ2.out 3).trans rfl; have q4 : w2.cell? ⟨w.heap.size, 4, none⟩ = some (.slice A n c) := (blk_cell HQ2.out 4).trans rfl; have q5 : w2.cell? ⟨w.heap.size, 5, none⟩ = some (.slice F m d) := (blk_cell HQ2.out 5).trans rfl; have lq := blk_lt HQ2.out) | (go_at_call 32; (with_reducible refine (People_ref q A n c F m d _ (HI.out.below HB2.out) (G.valid_iff.1 HV.out)).mono ?_); rintro e w3 ⟨rfl, hb3⟩; have HB3 := hide (zbT HB2.out hb3 HB2.out.size); clear hb3))
          go_ret
          exact ⟨by rw [HR.out]; first | rfl | (simp; omega), HB3.out⟩
        · have HR := hide (show G.far q = false by unfold G.far; rw [HV.out, HGL.out]; simp [h3, h6, h24])
          have h24' : G.people q.gs ≤ 24 := by omega
          clear h3 h6 h24
          go_enter Try.func12, Try.ntmps12
          go_upto_region 3 with fail
          go_wp2_with (first | (go_at_call 16; (with_reducible refine (Check_ref q A n c F m d _ (HI.out.below (show Below w.heap.size w _ by (repeat' first | exact zbR _ _ | assumption | refine zbD ?_ | refine zbA ?_ ?_ _ | refine zbS ?_ ?_ _ | refine zbT ?_ (by assumption) ?_ | (simp; done) | (simp; omega) | omega)))).mono ?_); rintro e w2 ⟨rfl, hb2⟩; rw [HE.out]; have HB2 := hide (zbT (show Below w.heap.size w _ by (repeat' first | exact zbR _ _ | assumption | refine zbD ?_ | refine zbA ?_ ?_ _ | refine zbS ?_ ?_ _ | refine zbT ?_ (by assumption) ?_ | (simp; done) | (simp; omega) | omega)) hb2 (by simp)); have HQ2 := hide ((hb2.block _ (by simp)).trans (World.alloc_heap_new w (.cells #[.int .i64 q.opn, .int .i64 q.lo, .int .i64 q.hi, .int .i64 q.seats, .slice A n c, .slice F m d] 27 (0, 0)))); clear hb2; have q0 : w2.cell? ⟨w.heap.size, 0, none⟩ = some (.int .i64 q.opn) := (blk_cell HQ2.out 0).trans rfl; have q1 : w2.cell? ⟨w.heap.size, 1, none⟩ = some (.int .i64 q.lo) := (blk_cell HQ2.out 1).trans rfl; have q2 : w2.cell? ⟨w.heap.size, 2, none⟩ = some (.int .i64 q.hi) := (blk_cell HQ2.out 2).trans rfl; have q3 : w2.cell? ⟨w.heap.size, 3, none⟩ = some (.int .i64 q.seats) := (blk_cell HQ2.out 3).trans rfl; have q4 : w2.cell? ⟨w.heap.size, 4, none⟩ = some (.slice A n c) := (blk_cell HQ2.out 4).trans rfl; have q5 : w2.cell? ⟨w.heap.size, 5, none⟩ = some (.slice F m d) := (blk_cell HQ2.out 5).trans rfl; have lq := blk_lt HQ2.out) | (go_at_call 32; (with_reducible refine (People_ref q A n c F m d _ (HI.out.below HB2.out) (G.valid_iff.1 HV.out)).mono ?_); rintro e w3 ⟨rfl, hb3⟩; have HB3 := hide (zbT HB2.out hb3 HB2.out.size); clear hb3))
          go_ret
          exact ⟨by rw [HR.out]; first | rfl | (simp; omega), HB3.out⟩
set_option maxHeartbeats 3200000 in
set_option maxRecDepth 100000 in
theorem ready_long (q : G.Qu) (A : Option Addr) (n c : Nat) (F : Option Addr) (m d : Nat) (rate : Int) (w : World) (h : 100 < n ∨ 100 < m) :
    Calls Try.prog 30 #[.agg #[.int .i64 q.opn, .int .i64 q.lo, .int .i64 q.hi, .int .i64 q.seats, .slice A n c, .slice F m d], .int .i64 rate] w fun e w' => e = .returned (.bool false) ∧ Below w.heap.size w w' := by
  have HH := hide h
  clear h
  go_enter Try.func30, Try.ntmps30
  go_wp2_with (go_at_call 12; (with_reducible refine (far_long q A n c F m d _ HH.out).mono ?_); rintro e w2 ⟨rfl, hb2⟩; have HB2 := hide (zbT (show Below w.heap.size w _ by (repeat' first | exact zbR _ _ | assumption | refine zbD ?_ | refine zbA ?_ ?_ _ | refine zbS ?_ ?_ _ | refine zbT ?_ (by assumption) ?_ | (simp; done) | (simp; omega) | omega)) hb2 (by simp)); clear hb2)
  go_ret
  exact ⟨rfl, HB2.out⟩
set_option maxHeartbeats 3200000 in
set_option maxRecDepth 100000 in
theorem ready_any (q : G.Qu) (A : Option Addr) (n c : Nat) (F : Option Addr) (m d : Nat) (rate : Int) (w : World) (h : QIn w q A n c F m d) (hn : n ≤ 100) (hm : m ≤ 100) :
    Calls Try.prog 30 #[.agg #[.int .i64 q.opn, .int .i64 q.lo, .int .i64 q.hi, .int .i64 q.seats, .slice A n c, .slice F m d], .int .i64 rate] w fun e w' => e = .returned (.bool (G.rdy q rate)) ∧ Below w.heap.size w w' := by
  have HI := hide h
  clear h
  cases hf : G.far q
  · have HF := hide hf
    cases hv : G.valid q
    · have HE := hide (show G.checkE q = 110 by unfold G.checkE; rw [hv]; rfl)
      have HR := hide (show G.rdy q rate = false by unfold G.rdy; rw [hv]; simp)
      clear hf hv
      go_enter Try.func30, Try.ntmps30
      go_wp2_with (first | (go_at_call 12; (with_reducible refine (Far_any q A n c F m d _ (HI.out.below (show Below w.heap.size w _ by (repeat' first | exact zbR _ _ | assumption | refine zbD ?_ | refine zbA ?_ ?_ _ | refine zbS ?_ ?_ _ | refine zbT ?_ (by assumption) ?_ | (simp; done) | (simp; omega) | omega))) hn hm).mono ?_); rintro e w2 ⟨rfl, hb2⟩; rw [HF.out]; have HB2 := hide (zbT (show Below w.heap.size w _ by (repeat' first | exact zbR _ _ | assumption | refine zbD ?_ | refine zbA ?_ ?_ _ | refine zbS ?_ ?_ _ | refine zbT ?_ (by assumption) ?_ | (simp; done) | (simp; omega) | omega)) hb2 (by simp)); have HQ2 := hide ((hb2.block _ (by simp)).trans (World.alloc_heap_new w (.cells #[.int .i64 q.opn, .int .i64 q.lo, .int .i64 q.hi, .int .i64 q.seats, .slice A n c, .slice F m d] 27 (0, 0)))); clear hb2; have q0 : w2.cell? ⟨w.heap.size, 0, none⟩ = some (.int .i64 q.opn) := (blk_cell HQ2.out 0).trans rfl; have q1 : w2.cell? ⟨w.heap.size, 1, none⟩ = some (.int .i64 q.lo) := (blk_cell HQ2.out 1).trans rfl; have q2 : w2.cell? ⟨w.heap.size, 2, none⟩ = some (.int .i64 q.hi) := (blk_cell HQ2.out 2).trans rfl; have q3 : w2.cell? ⟨w.heap.size, 3, none⟩ = some (.int .i64 q.seats) := (blk_cell HQ2.out 3).trans rfl; have q4 : w2.cell? ⟨w.heap.size, 4, none⟩ = some (.slice A n c) := (blk_cell HQ2.out 4).trans rfl; have q5 : w2.cell? ⟨w.heap.size, 5, none⟩ = some (.slice F m d) := (blk_cell HQ2.out 5).trans rfl; have lq := blk_lt HQ2.out) | (go_at_call 16; (with_reducible refine (Check_ref q A n c F m d _ (HI.out.below HB2.out)).mono ?_); rintro e w4 ⟨rfl, hb4⟩; rw [HE.out]; have HB4 := hide (zbT HB2.out hb4 HB2.out.size); have HQ4 := bkT hb4 HQ2; clear hb4 q0 q1 q2 q3 q4 q5 lq; have q0 : w4.cell? ⟨w.heap.size, 0, none⟩ = some (.int .i64 q.opn) := (blk_cell HQ4.out 0).trans rfl; have q1 : w4.cell? ⟨w.heap.size, 1, none⟩ = some (.int .i64 q.lo) := (blk_cell HQ4.out 1).trans rfl; have q2 : w4.cell? ⟨w.heap.size, 2, none⟩ = some (.int .i64 q.hi) := (blk_cell HQ4.out 2).trans rfl; have q3 : w4.cell? ⟨w.heap.size, 3, none⟩ = some (.int .i64 q.seats) := (blk_cell HQ4.out 3).trans rfl; have q4 : w4.cell? ⟨w.heap.size, 4, none⟩ = some (.slice A n c) := (blk_cell HQ4.out 4).trans rfl; have q5 : w4.cell? ⟨w.heap.size, 5, none⟩ = some (.slice F m d) := (blk_cell HQ4.out 5).trans rfl; have lq := blk_lt HQ4.out))
      go_ret
      exact ⟨by rw [HR.out]; first | rfl | (simp; omega), HB4.out⟩
    · have HE := hide (show G.checkE q = 0 by unfold G.checkE; rw [hv]; rfl)
      have HV := hide hv
      clear hv
      by_cases h1 : q.lo ≤ rate
      · by_cases h2 : rate ≤ q.hi
        · have HR := hide (show G.rdy q rate = true by unfold G.rdy; rw [hf, HV.out]; simp [h1, h2])
          clear hf
          go_enter Try.func30, Try.ntmps30
          go_wp2_with (first | (go_at_call 12; (with_reducible refine (Far_any q A n c F m d _ (HI.out.below (show Below w.heap.size w _ by (repeat' first | exact zbR _ _ | assumption | refine zbD ?_ | refine zbA ?_ ?_ _ | refine zbS ?_ ?_ _ | refine zbT ?_ (by assumption) ?_ | (simp; done) | (simp; omega) | omega))) hn hm).mono ?_); rintro e w2 ⟨rfl, hb2⟩; rw [HF.out]; have HB2 := hide (zbT (show Below w.heap.size w _ by (repeat' first | exact zbR _ _ | assumption | refine zbD ?_ | refine zbA ?_ ?_ _ | refine zbS ?_ ?_ _ | refine zbT ?_ (by assumption) ?_ | (simp; done) | (simp; omega) | omega)) hb2 (by simp)); have HQ2 := hide ((hb2.block _ (by simp)).trans (World.alloc_heap_new w (.cells #[.int .i64 q.opn, .int .i64 q.lo, .int .i64 q.hi, .int .i64 q.seats, .slice A n c, .slice F m d] 27 (0, 0)))); clear hb2; have q0 : w2.cell? ⟨w.heap.size, 0, none⟩ = some (.int .i64 q.opn) := (blk_cell HQ2.out 0).trans rfl; have q1 : w2.cell? ⟨w.heap.size, 1, none⟩ = some (.int .i64 q.lo) := (blk_cell HQ2.out 1).trans rfl; have q2 : w2.cell? ⟨w.heap.size, 2, none⟩ = some (.int .i64 q.hi) := (blk_cell HQ2.out 2).trans rfl; have q3 : w2.cell? ⟨w.heap.size, 3, none⟩ = some (.int .i64 q.seats) := (blk_cell HQ2.out 3).trans rfl; have q4 : w2.cell? ⟨w.heap.size, 4, none⟩ = some (.slice A n c) := (blk_cell HQ2.out 4).trans rfl; have q5 : w2.cell? ⟨w.heap.size, 5, none⟩ = some (.slice F m d) := (blk_cell HQ2.out 5).trans rfl; have lq := blk_lt HQ2.out) | (go_at_call 16; (with_reducible refine (Check_ref q A n c F m d _ (HI.out.below HB2.out)).mono ?_); rintro e w4 ⟨rfl, hb4⟩; rw [HE.out]; have HB4 := hide (zbT HB2.out hb4 HB2.out.size); have HQ4 := bkT hb4 HQ2; clear hb4 q0 q1 q2 q3 q4 q5 lq; have q0 : w4.cell? ⟨w.heap.size, 0, none⟩ = some (.int .i64 q.opn) := (blk_cell HQ4.out 0).trans rfl; have q1 : w4.cell? ⟨w.heap.size, 1, none⟩ = some (.int .i64 q.lo) := (blk_cell HQ4.out 1).trans rfl; have q2 : w4.cell? ⟨w.heap.size, 2, none⟩ = some (.int .i64 q.hi) := (blk_cell HQ4.out 2).trans rfl; have q3 : w4.cell? ⟨w.heap.size, 3, none⟩ = some (.int .i64 q.seats) := (blk_cell HQ4.out 3).trans rfl; have q4 : w4.cell? ⟨w.heap.size, 4, none⟩ = some (.slice A n c) := (blk_cell HQ4.out 4).trans rfl; have q5 : w4.cell? ⟨w.heap.size, 5, none⟩ = some (.slice F m d) := (blk_cell HQ4.out 5).trans rfl; have lq := blk_lt HQ4.out))
          go_ret
          exact ⟨by rw [HR.out]; first | rfl | (simp; omega), HB4.out⟩
        · have HR := hide (show G.rdy q rate = false by unfold G.rdy; rw [hf, HV.out]; simp [h2])
          have h2' : q.hi < rate := by omega
          clear hf h2
          go_enter Try.func30, Try.ntmps30
          go_wp2_with (first | (go_at_call 12; (with_reducible refine (Far_any q A n c F m d _ (HI.out.below (show Below w.heap.size w _ by (repeat' first | exact zbR _ _ | assumption | refine zbD ?_ | refine zbA ?_ ?_ _ | refine zbS ?_ ?_ _ | refine zbT ?_ (by assumption) ?_ | (simp; done) | (simp; omega) | omega))) hn hm).mono ?_); rintro e w2 ⟨rfl, hb2⟩; rw [HF.out]; have HB2 := hide (zbT (show Below w.heap.size w _ by (repeat' first | exact zbR _ _ | assumption | refine zbD ?_ | refine zbA ?_ ?_ _ | refine zbS ?_ ?_ _ | refine zbT ?_ (by assumption) ?_ | (simp; done) | (simp; omega) | omega)) hb2 (by simp)); have HQ2 := hide ((hb2.block _ (by simp)).trans (World.alloc_heap_new w (.cells #[.int .i64 q.opn, .int .i64 q.lo, .int .i64 q.hi, .int .i64 q.seats, .slice A n c, .slice F m d] 27 (0, 0)))); clear hb2; have q0 : w2.cell? ⟨w.heap.size, 0, none⟩ = some (.int .i64 q.opn) := (blk_cell HQ2.out 0).trans rfl; have q1 : w2.cell? ⟨w.heap.size, 1, none⟩ = some (.int .i64 q.lo) := (blk_cell HQ2.out 1).trans rfl; have q2 : w2.cell? ⟨w.heap.size, 2, none⟩ = some (.int .i64 q.hi) := (blk_cell HQ2.out 2).trans rfl; have q3 : w2.cell? ⟨w.heap.size, 3, none⟩ = some (.int .i64 q.seats) := (blk_cell HQ2.out 3).trans rfl; have q4 : w2.cell? ⟨w.heap.size, 4, none⟩ = some (.slice A n c) := (blk_cell HQ2.out 4).trans rfl; have q5 : w2.cell? ⟨w.heap.size, 5, none⟩ = some (.slice F m d) := (blk_cell HQ2.out 5).trans rfl; have lq := blk_lt HQ2.out) | (go_at_call 16; (with_reducible refine (Check_ref q A n c F m d _ (HI.out.below HB2.out)).mono ?_); rintro e w4 ⟨rfl, hb4⟩; rw [HE.out]; have HB4 := hide (zbT HB2.out hb4 HB2.out.size); have HQ4 := bkT hb4 HQ2; clear hb4 q0 q1 q2 q3 q4 q5 lq; have q0 : w4.cell? ⟨w.heap.size, 0, none⟩ = some (.int .i64 q.opn) := (blk_cell HQ4.out 0).trans rfl; have q1 : w4.cell? ⟨w.heap.size, 1, none⟩ = some (.int .i64 q.lo) := (blk_cell HQ4.out 1).trans rfl; have q2 : w4.cell? ⟨w.heap.size, 2, none⟩ = some (.int .i64 q.hi) := (blk_cell HQ4.out 2).trans rfl; have q3 : w4.cell? ⟨w.heap.size, 3, none⟩ = some (.int .i64 q.seats) := (blk_cell HQ4.out 3).trans rfl; have q4 : w4.cell? ⟨w.heap.size, 4, none⟩ = some (.slice A n c) := (blk_cell HQ4.out 4).trans rfl; have q5 : w4.cell? ⟨w.heap.size, 5, none⟩ = some (.slice F m d) := (blk_cell HQ4.out 5).trans rfl; have lq := blk_lt HQ4.out))
          go_ret
          exact ⟨by rw [HR.out]; first | rfl | (simp; omega), HB4.out⟩
      · have HR := hide (show G.rdy q rate = false by unfold G.rdy; rw [hf, HV.out]; simp [h1])
        have h1' : rate < q.lo := by omega
        clear hf h1
        go_enter Try.func30, Try.ntmps30
        go_wp2_with (first | (go_at_call 12; (with_reducible refine (Far_any q A n c F m d _ (HI.out.below (show Below w.heap.size w _ by (repeat' first | exact zbR _ _ | assumption | refine zbD ?_ | refine zbA ?_ ?_ _ | refine zbS ?_ ?_ _ | refine zbT ?_ (by assumption) ?_ | (simp; done) | (simp; omega) | omega))) hn hm).mono ?_); rintro e w2 ⟨rfl, hb2⟩; rw [HF.out]; have HB2 := hide (zbT (show Below w.heap.size w _ by (repeat' first | exact zbR _ _ | assumption | refine zbD ?_ | refine zbA ?_ ?_ _ | refine zbS ?_ ?_ _ | refine zbT ?_ (by assumption) ?_ | (simp; done) | (simp; omega) | omega)) hb2 (by simp)); have HQ2 := hide ((hb2.block _ (by simp)).trans (World.alloc_heap_new w (.cells #[.int .i64 q.opn, .int .i64 q.lo, .int .i64 q.hi, .int .i64 q.seats, .slice A n c, .slice F m d] 27 (0, 0)))); clear hb2; have q0 : w2.cell? ⟨w.heap.size, 0, none⟩ = some (.int .i64 q.opn) := (blk_cell HQ2.out 0).trans rfl; have q1 : w2.cell? ⟨w.heap.size, 1, none⟩ = some (.int .i64 q.lo) := (blk_cell HQ2.out 1).trans rfl; have q2 : w2.cell? ⟨w.heap.size, 2, none⟩ = some (.int .i64 q.hi) := (blk_cell HQ2.out 2).trans rfl; have q3 : w2.cell? ⟨w.heap.size, 3, none⟩ = some (.int .i64 q.seats) := (blk_cell HQ2.out 3).trans rfl; have q4 : w2.cell? ⟨w.heap.size, 4, none⟩ = some (.slice A n c) := (blk_cell HQ2.out 4).trans rfl; have q5 : w2.cell? ⟨w.heap.size, 5, none⟩ = some (.slice F m d) := (blk_cell HQ2.out 5).trans rfl; have lq := blk_lt HQ2.out) | (go_at_call 16; (with_reducible refine (Check_ref q A n c F m d _ (HI.out.below HB2.out)).mono ?_); rintro e w4 ⟨rfl, hb4⟩; rw [HE.out]; have HB4 := hide (zbT HB2.out hb4 HB2.out.size); have HQ4 := bkT hb4 HQ2; clear hb4 q0 q1 q2 q3 q4 q5 lq; have q0 : w4.cell? ⟨w.heap.size, 0, none⟩ = some (.int .i64 q.opn) := (blk_cell HQ4.out 0).trans rfl; have q1 : w4.cell? ⟨w.heap.size, 1, none⟩ = some (.int .i64 q.lo) := (blk_cell HQ4.out 1).trans rfl; have q2 : w4.cell? ⟨w.heap.size, 2, none⟩ = some (.int .i64 q.hi) := (blk_cell HQ4.out 2).trans rfl; have q3 : w4.cell? ⟨w.heap.size, 3, none⟩ = some (.int .i64 q.seats) := (blk_cell HQ4.out 3).trans rfl; have q4 : w4.cell? ⟨w.heap.size, 4, none⟩ = some (.slice A n c) := (blk_cell HQ4.out 4).trans rfl; have q5 : w4.cell? ⟨w.heap.size, 5, none⟩ = some (.slice F m d) := (blk_cell HQ4.out 5).trans rfl; have lq := blk_lt HQ4.out))
        go_ret
        exact ⟨by rw [HR.out]; first | rfl | (simp; omega), HB4.out⟩
  · have HF := hide hf
    have HR := hide (show G.rdy q rate = false by unfold G.rdy; rw [hf]; rfl)
    clear hf
    go_enter Try.func30, Try.ntmps30
    go_wp2_with (go_at_call 12; (with_reducible refine (Far_any q A n c F m d _ (HI.out.below (show Below w.heap.size w _ by (repeat' first | exact zbR _ _ | assumption | refine zbD ?_ | refine zbA ?_ ?_ _ | refine zbS ?_ ?_ _ | refine zbT ?_ (by assumption) ?_ | (simp; done) | (simp; omega) | omega))) hn hm).mono ?_); rintro e w2 ⟨rfl, hb2⟩; rw [HF.out]; have HB2 := hide (zbT (show Below w.heap.size w _ by (repeat' first | exact zbR _ _ | assumption | refine zbD ?_ | refine zbA ?_ ?_ _ | refine zbS ?_ ?_ _ | refine zbT ?_ (by assumption) ?_ | (simp; done) | (simp; omega) | omega)) hb2 (by simp)); have HQ2 := hide ((hb2.block _ (by simp)).trans (World.alloc_heap_new w (.cells #[.int .i64 q.opn, .int .i64 q.lo, .int .i64 q.hi, .int .i64 q.seats, .slice A n c, .slice F m d] 27 (0, 0)))); clear hb2; have q0 : w2.cell? ⟨w.heap.size, 0, none⟩ = some (.int .i64 q.opn) := (blk_cell HQ2.out 0).trans rfl; have q1 : w2.cell? ⟨w.heap.size, 1, none⟩ = some (.int .i64 q.lo) := (blk_cell HQ2.out 1).trans rfl; have q2 : w2.cell? ⟨w.heap.size, 2, none⟩ = some (.int .i64 q.hi) := (blk_cell HQ2.out 2).trans rfl; have q3 : w2.cell? ⟨w.heap.size, 3, none⟩ = some (.int .i64 q.seats) := (blk_cell HQ2.out 3).trans rfl; have q4 : w2.cell? ⟨w.heap.size, 4, none⟩ = some (.slice A n c) := (blk_cell HQ2.out 4).trans rfl; have q5 : w2.cell? ⟨w.heap.size, 5, none⟩ = some (.slice F m d) := (blk_cell HQ2.out 5).trans rfl; have lq := blk_lt HQ2.out)
    go_ret
    exact ⟨by rw [HR.out]; first | rfl | (simp; omega), HB2.out⟩
end Go.Proofs.Ytlpjkolocgkcpaa

namespace Go.Proofs.Ytlpjkolocgkcpaa
namespace G

theorem run_idsT (S : Int → Int) (rate opn : Int) : ∀ (l : List Pt) (s : Mo), (run S rate opn l s).map (·.1) = l.map (·.id)
  | [], _ => rfl
  | p :: r, s => by
    unfold run
    rw [List.map_cons, List.map_cons, run_idsT S rate opn r]
theorem look_atT : ∀ {R : List (Int × Int)} {j : Nat} {id v : Int}, (R.map (·.1)).Nodup → R[j]? = some (id, v) → look id R = v
  | [], j, id, v, _, h => by simp at h
  | x :: r, 0, id, v, _, h => by
    have hx : x = (id, v) := Option.some.inj h
    subst hx
    unfold look
    rw [List.find?_cons_of_pos (by simp)]
    rfl
  | x :: r, j + 1, id, v, hn, h => by
    rw [List.map_cons, List.nodup_cons] at hn
    have hx : x.1 ≠ id := by
      intro e
      rw [List.getElem?_cons_succ] at h
      exact hn.1 (List.mem_map.2 ⟨(id, v), List.mem_of_getElem? h, e.symm⟩)
    unfold look
    rw [List.find?_cons_of_neg (by simpa using hx)]
    exact look_atT hn.2 h
def R (q : Qu) (rate : Int) : List (Int × Int) := run q.S rate q.opn (srt q.gs) ⟨0, 0, 0⟩
theorem R_nodup {q : Qu} (hv : Valid q) (rate : Int) : ((R q rate).map (·.1)).Nodup := by
  unfold R
  rw [run_idsT]
  exact ((srt_perm q.gs).map _).nodup_iff.2 hv.gn
theorem R_length (q : Qu) (rate : Int) : (R q rate).length = (srt q.gs).length := by
  have h := congrArg List.length (run_idsT q.S rate q.opn (srt q.gs) ⟨0, 0, 0⟩)
  simpa [R] using h
theorem R_at {q : Qu} (hv : Valid q) (rate : Int) {j : Nat} {p : Pt} (h : (srt q.gs)[j]? = some p) : (R q rate)[j]? = some (p.id, look p.id (R q rate)) := by
  have hl : j < (R q rate).length := by rw [R_length]; exact (List.getElem?_eq_some_iff.1 h).1
  obtain ⟨x, hx⟩ : ∃ x, (R q rate)[j]? = some x := ⟨_, List.getElem?_eq_getElem hl⟩
  have h1 : ((R q rate).map (·.1))[j]? = some p.id := by
    unfold R
    rw [run_idsT, List.getElem?_map, h]
    rfl
  rw [List.getElem?_map, hx] at h1
  have h2 : x.1 = p.id := Option.some.inj h1
  have h3 : x = (p.id, x.2) := by rw [← h2]
  rw [h3] at hx
  rw [hx, look_atT (R_nodup hv rate) hx]
theorem enter_getT (q : Qu) (rate : Int) {i : Nat} {p : Pt} (h : q.gs[i]? = some p) : (enter q rate)[i]? = some (look p.id (R q rate)) := by
  unfold enter
  rw [List.getElem?_map, h]
  rfl
theorem mo0 {rate : Int} (hr : 1 ≤ rate) : Mo.Ok rate ⟨0, 0, 0⟩ := ⟨Int.le_refl _, Int.le_refl _, by show (0 : Int) < rate; omega⟩
theorem srt_size {q : Qu} (hv : Valid q) : ∀ p ∈ srt q.gs, 1 ≤ p.size := fun p hp => (vParty_iff.1 (hv.gv p ((srt_perm _).mem_iff.1 hp))).z0
theorem enter_fairT {q : Qu} (hv : Valid q) {rate : Int} (hr : 1 ≤ rate) {i : Nat} {p : Pt} (h : q.gs[i]? = some p) : Fair rate q.opn p (look p.id (R q rate)) := by
  obtain ⟨j, hj⟩ := List.mem_iff_getElem?.1 ((srt_perm q.gs).mem_iff.2 (List.mem_of_getElem? h))
  exact (run_fair hr (srt q.gs) _ (mo0 hr) (srt_size hv) j p _ hj (R_at hv rate hj)).2
def inK (q : Qu) (rate m : Int) (k : Nat) : Int := ((q.gs.take k).map (fun p => if 0 ≤ look p.id (R q rate) ∧ look p.id (R q rate) ≤ m then p.size else 0)).sum
theorem inK_step {q : Qu} {rate m : Int} {k : Nat} {p : Pt} (h : q.gs[k]? = some p) : inK q rate m (k + 1) = inK q rate m k + if 0 ≤ look p.id (R q rate) ∧ look p.id (R q rate) ≤ m then p.size else 0 := by
  unfold inK
  rw [List.take_add_one, h]
  simp
theorem inK_bd {q : Qu} (hv : Valid q) (rate m : Int) (k : Nat) : 0 ≤ inK q rate m k ∧ inK q rate m k ≤ people q.gs := by
  have h : ∀ (l : List Pt), (∀ p ∈ l, vParty p = true) → ∀ k, 0 ≤ ((l.take k).map (fun p => if 0 ≤ look p.id (R q rate) ∧ look p.id (R q rate) ≤ m then p.size else 0)).sum ∧ ((l.take k).map (fun p => if 0 ≤ look p.id (R q rate) ∧ look p.id (R q rate) ≤ m then p.size else 0)).sum ≤ (l.map (·.size)).sum := by
    intro l
    induction l with
    | nil => intro _ k; simp
    | cons p r ih =>
      intro hp k
      have hz := (vParty_iff.1 (hp p (List.mem_cons_self ..))).z0
      have h0 := ih (fun x hx => hp x (List.mem_cons_of_mem _ hx))
      cases k with
      | zero =>
        have := h0 r.length
        rw [List.take_zero, List.map_nil, List.map_cons, List.sum_nil, List.sum_cons]
        omega
      | succ k =>
        have := h0 k
        rw [List.take_succ_cons, List.map_cons, List.map_cons, List.sum_cons, List.sum_cons]
        split <;> omega
  exact h q.gs hv.gv k
end G
end Go.Proofs.Ytlpjkolocgkcpaa

namespace Go.Proofs.Ytlpjkolocgkcpaa
open Go.RowKit
attribute [local go_sem ↓] Go.wp_at_zero Go.wp_at_succ

theorem TgN.idx {q : G.Qu} {n : Nat} {Fn : Int → Int} {kn : Int → Bool} (h : TgN q.gs n Fn kn) (hn : q.gs.length = n) {id z : Int} {b : Bool} (h1 : b = true → 0 ≤ id ∧ id ≤ 999 ∧ z = Fn id ∧ kn id = true) (h2 : b = false → 0 ≤ id → id ≤ 999 → kn id = false) :
    (b = false → G.idxOf q id = none) ∧ (b = true → ∃ gi : Nat, G.idxOf q id = some gi ∧ z = (gi : Int) ∧ gi < n) := by
  have ht : q.gs.take n = q.gs := List.take_of_length_le (by omega)
  constructor
  · intro hb
    unfold G.idxOf
    rw [List.findIdx?_eq_none_iff]
    intro p hp
    cases he : (p.id == id) with
    | false => rfl
    | true =>
      have e : p.id = id := by simpa using he
      have hm : id ∈ (q.gs.take n).map (·.id) := by rw [ht]; exact List.mem_map.2 ⟨p, hp, e⟩
      have hr := h.2.1 id hm
      have hk := h2 hb hr.1 hr.2
      rw [h.1 id hr.1 hr.2] at hk
      have : ((q.gs.take n).map (·.id)).contains id = true := by simpa using hm
      rw [this] at hk
      cases hk
  · intro hb
    obtain ⟨r0, r1, hz, hk⟩ := h1 hb
    rw [h.1 id r0 r1, ht] at hk
    obtain ⟨p, hp, e⟩ := List.mem_map.1 (by simpa using hk : id ∈ q.gs.map (·.id))
    have hs : (q.gs.findIdx? (fun p => p.id == id)).isSome = true := by
      rw [List.findIdx?_isSome, List.any_eq_true]
      exact ⟨p, hp, by simpa using e⟩
    obtain ⟨gi, hgi⟩ := Option.isSome_iff_exists.1 hs
    have hgi2 := hgi
    rw [List.findIdx?_eq_some_iff_getElem] at hgi2
    obtain ⟨hl, hpg, _⟩ := hgi2
    refine ⟨gi, hgi, ?_, by omega⟩
    have := h.2.2 gi _ (by omega) (List.getElem?_eq_getElem hl)
    rw [show q.gs[gi].id = id by simpa using hpg] at this
    rw [hz, this]
theorem LineAt.keepR {w w' : World} {q : G.Qu} {A : Option Addr} {n c : Nat} {F : Option Addr} {m d : Nat} {O : Option Addr} {co : Nat} {ord : List Nat} {b1 : Nat} (h : LineAt w q A n c F m d O co ord) (hg : w.grownBy w' (some b1)) (hne : ∀ b i, (A = some ⟨b, i, none⟩ ∨ F = some ⟨b, i, none⟩ ∨ O = some ⟨b, i, none⟩) → b ≠ b1) : LineAt w' q A n c F m d O co ord := by
  have hc : ∀ (b i j : Nat), b < w.heap.size → b ≠ b1 → w'.cell? ⟨b, j, none⟩ = w.cell? ⟨b, j, none⟩ := fun b _ j hb hn => gr_cellS hg hb (fun e => hn (Option.some.inj e)) j
  refine ⟨h.v, h.gl, h.fl, h.ol, fun k p hk => ?_, fun k p hk => ?_, fun k p hk => ?_, h.fs, h.os, h.op⟩
  · obtain ⟨b, i, e, hb, c0, c1, c2, c3⟩ := h.rg k p hk
    have hn := hne b i (.inl e)
    exact ⟨b, i, e, Nat.lt_of_lt_of_le hb hg.size, (hc b i _ hb hn).trans c0, (hc b i _ hb hn).trans c1, (hc b i _ hb hn).trans c2, (hc b i _ hb hn).trans c3⟩
  · obtain ⟨b, i, e, hb, c0, c1⟩ := h.rf k p hk
    have hn := hne b i (.inr (.inl e))
    exact ⟨b, i, e, Nat.lt_of_lt_of_le hb hg.size, (hc b i _ hb hn).trans c0, (hc b i _ hb hn).trans c1⟩
  · obtain ⟨b, i, e, hb, c0⟩ := h.ro k p hk
    have hn := hne b i (.inr (.inr e))
    exact ⟨b, i, e, Nat.lt_of_lt_of_le hb hg.size, (hc b i _ hb hn).trans c0⟩
def ForPost (q : G.Qu) (id : Int) (A : Option Addr) (n c m : Nat) (w : World) (e : Ending) (w' : World) : Prop :=
  Below w.heap.size w w' ∧ (G.valid q = false → e = .returned (.tuple #[.agg #[.int .i64 0, .int .i64 0, .int .i64 0, .int .i64 0, .slice none 0 0, .slice none 0 0, .map none, .slice none 0 0], .int .i64 0, .int .i64 110])) ∧
  (G.valid q = true → (G.idxOf q id = none → e = .returned (.tuple #[.agg #[.int .i64 0, .int .i64 0, .int .i64 0, .int .i64 0, .slice none 0 0, .slice none 0 0, .map none, .slice none 0 0], .int .i64 0, .int .i64 1])) ∧
    ∀ gi, G.idxOf q id = some gi → ∃ (F2 : Option Addr) (d2 : Nat) (fs2 : List G.Fr) (g : Nat) (O : Option Addr) (co : Nat) (ord : List Nat),
      e = .returned (.tuple #[.agg #[.int .i64 q.opn, .int .i64 q.lo, .int .i64 q.hi, .int .i64 q.seats, .slice A n c, .slice F2 m d2, .map (some g), .slice O n co], .int .i64 (gi : Int), .int .i64 0]) ∧ fs2.Perm q.fs ∧ LineAt w' { q with fs := fs2 } A n c F2 m d2 O co ord)

set_option maxHeartbeats 6400000 in
set_option maxRecDepth 100000 in
theorem openFor_any (q : G.Qu) (id : Int) (A : Option Addr) (n c : Nat) (F : Option Addr) (m d : Nat) (w : World) (h : QIn w q A n c F m d) (hid : (Lit.int .i64 id).wf = true) :
    Calls Try.prog 43 #[.agg #[.int .i64 q.opn, .int .i64 q.lo, .int .i64 q.hi, .int .i64 q.seats, .slice A n c, .slice F m d], .int .i64 id] w (ForPost q id A n c m w) := by
  have HI := hide h
  have HID := hide hid
  clear h hid
  go_enter Try.func43, Try.ntmps43
  go_upto_region 1 with fail
  refine cap_w (M := Code.wp _ _ _ _) _ (fun w1 hw1 => ?_)
  have HB1 := hide (show Below w.heap.size w w1 by rw [hw1]; (repeat' first | exact zbR _ _ | assumption | refine zbD ?_ | refine zbA ?_ ?_ _ | refine zbS ?_ ?_ _ | refine zbT ?_ (by assumption) ?_ | (simp; done) | (simp; omega) | omega))
  have HQ := hide (show w1.heap[w.heap.size]? = some (.cells #[.int .i64 q.opn, .int .i64 q.lo, .int .i64 q.hi, .int .i64 q.seats, .slice A n c, .slice F m d] 27 (0, 0)) by
    rw [hw1]; exact (Below.heap_alloc _ _ _ (by simp)).trans (World.alloc_heap_new _ _))
  have HZ := hide (show w1.heap[w.heap.size + 1]? = some (.cells #[.int .i64 0, .int .i64 0, .int .i64 0, .int .i64 0, .slice none 0 0, .slice none 0 0, .map none, .slice none 0 0] 67 (0, 0)) by
    rw [hw1]; exact alloc_new_at (by simp))
  clear hw1
  obtain ⟨b1, hb1⟩ : ∃ x, w.heap.size + 1 = x := ⟨_, rfl⟩
  rw [hb1] at HZ ⊢
  obtain ⟨b0, hb0⟩ : ∃ x, w.heap.size = x := ⟨_, rfl⟩
  have HBB := hide (show w.heap.size ≤ b1 by omega)
  have HE := hide (show w.heap.size = b0 ∧ b0 < b1 by omega)
  rw [hb0] at HQ ⊢
  clear hb1 hb0
  have HI1 := hide (HI.out.below HB1.out)
  have q0 : w1.cell? ⟨b0, 0, none⟩ = some (.int .i64 q.opn) := (blk_cell HQ.out 0).trans rfl
  have q1 : w1.cell? ⟨b0, 1, none⟩ = some (.int .i64 q.lo) := (blk_cell HQ.out 1).trans rfl
  have q2 : w1.cell? ⟨b0, 2, none⟩ = some (.int .i64 q.hi) := (blk_cell HQ.out 2).trans rfl
  have q3 : w1.cell? ⟨b0, 3, none⟩ = some (.int .i64 q.seats) := (blk_cell HQ.out 3).trans rfl
  have q4 : w1.cell? ⟨b0, 4, none⟩ = some (.slice A n c) := (blk_cell HQ.out 4).trans rfl
  have q5 : w1.cell? ⟨b0, 5, none⟩ = some (.slice F m d) := (blk_cell HQ.out 5).trans rfl
  have lq := blk_lt HQ.out
  cases hv : G.valid q
  · have HV := hide hv
    clear hv
    go_wp2_with (first | (go_at_call 36; (with_reducible refine (open_in q A n c F m d _ HI1.out).mono ?_); rintro e w2 ⟨hb2, hno, _⟩; obtain rfl := hno HV.out; have HB2 := hide (zbT HB1.out hb2 HB1.out.size); have HZ2 := bkT hb2 HZ; clear hno hb2 q0 q1 q2 q3 q4 q5 lq) | (refine wpList_store_row rfl 67 _ _ rfl b1 _ rfl rfl 67 _ HZ2.out lnRow rfl (by simp [Value.oneCell']) ?_; refine cap_w (M := wpList _ _ _ _ _) _ (fun w3 hw3 => ?_); have HR3 := hide (show w3.heap[b1]? = some (.cells #[.int .i64 0, .int .i64 0, .int .i64 0, .int .i64 0, .slice none 0 0, .slice none 0 0, .map none, .slice none 0 0] 67 (0, 0)) by rw [hw3]; exact setRow_heap _ _ _ _ _ _ HZ2.out); have HG3 := hide (show w2.grownBy w3 (some b1) by rw [hw3]; exact setRow_grown _ _ _); have HB3 := hide (show Below w.heap.size w w3 by rw [hw3]; exact below_row HB2.out HBB.out _); clear hw3 HZ2) | (refine wpList_store_row rfl 67 _ _ rfl b1 _ rfl rfl 67 _ HR3.out lnRow rfl (by simp [Value.oneCell']) ?_))
    refine cap_w (M := bodyPost _ _ _ _ _) _ (fun W9 hW9 => ?_)
    have HR9 := hide (show W9.heap[b1]? = some (.cells #[.int .i64 0, .int .i64 0, .int .i64 0, .int .i64 0, .slice none 0 0, .slice none 0 0, .map none, .slice none 0 0] 67 (0, 0)) by rw [hW9]; exact setRow_heap _ _ _ _ _ _ HR3.out)
    have HG9 := hide (show w3.grownBy W9 (some b1) by rw [hW9]; exact setRow_grown _ _ _)
    have HB9 := hide (show Below w.heap.size w W9 by rw [hW9]; exact below_row HB3.out HBB.out _)
    clear hW9
    have s0 : W9.cell? ⟨b1, 0, none⟩ = some (.int .i64 0) := (blk_cell HR9.out 0).trans rfl
    have s1 : W9.cell? ⟨b1, 1, none⟩ = some (.int .i64 0) := (blk_cell HR9.out 1).trans rfl
    have s2 : W9.cell? ⟨b1, 2, none⟩ = some (.int .i64 0) := (blk_cell HR9.out 2).trans rfl
    have s3 : W9.cell? ⟨b1, 3, none⟩ = some (.int .i64 0) := (blk_cell HR9.out 3).trans rfl
    have s4 : W9.cell? ⟨b1, 4, none⟩ = some (.slice none 0 0) := (blk_cell HR9.out 4).trans rfl
    have s5 : W9.cell? ⟨b1, 5, none⟩ = some (.slice none 0 0) := (blk_cell HR9.out 5).trans rfl
    have s6 : W9.cell? ⟨b1, 6, none⟩ = some (.map none) := (blk_cell HR9.out 6).trans rfl
    have s7 : W9.cell? ⟨b1, 7, none⟩ = some (.slice none 0 0) := (blk_cell HR9.out 7).trans rfl
    refine bodyPost_ret (v := .tuple #[.agg #[.int .i64 0, .int .i64 0, .int .i64 0, .int .i64 0, .slice none 0 0, .slice none 0 0, .map none, .slice none 0 0], .int .i64 0, .int .i64 110]) (by simp [results, Try.results43, go_sem, s0, s1, s2, s3, s4, s5, s6, s7]) rfl ?_
    exact ⟨HB9.out, fun _ => rfl, fun h => by rw [HV.out] at h; cases h⟩
  · have HV := hide hv
    clear hv
    go_upto_region 2 with (first | (go_at_call 36; (with_reducible refine (open_in q A n c F m d _ HI1.out).mono ?_); rintro e w2 ⟨hb2, _, hyes⟩; obtain ⟨F2, d2, fs2, g, O, co, ord, Fn, kn, rfl, hpf, hL, hM, hT, hgs, hfb, hob⟩ := hyes HV.out; have HGS := hide hgs; have HFB := hide hfb; have HOB := hide hob; have HB2 := hide (zbT HB1.out hb2 HB1.out.size); have HZ2 := bkT hb2 HZ; have HPF := hide hpf; have HL := hide hL; have HM := hide hM; have HT := hide hT; clear hyes hb2 hpf hL hM hT hgs hfb hob q0 q1 q2 q3 q4 q5 lq) | (refine wpList_store_row rfl 67 _ _ rfl b1 _ rfl rfl 67 _ HZ2.out lnRow rfl (by simp [Value.oneCell']) ?_; refine cap_w (M := wpList _ _ _ _ _) _ (fun w3 hw3 => ?_); have HR3 := hide (show w3.heap[b1]? = some (.cells #[.int .i64 q.opn, .int .i64 q.lo, .int .i64 q.hi, .int .i64 q.seats, .slice A n c, .slice F2 m d2, .map (some g), .slice O n co] 67 (0, 0)) by rw [hw3]; exact setRow_heap _ _ _ _ _ _ HZ2.out); have HG3 := hide (show w2.grownBy w3 (some b1) by rw [hw3]; exact setRow_grown _ _ _); have HB3 := hide (show Below w.heap.size w w3 by rw [hw3]; exact below_row HB2.out HBB.out _); clear hw3 HZ2))
    have HLT := hide (blk_lt HZ.out)
    have HM3 := hide (HM.out.kept HG3.out (fun e => by have h5 := Option.some.inj e; have := HGS.out; have := HLT.out; omega))
    have HNE := hide (show ∀ b i, (A = some ⟨b, i, none⟩ ∨ F2 = some ⟨b, i, none⟩ ∨ O = some ⟨b, i, none⟩) → b ≠ b1 from fun b i h => by
      rcases h with h | h | h
      · have := HI.out.a b i h; have := HBB.out; have := HE.out; omega
      · have := HFB.out b i h; have := HLT.out; omega
      · have := HOB.out b i h; have := HLT.out; omega)
    obtain ⟨z, bo, hlk0, h1, h2⟩ := MapK.lookOk_wf Try.underlying65 zeroI HM3.out HID.out
    have hlk : (Instr.lookup 65 (.map (some g)) (.int .i64 id) true).run Try.prog w3 = .ok (.tuple #[.int .i64 z, .bool bo]) w3 := hlk0
    obtain ⟨hx1, hx2⟩ := TgN.idx HT.out HI.out.gl h1 h2
    have r0 : w3.cell? ⟨b1, 0, none⟩ = some (.int .i64 q.opn) := (blk_cell HR3.out 0).trans rfl
    have r1 : w3.cell? ⟨b1, 1, none⟩ = some (.int .i64 q.lo) := (blk_cell HR3.out 1).trans rfl
    have r2 : w3.cell? ⟨b1, 2, none⟩ = some (.int .i64 q.hi) := (blk_cell HR3.out 2).trans rfl
    have r3 : w3.cell? ⟨b1, 3, none⟩ = some (.int .i64 q.seats) := (blk_cell HR3.out 3).trans rfl
    have r4 : w3.cell? ⟨b1, 4, none⟩ = some (.slice A n c) := (blk_cell HR3.out 4).trans rfl
    have r5 : w3.cell? ⟨b1, 5, none⟩ = some (.slice F2 m d2) := (blk_cell HR3.out 5).trans rfl
    have r6 : w3.cell? ⟨b1, 6, none⟩ = some (.map (some g)) := (blk_cell HR3.out 6).trans rfl
    have r7 : w3.cell? ⟨b1, 7, none⟩ = some (.slice O n co) := (blk_cell HR3.out 7).trans rfl
    have lr := blk_lt HR3.out
    clear hlk0 h1 h2
    cases bo
    · have HX := hide (hx1 rfl)
      clear hx1 hx2
      go_wp2_with (refine wpList_store_row rfl 67 _ _ rfl b1 _ rfl rfl 67 _ HR3.out lnRow rfl (by simp [Value.oneCell']) ?_)
      refine cap_w (M := bodyPost _ _ _ _ _) _ (fun W9 hW9 => ?_)
      have HR9 := hide (show W9.heap[b1]? = some (.cells #[.int .i64 0, .int .i64 0, .int .i64 0, .int .i64 0, .slice none 0 0, .slice none 0 0, .map none, .slice none 0 0] 67 (0, 0)) by rw [hW9]; exact setRow_heap _ _ _ _ _ _ HR3.out)
      have HG9 := hide (show w3.grownBy W9 (some b1) by rw [hW9]; exact setRow_grown _ _ _)
      have HB9 := hide (show Below w.heap.size w W9 by rw [hW9]; exact below_row HB3.out HBB.out _)
      clear hW9
      have s0 : W9.cell? ⟨b1, 0, none⟩ = some (.int .i64 0) := (blk_cell HR9.out 0).trans rfl
      have s1 : W9.cell? ⟨b1, 1, none⟩ = some (.int .i64 0) := (blk_cell HR9.out 1).trans rfl
      have s2 : W9.cell? ⟨b1, 2, none⟩ = some (.int .i64 0) := (blk_cell HR9.out 2).trans rfl
      have s3 : W9.cell? ⟨b1, 3, none⟩ = some (.int .i64 0) := (blk_cell HR9.out 3).trans rfl
      have s4 : W9.cell? ⟨b1, 4, none⟩ = some (.slice none 0 0) := (blk_cell HR9.out 4).trans rfl
      have s5 : W9.cell? ⟨b1, 5, none⟩ = some (.slice none 0 0) := (blk_cell HR9.out 5).trans rfl
      have s6 : W9.cell? ⟨b1, 6, none⟩ = some (.map none) := (blk_cell HR9.out 6).trans rfl
      have s7 : W9.cell? ⟨b1, 7, none⟩ = some (.slice none 0 0) := (blk_cell HR9.out 7).trans rfl
      refine bodyPost_ret (v := .tuple #[.agg #[.int .i64 0, .int .i64 0, .int .i64 0, .int .i64 0, .slice none 0 0, .slice none 0 0, .map none, .slice none 0 0], .int .i64 0, .int .i64 1]) (by simp [results, Try.results43, go_sem, s0, s1, s2, s3, s4, s5, s6, s7]) rfl ?_
      exact ⟨HB9.out, fun h => (by rw [HV.out] at h; cases h), fun _ => ⟨fun _ => rfl, fun i hi => (by rw [HX.out] at hi; cases hi)⟩⟩
    · obtain ⟨gi, hgi, hz, _⟩ := hx2 rfl
      have HX := hide hgi
      subst hz
      clear hx1 hx2 hgi
      go_wp2_with (refine wpList_store_row rfl 67 _ _ rfl b1 _ rfl rfl 67 _ HR3.out lnRow rfl (by simp [Value.oneCell']) ?_)
      refine cap_w (M := bodyPost _ _ _ _ _) _ (fun W9 hW9 => ?_)
      have HR9 := hide (show W9.heap[b1]? = some (.cells #[.int .i64 q.opn, .int .i64 q.lo, .int .i64 q.hi, .int .i64 q.seats, .slice A n c, .slice F2 m d2, .map (some g), .slice O n co] 67 (0, 0)) by rw [hW9]; exact setRow_heap _ _ _ _ _ _ HR3.out)
      have HG9 := hide (show w3.grownBy W9 (some b1) by rw [hW9]; exact setRow_grown _ _ _)
      have HB9 := hide (show Below w.heap.size w W9 by rw [hW9]; exact below_row HB3.out HBB.out _)
      clear hW9
      have s0 : W9.cell? ⟨b1, 0, none⟩ = some (.int .i64 q.opn) := (blk_cell HR9.out 0).trans rfl
      have s1 : W9.cell? ⟨b1, 1, none⟩ = some (.int .i64 q.lo) := (blk_cell HR9.out 1).trans rfl
      have s2 : W9.cell? ⟨b1, 2, none⟩ = some (.int .i64 q.hi) := (blk_cell HR9.out 2).trans rfl
      have s3 : W9.cell? ⟨b1, 3, none⟩ = some (.int .i64 q.seats) := (blk_cell HR9.out 3).trans rfl
      have s4 : W9.cell? ⟨b1, 4, none⟩ = some (.slice A n c) := (blk_cell HR9.out 4).trans rfl
      have s5 : W9.cell? ⟨b1, 5, none⟩ = some (.slice F2 m d2) := (blk_cell HR9.out 5).trans rfl
      have s6 : W9.cell? ⟨b1, 6, none⟩ = some (.map (some g)) := (blk_cell HR9.out 6).trans rfl
      have s7 : W9.cell? ⟨b1, 7, none⟩ = some (.slice O n co) := (blk_cell HR9.out 7).trans rfl
      refine bodyPost_ret (v := .tuple #[.agg #[.int .i64 q.opn, .int .i64 q.lo, .int .i64 q.hi, .int .i64 q.seats, .slice A n c, .slice F2 m d2, .map (some g), .slice O n co], .int .i64 (gi : Int), .int .i64 0]) (by simp [results, Try.results43, go_sem, s0, s1, s2, s3, s4, s5, s6, s7]) rfl ?_
      refine ⟨HB9.out, fun h => (by rw [HV.out] at h; cases h), fun _ => ⟨fun h => (by rw [HX.out] at h; cases h), fun i hi => ?_⟩⟩
      rw [HX.out] at hi
      cases hi
      refine ⟨F2, d2, fs2, g, O, co, ord, rfl, HPF.out, ?_⟩
      exact HL.out.keepR (HG3.out.andThen HG9.out (fun y hy => .inr hy)) HNE.out
end Go.Proofs.Ytlpjkolocgkcpaa

namespace Go.Proofs.Ytlpjkolocgkcpaa
open Go.RowKit
attribute [local go_sem ↓] Go.wp_at_zero Go.wp_at_succ

theorem spRow : (Try.prog.info? 23).map (·.size) = some 2 := by kernel_rfl

set_option maxHeartbeats 6400000 in
set_option maxRecDepth 100000 in
theorem Inside_any (q : G.Qu) (minute : Int) (A : Option Addr) (n c : Nat) (F : Option Addr) (m d : Nat) (w : World) (h : QIn w q A n c F m d) :
    Calls Try.prog 19 #[.agg #[.int .i64 q.opn, .int .i64 q.lo, .int .i64 q.hi, .int .i64 q.seats, .slice A n c, .slice F m d], .int .i64 minute] w fun e w' => e = .returned (.tuple #[.agg #[.int .i64 (G.insideV q minute).1, .int .i64 (G.insideV q minute).2], .int .i64 (G.insideE q minute)]) ∧ Below w.heap.size w w' := by
  have HI := hide h
  clear h
  obtain ⟨er, her⟩ : ∃ x, G.insideE q minute = x := ⟨_, rfl⟩
  obtain ⟨va, hva⟩ : ∃ x, (G.insideV q minute).1 = x := ⟨_, rfl⟩
  obtain ⟨vb, hvb⟩ : ∃ x, (G.insideV q minute).2 = x := ⟨_, rfl⟩
  rw [her, hva, hvb]
  have HER := hide her
  have HVA := hide hva
  have HVB := hide hvb
  clear her hva hvb
  go_enter Try.func19, Try.ntmps19
  go_upto_region 1 with fail
  refine cap_w (M := Code.wp _ _ _ _) _ (fun w1 hw1 => ?_)
  have HB1 := hide (show Below w.heap.size w w1 by rw [hw1]; (repeat' first | exact zbR _ _ | assumption | refine zbD ?_ | refine zbA ?_ ?_ _ | refine zbS ?_ ?_ _ | refine zbT ?_ (by assumption) ?_ | (simp; done) | (simp; omega) | omega))
  have HQ := hide (show w1.heap[w.heap.size]? = some (.cells #[.int .i64 q.opn, .int .i64 q.lo, .int .i64 q.hi, .int .i64 q.seats, .slice A n c, .slice F m d] 27 (0, 0)) by
    rw [hw1]; exact (Below.heap_alloc _ _ _ (by simp)).trans (World.alloc_heap_new _ _))
  have HZ := hide (show w1.heap[w.heap.size + 1]? = some (.cells #[.int .i64 0, .int .i64 0] 23 (0, 0)) by
    rw [hw1]; exact alloc_new_at (by simp))
  clear hw1
  obtain ⟨b1, hb1⟩ : ∃ x, w.heap.size + 1 = x := ⟨_, rfl⟩
  rw [hb1] at HZ ⊢
  obtain ⟨b0, hb0⟩ : ∃ x, w.heap.size = x := ⟨_, rfl⟩
  have HBB := hide (show w.heap.size ≤ b1 by omega)
  rw [hb0] at HQ ⊢
  clear hb1 hb0
  have HI1 := hide (HI.out.below HB1.out)
  have q0 : w1.cell? ⟨b0, 0, none⟩ = some (.int .i64 q.opn) := (blk_cell HQ.out 0).trans rfl
  have q1 : w1.cell? ⟨b0, 1, none⟩ = some (.int .i64 q.lo) := (blk_cell HQ.out 1).trans rfl
  have q2 : w1.cell? ⟨b0, 2, none⟩ = some (.int .i64 q.hi) := (blk_cell HQ.out 2).trans rfl
  have q3 : w1.cell? ⟨b0, 3, none⟩ = some (.int .i64 q.seats) := (blk_cell HQ.out 3).trans rfl
  have q4 : w1.cell? ⟨b0, 4, none⟩ = some (.slice A n c) := (blk_cell HQ.out 4).trans rfl
  have q5 : w1.cell? ⟨b0, 5, none⟩ = some (.slice F m d) := (blk_cell HQ.out 5).trans rfl
  have lq := blk_lt HQ.out
  cases hv : G.valid q
  · have HV := hide hv
    have hE : G.insideE q minute = 110 := by unfold G.insideE; rw [hv]; rfl
    have hVV : G.insideV q minute = (0, 0) := by unfold G.insideV; rw [if_neg (by rw [hE]; decide)]
    have e0 := HER.out
    rw [hE] at e0
    have e1 := HVA.out
    rw [hVV] at e1
    have e2 := HVB.out
    rw [hVV] at e2
    dsimp only at e1 e2
    subst e0 e1 e2
    clear HER HVA HVB
    clear hv hE hVV
    go_upto_region 2 with (go_at_call 36; (with_reducible refine (open_in q A n c F m d _ HI1.out).mono ?_); rintro e w2 ⟨hb2, hno, _⟩; obtain rfl := hno HV.out; have HB2 := hide (zbT HB1.out hb2 HB1.out.size); have HZ2 := bkT hb2 HZ; clear hno hb2 q0 q1 q2 q3 q4 q5 lq)
    refine cap_w (M := Code.wp _ _ _ _) _ (fun w3 hw3 => ?_)
    have HB3 := hide (show Below w.heap.size w w3 by rw [hw3]; exact zbA HB2.out HB2.out.size _)
    have HZ3 := hide (show w3.heap[b1]? = some (.cells #[.int .i64 0, .int .i64 0] 23 (0, 0)) by rw [hw3]; exact (Below.heap_alloc _ _ _ (blk_lt HZ2.out)).trans HZ2.out)
    clear hw3
    go_wp2_with (refine wpList_store_row rfl 23 _ _ rfl b1 _ rfl rfl 23 _ HZ3.out spRow rfl (by simp [Value.oneCell']) ?_)
    refine cap_w (M := bodyPost _ _ _ _ _) _ (fun W9 hW9 => ?_)
    have HR9 := hide (show W9.heap[b1]? = some (.cells #[.int .i64 0, .int .i64 0] 23 (0, 0)) by rw [hW9]; exact setRow_heap _ _ _ _ _ _ HZ3.out)
    have HB9 := hide (show Below w.heap.size w W9 by rw [hW9]; exact below_row HB3.out HBB.out _)
    clear hW9
    have s0 : W9.cell? ⟨b1, 0, none⟩ = some (.int .i64 0) := (blk_cell HR9.out 0).trans rfl
    have s1 : W9.cell? ⟨b1, 1, none⟩ = some (.int .i64 0) := (blk_cell HR9.out 1).trans rfl
    exact bodyPost_ret (v := .tuple #[.agg #[.int .i64 0, .int .i64 0], .int .i64 110]) (by simp [results, Try.results19, go_sem, s0, s1]) rfl ⟨rfl, HB9.out⟩
  · have HV := hide hv
    cases hw : G.within minute 0 1440
    · have HW := hide hw
      have hE : G.insideE q minute = 1 := by unfold G.insideE G.vMin; rw [hv, if_pos rfl, hw]; rfl
      have hVV : G.insideV q minute = (0, 0) := by unfold G.insideV; rw [if_neg (by rw [hE]; decide)]
      have e0 := HER.out
      rw [hE] at e0
      have e1 := HVA.out
      rw [hVV] at e1
      have e2 := HVB.out
      rw [hVV] at e2
      dsimp only at e1 e2
      subst e0 e1 e2
      clear HER HVA HVB
      clear hv hE hVV hw
      go_upto_region 2 with (go_at_call 36; (with_reducible refine (open_in q A n c F m d _ HI1.out).mono ?_); rintro e w2 ⟨hb2, _, hyes⟩; obtain ⟨F2, d2, fs2, g, O, co, ord, Fn, kn, rfl, hpf, hL, hM⟩ := hyes HV.out; have HB2 := hide (zbT HB1.out hb2 HB1.out.size); have HZ2 := bkT hb2 HZ; have HPF := hide hpf; have HL := hide hL; clear hyes hb2 hpf hL hM q0 q1 q2 q3 q4 q5 lq)
      refine cap_w (M := Code.wp _ _ _ _) _ (fun w3 hw3 => ?_)
      have HB3 := hide (show Below w.heap.size w w3 by rw [hw3]; exact zbA HB2.out HB2.out.size _)
      have HZ3 := hide (show w3.heap[b1]? = some (.cells #[.int .i64 0, .int .i64 0] 23 (0, 0)) by rw [hw3]; exact (Below.heap_alloc _ _ _ (blk_lt HZ2.out)).trans HZ2.out)
      clear hw3
      go_wp2_with (first | (go_at_call 38; (with_reducible refine (within_any minute 0 1440 _).mono ?_); rintro e w' ⟨rfl, rfl⟩; rw [HW.out]) | (refine wpList_store_row rfl 23 _ _ rfl b1 _ rfl rfl 23 _ HZ3.out spRow rfl (by simp [Value.oneCell']) ?_))
      refine cap_w (M := bodyPost _ _ _ _ _) _ (fun W9 hW9 => ?_)
      have HR9 := hide (show W9.heap[b1]? = some (.cells #[.int .i64 0, .int .i64 0] 23 (0, 0)) by rw [hW9]; exact setRow_heap _ _ _ _ _ _ HZ3.out)
      have HB9 := hide (show Below w.heap.size w W9 by rw [hW9]; exact below_row HB3.out HBB.out _)
      clear hW9
      have s0 : W9.cell? ⟨b1, 0, none⟩ = some (.int .i64 0) := (blk_cell HR9.out 0).trans rfl
      have s1 : W9.cell? ⟨b1, 1, none⟩ = some (.int .i64 0) := (blk_cell HR9.out 1).trans rfl
      exact bodyPost_ret (v := .tuple #[.agg #[.int .i64 0, .int .i64 0], .int .i64 1]) (by simp [results, Try.results19, go_sem, s0, s1]) rfl ⟨rfl, HB9.out⟩
    · have HW := hide hw
      have hE : G.insideE q minute = 0 := by unfold G.insideE G.vMin; rw [hv, if_pos rfl, hw]; rfl
      have hVV : G.insideV q minute = (G.minL (G.upTo q minute), G.maxL (G.upTo q minute)) := by unfold G.insideV; rw [if_pos hE]
      have e0 := HER.out
      rw [hE] at e0
      have e1 := HVA.out
      rw [hVV] at e1
      have e2 := HVB.out
      rw [hVV] at e2
      dsimp only at e1 e2
      subst e0 e1 e2
      clear HER HVA HVB
      have hval := G.valid_iff.1 hv
      have hrl := G.rates_len hval.lh
      clear hv hE hVV hw
      go_upto_region 2 with (go_at_call 36; (with_reducible refine (open_in q A n c F m d _ HI1.out).mono ?_); rintro e w2 ⟨hb2, _, hyes⟩; obtain ⟨F2, d2, fs2, g, O, co, ord, Fn, kn, rfl, hpf, hL, hM⟩ := hyes HV.out; have HB2 := hide (zbT HB1.out hb2 HB1.out.size); have HZ2 := bkT hb2 HZ; have HPF := hide hpf; have HL := hide hL; clear hyes hb2 hpf hL hM q0 q1 q2 q3 q4 q5 lq)
      refine cap_w (M := Code.wp _ _ _ _) _ (fun w3 hw3 => ?_)
      have HB3 := hide (show Below w.heap.size w w3 by rw [hw3]; exact zbA HB2.out HB2.out.size _)
      have HZ3 := hide (show w3.heap[b1]? = some (.cells #[.int .i64 0, .int .i64 0] 23 (0, 0)) by rw [hw3]; exact (Below.heap_alloc _ _ _ (blk_lt HZ2.out)).trans HZ2.out)
      have HX3 := hide (show w3.heap[w2.heap.size]? = some (.cells #[.int .i64 q.opn, .int .i64 q.lo, .int .i64 q.hi, .int .i64 q.seats, .slice A n c, .slice F2 m d2, .map (some g), .slice O n co] 67 (0, 0)) by rw [hw3]; exact World.alloc_heap_new _ _)
      have HL3 := hide (HL.out.below (show Below w2.heap.size w2 w3 by rw [hw3]; exact zbA (zbR _ _) (Nat.le_refl _) _))
      have hul : (G.upTo q minute).length = (G.rates q).length := by unfold G.upTo; rw [List.length_map]
      have HU0 := hide (show 1 ≤ (G.upTo q minute).length by rw [hul]; have := hval.lh; omega)
      have HU1 := hide (show (G.upTo q minute).length ≤ 1000000 by rw [hul]; have := hval.h1; have := hval.l0; omega)
      have hx3 := HX3.out
      have x0 : w3.cell? ⟨w2.heap.size, 0, none⟩ = some (.int .i64 q.opn) := (blk_cell hx3 0).trans rfl
      have x1 : w3.cell? ⟨w2.heap.size, 1, none⟩ = some (.int .i64 q.lo) := (blk_cell hx3 1).trans rfl
      have x2 : w3.cell? ⟨w2.heap.size, 2, none⟩ = some (.int .i64 q.hi) := (blk_cell hx3 2).trans rfl
      have x3 : w3.cell? ⟨w2.heap.size, 3, none⟩ = some (.int .i64 q.seats) := (blk_cell hx3 3).trans rfl
      have x4 : w3.cell? ⟨w2.heap.size, 4, none⟩ = some (.slice A n c) := (blk_cell hx3 4).trans rfl
      have x5 : w3.cell? ⟨w2.heap.size, 5, none⟩ = some (.slice F2 m d2) := (blk_cell hx3 5).trans rfl
      have x6 : w3.cell? ⟨w2.heap.size, 6, none⟩ = some (.map (some g)) := (blk_cell hx3 6).trans rfl
      have x7 : w3.cell? ⟨w2.heap.size, 7, none⟩ = some (.slice O n co) := (blk_cell hx3 7).trans rfl
      have lx := blk_lt HX3.out
      clear hw3 hval hrl hul hx3
      go_wp2_with (first | (go_at_call 38; (with_reducible refine (within_any minute 0 1440 _).mono ?_); rintro e w' ⟨rfl, rfl⟩; rw [HW.out]) | (go_at_call 42; (with_reducible refine (peopleUpTo_any { q with fs := fs2 } A n c F2 m d2 g O co ord minute _ HL3.out).mono ?_); rintro e w5 ⟨A5, c5, rfl, ho5, hb5⟩; rw [G.upTo_fs HPF.out] at ho5 ⊢; have HO5 := hide ho5; have HZ5 := bkT hb5 HZ3; have HB5 := hide (zbT HB3.out hb5 HB3.out.size); clear ho5 hb5) | (go_at_call 41; (with_reducible refine (spanOf_any A5 _ c5 (G.upTo q minute) _ rfl (owns_RdI HO5.out rfl) HU1.out HU0.out).mono ?_); rintro e w6 ⟨rfl, hb6⟩; have HZ6 := bkT hb6 HZ5; have HB6 := hide (zbT HB5.out hb6 HB5.out.size); clear hb6) | (refine wpList_store_row rfl 23 _ _ rfl b1 _ rfl rfl 23 _ HZ6.out spRow rfl (by simp [Value.oneCell']) ?_))
      refine cap_w (M := bodyPost _ _ _ _ _) _ (fun W9 hW9 => ?_)
      have HR9 := hide (show W9.heap[b1]? = some (.cells #[.int .i64 (G.minL (G.upTo q minute)), .int .i64 (G.maxL (G.upTo q minute))] 23 (0, 0)) by rw [hW9]; exact setRow_heap _ _ _ _ _ _ HZ6.out)
      have HB9 := hide (show Below w.heap.size w W9 by rw [hW9]; exact below_row HB6.out HBB.out _)
      clear hW9
      have s0 : W9.cell? ⟨b1, 0, none⟩ = some (.int .i64 (G.minL (G.upTo q minute))) := (blk_cell HR9.out 0).trans rfl
      have s1 : W9.cell? ⟨b1, 1, none⟩ = some (.int .i64 (G.maxL (G.upTo q minute))) := (blk_cell HR9.out 1).trans rfl
      exact bodyPost_ret (v := .tuple #[.agg #[.int .i64 (G.minL (G.upTo q minute)), .int .i64 (G.maxL (G.upTo q minute))], .int .i64 0]) (by simp [results, Try.results19, go_sem, s0, s1]) rfl ⟨rfl, HB9.out⟩
end Go.Proofs.Ytlpjkolocgkcpaa

namespace Go.Proofs.Ytlpjkolocgkcpaa
open Go.RowKit
attribute [local go_sem ↓] Go.wp_at_zero Go.wp_at_succ

theorem G.idxOf_lt {q : G.Qu} {id : Int} {gi : Nat} (h : G.idxOf q id = some gi) : gi < q.gs.length := by
  unfold G.idxOf at h
  rw [List.findIdx?_eq_some_iff_getElem] at h
  exact h.1
set_option maxHeartbeats 6400000 in
set_option maxRecDepth 100000 in
theorem Enough_any (q : G.Qu) (id : Int) (A : Option Addr) (n c : Nat) (F : Option Addr) (m d : Nat) (w : World) (h : QIn w q A n c F m d) (hid : (Lit.int .i64 id).wf = true) :
    Calls Try.prog 24 #[.agg #[.int .i64 q.opn, .int .i64 q.lo, .int .i64 q.hi, .int .i64 q.seats, .slice A n c, .slice F m d], .int .i64 id] w fun e w' => e = .returned (.tuple #[.int .i64 (G.enoughV q id), .int .i64 (G.enoughE q id)]) ∧ Below w.heap.size w w' := by
  have HI := hide h
  have HID := hide hid
  clear h hid
  cases hv : G.valid q
  · have HV := hide hv
    have hE : G.enoughE q id = 110 := by unfold G.enoughE; rw [hv]; rfl
    have hVV : G.enoughV q id = 0 := by unfold G.enoughV; rw [hv]; rfl
    rw [hE, hVV]
    clear hv hE hVV
    go_enter Try.func24, Try.ntmps24
    go_wp2_with (go_at_call 43; (with_reducible refine (openFor_any q id A n c F m d _ (HI.out.below (show Below w.heap.size w (w.alloc (.cells #[.int .i64 q.opn, .int .i64 q.lo, .int .i64 q.hi, .int .i64 q.seats, .slice A n c, .slice F m d] 27)) from zbA (zbR _ _) (Nat.le_refl _) _)) HID.out).mono ?_); rintro e w2 ⟨hb2, hno, _⟩; obtain rfl := hno HV.out; clear hno; have HB2 := hide (zbT (show Below w.heap.size w (w.alloc (.cells #[.int .i64 q.opn, .int .i64 q.lo, .int .i64 q.hi, .int .i64 q.seats, .slice A n c, .slice F m d] 27)) from zbA (zbR _ _) (Nat.le_refl _) _) hb2 (by simp)); clear hb2)
    go_ret2
    exact ⟨rfl, zbA HB2.out HB2.out.size _⟩
  · have HV := hide hv
    cases hx : G.idxOf q id with
    | none =>
      have HX := hide hx
      have hE : G.enoughE q id = 1 := by unfold G.enoughE; rw [hv, if_pos rfl, hx]
      have hVV : G.enoughV q id = 0 := by unfold G.enoughV; rw [hv, if_pos rfl, hx]
      rw [hE, hVV]
      clear hv hE hVV hx
      go_enter Try.func24, Try.ntmps24
      go_wp2_with (go_at_call 43; (with_reducible refine (openFor_any q id A n c F m d _ (HI.out.below (show Below w.heap.size w (w.alloc (.cells #[.int .i64 q.opn, .int .i64 q.lo, .int .i64 q.hi, .int .i64 q.seats, .slice A n c, .slice F m d] 27)) from zbA (zbR _ _) (Nat.le_refl _) _)) HID.out).mono ?_); rintro e w2 ⟨hb2, _, hyes⟩; obtain rfl := (hyes HV.out).1 HX.out; clear hyes; have HB2 := hide (zbT (show Below w.heap.size w (w.alloc (.cells #[.int .i64 q.opn, .int .i64 q.lo, .int .i64 q.hi, .int .i64 q.seats, .slice A n c, .slice F m d] 27)) from zbA (zbR _ _) (Nat.le_refl _) _) hb2 (by simp)); clear hb2)
      go_ret2
      exact ⟨rfl, zbA HB2.out HB2.out.size _⟩
    | some gi =>
      have HX := hide hx
      have HGI := hide (show gi < n by rw [← HI.out.gl]; exact G.idxOf_lt hx)
      cases he : G.enough q gi with
      | none =>
        have HEN := hide he
        have hE : G.enoughE q id = 3 := by unfold G.enoughE; rw [hv, if_pos rfl, hx]; dsimp only; rw [he]; rfl
        have hVV : G.enoughV q id = 0 := by unfold G.enoughV; rw [hv, if_pos rfl, hx]; dsimp only; rw [he]; rfl
        rw [hE, hVV]
        clear hv hE hVV hx he
        go_enter Try.func24, Try.ntmps24
        go_wp2_with (first | (go_at_call 43; (with_reducible refine (openFor_any q id A n c F m d _ (HI.out.below (show Below w.heap.size w (w.alloc (.cells #[.int .i64 q.opn, .int .i64 q.lo, .int .i64 q.hi, .int .i64 q.seats, .slice A n c, .slice F m d] 27)) from zbA (zbR _ _) (Nat.le_refl _) _)) HID.out).mono ?_); rintro e w2 ⟨hb2, _, hyes⟩; obtain ⟨F2, d2, fs2, g, O, co, ord, rfl, hpf, hL⟩ := (hyes HV.out).2 _ HX.out; have HPF := hide hpf; have HL := hide hL; clear hyes hpf hL; have HB2 := hide (zbT (show Below w.heap.size w (w.alloc (.cells #[.int .i64 q.opn, .int .i64 q.lo, .int .i64 q.hi, .int .i64 q.seats, .slice A n c, .slice F m d] 27)) from zbA (zbR _ _) (Nat.le_refl _) _) hb2 (by simp)); clear hb2) | (go_at_call 48; (with_reducible refine (enough_any { q with fs := fs2 } A n c F2 m d2 g O co ord gi _ (HL.out.below (zbA (zbR _ _) (Nat.le_refl _) _)) HGI.out).mono ?_); rintro e w5 ⟨rfl, hb5⟩; rw [G.enough_fs HPF.out, HEN.out]; have HB5 := hide (zbT (zbA HB2.out HB2.out.size _) hb5 (Nat.le_trans HB2.out.size (by simp))); clear hb5))
        go_ret2
        exact ⟨rfl, HB5.out⟩
      | some s =>
        have HEN := hide he
        have hE : G.enoughE q id = 0 := by unfold G.enoughE; rw [hv, if_pos rfl, hx]; dsimp only; rw [he]; rfl
        have hVV : G.enoughV q id = s := by unfold G.enoughV; rw [hv, if_pos rfl, hx]; dsimp only; rw [he]; rfl
        rw [hE, hVV]
        clear hv hE hVV hx he
        go_enter Try.func24, Try.ntmps24
        go_wp2_with (first | (go_at_call 43; (with_reducible refine (openFor_any q id A n c F m d _ (HI.out.below (show Below w.heap.size w (w.alloc (.cells #[.int .i64 q.opn, .int .i64 q.lo, .int .i64 q.hi, .int .i64 q.seats, .slice A n c, .slice F m d] 27)) from zbA (zbR _ _) (Nat.le_refl _) _)) HID.out).mono ?_); rintro e w2 ⟨hb2, _, hyes⟩; obtain ⟨F2, d2, fs2, g, O, co, ord, rfl, hpf, hL⟩ := (hyes HV.out).2 _ HX.out; have HPF := hide hpf; have HL := hide hL; clear hyes hpf hL; have HB2 := hide (zbT (show Below w.heap.size w (w.alloc (.cells #[.int .i64 q.opn, .int .i64 q.lo, .int .i64 q.hi, .int .i64 q.seats, .slice A n c, .slice F m d] 27)) from zbA (zbR _ _) (Nat.le_refl _) _) hb2 (by simp)); clear hb2) | (go_at_call 48; (with_reducible refine (enough_any { q with fs := fs2 } A n c F2 m d2 g O co ord gi _ (HL.out.below (zbA (zbR _ _) (Nat.le_refl _) _)) HGI.out).mono ?_); rintro e w5 ⟨rfl, hb5⟩; rw [G.enough_fs HPF.out, HEN.out]; have HB5 := hide (zbT (zbA HB2.out HB2.out.size _) hb5 (Nat.le_trans HB2.out.size (by simp))); clear hb5))
        go_ret2
        exact ⟨rfl, HB5.out⟩
end Go.Proofs.Ytlpjkolocgkcpaa

namespace Go.Proofs.Ytlpjkolocgkcpaa
namespace G

theorem foldmin_le : ∀ (l : List Int) (a : Int), (l.foldl (fun a b => if b < a then b else a) a) ≤ a ∧ (∀ x ∈ l, l.foldl (fun a b => if b < a then b else a) a ≤ x) ∧ (l.foldl (fun a b => if b < a then b else a) a = a ∨ l.foldl (fun a b => if b < a then b else a) a ∈ l)
  | [], a => ⟨Int.le_refl _, fun x hx => (by cases hx), .inl rfl⟩
  | b :: r, a => by
    obtain ⟨h1, h2, h3⟩ := foldmin_le r (if b < a then b else a)
    rw [List.foldl_cons]
    refine ⟨?_, fun x hx => ?_, ?_⟩
    · split at h1 <;> rename_i c
      · rw [if_pos c]; omega
      · rw [if_neg c]; omega
    · rcases List.mem_cons.1 hx with rfl | hx
      · split at h1 <;> rename_i c
        · rw [if_pos c]; omega
        · rw [if_neg c]; omega
      · exact h2 x hx
    · rcases h3 with h3 | h3
      · rw [h3]
        split
        · exact .inr (List.mem_cons_self ..)
        · exact .inl rfl
      · exact .inr (List.mem_cons_of_mem _ h3)
theorem foldmax_le : ∀ (l : List Int) (a : Int), a ≤ (l.foldl (fun a b => if a < b then b else a) a) ∧ (∀ x ∈ l, x ≤ l.foldl (fun a b => if a < b then b else a) a) ∧ (l.foldl (fun a b => if a < b then b else a) a = a ∨ l.foldl (fun a b => if a < b then b else a) a ∈ l)
  | [], a => ⟨Int.le_refl _, fun x hx => (by cases hx), .inl rfl⟩
  | b :: r, a => by
    obtain ⟨h1, h2, h3⟩ := foldmax_le r (if a < b then b else a)
    rw [List.foldl_cons]
    refine ⟨?_, fun x hx => ?_, ?_⟩
    · split at h1 <;> rename_i c
      · rw [if_pos c]; omega
      · rw [if_neg c]; omega
    · rcases List.mem_cons.1 hx with rfl | hx
      · split at h1 <;> rename_i c
        · rw [if_pos c]; omega
        · rw [if_neg c]; omega
      · exact h2 x hx
    · rcases h3 with h3 | h3
      · rw [h3]
        split
        · exact .inr (List.mem_cons_self ..)
        · exact .inl rfl
      · exact .inr (List.mem_cons_of_mem _ h3)
theorem minL_le {l : List Int} {x : Int} (h : x ∈ l) : minL l ≤ x := by
  cases l with
  | nil => cases h
  | cons a r =>
    obtain ⟨h1, h2, _⟩ := foldmin_le r a
    rcases List.mem_cons.1 h with rfl | h
    · exact h1
    · exact h2 x h
theorem le_maxL {l : List Int} {x : Int} (h : x ∈ l) : x ≤ maxL l := by
  cases l with
  | nil => cases h
  | cons a r =>
    obtain ⟨h1, h2, _⟩ := foldmax_le r a
    rcases List.mem_cons.1 h with rfl | h
    · exact h1
    · exact h2 x h
theorem minL_mem {l : List Int} (h : l ≠ []) : minL l ∈ l := by
  cases l with
  | nil => exact absurd rfl h
  | cons a r =>
    rcases (foldmin_le r a).2.2 with e | e
    · show r.foldl _ a ∈ _; rw [e]; exact List.mem_cons_self ..
    · exact List.mem_cons_of_mem _ e
theorem maxL_mem {l : List Int} (h : l ≠ []) : maxL l ∈ l := by
  cases l with
  | nil => exact absurd rfl h
  | cons a r =>
    rcases (foldmax_le r a).2.2 with e | e
    · show r.foldl _ a ∈ _; rw [e]; exact List.mem_cons_self ..
    · exact List.mem_cons_of_mem _ e
theorem take_any_mem {l : List Int} {x : Int} (h : x ∈ l) : (l.take l.length).any (fun v => v == x) = true := by
  rw [List.take_of_length_le (Nat.le_refl _), List.any_eq_true]
  exact ⟨x, h, by simp⟩
theorem any_take_step {l : List Int} {k : Nat} {v : Int} (h : l[k]? = some v) (f : Int → Bool) : (l.take (k + 1)).any f = ((l.take k).any f || f v) := by
  rw [List.take_add_one, h, List.any_append]
  simp

def mm (q : Qu) (id : Int) : List Int := match idxOf q id with | none => [] | some g => minutesOf q g
def cnt (q : Qu) (id : Int) (j k : Nat) : Nat := match idxOf q id with | none => 0 | some g => if g < k then j + 1 else j
theorem idxOf_some {q : Qu} {id : Int} {g : Nat} (h : idxOf q id = some g) : ∃ p, q.gs[g]? = some p ∧ p.id = id := by
  unfold idxOf at h
  rw [List.findIdx?_eq_some_iff_getElem] at h
  obtain ⟨hl, h1, _⟩ := h
  exact ⟨_, List.getElem?_eq_getElem hl, by simpa using h1⟩
theorem idxOf_at {q : Qu} (hv : Valid q) {k : Nat} {p : Pt} (h : q.gs[k]? = some p) : idxOf q p.id = some k := by
  unfold idxOf
  rw [List.findIdx?_eq_some_iff_getElem]
  obtain ⟨hl, e⟩ := List.getElem?_eq_some_iff.1 h
  refine ⟨hl, by simp [e], fun j hj => ?_⟩
  simp only [beq_iff_eq]
  intro he
  have hn := hv.gn
  have := (List.pairwise_iff_getElem.1 hn) j k (by rw [List.length_map]; omega) (by rw [List.length_map]; omega) hj
  simp only [List.getElem_map] at this
  rw [e] at this
  exact this he
theorem cnt_start (q : Qu) (id : Int) (j : Nat) : cnt q id j 0 = match idxOf q id with | none => 0 | some _ => j := by
  unfold cnt
  cases idxOf q id <;> simp
theorem cnt_end {q : Qu} {id : Int} (j : Nat) : cnt q id j q.gs.length = cnt q id (j + 1) 0 := by
  unfold cnt
  cases h : idxOf q id with
  | none => rfl
  | some g =>
    obtain ⟨p, hp, _⟩ := idxOf_some h
    have := (List.getElem?_eq_some_iff.1 hp).1
    simp [this]
theorem rates_getU (q : Qu) {j : Nat} (h : j < (q.hi - q.lo + 1).toNat) : (rates q)[j]? = some (q.lo + (j : Int)) := by
  unfold rates
  rw [List.getElem?_map, List.getElem?_range h]
  rfl
theorem mm_get {q : Qu} (hv : Valid q) {j k : Nat} {p : Pt} (hj : j < (q.hi - q.lo + 1).toNat) (h : q.gs[k]? = some p) : (mm q p.id)[j]? = some (look p.id (R q (q.lo + (j : Int)))) := by
  unfold mm
  rw [idxOf_at hv h]
  unfold minutesOf
  dsimp only
  rw [List.getElem?_map, rates_getU q hj]
  simp only [Option.map_some]
  rw [List.getD_eq_getElem?_getD, enter_getT q _ h]
  rfl
theorem cnt_no {q : Qu} {id : Int} {j k : Nat} {p : Pt} (h : q.gs[k]? = some p) (hne : p.id ≠ id) : cnt q id j (k + 1) = cnt q id j k := by
  unfold cnt
  cases hi : idxOf q id with
  | none => rfl
  | some g =>
    obtain ⟨p', hp', e⟩ := idxOf_some hi
    have hg : g ≠ k := by
      rintro rfl
      rw [h] at hp'
      cases hp'
      exact hne e
    dsimp only
    by_cases c : g < k
    · rw [if_pos c, if_pos (by omega)]
    · rw [if_neg c, if_neg (by omega)]
theorem cnt_yes {q : Qu} (hv : Valid q) {j k : Nat} {p : Pt} (h : q.gs[k]? = some p) : cnt q p.id j k = j ∧ cnt q p.id j (k + 1) = j + 1 := by
  unfold cnt
  rw [idxOf_at hv h]
  simp
theorem mm_len {q : Qu} {id : Int} {g : Nat} (h : idxOf q id = some g) : (mm q id).length = (q.hi - q.lo + 1).toNat := by
  unfold mm minutesOf rates
  rw [h]
  simp
theorem inside_eq {q : Qu} (hv : Valid q) {rate : Int} (hr : 1 ≤ rate) (m : Int) : inside1 q m (enter q rate) = inK q rate m q.gs.length := by
  unfold inside1 inK
  rw [List.take_of_length_le (Nat.le_refl _)]
  congr 1
  refine List.ext_getElem? (fun i => ?_)
  rw [List.getElem?_map, List.getElem?_map]
  cases h : q.gs[i]? with
  | none =>
    have : (q.gs.zip (enter q rate))[i]? = none := by
      rw [List.getElem?_eq_none_iff] at h ⊢
      rw [List.length_zip]
      omega
    rw [this]
    rfl
  | some p =>
    have hz : (q.gs.zip (enter q rate))[i]? = some (p, look p.id (R q rate)) := by
      rw [List.getElem?_zip_eq_some]
      exact ⟨h, enter_getT q rate h⟩
    rw [hz]
    simp only [Option.map_some, Option.some.injEq]
    rcases enter_fairT hv hr h with e | ⟨e, _⟩
    · rw [e]; simp
    · by_cases c : look p.id (R q rate) ≤ m
      · rw [if_pos ⟨by omega, c⟩, if_pos ⟨e, c⟩]
      · rw [if_neg (fun x => c x.2), if_neg (fun x => c x.2)]
theorem upTo_get {q : Qu} (hv : Valid q) (m : Int) {j : Nat} (hj : j < (q.hi - q.lo + 1).toNat) : (upTo q m)[j]? = some (inK q (q.lo + (j : Int)) m q.gs.length) := by
  unfold upTo
  rw [List.getElem?_map, rates_getU q hj]
  simp only [Option.map_some]
  rw [inside_eq hv (by have := hv.l0; omega)]
theorem upTo_len (q : Qu) (m : Int) : (upTo q m).length = (q.hi - q.lo + 1).toNat := by
  unfold upTo rates
  simp
theorem sure_cases {q : Qu} (hv : Valid q) (id : Int) :
    (idxOf q id = none ∧ sureE q id = 1) ∨ (∃ g, idxOf q id = some g ∧ sureE q id = 3 ∧ (mm q id).any (fun v => decide (v < 0)) = true) ∨
    (∃ g, idxOf q id = some g ∧ sureE q id = 0 ∧ (mm q id).any (fun v => decide (v < 0)) = false ∧ sureV q id = (minL (mm q id), maxL (mm q id))) := by
  have hval := valid_iff.2 hv
  cases h : idxOf q id with
  | none => exact .inl ⟨rfl, by unfold sureE; rw [if_pos hval, h]⟩
  | some g =>
    obtain ⟨p, hp, rfl⟩ := idxOf_some h
    have hm : mm q p.id = minutesOf q g := by unfold mm; rw [h]
    have hge : ∀ v ∈ mm q p.id, v = -1 ∨ 0 ≤ v := by
      intro v hvm
      obtain ⟨j, hj⟩ := List.mem_iff_getElem?.1 hvm
      have hjl : j < (q.hi - q.lo + 1).toNat := by rw [← mm_len h]; exact (List.getElem?_eq_some_iff.1 hj).1
      rw [mm_get hv hjl hp] at hj
      cases hj
      rcases enter_fairT hv (rate := q.lo + (j : Int)) (by have := hv.l0; omega) hp with e | ⟨e, _⟩
      · exact .inl e
      · exact .inr e
    by_cases hc : (minutesOf q g).contains (-1) = true
    · refine .inr (.inl ⟨g, rfl, by unfold sureE; rw [if_pos hval, h]; simp only []; rw [if_pos hc], ?_⟩)
      rw [List.any_eq_true]
      refine ⟨-1, ?_, by decide⟩
      rw [hm]
      exact List.contains_iff_mem.1 hc
    · have hE : sureE q p.id = 0 := by unfold sureE; rw [if_pos hval, h]; simp only []; rw [if_neg hc]
      refine .inr (.inr ⟨g, rfl, hE, ?_, by unfold sureV; rw [if_pos hE, h, hm]⟩)
      rw [List.any_eq_false]
      intro v hvm
      rcases hge v hvm with e | e
      · subst e
        rw [hm] at hvm
        exact absurd (List.contains_iff_mem.2 hvm) hc
      · simp; omega
end G
end Go.Proofs.Ytlpjkolocgkcpaa

namespace Go.Proofs.Ytlpjkolocgkcpaa
open Go

section
variable {P : Program} {ops : Array Oper} {md : Region.Mode} {w : World}

def upTo (N : Nat) : Nat → Array Bool
  | 0 => Array.replicate N false
  | k + 1 => (upTo N k).setIfInBounds k true
def gateB (md : Region.Mode) (ops : Array Oper) (k n : Nat) : Bool :=
  ((List.range n).all fun i => decide (i < k) || (List.range (n + 1)).any fun j => decide (i < j) && Region.waitsFor md ops j i) &&
  ((List.range ops.size).all fun t => decide (t ≤ n) || (List.range t).any fun j => decide (n ≤ j) && Region.waitsFor md ops t j)
def gateAtB (md : Region.Mode) (ops : Array Oper) (k n : Nat) (listed : Array Bool) : Bool :=
  (listed.size == ops.size) &&
  ((List.range ops.size).all fun j => !listed.getD j false || match ops[j]? with
    | some oj => oj.after.all fun e => !Region.binds md e || listed.getD e.on false
    | none => true) &&
  ((List.range k).all fun i => listed.getD i false) &&
  ((List.range ops.size).all fun t => decide (t < n) || !listed.getD t true)
def segRun (md : Region.Mode) (ops : Array Oper) : Nat → Nat → Array Bool → Option (Array Bool)
  | 0, _, listed => some listed
  | f + 1, k, listed => if ((Region.ready md ops listed).contains k && Region.free md ops listed k) = true then segRun md ops f (k + 1) (listed.setIfInBounds k true) else none
def segB (md : Region.Mode) (ops : Array Oper) (k n : Nat) : Bool :=
  Region.noSelect ops && decide (k ≤ n) && decide (n < ops.size) && gateB md ops k n && gateAtB md ops k n (upTo ops.size k) &&
  (segRun md ops (n - k) k (upTo ops.size k) == some (upTo ops.size n)) && (Region.ready md ops (upTo ops.size n) == [n])

structure GateAt (md : Region.Mode) (ops : Array Oper) (k n : Nat) (listed : Array Bool) : Prop where
  size : listed.size = ops.size
  closed : ∀ j oj, ops[j]? = some oj → listed.getD j false = true → ∀ e ∈ oj.after, Region.binds md e = true → listed.getD e.on false = true
  low : ∀ i, i < k → listed.getD i false = true
  high : ∀ t, n ≤ t → t < ops.size → listed.getD t true = false

theorem gateAt_of {k n : Nat} {listed : Array Bool} (h : gateAtB md ops k n listed = true) : GateAt md ops k n listed := by
  unfold gateAtB at h
  simp only [Bool.and_eq_true, List.all_eq_true, List.mem_range, beq_iff_eq] at h
  obtain ⟨⟨⟨h1, h2⟩, h3⟩, h4⟩ := h
  refine ⟨h1, fun j oj hj hl e he hb => ?_, h3, fun t ht hs => ?_⟩
  · have h5 := h2 j (Array.getElem?_eq_some_iff.1 hj).1
    rw [hj, hl] at h5
    simp only [Bool.not_true, Bool.false_or] at h5
    have h6 := (Array.all_eq_true_iff_forall_mem.1 h5) e he
    rw [hb] at h6
    simpa using h6
  · have h5 := h4 t hs
    rw [decide_eq_false (by omega : ¬ t < n)] at h5
    simpa using h5

theorem GateAt.put {k n i : Nat} {listed : Array Bool} (h : GateAt md ops k n listed) (hi : i ∈ Region.ready md ops listed) (hn : i < n) : GateAt md ops k n (listed.setIfInBounds i true) := by
  obtain ⟨_, oi, ho, hd⟩ := mem_ready.1 hi
  refine ⟨by rw [Array.size_setIfInBounds]; exact h.size, ?_, fun j hj => getD_set_true (h.low j hj), ?_⟩
  · intro j oj hj hl e he hb
    refine getD_set_true ?_
    rcases Nat.decEq i j with hne | heq
    · rw [getD_set_ne false hne] at hl
      exact h.closed j oj hj hl e he hb
    · subst heq
      rw [ho] at hj
      rw [← Option.some.inj hj] at he
      exact hd e he hb
  · intro t ht hs
    rw [getD_set_ne true (by omega)]
    exact h.high t ht hs

theorem gate_shut {k n : Nat} {listed : Array Bool} (hg : gateB md ops k n = true) (hn : n < ops.size) (h : GateAt md ops k n listed) {i : Nat} (hi : i < n) (hu : listed.getD i true = false) : ∀ t, n ≤ t → t ∉ Region.ready md ops listed := by
  unfold gateB at hg
  simp only [Bool.and_eq_true, List.all_eq_true, List.mem_range, Bool.or_eq_true, decide_eq_true_eq, List.any_eq_true] at hg
  obtain ⟨g1, g2⟩ := hg
  have hnr : ∀ (d i : Nat), n - i ≤ d → i < n → listed.getD i true = false → n ∉ Region.ready md ops listed := by
    intro d
    induction d with
    | zero => intro i hd hi; omega
    | succ d ih =>
      intro i hd hi hu hr
      have hu' := getD_both hu
      have hk : ¬ i < k := fun hk => by rw [h.low i hk] at hu'; cases hu'
      obtain ⟨j, hj, hij, hw⟩ := (g1 i hi).resolve_left hk
      obtain ⟨oj, hoj, e, he, hb, hon⟩ := Region.waitsFor_spec hw
      rcases Nat.lt_or_ge j n with hjn | hjn
      · have hjs : j < listed.size := by rw [h.size]; omega
        cases hl : listed.getD j false with
        | false => exact ih j (by omega) hjn (getD_in hjs hl) hr
        | true =>
          have := h.closed j oj hoj hl e he hb
          rw [hon, hu'] at this
          cases this
      · have hjn' : j = n := by omega
        subst hjn'
        obtain ⟨_, on, ho, hd'⟩ := mem_ready.1 hr
        rw [ho] at hoj
        rw [← Option.some.inj hoj] at he
        have := hd' e he hb
        rw [hon, hu'] at this
        cases this
  intro t ht hr
  rcases Nat.lt_or_ge n t with h1 | h1
  · obtain ⟨_, ot, ho, hd⟩ := mem_ready.1 hr
    have hts := (Array.getElem?_eq_some_iff.1 ho).1
    obtain ⟨j, hj, hnj, hw⟩ := (g2 t hts).resolve_left (by omega)
    obtain ⟨o', ho', e, he, hb, hon⟩ := Region.waitsFor_spec hw
    rw [ho] at ho'
    rw [← Option.some.inj ho'] at he
    have h2 := hd e he hb
    rw [hon, getD_both (h.high j hnj (by omega))] at h2
    cases h2
  · have : t = n := by omega
    subst this
    exact hnr t i (by omega) hi hu hr

theorem seg_first {k n i : Nat} {oi : Oper} {v : Value} {L : Array Bool → Act → Prop} (hi : ops[i]? = some oi) (hsel : ∀ (j : Nat) (o : Oper) cs b, ops[j]? = some o → o.op ≠ .select cs b)
    (hg : gateB md ops k n = true) (hn : n < ops.size) (hin : i < n) (hend : ∀ listed a, L listed a → ∀ j ∈ Region.ready md ops listed, n ≤ j) :
    ∀ (f : Nat) (listed : Array Bool) (a : Act), GateAt md ops k n listed →
      (∀ j oj, ops[j]? = some oj → j ≠ i → listed.getD j true = false → (∀ e ∈ oj.after, Region.binds md e = true → e.on ≠ i) → oi.apart ops oj = true) →
      i ∈ Region.ready md ops listed → YieldsAt P ops w oi v a →
      wpAnyL P md ops w n L f (listed.setIfInBounds i true) (a.put oi.dst v) → wpAnyL P md ops w n L (f + 1) listed a
  | f, listed, a, hG, hfree, hr, hy, H => by
    have hun := (mem_ready.1 hr).1
    refine ⟨List.ne_nil_of_mem hr, fun j hj => ?_⟩
    have hjn : j < n := Nat.lt_of_not_le fun h => gate_shut hg hn hG hin hun j h hj
    refine ⟨hjn, ?_⟩
    by_cases e : j = i
    · subst e; exact hy.stOp hi H
    · match f, H with
      | 0, H => exact absurd (hend _ _ H j (ready_mono hj e)) (by omega)
      | f + 1, H =>
        obtain ⟨hju, oj, hoj, hall⟩ := mem_ready.1 hj
        have hisz : i < listed.size := by rw [hG.size]; omega
        have hno : ∀ e ∈ oj.after, Region.binds md e = true → e.on ≠ i := fun e he hb hq => by
          have h1 := hall e he hb
          rw [hq, getD_both hun] at h1
          cases h1
        have step := stOp_put hoj (hfree j oj hoj e hju hno) (fun cs b => hsel i oi cs b hi) (fun cs b => hsel j oj cs b hoj) hy (H.2 j (ready_mono hj e)).2
        refine stOp_mono (fun a' h3 => ?_) step
        refine seg_first hi hsel hg hn hin hend f (listed.setIfInBounds j true) a' (hG.put hj hjn) (fun q oq hq hqi hqu hqn => ?_) (ready_mono hr (Ne.symm e)) h3.1 ?_
        · refine hfree q oq hq hqi ?_ hqn
          by_cases hjq : j = q
          · rw [← hjq]; exact hju
          · rw [getD_set_ne true hjq] at hqu; exact hqu
        · rw [Array.setIfInBounds_comm _ _ e]
          exact h3.2

theorem seg_lex {k0 n : Nat} {Lq : Act → Prop} {lend : Array Bool} (hsel : Region.noSelect ops = true) (hg : gateB md ops k0 n = true) (hn : n < ops.size) (hend : ∀ j ∈ Region.ready md ops lend, n ≤ j) :
    ∀ (l : List Oper) (k : Nat) (listed : Array Bool) (a : Act), (∀ j, j < l.length → l[j]? = ops[k + j]?) → k + l.length = n → GateAt md ops k0 n listed →
    segRun md ops l.length k listed = some lend → wpStill P ops w Lq l a → wpAnyL P md ops w n (fun li a' => li = lend ∧ Lq a') l.length listed a
  | [], k, listed, a, _, _, _, hB, h => ⟨Option.some.inj hB, h⟩
  | o :: l, k, listed, a, hl, hk, hG, hB, h => by
    have h0 : ops[k]? = some o := (hl 0 (by simp)).symm
    rw [List.length_cons] at hk
    rw [List.length_cons, segRun] at hB
    split at hB
    · rename_i hc
      rw [Bool.and_eq_true, List.contains_eq_mem, decide_eq_true_eq] at hc
      have hst : stOp P ops w k (wpStill P ops w Lq l) a := by unfold stOp; rw [h0]; exact h
      obtain ⟨v, hy, hK⟩ := yieldsAt_of_stOp h0 hst
      refine seg_first h0 (Region.noSelect_spec hsel) hg hn (by omega) (fun li a' hL => by rw [hL.1]; exact hend) l.length listed a hG (Region.free_spec h0 hc.2) hc.1 hy ?_
      exact seg_lex hsel hg hn hend l (k + 1) _ _ (fun j hj => by
        have := hl (j + 1) (by rw [List.length_cons]; omega)
        rw [show k + 1 + j = k + (j + 1) by omega, ← this]; rfl) (by omega) (hG.put hc.1 (by omega)) hB hK
    · cases hB

theorem wpAny_seg {Q' : Exit → Act → World → Prop} {a : Act} (k n : Nat) (l : List Oper) (hl : ∀ j, j < l.length → l[j]? = ops[k + j]?) (hk : k + l.length = n) (hB : segB md ops k n = true)
    (h : wpStill P ops w (fun a' => wpOp P ops Q' n (wpAny P md ops Q' (ops.size - (n + 1)) (upTo ops.size (n + 1))) a' w) l a) : wpAny P md ops Q' (ops.size - k) (upTo ops.size k) a w := by
  unfold segB at hB
  simp only [Bool.and_eq_true, decide_eq_true_eq, beq_iff_eq] at hB
  obtain ⟨⟨⟨⟨⟨⟨hsel, _⟩, hn⟩, hg⟩, hga⟩, hrun⟩, hrd⟩ := hB
  have hlen : n - k = l.length := by omega
  rw [hlen] at hrun
  have H := seg_lex hsel hg hn (fun j hj => by rw [hrd] at hj; have := List.mem_singleton.1 hj; omega) l k _ a hl hk (gateAt_of hga) hrun h
  have := wpAny_of_head (Q' := Q') (g := ops.size - n) (fun li a' hL => by
    obtain ⟨rfl, hL⟩ := hL
    rw [show ops.size - n = (ops.size - (n + 1)) + 1 by omega]
    refine ⟨fun h0 => (by rw [hrd] at h0; cases h0), fun i hi => ?_⟩
    rw [hrd] at hi
    rw [List.mem_singleton.1 hi]
    exact hL) _ _ _ H
  rw [show l.length + (ops.size - n) = ops.size - k by omega] at this
  exact this
theorem wpAny_segEnd {Q' : Exit → Act → World → Prop} {a : Act} (k : Nat) (l : List Oper) (hl : ∀ j, l[j]? = ops[k + j]?) (hk : k + l.length = ops.size) (hB : (Region.noSelect ops && Region.lexFrom md ops l.length k (upTo ops.size k)) = true)
    (h : wpStill P ops w (fun a' => Q' .normal a' w) l a) : wpAny P md ops Q' (ops.size - k) (upTo ops.size k) a w := by
  rw [Bool.and_eq_true] at hB
  have := wpAny_of_still (Q' := Q') (fun _ h => h) _ _ _ (wpAnyS_lex hB.1 l k _ a hl hB.2 h)
  rw [show l.length = ops.size - k by omega] at this
  exact this

theorem segTake_get {l : List Oper} {n : Nat} : ∀ j, j < (l.take n).length → (l.take n)[j]? = l.toArray[0 + j]? := fun j hj => by
  rw [List.length_take] at hj
  rw [List.getElem?_take, if_pos (by omega)]; simp
theorem segDrop_get {l : List Oper} {k : Nat} : ∀ j, (l.drop k)[j]? = l.toArray[k + j]? := fun j => by simp
theorem segDrop_len {l : List Oper} {k : Nat} (h : k ≤ l.length) : k + (l.drop k).length = l.toArray.size := by simp; omega

theorem wp_region_seg {id : Nat} {Q : Exit → Act → World → Prop} {a : Act} {w : World} {l : List Oper} (n : Nat) (hm : P.follows .mixedOrders = true) (hB : segB .any l.toArray 0 n = true)
    (h : wpStill P l.toArray w.drew (fun a' => wpOp P l.toArray Q n (wpAny P .any l.toArray Q (l.toArray.size - (n + 1)) (upTo l.toArray.size (n + 1))) a' w.drew) (l.take n) a) : (Code.region id l.toArray true).wp P Q a w := by
  have hn : n < l.length := by
    unfold segB at hB
    simp only [Bool.and_eq_true, decide_eq_true_eq] at hB
    simpa using hB.1.1.1.1.2
  refine wp_region_any hm ?_
  have := wpAny_seg (P := P) (md := .any) (Q' := Q) 0 n (l.take n) segTake_get (by rw [List.length_take]; omega) hB h
  exact this
theorem wpAny_end {Q : Exit → Act → World → Prop} {a : Act} {w : World} {l : List Oper} {k : Nat} (hk : k ≤ l.length) (hB : (Region.noSelect l.toArray && Region.lexFrom .any l.toArray (l.drop k).length k (upTo l.toArray.size k)) = true)
    (h : wpStill P l.toArray w (fun a' => Q .normal a' w) (l.drop k) a) : wpAny P .any l.toArray Q (l.toArray.size - k) (upTo l.toArray.size k) a w :=
  wpAny_segEnd k _ segDrop_get (segDrop_len hk) hB h

end
end Go.Proofs.Ytlpjkolocgkcpaa

namespace Go.Proofs.Ytlpjkolocgkcpaa
open Go.RowKit

theorem set_grown (w : World) (p : Addr) (v : Value) : w.grownBy (w.setCell p v) (some p.block) :=
  ⟨rfl, rfl, rfl, by simp, fun k _ hk => Below.heap_setCell _ _ _ k (fun e => hk (by rw [e]))⟩
theorem row_ne' {w : World} {base b : Nat} {e : TypeId} {n size : Nat} {xs : List Value} {v : Value} (h : w.ownsRow base e size v n xs) (hb : b < base) : v.ownBlock ≠ some b := by
  rcases h.2 with ⟨rfl, _⟩ | ⟨g, cap, cur, rfl, hg, _⟩
  · simp [Value.ownBlock]
  · intro he
    have : g = b := by simpa [Value.ownBlock] using he
    omega
theorem gr_below {a w w' : World} {g : Nat} (h : Below a.heap.size a w) (hg : w.grownBy w' (some g)) (hb : a.heap.size ≤ g) : Below a.heap.size a w' :=
  zbT h (grown_below (B := a.heap.size) hg h.size (fun g' e => by have := Option.some.inj e; omega)) (Nat.le_refl _)
theorem gr_ofR {w w' : World} {row : Option Nat} (h : Below w.heap.size w w') : w.grownBy w' row := ⟨h.os, h.tape, h.output, h.size, fun i hi _ => h.block i hi⟩
theorem gr_drewNR {w w' : World} {row : Option Nat} (h : w.grownBy w' row) (n : Nat) : w.grownBy (w'.drewN n) row := ⟨h.os, h.tape, h.output, h.size, h.block⟩
theorem opStore {P : Program} {ops : Array Oper} {Q : Exit → Act → World → Prop} {i : Nat} {K : Act → World → Prop} {a : Act} {o : Oper} {w : World} {w' : World} (ho : ops[i]? = some o) (hd : o.dst = none) (hw : Region.wanted o (yielded ops a.tmps) = true) (hx : (execOp a.eval o).run P w = .ok .skip w')
    (h : K a w') : wpOp P ops Q i K a w := by
  unfold wpOp
  rw [ho]
  simp only [hw, if_true]
  refine .inl ?_
  unfold Oper.wp
  rw [hx, Oper.upon_skip, hd]
  exact h
end Go.Proofs.Ytlpjkolocgkcpaa
