/-
  For every field, all notices, whatever hour and however far notices are moved the law EntryOrder returns true and leaves its arguments as they were. No condition.
-/
import Derived.Deep.MidRow
import Derived.BigQuiet
import Derived.Test.YtklomhmdiflfaaaProg
import Derived.StillTail
import Derived.Deep.Cut
import Derived.Deep.CutRange
import Derived.Deep.CutBlock
import Derived.Test.YtklomhmdiflfaaaZB02
import Derived.Test.YtklomhmdiflfaaaZB03
import Derived.Test.YtklomhmdiflfaaaZB06
namespace Go.Proofs.Ytklomhmdiflfaaa
open Go.RowKit Go.Sort
attribute [local go_sem ↓] Go.wp_at_zero Go.wp_at_succ

theorem flatN_div {xs : List E.Nt} {j : Nat} {u : Value} (h : (flatN xs)[j]? = some u) : ∃ x, xs[j / 5]? = some x ∧ (nc x)[j % 5]? = some u := by
  have hj : j < xs.length * 5 := by rw [← flatN_length]; exact (List.getElem?_eq_some_iff.1 h).1
  have hk : j / 5 < xs.length := by omega
  refine ⟨xs[j / 5], List.getElem?_eq_getElem hk, ?_⟩
  rw [← flatN_at xs (j / 5) _ (j % 5) (List.getElem?_eq_getElem hk) (by omega), ← h]
  congr 1
  omega
theorem RdN.cellAt {w : World} {B : Nat} {ad : Addr} {xs : List E.Nt} (h : RdN w B (some ad) xs) {j : Nat} {u : Value} (hj : (flatN xs)[j]? = some u) : w.cell? (ad.add j) = some u := by
  obtain ⟨x, hx, hu⟩ := flatN_div hj
  obtain ⟨b, o, e, _, c0, c1, c2, c3, c4⟩ := h (j / 5) x hx
  have e' := Option.some.inj e
  subst e'
  rw [add_plain]
  have hm : j % 5 < 5 := by omega
  have hd : o + j = o + j / 5 * 5 + j % 5 := by omega
  rw [hd]
  unfold nc at hu
  match hq : j % 5, hm with
  | 0, _ => rw [hq] at hu; rw [← Option.some.inj hu]; exact c0
  | 1, _ => rw [hq] at hu; rw [← Option.some.inj hu]; exact c1
  | 2, _ => rw [hq] at hu; rw [← Option.some.inj hu]; exact c2
  | 3, _ => rw [hq] at hu; rw [← Option.some.inj hu]; exact c3
  | 4, _ => rw [hq] at hu; rw [← Option.some.inj hu]; exact c4
theorem run_app_Ns {w : World} (ty : TypeId) (base : Nat) (v : Value) (ps : List E.Nt) (m0 : Nat) (hown : w.ownsRow base 40 5 v m0 (flatN ps)) (hlen : ps.length = m0)
    (A : Option Addr) (n c : Nat) (xs : List E.Nt) (hn : xs.length = n) (hr : RdN w w.heap.size A xs) (hA : A = none → c = 0) (h0 : m0 ≤ 1000) (h1 : n ≤ 1000) (hbase : base ≤ w.heap.size) :
    ∃ A' c' w', (Builtin.append_ #[24, 24] ty #[v, .slice A n c]).run Try.prog w = .ok (.slice A' (m0 + n) c') w' ∧ w'.ownsRow base 40 5 (.slice A' (m0 + n) c') (m0 + n) (flatN (ps ++ xs)) ∧ w.grownBy w' v.ownBlock := by
  obtain ⟨i, hi, hz0, hz1, hz2⟩ := info_parts nt_info
  rcases A with _ | ad
  · have hx0 : xs = [] := by
      match xs, hr with
      | [], _ => rfl
      | x :: r, hr => obtain ⟨_, _, e, _⟩ := hr 0 x rfl; cases e
    subst hx0
    have hn0 : n = 0 := by simpa using hn.symm
    subst hn0
    have hc0 := hA rfl
    subst hc0
    obtain ⟨A', c', rfl⟩ := own_form hown
    have hrun := run_append_owned_none (P := Try.prog) (w := w) base 24 ty 40 i 5 Try.underlying24 hi (.slice A' m0 c') m0 (flatN ps) hown
    exact ⟨A', c', w, hrun, by simpa using hown, World.grownBy.refl w _⟩
  · obtain ⟨v', w', hrun, h2, h3, _, _⟩ := run_append_own_at (P := Try.prog) w base 24 ty 40 i _ 5 40 Try.underlying24 hi hz0 hz1 hz2 (by rfl) (by decide) v m0 (flatN ps) hown ad n c (flatN xs) (by rw [flatN_length, hn]) (by
      intro j u hj
      exact hr.cellAt hj) (flatN_one xs) (by unfold maxLen; omega) (by omega) hbase
    obtain ⟨A', c', rfl⟩ := own_form h2
    exact ⟨A', c', w', hrun, by rw [flatN_app]; exact h2, h3⟩
theorem wpList_app_Ns {w : World} {ops : Array Oper} {rest : List Oper} {o : Oper} {a : Act} {Q : Exit → Act → World → Prop} (hgd : o.guard = none) (s x : Operand)
    (ho : o.op = .call { callee := .builtin .append, args := #[s, x], argTypes := #[24, 24] }) (base : Nat) (v : Value) (ps : List E.Nt) (m0 : Nat) (hs : a.eval s = v) (hown : w.ownsRow base 40 5 v m0 (flatN ps)) (hlen : ps.length = m0)
    (A : Option Addr) (n c : Nat) (xs : List E.Nt) (hx : a.eval x = .slice A n c) (hn : xs.length = n) (hr : RdN w w.heap.size A xs) (hA : A = none → c = 0) (h0 : m0 ≤ 1000) (h1 : n ≤ 1000) (hbase : base ≤ w.heap.size) (N : Nat) (hN : m0 + n = N)
    (h : ∀ A' c' w', w'.ownsRow base 40 5 (.slice A' N c') N (flatN (ps ++ xs)) → w.grownBy w' v.ownBlock → wpList Try.prog ops Q rest (a.put o.dst (.slice A' N c')) w') :
    wpList Try.prog ops Q (o :: rest) a w := by
  subst hN
  refine wpList_plain hgd fun K hK => ?_
  obtain ⟨A', c', w', hr', h2, h3⟩ := run_app_Ns o.type base v ps m0 hown hlen A n c xs hn hr hA h0 h1 hbase
  unfold Oper.wp execOp
  simp only [ho, resolve, invoke, builtin, Sem.run_bind, Sem.run_pure, Result.andThen_ok, List.map_toArray, List.map_cons, List.map_nil, hs, hx, hr']
  exact hK _ _ (h A' c' w' h2 h3)
theorem ownsN_empty {w : World} {q B : Nat} (hq : w.heap[q]? = some (.cells #[] 40 (0, 0))) (h : B ≤ q) : w.ownsRow B 40 5 (.slice (some ⟨q, 0, Option.none⟩) 0 0) 0 (flatN []) :=
  ⟨rfl, .inr ⟨q, 0, #[], rfl, h, hq, Nat.le_refl _, Nat.zero_le _, rfl, rfl⟩⟩
theorem ownsN_nil (w : World) (B : Nat) : w.ownsRow B 40 5 (.slice Option.none 0 0) 0 (flatN []) := ⟨rfl, .inl ⟨rfl, rfl⟩⟩

def set5 (L : List Value) (o : Nat) (y : E.Nt) : List Value := ((((L.set o (.int .i64 y.id)).set (o + 1) (.int .i64 y.hour)).set (o + 2) (.int .i64 y.kind)).set (o + 3) (.int .i64 y.player)).set (o + 4) (.int .i64 y.rank)
theorem set5_flat : ∀ (xs : List E.Nt) (k : Nat) (y : E.Nt), set5 (flatN xs) (k * 5) y = flatN (xs.set k y)
  | [], k, y => by simp [flatN, set5]
  | x :: r, 0, y => by
    show set5 (nc x ++ flatN r) 0 y = nc y ++ flatN r
    rfl
  | x :: r, k + 1, y => by
    have ih := set5_flat r k y
    have e : (k + 1) * 5 = k * 5 + 5 := by omega
    rw [e]
    show set5 (nc x ++ flatN r) (k * 5 + 5) y = nc x ++ flatN (r.set k y)
    rw [← ih]
    rfl
theorem set5_take (L : List Value) (o n : Nat) (y : E.Nt) : (set5 L o y).take n = set5 (L.take n) o y := by
  unfold set5
  simp only [List.take_set]
theorem heap_set5 {w : World} {g : Nat} {cur : Array Value} {t : TypeId} (h : w.heap[g]? = some (.cells cur t (0, 0))) (o : Nat) (y : E.Nt) : ∃ cur', (w.setCells g o (nc y)).heap[g]? = some (.cells cur' t (0, 0)) ∧ cur'.toList = set5 cur.toList o y := by
  have h1 := blk_set h o (.int .i64 y.id)
  have h2 := blk_set h1 (o + 1) (.int .i64 y.hour)
  have h3 := blk_set h2 (o + 2) (.int .i64 y.kind)
  have h4 := blk_set h3 (o + 3) (.int .i64 y.player)
  have h5 := blk_set h4 (o + 4) (.int .i64 y.rank)
  refine ⟨_, h5, ?_⟩
  simp only [Array.toList_setIfInBounds]
  rfl
theorem grown_set5 (w : World) (g o : Nat) (y : E.Nt) : w.grownBy (w.setCells g o (nc y)) (some g) := by
  have e : w.setCells g o (nc y) = ((((w.setCell ⟨g, o, Option.none⟩ (.int .i64 y.id)).setCell ⟨g, o + 1, Option.none⟩ (.int .i64 y.hour)).setCell ⟨g, o + 2, Option.none⟩ (.int .i64 y.kind)).setCell ⟨g, o + 3, Option.none⟩ (.int .i64 y.player)).setCell ⟨g, o + 4, Option.none⟩ (.int .i64 y.rank) := rfl
  rw [e]
  exact gr_trans (gr_trans (gr_trans (gr_trans (gr_set _ _ _ _) (gr_set _ _ _ _)) (gr_set _ _ _ _)) (gr_set _ _ _ _)) (gr_set _ _ _ _)
theorem own_set5 {w : World} {base g N c : Nat} {ms : List E.Nt} (h : w.ownsRow base 40 5 (.slice (some ⟨g, 0, Option.none⟩) N c) N (flatN ms)) (hlen : ms.length = N) (k : Nat) (y : E.Nt) : (w.setCells g (k * 5) (nc y)).ownsRow base 40 5 (.slice (some ⟨g, 0, Option.none⟩) N c) N (flatN (ms.set k y)) := by
  obtain ⟨h1, ⟨h2, _⟩ | ⟨g', cap, cur, e, hb, hblk, hc1, hc2, hsz, htk⟩⟩ := h
  · cases h2
  · simp only [Value.slice.injEq, Option.some.injEq, Addr.mk.injEq] at e
    obtain ⟨⟨rfl, _⟩, _, rfl⟩ := e
    obtain ⟨cur', hb', hl'⟩ := heap_set5 hblk (k * 5) y
    refine ⟨by rw [flatN_length, List.length_set, hlen], .inr ⟨g, c, cur', rfl, hb, hb', hc1, hc2, ?_, ?_⟩⟩
    · have : cur'.size = cur.size := by
        rw [← Array.length_toList, hl', ← Array.length_toList]
        unfold set5
        simp only [List.length_set]
      rw [this, hsz]
    · rw [hl', set5_take, htk, set5_flat]
theorem own_there {w : World} {base g N c : Nat} {ms : List E.Nt} (h : w.ownsRow base 40 5 (.slice (some ⟨g, 0, Option.none⟩) N c) N (flatN ms)) {k : Nat} (hk : k < N) : w.there g (k * 5) 5 := by
  obtain ⟨h1, ⟨h2, _⟩ | ⟨g', cap, cur, e, hb, hblk, hc1, hc2, hsz, htk⟩⟩ := h
  · cases h2
  · simp only [Value.slice.injEq, Option.some.injEq, Addr.mk.injEq] at e
    obtain ⟨⟨rfl, _⟩, _, rfl⟩ := e
    intro j hj
    refine ⟨?_, blk_frozen hblk _⟩
    rw [blk_cell hblk]
    have : k * 5 + j < cur.size := by rw [hsz]; have := Nat.mul_le_mul_right 5 (show k + 1 ≤ c by omega); omega
    rw [Array.getElem?_eq_getElem this]
    rfl
theorem nc_one (y : E.Nt) : (nc y).toArray.all (·.oneCell') = true := all_oneCell_toArray (fun v hv => by
  simp only [nc, List.mem_cons, List.not_mem_nil, or_false] at hv
  rcases hv with rfl | rfl | rfl | rfl | rfl <;> rfl)
theorem ntSize : (Try.prog.info? 40).map (·.size) = some 5 := by kernel_rfl

theorem same_any (A1 A2 A3 B1 B2 B3 : Option Addr) (c1 c2 c3 d1 d2 d3 : Nat) (M C O : List Int) (P : Int) (w : World) (hM : M.length ≤ 1000) (hC : C.length ≤ 1000) (hO : O.length ≤ 1000)
    (h1 : RdI w w.heap.size A1 M) (h2 : RdI w w.heap.size A2 C) (h3 : RdI w w.heap.size A3 O) (k1 : RdI w w.heap.size B1 M) (k2 : RdI w w.heap.size B2 C) (k3 : RdI w w.heap.size B3 O) :
    Calls Try.prog 18 #[.agg #[.slice A1 M.length c1, .slice A2 C.length c2, .slice A3 O.length c3, .int .i64 P], .agg #[.slice B1 M.length d1, .slice B2 C.length d2, .slice B3 O.length d3, .int .i64 P]] w fun e w' => e = .returned (.bool true) ∧ Below w.heap.size w w' := by
  have H1 := hide h1
  have H2 := hide h2
  have H3 := hide h3
  have K1 := hide k1
  have K2 := hide k2
  have K3 := hide k3
  have HM := hide hM
  have HC := hide hC
  have HO := hide hO
  clear h1 h2 h3 k1 k2 k3 hM hC hO
  go_enter Try.func18, Try.ntmps18
  have hb0 : Below w.heap.size w ((w.alloc (.cells #[.slice A1 M.length c1, .slice A2 C.length c2, .slice A3 O.length c3, .int .i64 P] 33)).alloc (.cells #[.slice B1 M.length d1, .slice B2 C.length d2, .slice B3 O.length d3, .int .i64 P] 33)) := by (repeat' first | exact zbR _ _ | assumption | refine zbD ?_ | refine zbA ?_ ?_ _ | refine zbS ?_ ?_ _ | refine zbT ?_ (by assumption) ?_ | (simp; done) | (simp; omega) | omega)
  go_upto_region 1 with fail
  obtain ⟨w0, hw0⟩ : ∃ w0, (w.alloc (.cells #[.slice A1 M.length c1, .slice A2 C.length c2, .slice A3 O.length c3, .int .i64 P] 33)).alloc (.cells #[.slice B1 M.length d1, .slice B2 C.length d2, .slice B3 O.length d3, .int .i64 P] 33) = w0 := ⟨_, rfl⟩
  have hs0 : w0.heap.size = w.heap.size + 2 := by rw [← hw0]; simp
  have HF := hide (show w0.heap[w.heap.size]? = some (.cells #[.slice A1 M.length c1, .slice A2 C.length c2, .slice A3 O.length c3, .int .i64 P] 33 (0, 0)) by rw [← hw0]; exact (Below.heap_alloc _ _ _ (by first | (simp; done) | (simp; omega) | omega)).trans (World.alloc_heap_new _ _))
  have HG := hide (show w0.heap[w.heap.size + 1]? = some (.cells #[.slice B1 M.length d1, .slice B2 C.length d2, .slice B3 O.length d3, .int .i64 P] 33 (0, 0)) by rw [← hw0]; exact (congrArg _ (by simp)).trans (World.alloc_heap_new _ _))
  rw [hw0] at hb0 ⊢
  clear hw0
  have HB0 := hide hb0
  obtain ⟨p, hp⟩ : ∃ p, w.heap.size = p := ⟨_, rfl⟩
  obtain ⟨q, hq⟩ : ∃ q, w.heap.size + 1 = q := ⟨_, rfl⟩
  rw [hp] at HF
  rw [hq] at HG
  have HPQ := hide (show p < w0.heap.size ∧ q < w0.heap.size by omega)
  (try rw [hq])
  rw [hp] at *
  clear hs0 hb0
  have a0 : w0.cell? ⟨p, 0, none⟩ = some (.slice A1 M.length c1) := (blk_cell HF.out 0).trans rfl
  have a1 : w0.cell? ⟨p, 1, none⟩ = some (.slice A2 C.length c2) := (blk_cell HF.out 1).trans rfl
  have a2 : w0.cell? ⟨p, 2, none⟩ = some (.slice A3 O.length c3) := (blk_cell HF.out 2).trans rfl
  have a3 : w0.cell? ⟨p, 3, none⟩ = some (.int .i64 P) := (blk_cell HF.out 3).trans rfl
  have b0 : w0.cell? ⟨q, 0, none⟩ = some (.slice B1 M.length d1) := (blk_cell HG.out 0).trans rfl
  have b1 : w0.cell? ⟨q, 1, none⟩ = some (.slice B2 C.length d2) := (blk_cell HG.out 1).trans rfl
  have b2 : w0.cell? ⟨q, 2, none⟩ = some (.slice B3 O.length d3) := (blk_cell HG.out 2).trans rfl
  have b3 : w0.cell? ⟨q, 3, none⟩ = some (.int .i64 P) := (blk_cell HG.out 3).trans rfl
  have lp := HPQ.out.1
  have lq := HPQ.out.2
  have H00 := hide (Below.refl w0.heap.size w0)
  have SM := fun (W : World) (hb : Below w0.heap.size w0 W) => sameInts_eq A1 B1 M.length c1 d1 M W rfl (((H1.out.below HB0.out).mono HB0.out.size).below hb |>.mono hb.size) (((K1.out.below HB0.out).mono HB0.out.size).below hb |>.mono hb.size) (by have := HM.out; omega)
  have SC := fun (W : World) (hb : Below w0.heap.size w0 W) => sameInts_eq A2 B2 C.length c2 d2 C W rfl (((H2.out.below HB0.out).mono HB0.out.size).below hb |>.mono hb.size) (((K2.out.below HB0.out).mono HB0.out.size).below hb |>.mono hb.size) (by have := HC.out; omega)
  have SO := fun (W : World) (hb : Below w0.heap.size w0 W) => sameInts_eq A3 B3 O.length c3 d3 O W rfl (((H3.out.below HB0.out).mono HB0.out.size).below hb |>.mono hb.size) (((K3.out.below HB0.out).mono HB0.out.size).below hb |>.mono hb.size) (by have := HO.out; omega)
  go_wp2_with (first | (go_at_call 27; with_reducible refine (SM w0 ?hb).mono ?_; (case hb => exact H00.out); rintro e w1 ⟨rfl, hb1⟩; have H01 := hide (zbT H00.out hb1 H00.out.size); clear hb1; have HFn1 := hide ((H01.out.block _ (blk_lt HF.out)).trans HF.out); have HGn1 := hide ((H01.out.block _ (blk_lt HG.out)).trans HG.out); have a10 : w1.cell? ⟨p, 0, none⟩ = some (.slice A1 M.length c1) := (blk_cell HFn1.out 0).trans rfl; have b10 : w1.cell? ⟨q, 0, none⟩ = some (.slice B1 M.length d1) := (blk_cell HGn1.out 0).trans rfl; have a11 : w1.cell? ⟨p, 1, none⟩ = some (.slice A2 C.length c2) := (blk_cell HFn1.out 1).trans rfl; have b11 : w1.cell? ⟨q, 1, none⟩ = some (.slice B2 C.length d2) := (blk_cell HGn1.out 1).trans rfl; have a12 : w1.cell? ⟨p, 2, none⟩ = some (.slice A3 O.length c3) := (blk_cell HFn1.out 2).trans rfl; have b12 : w1.cell? ⟨q, 2, none⟩ = some (.slice B3 O.length d3) := (blk_cell HGn1.out 2).trans rfl; have a13 : w1.cell? ⟨p, 3, none⟩ = some (.int .i64 P) := (blk_cell HFn1.out 3).trans rfl; have b13 : w1.cell? ⟨q, 3, none⟩ = some (.int .i64 P) := (blk_cell HGn1.out 3).trans rfl; have lp1 := blk_lt HFn1.out; have lq1 := blk_lt HGn1.out) | (go_at_call 27; with_reducible refine (SC w1 ?hb).mono ?_; (case hb => exact H01.out); rintro e w2 ⟨rfl, hb1⟩; have H02 := hide (zbT H01.out hb1 H01.out.size); clear hb1; have HFn2 := hide ((H02.out.block _ (blk_lt HF.out)).trans HF.out); have HGn2 := hide ((H02.out.block _ (blk_lt HG.out)).trans HG.out); have a20 : w2.cell? ⟨p, 0, none⟩ = some (.slice A1 M.length c1) := (blk_cell HFn2.out 0).trans rfl; have b20 : w2.cell? ⟨q, 0, none⟩ = some (.slice B1 M.length d1) := (blk_cell HGn2.out 0).trans rfl; have a21 : w2.cell? ⟨p, 1, none⟩ = some (.slice A2 C.length c2) := (blk_cell HFn2.out 1).trans rfl; have b21 : w2.cell? ⟨q, 1, none⟩ = some (.slice B2 C.length d2) := (blk_cell HGn2.out 1).trans rfl; have a22 : w2.cell? ⟨p, 2, none⟩ = some (.slice A3 O.length c3) := (blk_cell HFn2.out 2).trans rfl; have b22 : w2.cell? ⟨q, 2, none⟩ = some (.slice B3 O.length d3) := (blk_cell HGn2.out 2).trans rfl; have a23 : w2.cell? ⟨p, 3, none⟩ = some (.int .i64 P) := (blk_cell HFn2.out 3).trans rfl; have b23 : w2.cell? ⟨q, 3, none⟩ = some (.int .i64 P) := (blk_cell HGn2.out 3).trans rfl; have lp2 := blk_lt HFn2.out; have lq2 := blk_lt HGn2.out) | (go_at_call 27; with_reducible refine (SO w2 ?hb).mono ?_; (case hb => exact H02.out); rintro e w3 ⟨rfl, hb1⟩; have H03 := hide (zbT H02.out hb1 H02.out.size); clear hb1; have HFn3 := hide ((H03.out.block _ (blk_lt HF.out)).trans HF.out); have HGn3 := hide ((H03.out.block _ (blk_lt HG.out)).trans HG.out); have a30 : w3.cell? ⟨p, 0, none⟩ = some (.slice A1 M.length c1) := (blk_cell HFn3.out 0).trans rfl; have b30 : w3.cell? ⟨q, 0, none⟩ = some (.slice B1 M.length d1) := (blk_cell HGn3.out 0).trans rfl; have a31 : w3.cell? ⟨p, 1, none⟩ = some (.slice A2 C.length c2) := (blk_cell HFn3.out 1).trans rfl; have b31 : w3.cell? ⟨q, 1, none⟩ = some (.slice B2 C.length d2) := (blk_cell HGn3.out 1).trans rfl; have a32 : w3.cell? ⟨p, 2, none⟩ = some (.slice A3 O.length c3) := (blk_cell HFn3.out 2).trans rfl; have b32 : w3.cell? ⟨q, 2, none⟩ = some (.slice B3 O.length d3) := (blk_cell HGn3.out 2).trans rfl; have a33 : w3.cell? ⟨p, 3, none⟩ = some (.int .i64 P) := (blk_cell HFn3.out 3).trans rfl; have b33 : w3.cell? ⟨q, 3, none⟩ = some (.int .i64 P) := (blk_cell HGn3.out 3).trans rfl; have lp3 := blk_lt HFn3.out; have lq3 := blk_lt HGn3.out))
  go_ret
  exact ⟨rfl, HB0.out.trans (H03.out.mono HB0.out.size)⟩
end Go.Proofs.Ytklomhmdiflfaaa

namespace Go.Proofs.Ytklomhmdiflfaaa
namespace E

def St.greedy (s : St) : List Int := St.fill s false s.order [] 0
theorem fill_keep {s : St} (lt : Bool) {m : Int} : ∀ (l acc : List Int) (g : Int), m ∈ acc → m ∈ s.fill lt l acc g
  | [], _, _, h => h
  | a :: r, acc, g, h => by
    unfold St.fill
    split
    · exact fill_keep lt r _ _ (List.mem_append_left _ h)
    · exact fill_keep lt r _ _ h
theorem fill_congr {s u : St} (hp : u.f.places = s.f.places) (hg : u.f.guards = s.f.guards) (hk : ∀ k, (u.pl k).grd = (s.pl k).grd) : ∀ (l acc : List Int) (g : Int), u.fill false l acc g = s.fill false l acc g
  | [], _, _ => rfl
  | a :: r, acc, g => by
    unfold St.fill
    rw [hp, hg, hk a]
    simp only [or_true, true_and]
    rw [fill_congr hp hg hk r, fill_congr hp hg hk r]
theorem one_bd (b : Bool) : 0 ≤ one b ∧ one b ≤ 1 := by unfold one; split <;> omega

theorem fill_drop (s : St) (r0 m : Int) (hm : m ≠ r0) : ∀ (l acc1 acc2 : List Int) (g1 g2 : Int), (s.f.places ≤ (acc1.length : Int) ∨ (g2 ≤ g1 ∧ acc2.length ≤ acc1.length ∧ g1 - g2 ≤ (acc1.length : Int) - (acc2.length : Int))) → (m ∈ acc1 → m ∈ acc2) → m ∈ s.fill false l acc1 g1 → m ∈ s.fill false (l.filter fun k => k != r0) acc2 g2
  | [], acc1, acc2, g1, g2, _, ha, h => ha h
  | a :: r, acc1, acc2, g1, g2, hi, ha, h => by
    have hb := one_bd (s.pl a).grd
    unfold St.fill at h
    simp only [or_true, true_and] at h
    by_cases e : a = r0
    · subst e
      have hf : (a :: r).filter (fun k => k != a) = r.filter (fun k => k != a) := by simp
      rw [hf]
      split at h
      · refine fill_drop s a m hm r (acc1 ++ [a]) acc2 _ g2 ?_ (fun hx => ?_) h
        · rw [List.length_append]
          simp only [List.length_singleton]
          rcases hi with hi | hi
          · left; push_cast; omega
          · right; refine ⟨by omega, by omega, by push_cast; omega⟩
        · rcases List.mem_append.1 hx with hx | hx
          · exact ha hx
          · simp at hx; exact absurd hx hm
      · exact fill_drop s a m hm r acc1 acc2 g1 g2 hi ha h
    · have hf : (a :: r).filter (fun k => k != r0) = a :: r.filter (fun k => k != r0) := by simp [e]
      rw [hf]
      unfold St.fill
      simp only [or_true, true_and]
      split at h
      · rename_i hc
        have hi' : g2 ≤ g1 ∧ acc2.length ≤ acc1.length ∧ g1 - g2 ≤ (acc1.length : Int) - (acc2.length : Int) := by
          rcases hi with hi | hi
          · omega
          · exact hi
        rw [if_pos ⟨by omega, hc.2.imp (fun h => by omega) id⟩]
        refine fill_drop s r0 m hm r (acc1 ++ [a]) (acc2 ++ [a]) _ _ (.inr ?_) (fun hx => ?_) h
        · rw [List.length_append, List.length_append]
          simp only [List.length_singleton]
          refine ⟨by omega, by omega, by push_cast; omega⟩
        · rcases List.mem_append.1 hx with hx | hx
          · exact List.mem_append_left _ (ha hx)
          · exact List.mem_append_right _ hx
      · rename_i hc
        by_cases hfull : s.f.places ≤ (acc1.length : Int)
        · split
          · exact fill_drop s r0 m hm r acc1 (acc2 ++ [a]) g1 _ (.inl hfull) (fun hx => List.mem_append_left _ (ha hx)) h
          · exact fill_drop s r0 m hm r acc1 acc2 g1 g2 (.inl hfull) ha h
        · have hi' : g2 ≤ g1 ∧ acc2.length ≤ acc1.length ∧ g1 - g2 ≤ (acc1.length : Int) - (acc2.length : Int) := hi.resolve_left hfull
          have hg : ¬ (g1 < s.f.guards ∨ (s.pl a).grd = false) := fun hh => hc ⟨by omega, hh⟩
          have hg1 : s.f.guards ≤ g1 := by
            rcases Int.lt_or_le g1 s.f.guards with h1 | h1
            · exact absurd (.inl h1) hg
            · exact h1
          have hgr : (s.pl a).grd = true := by
            cases hq : (s.pl a).grd with
            | true => rfl
            | false => exact absurd (.inr hq) hg
          split
          · rename_i hc2
            have h2 : g2 < s.f.guards := hc2.2.resolve_right (by rw [hgr]; simp)
            have h1' : one (s.pl a).grd = 1 := by rw [hgr]; rfl
            refine fill_drop s r0 m hm r acc1 (acc2 ++ [a]) g1 _ (.inr ?_) (fun hx => List.mem_append_left _ (ha hx)) h
            rw [List.length_append, h1']
            simp only [List.length_singleton]
            refine ⟨by omega, by omega, by push_cast; omega⟩
          · exact fill_drop s r0 m hm r acc1 acc2 g1 g2 (.inr hi') ha h

structure Late (s u : St) (x : Nt) : Prop where
  ent : ∀ k, (u.pl k).ent = (s.pl k).ent
  rank : ∀ k, (u.pl k).rank = (s.pl k).rank
  turn : ∀ k, (u.pl k).turn = (s.pl k).turn
  grd : ∀ k, (u.pl k).grd = (s.pl k).grd
  other : ∀ k, k ≠ x.player → u.pl k = s.pl k
  quit : ∀ k, (u.pl k).quit = ((s.pl k).quit || (decide (x.kind = 4) && decide (k = x.player)))
  card : ∀ k, (s.pl k).card = true → (u.pl k).card = true
  known : ∀ k, k ∈ u.known ↔ k ∈ s.known ∨ k = x.player
  main : u.main = s.main
  guards : u.f.guards = s.f.guards
  close : u.f.close = s.f.close
  freeze : u.f.freeze = s.f.freeze
  places : late s.f x.hour = false → u.f.places = s.f.places

theorem put_known {s : St} {k : Int} {p : Pl} (j : Int) : j ∈ (s.put k p).known ↔ j ∈ s.known ∨ j = k := by
  unfold St.put
  by_cases e : k ∈ s.known
  · simp only [if_pos e]
    exact ⟨.inl, fun h => h.elim id (fun h => h ▸ e)⟩
  · simp [if_neg e]
theorem put_late {s s0 : St} {x : Nt} {p : Pl} (hp : s0.pl = s.pl) (hk : s0.known = s.known) (hm : s0.main = s.main) (h1 : p.ent = (s.pl x.player).ent) (h2 : p.rank = (s.pl x.player).rank) (h3 : p.turn = (s.pl x.player).turn) (h4 : p.grd = (s.pl x.player).grd) (h5 : p.quit = ((s.pl x.player).quit || decide (x.kind = 4))) (h6 : (s.pl x.player).card = true → p.card = true)
    (h7 : s0.f.guards = s.f.guards) (h8 : s0.f.close = s.f.close) (h9 : s0.f.freeze = s.f.freeze) (h10 : late s.f x.hour = false → s0.f.places = s.f.places) : Late s (s0.put x.player p) x := by
  have e : ∀ k, (s0.put x.player p).pl k = if k = x.player then p else s.pl k := fun k => by unfold St.put; rw [hp]
  refine ⟨fun k => ?_, fun k => ?_, fun k => ?_, fun k => ?_, fun k hk' => ?_, fun k => ?_, fun k hc => ?_, fun k => ?_, hm, h7, h8, h9, h10⟩
  · rw [e]; split; (rename_i h; rw [h, h1]); rfl
  · rw [e]; split; (rename_i h; rw [h, h2]); rfl
  · rw [e]; split; (rename_i h; rw [h, h3]); rfl
  · rw [e]; split; (rename_i h; rw [h, h4]); rfl
  · rw [e, if_neg hk']
  · rw [e]
    by_cases h : k = x.player
    · rw [if_pos h, h5, h]; simp
    · rw [if_neg h]; simp [h]
  · rw [e]; split; (rename_i h; rw [h] at hc; exact h6 hc); exact hc
  · rw [put_known, hk]
theorem said_lateS (s : St) (x : Nt) (hc : s.f.close < x.hour) : Late s (s.said x) x := by
  unfold St.said
  dsimp only
  by_cases k12 : x.kind = 1 ∨ x.kind = 2
  · have hk4 : decide (x.kind = 4) = false := by rcases k12 with e | e <;> rw [e] <;> rfl
    rw [if_pos k12, if_neg (by rintro ⟨h1, _⟩; omega)]
    exact put_late rfl rfl rfl rfl rfl rfl rfl (by rw [hk4]; simp) id rfl rfl rfl (fun _ => rfl)
  · rw [if_neg k12]
    by_cases k3 : x.kind = 3
    · have hk4 : decide (x.kind = 4) = false := by rw [k3]; rfl
      rw [if_pos k3]
      split
      · exact put_late rfl rfl rfl rfl rfl rfl rfl (by rw [hk4]; simp) (fun _ => rfl) rfl rfl rfl (fun _ => rfl)
      · exact put_late rfl rfl rfl rfl rfl rfl rfl (by rw [hk4]; simp) id rfl rfl rfl (fun _ => rfl)
    · rw [if_neg k3]
      by_cases k4 : x.kind = 4
      · rw [if_pos k4]
        by_cases hcond : late s.f x.hour = true ∧ (s.pl x.player).card = true ∧ (s.pl x.player).quit = false
        · rw [if_pos hcond]
          exact put_late rfl rfl rfl rfl rfl rfl rfl (by rw [k4]; simp) id rfl rfl rfl (fun h => by rw [hcond.1] at h; cases h)
        · rw [if_neg hcond]
          exact put_late rfl rfl rfl rfl rfl rfl rfl (by rw [k4]; simp) id rfl rfl rfl (fun _ => rfl)
      · have hk4 : decide (x.kind = 4) = false := decide_eq_false k4
        rw [if_neg k4]
        split
        · exact put_late rfl rfl rfl rfl rfl rfl rfl (by rw [hk4]; simp) id rfl rfl rfl (fun _ => rfl)
        · exact put_late rfl rfl rfl rfl rfl rfl rfl (by rw [hk4]; simp) id rfl rfl rfl (fun _ => rfl)

theorem entry_down {s u : St} {x : Nt} (h : Late s u x) {k : Int} (he : (u.pl k).entry = true) : (s.pl k).entry = true := by
  unfold Pl.entry at *
  simp only [Bool.and_eq_true, Bool.not_eq_true'] at *
  obtain ⟨⟨h1, h2⟩, h3⟩ := he
  refine ⟨⟨by rw [← h.ent]; exact h1, ?_⟩, ?_⟩
  · have := h.quit k
    rw [h2] at this
    cases hq : (s.pl k).quit with
    | false => rfl
    | true => rw [hq] at this; simp at this
  · cases hq : (s.pl k).card with
    | false => rfl
    | true => rw [h.card k hq] at h3; cases h3
theorem late_order {s u : St} {x : Nt} (hs : StOk s) (hu : StOk u) (h : Late s u x) : u.order = s.order.filter (fun k => (u.pl k).entry) := by
  symm
  refine order_eq hu ?_ ?_
  · refine (List.perm_ext_iff_of_nodup ((order_nodup hs).filter _) (hu.known.filter _)).2 (fun k => ?_)
    rw [List.mem_filter, List.mem_filter, order_mem, h.known]
    constructor
    · rintro ⟨⟨h1, _⟩, h2⟩; exact ⟨.inl h1, h2⟩
    · rintro ⟨h1, h2⟩
      have h3 := entry_down h h2
      refine ⟨⟨?_, h3⟩, h2⟩
      by_cases hk : k ∈ s.known
      · exact hk
      · rw [hs.zero k hk] at h3; cases h3
  · refine List.Pairwise.sublist List.filter_sublist ?_
    have ho := List.pairwise_mergeSort (le := s.leP) (leP_trans s) (leP_total s) (s.known.filter (fun k => (s.pl k).entry))
    refine List.Pairwise.imp (fun {a b} hab => ?_) ho
    unfold St.leP at hab
    have := of_decide_eq_true hab
    unfold cmpP at this ⊢
    rw [h.rank, h.rank, h.turn, h.turn]
    exact this
theorem settle_early (u : St) : (u.settle false).main = u.greedy := by
  unfold St.settle St.greedy
  dsimp only
  have e1 : u.main.filter (fun k => false && (u.pl k).entry) = [] := by simp
  rw [e1]
  have e2 : ({ u with main := [] } : St).alts = u.order := by
    unfold St.alts
    show (St.order u).filter _ = _
    simp
  rw [e2]
  rfl

theorem greedy_take (s : St) (x : Nt) : (s.take x).greedy = (s.said x).greedy := by
  unfold St.greedy
  exact fill_congr (s := s.said x) (u := s.take x) rfl rfl (fun _ => rfl) _ _ _

theorem stay_step {s : St} (hs : StOk s) (hT : 0 ≤ s.turns) (x : Nt) (hx : 0 ≤ x.player ∧ x.player ≤ 999) (hc : s.f.close < x.hour) (hg : late s.f x.hour = false → s.main = s.greedy) {m : Int} (hm : m ∈ s.main) (he : ((s.said x).pl m).entry = true) : m ∈ (s.take x).main := by
  have hL := said_lateS s x hc
  have hu := (said_ok hs x hx hT).1
  unfold St.take
  cases hlt : late s.f x.hour with
  | true =>
    unfold St.settle
    dsimp only
    refine fill_keep _ _ _ _ (List.mem_filter.2 ⟨by rw [hL.main]; exact hm, by simpa using he⟩)
  | false =>
    rw [settle_early]
    unfold St.greedy
    rw [fill_congr (hL.places hlt) hL.guards hL.grd, late_order hs hu hL]
    have hm' : m ∈ s.fill false s.order [] 0 := by have := hg hlt; rw [this] at hm; exact hm
    by_cases hp : ((s.said x).pl x.player).entry = true
    · have : s.order.filter (fun k => ((s.said x).pl k).entry) = s.order := by
        rw [List.filter_eq_self]
        intro k hk
        by_cases e : k = x.player
        · rw [e]; exact hp
        · rw [hL.other k e]; exact (order_mem.1 hk).2
      rw [this]
      exact hm'
    · have hne : m ≠ x.player := fun e => hp (e ▸ he)
      have : s.order.filter (fun k => ((s.said x).pl k).entry) = s.order.filter (fun k => k != x.player) := by
        refine List.filter_congr (fun k hk => ?_)
        by_cases e : k = x.player
        · subst e
          have : ((s.said x).pl x.player).entry = false := by simpa using hp
          rw [this]; simp
        · rw [hL.other k e, (order_mem.1 hk).2]; simp [e]
      rw [this]
      exact fill_drop s x.player m hne s.order [] [] 0 0 (.inr ⟨by omega, by omega, by omega⟩) id hm'

theorem main_entry (s : St) (x : Nt) : ∀ k ∈ (s.take x).main, ((s.take x).pl k).entry = true := by
  intro k hk
  have : ∀ (l acc : List Int) (g : Int) (lt : Bool), (∀ k ∈ l, ((s.said x).pl k).entry = true) → (∀ k ∈ acc, ((s.said x).pl k).entry = true) → ∀ k ∈ (s.said x).fill lt l acc g, ((s.said x).pl k).entry = true := fun l acc g lt h1 h2 => fill_known lt (fun k => ((s.said x).pl k).entry = true) l acc g h1 h2
  refine this _ _ _ _ (fun j hj => ?_) (fun j hj => ?_) k hk
  · have := (List.mem_filter.1 hj).1
    exact (order_mem.1 this).2
  · have := (List.mem_filter.1 hj).2
    simp only [Bool.and_eq_true] at this
    exact this.2

def CardsOk (s : St) : Prop := ∀ k, k ∈ s.cards ↔ (s.pl k).card = true ∧ (s.pl k).quit = false
theorem cards_new (f : Fd) : CardsOk (St.new f) := fun k => by simp [St.new, Pl.zero]
theorem cards_said {s : St} (h : CardsOk s) (x : Nt) : CardsOk (s.said x) := by
  have put : ∀ (s0 : St) (p : Pl), s0.pl = s.pl → s0.cards = s.cards → p.card = (s.pl x.player).card → p.quit = (s.pl x.player).quit → CardsOk (s0.put x.player p) := by
    intro s0 p h1 h2 h3 h4 k
    have e : (s0.put x.player p).pl k = if k = x.player then p else s.pl k := by unfold St.put; rw [h1]
    have e2 : (s0.put x.player p).cards = s.cards := h2
    rw [e, e2, h k]
    split
    · rename_i hk; rw [hk, h3, h4]
    · rfl
  unfold St.said
  dsimp only
  split
  · split
    · exact put _ _ rfl rfl rfl rfl
    · exact put _ _ rfl rfl rfl rfl
  · split
    · split
      · rename_i hc
        intro k
        show k ∈ s.cards ++ [x.player] ↔ _
        have e : (({ s with cards := s.cards ++ [x.player] } : St).put x.player { s.pl x.player with card := true }).pl k = if k = x.player then { s.pl x.player with card := true } else s.pl k := rfl
        rw [e, List.mem_append, List.mem_singleton, h k]
        split
        · rename_i hk; subst hk; simp [hc.2.2.1]
        · rename_i hk; simp [hk]
      · exact put _ _ rfl rfl rfl rfl
    · split
      · intro k
        show k ∈ s.cards.filter (fun k => k != x.player) ↔ _
        rw [List.mem_filter, h k]
        show _ ↔ (if k = x.player then ({ s.pl x.player with quit := true } : Pl) else s.pl k).card = true ∧ (if k = x.player then ({ s.pl x.player with quit := true } : Pl) else s.pl k).quit = false
        by_cases hk : k = x.player
        · simp [hk]
        · simp [hk]
      · split
        · exact put _ _ rfl rfl rfl rfl
        · exact put _ _ rfl rfl rfl rfl
theorem cards_take {s : St} (h : CardsOk s) (x : Nt) : CardsOk (s.take x) := cards_said h x

theorem said_fd (s : St) (x : Nt) : (s.said x).f.close = s.f.close := by
  unfold St.said
  dsimp only
  repeat' split
  all_goals (first | rfl | (simp only [St.put]; split <;> rfl))

structure Way (s : St) (m : Int) : Prop where
  ok : StOk s
  turns : 0 ≤ s.turns
  ent : (s.pl m).ent = true
  iff : m ∈ s.main ↔ (s.pl m).entry = true

theorem way_step {s : St} {m : Int} (h : Way s m) (x : Nt) (hx : 0 ≤ x.player ∧ x.player ≤ 999) (hc : s.f.close < x.hour) (hg : late s.f x.hour = false → s.main = s.greedy) : Way (s.take x) m ∧ ((s.take x).pl m).quit = ((s.pl m).quit || (decide (x.kind = 4) && decide (m = x.player))) := by
  have hL := said_lateS s x hc
  refine ⟨⟨(take_ok h.ok x hx h.turns).1, (take_ok h.ok x hx h.turns).2, (hL.ent m).trans h.ent, fun hm => main_entry s x m hm, fun he => ?_⟩, hL.quit m⟩
  exact stay_step h.ok h.turns x hx hc hg (h.iff.2 (entry_down hL he)) he

theorem way_fold {m : Int} (c z : Int) : ∀ (r : List Nt) (s : St), Way s m → s.f.close = c → s.f.freeze = z → (∀ x ∈ r, 0 ≤ x.player ∧ x.player ≤ 999) → (∀ x ∈ r, c < x.hour) → r.Pairwise (fun a b => a.hour ≤ b.hour) → ((∃ x ∈ r, x.hour ≤ z) → s.main = s.greedy) →
    Way (r.foldl St.take s) m ∧ (((r.foldl St.take s).pl m).quit = true ↔ (s.pl m).quit = true ∨ ∃ x ∈ r, x.kind = 4 ∧ x.player = m)
  | [], s, h, _, _, _, _, _, _ => ⟨h, by simp⟩
  | x :: r, s, h, h1, h2, hp, hc, hs, hg => by
    have hx := hp x (List.mem_cons_self ..)
    have hcx := hc x (List.mem_cons_self ..)
    obtain ⟨hs1, hs2⟩ := List.pairwise_cons.1 hs
    obtain ⟨hw, hq⟩ := way_step h x hx (by rw [h1]; exact hcx) (fun hl => hg ⟨x, List.mem_cons_self .., by unfold late at hl; have := of_decide_eq_false hl; rw [h2] at this; omega⟩)
    have ih := way_fold c z r (s.take x) hw ((said_fd s x).trans h1) ((said_freeze s x).trans h2) (fun y hy => hp y (List.mem_cons_of_mem _ hy)) (fun y hy => hc y (List.mem_cons_of_mem _ hy)) hs2 (fun ⟨y, hy, hyz⟩ => by
      have hxz : x.hour ≤ z := Int.le_trans (hs1 y hy) hyz
      have hl : late s.f x.hour = false := by unfold late; rw [h2]; exact decide_eq_false (by omega)
      show ((s.said x).settle (late s.f x.hour)).main = _
      rw [hl, settle_early, greedy_take])
    refine ⟨ih.1, ih.2.trans ?_⟩
    rw [hq]
    simp only [Bool.or_eq_true, Bool.and_eq_true, decide_eq_true_eq, List.mem_cons]
    constructor
    · rintro ((h3 | ⟨h3, h4⟩) | ⟨y, hy, h3⟩)
      · exact .inl h3
      · exact .inr ⟨x, .inl rfl, h3, h4.symm⟩
      · exact .inr ⟨y, .inr hy, h3⟩
    · rintro (h3 | ⟨y, rfl | hy, h3, h4⟩)
      · exact .inl (.inl h3)
      · exact .inl (.inr ⟨h3, h4.symm⟩)
      · exact .inr ⟨y, hy, h3, h4⟩

theorem cards_fold : ∀ (r : List Nt) (s : St), CardsOk s → CardsOk (r.foldl St.take s)
  | [], _, h => h
  | x :: r, _, h => cards_fold r _ (cards_take h x)
theorem fold_fd : ∀ (r : List Nt) (s : St), (r.foldl St.take s).f.close = s.f.close ∧ (r.foldl St.take s).f.freeze = s.f.freeze
  | [], _ => ⟨rfl, rfl⟩
  | x :: r, s => by
    obtain ⟨h1, h2⟩ := fold_fd r (s.take x)
    exact ⟨h1.trans (said_fd s x), h2.trans (said_freeze s x)⟩
theorem fold_main : ∀ (r : List Nt) (s : St), (∀ k ∈ s.main, (s.pl k).entry = true) → ∀ k ∈ (r.foldl St.take s).main, ((r.foldl St.take s).pl k).entry = true
  | [], _, h => h
  | x :: r, s, _ => fold_main r _ (main_entry s x)
theorem fold_greedy (z : Int) : ∀ (r : List Nt) (s : St), s.f.freeze = z → (∀ x ∈ r, x.hour ≤ z) → s.main = s.greedy → (r.foldl St.take s).main = (r.foldl St.take s).greedy
  | [], _, _, _, h => h
  | x :: r, s, hz, hr, h => by
    refine fold_greedy z r (s.take x) ((said_freeze s x).trans hz) (fun y hy => hr y (List.mem_cons_of_mem _ hy)) ?_
    have hl : late s.f x.hour = false := by unfold late; rw [hz]; have := hr x (List.mem_cons_self ..); exact decide_eq_false (by omega)
    show ((s.said x).settle (late s.f x.hour)).main = _
    rw [hl, settle_early, greedy_take]
theorem greedy_new (f : Fd) : (St.new f).main = (St.new f).greedy := by
  unfold St.greedy St.order St.new
  simp [St.fill]
theorem filter_split {h1 h2 : Int} (h12 : h1 ≤ h2) : ∀ (d : List Nt), d.Pairwise (fun a b => a.hour ≤ b.hour) → d.filter (fun x => decide (x.hour ≤ h2)) = d.filter (fun x => decide (x.hour ≤ h1)) ++ d.filter (fun x => decide (h1 < x.hour) && decide (x.hour ≤ h2))
  | [], _ => rfl
  | x :: r, hs => by
    obtain ⟨hs1, hs2⟩ := List.pairwise_cons.1 hs
    by_cases e : x.hour ≤ h1
    · have e2 : x.hour ≤ h2 := by omega
      rw [List.filter_cons_of_pos (by simpa using e2), List.filter_cons_of_pos (by simpa using e), List.filter_cons_of_neg (by simp; omega), List.cons_append, filter_split h12 r hs2]
    · have e1 : r.filter (fun x => decide (x.hour ≤ h1)) = [] := List.filter_eq_nil_iff.2 (fun y hy => by have := hs1 y hy; simp; omega)
      rw [List.filter_cons_of_neg (l := r) (p := fun x => decide (x.hour ≤ h1)) (by simpa using e), e1, List.nil_append]
      refine List.filter_congr (fun y hy => ?_)
      have hy1 : h1 < y.hour := by
        rcases List.mem_cons.1 hy with h | h
        · subst h; omega
        · have := hs1 y h; omega
      simp [hy1]

theorem stays {f : Fd} {d : List Nt} (ht : Taken d) {h1 h2 : Int} (hc : f.close ≤ h1) (h12 : h1 ≤ h2) {m : Int} (hm : m ∈ (atL f h1 d).main) :
    m ∈ (atL f h2 d).main ↔ ¬ (m ∈ (atL f h2 d).cards ∨ ∃ x ∈ d, x.player = m ∧ x.kind = 4 ∧ h1 < x.hour ∧ x.hour ≤ h2) := by
  have hp : ∀ x ∈ d, 0 ≤ x.player ∧ x.player ≤ 999 := fun x hx => valid_player (ht.valid x hx)
  have hs := taken_hours ht
  obtain ⟨hok, hT⟩ := atL_ok f h1 hp
  have hfd := fold_fd (d.filter (fun x => decide (x.hour ≤ h1))) (St.new f)
  have hent := fold_main (d.filter (fun x => decide (x.hour ≤ h1))) (St.new f) (fun k hk => by cases hk) m hm
  have e2 : atL f h2 d = (d.filter (fun x => decide (h1 < x.hour) && decide (x.hour ≤ h2))).foldl St.take (atL f h1 d) := by
    unfold atL
    rw [filter_split h12 d hs, List.foldl_append]
  have hway : Way (atL f h1 d) m := ⟨hok, hT, entry_ent hent, fun _ => hent, fun _ => hm⟩
  have hmem : ∀ x, x ∈ d.filter (fun x => decide (h1 < x.hour) && decide (x.hour ≤ h2)) ↔ x ∈ d ∧ h1 < x.hour ∧ x.hour ≤ h2 := fun x => by simp [List.mem_filter]
  have hf := way_fold f.close f.freeze _ (atL f h1 d) hway hfd.1 hfd.2 (fun x hx => hp x ((hmem x).1 hx).1) (fun x hx => by have := ((hmem x).1 hx).2.1; omega) (List.Pairwise.sublist List.filter_sublist hs) (fun ⟨y, hy, hyz⟩ => by
    refine fold_greedy f.freeze _ (St.new f) rfl (fun x hx => ?_) (greedy_new f)
    have h3 := ((hmem y).1 hy).2.1
    have h4 := (List.mem_filter.1 hx).2
    simp at h4
    omega)
  rw [← e2] at hf
  have hcd : CardsOk (atL f h2 d) := cards_fold _ _ (cards_new f)
  obtain ⟨hw, hq⟩ := hf
  have hq0 : ((atL f h1 d).pl m).quit = false := by
    unfold Pl.entry at hent
    simp only [Bool.and_eq_true, Bool.not_eq_true'] at hent
    exact hent.1.2
  have hq' : ((atL f h2 d).pl m).quit = true ↔ ∃ x ∈ d, x.player = m ∧ x.kind = 4 ∧ h1 < x.hour ∧ x.hour ≤ h2 := by
    rw [hq, hq0]
    constructor
    · rintro (h | ⟨x, hx, h3, h4⟩)
      · cases h
      · exact ⟨x, ((hmem x).1 hx).1, h4, h3, ((hmem x).1 hx).2⟩
    · rintro ⟨x, hx, h3, h4, h5⟩
      exact .inr ⟨x, (hmem x).2 ⟨hx, h5⟩, h4, h3⟩
  rw [← hq', hcd m, hw.iff]
  unfold Pl.entry
  rw [hw.ent]
  cases ((atL f h2 d).pl m).quit <;> cases ((atL f h2 d).pl m).card <;> simp
end E
end Go.Proofs.Ytklomhmdiflfaaa

namespace Go.Proofs.Ytklomhmdiflfaaa
namespace E

def entQ (f : Fd) (h p : Int) (x : Nt) : Bool := decide (x.player = p) && (decide (x.kind = 1) || decide (x.kind = 2)) && decide (x.hour ≤ h) && decide (x.hour ≤ f.close)
def entStep (f : Fd) (h p : Int) (a x : Nt) : Nt := if entQ f h p x = true ∧ (x.hour < a.hour ∨ x.hour = a.hour ∧ x.id < a.id) then x else a
def entZ : Nt := ⟨0, 10000, 0, 0, 0⟩
def entF (f : Fd) (h p : Int) (l : List Nt) : Nt := l.foldl (entStep f h p) entZ

def tri (p : Pl) : Bool × Bool × Int := (p.ent, p.grd, p.rank)
def triN (o : Option Nt) : Bool × Bool × Int := match o with | some x => (true, decide (x.kind = 2), x.rank) | none => (false, false, 0)

theorem entF_spec (f : Fd) (h p : Int) : ∀ (l : List Nt) (a : Nt), let r := l.foldl (entStep f h p) a
    (r = a ∨ (r ∈ l ∧ entQ f h p r = true)) ∧ (r.hour < a.hour ∨ r.hour = a.hour ∧ r.id ≤ a.id) ∧ ∀ y ∈ l, entQ f h p y = true → (r.hour < y.hour ∨ r.hour = y.hour ∧ r.id ≤ y.id)
  | [], a => ⟨.inl rfl, .inr ⟨rfl, Int.le_refl _⟩, fun y hy => by cases hy⟩
  | x :: l, a => by
    have ih := entF_spec f h p l (entStep f h p a x)
    dsimp only at ih ⊢
    rw [List.foldl_cons]
    obtain ⟨h1, h2, h3⟩ := ih
    have hs : (entStep f h p a x = x ∧ entQ f h p x = true ∧ (x.hour < a.hour ∨ x.hour = a.hour ∧ x.id < a.id)) ∨ (entStep f h p a x = a ∧ (entQ f h p x = true → a.hour < x.hour ∨ a.hour = x.hour ∧ a.id ≤ x.id)) := by
      unfold entStep
      by_cases e : entQ f h p x = true ∧ (x.hour < a.hour ∨ x.hour = a.hour ∧ x.id < a.id)
      · rw [if_pos e]; exact .inl ⟨rfl, e.1, e.2⟩
      · rw [if_neg e]
        refine .inr ⟨rfl, fun hq => ?_⟩
        have : ¬ (x.hour < a.hour ∨ x.hour = a.hour ∧ x.id < a.id) := fun h => e ⟨hq, h⟩
        omega
    generalize l.foldl (entStep f h p) (entStep f h p a x) = R at h1 h2 h3 ⊢
    refine ⟨?_, ?_, ?_⟩
    · rcases h1 with h1 | h1
      · rcases hs with hs | hs
        · exact .inr ⟨by rw [h1, hs.1]; exact List.mem_cons_self .., by rw [h1, hs.1]; exact hs.2.1⟩
        · exact .inl (h1.trans hs.1)
      · exact .inr ⟨List.mem_cons_of_mem _ h1.1, h1.2⟩
    · rcases hs with hs | hs
      · rw [hs.1] at h2; have := hs.2.2; omega
      · rw [hs.1] at h2; exact h2
    · intro y hy hq
      rcases List.mem_cons.1 hy with e | hy
      · subst e
        rcases hs with hs | hs
        · rw [hs.1] at h2; exact h2
        · rw [hs.1] at h2; have := hs.2 hq; omega
      · exact h3 y hy hq

theorem entF_find {l d : List Nt} (ht : Taken d) (hm : ∀ y, y ∈ d ↔ y ∈ l) (f : Fd) (h p : Int) :
    (d.find? (entQ f h p) = none ∧ entF f h p l = entZ) ∨ ∃ x ∈ l, d.find? (entQ f h p) = some x ∧ entF f h p l = x ∧ entQ f h p x = true := by
  obtain ⟨h1, h2, h3⟩ := entF_spec f h p l entZ
  change (entF f h p l = entZ ∨ (entF f h p l ∈ l ∧ entQ f h p (entF f h p l) = true)) at h1
  change ((entF f h p l).hour < entZ.hour ∨ (entF f h p l).hour = entZ.hour ∧ (entF f h p l).id ≤ entZ.id) at h2
  change (∀ y ∈ l, entQ f h p y = true → ((entF f h p l).hour < y.hour ∨ (entF f h p l).hour = y.hour ∧ (entF f h p l).id ≤ y.id)) at h3
  cases hf : d.find? (entQ f h p) with
  | none =>
    left
    refine ⟨rfl, ?_⟩
    rcases h1 with h1 | h1
    · exact h1
    · have := List.find?_eq_none.1 hf _ ((hm _).2 h1.1)
      exact absurd h1.2 this
  | some x =>
    right
    have hx := List.mem_of_find?_eq_some hf
    have hq := List.find?_some hf
    refine ⟨x, (hm x).1 hx, rfl, ?_, hq⟩
    have hle := h3 x ((hm x).1 hx) hq
    rcases h1 with h1 | h1
    · exfalso
      have := (valid_hour (ht.valid x hx)).2
      rw [h1] at hle
      unfold entZ at hle
      simp only at hle
      omega
    · obtain ⟨a1, b1, hd, hno⟩ := (List.find?_eq_some_iff_append.1 hf).2
      have hr : entF f h p l ∈ d := (hm _).2 h1.1
      have hord : leN x (entF f h p l) = true := by
        have hs := ht.sorted
        have hr' := hr
        rw [hd] at hr' hs
        rcases List.mem_append.1 hr' with h4 | h4
        · have := hno _ h4
          rw [h1.2] at this
          exact absurd this (by decide)
        · rcases List.mem_cons.1 h4 with h4 | h4
          · rw [h4]; exact (leN_iff _ _).2 (.inr ⟨rfl, Int.le_refl _⟩)
          · exact (List.pairwise_cons.1 (List.pairwise_append.1 hs).2.1).1 _ h4
      have := (leN_iff _ _).1 hord
      exact ids_inj ht.ids _ hr _ hx (by omega)

theorem tri_said (s : St) (x : Nt) (p : Int) : tri ((s.said x).pl p) = if x.player = p ∧ (x.kind = 1 ∨ x.kind = 2) ∧ x.hour ≤ s.f.close ∧ (s.pl p).ent = false then (true, decide (x.kind = 2), x.rank) else tri (s.pl p) := by
  have put : ∀ (s0 : St) (q : Pl), (s0.put x.player q).pl p = if p = x.player then q else s0.pl p := fun _ _ => rfl
  unfold St.said
  dsimp only
  by_cases hp : p = x.player
  · subst hp
    split
    · rename_i hk
      split
      · rename_i hc
        rw [put, if_pos rfl, if_pos ⟨rfl, hk, hc.1, hc.2⟩]; rfl
      · rename_i hc
        rw [put, if_pos rfl, if_neg (fun h => hc ⟨h.2.2.1, h.2.2.2⟩)]
    · rename_i hk
      rw [if_neg (c := x.player = x.player ∧ (x.kind = 1 ∨ x.kind = 2) ∧ x.hour ≤ s.f.close ∧ (s.pl x.player).ent = false) (fun h => hk h.2.1)]
      repeat' split
      all_goals (rw [put, if_pos rfl]; try rfl)
  · rw [if_neg (c := x.player = p ∧ _) (fun h => hp h.1.symm)]
    repeat' split
    all_goals rw [put, if_neg hp]

theorem tri_fold (f : Fd) (h p : Int) : ∀ (r : List Nt) (s : St), s.f.close = f.close → (∀ x ∈ r, x.hour ≤ h) → tri ((r.foldl St.take s).pl p) = if (s.pl p).ent then tri (s.pl p) else match r.find? (entQ f h p) with | some x => (true, decide (x.kind = 2), x.rank) | none => tri (s.pl p)
  | [], s, _, _ => by simp
  | x :: r, s, hc, hr => by
    have ih := tri_fold f h p r (s.take x) ((said_fd s x).trans hc) (fun y hy => hr y (List.mem_cons_of_mem _ hy))
    rw [List.foldl_cons, ih]
    have e1 : tri ((s.take x).pl p) = tri ((s.said x).pl p) := rfl
    have e2 : ((s.take x).pl p).ent = (tri ((s.said x).pl p)).1 := rfl
    rw [e1, e2, tri_said]
    have hx := hr x (List.mem_cons_self ..)
    cases he : (s.pl p).ent with
    | true =>
      rw [if_neg (c := x.player = p ∧ _) (fun h => by simp at h)]
      have : (tri (s.pl p)).1 = true := he
      rw [this]; rfl
    | false =>
      by_cases hq : x.player = p ∧ (x.kind = 1 ∨ x.kind = 2) ∧ x.hour ≤ s.f.close
      · rw [if_pos (c := x.player = p ∧ _) ⟨hq.1, hq.2.1, hq.2.2, rfl⟩]
        have : entQ f h p x = true := by
          unfold entQ
          have h1 := hq.2.2
          rw [hc] at h1
          simp [hq.1, hq.2.1, hx, h1]
        rw [List.find?_cons_of_pos this]; rfl
      · rw [if_neg (c := x.player = p ∧ _) (fun h => hq ⟨h.1, h.2.1, h.2.2.1⟩)]
        have : ¬ entQ f h p x = true := by
          unfold entQ
          intro h1
          simp only [Bool.and_eq_true, Bool.or_eq_true, decide_eq_true_eq] at h1
          exact hq ⟨h1.1.1.1, h1.1.1.2, by rw [hc]; exact h1.2⟩
        rw [List.find?_cons_of_neg this]
        have : (tri (s.pl p)).1 = false := he
        rw [this]

theorem find_filter {a : List Nt} (q p : Nt → Bool) (hqp : ∀ x, q x = true → p x = true) : (a.filter p).find? q = a.find? q := by
  induction a with
  | nil => rfl
  | cons x r ih =>
    by_cases hp : p x = true
    · rw [List.filter_cons_of_pos hp, List.find?_cons, List.find?_cons, ih]
    · rw [List.filter_cons_of_neg hp, ih, List.find?_cons_of_neg (fun h => hp (hqp x h))]

theorem entered_eq {l d : List Nt} (hd : diffs l = some d) (f : Fd) (h p : Int) :
    tri ((atL f h d).pl p) = (decide ((entF f h p l).hour ≤ 9999), decide ((entF f h p l).kind = 2), (entF f h p l).rank) := by
  obtain ⟨_, ht, hm⟩ := diffs_spec hd
  have h1 := tri_fold f h p (d.filter (fun x => decide (x.hour ≤ h))) (St.new f) rfl (fun x hx => by have := (List.mem_filter.1 hx).2; simpa using this)
  have e : (d.filter (fun x => decide (x.hour ≤ h))).find? (entQ f h p) = d.find? (entQ f h p) := find_filter _ _ (fun x hx => by
    unfold entQ at hx
    simp only [Bool.and_eq_true] at hx
    exact hx.1.2)
  rw [e] at h1
  have h2 : ((St.new f).pl p).ent = false := rfl
  rw [h2] at h1
  change tri ((atL f h d).pl p) = _ at h1
  rw [h1]
  rcases entF_find ht hm f h p with ⟨h3, h4⟩ | ⟨x, hx, h3, h4, _⟩
  · rw [h3, h4]; rfl
  · have hv := (valid_hour (ht.valid x ((hm x).2 hx))).2
    rw [h3, h4, decide_eq_true hv]; rfl
end E
end Go.Proofs.Ytklomhmdiflfaaa

namespace Go.Proofs.Ytklomhmdiflfaaa
namespace E

theorem guardsOf_app (s : St) (l m : List Int) : s.guardsOf (l ++ m) = s.guardsOf l + s.guardsOf m := by
  unfold St.guardsOf
  rw [List.map_append, List.sum_append]
theorem guardsOf_one (s : St) (k : Int) : s.guardsOf [k] = one (s.pl k).grd := by simp [St.guardsOf]
theorem fill_full {s : St} (lt : Bool) : ∀ (l acc : List Int) (g : Int), s.f.places ≤ (acc.length : Int) → s.fill lt l acc g = acc
  | [], _, _, _ => rfl
  | a :: r, acc, g, h => by
    unfold St.fill
    rw [if_neg (fun hc => by have := hc.1; omega)]
    exact fill_full lt r acc g h
theorem fill_guards {s : St} (lt : Bool) : ∀ (l acc : List Int) (g : Int), s.guardsOf acc ≤ s.guardsOf (s.fill lt l acc g)
  | [], _, _ => Int.le_refl _
  | a :: r, acc, g => by
    unfold St.fill
    split
    · have h1 := fill_guards (s := s) lt r (acc ++ [a]) (g + one (s.pl a).grd)
      have h2 := one_bd (s.pl a).grd
      rw [guardsOf_app, guardsOf_one] at h1
      omega
    · exact fill_guards lt r acc g

theorem fill_pass {s : St} (lt : Bool) {o : Int} : ∀ (l acc : List Int) (g : Int), g = s.guardsOf acc → o ∈ l → o ∉ s.fill lt l acc g →
    (s.f.places ≤ ((s.fill lt l acc g).length : Int) ∧ ∃ l1 l2, l = l1 ++ o :: l2 ∧ ∀ k ∈ s.fill lt l acc g, k ∈ acc ∨ k ∈ l1) ∨ (lt = true ∧ (s.pl o).sgn = false) ∨ ((s.pl o).grd = true ∧ s.f.guards ≤ s.guardsOf (s.fill lt l acc g))
  | [], _, _, _, h, _ => by cases h
  | a :: r, acc, g, hg, ho, hn => by
    unfold St.fill at hn ⊢
    by_cases hc : (acc.length : Int) < s.f.places ∧ ((s.pl a).sgn = true ∨ lt = false) ∧ (g < s.f.guards ∨ (s.pl a).grd = false)
    · rw [if_pos hc] at hn ⊢
      have hno : o ≠ a := fun e => hn (fill_keep lt r _ _ (by rw [e]; simp))
      have hor : o ∈ r := (List.mem_cons.1 ho).resolve_left hno
      rcases fill_pass lt r (acc ++ [a]) (g + one (s.pl a).grd) (by rw [guardsOf_app, guardsOf_one, hg]) hor hn with ⟨h1, l1, l2, h2, h3⟩ | h1
      · refine .inl ⟨h1, a :: l1, l2, by rw [h2]; rfl, fun k hk => ?_⟩
        rcases h3 k hk with h4 | h4
        · rcases List.mem_append.1 h4 with h5 | h5
          · exact .inl h5
          · right; simp at h5; rw [h5]; exact List.mem_cons_self ..
        · exact .inr (List.mem_cons_of_mem _ h4)
      · exact .inr h1
    · rw [if_neg hc] at hn ⊢
      by_cases e : o = a
      · subst e
        by_cases h1 : (acc.length : Int) < s.f.places
        · by_cases h2 : (s.pl o).sgn = true ∨ lt = false
          · have h3 : ¬ (g < s.f.guards ∨ (s.pl o).grd = false) := fun h => hc ⟨h1, h2, h⟩
            have h4 : (s.pl o).grd = true := by
              cases h : (s.pl o).grd with
              | true => rfl
              | false => exact absurd (.inr h) h3
            have h5 : ¬ g < s.f.guards := fun h => h3 (.inl h)
            have h6 := fill_guards (s := s) lt r acc g
            exact .inr (.inr ⟨h4, by omega⟩)
          · refine .inr (.inl ⟨?_, ?_⟩)
            · cases h : lt with
              | true => rfl
              | false => exact absurd (.inr h) h2
            · cases h : (s.pl o).sgn with
              | false => rfl
              | true => exact absurd (.inl h) h2
        · rw [fill_full lt r acc g (by omega)]
          exact .inl ⟨by omega, [], r, rfl, fun k hk => .inl hk⟩
      · have hor : o ∈ r := (List.mem_cons.1 ho).resolve_left e
        rcases fill_pass lt r acc g hg hor hn with ⟨h1, l1, l2, h2, h3⟩ | h1
        · refine .inl ⟨h1, a :: l1, l2, by rw [h2]; rfl, fun k hk => ?_⟩
          exact (h3 k hk).imp id (fun h4 => List.mem_cons_of_mem _ h4)
        · exact .inr h1

theorem alts_mem {s : St} {o : Int} : o ∈ s.alts ↔ o ∈ s.order ∧ o ∉ s.main := by
  unfold St.alts
  rw [List.mem_filter]
  simp

theorem right_late {s : St} {x : Nt} (hl : late s.f x.hour = true) {o : Int} (ho : o ∈ (s.take x).alts) (hs : ((s.take x).pl o).sgn = true) :
    (s.take x).f.places ≤ ((s.take x).main.length : Int) ∨ (((s.take x).pl o).grd = true ∧ (s.take x).f.guards ≤ (s.take x).guardsOf (s.take x).main) := by
  obtain ⟨h1, h2⟩ := alts_mem.1 ho
  have key : ∀ (u : St), o ∈ (u.settle true).order → o ∉ (u.settle true).main → ((u.settle true).pl o).sgn = true → (u.settle true).f.places ≤ ((u.settle true).main.length : Int) ∨ (((u.settle true).pl o).grd = true ∧ (u.settle true).f.guards ≤ (u.settle true).guardsOf (u.settle true).main) := by
    intro u h1 h2 hs
    have hm : o ∉ u.main.filter (fun k => true && (u.pl k).entry) := fun h => h2 (fill_keep _ _ _ _ h)
    have hin : o ∈ ({ u with main := u.main.filter (fun k => true && (u.pl k).entry) } : St).alts := alts_mem.2 ⟨h1, hm⟩
    rcases fill_pass (s := u) true _ _ _ rfl hin h2 with h3 | h3 | h3
    · exact .inl h3.1
    · have : (u.pl o).sgn = true := hs
      rw [h3.2] at this; cases this
    · exact .inr h3
  unfold St.take at h1 h2 hs ⊢
  rw [hl] at h1 h2 hs ⊢
  exact key _ h1 h2 hs

theorem right_early {s : St} (hm : s.main = s.greedy) {o : Int} (ho : o ∈ s.alts) :
    (s.f.places ≤ (s.main.length : Int) ∧ ∀ k ∈ s.main, 0 ≤ cmpP (s.pl o) (s.pl k)) ∨ ((s.pl o).grd = true ∧ s.f.guards ≤ s.guardsOf s.main) := by
  obtain ⟨h1, h2⟩ := alts_mem.1 ho
  rw [hm] at h2 ⊢
  unfold St.greedy at h2 ⊢
  rcases fill_pass (s := s) false s.order [] 0 (by simp [St.guardsOf]) h1 h2 with ⟨h3, l1, l2, h4, h5⟩ | h3 | h3
  · refine .inl ⟨h3, fun k hk => ?_⟩
    have hk1 : k ∈ l1 := (h5 k hk).resolve_left (by simp)
    have hs := List.pairwise_mergeSort (le := s.leP) (leP_trans s) (leP_total s) (s.known.filter fun k => (s.pl k).entry)
    change s.order.Pairwise _ at hs
    rw [h4] at hs
    have := (List.pairwise_append.1 hs).2.2 k hk1 o (List.mem_cons_self ..)
    unfold St.leP at this
    exact of_decide_eq_true this
  · cases h3.1
  · exact .inr h3

theorem cmpP_rank {p q : Pl} (h : 0 ≤ cmpP p q) : ¬ (0 < p.rank ∧ (q.rank = 0 ∨ p.rank < q.rank)) := by
  rintro ⟨h1, h2⟩
  unfold cmpP at h
  have e1 : (p.rank == 0) = false := by rw [beq_eq_false_iff_ne]; omega
  rw [e1] at h
  by_cases hq : q.rank = 0
  · have e2 : (q.rank == 0) = true := by rw [hq]; rfl
    rw [e2] at h
    simp [one, orL, cmp] at h
  · have e2 : (q.rank == 0) = false := by rw [beq_eq_false_iff_ne]; exact hq
    rw [e2] at h
    have h3 : p.rank < q.rank := h2.resolve_left hq
    simp [one, orL, cmp, h3] at h

theorem sgn_said (s : St) (x : Nt) (p : Int) : ((s.said x).pl p).sgn = ((s.pl p).sgn || (decide (x.kind = 5) && decide (x.player = p))) := by
  have put : ∀ (s0 : St) (q : Pl), (s0.put x.player q).pl p = if p = x.player then q else s0.pl p := fun _ _ => rfl
  unfold St.said
  dsimp only
  by_cases hp : p = x.player
  · subst hp
    repeat' split
    all_goals (rw [put, if_pos rfl])
    all_goals first
      | (rename_i h _; have h5 : ¬ x.kind = 5 := (by omega); simp [h5]; done)
      | (rename_i h; have h5 : ¬ x.kind = 5 := (by omega); simp [h5]; done)
      | (rename_i h; simp [h]; done)
  · have e : decide (x.player = p) = false := decide_eq_false (fun h => hp h.symm)
    rw [e, Bool.and_false, Bool.or_false]
    repeat' split
    all_goals rw [put, if_neg hp]
theorem sgn_fold (p : Int) : ∀ (r : List Nt) (s : St), ((r.foldl St.take s).pl p).sgn = true ↔ (s.pl p).sgn = true ∨ ∃ x ∈ r, x.kind = 5 ∧ x.player = p
  | [], s => by simp
  | x :: r, s => by
    have e : ((s.take x).pl p).sgn = ((s.said x).pl p).sgn := rfl
    rw [List.foldl_cons, sgn_fold p r, e, sgn_said]
    simp only [Bool.or_eq_true, Bool.and_eq_true, decide_eq_true_eq, List.mem_cons]
    constructor
    · rintro ((h | h) | ⟨y, hy, h⟩)
      · exact .inl h
      · exact .inr ⟨x, .inl rfl, h⟩
      · exact .inr ⟨y, .inr hy, h⟩
    · rintro (h | ⟨y, rfl | hy, h⟩)
      · exact .inl (.inl h)
      · exact .inl (.inr h)
      · exact .inr ⟨y, hy, h⟩
theorem said_guards (s : St) (x : Nt) : (s.said x).f.guards = s.f.guards := by
  unfold St.said
  dsimp only
  repeat' split
  all_goals (first | rfl | (simp only [St.put]; split <;> rfl))
theorem fold_guards : ∀ (r : List Nt) (s : St), (r.foldl St.take s).f.guards = s.f.guards
  | [], _ => rfl
  | x :: r, s => (fold_guards r (s.take x)).trans (said_guards s x)

theorem right {f : Fd} {l d : List Nt} (hd : diffs l = some d) (h : Int) {o : Int} (ho : o ∈ (atL f h d).alts) (hb : ¬ ((entF f h o l).kind = 2 ∧ f.guards ≤ (atL f h d).guardsOf (atL f h d).main)) :
    (h ≤ f.freeze → (atL f h d).f.places ≤ ((atL f h d).main.length : Int) ∧ ∀ k ∈ (atL f h d).main, ¬ (0 < (entF f h o l).rank ∧ ((entF f h k l).rank = 0 ∨ (entF f h o l).rank < (entF f h k l).rank))) ∧
    (f.freeze < h → (∃ x ∈ l, f.freeze < x.hour ∧ x.hour ≤ h) → (∃ x ∈ l, x.kind = 5 ∧ x.player = o ∧ x.hour ≤ h) → (atL f h d).f.places ≤ ((atL f h d).main.length : Int)) := by
  obtain ⟨_, ht, hm⟩ := diffs_spec hd
  have hg : (atL f h d).f.guards = f.guards := fold_guards _ _
  have hgr : ∀ k, ((atL f h d).pl k).grd = decide ((entF f h k l).kind = 2) := fun k => congrArg (fun t => t.2.1) (entered_eq hd f h k)
  have hrk : ∀ k, ((atL f h d).pl k).rank = (entF f h k l).rank := fun k => congrArg (fun t => t.2.2) (entered_eq hd f h k)
  have hnb : ¬ (((atL f h d).pl o).grd = true ∧ (atL f h d).f.guards ≤ (atL f h d).guardsOf (atL f h d).main) := fun hh => hb ⟨by have := hh.1; rw [hgr] at this; exact of_decide_eq_true this, by have := hh.2; rw [hg] at this; exact this⟩
  refine ⟨fun hz => ?_, fun hz ⟨x, hx, hx1, hx2⟩ ⟨y, hy, hy1, hy2, hy3⟩ => ?_⟩
  · have hgreedy : (atL f h d).main = (atL f h d).greedy := fold_greedy f.freeze _ (St.new f) rfl (fun x hx => by have := (List.mem_filter.1 hx).2; simp at this; omega) (greedy_new f)
    rcases right_early hgreedy ho with ⟨h1, h2⟩ | h1
    · refine ⟨h1, fun k hk => ?_⟩
      have := cmpP_rank (h2 k hk)
      rw [hrk, hrk] at this
      exact this
    · exact absurd h1 hnb
  · obtain ⟨r, z, hr⟩ : ∃ r z, d.filter (fun x => decide (x.hour ≤ h)) = r ++ [z] := by
      have hmem : x ∈ d.filter (fun x => decide (x.hour ≤ h)) := List.mem_filter.2 ⟨(hm x).2 hx, by simpa using hx2⟩
      have hne : d.filter (fun x => decide (x.hour ≤ h)) ≠ [] := List.ne_nil_of_mem hmem
      exact ⟨_, _, (List.dropLast_concat_getLast hne).symm⟩
    have hz2 : f.freeze < z.hour := by
      have hmem : x ∈ r ++ [z] := by rw [← hr]; exact List.mem_filter.2 ⟨(hm x).2 hx, by simpa using hx2⟩
      have hs : (r ++ [z]).Pairwise (fun a b => a.hour ≤ b.hour) := by rw [← hr]; exact List.Pairwise.sublist List.filter_sublist (taken_hours ht)
      rcases List.mem_append.1 hmem with h1 | h1
      · have := (List.pairwise_append.1 hs).2.2 x h1 z (by simp)
        omega
      · simp at h1; rw [← h1]; exact hx1
    have hat : atL f h d = (r.foldl St.take (St.new f)).take z := by
      unfold atL
      rw [hr, List.foldl_append]
      rfl
    have hfz := (fold_fd r (St.new f)).2
    have hlate : late (r.foldl St.take (St.new f)).f z.hour = true := by
      unfold late
      rw [hfz]
      exact decide_eq_true hz2
    have hsg : ((atL f h d).pl o).sgn = true := (sgn_fold o _ (St.new f)).2 (.inr ⟨y, List.mem_filter.2 ⟨(hm y).2 hy, by simpa using hy3⟩, hy1, hy2⟩)
    rw [hat] at ho hsg hnb ⊢
    rcases right_late hlate ho hsg with h1 | h1
    · exact h1
    · exact absurd h1 hnb
end E
end Go.Proofs.Ytklomhmdiflfaaa

namespace Go.Proofs.Ytklomhmdiflfaaa
open Go.RowKit
attribute [local go_sem ↓] Go.wp_at_zero Go.wp_at_succ

theorem ntRow : (Try.prog.info? 40).map (·.size) = some 5 := by kernel_rfl
theorem E.entF_app (f : E.Fd) (h p : Int) (l : List E.Nt) (x : E.Nt) : E.entF f h p (l ++ [x]) = E.entStep f h p (E.entF f h p l) x := by
  unfold E.entF
  rw [List.foldl_append]; rfl

theorem E.ent_cases (f : E.Fd) (h p : Int) (a x : E.Nt) :
    (E.entStep f h p a x = a ∧ (x.player == p) = false) ∨
    (E.entStep f h p a x = a ∧ (x.player == p) = true ∧ (x.kind == 1) = false ∧ (x.kind == 2) = false) ∨
    (((x.player == p) = true ∧ (x.kind == 1 || x.kind == 2) = true) ∧
      ((E.entStep f h p a x = a ∧ ¬ x.hour ≤ h) ∨
       (E.entStep f h p a x = a ∧ x.hour ≤ h ∧ ¬ x.hour ≤ f.close) ∨
       (E.entStep f h p a x = x ∧ x.hour ≤ h ∧ x.hour ≤ f.close ∧ x.hour < a.hour) ∨
       (E.entStep f h p a x = a ∧ x.hour ≤ h ∧ x.hour ≤ f.close ∧ ¬ x.hour < a.hour ∧ (x.hour == a.hour) = false) ∨
       (E.entStep f h p a x = a ∧ x.hour ≤ h ∧ x.hour ≤ f.close ∧ ¬ x.hour < a.hour ∧ (x.hour == a.hour) = true ∧ ¬ x.id < a.id) ∨
       (E.entStep f h p a x = x ∧ x.hour ≤ h ∧ x.hour ≤ f.close ∧ ¬ x.hour < a.hour ∧ (x.hour == a.hour) = true ∧ x.id < a.id))) := by
  have hq : E.entQ f h p x = true ↔ x.player = p ∧ (x.kind = 1 ∨ x.kind = 2) ∧ x.hour ≤ h ∧ x.hour ≤ f.close := by
    unfold E.entQ
    simp only [Bool.and_eq_true, Bool.or_eq_true, decide_eq_true_eq]
    constructor
    · rintro ⟨⟨⟨h1, h2⟩, h3⟩, h4⟩; exact ⟨h1, h2, h3, h4⟩
    · rintro ⟨h1, h2, h3, h4⟩; exact ⟨⟨⟨h1, h2⟩, h3⟩, h4⟩
  have hn : ∀ (P : Prop), ¬ (E.entQ f h p x = true ∧ (x.hour < a.hour ∨ x.hour = a.hour ∧ x.id < a.id)) → E.entStep f h p a x = a := fun _ h1 => by unfold E.entStep; rw [if_neg h1]
  have hy : E.entQ f h p x = true → (x.hour < a.hour ∨ x.hour = a.hour ∧ x.id < a.id) → E.entStep f h p a x = x := fun h1 h2 => by unfold E.entStep; rw [if_pos ⟨h1, h2⟩]
  simp only [beq_iff_eq, beq_eq_false_iff_ne, ne_eq, Bool.or_eq_true]
  by_cases c1 : x.player = p
  · by_cases c2 : x.kind = 1 ∨ x.kind = 2
    · refine .inr (.inr ⟨⟨c1, c2⟩, ?_⟩)
      by_cases c3 : x.hour ≤ h
      · by_cases c4 : x.hour ≤ f.close
        · have hQ := hq.2 ⟨c1, c2, c3, c4⟩
          by_cases c5 : x.hour < a.hour
          · exact .inr (.inr (.inl ⟨hy hQ (.inl c5), c3, c4, c5⟩))
          · by_cases c6 : x.hour = a.hour
            · by_cases c7 : x.id < a.id
              · exact .inr (.inr (.inr (.inr (.inr ⟨hy hQ (.inr ⟨c6, c7⟩), c3, c4, c5, c6, c7⟩))))
              · exact .inr (.inr (.inr (.inr (.inl ⟨hn True (fun h => h.2.elim c5 (fun h => c7 h.2)), c3, c4, c5, c6, c7⟩))))
            · exact .inr (.inr (.inr (.inl ⟨hn True (fun h => h.2.elim c5 (fun h => c6 h.1)), c3, c4, c5, c6⟩)))
        · exact .inr (.inl ⟨hn True (fun h => c4 (hq.1 h.1).2.2.2), c3, c4⟩)
      · exact .inl ⟨hn True (fun h => c3 (hq.1 h.1).2.2.1), c3⟩
    · exact .inr (.inl ⟨hn True (fun h => c2 (hq.1 h.1).2.1), c1, fun h => c2 (.inl h), fun h => c2 (.inr h)⟩)
  · exact .inl ⟨hn True (fun h => c1 (hq.1 h.1).1), c1⟩

set_option maxHeartbeats 6400000 in
set_option maxRecDepth 100000 in
theorem entered_any (f : E.Fd) (A : Option Addr) (n c : Nat) (l : List E.Nt) (h p : Int) (w : World) (hn : l.length = n) (hr : RdN w w.heap.size A l) (hm : n ≤ 1000000) :
    Calls Try.prog 22 #[.agg #[.int .i64 f.places, .int .i64 f.wilds, .int .i64 f.guards, .int .i64 f.close, .int .i64 f.freeze], .slice A n c, .int .i64 h, .int .i64 p] w fun e w' => e = .returned (.tuple #[.bool (decide ((E.entF f h p l).hour ≤ 9999)), .bool (decide ((E.entF f h p l).kind = 2)), .int .i64 (E.entF f h p l).rank]) ∧ Below w.heap.size w w' := by
  have HN := hide hn
  have HR := hide hr
  clear hn hr
  go_enter Try.func22, Try.ntmps22
  go_wp2_with fail
  obtain ⟨w0, hw0⟩ : ∃ w0, (w.alloc (.cells #[.int .i64 f.places, .int .i64 f.wilds, .int .i64 f.guards, .int .i64 f.close, .int .i64 f.freeze] 23)).alloc (.cells #[.int .i64 0, .int .i64 10000, .int .i64 0, .int .i64 0, .int .i64 0] 40) = w0 := ⟨_, rfl⟩
  have HB0 := hide (show Below w.heap.size w w0 by rw [← hw0]; (repeat' first | exact zbR _ _ | assumption | refine zbD ?_ | refine zbA ?_ ?_ _ | refine zbS ?_ ?_ _ | refine zbT ?_ (by assumption) ?_ | (simp; done) | (simp; omega) | omega))
  have HF0 := hide (show w0.heap[w.heap.size]? = some (.cells #[.int .i64 f.places, .int .i64 f.wilds, .int .i64 f.guards, .int .i64 f.close, .int .i64 f.freeze] 23 (0, 0)) by rw [← hw0]; exact (Below.heap_alloc _ _ _ (by first | (simp; done) | (simp; omega) | omega)).trans (World.alloc_heap_new _ _))
  have HA0 := hide (show w0.heap[w.heap.size + 1]? = some (.cells #[.int .i64 0, .int .i64 10000, .int .i64 0, .int .i64 0, .int .i64 0] 40 (0, 0)) by rw [← hw0]; exact (congrArg _ (by simp)).trans (World.alloc_heap_new _ _))
  rw [hw0]
  clear hw0
  go_loopw [12] (fun i wr => ∃ (k : Nat) (a : E.Nt), k ≤ n ∧ i = .int .i64 k ∧ Hid (a = E.entF f h p (l.take k)) ∧ Hid (wr.heap[w.heap.size]? = some (.cells #[.int .i64 f.places, .int .i64 f.wilds, .int .i64 f.guards, .int .i64 f.close, .int .i64 f.freeze] 23 (0, 0))) ∧ Hid (wr.heap[w.heap.size + 1]? = some (.cells #[.int .i64 a.id, .int .i64 a.hour, .int .i64 a.kind, .int .i64 a.player, .int .i64 a.rank] 40 (0, 0))) ∧ Hid (Below w.heap.size w wr)) (fun i _ => n - (intOf i).toNat)
  case atStart => exact ⟨0, E.entZ, by omega, rfl, hide rfl, HF0, HA0, HB0⟩
  case round =>
    obtain ⟨k, a, hk, rfl, HE, HF, HA, HBr⟩ := hrel
    have z0 : wr.cell? ⟨w.heap.size, 3, none⟩ = some (.int .i64 f.close) := (blk_cell HF.out 3).trans rfl
    have a0 : wr.cell? ⟨w.heap.size + 1, 0, none⟩ = some (.int .i64 a.id) := (blk_cell HA.out 0).trans rfl
    have a1 : wr.cell? ⟨w.heap.size + 1, 1, none⟩ = some (.int .i64 a.hour) := (blk_cell HA.out 1).trans rfl
    have a2 : wr.cell? ⟨w.heap.size + 1, 2, none⟩ = some (.int .i64 a.kind) := (blk_cell HA.out 2).trans rfl
    have a4 : wr.cell? ⟨w.heap.size + 1, 4, none⟩ = some (.int .i64 a.rank) := (blk_cell HA.out 4).trans rfl
    have g1 : w.heap.size + 1 < wr.heap.size := blk_lt HA.out
    have g0 : w.heap.size < wr.heap.size := blk_lt HF.out
    by_cases hlt : k < n
    · obtain ⟨x, hx⟩ : ∃ q, l[k]? = some q := ⟨_, List.getElem?_eq_getElem (by have := HN.out; omega)⟩
      obtain ⟨b, o, hA, hbB, d0, d1, d2, d3, d4⟩ := (HR.out.below HBr.out) k x hx
      subst hA
      have HTK := hide (show l.take (k + 1) = l.take k ++ [x] by rw [List.take_add_one, hx]; rfl)
      have hlt' : (k : Int) < (n : Int) := by omega
      have hk0 : (0 : Int) ≤ (k : Int) := by omega
      have hbr : b < wr.heap.size := Nat.lt_trans hbB g0
      clear hx
      rcases E.ent_cases f h p a x with ⟨he, h1⟩ | ⟨he, h1, h2, h3⟩ | ⟨⟨h1, h23⟩, HC⟩
      · have HS := hide he
        clear he
        go_wp2_with fail
        have HBW := hide (show Below wr.heap.size wr (wr.alloc (.cells #[.int .i64 x.id, .int .i64 x.hour, .int .i64 x.kind, .int .i64 x.player, .int .i64 x.rank] 40)) by (repeat' first | exact zbR _ _ | assumption | refine zbD ?_ | refine zbA ?_ ?_ _ | refine zbS ?_ ?_ _ | refine zbT ?_ (by assumption) ?_ | (simp; done) | (simp; omega) | omega))
        clear d0 d1 d2 d3 d4 z0 a0 a1 a2 a4
        go_roundw
        case rel => exact ⟨k + 1, a, by omega, by go_num, hide (by rw [HTK.out, E.entF_app, ← HE.out]; exact HS.out.symm), hide ((HBW.out.block _ g0).trans HF.out), hide ((HBW.out.block _ g1).trans HA.out), hide (zbT HBr.out HBW.out (by omega))⟩
        case measure => simp [intOf]; omega
      · have HS := hide he
        clear he
        go_wp2_with fail
        have HBW := hide (show Below wr.heap.size wr (wr.alloc (.cells #[.int .i64 x.id, .int .i64 x.hour, .int .i64 x.kind, .int .i64 x.player, .int .i64 x.rank] 40)) by (repeat' first | exact zbR _ _ | assumption | refine zbD ?_ | refine zbA ?_ ?_ _ | refine zbS ?_ ?_ _ | refine zbT ?_ (by assumption) ?_ | (simp; done) | (simp; omega) | omega))
        clear d0 d1 d2 d3 d4 z0 a0 a1 a2 a4
        go_roundw
        case rel => exact ⟨k + 1, a, by omega, by go_num, hide (by rw [HTK.out, E.entF_app, ← HE.out]; exact HS.out.symm), hide ((HBW.out.block _ g0).trans HF.out), hide ((HBW.out.block _ g1).trans HA.out), hide (zbT HBr.out HBW.out (by omega))⟩
        case measure => simp [intOf]; omega
      · obtain ⟨q, hq⟩ : ∃ q, (x.kind == 1) = q := ⟨_, rfl⟩
        have h4 : q = false → (x.kind == 2) = true := by rintro rfl; rw [hq] at h23; simpa using h23
        clear h23
        cases q
        all_goals (first | have h5 := h4 rfl | skip)
        all_goals clear h4
        · rcases HC with ⟨he, e1⟩ | ⟨he, e1, e2⟩ | ⟨he, e1, e2, e3⟩ | ⟨he, e1, e2, e3, e4⟩ | ⟨he, e1, e2, e3, e4, e5⟩ | ⟨he, e1, e2, e3, e4, e5⟩
          · have HS := hide he
            clear he
            (try simp only [Int.not_le, Int.not_lt] at *)
            go_wp2_with fail
            have HBW := hide (show Below wr.heap.size wr (wr.alloc (.cells #[.int .i64 x.id, .int .i64 x.hour, .int .i64 x.kind, .int .i64 x.player, .int .i64 x.rank] 40)) by (repeat' first | exact zbR _ _ | assumption | refine zbD ?_ | refine zbA ?_ ?_ _ | refine zbS ?_ ?_ _ | refine zbT ?_ (by assumption) ?_ | (simp; done) | (simp; omega) | omega))
            clear d0 d1 d2 d3 d4 z0 a0 a1 a2 a4
            go_roundw
            case rel => exact ⟨k + 1, a, by omega, by go_num, hide (by rw [HTK.out, E.entF_app, ← HE.out]; exact HS.out.symm), hide ((HBW.out.block _ g0).trans HF.out), hide ((HBW.out.block _ g1).trans HA.out), hide (zbT HBr.out HBW.out (by omega))⟩
            case measure => simp [intOf]; omega
          · have HS := hide he
            clear he
            (try simp only [Int.not_le, Int.not_lt] at *)
            go_wp2_with fail
            have HBW := hide (show Below wr.heap.size wr (wr.alloc (.cells #[.int .i64 x.id, .int .i64 x.hour, .int .i64 x.kind, .int .i64 x.player, .int .i64 x.rank] 40)) by (repeat' first | exact zbR _ _ | assumption | refine zbD ?_ | refine zbA ?_ ?_ _ | refine zbS ?_ ?_ _ | refine zbT ?_ (by assumption) ?_ | (simp; done) | (simp; omega) | omega))
            clear d0 d1 d2 d3 d4 z0 a0 a1 a2 a4
            go_roundw
            case rel => exact ⟨k + 1, a, by omega, by go_num, hide (by rw [HTK.out, E.entF_app, ← HE.out]; exact HS.out.symm), hide ((HBW.out.block _ g0).trans HF.out), hide ((HBW.out.block _ g1).trans HA.out), hide (zbT HBr.out HBW.out (by omega))⟩
            case measure => simp [intOf]; omega
          · have HS := hide he
            clear he
            (try simp only [Int.not_le, Int.not_lt] at *)
            go_upto_region 7 with fail
            obtain ⟨W6, hW6⟩ : ∃ W6, (wr.alloc (.cells #[.int .i64 x.id, .int .i64 x.hour, .int .i64 x.kind, .int .i64 x.player, .int .i64 x.rank] 40)) = W6 := ⟨_, rfl⟩
            have HBW := hide (show Below wr.heap.size wr W6 by rw [← hW6]; (repeat' first | exact zbR _ _ | assumption | refine zbD ?_ | refine zbA ?_ ?_ _ | refine zbS ?_ ?_ _ | refine zbT ?_ (by assumption) ?_ | (simp; done) | (simp; omega) | omega))
            have HX6 := hide (show W6.heap[wr.heap.size]? = some (.cells #[.int .i64 x.id, .int .i64 x.hour, .int .i64 x.kind, .int .i64 x.player, .int .i64 x.rank] 40 (0, 0)) by rw [← hW6]; exact World.alloc_heap_new _ _)
            have HAW := hide ((HBW.out.block _ g1).trans HA.out)
            rw [hW6]
            clear hW6 d0 d1 d2 d3 d4 z0 a0 a1 a2 a4
            have x0 : W6.cell? ⟨wr.heap.size, 0, none⟩ = some (.int .i64 x.id) := (blk_cell HX6.out 0).trans rfl
            have x1 : W6.cell? ⟨wr.heap.size, 1, none⟩ = some (.int .i64 x.hour) := (blk_cell HX6.out 1).trans rfl
            have x2 : W6.cell? ⟨wr.heap.size, 2, none⟩ = some (.int .i64 x.kind) := (blk_cell HX6.out 2).trans rfl
            have x3 : W6.cell? ⟨wr.heap.size, 3, none⟩ = some (.int .i64 x.player) := (blk_cell HX6.out 3).trans rfl
            have x4 : W6.cell? ⟨wr.heap.size, 4, none⟩ = some (.int .i64 x.rank) := (blk_cell HX6.out 4).trans rfl
            go_wp2_with (refine wpList_store_row rfl 40 _ _ rfl (w.heap.size + 1) _ rfl rfl 40 _ HAW.out ntRow rfl (by simp [Value.oneCell']) ?_)
            obtain ⟨W9, hW9⟩ : ∃ W9, W6.setRow (w.heap.size + 1) #[.int .i64 x.id, .int .i64 x.hour, .int .i64 x.kind, .int .i64 x.player, .int .i64 x.rank] = W9 := ⟨_, rfl⟩
            have HR9 := hide (show W9.heap[w.heap.size + 1]? = some (.cells #[.int .i64 x.id, .int .i64 x.hour, .int .i64 x.kind, .int .i64 x.player, .int .i64 x.rank] 40 (0, 0)) by rw [← hW9]; exact setRow_heap1 HAW.out)
            have HG9 := hide (show W6.grownBy W9 (some (w.heap.size + 1)) by rw [← hW9]; exact setRow_grown _ _ _)
            (try rw [hW9])
            clear hW9 x0 x1 x2 x3 x4
            go_roundw
            case rel => exact ⟨k + 1, x, by omega, by go_num, hide (by rw [HTK.out, E.entF_app, ← HE.out]; exact HS.out.symm), hide ((HG9.out.block _ (Nat.lt_of_lt_of_le g0 HBW.out.size) (by simp)).trans ((HBW.out.block _ g0).trans HF.out)), hide HR9.out, hide (zbT (zbT HBr.out HBW.out (Nat.le_of_lt g0)) (grown_below (B := w.heap.size) HG9.out (Nat.le_trans (Nat.le_of_lt g0) HBW.out.size) (fun g e => by have h1 := Option.some.inj e; omega)) (Nat.le_refl _))⟩
            case measure => simp [intOf]; omega
          · have HS := hide he
            clear he
            (try simp only [Int.not_le, Int.not_lt] at *)
            go_wp2_with fail
            have HBW := hide (show Below wr.heap.size wr (wr.alloc (.cells #[.int .i64 x.id, .int .i64 x.hour, .int .i64 x.kind, .int .i64 x.player, .int .i64 x.rank] 40)) by (repeat' first | exact zbR _ _ | assumption | refine zbD ?_ | refine zbA ?_ ?_ _ | refine zbS ?_ ?_ _ | refine zbT ?_ (by assumption) ?_ | (simp; done) | (simp; omega) | omega))
            clear d0 d1 d2 d3 d4 z0 a0 a1 a2 a4
            go_roundw
            case rel => exact ⟨k + 1, a, by omega, by go_num, hide (by rw [HTK.out, E.entF_app, ← HE.out]; exact HS.out.symm), hide ((HBW.out.block _ g0).trans HF.out), hide ((HBW.out.block _ g1).trans HA.out), hide (zbT HBr.out HBW.out (by omega))⟩
            case measure => simp [intOf]; omega
          · have HS := hide he
            clear he
            (try simp only [Int.not_le, Int.not_lt] at *)
            go_wp2_with fail
            have HBW := hide (show Below wr.heap.size wr (wr.alloc (.cells #[.int .i64 x.id, .int .i64 x.hour, .int .i64 x.kind, .int .i64 x.player, .int .i64 x.rank] 40)) by (repeat' first | exact zbR _ _ | assumption | refine zbD ?_ | refine zbA ?_ ?_ _ | refine zbS ?_ ?_ _ | refine zbT ?_ (by assumption) ?_ | (simp; done) | (simp; omega) | omega))
            clear d0 d1 d2 d3 d4 z0 a0 a1 a2 a4
            go_roundw
            case rel => exact ⟨k + 1, a, by omega, by go_num, hide (by rw [HTK.out, E.entF_app, ← HE.out]; exact HS.out.symm), hide ((HBW.out.block _ g0).trans HF.out), hide ((HBW.out.block _ g1).trans HA.out), hide (zbT HBr.out HBW.out (by omega))⟩
            case measure => simp [intOf]; omega
          · have HS := hide he
            clear he
            (try simp only [Int.not_le, Int.not_lt] at *)
            go_upto_region 7 with fail
            obtain ⟨W6, hW6⟩ : ∃ W6, (wr.alloc (.cells #[.int .i64 x.id, .int .i64 x.hour, .int .i64 x.kind, .int .i64 x.player, .int .i64 x.rank] 40)) = W6 := ⟨_, rfl⟩
            have HBW := hide (show Below wr.heap.size wr W6 by rw [← hW6]; (repeat' first | exact zbR _ _ | assumption | refine zbD ?_ | refine zbA ?_ ?_ _ | refine zbS ?_ ?_ _ | refine zbT ?_ (by assumption) ?_ | (simp; done) | (simp; omega) | omega))
            have HX6 := hide (show W6.heap[wr.heap.size]? = some (.cells #[.int .i64 x.id, .int .i64 x.hour, .int .i64 x.kind, .int .i64 x.player, .int .i64 x.rank] 40 (0, 0)) by rw [← hW6]; exact World.alloc_heap_new _ _)
            have HAW := hide ((HBW.out.block _ g1).trans HA.out)
            rw [hW6]
            clear hW6 d0 d1 d2 d3 d4 z0 a0 a1 a2 a4
            have x0 : W6.cell? ⟨wr.heap.size, 0, none⟩ = some (.int .i64 x.id) := (blk_cell HX6.out 0).trans rfl
            have x1 : W6.cell? ⟨wr.heap.size, 1, none⟩ = some (.int .i64 x.hour) := (blk_cell HX6.out 1).trans rfl
            have x2 : W6.cell? ⟨wr.heap.size, 2, none⟩ = some (.int .i64 x.kind) := (blk_cell HX6.out 2).trans rfl
            have x3 : W6.cell? ⟨wr.heap.size, 3, none⟩ = some (.int .i64 x.player) := (blk_cell HX6.out 3).trans rfl
            have x4 : W6.cell? ⟨wr.heap.size, 4, none⟩ = some (.int .i64 x.rank) := (blk_cell HX6.out 4).trans rfl
            go_wp2_with (refine wpList_store_row rfl 40 _ _ rfl (w.heap.size + 1) _ rfl rfl 40 _ HAW.out ntRow rfl (by simp [Value.oneCell']) ?_)
            obtain ⟨W9, hW9⟩ : ∃ W9, W6.setRow (w.heap.size + 1) #[.int .i64 x.id, .int .i64 x.hour, .int .i64 x.kind, .int .i64 x.player, .int .i64 x.rank] = W9 := ⟨_, rfl⟩
            have HR9 := hide (show W9.heap[w.heap.size + 1]? = some (.cells #[.int .i64 x.id, .int .i64 x.hour, .int .i64 x.kind, .int .i64 x.player, .int .i64 x.rank] 40 (0, 0)) by rw [← hW9]; exact setRow_heap1 HAW.out)
            have HG9 := hide (show W6.grownBy W9 (some (w.heap.size + 1)) by rw [← hW9]; exact setRow_grown _ _ _)
            (try rw [hW9])
            clear hW9 x0 x1 x2 x3 x4
            go_roundw
            case rel => exact ⟨k + 1, x, by omega, by go_num, hide (by rw [HTK.out, E.entF_app, ← HE.out]; exact HS.out.symm), hide ((HG9.out.block _ (Nat.lt_of_lt_of_le g0 HBW.out.size) (by simp)).trans ((HBW.out.block _ g0).trans HF.out)), hide HR9.out, hide (zbT (zbT HBr.out HBW.out (Nat.le_of_lt g0)) (grown_below (B := w.heap.size) HG9.out (Nat.le_trans (Nat.le_of_lt g0) HBW.out.size) (fun g e => by have h1 := Option.some.inj e; omega)) (Nat.le_refl _))⟩
            case measure => simp [intOf]; omega
        · rcases HC with ⟨he, e1⟩ | ⟨he, e1, e2⟩ | ⟨he, e1, e2, e3⟩ | ⟨he, e1, e2, e3, e4⟩ | ⟨he, e1, e2, e3, e4, e5⟩ | ⟨he, e1, e2, e3, e4, e5⟩
          · have HS := hide he
            clear he
            (try simp only [Int.not_le, Int.not_lt] at *)
            go_wp2_with fail
            have HBW := hide (show Below wr.heap.size wr (wr.alloc (.cells #[.int .i64 x.id, .int .i64 x.hour, .int .i64 x.kind, .int .i64 x.player, .int .i64 x.rank] 40)) by (repeat' first | exact zbR _ _ | assumption | refine zbD ?_ | refine zbA ?_ ?_ _ | refine zbS ?_ ?_ _ | refine zbT ?_ (by assumption) ?_ | (simp; done) | (simp; omega) | omega))
            clear d0 d1 d2 d3 d4 z0 a0 a1 a2 a4
            go_roundw
            case rel => exact ⟨k + 1, a, by omega, by go_num, hide (by rw [HTK.out, E.entF_app, ← HE.out]; exact HS.out.symm), hide ((HBW.out.block _ g0).trans HF.out), hide ((HBW.out.block _ g1).trans HA.out), hide (zbT HBr.out HBW.out (by omega))⟩
            case measure => simp [intOf]; omega
          · have HS := hide he
            clear he
            (try simp only [Int.not_le, Int.not_lt] at *)
            go_wp2_with fail
            have HBW := hide (show Below wr.heap.size wr (wr.alloc (.cells #[.int .i64 x.id, .int .i64 x.hour, .int .i64 x.kind, .int .i64 x.player, .int .i64 x.rank] 40)) by (repeat' first | exact zbR _ _ | assumption | refine zbD ?_ | refine zbA ?_ ?_ _ | refine zbS ?_ ?_ _ | refine zbT ?_ (by assumption) ?_ | (simp; done) | (simp; omega) | omega))
            clear d0 d1 d2 d3 d4 z0 a0 a1 a2 a4
            go_roundw
            case rel => exact ⟨k + 1, a, by omega, by go_num, hide (by rw [HTK.out, E.entF_app, ← HE.out]; exact HS.out.symm), hide ((HBW.out.block _ g0).trans HF.out), hide ((HBW.out.block _ g1).trans HA.out), hide (zbT HBr.out HBW.out (by omega))⟩
            case measure => simp [intOf]; omega
          · have HS := hide he
            clear he
            (try simp only [Int.not_le, Int.not_lt] at *)
            go_upto_region 7 with fail
            obtain ⟨W6, hW6⟩ : ∃ W6, (wr.alloc (.cells #[.int .i64 x.id, .int .i64 x.hour, .int .i64 x.kind, .int .i64 x.player, .int .i64 x.rank] 40)) = W6 := ⟨_, rfl⟩
            have HBW := hide (show Below wr.heap.size wr W6 by rw [← hW6]; (repeat' first | exact zbR _ _ | assumption | refine zbD ?_ | refine zbA ?_ ?_ _ | refine zbS ?_ ?_ _ | refine zbT ?_ (by assumption) ?_ | (simp; done) | (simp; omega) | omega))
            have HX6 := hide (show W6.heap[wr.heap.size]? = some (.cells #[.int .i64 x.id, .int .i64 x.hour, .int .i64 x.kind, .int .i64 x.player, .int .i64 x.rank] 40 (0, 0)) by rw [← hW6]; exact World.alloc_heap_new _ _)
            have HAW := hide ((HBW.out.block _ g1).trans HA.out)
            rw [hW6]
            clear hW6 d0 d1 d2 d3 d4 z0 a0 a1 a2 a4
            have x0 : W6.cell? ⟨wr.heap.size, 0, none⟩ = some (.int .i64 x.id) := (blk_cell HX6.out 0).trans rfl
            have x1 : W6.cell? ⟨wr.heap.size, 1, none⟩ = some (.int .i64 x.hour) := (blk_cell HX6.out 1).trans rfl
            have x2 : W6.cell? ⟨wr.heap.size, 2, none⟩ = some (.int .i64 x.kind) := (blk_cell HX6.out 2).trans rfl
            have x3 : W6.cell? ⟨wr.heap.size, 3, none⟩ = some (.int .i64 x.player) := (blk_cell HX6.out 3).trans rfl
            have x4 : W6.cell? ⟨wr.heap.size, 4, none⟩ = some (.int .i64 x.rank) := (blk_cell HX6.out 4).trans rfl
            go_wp2_with (refine wpList_store_row rfl 40 _ _ rfl (w.heap.size + 1) _ rfl rfl 40 _ HAW.out ntRow rfl (by simp [Value.oneCell']) ?_)
            obtain ⟨W9, hW9⟩ : ∃ W9, W6.setRow (w.heap.size + 1) #[.int .i64 x.id, .int .i64 x.hour, .int .i64 x.kind, .int .i64 x.player, .int .i64 x.rank] = W9 := ⟨_, rfl⟩
            have HR9 := hide (show W9.heap[w.heap.size + 1]? = some (.cells #[.int .i64 x.id, .int .i64 x.hour, .int .i64 x.kind, .int .i64 x.player, .int .i64 x.rank] 40 (0, 0)) by rw [← hW9]; exact setRow_heap1 HAW.out)
            have HG9 := hide (show W6.grownBy W9 (some (w.heap.size + 1)) by rw [← hW9]; exact setRow_grown _ _ _)
            (try rw [hW9])
            clear hW9 x0 x1 x2 x3 x4
            go_roundw
            case rel => exact ⟨k + 1, x, by omega, by go_num, hide (by rw [HTK.out, E.entF_app, ← HE.out]; exact HS.out.symm), hide ((HG9.out.block _ (Nat.lt_of_lt_of_le g0 HBW.out.size) (by simp)).trans ((HBW.out.block _ g0).trans HF.out)), hide HR9.out, hide (zbT (zbT HBr.out HBW.out (Nat.le_of_lt g0)) (grown_below (B := w.heap.size) HG9.out (Nat.le_trans (Nat.le_of_lt g0) HBW.out.size) (fun g e => by have h1 := Option.some.inj e; omega)) (Nat.le_refl _))⟩
            case measure => simp [intOf]; omega
          · have HS := hide he
            clear he
            (try simp only [Int.not_le, Int.not_lt] at *)
            go_wp2_with fail
            have HBW := hide (show Below wr.heap.size wr (wr.alloc (.cells #[.int .i64 x.id, .int .i64 x.hour, .int .i64 x.kind, .int .i64 x.player, .int .i64 x.rank] 40)) by (repeat' first | exact zbR _ _ | assumption | refine zbD ?_ | refine zbA ?_ ?_ _ | refine zbS ?_ ?_ _ | refine zbT ?_ (by assumption) ?_ | (simp; done) | (simp; omega) | omega))
            clear d0 d1 d2 d3 d4 z0 a0 a1 a2 a4
            go_roundw
            case rel => exact ⟨k + 1, a, by omega, by go_num, hide (by rw [HTK.out, E.entF_app, ← HE.out]; exact HS.out.symm), hide ((HBW.out.block _ g0).trans HF.out), hide ((HBW.out.block _ g1).trans HA.out), hide (zbT HBr.out HBW.out (by omega))⟩
            case measure => simp [intOf]; omega
          · have HS := hide he
            clear he
            (try simp only [Int.not_le, Int.not_lt] at *)
            go_wp2_with fail
            have HBW := hide (show Below wr.heap.size wr (wr.alloc (.cells #[.int .i64 x.id, .int .i64 x.hour, .int .i64 x.kind, .int .i64 x.player, .int .i64 x.rank] 40)) by (repeat' first | exact zbR _ _ | assumption | refine zbD ?_ | refine zbA ?_ ?_ _ | refine zbS ?_ ?_ _ | refine zbT ?_ (by assumption) ?_ | (simp; done) | (simp; omega) | omega))
            clear d0 d1 d2 d3 d4 z0 a0 a1 a2 a4
            go_roundw
            case rel => exact ⟨k + 1, a, by omega, by go_num, hide (by rw [HTK.out, E.entF_app, ← HE.out]; exact HS.out.symm), hide ((HBW.out.block _ g0).trans HF.out), hide ((HBW.out.block _ g1).trans HA.out), hide (zbT HBr.out HBW.out (by omega))⟩
            case measure => simp [intOf]; omega
          · have HS := hide he
            clear he
            (try simp only [Int.not_le, Int.not_lt] at *)
            go_upto_region 7 with fail
            obtain ⟨W6, hW6⟩ : ∃ W6, (wr.alloc (.cells #[.int .i64 x.id, .int .i64 x.hour, .int .i64 x.kind, .int .i64 x.player, .int .i64 x.rank] 40)) = W6 := ⟨_, rfl⟩
            have HBW := hide (show Below wr.heap.size wr W6 by rw [← hW6]; (repeat' first | exact zbR _ _ | assumption | refine zbD ?_ | refine zbA ?_ ?_ _ | refine zbS ?_ ?_ _ | refine zbT ?_ (by assumption) ?_ | (simp; done) | (simp; omega) | omega))
            have HX6 := hide (show W6.heap[wr.heap.size]? = some (.cells #[.int .i64 x.id, .int .i64 x.hour, .int .i64 x.kind, .int .i64 x.player, .int .i64 x.rank] 40 (0, 0)) by rw [← hW6]; exact World.alloc_heap_new _ _)
            have HAW := hide ((HBW.out.block _ g1).trans HA.out)
            rw [hW6]
            clear hW6 d0 d1 d2 d3 d4 z0 a0 a1 a2 a4
            have x0 : W6.cell? ⟨wr.heap.size, 0, none⟩ = some (.int .i64 x.id) := (blk_cell HX6.out 0).trans rfl
            have x1 : W6.cell? ⟨wr.heap.size, 1, none⟩ = some (.int .i64 x.hour) := (blk_cell HX6.out 1).trans rfl
            have x2 : W6.cell? ⟨wr.heap.size, 2, none⟩ = some (.int .i64 x.kind) := (blk_cell HX6.out 2).trans rfl
            have x3 : W6.cell? ⟨wr.heap.size, 3, none⟩ = some (.int .i64 x.player) := (blk_cell HX6.out 3).trans rfl
            have x4 : W6.cell? ⟨wr.heap.size, 4, none⟩ = some (.int .i64 x.rank) := (blk_cell HX6.out 4).trans rfl
            go_wp2_with (refine wpList_store_row rfl 40 _ _ rfl (w.heap.size + 1) _ rfl rfl 40 _ HAW.out ntRow rfl (by simp [Value.oneCell']) ?_)
            obtain ⟨W9, hW9⟩ : ∃ W9, W6.setRow (w.heap.size + 1) #[.int .i64 x.id, .int .i64 x.hour, .int .i64 x.kind, .int .i64 x.player, .int .i64 x.rank] = W9 := ⟨_, rfl⟩
            have HR9 := hide (show W9.heap[w.heap.size + 1]? = some (.cells #[.int .i64 x.id, .int .i64 x.hour, .int .i64 x.kind, .int .i64 x.player, .int .i64 x.rank] 40 (0, 0)) by rw [← hW9]; exact setRow_heap1 HAW.out)
            have HG9 := hide (show W6.grownBy W9 (some (w.heap.size + 1)) by rw [← hW9]; exact setRow_grown _ _ _)
            (try rw [hW9])
            clear hW9 x0 x1 x2 x3 x4
            go_roundw
            case rel => exact ⟨k + 1, x, by omega, by go_num, hide (by rw [HTK.out, E.entF_app, ← HE.out]; exact HS.out.symm), hide ((HG9.out.block _ (Nat.lt_of_lt_of_le g0 HBW.out.size) (by simp)).trans ((HBW.out.block _ g0).trans HF.out)), hide HR9.out, hide (zbT (zbT HBr.out HBW.out (Nat.le_of_lt g0)) (grown_below (B := w.heap.size) HG9.out (Nat.le_trans (Nat.le_of_lt g0) HBW.out.size) (fun g e => by have h1 := Option.some.inj e; omega)) (Nat.le_refl _))⟩
            case measure => simp [intOf]; omega
    · have hkn : k = n := by omega
      subst hkn
      have HEE := hide (show a = E.entF f h p l by have := HE.out; rw [List.take_of_length_le (by have := HN.out; omega)] at this; exact this)
      obtain ⟨q1, hq1⟩ : ∃ q, decide (a.hour ≤ 9999) = q := ⟨_, rfl⟩
      obtain ⟨q2, hq2⟩ : ∃ q, (a.kind == 2) = q := ⟨_, rfl⟩
      have HQ1 := hide (show decide ((E.entF f h p l).hour ≤ 9999) = q1 by rw [← HEE.out]; exact hq1)
      have HQ2 := hide (show decide ((E.entF f h p l).kind = 2) = q2 by rw [← HEE.out, ← hq2]; by_cases h : a.kind = 2 <;> simp [h])

      go_wp2_with fail
      go_quiet (fail)
      go_wp2_with fail
      refine bodyPost_ret (v := .tuple #[.bool q1, .bool q2, .int .i64 a.rank]) (by simp [results, Try.results22, go_sem]) rfl ?_
      exact ⟨by rw [HQ1.out, HQ2.out, ← HEE.out], by first | exact HBr.out | exact below_drewN HBr.out _⟩

end Go.Proofs.Ytklomhmdiflfaaa

namespace Go.Proofs.Ytklomhmdiflfaaa
open Go.RowKit
attribute [local go_sem ↓] Go.wp_at_zero Go.wp_at_succ

namespace E
theorem fold_bd : ∀ (l : List Nt) (s : St) (k : Nat), Bd k s → Bd (k + l.length) (l.foldl St.take s)
  | [], _, _, h => h
  | x :: r, s, k, h => by
    have := fold_bd r (s.take x) (k + 1) (take_bd h x)
    rw [List.length_cons]
    rw [show k + 1 + r.length = k + (r.length + 1) by omega] at this
    exact this
theorem atL_len {f : Fd} {h : Int} {d : List Nt} (h0 : 0 ≤ f.places) (h1 : f.places ≤ 32) (hl : d.length ≤ 60) : (atL f h d).main.length ≤ 1000 ∧ (atL f h d).cards.length ≤ 1000 := by
  have := fold_bd (d.filter (fun x => decide (x.hour ≤ h))) (St.new f) 0 (new_bd h0 h1)
  have h2 := this.main
  have h3 := this.cards
  have h4 := List.length_filter_le (fun x => decide (x.hour ≤ h)) d
  exact ⟨Nat.le_trans h2 (by omega), Nat.le_trans h3 (by omega)⟩
end E
theorem list_ok (f : E.Fd) (A : Option Addr) (n c : Nat) (l : List E.Nt) (h : Int) (d : List E.Nt) (M C : List Int) (w : World) (hn : l.length = n) (hr : RdN w w.heap.size A l) (hid : ∀ x ∈ l, (Lit.int .i64 x.id).wf = true) (hm : n ≤ 1000000) (hd : E.diffs l = some d) (he : E.errE f l h 0 = 0) (hM : (E.atL f h d).main = M) (hC : (E.atL f h d).cards = C) :
    Calls Try.prog 14 #[.agg #[.int .i64 f.places, .int .i64 f.wilds, .int .i64 f.guards, .int .i64 f.close, .int .i64 f.freeze], .slice A n c, .int .i64 h] w fun e w' => ∃ A1 c1 A2 c2 A3 c3 n3 P, e = .returned (.tuple #[.agg #[.slice A1 M.length c1, .slice A2 C.length c2, .slice A3 n3 c3, .int .i64 P], .int .i64 0]) ∧ RdI w' w'.heap.size A1 M ∧ RdI w' w'.heap.size A2 C ∧ Below w.heap.size w w' := by
  refine (List_any f A n c l h w hn hr hid hm).mono ?_
  rintro e w' ⟨(⟨h0, _⟩ | ⟨_, d', A1, c1, A2, c2, A3, c3, hd', rfl, h1, h2, h3⟩), hb⟩
  · exact absurd he h0
  · have e0 : d' = d := by rw [hd] at hd'; exact (Option.some.inj hd').symm
    subst e0
    have r1 := owns_RdI h1 rfl
    have r2 := owns_RdI h2 rfl
    rw [hM] at r1
    rw [hC] at r2
    exact ⟨A1, c1, A2, c2, A3, c3, _, _, by rw [hM, hC], r1, r2, hb⟩

set_option maxHeartbeats 1600000 in
theorem has_any (A : Option Addr) (n c : Nat) (xs : List Int) (y : Int) (w : World) (hn : xs.length = n) (hr : RdI w w.heap.size A xs) (hm : n ≤ 1000000) :
    Calls Try.prog 21 #[.slice A n c, .int .i64 y] w fun e w' => e = .returned (.bool (xs.contains y)) ∧ w = w' := by
  have HN := hide hn
  have HR := hide hr
  obtain ⟨q, hq⟩ : ∃ q, xs.contains y = q := ⟨_, rfl⟩
  rw [hq]
  have HQ := hide hq
  clear hn hr hq
  go_enter Try.func21, Try.ntmps21
  go_wp2_with fail
  go_loop [5] (fun i => ∃ k : Nat, k ≤ n ∧ i = .int .i64 k ∧ Hid (∀ j, j < k → xs[j]? ≠ some y)) (fun i => n - (intOf i).toNat)
  case atStart => exact ⟨0, by omega, rfl, hide (fun j hj => by omega)⟩
  case round =>
    obtain ⟨k, hk, rfl, HZ⟩ := hrel
    by_cases hlt : k < n
    · obtain ⟨x, hx⟩ : ∃ q, xs[k]? = some q := ⟨_, List.getElem?_eq_getElem (by have := HN.out; omega)⟩
      obtain ⟨b, o, hA, hbB, c0⟩ := HR.out k x hx
      subst hA
      have HX := hide hx
      clear hx
      have hlt' : (k : Int) < (n : Int) := by omega
      have hk0 : (0 : Int) ≤ (k : Int) := by omega
      cases h0 : (x == y)
      · have HX0 := hide (show x ≠ y by simpa using h0)
        go_wp2_with fail
        go_round
        case rel => exact ⟨k + 1, by omega, by go_num, hide (fun j hj => by
          rcases Nat.lt_or_ge j k with h | h
          · exact HZ.out j h
          · have : j = k := by omega
            rw [this, HX.out]
            intro e
            exact HX0.out (Option.some.inj e))⟩
        case measure => simp [intOf]; omega
      · have HX0 := hide (show x = y by simpa using h0)
        go_wp2_with fail
        go_ret
        have hq : q = true := HQ.out.symm.trans (by rw [List.contains_eq_mem, decide_eq_true_eq, ← HX0.out]; exact List.mem_of_getElem? HX.out)
        subst hq
        exact ⟨rfl, rfl⟩
    · have hkn : k = n := by omega
      subst hkn
      go_wp2_with fail
      go_ret
      have hq : q = false := HQ.out.symm.trans (by
        rw [List.contains_eq_mem, decide_eq_false_iff_not]
        intro hmem
        obtain ⟨j, hj⟩ := List.mem_iff_getElem?.1 hmem
        exact HZ.out j (by have := (List.getElem?_eq_some_iff.1 hj).1; have := HN.out; omega) hj)
      subst hq
      exact ⟨rfl, rfl⟩

end Go.Proofs.Ytklomhmdiflfaaa

namespace Go.Proofs.Ytklomhmdiflfaaa
open Go.RowKit

namespace E
def cntG (f : Fd) (h : Int) (l : List Nt) (xs : List Int) : Int := (xs.map fun k => one (decide ((entF f h k l).kind = 2))).sum
theorem cnt_nil (f : Fd) (h : Int) (l : List Nt) : cntG f h l [] = 0 := rfl
theorem cnt_take (f : Fd) (h : Int) (l : List Nt) {xs : List Int} {k : Nat} {m : Int} (hm : xs[k]? = some m) : cntG f h l (xs.take (k + 1)) = cntG f h l (xs.take k) + one (decide ((entF f h m l).kind = 2)) := by
  have : xs.take (k + 1) = xs.take k ++ [m] := by rw [List.take_add_one, hm]; rfl
  unfold cntG
  rw [this, List.map_append, List.sum_append]
  simp
theorem cnt_bd (f : Fd) (h : Int) (l : List Nt) : ∀ xs : List Int, 0 ≤ cntG f h l xs ∧ cntG f h l xs ≤ (xs.length : Int)
  | [] => by simp [cntG]
  | a :: r => by
    have ih := cnt_bd f h l r
    have h1 := one_bd (decide ((entF f h a l).kind = 2))
    have e : cntG f h l (a :: r) = one (decide ((entF f h a l).kind = 2)) + cntG f h l r := by simp [cntG]
    rw [e, List.length_cons]
    push_cast
    omega
theorem cnt_guards {l d : List Nt} (hd : diffs l = some d) (f : Fd) (h : Int) (xs : List Int) : cntG f h l xs = (atL f h d).guardsOf xs := by
  unfold cntG St.guardsOf
  congr 1
  refine List.map_congr_left fun k _ => ?_
  have h1 : ((atL f h d).pl k).grd = decide ((entF f h k l).kind = 2) := congrArg (fun t => t.2.1) (entered_eq hd f h k)
  rw [h1]
theorem known_said (s : St) (x : Nt) : (s.said x).known.length ≤ s.known.length + 1 := by
  have hp : ∀ k : Int, (if k ∈ s.known then s.known else s.known ++ [k]).length ≤ s.known.length + 1 := fun k => by split <;> simp
  unfold St.said
  dsimp only
  repeat' split
  all_goals exact hp _
theorem known_fold : ∀ (r : List Nt) (s : St), (r.foldl St.take s).known.length ≤ s.known.length + r.length
  | [], s => by simp
  | x :: r, s => by
    have h1 := known_fold r (s.take x)
    have h2 : (s.take x).known.length ≤ s.known.length + 1 := known_said s x
    rw [List.foldl_cons, List.length_cons]
    omega
theorem alts_len {f : Fd} {h : Int} {d : List Nt} (hl : d.length ≤ 60) : (atL f h d).alts.length ≤ 1000 := by
  have h1 := known_fold (d.filter (fun x => decide (x.hour ≤ h))) (St.new f)
  have h2 := List.length_filter_le (fun x => decide (x.hour ≤ h)) d
  have h3 : (St.new f).known.length = 0 := rfl
  have h4 : (atL f h d).alts.length ≤ (atL f h d).order.length := List.length_filter_le _ _
  have h5 : (atL f h d).order.length ≤ (atL f h d).known.length := by
    unfold St.order
    rw [List.length_mergeSort]
    exact List.length_filter_le _ _
  have h6 : (atL f h d).known.length ≤ (St.new f).known.length + (d.filter (fun x => decide (x.hour ≤ h))).length := h1
  omega

def Rgt (f : Fd) (h : Int) (l : List Nt) (M : List Int) (P : Int) (o : Int) : Prop :=
  (h ≤ f.freeze → P ≤ 0 ∧ ∀ m ∈ M, ¬ (0 < (entF f h o l).rank ∧ ((entF f h m l).rank = 0 ∨ (entF f h o l).rank < (entF f h m l).rank))) ∧
  (f.freeze < h → (∃ x ∈ l, f.freeze < x.hour ∧ x.hour ≤ h) → (∃ x ∈ l, x.kind = 5 ∧ x.player = o ∧ x.hour ≤ h) → P ≤ 0)
theorem right_law {f : Fd} {l d : List Nt} (hd : diffs l = some d) (h : Int) {M O : List Int} {P : Int} (hM : (atL f h d).main = M) (hO : (atL f h d).alts = O) (hP : (atL f h d).f.places - ((atL f h d).main.length : Int) = P) {o : Int} (ho : o ∈ O) (hb : (decide ((entF f h o l).kind = 2) && decide (f.guards ≤ cntG f h l M)) = false) : Rgt f h l M P o := by
  have hb' : ¬ ((entF f h o l).kind = 2 ∧ f.guards ≤ (atL f h d).guardsOf (atL f h d).main) := fun hh => by
    rw [← cnt_guards hd, hM] at hh
    rw [decide_eq_true hh.1, decide_eq_true hh.2] at hb
    cases hb
  have h1 := right (f := f) hd h (o := o) (by rw [hO]; exact ho) hb'
  rw [hM] at h1
  rw [hM] at hP
  refine ⟨fun hz => ⟨by have := (h1.1 hz).1; omega, (h1.1 hz).2⟩, fun hz a b => by have := h1.2 hz a b; omega⟩
end E

theorem list_ok3 (f : E.Fd) (A : Option Addr) (n c : Nat) (l : List E.Nt) (h : Int) (d : List E.Nt) (M O : List Int) (P : Int) (w : World) (hn : l.length = n) (hr : RdN w w.heap.size A l) (hid : ∀ x ∈ l, (Lit.int .i64 x.id).wf = true) (hm : n ≤ 1000000) (hd : E.diffs l = some d) (he : E.errE f l h 0 = 0) (hM : (E.atL f h d).main = M) (hO : (E.atL f h d).alts = O) (hP : (E.atL f h d).f.places - ((E.atL f h d).main.length : Int) = P) :
    Calls Try.prog 14 #[.agg #[.int .i64 f.places, .int .i64 f.wilds, .int .i64 f.guards, .int .i64 f.close, .int .i64 f.freeze], .slice A n c, .int .i64 h] w fun e w' => ∃ A1 c1 A2 n2 c2 A3 c3, e = .returned (.tuple #[.agg #[.slice A1 M.length c1, .slice A2 n2 c2, .slice A3 O.length c3, .int .i64 P], .int .i64 0]) ∧ RdI w' w'.heap.size A1 M ∧ RdI w' w'.heap.size A3 O ∧ Below w.heap.size w w' := by
  refine (List_any f A n c l h w hn hr hid hm).mono ?_
  rintro e w' ⟨(⟨h0, _⟩ | ⟨_, d', A1, c1, A2, c2, A3, c3, hd', rfl, h1, h2, h3⟩), hb⟩
  · exact absurd he h0
  · have e0 : d' = d := by rw [hd] at hd'; exact (Option.some.inj hd').symm
    subst e0
    have r1 := owns_RdI h1 rfl
    have r3 := owns_RdI h3 rfl
    rw [hM] at r1
    rw [hO] at r3
    exact ⟨A1, c1, A2, _, c2, A3, c3, by rw [hP, hM, hO], r1, r3, hb⟩
end Go.Proofs.Ytklomhmdiflfaaa

namespace Go.Proofs.Ytklomhmdiflfaaa
namespace E

theorem fill_nodup {s : St} (lt : Bool) : ∀ (l acc : List Int) (g : Int), (acc ++ l).Nodup → (s.fill lt l acc g).Nodup
  | [], acc, _, h => by simpa [St.fill] using h
  | a :: r, acc, g, h => by
    unfold St.fill
    split
    · exact fill_nodup lt r (acc ++ [a]) _ (by simpa using h)
    · exact fill_nodup lt r acc g (List.Nodup.sublist (List.Sublist.append_left (List.sublist_cons_self a r) acc) h)
theorem fill_grd {s : St} (lt : Bool) : ∀ (l acc : List Int) (g : Int), g = s.guardsOf acc → s.guardsOf acc ≤ s.f.guards → s.guardsOf (s.fill lt l acc g) ≤ s.f.guards
  | [], acc, _, _, h => h
  | a :: r, acc, g, hg, h => by
    unfold St.fill
    split
    · rename_i hc
      refine fill_grd lt r (acc ++ [a]) _ (by rw [guardsOf_app, guardsOf_one, hg]) ?_
      rw [guardsOf_app, guardsOf_one]
      rcases hc.2.2 with h1 | h1
      · have := one_bd (s.pl a).grd; omega
      · rw [h1]; show _ + (0 : Int) ≤ _; omega
    · exact fill_grd lt r acc g hg h
theorem fill_room {s : St} (lt : Bool) : ∀ (l acc : List Int) (g : Int), (acc.length : Int) ≤ s.f.places → ((s.fill lt l acc g).length : Int) ≤ s.f.places
  | [], acc, _, h => h
  | a :: r, acc, g, h => by
    unfold St.fill
    split
    · rename_i hc
      exact fill_room lt r (acc ++ [a]) _ (by rw [List.length_append, List.length_singleton]; push_cast; omega)
    · exact fill_room lt r acc g h
theorem guardsOf_filter (s : St) (p : Int → Bool) : ∀ (l : List Int), s.guardsOf (l.filter p) ≤ s.guardsOf l
  | [] => Int.le_refl _
  | a :: r => by
    have ih := guardsOf_filter s p r
    have h1 := one_bd (s.pl a).grd
    have e : s.guardsOf (a :: r) = one (s.pl a).grd + s.guardsOf r := by simp [St.guardsOf]
    by_cases h : p a = true
    · rw [List.filter_cons_of_pos h]
      have e2 : s.guardsOf (a :: r.filter p) = one (s.pl a).grd + s.guardsOf (r.filter p) := by simp [St.guardsOf]
      omega
    · rw [List.filter_cons_of_neg h]; omega
theorem guardsOf_congr {s u : St} : ∀ (l : List Int), (∀ k ∈ l, (u.pl k).grd = (s.pl k).grd) → u.guardsOf l = s.guardsOf l := by
  intro l h
  unfold St.guardsOf
  congr 1
  exact List.map_congr_left (fun k hk => by rw [h k hk])

structure Plc (s : St) : Prop where
  room : (s.main.length : Int) ≤ s.f.places
  wilds : (s.cards.length : Int) ≤ s.f.wilds
  mnd : s.main.Nodup
  cnd : s.cards.Nodup
  cards : CardsOk s
  ment : ∀ k ∈ s.main, (s.pl k).entry = true
  guards : s.guardsOf s.main ≤ s.f.guards
  g0 : 0 ≤ s.f.guards
  cf : s.f.close ≤ s.f.freeze

theorem said_wilds (s : St) (x : Nt) : (s.said x).f.wilds = s.f.wilds := by
  unfold St.said
  dsimp only
  repeat' split
  all_goals (first | rfl | (simp only [St.put]; split <;> rfl))
theorem said_main (s : St) (x : Nt) : (s.said x).main = s.main := by
  unfold St.said
  dsimp only
  repeat' split
  all_goals rfl
theorem said_places (s : St) (x : Nt) : s.f.places ≤ (s.said x).f.places := by
  unfold St.said
  dsimp only
  repeat' split
  all_goals first
    | exact Int.le_refl _
    | (show _ ≤ s.f.places + 1; omega)
theorem said_cards {s : St} (h : CardsOk s) (x : Nt) (hn : s.cards.Nodup) (hl : (s.cards.length : Int) ≤ s.f.wilds) : (s.said x).cards.Nodup ∧ ((s.said x).cards.length : Int) ≤ s.f.wilds := by
  unfold St.said
  dsimp only
  repeat' split
  all_goals first
    | exact ⟨hn, hl⟩
    | (rename_i hc
       refine ⟨?_, ?_⟩
       · show (s.cards ++ [x.player]).Nodup
         rw [List.nodup_append]
         refine ⟨hn, by simp, fun a ha b hb e => ?_⟩
         simp only [List.mem_singleton] at hb
         rw [e, hb] at ha
         have := ((h x.player).1 ha).1
         rw [hc.2.1] at this; cases this
       · show (((s.cards ++ [x.player]).length : Nat) : Int) ≤ _
         rw [List.length_append, List.length_singleton]; push_cast; have := hc.2.2.2; omega)
    | exact ⟨List.Nodup.sublist List.filter_sublist hn, Int.le_trans (by show (((s.cards.filter _).length : Nat) : Int) ≤ _; exact Int.ofNat_le.2 (List.length_filter_le _ _)) hl⟩

theorem plc_new {f : Fd} (h : validField f = true) : Plc (St.new f) := by
  have := valid_places h
  unfold validField at h
  simp only [Bool.and_eq_true] at h
  unfold within at h
  simp only [Bool.and_eq_true, decide_eq_true_eq] at h
  refine ⟨?_, ?_, List.nodup_nil, List.nodup_nil, cards_new f, (fun k hk => by cases hk), ?_, ?_, ?_⟩
  · show ((0 : Nat) : Int) ≤ f.places; omega
  · show ((0 : Nat) : Int) ≤ f.wilds; omega
  · show (0 : Int) ≤ f.guards; omega
  · show (0 : Int) ≤ f.guards; omega
  · show f.close ≤ f.freeze; omega
theorem plc_take {s : St} (hs : StOk s) (hT : 0 ≤ s.turns) (h : Plc s) (x : Nt) (hx : 0 ≤ x.player ∧ x.player ≤ 999) : Plc (s.take x) := by
  have hu := said_ok hs x hx hT
  have hm := said_main s x
  have hp := said_places s x
  have hg := said_guards s x
  have hw := said_wilds s x
  have hc := said_cards h.cards x h.cnd h.wilds
  have hce := said_fd s x
  have hfe := said_freeze s x
  have hment := main_entry s x
  have hlate : late s.f x.hour = true → ∀ k, ((s.said x).pl k).grd = (s.pl k).grd := fun hl k => by
    have h1 : s.f.freeze < x.hour := of_decide_eq_true hl
    have h2 := h.cf
    exact (said_lateS s x (by omega)).grd k
  obtain ⟨lt, hlt⟩ : ∃ b, late s.f x.hour = b := ⟨_, rfl⟩
  have et : s.take x = (s.said x).settle lt := by rw [← hlt]; rfl
  have hgr : (s.said x).guardsOf ((s.said x).main.filter (fun k => lt && ((s.said x).pl k).entry)) ≤ (s.said x).f.guards := by
    cases lt with
    | false =>
      have e : (s.said x).main.filter (fun k => false && ((s.said x).pl k).entry) = [] := by simp
      rw [e, hg]; exact h.g0
    | true =>
      refine Int.le_trans (guardsOf_filter _ _ _) ?_
      rw [hm, hg, guardsOf_congr (s := s) (u := s.said x) s.main (fun k _ => hlate hlt k)]
      exact h.guards
  rw [et] at hment ⊢
  refine ⟨?_, ?_, ?_, hc.1, (cards_take h.cards x), hment, ?_, ?_, ?_⟩
  · show ((St.fill (s.said x) lt _ _ _).length : Int) ≤ (s.said x).f.places
    refine fill_room lt _ _ _ (Int.le_trans (Int.ofNat_le.2 (List.length_filter_le _ _)) ?_)
    rw [hm]
    exact Int.le_trans h.room hp
  · show ((s.said x).cards.length : Int) ≤ (s.said x).f.wilds
    rw [hw]; exact hc.2
  · show (St.fill (s.said x) lt _ _ _).Nodup
    refine fill_nodup lt _ _ _ ?_
    rw [List.nodup_append]
    refine ⟨List.Nodup.sublist List.filter_sublist (by rw [hm]; exact h.mnd), List.Nodup.sublist List.filter_sublist (order_nodup (s := { s.said x with main := (s.said x).main.filter (fun k => lt && ((s.said x).pl k).entry) }) ⟨hu.1.known, hu.1.range, hu.1.zero, hu.1.turn, hu.1.apart, fun k hk => hu.1.main k (List.mem_filter.1 hk).1, hu.1.cards⟩), fun a ha b hb e => ?_⟩
    have := (alts_mem.1 hb).2
    rw [e] at ha
    exact this ha
  · exact fill_grd lt _ _ _ rfl hgr
  · show 0 ≤ (s.said x).f.guards
    rw [hg]; exact h.g0
  · show (s.said x).f.close ≤ (s.said x).f.freeze
    rw [hce, hfe]; exact h.cf
theorem plc_fold : ∀ (r : List Nt) (s : St), StOk s → 0 ≤ s.turns → Plc s → (∀ x ∈ r, 0 ≤ x.player ∧ x.player ≤ 999) → Plc (r.foldl St.take s)
  | [], _, _, _, h, _ => h
  | x :: r, s, hs, hT, h, hp => by
    have hx := hp x (List.mem_cons_self ..)
    have h1 := E.take_ok hs x hx hT
    exact plc_fold r (s.take x) h1.1 h1.2 (plc_take hs hT h x hx) (fun y hy => hp y (List.mem_cons_of_mem _ hy))

theorem quit_said (s : St) (x : Nt) (p : Int) : ((s.said x).pl p).quit = ((s.pl p).quit || (decide (x.kind = 4) && decide (x.player = p))) := by
  have put : ∀ (s0 : St) (q : Pl), (s0.put x.player q).pl p = if p = x.player then q else s0.pl p := fun _ _ => rfl
  unfold St.said
  dsimp only
  by_cases hp : p = x.player
  · subst hp
    repeat' split
    all_goals (rw [put, if_pos rfl])
    all_goals first
      | (rename_i h _; have h5 : ¬ x.kind = 4 := (by omega); simp [h5]; done)
      | (rename_i h; have h5 : ¬ x.kind = 4 := (by omega); simp [h5]; done)
      | (rename_i h; simp [h]; done)
      | (rename_i h _; simp [h]; done)
  · have e : decide (x.player = p) = false := decide_eq_false (fun h => hp h.symm)
    rw [e, Bool.and_false, Bool.or_false]
    repeat' split
    all_goals rw [put, if_neg hp]
theorem quit_fold (p : Int) : ∀ (r : List Nt) (s : St), ((r.foldl St.take s).pl p).quit = true ↔ (s.pl p).quit = true ∨ ∃ x ∈ r, x.kind = 4 ∧ x.player = p
  | [], s => by simp
  | x :: r, s => by
    have e : ((s.take x).pl p).quit = ((s.said x).pl p).quit := rfl
    rw [List.foldl_cons, quit_fold p r, e, quit_said]
    simp only [Bool.or_eq_true, Bool.and_eq_true, decide_eq_true_eq, List.mem_cons]
    constructor
    · rintro ((h | h) | ⟨y, hy, h⟩)
      · exact .inl h
      · exact .inr ⟨x, .inl rfl, h⟩
      · exact .inr ⟨y, .inr hy, h⟩
    · rintro (h | ⟨y, rfl | hy, h⟩)
      · exact .inl (.inl h)
      · exact .inl (.inr h)
      · exact .inr ⟨y, hy, h⟩

theorem late_count {s : St} (h : CardsOk s) (hn : s.cards.Nodup) (x : Nt) (hl : late s.f x.hour = true) : (s.take x).f.places + ((s.take x).cards.length : Int) = s.f.places + (s.cards.length : Int) ∧ (s.take x).cards.Sublist s.cards := by
  show (s.said x).f.places + ((s.said x).cards.length : Int) = _ ∧ (s.said x).cards.Sublist s.cards
  unfold St.said
  dsimp only
  rw [hl]
  by_cases k12 : x.kind = 1 ∨ x.kind = 2
  · rw [if_pos k12]
    split
    · exact ⟨rfl, List.Sublist.refl _⟩
    · exact ⟨rfl, List.Sublist.refl _⟩
  · rw [if_neg k12]
    by_cases k3 : x.kind = 3
    · rw [if_pos k3, if_neg (fun hh => by cases hh.1)]
      exact ⟨rfl, List.Sublist.refl _⟩
    · rw [if_neg k3]
      by_cases k4 : x.kind = 4
      · rw [if_pos k4]
        refine ⟨?_, List.filter_sublist⟩
        by_cases hc : x.player ∈ s.cards
        · have h1 := (h x.player).1 hc
          rw [if_pos ⟨rfl, h1⟩]
          show s.f.places + 1 + ((s.cards.filter (fun k => k != x.player)).length : Int) = _
          have e : s.cards.filter (fun k => k != x.player) = s.cards.erase x.player := (List.Nodup.erase_eq_filter hn x.player).symm
          rw [e, List.length_erase_of_mem hc]
          have := List.length_pos_of_mem hc
          omega
        · have h1 : ¬ (True ∧ (s.pl x.player).card = true ∧ (s.pl x.player).quit = false) := fun hh => hc ((h x.player).2 hh.2)
          rw [if_neg (fun hh => h1 ⟨trivial, hh.2⟩)]
          show s.f.places + ((s.cards.filter (fun k => k != x.player)).length : Int) = _
          rw [List.filter_eq_self.2 (fun k hk => by simp only [bne_iff_ne, ne_eq]; exact fun e => hc (e ▸ hk))]
      · rw [if_neg k4]
        split
        · exact ⟨rfl, List.Sublist.refl _⟩
        · exact ⟨rfl, List.Sublist.refl _⟩
theorem late_fold (z : Int) : ∀ (r : List Nt) (s : St), StOk s → 0 ≤ s.turns → Plc s → (∀ x ∈ r, 0 ≤ x.player ∧ x.player ≤ 999) → s.f.freeze = z → (∀ x ∈ r, z < x.hour) → (r.foldl St.take s).f.places + ((r.foldl St.take s).cards.length : Int) = s.f.places + (s.cards.length : Int) ∧ (r.foldl St.take s).cards.Sublist s.cards
  | [], _, _, _, _, _, _, _ => ⟨rfl, List.Sublist.refl _⟩
  | x :: r, s, hs, hT, h, hp, hz, hr => by
    have hx := hp x (List.mem_cons_self ..)
    have h1 := E.take_ok hs x hx hT
    have hl : late s.f x.hour = true := by unfold late; rw [hz]; exact decide_eq_true (hr x (List.mem_cons_self ..))
    obtain ⟨h2, h3⟩ := late_count h.cards h.cnd x hl
    obtain ⟨h4, h5⟩ := late_fold z r (s.take x) h1.1 h1.2 (plc_take hs hT h x hx) (fun y hy => hp y (List.mem_cons_of_mem _ hy)) ((said_freeze s x).trans hz) (fun y hy => hr y (List.mem_cons_of_mem _ hy))
    exact ⟨h4.trans h2, h5.trans h3⟩
theorem early_places (s : St) (x : Nt) (hl : late s.f x.hour = false) : (s.take x).f.places = s.f.places := by
  show (s.said x).f.places = _
  unfold St.said
  dsimp only
  rw [hl]
  repeat' split
  all_goals first
    | rfl
    | (rename_i hh; cases hh.1)
theorem early_fold (z : Int) : ∀ (r : List Nt) (s : St), s.f.freeze = z → (∀ x ∈ r, x.hour ≤ z) → (r.foldl St.take s).f.places = s.f.places
  | [], _, _, _ => rfl
  | x :: r, s, hz, hr => by
    have hl : late s.f x.hour = false := by unfold late; rw [hz]; have := hr x (List.mem_cons_self ..); exact decide_eq_false (by omega)
    exact (early_fold z r (s.take x) ((said_freeze s x).trans hz) (fun y hy => hr y (List.mem_cons_of_mem _ hy))).trans (early_places s x hl)

theorem sub_count : ∀ {a b : List Int}, a.Sublist b → b.Nodup → ((b.filter (fun k => !a.contains k)).length : Int) = (b.length : Int) - (a.length : Int) := by
  intro a b h hn
  have h1 : (b.filter (fun k => a.contains k)) = a := by
    induction h with
    | slnil => rfl
    | @cons l1 l2 c h ih =>
      have hc := List.nodup_cons.1 hn
      rw [List.filter_cons_of_neg (by simp only [List.contains_eq_mem, decide_eq_true_eq]; exact fun e => hc.1 (h.subset e)), ih hc.2]
    | @cons_cons l1 l2 c h ih =>
      have hc := List.nodup_cons.1 hn
      rw [List.filter_cons_of_pos (by simp)]
      congr 1
      refine Eq.trans (List.filter_congr (fun k hk => ?_)) (ih hc.2)
      have : k ≠ c := fun e => hc.1 (e ▸ hk)
      simp [this]
  have h2 := List.length_eq_countP_add_countP (fun k => a.contains k) (l := b)
  rw [List.countP_eq_length_filter, List.countP_eq_length_filter, h1] at h2
  have e : (b.filter (fun k => !a.contains k)) = (b.filter (fun k => decide (¬ (a.contains k = true)))) := List.filter_congr (fun k _ => by cases a.contains k <;> rfl)
  rw [e]
  omega

theorem idx_at {l : List Int} (hn : l.Nodup) {i : Nat} {k : Int} (h : l[i]? = some k) : idx l k = (i : Int) := by
  unfold idx
  have hi := (List.getElem?_eq_some_iff.1 h).1
  have : l.findIdx? (· == k) = some i := by
    rw [List.findIdx?_eq_some_iff_getElem]
    refine ⟨hi, by have := (List.getElem?_eq_some_iff.1 h).2; simp [this], fun j hj => ?_⟩
    simp only [beq_iff_eq]
    intro e
    have h2 := (List.getElem?_eq_some_iff.1 h).2
    exact List.pairwise_iff_getElem.1 hn j i (by omega) hi hj (e.trans h2.symm)
  rw [this]
theorem idx_no {l : List Int} {k : Int} (h : k ∉ l) : idx l k = -1 := by
  unfold idx
  have : l.findIdx? (· == k) = none := by
    rw [List.findIdx?_eq_none_iff]
    intro y hy
    simp only [beq_eq_false_iff_ne, ne_eq]
    exact fun e => h (e ▸ hy)
  rw [this]

structure PlcAt (f : Fd) (h : Int) (l d : List Nt) (i : Nat) (k : Int) (S : St) : Prop where
  stand : S.where_ k = if i < S.main.length then (1, (i : Int) + 1) else if i < S.main.length + S.cards.length then (2, (i : Int) + 1 - S.main.length) else (3, (i : Int) + 1 - S.main.length - S.cards.length)
  quit : ∀ x ∈ l, ¬ (x.player = k ∧ x.kind = 4 ∧ x.hour ≤ h)
  ent : (i < S.main.length ∨ S.main.length + S.cards.length ≤ i) → (entF f h k l).hour ≤ 9999

theorem places {f : Fd} {l d : List Nt} (hd : diffs l = some d) (hv : validField f = true) (h : Int) (S : St) (hS : atL f h d = S) :
    (S.main.length : Int) ≤ S.f.places ∧ (S.cards.length : Int) ≤ f.wilds ∧ (S.main ++ S.cards ++ S.alts).Nodup ∧ (∀ (i : Nat) (k : Int), (S.main ++ S.cards ++ S.alts)[i]? = some k → PlcAt f h l d i k S) ∧
    S.guardsOf S.main ≤ f.guards ∧ (h ≤ f.freeze → S.f.places = f.places) ∧ (f.freeze < h → S.f.places = f.places + (((atL f f.freeze d).cards.filter (fun k => !S.cards.contains k)).length : Int)) := by
  obtain ⟨_, ht, hm⟩ := diffs_spec hd
  have hp : ∀ x ∈ d, 0 ≤ x.player ∧ x.player ≤ 999 := fun x hx => valid_player (ht.valid x hx)
  have hs := taken_hours ht
  have hpl : ∀ u, Plc (atL f u d) := fun u => plc_fold _ _ (new_ok f) (Int.le_refl _) (plc_new hv) (fun x hx => hp x (List.mem_filter.1 hx).1)
  have hok : ∀ u, StOk (atL f u d) ∧ 0 ≤ (atL f u d).turns := fun u => atL_ok f u hp
  have hfw : ∀ u, (atL f u d).f.wilds = f.wilds := fun u => by
    have : ∀ (r : List Nt) (s : St), (r.foldl St.take s).f.wilds = s.f.wilds := by
      intro r
      induction r with
      | nil => intro s; rfl
      | cons x r ih => intro s; exact (ih (s.take x)).trans (said_wilds s x)
    exact this _ _
  have hfg : ∀ u, (atL f u d).f.guards = f.guards := fun u => fold_guards _ _
  have P := hpl h
  have O := hok h
  have hent := fun k => entered_eq hd f h k
  have hquit : ∀ k, ((atL f h d).pl k).quit = true ↔ ∃ x ∈ l, x.player = k ∧ x.kind = 4 ∧ x.hour ≤ h := fun k => by
    have := quit_fold k (d.filter (fun x => decide (x.hour ≤ h))) (St.new f)
    change ((atL f h d).pl k).quit = true ↔ _ at this
    rw [this]
    constructor
    · rintro (h1 | ⟨x, hx, h1, h2⟩)
      · cases h1
      · obtain ⟨h3, h4⟩ := List.mem_filter.1 hx
        exact ⟨x, (hm x).1 h3, h2, h1, of_decide_eq_true h4⟩
    · rintro ⟨x, hx, h1, h2, h3⟩
      exact .inr ⟨x, List.mem_filter.2 ⟨(hm x).2 hx, decide_eq_true h3⟩, h2, h1⟩
  have hearly : ∀ u, u ≤ f.freeze → (atL f u d).f.places = f.places := fun u hu => early_fold f.freeze _ (St.new f) rfl (fun x hx => by have := of_decide_eq_true (List.mem_filter.1 hx).2; omega)
  have hlate : f.freeze < h → (atL f h d).f.places + ((atL f h d).cards.length : Int) = (atL f f.freeze d).f.places + ((atL f f.freeze d).cards.length : Int) ∧ (atL f h d).cards.Sublist (atL f f.freeze d).cards := fun hz => by
    have e2 : atL f h d = (d.filter (fun x => decide (f.freeze < x.hour) && decide (x.hour ≤ h))).foldl St.take (atL f f.freeze d) := by
      unfold atL
      rw [filter_split (h1 := f.freeze) (by omega) d hs, List.foldl_append]
    rw [e2]
    exact late_fold f.freeze _ _ (hok f.freeze).1 (hok f.freeze).2 (hpl f.freeze) (fun x hx => hp x (List.mem_filter.1 hx).1) (fold_fd _ _).2 (fun x hx => by have := (List.mem_filter.1 hx).2; simp at this; omega)
  rw [hS] at P O hent hquit hlate
  have hfw' := hfw h
  have hfg' := hfg h
  have hea := hearly h
  rw [hS] at hfw' hfg' hea

  have hment : ∀ k ∈ S.main, (S.pl k).entry = true := P.ment
  have haent : ∀ k ∈ S.alts, (S.pl k).entry = true := fun k hk => (order_mem.1 (alts_mem.1 hk).1).2
  have hcnot : ∀ k, (S.pl k).entry = true → k ∉ S.cards := fun k he hk => by
    have := ((P.cards k).1 hk).1
    unfold Pl.entry at he
    rw [this] at he
    simp at he
  have hnda : S.alts.Nodup := List.Nodup.sublist List.filter_sublist (order_nodup O.1)
  have hnd : (S.main ++ S.cards ++ S.alts).Nodup := by
    rw [List.nodup_append, List.nodup_append]
    refine ⟨⟨P.mnd, P.cnd, fun a ha b hb e => hcnot a (hment a ha) (e ▸ hb)⟩, hnda, fun a ha b hb e => ?_⟩
    subst e
    rcases List.mem_append.1 ha with h1 | h1
    · exact (alts_mem.1 hb).2 h1
    · exact hcnot a (haent a hb) h1
  refine ⟨P.room, by rw [← hfw']; exact P.wilds, hnd, fun i k hik => ?_, by rw [← hfg']; exact P.guards, hea, fun hz => ?_⟩
  · have hquitEnt : (S.pl k).entry = true → (S.pl k).quit = false := fun he => by
      unfold Pl.entry at he
      simp only [Bool.and_eq_true, Bool.not_eq_true'] at he
      exact he.1.2
    have entEnt : (S.pl k).entry = true → (entF f h k l).hour ≤ 9999 := fun he => by
      have h1 := congrArg (fun t => t.1) (hent k)
      have h2 : (tri (S.pl k)).1 = true := entry_ent he
      have h3 : decide ((entF f h k l).hour ≤ 9999) = true := h1.symm.trans h2
      exact of_decide_eq_true h3
    have noquit : (S.pl k).quit = false → ∀ x ∈ l, ¬ (x.player = k ∧ x.kind = 4 ∧ x.hour ≤ h) := fun hq x hx hh => by
      have := (hquit k).2 ⟨x, hx, hh⟩
      rw [hq] at this; cases this
    by_cases c1 : i < S.main.length
    · have hk : S.main[i]? = some k := by rw [List.append_assoc, List.getElem?_append_left c1] at hik; exact hik
      have hmem := List.mem_of_getElem? hk
      have he := hment k hmem
      refine ⟨?_, noquit (hquitEnt he), fun _ => entEnt he⟩
      rw [if_pos c1]
      unfold St.where_
      rw [idx_at P.mnd hk, if_pos (by omega)]
    · by_cases c2 : i < S.main.length + S.cards.length
      · have hk : S.cards[i - S.main.length]? = some k := by
          rw [List.append_assoc, List.getElem?_append_right (by omega), List.getElem?_append_left (by omega)] at hik; exact hik
        have hmem := List.mem_of_getElem? hk
        have hq := ((P.cards k).1 hmem).2
        have hnm : k ∉ S.main := fun hh => hcnot k (hment k hh) hmem
        refine ⟨?_, noquit hq, fun hh => by omega⟩
        rw [if_neg c1, if_pos c2]
        unfold St.where_
        rw [idx_no hnm, if_neg (by decide), idx_at P.cnd hk, if_pos (by omega)]
        congr 1
        omega
      · have hk : S.alts[i - (S.main.length + S.cards.length)]? = some k := by
          rw [List.getElem?_append_right (by rw [List.length_append]; omega), List.length_append] at hik; exact hik
        have hmem := List.mem_of_getElem? hk
        have he := haent k hmem
        have hnm : k ∉ S.main := (alts_mem.1 hmem).2
        have hnc : k ∉ S.cards := hcnot k he
        refine ⟨?_, noquit (hquitEnt he), fun _ => entEnt he⟩
        rw [if_neg c1, if_neg c2]
        unfold St.where_
        rw [idx_no hnm, if_neg (by decide), idx_no hnc, if_neg (by decide), idx_at hnda hk, if_pos (by omega)]
        congr 1
        omega
  · obtain ⟨h1, h2⟩ := hlate hz
    have h3 := hearly f.freeze (Int.le_refl _)
    have h4 := sub_count h2 (hpl f.freeze).cnd
    omega
end E
end Go.Proofs.Ytklomhmdiflfaaa

namespace Go.Proofs.Ytklomhmdiflfaaa
open Go.RowKit

theorem step_app_ints {w : World} {ops : Array Oper} {o : Oper} {a : Act} {K : Act → World → Prop} {Q : Exit → Act → World → Prop} {E : Prop} (hgd : o.guard = none) (s x : Operand)
    (ho : o.op = .call { callee := .builtin .append, args := #[s, x], argTypes := #[31, 31] }) (base : Nat) (v : Value) (ps : List Int) (m0 : Nat) (hs : a.eval s = v) (hown : w.ownsRow base 3 1 v m0 (flatI ps))
    (A : Option Addr) (n c : Nat) (xs : List Int) (hx : a.eval x = .slice A n c) (hn : xs.length = n) (hr : RdI w w.heap.size A xs) (hA : A = none → c = 0) (N : Nat) (hN : m0 + n = N) (h0 : m0 ≤ 1000) (h1 : n ≤ 1000) (hbase : base ≤ w.heap.size)
    (h : ∀ A' c' w', w'.ownsRow base 3 1 (.slice A' N c') N (flatI (ps ++ xs)) → w.grownBy w' v.ownBlock → K (a.put o.dst (.slice A' N c')) w') :
    if Region.wanted o (yielded ops a.tmps) = true then Oper.wp Try.prog o a w K Q else E := by
  subst hN
  have hw : Region.wanted o (yielded ops a.tmps) = true := by simp [Region.wanted, hgd]
  rw [if_pos hw]
  obtain ⟨A', c', w', hr', h2, h3⟩ := run_app_ints o.type base v ps m0 hown A n c xs hn hr hA h0 h1 hbase
  unfold Oper.wp execOp
  simp only [ho, resolve, invoke, builtin, Sem.run_bind, Sem.run_pure, Result.andThen_ok, List.map_toArray, List.map_cons, List.map_nil, hs, hx, hr']
  exact h A' c' w' h2 h3
theorem owns_empty {w : World} {q B : Nat} (hq : w.heap[q]? = some (.cells #[] 3 (0, 0))) (h : B ≤ q) : w.ownsRow B 3 1 (.slice (some ⟨q, 0, Option.none⟩) 0 0) 0 (flatI []) :=
  ⟨rfl, .inr ⟨q, 0, #[], rfl, h, hq, Nat.le_refl _, Nat.zero_le _, rfl, rfl⟩⟩
theorem owns_cap {w : World} {base : Nat} {e : TypeId} {n m c size : Nat} {xs : List Value} {A : Option Addr} (h : w.ownsRow base e size (.slice A m c) n xs) : A = Option.none → c = 0 := by
  intro hA
  rcases h.2 with ⟨h1, h2⟩ | ⟨g, cap, cur, h1, _⟩
  · simp only [Value.slice.injEq] at h1; exact h1.2.2
  · simp only [Value.slice.injEq] at h1; rw [hA] at h1; cases h1.1

theorem list_ok4 (f : E.Fd) (A : Option Addr) (n c : Nat) (l : List E.Nt) (h : Int) (d : List E.Nt) (M C O : List Int) (P : Int) (w : World) (hn : l.length = n) (hr : RdN w w.heap.size A l) (hid : ∀ x ∈ l, (Lit.int .i64 x.id).wf = true) (hm : n ≤ 1000000) (hd : E.diffs l = some d) (he : E.errE f l h 0 = 0) (hM : (E.atL f h d).main = M) (hC : (E.atL f h d).cards = C) (hO : (E.atL f h d).alts = O) (hP : (E.atL f h d).f.places - ((E.atL f h d).main.length : Int) = P) :
    Calls Try.prog 14 #[.agg #[.int .i64 f.places, .int .i64 f.wilds, .int .i64 f.guards, .int .i64 f.close, .int .i64 f.freeze], .slice A n c, .int .i64 h] w fun e w' => ∃ A1 c1 A2 c2 A3 c3, e = .returned (.tuple #[.agg #[.slice A1 M.length c1, .slice A2 C.length c2, .slice A3 O.length c3, .int .i64 P], .int .i64 0]) ∧ RdI w' w'.heap.size A1 M ∧ RdI w' w'.heap.size A2 C ∧ RdI w' w'.heap.size A3 O ∧ ((A1 = none → c1 = 0) ∧ (A2 = none → c2 = 0) ∧ (A3 = none → c3 = 0)) ∧ Below w.heap.size w w' := by
  refine (List_any f A n c l h w hn hr hid hm).mono ?_
  rintro e w' ⟨(⟨h0, _⟩ | ⟨_, d', A1, c1, A2, c2, A3, c3, hd', rfl, h1, h2, h3⟩), hb⟩
  · exact absurd he h0
  · have e0 : d' = d := by rw [hd] at hd'; exact (Option.some.inj hd').symm
    subst e0
    have r1 := owns_RdI h1 rfl
    have r2 := owns_RdI h2 rfl
    have r3 := owns_RdI h3 rfl
    rw [hM] at r1
    rw [hC] at r2
    rw [hO] at r3
    exact ⟨A1, c1, A2, c2, A3, c3, by rw [hP, hM, hC, hO], r1, r2, r3, ⟨owns_cap h1, owns_cap h2, owns_cap h3⟩, hb⟩

namespace E
theorem atL_len2 {f : Fd} {h : Int} {d : List Nt} (h0 : 0 ≤ f.places) (h1 : f.places ≤ 32) (hl : d.length ≤ 60) : (atL f h d).main.length ≤ 92 ∧ (atL f h d).cards.length ≤ 60 := by
  have := fold_bd (d.filter (fun x => decide (x.hour ≤ h))) (St.new f) 0 (new_bd h0 h1)
  have h2 := this.main
  have h3 := this.cards
  have h4 := List.length_filter_le (fun x => decide (x.hour ≤ h)) d
  exact ⟨Nat.le_trans h2 (by omega), Nat.le_trans h3 (by omega)⟩

structure PlcAll (f : Fd) (h : Int) (l : List Nt) (M C O B : List Int) (P : Int) : Prop where
  open_ : 0 ≤ P
  wilds : (C.length : Int) ≤ f.wilds
  nodup : (M ++ C ++ O).Nodup
  guards : cntG f h l M ≤ f.guards
  sum : (M.length : Int) + P = f.places + (if f.freeze < h then ((B.filter (fun k => !C.contains k)).length : Int) else 0)
structure PlcOne (f : Fd) (h : Int) (l : List Nt) (M C : List Int) (i : Nat) (k : Int) (s1 s2 : Int) : Prop where
  stand : StandVal f l h k = .tuple #[.int .i64 s1, .int .i64 s2, .int .i64 0]
  quit : ∀ x ∈ l, ¬ (x.player = k ∧ x.kind = 4 ∧ x.hour ≤ h)
  ent : s1 ≠ 2 → (entF f h k l).hour ≤ 9999
def plc1 (M C : List Int) (i : Nat) : Int := if i < M.length then 1 else if i < M.length + C.length then 2 else 3
def plc2 (M C : List Int) (i : Nat) : Int := if i < M.length then (i : Int) + 1 else if i < M.length + C.length then (i : Int) + 1 - M.length else (i : Int) + 1 - M.length - C.length

theorem places_law {f : Fd} {l d : List Nt} (hd : diffs l = some d) (hc : checkE f l = 0) {h : Int} (hh : 0 ≤ h ∧ h ≤ 9999) {M C O B : List Int} {P : Int} (hM : (atL f h d).main = M) (hC : (atL f h d).cards = C) (hO : (atL f h d).alts = O) (hP : (atL f h d).f.places - ((atL f h d).main.length : Int) = P) (hB : (atL f f.freeze d).cards = B) :
    PlcAll f h l M C O B P ∧ ∀ (i : Nat) (k : Int), (M ++ C ++ O)[i]? = some k → PlcOne f h l M C i k (plc1 M C i) (plc2 M C i) := by
  have hv : validField f = true := (errE_ok (err_zero (h := h) (p := 0) hc hh (by omega))).2.1
  obtain ⟨S, hS⟩ : ∃ S, atL f h d = S := ⟨_, rfl⟩
  obtain ⟨_, ht, hm⟩ := diffs_spec hd
  obtain ⟨ok, _⟩ := atL_ok f h (fun x hx => valid_player (ht.valid x hx))
  obtain ⟨p1, p2, p3, p4, p5, p6, p7⟩ := places hd hv h S hS
  have hcg := cnt_guards hd f h M
  rw [hS] at hM hC hO hP ok hcg
  rw [hM, hC, hO] at p3 p4
  rw [hM] at p1 p5 hP
  rw [hC] at p2 p7
  rw [hB] at p7
  refine ⟨⟨by omega, p2, p3, by rw [hcg]; exact p5, ?_⟩, fun i k hik => ?_⟩
  · split
    · rename_i hz
      have := p7 hz
      omega
    · rename_i hz
      have := p6 (by omega)
      omega
  · obtain ⟨q1, q2, q3⟩ := p4 i k hik
    have hr : 0 ≤ k ∧ k ≤ 999 := by
      have hk := List.mem_of_getElem? hik
      rcases List.mem_append.1 hk with hk | hk
      · rcases List.mem_append.1 hk with hk | hk
        · exact ok.range k (ok.main k (hM ▸ hk))
        · exact ok.range k (ok.cards k (hC ▸ hk))
      · exact ok.range k (order_mem.1 (alts_mem.1 (hO ▸ hk)).1).1
    rw [hM, hC] at q1 q3
    have e1 : S.where_ k = (plc1 M C i, plc2 M C i) := by
      rw [q1]
      unfold plc1 plc2
      repeat' split
      all_goals rfl
    refine ⟨?_, q2, fun hne => q3 ?_⟩
    · unfold StandVal standV
      rw [if_pos (err_zero hc hh hr), hd]
      dsimp only
      rw [hS, e1]
    · unfold plc1 at hne
      by_cases a1 : i < M.length
      · exact .inl a1
      · rw [if_neg a1] at hne
        by_cases a2 : i < M.length + C.length
        · rw [if_pos a2] at hne; exact absurd rfl hne
        · exact .inr (by omega)
theorem nodup_ne {xs : List Int} (hn : xs.Nodup) {i j : Nat} (hij : i < j) {a b : Int} (ha : xs[i]? = some a) (hb : xs[j]? = some b) : (a == b) = false := by
  obtain ⟨h1, e1⟩ := List.getElem?_eq_some_iff.1 ha
  obtain ⟨h2, e2⟩ := List.getElem?_eq_some_iff.1 hb
  have := List.pairwise_iff_getElem.1 hn i j h1 h2 hij
  rw [e1, e2] at this
  exact beq_eq_false_iff_ne.2 this
theorem cnt_past (f : Fd) (h : Int) (l : List Nt) {xs : List Int} {k : Nat} (hk : xs.length ≤ k) : cntG f h l (xs.take (k + 1)) = cntG f h l (xs.take k) := by
  rw [List.take_of_length_le (by omega), List.take_of_length_le hk]
theorem take_filter {xs : List Int} (p : Int → Bool) {k : Nat} {m : Int} (hm : xs[k]? = some m) : ((xs.take (k + 1)).filter p).length = ((xs.take k).filter p).length + (if p m then 1 else 0) := by
  have : xs.take (k + 1) = xs.take k ++ [m] := by rw [List.take_add_one, hm]; rfl
  rw [this, List.filter_append, List.length_append]
  congr 1
  by_cases e : p m = true
  · rw [if_pos e, List.filter_cons_of_pos e]; rfl
  · rw [if_neg e, List.filter_cons_of_neg e]; rfl
theorem atL_len3 {f : Fd} {h : Int} {d : List Nt} (hl : d.length ≤ 60) : (atL f h d).alts.length ≤ 60 := by
  have h1 := known_fold (d.filter (fun x => decide (x.hour ≤ h))) (St.new f)
  have h2 := List.length_filter_le (fun x => decide (x.hour ≤ h)) d
  have h3 : (St.new f).known.length = 0 := rfl
  have h4 : (atL f h d).alts.length ≤ (atL f h d).order.length := List.length_filter_le _ _
  have h5 : (atL f h d).order.length ≤ (atL f h d).known.length := by
    unfold St.order
    rw [List.length_mergeSort]
    exact List.length_filter_le _ _
  have h6 : (atL f h d).known.length ≤ (St.new f).known.length + (d.filter (fun x => decide (x.hour ≤ h))).length := h1
  omega
end E
end Go.Proofs.Ytklomhmdiflfaaa

namespace Go.Proofs.Ytklomhmdiflfaaa
open Go.RowKit

namespace E
theorem swap_perm {ms : List Nt} {i : Nat} {a b : Nt} (ha : ms[i]? = some a) (hb : ms[i + 1]? = some b) : ((ms.set (i + 1) a).set i b).Perm ms := by
  obtain ⟨h1, e1⟩ := List.getElem?_eq_some_iff.1 ha
  obtain ⟨h2, e2⟩ := List.getElem?_eq_some_iff.1 hb
  have := @List.set_set_perm _ ms (i + 1) i h2 h1
  rw [e1, e2] at this
  exact this
theorem atL_before (f : Fd) (d : List Nt) (h : Int) : atL f h (d.filter fun x => decide (x.hour ≤ h)) = atL f h d := by
  unfold atL
  rw [List.filter_filter]
  simp only [Bool.and_self]
theorem err_some {f : Fd} {l ms d : List Nt} {H : Int} (hc : checkE f l = 0) (hh : 0 ≤ H ∧ H ≤ 9999) (hd : diffs ms = some d) : errE f ms H 0 = 0 := by
  have hv : validField f = true := (errE_ok (err_zero (h := H) (p := 0) hc hh (by omega))).2.1
  exact err_zero (by unfold checkE; rw [if_pos hv, hd]; rfl) hh (by omega)
theorem order_same {f : Fd} {l d ms : List Nt} {H : Int} (hd : diffs l = some d) (hc : checkE f l = 0) (hh : 0 ≤ H ∧ H ≤ 9999) (hl : ms.length ≤ 60) (hs : ∀ y, y ∈ ms ↔ y ∈ l) : diffs ms = some d ∧ errE f ms H 0 = 0 :=
  ⟨diffs_same hd hl hs, err_some hc hh (diffs_same hd hl hs)⟩
theorem order_before {f : Fd} {l d ms : List Nt} {H : Int} (hd : diffs l = some d) (hc : checkE f l = 0) (hh : 0 ≤ H ∧ H ≤ 9999) (hl : ms.length ≤ 60) (hs : ∀ y, y ∈ ms ↔ y ∈ l ∧ decide (y.hour ≤ H) = true) : diffs ms = some (d.filter fun x => decide (x.hour ≤ H)) ∧ errE f ms H 0 = 0 :=
  ⟨diffs_before (fun x => decide (x.hour ≤ H)) hd hl hs, err_some hc hh (diffs_before (fun x => decide (x.hour ≤ H)) hd hl hs)⟩
end E

theorem step_store_mid {P : Program} {w : World} {ops : Array Oper} {o : Oper} {a : Act} {K : Act → World → Prop} {Q : Exit → Act → World → Prop} {E : Prop} (hgd : o.guard = none) (ty : TypeId) (x y : Operand) (ho : o.op = .store ty x y)
    (b off : Nat) (cells : Array Value) (hx : a.eval x = .pointer (some ⟨b, off, none⟩)) (hy : a.eval y = .agg cells) (ht : w.there b off cells.size) (hi : (P.info? ty).map (·.size) = some cells.size) (h1 : cells.all (·.oneCell') = true)
    (h : K (a.put o.dst undef) (w.setCells b off cells.toList)) : if Region.wanted o (yielded ops a.tmps) = true then Oper.wp P o a w K Q else E := by
  have hw : Region.wanted o (yielded ops a.tmps) = true := by simp [Region.wanted, hgd]
  rw [if_pos hw]
  exact wp_store_mid ty x y ho b off cells hx hy ht hi h1 h
theorem own_form5 {w : World} {base N c : Nat} {A : Option Addr} {ms : List E.Nt} (h : w.ownsRow base 40 5 (.slice A N c) N (flatN ms)) (hN : 0 < N) : ∃ g, A = some ⟨g, 0, none⟩ := by
  obtain ⟨g, e, _⟩ := own_slice h hN
  exact ⟨g, e⟩
end Go.Proofs.Ytklomhmdiflfaaa

namespace Go.Proofs.Ytklomhmdiflfaaa
open Go

section
variable {P : Program} {ops : Array Oper} {md : Region.Mode} {w : World}

def upTo (N : Nat) : Nat → Array Bool
  | 0 => Array.replicate N false
  | k + 1 => (upTo N k).setIfInBounds k true
def gateB (md : Region.Mode) (ops : Array Oper) (k n : Nat) : Bool :=
  ((List.range n).all fun i => decide (i < k) || (List.range (n + 1)).any fun j => decide (i < j) && Region.waitsFor md ops j i) &&
  ((List.range ops.size).all fun t => decide (t ≤ n) || (List.range t).any fun j => decide (n ≤ j) && Region.waitsFor md ops t j)
def gateAtB (md : Region.Mode) (ops : Array Oper) (k n : Nat) (listed : Array Bool) : Bool :=
  (listed.size == ops.size) &&
  ((List.range ops.size).all fun j => !listed.getD j false || match ops[j]? with
    | some oj => oj.after.all fun e => !Region.binds md e || listed.getD e.on false
    | none => true) &&
  ((List.range k).all fun i => listed.getD i false) &&
  ((List.range ops.size).all fun t => decide (t < n) || !listed.getD t true)
def segRun (md : Region.Mode) (ops : Array Oper) : Nat → Nat → Array Bool → Option (Array Bool)
  | 0, _, listed => some listed
  | f + 1, k, listed => if ((Region.ready md ops listed).contains k && Region.free md ops listed k) = true then segRun md ops f (k + 1) (listed.setIfInBounds k true) else none
def segB (md : Region.Mode) (ops : Array Oper) (k n : Nat) : Bool :=
  Region.noSelect ops && decide (k ≤ n) && decide (n < ops.size) && gateB md ops k n && gateAtB md ops k n (upTo ops.size k) &&
  (segRun md ops (n - k) k (upTo ops.size k) == some (upTo ops.size n)) && (Region.ready md ops (upTo ops.size n) == [n])

structure GateAt (md : Region.Mode) (ops : Array Oper) (k n : Nat) (listed : Array Bool) : Prop where
  size : listed.size = ops.size
  closed : ∀ j oj, ops[j]? = some oj → listed.getD j false = true → ∀ e ∈ oj.after, Region.binds md e = true → listed.getD e.on false = true
  low : ∀ i, i < k → listed.getD i false = true
  high : ∀ t, n ≤ t → t < ops.size → listed.getD t true = false

theorem gateAt_of {k n : Nat} {listed : Array Bool} (h : gateAtB md ops k n listed = true) : GateAt md ops k n listed := by
  unfold gateAtB at h
  simp only [Bool.and_eq_true, List.all_eq_true, List.mem_range, beq_iff_eq] at h
  obtain ⟨⟨⟨h1, h2⟩, h3⟩, h4⟩ := h
  refine ⟨h1, fun j oj hj hl e he hb => ?_, h3, fun t ht hs => ?_⟩
  · have h5 := h2 j (Array.getElem?_eq_some_iff.1 hj).1
    rw [hj, hl] at h5
    simp only [Bool.not_true, Bool.false_or] at h5
    have h6 := (Array.all_eq_true_iff_forall_mem.1 h5) e he
    rw [hb] at h6
    simpa using h6
  · have h5 := h4 t hs
    rw [decide_eq_false (by omega : ¬ t < n)] at h5
    simpa using h5

theorem GateAt.put {k n i : Nat} {listed : Array Bool} (h : GateAt md ops k n listed) (hi : i ∈ Region.ready md ops listed) (hn : i < n) : GateAt md ops k n (listed.setIfInBounds i true) := by
  obtain ⟨_, oi, ho, hd⟩ := mem_ready.1 hi
  refine ⟨by rw [Array.size_setIfInBounds]; exact h.size, ?_, fun j hj => getD_set_true (h.low j hj), ?_⟩
  · intro j oj hj hl e he hb
    refine getD_set_true ?_
    rcases Nat.decEq i j with hne | heq
    · rw [getD_set_ne false hne] at hl
      exact h.closed j oj hj hl e he hb
    · subst heq
      rw [ho] at hj
      rw [← Option.some.inj hj] at he
      exact hd e he hb
  · intro t ht hs
    rw [getD_set_ne true (by omega)]
    exact h.high t ht hs

theorem gate_shut {k n : Nat} {listed : Array Bool} (hg : gateB md ops k n = true) (hn : n < ops.size) (h : GateAt md ops k n listed) {i : Nat} (hi : i < n) (hu : listed.getD i true = false) : ∀ t, n ≤ t → t ∉ Region.ready md ops listed := by
  unfold gateB at hg
  simp only [Bool.and_eq_true, List.all_eq_true, List.mem_range, Bool.or_eq_true, decide_eq_true_eq, List.any_eq_true] at hg
  obtain ⟨g1, g2⟩ := hg
  have hnr : ∀ (d i : Nat), n - i ≤ d → i < n → listed.getD i true = false → n ∉ Region.ready md ops listed := by
    intro d
    induction d with
    | zero => intro i hd hi; omega
    | succ d ih =>
      intro i hd hi hu hr
      have hu' := getD_both hu
      have hk : ¬ i < k := fun hk => by rw [h.low i hk] at hu'; cases hu'
      obtain ⟨j, hj, hij, hw⟩ := (g1 i hi).resolve_left hk
      obtain ⟨oj, hoj, e, he, hb, hon⟩ := Region.waitsFor_spec hw
      rcases Nat.lt_or_ge j n with hjn | hjn
      · have hjs : j < listed.size := by rw [h.size]; omega
        cases hl : listed.getD j false with
        | false => exact ih j (by omega) hjn (getD_in hjs hl) hr
        | true =>
          have := h.closed j oj hoj hl e he hb
          rw [hon, hu'] at this
          cases this
      · have hjn' : j = n := by omega
        subst hjn'
        obtain ⟨_, on, ho, hd'⟩ := mem_ready.1 hr
        rw [ho] at hoj
        rw [← Option.some.inj hoj] at he
        have := hd' e he hb
        rw [hon, hu'] at this
        cases this
  intro t ht hr
  rcases Nat.lt_or_ge n t with h1 | h1
  · obtain ⟨_, ot, ho, hd⟩ := mem_ready.1 hr
    have hts := (Array.getElem?_eq_some_iff.1 ho).1
    obtain ⟨j, hj, hnj, hw⟩ := (g2 t hts).resolve_left (by omega)
    obtain ⟨o', ho', e, he, hb, hon⟩ := Region.waitsFor_spec hw
    rw [ho] at ho'
    rw [← Option.some.inj ho'] at he
    have h2 := hd e he hb
    rw [hon, getD_both (h.high j hnj (by omega))] at h2
    cases h2
  · have : t = n := by omega
    subst this
    exact hnr t i (by omega) hi hu hr

theorem seg_first {k n i : Nat} {oi : Oper} {v : Value} {L : Array Bool → Act → Prop} (hi : ops[i]? = some oi) (hsel : ∀ (j : Nat) (o : Oper) cs b, ops[j]? = some o → o.op ≠ .select cs b)
    (hg : gateB md ops k n = true) (hn : n < ops.size) (hin : i < n) (hend : ∀ listed a, L listed a → ∀ j ∈ Region.ready md ops listed, n ≤ j) :
    ∀ (f : Nat) (listed : Array Bool) (a : Act), GateAt md ops k n listed →
      (∀ j oj, ops[j]? = some oj → j ≠ i → listed.getD j true = false → (∀ e ∈ oj.after, Region.binds md e = true → e.on ≠ i) → oi.apart ops oj = true) →
      i ∈ Region.ready md ops listed → YieldsAt P ops w oi v a →
      wpAnyL P md ops w n L f (listed.setIfInBounds i true) (a.put oi.dst v) → wpAnyL P md ops w n L (f + 1) listed a
  | f, listed, a, hG, hfree, hr, hy, H => by
    have hun := (mem_ready.1 hr).1
    refine ⟨List.ne_nil_of_mem hr, fun j hj => ?_⟩
    have hjn : j < n := Nat.lt_of_not_le fun h => gate_shut hg hn hG hin hun j h hj
    refine ⟨hjn, ?_⟩
    by_cases e : j = i
    · subst e; exact hy.stOp hi H
    · match f, H with
      | 0, H => exact absurd (hend _ _ H j (ready_mono hj e)) (by omega)
      | f + 1, H =>
        obtain ⟨hju, oj, hoj, hall⟩ := mem_ready.1 hj
        have hisz : i < listed.size := by rw [hG.size]; omega
        have hno : ∀ e ∈ oj.after, Region.binds md e = true → e.on ≠ i := fun e he hb hq => by
          have h1 := hall e he hb
          rw [hq, getD_both hun] at h1
          cases h1
        have step := stOp_put hoj (hfree j oj hoj e hju hno) (fun cs b => hsel i oi cs b hi) (fun cs b => hsel j oj cs b hoj) hy (H.2 j (ready_mono hj e)).2
        refine stOp_mono (fun a' h3 => ?_) step
        refine seg_first hi hsel hg hn hin hend f (listed.setIfInBounds j true) a' (hG.put hj hjn) (fun q oq hq hqi hqu hqn => ?_) (ready_mono hr (Ne.symm e)) h3.1 ?_
        · refine hfree q oq hq hqi ?_ hqn
          by_cases hjq : j = q
          · rw [← hjq]; exact hju
          · rw [getD_set_ne true hjq] at hqu; exact hqu
        · rw [Array.setIfInBounds_comm _ _ e]
          exact h3.2

theorem seg_lex {k0 n : Nat} {Lq : Act → Prop} {lend : Array Bool} (hsel : Region.noSelect ops = true) (hg : gateB md ops k0 n = true) (hn : n < ops.size) (hend : ∀ j ∈ Region.ready md ops lend, n ≤ j) :
    ∀ (l : List Oper) (k : Nat) (listed : Array Bool) (a : Act), (∀ j, j < l.length → l[j]? = ops[k + j]?) → k + l.length = n → GateAt md ops k0 n listed →
    segRun md ops l.length k listed = some lend → wpStill P ops w Lq l a → wpAnyL P md ops w n (fun li a' => li = lend ∧ Lq a') l.length listed a
  | [], k, listed, a, _, _, _, hB, h => ⟨Option.some.inj hB, h⟩
  | o :: l, k, listed, a, hl, hk, hG, hB, h => by
    have h0 : ops[k]? = some o := (hl 0 (by simp)).symm
    rw [List.length_cons] at hk
    rw [List.length_cons, segRun] at hB
    split at hB
    · rename_i hc
      rw [Bool.and_eq_true, List.contains_eq_mem, decide_eq_true_eq] at hc
      have hst : stOp P ops w k (wpStill P ops w Lq l) a := by unfold stOp; rw [h0]; exact h
      obtain ⟨v, hy, hK⟩ := yieldsAt_of_stOp h0 hst
      refine seg_first h0 (Region.noSelect_spec hsel) hg hn (by omega) (fun li a' hL => by rw [hL.1]; exact hend) l.length listed a hG (Region.free_spec h0 hc.2) hc.1 hy ?_
      exact seg_lex hsel hg hn hend l (k + 1) _ _ (fun j hj => by
        have := hl (j + 1) (by rw [List.length_cons]; omega)
        rw [show k + 1 + j = k + (j + 1) by omega, ← this]; rfl) (by omega) (hG.put hc.1 (by omega)) hB hK
    · cases hB

theorem wpAny_seg {Q' : Exit → Act → World → Prop} {a : Act} (k n : Nat) (l : List Oper) (hl : ∀ j, j < l.length → l[j]? = ops[k + j]?) (hk : k + l.length = n) (hB : segB md ops k n = true)
    (h : wpStill P ops w (fun a' => wpOp P ops Q' n (wpAny P md ops Q' (ops.size - (n + 1)) (upTo ops.size (n + 1))) a' w) l a) : wpAny P md ops Q' (ops.size - k) (upTo ops.size k) a w := by
  unfold segB at hB
  simp only [Bool.and_eq_true, decide_eq_true_eq, beq_iff_eq] at hB
  obtain ⟨⟨⟨⟨⟨⟨hsel, _⟩, hn⟩, hg⟩, hga⟩, hrun⟩, hrd⟩ := hB
  have hlen : n - k = l.length := by omega
  rw [hlen] at hrun
  have H := seg_lex hsel hg hn (fun j hj => by rw [hrd] at hj; have := List.mem_singleton.1 hj; omega) l k _ a hl hk (gateAt_of hga) hrun h
  have := wpAny_of_head (Q' := Q') (g := ops.size - n) (fun li a' hL => by
    obtain ⟨rfl, hL⟩ := hL
    rw [show ops.size - n = (ops.size - (n + 1)) + 1 by omega]
    refine ⟨fun h0 => (by rw [hrd] at h0; cases h0), fun i hi => ?_⟩
    rw [hrd] at hi
    rw [List.mem_singleton.1 hi]
    exact hL) _ _ _ H
  rw [show l.length + (ops.size - n) = ops.size - k by omega] at this
  exact this
theorem wpAny_segEnd {Q' : Exit → Act → World → Prop} {a : Act} (k : Nat) (l : List Oper) (hl : ∀ j, l[j]? = ops[k + j]?) (hk : k + l.length = ops.size) (hB : (Region.noSelect ops && Region.lexFrom md ops l.length k (upTo ops.size k)) = true)
    (h : wpStill P ops w (fun a' => Q' .normal a' w) l a) : wpAny P md ops Q' (ops.size - k) (upTo ops.size k) a w := by
  rw [Bool.and_eq_true] at hB
  have := wpAny_of_still (Q' := Q') (fun _ h => h) _ _ _ (wpAnyS_lex hB.1 l k _ a hl hB.2 h)
  rw [show l.length = ops.size - k by omega] at this
  exact this

theorem segTake_get {l : List Oper} {n : Nat} : ∀ j, j < (l.take n).length → (l.take n)[j]? = l.toArray[0 + j]? := fun j hj => by
  rw [List.length_take] at hj
  rw [List.getElem?_take, if_pos (by omega)]; simp
theorem segMid_get {l : List Oper} {k m : Nat} : ∀ j, j < ((l.drop k).take m).length → ((l.drop k).take m)[j]? = l.toArray[k + j]? := fun j hj => by
  rw [List.length_take] at hj
  rw [List.getElem?_take, if_pos (by omega)]; simp
theorem segDrop_get {l : List Oper} {k : Nat} : ∀ j, (l.drop k)[j]? = l.toArray[k + j]? := fun j => by simp
theorem segDrop_len {l : List Oper} {k : Nat} (h : k ≤ l.length) : k + (l.drop k).length = l.toArray.size := by simp; omega

theorem wp_region_seg {id : Nat} {Q : Exit → Act → World → Prop} {a : Act} {w : World} {l : List Oper} (n : Nat) (hm : P.follows .mixedOrders = true) (hB : segB .any l.toArray 0 n = true)
    (h : wpStill P l.toArray w.drew (fun a' => wpOp P l.toArray Q n (wpAny P .any l.toArray Q (l.toArray.size - (n + 1)) (upTo l.toArray.size (n + 1))) a' w.drew) (l.take n) a) : (Code.region id l.toArray true).wp P Q a w := by
  have hn : n < l.length := by
    unfold segB at hB
    simp only [Bool.and_eq_true, decide_eq_true_eq] at hB
    simpa using hB.1.1.1.1.2
  refine wp_region_any hm ?_
  have := wpAny_seg (P := P) (md := .any) (Q' := Q) 0 n (l.take n) segTake_get (by rw [List.length_take]; omega) hB h
  exact this
theorem wpAny_seg' {Q : Exit → Act → World → Prop} {a : Act} {w : World} {l : List Oper} {k : Nat} (n : Nat) (hB : segB .any l.toArray k n = true)
    (h : wpStill P l.toArray w (fun a' => wpOp P l.toArray Q n (wpAny P .any l.toArray Q (l.toArray.size - (n + 1)) (upTo l.toArray.size (n + 1))) a' w) ((l.drop k).take (n - k)) a) : wpAny P .any l.toArray Q (l.toArray.size - k) (upTo l.toArray.size k) a w := by
  have hn : k ≤ n ∧ n < l.length := by
    unfold segB at hB
    simp only [Bool.and_eq_true, decide_eq_true_eq] at hB
    have := hB.1.1.1.1
    exact ⟨this.1.2, by simpa using this.2⟩
  exact wpAny_seg (P := P) (md := .any) (Q' := Q) k n _ segMid_get (by rw [List.length_take, List.length_drop]; omega) hB h
theorem wpAny_end {Q : Exit → Act → World → Prop} {a : Act} {w : World} {l : List Oper} {k : Nat} (hk : k ≤ l.length) (hB : (Region.noSelect l.toArray && Region.lexFrom .any l.toArray (l.drop k).length k (upTo l.toArray.size k)) = true)
    (h : wpStill P l.toArray w (fun a' => Q .normal a' w) (l.drop k) a) : wpAny P .any l.toArray Q (l.toArray.size - k) (upTo l.toArray.size k) a w :=
  wpAny_segEnd k _ segDrop_get (segDrop_len hk) hB h

theorem opEnter {Q : Exit → Act → World → Prop} {i : Nat} {K : Act → World → Prop} {a : Act} {o : Oper} {f : FuncId} {args : Array Value} (dst : Option Nat) (ho : ops[i]? = some o) (hd : o.dst = dst) (hw : Region.wanted o (yielded ops a.tmps) = true) (hx : (execOp a.eval o).run P w = .ok (.enter f args) w)
    (hc : Calls P f args w fun e w' => ∃ v, e = .returned v ∧ K (a.put dst v) w') : wpOp P ops Q i K a w := by
  subst hd
  unfold wpOp
  rw [ho]
  simp only [hw, if_true]
  refine .inl ?_
  unfold Oper.wp
  rw [hx, Oper.upon_enter]
  refine hc.mono fun e w' h => ?_
  obtain ⟨v, rfl, h⟩ := h
  exact h
end
end Go.Proofs.Ytklomhmdiflfaaa

namespace Go.Proofs.Ytklomhmdiflfaaa
open Go.RowKit Go.Sort
attribute [local go_sem ↓] Go.wp_at_zero Go.wp_at_succ

set_option maxHeartbeats 6400000 in
set_option maxRecDepth 100000 in
theorem orderLaw_no1 (f : E.Fd) (A : Option Addr) (n c : Nat) (l : List E.Nt) (H : Int) (Ab : Option Addr) (nb cb : Nat) (bys : List Int) (w : World) (hn : l.length = n) (hr : RdN w w.heap.size A l) (hid : ∀ x ∈ l, (Lit.int .i64 x.id).wf = true) (hm : n ≤ 1000000) (hcap : A = none → c = 0) (hnb : bys.length = nb) (hrb : RdI w w.heap.size Ab bys) (hrd : E.readyB f l n = false) :
    Calls Try.prog 4 #[.agg #[.int .i64 f.places, .int .i64 f.wilds, .int .i64 f.guards, .int .i64 f.close, .int .i64 f.freeze], .slice A n c, .agg #[.int .i64 H, .slice Ab nb cb]] w fun e w' => e = .returned (.bool true) ∧ Below w.heap.size w w' := by
  have HN := hide hn
  have HR := hide hr
  have HID := hide hid
  have HM := hide hm
  have HCAP := hide hcap
  have HNB := hide hnb
  have HRB := hide hrb
  clear hn hr hid hm hcap hnb hrb
  have HRD := hide hrd
  clear hrd
  go_enter Try.func4, Try.ntmps4
  obtain ⟨w0, hw0⟩ : ∃ w0, (w.alloc (.cells #[.int .i64 f.places, .int .i64 f.wilds, .int .i64 f.guards, .int .i64 f.close, .int .i64 f.freeze] 23)).alloc (.cells #[.int .i64 H, .slice Ab nb cb] 43) = w0 := ⟨_, rfl⟩
  have HB0 := hide (show Below w.heap.size w w0 by rw [← hw0]; (repeat' first | exact zbR _ _ | assumption | refine zbD ?_ | refine zbA ?_ ?_ _ | refine zbS ?_ ?_ _ | refine zbT ?_ (by assumption) ?_ | (simp; done) | (simp; omega) | omega))
  have HS0 := hide (show w0.heap.size = w.heap.size + 1 + 1 by rw [← hw0]; simp)
  have HF0 := hide (show w0.heap[w.heap.size]? = some (.cells #[.int .i64 f.places, .int .i64 f.wilds, .int .i64 f.guards, .int .i64 f.close, .int .i64 f.freeze] 23 (0, 0)) by rw [← hw0]; exact (Below.heap_alloc _ _ _ (by first | (simp; done) | (simp; omega) | omega)).trans (World.alloc_heap_new _ _))
  have HA0 := hide (show w0.heap[w.heap.size + 1]? = some (.cells #[.int .i64 H, .slice Ab nb cb] 43 (0, 0)) by rw [← hw0]; exact (congrArg _ (by simp)).trans (World.alloc_heap_new _ _))
  have HR0 := hide ((HR.out.below HB0.out).mono HB0.out.size)
  have HRB0 := hide ((HRB.out.below HB0.out).mono HB0.out.size)
  have HW0 := hide hw0
  clear hw0
  go_wp2_with (first | (go_at_call 19; rw [HW0.out]; refine (ready_any f A n c l w0 HN.out HR0.out HM.out).mono ?_; rintro e w1 ⟨rfl, hb1⟩; rw [HRD.out]; have HB1 := hide hb1; clear hb1; have HF1 := hide (((HB1.out).block w.heap.size (by have := HS0.out; omega)).trans HF0.out); have HA1 := hide (((HB1.out).block (w.heap.size + 1) (by have := HS0.out; omega)).trans HA0.out); have x10 : w1.cell? ⟨w.heap.size, 0, none⟩ = some (.int .i64 f.places) := (blk_cell HF1.out 0).trans rfl; have x11 : w1.cell? ⟨w.heap.size, 1, none⟩ = some (.int .i64 f.wilds) := (blk_cell HF1.out 1).trans rfl; have x12 : w1.cell? ⟨w.heap.size, 2, none⟩ = some (.int .i64 f.guards) := (blk_cell HF1.out 2).trans rfl; have x13 : w1.cell? ⟨w.heap.size, 3, none⟩ = some (.int .i64 f.close) := (blk_cell HF1.out 3).trans rfl; have x14 : w1.cell? ⟨w.heap.size, 4, none⟩ = some (.int .i64 f.freeze) := (blk_cell HF1.out 4).trans rfl; have y10 : w1.cell? ⟨w.heap.size + 1, 0, none⟩ = some (.int .i64 H) := (blk_cell HA1.out 0).trans rfl; have y11 : w1.cell? ⟨w.heap.size + 1, 1, none⟩ = some (.slice Ab nb cb) := (blk_cell HA1.out 1).trans rfl; have l10 := blk_lt HF1.out; have l11 := blk_lt HA1.out) | (go_at_call 11; refine (works_any _).mono ?_; rintro e w9 ⟨rfl, hb9⟩; have HB9 := hide (zbT HB1.out hb9 HB1.out.size); clear hb9))
  go_ret
  exact ⟨rfl, HB0.out.trans (HB9.out.mono HB0.out.size)⟩
set_option maxHeartbeats 6400000 in
set_option maxRecDepth 100000 in
theorem orderLaw_no2 (f : E.Fd) (A : Option Addr) (n c : Nat) (l : List E.Nt) (H : Int) (Ab : Option Addr) (nb cb : Nat) (bys : List Int) (w : World) (hn : l.length = n) (hr : RdN w w.heap.size A l) (hid : ∀ x ∈ l, (Lit.int .i64 x.id).wf = true) (hm : n ≤ 1000000) (hcap : A = none → c = 0) (hnb : bys.length = nb) (hrb : RdI w w.heap.size Ab bys) (hrd : E.readyB f l n = true) (h10 : 10 < n) :
    Calls Try.prog 4 #[.agg #[.int .i64 f.places, .int .i64 f.wilds, .int .i64 f.guards, .int .i64 f.close, .int .i64 f.freeze], .slice A n c, .agg #[.int .i64 H, .slice Ab nb cb]] w fun e w' => e = .returned (.bool true) ∧ Below w.heap.size w w' := by
  have HN := hide hn
  have HR := hide hr
  have HID := hide hid
  have HM := hide hm
  have HCAP := hide hcap
  have HNB := hide hnb
  have HRB := hide hrb
  clear hn hr hid hm hcap hnb hrb
  have HRD := hide hrd
  clear hrd
  have hn10 : (10 : Int) < (n : Int) := by omega
  go_enter Try.func4, Try.ntmps4
  obtain ⟨w0, hw0⟩ : ∃ w0, (w.alloc (.cells #[.int .i64 f.places, .int .i64 f.wilds, .int .i64 f.guards, .int .i64 f.close, .int .i64 f.freeze] 23)).alloc (.cells #[.int .i64 H, .slice Ab nb cb] 43) = w0 := ⟨_, rfl⟩
  have HB0 := hide (show Below w.heap.size w w0 by rw [← hw0]; (repeat' first | exact zbR _ _ | assumption | refine zbD ?_ | refine zbA ?_ ?_ _ | refine zbS ?_ ?_ _ | refine zbT ?_ (by assumption) ?_ | (simp; done) | (simp; omega) | omega))
  have HS0 := hide (show w0.heap.size = w.heap.size + 1 + 1 by rw [← hw0]; simp)
  have HF0 := hide (show w0.heap[w.heap.size]? = some (.cells #[.int .i64 f.places, .int .i64 f.wilds, .int .i64 f.guards, .int .i64 f.close, .int .i64 f.freeze] 23 (0, 0)) by rw [← hw0]; exact (Below.heap_alloc _ _ _ (by first | (simp; done) | (simp; omega) | omega)).trans (World.alloc_heap_new _ _))
  have HA0 := hide (show w0.heap[w.heap.size + 1]? = some (.cells #[.int .i64 H, .slice Ab nb cb] 43 (0, 0)) by rw [← hw0]; exact (congrArg _ (by simp)).trans (World.alloc_heap_new _ _))
  have HR0 := hide ((HR.out.below HB0.out).mono HB0.out.size)
  have HRB0 := hide ((HRB.out.below HB0.out).mono HB0.out.size)
  have HW0 := hide hw0
  clear hw0
  go_wp2_with (first | (go_at_call 19; rw [HW0.out]; refine (ready_any f A n c l w0 HN.out HR0.out HM.out).mono ?_; rintro e w1 ⟨rfl, hb1⟩; rw [HRD.out]; have HB1 := hide hb1; clear hb1; have HF1 := hide (((HB1.out).block w.heap.size (by have := HS0.out; omega)).trans HF0.out); have HA1 := hide (((HB1.out).block (w.heap.size + 1) (by have := HS0.out; omega)).trans HA0.out); have x10 : w1.cell? ⟨w.heap.size, 0, none⟩ = some (.int .i64 f.places) := (blk_cell HF1.out 0).trans rfl; have x11 : w1.cell? ⟨w.heap.size, 1, none⟩ = some (.int .i64 f.wilds) := (blk_cell HF1.out 1).trans rfl; have x12 : w1.cell? ⟨w.heap.size, 2, none⟩ = some (.int .i64 f.guards) := (blk_cell HF1.out 2).trans rfl; have x13 : w1.cell? ⟨w.heap.size, 3, none⟩ = some (.int .i64 f.close) := (blk_cell HF1.out 3).trans rfl; have x14 : w1.cell? ⟨w.heap.size, 4, none⟩ = some (.int .i64 f.freeze) := (blk_cell HF1.out 4).trans rfl; have y10 : w1.cell? ⟨w.heap.size + 1, 0, none⟩ = some (.int .i64 H) := (blk_cell HA1.out 0).trans rfl; have y11 : w1.cell? ⟨w.heap.size + 1, 1, none⟩ = some (.slice Ab nb cb) := (blk_cell HA1.out 1).trans rfl; have l10 := blk_lt HF1.out; have l11 := blk_lt HA1.out) | (go_at_call 11; refine (works_any _).mono ?_; rintro e w9 ⟨rfl, hb9⟩; have HB9 := hide (zbT HB1.out hb9 HB1.out.size); clear hb9))
  go_ret
  exact ⟨rfl, HB0.out.trans (HB9.out.mono HB0.out.size)⟩
set_option maxHeartbeats 6400000 in
set_option maxRecDepth 100000 in
theorem orderLaw_no3 (f : E.Fd) (A : Option Addr) (n c : Nat) (l : List E.Nt) (H : Int) (Ab : Option Addr) (nb cb : Nat) (bys : List Int) (w : World) (hn : l.length = n) (hr : RdN w w.heap.size A l) (hid : ∀ x ∈ l, (Lit.int .i64 x.id).wf = true) (hm : n ≤ 1000000) (hcap : A = none → c = 0) (hnb : bys.length = nb) (hrb : RdI w w.heap.size Ab bys) (hrd : E.readyB f l n = true) (h10 : ¬ 10 < n) (hi1 : E.within H 0 9999 = false) :
    Calls Try.prog 4 #[.agg #[.int .i64 f.places, .int .i64 f.wilds, .int .i64 f.guards, .int .i64 f.close, .int .i64 f.freeze], .slice A n c, .agg #[.int .i64 H, .slice Ab nb cb]] w fun e w' => e = .returned (.bool true) ∧ Below w.heap.size w w' := by
  have HN := hide hn
  have HR := hide hr
  have HID := hide hid
  have HM := hide hm
  have HCAP := hide hcap
  have HNB := hide hnb
  have HRB := hide hrb
  clear hn hr hid hm hcap hnb hrb
  have HRD := hide hrd
  clear hrd
  have HI1 := hide hi1
  clear hi1
  have hn10 : (n : Int) ≤ 10 := by omega
  go_enter Try.func4, Try.ntmps4
  obtain ⟨w0, hw0⟩ : ∃ w0, (w.alloc (.cells #[.int .i64 f.places, .int .i64 f.wilds, .int .i64 f.guards, .int .i64 f.close, .int .i64 f.freeze] 23)).alloc (.cells #[.int .i64 H, .slice Ab nb cb] 43) = w0 := ⟨_, rfl⟩
  have HB0 := hide (show Below w.heap.size w w0 by rw [← hw0]; (repeat' first | exact zbR _ _ | assumption | refine zbD ?_ | refine zbA ?_ ?_ _ | refine zbS ?_ ?_ _ | refine zbT ?_ (by assumption) ?_ | (simp; done) | (simp; omega) | omega))
  have HS0 := hide (show w0.heap.size = w.heap.size + 1 + 1 by rw [← hw0]; simp)
  have HF0 := hide (show w0.heap[w.heap.size]? = some (.cells #[.int .i64 f.places, .int .i64 f.wilds, .int .i64 f.guards, .int .i64 f.close, .int .i64 f.freeze] 23 (0, 0)) by rw [← hw0]; exact (Below.heap_alloc _ _ _ (by first | (simp; done) | (simp; omega) | omega)).trans (World.alloc_heap_new _ _))
  have HA0 := hide (show w0.heap[w.heap.size + 1]? = some (.cells #[.int .i64 H, .slice Ab nb cb] 43 (0, 0)) by rw [← hw0]; exact (congrArg _ (by simp)).trans (World.alloc_heap_new _ _))
  have HR0 := hide ((HR.out.below HB0.out).mono HB0.out.size)
  have HRB0 := hide ((HRB.out.below HB0.out).mono HB0.out.size)
  have HW0 := hide hw0
  clear hw0
  go_wp2_with (first | (go_at_call 19; rw [HW0.out]; refine (ready_any f A n c l w0 HN.out HR0.out HM.out).mono ?_; rintro e w1 ⟨rfl, hb1⟩; rw [HRD.out]; have HB1 := hide hb1; clear hb1; have HF1 := hide (((HB1.out).block w.heap.size (by have := HS0.out; omega)).trans HF0.out); have HA1 := hide (((HB1.out).block (w.heap.size + 1) (by have := HS0.out; omega)).trans HA0.out); have x10 : w1.cell? ⟨w.heap.size, 0, none⟩ = some (.int .i64 f.places) := (blk_cell HF1.out 0).trans rfl; have x11 : w1.cell? ⟨w.heap.size, 1, none⟩ = some (.int .i64 f.wilds) := (blk_cell HF1.out 1).trans rfl; have x12 : w1.cell? ⟨w.heap.size, 2, none⟩ = some (.int .i64 f.guards) := (blk_cell HF1.out 2).trans rfl; have x13 : w1.cell? ⟨w.heap.size, 3, none⟩ = some (.int .i64 f.close) := (blk_cell HF1.out 3).trans rfl; have x14 : w1.cell? ⟨w.heap.size, 4, none⟩ = some (.int .i64 f.freeze) := (blk_cell HF1.out 4).trans rfl; have y10 : w1.cell? ⟨w.heap.size + 1, 0, none⟩ = some (.int .i64 H) := (blk_cell HA1.out 0).trans rfl; have y11 : w1.cell? ⟨w.heap.size + 1, 1, none⟩ = some (.slice Ab nb cb) := (blk_cell HA1.out 1).trans rfl; have l10 := blk_lt HF1.out; have l11 := blk_lt HA1.out) | (go_at_call 20; with_reducible refine (isHour_any H _).mono ?_; rintro e w' ⟨rfl, rfl⟩; rw [HI1.out]) | (go_at_call 11; refine (works_any _).mono ?_; rintro e w9 ⟨rfl, hb9⟩; have HB9 := hide (zbT HB1.out hb9 HB1.out.size); clear hb9))
  go_ret
  exact ⟨rfl, HB0.out.trans (HB9.out.mono HB0.out.size)⟩
set_option maxHeartbeats 6400000 in
set_option maxRecDepth 100000 in
theorem orderLaw_no4 (f : E.Fd) (A : Option Addr) (n c : Nat) (l : List E.Nt) (H : Int) (Ab : Option Addr) (nb cb : Nat) (bys : List Int) (w : World) (hn : l.length = n) (hr : RdN w w.heap.size A l) (hid : ∀ x ∈ l, (Lit.int .i64 x.id).wf = true) (hm : n ≤ 1000000) (hcap : A = none → c = 0) (hnb : bys.length = nb) (hrb : RdI w w.heap.size Ab bys) (hrd : E.readyB f l n = true) (h10 : ¬ 10 < n) (hi1 : E.within H 0 9999 = true) (h20 : 20 < nb) :
    Calls Try.prog 4 #[.agg #[.int .i64 f.places, .int .i64 f.wilds, .int .i64 f.guards, .int .i64 f.close, .int .i64 f.freeze], .slice A n c, .agg #[.int .i64 H, .slice Ab nb cb]] w fun e w' => e = .returned (.bool true) ∧ Below w.heap.size w w' := by
  have HN := hide hn
  have HR := hide hr
  have HID := hide hid
  have HM := hide hm
  have HCAP := hide hcap
  have HNB := hide hnb
  have HRB := hide hrb
  clear hn hr hid hm hcap hnb hrb
  have HRD := hide hrd
  clear hrd
  have HI1 := hide hi1
  clear hi1
  have hn10 : (n : Int) ≤ 10 := by omega
  have hn20 : (20 : Int) < (nb : Int) := by omega
  go_enter Try.func4, Try.ntmps4
  obtain ⟨w0, hw0⟩ : ∃ w0, (w.alloc (.cells #[.int .i64 f.places, .int .i64 f.wilds, .int .i64 f.guards, .int .i64 f.close, .int .i64 f.freeze] 23)).alloc (.cells #[.int .i64 H, .slice Ab nb cb] 43) = w0 := ⟨_, rfl⟩
  have HB0 := hide (show Below w.heap.size w w0 by rw [← hw0]; (repeat' first | exact zbR _ _ | assumption | refine zbD ?_ | refine zbA ?_ ?_ _ | refine zbS ?_ ?_ _ | refine zbT ?_ (by assumption) ?_ | (simp; done) | (simp; omega) | omega))
  have HS0 := hide (show w0.heap.size = w.heap.size + 1 + 1 by rw [← hw0]; simp)
  have HF0 := hide (show w0.heap[w.heap.size]? = some (.cells #[.int .i64 f.places, .int .i64 f.wilds, .int .i64 f.guards, .int .i64 f.close, .int .i64 f.freeze] 23 (0, 0)) by rw [← hw0]; exact (Below.heap_alloc _ _ _ (by first | (simp; done) | (simp; omega) | omega)).trans (World.alloc_heap_new _ _))
  have HA0 := hide (show w0.heap[w.heap.size + 1]? = some (.cells #[.int .i64 H, .slice Ab nb cb] 43 (0, 0)) by rw [← hw0]; exact (congrArg _ (by simp)).trans (World.alloc_heap_new _ _))
  have HR0 := hide ((HR.out.below HB0.out).mono HB0.out.size)
  have HRB0 := hide ((HRB.out.below HB0.out).mono HB0.out.size)
  have HW0 := hide hw0
  clear hw0
  go_wp2_with (first | (go_at_call 19; rw [HW0.out]; refine (ready_any f A n c l w0 HN.out HR0.out HM.out).mono ?_; rintro e w1 ⟨rfl, hb1⟩; rw [HRD.out]; have HB1 := hide hb1; clear hb1; have HF1 := hide (((HB1.out).block w.heap.size (by have := HS0.out; omega)).trans HF0.out); have HA1 := hide (((HB1.out).block (w.heap.size + 1) (by have := HS0.out; omega)).trans HA0.out); have x10 : w1.cell? ⟨w.heap.size, 0, none⟩ = some (.int .i64 f.places) := (blk_cell HF1.out 0).trans rfl; have x11 : w1.cell? ⟨w.heap.size, 1, none⟩ = some (.int .i64 f.wilds) := (blk_cell HF1.out 1).trans rfl; have x12 : w1.cell? ⟨w.heap.size, 2, none⟩ = some (.int .i64 f.guards) := (blk_cell HF1.out 2).trans rfl; have x13 : w1.cell? ⟨w.heap.size, 3, none⟩ = some (.int .i64 f.close) := (blk_cell HF1.out 3).trans rfl; have x14 : w1.cell? ⟨w.heap.size, 4, none⟩ = some (.int .i64 f.freeze) := (blk_cell HF1.out 4).trans rfl; have y10 : w1.cell? ⟨w.heap.size + 1, 0, none⟩ = some (.int .i64 H) := (blk_cell HA1.out 0).trans rfl; have y11 : w1.cell? ⟨w.heap.size + 1, 1, none⟩ = some (.slice Ab nb cb) := (blk_cell HA1.out 1).trans rfl; have l10 := blk_lt HF1.out; have l11 := blk_lt HA1.out) | (go_at_call 20; with_reducible refine (isHour_any H _).mono ?_; rintro e w' ⟨rfl, rfl⟩; rw [HI1.out]) | (go_at_call 11; refine (works_any _).mono ?_; rintro e w9 ⟨rfl, hb9⟩; have HB9 := hide (zbT HB1.out hb9 HB1.out.size); clear hb9))
  go_ret
  exact ⟨rfl, HB0.out.trans (HB9.out.mono HB0.out.size)⟩
set_option maxHeartbeats 6400000 in
set_option maxRecDepth 100000 in
theorem orderLaw_main (f : E.Fd) (A : Option Addr) (n c : Nat) (l : List E.Nt) (H : Int) (Ab : Option Addr) (nb cb : Nat) (bys : List Int) (w : World) (hn : l.length = n) (hr : RdN w w.heap.size A l) (hid : ∀ x ∈ l, (Lit.int .i64 x.id).wf = true) (hm : n ≤ 1000000) (hcap : A = none → c = 0) (hnb : bys.length = nb) (hrb : RdI w w.heap.size Ab bys) (hrd : E.readyB f l n = true) (h10 : ¬ 10 < n) (hi1 : E.within H 0 9999 = true) (h20 : ¬ 20 < nb) :
    Calls Try.prog 4 #[.agg #[.int .i64 f.places, .int .i64 f.wilds, .int .i64 f.guards, .int .i64 f.close, .int .i64 f.freeze], .slice A n c, .agg #[.int .i64 H, .slice Ab nb cb]] w fun e w' => e = .returned (.bool true) ∧ Below w.heap.size w w' := by
  have HN := hide hn
  have HR := hide hr
  have HID := hide hid
  have HM := hide hm
  have HCAP := hide hcap
  have HNB := hide hnb
  have HRB := hide hrb
  clear hn hr hid hm hcap hnb hrb
  have HRD := hide hrd
  clear hrd
  have HI1 := hide hi1
  clear hi1
  have hn10 : (n : Int) ≤ 10 := by omega
  have hn20 : (nb : Int) ≤ 20 := by omega
  have HI1' := hide (show 0 ≤ H ∧ H ≤ 9999 by have := HI1.out; unfold E.within at this; simpa using this)
  have HCK := hide (show E.checkE f l = 0 by have := HRD.out; unfold E.readyB at this; simp only [Bool.and_eq_true, beq_iff_eq] at this; exact this.2)
  obtain ⟨d, hd⟩ := E.check_diffs HCK.out
  have HD := hide hd
  have hvf := (E.errE_ok (E.err_zero (h := H) (p := 0) HCK.out HI1'.out (by omega))).2.1
  have HVF0 := hide (E.valid_places hvf)
  obtain ⟨M, hM⟩ : ∃ M, (E.atL f H d).main = M := ⟨_, rfl⟩
  obtain ⟨C, hC⟩ : ∃ M, (E.atL f H d).cards = M := ⟨_, rfl⟩
  obtain ⟨O, hO⟩ : ∃ M, (E.atL f H d).alts = M := ⟨_, rfl⟩
  obtain ⟨P, hP⟩ : ∃ M, (E.atL f H d).f.places - ((E.atL f H d).main.length : Int) = M := ⟨_, rfl⟩
  have HEM := hide hM
  have HEC := hide hC
  have HEO := hide hO
  have HEP := hide hP
  have HLN := hide (show M.length ≤ 1000 ∧ C.length ≤ 1000 ∧ O.length ≤ 1000 by
    have h1 := E.atL_len2 (f := f) (h := H) (d := d) (by have := HVF0.out.1; omega) HVF0.out.2 (E.diffs_len hd)
    have h3 := E.atL_len3 (f := f) (h := H) (E.diffs_len hd)
    rw [hM, hC] at h1
    rw [hO] at h3
    omega)
  clear hd hvf hM hC hO hP
  go_enter Try.func4, Try.ntmps4
  obtain ⟨w0, hw0⟩ : ∃ w0, (w.alloc (.cells #[.int .i64 f.places, .int .i64 f.wilds, .int .i64 f.guards, .int .i64 f.close, .int .i64 f.freeze] 23)).alloc (.cells #[.int .i64 H, .slice Ab nb cb] 43) = w0 := ⟨_, rfl⟩
  have HB0 := hide (show Below w.heap.size w w0 by rw [← hw0]; (repeat' first | exact zbR _ _ | assumption | refine zbD ?_ | refine zbA ?_ ?_ _ | refine zbS ?_ ?_ _ | refine zbT ?_ (by assumption) ?_ | (simp; done) | (simp; omega) | omega))
  have HS0 := hide (show w0.heap.size = w.heap.size + 1 + 1 by rw [← hw0]; simp)
  have HF0 := hide (show w0.heap[w.heap.size]? = some (.cells #[.int .i64 f.places, .int .i64 f.wilds, .int .i64 f.guards, .int .i64 f.close, .int .i64 f.freeze] 23 (0, 0)) by rw [← hw0]; exact (Below.heap_alloc _ _ _ (by first | (simp; done) | (simp; omega) | omega)).trans (World.alloc_heap_new _ _))
  have HA0 := hide (show w0.heap[w.heap.size + 1]? = some (.cells #[.int .i64 H, .slice Ab nb cb] 43 (0, 0)) by rw [← hw0]; exact (congrArg _ (by simp)).trans (World.alloc_heap_new _ _))
  have HR0 := hide ((HR.out.below HB0.out).mono HB0.out.size)
  have HRB0 := hide ((HRB.out.below HB0.out).mono HB0.out.size)
  have HW0 := hide hw0
  clear hw0
  go_upto_region 3 with (first | (go_at_call 19; rw [HW0.out]; refine (ready_any f A n c l w0 HN.out HR0.out HM.out).mono ?_; rintro e w1 ⟨rfl, hb1⟩; rw [HRD.out]; have HB1 := hide hb1; clear hb1; have HF1 := hide (((HB1.out).block w.heap.size (by have := HS0.out; omega)).trans HF0.out); have HA1 := hide (((HB1.out).block (w.heap.size + 1) (by have := HS0.out; omega)).trans HA0.out); have x10 : w1.cell? ⟨w.heap.size, 0, none⟩ = some (.int .i64 f.places) := (blk_cell HF1.out 0).trans rfl; have x11 : w1.cell? ⟨w.heap.size, 1, none⟩ = some (.int .i64 f.wilds) := (blk_cell HF1.out 1).trans rfl; have x12 : w1.cell? ⟨w.heap.size, 2, none⟩ = some (.int .i64 f.guards) := (blk_cell HF1.out 2).trans rfl; have x13 : w1.cell? ⟨w.heap.size, 3, none⟩ = some (.int .i64 f.close) := (blk_cell HF1.out 3).trans rfl; have x14 : w1.cell? ⟨w.heap.size, 4, none⟩ = some (.int .i64 f.freeze) := (blk_cell HF1.out 4).trans rfl; have y10 : w1.cell? ⟨w.heap.size + 1, 0, none⟩ = some (.int .i64 H) := (blk_cell HA1.out 0).trans rfl; have y11 : w1.cell? ⟨w.heap.size + 1, 1, none⟩ = some (.slice Ab nb cb) := (blk_cell HA1.out 1).trans rfl; have l10 := blk_lt HF1.out; have l11 := blk_lt HA1.out) | (go_at_call 20; with_reducible refine (isHour_any H _).mono ?_; rintro e w' ⟨rfl, rfl⟩; rw [HI1.out]))
  clear x10 x11 x12 x13 x14 y10 y11 l10 l11
  obtain ⟨gx, hgx⟩ : ∃ q, w.heap.size + 1 = q := ⟨_, rfl⟩
  rw [hgx] at HA1 ⊢
  have HGX := hide hgx
  clear hgx
  have RL1 := hide ((HR0.out.below HB1.out).mono HB1.out.size)
  have RB1 := hide ((HRB0.out.below HB1.out).mono HB1.out.size)
  go_upto_block 0 with (first | (at_builtin; refine wpList_app_Ns rfl (.tmp 40) (.tmp 41) rfl w1.heap.size (.slice (some ⟨w1.heap.size, 0, none⟩) 0 0) [] 0 rfl (ownsN_empty (World.alloc_heap_new w1 _) (Nat.le_refl _)) rfl A n c l rfl HN.out ((RL1.out.below (zbA (zbR _ _) (Nat.le_refl _) _)).mono (by simp)) HCAP.out (by omega) (by omega) (by simp) n (by omega) ?_; intro A7 c7 w2 hown hgrow; have HO2 := hide hown; have HB2 := hide ((zbA (zbR w1.heap.size w1) (Nat.le_refl _) _).trans (grown_below (B := w1.heap.size) hgrow (by simp) (fun g hg => by have h1 : w1.heap.size = g := Option.some.inj hg; omega))); clear hown hgrow))
  go_cut [7] from 43 (fun v7 wx => v7 = .slice A7 n c7 ∧ ∃ ms : List E.Nt, Hid (ms.Perm l) ∧ Hid (wx.ownsRow w1.heap.size 40 5 (.slice A7 n c7) n (flatN ms)) ∧ Hid (Below w1.heap.size w1 wx))
  case first =>
    go_wp2_with fail
    go_loopw [8] (fun i wr => ∃ (i' : Nat) (ms : List E.Nt), i' ≤ n ∧ i = .int .i64 i' ∧ Hid (ms.Perm l) ∧ Hid (wr.ownsRow w1.heap.size 40 5 (.slice A7 n c7) n (flatN ms)) ∧ Hid (Below w1.heap.size w1 wr)) (fun i _ => n - (intOf i).toNat)
    case atStart => exact ⟨0, l, by omega, rfl, hide (List.Perm.refl _), HO2, HB2⟩
    case round =>
      obtain ⟨i, ms, hi, rfl, HPM, HOW, HR3⟩ := hrel
      have HXX := hide ((HR3.out.block _ (blk_lt HA1.out)).trans HA1.out)
      have yx1 : wr.cell? ⟨gx, 1, none⟩ = some (.slice Ab nb cb) := (blk_cell HXX.out 1).trans rfl
      have lx1 := blk_lt HXX.out
      by_cases hin : i < n
      · by_cases hib : i < nb
        · obtain ⟨bv, hbv⟩ : ∃ q, bys[i]? = some q := ⟨_, List.getElem?_eq_getElem (by have := HNB.out; omega)⟩
          have HBV := hide hbv
          obtain ⟨bb, ob, hAb, _, _⟩ := RB1.out i bv hbv
          subst hAb
          obtain ⟨g, hg⟩ := own_form5 HOW.out (by omega)
          subst hg
          have hi1 : (i : Int) < (n : Int) := by omega
          have hi2 : (i : Int) < (nb : Int) := by omega
          have hi0 : (0 : Int) ≤ (i : Int) := by omega
          clear hbv
          go_wp2_with fail
          clear yx1 lx1 HXX
          go_loopw [9] (fun kk wr => ∃ (k' : Nat) (ms : List E.Nt), k' ≤ i ∧ kk = .int .i64 k' ∧ Hid (ms.Perm l) ∧ Hid (wr.ownsRow w1.heap.size 40 5 (.slice (some ⟨g, 0, none⟩) n c7) n (flatN ms)) ∧ Hid (Below w1.heap.size w1 wr)) (fun kk _ => (intOf kk).toNat)
          case atStart => exact ⟨i, ms, Nat.le_refl _, rfl, HPM, HOW, HR3⟩
          case round =>
            clear HPM HOW HR3
            obtain ⟨k, ms, hk, rfl, HPM, HOW, HR4⟩ := hrel
            have HXX := hide ((HR4.out.block _ (blk_lt HA1.out)).trans HA1.out)
            have yx1 : wr.cell? ⟨gx, 1, none⟩ = some (.slice (some ⟨bb, ob, none⟩) nb cb) := (blk_cell HXX.out 1).trans rfl
            have lx1 := blk_lt HXX.out
            obtain ⟨bb', ob', hb', _, vb⟩ := (RB1.out.below HR4.out) i bv HBV.out
            injection hb' with hb'
            injection hb' with hb1 hb2
            subst hb1 hb2
            have hi1 : (i : Int) < (n : Int) := by omega
            have hi2 : (i : Int) < (nb : Int) := by omega
            have hi0 : (0 : Int) ≤ (i : Int) := by omega
            by_cases hk0 : k = 0
            · subst hk0
              go_wp2_with fail
              go_roundw
              case rel => exact ⟨i + 1, ms, by omega, by go_num, HPM, HOW, HR4⟩
              case measure => simp [intOf]; omega
            · obtain ⟨j, hj⟩ : ∃ j, k = j + 1 := ⟨k - 1, by omega⟩
              obtain ⟨J, hJ⟩ : ∃ J : Int, (k : Int) = J := ⟨_, rfl⟩
              rw [hJ]
              have hJ0 : 0 < J := by omega
              have hJ00 : 0 ≤ J := by omega
              have hJn : J < (n : Int) := by omega
              have hJt : J.toNat = j + 1 := by omega
              have hwJ : IntKind.i64.wrap (J - 1) = (j : Int) := by rw [show J - 1 = (j : Int) by omega]; exact IntWalk.i64_in _ (by omega)
              obtain ⟨T, hT⟩ : ∃ T, IntKind.i64.wrap ((i : Int) - bv) = T := ⟨_, rfl⟩
              have HJ := hide hJ
              have HKJ := hide hj
              clear hJ
              by_cases hTJ : T < J
              · have HLM := hide (show ms.length = n by rw [HPM.out.length_eq]; exact HN.out)
                obtain ⟨na, hna⟩ : ∃ q, ms[j]? = some q := ⟨_, List.getElem?_eq_getElem (by have := HLM.out; omega)⟩
                obtain ⟨nb', hnb⟩ : ∃ q, ms[j + 1]? = some q := ⟨_, List.getElem?_eq_getElem (by have := HLM.out; omega)⟩
                have Hna := hide hna
                have Hnb' := hide hnb
                have HTH1 := hide (show wr.drew.there g ((j + 1) * 5) 5 from own_there (k := j + 1) HOW.out (by omega))
                clear hna hnb
                go_upto_region 10 with fail
                have hj0 : (0 : Int) ≤ (j : Int) := by omega
                have hjn : (j : Int) < (n : Int) := by omega
                have RLm := hide (owns_RdN HOW.out HLM.out)
                obtain ⟨bgna, ogna, egna, _, na0, na1, na2, na3, na4⟩ := RLm.out j na Hna.out
                simp only [Option.some.injEq, Addr.mk.injEq, and_true] at egna
                obtain ⟨rfl, rfl⟩ := egna
                rw [Nat.zero_add] at na0
                rw [Nat.zero_add] at na1
                rw [Nat.zero_add] at na2
                rw [Nat.zero_add] at na3
                rw [Nat.zero_add] at na4
                obtain ⟨bgnb, ognb, egnb, _, nb0, nb1, nb2, nb3, nb4⟩ := RLm.out (j + 1) nb' Hnb'.out
                simp only [Option.some.injEq, Addr.mk.injEq, and_true] at egnb
                obtain ⟨rfl, rfl⟩ := egnb
                rw [Nat.zero_add] at nb0
                rw [Nat.zero_add] at nb1
                rw [Nat.zero_add] at nb2
                rw [Nat.zero_add] at nb3
                rw [Nat.zero_add] at nb4
                refine wp_last ?_
                refine wp_region_T_drew (S := (fun _ => Hid True)) 17 (by kernel_rfl) ?_ (fun hHeld0 => ?_)
                · (try dsimp only); first | exact hide trivial
                refine takeT (v := ?_) 0 rfl (by kernel_rfl) (by kernel_rfl) (by kernel_rfl) (by kernel_rfl) (fun _ _ _ h => h) (Or.inl ⟨by rfl, ?_⟩) (by assumption) ?_; rotate_left
                · (intro w hSw; (try dsimp only at hSw); go_simp; try with_reducible rfl)
                try simp only [Act.put, zl, z0, z1]
                refine takeT (v := ?_) 1 rfl (by kernel_rfl) (by kernel_rfl) (by kernel_rfl) (by kernel_rfl) (fun _ _ _ h => h) (Or.inl ⟨by rfl, ?_⟩) (by assumption) ?_; rotate_left
                · (intro w hSw; (try dsimp only at hSw); go_simp; try with_reducible rfl)
                try simp only [Act.put, zl, z0, z1]
                refine takeT (v := ?_) 2 rfl (by kernel_rfl) (by kernel_rfl) (by kernel_rfl) (by kernel_rfl) (fun _ _ _ h => h) (Or.inl ⟨by rfl, ?_⟩) (by assumption) ?_; rotate_left
                · (intro w hSw; (try dsimp only at hSw); go_simp; try with_reducible rfl)
                try simp only [Act.put, zl, z0, z1]
                refine takeT (v := ?_) 3 rfl (by kernel_rfl) (by kernel_rfl) (by kernel_rfl) (by kernel_rfl) (fun _ _ _ h => h) (Or.inl ⟨by rfl, ?_⟩) (by assumption) ?_; rotate_left
                · (intro w hSw; (try dsimp only at hSw); go_simp; try with_reducible rfl)
                try simp only [Act.put, zl, z0, z1]
                refine takeT (v := ?_) 4 rfl (by kernel_rfl) (by kernel_rfl) (by kernel_rfl) (by kernel_rfl) (fun _ _ _ h => h) (Or.inl ⟨by rfl, ?_⟩) (by assumption) ?_; rotate_left
                · (intro w hSw; (try dsimp only at hSw); go_simp; try with_reducible rfl)
                try simp only [Act.put, zl, z0, z1]
                refine takeT (v := ?_) 5 rfl (by kernel_rfl) (by kernel_rfl) (by kernel_rfl) (by kernel_rfl) (fun _ _ _ h => h) (Or.inl ⟨by rfl, ?_⟩) (by assumption) ?_; rotate_left
                · (intro w hSw; (try dsimp only at hSw); go_simp; try with_reducible rfl)
                try simp only [Act.put, zl, z0, z1]
                refine takeT (v := ?_) 6 rfl (by kernel_rfl) (by kernel_rfl) (by kernel_rfl) (by kernel_rfl) (fun _ _ _ h => h) (Or.inl ⟨by rfl, ?_⟩) (by assumption) ?_; rotate_left
                · (intro w hSw; (try dsimp only at hSw); go_simp; try with_reducible rfl)
                try simp only [Act.put, zl, z0, z1]
                refine takeT (v := ?_) 7 rfl (by kernel_rfl) (by kernel_rfl) (by kernel_rfl) (by kernel_rfl) (fun _ _ _ h => h) (Or.inl ⟨by rfl, ?_⟩) (by assumption) ?_; rotate_left
                · (intro w hSw; (try dsimp only at hSw); go_simp; try with_reducible rfl)
                try simp only [Act.put, zl, z0, z1]
                refine takeT (v := ?_) 8 rfl (by kernel_rfl) (by kernel_rfl) (by kernel_rfl) (by kernel_rfl) (fun _ _ _ h => h) (Or.inl ⟨by rfl, ?_⟩) (by assumption) ?_; rotate_left
                · (intro w hSw; (try dsimp only at hSw); go_simp; try with_reducible rfl)
                try simp only [Act.put, zl, z0, z1]
                refine takeT (v := ?_) 10 rfl (by kernel_rfl) (by kernel_rfl) (by kernel_rfl) (by kernel_rfl) (fun _ _ _ h => h) (Or.inl ⟨by rfl, ?_⟩) (by assumption) ?_; rotate_left
                · (intro w hSw; (try dsimp only at hSw); go_simp; try with_reducible rfl)
                try simp only [Act.put, zl, z0, z1]
                refine takeT (v := ?_) 11 rfl (by kernel_rfl) (by kernel_rfl) (by kernel_rfl) (by kernel_rfl) (fun _ _ _ h => h) (Or.inl ⟨by rfl, ?_⟩) (by assumption) ?_; rotate_left
                · (intro w hSw; (try dsimp only at hSw); go_simp; try with_reducible rfl)
                try simp only [Act.put, zl, z0, z1]
                refine takeT (v := ?_) 12 rfl (by kernel_rfl) (by kernel_rfl) (by kernel_rfl) (by kernel_rfl) (fun _ _ _ h => h) (Or.inl ⟨by rfl, ?_⟩) (by assumption) ?_; rotate_left
                · (intro w hSw; (try dsimp only at hSw); go_simp; try with_reducible rfl)
                try simp only [Act.put, zl, z0, z1]
                refine wpAnyT_ready (rs := [9, 13]) (by kernel_rfl) (by simp) ?_
                refine consT 9 rfl (fun K hK => ?_) ?_
                go_simp
                refine hK.out _ _ ?_ (fun hHeld1 => ?_)
                · (try dsimp only); first | exact hHeld0 | (first | exact hide trivial)
                clear hK K hHeld0
                try simp only [Act.put, zl, z0, z1]
                refine wpAnyT_ready (rs := [13]) (by kernel_rfl) (by simp) ?_
                refine consT 13 rfl (fun K hK => ?_) AllReadyT.nil
                go_simp
                refine hK.out _ _ ?_ (fun hHeld2 => ?_)
                · (try dsimp only); first | exact hHeld1 | (first | exact hide trivial)
                clear hK K hHeld1
                try simp only [Act.put, zl, z0, z1]
                refine takeT (v := ?_) 14 rfl (by kernel_rfl) (by kernel_rfl) (by kernel_rfl) (by kernel_rfl) (fun _ _ _ h => h) (Or.inl ⟨by rfl, ?_⟩) (by assumption) ?_; rotate_left
                · (intro w hSw; (try dsimp only at hSw); go_simp; try with_reducible rfl)
                try simp only [Act.put, zl, z0, z1]
                refine wpAnyT_ready (rs := [15]) (by kernel_rfl) (by simp) ?_
                refine consT 15 rfl (fun K hK => ?_) AllReadyT.nil
                (refine step_store_mid rfl 40 (.tmp 86) (.tmp 81) rfl g ((j + 1) * 5) (nc na).toArray rfl rfl HTH1.out ntSize (nc_one na) ?_; refine cap_gen (K := K) (fun W1 hW1 => ?_); have HO5 := hide (show W1.ownsRow w1.heap.size 40 5 (.slice (some ⟨g, 0, none⟩) n c7) n (flatN (ms.set (j + 1) na)) by rw [hW1]; exact own_set5 (show wr.drew.ownsRow w1.heap.size 40 5 (.slice (some ⟨g, 0, none⟩) n c7) n (flatN ms) from HOW.out) HLM.out (j + 1) na); have HG5 := hide (show wr.drew.grownBy W1 (some g) by rw [hW1]; exact grown_set5 wr.drew g ((j + 1) * 5) na); clear hW1)
                refine hK.out _ _ ?_ (fun hHeld3 => ?_)
                · (try dsimp only); first | exact hide trivial
                clear hK K hHeld2
                try simp only [Act.put, zl, z0, z1]
                refine takeT (v := ?_) 16 rfl (by kernel_rfl) (by kernel_rfl) (by kernel_rfl) (by kernel_rfl) (fun _ _ _ h => h) (Or.inl ⟨by rfl, ?_⟩) (by assumption) ?_; rotate_left
                · (intro w hSw; (try dsimp only at hSw); go_simp; try with_reducible rfl)
                try simp only [Act.put, zl, z0, z1]
                refine wpAnyT_ready (rs := [17]) (by kernel_rfl) (by simp) ?_
                refine lastT rfl (fun K hK => ?_)
                (try dsimp only at hHeld3)
                (refine step_store_mid rfl 40 (.tmp 87) (.tmp 85) rfl g (j * 5) (nc nb').toArray rfl rfl (own_there HO5.out (by omega)) ntSize (nc_one nb') ?_; refine cap_gen (K := K) (fun W2 hW2 => ?_); have HO6 := hide (show W2.ownsRow w1.heap.size 40 5 (.slice (some ⟨g, 0, none⟩) n c7) n (flatN ((ms.set (j + 1) na).set j nb')) by rw [hW2]; exact own_set5 HO5.out (by rw [List.length_set]; exact HLM.out) j nb'); have HG6 := hide (show W1.grownBy W2 (some g) by rw [hW2]; exact grown_set5 W1 g (j * 5) nb'); clear hW2)
                refine hK.out _ _ ?_
                clear hK K
                try simp only [Act.put, zl, z0, z1]
                refine wpAnyT_done (by kernel_rfl) ?_ _
                rotate_left 1
                refine consT 13 rfl (fun K hK => ?_) AllReadyT.nil
                go_simp
                refine hK.out _ _ ?_ (fun hHeld1 => ?_)
                · (try dsimp only); first | exact hHeld0 | (first | exact hide trivial)
                clear hK K hHeld0
                try simp only [Act.put, zl, z0, z1]
                refine wpAnyT_ready (rs := [9]) (by kernel_rfl) (by simp) ?_
                refine consT 9 rfl (fun K hK => ?_) AllReadyT.nil
                go_simp
                refine hK.out _ _ ?_ (fun hHeld2 => ?_)
                · (try dsimp only); first | exact hHeld1 | (first | exact hide trivial)
                clear hK K hHeld1
                try simp only [Act.put, zl, z0, z1]
                refine takeT (v := ?_) 14 rfl (by kernel_rfl) (by kernel_rfl) (by kernel_rfl) (by kernel_rfl) (fun _ _ _ h => h) (Or.inl ⟨by rfl, ?_⟩) (by assumption) ?_; rotate_left
                · (intro w hSw; (try dsimp only at hSw); go_simp; try with_reducible rfl)
                try simp only [Act.put, zl, z0, z1]
                refine wpAnyT_ready (rs := [15]) (by kernel_rfl) (by simp) ?_
                refine consT 15 rfl (fun K hK => ?_) AllReadyT.nil
                (refine step_store_mid rfl 40 (.tmp 86) (.tmp 81) rfl g ((j + 1) * 5) (nc na).toArray rfl rfl HTH1.out ntSize (nc_one na) ?_; refine cap_gen (K := K) (fun W1 hW1 => ?_); have HO5 := hide (show W1.ownsRow w1.heap.size 40 5 (.slice (some ⟨g, 0, none⟩) n c7) n (flatN (ms.set (j + 1) na)) by rw [hW1]; exact own_set5 (show wr.drew.ownsRow w1.heap.size 40 5 (.slice (some ⟨g, 0, none⟩) n c7) n (flatN ms) from HOW.out) HLM.out (j + 1) na); have HG5 := hide (show wr.drew.grownBy W1 (some g) by rw [hW1]; exact grown_set5 wr.drew g ((j + 1) * 5) na); clear hW1)
                refine hK.out _ _ ?_ (fun hHeld3 => ?_)
                · (try dsimp only); first | exact hide trivial
                clear hK K hHeld2
                try simp only [Act.put, zl, z0, z1]
                refine takeT (v := ?_) 16 rfl (by kernel_rfl) (by kernel_rfl) (by kernel_rfl) (by kernel_rfl) (fun _ _ _ h => h) (Or.inl ⟨by rfl, ?_⟩) (by assumption) ?_; rotate_left
                · (intro w hSw; (try dsimp only at hSw); go_simp; try with_reducible rfl)
                try simp only [Act.put, zl, z0, z1]
                refine wpAnyT_ready (rs := [17]) (by kernel_rfl) (by simp) ?_
                refine lastT rfl (fun K hK => ?_)
                (try dsimp only at hHeld3)
                (refine step_store_mid rfl 40 (.tmp 87) (.tmp 85) rfl g (j * 5) (nc nb').toArray rfl rfl (own_there HO5.out (by omega)) ntSize (nc_one nb') ?_; refine cap_gen (K := K) (fun W2 hW2 => ?_); have HO6 := hide (show W2.ownsRow w1.heap.size 40 5 (.slice (some ⟨g, 0, none⟩) n c7) n (flatN ((ms.set (j + 1) na).set j nb')) by rw [hW2]; exact own_set5 HO5.out (by rw [List.length_set]; exact HLM.out) j nb'); have HG6 := hide (show W1.grownBy W2 (some g) by rw [hW2]; exact grown_set5 W1 g (j * 5) nb'); clear hW2)
                refine hK.out _ _ ?_
                clear hK K
                try simp only [Act.put, zl, z0, z1]
                refine wpAnyT_done (by kernel_rfl) ?_ _
                all_goals focus
                  (try dsimp only [Exit.inBlock, Exit.then])
                  clear na0 na1 na2 na3 na4 nb0 nb1 nb2 nb3 nb4
                  have HR5 := hide (HR4.out.drew.trans (grown_below (B := w1.heap.size) (gr_trans HG5.out HG6.out) HR4.out.drew.size (fun q hq => by have h1 := Option.some.inj hq; have h2 := (HOW.out.lt g rfl).1; omega)))
                  go_wp2_with fail
                  go_roundw
                  case rel => exact ⟨j, (ms.set (j + 1) na).set j nb', by omega, rfl, hide ((E.swap_perm Hna.out Hnb'.out).trans HPM.out), HO6, HR5⟩
                  case measure => simp [intOf]; omega
              · have hTJ' : J ≤ T := by omega
                clear hTJ
                go_wp2_with fail
                go_roundw
                case rel => exact ⟨i + 1, ms, by omega, by go_num, HPM, HOW, HR4⟩
                case measure => simp [intOf]; omega
        · have hib' : (nb : Int) ≤ (i : Int) := by omega
          have hi1 : (i : Int) < (n : Int) := by omega
          go_wp2_with fail
          go_meet
          case rel => exact ⟨rfl, ms, HPM, HOW, HR3⟩
      · have hin' : (n : Int) ≤ (i : Int) := by omega
        go_wp2_with fail
        go_meet
        case rel => exact ⟨rfl, ms, HPM, HOW, HR3⟩
  case rest =>
    obtain ⟨rfl, ms, HPM, HOW, HR3⟩ := hcut
    have HLM := hide (show ms.length = n by rw [HPM.out.length_eq]; exact HN.out)
    go_upto_if 90 with fail
    go_cut [7] from 88 (fun v7 wx => ∃ (A8 : Option Addr) (n8 c8 : Nat) (ms8 : List E.Nt), v7 = .slice A8 n8 c8 ∧ Hid (wx.ownsRow w1.heap.size 40 5 (.slice A8 n8 c8) n8 (flatN ms8)) ∧ Hid (ms8.length = n8 ∧ n8 ≤ 11) ∧ Hid (∀ y, y ∈ ms8 ↔ y ∈ l) ∧ Hid (Below w1.heap.size w1 wx))
    case first =>
      by_cases hn0 : n = 0
      · have hb1 : ¬ (0 : Int) < (n : Int) := by omega
        have HN0 := hide hn0
        clear hn0
        go_wp2_with fail
        go_meet
        case rel => exact ⟨A7, n, c7, ms, rfl, HOW, hide ⟨HLM.out, by have := HN0.out; omega⟩, hide (fun y => HPM.out.mem_iff), HR3⟩
      · have hb1 : (0 : Int) < (n : Int) := by omega
        obtain ⟨x0, hx0⟩ : ∃ q, l[0]? = some q := ⟨_, List.getElem?_eq_getElem (by have := HN.out; omega)⟩
        obtain ⟨bx, ox, hAx, _, d0, d1, d2, d3, d4⟩ := (RL1.out.below HR3.out) 0 x0 hx0
        subst hAx
        rw [Nat.zero_mul, Nat.add_zero] at d0 d1 d2 d3 d4
        go_wp2_with (at_builtin; refine wpList_app_N rfl (.tmp 91) (.tmp 95) rfl w1.heap.size (.slice A7 n c7) ms n rfl (HOW.out.kept (World.grownBy_alloc _ _ none) (Classical.em _)) HLM.out wc.heap.size x0 rfl (World.alloc_heap_new _ _) (by omega) (by have := HR3.out.size; simp; omega) ?_; intro A8 c8 w4 hown hgrow _; have HO4 := hide hown; have HB4 := hide ((zbA HR3.out HR3.out.size _).trans (grown_below (B := w1.heap.size) hgrow (by have := HR3.out.size; simp; omega) (fun g hg => ((HOW.out.kept (World.grownBy_alloc wc (.cells (ntCells x0) 40) none) (Classical.em _)).lt g hg).1))); clear hown hgrow)
        go_meet
        case rel => exact ⟨A8, n + 1, c8, ms ++ [x0], rfl, HO4, hide ⟨by rw [List.length_append, HLM.out]; rfl, by omega⟩, hide (fun y => by
          rw [List.mem_append, HPM.out.mem_iff]
          simp only [List.mem_singleton]
          exact ⟨fun h => h.elim id (fun e => e ▸ List.mem_of_getElem? hx0), .inl⟩), HB4⟩
    case rest =>
      obtain ⟨A8, n8, c8, ms8, rfl, HO8, HL8, HM8, HR5⟩ := hcut
      clear HPM HOW HR3 HLM
      obtain ⟨w5, hw5⟩ : ∃ q, wc = q := ⟨_, rfl⟩
      rw [hw5] at HO8 HR5 ⊢
      clear hw5
      have RM5 := hide (owns_RdN HO8.out HL8.out.1)
      have HA5 := hide ((HR5.out.block _ (blk_lt HA1.out)).trans HA1.out)
      have HF5 := hide ((HR5.out.block _ (blk_lt HF1.out)).trans HF1.out)
      have RL5 := hide ((RL1.out.below HR5.out).mono HR5.out.size)
      have HB5 := hide (zbT HB1.out HR5.out HB1.out.size)
      go_wp2_with fail
      go_loopw [10, 11] (fun bf i wr => ∃ (i' : Nat) (A10 : Option Addr) (m c10 : Nat) (bs : List E.Nt), i' ≤ n8 ∧ bf = .slice A10 m c10 ∧ i = .int .i64 i' ∧ Hid (bs.length = m ∧ m ≤ i') ∧ Hid (bs = (ms8.take i').filter (fun x => decide (x.hour ≤ H))) ∧ Hid (wr.ownsRow w5.heap.size 40 5 (.slice A10 m c10) m (flatN bs)) ∧ Hid (Below w5.heap.size w5 wr)) (fun _ i _ => n8 - (intOf i).toNat)
      case atStart => exact ⟨0, none, 0, 0, [], by omega, rfl, rfl, hide ⟨rfl, Nat.le_refl _⟩, hide rfl, hide (ownsN_nil _ _), hide (Below.refl _ _)⟩
      case round =>
        obtain ⟨i, A10, m, c10, bs, hi, rfl, rfl, HBL, HBS, HOB0, HR6⟩ := hrel
        have hn8 := HL8.out.2
        by_cases hin : i < n8
        · obtain ⟨x, hx⟩ : ∃ q, ms8[i]? = some q := ⟨_, List.getElem?_eq_getElem (by have := HL8.out.1; omega)⟩
          have HX := hide hx
          have htk : ms8.take (i + 1) = ms8.take i ++ [x] := by rw [List.take_add_one, hx]; rfl
          have HTK := hide htk
          have hi1 : (i : Int) < (n8 : Int) := by omega
          have hi0 : (0 : Int) ≤ (i : Int) := by omega
          have hm11 : m ≤ 11 := by have := HBL.out.2; omega
          clear hx htk
          obtain ⟨b, hb⟩ : ∃ b, decide (x.hour ≤ H) = b := ⟨_, rfl⟩
          have Pc := hide hb
          clear hb
          go_upto_region 17 with fail
          obtain ⟨V, hV⟩ : ∃ V, (wr).drew = V := ⟨_, rfl⟩
          have HV5 := hide (show Below w5.heap.size w5 V by rw [← hV]; exact zbD HR6.out)
          have HOB := hide (show V.ownsRow w5.heap.size 40 5 (.slice A10 m c10) m (flatN bs) by rw [← hV]; exact HOB0.out)
          have HVA := hide ((HV5.out.block _ (blk_lt HA5.out)).trans HA5.out)
          have v50 : V.cell? ⟨gx, 0, none⟩ = some (.int .i64 H) := (blk_cell HVA.out 0).trans rfl
          have lv5 := blk_lt HVA.out
          obtain ⟨bx, ox, hAx, _, u0, u1, u2, u3, u4⟩ := (RM5.out.below HV5.out) i x HX.out
          subst hAx
          refine wp_region_still_lit (by kernel_rfl) (by kernel_rfl) ?_
          change wpStill _ _ (wr).drew (fun a' => Exit.then _ _ Exit.normal a' (wr).drew) _ _
          rw [hV]
          clear hV
          with_reducible refine stTake (v := ?_) (by kernel_rfl) ?_ ?_; rotate_left
          · (go_simp; (try with_reducible rfl))
          (try simp only [Act.put, zl, List.set_cons_zero, List.set_cons_succ])
          with_reducible refine stTake (v := ?_) (by kernel_rfl) ?_ ?_; rotate_left
          · (go_simp; (try with_reducible rfl))
          (try simp only [Act.put, zl, List.set_cons_zero, List.set_cons_succ])
          with_reducible refine stTake (v := ?_) (by kernel_rfl) ?_ ?_; rotate_left
          · (go_simp; (try with_reducible rfl))
          (try simp only [Act.put, zl, List.set_cons_zero, List.set_cons_succ])
          with_reducible refine stTake (v := ?_) (by kernel_rfl) ?_ ?_; rotate_left
          · (go_simp; (try with_reducible rfl))
          (try simp only [Act.put, zl, List.set_cons_zero, List.set_cons_succ])
          with_reducible refine stTake (v := ?_) (by kernel_rfl) ?_ ?_; rotate_left
          · (go_simp; (try with_reducible rfl))
          (try simp only [Act.put, zl, List.set_cons_zero, List.set_cons_succ])
          with_reducible refine stTake (v := ?_) (by kernel_rfl) ?_ ?_; rotate_left
          · (go_simp; (try with_reducible rfl))
          (try simp only [Act.put, zl, List.set_cons_zero, List.set_cons_succ])
          with_reducible refine stTake (v := ?_) (by kernel_rfl) ?_ ?_; rotate_left
          · (go_simp; (try with_reducible rfl))
          (try simp only [Act.put, zl, List.set_cons_zero, List.set_cons_succ])
          with_reducible refine stTake (v := ?_) (by kernel_rfl) ?_ ?_; rotate_left
          · (go_simp; (try simp only [Pc.out]); (try with_reducible rfl))
          (try simp only [Act.put, zl, List.set_cons_zero, List.set_cons_succ])
          refine wpStill_nil ?_
          clear v50 lv5
          cases b
          · as_aux_lemma =>
              go_wp2_with fail
              go_roundw
              case rel => exact ⟨i + 1, A10, m, c10, bs, by omega, rfl, by go_num, hide ⟨HBL.out.1, by have := HBL.out.2; omega⟩, hide (by rw [HTK.out, List.filter_append, ← HBS.out, List.filter_cons_of_neg (by rw [Pc.out]; decide)]; simp), HOB, HV5⟩
              case measure => simp [intOf]; omega
          · go_wp2_with (at_builtin; refine wpList_app_N rfl (.tmp 111) (.tmp 116) rfl w5.heap.size (.slice A10 m c10) bs m rfl ((owns_below HOB.out (show Below V.heap.size V V from Below.refl _ _)).kept (World.grownBy_alloc _ _ none) (Classical.em _)) HBL.out.1 V.heap.size x rfl (World.alloc_heap_new _ _) (by omega) (by have := HV5.out.size; simp; omega) ?_; intro A11 c11 w7 hown hgrow _; have HO7 := hide hown; have HB7 := hide ((zbA HV5.out HV5.out.size _).trans (grown_below (B := w5.heap.size) hgrow (by have := HV5.out.size; simp; omega) (fun g hg => ((HOB.out.kept (World.grownBy_alloc V (.cells (ntCells x) 40) none) (Classical.em _)).lt g hg).1))); clear hown hgrow)
            go_roundw
            case rel => exact ⟨i + 1, A11, m + 1, c11, bs ++ [x], by omega, rfl, by go_num, hide ⟨by rw [List.length_append, HBL.out.1]; rfl, by have := HBL.out.2; omega⟩, hide (by rw [HTK.out, List.filter_append, ← HBS.out, List.filter_cons_of_pos (by rw [Pc.out])]; rfl), HO7, HB7⟩
            case measure => simp [intOf]; omega
        · have hine : i = n8 := by omega
          subst hine
          clear hi hin
          have HBS8 := hide (show bs = ms8.filter (fun x => decide (x.hour ≤ H)) by rw [HBS.out, List.take_of_length_le (by have := HL8.out.1; omega)])
          have RB6 := hide (owns_RdN HOB0.out HBL.out.1)
          have HA6 := hide ((HR6.out.block _ (blk_lt HA5.out)).trans HA5.out)
          have HF6 := hide ((HR6.out.block _ (blk_lt HF5.out)).trans HF5.out)
          have RL6 := hide ((RL5.out.below HR6.out).mono HR6.out.size)
          have RM6 := hide ((RM5.out.below HR6.out).mono HR6.out.size)
          have HB6 := hide (zbT HB5.out HR6.out HB5.out.size)
          obtain ⟨w6, hw6⟩ : ∃ q, wr = q := ⟨_, rfl⟩
          rw [hw6] at RB6 HA6 HF6 RL6 RM6 HB6 ⊢
          clear hw6 HOB0 HR6
          have hL := 0
          have x60 : w6.cell? ⟨w.heap.size, 0, none⟩ = some (.int .i64 f.places) := (blk_cell HF6.out 0).trans rfl
          have x61 : w6.cell? ⟨w.heap.size, 1, none⟩ = some (.int .i64 f.wilds) := (blk_cell HF6.out 1).trans rfl
          have x62 : w6.cell? ⟨w.heap.size, 2, none⟩ = some (.int .i64 f.guards) := (blk_cell HF6.out 2).trans rfl
          have x63 : w6.cell? ⟨w.heap.size, 3, none⟩ = some (.int .i64 f.close) := (blk_cell HF6.out 3).trans rfl
          have x64 : w6.cell? ⟨w.heap.size, 4, none⟩ = some (.int .i64 f.freeze) := (blk_cell HF6.out 4).trans rfl
          have y60 : w6.cell? ⟨gx, 0, none⟩ = some (.int .i64 H) := (blk_cell HA6.out 0).trans rfl
          have y61 : w6.cell? ⟨gx, 1, none⟩ = some (.slice Ab nb cb) := (blk_cell HA6.out 1).trans rfl
          have l60 := blk_lt HF6.out
          have l61 := blk_lt HA6.out
          have HDL := HD
          have HS2 := hide (E.order_same (ms := ms8) HD.out HCK.out HI1'.out (by have h1 := HL8.out; omega) HM8.out)
          have HS3 := hide (E.order_before (ms := bs) HD.out HCK.out HI1'.out (by have h1 := HL8.out; have h2 := HBL.out; omega) (fun y => by rw [HBS8.out, List.mem_filter, HM8.out]))
          have HQ1 := fun W hr => list_ok4 f A n c l H d M C O P W HN.out hr HID.out HM.out HD.out (E.err_zero (p := 0) HCK.out HI1'.out (by omega)) HEM.out HEC.out HEO.out HEP.out
          have HQ2 := fun W hr => list_ok4 f A8 i c8 ms8 H d M C O P W HL8.out.1 hr (fun x hx => HID.out x ((HM8.out x).1 hx)) (by have := HL8.out.2; omega) HS2.out.1 HS2.out.2 HEM.out HEC.out HEO.out HEP.out
          have HQ3 := fun W hr => list_ok4 f A10 m c10 bs H _ M C O P W HBL.out.1 hr (fun x hx => HID.out x ((HM8.out x).1 (by rw [HBS8.out] at hx; exact (List.mem_filter.1 hx).1))) (by have h1 := HL8.out.2; have h2 := HBL.out.2; omega) HS3.out.1 HS3.out.2 (by rw [E.atL_before]; exact HEM.out) (by rw [E.atL_before]; exact HEC.out) (by rw [E.atL_before]; exact HEO.out) (by rw [E.atL_before]; exact HEP.out)
          have HP1 := hide (Below.refl w6.heap.size w6)
          clear hL
          go_upto_region 22 with (first | (go_at_call 14; with_reducible refine (HQ1 _ ?hr).mono ?_; (case hr => exact ((RL6.out.below HP1.out).mono HP1.out.size)); rintro e w7 ⟨a11, k11, a12, k12, a13, k13, rfl, hm1, hm2, hm3, -, hb⟩; have HM11 := hide hm1; have HM12 := hide hm2; have HM13 := hide hm3; have HQB1 := hide (zbT HP1.out hb HP1.out.size); have HZ1 := hide hb; have HP2 := hide (show Below w6.heap.size w6 (w7.alloc (.cells #[.slice a11 M.length k11, .slice a12 C.length k12, .slice a13 O.length k13, .int .i64 P] 33)) from zbA HQB1.out HQB1.out.size _); have HFq := hide ((HQB1.out.block _ (blk_lt HF6.out)).trans HF6.out); have HAq := hide ((HQB1.out.block _ (blk_lt HA6.out)).trans HA6.out); have xq10 : w7.cell? ⟨w.heap.size, 0, none⟩ = some (.int .i64 f.places) := (blk_cell HFq.out 0).trans rfl; have xq11 : w7.cell? ⟨w.heap.size, 1, none⟩ = some (.int .i64 f.wilds) := (blk_cell HFq.out 1).trans rfl; have xq12 : w7.cell? ⟨w.heap.size, 2, none⟩ = some (.int .i64 f.guards) := (blk_cell HFq.out 2).trans rfl; have xq13 : w7.cell? ⟨w.heap.size, 3, none⟩ = some (.int .i64 f.close) := (blk_cell HFq.out 3).trans rfl; have xq14 : w7.cell? ⟨w.heap.size, 4, none⟩ = some (.int .i64 f.freeze) := (blk_cell HFq.out 4).trans rfl; have yq10 : w7.cell? ⟨gx, 0, none⟩ = some (.int .i64 H) := (blk_cell HAq.out 0).trans rfl; have yq11 : w7.cell? ⟨gx, 1, none⟩ = some (.slice Ab nb cb) := (blk_cell HAq.out 1).trans rfl; have lq10 := blk_lt HFq.out; have lq11 := blk_lt HAq.out; clear HFq HAq hm1 hm2 hm3 hb) | (go_at_call 14; with_reducible refine (HQ2 _ ?hr).mono ?_; (case hr => exact ((RM6.out.below HP2.out).mono HP2.out.size)); rintro e w8 ⟨a21, k21, a22, k22, a23, k23, rfl, hm1, hm2, hm3, -, hb⟩; have HM21 := hide hm1; have HM22 := hide hm2; have HM23 := hide hm3; have HQB2 := hide (zbT HP2.out hb HP2.out.size); have HZ2 := hide hb; have HP3 := hide (show Below w6.heap.size w6 (w8.alloc (.cells #[.slice a21 M.length k21, .slice a22 C.length k22, .slice a23 O.length k23, .int .i64 P] 33)) from zbA HQB2.out HQB2.out.size _); have HFq := hide ((HQB2.out.block _ (blk_lt HF6.out)).trans HF6.out); have HAq := hide ((HQB2.out.block _ (blk_lt HA6.out)).trans HA6.out); have xq20 : w8.cell? ⟨w.heap.size, 0, none⟩ = some (.int .i64 f.places) := (blk_cell HFq.out 0).trans rfl; have xq21 : w8.cell? ⟨w.heap.size, 1, none⟩ = some (.int .i64 f.wilds) := (blk_cell HFq.out 1).trans rfl; have xq22 : w8.cell? ⟨w.heap.size, 2, none⟩ = some (.int .i64 f.guards) := (blk_cell HFq.out 2).trans rfl; have xq23 : w8.cell? ⟨w.heap.size, 3, none⟩ = some (.int .i64 f.close) := (blk_cell HFq.out 3).trans rfl; have xq24 : w8.cell? ⟨w.heap.size, 4, none⟩ = some (.int .i64 f.freeze) := (blk_cell HFq.out 4).trans rfl; have yq20 : w8.cell? ⟨gx, 0, none⟩ = some (.int .i64 H) := (blk_cell HAq.out 0).trans rfl; have yq21 : w8.cell? ⟨gx, 1, none⟩ = some (.slice Ab nb cb) := (blk_cell HAq.out 1).trans rfl; have lq20 := blk_lt HFq.out; have lq21 := blk_lt HAq.out; clear HFq HAq hm1 hm2 hm3 hb) | (go_at_call 14; with_reducible refine (HQ3 _ ?hr).mono ?_; (case hr => exact ((RB6.out.below HP3.out).mono HP3.out.size)); rintro e w9 ⟨a31, k31, a32, k32, a33, k33, rfl, hm1, hm2, hm3, -, hb⟩; have HM31 := hide hm1; have HM32 := hide hm2; have HM33 := hide hm3; have HQB3 := hide (zbT HP3.out hb HP3.out.size); have HZ3 := hide hb; have HP4 := hide (show Below w6.heap.size w6 (w9.alloc (.cells #[.slice a31 M.length k31, .slice a32 C.length k32, .slice a33 O.length k33, .int .i64 P] 33)) from zbA HQB3.out HQB3.out.size _); have HFq := hide ((HQB3.out.block _ (blk_lt HF6.out)).trans HF6.out); have HAq := hide ((HQB3.out.block _ (blk_lt HA6.out)).trans HA6.out); have xq30 : w9.cell? ⟨w.heap.size, 0, none⟩ = some (.int .i64 f.places) := (blk_cell HFq.out 0).trans rfl; have xq31 : w9.cell? ⟨w.heap.size, 1, none⟩ = some (.int .i64 f.wilds) := (blk_cell HFq.out 1).trans rfl; have xq32 : w9.cell? ⟨w.heap.size, 2, none⟩ = some (.int .i64 f.guards) := (blk_cell HFq.out 2).trans rfl; have xq33 : w9.cell? ⟨w.heap.size, 3, none⟩ = some (.int .i64 f.close) := (blk_cell HFq.out 3).trans rfl; have xq34 : w9.cell? ⟨w.heap.size, 4, none⟩ = some (.int .i64 f.freeze) := (blk_cell HFq.out 4).trans rfl; have yq30 : w9.cell? ⟨gx, 0, none⟩ = some (.int .i64 H) := (blk_cell HAq.out 0).trans rfl; have yq31 : w9.cell? ⟨gx, 1, none⟩ = some (.slice Ab nb cb) := (blk_cell HAq.out 1).trans rfl; have lq30 := blk_lt HFq.out; have lq31 := blk_lt HAq.out; clear HFq HAq hm1 hm2 hm3 hb))
          obtain ⟨w10, hw10⟩ : ∃ q, w9.alloc (.cells #[.slice a31 M.length k31, .slice a32 C.length k32, .slice a33 O.length k33, .int .i64 P] 33) = q := ⟨_, rfl⟩
          rw [hw10]
          have HBe := hide (show Below w6.heap.size w6 w10 by rw [← hw10]; exact HP4.out)
          have hE3 : w10.heap[w9.heap.size]? = some (.cells #[.slice a31 M.length k31, .slice a32 C.length k32, .slice a33 O.length k33, .int .i64 P] 33 (0, 0)) := by rw [← hw10]; exact World.alloc_heap_new _ _
          have h9e : Below w9.heap.size w9 w10 := by rw [← hw10]; exact zbA (zbR _ _) (Nat.le_refl _) _
          have h8e : Below (w8.alloc (.cells #[.slice a21 M.length k21, .slice a22 C.length k22, .slice a23 O.length k23, .int .i64 P] 33)).heap.size (w8.alloc (.cells #[.slice a21 M.length k21, .slice a22 C.length k22, .slice a23 O.length k23, .int .i64 P] 33)) w10 := zbT HZ3.out h9e HZ3.out.size
          have hE2 : w10.heap[w8.heap.size]? = some (.cells #[.slice a21 M.length k21, .slice a22 C.length k22, .slice a23 O.length k23, .int .i64 P] 33 (0, 0)) := (h8e.block _ (by simp)).trans (World.alloc_heap_new _ _)
          have h8e' : Below w8.heap.size w8 w10 := (zbA (zbR _ _) (Nat.le_refl _) _).trans (h8e.mono (by simp))
          have h7e : Below (w7.alloc (.cells #[.slice a11 M.length k11, .slice a12 C.length k12, .slice a13 O.length k13, .int .i64 P] 33)).heap.size (w7.alloc (.cells #[.slice a11 M.length k11, .slice a12 C.length k12, .slice a13 O.length k13, .int .i64 P] 33)) w10 := zbT HZ2.out h8e' HZ2.out.size
          have hE1 : w10.heap[w7.heap.size]? = some (.cells #[.slice a11 M.length k11, .slice a12 C.length k12, .slice a13 O.length k13, .int .i64 P] 33 (0, 0)) := (h7e.block _ (by simp)).trans (World.alloc_heap_new _ _)
          have h7e' : Below w7.heap.size w7 w10 := (zbA (zbR _ _) (Nat.le_refl _) _).trans (h7e.mono (by simp))
          have R11 := hide ((HM11.out.below h7e').mono h7e'.size)
          have R12 := hide ((HM12.out.below h7e').mono h7e'.size)
          have R13 := hide ((HM13.out.below h7e').mono h7e'.size)
          have R21 := hide ((HM21.out.below h8e').mono h8e'.size)
          have R22 := hide ((HM22.out.below h8e').mono h8e'.size)
          have R23 := hide ((HM23.out.below h8e').mono h8e'.size)
          have R31 := hide ((HM31.out.below h9e).mono h9e.size)
          have R32 := hide ((HM32.out.below h9e).mono h9e.size)
          have R33 := hide ((HM33.out.below h9e).mono h9e.size)
          have HE1 := hide hE1
          have HE2 := hide hE2
          have HE3 := hide hE3
          clear hw10 h9e h8e h8e' h7e h7e' hE1 hE2 hE3
          clear HQ1 HQ2 HQ3
          (try clear x60 x61 x62 x63 x64 y60 y61 l60 l61)
          (try clear xq10 xq11 xq12 xq13 xq14 yq10 yq11 lq10 lq11)
          (try clear xq20 xq21 xq22 xq23 xq24 yq20 yq21 lq20 lq21)
          (try clear xq30 xq31 xq32 xq33 xq34 yq30 yq31 lq30 lq31)
          obtain ⟨t1, ht1⟩ : ∃ q, w7.heap.size = q := ⟨_, rfl⟩
          obtain ⟨t2, ht2⟩ : ∃ q, w8.heap.size = q := ⟨_, rfl⟩
          obtain ⟨t3, ht3⟩ : ∃ q, w9.heap.size = q := ⟨_, rfl⟩
          rw [ht1] at HE1 ⊢
          rw [ht2] at HE2 ⊢
          rw [ht3] at HE3 ⊢
          clear ht1 ht2 ht3
          have e10 : w10.cell? ⟨t1, 0, none⟩ = some (.slice a11 M.length k11) := (blk_cell HE1.out 0).trans rfl
          have e11 : w10.cell? ⟨t1, 1, none⟩ = some (.slice a12 C.length k12) := (blk_cell HE1.out 1).trans rfl
          have e12 : w10.cell? ⟨t1, 2, none⟩ = some (.slice a13 O.length k13) := (blk_cell HE1.out 2).trans rfl
          have e13 : w10.cell? ⟨t1, 3, none⟩ = some (.int .i64 P) := (blk_cell HE1.out 3).trans rfl
          have le1 := blk_lt HE1.out
          have e20 : w10.cell? ⟨t2, 0, none⟩ = some (.slice a21 M.length k21) := (blk_cell HE2.out 0).trans rfl
          have e21 : w10.cell? ⟨t2, 1, none⟩ = some (.slice a22 C.length k22) := (blk_cell HE2.out 1).trans rfl
          have e22 : w10.cell? ⟨t2, 2, none⟩ = some (.slice a23 O.length k23) := (blk_cell HE2.out 2).trans rfl
          have e23 : w10.cell? ⟨t2, 3, none⟩ = some (.int .i64 P) := (blk_cell HE2.out 3).trans rfl
          have le2 := blk_lt HE2.out
          have SM2 := fun (W : World) (hb : Below w10.heap.size w10 W) => same_any a11 a12 a13 a21 a22 a23 k11 k12 k13 k21 k22 k23 M C O P W HLN.out.1 HLN.out.2.1 HLN.out.2.2 ((R11.out.below hb).mono hb.size) ((R12.out.below hb).mono hb.size) ((R13.out.below hb).mono hb.size) ((R21.out.below hb).mono hb.size) ((R22.out.below hb).mono hb.size) ((R23.out.below hb).mono hb.size)
          have SM3 := fun (W : World) (hb : Below w10.heap.size w10 W) => same_any a11 a12 a13 a31 a32 a33 k11 k12 k13 k31 k32 k33 M C O P W HLN.out.1 HLN.out.2.1 HLN.out.2.2 ((R11.out.below hb).mono hb.size) ((R12.out.below hb).mono hb.size) ((R13.out.below hb).mono hb.size) ((R31.out.below hb).mono hb.size) ((R32.out.below hb).mono hb.size) ((R33.out.below hb).mono hb.size)
          go_wp2_with (first | (go_at_call 18; with_reducible refine (SM2 _ ?hb).mono ?_; (case hb => exact Below.refl _ _); rintro e w11 ⟨rfl, hb11⟩; have HB11 := hide hb11; clear hb11; have HE11 := hide ((HB11.out.block _ (blk_lt HE1.out)).trans HE1.out); have HE13 := hide ((HB11.out.block _ (blk_lt HE3.out)).trans HE3.out); have f10 : w11.cell? ⟨t1, 0, none⟩ = some (.slice a11 M.length k11) := (blk_cell HE11.out 0).trans rfl; have f11 : w11.cell? ⟨t1, 1, none⟩ = some (.slice a12 C.length k12) := (blk_cell HE11.out 1).trans rfl; have f12 : w11.cell? ⟨t1, 2, none⟩ = some (.slice a13 O.length k13) := (blk_cell HE11.out 2).trans rfl; have f13 : w11.cell? ⟨t1, 3, none⟩ = some (.int .i64 P) := (blk_cell HE11.out 3).trans rfl; have lf1 := blk_lt HE11.out; have f30 : w11.cell? ⟨t3, 0, none⟩ = some (.slice a31 M.length k31) := (blk_cell HE13.out 0).trans rfl; have f31 : w11.cell? ⟨t3, 1, none⟩ = some (.slice a32 C.length k32) := (blk_cell HE13.out 1).trans rfl; have f32 : w11.cell? ⟨t3, 2, none⟩ = some (.slice a33 O.length k33) := (blk_cell HE13.out 2).trans rfl; have f33 : w11.cell? ⟨t3, 3, none⟩ = some (.int .i64 P) := (blk_cell HE13.out 3).trans rfl; have lf3 := blk_lt HE13.out) | (go_at_call 18; with_reducible refine (SM3 w11 ?hb).mono ?_; (case hb => exact HB11.out); rintro e w12 ⟨rfl, hb12⟩; have HB12 := hide (zbT HB6.out (zbT HBe.out (zbT HB11.out hb12 HB11.out.size) HBe.out.size) HB6.out.size); clear hb12) | (go_at_call 11; refine (works_any _).mono ?_; rintro e w9 ⟨rfl, hb9⟩; have HB9 := hide (zbT HB12.out hb9 HB12.out.size); clear hb9))
          go_ret
          exact ⟨rfl, HB0.out.trans (HB9.out.mono HB0.out.size)⟩
set_option maxHeartbeats 6400000 in
set_option maxRecDepth 100000 in
theorem orderLaw_any (f : E.Fd) (A : Option Addr) (n c : Nat) (l : List E.Nt) (H : Int) (Ab : Option Addr) (nb cb : Nat) (bys : List Int) (w : World) (hn : l.length = n) (hr : RdN w w.heap.size A l) (hid : ∀ x ∈ l, (Lit.int .i64 x.id).wf = true) (hm : n ≤ 1000000) (hcap : A = none → c = 0) (hnb : bys.length = nb) (hrb : RdI w w.heap.size Ab bys) :
    Calls Try.prog 4 #[.agg #[.int .i64 f.places, .int .i64 f.wilds, .int .i64 f.guards, .int .i64 f.close, .int .i64 f.freeze], .slice A n c, .agg #[.int .i64 H, .slice Ab nb cb]] w fun e w' => e = .returned (.bool true) ∧ Below w.heap.size w w' := by
  cases hrd : E.readyB f l n
  · exact orderLaw_no1 f A n c l H Ab nb cb bys w hn hr hid hm hcap hnb hrb hrd
  · by_cases h10 : 10 < n
    · exact orderLaw_no2 f A n c l H Ab nb cb bys w hn hr hid hm hcap hnb hrb hrd h10
    · cases hi1 : E.within H 0 9999
      · exact orderLaw_no3 f A n c l H Ab nb cb bys w hn hr hid hm hcap hnb hrb hrd h10 hi1
      · by_cases h20 : 20 < nb
        · exact orderLaw_no4 f A n c l H Ab nb cb bys w hn hr hid hm hcap hnb hrb hrd h10 hi1 h20
        · exact orderLaw_main f A n c l H Ab nb cb bys w hn hr hid hm hcap hnb hrb hrd h10 hi1 h20
end Go.Proofs.Ytklomhmdiflfaaa

namespace Go.Proofs.Ytklomhmdiflfaaa
open Go.ChangeShapes Go.WideShapes Go.ChangeAt Go.RowKit Go.Deep Go.Joins
attribute [local go_sem ↓] Go.wp_at_zero Go.wp_at_succ

section
variable {H : Type} {enc : TypeId × Value → H} {w : World} {base : Nat} {held : Bool}
theorem intCells : Try.prog.cellsOf 3 = 1 := by kernel_rfl
theorem open_intsC {v : Value} {x : DataW H × List MemPlace} {fuel : Nat} (hf : DataW.trod enc Try.prog w base (fun _ => true) held fuel 31 [v] = some x) :
    ∃ (A : Option Addr) (n c : Nat) (xs : List Int), v = .slice A n c ∧ n ≤ c ∧ c ≤ maxLen ∧ xs.length = n ∧ RdI w w.heap.size A xs ∧ (∀ x ∈ xs, (Lit.int .i64 x).wf = true) ∧ (A = none → c = 0) := by
  rcases Go.ChangeShapes.open_ints Try.underlying31 Try.underlying3 intCells hf with ⟨hcs, _⟩ | ⟨a, len, cap, zs, hcs, _, hle, hmax, hall, _, hcell, hwf⟩
  · simp at hcs
    subst hcs
    exact ⟨none, 0, 0, [], rfl, Nat.le_refl _, Nat.zero_le _, rfl, RdI.nil _ _ _, (fun x hx => by cases hx), fun _ => rfl⟩
  · simp at hcs
    subst hcs
    simp only [if_true] at hall
    refine ⟨some a, len, cap, zs.take len, rfl, hle, hmax, by rw [List.length_take]; omega, ?_, (fun x hx => hwf x (List.mem_of_mem_take hx)), fun e => by cases e⟩
    intro k x hk
    have hkn : k < len := by
      rcases Nat.lt_or_ge k len with hl | hl
      · exact hl
      · rw [List.getElem?_eq_none (by rw [List.length_take]; omega)] at hk; cases hk
    rw [List.getElem?_take_of_lt hkn] at hk
    have hc := hcell k (by omega)
    rw [List.getD_eq_getElem?_getD, hk] at hc
    obtain ⟨b, o, rfl, hb'⟩ := spot_first (hcell 0 (by omega))
    exact ⟨b, o, rfl, hb', by rw [add_plain] at hc; exact hc⟩

theorem movesOne : (match Try.prog.underlying 43 with | some (.struct fs) => oneCellFields Try.prog fs && Try.prog.cellsOf 43 == fs.size | _ => false) = true := by kernel_rfl
set_option maxRecDepth 100000 in
theorem open_moves {r : Reach} {b0 : Nat} {v : Value} {d : DataW H} {p : List MemPlace} (hv : Value.okWide Try.prog w r b0 43 v) (h : DataW.Trod enc Try.prog w base (fun _ => true) held 43 v d p) :
    ∃ (hour : Int) (A : Option Addr) (n c : Nat) (xs : List Int), v = .agg #[.int .i64 hour, .slice A n c] ∧ xs.length = n ∧ RdI w w.heap.size A xs := by
  obtain ⟨cs, rfl, hl, hf⟩ := open_fields Try.underlying43 movesOne hv h
  match cs, hl with
  | [c0, c1], _ =>
    obtain ⟨_, _, _, e0, h0⟩ := hf 0 _ rfl
    obtain ⟨_, _, _, e1, h1⟩ := hf 1 _ rfl
    simp only [List.getElem?_cons_zero, List.getElem?_cons_succ, Option.some.injEq] at e0 e1
    subst e0 e1
    obtain ⟨hour, k0, _, hw0⟩ := DataW.trod_int Try.underlying3 h0
    obtain ⟨A, n, c, xs, rfl, h2, h3, h4, h5, h6, h7⟩ := open_intsC h1
    simp at k0
    subst k0
    exact ⟨hour, A, n, c, xs, rfl, h4, h5⟩
end

set_option maxHeartbeats 1600000 in
set_option maxRecDepth 100000 in
theorem orderLaw_long (f : E.Fd) (A : Option Addr) (n c : Nat) (H : Int) (Ab : Option Addr) (nb cb : Nat) (w : World) (hn : 100 < n) :
    Calls Try.prog 4 #[.agg #[.int .i64 f.places, .int .i64 f.wilds, .int .i64 f.guards, .int .i64 f.close, .int .i64 f.freeze], .slice A n c, .agg #[.int .i64 H, .slice Ab nb cb]] w fun e w' => e = .returned (.bool true) ∧ Below w.heap.size w w' := by
  have HR := fun W => hide (ready_long f A n c W hn)
  clear hn
  go_enter Try.func4, Try.ntmps4
  go_wp2_with (first | (go_at_call 19; refine (HR _).out.mono ?_; rintro e w1 ⟨rfl, hb1⟩; have HB1 := hide (zbT (show Below w.heap.size w _ by (repeat' first | exact zbR _ _ | assumption | refine zbD ?_ | refine zbA ?_ ?_ _ | refine zbS ?_ ?_ _ | refine zbT ?_ (by assumption) ?_ | (simp; done) | (simp; omega) | omega)) hb1 (by simp; omega)); clear hb1) | (go_at_call 11; refine (works_any _).mono ?_; rintro e w9 ⟨rfl, hb9⟩; have HB9 := hide (zbT HB1.out hb9 HB1.out.size); clear hb9))
  go_ret
  exact ⟨rfl, HB9.out⟩
theorem orderLaw_all (f : E.Fd) (A : Option Addr) (n c : Nat) (l : List E.Nt) (H : Int) (Ab : Option Addr) (nb cb : Nat) (bys : List Int) (w : World) (hn : l.length = n) (hr : RdN w w.heap.size A l) (hid : ∀ x ∈ l, (Lit.int .i64 x.id).wf = true) (hcap : A = none → c = 0) (hnb : bys.length = nb) (hrb : RdI w w.heap.size Ab bys) :
    Calls Try.prog 4 #[.agg #[.int .i64 f.places, .int .i64 f.wilds, .int .i64 f.guards, .int .i64 f.close, .int .i64 f.freeze], .slice A n c, .agg #[.int .i64 H, .slice Ab nb cb]] w fun e w' => e = .returned (.bool true) ∧ Below w.heap.size w w' := by
  by_cases h1 : n ≤ 1000000
  · exact orderLaw_any f A n c l H Ab nb cb bys w hn hr hid h1 hcap hnb hrb
  · exact orderLaw_long f A n c H Ab nb cb w (by omega)

theorem Try.ownEntryOrder : ownKnob Try.prog.godebug = none := by kernel_rfl

set_option maxRecDepth 100000 in
theorem entryOrder_call (H : Type) (enc : TypeId × Value → H) (W : World) (base : Nat) (args : Array Value) (ds : List (DataW H)) (p : List MemPlace) (hval : ∀ (j : Nat) t v, Try.f4.params[j]? = some t → args[j]? = some v → Value.okWide Try.prog W .any base t v)
    (hA : DataW.TrodAll enc Try.prog W 0 (fun _ => true) true Try.f4.params.toList args.toList ds p) : Calls Try.prog 4 args W fun e W' => e = .returned (.bool true) ∧ Below W.heap.size W W' := by
  rw [Try.params4] at hA hval
  obtain ⟨v0, v1, v2, d0, d1, d2, p0, p1, p2, rfl, rfl, rfl, h0, h1, h2⟩ := trodAll_three hA
  obtain ⟨x0, rfl⟩ := open_field (hval 0 23 v0 rfl rfl) h0
  obtain ⟨A1, n1, c1, l1, rfl, hle1, hmx1, hn1, hr1, hno1, hwf1⟩ := open_notices h1 (okWide_slice Try.underlying24 (hval 1 24 v1 rfl rfl))
  obtain ⟨a2, Ab, nb, cb, bys, rfl, hnb, hrb⟩ := open_moves (hval 2 43 v2 rfl rfl) h2
  exact orderLaw_all x0 A1 n1 c1 l1 a2 Ab nb cb bys W hn1 hr1 hwf1 hno1 hnb hrb

set_option maxRecDepth 100000 in
theorem EntryOrder_holds : Rows.EntryOrderSaid :=
  OpenClaim.holds_of_wide (p := Try.pinned) (s := Rows.entryOrderSpec) (c := Rows.entryOrderRow) 4 Try.f4 rfl rfl rfl rfl rfl rfl rfl ⟨rfl, rfl, rfl, rfl, rfl⟩ rfl rfl rfl rfl rfl (by kernel_rfl) Try.func4 (by kernel_rfl)
    (of_decide_eq_true (by kernel_rfl)) (by unfold Func.isWrapper; first | (rw [if_pos (by decide +kernel)]; kernel_rfl) | (rw [if_neg (by decide +kernel)]; exact ⟨rfl, rfl⟩))
    (fun os started H enc _ => law_lift (C := Try.checked) (F := 4) (fn := Try.f4) (s := Rows.entryOrderSpec) (bt := 4) started Try.ownEntryOrder (by kernel_rfl) Try.func4 (by kernel_rfl) Try.underlying4 rfl laidOut (of_decide_eq_true (by kernel_rfl))
      (fun ds hds => match ds, hds with | [_, _, _], _ => rfl)
      (ChangeSpec.witness6 (enc := enc) (C := Try.checked) false ⟨#[], #[.agg #[.int .i64 0, .int .i64 0, .int .i64 0, .int .i64 0, .int .i64 0], .slice none 0 0, .agg #[.int .i64 0, .slice none 0 0]], []⟩ 8 (by kernel_rfl) (by kernel_rfl) (by kernel_rfl) (by kernel_rfl))
      (fun W base args ds p hval hA _ => entryOrder_call H enc W base args ds p hval hA) _ _ _)

end Go.Proofs.Ytklomhmdiflfaaa
