/-
  Part of a claim's texts: contracts of the program's functions and the plain functions that they compute, in build order.
-/
import Derived.Test.YtobjahlmjcnfoaaGreatZB03
import Derived.Test.YtobjahlmjcnfoaaGreatZB04
import Derived.Test.YtobjahlmjcnfoaaGreatZB05
import Derived.Test.YtobjahlmjcnfoaaGreatZB06
import Derived.Test.YtobjahlmjcnfoaaGreatZB08
import Derived.Test.YtobjahlmjcnfoaaGreatZB10
namespace Go.Proofs.YtobjahlmjcnfoaaGreat
open Go.RowKit Go.Sort

structure Lev (f : E.Fd) (h : Int) (Lv : Nat → E.Rs → Prop) : Prop where
  n : ∀ n r, Lv n r → n ≤ 20
  len : ∀ n r, Lv n r → r.ins.length ≤ 400 ∧ r.people.length ≤ 200
  ok : ∀ n r k, Lv n r → k ∈ r.ins → OneOk f r (E.quitN h k)
  at_ : ∀ n r k, Lv n r → k ∈ r.ins → r.people[E.idxR r.people k]? = some (r.pat k) ∧ (r.pat k).player = k ∧ atV r.people k = (E.idxR r.people k : Int)
  on : ∀ n r k, Lv n r → k ∈ r.ins → Lv (n + 1) (E.stepR f h r k)

structure NowW (Lv : Nat → E.Rs → Prop) (wr : World) (A : Option Addr) (vs : List Sv) (ss : List E.Rs) (n : Nat) : Prop where
  rd : RdV wr wr.heap.size A vs
  hold : Hold wr none vs ss
  lv : ∀ s ∈ ss, Lv n s
  cnt : ss.length ≤ 2 ^ n
theorem NowW.below {Lv : Nat → E.Rs → Prop} {w w' : World} {A : Option Addr} {vs : List Sv} {ss : List E.Rs} {n : Nat} (h : NowW Lv w A vs ss n) (hb : Below w.heap.size w w') : NowW Lv w' A vs ss n :=
  ⟨(h.rd.below hb).mono hb.size, h.hold.to (gr_of hb) (.inl rfl), h.lv, h.cnt⟩
theorem NowW.state {Lv : Nat → E.Rs → Prop} {wl w : World} {A : Option Addr} {vs : List Sv} {ss : List E.Rs} {n i : Nat} {v : Sv} {s : E.Rs} (h : NowW Lv wl A vs ss n) (hb : Below wl.heap.size wl w) (hv : vs[i]? = some v) (hs : ss[i]? = some s) : v.is w (fun b => b < wl.heap.size) s :=
  (h.hold.2 i v s hv hs).to hb.size (fun b hb1 _ => hb.block b hb1) (fun b hb1 _ => hb1)
structure NextW (Lv : Nat → E.Rs → Prop) (wl wr : World) (A : Option Addr) (m c : Nat) (vs : List Sv) (ss : List E.Rs) (n : Nat) : Prop where
  below : Below wl.heap.size wl wr
  own : wr.ownsRow wl.heap.size 53 4 (.slice A m c) m (flatV vs)
  len : vs.length = m
  hold : Hold wr (Value.slice A m c).ownBlock vs ss
  lv : ∀ s ∈ ss, Lv (n + 1) s
theorem NextW.start (Lv : Nat → E.Rs → Prop) (w : World) (n : Nat) : NextW Lv w w none 0 0 [] [] n := ⟨Below.refl _ _, ownsV_nil _ _, rfl, Hold.nil _ _, fun s hs => by cases hs⟩
theorem NextW.kept {Lv : Nat → E.Rs → Prop} {wl w w' : World} {A : Option Addr} {m c : Nat} {vs : List Sv} {ss : List E.Rs} {n : Nat} (h : NextW Lv wl w A m c vs ss n) (hb : Below w.heap.size w w') : NextW Lv wl w' A m c vs ss n :=
  ⟨zbT h.below hb h.below.size, owns_below h.own hb, h.len, h.hold.to (gr_wide (gr_of hb)) (.inl rfl), h.lv⟩
theorem NextW.mlen {Lv : Nat → E.Rs → Prop} {wl w : World} {A : Option Addr} {m c : Nat} {vs : List Sv} {ss : List E.Rs} {n : Nat} (h : NextW Lv wl w A m c vs ss n) : ss.length = m := h.hold.1.symm.trans h.len
theorem NextW.now {Lv : Nat → E.Rs → Prop} {wl w : World} {A : Option Addr} {m c : Nat} {vs : List Sv} {ss : List E.Rs} {n : Nat} (h : NextW Lv wl w A m c vs ss n) (hc : ss.length ≤ 2 ^ (n + 1)) : NowW Lv w A vs ss (n + 1) :=
  ⟨owns_RdV h.own h.len, ⟨h.hold.1, fun k v s h1 h2 => (h.hold.2 k v s h1 h2).to (Nat.le_refl _) (fun _ _ _ => rfl) (fun b _ _ => by simp)⟩, h.lv, hc⟩

namespace E
def repsG (s : Rs) (g : Nat) : List Int := if g = 0 then [] else if g = 1 then (firstR s false).toList else repsR s
theorem addS_len {l : List Rs} {s : Rs} : (addS Rs.ins l s).length ≤ l.length + 1 := by
  unfold addS
  split
  · omega
  · rw [List.length_append]; simp
theorem repsG_step (f : Fd) (h : Int) (s : Rs) (g : Nat) (hg : g < 2) (l : List Rs) : addsS Rs.ins (stepR f h) s (repsG s (g + 1)) l = match firstR s (decide (g = 1)) with | some k => addS Rs.ins (addsS Rs.ins (stepR f h) s (repsG s g) l) (stepR f h s k) | none => addsS Rs.ins (stepR f h) s (repsG s g) l := by
  have hg2 : g = 0 ∨ g = 1 := by omega
  rcases hg2 with rfl | rfl
  · show addsS Rs.ins (stepR f h) s (firstR s false).toList l = match firstR s false with | some k => addS Rs.ins l (stepR f h s k) | none => l
    cases firstR s false <;> rfl
  · show addsS Rs.ins (stepR f h) s (repsR s) l = match firstR s true with | some k => addS Rs.ins (addsS Rs.ins (stepR f h) s (firstR s false).toList l) (stepR f h s k) | none => addsS Rs.ins (stepR f h) s (firstR s false).toList l
    unfold repsR addsS
    rw [List.foldl_append]
    cases firstR s true <;> rfl
theorem nexts_step {f : Fd} {h : Int} {ss : List Rs} {i : Nat} {s : Rs} (hs : ss[i]? = some s) : nextsS Rs.ins repsR (stepR f h) (ss.take (i + 1)) [] = addsS Rs.ins (stepR f h) s (repsG s 2) (nextsS Rs.ins repsR (stepR f h) (ss.take i) []) := by
  unfold nextsS
  rw [List.take_add_one, hs, List.foldl_append]
  rfl
theorem firstR_hit {s : Rs} {b : Bool} {k : Nat} {z : Int} (hz : s.ins[k]? = some z) (hb : (s.pat z).grd = b) (hn : ∀ (j : Nat) (y : Int), j < k → s.ins[j]? = some y → (s.pat y).grd ≠ b) : firstR s b = some z := by
  unfold firstR
  obtain ⟨h1, h2⟩ := List.getElem?_eq_some_iff.1 hz
  rw [List.find?_eq_some_iff_getElem]
  refine ⟨by simp [hb], k, h1, h2, fun j hj => ?_⟩
  have := hn j s.ins[j] hj (List.getElem?_eq_getElem (by omega))
  simpa using this
theorem firstR_miss {s : Rs} {b : Bool} (hn : ∀ (j : Nat) (y : Int), s.ins[j]? = some y → (s.pat y).grd ≠ b) : firstR s b = none := by
  unfold firstR
  rw [List.find?_eq_none]
  intro y hy
  obtain ⟨j, hj⟩ := List.mem_iff_getElem?.1 hy
  simpa using hn j y hj
theorem find_yes {f : Fd} {h y : Int} {m n i : Nat} {ss : List Rs} {s : Rs} (hs : ss[i]? = some s) (hy : s.ins.contains y = true) : findS Rs.ins repsR (stepR f h) y (m + 1) n ss = some n := by
  have hmem := List.mem_of_getElem? hs
  unfold findS
  rw [if_neg (fun e => by rw [e] at hmem; cases hmem), if_pos (List.any_eq_true.2 ⟨s, hmem, hy⟩)]
theorem find_on {f : Fd} {h y : Int} {m n : Nat} {ss : List Rs} (he : ss ≠ []) (hn : ∀ (j : Nat) (s : Rs), ss[j]? = some s → s.ins.contains y = false) : findS Rs.ins repsR (stepR f h) y (m + 1) n ss = findS Rs.ins repsR (stepR f h) y m (n + 1) (nextsS Rs.ins repsR (stepR f h) ss []) := by
  conv => lhs; unfold findS
  rw [if_neg he, if_neg (fun c => by
    obtain ⟨s, h1, h2⟩ := List.any_eq_true.1 c
    obtain ⟨j, hj⟩ := List.mem_iff_getElem?.1 h1
    rw [hn j s hj] at h2
    cases h2)]
theorem find_nil {f : Fd} {h y : Int} (m n : Nat) : findS Rs.ins repsR (stepR f h) y m n [] = none := by
  cases m <;> rfl
end E
end Go.Proofs.YtobjahlmjcnfoaaGreat

namespace Go.Proofs.YtobjahlmjcnfoaaGreat
open Go.RowKit Go.Sort
attribute [local go_sem ↓] Go.wp_at_zero Go.wp_at_succ

theorem capN {K : Act → World → Prop} {a : Act} {u : World} {O : Obj} (h : ∀ (W : World) (q : Nat), u.heap.size = q → W.heap[q]? = some O → (∀ (B : Nat) (w0 : World), Below B w0 u → B ≤ u.heap.size → Below B w0 W) → K a W) : K a (u.alloc O) :=
  h _ _ rfl (World.alloc_heap_new u O) (fun _ _ hb hB => zbA hb hB O)
theorem capND {K : Act → World → Prop} {a : Act} {u : World} {O : Obj} (h : ∀ (W : World) (q : Nat), u.heap.size = q → W.heap[q]? = some O → (∀ (B : Nat) (w0 : World), Below B w0 u → B ≤ u.heap.size → Below B w0 W) → K a W) : K a (u.alloc O).drew :=
  h _ _ rfl (World.alloc_heap_new u O) (fun _ _ hb hB => zbD (zbA hb hB O))
set_option maxHeartbeats 12800000 in
set_option maxRecDepth 100000 in
theorem Needs_ref (f : E.Fd) (A : Option Addr) (n c : Nat) (l : List E.Nt) (h y : Int) (s : E.Rs) (Lv : Nat → E.Rs → Prop) (oo : Option Int) (w : World) (hn : l.length = n) (hr : RdN w w.heap.size A l) (hm : n ≤ 1000000) (hA : E.errE f l h y = 0 → AfterP f l h s) (hs : E.errE f l h y = 0 → s.people.length ≤ 200 ∧ s.ins.length ≤ 400 ∧ (0 ≤ s.back ∧ s.back ≤ 1000) ∧ s.wilds.length ≤ 400) (hp : E.errE f l h y = 0 → 0 ≤ f.places ∧ f.places ≤ 1000) (hL : E.errE f l h y = 0 → Lev f h Lv ∧ Lv 0 s)
    (hoo : E.errE f l h y = 0 → oo = if (whereL s.ins s.wilds (outF (ordF s.people) s.ins) y).1 ≠ 1 ∧ (whereL s.ins s.wilds (outF (ordF s.people) s.ins) y).1 ≠ 3 then none else (E.findS E.Rs.ins E.repsR (E.stepR f h) y 61 0 [s]).map (fun n => (n : Int))) :
    Calls Tryz.prog 9 #[.agg #[.int .i64 f.places, .int .i64 f.wilds, .int .i64 f.guards, .int .i64 f.close, .int .i64 f.freeze], .slice A n c, .int .i64 h, .int .i64 y] w fun e w' => e = .returned (OptV (E.errE f l h y) oo) ∧ Below w.heap.size w w' := by
  have HN := hide hn
  have HR := hide hr
  have HM := hide hm
  clear hn hr hm
  obtain ⟨e0, he0⟩ : ∃ q, E.errE f l h y = q := ⟨_, rfl⟩
  have HE0 := hide he0
  rw [he0] at hA hs hp hL hoo ⊢
  clear he0
  obtain ⟨wh, hwh⟩ : ∃ q, whereL s.ins s.wilds (outF (ordF s.people) s.ins) y = q := ⟨_, rfl⟩
  have HWH := hide hwh
  rw [hwh] at hoo
  clear hwh
  obtain ⟨wa, wb⟩ := wh
  dsimp only at hoo
  obtain ⟨vv, hvv⟩ : ∃ q : Value, OptV e0 oo = q := ⟨_, rfl⟩
  have HVV := hide hvv
  rw [hvv]
  clear hvv
  go_enter Tryz.func9, Tryz.ntmps9
  go_upto_region 1 with fail
  obtain ⟨w0, hw0⟩ : ∃ q, w.alloc (.cells #[.int .i64 f.places, .int .i64 f.wilds, .int .i64 f.guards, .int .i64 f.close, .int .i64 f.freeze] 23) = q := ⟨_, rfl⟩
  have HB0 := hide (show Below w.heap.size w w0 by rw [← hw0]; (repeat' first | exact zbR _ _ | assumption | refine zbD ?_ | refine zbA ?_ ?_ _ | refine zbS ?_ ?_ _ | refine zbT ?_ (by assumption) ?_ | (simp; done) | (simp; omega) | omega))
  have HF0 := hide (show w0.heap[w.heap.size]? = some (.cells #[.int .i64 f.places, .int .i64 f.wilds, .int .i64 f.guards, .int .i64 f.close, .int .i64 f.freeze] 23 (0, 0)) by rw [← hw0]; exact World.alloc_heap_new _ _)
  rw [hw0]
  clear hw0
  have yf0 : w0.cell? ⟨w.heap.size, 0, none⟩ = some (.int .i64 f.places) := (blk_cell HF0.out 0).trans rfl
  have yf1 : w0.cell? ⟨w.heap.size, 1, none⟩ = some (.int .i64 f.wilds) := (blk_cell HF0.out 1).trans rfl
  have yf2 : w0.cell? ⟨w.heap.size, 2, none⟩ = some (.int .i64 f.guards) := (blk_cell HF0.out 2).trans rfl
  have yf3 : w0.cell? ⟨w.heap.size, 3, none⟩ = some (.int .i64 f.close) := (blk_cell HF0.out 3).trans rfl
  have yf4 : w0.cell? ⟨w.heap.size, 4, none⟩ = some (.int .i64 f.freeze) := (blk_cell HF0.out 4).trans rfl
  have lyf := blk_lt HF0.out
  go_upto_region 2 with (go_at_call 18; with_reducible refine (check_ref f A n c l h y w0 HN.out ((HR.out.below HB0.out).mono HB0.out.size) HM.out).mono ?_; rintro e w1 ⟨rfl, hb1⟩; rw [HE0.out]; have HB1 := hide hb1; clear hb1)
  clear yf0 yf1 yf2 yf3 yf4 lyf
  have HF1 := hide ((HB1.out.block _ (blk_lt HF0.out)).trans HF0.out)
  have HBW1 := hide (zbT HB0.out HB1.out HB0.out.size)
  clear HF0
  by_cases q0 : e0 = 0
  · subst q0
    have hA := hA rfl
    have HSB := hide (hs rfl)
    have HPL := hide (hp rfl)
    have HLEV := hide (hL rfl).1
    have HL0 := hide (hL rfl).2
    have HOO := hide (hoo rfl)
    clear hs hp hL hoo
    have yf0 : w1.cell? ⟨w.heap.size, 0, none⟩ = some (.int .i64 f.places) := (blk_cell HF1.out 0).trans rfl
    have yf1 : w1.cell? ⟨w.heap.size, 1, none⟩ = some (.int .i64 f.wilds) := (blk_cell HF1.out 1).trans rfl
    have yf2 : w1.cell? ⟨w.heap.size, 2, none⟩ = some (.int .i64 f.guards) := (blk_cell HF1.out 2).trans rfl
    have yf3 : w1.cell? ⟨w.heap.size, 3, none⟩ = some (.int .i64 f.close) := (blk_cell HF1.out 3).trans rfl
    have yf4 : w1.cell? ⟨w.heap.size, 4, none⟩ = some (.int .i64 f.freeze) := (blk_cell HF1.out 4).trans rfl
    have lyf := blk_lt HF1.out
    go_upto_region 5 with (go_at_call 19; refine (hA A n c w1 HN.out ((HR.out.below HBW1.out).mono HBW1.out.size)).mono ?_; rintro e w5 ⟨v5, rfl, hst, hb5⟩; obtain ⟨v0, rfl, hv0⟩ := st_is hst; have HV0 := hide hv0; have HB5 := hide hb5; clear hb5 hst hv0)
    clear yf0 yf1 yf2 yf3 yf4 lyf
    obtain ⟨q3, hq3⟩ : ∃ q, w5.heap.size = q := ⟨_, rfl⟩
    obtain ⟨w3, hw3⟩ : ∃ q, w5.alloc (.cells #[.slice v0.A1 v0.n1 v0.c1, .slice v0.A2 v0.n2 v0.c2, .int .i64 v0.bk, .slice v0.A3 v0.n3 v0.c3] 53) = q := ⟨_, rfl⟩
    have HB53 := hide (show Below w5.heap.size w5 w3 by rw [← hw3]; (repeat' first | exact zbR _ _ | assumption | refine zbD ?_ | refine zbA ?_ ?_ _ | refine zbS ?_ ?_ _ | refine zbT ?_ (by assumption) ?_ | (simp; done) | (simp; omega) | omega))
    have HA3 := hide (show w3.heap[q3]? = some (.cells #[.slice v0.A1 v0.n1 v0.c1, .slice v0.A2 v0.n2 v0.c2, .int .i64 v0.bk, .slice v0.A3 v0.n3 v0.c3] 53 (0, 0)) by rw [← hw3, ← hq3]; exact World.alloc_heap_new _ _)
    rw [hw3, hq3]
    clear hw3 hq3
    have HV3 := hide (show v0.is w3 (fun b => b < w5.heap.size) s from HV0.out.to HB53.out.size (fun b hb _ => HB53.out.block b hb) (fun b hb _ => hb))
    have HRV := fun (w' : World) (hb : Below w3.heap.size w3 w') => HV3.out.2.2.2.2.2.2 w' hb.size (fun b hb1 _ => hb.block b hb1)
    have HF3 := hide ((HB53.out.block _ (Nat.lt_of_lt_of_le (blk_lt HF1.out) HB5.out.size)).trans ((HB5.out.block _ (blk_lt HF1.out)).trans HF1.out))
    have HBW3 := hide (zbT (zbT HBW1.out HB5.out HBW1.out.size) HB53.out (Nat.le_trans HBW1.out.size HB5.out.size))
    have hSof : ∀ w', Below w3.heap.size w3 w' → (fun w' => Below w3.heap.size w3 w' ∧ w'.cell? ⟨w.heap.size, 0, none⟩ = some (.int .i64 f.places) ∧ w'.cell? ⟨w.heap.size, 1, none⟩ = some (.int .i64 f.wilds) ∧ w'.cell? ⟨w.heap.size, 2, none⟩ = some (.int .i64 f.guards) ∧ w'.cell? ⟨w.heap.size, 3, none⟩ = some (.int .i64 f.close) ∧ w'.cell? ⟨w.heap.size, 4, none⟩ = some (.int .i64 f.freeze) ∧ w'.cell? ⟨q3, 0, none⟩ = some (.slice v0.A1 v0.n1 v0.c1) ∧ w'.cell? ⟨q3, 1, none⟩ = some (.slice v0.A2 v0.n2 v0.c2) ∧ w'.cell? ⟨q3, 2, none⟩ = some (.int .i64 v0.bk) ∧ w'.cell? ⟨q3, 3, none⟩ = some (.slice v0.A3 v0.n3 v0.c3) ∧ w.heap.size < w'.heap.size ∧ q3 < w'.heap.size) w' := fun w' hb => by
      have hF := (hb.block _ (blk_lt HF3.out)).trans HF3.out
      have hQ := (hb.block _ (blk_lt HA3.out)).trans HA3.out
      exact ⟨hb, (blk_cell hF 0).trans rfl, (blk_cell hF 1).trans rfl, (blk_cell hF 2).trans rfl, (blk_cell hF 3).trans rfl, (blk_cell hF 4).trans rfl, (blk_cell hQ 0).trans rfl, (blk_cell hQ 1).trans rfl, (blk_cell hQ 2).trans rfl, (blk_cell hQ 3).trans rfl, blk_lt hF, blk_lt hQ⟩
    have hS : (fun w' => Below w3.heap.size w3 w' ∧ w'.cell? ⟨w.heap.size, 0, none⟩ = some (.int .i64 f.places) ∧ w'.cell? ⟨w.heap.size, 1, none⟩ = some (.int .i64 f.wilds) ∧ w'.cell? ⟨w.heap.size, 2, none⟩ = some (.int .i64 f.guards) ∧ w'.cell? ⟨w.heap.size, 3, none⟩ = some (.int .i64 f.close) ∧ w'.cell? ⟨w.heap.size, 4, none⟩ = some (.int .i64 f.freeze) ∧ w'.cell? ⟨q3, 0, none⟩ = some (.slice v0.A1 v0.n1 v0.c1) ∧ w'.cell? ⟨q3, 1, none⟩ = some (.slice v0.A2 v0.n2 v0.c2) ∧ w'.cell? ⟨q3, 2, none⟩ = some (.int .i64 v0.bk) ∧ w'.cell? ⟨q3, 3, none⟩ = some (.slice v0.A3 v0.n3 v0.c3) ∧ w.heap.size < w'.heap.size ∧ q3 < w'.heap.size) w3 := hSof _ (zbR _ _)
    (try dsimp only at hS)
    refine wp_region_held_drew (S := (fun w' => Below w3.heap.size w3 w' ∧ w'.cell? ⟨w.heap.size, 0, none⟩ = some (.int .i64 f.places) ∧ w'.cell? ⟨w.heap.size, 1, none⟩ = some (.int .i64 f.wilds) ∧ w'.cell? ⟨w.heap.size, 2, none⟩ = some (.int .i64 f.guards) ∧ w'.cell? ⟨w.heap.size, 3, none⟩ = some (.int .i64 f.close) ∧ w'.cell? ⟨w.heap.size, 4, none⟩ = some (.int .i64 f.freeze) ∧ w'.cell? ⟨q3, 0, none⟩ = some (.slice v0.A1 v0.n1 v0.c1) ∧ w'.cell? ⟨q3, 1, none⟩ = some (.slice v0.A2 v0.n2 v0.c2) ∧ w'.cell? ⟨q3, 2, none⟩ = some (.int .i64 v0.bk) ∧ w'.cell? ⟨q3, 3, none⟩ = some (.slice v0.A3 v0.n3 v0.c3) ∧ w.heap.size < w'.heap.size ∧ q3 < w'.heap.size)) (by kernel_rfl) ?_ (fun hD0 => ?_)
    · (try dsimp only); first | assumption | exact hSof _ (zbD (zbR _ _))
    refine tW ?_ 0 rfl (by kernel_rfl) (fun _ _ _ h => h) (by rfl) (by assumption) ?_ ?_; rotate_left; (focus (intro w hSw; (try dsimp only at hSw); go_simp; try with_reducible rfl)); try simp only [Act.put, zl, z0, z1]
    refine tW ?_ 1 rfl (by kernel_rfl) (fun _ _ _ h => h) (by rfl) (by assumption) ?_ ?_; rotate_left; (focus (intro w hSw; (try dsimp only at hSw); go_simp; try with_reducible rfl)); try simp only [Act.put, zl, z0, z1]
    refine tW ?_ 2 rfl (by kernel_rfl) (fun _ _ _ h => h) (by rfl) (by assumption) ?_ ?_; rotate_left; (focus (intro w hSw; (try dsimp only at hSw); go_simp; try with_reducible rfl)); try simp only [Act.put, zl, z0, z1]
    refine tW ?_ 3 rfl (by kernel_rfl) (fun _ _ _ h => h) (by rfl) (by assumption) ?_ ?_; rotate_left; (focus (intro w hSw; (try dsimp only at hSw); go_simp; try with_reducible rfl)); try simp only [Act.put, zl, z0, z1]
    refine tW ?_ 5 rfl (by kernel_rfl) (fun _ _ _ h => h) (by rfl) (by assumption) ?_ ?_; rotate_left; (focus (intro w hSw; (try dsimp only at hSw); go_simp; try with_reducible rfl)); try simp only [Act.put, zl, z0, z1]
    refine wpAnyH_ready (rs := [4]) (by kernel_rfl) (by simp) ?_; refine consL 4 rfl (fun K hK => ?_) AllReadyH.nil
    (go_simp; go_at_call 24; refine (entries_ref f v0.A1 v0.n1 v0.c1 s.people v0.A2 v0.n2 v0.c2 v0.bk v0.A3 v0.n3 v0.c3 s.ins _ HV3.out.1 (HRV _ hD0.1).1 (by have h1 := HV3.out.1; have h2 := HSB.out.1; omega) HV3.out.2.2.2.2.1 (HRV _ hD0.1).2.2 (by have h1 := HV3.out.2.2.2.2.1; have h2 := HSB.out.2.1; omega) HPL.out (by rw [← HV3.out.2.2.2.2.2.1]; exact HSB.out.2.2.1)).mono ?_; rintro e w6 ⟨A4, m4, c4, rfl, hl6, ho6, hb6⟩; have hSn := hSof _ (zbT hD0.1 hb6 hD0.1.size); have HL6 := hide hl6; have HO6 := hide ho6; clear hl6 ho6 hb6; (try dsimp only at hSn))
    refine hK.out _ _ ?_ (fun hD1 => ?_)
    · (try dsimp only); first | assumption | exact hSof _ (zbD (zbR _ _))
    clear hK K hD0; try simp only [Act.put, zl, z0, z1]
    refine wpAnyH_ready (rs := [6]) (by kernel_rfl) (by simp) ?_; refine consL 6 rfl (fun K hK => ?_) AllReadyH.nil
    (go_simp; go_at_call 23; refine (stand_ref v0.A3 v0.n3 v0.c3 s.ins v0.A2 v0.n2 v0.c2 s.wilds A4 m4 c4 (outF (ordF s.people) s.ins) (f.places + v0.bk - (v0.n3 : Int)) y w6 HV3.out.2.2.2.2.1 (HRV _ hD1.1).2.2 (by have h1 := HV3.out.2.2.2.2.1; have h2 := HSB.out.2.1; omega) HV3.out.2.2.1 (HRV _ hD1.1).2.1 (by have h1 := HV3.out.2.2.1; have h2 := HSB.out.2.2.2; omega) HL6.out (owns_RdI HO6.out HL6.out) (by have h1 := HL6.out; have h2 := outF_le (ordF s.people) s.ins; have h3 := ordF_length s.people; have h4 := HSB.out.1; omega)).mono ?_; rintro e w7 ⟨rfl, hb7⟩; rw [HWH.out]; have hSn := hSof _ (zbT hD1.1 hb7 hD1.1.size); clear hb7; (try dsimp only at hSn))
    refine hK.out _ _ ?_ (fun hD2 => ?_)
    · (try dsimp only); first | assumption | exact hSof _ (zbD (zbR _ _))
    clear hK K hD1; try simp only [Act.put, zl, z0, z1]
    refine tW ?_ 7 rfl (by kernel_rfl) (fun _ _ _ h => h) (by rfl) (by assumption) ?_ ?_; rotate_left; (focus (intro w hSw; (try dsimp only at hSw); go_simp; try with_reducible rfl)); try simp only [Act.put, zl, z0, z1]
    refine tW ?_ 8 rfl (by kernel_rfl) (fun _ _ _ h => h) (by rfl) (by assumption) ?_ ?_; rotate_left; (focus (intro w hSw; (try dsimp only at hSw); go_simp; try with_reducible rfl)); try simp only [Act.put, zl, z0, z1]
    refine tW ?_ 9 rfl (by kernel_rfl) (fun _ _ _ h => h) (by rfl) (by assumption) ?_ ?_; rotate_left; (focus (intro w hSw; (try dsimp only at hSw); go_simp; try with_reducible rfl)); try simp only [Act.put, zl, z0, z1]
    refine tW ?_ 10 rfl (by kernel_rfl) (fun _ _ _ h => h) (by rfl) (by assumption) ?_ ?_; rotate_left; (focus (intro w hSw; (try dsimp only at hSw); go_simp; try with_reducible rfl)); try simp only [Act.put, zl, z0, z1]
    refine tW ?_ 11 rfl (by kernel_rfl) (fun _ _ _ h => h) (by rfl) (by assumption) ?_ ?_; rotate_left; (focus (intro w hSw; (try dsimp only at hSw); go_simp; try with_reducible rfl)); try simp only [Act.put, zl, z0, z1]
    refine wpAnyH_done (by kernel_rfl) ?_ _
    (try dsimp only [Act.put, List.getElem_toArray, List.getElem_cons_succ, List.getElem_cons_zero])
    (try simp only [zl, z0, z1])
    have HB7 := hide hSn.1
    clear hSn hS hSof HL6 HO6
    have HBW7 := hide (zbT HBW3.out HB7.out HBW3.out.size)
    have HF7 := hide ((HB7.out.block _ (blk_lt HF3.out)).trans HF3.out)
    have HNW0 := hide (show NowW Lv w7 (some ⟨q3, 0, none⟩) [v0] [s] 0 from (show NowW Lv w3 (some ⟨q3, 0, none⟩) [v0] [s] 0 from ⟨rdV_one (p := v0) HA3.out, (Hold.nil w3 none).app (HV3.out.to (Nat.le_refl _) (fun _ _ _ => rfl) (fun b _ _ => by simp)), fun t ht => by rw [List.mem_singleton.1 ht]; exact HL0.out, by simp⟩).below HB7.out)
    clear HRV HV3 HA3 HV0
    obtain ⟨bb, hbb⟩ : ∃ q, decide (wa ≠ 1 ∧ wa ≠ 3) = q := ⟨_, rfl⟩
    have HBB := hide hbb
    clear hbb
    go_upto_region 6 with fail
    go_cut [48] from 43 (fun v48 wx => v48 = .bool bb ∧ wx = w7)
    case first =>
      by_cases c1 : wa = 1
      · subst c1
        have hb : bb = false := HBB.out.symm.trans (by decide)
        subst hb
        go_wp2_with fail
        go_meet
        case rel => exact ⟨rfl, rfl⟩
      · have c1b : (wa != 1) = true := by simpa using c1
        by_cases c3 : wa = 3
        · subst c3
          have hb : bb = false := HBB.out.symm.trans (by decide)
          subst hb
          go_wp2_with fail
          go_meet
          case rel => exact ⟨rfl, rfl⟩
        · have c3b : (wa != 3) = true := by simpa using c3
          have hb : bb = true := HBB.out.symm.trans (by simp [c1, c3])
          subst hb
          go_wp2_with fail
          go_meet
          case rel => exact ⟨rfl, rfl⟩
    case rest =>
      obtain ⟨rfl, rfl⟩ := hcut
      cases bb
      · have HOR := hide (show oo = (E.findS E.Rs.ins E.repsR (E.stepR f h) y 61 0 [s]).map (fun n => (n : Int)) from HOO.out.trans (if_neg (fun hc => by have := HBB.out; rw [decide_eq_false_iff_not] at this; exact this hc)))
        clear HBB HOO HWH
        obtain ⟨RR, hRR⟩ : ∃ q, E.findS E.Rs.ins E.repsR (E.stepR f h) y 61 0 [s] = q := ⟨_, rfl⟩
        have HRR := hide hRR
        rw [hRR] at HOR
        clear hRR
        go_wp2_with fail
        go_loopw [11, 14, 15, 16, 17, 18, 19] (fun v11 v14 v15 v16 v17 v18 v19 wr => ∃ (q : Nat) (A1 : Option Addr) (m1 c1 : Nat) (vs : List Sv) (ss : List E.Rs), q ≤ 61 ∧ v11 = .slice A1 m1 c1 ∧ v14 = .int .i64 q ∧ Hid (vs.length = m1) ∧ Hid (NowW Lv wr A1 vs ss q) ∧ Hid (E.findS E.Rs.ins E.repsR (E.stepR f h) y (61 - q) q ss = RR) ∧ Hid (Below wc.heap.size wc wr)) (fun _ v14 _ _ _ _ _ _ => 61 - (intOf v14).toNat)
        case atStart => exact ⟨0, some ⟨q3, 0, none⟩, 1, 1, [v0], [s], by omega, rfl, rfl, hide rfl, HNW0, HRR, hide (Below.refl _ _)⟩
        case round =>
          obtain ⟨q, A1, m1, c1, vs, ss, hq, rfl, rfl, HVL, HNW, HFR, HBL⟩ := hrel
          rename World => wl
          have HSL := hide (HNW.out.hold.1.symm.trans HVL.out)
          by_cases hm1 : 0 < m1
          · have hm1' : (0 : Int) < (m1 : Int) := by omega
            obtain ⟨t0, ht0⟩ : ∃ q, ss[0]? = some q := ⟨_, List.getElem?_eq_getElem (by have := HSL.out; omega)⟩
            have HQ20 := hide (HLEV.out.n q t0 (HNW.out.lv t0 (List.mem_of_getElem? ht0)))
            have HNE := hide (show ss ≠ [] from fun e => by rw [e] at ht0; cases ht0)
            have HMB := hide (show m1 ≤ 1048576 from by
              have h1 := HNW.out.cnt
              have h2 : 2 ^ q ≤ 2 ^ 20 := Nat.pow_le_pow_right (by omega) HQ20.out
              have h3 := HSL.out
              have h4 : (2 : Nat) ^ 20 = 1048576 := by decide
              omega)
            obtain ⟨fu, hfu⟩ : ∃ fu, 61 - q = fu + 1 := ⟨60 - q, by have := HQ20.out; omega⟩
            have HFU := hide hfu
            rw [hfu] at HFR
            clear ht0 hfu
            obtain ⟨NX, hNX⟩ : ∃ NX : Nat → List E.Rs, ∀ i, NX i = E.nextsS E.Rs.ins E.repsR (E.stepR f h) (ss.take i) [] := ⟨_, fun _ => rfl⟩
            have HNX := hide hNX
            clear hNX
            go_upto_region 13 with fail
            go_loopw [15, 16, 17, 18, 19] (fun v15 v16 v17 v18 v19 wr => ∃ (i : Nat) (A2 : Option Addr) (m2 c2 : Nat) (vs2 : List Sv), i ≤ m1 ∧ v15 = .slice A2 m2 c2 ∧ v16 = .int .i64 i ∧ Hid (∀ (j : Nat) (t : E.Rs), j < i → ss[j]? = some t → t.ins.contains y = false) ∧ Hid (NextW Lv wl wr A2 m2 c2 vs2 (NX i) q) ∧ Hid ((NX i).length ≤ 2 * i)) (fun _ v16 _ _ _ _ => m1 - (intOf v16).toNat)
            case atStart => exact ⟨0, none, 0, 0, [], by omega, rfl, rfl, hide (fun j t hj => by omega), hide (by rw [HNX.out]; exact NextW.start Lv wl q), hide (by rw [HNX.out]; exact Nat.le_refl _)⟩
            case round =>
              obtain ⟨i, A2, m2, c2, vs2, hi, rfl, rfl, HJ, HNR, HLN⟩ := hrel
              rename World => wr
              have hmb := HMB.out
              have hi0 : (0 : Int) ≤ (i : Int) := by omega
              by_cases hin : i < m1
              · have hi1 : (i : Int) < (m1 : Int) := by omega
                obtain ⟨v, hv⟩ : ∃ q, vs[i]? = some q := ⟨_, List.getElem?_eq_getElem (by have := HVL.out; omega)⟩
                obtain ⟨t, ht⟩ : ∃ q, ss[i]? = some q := ⟨_, List.getElem?_eq_getElem (by have := HSL.out; omega)⟩
                have HTI := hide ht
                have HVT := hide (HNW.out.state (Below.refl _ _) hv ht)
                have HLT := hide (HNW.out.lv t (List.mem_of_getElem? ht))
                have HTL := hide (HLEV.out.len _ _ HLT.out)
                obtain ⟨b, o, hA1, hbB, d0, d1, d2, d3⟩ := HNW.out.rd i v hv
                subst hA1
                obtain ⟨a1, n1, k1, a2, n2, k2, bk, a3, n3, k3⟩ := v
                dsimp only at d0 d1 d2 d3
                have HD := hide (And.intro hbB (And.intro d0 (And.intro d1 (And.intro d2 d3))))
                have HN1 := hide (show t.people.length = n1 from HVT.out.1)
                have HN3 := hide (show t.ins.length = n3 from HVT.out.2.2.2.2.1)
                have HRU0 := hide (show ∀ w', Below wl.heap.size wl w' → RdP w' w'.heap.size a1 t.people ∧ RdI w' w'.heap.size a2 t.wilds ∧ RdI w' w'.heap.size a3 t.ins from fun w' hb => HVT.out.2.2.2.2.2.2 w' hb.size (fun b hb1 _ => hb.block b hb1))
                clear hv ht hbB d0 d1 d2 d3
                have hbR := Nat.lt_of_lt_of_le HD.out.1 HNR.out.below.size
                have d3r : wr.cell? ⟨b, o + i * 4 + 3, none⟩ = some (.slice a3 n3 k3) := (HNR.out.below.cell (p := ⟨b, _, none⟩) HD.out.1).trans HD.out.2.2.2.2
                obtain ⟨cb, hcb⟩ : ∃ q, t.ins.contains y = q := ⟨_, rfl⟩
                have HCB := hide hcb
                clear hcb
                have HIN := hide (In_any a3 n3 k3 t.ins y wr HN3.out (HRU0.out wr HNR.out.below).2.2 (by have h1 := HN3.out; have h2 := HTL.out.1; omega))
                rw [HCB.out] at HIN
                cases cb
                · go_upto_region 18 with (go_at_call 21; refine HIN.out.mono ?_; rintro e w' ⟨rfl, rfl⟩)
                  clear hbR d3r HIN
                  obtain ⟨AX, hAX⟩ : ∃ AX : Nat → List E.Rs, ∀ g, AX g = E.addsS E.Rs.ins (E.stepR f h) t (E.repsG t g) (NX i) := ⟨_, fun _ => rfl⟩
                  have HAX := hide hAX
                  clear hAX
                  go_loopw [15, 17, 18, 19] (fun v15 v17 v18 v19 wr => ∃ (g : Nat) (A3 : Option Addr) (m3 c3 : Nat) (vs3 : List Sv), g ≤ 2 ∧ v15 = .slice A3 m3 c3 ∧ v17 = .int .i64 g ∧ Hid (NextW Lv wl wr A3 m3 c3 vs3 (AX g) q) ∧ Hid ((AX g).length ≤ 2 * i + g)) (fun _ v17 _ _ _ => 2 - (intOf v17).toNat)
                  case atStart => exact ⟨0, A2, m2, c2, vs2, by omega, rfl, rfl, hide (by rw [HAX.out]; exact HNR.out), hide (by rw [HAX.out]; exact HLN.out)⟩
                  case round =>
                    obtain ⟨g, A3, m3, c3, vs3, hg, rfl, rfl, HNG, HLA⟩ := hrel
                    rename World => wg
                    by_cases hg2 : g < 2
                    · have hg2' : (g : Int) < 2 := by omega
                      have HGS := hide (show AX (g + 1) = match E.firstR t (decide (g = 1)) with | some k => E.addS E.Rs.ins (AX g) (E.stepR f h t k) | none => AX g from by rw [HAX.out, HAX.out]; exact E.repsG_step f h t g hg2 (NX i))
                      obtain ⟨gb, hgb⟩ : ∃ q, decide (g = 1) = q := ⟨_, rfl⟩
                      have HGB := hide hgb
                      rw [hgb] at HGS
                      have hgi : ((g : Int) == 1) = gb := by rw [← hgb, Bool.eq_iff_iff, beq_iff_eq, decide_eq_true_eq]; omega
                      have HGI := hide hgi
                      clear hgb hgi
                      go_upto_region 21 with fail
                      go_loopw [15, 18, 19] (fun v15 v18 v19 wr => ∃ k : Nat, k ≤ n3 ∧ v15 = .slice A3 m3 c3 ∧ v18 = .int .i64 k ∧ Hid (∀ (j : Nat) (z : Int), j < k → t.ins[j]? = some z → (t.pat z).grd ≠ gb) ∧ Hid (Below wg.heap.size wg wr)) (fun _ v18 _ _ => n3 - (intOf v18).toNat)
                      case atStart => exact ⟨0, by omega, rfl, rfl, hide (fun j z hj => by omega), hide (Below.refl _ _)⟩
                      case round =>
                        obtain ⟨k, hk, rfl, rfl, HZ, HBU⟩ := hrel
                        rename World => u
                        have HNU := hide (HNG.out.kept HBU.out)
                        have HBLU := hide HNU.out.below
                        have hbU := Nat.lt_of_lt_of_le HD.out.1 HBLU.out.size
                        have d3u : u.cell? ⟨b, o + i * 4 + 3, none⟩ = some (.slice a3 n3 k3) := (HBLU.out.cell (p := ⟨b, _, none⟩) HD.out.1).trans HD.out.2.2.2.2
                        have hn4 : n3 ≤ 400 := by have h1 := HN3.out; have h2 := HTL.out.1; omega
                        have hk0 : (0 : Int) ≤ (k : Int) := by omega
                        by_cases hkl : k < n3
                        · have hk1 : (k : Int) < (n3 : Int) := by omega
                          obtain ⟨z, hz⟩ : ∃ q, t.ins[k]? = some q := ⟨_, List.getElem?_eq_getElem (by have := HN3.out; omega)⟩
                          have HZK := hide hz
                          have hzm := List.mem_of_getElem? hz
                          obtain ⟨hpk, hpz, hat⟩ := HLEV.out.at_ _ _ z HLT.out hzm
                          obtain ⟨p, hp⟩ : ∃ p, t.pat z = p := ⟨_, rfl⟩
                          obtain ⟨pk, hpk2⟩ : ∃ q, E.idxR t.people z = q := ⟨_, rfl⟩
                          rw [hp, hpk2] at hpk
                          rw [hp] at hpz
                          rw [hpk2] at hat
                          have HAT := hide hat
                          have HPZ := hide hpz
                          have HPE := hide hp
                          have HPK := hide hpk
                          have HOK := hide (HLEV.out.ok _ _ z HLT.out hzm)
                          have HLZ := hide (HLEV.out.on _ _ z HLT.out hzm)
                          have HM20 := hide (show 2 * m1 ≤ 1048576 from by
                            have h0 := HLEV.out.n _ _ HLZ.out
                            have h1 := HNW.out.cnt
                            have h2 : 2 ^ (q + 1) ≤ 2 ^ 20 := Nat.pow_le_pow_right (by omega) h0
                            have h3 := HSL.out
                            have h4 : (2 : Nat) ^ 20 = 1048576 := by decide
                            rw [Nat.pow_succ] at h2
                            omega)
                          have hpl : pk < n1 := by have h1 := (List.getElem?_eq_some_iff.1 hpk).1; have h2 := HN1.out; omega
                          have hp1 : (pk : Int) < (n1 : Int) := by omega
                          have hp0 : (0 : Int) ≤ (pk : Int) := by omega
                          obtain ⟨r1, r2, r3⟩ := HRU0.out u HBLU.out
                          obtain ⟨bi, oi, hAi, hbi, i0⟩ := r3 k z hz
                          obtain ⟨bp, op, hAp, hbp, p0, p1, p2, p3, p4, p5, p6⟩ := r1 pk p hpk
                          subst hAi hAp
                          have HRU := fun (w' : World) (hb : Below u.heap.size u w') => HRU0.out w' (zbT HBLU.out hb HBLU.out.size)
                          have HDU := hide (And.intro ((HBLU.out.cell (p := ⟨b, _, none⟩) HD.out.1).trans HD.out.2.1) (And.intro ((HBLU.out.cell (p := ⟨b, _, none⟩) HD.out.1).trans HD.out.2.2.1) (And.intro ((HBLU.out.cell (p := ⟨b, _, none⟩) HD.out.1).trans HD.out.2.2.2.1) ((HBLU.out.cell (p := ⟨b, _, none⟩) HD.out.1).trans HD.out.2.2.2.2))))
                          have HIU := hide (And.intro hbi i0)
                          have HPU := hide (And.intro hbp (And.intro p0 (And.intro p1 (And.intro p2 (And.intro p3 (And.intro p4 (And.intro p5 p6)))))))
                          clear hz hzm hpk hpk2 hp hpz hat r1 r2 r3 hbi i0 hbp p0 p1 p2 p3 p4 p5 p6
                          go_upto_region 23 with fail
                          clear d3u
                          have hSof : ∀ w', Below u.heap.size u w' → (fun w' => Below u.heap.size u w' ∧ w'.cell? ⟨b, o + i * 4, none⟩ = some (.slice (some ⟨bp, op, none⟩) n1 k1) ∧ w'.cell? ⟨b, o + i * 4 + 1, none⟩ = some (.slice a2 n2 k2) ∧ w'.cell? ⟨b, o + i * 4 + 2, none⟩ = some (.int .i64 bk) ∧ w'.cell? ⟨b, o + i * 4 + 3, none⟩ = some (.slice (some ⟨bi, oi, none⟩) n3 k3) ∧ w'.cell? ⟨bi, oi + k, none⟩ = some (.int .i64 z) ∧ w'.cell? ⟨bp, op + pk * 7, none⟩ = some (.int .i64 p.player) ∧ w'.cell? ⟨bp, op + pk * 7 + 1, none⟩ = some (.int .i64 p.rank) ∧ w'.cell? ⟨bp, op + pk * 7 + 2, none⟩ = some (.bool p.grd) ∧ w'.cell? ⟨bp, op + pk * 7 + 3, none⟩ = some (.bool p.ent) ∧ w'.cell? ⟨bp, op + pk * 7 + 4, none⟩ = some (.bool p.quit) ∧ w'.cell? ⟨bp, op + pk * 7 + 5, none⟩ = some (.bool p.sgn) ∧ w'.cell? ⟨bp, op + pk * 7 + 6, none⟩ = some (.bool p.card) ∧ b < w'.heap.size ∧ bi < w'.heap.size ∧ bp < w'.heap.size) w' := fun w' hb => by
                            obtain ⟨e0, e1, e2, e3⟩ := HDU.out
                            obtain ⟨f0, f1⟩ := HIU.out
                            obtain ⟨g0, g1, g2, g3, g4, g5, g6, g7⟩ := HPU.out
                            exact ⟨hb, (hb.cell (p := ⟨b, _, none⟩) hbU).trans e0, (hb.cell (p := ⟨b, _, none⟩) hbU).trans e1, (hb.cell (p := ⟨b, _, none⟩) hbU).trans e2, (hb.cell (p := ⟨b, _, none⟩) hbU).trans e3, (hb.cell (p := ⟨bi, _, none⟩) f0).trans f1, (hb.cell (p := ⟨bp, _, none⟩) g0).trans g1, (hb.cell (p := ⟨bp, _, none⟩) g0).trans g2, (hb.cell (p := ⟨bp, _, none⟩) g0).trans g3, (hb.cell (p := ⟨bp, _, none⟩) g0).trans g4, (hb.cell (p := ⟨bp, _, none⟩) g0).trans g5, (hb.cell (p := ⟨bp, _, none⟩) g0).trans g6, (hb.cell (p := ⟨bp, _, none⟩) g0).trans g7, Nat.lt_of_lt_of_le hbU hb.size, Nat.lt_of_lt_of_le f0 hb.size, Nat.lt_of_lt_of_le g0 hb.size⟩
                          have hS : (fun w' => Below u.heap.size u w' ∧ w'.cell? ⟨b, o + i * 4, none⟩ = some (.slice (some ⟨bp, op, none⟩) n1 k1) ∧ w'.cell? ⟨b, o + i * 4 + 1, none⟩ = some (.slice a2 n2 k2) ∧ w'.cell? ⟨b, o + i * 4 + 2, none⟩ = some (.int .i64 bk) ∧ w'.cell? ⟨b, o + i * 4 + 3, none⟩ = some (.slice (some ⟨bi, oi, none⟩) n3 k3) ∧ w'.cell? ⟨bi, oi + k, none⟩ = some (.int .i64 z) ∧ w'.cell? ⟨bp, op + pk * 7, none⟩ = some (.int .i64 p.player) ∧ w'.cell? ⟨bp, op + pk * 7 + 1, none⟩ = some (.int .i64 p.rank) ∧ w'.cell? ⟨bp, op + pk * 7 + 2, none⟩ = some (.bool p.grd) ∧ w'.cell? ⟨bp, op + pk * 7 + 3, none⟩ = some (.bool p.ent) ∧ w'.cell? ⟨bp, op + pk * 7 + 4, none⟩ = some (.bool p.quit) ∧ w'.cell? ⟨bp, op + pk * 7 + 5, none⟩ = some (.bool p.sgn) ∧ w'.cell? ⟨bp, op + pk * 7 + 6, none⟩ = some (.bool p.card) ∧ b < w'.heap.size ∧ bi < w'.heap.size ∧ bp < w'.heap.size) u := hSof _ (zbR _ _)
                          (try dsimp only at hS)
                          refine wp_region_T_drew (S := (fun w' => Below u.heap.size u w' ∧ w'.cell? ⟨b, o + i * 4, none⟩ = some (.slice (some ⟨bp, op, none⟩) n1 k1) ∧ w'.cell? ⟨b, o + i * 4 + 1, none⟩ = some (.slice a2 n2 k2) ∧ w'.cell? ⟨b, o + i * 4 + 2, none⟩ = some (.int .i64 bk) ∧ w'.cell? ⟨b, o + i * 4 + 3, none⟩ = some (.slice (some ⟨bi, oi, none⟩) n3 k3) ∧ w'.cell? ⟨bi, oi + k, none⟩ = some (.int .i64 z) ∧ w'.cell? ⟨bp, op + pk * 7, none⟩ = some (.int .i64 p.player) ∧ w'.cell? ⟨bp, op + pk * 7 + 1, none⟩ = some (.int .i64 p.rank) ∧ w'.cell? ⟨bp, op + pk * 7 + 2, none⟩ = some (.bool p.grd) ∧ w'.cell? ⟨bp, op + pk * 7 + 3, none⟩ = some (.bool p.ent) ∧ w'.cell? ⟨bp, op + pk * 7 + 4, none⟩ = some (.bool p.quit) ∧ w'.cell? ⟨bp, op + pk * 7 + 5, none⟩ = some (.bool p.sgn) ∧ w'.cell? ⟨bp, op + pk * 7 + 6, none⟩ = some (.bool p.card) ∧ b < w'.heap.size ∧ bi < w'.heap.size ∧ bp < w'.heap.size)) 21 (by kernel_rfl) ?_ (fun hD0 => ?_)
                          · (try dsimp only); first | assumption | exact hSof _ (zbD (zbR _ _))
                          refine takeT (v := ?_) 0 rfl (by kernel_rfl) (by kernel_rfl) (by kernel_rfl) (by kernel_rfl) (fun _ _ _ h => h) (Or.inl ⟨by rfl, ?_⟩) (by assumption) ?_; rotate_left
                          · (intro w hSw; (try dsimp only at hSw); go_simp; try with_reducible rfl)
                          try simp only [Act.put, zl, z0, z1]
                          refine takeT (v := ?_) 1 rfl (by kernel_rfl) (by kernel_rfl) (by kernel_rfl) (by kernel_rfl) (fun _ _ _ h => h) (Or.inl ⟨by rfl, ?_⟩) (by assumption) ?_; rotate_left
                          · (intro w hSw; (try dsimp only at hSw); go_simp; try with_reducible rfl)
                          try simp only [Act.put, zl, z0, z1]
                          refine takeT (v := ?_) 2 rfl (by kernel_rfl) (by kernel_rfl) (by kernel_rfl) (by kernel_rfl) (fun _ _ _ h => h) (Or.inl ⟨by rfl, ?_⟩) (by assumption) ?_; rotate_left
                          · (intro w hSw; (try dsimp only at hSw); go_simp; try with_reducible rfl)
                          try simp only [Act.put, zl, z0, z1]
                          refine takeT (v := ?_) 3 rfl (by kernel_rfl) (by kernel_rfl) (by kernel_rfl) (by kernel_rfl) (fun _ _ _ h => h) (Or.inl ⟨by rfl, ?_⟩) (by assumption) ?_; rotate_left
                          · (intro w hSw; (try dsimp only at hSw); go_simp; try with_reducible rfl)
                          try simp only [Act.put, zl, z0, z1]
                          refine takeT (v := ?_) 4 rfl (by kernel_rfl) (by kernel_rfl) (by kernel_rfl) (by kernel_rfl) (fun _ _ _ h => h) (Or.inl ⟨by rfl, ?_⟩) (by assumption) ?_; rotate_left
                          · (intro w hSw; (try dsimp only at hSw); go_simp; try with_reducible rfl)
                          try simp only [Act.put, zl, z0, z1]
                          refine takeT (v := ?_) 5 rfl (by kernel_rfl) (by kernel_rfl) (by kernel_rfl) (by kernel_rfl) (fun _ _ _ h => h) (Or.inl ⟨by rfl, ?_⟩) (by assumption) ?_; rotate_left
                          · (intro w hSw; (try dsimp only at hSw); go_simp; try with_reducible rfl)
                          try simp only [Act.put, zl, z0, z1]
                          refine takeT (v := ?_) 6 rfl (by kernel_rfl) (by kernel_rfl) (by kernel_rfl) (by kernel_rfl) (fun _ _ _ h => h) (Or.inl ⟨by rfl, ?_⟩) (by assumption) ?_; rotate_left
                          · (intro w hSw; (try dsimp only at hSw); go_simp; try with_reducible rfl)
                          try simp only [Act.put, zl, z0, z1]
                          refine takeT (v := ?_) 7 rfl (by kernel_rfl) (by kernel_rfl) (by kernel_rfl) (by kernel_rfl) (fun _ _ _ h => h) (Or.inl ⟨by rfl, ?_⟩) (by assumption) ?_; rotate_left
                          · (intro w hSw; (try dsimp only at hSw); go_simp; try with_reducible rfl)
                          try simp only [Act.put, zl, z0, z1]
                          refine takeT (v := ?_) 8 rfl (by kernel_rfl) (by kernel_rfl) (by kernel_rfl) (by kernel_rfl) (fun _ _ _ h => h) (Or.inl ⟨by rfl, ?_⟩) (by assumption) ?_; rotate_left
                          · (intro w hSw; (try dsimp only at hSw); go_simp; try with_reducible rfl)
                          try simp only [Act.put, zl, z0, z1]
                          refine takeT (v := ?_) 9 rfl (by kernel_rfl) (by kernel_rfl) (by kernel_rfl) (by kernel_rfl) (fun _ _ _ h => h) (Or.inl ⟨by rfl, ?_⟩) (by assumption) ?_; rotate_left
                          · (intro w hSw; (try dsimp only at hSw); go_simp; try with_reducible rfl)
                          try simp only [Act.put, zl, z0, z1]
                          refine takeT (v := ?_) 10 rfl (by kernel_rfl) (by kernel_rfl) (by kernel_rfl) (by kernel_rfl) (fun _ _ _ h => h) (Or.inl ⟨by rfl, ?_⟩) (by assumption) ?_; rotate_left
                          · (intro w hSw; (try dsimp only at hSw); go_simp; try with_reducible rfl)
                          try simp only [Act.put, zl, z0, z1]
                          refine takeT (v := ?_) 11 rfl (by kernel_rfl) (by kernel_rfl) (by kernel_rfl) (by kernel_rfl) (fun _ _ _ h => h) (Or.inl ⟨by rfl, ?_⟩) (by assumption) ?_; rotate_left
                          · (intro w hSw; (try dsimp only at hSw); go_simp; try with_reducible rfl)
                          try simp only [Act.put, zl, z0, z1]
                          refine takeT (v := ?_) 12 rfl (by kernel_rfl) (by kernel_rfl) (by kernel_rfl) (by kernel_rfl) (fun _ _ _ h => h) (Or.inl ⟨by rfl, ?_⟩) (by assumption) ?_; rotate_left
                          · (intro w hSw; (try dsimp only at hSw); go_simp; try with_reducible rfl)
                          try simp only [Act.put, zl, z0, z1]
                          refine takeT (v := ?_) 13 rfl (by kernel_rfl) (by kernel_rfl) (by kernel_rfl) (by kernel_rfl) (fun _ _ _ h => h) (Or.inl ⟨by rfl, ?_⟩) (by assumption) ?_; rotate_left
                          · (intro w hSw; (try dsimp only at hSw); go_simp; try with_reducible rfl)
                          try simp only [Act.put, zl, z0, z1]
                          refine takeT (v := ?_) 14 rfl (by kernel_rfl) (by kernel_rfl) (by kernel_rfl) (by kernel_rfl) (fun _ _ _ h => h) (Or.inl ⟨by rfl, ?_⟩) (by assumption) ?_; rotate_left
                          · (intro w hSw; (try dsimp only at hSw); go_simp; try with_reducible rfl)
                          try simp only [Act.put, zl, z0, z1]
                          refine takeT (v := ?_) 15 rfl (by kernel_rfl) (by kernel_rfl) (by kernel_rfl) (by kernel_rfl) (fun _ _ _ h => h) (Or.inl ⟨by rfl, ?_⟩) (by assumption) ?_; rotate_left
                          · (intro w hSw; (try dsimp only at hSw); go_simp; try with_reducible rfl)
                          try simp only [Act.put, zl, z0, z1]
                          refine takeT (v := ?_) 16 rfl (by kernel_rfl) (by kernel_rfl) (by kernel_rfl) (by kernel_rfl) (fun _ _ _ h => h) (Or.inl ⟨by rfl, ?_⟩) (by assumption) ?_; rotate_left
                          · (intro w hSw; (try dsimp only at hSw); go_simp; try with_reducible rfl)
                          try simp only [Act.put, zl, z0, z1]
                          refine wpAnyT_ready (rs := [17, 20]) (by kernel_rfl) (by simp) ?_; refine consT 17 rfl (fun K hK => ?_) ?_
                          (go_simp; go_at_call 25; refine (at_ref (some ⟨bp, op, none⟩) n1 k1 t.people a2 n2 k2 bk (some ⟨bi, oi, none⟩) n3 k3 z _ HN1.out (HRU _ hD0.1).1 (by have h1 := HN1.out; have h2 := HTL.out.2; omega)).mono ?_; rintro e W ⟨rfl, hb⟩; rw [HAT.out]; have hSn := hSof _ (zbT hD0.1 hb hD0.1.size); (try replace HQ := hide ((hb.block _ (blk_lt HQ.out)).trans HQ.out)); clear hb; (try dsimp only at hSn))
                          refine hK.out _ _ ?_ (fun hD1 => ?_)
                          · (try dsimp only); first | assumption | exact hSof _ (zbD (zbR _ _))
                          clear hK K hD0; try simp only [Act.put, zl, z0, z1]
                          refine takeT (v := ?_) 18 rfl (by kernel_rfl) (by kernel_rfl) (by kernel_rfl) (by kernel_rfl) (fun _ _ _ h => h) (Or.inl ⟨by rfl, ?_⟩) (by assumption) ?_; rotate_left
                          · (intro w hSw; (try dsimp only at hSw); go_simp; try with_reducible rfl)
                          try simp only [Act.put, zl, z0, z1]
                          refine takeT (v := ?_) 19 rfl (by kernel_rfl) (by kernel_rfl) (by kernel_rfl) (by kernel_rfl) (fun _ _ _ h => h) (Or.inl ⟨by rfl, ?_⟩) (by assumption) ?_; rotate_left
                          · (intro w hSw; (try dsimp only at hSw); go_simp; try with_reducible rfl)
                          try simp only [Act.put, zl, z0, z1]
                          refine wpAnyT_ready (rs := [20]) (by kernel_rfl) (by simp) ?_; refine consT 20 rfl (fun K hK => ?_) AllReadyT.nil
                          (go_simp; (first | refine capN (fun W qp hqp hQ hB => ?_) | refine capND (fun W qp hqp hQ hB => ?_)); have hSn := hSof _ (by first | exact hB _ _ hD1.1 hD1.1.size | exact hB _ _ (zbR _ _) (Nat.le_refl _)); have HQ := hide hQ; have HQL := hide (show u.heap.size ≤ qp from by rw [← hqp]; first | exact hD1.1.size | exact Nat.le_refl _); rw [hqp]; clear hQ hB hqp; (try dsimp only at hSn))
                          refine hK.out _ _ ?_ (fun hD2 => ?_)
                          · (try dsimp only); first | assumption | exact hSof _ (zbD (zbR _ _))
                          clear hK K hD1; try simp only [Act.put, zl, z0, z1]
                          refine wpAnyT_ready (rs := [21]) (by kernel_rfl) (by simp) ?_
                          refine lastT rfl (fun K hK => ?_)
                          (try dsimp only at hD2)
                          (have z0 := (blk_cell HQ.out 0).trans rfl; have fz0 := blk_frozen HQ.out 0; have z1 := (blk_cell HQ.out 1).trans rfl; have fz1 := blk_frozen HQ.out 1; have z2 := (blk_cell HQ.out 2).trans rfl; have fz2 := blk_frozen HQ.out 2; have z3 := (blk_cell HQ.out 3).trans rfl; have fz3 := blk_frozen HQ.out 3; have z4 := (blk_cell HQ.out 4).trans rfl; have fz4 := blk_frozen HQ.out 4; have z5 := (blk_cell HQ.out 5).trans rfl; have fz5 := blk_frozen HQ.out 5; have z6 := (blk_cell HQ.out 6).trans rfl; have fz6 := blk_frozen HQ.out 6; have lz := blk_lt HQ.out; (try dsimp only at z0 z1 z2 z3 z4 z5 z6); go_simp; clear z0 z1 z2 z3 z4 z5 z6 fz0 fz1 fz2 fz3 fz4 fz5 fz6 lz)
                          refine hK.out _ _ ?_
                          clear hK K
                          try simp only [Act.put, zl, z0, z1]
                          refine wpAnyT_done (by kernel_rfl) ?_ _
                          rotate_left 1
                          refine consT 20 rfl (fun K hK => ?_) AllReadyT.nil
                          (go_simp; (first | refine capN (fun W qp hqp hQ hB => ?_) | refine capND (fun W qp hqp hQ hB => ?_)); have hSn := hSof _ (by first | exact hB _ _ hD0.1 hD0.1.size | exact hB _ _ (zbR _ _) (Nat.le_refl _)); have HQ := hide hQ; have HQL := hide (show u.heap.size ≤ qp from by rw [← hqp]; first | exact hD0.1.size | exact Nat.le_refl _); rw [hqp]; clear hQ hB hqp; (try dsimp only at hSn))
                          refine hK.out _ _ ?_ (fun hD1 => ?_)
                          · (try dsimp only); first | assumption | exact hSof _ (zbD (zbR _ _))
                          clear hK K hD0; try simp only [Act.put, zl, z0, z1]
                          refine wpAnyT_ready (rs := [17]) (by kernel_rfl) (by simp) ?_; refine consT 17 rfl (fun K hK => ?_) AllReadyT.nil
                          (go_simp; go_at_call 25; refine (at_ref (some ⟨bp, op, none⟩) n1 k1 t.people a2 n2 k2 bk (some ⟨bi, oi, none⟩) n3 k3 z _ HN1.out (HRU _ hD1.1).1 (by have h1 := HN1.out; have h2 := HTL.out.2; omega)).mono ?_; rintro e W ⟨rfl, hb⟩; rw [HAT.out]; have hSn := hSof _ (zbT hD1.1 hb hD1.1.size); (try replace HQ := hide ((hb.block _ (blk_lt HQ.out)).trans HQ.out)); clear hb; (try dsimp only at hSn))
                          refine hK.out _ _ ?_ (fun hD2 => ?_)
                          · (try dsimp only); first | assumption | exact hSof _ (zbD (zbR _ _))
                          clear hK K hD1; try simp only [Act.put, zl, z0, z1]
                          refine takeT (v := ?_) 18 rfl (by kernel_rfl) (by kernel_rfl) (by kernel_rfl) (by kernel_rfl) (fun _ _ _ h => h) (Or.inl ⟨by rfl, ?_⟩) (by assumption) ?_; rotate_left
                          · (intro w hSw; (try dsimp only at hSw); go_simp; try with_reducible rfl)
                          try simp only [Act.put, zl, z0, z1]
                          refine takeT (v := ?_) 19 rfl (by kernel_rfl) (by kernel_rfl) (by kernel_rfl) (by kernel_rfl) (fun _ _ _ h => h) (Or.inl ⟨by rfl, ?_⟩) (by assumption) ?_; rotate_left
                          · (intro w hSw; (try dsimp only at hSw); go_simp; try with_reducible rfl)
                          try simp only [Act.put, zl, z0, z1]
                          refine wpAnyT_ready (rs := [21]) (by kernel_rfl) (by simp) ?_
                          refine lastT rfl (fun K hK => ?_)
                          (try dsimp only at hD2)
                          (have z0 := (blk_cell HQ.out 0).trans rfl; have fz0 := blk_frozen HQ.out 0; have z1 := (blk_cell HQ.out 1).trans rfl; have fz1 := blk_frozen HQ.out 1; have z2 := (blk_cell HQ.out 2).trans rfl; have fz2 := blk_frozen HQ.out 2; have z3 := (blk_cell HQ.out 3).trans rfl; have fz3 := blk_frozen HQ.out 3; have z4 := (blk_cell HQ.out 4).trans rfl; have fz4 := blk_frozen HQ.out 4; have z5 := (blk_cell HQ.out 5).trans rfl; have fz5 := blk_frozen HQ.out 5; have z6 := (blk_cell HQ.out 6).trans rfl; have fz6 := blk_frozen HQ.out 6; have lz := blk_lt HQ.out; (try dsimp only at z0 z1 z2 z3 z4 z5 z6); go_simp; clear z0 z1 z2 z3 z4 z5 z6 fz0 fz1 fz2 fz3 fz4 fz5 fz6 lz)
                          refine hK.out _ _ ?_
                          clear hK K
                          try simp only [Act.put, zl, z0, z1]
                          refine wpAnyT_done (by kernel_rfl) ?_ _
                          all_goals
                            (try dsimp only [Act.put, List.getElem_toArray, List.getElem_cons_succ, List.getElem_cons_zero])
                            (try simp only [zl, z0, z1])
                            have HBW := hide hSn.1
                            clear hSn hS hSof
                            obtain ⟨w9, hw9⟩ : ∃ q, (((((((W.setCell ⟨qp, 0, none⟩ (.int .i64 p.player)).setCell ⟨qp, 1, none⟩ (.int .i64 p.rank)).setCell ⟨qp, 2, none⟩ (.bool p.grd)).setCell ⟨qp, 3, none⟩ (.bool p.ent)).setCell ⟨qp, 4, none⟩ (.bool p.quit)).setCell ⟨qp, 5, none⟩ (.bool p.sgn)).setCell ⟨qp, 6, none⟩ (.bool p.card)) = q := ⟨_, rfl⟩
                            have HP9 := hide (show w9.heap[qp]? = some (.cells #[.int .i64 p.player, .int .i64 p.rank, .bool p.grd, .bool p.ent, .bool p.quit, .bool p.sgn, .bool p.card] 57 (0, 0)) by rw [← hw9]; exact blk_set (blk_set (blk_set (blk_set (blk_set (blk_set (blk_set HQ.out 0 _) 1 _) 2 _) 3 _) 4 _) 5 _) 6 _)
                            have HG9 := hide (show W.grownBy w9 (some qp) by rw [← hw9]; exact (gr_trans (gr_trans (gr_trans (gr_trans (gr_trans (gr_trans (gr_set _ _ _ _) (gr_set _ _ _ _)) (gr_set _ _ _ _)) (gr_set _ _ _ _)) (gr_set _ _ _ _)) (gr_set _ _ _ _)) (gr_set _ _ _ _)))
                            rw [hw9]
                            clear hw9 HQ
                            have HB9 := hide (HBW.out.trans (grown_below HG9.out HBW.out.size (fun g hg => by cases hg; exact HQL.out)))
                            have HNX9 := hide (HNU.out.kept HB9.out)
                            have g9 : w9.cell? ⟨qp, 2, none⟩ = some (.bool p.grd) := (blk_cell HP9.out 2).trans rfl
                            have lg9 := blk_lt HP9.out
                            by_cases hgr : p.grd = gb
                            · have hgi := HGI.out
                              rw [hgr] at g9
                              have HHIT := hide (show E.firstR t gb = some z from E.firstR_hit HZK.out (by rw [HPE.out]; exact hgr) HZ.out)
                              go_upto_region 25 with fail
                              clear g9 lg9 hgi
                              have HF9 := hide ((HB9.out.block _ (Nat.lt_of_lt_of_le (blk_lt HF7.out) (Nat.le_trans HBL.out.size HBLU.out.size))).trans ((HBLU.out.block _ (Nat.lt_of_lt_of_le (blk_lt HF7.out) HBL.out.size)).trans ((HBL.out.block _ (blk_lt HF7.out)).trans HF7.out)))
                              have HFL := hide (Nat.lt_of_lt_of_le (blk_lt HF7.out) HBL.out.size)
                              have HX9 := hide (show Sv.is ⟨some ⟨bp, op, none⟩, n1, k1, a2, n2, k2, bk, some ⟨bi, oi, none⟩, n3, k3⟩ w9.drew (fun b' => b' < wl.heap.size) t from HVT.out.to (Nat.le_trans HBLU.out.size HB9.out.size) (fun b' hb1 _ => (HB9.out.block b' (Nat.lt_of_lt_of_le hb1 HBLU.out.size)).trans (HBLU.out.block b' hb1)) (fun b' hb1 _ => hb1))
                              have HN9d := hide (HNX9.out.kept (zbD (zbR _ _)))
                              have hSof : ∀ w', w9.grownBy w' (Value.slice A3 m3 c3).ownBlock → (fun w' => w9.grownBy w' (Value.slice A3 m3 c3).ownBlock ∧ w'.cell? ⟨w.heap.size, 0, none⟩ = some (.int .i64 f.places) ∧ w'.cell? ⟨w.heap.size, 1, none⟩ = some (.int .i64 f.wilds) ∧ w'.cell? ⟨w.heap.size, 2, none⟩ = some (.int .i64 f.guards) ∧ w'.cell? ⟨w.heap.size, 3, none⟩ = some (.int .i64 f.close) ∧ w'.cell? ⟨w.heap.size, 4, none⟩ = some (.int .i64 f.freeze) ∧ w'.cell? ⟨b, o + i * 4, none⟩ = some (.slice (some ⟨bp, op, none⟩) n1 k1) ∧ w'.cell? ⟨b, o + i * 4 + 1, none⟩ = some (.slice a2 n2 k2) ∧ w'.cell? ⟨b, o + i * 4 + 2, none⟩ = some (.int .i64 bk) ∧ w'.cell? ⟨b, o + i * 4 + 3, none⟩ = some (.slice (some ⟨bi, oi, none⟩) n3 k3) ∧ w'.cell? ⟨qp, 0, none⟩ = some (.int .i64 z) ∧ w.heap.size < w'.heap.size ∧ b < w'.heap.size ∧ qp < w'.heap.size) w' := fun w' hb => by
                                have lo : ∀ b', b' < wl.heap.size → some b' ≠ (Value.slice A3 m3 c3).ownBlock := fun b' hb1 e => by have := (HNX9.out.own.lt b' e.symm).1; omega
                                have hF := (hb.block _ (blk_lt HF9.out) (lo _ HFL.out)).trans HF9.out
                                have hP := (hb.block qp (blk_lt HP9.out) (fun e => by have h1 := (HNU.out.own.lt qp e.symm).2; have h2 := HQL.out; omega)).trans HP9.out
                                have hc : ∀ j, w'.cell? ⟨b, j, none⟩ = u.cell? ⟨b, j, none⟩ := fun j => by
                                  unfold World.cell?
                                  rw [hb.block b (Nat.lt_of_lt_of_le hbU HB9.out.size) (lo b HD.out.1), HB9.out.block b hbU]
                                obtain ⟨e0, e1, e2, e3⟩ := HDU.out
                                exact ⟨hb, (blk_cell hF 0).trans rfl, (blk_cell hF 1).trans rfl, (blk_cell hF 2).trans rfl, (blk_cell hF 3).trans rfl, (blk_cell hF 4).trans rfl, (hc _).trans e0, (hc _).trans e1, (hc _).trans e2, (hc _).trans e3, ((blk_cell hP 0).trans rfl).trans (show some (Value.int .i64 p.player) = some (Value.int .i64 z) by rw [HPZ.out]), blk_lt hF, Nat.lt_of_lt_of_le hbU (Nat.le_trans HB9.out.size hb.size), blk_lt hP⟩
                              have hS : (fun w' => w9.grownBy w' (Value.slice A3 m3 c3).ownBlock ∧ w'.cell? ⟨w.heap.size, 0, none⟩ = some (.int .i64 f.places) ∧ w'.cell? ⟨w.heap.size, 1, none⟩ = some (.int .i64 f.wilds) ∧ w'.cell? ⟨w.heap.size, 2, none⟩ = some (.int .i64 f.guards) ∧ w'.cell? ⟨w.heap.size, 3, none⟩ = some (.int .i64 f.close) ∧ w'.cell? ⟨w.heap.size, 4, none⟩ = some (.int .i64 f.freeze) ∧ w'.cell? ⟨b, o + i * 4, none⟩ = some (.slice (some ⟨bp, op, none⟩) n1 k1) ∧ w'.cell? ⟨b, o + i * 4 + 1, none⟩ = some (.slice a2 n2 k2) ∧ w'.cell? ⟨b, o + i * 4 + 2, none⟩ = some (.int .i64 bk) ∧ w'.cell? ⟨b, o + i * 4 + 3, none⟩ = some (.slice (some ⟨bi, oi, none⟩) n3 k3) ∧ w'.cell? ⟨qp, 0, none⟩ = some (.int .i64 z) ∧ w.heap.size < w'.heap.size ∧ b < w'.heap.size ∧ qp < w'.heap.size) w9 := hSof _ (World.grownBy.refl _ _)
                              (try dsimp only at hS)
                              refine wp_region_held_drew (S := (fun w' => w9.grownBy w' (Value.slice A3 m3 c3).ownBlock ∧ w'.cell? ⟨w.heap.size, 0, none⟩ = some (.int .i64 f.places) ∧ w'.cell? ⟨w.heap.size, 1, none⟩ = some (.int .i64 f.wilds) ∧ w'.cell? ⟨w.heap.size, 2, none⟩ = some (.int .i64 f.guards) ∧ w'.cell? ⟨w.heap.size, 3, none⟩ = some (.int .i64 f.close) ∧ w'.cell? ⟨w.heap.size, 4, none⟩ = some (.int .i64 f.freeze) ∧ w'.cell? ⟨b, o + i * 4, none⟩ = some (.slice (some ⟨bp, op, none⟩) n1 k1) ∧ w'.cell? ⟨b, o + i * 4 + 1, none⟩ = some (.slice a2 n2 k2) ∧ w'.cell? ⟨b, o + i * 4 + 2, none⟩ = some (.int .i64 bk) ∧ w'.cell? ⟨b, o + i * 4 + 3, none⟩ = some (.slice (some ⟨bi, oi, none⟩) n3 k3) ∧ w'.cell? ⟨qp, 0, none⟩ = some (.int .i64 z) ∧ w.heap.size < w'.heap.size ∧ b < w'.heap.size ∧ qp < w'.heap.size)) (by kernel_rfl) ?_ (fun hD0 => ?_)
                              · (try dsimp only); first | assumption | exact hSof _ (gr_none_drew _ _)
                              refine tW ?_ 0 rfl (by kernel_rfl) (fun _ _ _ h => h) (by rfl) (by assumption) ?_ ?_; rotate_left; (focus (intro w hSw; (try dsimp only at hSw); go_simp; try with_reducible rfl)); try simp only [Act.put, zl, z0, z1]
                              refine tW ?_ 1 rfl (by kernel_rfl) (fun _ _ _ h => h) (by rfl) (by assumption) ?_ ?_; rotate_left; (focus (intro w hSw; (try dsimp only at hSw); go_simp; try with_reducible rfl)); try simp only [Act.put, zl, z0, z1]
                              refine tW ?_ 2 rfl (by kernel_rfl) (fun _ _ _ h => h) (by rfl) (by assumption) ?_ ?_; rotate_left; (focus (intro w hSw; (try dsimp only at hSw); go_simp; try with_reducible rfl)); try simp only [Act.put, zl, z0, z1]
                              refine tW ?_ 3 rfl (by kernel_rfl) (fun _ _ _ h => h) (by rfl) (by assumption) ?_ ?_; rotate_left; (focus (intro w hSw; (try dsimp only at hSw); go_simp; try with_reducible rfl)); try simp only [Act.put, zl, z0, z1]
                              refine tW ?_ 4 rfl (by kernel_rfl) (fun _ _ _ h => h) (by rfl) (by assumption) ?_ ?_; rotate_left; (focus (intro w hSw; (try dsimp only at hSw); go_simp; try with_reducible rfl)); try simp only [Act.put, zl, z0, z1]
                              refine tW ?_ 5 rfl (by kernel_rfl) (fun _ _ _ h => h) (by rfl) (by assumption) ?_ ?_; rotate_left; (focus (intro w hSw; (try dsimp only at hSw); go_simp; try with_reducible rfl)); try simp only [Act.put, zl, z0, z1]
                              refine tW ?_ 6 rfl (by kernel_rfl) (fun _ _ _ h => h) (by rfl) (by assumption) ?_ ?_; rotate_left; (focus (intro w hSw; (try dsimp only at hSw); go_simp; try with_reducible rfl)); try simp only [Act.put, zl, z0, z1]
                              refine tW ?_ 7 rfl (by kernel_rfl) (fun _ _ _ h => h) (by rfl) (by assumption) ?_ ?_; rotate_left; (focus (intro w hSw; (try dsimp only at hSw); go_simp; try with_reducible rfl)); try simp only [Act.put, zl, z0, z1]
                              refine tW ?_ 8 rfl (by kernel_rfl) (fun _ _ _ h => h) (by rfl) (by assumption) ?_ ?_; rotate_left; (focus (intro w hSw; (try dsimp only at hSw); go_simp; try with_reducible rfl)); try simp only [Act.put, zl, z0, z1]
                              refine wpAnyH_ready (rs := [9]) (by kernel_rfl) (by simp) ?_; refine consL 9 rfl (fun K hK => ?_) AllReadyH.nil
                              (go_simp; go_at_call 27; refine (Quit_ref takeP_holds f ⟨some ⟨bp, op, none⟩, n1, k1, a2, n2, k2, bk, some ⟨bi, oi, none⟩, n3, k3⟩ t h z (fun b' => b' < wl.heap.size) _ HX9.out HOK.out HPL.out).mono ?_; rintro e w11 ⟨v11, rfl, hv11, hb11⟩; have HN11 := hide (HN9d.out.kept hb11); have hSn := hSof _ (gr_trans hD0.1 (gr_wide (gr_of hb11))); have HV11 := hide hv11; have HZ11 := hide hb11.size; clear hv11 hb11; (try dsimp only at hSn))
                              refine hK.out _ _ ?_ (fun hD1 => ?_)
                              · (try dsimp only); first | assumption | exact hSof _ (gr_none_drew _ _)
                              clear hK K hD0; try simp only [Act.put, zl, z0, z1]
                              refine wpAnyH_ready (rs := [10]) (by kernel_rfl) (by simp) ?_; refine consL 10 rfl (fun K hK => ?_) AllReadyH.nil
                              (go_simp; go_at_call 26; refine (added_ref wl.heap.size A3 m3 c3 vs3 (AX g) v11 (E.stepR f h t z) _ HN11.out.own HN11.out.len HN11.out.hold (HV11.out.to (Nat.le_refl _) (fun _ _ _ => rfl) (fun b' hb1 hk => by intro e; obtain ⟨h1, h2⟩ := HN9d.out.own.lt b' e.symm; rcases hk with h3 | h3 <;> omega)) (by have h1 := HN11.out.mlen; have h2 := HLA.out; have h3 := HM20.out; omega) (fun t' ht' => by have h1 := (HLEV.out.len _ _ (HN11.out.lv t' ht')).1; omega) (by have h1 := (HLEV.out.len _ _ HLZ.out).1; omega) HN11.out.below.size).mono ?_; rintro e w12 ⟨A5, m5, c5, vs5, rfl, hl5, ho5, hh5, hg5, hloc5⟩; have hSn := hSof _ (gr_trans hD1.1 hg5); have HN12 := hide (show NextW Lv wl w12 A5 m5 c5 vs5 (E.addS E.Rs.ins (AX g) (E.stepR f h t z)) q from ⟨HN11.out.below.trans (grown_below hg5 HN11.out.below.size (fun g' hg' => (HN11.out.own.lt g' hg').1)), ho5, hl5, hh5, fun t' ht' => by rcases E.addS_mem ht' with h1 | h1; exact HN11.out.lv t' h1; rw [h1]; exact HLZ.out⟩); clear hl5 ho5 hh5 hg5 hloc5; (try dsimp only at hSn))
                              refine hK.out _ _ ?_ (fun hD2 => ?_)
                              · (try dsimp only); first | assumption | exact hSof _ (gr_none_drew _ _)
                              clear hK K hD1; try simp only [Act.put, zl, z0, z1]
                              refine tW ?_ 11 rfl (by kernel_rfl) (fun _ _ _ h => h) (by rfl) (by assumption) ?_ ?_; rotate_left; (focus (intro w hSw; (try dsimp only at hSw); go_simp; try with_reducible rfl)); try simp only [Act.put, zl, z0, z1]
                              refine wpAnyH_done (by kernel_rfl) ?_ _
                              (try dsimp only [Act.put, List.getElem_toArray, List.getElem_cons_succ, List.getElem_cons_zero])
                              (try simp only [zl, z0, z1])
                              clear hSn hS hSof
                              have HAN := hide (show AX (g + 1) = E.addS E.Rs.ins (AX g) (E.stepR f h t z) from by rw [HGS.out, HHIT.out])
                              go_wp2_with fail
                              go_roundw
                              case rel => exact ⟨g + 1, A5, m5, c5, vs5, by omega, rfl, by go_num, hide (by rw [HAN.out]; exact HN12.out), hide (by rw [HAN.out]; have h1 := E.addS_len (l := AX g) (s := E.stepR f h t z); have h2 := HLA.out; omega)⟩
                              case measure => simp [intOf]; omega
                            · have hgq : (p.grd == ((g : Int) == 1)) = false := by rw [HGI.out, beq_eq_false_iff_ne]; exact hgr
                              go_wp2_with fail
                              go_roundw
                              case rel => exact ⟨k + 1, by omega, rfl, by go_num, hide (fun j z' hj hz' => by
                                  by_cases e : j = k
                                  · subst e
                                    rw [HZK.out] at hz'
                                    rw [← Option.some.inj hz', HPE.out]
                                    exact hgr
                                  · exact HZ.out j z' (by omega) hz'), hide (zbT HBU.out HB9.out HBU.out.size)⟩
                              case measure => simp [intOf]; omega
                        · have hkn : k = n3 := by omega
                          subst hkn
                          have HMISS := hide (show AX (g + 1) = AX g from by rw [HGS.out, E.firstR_miss (fun j z hj => HZ.out j z (by have h1 := (List.getElem?_eq_some_iff.1 hj).1; have h2 := HN3.out; omega) hj)])
                          go_wp2_with fail
                          go_roundw
                          case rel => exact ⟨g + 1, A3, m3, c3, vs3, by omega, rfl, by go_num, hide (by rw [HMISS.out]; exact HNU.out), hide (by rw [HMISS.out]; have := HLA.out; omega)⟩
                          case measure => simp [intOf]; omega
                    · have hg3 : g = 2 := by omega
                      subst hg3
                      have HN2 := hide (show NX (i + 1) = AX 2 from by rw [HNX.out, HAX.out, E.nexts_step HTI.out, HNX.out])
                      have hmb := HMB.out
                      go_wp2_with fail
                      go_roundw
                      case rel => exact ⟨i + 1, A3, m3, c3, vs3, by omega, rfl, by go_num, hide (fun j t' hj ht' => by
                          by_cases e : j = i
                          · subst e
                            rw [HTI.out] at ht'
                            rw [← Option.some.inj ht']
                            exact HCB.out
                          · exact HJ.out j t' (by omega) ht'), hide (by rw [HN2.out]; exact HNG.out), hide (by rw [HN2.out]; have := HLA.out; omega)⟩
                      case measure => simp [intOf]; omega
                · have HYES := hide (show oo = some (q : Int) from by rw [HOR.out, ← HFR.out, E.find_yes HTI.out HCB.out]; rfl)
                  go_wp2_with (go_at_call 21; refine HIN.out.mono ?_; rintro e w' ⟨rfl, rfl⟩)
                  refine bodyPost_ret (v := .tuple #[.int .i64 q, .int .i64 0]) (by simp [results, Tryz.results9, go_sem]) rfl ⟨?_, zbT HBW7.out (zbT HBL.out HNR.out.below HBL.out.size) HBW7.out.size⟩
                  rw [← HVV.out, HYES.out]
                  rfl
              · have him : i = m1 := by omega
                subst him
                have HFN := hide (E.find_on (f := f) (h := h) (y := y) (m := fu) (n := q) HNE.out (fun j t hj => HJ.out j t (by have h1 := (List.getElem?_eq_some_iff.1 hj).1; have h2 := HSL.out; omega) hj))
                have HNXE := hide (show NX i = E.nextsS E.Rs.ins E.repsR (E.stepR f h) ss [] from by rw [HNX.out, List.take_of_length_le (by have := HSL.out; omega)])
                have HCN := hide (show (NX i).length ≤ 2 ^ (q + 1) from by
                  have h1 := HLN.out
                  have h2 := HNW.out.cnt
                  have h3 := HSL.out
                  rw [Nat.pow_succ]
                  omega)
                have hq20 := HQ20.out
                go_wp2_with fail
                go_roundw
                case rel => exact ⟨q + 1, A2, m2, c2, vs2, NX i, by omega, rfl, by go_num, hide HNR.out.len, hide (HNR.out.now HCN.out), hide (by rw [show 61 - (q + 1) = fu from (by have := HFU.out; omega), HNXE.out, ← HFN.out]; exact HFR.out), hide (zbT HBL.out HNR.out.below HBL.out.size)⟩
                case measure => simp [intOf]; omega
          · have hm0 : m1 = 0 := by omega
            subst hm0
            have HNONE := hide (show oo = none from by
              have e : ss = [] := List.length_eq_zero_iff.1 HSL.out
              rw [HOR.out, ← HFR.out, e, E.find_nil]; rfl)
            go_wp2_with fail
            refine bodyPost_ret (v := .tuple #[.int .i64 0, .int .i64 3]) (by simp [results, Tryz.results9, go_sem]) rfl ⟨?_, zbT HBW7.out HBL.out HBW7.out.size⟩
            rw [← HVV.out, HNONE.out]
            rfl
      · have HNONE := hide (show oo = none from HOO.out.trans (if_pos (by have := HBB.out; rw [decide_eq_true_eq] at this; exact this)))
        go_wp2_with fail
        refine bodyPost_ret (v := .tuple #[.int .i64 0, .int .i64 3]) (by simp [results, Tryz.results9, go_sem]) rfl ⟨?_, HBW7.out⟩
        rw [← HVV.out, HNONE.out]
        rfl
  · go_wp2_with fail
    refine bodyPost_ret (v := .tuple #[.int .i64 0, .int .i64 e0]) (by simp [results, Tryz.results9, go_sem]) rfl ⟨?_, HBW1.out⟩
    rw [← HVV.out]
    unfold OptV
    rw [if_neg q0]
end Go.Proofs.YtobjahlmjcnfoaaGreat

namespace Go.Proofs.YtobjahlmjcnfoaaGreat
open Go.RowKit Go.Sort
attribute [local go_sem ↓] Go.wp_at_zero Go.wp_at_succ

theorem lastOf_step {α : Type} (q : α → Bool) (v : α → Int) {l : List α} {k : Nat} {x : α} (h : l[k]? = some x) : E.lastOf q v (l.take (k + 1)) none = if q x then some (v x) else E.lastOf q v (l.take k) none := by
  unfold E.lastOf
  rw [List.take_add_one, h, List.foldl_append]
  rfl
def cutK (s : E.St) (k : Nat) : Option Int := E.lastOf (fun k => !(s.pl k).grd && s.main.contains k) (fun k => (s.pl k).rank) (s.order.take k) none
def cutRank (o : Option Int) : Int := o.getD 0
theorem CutK_val (o : Option Int) : NeedsVal o = .tuple #[.int .i64 (cutRank o), .bool o.isSome] := by cases o <;> rfl
set_option maxHeartbeats 6400000 in
set_option maxRecDepth 100000 in
theorem cut_any (base L B n : Nat) (s : E.St) (mv cv : Value) (w : World) (h : LAt w base L B n s mv cv) (ok : E.StOk s) (hn : n ≤ 1000) (hml : s.main.length ≤ 1000) :
    Calls Tryz.prog 17 #[.pointer (some ⟨L, 0, none⟩)] w fun e w' => e = .returned (NeedsVal (E.cutS s)) ∧ Below w.heap.size w w' := by
  have HL := hide h
  have OK := hide ok
  have HN := hide hn
  have HML := hide hml
  clear h ok hn hml
  go_enter Tryz.func17, Tryz.ntmps17
  go_wp2_with (go_at_call 36; refine (order_raw sortP_holds L B n s.pl (fun k => decide (k ∈ s.known)) w ((HL.out.c 5).trans rfl) HL.out.lt HL.out.map HN.out).mono ?_; rintro e w2 ⟨A, m, c, vis, ys, rfl, ho, hb, hnd, hiff, hp, hs, hv⟩; have HO := hide ho; have HB2 := hide hb; have HYS := hide (show ys = s.order by refine E.order_eq OK.out (hp.trans ?_) hs; refine List.Perm.filter _ ((List.perm_ext_iff_of_nodup hnd OK.out.known).2 (fun k => ?_)); rw [hiff k, decide_eq_true_eq]; exact ⟨fun h => h.2.2, fun h => ⟨(OK.out.range k h).1, (OK.out.range k h).2, h⟩⟩); have HLV := hide (show ys.length ≤ 1000 by have e1 := hp.length_eq; have e2 := List.length_filter_le (fun k => (s.pl k).entry) vis; have := HN.out; omega); clear ho hb hnd hiff hp hs hv)
  have hys := HYS.out
  subst hys
  have hm : m = s.order.length := by have := HO.out.1; rw [flatI_length] at this; omega
  have HM := hide hm
  have HL2 := hide (HL.out.below HB2.out)
  clear hm
  go_loopw [2, 3, 5, 6, 10] (fun v2 v3 v5 v6 v10 wr => ∃ k : Nat, k ≤ m ∧ v10 = .int .i64 k ∧ (∃ (r : Int) (b : Bool), v2 = .int .i64 r ∧ v3 = .bool b ∧ Hid (r = cutRank (cutK s k)) ∧ Hid (b = (cutK s k).isSome)) ∧ Hid (Below w2.heap.size w2 wr)) (fun _ _ _ _ v10 _ => m - (intOf v10).toNat)
  case atStart => exact ⟨0, by omega, rfl, ⟨0, false, rfl, rfl, hide rfl, hide rfl⟩, hide (Below.refl _ _)⟩
  case round =>
    obtain ⟨k, hk, rfl, ⟨r0, b0, rfl, rfl, HR0, HB0⟩, HBR⟩ := hrel
    have hm1000 : m ≤ 1000 := by have h1 := HLV.out; have h2 := HM.out; omega
    by_cases hlt : k < m
    · obtain ⟨y, hy⟩ : ∃ q, s.order[k]? = some q := ⟨_, List.getElem?_eq_getElem (by have := HM.out; omega)⟩
      have HY := hide hy
      obtain ⟨b, o, hA, hbB, c0⟩ := (owns_RdI (owns_below HO.out HBR.out) HM.out.symm) k y hy
      subst hA
      obtain ⟨x, hx⟩ : ∃ x, s.pl y = x := ⟨_, rfl⟩
      have HX := hide hx
      have HLR := hide (HL2.out.below HBR.out)
      have hyr : 0 ≤ y ∧ y ≤ 999 := OK.out.range y (E.order_mem.1 (List.mem_of_getElem? hy)).1
      have hlk : (Instr.lookup 80 (.map (some B)) (.int .i64 y) false).run Tryz.prog wr = .ok (.agg #[.bool x.ent, .bool x.grd, .bool x.card, .bool x.quit, .bool x.sgn, .int .i64 x.rank, .int .i64 x.turn]) wr := by
        have := HLR.out.map.look Tryz.underlying80 zeroP hyr.1 hyr.2
        rw [show s.pl y = x from hx] at this
        exact this
      obtain ⟨Am, cm, hmv⟩ := own_form HLR.out.main
      have k1 : wr.cell? ⟨L, 5, none⟩ = some (.map (some B)) := (HLR.out.c 5).trans rfl
      have lL := HLR.out.lt
      have hlt' : (k : Int) < (m : Int) := by omega
      have hk0 : (0 : Int) ≤ (k : Int) := by omega
      have HST := hide (show cutK s (k + 1) = if (!(s.pl y).grd && s.main.contains y) = true then some (s.pl y).rank else cutK s k from lastOf_step _ _ hy)
      clear hy hx hyr
      go_upto_region 5 with fail
      obtain ⟨qp, hqp⟩ : ∃ q, wr.heap.size = q := ⟨_, rfl⟩
      obtain ⟨w3, hw3⟩ : ∃ q, wr.alloc (.cells #[.bool x.ent, .bool x.grd, .bool x.card, .bool x.quit, .bool x.sgn, .int .i64 x.rank, .int .i64 x.turn] 79) = q := ⟨_, rfl⟩
      have HB3 := hide (show Below wr.heap.size wr w3 by rw [← hw3]; (repeat' first | exact zbR _ _ | assumption | refine zbD ?_ | refine zbA ?_ ?_ _ | refine zbS ?_ ?_ _ | refine zbT ?_ (by assumption) ?_ | (simp; done) | (simp; omega) | omega))
      have HP3 := hide (show w3.heap[qp]? = some (.cells #[.bool x.ent, .bool x.grd, .bool x.card, .bool x.quit, .bool x.sgn, .int .i64 x.rank, .int .i64 x.turn] 79 (0, 0)) by rw [← hw3, ← hqp]; exact World.alloc_heap_new _ _)
      rw [hw3, hqp]
      clear hw3 hqp hlk k1 c0 lL
      have HBW := hide (zbT HBR.out HB3.out HBR.out.size)
      have HLS := hide (HLR.out.below HB3.out)
      have p1 : w3.cell? ⟨qp, 1, none⟩ = some (.bool x.grd) := (blk_cell HP3.out 1).trans rfl
      have p5 : w3.cell? ⟨qp, 5, none⟩ = some (.int .i64 x.rank) := (blk_cell HP3.out 5).trans rfl
      have lp := blk_lt HP3.out
      have l7 : w3.cell? ⟨L, 7, none⟩ = some (.slice Am s.main.length cm) := (HLS.out.c 7).trans (by rw [hmv]; rfl)
      have lL := HLS.out.lt
      have hown := HLS.out.main
      rw [hmv] at hown
      have HCT := hide (contains_any Am s.main.length cm s.main y w3 rfl (owns_RdI hown rfl) (by have := HML.out; omega))
      obtain ⟨cb, hcb⟩ : ∃ q, s.main.contains y = q := ⟨_, rfl⟩
      have HCB := hide hcb
      rw [hcb] at HCT
      clear hcb hown hmv
      obtain ⟨gb, hgb⟩ : ∃ q, x.grd = q := ⟨_, rfl⟩
      have HG := hide hgb
      rw [hgb] at p1
      clear hgb
      cases gb
      · cases cb
        · have HS := hide (show cutK s (k + 1) = cutK s k by rw [HST.out, HX.out, HG.out, HCB.out]; rfl)
          go_wp2_with (go_at_call 37; refine HCT.out.mono ?_; rintro e w' ⟨rfl, rfl⟩)
          go_roundw
          case rel => exact ⟨k + 1, by omega, by go_num, ⟨r0, b0, rfl, rfl, hide (by rw [HS.out]; exact HR0.out), hide (by rw [HS.out]; exact HB0.out)⟩, HBW⟩
          case measure => simp [intOf]; omega
        · have HS := hide (show cutK s (k + 1) = some x.rank by rw [HST.out, HX.out, HG.out, HCB.out]; rfl)
          go_wp2_with (go_at_call 37; refine HCT.out.mono ?_; rintro e w' ⟨rfl, rfl⟩)
          go_roundw
          case rel => exact ⟨k + 1, by omega, by go_num, ⟨x.rank, true, rfl, rfl, hide (by rw [HS.out]; rfl), hide (by rw [HS.out]; rfl)⟩, HBW⟩
          case measure => simp [intOf]; omega
      · have HS := hide (show cutK s (k + 1) = cutK s k by rw [HST.out, HX.out, HG.out]; rfl)
        go_wp2_with fail
        go_roundw
        case rel => exact ⟨k + 1, by omega, by go_num, ⟨r0, b0, rfl, rfl, hide (by rw [HS.out]; exact HR0.out), hide (by rw [HS.out]; exact HB0.out)⟩, HBW⟩
        case measure => simp [intOf]; omega
    · have hkn : k = m := by omega
      subst hkn
      have HFIN := hide (show E.cutS s = cutK s k by unfold cutK; rw [List.take_of_length_le (by have := HM.out; omega)]; rfl)
      go_wp2_with fail
      refine bodyPost_ret (v := .tuple #[.int .i64 r0, .bool b0]) (by simp [results, Tryz.results17, go_sem]) rfl ⟨?_, zbT HB2.out HBR.out HB2.out.size⟩
      rw [HFIN.out, CutK_val, ← HR0.out, ← HB0.out]

def cutV (f : E.Fd) (l : List E.Nt) (h : Int) : Option Int := match E.diffs l with | some d => E.cutS (E.atL f h d) | none => none
def CutPost (f : E.Fd) (l : List E.Nt) (h : Int) : Value := if E.errE f l h 0 = 0 then (match cutV f l h with | some q => .tuple #[.int .i64 q, .int .i64 0] | none => .tuple #[.int .i64 0, .int .i64 3]) else .tuple #[.int .i64 0, .int .i64 (E.errE f l h 0)]
set_option maxHeartbeats 6400000 in
set_option maxRecDepth 100000 in
theorem Cut_any (f : E.Fd) (A : Option Addr) (n c : Nat) (l : List E.Nt) (h : Int) (w : World) (hn : l.length = n) (hr : RdN w w.heap.size A l) (hid : ∀ x ∈ l, (Lit.int .i64 x.id).wf = true) (hm : n ≤ 1000000) :
    Calls Tryz.prog 6 #[.agg #[.int .i64 f.places, .int .i64 f.wilds, .int .i64 f.guards, .int .i64 f.close, .int .i64 f.freeze], .slice A n c, .int .i64 h] w fun e w' => e = .returned (CutPost f l h) ∧ Below w.heap.size w w' := by
  have HN := hide hn
  have HR := hide hr
  have HID := hide hid
  have HM := hide hm
  clear hn hr hid hm
  by_cases h0 : E.errE f l h 0 = 0
  · have HC := hide h0
    have HPB := hide (show 0 ≤ f.places ∧ f.places ≤ 32 from ⟨by have := (E.valid_places (E.errE_ok h0).2.1).1; omega, (E.valid_places (E.errE_ok h0).2.1).2⟩)
    clear h0
    have HPR := hide (E.errE_ok HC.out).2.2.2
    cases hnv0 : cutV f l h with
    | none =>
      have hnv : cutV f l h = none := hnv0
      clear hnv0
      go_enter Tryz.func6, Tryz.ntmps6
      go_wp2_with (first | (go_at_call 15; refine (openFor_any f A n c l h 0 _ HN.out ((HR.out.below (by (repeat' first | exact zbR _ _ | assumption | refine zbD ?_ | refine zbA ?_ ?_ _ | refine zbS ?_ ?_ _ | refine zbT ?_ (by assumption) ?_ | (simp; done) | (simp; omega) | omega))).mono (by first | (simp; done) | (simp; omega))) HID.out HM.out).mono ?_; rintro e w2 hd2; have hb2 := hd2.2; have HB2 := hide (zbT (show Below w.heap.size w (w.alloc (.cells #[.int .i64 f.places, .int .i64 f.wilds, .int .i64 f.guards, .int .i64 f.close, .int .i64 f.freeze] 23)) by (repeat' first | exact zbR _ _ | assumption | refine zbD ?_ | refine zbA ?_ ?_ _ | refine zbS ?_ ?_ _ | refine zbT ?_ (by assumption) ?_ | (simp; done) | (simp; omega) | omega)) hb2 (by first | (simp; done) | (simp; omega)));  obtain ⟨(⟨h0, _⟩ | ⟨_, d, A3, c3, hdf, rfl, ho3⟩), _⟩ := hd2; (exact absurd HC.out h0); unfold bookVal; have HDF := hide hdf; have HO3 := hide (owns_mono ho3 (show w.heap.size ≤ _ by first | (simp; done) | (simp; omega))); have HDL := hide (E.diffs_len hdf); have HPL := hide (show ∀ x ∈ d, 0 ≤ x.player ∧ x.player ≤ 999 from fun x hx => E.valid_player ((E.diffs_spec hdf).2.1.valid x hx)); clear hb2 hdf ho3) | (go_at_call 16; refine (at_any f A3 d.length c3 d h (w2.alloc (.cells #[.int .i64 f.places, .int .i64 f.wilds, .int .i64 f.guards, .int .i64 f.close, .int .i64 f.freeze, .slice A3 d.length c3] 43)) HPB.out.1 HPB.out.2 rfl (owns_RdN (HO3.out.kept (World.grownBy_alloc _ _ none) (Classical.em _)) rfl) HDL.out HPL.out).mono ?_; rintro e w4 ⟨L, B, mv, cv, rfl, hl4, hb4⟩; have HL4 := hide hl4; have HB4 := hide (zbT (HB2.out.trans (zbA (zbR w.heap.size w2) HB2.out.size (.cells #[.int .i64 f.places, .int .i64 f.wilds, .int .i64 f.guards, .int .i64 f.close, .int .i64 f.freeze, .slice A3 d.length c3] 43))) hb4 (by have := HB2.out.size; simp; omega)); have HBS4 := hide (show (w2.alloc (.cells #[.int .i64 f.places, .int .i64 f.wilds, .int .i64 f.guards, .int .i64 f.close, .int .i64 f.freeze, .slice A3 d.length c3] 43)).heap.size ≤ w4.heap.size from hb4.size); have HBS0 := hide (show w.heap.size ≤ (w2.alloc (.cells #[.int .i64 f.places, .int .i64 f.wilds, .int .i64 f.guards, .int .i64 f.close, .int .i64 f.freeze, .slice A3 d.length c3] 43)).heap.size by have := HB2.out.size; simp; omega); clear hl4 hb4) | (go_at_call 17; obtain ⟨⟨nL, hnL, hlat⟩, hokL, hbdL⟩ := HL4.out; refine (cut_any _ L B nL (E.atL f h d) mv cv w4 hlat hokL (by have := HDL.out; omega) (by have h1 := hbdL.main; have := HDL.out; omega)).mono ?_; rintro e w5 ⟨rfl, hb5⟩; have HB5 := hide (zbT HB4.out hb5 HB4.out.size); have HNV := hide (show cutV f l h = E.cutS (E.atL f h d) by unfold cutV; rw [HDF.out]); rw [← HNV.out, hnv]; unfold NeedsVal; clear hb5))
      refine bodyPost_ret (v := .tuple #[.int .i64 0, .int .i64 3]) (by simp [results, Tryz.results6, go_sem]) rfl ?_
      exact ⟨by unfold CutPost; rw [if_pos HC.out, hnv], HB5.out⟩
    | some z =>
      have hnv : cutV f l h = some z := hnv0
      clear hnv0
      go_enter Tryz.func6, Tryz.ntmps6
      go_wp2_with (first | (go_at_call 15; refine (openFor_any f A n c l h 0 _ HN.out ((HR.out.below (by (repeat' first | exact zbR _ _ | assumption | refine zbD ?_ | refine zbA ?_ ?_ _ | refine zbS ?_ ?_ _ | refine zbT ?_ (by assumption) ?_ | (simp; done) | (simp; omega) | omega))).mono (by first | (simp; done) | (simp; omega))) HID.out HM.out).mono ?_; rintro e w2 hd2; have hb2 := hd2.2; have HB2 := hide (zbT (show Below w.heap.size w (w.alloc (.cells #[.int .i64 f.places, .int .i64 f.wilds, .int .i64 f.guards, .int .i64 f.close, .int .i64 f.freeze] 23)) by (repeat' first | exact zbR _ _ | assumption | refine zbD ?_ | refine zbA ?_ ?_ _ | refine zbS ?_ ?_ _ | refine zbT ?_ (by assumption) ?_ | (simp; done) | (simp; omega) | omega)) hb2 (by first | (simp; done) | (simp; omega)));  obtain ⟨(⟨h0, _⟩ | ⟨_, d, A3, c3, hdf, rfl, ho3⟩), _⟩ := hd2; (exact absurd HC.out h0); unfold bookVal; have HDF := hide hdf; have HO3 := hide (owns_mono ho3 (show w.heap.size ≤ _ by first | (simp; done) | (simp; omega))); have HDL := hide (E.diffs_len hdf); have HPL := hide (show ∀ x ∈ d, 0 ≤ x.player ∧ x.player ≤ 999 from fun x hx => E.valid_player ((E.diffs_spec hdf).2.1.valid x hx)); clear hb2 hdf ho3) | (go_at_call 16; refine (at_any f A3 d.length c3 d h (w2.alloc (.cells #[.int .i64 f.places, .int .i64 f.wilds, .int .i64 f.guards, .int .i64 f.close, .int .i64 f.freeze, .slice A3 d.length c3] 43)) HPB.out.1 HPB.out.2 rfl (owns_RdN (HO3.out.kept (World.grownBy_alloc _ _ none) (Classical.em _)) rfl) HDL.out HPL.out).mono ?_; rintro e w4 ⟨L, B, mv, cv, rfl, hl4, hb4⟩; have HL4 := hide hl4; have HB4 := hide (zbT (HB2.out.trans (zbA (zbR w.heap.size w2) HB2.out.size (.cells #[.int .i64 f.places, .int .i64 f.wilds, .int .i64 f.guards, .int .i64 f.close, .int .i64 f.freeze, .slice A3 d.length c3] 43))) hb4 (by have := HB2.out.size; simp; omega)); have HBS4 := hide (show (w2.alloc (.cells #[.int .i64 f.places, .int .i64 f.wilds, .int .i64 f.guards, .int .i64 f.close, .int .i64 f.freeze, .slice A3 d.length c3] 43)).heap.size ≤ w4.heap.size from hb4.size); have HBS0 := hide (show w.heap.size ≤ (w2.alloc (.cells #[.int .i64 f.places, .int .i64 f.wilds, .int .i64 f.guards, .int .i64 f.close, .int .i64 f.freeze, .slice A3 d.length c3] 43)).heap.size by have := HB2.out.size; simp; omega); clear hl4 hb4) | (go_at_call 17; obtain ⟨⟨nL, hnL, hlat⟩, hokL, hbdL⟩ := HL4.out; refine (cut_any _ L B nL (E.atL f h d) mv cv w4 hlat hokL (by have := HDL.out; omega) (by have h1 := hbdL.main; have := HDL.out; omega)).mono ?_; rintro e w5 ⟨rfl, hb5⟩; have HB5 := hide (zbT HB4.out hb5 HB4.out.size); have HNV := hide (show cutV f l h = E.cutS (E.atL f h d) by unfold cutV; rw [HDF.out]); rw [← HNV.out, hnv]; unfold NeedsVal; clear hb5))
      refine bodyPost_ret (v := .tuple #[.int .i64 z, .int .i64 0]) (by simp [results, Tryz.results6, go_sem]) rfl ?_
      exact ⟨by unfold CutPost; rw [if_pos HC.out, hnv], HB5.out⟩
  · obtain ⟨en, hen⟩ : ∃ en, E.errE f l h 0 = en := ⟨_, rfl⟩
    have HC := hide h0
    have HC2 := hide hen
    have HE := HC2
    have HN0 := hide (show en ≠ 0 by rw [← hen]; exact h0)
    have hb : (en != 0) = true := by rw [← hen]; simpa using h0
    clear h0 hen
    go_enter Tryz.func6, Tryz.ntmps6
    go_wp2_with ((go_at_call 15; refine (openFor_any f A n c l h 0 _ HN.out ((HR.out.below (by (repeat' first | exact zbR _ _ | assumption | refine zbD ?_ | refine zbA ?_ ?_ _ | refine zbS ?_ ?_ _ | refine zbT ?_ (by assumption) ?_ | (simp; done) | (simp; omega) | omega))).mono (by first | (simp; done) | (simp; omega))) HID.out HM.out).mono ?_; rintro e w2 hd2; have hb2 := hd2.2; have HB2 := hide (zbT (show Below w.heap.size w (w.alloc (.cells #[.int .i64 f.places, .int .i64 f.wilds, .int .i64 f.guards, .int .i64 f.close, .int .i64 f.freeze] 23)) by (repeat' first | exact zbR _ _ | assumption | refine zbD ?_ | refine zbA ?_ ?_ _ | refine zbS ?_ ?_ _ | refine zbT ?_ (by assumption) ?_ | (simp; done) | (simp; omega) | omega)) hb2 (by first | (simp; done) | (simp; omega)));  obtain ⟨(⟨_, rfl⟩ | ⟨h0, _⟩), _⟩ := hd2; rotate_left; (exact absurd h0 HC.out); rw [HC2.out]; unfold noBook; clear hb2))
    refine bodyPost_ret (v := .tuple #[.int .i64 0, .int .i64 en]) (by simp [results, Tryz.results6, go_sem]) rfl ?_
    exact ⟨by unfold CutPost; rw [if_neg HC.out, HE.out], HB2.out.trans (zbA (zbR w.heap.size w2) HB2.out.size _)⟩



end Go.Proofs.YtobjahlmjcnfoaaGreat

namespace Go.Proofs.YtobjahlmjcnfoaaGreat
open Go.RowKit Go.Sort
attribute [local go_sem ↓] Go.wp_at_zero Go.wp_at_succ

namespace E
theorem diffs_le {l d : List Nt} (h : diffs l = some d) : d.length ≤ l.length := by
  have h0 := (diffs_spec h).1
  unfold diffs at h
  rw [if_neg (by omega)] at h
  cases hd : diff [] l with
  | none => rw [hd] at h; cases h
  | some d0 =>
    rw [hd] at h
    have e : d0.mergeSort leN = d := Option.some.inj h
    have h1 := diff_len l [] d0 hd
    rw [← e, List.length_mergeSort]
    simp at h1
    omega
theorem known_at (f : Fd) (h : Int) (d : List Nt) : (atL f h d).known.length ≤ d.length := by
  have : ∀ (r : List Nt) (s : St), (r.foldl St.take s).known.length ≤ s.known.length + r.length := by
    intro r
    induction r with
    | nil => intro s; simp
    | cons x r ih =>
      intro s
      have h1 := ih (s.take x)
      have h2 : (s.take x).known.length ≤ s.known.length + 1 := known_said s x
      rw [List.foldl_cons, List.length_cons]; omega
  have h1 := this (d.filter fun x => decide (x.hour ≤ h)) (St.new f)
  have h2 := List.length_filter_le (fun x : Nt => decide (x.hour ≤ h)) d
  have h4 : (St.new f).known.length = 0 := rfl
  have h5 : (atL f h d).known.length ≤ (St.new f).known.length + (d.filter fun x => decide (x.hour ≤ h)).length := h1
  omega
theorem queue_len {f : Fd} {l d : List Nt} (hd : diffs l = some d) (hv : validField f = true) (h : Int) : (queue h (atL f h d)).length ≤ d.length := by
  obtain ⟨_, ht, _⟩ := diffs_spec hd
  have hp : ∀ x ∈ d, 0 ≤ x.player ∧ x.player ≤ 999 := fun x hx => valid_player (ht.valid x hx)
  obtain ⟨hok, hT⟩ := atL_ok f h hp
  have hplc : Plc (atL f h d) := plc_fold _ _ (new_ok f) (Int.le_refl _) (plc_new hv) (fun x hx => hp x (List.mem_filter.1 hx).1)
  have hnd : (queue h (atL f h d)).Nodup := (tr_at hd hv h).1.nd
  have hsub : ∀ k ∈ queue h (atL f h d), k ∈ (atL f h d).known := by
    intro k hk
    unfold queue at hk
    split at hk
    · rcases List.mem_append.1 hk with h1 | h1
      · exact hok.main k h1
      · exact (order_mem.1 (List.mem_filter.1 h1).1).1
    · exact (order_mem.1 hk).1
  exact Nat.le_trans (List.Nodup.length_le_of_subset hnd hsub) (known_at f h d)
def LvE (f : Fd) (h : Int) (s0 : St) (X0 : List Int) (n : Nat) (r : Rs) : Prop := ∃ (s : St) (X : List Int), RT f h s0 X0 (r, s, X) ∧ X.length + n ≤ 20 ∧ RBd (60 + n) r ∧ Bd (60 + n) s
end E
theorem levE (f : E.Fd) (h : Int) (s0 : E.St) (X0 : List Int) : Lev f h (E.LvE f h s0 X0) where
  n := fun n r ⟨s, X, T, hn, hr, hs⟩ => by omega
  len := fun n r ⟨s, X, T, hn, hr, hs⟩ => by
    have h1 := hs.main
    have h2 := hr.people
    have h3 : r.ins = s.main := T.side.ins
    rw [h3]
    omega
  ok := fun n r k ⟨s, X, T, hn, hr, hs⟩ hk => by
    have h3 : r.ins = s.main := T.side.ins
    rw [h3] at hk
    have hkr := T.rx.tr.ok.range k (T.rx.tr.ok.main k hk)
    have hb1 := E.rtake_bd (f := f) hr (E.quitN h k) hkr.1
    have hT := E.said_side T.side T.plc.cards (E.quitN h k)
    have a1 := hr.people
    have a2 := hr.wilds
    have a3 := hr.back
    have a4 := hb1.people
    have a5 := hb1.back
    have a6 := hs.main
    have a7 : (E.rtake f r (E.quitN h k)).ins = s.main := by rw [E.rtake_ins, h3]
    exact ⟨by omega, by omega, hr.back0, by omega, hT.nd, hb1.num, by omega, by rw [a7]; omega, hb1.back0, by omega⟩
  at_ := fun n r k ⟨s, X, T, hn, hr, hs⟩ hk => by
    have h3 : r.ins = s.main := T.side.ins
    rw [h3] at hk
    obtain ⟨_, hm, hpm, hpp⟩ := E.pat_side T.side (T.rx.tr.ment k hk)
    obtain ⟨hlt, p, hp, hpk⟩ := E.idxR_lt hm
    have e : r.pat k = p := by unfold E.Rs.pat; rw [List.getD_eq_getElem?_getD, hp]; rfl
    refine ⟨by rw [e]; exact hp, hpp, ?_⟩
    unfold atV
    rw [if_pos (List.any_eq_true.2 ⟨p, List.mem_of_getElem? hp, by simp [hpk]⟩)]
  on := fun n r k ⟨s, X, T, hn, hr, hs⟩ hk => by
    have h3 : r.ins = s.main := T.side.ins
    rw [h3] at hk
    have hkr := T.rx.tr.ok.range k (T.rx.tr.ok.main k hk)
    have hX : k ∈ X := (E.sel_sub _ _ _).subset ((T.rx.tr.sel k).1 hk)
    have hpos : 0 < X.length := List.length_pos_of_mem hX
    refine ⟨s.take (E.quitN h k), X.erase k, T.step hk, ?_, E.rone_bd hr (E.quitN h k) hkr.1, E.take_bd hs (E.quitN h k)⟩
    rw [List.length_erase_of_mem hX]
    omega
theorem lvE_start {f : E.Fd} {l d : List E.Nt} (hd : E.diffs l = some d) (hv : E.validField f = true) (h : Int) (hl : l.length ≤ 20) : E.LvE f h (E.atL f h d) (E.queue h (E.atL f h d)) 0 (E.rafter f d h) := by
  obtain ⟨t, _, _⟩ := E.tr_at hd hv h
  obtain ⟨_, ht, _⟩ := E.diffs_spec hd
  obtain ⟨hs, hr⟩ := E.after_side hd hv h
  have hdl := E.diffs_le hd
  have hq := E.queue_len hd hv h
  have hkn := E.known_at f h d
  have hp : ∀ x ∈ d, 0 ≤ x.player ∧ x.player ≤ 999 := fun x hx => E.valid_player (ht.valid x hx)
  have hplc : E.Plc (E.atL f h d) := E.plc_fold _ _ (E.new_ok f) (Int.le_refl _) (E.plc_new hv) (fun x hx => hp x (List.mem_filter.1 hx).1)
  have hf := E.valid_places hv
  have hl2 := List.length_filter_le (fun x : E.Nt => decide (x.hour ≤ h)) d
  have hb := E.rfold_bd (f := f) (d.filter fun x => decide (x.hour ≤ h)) E.Rs.new 0 ⟨by simp [E.Rs.new], by simp [E.Rs.new], Int.le_refl _, Int.le_refl _, fun p hp => by cases hp⟩ (fun y hy => (hp y (List.mem_filter.1 hy).1).1)
  have hb2 := E.fold_bd (d.filter fun x => decide (x.hour ≤ h)) (E.St.new f) 0 ⟨by show f.places ≤ _; omega, by simp [E.St.new], by simp [E.St.new], Int.le_refl _, by show 0 ≤ f.places; omega, Int.le_refl _⟩
  refine ⟨E.atL f h d, E.queue h (E.atL f h d), ⟨hs, ⟨t, .start, rfl, rfl, fun _ => rfl⟩, hplc, hr, fun c => ?_, ?_⟩, by omega, ?_, ?_⟩
  · refine E.rfold_back _ E.Rs.new (fun x hx => ?_) rfl
    have := of_decide_eq_true (List.mem_filter.1 hx).2
    omega
  · show (E.atL f h d).known.length + (E.queue h (E.atL f h d)).length ≤ 199
    omega
  · have a1 := hb.people
    have a2 := hb.wilds
    have a3 := hb.back
    exact ⟨by show ((d.filter fun x => decide (x.hour ≤ h)).foldl (E.rone f) E.Rs.new).people.length ≤ _; omega, by show ((d.filter fun x => decide (x.hour ≤ h)).foldl (E.rone f) E.Rs.new).wilds.length ≤ _; omega, hb.back0, by show ((d.filter fun x => decide (x.hour ≤ h)).foldl (E.rone f) E.Rs.new).back ≤ _; omega, hb.num⟩
  · have a1 := hb2.places
    have a2 := hb2.main
    have a3 := hb2.cards
    have a4 := hb2.turns
    exact ⟨by show ((d.filter fun x => decide (x.hour ≤ h)).foldl E.St.take (E.St.new f)).f.places ≤ _; omega, by show ((d.filter fun x => decide (x.hour ≤ h)).foldl E.St.take (E.St.new f)).main.length ≤ _; omega, by show ((d.filter fun x => decide (x.hour ≤ h)).foldl E.St.take (E.St.new f)).cards.length ≤ _; omega, by show ((d.filter fun x => decide (x.hour ≤ h)).foldl E.St.take (E.St.new f)).turns ≤ _; omega, hb2.places0, hb2.turns0⟩

theorem OptV_form (e0 : Int) (o : Option Int) : ∃ a e, OptV e0 o = .tuple #[.int .i64 a, .int .i64 e] := by
  unfold OptV
  split
  · cases o
    · exact ⟨_, _, rfl⟩
    · exact ⟨_, _, rfl⟩
  · exact ⟨_, _, rfl⟩
theorem prog_cut (f : E.Fd) (A : Option Addr) (n c : Nat) (l : List E.Nt) (h : Int) (w : World) (hn : l.length = n) (hr : RdN w w.heap.size A l) (hid : ∀ x ∈ l, (Lit.int .i64 x.id).wf = true) (hm : n ≤ 1000000) :
    Calls Tryz.prog 6 #[.agg #[.int .i64 f.places, .int .i64 f.wilds, .int .i64 f.guards, .int .i64 f.close, .int .i64 f.freeze], .slice A n c, .int .i64 h] w fun e w' => e = .returned (OptV (E.errE f l h 0) (cutV f l h)) ∧ Below w.heap.size w w' := Cut_any f A n c l h w hn hr hid hm
theorem ref_cut (f : E.Fd) (A : Option Addr) (n c : Nat) (l : List E.Nt) (h : Int) (w : World) (hn : l.length = n) (hr : RdN w w.heap.size A l) (hm : n ≤ 1000000) :
    Calls Tryz.prog 7 #[.agg #[.int .i64 f.places, .int .i64 f.wilds, .int .i64 f.guards, .int .i64 f.close, .int .i64 f.freeze], .slice A n c, .int .i64 h] w fun e w' => e = .returned (OptV (E.errE f l h 0) (cutV f l h)) ∧ Below w.heap.size w w' := by
  by_cases h0 : E.errE f l h 0 = 0
  · obtain ⟨hc, hvf, _⟩ := E.errE_ok h0
    obtain ⟨d, hd⟩ := E.check_diffs hc
    obtain ⟨b1, b2, _, _⟩ := rafter_bd hd hvf h
    have := Cut_ref f A n c l h (E.rafter f d h) w hn hr hm (fun _ => AfterP_of hd hvf h) (fun _ => ⟨b1, b2⟩)
    rw [E.cut_at hd hvf h] at this
    unfold cutV
    rw [hd]
    exact this
  · refine (Cut_ref f A n c l h E.Rs.new w hn hr hm (fun q => absurd q h0) (fun q => absurd q h0)).mono ?_
    rintro e w' ⟨rfl, hb⟩
    refine ⟨?_, hb⟩
    unfold OptV
    rw [if_neg h0, if_neg h0]
theorem prog_needs (f : E.Fd) (A : Option Addr) (n c : Nat) (l : List E.Nt) (h p : Int) (w : World) (hn : l.length = n) (hr : RdN w w.heap.size A l) (hid : ∀ x ∈ l, (Lit.int .i64 x.id).wf = true) (hm : n ≤ 1000000) :
    Calls Tryz.prog 8 #[.agg #[.int .i64 f.places, .int .i64 f.wilds, .int .i64 f.guards, .int .i64 f.close, .int .i64 f.freeze], .slice A n c, .int .i64 h, .int .i64 p] w fun e w' => e = .returned (OptV (E.errE f l h p) (needsV f l h p)) ∧ Below w.heap.size w w' := Needs_any f A n c l h p w hn hr hid hm
theorem ref_needs (f : E.Fd) (A : Option Addr) (n c : Nat) (l : List E.Nt) (h p : Int) (w : World) (hn : l.length = n) (hr : RdN w w.heap.size A l) (hm : n ≤ 100) (hfar : n ≤ 20 ∨ 60 < n) :
    Calls Tryz.prog 9 #[.agg #[.int .i64 f.places, .int .i64 f.wilds, .int .i64 f.guards, .int .i64 f.close, .int .i64 f.freeze], .slice A n c, .int .i64 h, .int .i64 p] w fun e w' => e = .returned (OptV (E.errE f l h p) (needsV f l h p)) ∧ Below w.heap.size w w' := by
  by_cases h0 : E.errE f l h p = 0
  · obtain ⟨hc, hvf, _⟩ := E.errE_ok h0
    obtain ⟨d, hd⟩ := E.check_diffs hc
    have hl20 : l.length ≤ 20 := by have := (E.diffs_spec hd).1; omega
    have hb := rafter_bd hd hvf h
    have hp := E.valid_places hvf
    refine Needs_ref f A n c l h p (E.rafter f d h) (E.LvE f h (E.atL f h d) (E.queue h (E.atL f h d))) (needsV f l h p) w hn hr (by omega) (fun _ => AfterP_of hd hvf h) (fun _ => hb) (fun _ => by omega) (fun _ => ⟨levE _ _ _ _, lvE_start hd hvf h hl20⟩) (fun _ => ?_)
    rw [where_side hd hvf h p]
    unfold needsV
    rw [hd]
    exact E.needs_doc hd hvf h p (fuel := 61) (by omega)
  · refine Needs_ref f A n c l h p E.Rs.new (fun _ _ => True) (needsV f l h p) w hn hr (by omega) (fun q => absurd q h0) (fun q => absurd q h0) (fun q => absurd q h0) (fun q => absurd q h0) (fun q => absurd q h0)
theorem prog_when (f : E.Fd) (A : Option Addr) (n c : Nat) (l : List E.Nt) (p : Int) (w : World) (hn : l.length = n) (hr : RdN w w.heap.size A l) (hid : ∀ x ∈ l, (Lit.int .i64 x.id).wf = true) (hm : n ≤ 1000000) :
    Calls Tryz.prog 10 #[.agg #[.int .i64 f.places, .int .i64 f.wilds, .int .i64 f.guards, .int .i64 f.close, .int .i64 f.freeze], .slice A n c, .int .i64 p] w fun e w' => e = .returned (OptV (E.errE f l 0 p) (whenV f l p)) ∧ Below w.heap.size w w' := When_any f A n c l p w hn hr hid hm
theorem ref_when (f : E.Fd) (A : Option Addr) (n c : Nat) (l : List E.Nt) (p : Int) (w : World) (hn : l.length = n) (hr : RdN w w.heap.size A l) (hm : n ≤ 1000000) :
    Calls Tryz.prog 11 #[.agg #[.int .i64 f.places, .int .i64 f.wilds, .int .i64 f.guards, .int .i64 f.close, .int .i64 f.freeze], .slice A n c, .int .i64 p] w fun e w' => e = .returned (OptV (E.errE f l 0 p) (whenV f l p)) ∧ Below w.heap.size w w' := by
  by_cases h0 : E.errE f l 0 p = 0
  · obtain ⟨hc, hvf, _⟩ := E.errE_ok h0
    obtain ⟨d, hd⟩ := E.check_diffs hc
    have := When_ref f A n c l d p w hn hr hm (fun _ => hd)
    rw [← E.when_same f p (E.diffs_spec hd).2.1] at this
    unfold whenV
    rw [hd]
    exact this
  · refine (When_ref f A n c l [] p w hn hr hm (fun q => absurd q h0)).mono ?_
    rintro e w' ⟨rfl, hb⟩
    refine ⟨?_, hb⟩
    unfold OptV
    rw [if_neg h0, if_neg h0]
end Go.Proofs.YtobjahlmjcnfoaaGreat

namespace Go.Proofs.YtobjahlmjcnfoaaGreat
open Go.RowKit Go.Sort
attribute [local go_sem ↓] Go.wp_at_zero Go.wp_at_succ

set_option maxHeartbeats 6400000 in
set_option maxRecDepth 100000 in
theorem asksLaw_any (f : E.Fd) (A : Option Addr) (n c : Nat) (l : List E.Nt) (h p : Int) (w : World) (hn : l.length = n) (hr : RdN w w.heap.size A l) (hid : ∀ x ∈ l, (Lit.int .i64 x.id).wf = true) (hm : n ≤ 1000000) (hcap : A = none → c = 0) :
    Calls Tryz.prog 3 #[.agg #[.int .i64 f.places, .int .i64 f.wilds, .int .i64 f.guards, .int .i64 f.close, .int .i64 f.freeze], .slice A n c, .agg #[.int .i64 h, .int .i64 p]] w fun e w' => e = .returned (.bool true) ∧ Below w.heap.size w w' := by
  have HN := hide hn
  have HR := hide hr
  have HID := hide hid
  have HM := hide hm
  have HCAP := hide hcap
  clear hn hr hid hcap
  have HFA := fun W => hide (Far_any A n c W hm)
  obtain ⟨fb, hfb⟩ : ∃ fb, E.farB n = fb := ⟨_, rfl⟩
  have HFB := hide hfb
  rw [hfb] at HFA
  clear hfb hm
  cases fb
  · have h1 := HFB.out
    unfold E.farB at h1
    simp only [Bool.or_eq_false_iff, Bool.and_eq_false_iff, decide_eq_false_iff_not] at h1
    have hn100 : n ≤ 100 := by omega
    have HFAR := hide (show n ≤ 20 ∨ 60 < n by omega)
    clear h1
    obtain ⟨ca, ce, hc⟩ := OptV_form (E.errE f l h 0) (cutV f l h)
    have HC := hide hc
    obtain ⟨na, ne, hnv⟩ := OptV_form (E.errE f l h p) (needsV f l h p)
    have HNV := hide hnv
    obtain ⟨wa, we, hwv⟩ := OptV_form (E.errE f l 0 p) (whenV f l p)
    have HWV := hide hwv
    clear hc hnv hwv
    go_enter Tryz.func3, Tryz.ntmps3
    obtain ⟨w0, hw0⟩ : ∃ w0, (w.alloc (.cells #[.int .i64 f.places, .int .i64 f.wilds, .int .i64 f.guards, .int .i64 f.close, .int .i64 f.freeze] 23)).alloc (.cells #[.int .i64 h, .int .i64 p] 26) = w0 := ⟨_, rfl⟩
    have HB0 := hide (show Below w.heap.size w w0 by rw [← hw0]; (repeat' first | exact zbR _ _ | assumption | refine zbD ?_ | refine zbA ?_ ?_ _ | refine zbS ?_ ?_ _ | refine zbT ?_ (by assumption) ?_ | (simp; done) | (simp; omega) | omega))
    have HS0 := hide (show w0.heap.size = w.heap.size + 1 + 1 by rw [← hw0]; simp)
    have HF0 := hide (show w0.heap[w.heap.size]? = some (.cells #[.int .i64 f.places, .int .i64 f.wilds, .int .i64 f.guards, .int .i64 f.close, .int .i64 f.freeze] 23 (0, 0)) by rw [← hw0]; exact (Below.heap_alloc _ _ _ (by first | (simp; done) | (simp; omega) | omega)).trans (World.alloc_heap_new _ _))
    have HA0 := hide (show w0.heap[w.heap.size + 1]? = some (.cells #[.int .i64 h, .int .i64 p] 26 (0, 0)) by rw [← hw0]; exact (congrArg _ (by simp)).trans (World.alloc_heap_new _ _))
    have HR0 := hide ((HR.out.below HB0.out).mono HB0.out.size)
    have HW0 := hide hw0
    clear hw0
    go_upto_region 3 with (go_at_call 4; rw [HW0.out]; refine (HFA w0).out.mono ?_; rintro e w' ⟨rfl, rfl⟩)
    (try rw [HW0.out])
    go_upto_region 4 with (at_builtin; refine wpList_app_Ns rfl (.tmp 23) (.tmp 24) rfl w0.heap.size (.slice (some ⟨w0.heap.size, 0, none⟩) 0 0) [] 0 rfl (ownsN_empty (World.alloc_heap_new w0 _) (Nat.le_refl _)) rfl A n c l rfl HN.out ((HR0.out.below (zbA (zbR _ _) (Nat.le_refl _) _)).mono (by simp)) HCAP.out (by omega) (by omega) (by simp) n (by omega) ?_; intro A7 c7 w2 hown hgrow; have HO2 := hide (show w2.ownsRow w0.heap.size 70 5 (.slice A7 n c7) n (flatN l) from hown); have HB2 := hide ((zbA (zbR w0.heap.size w0) (Nat.le_refl _) _).trans (grown_below (B := w0.heap.size) hgrow (by simp) (fun g hg => by have h1 : w0.heap.size = g := Option.some.inj hg; omega))); clear hown hgrow)
    have HF2 := hide ((HB2.out.block _ (by have := HS0.out; omega)).trans HF0.out)
    have HA2 := hide ((HB2.out.block _ (by have := HS0.out; omega)).trans HA0.out)
    have RL2 := hide ((HR0.out.below HB2.out).mono HB2.out.size)
    have HBW2 := hide (zbT HB0.out HB2.out HB0.out.size)
    have x20 : w2.cell? ⟨w.heap.size, 0, none⟩ = some (.int .i64 f.places) := (blk_cell HF2.out 0).trans rfl
    have x21 : w2.cell? ⟨w.heap.size, 1, none⟩ = some (.int .i64 f.wilds) := (blk_cell HF2.out 1).trans rfl
    have x22 : w2.cell? ⟨w.heap.size, 2, none⟩ = some (.int .i64 f.guards) := (blk_cell HF2.out 2).trans rfl
    have x23 : w2.cell? ⟨w.heap.size, 3, none⟩ = some (.int .i64 f.close) := (blk_cell HF2.out 3).trans rfl
    have x24 : w2.cell? ⟨w.heap.size, 4, none⟩ = some (.int .i64 f.freeze) := (blk_cell HF2.out 4).trans rfl
    have y20 : w2.cell? ⟨w.heap.size + 1, 0, none⟩ = some (.int .i64 h) := (blk_cell HA2.out 0).trans rfl
    have y21 : w2.cell? ⟨w.heap.size + 1, 1, none⟩ = some (.int .i64 p) := (blk_cell HA2.out 1).trans rfl
    have l2f := blk_lt HF2.out
    have l2a := blk_lt HA2.out
    go_upto_region 5 with (go_at_call 6; with_reducible refine (prog_cut f A7 n c7 l h w2 HN.out (owns_RdN HO2.out HN.out) HID.out (by omega)).mono ?_; rintro e w3 ⟨rfl, hb⟩; rw [HC.out]; have HB3 := hide hb; clear hb)
    clear x20 x21 x22 x23 x24 y20 y21 l2f l2a
    have HF3 := hide ((HB3.out.block _ (blk_lt HF2.out)).trans HF2.out)
    have HA3 := hide ((HB3.out.block _ (blk_lt HA2.out)).trans HA2.out)
    have HO3 := hide (owns_below HO2.out HB3.out)
    have RL3 := hide ((RL2.out.below HB3.out).mono HB3.out.size)
    have HBW3 := hide (zbT HBW2.out HB3.out HBW2.out.size)
    have x30 : w3.cell? ⟨w.heap.size, 0, none⟩ = some (.int .i64 f.places) := (blk_cell HF3.out 0).trans rfl
    have x31 : w3.cell? ⟨w.heap.size, 1, none⟩ = some (.int .i64 f.wilds) := (blk_cell HF3.out 1).trans rfl
    have x32 : w3.cell? ⟨w.heap.size, 2, none⟩ = some (.int .i64 f.guards) := (blk_cell HF3.out 2).trans rfl
    have x33 : w3.cell? ⟨w.heap.size, 3, none⟩ = some (.int .i64 f.close) := (blk_cell HF3.out 3).trans rfl
    have x34 : w3.cell? ⟨w.heap.size, 4, none⟩ = some (.int .i64 f.freeze) := (blk_cell HF3.out 4).trans rfl
    have y30 : w3.cell? ⟨w.heap.size + 1, 0, none⟩ = some (.int .i64 h) := (blk_cell HA3.out 0).trans rfl
    have y31 : w3.cell? ⟨w.heap.size + 1, 1, none⟩ = some (.int .i64 p) := (blk_cell HA3.out 1).trans rfl
    have l3f := blk_lt HF3.out
    have l3a := blk_lt HA3.out
    go_upto_region 6 with (go_at_call 7; with_reducible refine (ref_cut f A n c l h w3 HN.out ((RL3.out)) (by omega)).mono ?_; rintro e w4 ⟨rfl, hb⟩; rw [HC.out]; have HB4 := hide hb; clear hb)
    clear x30 x31 x32 x33 x34 y30 y31 l3f l3a
    have HF4 := hide ((HB4.out.block _ (blk_lt HF3.out)).trans HF3.out)
    have HA4 := hide ((HB4.out.block _ (blk_lt HA3.out)).trans HA3.out)
    have HO4 := hide (owns_below HO3.out HB4.out)
    have RL4 := hide ((RL3.out.below HB4.out).mono HB4.out.size)
    have HBW4 := hide (zbT HBW3.out HB4.out HBW3.out.size)
    have x40 : w4.cell? ⟨w.heap.size, 0, none⟩ = some (.int .i64 f.places) := (blk_cell HF4.out 0).trans rfl
    have x41 : w4.cell? ⟨w.heap.size, 1, none⟩ = some (.int .i64 f.wilds) := (blk_cell HF4.out 1).trans rfl
    have x42 : w4.cell? ⟨w.heap.size, 2, none⟩ = some (.int .i64 f.guards) := (blk_cell HF4.out 2).trans rfl
    have x43 : w4.cell? ⟨w.heap.size, 3, none⟩ = some (.int .i64 f.close) := (blk_cell HF4.out 3).trans rfl
    have x44 : w4.cell? ⟨w.heap.size, 4, none⟩ = some (.int .i64 f.freeze) := (blk_cell HF4.out 4).trans rfl
    have y40 : w4.cell? ⟨w.heap.size + 1, 0, none⟩ = some (.int .i64 h) := (blk_cell HA4.out 0).trans rfl
    have y41 : w4.cell? ⟨w.heap.size + 1, 1, none⟩ = some (.int .i64 p) := (blk_cell HA4.out 1).trans rfl
    have l4f := blk_lt HF4.out
    have l4a := blk_lt HA4.out
    go_upto_region 7 with (go_at_call 8; with_reducible refine (prog_needs f A7 n c7 l h p w4 HN.out (owns_RdN HO4.out HN.out) HID.out (by omega)).mono ?_; rintro e w5 ⟨rfl, hb⟩; rw [HNV.out]; have HB5 := hide hb; clear hb)
    clear x40 x41 x42 x43 x44 y40 y41 l4f l4a
    have HF5 := hide ((HB5.out.block _ (blk_lt HF4.out)).trans HF4.out)
    have HA5 := hide ((HB5.out.block _ (blk_lt HA4.out)).trans HA4.out)
    have HO5 := hide (owns_below HO4.out HB5.out)
    have RL5 := hide ((RL4.out.below HB5.out).mono HB5.out.size)
    have HBW5 := hide (zbT HBW4.out HB5.out HBW4.out.size)
    have x50 : w5.cell? ⟨w.heap.size, 0, none⟩ = some (.int .i64 f.places) := (blk_cell HF5.out 0).trans rfl
    have x51 : w5.cell? ⟨w.heap.size, 1, none⟩ = some (.int .i64 f.wilds) := (blk_cell HF5.out 1).trans rfl
    have x52 : w5.cell? ⟨w.heap.size, 2, none⟩ = some (.int .i64 f.guards) := (blk_cell HF5.out 2).trans rfl
    have x53 : w5.cell? ⟨w.heap.size, 3, none⟩ = some (.int .i64 f.close) := (blk_cell HF5.out 3).trans rfl
    have x54 : w5.cell? ⟨w.heap.size, 4, none⟩ = some (.int .i64 f.freeze) := (blk_cell HF5.out 4).trans rfl
    have y50 : w5.cell? ⟨w.heap.size + 1, 0, none⟩ = some (.int .i64 h) := (blk_cell HA5.out 0).trans rfl
    have y51 : w5.cell? ⟨w.heap.size + 1, 1, none⟩ = some (.int .i64 p) := (blk_cell HA5.out 1).trans rfl
    have l5f := blk_lt HF5.out
    have l5a := blk_lt HA5.out
    go_upto_region 8 with (go_at_call 9; with_reducible refine (ref_needs f A n c l h p w5 HN.out ((RL5.out)) hn100 HFAR.out).mono ?_; rintro e w6 ⟨rfl, hb⟩; rw [HNV.out]; have HB6 := hide hb; clear hb)
    clear x50 x51 x52 x53 x54 y50 y51 l5f l5a
    have HF6 := hide ((HB6.out.block _ (blk_lt HF5.out)).trans HF5.out)
    have HA6 := hide ((HB6.out.block _ (blk_lt HA5.out)).trans HA5.out)
    have HO6 := hide (owns_below HO5.out HB6.out)
    have RL6 := hide ((RL5.out.below HB6.out).mono HB6.out.size)
    have HBW6 := hide (zbT HBW5.out HB6.out HBW5.out.size)
    have x60 : w6.cell? ⟨w.heap.size, 0, none⟩ = some (.int .i64 f.places) := (blk_cell HF6.out 0).trans rfl
    have x61 : w6.cell? ⟨w.heap.size, 1, none⟩ = some (.int .i64 f.wilds) := (blk_cell HF6.out 1).trans rfl
    have x62 : w6.cell? ⟨w.heap.size, 2, none⟩ = some (.int .i64 f.guards) := (blk_cell HF6.out 2).trans rfl
    have x63 : w6.cell? ⟨w.heap.size, 3, none⟩ = some (.int .i64 f.close) := (blk_cell HF6.out 3).trans rfl
    have x64 : w6.cell? ⟨w.heap.size, 4, none⟩ = some (.int .i64 f.freeze) := (blk_cell HF6.out 4).trans rfl
    have y60 : w6.cell? ⟨w.heap.size + 1, 0, none⟩ = some (.int .i64 h) := (blk_cell HA6.out 0).trans rfl
    have y61 : w6.cell? ⟨w.heap.size + 1, 1, none⟩ = some (.int .i64 p) := (blk_cell HA6.out 1).trans rfl
    have l6f := blk_lt HF6.out
    have l6a := blk_lt HA6.out
    go_upto_region 9 with (go_at_call 10; with_reducible refine (prog_when f A7 n c7 l p w6 HN.out (owns_RdN HO6.out HN.out) HID.out (by omega)).mono ?_; rintro e w7 ⟨rfl, hb⟩; rw [HWV.out]; have HB7 := hide hb; clear hb)
    clear x60 x61 x62 x63 x64 y60 y61 l6f l6a
    have HF7 := hide ((HB7.out.block _ (blk_lt HF6.out)).trans HF6.out)
    have HA7 := hide ((HB7.out.block _ (blk_lt HA6.out)).trans HA6.out)
    have HO7 := hide (owns_below HO6.out HB7.out)
    have RL7 := hide ((RL6.out.below HB7.out).mono HB7.out.size)
    have HBW7 := hide (zbT HBW6.out HB7.out HBW6.out.size)
    have x70 : w7.cell? ⟨w.heap.size, 0, none⟩ = some (.int .i64 f.places) := (blk_cell HF7.out 0).trans rfl
    have x71 : w7.cell? ⟨w.heap.size, 1, none⟩ = some (.int .i64 f.wilds) := (blk_cell HF7.out 1).trans rfl
    have x72 : w7.cell? ⟨w.heap.size, 2, none⟩ = some (.int .i64 f.guards) := (blk_cell HF7.out 2).trans rfl
    have x73 : w7.cell? ⟨w.heap.size, 3, none⟩ = some (.int .i64 f.close) := (blk_cell HF7.out 3).trans rfl
    have x74 : w7.cell? ⟨w.heap.size, 4, none⟩ = some (.int .i64 f.freeze) := (blk_cell HF7.out 4).trans rfl
    have y70 : w7.cell? ⟨w.heap.size + 1, 0, none⟩ = some (.int .i64 h) := (blk_cell HA7.out 0).trans rfl
    have y71 : w7.cell? ⟨w.heap.size + 1, 1, none⟩ = some (.int .i64 p) := (blk_cell HA7.out 1).trans rfl
    have l7f := blk_lt HF7.out
    have l7a := blk_lt HA7.out
    go_upto_region 10 with (go_at_call 11; with_reducible refine (ref_when f A n c l p w7 HN.out ((RL7.out)) (by omega)).mono ?_; rintro e w8 ⟨rfl, hb⟩; rw [HWV.out]; have HB8 := hide hb; clear hb)
    clear x70 x71 x72 x73 x74 y70 y71 l7f l7a
    have HF8 := hide ((HB8.out.block _ (blk_lt HF7.out)).trans HF7.out)
    have HA8 := hide ((HB8.out.block _ (blk_lt HA7.out)).trans HA7.out)
    have HO8 := hide (owns_below HO7.out HB8.out)
    have RL8 := hide ((RL7.out.below HB8.out).mono HB8.out.size)
    have HBW8 := hide (zbT HBW7.out HB8.out HBW7.out.size)
    have m1 : (ca == ca) = true := by simp
    have m2 : (ce == ce) = true := by simp
    have m3 : (na == na) = true := by simp
    have m4 : (ne == ne) = true := by simp
    have m5 : (wa == wa) = true := by simp
    have m6 : (we == we) = true := by simp
    go_wp2_with (go_at_call 5; refine (works_any _).mono ?_; rintro e w9 ⟨rfl, hb9⟩; have HB9 := hide (zbT HBW8.out hb9 HBW8.out.size); clear hb9)
    go_ret
    exact ⟨rfl, HB9.out⟩
  · go_enter Tryz.func3, Tryz.ntmps3
    obtain ⟨w0, hw0⟩ : ∃ w0, (w.alloc (.cells #[.int .i64 f.places, .int .i64 f.wilds, .int .i64 f.guards, .int .i64 f.close, .int .i64 f.freeze] 23)).alloc (.cells #[.int .i64 h, .int .i64 p] 26) = w0 := ⟨_, rfl⟩
    have HB0 := hide (show Below w.heap.size w w0 by rw [← hw0]; (repeat' first | exact zbR _ _ | assumption | refine zbD ?_ | refine zbA ?_ ?_ _ | refine zbS ?_ ?_ _ | refine zbT ?_ (by assumption) ?_ | (simp; done) | (simp; omega) | omega))
    have HS0 := hide (show w0.heap.size = w.heap.size + 1 + 1 by rw [← hw0]; simp)
    have HF0 := hide (show w0.heap[w.heap.size]? = some (.cells #[.int .i64 f.places, .int .i64 f.wilds, .int .i64 f.guards, .int .i64 f.close, .int .i64 f.freeze] 23 (0, 0)) by rw [← hw0]; exact (Below.heap_alloc _ _ _ (by first | (simp; done) | (simp; omega) | omega)).trans (World.alloc_heap_new _ _))
    have HA0 := hide (show w0.heap[w.heap.size + 1]? = some (.cells #[.int .i64 h, .int .i64 p] 26 (0, 0)) by rw [← hw0]; exact (congrArg _ (by simp)).trans (World.alloc_heap_new _ _))
    have HR0 := hide ((HR.out.below HB0.out).mono HB0.out.size)
    have HW0 := hide hw0
    clear hw0
    go_wp2_with (first | (go_at_call 4; rw [HW0.out]; refine (HFA w0).out.mono ?_; rintro e w' ⟨rfl, rfl⟩) | (go_at_call 5; refine (works_any _).mono ?_; rintro e w9 ⟨rfl, hb9⟩; have HB9 := hide (zbT (Below.refl w0.heap.size w0) hb9 (Below.refl w0.heap.size w0).size); clear hb9))
    go_ret
    exact ⟨rfl, zbT HB0.out HB9.out HB0.out.size⟩
end Go.Proofs.YtobjahlmjcnfoaaGreat
